import PyProof.Rows.All
import Wide.All
import OpenK.AllK
import Wide.FinOn
import HandS.ForMost
import HandS.SlotsOwn
import HandS.Wide
import HandS.IsInst
import HandS.Style
import HandS.Zip
import HandS.Walk
import HandS.Exc
import HandS.TryOnly
import HandS.ExcOwn
import HandS.WordsExc
import HandS.ExcIs
import KE.OsGo
import HandS.Codes
import HandS.Text
import KE.IntTextLaws
import KE.KExcIs
import KE.DataEq
import KE.KTupSum
import HandS.Defaults
import HandS.MakeKw
import HandS.MakeKwOnly
import HandS.ClsMeth
import HandS.Strs
import KE.GoesMore
import HandS.TupAny
import HandS.TupMul
import HandS.TryMany
import HandS.ExcCtx
import PyProof.InstNe
import HandS.TupSets
import HandS.SetFor
import HandS.OwnIter
import HandS.IterVal
import KE.KOpsOwn
import HandS.Property
import HandS.TupLe
import PySem.Challenge.RW_wheelchorus_k04_strokes_moved_and_cut
import HandS.FStr
set_option Elab.async false
set_option linter.all false
set_option maxRecDepth 100000
set_option maxHeartbeats 4000000
/-! Numbers as lists of digits, their rows, and where two rows part. -/
namespace Wm
open PySem L2
def codes (ds : List Nat) : List Nat := ds.map (· + 48)
def numS (ds : List Nat) : Str := ⟨(codes ds).toArray⟩
structure Dig (ds : List Nat) : Prop where
  dig : ∀ d ∈ ds, 1 ≤ d ∧ d ≤ 9
structure Num (ds : List Nat) : Prop where
  pos : 1 ≤ ds.length
  len : ds.length ≤ 4
  dig : ∀ d ∈ ds, 1 ≤ d ∧ d ≤ 9
  sum : ds.sum ≤ 24
def blk (d : Nat) : List Int := (List.replicate d [1, 0]).flatten
def rowL : List Nat → List Int
  | [] => [0, 0]
  | d :: ds => blk d ++ ([0, 0] ++ rowL ds)
structure Diff (xs ys : List Int) (k : Nat) (a b : Int) : Prop where
  one : xs[k]? = some a
  two : ys[k]? = some b
  ne : a ≠ b
  eq : ∀ j, j < k → xs[j]? = ys[j]?
theorem Diff.symm {xs ys : List Int} {k : Nat} {a b : Int} (h : Diff xs ys k a b) : Diff ys xs k b a :=
  ⟨h.two, h.one, h.ne.symm, fun j l => (h.eq j l).symm⟩
theorem Diff.cons {xs ys : List Int} {k : Nat} {a b : Int} (z : Int) (h : Diff xs ys k a b) : Diff (z :: xs) (z :: ys) (k + 1) a b := by
  refine ⟨by simpa using h.one, by simpa using h.two, h.ne, fun j l => ?_⟩
  cases j with
  | zero => rfl
  | succ j => simpa using h.eq j (by omega)
theorem Diff.app {xs ys : List Int} {k : Nat} {a b : Int} : ∀ (p : List Int), Diff xs ys k a b → Diff (p ++ xs) (p ++ ys) (p.length + k) a b
  | [], h => by simpa using h
  | z :: p, h => by
    have ih := (Diff.app p h).cons z
    have e : (z :: p).length + k = p.length + k + 1 := by simp only [List.length_cons]; omega
    rw [e]
    exact ih
theorem Diff.uniq {xs ys : List Int} {k l : Nat} {a b c d : Int} (h : Diff xs ys k a b) (g : Diff xs ys l c d) : k = l ∧ a = c ∧ b = d := by
  have e : k = l := by
    rcases Nat.lt_trichotomy k l with x | x | x
    · exact absurd (by have q := g.eq k x; rw [h.one, h.two] at q; exact Option.some.inj q) h.ne
    · exact x
    · exact absurd (by have q := h.eq l x; rw [g.one, g.two] at q; exact Option.some.inj q) g.ne
  subst e
  exact ⟨rfl, Option.some.inj (h.one.symm.trans g.one), Option.some.inj (h.two.symm.trans g.two)⟩
theorem Diff.lt1 {xs ys : List Int} {k : Nat} {a b : Int} (h : Diff xs ys k a b) : k < xs.length := (List.getElem?_eq_some_iff.mp h.one).1
theorem Diff.lt2 {xs ys : List Int} {k : Nat} {a b : Int} (h : Diff xs ys k a b) : k < ys.length := (List.getElem?_eq_some_iff.mp h.two).1
theorem blk_add (d e : Nat) : blk (d + e) = blk d ++ blk e := by
  unfold blk
  rw [← List.replicate_append_replicate, List.flatten_append]
theorem blk_succ (e : Nat) : blk (e + 1) = [1, 0] ++ blk e := by
  rw [Nat.add_comm, blk_add]
  rfl
theorem blk_len (d : Nat) : (blk d).length = 2 * d := by
  induction d with
  | zero => rfl
  | succ d ih => rw [blk_succ, List.length_append, ih]; simp only [List.length_cons, List.length_nil]; omega
theorem row_less (d e : Nat) (ds es : List Nat) (h : d < e) : Diff (rowL (d :: ds)) (rowL (e :: es)) (2 * d) 0 1 := by
  obtain ⟨f, rfl⟩ : ∃ f, e = d + (f + 1) := ⟨e - d - 1, by omega⟩
  have h0 : Diff ([0, 0] ++ rowL ds) ([1, 0] ++ (blk f ++ ([0, 0] ++ rowL es))) 0 0 1 := ⟨rfl, rfl, by decide, fun j l => absurd l (Nat.not_lt_zero _)⟩
  have h1 := h0.app (blk d)
  rw [blk_len, Nat.add_zero] at h1
  have e1 : rowL ((d + (f + 1)) :: es) = blk d ++ ([1, 0] ++ (blk f ++ ([0, 0] ++ rowL es))) := by
    show blk (d + (f + 1)) ++ _ = _
    rw [blk_add, blk_succ, List.append_assoc, List.append_assoc]
  rw [e1]
  exact h1
theorem rows_part : ∀ (ds es : List Nat), (∀ d ∈ ds, 1 ≤ d) → (∀ e ∈ es, 1 ≤ e) →
    ds = es ∨ (∃ k, Diff (rowL ds) (rowL es) k 1 0 ∧ es < ds) ∨ (∃ k, Diff (rowL ds) (rowL es) k 0 1 ∧ ds < es)
  | [], [], _, _ => .inl rfl
  | [], e :: es, _, h => by
    obtain ⟨f, rfl⟩ : ∃ f, e = f + 1 := ⟨e - 1, by have := h e (by simp); omega⟩
    refine .inr (.inr ⟨0, ⟨rfl, ?_, by decide, fun j l => absurd l (Nat.not_lt_zero _)⟩, List.nil_lt_cons _ _⟩)
    show (blk (f + 1) ++ _)[0]? = _
    rw [blk_succ]
    rfl
  | d :: ds, [], h, _ => by
    obtain ⟨f, rfl⟩ : ∃ f, d = f + 1 := ⟨d - 1, by have := h d (by simp); omega⟩
    refine .inr (.inl ⟨0, ⟨?_, rfl, by decide, fun j l => absurd l (Nat.not_lt_zero _)⟩, List.nil_lt_cons _ _⟩)
    show (blk (f + 1) ++ _)[0]? = _
    rw [blk_succ]
    rfl
  | d :: ds, e :: es, h, g => by
    rcases Nat.lt_trichotomy d e with x | x | x
    · exact .inr (.inr ⟨_, row_less d e ds es x, List.cons_lt_cons_iff.mpr (.inl x)⟩)
    · subst x
      rcases rows_part ds es (fun y m => h y (List.mem_cons_of_mem _ m)) (fun y m => g y (List.mem_cons_of_mem _ m)) with q | ⟨k, q, l⟩ | ⟨k, q, l⟩
      · exact .inl (by rw [q])
      · exact .inr (.inl ⟨_, (q.app [0, 0]).app (blk d), List.cons_lt_cons_iff.mpr (.inr ⟨rfl, l⟩)⟩)
      · exact .inr (.inr ⟨_, (q.app [0, 0]).app (blk d), List.cons_lt_cons_iff.mpr (.inr ⟨rfl, l⟩)⟩)
    · exact .inr (.inl ⟨_, (row_less e d es ds x).symm, List.cons_lt_cons_iff.mpr (.inl x)⟩)
theorem codes_lt : ∀ (ds es : List Nat), ds < es → codes ds < codes es
  | [], [], h => absurd h (List.lt_irrefl _)
  | [], _ :: _, _ => List.nil_lt_cons _ _
  | _ :: _, [], h => absurd h (List.not_lt_nil _)
  | d :: ds, e :: es, h => by
    rcases List.cons_lt_cons_iff.mp h with x | ⟨x, y⟩
    · exact List.cons_lt_cons_iff.mpr (.inl (Nat.add_lt_add_right x 48))
    · exact List.cons_lt_cons_iff.mpr (.inr ⟨by rw [x], codes_lt ds es y⟩)
theorem codes_inj : ∀ (ds es : List Nat), codes ds = codes es → ds = es
  | [], [], _ => rfl
  | [], _ :: _, h => by simp [codes] at h
  | _ :: _, [], h => by simp [codes] at h
  | d :: ds, e :: es, h => by
    have h1 : d + 48 = e + 48 := (List.cons.inj h).1
    have h2 : codes ds = codes es := (List.cons.inj h).2
    rw [codes_inj ds es h2, show d = e by omega]
theorem numS_cps (ds : List Nat) : (numS ds).cps.toList = codes ds := rfl
theorem numS_inj {ds es : List Nat} (h : numS ds = numS es) : ds = es := codes_inj _ _ (by rw [← numS_cps, h, numS_cps])
theorem numS_len (ds : List Nat) : (numS ds).length = ds.length := by
  show (codes ds).toArray.size = _
  simp [codes]
theorem lt_asymm' {a b : List Nat} (h : a < b) : ¬ b < a := fun g => List.lt_irrefl _ (List.lt_trans h g)
theorem rowL_le : ∀ ds : List Nat, (∀ d ∈ ds, d ≤ 9) → (rowL ds).length ≤ 20 * ds.length + 2
  | [], _ => by decide
  | d :: ds, h => by
    have ih := rowL_le ds fun y m => h y (List.mem_cons_of_mem _ m)
    have hd := h d (by simp)
    show (blk d ++ ([0, 0] ++ rowL ds)).length ≤ _
    rw [List.length_append, List.length_append, blk_len]
    simp only [List.length_cons, List.length_nil]
    omega
end Wm

/-! Digits as signs, texts of digits cut and joined; what a heap keeps. -/
namespace Wm
open PySem L2
theorem dig_cases {d : Nat} (h : 1 ≤ d ∧ d ≤ 9) : d = 1 ∨ d = 2 ∨ d = 3 ∨ d = 4 ∨ d = 5 ∨ d = 6 ∨ d = 7 ∨ d = 8 ∨ d = 9 := by omega
theorem dig_int {d : Nat} (h : 1 ≤ d ∧ d ≤ 9) : PySem.intText? ⟨#[d + 48]⟩ = some (d : Int) := by
  rcases dig_cases h with e | e | e | e | e | e | e | e | e <;> subst e <;> decide +kernel
theorem dig_in {d : Nat} (h : 1 ≤ d ∧ d ≤ 9) : (d + 48) ∈ ("123456789" : Str).cps.toList := by
  rcases dig_cases h with e | e | e | e | e | e | e | e | e <;> subst e <;> decide +kernel
theorem dig_str {d : Nat} (h : 1 ≤ d ∧ d ≤ 9) : ((toString (d : Int) : String) : Str) = numS [d] := by
  rcases dig_cases h with e | e | e | e | e | e | e | e | e <;> subst e <;> decide +kernel
theorem numS_app (ds es : List Nat) : numS ds ++ numS es = numS (ds ++ es) := by
  refine PyProof.Rows.ext_toList ?_
  show ((numS ds).cps ++ (numS es).cps).toList = _
  rw [Array.toList_append, numS_cps, numS_cps, numS_cps]
  simp [codes]
theorem numS_nil : numS [] = ("" : Str) := by decide +kernel
theorem numS_take (ds : List Nat) (k : Nat) : cutS (numS ds) none (some (k : Int)) = numS (ds.take k) := by
  refine PyProof.Rows.ext_toList ?_
  show ((codes ds).drop 0).take (HT.sIx (numS ds).length (numS ds).length (some (k : Int)) - 0) = codes (ds.take k)
  rw [numS_len, HT.sIx_nat, List.drop_zero, Nat.sub_zero]
  simp only [codes, ← List.map_take]
  congr 1
  rw [List.take_eq_take_iff]
  omega
theorem numS_last (ds : List Nat) : cutS (numS ds) none (some (-1)) = numS ds.dropLast := by
  refine PyProof.Rows.ext_toList ?_
  show ((codes ds).drop 0).take (HT.sIx (numS ds).length (numS ds).length (some (-1)) - 0) = codes ds.dropLast
  rw [numS_len, List.drop_zero, Nat.sub_zero, List.dropLast_eq_take]
  simp only [codes, ← List.map_take]
  have e : HT.sIx ds.length ds.length (some (-1)) = ds.length - 1 := by
    unfold HT.sIx
    simp only [show (-1 : Int) < 0 by decide, if_true]
    omega
  rw [e]
theorem numS_at (ds : List Nat) (i : Nat) (hi : i < ds.length) : (numS ds).cps[i]? = some (ds[i] + 48) := by
  show ((codes ds).toArray)[i]? = _
  simp [codes, hi]
theorem numS_size (ds : List Nat) : (numS ds).cps.size = ds.length := numS_len ds

/-! heaps -/
theorem same_new {H : Hp} {p : Addr} {o : HO} (n : H p = none) : Same H (upd H p o) := fun b u e => by
  rw [upd_ne (ne_of_none e n)]
  exact e
theorem at_old {H : Hp} {p q : Addr} {o u : HO} (h : H p = some o) (n : H q = none) : upd H q u p = some o := by
  rw [upd_ne (ne_of_none h n)]
  exact h
theorem sameT {K : PySem.W.Frag} {H H' : Hp} {a : Addr} {xs : List V} (e : Same H H') (h : SqT K H a xs) : SqT K H' a xs := by
  rcases h with (h | ⟨o, h⟩) | h
  · exact .inl (.inl (e _ _ h))
  · exact .inl (.inr ⟨o, e _ _ h⟩)
  · exact .inr h
/-- what stood stands, but for what H did not know and the object at p, which is new since -/
theorem same_mut {H H' : Hp} {p : Addr} {o : HO} (s : Same H H') (n : H p = none) : Same H (upd H' p o) := fun b u e => by
  rw [upd_ne (ne_of_none e n)]
  exact s b u e
/-- the bag's list at b, its cells at c -/
def Cel (H : Hp) (b c : Addr) : Prop := ∃ x k m z : Int, H b = some (.lst [.int x, .ref c, .int k, .int m, .int z])
structure But (b : Addr) (H H' : Hp) : Prop where
  keep : ∀ p o, p ≠ b → H p = some o → H' p = some o
  cel : ∀ c, Cel H b c → Cel H' b c
instance {b : Addr} {H H' : Hp} : CoeFun (But b H H') (fun _ => ∀ p o, p ≠ b → H p = some o → H' p = some o) := ⟨But.keep⟩
theorem But.refl (b : Addr) (H : Hp) : But b H H := ⟨fun _ _ _ h => h, fun _ h => h⟩
theorem But.trans {b : Addr} {H H1 H2 : Hp} (x : But b H H1) (y : But b H1 H2) : But b H H2 := ⟨fun p o n h => y.keep p o n (x.keep p o n h), fun c h => y.cel c (x.cel c h)⟩
theorem But.of {b : Addr} {H H' : Hp} (s : Same H H') : But b H H' := ⟨fun p o _ h => s p o h, fun _ ⟨x, k, m, z, h⟩ => ⟨x, k, m, z, s _ _ h⟩⟩
theorem But.set {b c : Addr} {H : Hp} {x k m z x' k' m' z' : Int} (hb : H b = some (.lst [.int x, .ref c, .int k, .int m, .int z])) : But b H (upd H b (.lst [.int x', .ref c, .int k', .int m', .int z'])) :=
  ⟨fun p u n h => by
    rw [upd_ne n]
    exact h, fun c2 ⟨a1, a2, a3, a4, h⟩ => by
    rw [hb] at h
    have h := Option.some.inj h
    injection h with h
    injection h with h1 h
    injection h with h2 h
    injection h2 with h2
    subst h2
    exact ⟨x', k', m', z', upd_same⟩⟩
/-- the bag of draws: its cells' list and its four numbers -/
def Bag (H : Hp) (b : Addr) (n : Nat) : Prop :=
  ∃ (c : Addr) (x k m z : Int) (ns : List Int), H b = some (.lst [.int x, .ref c, .int k, .int m, .int z]) ∧ H c = some (.lst (ns.map V.int)) ∧ 0 ≤ k ∧ 0 ≤ m ∧ m ≤ (n : Int)
theorem bag_ne {H : Hp} {b c : Addr} {x k m z : Int} {ns : List Int} (hb : H b = some (.lst [.int x, .ref c, .int k, .int m, .int z])) (hc : H c = some (.lst (ns.map V.int))) : c ≠ b := by
  intro e
  subst e
  rw [hb] at hc
  have q := Option.some.inj hc
  have q2 : ([.int x, .ref c, .int k, .int m, .int z] : List V) = ns.map V.int := by injection q
  cases ns with
  | nil => simp at q2
  | cons u r => cases r with
    | nil => simp at q2
    | cons v r => simp at q2
theorem Bag.mono {H : Hp} {b : Addr} {n m : Nat} (h : Bag H b n) (l : n ≤ m) : Bag H b m := by
  obtain ⟨c, x, k, q, z, ns, h1, h2, h3, h4, h5⟩ := h
  exact ⟨c, x, k, q, z, ns, h1, h2, h3, h4, by omega⟩
theorem Bag.keep {H H' : Hp} {b : Addr} {n : Nat} (h : Bag H b n) (s : Same H H') : Bag H' b n := by
  obtain ⟨c, x, k, q, z, ns, h1, h2, h3, h4, h5⟩ := h
  exact ⟨c, x, k, q, z, ns, s _ _ h1, s _ _ h2, h3, h4, h5⟩
theorem Cel.uniq {H : Hp} {b c d : Addr} (h : Cel H b c) (g : Cel H b d) : c = d := by
  obtain ⟨x, k, m, z, h⟩ := h
  obtain ⟨x', k', m', z', g⟩ := g
  rw [h] at g
  have g := Option.some.inj g
  injection g with g
  injection g with g1 g
  injection g with g2 g
  injection g2
theorem But.put {b D : Addr} {H H' : Hp} {o : HO} (e : But b H H') (n : H D = none) : But b H (upd H' D o) := by
  refine ⟨fun p u pb h => ?_, fun c h => ?_⟩
  · rw [upd_ne (ne_of_none h n)]
    exact e.keep p u pb h
  · have h0 := h
    obtain ⟨x, k, m, z, h⟩ := h
    obtain ⟨x', k', m', z', g⟩ := e.cel c h0
    exact ⟨x', k', m', z', by rw [upd_ne (ne_of_none h n)]; exact g⟩
theorem Bag.put {b D : Addr} {H H' : Hp} {o : HO} {n m : Nat} (bag : Bag H b n) (f : H D = none) (e : But b H H') (bag2 : Bag H' b m) : Bag (upd H' D o) b m := by
  obtain ⟨c, x, k, q, z, ns, h1, h2, h3, h4, h5⟩ := bag
  obtain ⟨c', x', k', q', z', ns', g1, g2, g3, g4, g5⟩ := bag2
  have ec : c = c' := Cel.uniq (e.cel c ⟨x, k, q, z, h1⟩) ⟨x', k', q', z', g1⟩
  subst ec
  exact ⟨c, x', k', q', z', ns', by rw [upd_ne (ne_of_none h1 f)]; exact g1, by rw [upd_ne (ne_of_none h2 f)]; exact g2, g3, g4, g5⟩
end Wm
namespace Wm
open PySem L2
theorem yesT {σ : L2.St} {H : Hp} {A B : Hp → Prop} (h : A H) : tYes σ H (fun b H3 => if b = true then A H3 else B H3) := by
  show (if true = true then A H else B H)
  rw [if_pos rfl]
  exact h
end Wm

/-! row[::2] of a list or a tuple; a loop over a list or a tuple. -/
namespace Hf
open PySem PySem.Spec PyProof.Rows L2
def ev2 {α : Type} : List α → List α
  | [] => []
  | [x] => [x]
  | x :: _ :: r => x :: ev2 r
theorem ev2_le {α : Type} : ∀ xs : List α, (ev2 xs).length ≤ xs.length
  | [] => Nat.le_refl _
  | [_] => Nat.le_refl _
  | x :: y :: r => by
    have ih := ev2_le r
    show (ev2 r).length + 1 ≤ r.length + 2
    omega
theorem ev2_mem {α : Type} {z : α} : ∀ {xs : List α}, z ∈ ev2 xs → z ∈ xs
  | [], h => h
  | [_], h => h
  | x :: y :: r, h => by
    rcases List.mem_cons.mp h with e | e
    · rw [e]; simp
    · exact List.mem_cons_of_mem _ (List.mem_cons_of_mem _ (ev2_mem e))
theorem ev2_map {α β : Type} (f : α → β) : ∀ xs : List α, ev2 (xs.map f) = (ev2 xs).map f
  | [] => rfl
  | [_] => rfl
  | x :: y :: r => by
    show f x :: ev2 (r.map f) = f x :: (ev2 r).map f
    rw [ev2_map f r]
theorem ev2_pick {α : Type} : ∀ xs : List α, (List.range ((xs.length + 1) / 2)).filterMap (fun k => xs[2 * k]?) = ev2 xs
  | [] => by simp [ev2]
  | [x] => by
    rw [show ([x].length + 1) / 2 = 1 by simp, show List.range 1 = [0] by decide]
    simp [ev2]
  | x :: y :: r => by
    have ih := ev2_pick r
    have e : ((x :: y :: r).length + 1) / 2 = (r.length + 1) / 2 + 1 := by
      show (r.length + 1 + 1 + 1) / 2 = _
      omega
    rw [e, List.range_succ_eq_map, List.filterMap_cons]
    show x :: _ = x :: ev2 r
    rw [List.filterMap_map, ← ih]
    rfl
theorem ev2_vals : ∀ {xs : List V} {us : List Value}, Vals xs us → Vals (ev2 xs) (ev2 us)
  | [], _, h => by cases h; exact .nil
  | [x], _, h => by
    cases h with
    | cons a b =>
      cases b
      exact .cons a .nil
  | x :: y :: r, _, h => by
    cases h with
    | cons a b =>
      cases b with
      | cons c d => exact .cons a (ev2_vals d)
theorem pick2 (items : Array Value) : slicePick items none none (some 2) = (ev2 items.toList).toArray := by
  have e := ev2_pick items.toList
  unfold slicePick
  have b : sliceBounds none none (some 2) items.size = (0, (items.size : Int), 2) := by
    first
    | rfl
    | simp [sliceBounds]
  rw [b]
  show ((sliceRange 0 (items.size : Int) 2).filterMap (items[·]?)).toArray = _
  have r : sliceRange 0 (items.size : Int) 2 = (List.range ((items.size + 1) / 2)).map fun k => 2 * k := by
    unfold sliceRange
    have h1 : (2 : Int) > 0 := by decide
    by_cases h : (0 : Int) < (items.size : Int)
    · have e : ((items.size : Int) - 0 + 2 - 1) / 2 = (((items.size + 1) / 2 : Nat) : Int) := by omega
      simp only [h1, if_true, h, e, Int.toNat_natCast]
      apply List.map_congr_left
      intro k _
      omega
    · have e : items.size = 0 := by omega
      simp [e]
  rw [r, List.filterMap_map]
  rw [Array.length_toList] at e
  rw [← e]
  refine congrArg List.toArray (congrArg (fun f => List.filterMap f _) (funext fun k => ?_))
  show items[2 * k]? = _
  rw [Array.getElem?_toList]
section
variable {prog : Program} {w : World} {A : Around} {E : Value → Shared → Prop} {s : Shared}
theorem places2 (n : Nat) : Builtin.Slice.slicePlaces 0 (n : Int) 2 = (n + 1) / 2 := by
  unfold Builtin.Slice.slicePlaces
  have h1 : (2 : Int) > 0 := by omega
  simp only [h1, if_true]
  split <;> omega
theorem adjust2 (n : Nat) : Builtin.Slice.sliceAdjust none none 2 (n : Int) = (0, (n : Int)) := by
  have h1 : ¬ ((2 : Int) < 0) := by omega
  unfold Builtin.Slice.sliceAdjust
  simp only [h1, if_false]
theorem sliceApplied2 {sl : Addr} {t : Tok} {n : Nat} {Q : Int × Int × Nat → Shared → Prop} (hs : s.heap.IsSliceOf sl .none .none (.int 2 t))
    (h : Q (0, 2, (n + 1) / 2) s) : wpAny (model prog w) A (Builtin.Slice.sliceApplied (.ref sl) (pure (n : Int))) Q E s := by
  obtain ⟨os, hos, hcs, hds⟩ := id hs
  unfold Builtin.Slice.sliceApplied Builtin.Slice.sliceFields
  refine wpAny_bind (wpAny_bind (wpAny_field hos hds (x := .none) rfl (wpAny_bind (wpAny_field hos hds (x := .none) rfl (wpAny_bind (wpAny_field hos hds (x := .int 2 t) rfl (wpAny_pure ?_)))))))
  refine wpAny_bind (slicePart_int ?_)
  show wpAny _ _ (if ((2 : Int) == 0) = true then _ else _) _ _ s
  rw [if_neg (by decide)]
  refine wpAny_bind (HT.slicePart_ .none (wpAny_bind (HT.slicePart_ .none (wpAny_bind (wpAny_pure ?_)))))
  show wpAny _ _ (match Builtin.Slice.sliceAdjust none none 2 (n : Int) with | (lo, hi) => pure (lo, (2 : Int), Builtin.Slice.slicePlaces lo hi 2)) _ _ s
  rw [adjust2 n]
  show wpAny _ _ (pure ((0 : Int), (2 : Int), Builtin.Slice.slicePlaces (0 : Int) (n : Int) 2)) _ _ s
  rw [places2]
  exact wpAny_pure h
theorem pick2t (xs : Array Value) : ((List.range ((xs.size + 1) / 2)).filterMap fun (m : Nat) => xs[((0 : Int) + (m : Int) * 2).toNat]?).toArray = (ev2 xs.toList).toArray := by
  have e : (fun (m : Nat) => xs[((0 : Int) + (m : Int) * 2).toNat]?) = fun m => xs.toList[2 * m]? := by
    funext m
    have : ((0 : Int) + (m : Int) * 2).toNat = 2 * m := by omega
    rw [this, Array.getElem?_toList]
  rw [e, ← ev2_pick xs.toList, Array.length_toList]
theorem getItem_tuple_2 {t sl : Addr} {tk : Tok} {items : Array Value} {Q : Value → Shared → Prop} (ht : IsTup s.heap t items) (hs : s.heap.IsSliceOf sl .none .none (.int 2 tk))
    (h : Q (.ref s.heap.objs.size) { s with heap := s.heap.push { cls := .type "tuple", data := .seq (ev2 items.toList).toArray } })
    (hsz : items.size ≤ sizeLine) : wpAny (model prog w) A (getItem (.ref t) (.ref sl)) Q E s := by
  have htake : sizeOk (.seq (ev2 items.toList).toArray) := by
    show (ev2 items.toList).toArray.size ≤ sizeLine
    rw [List.size_toArray]
    exact Nat.le_trans (ev2_le items.toList) (by rw [Array.length_toList]; exact hsz)
  obtain ⟨os, hos, hcs, hds⟩ := id hs
  have hTs : s.TypeIs (.ref sl) "slice" := ⟨os, hos, hcs⟩
  unfold getItem
  try with_reducible refine wpAny_holding ?_
  first | refine wpAny_bind (wpAny_pure ?_) | skip
  refine wpAny_bind (wpAny_sequenceKey ht.typeIs (by decide) ?_)
  refine wpAny_bind (wpAny_callSpecial?_slot (name := Str.ofString "__getitem__") ht.typeIs PyProof.Rows.slot_tuple_getitem
    (wpAny_call_entry PyProof.Rows.slot_tuple_getitem ht.typeIs entry_tuple_getitem ?_ (args_tuple_getitem _ _)))
  show wpAny _ _ (Builtin.Tuple.tupleItemsOf (.ref t) >>= _) _ _ s
  refine wpAny_bind (tupleItemsOf_ ht ?_)
  refine wpAny_bind (wpAny_typeOf hTs ?_)
  rw [if_pos (by decide)]
  refine wpAny_bind (sliceApplied2 hs ?_)
  have hno : ¬ (((0 : Int) == 0 && (2 : Int) == 1 && ((items.size + 1) / 2) == items.size) = true) := by
    intro q
    rw [Bool.and_eq_true, Bool.and_eq_true] at q
    exact absurd q.1.2 (by decide)
  show wpAny _ _ (if ((0 : Int) == 0 && (2 : Int) == 1 && ((items.size + 1) / 2) == items.size) = true then _ else _) _ _ s
  rw [if_neg hno, pick2t]
  first
    | exact wpAny_bind (m := Builtin.Tuple.tupleExact _) (wpAny_newObj_type (wpAny_pure ⟨_, rfl, wpAny_pure h⟩) htake)
    | exact wpAny_bind (m := Builtin.Tuple.tupleExact _) (wpAny_newObj_type (wpAny_bind (wpAny_pure (wpAny_pure ⟨_, rfl, wpAny_pure h⟩))) htake)
    | exact wpAny_bind (wpAny_bind (m := Builtin.Tuple.tupleExact _) (wpAny_newObj_type (wpAny_pure (wpAny_pure ⟨_, rfl, wpAny_pure h⟩)) htake))
    | exact wpAny_bind (wpAny_bind (m := Builtin.Tuple.tupleExact _) (wpAny_newObj_type (wpAny_pure ⟨_, rfl, wpAny_pure h⟩) htake))
end
section
variable {X : Cx}
def tHalf (K : PySem.W.Frag) (te : TE) : TE := fun σ H Q => te σ H fun x H1 => ∃ a xs, x = .ref a ∧ (SqL K H1 a xs ∨ SqT K H1 a xs) ∧
  ∀ p H2, (∀ b o, H1 b = some o → H2 b = some o) → H1 p = none → (SqL K H2 p (ev2 xs) ∨ SqT K H2 p (ev2 xs)) → Q (.ref p) H2
theorem new_same {H : Hp} {p : Addr} {o : HO} (n : H p = none) : ∀ b u, H b = some u → upd H p o b = some u := fun b u e => by
  rw [upd_ne (ne_of_none e n)]
  exact e
theorem pe_half {e : Expr} {te : TE} {k : Nat} {p1 p3 pos : Pos} (he : PE X e te) : PE X (.Subscript e (.Slice none none (some (.Constant (.int 2) k p1)) p3) pos) (tHalf X.K te) := by
  refine ⟨fun pins s σ H Q I h => ?_⟩
  refine Subscript_ (thn (he.run pins s σ H _ I h) fun v s1 ⟨x, H1, I1, r1, q1⟩ => ?_)
  obtain ⟨a, xs, ex, hq, q⟩ := q1
  subst ex
  cases r1
  have hst : PO X (some (.Constant (.int 2) k p1)) (tPart (tC (.int 2))) := po_some pe_int
  refine wpAny_Slice (thn (po_none.run pins s1 σ H1 (fun o H2 => o = none ∧ H2 = H1) I1 ⟨rfl, rfl⟩) fun vl s2 ⟨l, H2, I2, pl, el, e2⟩ => ?_)
  subst el e2
  refine thn (po_none.run pins s2 σ H2 (fun o H3 => o = none ∧ H3 = H2) I2 ⟨rfl, rfl⟩) fun vu s3 ⟨u, H3, I3, pu, eu, e3⟩ => ?_
  subst eu e3
  refine thn (hst.run pins s3 σ H3 (fun o H4 => o = some 2 ∧ H4 = H3) I3 ⟨2, rfl, rfl, rfl⟩) fun vs s4 ⟨o, H4, I4, ps, eo, e4⟩ => ?_
  subst eo e4
  have I5 : Inv X pins σ H4 { s4 with heap := s4.heap.push { cls := .type "slice", data := .fields #[vl, vu, vs] } } := I4.kept (t' := s4.toks) fun b ob q => Heap.get?_push_of_some _ q
  rcases hq with hx | hx
  · obtain ⟨its, r, ht, hz⟩ := I5.list hx
    have hlen := r.length
    show wpAny (model X.prog X.w) X.A (subscriptTail e (.Slice none none (some (.Constant (.int 2) k p1)) p3) (.ref a) (.ref s4.heap.objs.size)) (EP X pins σ Q) X.xe { s4 with heap := s4.heap.push { cls := .type "slice", data := .fields #[vl, vu, vs] } }
    refine tail_any (ops := [.ref a, .ref s4.heap.objs.size]) ht.isList.typeIs (PySem.slot_list_getitem.lookup) ?_ (by with_unfolding_all rfl)
    refine wpAny_getItem_list_slice ht.isList (Heap.IsSliceOf.new _ vl vu vs) pl pu ps (by decide) ?_ (by rw [List.size_toArray]; omega)
    rw [pick2]
    refine ⟨.ref _, _, I5.laid (t' := s4.toks) (o := .lst (ev2 xs)) (fun b ob q => Heap.get?_push_of_some _ q) (Nat.le_refl _) ?_, rfl, q _ _ (new_same (I5.hok.fresh (Nat.le_refl _))) (I5.hok.fresh (Nat.le_refl _)) (.inl (SqL.of upd_same))⟩
    exact ⟨Nat.le_trans (ev2_le xs) hz, _, 0, ev2_vals r, Heap.get?_push_size _ rfl⟩
  · obtain ⟨its, r, ht, hz⟩ := I5.tuple hx
    have hlen := r.length
    cases pl
    cases pu
    cases ps
    show wpAny (model X.prog X.w) X.A (subscriptTail e (.Slice none none (some (.Constant (.int 2) k p1)) p3) (.ref a) (.ref s4.heap.objs.size)) (EP X pins σ Q) X.xe { s4 with heap := s4.heap.push { cls := .type "slice", data := .fields #[Value.none, Value.none, .int 2 _] } }
    refine tail_any (ops := [.ref a, .ref s4.heap.objs.size]) ht.typeIs (PyProof.Rows.slot_tuple_getitem.lookup) ?_ (by with_unfolding_all rfl)
    refine getItem_tuple_2 ht (Heap.IsSliceOf.new _ _ _ _) ?_ (by rw [List.size_toArray]; omega)
    refine ⟨.ref _, _, I5.laid (t' := s4.toks) (o := .tup (ev2 xs)) (fun b ob q => Heap.get?_push_of_some _ q) (Nat.le_refl _) ?_, rfl, q _ _ (new_same (I5.hok.fresh (Nat.le_refl _))) (I5.hok.fresh (Nat.le_refl _)) (.inr (SqT.of upd_same))⟩
    exact ⟨Nat.le_trans (ev2_le xs) hz, _, ev2_vals r, IsTup.new _ _⟩
theorem keepL {K : PySem.W.Frag} {H H' : Hp} {a : Addr} {xs : List V} (e : Same H H') (h : SqL K H a xs) : SqL K H' a xs := by
  rcases h with (h | ⟨o, h⟩) | h
  · exact .inl (.inl (e _ _ h))
  · exact .inl (.inr ⟨o, e _ _ h⟩)
  · exact .inr h
theorem keepT {K : PySem.W.Frag} {H H' : Hp} {a : Addr} {xs : List V} (e : Same H H') (h : SqT K H a xs) : SqT K H' a xs := by
  rcases h with (h | ⟨o, h⟩) | h
  · exact .inl (.inl (e _ _ h))
  · exact .inl (.inr ⟨o, e _ _ h⟩)
  · exact .inr h
def iSeq (K : PySem.W.Frag) (tl : TE) : TI := fun σ H R => tl σ H fun x H1 => ∃ a xs, x = .ref a ∧ (SqL K H1 a xs ∨ SqT K H1 a xs) ∧
  ∀ J G, Walk J xs.length G (YAt xs) → (∀ H', Same H1 H' → G H') → R J H1
theorem pi_seq {tg l : Expr} {tl : TE} (hl : PE X l tl) : PI X tg l (iSeq X.K tl) := by
  refine ⟨fun pins s σ H R I h => ?_⟩
  refine thn (hl.run pins s σ H _ I h) fun v s1 ⟨x, H1, I1, r1, q1⟩ => ?_
  obtain ⟨a, xs, e, hq, q⟩ := q1
  subst e
  cases r1
  rcases hq with hq | hq
  · have q := q _ _ walk_list fun H' s => keepL s hq
    obtain ⟨its, rv, p, hz⟩ := I1.list hq
    refine wpAny_pyIter_list p.isList ?_
    refine ⟨s1.heap.objs.size, [s1.heap.objs.size], _, _, H1, rfl, I1.kept (t' := s1.toks) fun b o e => Heap.get?_push_of_some _ e, turn_list a _, ⟨_, Heap.get?_push_size _ rfl, rfl, rfl⟩, fun b hb => ?_, q⟩
    have e : b = s1.heap.objs.size := by simpa using hb
    subst e
    exact I1.fpOk (Nat.le_refl _) (I1.hok.fresh (Nat.le_refl _))
  · have q := q _ _ walk_tup fun H' s => keepT s hq
    obtain ⟨its, rv, p, hz⟩ := I1.tuple hq
    refine wpAny_pyIter_tuple (show s1.heap.IsTuple a its.toArray from p) ?_
    refine ⟨s1.heap.objs.size, [s1.heap.objs.size], _, _, H1, rfl, I1.kept (t' := s1.toks) fun b o e => Heap.get?_push_of_some _ e, turn_tuple a _, ⟨_, Heap.get?_push_size _ rfl, rfl, rfl⟩, fun b hb => ?_, q⟩
    have e : b = s1.heap.objs.size := by simpa using hb
    subst e
    exact I1.fpOk (Nat.le_refl _) (I1.hok.fresh (Nat.le_refl _))
end
end Hf

/-! enumerate of a tuple, as a thing that a for walks. -/
namespace Es
open PySem PySem.Spec PyProof.Rows L2
theorem meets_ent (t : Addr) (its : Array Value) (m : Nat) (dd : Option Addr) (slo : Array (Option Value)) :
    Meets (Builtin.«enumerate.__new__» ⟨[.type "enumerate", .ref t], []⟩) (fun _ R s => s.heap.get? t = some { cls := .type "tuple", dict := dd, data := .seq its m, slots := slo } ∧
      R (.ok (.ret (.ref (s.heap.push { cls := .type "tuple_iterator", data := .fields #[.ref t, .int 0 0] }).objs.size))) { s with heap := (s.heap.push { cls := .type "tuple_iterator", data := .fields #[.ref t, .int 0 0] }).push { cls := .type "enumerate", data := .fields #[.none, .bool false, .ref s.heap.objs.size, rawInt 0, .none, .none] } }) :=
  .of_wp fun prog w A R s h => by
    obtain ⟨hp, gn, dr, tk, os⟩ := s
    obtain ⟨ht, h⟩ := h
    have hsub := sub_enumerate
    have hT : Heap.IsTuple (Shared.heap ⟨hp, gn, dr, tk, os⟩) t its := ⟨_, ht, rfl, m, rfl⟩
    wp_walk using AutoSeq1.wpAny_loadPart' ht
    refine wpAny_stack_any fun st => wpAny_pure ?_
    split
    · rename_i c _ _ _ _ _
      cases (c == Value.type "enumerate")
      · wp_walk using AutoSeq1.wpAny_loadPart' ht, wpAny_pyIter_tuple hT
        exact ⟨_, rfl, h⟩
      · wp_walk using AutoSeq1.wpAny_loadPart' ht, wpAny_pyIter_tuple hT
        exact ⟨_, rfl, h⟩
    · wp_walk using AutoSeq1.wpAny_loadPart' ht, wpAny_pyIter_tuple hT
      exact ⟨_, rfl, h⟩
section
variable {prog : Program} {w : World} {A : Around} {E : Value → Shared → Prop} {s : Shared}
theorem call_ent {t : Addr} {its : Array Value} {Q : Value → Shared → Prop} (ht : s.heap.IsTuple t its)
    (q : ∀ g, IsEnum g (s.heap.objs.size + 1) s.heap.objs.size 0 .none → g.IsTupleIter s.heap.objs.size t 0 → (∀ b o, s.heap.get? b = some o → g.get? b = some o) → Q (.ref (s.heap.objs.size + 1)) { s with heap := g }) :
    wpAny (model prog w) A (call (.type "enumerate") [.ref t]) Q E s := by
  obtain ⟨⟨tc, td, tdat, tsl⟩, h0, h1, m, h2⟩ := ht
  simp only at h1 h2
  subst h1 h2
  refine callType_new F.called_enumerate (by decide) (F.typeCall_enumerate_1 _) (F.newCall_enumerate_1 _) (fun ob => F.args_object_init_2 ob _) F.entry_enumerate_new (meets_ent t its m td tsl) ⟨h0, ?_⟩
  have hz : (s.heap.push { cls := .type "tuple_iterator", data := .fields #[.ref t, .int 0 0] }).objs.size = s.heap.objs.size + 1 := Heap.size_push ..
  have er : IsEnum ((s.heap.push { cls := .type "tuple_iterator", data := .fields #[.ref t, .int 0 0] }).push { cls := .type "enumerate", data := .fields #[.none, .bool false, .ref s.heap.objs.size, rawInt 0, .none, .none] }) (s.heap.objs.size + 1) s.heap.objs.size 0 .none := by
    rw [← hz]
    exact Heap.get?_push_size _ rfl
  show _ ∧ _
  rw [hz]
  exact ⟨⟨_, er, rfl⟩, q _ er ⟨_, Heap.get?_push_of_some _ (Heap.get?_push_size _ rfl), rfl, rfl⟩ fun b o x => Heap.get?_push_of_some _ (Heap.get?_push_of_some _ x)⟩
theorem tup_end {e it t : Addr} {i : Nat} {its : Array Value} {old : Value} {k : Int} {Q : Option Value → Shared → Prop} (hh : A.handled = none) (er : IsEnum s.heap e it k old) (ti : s.heap.IsTupleIter it t i) (ht : s.heap.IsTuple t its) (hx : its[i]? = none)
    (q : ∀ g, Heap.ExtBut it s.heap g → Q none { s with heap := g }) : wpAny (model prog w) A (pyNext (.ref e)) Q E s := by
  have te : s.TypeIs (.ref e) "enumerate" := ⟨_, er, rfl⟩
  unfold pyNext
  refine wpAny_bind (wpAny_attempt (wpAny_callSpecial?_slot (name := Str.ofString "__next__") te F.slot_enumerate_next (wpAny_call_entry F.slot_enumerate_next te F.entry_enumerate_next ?_ (F.args_enumerate_next_1 _))))
  show wpAny _ _ (field (.ref e) 2 >>= _) _ _ _
  refine wpAny_bind (wpAny_field er rfl (x := .ref it) rfl ?_)
  refine wpAny_bind (wpAny_nextOf_tuple_end (show A.in1.handled = none from hh) ti ht hx fun g x k1 ⟨o, k2, k3⟩ => ?_)
  refine wpAny_bind (wpAny_isInstance (T := "StopIteration") (b := true) ⟨o, k2, k3⟩ isSubtype_stop ?_)
  exact wpAny_pure (q _ k1)
end
def Iten (K : PySem.W.Frag) (a : Addr) : It :=
  ⟨fun i H => ∃ (xs : List V) (x : V), SqT K H a xs ∧ xs[i]? = some x, fun i H v H' => ∃ T x, v = .ref T ∧ H T = none ∧ H' = upd H T (.tup [.int (i : Nat), x]) ∧ ∀ xs, SqT K H a xs → xs[i]? = some x, fun i H => ∃ xs : List V, SqT K H a xs ∧ xs.length ≤ i⟩
theorem turn_ent {P : Program} {w : World} {K : PySem.W.Frag} {elts : List Expr} {kk : Nat} {tpos : Pos} (a e it : Addr) (nei : e ≠ it) (nea : e ≠ a) (nai : a ≠ it) :
    Turn P w K (.Tuple elts kk tpos) (Iten K a) [e, it] e (fun i h => (∃ old, IsEnum h e it ((i : Nat) : Int) old) ∧ h.IsTupleIter it a i) where
  mem := by simp
  obj := fun i h st b hb => by
    obtain ⟨⟨old, er⟩, o, ho, _, hd⟩ := st
    have hb' : b = e ∨ b = it := by simpa using hb
    rcases hb' with z | z
    · rw [z]
      exact ⟨_, er, fun v q => nomatch q⟩
    · rw [z]
      exact ⟨o, ho, fun v q => by rw [hd] at q; cases q⟩
  keep := fun i h g st k => by
    obtain ⟨⟨old, er⟩, ti⟩ := st
    exact ⟨⟨old, k e (by simp) _ er⟩, ti.at fun o q => k it (by simp) o q⟩
  item := by
    intro X hP hw hK hc i pins s σ H E I hf st hg
    subst hP hw hK
    obtain ⟨⟨old, er⟩, ti⟩ := st
    obtain ⟨xs, x, hq, hx⟩ := hg
    obtain ⟨its, rv, p, _⟩ := I.tuple hq
    obtain ⟨u, hu, ru⟩ := rv.get hx
    have el : e < s.heap.objs.size := Heap.lt_size er
    have il : it < s.heap.objs.size := by
      obtain ⟨_, q, _⟩ := id ti
      exact Heap.lt_size q
    have hlt : i < its.toArray.size := by
      have q := (List.getElem?_eq_some_iff.mp hu).1
      simpa using q
    have hd : X.A.in1.handled = none := I.ok.hd hc
    refine wpAny_pyNext_enum_itemD (Draws.tuple hd it a nai its.toArray) er ⟨ti, p⟩ hlt nei (by simp [nei, nea]) fun y g tk hy eo st2 hT hsz hk => ?_
    have ey : y = u := by
      rw [show its.toArray[i]? = some u by simpa using hu] at hy
      exact (Option.some.inj hy).symm
    subst ey
    refine ⟨_, rfl, wpAny_letOwnedTupleGo_enum (s := { s with heap := g, toks := tk + 1 }) eo fun g2 er2 sb => ?_⟩
    have hT2 : g2.get? s.heap.objs.size = some { cls := .type "tuple", data := .seq #[.int i tk, y] } := (sb.2 _ (Nat.ne_of_gt el)).trans hT
    have new : ObjOk X.prog X.w (upd H s.heap.objs.size (.tup [.int (i : Nat), x])) g2 s.heap.objs.size (.tup [.int (i : Nat), x]) := ⟨by show 2 ≤ sizeLine; decide, [.int i tk, y], .cons ⟨_, rfl⟩ (.cons ru .nil), ⟨_, hT2, rfl, _, rfl⟩⟩
    have I1 : Inv X pins σ (upd H s.heap.objs.size (.tup [.int (i : Nat), x])) { s with heap := g2, toks := tk + 1 } := I.turnedNew (ch := [e, it]) (fun b ob hb q => (sb.2 b (fun z => hb (by simp [z]))).trans (hk b ob (fun z => hb (by simp [z])) (fun z => hb (by simp [z])) q)) hf (Nat.le_refl _) new
    refine ⟨.ref s.heap.objs.size, _, I1, rfl, ⟨_, x, rfl, I.hok.fresh (Nat.le_refl _), rfl, fun ys hy => by rw [I.tuple_inj hy hq]; exact hx⟩, ⟨⟨y, ?_⟩, st2.1.at fun o q => (sb.2 it nei.symm).trans q⟩, fun b hb => ?_⟩
    · rw [show ((i + 1 : Nat) : Int) = (i : Int) + 1 by omega]
      exact er2
    · have lb : b < s.heap.objs.size := by
        have hb' : b = e ∨ b = it := by simpa using hb
        rcases hb' with z | z
        · rw [z]; exact el
        · rw [z]; exact il
      rw [upd_ne (Nat.ne_of_lt lb)]
      exact (hf b hb).1
  done := by
    intro X hP hw hK hc i pins s σ H E I hf st hg
    subst hP hw hK
    obtain ⟨⟨old, er⟩, ti⟩ := st
    obtain ⟨xs, hq, hx⟩ := hg
    obtain ⟨its, rv, p, _⟩ := I.tuple hq
    have hl := rv.length
    exact tup_end (I.ok.hd hc) er ti p (by simp; omega) fun g kg => ⟨rfl, I.turnedL (t' := s.toks) (ch := [e, it]) (fun b o hb q => kg b o (fun z => hb (by simp [z])) q) hf⟩
  self := fun A i s Q E st h => let ⟨⟨_, er⟩, _⟩ := st; wpAny_pyIter_enum er h
def iEnt (K : PySem.W.Frag) (ta : TA) : TI := fun σ H R => ta σ H fun vs H1 => ∃ a xs, vs = [.ref a] ∧ SqT K H1 a xs ∧ R (Iten K a) H1
theorem pi_ent {X : Cx} {e : Expr} {ta : TA} {p pos tpos : Pos} {elts : List Expr} {kk : Nat} (hg : Gl X "enumerate") (hm : X.mg "enumerate" = none) (ha : PA X [e] ta) (hs : starEach [e] X.env = [(false, eval e X.env)] := by rfl) :
    PI X (.Tuple elts kk tpos) (.Call (.Name "enumerate" p) [e] [] pos) (iEnt X.K ta) := by
  refine ⟨fun pins s σ H R I h => ?_⟩
  refine Call_ (ld_blt I hg hm boot_enumerate (PyProof.Rows.callWith_type1 (thn (ha.run pos pins s σ H _ I h) fun us s1 ⟨vs, H1, I1, r1, q1⟩ => ?_) hs rfl))
  obtain ⟨a, xs, ev, hq, q⟩ := q1
  subst ev
  cases r1 with
  | cons r rr =>
    cases rr
    cases r
    obtain ⟨its, rv, pt, _⟩ := I1.tuple hq
    obtain ⟨ot, hot, _⟩ := id pt
    have al : a < s1.heap.objs.size := Heap.lt_size hot
    refine call_ent (show s1.heap.IsTuple a its.toArray from pt) fun g er ti kg => wpAny_pyIter_enum er ?_
    have I2 : Inv X pins σ H1 { s1 with heap := g } := I1.kept (t' := s1.toks) kg
    refine ⟨s1.heap.objs.size + 1, [s1.heap.objs.size + 1, s1.heap.objs.size], _, _, H1, rfl, I2, turn_ent a (s1.heap.objs.size + 1) s1.heap.objs.size (Nat.succ_ne_self _) (Nat.ne_of_gt (Nat.lt_succ_of_lt al)) (Nat.ne_of_lt al), ⟨⟨.none, er⟩, ti⟩, fun b hb => ?_, q⟩
    have hb' : b = s1.heap.objs.size + 1 ∨ b = s1.heap.objs.size := by simpa using hb
    have le : s1.heap.objs.size ≤ b := by
      rcases hb' with z | z
      · rw [z]; exact Nat.le_add_right _ _
      · rw [z]; exact Nat.le_refl _
    exact I1.fpOk le (I1.hok.fresh le)
theorem walk_ent {K : PySem.W.Frag} {a : Addr} {xs : List V} : Walk (Iten K a) xs.length (fun H => SqT K H a xs) (YPair (fun i => some (.int (i : Nat))) (fun i => xs[i]?)) := by
  refine ⟨fun i _ hi q => ⟨xs, xs[i], q, by simp [hi]⟩, fun _ q => ⟨xs, q, Nat.le_refl _⟩, fun i H v H' _ q y => ?_⟩
  obtain ⟨T, x, y1, y2, y3, y4⟩ := y
  exact ⟨T, .int (i : Nat), x, y1, y2, y3, rfl, y4 xs q⟩
end Es

/-! xs.extend(t), t a tuple; comprehensions of two clauses by walks. -/
namespace Et
open PySem PySem.Spec PyProof.Rows L2
theorem ext_meets (l : Addr) (us : Array Value) (n : Nat) (b : Addr) (vs : Array Value) (m : Nat) (dd : Option Addr) (sl : Array (Option Value)) (h0 : ¬(!us.isEmpty && Builtin.List.listTooLong (us.size + vs.size)) = true) (h1 : us.size ≤ sizeLine) (h2 : us.size + vs.size ≤ sizeLine + 1) :
    Meets (Builtin.«list.extend» ⟨[.ref l, .ref b], []⟩) (fun _ R s => s.heap.get? l = some { cls := .type "list", dict := none, data := .seq us n, slots := #[] } ∧ s.heap.get? b = some { cls := .type "tuple", dict := dd, data := .seq vs m, slots := sl } ∧ R (.ok (.ret Value.none)) { s with heap := s.heap.update l (Obj.mapSeq fun x => x ++ vs), toks := s.toks }) :=
  .of_wp fun prog w A R s h => by
    obtain ⟨hp, g, d, tk, os⟩ := s
    obtain ⟨hl, hb, h⟩ := h
    have f1 := AutoSeq1.idx_int
    have f2 := AutoSeq1.sub_tuple_tuple
    have f3 := AutoSeq1.sub_list_list
    have f4 := AutoSeq1.sub_tuple_list
    have f5 := AutoSeq1.sub_list_tuple
    have hz' : (us ++ vs).size ≤ sizeLine + 1 := by
      rw [Array.size_append]
      exact h2
    wp_walk using (wpAny_updateSeq hl rfl (hz := h1) (_hz' := hz')), AutoSeq1.wpAny_loadPart' hl, AutoSeq1.wpAny_loadPart' hb
    exact ⟨_, rfl, h⟩
section
variable {X : Cx}
def rExtT (K : PySem.W.Frag) : V → List V → Hp → VK → Prop := fun x vs H Q => ∃ l b xs zs, x = .ref l ∧ vs = [.ref b] ∧ H l = some (.lst xs) ∧ SqT K H b zs ∧ xs.length + zs.length ≤ sizeLine ∧ Q .non (upd H l (.lst (xs ++ zs)))
theorem mt_extT : MtM X "list.extend" (rExtT X.K) := by
  intro pins s σ H x vs v us Q I rx rv h
  obtain ⟨l, b, xs, zs, rfl, rfl, hH, hB, hz, q⟩ := h
  cases rx
  obtain ⟨u, rfl, ru⟩ := rv.one
  cases ru
  obtain ⟨z, its, n, r, hl, e⟩ := I.lstM hH
  obtain ⟨its2, r2, p2, _⟩ := I.tuple hB
  obtain ⟨⟨c2, d2, a2, s2⟩, e2, k1, m, k2⟩ := p2
  simp only at k1 k2
  subst k1 k2
  have hl2 := r2.length
  have hsz : its.toArray.size + its2.toArray.size ≤ sizeLine := by
    rw [List.size_toArray, List.size_toArray]
    omega
  have hlong : ¬ (!its.toArray.isEmpty && Builtin.List.listTooLong (its.toArray.size + its2.toArray.size)) = true := by
    rw [notLongL hsz, Bool.and_false]
    exact Bool.false_ne_true
  refine call_meets F.slot_list_extend ⟨_, e, rfl⟩ F.entry_list_extend (F.args_list_extend_2 _ _) (ext_meets l its.toArray n b its2.toArray m d2 s2 hlong (by rw [List.size_toArray]; omega) (by omega)) ⟨e, e2, ?_⟩
  refine ⟨.non, _, I.lset (its' := its ++ its2) hH e (by simp) (r.append r2) ?_, rfl, q⟩
  rw [List.length_append]
  omega
end
/-- the outer clause of a comprehension of two -/
theorem out_it {J : It} {n : Nat} {G : Hp → Prop} {Y : Nat → Hp → V → Hp → Prop} (w : Walk J n G Y) {g : TG} {tt : TT} {B : (Hp → Prop) → L2.St → Hp → Prop} {vs : List Nat} {σ : L2.St} {H1 : Hp} {D : Addr} {Qd : Hp → Prop} (Pv : Nat → Hp → Prop) (h0 : Pv 0 (upd H1 D (.lst []))) (hG : ∀ i H, i ≤ n → Pv i H → G H)
    (hs : ∀ i x H H', i < n → Pv i H → Y i H x H' → g x (wipe σ vs) H' fun σ2 H2 => wipe σ2 vs = wipe σ vs ∧ tt σ2 H2 fun b H3 => if b = true then B (Pv (i + 1)) σ2 H3 else Pv (i + 1) H3) (hd : ∀ H, Pv n H → Qd H) :
    ∃ W : Nat → Nat → Hp → Prop, (∃ m, W 0 m (upd H1 D (.lst []))) ∧ ∀ i m H, W i m H →
      (J.stop i H ∧ Qd H) ∨ (J.go i H ∧ ∃ Nx : Hp → Prop, (∀ H', Nx H' → ∃ m', m' < m ∧ W (i + 1) m' H') ∧ ∀ x H', J.yld i H x H' → g x (wipe σ vs) H' fun σ2 H2 => wipe σ2 vs = wipe σ vs ∧ tt σ2 H2 fun b H3 => if b = true then B Nx σ2 H3 else Nx H3) := by
  refine ⟨fun i m H => m = n - i ∧ i ≤ n ∧ Pv i H, ⟨n, by simp, Nat.zero_le _, h0⟩, ?_⟩
  rintro i m H ⟨rfl, hi, p⟩
  have q := hG i H hi p
  by_cases lt : i < n
  · exact .inr ⟨w.goes i H lt q, Pv (i + 1), fun H' p' => ⟨n - (i + 1), by omega, rfl, lt, p'⟩, fun x H' y => hs i x H H' lt p (w.yields i H x H' lt q y)⟩
  · have e : i = n := by omega
    subst e
    exact .inl ⟨w.stops H q, hd H p⟩
/-- the inner clause -/
theorem in_it {J : It} {n : Nat} {G : Hp → Prop} {Y : Nat → Hp → V → Hp → Prop} (w : Walk J n G Y) {g : TG} {tt : TT} {te : TE} {vs : List Nat} {σ : L2.St} {H1 : Hp} {D : Addr} {Qd : Hp → Prop} (Pv : Nat → Hp → Prop) (h0 : Pv 0 H1) (hG : ∀ i H, i ≤ n → Pv i H → G H)
    (hs : ∀ i x H H', i < n → Pv i H → Y i H x H' → g x (wipe σ vs) H' fun σ2 H2 => wipe σ2 vs = wipe σ vs ∧ tt σ2 H2 fun b H3 =>
      if b = true then te σ2 H3 fun y H4 => ∃ acc, H4 D = some (.lst acc) ∧ acc.length < sizeLine ∧ Pv (i + 1) (upd H4 D (.lst (acc ++ [y]))) else Pv (i + 1) H3) (hd : ∀ H, Pv n H → Qd H) :
    ∃ W : Nat → Nat → Hp → Prop, (∃ m, W 0 m H1) ∧ ∀ i m H, W i m H →
      (J.stop i H ∧ Qd H) ∨ (J.go i H ∧ ∃ Nx : Hp → Prop, (∀ H', Nx H' → ∃ m', m' < m ∧ W (i + 1) m' H') ∧ ∀ x H', J.yld i H x H' → g x (wipe σ vs) H' fun σ2 H2 => wipe σ2 vs = wipe σ vs ∧ tt σ2 H2 fun b H3 =>
        if b = true then te σ2 H3 fun y H4 => ∃ acc, H4 D = some (.lst acc) ∧ acc.length < sizeLine ∧ Nx (upd H4 D (.lst (acc ++ [y]))) else Nx H3) := by
  refine ⟨fun i m H => m = n - i ∧ i ≤ n ∧ Pv i H, ⟨n, by simp, Nat.zero_le _, h0⟩, ?_⟩
  rintro i m H ⟨rfl, hi, p⟩
  have q := hG i H hi p
  by_cases lt : i < n
  · refine .inr ⟨w.goes i H lt q, Pv (i + 1), fun H' p' => ⟨n - (i + 1), by omega, rfl, lt, p'⟩, fun x H' y => hs i x H H' lt p (w.yields i H x H' lt q y)⟩
  · have e : i = n := by omega
    subst e
    exact .inl ⟨w.stops H q, hd H p⟩
end Et

/-! Data of ints, texts and tuples of such; what keeps them. -/
namespace Dv
open PySem L2 Wm
mutual
inductive Dt (K : PySem.W.Frag) (H : Hp) : V → PyData → Prop
  | int (i : Int) : Dt K H (.int i) (.int i)
  | str (x : Str) : Dt K H (.str x) (.str x)
  | tup {a : Addr} {xs : List V} {ds : List PyData} : SqT K H a xs → Dts K H xs ds → Dt K H (.ref a) (.tuple ds)
inductive Dts (K : PySem.W.Frag) (H : Hp) : List V → List PyData → Prop
  | nil : Dts K H [] []
  | cons {v : V} {vs : List V} {d : PyData} {ds : List PyData} : Dt K H v d → Dts K H vs ds → Dts K H (v :: vs) (d :: ds)
end
/-- tuples stand -/
def Kt (K : PySem.W.Frag) (H H' : Hp) : Prop := ∀ a xs, SqT K H a xs → SqT K H' a xs
section
variable {K : PySem.W.Frag} {H H' H2 : Hp}
theorem Kt.refl : Kt K H H := fun _ _ h => h
theorem Kt.trans (a : Kt K H H') (b : Kt K H' H2) : Kt K H H2 := fun p xs h => b p xs (a p xs h)
theorem Kt.same (s : Same H H') : Kt K H H' := fun _ _ h => sameT s h
/-- a store at what is no tuple -/
theorem Kt.set {p : Addr} {o u : HO} (h : H p = some u) (n1 : ∀ xs, u ≠ .tup xs) (n2 : ∀ ob xs, u ≠ .frz ob (.tup xs)) : Kt K H (upd H p o) := fun a xs q => by
  rcases q with (q | ⟨ob, q⟩) | q
  · exact .inl (.inl (by rw [upd_ne (fun e => by subst e; rw [h] at q; exact n1 _ (Option.some.inj q))]; exact q))
  · exact .inl (.inr ⟨ob, by rw [upd_ne (fun e => by subst e; rw [h] at q; exact n2 _ _ (Option.some.inj q))]; exact q⟩)
  · exact .inr q
theorem Kt.lst {p : Addr} {o : HO} {xs : List V} (h : H p = some (.lst xs)) : Kt K H (upd H p o) := Kt.set h (fun _ q => by cases q) (fun _ _ q => by cases q)
theorem Kt.new {p : Addr} {o : HO} (h : H p = none) : Kt K H (upd H p o) := Kt.same (same_new h)
mutual
theorem Dt.keep (k : Kt K H H') : ∀ (d : PyData) (v : V), Dt K H v d → Dt K H' v d
  | .int _, _, h => by cases h; exact .int _
  | .str _, _, h => by cases h; exact .str _
  | .tuple ds, _, h => by
    cases h with
    | tup a b => exact .tup (k _ _ a) (Dts.keep k ds _ b)
  | .none, _, h => by cases h
  | .bool _, _, h => by cases h
  | .list _, _, h => by cases h
  | .dict _, _, h => by cases h
theorem Dts.keep (k : Kt K H H') : ∀ (ds : List PyData) (vs : List V), Dts K H vs ds → Dts K H' vs ds
  | [], _, h => by cases h; exact .nil
  | d :: ds, _, h => by
    cases h with
    | cons a b => exact .cons (Dt.keep k d _ a) (Dts.keep k ds _ b)
end
mutual
theorem Dt.dp : ∀ (d : PyData) (v : V), Dt K H v d → Dp K H v d
  | .int _, _, h => by cases h; exact .int _
  | .str _, _, h => by cases h; exact .str _
  | .tuple ds, _, h => by
    cases h with
    | tup a b => exact .tup a (Dts.dp ds _ b)
  | .none, _, h => by cases h
  | .bool _, _, h => by cases h
  | .list _, _, h => by cases h
  | .dict _, _, h => by cases h
theorem Dts.dp : ∀ (ds : List PyData) (vs : List V), Dts K H vs ds → DpAll K H vs ds
  | [], _, h => by cases h; exact .nil
  | d :: ds, _, h => by
    cases h with
    | cons a b => exact .cons (Dt.dp d _ a) (Dts.dp ds _ b)
end
theorem Dt.k {d : PyData} {v : V} (h : Dt K H v d) (k : Kt K H H') : Dt K H' v d := Dt.keep k _ _ h
theorem Dts.k {ds : List PyData} {vs : List V} (h : Dts K H vs ds) (k : Kt K H H') : Dts K H' vs ds := Dts.keep k _ _ h
theorem Dt.toDp {d : PyData} {v : V} (h : Dt K H v d) : Dp K H v d := Dt.dp _ _ h
theorem Dts.toDp {ds : List PyData} {vs : List V} (h : Dts K H vs ds) : DpAll K H vs ds := Dts.dp _ _ h
theorem Dt.inv {ds : List PyData} {v : V} (h : Dt K H v (.tuple ds)) : ∃ p xs, v = .ref p ∧ SqT K H p xs ∧ Dts K H xs ds := by
  cases h with
  | tup a b => exact ⟨_, _, rfl, a, b⟩
theorem Dt.str_inv {x : Str} {v : V} (h : Dt K H v (.str x)) : v = .str x := by cases h; rfl
theorem Dt.int_inv {i : Int} {v : V} (h : Dt K H v (.int i)) : v = .int i := by cases h; rfl
theorem Dts.len {ds : List PyData} {vs : List V} (h : Dts K H vs ds) : vs.length = ds.length := by
  induction ds generalizing vs with
  | nil => cases h; rfl
  | cons d ds ih =>
    cases h with
    | cons a b => rw [List.length_cons, List.length_cons, ih b]
theorem Dts.at {i : Nat} {ds : List PyData} {vs : List V} {v : V} (h : Dts K H vs ds) (g : vs[i]? = some v) : ∃ d, ds[i]? = some d ∧ Dt K H v d := by
  induction ds generalizing vs i with
  | nil =>
    cases h
    simp at g
  | cons d ds ih =>
    cases h with
    | cons a b =>
      cases i with
      | zero =>
        simp at g
        subst g
        exact ⟨d, rfl, a⟩
      | succ i => exact ih b (by simpa using g)
theorem Dts.get {i : Nat} {ds : List PyData} {vs : List V} {d : PyData} (h : Dts K H vs ds) (g : ds[i]? = some d) : ∃ v, vs[i]? = some v ∧ Dt K H v d := by
  have li := (List.getElem?_eq_some_iff.mp g).1
  obtain ⟨v, e⟩ : ∃ v, vs[i]? = some v := ⟨_, List.getElem?_eq_getElem (by rw [h.len]; exact li)⟩
  obtain ⟨d2, e2, a⟩ := h.at e
  rw [g] at e2
  cases e2
  exact ⟨v, e, a⟩
theorem Dts.app {ds es : List PyData} {vs ws : List V} (h : Dts K H vs ds) (g : Dts K H ws es) : Dts K H (vs ++ ws) (ds ++ es) := by
  induction ds generalizing vs with
  | nil => cases h; exact g
  | cons d ds ih =>
    cases h with
    | cons a b => exact .cons a (ih b)
theorem Dts.snoc {ds : List PyData} {d : PyData} {vs : List V} {v : V} (h : Dts K H vs ds) (g : Dt K H v d) : Dts K H (vs ++ [v]) (ds ++ [d]) := h.app (.cons g .nil)
theorem Dts.take {ds : List PyData} {vs : List V} (h : Dts K H vs ds) : ∀ n, Dts K H (vs.take n) (ds.take n) := by
  induction ds generalizing vs with
  | nil => cases h; intro n; simp; exact .nil
  | cons d ds ih =>
    cases h with
    | cons a b =>
      intro n
      cases n with
      | zero => exact .nil
      | succ n => exact .cons a (ih b n)
theorem Dts.drop {ds : List PyData} {vs : List V} (h : Dts K H vs ds) : ∀ n, Dts K H (vs.drop n) (ds.drop n) := by
  induction ds generalizing vs with
  | nil => cases h; intro n; simp; exact .nil
  | cons d ds ih =>
    cases h with
    | cons a b =>
      intro n
      cases n with
      | zero => exact .cons a b
      | succ n => exact ih b n
theorem dts_str : ∀ ss : List Str, Dts K H (ss.map V.str) (ss.map PyData.str)
  | [] => .nil
  | s :: ss => .cons (.str s) (dts_str ss)
theorem dts_str_inv {ss : List Str} {vs : List V} (h : Dts K H vs (ss.map PyData.str)) : vs = ss.map V.str := by
  induction ss generalizing vs with
  | nil => cases h; rfl
  | cons s ss ih =>
    cases h with
    | cons a b => rw [a.str_inv, ih b]; rfl
theorem dts_int : ∀ ns : List Int, Dts K H (ns.map V.int) (ns.map PyData.int)
  | [] => .nil
  | s :: ss => .cons (.int s) (dts_int ss)
theorem dts_int_inv {ns : List Int} {vs : List V} (h : Dts K H vs (ns.map PyData.int)) : vs = ns.map V.int := by
  induction ns generalizing vs with
  | nil => cases h; rfl
  | cons s ss ih =>
    cases h with
    | cons a b => rw [a.int_inv, ih b]; rfl
theorem dt_tup {p : Addr} {xs : List V} {ds : List PyData} (h : H p = some (.tup xs)) (g : Dts K H xs ds) : Dt K H (.ref p) (.tuple ds) := .tup (SqT.of h) g
end
/-- data that == may be asked of: texts in the line, not deep -/
def Fine (n : Nat) (d : PyData) : Prop := d.canLay0 = true ∧ d.depth ≤ n
theorem fine_int {n : Nat} (i : Int) : Fine n (.int i) := ⟨by simp [PyData.canLay0], by simp [PyData.depth]⟩
theorem fine_tup {n : Nat} {ds : List PyData} (h : ∀ d ∈ ds, Fine n d) : Fine (n + 1) (.tuple ds) := by
  have q : PyData.canLayAll0 ds = true ∧ PyData.depthAll ds ≤ n := by
    induction ds with
    | nil => simp [PyData.canLayAll0, PyData.depthAll]
    | cons d ds ih =>
      have h1 := h d (by simp)
      have h2 := ih fun y m => h y (List.mem_cons_of_mem _ m)
      simp only [PyData.canLayAll0, PyData.depthAll, h1.1, h2.1, Bool.and_self, true_and]
      have := h1.2
      have := h2.2
      omega
  exact ⟨by simp only [PyData.canLay0]; exact q.1, by simp only [PyData.depth]; have := q.2; omega⟩
theorem fine_str {n : Nat} {x : Str} (h : x.cps.all (· < 0x110000) = true) : Fine n (.str x) := ⟨by simp only [PyData.canLay0]; exact h, by simp [PyData.depth]⟩
theorem fine_num {n : Nat} {ds : List Nat} (h : ∀ d ∈ ds, d ≤ 9) : Fine n (.str (numS ds)) := by
  refine fine_str ?_
  rw [← Array.all_toList, List.all_eq_true]
  intro c m
  obtain ⟨d, md, rfl⟩ := List.mem_map.mp (show c ∈ codes ds from m)
  have := h d md
  exact decide_eq_true (by omega)
theorem Fine.shaped {n : Nat} {d : PyData} (h : Fine n d) (l : n ≤ 64) : SeqAt.shaped d = true := by
  have e : decide (d.depth ≤ 64) = true := decide_eq_true (Nat.le_trans h.2 l)
  show (d.canLay0 && _) = true
  rw [e, Bool.and_true]
  exact h.1
theorem Fine.refl {n : Nat} {d : PyData} (h : Fine n d) : PyData.eqv d d = true := SeqAt.eqv_refl d h.1
theorem Fine.mono {n m : Nat} {d : PyData} (h : Fine n d) (l : n ≤ m) : Fine m d := ⟨h.1, Nat.le_trans h.2 l⟩
end Dv

/-! A list or a tuple, told by a letter; loops over it that may write elsewhere. -/
namespace Kd
open PySem PySem.Spec PyProof.Rows L2
/-- the list or (t) the tuple at a -/
def Is (K : PySem.W.Frag) (t : Bool) (H : Hp) (a : Addr) (xs : List V) : Prop := if t = true then SqT K H a xs else SqL K H a xs
theorem Is.keep {K : PySem.W.Frag} {t : Bool} {H H' : Hp} {a : Addr} {xs : List V} (s : Same H H') (h : Is K t H a xs) : Is K t H' a xs := by
  cases t
  · exact Hf.keepL s h
  · exact Hf.keepT s h
theorem Is.sq {K : PySem.W.Frag} {t : Bool} {H : Hp} {a : Addr} {xs : List V} (h : Is K t H a xs) : SqL K H a xs ∨ SqT K H a xs := by
  cases t
  · exact .inl h
  · exact .inr h
theorem Is.tup {K : PySem.W.Frag} {H : Hp} {a : Addr} {xs : List V} (h : SqT K H a xs) : Is K true H a xs := h
theorem Is.lst {K : PySem.W.Frag} {H : Hp} {a : Addr} {xs : List V} (h : SqL K H a xs) : Is K false H a xs := h
section
variable {X : Cx}
def iSeq (K : PySem.W.Frag) (tl : TE) : TI := fun σ H R => tl σ H fun x H1 => ∃ a xs t, x = .ref a ∧ Is K t H1 a xs ∧
  ∀ J G, Walk J xs.length G (YAt xs) → (∀ H', Is K t H' a xs → G H') → R J H1
theorem pi_seq {tg l : Expr} {tl : TE} (hl : PE X l tl) : PI X tg l (iSeq X.K tl) := by
  refine ⟨fun pins s σ H R I h => ?_⟩
  refine thn (hl.run pins s σ H _ I h) fun v s1 ⟨x, H1, I1, r1, q1⟩ => ?_
  obtain ⟨a, xs, t, e, hq, q⟩ := q1
  subst e
  cases r1
  cases t with
  | false =>
    have hq : SqL X.K H1 a xs := hq
    have q := q _ _ walk_list fun H' s => s
    obtain ⟨its, rv, p, hz⟩ := I1.list hq
    refine wpAny_pyIter_list p.isList ?_
    refine ⟨s1.heap.objs.size, [s1.heap.objs.size], _, _, H1, rfl, I1.kept (t' := s1.toks) fun b o e => Heap.get?_push_of_some _ e, turn_list a _, ⟨_, Heap.get?_push_size _ rfl, rfl, rfl⟩, fun b hb => ?_, q⟩
    have e : b = s1.heap.objs.size := by simpa using hb
    subst e
    exact I1.fpOk (Nat.le_refl _) (I1.hok.fresh (Nat.le_refl _))
  | true =>
    have hq : SqT X.K H1 a xs := hq
    have q := q _ _ walk_tup fun H' s => s
    obtain ⟨its, rv, p, hz⟩ := I1.tuple hq
    refine wpAny_pyIter_tuple (show s1.heap.IsTuple a its.toArray from p) ?_
    refine ⟨s1.heap.objs.size, [s1.heap.objs.size], _, _, H1, rfl, I1.kept (t' := s1.toks) fun b o e => Heap.get?_push_of_some _ e, turn_tuple a _, ⟨_, Heap.get?_push_size _ rfl, rfl, rfl⟩, fun b hb => ?_, q⟩
    have e : b = s1.heap.objs.size := by simpa using hb
    subst e
    exact I1.fpOk (Nat.le_refl _) (I1.hok.fresh (Nat.le_refl _))
end
end Kd

/-! Comprehensions whose items are told one by one. -/
namespace Lm
open PySem L2 Wm Dv
theorem list_is {α : Type} {ys zs : List α} (l : ys.length = zs.length) (h : ∀ (i : Nat) y, ys[i]? = some y → zs[i]? = some y) : ys = zs := by
  refine List.ext_getElem? fun i => ?_
  by_cases q : i < ys.length
  · rw [h i _ (List.getElem?_eq_getElem q), List.getElem?_eq_getElem q]
  · rw [List.getElem?_eq_none (by omega), List.getElem?_eq_none (by omega)]
theorem lc_map {K : PySem.W.Frag} {J : It} {n : Nat} {G : Hp → Prop} {xs : List V} (w : Walk J n G (YAt xs)) {g : TG} {te : TE} {vs : List Nat} {σ : L2.St} {H1 : Hp} {D : Addr} {Qd : Hp → Prop} (R : Nat → V → Hp → Prop)
    (mono : ∀ i y H H', R i y H → Kt K H H' → R i y H') (hD : H1 D = none) (hn : n ≤ 1000) (hG : ∀ H', Same H1 H' → G H')
    (hs : ∀ i x H', i < n → xs[i]? = some x → Same H1 H' → ∀ (Q : V → Hp → Prop) (Z : Hp → Prop), (∀ y H4, Same H' H4 → R i y H4 → Q y H4) → g x (wipe σ vs) H' fun σ2 H2 => wipe σ2 vs = wipe σ vs ∧ tYes σ2 H2 fun b H3 => if b = true then te σ2 H3 Q else Z H3)
    (hd : ∀ H ys, Same H1 H → H D = some (.lst ys) → ys.length = n → (∀ (i : Nat) y, ys[i]? = some y → R i y H) → Qd H) :
    ∃ W : Nat → Nat → Hp → Prop, (∃ m, W 0 m (upd H1 D (.lst []))) ∧ ∀ i m H, W i m H →
      (J.stop i H ∧ Qd H) ∨ (J.go i H ∧ ∃ Nx : Hp → Prop, (∀ H', Nx H' → ∃ m', m' < m ∧ W (i + 1) m' H') ∧ ∀ x H', J.yld i H x H' → g x (wipe σ vs) H' fun σ2 H2 => wipe σ2 vs = wipe σ vs ∧ tYes σ2 H2 fun b H3 =>
        if b = true then te σ2 H3 fun y H4 => ∃ acc, H4 D = some (.lst acc) ∧ acc.length < sizeLine ∧ Nx (upd H4 D (.lst (acc ++ [y]))) else Nx H3) := by
  refine lc_it (tt := tYes) w (fun i H => Same H1 H ∧ ∃ ys : List V, ys.length = i ∧ H D = some (.lst ys) ∧ ∀ j y, ys[j]? = some y → R j y H) ⟨same_new hD, [], rfl, upd_same, fun (j : Nat) (y : V) e => by simp at e⟩ (fun i H _ h => hG H h.1) (fun i x H H' hi hP hY => ?_) (fun H hP => ?_)
  · obtain ⟨sm, ys, el, hy, hR⟩ := hP
    obtain ⟨rfl, hx⟩ := hY
    refine hs i x H' hi hx sm _ _ (fun y H4 s4 r4 => ?_)
    · refine ⟨ys, s4 _ _ hy, by rw [el]; exact small1000 (by omega), same_mut (sm.trans s4) hD, ys ++ [y], by rw [List.length_append, el]; rfl, upd_same, fun j z hz => ?_⟩
      have k5 : Kt K H4 (upd H4 D (.lst (ys ++ [y]))) := Kt.lst (s4 _ _ hy)
      by_cases lj : j < ys.length
      · rw [List.getElem?_append_left lj] at hz
        exact mono _ _ _ _ (hR j z hz) ((Kt.same s4).trans k5)
      · rw [List.getElem?_append_right (by omega)] at hz
        have e0 : j - ys.length = 0 := by
          by_cases q : j - ys.length = 0
          · exact q
          · rw [List.getElem?_eq_none (by rw [List.length_singleton]; omega)] at hz
            cases hz
        rw [e0] at hz
        have ez : y = z := by simpa using hz
        have ej : j = i := by omega
        subst ez ej
        exact mono _ _ _ _ r4 k5
  · obtain ⟨sm, ys, el, hy, hR⟩ := hP
    exact hd H ys sm hy el hR
end Lm
namespace Kx
open PySem L2
def rLen (K : PySem.W.Frag) : List V → Hp → VK → Prop := fun xs H Q => ∃ p ys, xs = [.ref p] ∧ (SqL K H p ys ∨ SqT K H p ys) ∧ Q (.int (ys.length : Nat)) H
def rTup (K : PySem.W.Frag) : List V → Hp → VK → Prop := fun xs H Q => ∃ a ys, xs = [.ref a] ∧ SqT K H a ys ∧ Q (.ref a) H
def rTupOf (K : PySem.W.Frag) : List V → Hp → VK → Prop := fun xs H Q => ∃ p ys, xs = [.ref p] ∧ ((SqL K H p ys ∧ ∀ l, H l = none → Q (.ref l) (upd H l (.tup ys))) ∨ (SqT K H p ys ∧ Q (.ref p) H))
end Kx

/-! Comprehensions whose items draw from the bag, told one by one. -/
namespace Lm
open PySem L2 Wm Dv
theorem kt_but {K : PySem.W.Frag} {H H' : Hp} {b : Addr} {n : Nat} (bag : Bag H b n) (e : But b H H') : Kt K H H' := fun a xs q => by
  obtain ⟨c, x, k, m, z, ns, hb, _⟩ := bag
  have ne : ∀ {u : HO}, H a = some u → (∀ y, u ≠ .lst y) → H' a = some u := fun {u} h n => e.keep _ _ (fun z => by subst z; rw [hb] at h; exact n _ (Option.some.inj h).symm) h
  rcases q with (q | ⟨ob, q⟩) | q
  · exact .inl (.inl (ne q fun y z => by cases z))
  · exact .inl (.inr ⟨ob, ne q fun y z => by cases z⟩)
  · exact .inr q
theorem bag_off {H : Hp} {b p : Addr} {n : Nat} (bag : Bag H b n) (h : H p = none) : p ≠ b := fun e => by
  obtain ⟨_, _, _, _, _, _, hb, _⟩ := bag
  rw [e, hb] at h
  cases h
theorem lc_bag {K : PySem.W.Frag} {J : It} {n : Nat} {G : Hp → Prop} {xs : List V} (w : Walk J n G (YAt xs)) {g : TG} {te : TE} {vs : List Nat} {σ : L2.St} {H1 : Hp} {D : Addr} {Qd : Hp → Prop} {b : Addr} {m c : Nat} (R : Nat → V → Hp → Prop)
    (mono : ∀ i y H H', R i y H → Kt K H H' → R i y H') (hD : H1 D = none) (bag : Bag H1 b m) (hn : n ≤ 1000) (hG : ∀ H', But b H1 H' → G H')
    (hs : ∀ i x H', i < n → xs[i]? = some x → But b H1 H' → Bag H' b (m + c * i) → ∀ (Q : V → Hp → Prop) (Z : Hp → Prop), (∀ y H4, But b H' H4 → Bag H4 b (m + c * (i + 1)) → R i y H4 → Q y H4) → g x (wipe σ vs) H' fun σ2 H2 => wipe σ2 vs = wipe σ vs ∧ tYes σ2 H2 fun b H3 => if b = true then te σ2 H3 Q else Z H3)
    (hd : ∀ H ys, But b H1 H → Bag H b (m + c * n) → H D = some (.lst ys) → ys.length = n → (∀ (i : Nat) y, ys[i]? = some y → R i y H) → Qd H) :
    ∃ W : Nat → Nat → Hp → Prop, (∃ m, W 0 m (upd H1 D (.lst []))) ∧ ∀ i m H, W i m H →
      (J.stop i H ∧ Qd H) ∨ (J.go i H ∧ ∃ Nx : Hp → Prop, (∀ H', Nx H' → ∃ m', m' < m ∧ W (i + 1) m' H') ∧ ∀ x H', J.yld i H x H' → g x (wipe σ vs) H' fun σ2 H2 => wipe σ2 vs = wipe σ vs ∧ tYes σ2 H2 fun b H3 =>
        if b = true then te σ2 H3 fun y H4 => ∃ acc, H4 D = some (.lst acc) ∧ acc.length < sizeLine ∧ Nx (upd H4 D (.lst (acc ++ [y]))) else Nx H3) := by
  have db := bag_off bag hD
  refine lc_it (tt := tYes) w (fun i H => But b H1 H ∧ Bag H b (m + c * i) ∧ ∃ ys : List V, ys.length = i ∧ H D = some (.lst ys) ∧ ∀ j y, ys[j]? = some y → R j y H)
    ⟨But.of (same_new hD), (bag.keep (same_new hD)).mono (by omega), [], rfl, upd_same, fun (j : Nat) (y : V) e => by simp at e⟩ (fun i H _ h => hG H h.1) (fun i x H H' hi hP hY => ?_) (fun H hP => ?_)
  · obtain ⟨bt, bg, ys, el, hy, hR⟩ := hP
    obtain ⟨rfl, hx⟩ := hY
    refine hs i x H' hi hx bt bg _ _ (fun y H4 b4 g4 r4 => ?_)
    have hy4 := b4.keep _ _ db hy
    have k5 : Kt K H4 (upd H4 D (.lst (ys ++ [y]))) := Kt.lst hy4
    refine ⟨ys, hy4, by rw [el]; exact small1000 (by omega), (bt.trans b4).put hD, Bag.put bag hD (bt.trans b4) g4, ys ++ [y], by rw [List.length_append, el]; rfl, upd_same, fun j z hz => ?_⟩
    by_cases lj : j < ys.length
    · rw [List.getElem?_append_left lj] at hz
      exact mono _ _ _ _ (hR j z hz) ((kt_but bg b4).trans k5)
    · rw [List.getElem?_append_right (by omega)] at hz
      have e0 : j - ys.length = 0 := by
        by_cases q : j - ys.length = 0
        · exact q
        · rw [List.getElem?_eq_none (by rw [List.length_singleton]; omega)] at hz
          cases hz
      rw [e0] at hz
      have ez : y = z := by simpa using hz
      have ej : j = i := by omega
      subst ez ej
      exact mono _ _ _ _ r4 k5
  · obtain ⟨bt, bg, ys, el, hy, hR⟩ := hP
    exact hd H ys bt bg hy el hR
end Lm

/-! A method with keywords alone; a def that may raise, where it does not. -/
namespace Mk1
open PySem PySem.Spec PyProof.Rows L2
theorem passF {X : Cx} : Passes (L2.CX X.prog X.w) X (fun _ _ _ => False) := by
  intro pins σ H s e s' I h
  obtain ⟨_, _, _, _, _, _, _, _, _, _, _, _, z⟩ := h
  exact z.elim
section
variable {X : Cx} {CX : CXT} {k : Nat} {f C : Addr} {fd : FuncData} {ps ks : List Str} {sp : Sp} {E : XK} {m : Str} {pos apos : Pos} {o : Expr} {kws : List Keyword} {ta : TE} {tk : TA} {g : List Value → List Value → List Value} {gV : List V → List V → List V} {pl : Sem Bool}
def tMethN (C : Addr) (m : Str) (n : Nat) (sp : Sp) (gV : List V → List V → List V) (E : XK) (ta : TE) (tk : TA) : TE := fun σ H Q => ta σ H fun x H1 => ∃ a dx fs, x = .ref a ∧ H1 a = some (.ins C dx fs) ∧ fs.lookup m = none ∧
  tk σ H1 fun zs H2 => zs.length = n ∧ sp (gV [x] zs) H2 Q E
theorem pe_methN (ho : PE X o ta) (c : Cls X.K C) (hm : Meth X.K C m f) (F : FnOk X.prog X.w X.K X.mg X.base CX k f fd ps sp) (hr : Room k X.A) (hb : KBn X.K fd ps 1 ks g gV) (hx : Passes CX X E) (hk : PK X kws tk)
    (h1 : (backToKw pos (keywordEach kws X.env)).all (·.1.isSome) = true := by rfl) (h2 : (backToKw pos (keywordEach kws X.env)).filterMap (·.1) = ks := by rfl)
    (h3 : ((backTo pos (starEach [] X.env)).any (·.1) || (backToKw pos (keywordEach kws X.env)).any (·.1.isNone)) = false := by rfl)
    (h4 : eval (.Call (.Attribute o m apos) [] kws pos) X.env = (do
      let v ← eval o X.env
      standAt apos.atName
      let (a, b) ← holding [v] (getMethod v m pl)
      callWith pos a b (backTo pos (starEach [] X.env)) (backToKw pos (keywordEach kws X.env))) := by rfl) :
    PE X (.Call (.Attribute o m apos) [] kws pos) (tMethN C m ks.length sp gV E ta tk) := by
  constructor
  intro pins s σ H Q I h
  refine PySem.W.methodCall_KW (pl := pl) (thn (ho.run pins s σ H _ I h) fun u s1 w => ?_) h4
  obtain ⟨x, H1, I1, rx, a, dx, fs, ex, ea, l, q⟩ := w
  subst ex
  cases (show u = Value.ref a from rx)
  refine getmeth_ok I1 ea c hm l ?_
  refine PySem.W.callWith_KW0 (first := [.ref a]) (h₀ := X.base) I.ok.mod.kin hm.kp h1 (thn (hk.run pos pins s1 σ H1 _ I1 q) fun ws s2 w2 => ?_) h3
  obtain ⟨zs, H2, I2, rz, l2, q2⟩ := w2
  refine ⟨I2.kIn, ?_⟩
  rw [h2]
  exact run_fnN (us := [.ref a]) (vs := [.ref a]) F hr hb hx I2 (.cons rfl .nil) rz rfl l2 q2
end
end Mk1

/-! Operators of own classes, by values: ==, <, .. by __eq__, __lt__, ..; |, &, - by __or__, ..; in by __contains__; len by __len__. -/
namespace Ow
open PySem PySem.Spec PyProof.Rows L2
section
variable {X : Cx} {CX : CXT} {C g : Addr} {n : Nat} {sp : Sp} {E : XK}
theorem ins_at {pins : List (Addr × Obj)} {σ : L2.St} {H : Hp} {s : Shared} {a C dx : Addr} {fs : List (Str × V)} (I : Inv X pins σ H s) (e : H a = some (.ins C dx fs)) : ∃ ox od, PySem.W.InstAt s.heap a ox C od := by
  obtain ⟨mA, O, _⟩ := ins_get I.hok e
  obtain ⟨od, J, _⟩ := O.look
  exact ⟨_, _, J⟩
/-- x op y by the own def of x's class at C; y's class not below C -/
def rCmp (K : PySem.W.Frag) (C : Addr) (sp : Sp) (E : XK) : R2 := fun x y H Q => ∃ a dx fs t, x = .ref a ∧ H a = some (.ins C dx fs) ∧ TyX K H y t ∧ PySem.W.notFirst K C t = true ∧ sp [x, y] H Q E
theorem op_cmp {op : CmpOp} (hop : ∀ a b, compareOp op a b = richCompare op a b) (hs : PySem.W.findIn X.K (.ref C) (cmpInfo op).2.1 = some (some (.ref g))) (hf : PySem.W.isFn X.K (.ref g) = true) (F : FnR X.prog X.w X.K X.mg X.base CX n g sp)
    (hr : Room n X.A) (hx : Passes CX X E) : OpR X (compareOp op) (rCmp X.K C sp E) := by
  intro pins s σ H x y v u Q I rx ry h
  obtain ⟨a, dx, fs, t, rfl, ha, ty, hn, q⟩ := h
  cases (show v = Value.ref a from rx)
  obtain ⟨ox, od, J⟩ := ins_at I ha
  obtain ⟨P, k, hp, _⟩ := kit_of I ry ty
  obtain ⟨m, hF⟩ := I.fr
  rw [hop]
  refine PySem.W.cmp_K (op := op) (tb := t) hr.units0 hF I.ok.mod.kin J (k.ty _ _ I.kIn hp) hn hs hf ?_
  refine wpAny_mono (wpAny_call (run_fnR (us := [.ref a, u]) (vs := [.ref a, y]) F hr hx I (.cons rfl (.cons ry .nil)) q)) (fun w s' z => ?_) fun _ _ x => x
  obtain ⟨z', H', I', rz, qz⟩ := z
  exact SlX.cmpback rz ⟨z', H', I', rz, qz⟩
/-- x op y, both of the class at C -/
def rBin (C : Addr) (sp : Sp) (E : XK) : R2 := fun x y H Q => ∃ a dx fs b dy gs, x = .ref a ∧ y = .ref b ∧ H a = some (.ins C dx fs) ∧ H b = some (.ins C dy gs) ∧ sp [x, y] H Q E
theorem op_bin {op : Operator} (hc : PySem.W.selfFirst X.K C = true) (hs : PySem.W.findIn X.K (.ref C) (PySem.dunder op.info.2) = some (some (.ref g))) (hf : PySem.W.isFn X.K (.ref g) = true) (F : FnR X.prog X.w X.K X.mg X.base CX n g sp)
    (hr : Room n X.A) (hx : Passes CX X E) : OpR X (binaryOp op) (rBin C sp E) := by
  intro pins s σ H x y v u Q I rx ry h
  obtain ⟨a, dx, fs, b, dy, gs, rfl, rfl, ha, hb, q⟩ := h
  cases (show v = Value.ref a from rx)
  cases (show u = Value.ref b from ry)
  obtain ⟨ox, od, J⟩ := ins_at I ha
  obtain ⟨oy, oe, J'⟩ := ins_at I hb
  obtain ⟨m, hF⟩ := I.fr
  refine PySem.W.binop_K (op := op) hF I.ok.mod.kin J J'.type hc hs hf ?_
  refine wpAny_mono (wpAny_call (run_fnR (us := [.ref a, .ref b]) (vs := [.ref a, .ref b]) F hr hx I (.cons rfl (.cons rfl .nil)) q)) (fun w s' z => ?_) fun _ _ x => x
  obtain ⟨z', H', I', rz, qz⟩ := z
  exact SlX.cmpback rz ⟨z', H', I', rz, qz⟩
/-- y in x, by __contains__ (its answer a bool) -/
def rIn (C : Addr) (sp : Sp) (E : XK) (neg : Bool) : R2 := fun y x H Q => ∃ a dx fs, x = .ref a ∧ H a = some (.ins C dx fs) ∧ sp [x, y] H (fun z H' => ∃ c, z = .bl c ∧ Q (.bl (if neg then !c else c)) H') E
theorem op_in (hs : PySem.W.findIn X.K (.ref C) "__contains__" = some (some (.ref g))) (hf : PySem.W.isFn X.K (.ref g) = true) (F : FnR X.prog X.w X.K X.mg X.base CX n g sp)
    (hr : Room n X.A) (hx : Passes CX X E) : OpR X (compareOp .In) (rIn C sp E false) := by
  intro pins s σ H y x u v Q I ry rx h
  obtain ⟨a, dx, fs, rfl, ha, q⟩ := h
  cases (show v = Value.ref a from rx)
  obtain ⟨ox, od, J⟩ := ins_at I ha
  obtain ⟨m, hF⟩ := I.fr
  refine PySem.W.in_K hF I.ok.mod.kin J hs hf ?_
  refine wpAny_mono (wpAny_call (run_fnR (us := [.ref a, u]) (vs := [.ref a, y]) F hr hx I (.cons rfl (.cons ry .nil)) q)) (fun w s' z => ?_) fun _ _ x => x
  obtain ⟨z', H', I', rz, c, rfl, qz⟩ := z
  cases (show w = Value.bool c from rz)
  exact wpAny_truthy_bool ⟨.bl c, H', I', rfl, qz⟩
theorem op_notIn (hs : PySem.W.findIn X.K (.ref C) "__contains__" = some (some (.ref g))) (hf : PySem.W.isFn X.K (.ref g) = true) (F : FnR X.prog X.w X.K X.mg X.base CX n g sp)
    (hr : Room n X.A) (hx : Passes CX X E) : OpR X (compareOp .NotIn) (rIn C sp E true) := by
  intro pins s σ H y x u v Q I ry rx h
  obtain ⟨a, dx, fs, rfl, ha, q⟩ := h
  cases (show v = Value.ref a from rx)
  obtain ⟨ox, od, J⟩ := ins_at I ha
  obtain ⟨m, hF⟩ := I.fr
  refine PySem.W.notIn_K hF I.ok.mod.kin J hs hf ?_
  refine wpAny_mono (wpAny_call (run_fnR (us := [.ref a, u]) (vs := [.ref a, y]) F hr hx I (.cons rfl (.cons ry .nil)) q)) (fun w s' z => ?_) fun _ _ x => x
  obtain ⟨z', H', I', rz, c, rfl, qz⟩ := z
  cases (show w = Value.bool c from rz)
  exact wpAny_truthy_bool ⟨.bl (!c), H', I', rfl, qz⟩
/-- len(x), by __len__ -/
def rLen (C : Addr) (sp : Sp) (E : XK) : List V → Hp → VK → Prop := fun xs H Q => ∃ a dx fs, xs = [V.ref a] ∧ H a = some (.ins C dx fs) ∧ sp [.ref a] H (fun z H' => ∃ i : Int, z = .int i ∧ 0 ≤ i ∧ i < 2 ^ 63 ∧ Q (.int i) H') E
theorem call_len (hs : PySem.W.findIn X.K (.ref C) "__len__" = some (some (.ref g))) (hf : PySem.W.isFn X.K (.ref g) = true) (F : FnR X.prog X.w X.K X.mg X.base CX n g sp)
    (hr : Room (n + 1) X.A) (hx : Passes CX X E) : CallR X (.builtin "len") (rLen C sp E) := by
  intro pins s σ H xs us Q I r h
  obtain ⟨a, dx, fs, rfl, ha, q⟩ := h
  obtain ⟨u, rfl, ru⟩ := r.one
  cases (show u = Value.ref a from ru)
  obtain ⟨ox, od, J⟩ := ins_at I ha
  obtain ⟨m, hF⟩ := I.fr
  refine PySem.W.len_K hF I.ok.mod.kin J hs hf (wpAny_mono (wpAny_call (SlX.run_at (us := [.ref a]) (ws := [.ref a]) F hr.in1 I.env0.in1 hx I (.cons rfl .nil) q)) (fun w s' z => ?_) fun _ _ x => x)
  obtain ⟨z', H', I', rz, i, rfl, h0, h1, qz⟩ := z
  obtain ⟨t, e⟩ := (show ∃ t, w = Value.int i t from rz)
  cases e
  exact ⟨⟨h0, h1⟩, .int i, H', I'.tok _, ⟨_, rfl⟩, qz⟩
end
end Ow

/-! x != y of two instances of an own class with an own __eq__ and no __ne__. -/
namespace On
open PySem PySem.Spec PyProof.Rows L2
structure NeOk (K : PySem.W.Frag) (C f : Addr) : Prop where
  ex : ∃ (nm q : Str) (N : Addr) (bs : List Value) (hd : Bool) (sn : List Str) (sub : List Value) (ab : Bool) (col : Option Bool) (dd : Option Addr) (k0 k1 k2 k3 k5 : Option Value),
    K.lookup C = some (excClassObj nm q C N bs [.type "object"] hd sn sub ab col dd k0 k1 k2 k3 k5 "object.__new__") ∧ PySem.W.nsOkIn K N = true ∧ PySem.W.nsIn K N "__eq__" = some (some (.ref f)) ∧ PySem.W.nsIn K N "__ne__" = some none
  fn : PySem.W.isFn K (.ref f) = true
theorem ns_some {K : PySem.W.Frag} {h : Heap} {N : Addr} {mg : Str → Option Value} {n : Str} {v : Value} (X : K.In h) (G : h.Ns N mg) (e : PySem.W.nsIn K N n = some (some v)) : mg n = some v := by
  obtain ⟨o, es, ep, ho, hd, _, hf⟩ := G
  unfold PySem.W.nsIn at e
  split at e
  · rename_i c d es' n' sl q
    have z := X _ _ q
    rw [ho] at z
    cases z
    cases hd
    split at e
    · rename_i y hy
      rw [← hf]
      unfold nsFind findBy
      rw [← Array.find?_toList, hy]
      exact Option.some.inj e
    · rename_i hy
      split at e <;> cases e
  · cases e
section
variable {X : Cx} {CX : CXT} {C g : Addr} {n : Nat} {sp : Sp} {E : XK}
def rNe (C : Addr) (sp : Sp) (E : XK) : R2 := fun x y H Q => ∃ a dx fs b dy gs, x = .ref a ∧ y = .ref b ∧ H a = some (.ins C dx fs) ∧ H b = some (.ins C dy gs) ∧ sp [x, y] H (fun z H' => ∃ c, z = .bl c ∧ Q (.bl (!c)) H') E
theorem op_ne (W : NeOk X.K C g) (F : FnR X.prog X.w X.K X.mg X.base CX n g sp) (hr : Room (n + 1) X.A) (hu : X.A.units + 64 < cLine) (hx : Passes CX X E) : OpR X (compareOp .NotEq) (rNe C sp E) := by
  intro pins s σ H x y v u Q I rx ry h
  obtain ⟨a, dx, fs, b, dy, gs, rfl, rfl, ha, hb, q⟩ := h
  cases (show v = Value.ref a from rx)
  cases (show u = Value.ref b from ry)
  obtain ⟨ox, od, J⟩ := Ow.ins_at I ha
  obtain ⟨oy, oe, J'⟩ := Ow.ins_at I hb
  obtain ⟨nm, qn, N, bs, hd, sn, sub, ab, col, dd, k0, k1, k2, k3, k5, lC, ok, e1, e2⟩ := W.ex
  have KX := I.kIn
  have G : s.heap.Ns N (s.heap.nsMap N) := .of_isNs (PySem.W.isNs_of_in KX ok)
  have m1 := ns_some KX G e1
  have m2 := PySem.W.ns_none_of KX G e2
  obtain ⟨of, hf, hc⟩ : ∃ of, X.K.lookup g = some of ∧ of.cls = .type "function" := by
    have z := W.fn
    unfold PySem.W.isFn PySem.W.typeIn at z
    have z := beq_iff_eq.mp z
    obtain ⟨of, h1, h2⟩ := Option.map_eq_some_iff.mp z
    exact ⟨of, h1, h2⟩
  have Y : s.heap.OwnEqNoNe a C g "object" [.type "object"] := ⟨ox, of, nm, qn, N, bs, hd, sn, sub, ab, col, dd, k0, k1, k2, k3, k5, "object.__new__", s.heap.nsMap N, _, J.at_, J.cls, KX _ _ lC, G, m1, KX _ _ hf, hc, PySem.F.mro_object, rfl, m2⟩
  obtain ⟨hh, gn, dr, tk, os⟩ := s
  refine compareOp_ne_ownEq PySem.F.cmp_object Y J'.at_ J'.cls (by omega) (wpAny_mono (wpAny_call (SlX.run_at (us := [.ref a, .ref b]) (ws := [.ref a, .ref b]) F hr.in1 I.env0.in1 hx I (.cons rfl (.cons rfl .nil)) q)) (fun w s' z => ?_) fun _ _ z => z)
  obtain ⟨z', H', I', rz, c, rfl, qz⟩ := z
  cases (show w = Value.bool c from rz)
  exact ⟨c, rfl, .bl (!c), H', I', rfl, qz⟩
end
end On

/-! set | set, set & set, set - set of sets of ints: the tables that are laid for them. -/
namespace So
open PySem PySem.Spec PyProof.Rows L2
/-- the masks that come when sets are merged -/
def M2 (m : Nat) : Prop := m ∈ [7, 15, 31, 63, 127]
/-- every place begins a run -/
theorem orbit {m : Nat} (hm : M2 m) : (∀ j ∈ List.range (m + 1), j ∈ (List.range (m + 1)).map (lcgN m)) ∧ lcgN m (m + 1) = lcgN m 0 := by
  simp only [M2, List.mem_cons, List.not_mem_nil, or_false] at hm
  rcases hm with rfl | rfl | rfl | rfl | rfl
  all_goals exact ⟨by decide +kernel, by decide +kernel⟩
theorem orbit_at {m : Nat} (hm : M2 m) {j : Nat} (hj : j ≤ m) : ∃ a ≤ m, lcgN m a = j := by
  have q := (orbit hm).1 j (by simp; omega)
  simp only [List.mem_map, List.mem_range] at q
  obtain ⟨a, ha, e⟩ := q
  exact ⟨a, by omega, e⟩
theorem meets {m : Nat} (hm : M2 m) (b : Nat) (hb : b < 2 ^ 64) {j : Nat} (hj : j ≤ m) : ∃ n, n < SetTable.turns m ∧ runI m b n = j := by
  obtain ⟨x, hx, ex⟩ := orbit_at hm (runI_le m b 12)
  obtain ⟨y, hy, ey⟩ := orbit_at hm hj
  have more : ∀ z, lcgI m (runI m b 12) z = lcgN m (x + z) := fun z => by rw [← ex, lcgN_add]
  have turn : ∀ z, lcgN m (m + 1 + z) = lcgN m z := fun z => by
    rw [← lcgN_add, (orbit hm).2, lcgN_add, Nat.zero_add]
  by_cases c : x ≤ y
  · refine ⟨12 + (y - x), by unfold SetTable.turns; omega, ?_⟩
    rw [runI_tail hb, more, show x + (y - x) = y by omega, ey]
  · refine ⟨12 + (m + 1 + y - x), by unfold SetTable.turns; omega, ?_⟩
    rw [runI_tail hb, more, show x + (m + 1 + y - x) = m + 1 + y by omega, turn, ey]
/-- where some run begins at a free place, a free place is found -/
theorem free_at {m : Nat} (owner : Array (Option Nat)) : ∀ (f n i b : Nat), i ≤ m → n < f → oAt owner (itL m i b n).1 = none →
    ∃ x, x ≤ m ∧ oAt owner x = none ∧ SetTable.layClean.free m owner f i b = some x
  | 0, n, _, _, _, h, _ => absurd h (Nat.not_lt_zero n)
  | f + 1, n, i, b, hi, h, z => by
    rw [free_succ]
    have re := runEnd_bd hi
    cases q : (List.range (SetTable.runEnd m i + 1 - i)).find? fun k => (oAt owner (i + k)).isNone with
    | some k =>
      have k1 := List.mem_range.mp (List.mem_of_find?_eq_some q)
      have k2 := List.find?_some q
      exact ⟨i + k, by omega, Option.isNone_iff_eq_none.mp k2, rfl⟩
    | none =>
      cases n with
      | zero =>
        have w := List.find?_eq_none.mp q 0 (by simp; omega)
        rw [Nat.add_zero] at w
        have z0 : oAt owner i = none := z
        rw [z0] at w
        exact absurd rfl w
      | succ n => exact free_at owner f n _ _ (Nat.le_of_lt_succ (Nat.mod_lt _ (by omega))) (by omega) z
/-- the elements laid so far: each of the first k has one place -/
structure Laid (m k : Nat) (owner : Array (Option Nat)) : Prop where
  sz : owner.size = m + 1
  pm : ((List.range (m + 1)).filterMap fun j => owner.getD j none).Perm (List.range k)
theorem fm_congr {α β : Type} {f g : α → Option β} : ∀ {l : List α}, (∀ x ∈ l, f x = g x) → l.filterMap f = l.filterMap g
  | [], _ => rfl
  | x :: l, h => by
    have ih := fm_congr (l := l) fun y hy => h y (List.mem_cons_of_mem _ hy)
    have e := h x List.mem_cons_self
    simp only [List.filterMap_cons, e, ih]
theorem put_perm {f g : Nat → Option Nat} {x k : Nat} (e : g x = some k) (e0 : f x = none) (o : ∀ y, y ≠ x → g y = f y) : ∀ l : List Nat, l.Nodup → x ∈ l → (l.filterMap g).Perm (k :: l.filterMap f)
  | [], _, h => by cases h
  | y :: l, nd, h => by
    rw [List.nodup_cons] at nd
    by_cases c : y = x
    · subst c
      rw [List.filterMap_cons_some e, List.filterMap_cons_none e0, fm_congr fun z hz => o z fun q => nd.1 (q ▸ hz)]
    · have ih := put_perm e e0 o l nd.2 ((List.mem_cons.mp h).resolve_left fun q => c q.symm)
      cases q : f y with
      | none => rw [List.filterMap_cons_none ((o y c).trans q), List.filterMap_cons_none q]; exact ih
      | some z => rw [List.filterMap_cons_some ((o y c).trans q), List.filterMap_cons_some q]; exact (ih.cons z).trans (.swap _ _ _)
theorem Laid.put {m k : Nat} {owner : Array (Option Nat)} (L : Laid m k owner) {x : Nat} (hx : x ≤ m) (e : oAt owner x = none) : Laid m (k + 1) (owner.setIfInBounds x (some k)) := by
  have xs : x < owner.size := by rw [L.sz]; omega
  refine ⟨by rw [Array.size_setIfInBounds, L.sz], ?_⟩
  refine (put_perm (x := x) (k := k) (f := fun j => owner.getD j none) ?_ ?_ (fun y ny => ?_) _ List.nodup_range (by simp; omega)).trans ?_
  · simp [Array.getD_eq_getD_getElem?, Array.getElem?_setIfInBounds, xs]
  · simpa [oAt, Array.getD_eq_getD_getElem?, xs] using e
  · simp only [Array.getD_eq_getD_getElem?, Array.getElem?_setIfInBounds, if_neg ny.symm]
  · refine (L.pm.cons k).trans ?_
    rw [List.range_succ]
    exact (List.perm_append_singleton k _).symm
theorem Laid.room {m k : Nat} {owner : Array (Option Nat)} (L : Laid m k owner) (hk : k ≤ m) : ∃ j, j ≤ m ∧ oAt owner j = none := by
  refine Classical.byContradiction fun c => ?_
  have full : ∀ l : List Nat, (∀ j ∈ l, j ≤ m) → (l.filterMap fun j => owner.getD j none).length = l.length := fun l => by
    induction l with
    | nil => exact fun _ => rfl
    | cons j l ih =>
      intro hl
      have hj := hl j List.mem_cons_self
      cases q : owner.getD j none with
      | none =>
        refine absurd ⟨j, hj, ?_⟩ c
        have js : j < owner.size := by rw [L.sz]; omega
        simpa [oAt, Array.getD_eq_getD_getElem?, js] using q
      | some z => rw [List.filterMap_cons_some (f := fun j => owner.getD j none) q, List.length_cons, List.length_cons, ih fun y hy => hl y (List.mem_cons_of_mem _ hy)]
  have q := full (List.range (m + 1)) fun j hj => by simp at hj; omega
  rw [L.pm.length_eq, List.length_range, List.length_range] at q
  omega
theorem lay_fold {m : Nat} (hm : M2 m) : ∀ (hs : List Int) (k : Nat) (owner : Array (Option Nat)), Laid m k owner → k + hs.length ≤ m →
    ∃ o2, hs.foldl (stepF m) (some (owner, k)) = some (o2, k + hs.length) ∧ Laid m (k + hs.length) o2
  | [], k, owner, L, _ => ⟨owner, rfl, L⟩
  | h :: hs, k, owner, L, hl => by
    rw [List.length_cons] at hl
    obtain ⟨j, hj, ej⟩ := L.room (by omega)
    obtain ⟨n, hn, en⟩ := meets hm (SetTable.bits h) (bits_lt h) hj
    obtain ⟨x, hx, ex, fx⟩ := free_at (m := m) owner (SetTable.turns m) n (SetTable.bits h % (m + 1)) (SetTable.bits h) (Nat.le_of_lt_succ (Nat.mod_lt _ (by omega))) hn (by rw [itL_run, en]; exact ej)
    obtain ⟨o2, e2, L2⟩ := lay_fold hm hs (k + 1) _ (L.put hx ex) (by omega)
    refine ⟨o2, ?_, by rw [List.length_cons, Nat.add_comm hs.length 1, ← Nat.add_assoc]; exact L2⟩
    rw [List.foldl_cons, stepF_some fx, e2, List.length_cons, Nat.add_comm hs.length 1, ← Nat.add_assoc]
/-- any elements are laid in a table of more places -/
theorem laid_ok {m : Nat} (hm : M2 m) {hs : Array Int} (hn : hs.size ≤ m) (fi mo : Nat) (led pl : Bool) :
    ∃ t order, SetTable.laid m fi mo led pl hs = some (t, order) ∧ order.toList.Perm (List.range hs.size) ∧ Ris t.place.toList ∧ t.place.size = hs.size ∧ t.dummies = #[] ∧ t.mask = m ∧ t.led = led := by
  obtain ⟨o2, e, L⟩ := lay_fold hm hs.toList 0 (Array.replicate (m + 1) none) ⟨by simp, by
    have z : ∀ l : List Nat, (l.filterMap fun j => (Array.replicate (m + 1) (none : Option Nat)).getD j none) = [] := fun l => by
      induction l with
      | nil => rfl
      | cons j l ih =>
        rw [List.filterMap_cons_none, ih]
        simp only [Array.getD_eq_getD_getElem?, Array.getElem?_replicate]
        split <;> rfl
    rw [z]
    exact .nil⟩ (by rw [Array.length_toList]; omega)
  rw [Array.length_toList, Nat.zero_add] at L
  have lc : SetTable.layClean m hs = some o2 := by rw [layClean_eq, e]; rfl
  have ris := ris_live (fun j => o2.getD j none) (List.range (m + 1)) (by unfold Ris; exact List.pairwise_lt_range)
  have snd : (((List.range (m + 1)).filterMap fun j => (o2.getD j none).map (j, ·)).map (·.2)) = (List.range (m + 1)).filterMap fun j => o2.getD j none := by
    rw [List.map_filterMap]
    refine fm_congr fun j _ => ?_
    cases o2.getD j none <;> rfl
  refine ⟨_, _, by unfold SetTable.laid; rw [lc]; rfl, ?_, ris.1, ?_, rfl, rfl, rfl⟩
  · show ((((List.range (m + 1)).filterMap fun j => (o2.getD j none).map (j, ·)).map (·.2))).Perm _
    rw [snd]
    exact L.pm
  · rw [List.size_toArray, List.length_map, ← List.length_map (f := Prod.snd), snd, L.pm.length_eq, List.length_range]
end So
namespace So
open PySem PySem.Spec PyProof.Rows L2
/-- what a table holds: S its members, n their number -/
structure Tab (w : World) (S : Int → Bool) (n : Nat) (es : Array (Int × Value)) (t : SetTable) : Prop where
  g : ∀ e ∈ es.toList, GoodE e
  nd : (es.toList.map keyOf).Nodup
  mem : ∀ k, S k = true ↔ k ∈ es.toList.map keyOf
  bd : es.size < scanBound
  fit : t.fits es.size = true
  num : es.size = n
  ris : Ris t.place.toList
  led : w.params.followText "set-order" = true ∨ t.led = true
/-- a set's object at an address -/
def At (h : Heap) (a : Addr) (es : Array (Int × Value)) (ep : Nat) (t : SetTable) : Prop := ∃ o, h.get? a = some o ∧ o.ExactSet ∧ o.data = .set es ep t
theorem setR_iff {w : World} {h : Heap} {a : Addr} {S : Int → Bool} {n : Nat} : SetR w h a S n ↔ ∃ es ep t, At h a es ep t ∧ Tab w S n es t := by
  constructor
  · rintro ⟨o, es, ep, t, h1, h2, h3, h4, h5, h6, h7, h8, h9, hA, hB⟩
    exact ⟨es, ep, t, ⟨o, h1, h2, h3⟩, ⟨h4, h5, h6, h7, h8, h9, hA, hB⟩⟩
  · rintro ⟨es, ep, t, ⟨o, h1, h2, h3⟩, T⟩
    exact ⟨o, es, ep, t, h1, h2, h3, T.g, T.nd, T.mem, T.bd, T.fit, T.num, T.ris, T.led⟩
theorem fits_iff {t : SetTable} {n : Nat} : t.fits n = true ↔ t.place.size = n ∧ t.place.size + t.dummies.size ≤ t.mask := by
  unfold SetTable.fits SetTable.fill
  rw [Bool.and_eq_true, beq_iff_eq, decide_eq_true_eq]
theorem Tab.turn {w : World} {S : Int → Bool} {n : Nat} {es es' : Array (Int × Value)} {t t' : SetTable} (T : Tab w S n es t) (p : es'.toList.Perm es.toList) (f : t'.fits es'.size = true) (r : Ris t'.place.toList)
    (l : w.params.followText "set-order" = true ∨ t'.led = true) : Tab w S n es' t' := by
  have z : es'.size = es.size := by rw [← Array.length_toList, p.length_eq, Array.length_toList]
  exact ⟨fun e he => T.g e (p.mem_iff.mp he), (p.map keyOf).nodup_iff.mpr T.nd, fun k => (T.mem k).trans (p.map keyOf).mem_iff.symm, by rw [z]; exact T.bd, f, by rw [z]; exact T.num, r, l⟩
theorem pick_all {α : Type} : ∀ l : List α, (List.range l.length).filterMap (fun i => l[i]?) = l
  | [] => rfl
  | x :: l => by
    rw [List.length_cons, List.range_succ_eq_map, List.filterMap_cons_some (f := fun i => (x :: l)[i]?) (b := x) rfl, List.filterMap_map]
    exact congrArg (x :: ·) (pick_all l)
theorem pick_perm {es : Array (Int × Value)} {order : Array Nat} (h : order.toList.Perm (List.range es.size)) : (order.filterMap (es[·]?)).toList.Perm es.toList := by
  have q := h.filterMap fun i => es.toList[i]?
  rw [← Array.length_toList, pick_all] at q
  rw [Array.toList_filterMap]
  simpa using q
section
variable {P : Program} {w : World} {A : Around} {E : Value → Shared → Prop} {s : Shared} {a : Addr} {S : Int → Bool} {n : Nat} {es : Array (Int × Value)} {ep : Nat} {t : SetTable}
/-- the sizes that a table grows to -/
theorem sizes {k : Nat} (h : k < 64) : M2 (SetTable.sizeAbove (k * 2) - 1) ∧ k ≤ SetTable.sizeAbove (k * 2) - 1 ∧ SetTable.sizeAbove (k * 2) ≤ 128 := by
  have q : ∀ k ∈ List.range 64, (SetTable.sizeAbove (k * 2) - 1) ∈ [7, 15, 31, 63, 127] ∧ k ≤ SetTable.sizeAbove (k * 2) - 1 ∧ SetTable.sizeAbove (k * 2) ≤ 128 := by decide +kernel
  exact q k (List.mem_range.mpr h)
theorem relay {k : Nat} (hk : k < 64) (hn : n ≤ k) (a0 : At s.heap a es ep t) (T : Tab w S n es t) {Q : Unit → Shared → Prop}
    (q : ∀ h' es' t', Heap.SameBut a s.heap h' → At h' a es' (ep + 1) t' → Tab w S n es' t' → t'.dummies = #[] → t'.mask = SetTable.sizeAbove (k * 2) - 1 → Q () { s with heap := h' }) :
    wpAny (model P w) A (setRelay a (k * 2)) Q E s := by
  obtain ⟨o, ho, hx, hd⟩ := a0
  obtain ⟨m2, km, w128⟩ := sizes hk
  obtain ⟨t', order, e, pm, ris, sz, dm, mk, ld⟩ := laid_ok m2 (hs := es.map (·.1)) (by rw [Array.size_map, T.num]; omega) t.finger (t.movedTo (SetTable.sizeAbove (k * 2) - 1)) t.led t.plain
  rw [Array.size_map] at pm sz
  have pp := pick_perm pm
  have zz : (order.filterMap (es[·]?)).size = es.size := by rw [← Array.length_toList, pp.length_eq, Array.length_toList]
  have e' : t.relaid (es.map (·.1)) (k * 2) = some (t', order) := e
  have sl := sizeLine_eq
  rw [setRelay_eq]
  refine wpAny_bind (wpAny_setState_of ho hd T.fit ?_)
  dsimp only
  refine wp_if_neg (by omega) ?_
  try refine wpAny_bind (wpAny_pure ?_)
  rw [e']
  dsimp only
  refine wpAny_bind (wp_if_neg (by rw [zz]; simp) ?_)
  try refine wpAny_bind (wpAny_pure ?_)
  refine wpAny_pure (wpAny_storeSet_of ho hd ?_ (by rw [zz]; exact fits_of_scanBound T.bd))
  exact q _ _ _ (Heap.SameBut.update ..) ⟨_, store_at ho hd, ⟨hx.1, hx.2.1, hx.2.2⟩, rfl⟩ (T.turn pp (fits_iff.mpr ⟨by rw [sz, zz], by rw [sz, dm, mk, T.num]; simp; omega⟩) ris (T.led.imp id fun z => by rw [ld]; exact z)) dm mk
theorem room {more : Nat} (hk : n + more < 64) (a0 : At s.heap a es ep t) (T : Tab w S n es t) {Q : Unit → Shared → Prop}
    (q : ∀ h' es' ep' t', Heap.SameBut a s.heap h' → At h' a es' ep' t' → Tab w S n es' t' → (t' = t ∧ es' = es ∧ (t.fill + more) * 5 < t.mask * 3 ∨ t'.dummies = #[] ∧ t'.mask = SetTable.sizeAbove ((n + more) * 2) - 1) → Q () { s with heap := h' }) :
    wpAny (model P w) A (setRoomFor a more) Q E s := by
  obtain ⟨o, ho, hx, hd⟩ := id a0
  have ps := (fits_iff.mp T.fit).1
  unfold setRoomFor
  refine wpAny_bind (wpAny_setState_of ho hd T.fit ?_)
  dsimp only
  unfold SetTable.roomFor
  by_cases c : (t.fill + more) * 5 ≥ t.mask * 3
  · rw [if_pos c]
    dsimp only
    rw [ps, T.num]
    exact relay hk (by omega) a0 T fun h' es' t' sb a1 T1 dm mk => q h' es' _ t' sb a1 T1 (.inr ⟨dm, mk⟩)
  · rw [if_neg c]
    exact wpAny_pure (q s.heap es ep t (Heap.SameBut.refl ..) a0 T (.inl ⟨rfl, rfl, by omega⟩))
end
end So
namespace So
open PySem PySem.Spec PyProof.Rows L2
section
variable {P : Program} {w : World} {A : Around} {E : Value → Shared → Prop} {s : Shared} {a : Addr} {S : Int → Bool} {n : Nat} {es : Array (Int × Value)} {ep : Nat} {t : SetTable}
/-- no element of sets of ints is asked for its own == -/
theorem quiet : ∀ {l : List Addr} {Q : Bool → Shared → Prop}, (∀ a ∈ l, ∃ S n, SetR w s.heap a S n) → Q true s → wpAny (model P w) A (setsQuiet l) Q E s := by
  intro l Q hl q
  unfold setsQuiet
  refine wpAny_bind (wpAny_forIn_list _ (fun rest r s' => r.1 = none ∧ s' = s ∧ ∀ a ∈ rest, ∃ S n, SetR w s.heap a S n) _ (fun a rest b s' hI => ?_) (fun b s' hI => ?_) l _ ⟨rfl, rfl, hl⟩)
  · obtain ⟨e0, rfl, hr⟩ := hI
    obtain ⟨S, n, R⟩ := hr a List.mem_cons_self
    obtain ⟨es, ep, t, ⟨o, ho, hx, hd⟩, T⟩ := setR_iff.mp R
    refine wpAny_bind (wpAny_setEntries_of ho hd T.fit ?_)
    rw [← Array.forIn_toList]
    refine wpAny_bind (wpAny_forIn_list _ (fun rest r s2 => r.1 = none ∧ s2 = s' ∧ ∀ e ∈ rest, GoodE e) _ (fun x more c s2 hJ => ?_) (fun c s2 hJ => ?_) es.toList _ ⟨rfl, rfl, T.g⟩)
    · obtain ⟨e1, rfl, hg⟩ := hJ
      obtain ⟨k, tk, ek, _⟩ := hg x List.mem_cons_self
      obtain ⟨x1, x2⟩ := x
      cases (show x2 = .int k tk from ek)
      exact wpAny_pure ⟨rfl, rfl, fun e he => hg e (List.mem_cons_of_mem _ he)⟩
    · obtain ⟨e1, rfl, _⟩ := hJ
      dsimp only
      rw [e1]
      exact wpAny_pure ⟨rfl, rfl, fun a ha => hr a (List.mem_cons_of_mem _ ha)⟩
  · obtain ⟨e0, rfl, _⟩ := hI
    dsimp only
    rw [e0]
    exact wpAny_pure q
theorem walk_es (a0 : At s.heap a es ep t) (T : Tab w S n es t) (hp : w.params.followText "set-order" = true ∨ t.plain = true ∨ es.size ≤ 1) {Q : Array (Int × Value) → Shared → Prop} (q : ∀ es' : Array (Int × Value), es'.toList.Perm es.toList → Q es' s) :
    wpAny (model P w) A (setWalk a) Q E s := by
  obtain ⟨o, ho, hx, hd⟩ := id a0
  unfold setWalk
  refine wpAny_bind (wpAny_setState_of ho hd T.fit ?_)
  dsimp only
  refine wpAny_bind (wpAny_byText ?_)
  by_cases bt : w.params.followText "set-order" = true
  · refine wp_if_pos bt ?_
    exact wpAny_bind (wpAny_askSetting (wpAny_pure (q _ (L2.pick_perm _ _))))
  · refine wp_if_neg bt ?_
    have pl := hp.resolve_left bt
    have ld := T.led.resolve_left bt
    have dr : (!t.plain && decide (es.size > 1)) = false := by
      rcases pl with z | z
      · rw [z]; rfl
      · rw [decide_eq_false (by omega), Bool.and_false]
    refine wp_if_neg (fun z => ?_) ?_
    · have z' : (!t.plain && decide (es.size > 1)) = true := z
      rw [dr] at z'
      cases z'
    · have ml : (if (!t.led && decide (es.size > 1)) = true then unsupported "set:maker-not-led" else pure ()) = (pure () : Sem Unit) := by
        rw [ld]
        rfl
      exact wpAny_bind (wpAny_of_eq ml (wpAny_pure (q es (.refl _))))
theorem walk_unseen {l : List Addr} {r : Addr} {S' : Int → Bool} {n' : Nat} (a0 : At s.heap a es ep t) (T : Tab w S n es t) (R : SetR w s.heap r S' n') (ne : a ≠ r) (hl : ∀ b ∈ l, ∃ S n, SetR w s.heap b S n) {Q : Array (Int × Value) → Shared → Prop}
    (q : ∀ h' (es' : Array (Int × Value)), Heap.SameBut r s.heap h' → SetR w h' r S' n' → es'.toList.Perm es.toList → Q es' { s with heap := h' }) : wpAny (model P w) A (setWalkUnseen a l (some r)) Q E s := by
  obtain ⟨o, ho, hx, hd⟩ := id a0
  unfold setWalkUnseen
  refine wpAny_bind (wpAny_setState_of ho hd T.fit ?_)
  dsimp only
  refine wpAny_bind (wpAny_byText ?_)
  have plain : ∀ {Q1 : Array (Int × Value) → Shared → Prop}, Q1 = Q → (w.params.followText "set-order" = true ∨ t.plain = true ∨ es.size ≤ 1) → wpAny (model P w) A (setWalk a) Q1 E s := fun e hp => by
    subst e
    exact walk_es a0 T hp fun es' p => q s.heap es' (Heap.SameBut.refl ..) R p
  by_cases c : (w.params.followText "set-order" || t.led && t.plain || decide (es.size ≤ 1)) = true
  · refine wp_if_pos c (plain rfl ?_)
    rw [Bool.or_eq_true, Bool.or_eq_true, Bool.and_eq_true, decide_eq_true_eq] at c
    rcases c with (c | c) | c
    · exact .inl c
    · exact .inr (.inl c.2)
    · exact .inr (.inr c)
  · refine wp_if_neg c (wpAny_bind (quiet (fun b hb => ?_) ?_))
    · rcases List.mem_cons.mp hb with rfl | hb
      · exact ⟨S, n, setR_iff.mpr ⟨es, ep, t, a0, T⟩⟩
      · exact hl b hb
    refine wp_if_neg (by simp) ?_
    refine wpAny_bind (wpAny_rule ?_)
    obtain ⟨er, pr, tr, ⟨o2, ho2, hx2, hd2⟩, Tr⟩ := setR_iff.mp R
    refine wpAny_bind (wpAny_setState_of ho2 hd2 Tr.fit ?_)
    dsimp only
    by_cases d : (tr.led && !t.led || tr.plain && !t.plain) = true
    · refine wp_if_pos d (wpAny_bind (wpAny_storeSet_of ho2 hd2 (wpAny_pure (q _ es (Heap.SameBut.update ..) (setR_iff.mpr ⟨_, _, _, ⟨_, store_at ho2 hd2, ⟨hx2.1, hx2.2.1, hx2.2.2⟩, rfl⟩, Tr.turn (.refl _) Tr.fit Tr.ris ?_⟩) (.refl _))) (fits_of_scanBound Tr.bd)))
      rcases T.led with z | z
      · exact .inl z
      · exact Tr.led.imp id fun y => by
          show (tr.led && t.led) = true
          rw [y, z]
          rfl
    · exact wp_if_neg d (wpAny_pure (q s.heap es (Heap.SameBut.refl ..) R (.refl _)))
end
end So
namespace So
open PySem PySem.Spec PyProof.Rows L2
theorem road_empty {t u : SetTable} (h : t.road u ≠ .oneByOne) : t.place.size = 0 ∧ t.dummies.size = 0 := by
  unfold SetTable.road SetTable.fill at h
  by_cases c : (t.place.size + t.dummies.size != 0) = true
  · rw [if_pos c] at h
    exact absurd rfl h
  · simp at c
    simpa using c
section
variable {P : Program} {w : World} {A : Around} {E : Value → Shared → Prop} {s : Shared} {r o : Addr} {S U : Int → Bool} {n m : Nat} {er eo : Array (Int × Value)} {pr po : Nat} {tr to : SetTable}
theorem At.but {h h' : Heap} {a : Addr} (x : At h o eo po to) (ne : o ≠ a) (sb : Heap.SameBut a h h') : At h' o eo po to := by
  obtain ⟨b, hb, hx⟩ := x
  exact ⟨b, (sb.2 o ne).trans hb, hx⟩
theorem merge (ne : r ≠ o) (ar : At s.heap r er pr tr) (Tr : Tab w S n er tr) (ao : At s.heap o eo po to) (To : Tab w U m eo to) (hz : n = 0 → M2 tr.mask) (few : n + m < 64) {each : Sem Unit}
    (he : ∀ (h' : Heap) {Q' : Unit → Shared → Prop}, Heap.SameBut r s.heap h' → Q' () { s with heap := h' } → wpAny (model P w) A each Q' E { s with heap := h' }) {Q : Unit → Shared → Prop}
    (q : ∀ h' c, (m = 0 → h' = s.heap) → Heap.SameBut r s.heap h' → c ≤ n + m → SetR w h' r (fun k => S k || U k) c → Q () { s with heap := h' }) : wpAny (model P w) A (setMerge r o each) Q E s := by
  obtain ⟨oo, ho, hxo, hdo⟩ := id ao
  unfold setMerge
  refine wp_if_neg (by simp [ne]) ?_
  refine wpAny_bind (wpAny_setState_of ho hdo To.fit ?_)
  dsimp only
  by_cases em : eo.isEmpty = true
  · refine wp_if_pos em (wpAny_pure (q s.heap n (fun _ => rfl) (Heap.SameBut.refl ..) (by omega) ((setR_iff.mpr ⟨_, _, _, ar, Tr⟩).congr fun k => ?_)))
    have z : U k = false := by
      refine Bool.eq_false_iff.mpr fun y => ?_
      have mm := (To.mem k).mp y
      rw [Array.isEmpty_iff.mp em] at mm
      cases mm
    rw [z, Bool.or_false]
  refine wp_if_neg em ?_
  have zo := To.num
  have some_ : ∀ {h' : Heap}, m = 0 → h' = s.heap := fun z => absurd (by rw [Array.isEmpty_iff_size_eq_zero]; omega) em
  refine wpAny_bind (room (n := n) (more := eo.size) (by omega) ar Tr fun h1 e1 p1 t1 sb1 a1 T1 cd => ?_)
  obtain ⟨o1, ho1, hx1, hd1⟩ := id a1
  refine wpAny_bind (wpAny_setState_of ho1 hd1 T1.fit ?_)
  dsimp only
  have fresh : t1.road to ≠ .oneByOne → n = 0 ∧ t1.dummies = #[] ∧ M2 t1.mask ∧ m ≤ t1.mask ∧ ∀ k, S k = false := fun nr => by
    obtain ⟨z1, z2⟩ := road_empty nr
    have n0 : n = 0 := by rw [← T1.num, ← (fits_iff.mp T1.fit).1]; exact z1
    refine ⟨n0, Array.eq_empty_of_size_eq_zero z2, ?_, ?_, fun k => Bool.eq_false_iff.mpr fun y => ?_⟩
    · rcases cd with ⟨rfl, _, _⟩ | ⟨_, mk⟩
      · exact hz n0
      · rw [mk]
        exact (sizes (k := n + eo.size) (by omega)).1
    · rcases cd with ⟨rfl, _, lt⟩ | ⟨_, mk⟩
      · unfold SetTable.fill at lt
        omega
      · rw [mk]
        have := (sizes (k := n + eo.size) (by omega)).2.1
        omega
    · have mm := (T1.mem k).mp y
      rw [Array.eq_empty_of_size_eq_zero (T1.num.trans n0)] at mm
      cases mm
  have led2 : w.params.followText "set-order" = true ∨ (t1.led && to.led) = true := by
    rcases To.led with z | z
    · exact .inl z
    · exact T1.led.imp id fun y => by rw [y, z]; rfl
  cases rd : t1.road to with
  | slotForSlot =>
    obtain ⟨n0, d0, m2, mm, sf⟩ := fresh (by rw [rd]; exact fun z => nomatch z)
    dsimp only
    refine wpAny_storeSet_of ho1 hd1 (q _ m some_ (sb1.trans (Heap.SameBut.update ..)) (by omega) (setR_iff.mpr ⟨_, _, _, ⟨_, store_at ho1 hd1, ⟨hx1.1, hx1.2.1, hx1.2.2⟩, rfl⟩, ?_⟩)) (fits_of_scanBound To.bd)
    have T2 := To.turn (es' := eo) (t' := { to with finger := t1.finger, led := t1.led && to.led, moves := t1.moves, plain := t1.plain && to.plain }) (.refl _) To.fit To.ris led2
    exact ⟨T2.g, T2.nd, fun k => by rw [sf k, Bool.false_or]; exact T2.mem k, T2.bd, T2.fit, T2.num, T2.ris, T2.led⟩
  | clean =>
    obtain ⟨n0, d0, m2, mm, sf⟩ := fresh (by rw [rd]; exact fun z => nomatch z)
    dsimp only
    obtain ⟨t', order, e, pm, ris, sz, dm, mk, ld⟩ := laid_ok m2 (hs := eo.map (·.1)) (by rw [Array.size_map]; omega) t1.finger t1.moves (t1.led && to.led) (t1.plain && to.plain)
    rw [Array.size_map] at pm sz
    have pp := So.pick_perm pm
    have zz : (order.filterMap (eo[·]?)).size = eo.size := by rw [← Array.length_toList, pp.length_eq, Array.length_toList]
    rw [e]
    refine wpAny_bind (wp_if_neg (by rw [zz]; simp) (wpAny_pure ?_))
    have T2 := To.turn (t' := t') pp (fits_iff.mpr ⟨by rw [sz, zz], by rw [sz, dm, mk]; simp; omega⟩) ris (by rw [ld]; exact led2)
    refine wpAny_storeSet_of ho1 hd1 (q _ m some_ (sb1.trans (Heap.SameBut.update ..)) (by omega) (setR_iff.mpr ⟨_, _, _, ⟨_, store_at ho1 hd1, ⟨hx1.1, hx1.2.1, hx1.2.2⟩, rfl⟩, ?_⟩)) (by rw [zz]; exact fits_of_scanBound To.bd)
    exact ⟨T2.g, T2.nd, fun k => by rw [sf k, Bool.false_or]; exact T2.mem k, T2.bd, T2.fit, T2.num, T2.ris, T2.led⟩
  | oneByOne =>
    dsimp only
    have R1 : SetR w h1 r S n := setR_iff.mpr ⟨_, _, _, a1, T1⟩
    refine wpAny_bind (walk_unseen (s := { s with heap := h1 }) (ao.but (Ne.symm ne) sb1) To R1 (Ne.symm ne) (fun b hb => ?_) fun h2 e2 sb2 R2 p2 => ?_)
    · cases (List.mem_singleton.mp hb)
      exact ⟨S, n, R1⟩
    rw [← Array.forIn_toList]
    have sb02 := sb1.trans sb2
    have g2 : ∀ e ∈ e2.toList, GoodE e := fun e z => To.g e (p2.mem_iff.mp z)
    have l2 : e2.toList.length = m := by rw [p2.length_eq, Array.length_toList, zo]
    have sc : scanBound = 4096 := rfl
    refine wpAny_bind (wpAny_forIn_list _ (fun rest _ s' => ∃ h' c done, s' = { s with heap := h' } ∧ Heap.SameBut r s.heap h' ∧ e2.toList = done ++ rest ∧ c + rest.length ≤ n + m ∧ SetR w h' r (fun k => S k || decide (k ∈ done.map keyOf)) c)
      _ (fun x rest b s' hI => ?_) (fun b s' hI => ?_) e2.toList _ ⟨h2, n, [], rfl, sb02, rfl, by omega, R2.congr fun k => by simp⟩)
    · obtain ⟨h', c, done, rfl, sb', sp, cn, R'⟩ := hI
      obtain ⟨k, tk, ek, hk⟩ := g2 x (by rw [sp]; simp)
      obtain ⟨x1, x2⟩ := x
      cases (show x2 = .int k tk from ek)
      cases (show x1 = hashInt k from hk)
      rw [List.length_cons] at cn
      refine wpAny_bind (wpAny_holding (setR_add_hashed (P := P) (k := k) R' (by omega) fun h3 sb3 R3 => ?_))
      have sb4 := sb'.trans sb3
      refine wpAny_bind (he h3 sb4 ?_)
      obtain ⟨o4, ho4, hx4, hd4⟩ := ao.but (Ne.symm ne) sb4
      refine wpAny_bind (wpAny_setState_of ho4 hd4 To.fit ?_)
      refine wp_if_neg (by simp) (wpAny_pure ⟨h3, _, done ++ [(hashInt k, .int k tk)], rfl, sb4, by rw [sp, List.append_assoc]; rfl, ?_, R3.congr fun j => ?_⟩)
      · split <;> omega
      · rw [List.map_append, List.map_singleton, show keyOf (hashInt k, Value.int k tk) = k from rfl]
        rw [Bool.or_assoc, ← Bool.decide_or]
        simp only [List.mem_append, List.mem_singleton]
    · obtain ⟨h', c, done, rfl, sb', sp, cn, R'⟩ := hI
      rw [List.append_nil] at sp
      refine wpAny_pure (q h' c some_ sb' (by simpa using cn) (R'.congr fun k => ?_))
      congr 1
      rw [← sp]
      exact Bool.eq_iff_iff.mpr (((To.mem k).trans (p2.map keyOf).mem_iff.symm).trans decide_eq_true_iff.symm)
end
end So
namespace So
open PySem PySem.Spec PyProof.Rows L2
theorem slot_or : Slot "set" "__or__" "set.__or__" := .of (owner := "set") (n := "__or__") (by rw [typeLookup_type, builtinLookup_eq_fast]; kernel_rfl) (by decide +kernel) (by decide +kernel) (by decide +kernel) (by first | exact .inl (by decide +kernel) | exact .inr (by decide +kernel)) (by rw [isSubtype_type]; kernel_rfl)
theorem entry_or : entryFor table "set.__or__" = some Builtin.«frozenset.__or__» := entryFor_alias (id' := "frozenset.__or__") (by kernel_rfl) rfl (by decide +kernel) (by kernel_rfl)
theorem args_or (a b : Value) : argsOk "set.__or__" ⟨[a, b], []⟩ := by unfold argsOk; kernel_rfl
theorem fill_or : fillsNumberSlot (.type "set") "or" = pure true := fillsNumberSlot_of slot_or.lookup (by decide +kernel) (r := some (.builtin "set.__ror__")) (by rw [typeLookup_type, builtinLookup_eq_fast]; kernel_rfl)
section
variable {P : Program} {w : World} {A : Around} {E : Value → Shared → Prop} {s : Shared} {a b : Addr} {S U : Int → Bool} {n m : Nat}
theorem SetR.typ {h : Heap} (R : SetR w h a S n) : ∃ o, h.get? a = some o ∧ o.cls = .type "set" := by
  obtain ⟨o, es, ep, t, h1, h2, _⟩ := R
  exact ⟨o, h1, h2.1⟩
theorem anySet (ty : s.TypeIs (.ref a) "set") {Q : Bool → Shared → Prop} (q : Q true s) : wpAny (model P w) A (Builtin.Frozenset.isAnySet (.ref a)) Q E s := by
  unfold Builtin.Frozenset.isAnySet orM
  exact wpAny_bind (wpAny_isInstance (b := true) ty sub_set_self (wpAny_pure q))
theorem base (ty : s.TypeIs (.ref a) "set") {Q : Value → Shared → Prop} (q : Q (.type "set") s) : wpAny (model P w) A (Builtin.Frozenset.baseOf a) Q E s := by
  unfold Builtin.Frozenset.baseOf
  exact wpAny_bind (wpAny_isInstance (b := true) ty sub_set_self (wpAny_pure q))
def emptyO (w : World) : Obj := { cls := .type "set", dict := none, data := .set #[] 0 (.fresh 0 0 (!w.params.followText "set-order")) }
theorem new {Q : Value → Shared → Prop} (q : Q (.ref s.heap.objs.size) { s with heap := s.heap.push (emptyO w) }) : wpAny (model P w) A (newSet (.type "set")) Q E s := by
  unfold newSet
  refine wpAny_bind (wpAny_byText ?_)
  show wpAny _ _ (newObj (.type "set") _) _ _ _
  simp only [newObj]
  exact wpAny_bind (wpAny_alloc (wpAny_pure q))
theorem nodup_le : ∀ {l k : List Int}, l.Nodup → (∀ x ∈ l, x ∈ k) → l.length ≤ k.length
  | [], _, _, _ => Nat.zero_le _
  | x :: l, k, nd, h => by
    rw [List.nodup_cons] at nd
    have hx := h x List.mem_cons_self
    have ih := nodup_le (k := k.erase x) nd.2 fun y hy => (List.mem_erase_of_ne (by intro z; subst z; exact nd.1 hy)).mpr (h y (List.mem_cons_of_mem _ hy))
    have e := List.length_erase_of_mem hx
    have p := List.length_pos_of_mem hx
    rw [List.length_cons]
    omega
theorem Tab.le {S' : Int → Bool} {n' : Nat} {es es' : Array (Int × Value)} {t t' : SetTable} (T : Tab w S n es t) (T' : Tab w S' n' es' t') (h : ∀ k, S k = true → S' k = true) : n ≤ n' := by
  have q := nodup_le T.nd fun x hx => (T'.mem x).mp (h x ((T.mem x).mpr hx))
  rw [List.length_map, List.length_map, Array.length_toList, Array.length_toList, T.num, T'.num] at q
  exact q
def Old (h h' : Heap) : Prop := ∀ x o, x < h.objs.size → h.get? x = some o → h'.get? x = some o
theorem Old.of {h h' : Heap} {o : Obj} (sb : Heap.SameBut h.objs.size (h.push o) h') : Old h h' := fun x u lt e => (sb.2 x (Nat.ne_of_lt lt)).trans (Heap.get?_push_of_some _ e)
theorem At.old {h h' : Heap} {es : Array (Int × Value)} {ep : Nat} {t : SetTable} (x : At h a es ep t) (o : Old h h') : At h' a es ep t := by
  obtain ⟨u, h1, h2⟩ := x
  exact ⟨u, o a u (Heap.lt_size h1) h1, h2⟩
theorem fresh_at {h : Heap} : At (h.push (emptyO w)) h.objs.size #[] 0 (.fresh 0 0 (!w.params.followText "set-order")) ∧ Tab w (fun _ => false) 0 #[] (.fresh 0 0 (!w.params.followText "set-order")) := by
  refine ⟨⟨_, Heap.get?_push_size _ rfl, ⟨rfl, rfl, rfl⟩, rfl⟩, ⟨fun e he => by simp at he, by simp, fun k => by simp, by decide, by rfl, rfl, List.Pairwise.nil, ?_⟩⟩
  cases w.params.followText "set-order"
  · exact .inr rfl
  · exact .inl rfl
theorem copy (R : SetR w s.heap a S n) (few : n < 64) {Q : Value → Shared → Prop}
    (q : ∀ h es ep t, At h s.heap.objs.size es ep t → Tab w S n es t → (n = 0 → M2 t.mask) → Old s.heap h → Q (.ref s.heap.objs.size) { s with heap := h }) : wpAny (model P w) A (Builtin.Frozenset.copyOf a) Q E s := by
  obtain ⟨es, ep, t, a0, T⟩ := setR_iff.mp R
  obtain ⟨o, ho, hx, _⟩ := id a0
  have lt := Heap.lt_size ho
  unfold Builtin.Frozenset.copyOf
  refine wpAny_bind (base ⟨o, ho, hx.1⟩ (wpAny_bind (new (wpAny_bind ?_))))
  unfold Builtin.Frozenset.addrOf
  refine wpAny_pure (wpAny_bind ?_)
  obtain ⟨f1, f2⟩ := fresh_at (w := w) (h := s.heap)
  have a1 : At (s.heap.push (emptyO w)) a es ep t := by
    obtain ⟨u, h1, h2⟩ := a0
    exact ⟨u, Heap.get?_push_of_some _ h1, h2⟩
  refine merge (s := { s with heap := s.heap.push (emptyO w) }) (Nat.ne_of_gt lt) f1 f2 a1 T (fun _ => show (7 : Nat) ∈ [7, 15, 31, 63, 127] by decide) (by omega) (fun h' Q' _ z => wpAny_pure z) fun h' c z sb cn R' => wpAny_pure ?_
  obtain ⟨es', ep', t', b0, T'⟩ := setR_iff.mp (R'.congr (S' := S) fun k => by simp)
  have e : c = n := by
    have := T.le T' fun _ h => h
    omega
  subst e
  refine q h' es' ep' t' b0 T' (fun n0 => ?_) (Old.of sb)
  have hh := z n0
  subst hh
  obtain ⟨u, u1, _, u2⟩ := b0
  obtain ⟨v, v1, _, v2⟩ := f1
  cases u1.symm.trans v1
  cases u2.symm.trans v2
  exact show (7 : Nat) ∈ [7, 15, 31, 63, 127] by decide
theorem or_sets (ab : a ≠ b) (R : SetR w s.heap a S n) (R2 : SetR w s.heap b U m) (few : n + m < 64) {Q : Value → Shared → Prop}
    (q : ∀ (h : Heap) c, c ≤ n + m → SetR w h s.heap.objs.size (fun k => S k || U k) c → Old s.heap h → Q (.ref s.heap.objs.size) { s with heap := h }) :
    wpAny (model P w) A (binaryOp .BitOr (.ref a) (.ref b)) Q E s := by
  obtain ⟨oa, ha, ca⟩ := So.SetR.typ R
  obtain ⟨ob, hb, cb⟩ := So.SetR.typ R2
  refine wpAny_binaryOp_same (T := "set") ⟨oa, ha, ca⟩ ⟨ob, hb, cb⟩ fill_or slot_or (wpAny_call_entry slot_or ⟨oa, ha, ca⟩ entry_or ?_ (args_or _ _))
  show wpAny _ _ (Builtin.Frozenset.slot1 "__or__" _ >>= _) _ _ _
  refine wpAny_bind (wpAny_bind (m := slotArgs "__or__" 1 _) (wpAny_pure (wpAny_pure ?_)))
  dsimp only
  simp only [Bool.false_eq_true, if_false]
  unfold andM
  refine wpAny_bind (wpAny_bind (anySet ⟨oa, ha, ca⟩ (anySet ⟨ob, hb, cb⟩ ?_)))
  refine wp_if_neg (by simp) ?_
  unfold Builtin.Frozenset.addrOf
  refine wpAny_bind (wpAny_pure (wpAny_bind ?_))
  show wpAny _ _ (Builtin.Frozenset.copyOf a >>= _) _ _ _
  refine wpAny_bind (copy R (by omega) fun h es ep t a1 T hz old => ?_)
  obtain ⟨eb, pb, tb, b0, Tb⟩ := setR_iff.mp R2
  have b1 := b0.old old
  obtain ⟨ob1, hb1, hx1, hd1⟩ := id b1
  have lt := Heap.lt_size hb
  dsimp only
  refine wp_if_pos (by simp [ab.symm]) ?_
  unfold Builtin.Frozenset.addrOf
  refine wpAny_bind (wpAny_pure (wpAny_bind (wpAny_holding ?_)))
  unfold Builtin.Frozenset.updateFrom
  refine wpAny_bind (anySet ⟨ob1, hb1, hx1.1⟩ ?_)
  refine wp_if_pos rfl ?_
  unfold Builtin.Frozenset.addrOf
  refine wpAny_bind (wpAny_pure ?_)
  unfold Builtin.Frozenset.merge
  refine wpAny_bind (wpAny_setEpoch_of hb1 hd1 Tb.fit ?_)
  refine merge (s := { s with heap := h }) (Nat.ne_of_gt lt) a1 T b1 Tb hz few (fun h' Q' sb z => ?_) fun h' c _ sb cn R' => ?_
  · obtain ⟨o3, h3, _, d3⟩ := b1.but (Nat.ne_of_lt lt) sb
    unfold Builtin.Frozenset.unchanged
    refine wpAny_bind (wpAny_setEpoch_of h3 d3 Tb.fit ?_)
    exact wp_if_neg (by simp) (wpAny_pure z)
  · refine wpAny_pure (wpAny_pure ⟨_, rfl, (fun z => nomatch z), q h' c cn R' fun x o lx e => ?_⟩)
    exact (sb.2 x (Nat.ne_of_lt lx)).trans (old x o lx e)
end
end So
namespace So
open PySem PySem.Spec PyProof.Rows L2
theorem slot_and : Slot "set" "__and__" "set.__and__" := .of (owner := "set") (n := "__and__") (by rw [typeLookup_type, builtinLookup_eq_fast]; kernel_rfl) (by decide +kernel) (by decide +kernel) (by decide +kernel) (by first | exact .inl (by decide +kernel) | exact .inr (by decide +kernel)) (by rw [isSubtype_type]; kernel_rfl)
theorem entry_and : entryFor table "set.__and__" = some Builtin.«frozenset.__and__» := entryFor_alias (id' := "frozenset.__and__") (by kernel_rfl) rfl (by decide +kernel) (by kernel_rfl)
theorem args_and (a b : Value) : argsOk "set.__and__" ⟨[a, b], []⟩ := by unfold argsOk; kernel_rfl
theorem fill_and : fillsNumberSlot (.type "set") "and" = pure true := fillsNumberSlot_of slot_and.lookup (by decide +kernel) (r := some (.builtin "set.__rand__")) (by rw [typeLookup_type, builtinLookup_eq_fast]; kernel_rfl)
section
variable {P : Program} {w : World} {A : Around} {E : Value → Shared → Prop} {s : Shared} {a b r : Addr} {S U : Int → Bool} {n m : Nat}
/-- a walk that lays what it keeps into a new set -/
theorem walk_fill {h0 h1 : Heap} {keep : Int → Bool} {f : (Int × Value) → PUnit → Sem (ForInStep PUnit)} {l : List (Int × Value)} (gl : ∀ e ∈ l, GoodE e) (few : l.length < 64)
    (body : ∀ (k : Int) (tk : Tok) (h' : Heap) (D : Int → Bool) (c : Nat) {Q' : ForInStep PUnit → Shared → Prop}, (hashInt k, Value.int k tk) ∈ l → Heap.SameBut r h0 h' → SetR w h' r D c → c < 64 →
      (∀ h2 c2, Heap.SameBut r h0 h2 → c2 ≤ c + 1 → SetR w h2 r (fun j => D j || (keep j && decide (j = k))) c2 → Q' (.yield ⟨⟩) { s with heap := h2 }) → wpAny (model P w) A (f (hashInt k, .int k tk) ⟨⟩) Q' E { s with heap := h' })
    (R : SetR w h1 r (fun _ => false) 0) (sb1 : Heap.SameBut r h0 h1) {Q : PUnit → Shared → Prop}
    (q : ∀ h2 c, Heap.SameBut r h0 h2 → c ≤ l.length → SetR w h2 r (fun j => keep j && decide (j ∈ l.map keyOf)) c → Q ⟨⟩ { s with heap := h2 }) : wpAny (model P w) A (forIn l PUnit.unit f) Q E { s with heap := h1 } := by
  refine wpAny_forIn_list _ (fun rest _ s' => ∃ h2 c done, s' = { s with heap := h2 } ∧ Heap.SameBut r h0 h2 ∧ l = done ++ rest ∧ c + rest.length ≤ l.length ∧ SetR w h2 r (fun j => keep j && decide (j ∈ done.map keyOf)) c)
    _ (fun x rest u s' hI => ?_) (fun u s' hI => ?_) l _ ⟨h1, 0, [], rfl, sb1, rfl, by omega, R.congr fun k => by simp⟩
  · obtain ⟨h2, c, done, rfl, sb2, sp, cn, R2⟩ := hI
    have xin : x ∈ l := by rw [sp]; simp
    obtain ⟨k, tk, ek, hk⟩ := gl x xin
    obtain ⟨x1, x2⟩ := x
    cases (show x2 = .int k tk from ek)
    cases (show x1 = hashInt k from hk)
    rw [List.length_cons] at cn
    refine body k tk h2 _ c xin sb2 R2 (by omega) fun h3 c3 sb3 le R3 => ⟨h3, c3, done ++ [(hashInt k, .int k tk)], rfl, sb3, by rw [sp, List.append_assoc]; rfl, by omega, R3.congr fun j => ?_⟩
    rw [List.map_append, List.map_singleton, show keyOf (hashInt k, Value.int k tk) = k from rfl, ← Bool.and_or_distrib_left, ← Bool.decide_or]
    simp only [List.mem_append, List.mem_singleton]
  · obtain ⟨h2, c, done, rfl, sb2, sp, cn, R2⟩ := hI
    rw [List.append_nil] at sp
    subst sp
    exact q h2 c sb2 (by simpa using cn) R2
theorem sizeOf_set {Q : Nat → Shared → Prop} {es : Array (Int × Value)} {ep : Nat} {t : SetTable} (a0 : At s.heap a es ep t) (T : Tab w S n es t) (q : Q n s) : wpAny (model P w) A (Builtin.Frozenset.sizeOf a) Q E s := by
  obtain ⟨o, ho, _, hd⟩ := a0
  unfold Builtin.Frozenset.sizeOf
  refine wpAny_bind (wpAny_setEntries_of ho hd T.fit (wpAny_pure ?_))
  rw [T.num]
  exact q
theorem unchanged_set {id : String} {es : Array (Int × Value)} {ep : Nat} {t : SetTable} (a0 : At s.heap a es ep t) (T : Tab w S n es t) {Q : Unit → Shared → Prop} (q : Q () s) : wpAny (model P w) A (Builtin.Frozenset.unchanged id a ep) Q E s := by
  obtain ⟨o, ho, _, hd⟩ := a0
  unfold Builtin.Frozenset.unchanged
  exact wpAny_bind (wpAny_setEpoch_of ho hd T.fit (wp_if_neg (by simp) (wpAny_pure q)))
theorem and_sets (ab : a ≠ b) (R : SetR w s.heap a S n) (R2 : SetR w s.heap b U m) (fn : n < 64) (fm : m < 64) {Q : Value → Shared → Prop}
    (q : ∀ (h : Heap) c, c ≤ n → SetR w h s.heap.objs.size (fun k => S k && U k) c → Old s.heap h → Q (.ref s.heap.objs.size) { s with heap := h }) :
    wpAny (model P w) A (binaryOp .BitAnd (.ref a) (.ref b)) Q E s := by
  obtain ⟨oa, ha, ca⟩ := So.SetR.typ R
  obtain ⟨ob, hb, cb⟩ := So.SetR.typ R2
  have la := Heap.lt_size ha
  have lb := Heap.lt_size hb
  refine wpAny_binaryOp_same (T := "set") ⟨oa, ha, ca⟩ ⟨ob, hb, cb⟩ fill_and slot_and (wpAny_call_entry slot_and ⟨oa, ha, ca⟩ entry_and ?_ (args_and _ _))
  show wpAny _ _ (Builtin.Frozenset.slot1 "__and__" _ >>= _) _ _ _
  refine wpAny_bind (wpAny_bind (m := slotArgs "__and__" 1 _) (wpAny_pure (wpAny_pure ?_)))
  dsimp only
  simp only [Bool.false_eq_true, if_false]
  unfold andM
  refine wpAny_bind (wpAny_bind (anySet ⟨oa, ha, ca⟩ (anySet ⟨ob, hb, cb⟩ ?_)))
  refine wp_if_neg (by simp) ?_
  unfold Builtin.Frozenset.addrOf
  refine wpAny_bind (wpAny_pure (wpAny_bind ?_))
  unfold Builtin.Frozenset.intersection
  refine wp_if_neg (by simp [ab.symm]) ?_
  refine wpAny_bind (base ⟨oa, ha, ca⟩ (wpAny_bind (new ?_)))
  obtain ⟨f1, f2⟩ := fresh_at (w := w) (h := s.heap)
  obtain ⟨es, ep, t, a0, T⟩ := setR_iff.mp R
  obtain ⟨eb, pb, tb, b0, Tb⟩ := setR_iff.mp R2
  have old : Old s.heap (s.heap.push (emptyO w)) := Old.of (Heap.SameBut.refl ..)
  have a1 := a0.old old
  have b1 := b0.old old
  unfold Builtin.Frozenset.addrOf
  refine wpAny_bind (wpAny_pure (wpAny_bind (wpAny_holding ?_)))
  obtain ⟨ob1, hb1, hx1, hd1⟩ := id b1
  refine wpAny_bind (anySet (s := { s with heap := s.heap.push (emptyO w) }) ⟨ob1, hb1, hx1.1⟩ ?_)
  refine wp_if_pos rfl ?_
  refine wpAny_bind (wpAny_pure (wpAny_bind (sizeOf_set (s := { s with heap := s.heap.push (emptyO w) }) b1 Tb (wpAny_bind (sizeOf_set (s := { s with heap := s.heap.push (emptyO w) }) a1 T ?_)))))
  obtain ⟨k, d, Sk, Sd, nk, nd, ek, pk, tk, ed, pd, td, hp, k1, Tk, d1, Td, kr, dr, hS, le⟩ : ∃ (k d : Addr) (Sk Sd : Int → Bool) (nk nd : Nat) (ek : Array (Int × Value)) (pk : Nat) (tk : SetTable) (ed : Array (Int × Value)) (pd : Nat) (td : SetTable),
      (if m > n then (b, a) else (a, b)) = (k, d) ∧ At (s.heap.push (emptyO w)) k ek pk tk ∧ Tab w Sk nk ek tk ∧ At (s.heap.push (emptyO w)) d ed pd td ∧ Tab w Sd nd ed td ∧ k ≠ s.heap.objs.size ∧ d ≠ s.heap.objs.size ∧ (∀ j, (Sk j && Sd j) = (S j && U j)) ∧ nd ≤ n := by
    by_cases c : m > n
    · exact ⟨b, a, U, S, m, n, eb, pb, tb, es, ep, t, if_pos c, b1, Tb, a1, T, Nat.ne_of_lt lb, Nat.ne_of_lt la, fun j => Bool.and_comm .., Nat.le_refl _⟩
    · exact ⟨a, b, S, U, n, m, es, ep, t, eb, pb, tb, if_neg c, a1, T, b1, Tb, Nat.ne_of_lt la, Nat.ne_of_lt lb, fun j => rfl, by omega⟩
  rw [hp]
  dsimp only
  obtain ⟨od, hd, xd, dd⟩ := id d1
  refine wpAny_bind (wpAny_setEpoch_of (s := { s with heap := s.heap.push (emptyO w) }) hd dd Td.fit ?_)
  have F : SetR w (s.heap.push (emptyO w)) s.heap.objs.size (fun _ => false) 0 := setR_iff.mpr ⟨_, _, _, f1, f2⟩
  refine wpAny_bind (walk_unseen (s := { s with heap := s.heap.push (emptyO w) }) d1 Td F dr (fun x hx => ?_) fun h2 e2 sb2 R3 p2 => ?_)
  · rcases List.mem_cons.mp hx with rfl | hx
    · exact ⟨_, _, setR_iff.mpr ⟨_, _, _, k1, Tk⟩⟩
    · cases List.mem_singleton.mp hx
      exact ⟨_, _, F⟩
  rw [← Array.forIn_toList]
  have l2 : e2.toList.length = nd := by rw [p2.length_eq, Array.length_toList, Td.num]
  have sc : scanBound = 4096 := rfl
  refine wpAny_bind (walk_fill (keep := Sk) (h0 := s.heap.push (emptyO w)) (h1 := h2) (s := s) (fun e z => Td.g e (p2.mem_iff.mp z)) (by omega) (fun j tj h' D c Q' mj sb' R' cl kk => ?_) R3 sb2 fun h3 c sb3 cn R4 => ?_)
  · dsimp only
    have k2 := k1.but kr sb'
    refine wpAny_bind (wpAny_holding (wpAny_bind (wpAny_setFind_of (s := { s with heap := h' }) (knd := intKind P w) (intKind_is P w j tj) rfl (setR_iff.mpr ⟨_, _, _, k2, Tk⟩ : SetR w h' k Sk nk).setOf fun rr hr => ?_)))
    cases hk : Sk j with
    | true =>
      refine wp_if_pos (by rw [hr, hk]) (wpAny_bind (setR_add_hashed (P := P) (s := { s with heap := h' }) R' (by omega) fun h4 sb4 R5 => wpAny_pure ?_))
      refine wpAny_bind (unchanged_set (s := { s with heap := h4 }) (d1.but dr (sb'.trans sb4)) Td (wpAny_pure (kk h4 _ (sb'.trans sb4) (by split <;> omega) (R5.congr fun i => ?_))))
      by_cases ij : i = j
      · subst ij; simp [hk]
      · simp [ij]
    | false =>
      refine wp_if_neg (by rw [hr, hk]; simp) (wpAny_pure ?_)
      refine wpAny_bind (unchanged_set (s := { s with heap := h' }) (d1.but dr sb') Td (wpAny_pure (kk h' c sb' (by omega) (R'.congr fun i => ?_))))
      by_cases ij : i = j
      · subst ij; simp [hk]
      · simp [ij]
  · refine wpAny_pure (wpAny_pure (wpAny_pure ⟨_, rfl, (fun z => nomatch z), q h3 c (by omega) (R4.congr fun j => ?_) (Old.of sb3)⟩))
    rw [← hS]
    congr 1
    exact Bool.eq_iff_iff.mpr (((Td.mem j).trans (p2.map keyOf).mem_iff.symm).trans decide_eq_true_iff.symm)
end
end So
namespace So
open PySem PySem.Spec PyProof.Rows L2
theorem erase_list {α : Type} (xs : Array α) (j : Nat) : (SetTable.eraseAt xs j).toList = xs.toList.take j ++ xs.toList.drop (j + 1) := by
  unfold SetTable.eraseAt
  rw [Array.toList_append, Array.toList_extract, Array.toList_extract]
  simp only [List.extract_eq_drop_take, Nat.sub_zero, List.drop_zero]
  rw [List.take_of_length_le (i := xs.size - (j + 1)) (by rw [List.length_drop, Array.length_toList]; omega)]
theorem erase_perm {α : Type} {l : List α} {j : Nat} (h : j < l.length) : l.Perm (l[j] :: (l.take j ++ l.drop (j + 1))) := by
  have e : l = l.take j ++ l[j] :: l.drop (j + 1) := by rw [List.getElem_cons_drop, List.take_append_drop]
  have p : (l.take j ++ l[j] :: l.drop (j + 1)).Perm (l[j] :: (l.take j ++ l.drop (j + 1))) := List.perm_middle
  exact (List.Perm.of_eq e).trans p
theorem drop_tab {t : SetTable} {j n : Nat} (f : t.fits n = true) (h : j < n) (r : Ris t.place.toList) : (t.drop j).fits (n - 1) = true ∧ Ris (t.drop j).place.toList ∧ (t.drop j).led = t.led := by
  obtain ⟨f1, f2⟩ := fits_iff.mp f
  have hj : j < t.place.size := by omega
  unfold SetTable.drop
  rw [Array.getElem?_eq_getElem hj]
  dsimp only
  have z : (SetTable.eraseAt t.place j).size = n - 1 := by
    rw [← Array.length_toList, erase_list, List.length_append, List.length_take, List.length_drop, Array.length_toList]
    omega
  have y : ∀ p x, p ≤ t.dummies.size → (SetTable.insertAt t.dummies p x).size = t.dummies.size + 1 := fun p x hp => by
    unfold SetTable.insertAt
    rw [Array.size_append, Array.size_push, Array.size_extract, Array.size_extract]
    omega
  have b : ∀ (f lo hi : Nat), lo ≤ hi → SetTable.below.go t.dummies t.place[j] f lo hi ≤ hi := fun f => by
    induction f with
    | zero => exact fun lo hi h => h
    | succ f ih =>
      intro lo hi h
      unfold SetTable.below.go
      split
      · dsimp only
        split
        · exact ih _ _ (by omega)
        · exact Nat.le_trans (ih _ _ (by omega)) (by omega)
      · exact h
  refine ⟨fits_iff.mpr ⟨z, ?_⟩, ?_, rfl⟩
  · show (SetTable.eraseAt t.place j).size + (SetTable.insertAt t.dummies (SetTable.below t.dummies t.place[j]) t.place[j]).size ≤ t.mask
    have bb : SetTable.below t.dummies t.place[j] ≤ t.dummies.size := b _ _ _ (Nat.zero_le _)
    rw [z, y _ _ bb]
    omega
  · show Ris (SetTable.eraseAt t.place j).toList
    rw [erase_list]
    have sub : (t.place.toList.take j ++ t.place.toList.drop (j + 1)).Sublist t.place.toList := by
      have e := List.take_append_drop j t.place.toList
      refine e ▸ ?_
      rw [e]
      conv => rhs; rw [← e]
      exact List.Sublist.append_left (List.drop_sublist_drop_left _ (Nat.le_succ j)) _
    exact List.Pairwise.sublist sub r
section
variable {P : Program} {w : World} {A : Around} {E : Value → Shared → Prop} {s : Shared} {a b r : Addr} {S U : Int → Bool} {n m : Nat}
theorem discard {k : Int} {tk : Tok} (R : SetR w s.heap a S n) {Q : Bool → Shared → Prop} (q : ∀ h' x c, Heap.SameBut a s.heap h' → c ≤ n → SetR w h' a (fun j => S j && !decide (j = k)) c → Q x { s with heap := h' }) :
    wpAny (model P w) A (setDiscardHashed a (.int k tk) (hashInt k)) Q E s := by
  obtain ⟨es, ep, t, a0, T⟩ := setR_iff.mp R
  obtain ⟨o, ho, hx, hd⟩ := id a0
  have hkey : (intKind P w).is k (.int k tk) = true := intKind_is P w k tk
  have hel : ElemsOf (intKind P w) es.toList := good_elems T.g
  unfold setDiscardHashed setFind setFindIn
  refine wpAny_bind (wpAny_bind (wpAny_setState_of ho hd T.fit ?_))
  dsimp only
  rw [byScan_of rfl T.bd hel]
  simp only [↓reduceIte]
  refine wpAny_bind (wpAny_rule (wpAny_bind (wpAny_setScan_of hkey ho hd T.fit hel ?_)))
  cases hr : List.findIdx? (fun e => (intKind P w).is k e.2) es.toList with
  | none =>
    refine wpAny_pure (wpAny_pure (q s.heap false n (Heap.SameBut.refl ..) (Nat.le_refl _) (R.congr fun j => ?_)))
    by_cases jk : j = k
    · subst jk
      have z : S j = false := Bool.eq_false_iff.mpr fun y => by
        obtain ⟨e, he, pe⟩ := (good_mem (P := P) (w := w) T.g j).mp ((T.mem j).mp y)
        have c := List.findIdx?_eq_none_iff.mp hr e he
        rw [pe] at c
        cases c
      rw [z, Bool.false_and]
    · simp [jk]
  | some j =>
    obtain ⟨hj, pj, _⟩ := List.findIdx?_eq_some_iff_getElem.mp hr
    have kj : keyOf es.toList[j] = k := (good_is (T.g _ (List.getElem_mem hj)) k).mp pj
    refine wpAny_pure ?_
    refine wpAny_bind (wpAny_setState_of ho hd T.fit ?_)
    dsimp only
    rw [Nat.zero_add]
    have pp := erase_perm hj
    rw [← erase_list] at pp
    have pk := pp.map keyOf
    rw [List.map_cons, kj] at pk
    have nd := pk.nodup_iff.mp T.nd
    rw [List.nodup_cons] at nd
    have sz : (SetTable.eraseAt es j).size = n - 1 := by
      have l := pp.length_eq
      rw [List.length_cons, Array.length_toList, Array.length_toList, T.num] at l
      omega
    have hn : j < n := by rw [← T.num, ← Array.length_toList]; exact hj
    obtain ⟨d1, d2, d3⟩ := drop_tab (by rw [← T.num]; exact T.fit) hn T.ris
    have sc := fits_of_scanBound T.bd
    refine wpAny_bind (wpAny_storeSet_of ho hd (wpAny_bind (wpAny_point (wpAny_pure (q _ true (n - 1) (Heap.SameBut.update ..) (by omega) (setR_iff.mpr ⟨_, _, _, ⟨_, store_at ho hd, ⟨hx.1, hx.2.1, hx.2.2⟩, rfl⟩, ?_⟩))))) (by rw [sz, ← T.num]; omega))
    refine ⟨fun e he => T.g e (pp.mem_iff.mpr (List.mem_cons_of_mem _ he)), nd.2, fun i => ?_, by rw [sz]; have := T.bd; rw [T.num] at this; omega, by rw [sz]; exact d1, sz, d2, by rw [d3]; exact T.led⟩
    rw [Bool.and_eq_true, T.mem i, pk.mem_iff, List.mem_cons, Bool.not_eq_true', decide_eq_false_iff_not]
    constructor
    · rintro ⟨x | x, y⟩
      · exact absurd x y
      · exact x
    · exact fun x => ⟨.inr x, fun y => nd.1 (y ▸ x)⟩
end
end So
namespace So
open PySem PySem.Spec PyProof.Rows L2
theorem slot_sub : Slot "set" "__sub__" "set.__sub__" := .of (owner := "set") (n := "__sub__") (by rw [typeLookup_type, builtinLookup_eq_fast]; kernel_rfl) (by decide +kernel) (by decide +kernel) (by decide +kernel) (by first | exact .inl (by decide +kernel) | exact .inr (by decide +kernel)) (by rw [isSubtype_type]; kernel_rfl)
theorem entry_sub : entryFor table "set.__sub__" = some Builtin.«frozenset.__sub__» := entryFor_alias (id' := "frozenset.__sub__") (by kernel_rfl) rfl (by decide +kernel) (by kernel_rfl)
theorem args_sub (a b : Value) : argsOk "set.__sub__" ⟨[a, b], []⟩ := by unfold argsOk; kernel_rfl
theorem fill_sub : fillsNumberSlot (.type "set") "sub" = pure true := fillsNumberSlot_of slot_sub.lookup (by decide +kernel) (r := some (.builtin "set.__rsub__")) (by rw [typeLookup_type, builtinLookup_eq_fast]; kernel_rfl)
section
variable {P : Program} {w : World} {A : Around} {E : Value → Shared → Prop} {s : Shared} {a b r : Addr} {S U : Int → Bool} {n m : Nat}
theorem walk_alone {l : List Addr} {es : Array (Int × Value)} {ep : Nat} {t : SetTable} (a0 : At s.heap a es ep t) (T : Tab w S n es t) (hl : ∀ b ∈ l, ∃ S n, SetR w s.heap b S n) {Q : Array (Int × Value) → Shared → Prop}
    (q : ∀ es' : Array (Int × Value), es'.toList.Perm es.toList → Q es' s) : wpAny (model P w) A (setWalkUnseen a l none) Q E s := by
  obtain ⟨o, ho, hx, hd⟩ := id a0
  unfold setWalkUnseen
  refine wpAny_bind (wpAny_setState_of ho hd T.fit ?_)
  dsimp only
  refine wpAny_bind (wpAny_byText ?_)
  by_cases c : (w.params.followText "set-order" || t.led && t.plain || decide (es.size ≤ 1)) = true
  · refine wp_if_pos c (walk_es a0 T ?_ q)
    rw [Bool.or_eq_true, Bool.or_eq_true, Bool.and_eq_true, decide_eq_true_eq] at c
    rcases c with (c | c) | c
    · exact .inl c
    · exact .inr (.inl c.2)
    · exact .inr (.inr c)
  · refine wp_if_neg c (wpAny_bind (quiet (fun b hb => ?_) ?_))
    · rcases List.mem_cons.mp hb with rfl | hb
      · exact ⟨S, n, setR_iff.mpr ⟨es, ep, t, a0, T⟩⟩
      · exact hl b hb
    refine wp_if_neg (by simp) ?_
    exact wpAny_bind (wpAny_rule (wpAny_pure (q es (.refl _))))
theorem tidy (few : n < 32) (R : SetR w s.heap a S n) {Q : Unit → Shared → Prop} (q : ∀ h', Heap.SameBut a s.heap h' → SetR w h' a S n → Q () { s with heap := h' }) : wpAny (model P w) A (setTidy a) Q E s := by
  obtain ⟨es, ep, t, a0, T⟩ := setR_iff.mp R
  obtain ⟨o, ho, hx, hd⟩ := id a0
  unfold setTidy
  refine wpAny_bind (wpAny_setState_of ho hd T.fit ?_)
  dsimp only
  by_cases c : t.tooManyDummies = true
  · refine wp_if_pos c ?_
    have e : SetTable.grown es.size = (2 * n) * 2 := by
      unfold SetTable.grown
      rw [if_neg (by rw [T.num]; omega), T.num]
      omega
    rw [e]
    exact relay (by omega) (by omega) a0 T fun h' es' t' sb a1 T1 _ _ => q h' sb (setR_iff.mpr ⟨_, _, _, a1, T1⟩)
  · exact wp_if_neg c (wpAny_pure (q s.heap (Heap.SameBut.refl ..) R))
/-- set a loses what set b holds -/
theorem lose {nm : String} (ab : a ≠ b) (R : SetR w s.heap a S n) (R2 : SetR w s.heap b U m) (few : n < 32) (le : ¬ m / 8 > n) {Q : Unit → Shared → Prop}
    (q : ∀ h' c, Heap.SameBut a s.heap h' → c ≤ n → SetR w h' a (fun k => S k && !U k) c → Q () { s with heap := h' }) : wpAny (model P w) A (Builtin.Frozenset.differenceUpdate nm a (.ref b)) Q E s := by
  obtain ⟨es, ep, t, a0, T⟩ := setR_iff.mp R
  obtain ⟨eb, pb, tb, b0, Tb⟩ := setR_iff.mp R2
  obtain ⟨ob, hb, hx, hd⟩ := id b0
  unfold Builtin.Frozenset.differenceUpdate
  refine wp_if_neg (by simp [ab.symm]) ?_
  refine wpAny_bind (anySet ⟨ob, hb, hx.1⟩ ?_)
  refine wp_if_pos rfl ?_
  unfold Builtin.Frozenset.addrOf
  refine wpAny_bind (wpAny_pure (wpAny_bind (sizeOf_set b0 Tb (wpAny_bind (sizeOf_set a0 T ?_)))))
  dsimp only
  refine wp_if_neg le ?_
  refine wpAny_bind (wpAny_setEpoch_of hb hd Tb.fit ?_)
  refine wpAny_bind (wpAny_holding (wpAny_bind (walk_alone b0 Tb (fun x hx => ?_) fun e2 p2 => ?_)))
  · cases List.mem_singleton.mp hx
    exact ⟨_, _, R⟩
  rw [← Array.forIn_toList]
  refine wpAny_bind (wpAny_forIn_list _ (fun rest _ s' => ∃ h2 c done, s' = { s with heap := h2 } ∧ Heap.SameBut a s.heap h2 ∧ e2.toList = done ++ rest ∧ c ≤ n ∧ SetR w h2 a (fun j => S j && !decide (j ∈ done.map keyOf)) c)
    _ (fun x rest u s' hI => ?_) (fun u s' hI => ?_) e2.toList _ ⟨s.heap, n, [], rfl, Heap.SameBut.refl .., rfl, Nat.le_refl _, R.congr fun k => by simp⟩)
  · obtain ⟨h2, c, done, rfl, sb2, sp, cn, R3⟩ := hI
    obtain ⟨k, tk, ek, hk⟩ := Tb.g x (p2.mem_iff.mp (by rw [sp]; simp))
    obtain ⟨x1, x2⟩ := x
    cases (show x2 = .int k tk from ek)
    cases (show x1 = hashInt k from hk)
    refine wpAny_bind (wpAny_holding (discard (s := { s with heap := h2 }) R3 fun h3 _ c3 sb3 le3 R4 => ?_))
    have sb4 := sb2.trans sb3
    refine wpAny_bind (unchanged_set (s := { s with heap := h3 }) (b0.but (Ne.symm ab) sb4) Tb (wpAny_pure ⟨h3, c3, done ++ [(hashInt k, .int k tk)], rfl, sb4, by rw [sp, List.append_assoc]; rfl, by omega, R4.congr fun j => ?_⟩))
    rw [List.map_append, List.map_singleton, show keyOf (hashInt k, Value.int k tk) = k from rfl, Bool.and_assoc, ← Bool.not_or, ← Bool.decide_or]
    simp only [List.mem_append, List.mem_singleton]
  · obtain ⟨h2, c, done, rfl, sb2, sp, cn, R3⟩ := hI
    rw [List.append_nil] at sp
    refine wpAny_pure (tidy (s := { s with heap := h2 }) (by omega) R3 fun h3 sb3 R4 => q h3 c (sb2.trans sb3) cn (R4.congr fun j => ?_))
    congr 2
    rw [← sp]
    exact Bool.eq_iff_iff.mpr (((Tb.mem j).trans (p2.map keyOf).mem_iff.symm).trans decide_eq_true_iff.symm)
theorem sub_sets (ab : a ≠ b) (R : SetR w s.heap a S n) (R2 : SetR w s.heap b U m) (fn : n < 32) (fm : m < 64) {Q : Value → Shared → Prop}
    (q : ∀ (h : Heap) c, c ≤ n → SetR w h s.heap.objs.size (fun k => S k && !U k) c → Old s.heap h → Q (.ref s.heap.objs.size) { s with heap := h }) :
    wpAny (model P w) A (binaryOp .Sub (.ref a) (.ref b)) Q E s := by
  obtain ⟨oa, ha, ca⟩ := So.SetR.typ R
  obtain ⟨ob, hb, cb⟩ := So.SetR.typ R2
  have la := Heap.lt_size ha
  have lb := Heap.lt_size hb
  refine wpAny_binaryOp_same (T := "set") ⟨oa, ha, ca⟩ ⟨ob, hb, cb⟩ fill_sub slot_sub (wpAny_call_entry slot_sub ⟨oa, ha, ca⟩ entry_sub ?_ (args_sub _ _))
  show wpAny _ _ (Builtin.Frozenset.slot1 "__sub__" _ >>= _) _ _ _
  refine wpAny_bind (wpAny_bind (m := slotArgs "__sub__" 1 _) (wpAny_pure (wpAny_pure ?_)))
  dsimp only
  simp only [Bool.false_eq_true, if_false]
  unfold andM
  refine wpAny_bind (wpAny_bind (anySet ⟨oa, ha, ca⟩ (anySet ⟨ob, hb, cb⟩ ?_)))
  refine wp_if_neg (by simp) ?_
  unfold Builtin.Frozenset.addrOf
  refine wpAny_bind (wpAny_pure (wpAny_bind ?_))
  unfold Builtin.Frozenset.difference
  dsimp only
  refine wpAny_bind (anySet ⟨ob, hb, cb⟩ ?_)
  simp only [Bool.not_true, Bool.false_eq_true, if_false, if_true, Bool.false_and]
  obtain ⟨es, ep, t, a0, T⟩ := setR_iff.mp R
  obtain ⟨eb, pb, tb, b0, Tb⟩ := setR_iff.mp R2
  unfold Builtin.Frozenset.addrOf
  refine wpAny_bind (wpAny_pure (wpAny_bind (sizeOf_set b0 Tb (wpAny_bind (sizeOf_set a0 T ?_)))))
  by_cases big : n / 4 > m
  · refine wp_if_pos big (wpAny_bind (wpAny_rule ?_))
    refine wpAny_bind (copy R (by omega) fun h es1 ep1 t1 r1 T1 _ old => ?_)
    refine wpAny_bind (wpAny_pure (wpAny_bind (wpAny_holding ?_)))
    refine lose (s := { s with heap := h }) (Nat.ne_of_gt lb) (setR_iff.mpr ⟨_, _, _, r1, T1⟩) (setR_iff.mpr ⟨_, _, _, b0.old old, Tb⟩) (by omega) (by omega) fun h2 c sb cn R4 => ?_
    refine wpAny_pure (wpAny_pure ⟨_, rfl, (fun z => nomatch z), q h2 c cn R4 fun x o lx e => ?_⟩)
    exact (sb.2 x (Nat.ne_of_lt lx)).trans (old x o lx e)
  · refine wp_if_neg big (wpAny_bind (base ⟨oa, ha, ca⟩ (wpAny_bind (new ?_))))
    obtain ⟨f1, f2⟩ := fresh_at (w := w) (h := s.heap)
    have old : Old s.heap (s.heap.push (emptyO w)) := Old.of (Heap.SameBut.refl ..)
    have a1 := a0.old old
    have b1 := b0.old old
    refine wpAny_bind (wpAny_pure ?_)
    obtain ⟨od, hd, xd, dd⟩ := id a1
    refine wpAny_bind (wpAny_setEpoch_of (s := { s with heap := s.heap.push (emptyO w) }) hd dd T.fit ?_)
    have F : SetR w (s.heap.push (emptyO w)) s.heap.objs.size (fun _ => false) 0 := setR_iff.mpr ⟨_, _, _, f1, f2⟩
    have na : a ≠ s.heap.objs.size := Nat.ne_of_lt la
    have nb : b ≠ s.heap.objs.size := Nat.ne_of_lt lb
    refine wpAny_bind (wpAny_holding (wpAny_bind (walk_unseen (s := { s with heap := s.heap.push (emptyO w) }) a1 T F na (fun x hx => ?_) fun h2 e2 sb2 R3 p2 => ?_)))
    · rcases List.mem_cons.mp hx with rfl | hx
      · exact ⟨_, _, setR_iff.mpr ⟨_, _, _, b1, Tb⟩⟩
      · cases List.mem_singleton.mp hx
        exact ⟨_, _, F⟩
    rw [← Array.forIn_toList]
    have l2 : e2.toList.length = n := by rw [p2.length_eq, Array.length_toList, T.num]
    have sc : scanBound = 4096 := rfl
    refine wpAny_bind (walk_fill (keep := fun j => !U j) (h0 := s.heap.push (emptyO w)) (h1 := h2) (s := s) (fun e z => T.g e (p2.mem_iff.mp z)) (by omega) (fun j tj h' D c Q' mj sb' R' cl kk => ?_) R3 sb2 fun h3 c sb3 cn R4 => ?_)
    · dsimp only
      have k2 := b1.but nb sb'
      have fin : ∀ {h4 : Heap} {c4 : Nat}, Heap.SameBut s.heap.objs.size (s.heap.push (emptyO w)) h4 → c4 ≤ c + 1 → SetR w h4 s.heap.objs.size (fun i => D i || (!U i && decide (i = j))) c4 → wpAny (model P w) A.in1 (Builtin.Frozenset.unchanged (toString "frozenset." ++ toString "__sub__") a ep) (fun _ s' => wpAny (model P w) A.in1 (pure (ForInStep.yield PUnit.unit)) Q' E s') E { s with heap := h4 } := fun sb4 le R5 =>
        unchanged_set (s := { s with heap := _ }) (a1.but na sb4) T (wpAny_pure (kk _ _ sb4 le R5))
      refine wpAny_bind (wpAny_holding (wpAny_bind (wpAny_setFind_of (s := { s with heap := h' }) (knd := intKind P w) (intKind_is P w j tj) rfl (setR_iff.mpr ⟨_, _, _, k2, Tb⟩ : SetR w h' b U m).setOf fun rr hr => wpAny_bind (wpAny_pure ?_))))
      cases hk : U j with
      | false =>
        refine wp_if_pos (by rw [hr, hk]; rfl) (wpAny_bind (setR_add_hashed (P := P) (s := { s with heap := h' }) R' (by omega) fun h4 sb4 R5 => wpAny_pure ?_))
        refine wpAny_bind (fin (c4 := _) (sb'.trans sb4) (by split <;> omega) (R5.congr fun i => ?_))
        by_cases ij : i = j
        · subst ij; simp [hk]
        · simp [ij]
      | true =>
        refine wp_if_neg (by rw [hr, hk]; simp) (wpAny_pure ?_)
        refine wpAny_bind (fin sb' (Nat.le_succ _) (R'.congr fun i => ?_))
        by_cases ij : i = j
        · subst ij; simp [hk]
        · simp [ij]
    · refine wpAny_pure (wpAny_pure (wpAny_pure ⟨_, rfl, (fun z => nomatch z), q h3 c (by omega) (R4.congr fun j => ?_) (Old.of sb3)⟩))
      rw [Bool.and_comm]
      congr 1
      exact Bool.eq_iff_iff.mpr (((T.mem j).trans (p2.map keyOf).mem_iff.symm).trans decide_eq_true_iff.symm)
end
end So
namespace So
open PySem PySem.Spec PyProof.Rows L2
section
variable {X : Cx}
/-- a | b, a & b, a - b of two sets of ints -/
def rSO (w : World) (f : Bool → Bool → Bool) : R2 := fun x y H Q => ∃ a b S U n m, x = .ref a ∧ y = .ref b ∧ a ≠ b ∧ H a = some (SetO w a S n) ∧ H b = some (SetO w b U m) ∧ n < 32 ∧ m < 32 ∧
  ∀ p c, c ≤ n + m → H p = none → Q (.ref p) (upd H p (SetO w p (fun k => f (S k) (U k)) c))
theorem op_or : OpR X (binaryOp .BitOr) (rSO X.w fun x y => x || y) := by
  intro pins s σ H x y v u Q I rx ry h
  obtain ⟨a, b, S, U, n, m, rfl, rfl, ab, ha, hb, hn, hm, k⟩ := h
  cases rx
  cases ry
  refine or_sets ab (setO_get I ha) (setO_get I hb) (by omega) fun h c hc R old => ?_
  exact ⟨.ref _, _, I.laid (t' := s.toks) (fun x o e => old x o (Heap.lt_size e) e) (Nat.le_refl _) (setO_new R), rfl, k _ c hc (I.hok.fresh (Nat.le_refl _))⟩
theorem op_and : OpR X (binaryOp .BitAnd) (rSO X.w fun x y => x && y) := by
  intro pins s σ H x y v u Q I rx ry h
  obtain ⟨a, b, S, U, n, m, rfl, rfl, ab, ha, hb, hn, hm, k⟩ := h
  cases rx
  cases ry
  refine and_sets ab (setO_get I ha) (setO_get I hb) (by omega) (by omega) fun h c hc R old => ?_
  exact ⟨.ref _, _, I.laid (t' := s.toks) (fun x o e => old x o (Heap.lt_size e) e) (Nat.le_refl _) (setO_new R), rfl, k _ c (by omega) (I.hok.fresh (Nat.le_refl _))⟩
theorem op_sub : OpR X (binaryOp .Sub) (rSO X.w fun x y => x && !y) := by
  intro pins s σ H x y v u Q I rx ry h
  obtain ⟨a, b, S, U, n, m, rfl, rfl, ab, ha, hb, hn, hm, k⟩ := h
  cases rx
  cases ry
  refine sub_sets ab (setO_get I ha) (setO_get I hb) (by omega) (by omega) fun h c hc R old => ?_
  exact ⟨.ref _, _, I.laid (t' := s.toks) (fun x o e => old x o (Heap.lt_size e) e) (Nat.le_refl _) (setO_new R), rfl, k _ c (by omega) (I.hok.fresh (Nat.le_refl _))⟩
/-- len(s) -/
def rLenO (w : World) : List V → Hp → VK → Prop := fun xs H Q => ∃ a S n, xs = [V.ref a] ∧ H a = some (SetO w a S n) ∧ n ≤ 4000 ∧ ((n = 0 ↔ ∀ j, S j = false) → Q (.int (n : Nat)) H)
theorem call_lenSet : CallR X (.builtin "len") (rLenO X.w) := by
  intro pins s σ H xs us Q I r h
  obtain ⟨a, S, n, rfl, ha, hn, k⟩ := h
  obtain ⟨u, rfl, ru⟩ := r.one
  cases (show u = Value.ref a from ru)
  obtain ⟨es, ep, t, ⟨o, ho, hx, hd⟩, T⟩ := setR_iff.mp (setO_get I ha)
  refine call_len_set ho hx hd T.fit (by rw [T.num]; omega) ?_
  rw [T.num]
  refine ⟨.int n, H, (I.tok _).tok _, ⟨_, rfl⟩, k ⟨fun z j => Bool.eq_false_iff.mpr fun y => ?_, fun z => ?_⟩⟩
  · have mm := (T.mem j).mp y
    rw [Array.eq_empty_of_size_eq_zero (T.num.trans z)] at mm
    cases mm
  · rw [← T.num, ← Array.length_toList]
    cases e : es.toList with
    | nil => rfl
    | cons x l =>
      have y := (T.mem (keyOf x)).mpr (by rw [e]; simp)
      rw [z] at y
      cases y
end
end So

/-! set(xs) of a list or a tuple of ints, as a set object. -/
namespace Si
open PySem PySem.Spec PyProof.Rows
section
variable {prog : Program} {w : World} {A : Around} {E : Value → Shared → Prop} {s : Shared}
theorem code_led1 (a : Value) {Q₁ : Value → Shared → Prop}
    (h : Q₁ (.ref s.heap.objs.size) { s with heap := s.heap.push { cls := .type "set", dict := none, data := .set #[] 0 (.fresh 0 0 (!w.params.followText "set-order")) } }) :
    codeAny (model prog w) A (.call (.builtin "set.__new__") ⟨[.type "set", a], []⟩) (wants Q₁ E) s := by
  refine codeAny_of_tree ?_
  show wpAny _ A.in1 (do checkBuiltinCall "set.__new__" ⟨[.type "set", a], []⟩; again (.builtin "set.__new__" ⟨[.type "set", a], []⟩)) _ _ s
  refine wpAny_bind (wpAny_of_eq (F.newCall_set_1 a) (wpAny_pure ⟨plainId_quiet F.plain_set_new _, codeAny_builtin F.entry_set_new ?_⟩))
  rw [Around.under_plainId F.plain_set_new _]
  unfold Builtin.«set.__new__» Builtin.Frozenset.newClass
  have hsub := sub_set_self
  obtain ⟨hp, g, d, tk, os⟩ := s
  dsimp only
  wp_walk
  refine wpAny_askSetting (wpAny_pure ?_)
  dsimp only
  simp only [newObj]
  refine wpAny_bind (wpAny_alloc (wpAny_pure ?_))
  exact wpAny_pure h
theorem ints_len : ∀ {vs : List Value} {xs : List Int}, IntsAre vs xs → vs.length = xs.length
  | _, _, .nil => rfl
  | _, _, .cons _ _ h => by rw [List.length_cons, List.length_cons, ints_len h]
theorem ints_at : ∀ {vs : List Value} {xs : List Int}, IntsAre vs xs → ∀ (i : Nat) v, vs[i]? = some v → ∃ x t, xs[i]? = some x ∧ v = .int x t
  | _, _, .nil, i, v, e => by simp at e
  | _, _, .cons x t h, 0, v, e => ⟨x, t, rfl, by simpa using e.symm⟩
  | _, _, .cons _ _ h, i + 1, v, e => by
    obtain ⟨x, t, e1, e2⟩ := ints_at h i v (by simpa using e)
    exact ⟨x, t, by simpa using e1, e2⟩
abbrev so (led : Bool) : Obj := { cls := .type "set", dict := none, data := .set #[] 0 (.fresh 0 0 led) }
theorem fill {R : Result → Shared → Prop} {I : Addr} {fp wr : List Addr} {G : Array GenState → Array GenState → Prop} {n : Nat} {P : Nat → Value → Prop} {St : Nat → Shared → Prop}
    (W : WalksS prog w A.in1 I fp wr G n P St) (S : Addr) (hSf : S ∉ fp) (xs : List Int) (hsz : xs.length = n) (hb : n + 1 < scanBound) (hval : ∀ i v, P i v → ∃ x t, xs[i]? = some x ∧ v = .int x t) :
    ∀ (k i : Nat) (s : Shared), n - i = k → i ≤ n → St i s → (∃ c, c ≤ i ∧ L2.SetR w s.heap S (fun y => decide (y ∈ xs.take i)) c) →
      (∀ s' c, Moved (S :: wr) G s s' → c ≤ n → L2.SetR w s'.heap S (fun y => decide (y ∈ xs.take n)) c → R (.ok (.ret .none)) s') →
      codeAny (model prog w) A (.builtin "set.update.loop" ⟨[.ref S, .ref I], []⟩) R s := by
  have nw : S ∉ wr := fun h => hSf (W.sub _ h)
  have more : ∀ b ∈ wr, b ∈ S :: wr := fun b hb => List.mem_cons_of_mem _ hb
  intro k
  induction k with
  | zero =>
    intro i s hk hi st ⟨c, hc, hS⟩ hR
    have e : i = n := by omega
    subst e
    refine codeAny_builtin PyProof.Rows.F.entry_set_update_loop ?_
    rw [Around.under_plainId PyProof.Rows.F.plain_set_update_loop _]
    show wpAny _ A.in1 (pyNext (.ref I) >>= _) _ _ s
    refine wpAny_bind (W.done s _ _ st fun s' hm => ?_)
    show wpAny _ A.in1 (ret Value.none) _ _ s'
    exact wpAny_pure (hR s' c (hm.mono more) hc (L2.SetR.at hS fun o e => hm.heap S o nw e))
  | succ k ih =>
    intro i s hk hi st ⟨c, hc, hS⟩ hR
    have lt : i < n := by omega
    refine codeAny_builtin PyProof.Rows.F.entry_set_update_loop ?_
    rw [Around.under_plainId PyProof.Rows.F.plain_set_update_loop _]
    show wpAny _ A.in1 (pyNext (.ref I) >>= _) _ _ s
    refine wpAny_bind (W.item i s _ _ lt st fun v s' hP st' hm => ?_)
    obtain ⟨x, t, hx, rfl⟩ := hval i v hP
    have hS1 := L2.SetR.at (h' := s'.heap) hS fun o e => hm.heap S o nw e
    show wpAny _ A.in1 (holding [Value.int x t] (setAdd S (.int x t)) >>= _) _ _ s'
    refine wpAny_bind (wpAny_holding ?_)
    unfold setAdd
    refine wpAny_holding ?_
    refine wpAny_bind ((PySem.intKind prog w).pyHash (k := x) (intKind_is _ _ _ _) ?_)
    refine L2.setR_add_hashed (s := { s' with toks := s'.toks + 1 }) hS1 (by omega) fun g same hS2 => ?_
    have hS3 := L2.SetR.congr (S' := fun y => decide (y ∈ xs.take (i + 1))) hS2 (fun y => by
      rw [List.take_add_one, hx]
      simp [List.mem_append])
    refine wpAny_pure ⟨plainId_quiet PyProof.Rows.F.plain_set_update_loop _, ih (i + 1) _ (by omega) lt (W.frame _ s' _ _ st' (Nat.le_succ _) fun b hb o e => ?_) ⟨_, (by split <;> omega), hS3⟩ fun s2 c2 m2 hc2 hS4 => ?_⟩
    · rw [same.2 b (fun h : b = S => hSf (by rw [← h]; exact hb))]
      exact e
    · refine hR s2 c2 (Moved.trans W.gtrans ((hm.mono more).then_heap (Nat.le_succ _) fun b o hb e => ?_) m2) hc2 hS4
      rw [same.2 b (fun h : b = S => hb (by rw [h]; exact List.mem_cons_self))]
      exact e
set_option maxHeartbeats 3200000 in
theorem set_ints {l : Addr} {its : Array Value} {xs : List Int} {Q : Value → Shared → Prop} (hh : A.handled = none) (hl : s.heap.IsList l its) (hi : PyProof.Rows.IntsAre its.toList xs) (hb : xs.length + 1 < scanBound)
    (q : ∀ (g : Heap) (tk c : Nat), c ≤ xs.length → L2.SetR w g s.heap.objs.size (fun y => decide (y ∈ xs)) c → (∀ b o, b < s.heap.objs.size → s.heap.get? b = some o → g.get? b = some o) → Q (.ref s.heap.objs.size) { s with heap := g, toks := tk }) :
    wpAny (model prog w) A (call (.type "set") [.ref l]) Q E s := by
  obtain ⟨c0, tl0, m0⟩ := PySem.F.called_set.mro
  have a1 := PySem.F.called_set.made
  have a2 := PySem.F.called_set.sub
  refine wpAny_call (codeAny_of_tree ?_)
  show wpAny _ _ (callAny (.type "set") _) _ _ _
  refine wpAny_pure ⟨Code.quiet_builtin _ (by decide +kernel), codeAny_builtin PySem.F.entry_type_call ?_⟩
  rw [Around.under_plain (weight_type_call_type "set" [.ref l] []) rfl]
  have a3 := PySem.F.called_set.notType
  have a4 := PySem.F.called_set.canCreate
  have a5 := PySem.F.typeCall_set_1 (.ref l)
  repeat (any_goals (first | assumption | wp_step))
  refine codeAny_mono (code_led1 (.ref l) (E := E) (Q₁ := fun ob s₁ => ob = .ref s.heap.objs.size ∧ s₁ = { s with heap := s.heap.push { cls := .type "set", dict := none, data := .set #[] 0 (.fresh 0 0 (!w.params.followText "set-order")) } }) ⟨rfl, rfl⟩) fun r s₁ hr => ?_
  cases r with
  | error e => exact hr
  | ok fl =>
    cases fl with
    | ret ob =>
      obtain ⟨rfl, rfl⟩ := hr
      generalize hso : ({ cls := .type "set", dict := none, data := .set #[] 0 (.fresh 0 0 (!w.params.followText "set-order")) } : Obj) = so
      have hfr : so.isFreed = false := by rw [← hso]; rfl
      have b1 : (s.heap.push so).get? s.heap.objs.size = some so := Heap.get?_push_size _ hfr
      have b2 : Shared.TypeIs { s with heap := s.heap.push so } (.ref s.heap.objs.size) "set" := ⟨_, b1, by rw [← hso]⟩
      have b3 := PySem.F.called_set.init.lookup
      have b4 := PySem.F.called_set.init.bind (.ref s.heap.objs.size)
      repeat (any_goals (first | assumption | wp_step))
      refine codeAny_mono (codeAny_call_builtin (R := wants (fun r s₂ => r = .none ∧ ∃ g tk c, s₂ = { s with heap := g, toks := tk } ∧ c ≤ xs.length ∧ L2.SetR w g s.heap.objs.size (fun y => decide (y ∈ xs)) c ∧
          (∀ b o, b < s.heap.objs.size → s.heap.get? b = some o → g.get? b = some o)) E) PySem.F.called_set.init.plain PySem.F.entry_set_init (check_set_init_1 b2 ?_)) fun r₂ s₂ hr₂ => ?_
      · obtain ⟨ol, hol, hcl, nl, hdl⟩ := hl
        obtain ⟨ocls, odict, odata, oslots⟩ := ol
        simp only at hcl hdl
        subst hcl hdl
        have hol' : (s.heap.push so).get? l = some { cls := .type "list", dict := odict, data := .seq its nl, slots := oslots } := Heap.get?_push_of_some _ hol
        have c1 := PySem.F.sub_list_set
        have c2 := PySem.F.sub_list_frozenset
        have c3 : (Value.type "list" == Value.type "dict") = false := by decide
        have hl1 : (s.heap.push so).IsList l its := ⟨_, hol', rfl, nl, rfl⟩
        unfold Builtin.«set.__init__» noKeywords Builtin.Frozenset.updateFrom
        generalize hPI : pyIter = PI
        have ll : l < s.heap.objs.size := Heap.lt_size hol
        have nI : ∀ ob : Obj, l ≠ (s.heap.push ob).objs.size := fun ob => by
          rw [Heap.size_push]
          exact Nat.ne_of_lt (Nat.lt_succ_of_lt ll)
        have nS : ∀ ob : Obj, s.heap.objs.size ∉ [(s.heap.push ob).objs.size, l] := fun ob => by
          rw [Heap.size_push]
          simp only [List.mem_cons, List.mem_singleton, List.not_mem_nil, or_false, not_or]
          exact ⟨Nat.ne_of_lt (Nat.lt_succ_self _), Nat.ne_of_gt ll⟩
        have nB : ∀ (ob : Obj) (b : Addr), b < s.heap.objs.size → b ≠ (s.heap.push ob).objs.size := fun ob b lb => by
          rw [Heap.size_push]
          exact Nat.ne_of_lt (Nat.lt_succ_of_lt lb)
        subst hso
        wp_walk
        subst hPI
        refine wpAny_pyIter_list hl1 ?_
        refine wpAny_bind (wpAny_runValue ?_)
        have hh3 : A.in1.in1.in1.handled = none := by simp [hh]
        have sz : xs.length = its.size := by rw [← ints_len hi, Array.length_toList]
        have hval : ∀ (i : Nat) (v : Value), its[i]? = some v → ∃ x t, xs[i]? = some x ∧ v = .int x t := fun i v hv => ints_at hi i v (by rw [Array.getElem?_toList]; exact hv)
        refine fill ((Walks.list hh3 _ l (nI (so (!w.params.followText "set-order"))) its).toS) s.heap.objs.size (nS (so (!w.params.followText "set-order"))) xs sz (by rw [← sz]; exact hb) hval (its.size - 0) 0 _ (by omega) (Nat.zero_le _)
          ⟨⟨_, Heap.get?_push_size _ rfl, rfl, rfl⟩, (hl1.push _)⟩ ?hS0 ?hR
        case hS0 =>
          exact ⟨0, Nat.le_refl _, L2.SetR.congr (L2.SetR.at (L2.setR_fresh w) fun o e => Heap.get?_push_of_some _ e) (fun _ => by simp)⟩
        case hR =>
          intro s' c' hm hc' hS'
          obtain ⟨g, g', d', tk', os'⟩ := s'
          have eg : g' = s.gens := hm.gens
          have ed : d' = s.drawn := hm.drawn
          have eo : os' = s.os := hm.os
          subst eg ed eo
          show wpAny _ _ _ _ _ _
          refine wpAny_pure ?_
          show wpAny _ _ (ret Value.none) _ _ _
          rw [← sz, List.take_length] at hS'
          rw [← sz] at hc'
          refine wpAny_pure ⟨rfl, g, tk', c', rfl, hc', hS', fun b o lb e => ?_⟩
          have n1 : b ≠ s.heap.objs.size := Nat.ne_of_lt lb
          have n2 := nB (so (!w.params.followText "set-order")) b lb
          exact hm.heap b o (by simp only [List.mem_cons, List.mem_singleton, List.not_mem_nil, or_false, not_or]; exact ⟨n1, n2⟩) (Heap.get?_push_of_some _ (Heap.get?_push_of_some _ e))
      · cases r₂ with
        | error e => exact hr₂
        | ok fl₂ =>
          cases fl₂ with
          | ret r =>
            obtain ⟨rfl, g, tk, c', rfl, hc', hS', hk'⟩ := hr₂
            repeat (any_goals (first | assumption | wp_step))
            exact q _ _ _ hc' hS' hk'
          | _ => exact hr₂.elim
    | _ => exact hr.elim
set_option maxHeartbeats 3200000 in
theorem set_intsT {l : Addr} {its : Array Value} {xs : List Int} {Q : Value → Shared → Prop} (hh : A.handled = none) (hl : s.heap.IsTuple l its) (hi : PyProof.Rows.IntsAre its.toList xs) (hb : xs.length + 1 < scanBound)
    (q : ∀ (g : Heap) (tk c : Nat), c ≤ xs.length → L2.SetR w g s.heap.objs.size (fun y => decide (y ∈ xs)) c → (∀ b o, b < s.heap.objs.size → s.heap.get? b = some o → g.get? b = some o) → Q (.ref s.heap.objs.size) { s with heap := g, toks := tk }) :
    wpAny (model prog w) A (call (.type "set") [.ref l]) Q E s := by
  obtain ⟨c0, tl0, m0⟩ := PySem.F.called_set.mro
  have a1 := PySem.F.called_set.made
  have a2 := PySem.F.called_set.sub
  refine wpAny_call (codeAny_of_tree ?_)
  show wpAny _ _ (callAny (.type "set") _) _ _ _
  refine wpAny_pure ⟨Code.quiet_builtin _ (by decide +kernel), codeAny_builtin PySem.F.entry_type_call ?_⟩
  rw [Around.under_plain (weight_type_call_type "set" [.ref l] []) rfl]
  have a3 := PySem.F.called_set.notType
  have a4 := PySem.F.called_set.canCreate
  have a5 := PySem.F.typeCall_set_1 (.ref l)
  repeat (any_goals (first | assumption | wp_step))
  refine codeAny_mono (code_led1 (.ref l) (E := E) (Q₁ := fun ob s₁ => ob = .ref s.heap.objs.size ∧ s₁ = { s with heap := s.heap.push { cls := .type "set", dict := none, data := .set #[] 0 (.fresh 0 0 (!w.params.followText "set-order")) } }) ⟨rfl, rfl⟩) fun r s₁ hr => ?_
  cases r with
  | error e => exact hr
  | ok fl =>
    cases fl with
    | ret ob =>
      obtain ⟨rfl, rfl⟩ := hr
      generalize hso : ({ cls := .type "set", dict := none, data := .set #[] 0 (.fresh 0 0 (!w.params.followText "set-order")) } : Obj) = so
      have hfr : so.isFreed = false := by rw [← hso]; rfl
      have b1 : (s.heap.push so).get? s.heap.objs.size = some so := Heap.get?_push_size _ hfr
      have b2 : Shared.TypeIs { s with heap := s.heap.push so } (.ref s.heap.objs.size) "set" := ⟨_, b1, by rw [← hso]⟩
      have b3 := PySem.F.called_set.init.lookup
      have b4 := PySem.F.called_set.init.bind (.ref s.heap.objs.size)
      repeat (any_goals (first | assumption | wp_step))
      refine codeAny_mono (codeAny_call_builtin (R := wants (fun r s₂ => r = .none ∧ ∃ g tk c, s₂ = { s with heap := g, toks := tk } ∧ c ≤ xs.length ∧ L2.SetR w g s.heap.objs.size (fun y => decide (y ∈ xs)) c ∧
          (∀ b o, b < s.heap.objs.size → s.heap.get? b = some o → g.get? b = some o)) E) PySem.F.called_set.init.plain PySem.F.entry_set_init (check_set_init_1 b2 ?_)) fun r₂ s₂ hr₂ => ?_
      · obtain ⟨ol, hol, hcl, nl, hdl⟩ := hl
        obtain ⟨ocls, odict, odata, oslots⟩ := ol
        simp only at hcl hdl
        subst hcl hdl
        have hol' : (s.heap.push so).get? l = some { cls := .type "tuple", dict := odict, data := .seq its nl, slots := oslots } := Heap.get?_push_of_some _ hol
        have c1 := PySem.F.sub_tuple_set
        have c2 := PySem.F.sub_tuple_frozenset
        have c3 : (Value.type "tuple" == Value.type "dict") = false := by decide
        have hl1 : (s.heap.push so).IsTuple l its := ⟨_, hol', rfl, nl, rfl⟩
        unfold Builtin.«set.__init__» noKeywords Builtin.Frozenset.updateFrom
        generalize hPI : pyIter = PI
        have ll : l < s.heap.objs.size := Heap.lt_size hol
        have nI : ∀ ob : Obj, l ≠ (s.heap.push ob).objs.size := fun ob => by
          rw [Heap.size_push]
          exact Nat.ne_of_lt (Nat.lt_succ_of_lt ll)
        have nS : ∀ ob : Obj, s.heap.objs.size ∉ [(s.heap.push ob).objs.size, l] := fun ob => by
          rw [Heap.size_push]
          simp only [List.mem_cons, List.mem_singleton, List.not_mem_nil, or_false, not_or]
          exact ⟨Nat.ne_of_lt (Nat.lt_succ_self _), Nat.ne_of_gt ll⟩
        have nB : ∀ (ob : Obj) (b : Addr), b < s.heap.objs.size → b ≠ (s.heap.push ob).objs.size := fun ob b lb => by
          rw [Heap.size_push]
          exact Nat.ne_of_lt (Nat.lt_succ_of_lt lb)
        subst hso
        wp_walk
        subst hPI
        refine wpAny_pyIter_tuple hl1 ?_
        refine wpAny_bind (wpAny_runValue ?_)
        have hh3 : A.in1.in1.in1.handled = none := by simp [hh]
        have sz : xs.length = its.size := by rw [← ints_len hi, Array.length_toList]
        have hval : ∀ (i : Nat) (v : Value), its[i]? = some v → ∃ x t, xs[i]? = some x ∧ v = .int x t := fun i v hv => ints_at hi i v (by rw [Array.getElem?_toList]; exact hv)
        refine fill ((Walks.tuple hh3 _ l (nI (so (!w.params.followText "set-order"))) its).toS) s.heap.objs.size (nS (so (!w.params.followText "set-order"))) xs sz (by rw [← sz]; exact hb) hval (its.size - 0) 0 _ (by omega) (Nat.zero_le _)
          ⟨⟨_, Heap.get?_push_size _ rfl, rfl, rfl⟩, (hl1.push _)⟩ ?hS0 ?hR
        case hS0 =>
          exact ⟨0, Nat.le_refl _, L2.SetR.congr (L2.SetR.at (L2.setR_fresh w) fun o e => Heap.get?_push_of_some _ e) (fun _ => by simp)⟩
        case hR =>
          intro s' c' hm hc' hS'
          obtain ⟨g, g', d', tk', os'⟩ := s'
          have eg : g' = s.gens := hm.gens
          have ed : d' = s.drawn := hm.drawn
          have eo : os' = s.os := hm.os
          subst eg ed eo
          show wpAny _ _ _ _ _ _
          refine wpAny_pure ?_
          show wpAny _ _ (ret Value.none) _ _ _
          rw [← sz, List.take_length] at hS'
          rw [← sz] at hc'
          refine wpAny_pure ⟨rfl, g, tk', c', rfl, hc', hS', fun b o lb e => ?_⟩
          have n1 : b ≠ s.heap.objs.size := Nat.ne_of_lt lb
          have n2 := nB (so (!w.params.followText "set-order")) b lb
          exact hm.heap b o (by simp only [List.mem_cons, List.mem_singleton, List.not_mem_nil, or_false, not_or]; exact ⟨n1, n2⟩) (Heap.get?_push_of_some _ (Heap.get?_push_of_some _ e))
      · cases r₂ with
        | error e => exact hr₂
        | ok fl₂ =>
          cases fl₂ with
          | ret r =>
            obtain ⟨rfl, g, tk, c', rfl, hc', hS', hk'⟩ := hr₂
            repeat (any_goals (first | assumption | wp_step))
            exact q _ _ _ hc' hS' hk'
          | _ => exact hr₂.elim
    | _ => exact hr.elim
end
end Si
namespace Si
open PySem PySem.Spec PyProof.Rows L2
section
variable {X : Cx}
theorem intsAre : ∀ {ns : List Int} {us : List Value}, Vals (ns.map V.int) us → IntsAre us ns
  | [], _, .nil => .nil
  | n :: ns, _, .cons r rt => by
    obtain ⟨t, rfl⟩ := r
    exact .cons n t (intsAre rt)
/-- set(xs), xs a list or a tuple of ints -/
def rSet (K : PySem.W.Frag) (w : World) : List V → Hp → VK → Prop := fun xs H Q => ∃ (p : Addr) (ns : List Int), xs = [.ref p] ∧ (SqL K H p (ns.map V.int) ∨ SqT K H p (ns.map V.int)) ∧ ns.length ≤ 4000 ∧
  ∀ S c, c ≤ ns.length → H S = none → Q (.ref S) (upd H S (SetO w S (fun y => decide (y ∈ ns)) c))
theorem call_set (hc : X.calm = true) : CallR X (.type "set") (rSet X.K X.w) := by
  intro pins s σ H xs us Q I r h
  obtain ⟨p, ns, rfl, hq, hl, k⟩ := h
  obtain ⟨u, rfl, ru⟩ := r.one
  cases (show u = Value.ref p from ru)
  rcases hq with hq | hq
  · obtain ⟨its, r, pl, hz⟩ := I.list hq
    refine set_ints (I.ok.hd hc) pl.isList (by simpa using intsAre r) (by unfold scanBound; omega) fun g tk c hcn hS hk => ?_
    exact ⟨.ref _, _, I.laid (t' := tk) (fun b u e => hk b u (Heap.lt_size e) e) (Nat.le_refl _) (setO_new hS), rfl, k _ c hcn (I.hok.fresh (Nat.le_refl _))⟩
  · obtain ⟨its, r, pl, hz⟩ := I.tuple hq
    refine set_intsT (I.ok.hd hc) pl (by simpa using intsAre r) (by unfold scanBound; omega) fun g tk c hcn hS hk => ?_
    exact ⟨.ref _, _, I.laid (t' := tk) (fun b u e => hk b u (Heap.lt_size e) e) (Nat.le_refl _) (setO_new hS), rfl, k _ c hcn (I.hok.fresh (Nat.le_refl _))⟩
end
end Si

/-! iter(tuple) as a value; list(x), x with an __iter__ that gives such a one, and an own __len__. -/
namespace Li
open PySem PySem.Spec PyProof.Rows L2
/-- an iterator of the tuple t, not begun -/
def TiO (t it : Addr) : HO := .ext fun h => h.IsTupleIter it t 0
theorem ti_at {h h' : Heap} {t it : Addr} {i : Nat} (x : h.IsTupleIter it t i) (k : ∀ o, h.get? it = some o → h'.get? it = some o) : h'.IsTupleIter it t i := by
  obtain ⟨o, e, r⟩ := x
  exact ⟨o, k o e, r⟩
theorem ti_ok {P : Program} {w : World} {H : Hp} {h : Heap} {t it : Addr} (x : h.IsTupleIter it t 0) : ObjOk P w H h it (TiO t it) :=
  ⟨x, by obtain ⟨o, e, _⟩ := x; exact ⟨o, e⟩, fun _ _ p k => ti_at p k⟩
/-- iter(t): the iterator is younger than all that is tracked -/
def rIterT (K : PySem.W.Frag) : List V → Hp → VK → Prop := fun xs H Q => ∃ (t : Addr) (zs : List V), xs = [.ref t] ∧ SqT K H t zs ∧ ∀ it, H it = none → (∀ b o, H b = some o → b < it) → Q (.ref it) (upd H it (TiO t it))
section
variable {X : Cx}
theorem call_iterT : CallR X (.builtin "iter") (rIterT X.K) := by
  intro pins s σ H xs us Q I r h
  obtain ⟨t, zs, rfl, hq, q⟩ := h
  obtain ⟨u, rfl, ru⟩ := r.one
  cases (show u = Value.ref t from ru)
  obtain ⟨its, rv, pl, hz⟩ := I.tuple hq
  refine Calls.call_function_entry (by decide +kernel) (by decide +kernel) PySem.W.kdk_entry_iter (PySem.W.kdk_args_iter _) ?_
  unfold Builtin.«iter»
  refine wpAny_bind (m := someArgs "iter" 1 2 _) (wpAny_of_eq (a := [Value.ref t]) (by first | rfl | kernel_rfl!) ?_)
  show wpAny _ _ (pyIter (.ref t) >>= _) _ _ _
  refine wpAny_bind (wpAny_pyIter_tuple (items := its.toArray) pl (wpAny_pure ⟨_, rfl, ?_⟩))
  refine ⟨.ref s.heap.objs.size, _, I.laid (t' := s.toks) (fun b u e => Heap.get?_push_of_some _ e) (Nat.le_refl _) (ti_ok ⟨_, Heap.get?_push_size _ rfl, rfl, rfl⟩), rfl, q _ (I.hok.fresh (Nat.le_refl _)) fun b o e => ?_⟩
  exact (I.hok b o e).lt
end
section
variable {X : Cx} {pins : List (Addr × Obj)} {σ : L2.St} {q it t : Addr} {zs : List V} {A1 : Around} {Rs : Result → Shared → Prop}
/-- the list at q takes what the iterator gives -/
theorem fill (hh : A1.in1.handled = none) (few : zs.length ≤ 1000) : ∀ (k i : Nat) (H : Hp) (s : Shared), zs.length - i = k → i ≤ zs.length → Inv X pins σ H s → H q = some (.lst (zs.take i)) → FpOk X pins H it → s.heap.IsTupleIter it t i → SqT X.K H t zs →
    (∀ s', Inv X pins σ (upd H q (.lst zs)) s' → Rs (.ok (.ret .none)) s') → codeAny (model X.prog X.w) A1 (.builtin "list.extend.loop" ⟨[.ref q, .ref it, .none], []⟩) Rs s := by
  intro k
  have sz := sizeLine_eq
  induction k with
  | zero =>
    intro i H s hk hi I hq fp st ht hd
    have e : i = zs.length := by omega
    subst e
    obtain ⟨its, rv, pl, hz⟩ := I.tuple ht
    have li := rv.length
    obtain ⟨f0, f1, f2, f3, f4, f5⟩ := fp
    refine codeAny_builtin PySem.F.entry_extend_loop ?_
    rw [Around.under_plainId PySem.F.plain_extend_loop _]
    show wpAny _ A1.in1 (pyNext (.ref it) >>= _) _ _ s
    refine wpAny_bind (wpAny_pyNext_tuple_end hh st (items := its.toArray) pl (by rw [List.getElem?_toArray, List.getElem?_eq_none (by omega)]) fun h' ex => ?_)
    have I1 := I.turned (t' := s.toks) (h' := h') (fun b o nb e => ex b o nb e) f0 f1 f3 f4 f5
    rw [List.take_length] at hq
    have e : upd H q (.lst zs) = H := by
      funext b
      by_cases c : b = q
      · rw [c, upd_same, hq]
      · rw [upd_ne c]
    exact wpAny_pure (hd _ (by rw [e]; exact I1))
  | succ k ih =>
    intro i H s hk hi I hq fp st ht hd
    have lt : i < zs.length := by omega
    obtain ⟨its, rv, pl, hz⟩ := I.tuple ht
    obtain ⟨u, hu, ru⟩ := rv.get (List.getElem?_eq_getElem lt)
    obtain ⟨f0, f1, f2, f3, f4, f5⟩ := id fp
    refine codeAny_builtin PySem.F.entry_extend_loop ?_
    rw [Around.under_plainId PySem.F.plain_extend_loop _]
    show wpAny _ A1.in1 (pyNext (.ref it) >>= _) _ _ s
    refine wpAny_bind (wpAny_pyNext_tuple_item st (items := its.toArray) pl (x := u) (by simpa using hu) fun h' st' sb => ?_)
    have I1 := I.turned (t' := s.toks) (h' := h') (fun b o nb e => (sb.2 b nb).trans e) f0 f1 f3 f4 f5
    obtain ⟨z, ls, kk, r2, hl, e⟩ := I1.lstM hq
    have ll := r2.length
    rw [List.length_take] at ll
    show wpAny _ A1.in1 (updateSeq q (·.push u) >>= _) _ _ _
    have nq : it ≠ q := fun c => by rw [← c, f0] at hq; cases hq
    refine wpAny_bind (wpAny_updateSeq e rfl (wpAny_pure ⟨plainId_quiet PySem.F.plain_extend_loop _, ?_⟩) (by rw [List.size_toArray]; omega) (by show (ls.toArray.push u).size ≤ sizeLine + 1; rw [Array.size_push, List.size_toArray]; omega))
    have I2 := I1.lset (f := (·.push u)) (its' := ls ++ [u]) (t' := s.toks) hq e (by simp) (r2.append (.cons ru .nil)) (by rw [List.length_append, List.length_singleton, List.length_take]; omega)
    have tk : zs.take i ++ [zs[i]] = zs.take (i + 1) := by rw [List.take_add_one, List.getElem?_eq_getElem lt]; rfl
    rw [tk] at I2
    refine ih (i + 1) _ _ (by omega) lt I2 upd_same ⟨by rw [upd_ne nq]; exact f0, f1, f2, f3, f4, f5⟩ (ti_at st' fun o e => ?_) ?_ fun s' I' => hd s' (by rw [upd_upd] at I'; exact I')
    · exact (Heap.get?_update_other _ _ (Ne.symm nq)).trans e
    · rcases ht with (w1 | ⟨o, w2⟩) | w3
      · refine .inl (.inl ?_)
        rw [upd_ne fun c => by rw [c, hq] at w1; cases w1]
        exact w1
      · refine .inl (.inr ⟨o, ?_⟩)
        rw [upd_ne fun c => by rw [c, hq] at w2; cases w2]
        exact w2
      · exact .inr w3
end
end Li
namespace Li
open PySem PySem.Spec PyProof.Rows L2 ItX
section
variable {X : Cx} {C fi fl : Addr} {spI spL : Sp} {EI EL : XK} {n : Nat}
/-- a def that never raises, called anywhere within -/
theorem sure_at {A : Around} {Q : VK} {E : XK} {g : Addr} {sp : Sp} {us : List Value} {ws : List V} {pins : List (Addr × Obj)} {σ : L2.St} {H : Hp} {s : Shared} (F : FnR X.prog X.w X.K X.mg X.base CX0 n g sp) (hr : Room n A) (e0 : Env0 X.prog X.w X.K X.mg X.base A X.stack s H) (I : Inv X pins σ H s)
    (r : Vals ws us) (h : sp ws H Q E) : codeAny (model X.prog X.w) A (.call (.ref g) ⟨us, []⟩) (fun r s' => match r with | .ok (.ret v) => EP X pins σ Q v s' | .ok _ => False | .error _ => False) s := by
  refine codeAny_mono (F A X.stack s H us ws Q E hr e0 r h) fun r s' z => ?_
  match r, z with
  | .ok (.ret _), z => exact I.after z
  | .ok .next, z => exact z.elim
  | .ok .brk, z => exact z.elim
  | .ok .cont, z => exact z.elim
  | .error _, z => exact z.elim
/-- list(x): its __iter__ gives an iterator of a tuple, its __len__ a number -/
def rListIt (K : PySem.W.Frag) (C : Addr) (spI spL : Sp) (EI EL : XK) : List V → Hp → VK → Prop := fun xs H Q => ∃ a dx fs, xs = [.ref a] ∧ H a = some (.ins C dx fs) ∧ ∀ q, H q = none → spI [.ref a] (upd H q (.lst []))
  (fun v H1 => ∃ it t zs, v = .ref it ∧ H1 it = some (TiO t it) ∧ q < it ∧ SqT K H1 t zs ∧ zs.length ≤ 1000 ∧ H1 q = some (.lst []) ∧ H1 a = some (.ins C dx fs) ∧
    spL [.ref a] H1 (fun z H2 => ∃ i : Int, z = .int i ∧ 0 ≤ i ∧ i < 1000 ∧ H2 = H1 ∧ Q (.ref q) (upd (dropH H1 it) q (.lst zs))) EL) EI
theorem call_listIt (hs : PySem.W.findIn X.K (.ref C) "__iter__" = some (some (.ref fi))) (hf : PySem.W.isFn X.K (.ref fi) = true) (hl : PySem.W.findIn X.K (.ref C) "__len__" = some (some (.ref fl))) (hlf : PySem.W.isFn X.K (.ref fl) = true)
    (FI : FnR X.prog X.w X.K X.mg X.base CX0 n fi spI) (FL : FnR X.prog X.w X.K X.mg X.base CX0 n fl spL) (hc : X.calm = true) (hr : Room (n + 4) X.A) : CallR X (.type "list") (rListIt X.K C spI spL EI EL) := by
  intro pins s σ H xs us Q I rv h
  obtain ⟨a, dx, fs, rfl, ha, hq⟩ := h
  obtain ⟨u, rfl, ru⟩ := rv.one
  cases (show u = Value.ref a from ru)
  have sb : Sub X (n + 1) X.A.in1.in1.in1 := Sub.in1 (Sub.in1 (Sub.in1 ⟨hr, rfl⟩))
  refine callType_codes (Q₁ := fun obj s₁ => obj = .ref s.heap.objs.size ∧ s₁ = { s with heap := s.heap.push { cls := .type "list", data := .seq #[] } })
    PySem.F.called_list (PySem.F.typeCall_list_1 _) PySem.F.entry_list_init (code_list_new _ ⟨rfl, rfl⟩) fun obj s₁ h₁ => ?_
  obtain ⟨rfl, rfl⟩ := h₁
  have hS : (s.heap.push { cls := .type "list", data := .seq #[] }).get? s.heap.objs.size = some { cls := .type "list", data := .seq #[] } := Heap.get?_push_size _ rfl
  refine ⟨⟨_, hS, rfl⟩, PySem.F.args_list_init_2 _ _, ?_⟩
  have fr : H s.heap.objs.size = none := I.hok.fresh (Nat.le_refl _)
  have hsp := hq _ fr
  have young : X.s_0.heap.objs.size ≤ s.heap.objs.size := I.sz
  have I1 : Inv X pins σ (upd H s.heap.objs.size (.lst [])) { s with heap := s.heap.push { cls := .type "list", data := .seq #[] } } := I.lnew (its := []) (t' := s.toks) .nil (Nat.zero_le _)
  show wpAny _ _ (Builtin.List.listItems (.ref s.heap.objs.size) >>= fun old => Builtin.List.listUpdate (.ref s.heap.objs.size) (fun _ => #[]) >>= fun _ => letGo old.toList.reverse >>= fun _ => Builtin.List.listExtendWith (.ref s.heap.objs.size) (.ref a) .none) _ _ _
  refine wpAny_bind ?_
  unfold Builtin.List.listItems
  refine wpAny_bind (wpAny_seqItems hS rfl (wpAny_pure ?_))
  show wpAny _ _ (updateSeq s.heap.objs.size (fun _ => #[]) >>= fun _ => letGo (#[] : Array Value).toList.reverse >>= fun _ => Builtin.List.listExtendWith (.ref s.heap.objs.size) (.ref a) .none) _ _ _
  refine wpAny_bind (wpAny_updateSeq hS rfl ?_)
  have I2 := I1.lset (f := fun _ => #[]) (its := []) (its' := []) (ys := []) (t' := s.toks) upd_same hS rfl .nil (Nat.zero_le _)
  rw [upd_upd] at I2
  refine wpAny_bind (wpAny_letGo ?_)
  have ha2 : upd H s.heap.objs.size (.lst []) a = some (.ins C dx fs) := by rw [upd_ne (ne_of_none ha fr)]; exact ha
  have nqa : s.heap.objs.size ≠ a := (ne_of_none ha fr).symm
  have low : s.heap.objs.size < ({ s with heap := (s.heap.push { cls := .type "list", data := .seq #[] }).update s.heap.objs.size (Obj.mapSeq fun _ => #[]) } : Shared).heap.objs.size := (I2.hok _ _ upd_same).lt
  generalize hq0 : s.heap.objs.size = q at *
  generalize ({ s with heap := (s.heap.push { cls := .type "list", data := .seq #[] }).update q (Obj.mapSeq fun _ => #[]) } : Shared) = s1 at *
  generalize hH1 : upd H q (.lst []) = H1 at *
  have hq1 : H1 q = some (.lst []) := by rw [← hH1]; exact upd_same
  obtain ⟨ox, od, J⟩ := Ow.ins_at I2 ha2
  obtain ⟨m0, hF⟩ := I2.fr
  unfold Builtin.List.listExtendWith
  refine wpAny_bind (J.type.here ?_)
  have b1 : Builtin.List.listSameRef (.ref q) (.ref a) = false := by simp [Builtin.List.listSameRef, nqa]
  have b2 : (Value.ref C == Value.type "list") = false ∧ (Value.ref C == Value.type "tuple") = false := ⟨rfl, rfl⟩
  simp only [b1, b2.1, b2.2, Bool.or_false, Bool.false_eq_true, if_false]
  refine wpAny_bind (PySem.W.owit_iter hF I2.ok.mod.kin J hs hf ?_)
  have env : ∀ {s2 : Shared} {H2 : Hp}, Inv X pins σ H2 s2 → Env0 X.prog X.w X.K X.mg X.base X.A.in1.in1 X.stack s2 H2 := fun I => by
    have e := I.env0
    exact ⟨e.frames, e.mod, e.bs, e.bsz, e.funs, e.frf, e.hok, e.bare⟩
  have room0 : Room (n + 1) X.A.in1.in1 := (hr.in1.in1).mono (by omega)
  have room1 : Room n X.A.in1.in1 := room0.mono (by omega)
  refine wpAny_mono (wpAny_call (sure_at (us := [.ref a]) (ws := [.ref a]) FI room1 (env I2) I2 (.cons rfl .nil) hsp)) (fun v s3 hv => ?_) fun _ _ x => x.elim
  obtain ⟨v', H3, I3, rv3, it, t, zs, rfl, hit, qlt, ht, few, hq3, ha3, hsp2⟩ := hv
  cases (show v = Value.ref it from rv3)
  have st3 : s3.heap.IsTupleIter it t 0 := (I3.hok it _ hit).1
  unfold PySem.W.OwitIt
  refine wpAny_specialOf (name := Str.ofString "__next__") st3.typeIs PySem.F.slot_tuple_iterator_next.lookup ?_
  refine wpAny_bind (wpAny_holding ?_)
  unfold Builtin.List.listLengthHint
  obtain ⟨ox3, od3, J3⟩ := Ow.ins_at I3 ha3
  obtain ⟨m3, hF3⟩ := I3.fr
  refine wpAny_bind (wpAny_bind (J3.type.here ((PySem.W.looks_findIn I3.kIn hl).here ?_)))
  refine PySem.W.KFB.if_not rfl ?_
  refine wp_if_pos rfl (wpAny_bind (wpAny_rule (wpAny_bind (wpAny_attempt ?_))))
  refine PySem.W.len_K hF3 I3.ok.mod.kin J3 hl hlf (wpAny_mono (wpAny_call (sure_at (us := [.ref a]) (ws := [.ref a]) FL (room0.in1) (env I3).in1 I3 (.cons rfl .nil) hsp2)) (fun w s4 z => ?_) fun _ _ x => x.elim)
  obtain ⟨z', H4, I4, rz, i, rfl, h0, h1, rfl, qz⟩ := z
  obtain ⟨tk, e⟩ := (show ∃ tk, w = Value.int i tk from rz)
  cases e
  refine ⟨⟨h0, by omega⟩, ?_⟩
  dsimp only
  refine wpAny_bind (wpAny_of_eq (a := some i) rfl ?_)
  have sl := sizeLine_eq
  refine wp_if_neg (by unfold Builtin.List.listTooLong; rw [decide_eq_true_eq]; omega) (wpAny_pure ?_)
  have I5 := inv_drop (I4.tok (s4.toks + 1)) hit
  have fp : FpOk X pins (dropH H4 it) it := inv_fp I4 hit (Nat.le_trans young (Nat.le_of_lt qlt))
  have nqi : q ≠ it := Nat.ne_of_lt qlt
  have hq5 : dropH H4 it q = some (.lst []) := (dropH_ne nqi).trans hq3
  have ht5 : SqT X.K (dropH H4 it) t zs := by
    rcases ht with (w1 | ⟨o, w2⟩) | w3
    · refine .inl (.inl ((dropH_ne fun c => ?_).trans w1))
      rw [c, hit] at w1
      cases w1
    · refine .inl (.inr ⟨o, (dropH_ne fun c => ?_).trans w2⟩)
      rw [c, hit] at w2
      cases w2
    · exact .inr w3
  have st5 : s4.heap.IsTupleIter it t 0 := (I4.hok it _ hit).1
  have hh : X.A.in1.in1.handled = none := by simp [I.ok.hd hc]
  have go : ∀ s6 : Shared, Inv X pins σ (dropH H4 it) s6 → s6.heap.IsTupleIter it t 0 → codeAny (model X.prog X.w) X.A.in1 (.builtin "list.extend.loop" ⟨[.ref q, .ref it, .none], []⟩) (wants (fun r s₂ => r = .none ∧ EP X pins σ Q (.ref q) s₂) X.xe) s6 := fun s6 I6 st6 =>
    fill (zs := zs) hh few (zs.length - 0) 0 _ s6 rfl (Nat.zero_le _) I6 hq5 fp st6 ht5 fun s7 I7 => ⟨rfl, ⟨.ref q, _, I7, rfl, qz⟩⟩
  refine wpAny_ite_split (fun _ => ?_) fun _ => wpAny_pure ⟨plainId_quiet PySem.F.plain_extend_loop _, go _ I5 st5⟩
  refine wpAny_bind (wpAny_rule (wpAny_bind ?_))
  obtain ⟨z5, its5, k5, r5, l5, e5⟩ := I5.lstM hq5
  cases r5
  show wpAny _ _ (updateSeq q (·.push Value.none) >>= fun _ => updateSeq q (·.pop)) _ _ _
  refine wpAny_bind (wpAny_updateSeq e5 rfl ?_)
  have I6 := I5.lset (f := (·.push Value.none)) (its' := [Value.none]) (ys := [.non]) (t' := s4.toks + 1) hq5 e5 (by simp) (.cons rfl .nil) (by rw [List.length_singleton, sl]; decide)
  obtain ⟨z6, its6, k6, r6, l6, e6⟩ := I6.lstM upd_same
  obtain ⟨u6, rfl, ru6⟩ := r6.one
  refine wpAny_updateSeq e6 rfl ?_ (by show 1 ≤ sizeLine; rw [sl]; decide) (by show 0 ≤ sizeLine + 1; exact Nat.zero_le _)
  have I7 := I6.lset (f := (·.pop)) (its := [u6]) (its' := []) (ys := []) (t' := s4.toks + 1) upd_same e6 (by rfl) .nil (Nat.zero_le _)
  rw [upd_upd, show upd (dropH H4 it) q (.lst []) = dropH H4 it from funext fun b => by
    by_cases c : b = q
    · rw [c, upd_same, hq5]
    · rw [upd_ne c]] at I7
  refine wpAny_pure ⟨plainId_quiet PySem.F.plain_extend_loop _, go _ I7 (ti_at st5 fun o e => ?_)⟩
  exact (Heap.get?_update_other _ _ nqi).trans ((Heap.get?_update_other _ _ nqi).trans e)
end
end Li

/-! repr of data, and defs that are called where no repr is under way. -/
namespace Rp
open PySem PySem.Spec PyProof.Rows L2
section
variable {X : Cx}
def rRepr (K : PySem.W.Frag) : List V → Hp → VK → Prop := fun xs H Q => ∃ x d, xs = [x] ∧ Dp K H x d ∧ d.showable = true ∧ d.hasDict = false ∧ d.depth ≤ 60 ∧ d.shown.length ≤ sizeLine ∧ Q (.str d.shown) H
theorem call_reprD (hg : X.A.guards = some []) (hu : X.A.units + 64 < cLine) : CallR X (.builtin "repr") (rRepr X.K) := by
  intro pins s σ H xs us Q I r h
  obtain ⟨x, d, rfl, hd, hs, hn, hz, hl, q⟩ := h
  cases r with
  | cons rx rn =>
    cases rn
    obtain ⟨as, rd⟩ := Dp.reads I d x _ hd rx
    cases rd with
    | none => exact PySem.P.repr_of_none ⟨.str _, H, I.tok _, ⟨_, rfl⟩, q⟩
    | bool b => exact PySem.P.repr_of_bool ⟨.str _, H, I.tok _, ⟨_, rfl⟩, q⟩
    | int i t => exact PySem.P.repr_of_int (of_decide_eq_true hs) ⟨.str _, H, I.tok _, ⟨_, rfl⟩, q⟩
    | str z t => exact PySem.P.repr_of_str (hsz := hl) ⟨.str _, H, I.tok _, ⟨_, rfl⟩, q⟩
    | list h1 h2 h3 h4 =>
      exact PySem.repr_of_reads' (.list h1 h2 h3 h4) hs (fun e => by rw [hn] at e; cases e) hg (by omega) (fun _ _ e => e) (fun g u tk k => ⟨.str _, H, I.kept (t' := tk) k, ⟨_, rfl⟩, q⟩) hl
    | tuple h1 h2 h3 h4 =>
      exact PySem.repr_of_reads' (.tuple h1 h2 h3 h4) hs (fun e => by rw [hn] at e; cases e) hg (by omega) (fun _ _ e => e) (fun g u tk k => ⟨.str _, H, I.kept (t' := tk) k, ⟨_, rfl⟩, q⟩) hl
    | dict => cases hd
end
/-- as FnOk, where no repr is under way -/
structure GOk (P : Program) (w : World) (K : PySem.W.Frag) (mg : Str → Option Value) (base : Heap) (CX : CXT) (k : Nat) (f : Addr) (fd : FuncData) (ps : List Str) (sp : Sp) : Prop where
  len : ∀ vs H Q E, sp vs H Q E → vs.length = ps.length
  run : ∀ (A : Around) (outer : List Env) (s : Shared) (H : Hp) (args : Args) (us : List Value) (vs : List V) (Q : VK) (E : XK), Room k A → A.guards = some [] → Env0 P w K mg base A outer s H → BindsTo s fd args (ps.zip us) → Vals vs us → sp vs H Q E →
    codeAny (model P w) A (.call (.ref f) args) (CR CX outer P w H s Q E) s
section
variable {CX : CXT} {P : Program} {w : World} {K : PySem.W.Frag} {mg : Str → Option Value} {base : Heap} {k : Nat} {f : Addr} {fd : FuncData} {ps : List Str} {sp : Sp}
theorem GOk.of (F : FnOk P w K mg base CX k f fd ps sp) : GOk P w K mg base CX k f fd ps sp := ⟨F.len, fun A outer s H args us vs Q E hr _ => F.run A outer s H args us vs Q E hr⟩
theorem GOk.mono {j : Nat} (F : GOk P w K mg base CX j f fd ps sp) (h : j ≤ k) : GOk P w K mg base CX k f fd ps sp := ⟨F.len, fun A outer s H args us vs Q E hr => F.run A outer s H args us vs Q E (hr.mono h)⟩
theorem gfn_of {name qual : Str} {params : Arguments} {body : List Stmt} {scope : Scope} {dV kV doc pm cdv ct oc : Value} {an od : Option Addr} {osl : Array (Option Value)} {N : List Str}
    (lk : K.lookup f = some ⟨oc, od, .func (PySem.W.fnOf name qual params body scope dV kV doc pm an cdv ct), osl⟩) (hcd : PySem.W.codeIn K cdv qual = true) (S : FnScope N ps scope)
    (len : ∀ vs H Q E, sp vs H Q E → vs.length = ps.length)
    (hbody : ∀ (A : Around) (outer : List Env) (s : Shared) (H : Hp) (vs : List V) (Q : VK) (E : XK), A.guards = some [] → Room k (A.deeper (envOfC qual scope s.heap.objs.size f cdv)) → sp vs H Q E →
      ∃ t, PSs (cxOf CX P w K mg base N qual scope f cdv A outer s H E) body t ∧ t { nx := fun _ H' => Q .non H', rt := Q } (start N vs) H) :
    GOk P w K mg base CX (k + 1) f (PySem.W.fnOf name qual params body scope dV kV doc pm an cdv ct) ps sp := by
  refine ⟨len, fun A outer s H args us vs Q E hr hg e0 hb r hsp => ?_⟩
  have nl := len _ _ _ _ hsp
  have old : ∀ b o, base.get? b = some o → s.heap.get? b = some o := fun b o e => (e0.bs b o e).1
  have KX : K.In s.heap := e0.mod.kin.keeps old
  have lim : s.heap.NoLimit := e0.mod.nolimit.keeps old
  have kinds : ∀ y ∈ ps.zip us, scope.names.lookup y.1 = some .local ∨ (scope.names.lookup y.1 = some .cell ∧ ((cellsFrom (s.heap.objs.size + 1) scope.names []).lookup y.1).isSome = true) := fun ⟨n, v⟩ hy =>
    (S.par n (List.of_mem_zip hy).1).imp id fun q => ⟨q, PySem.W.cellsFrom_some _ _ _ (.inl q)⟩
  refine codeAny_call_function hr.depth (KX _ _ lk) rfl S.co S.gen rfl (PySem.W.codeRec_of KX hcd) (hb _ _ _ _ ?_)
  refine wpAny_newFunctionEnv_cells S.kind kinds fun env ee s1 x => ?_
  subst ee
  refine ⟨lim.keeps x.toInCall.keep, codeAny_func ?_⟩
  obtain ⟨t, ht, hq⟩ := hbody A outer s H vs Q E hg (hr.deeper _) hsp
  have I0 : Inv (cxOf CX P w K mg base N qual scope f cdv A outer s H E) [] (start N vs) H s1 := inv_start S hr.hd e0 nl r x
  refine wpAny_mono (ht.run [] s1 (start N vs) H _ I0 hq) (fun fl s' hs => ?_) fun e s' hs => hs
  cases fl with
  | ret u =>
    obtain ⟨v, σ', H', J, rv, q⟩ := hs
    exact ⟨v, H', J.os, J.bare, J.base, J.hok, rv, q⟩
  | next =>
    obtain ⟨σ', H', J, q⟩ := hs
    exact ⟨V.non, H', J.os, J.bare, J.base, J.hok, rfl, q⟩
  | brk =>
    obtain ⟨_, _, _, q⟩ := hs
    exact q.elim
  | cont =>
    obtain ⟨_, _, _, q⟩ := hs
    exact q.elim
theorem gok {x qual : Str} {st : Stmt} {N : List Str} (F : Fun K x qual st f fd) (S : FnScope N ps (defScope st)) (len : ∀ vs H Q E, sp vs H Q E → vs.length = ps.length)
    (hbody : ∀ (cdv : Value) (A : Around) (outer : List Env) (s : Shared) (H : Hp) (vs : List V) (Q : VK) (E : XK), A.guards = some [] → Room k (A.deeper (envOfC qual (defScope st) s.heap.objs.size f cdv)) → sp vs H Q E →
      ∃ t, PSs (cxOf CX0 P w K mg base N qual (defScope st) f cdv A outer s H E).nox (defBody st) t ∧ t { nx := fun _ H' => Q .non H', rt := Q } (start N vs) H) : GOk P w K mg base CX0 (k + 1) f fd ps sp := by
  obtain ⟨oc, od, kV, doc, pm, an, cdv, ct, osl, rfl, lk, hcd⟩ := F.ex
  refine gfn_of lk hcd S len fun A outer s H vs Q E hg hr hsp => ?_
  obtain ⟨t, h, q⟩ := hbody cdv A outer s H vs Q E hg hr hsp
  exact ⟨t, h.nox, q⟩
end
section
variable {X : Cx} {CX : CXT} {k : Nat} {f : Addr} {fd : FuncData} {ps : List Str} {sp : Sp} {E : XK} {ds : List Value} {dvs : List V} {x : Str} {e : Expr} {es : List Expr} {t : TA} {p pos : Pos}
theorem pe_gcall (F : GOk X.prog X.w X.K X.mg X.base CX k f fd ps sp) (gd : X.A.guards = some []) (hr : Room k X.A) (hg : Gl X x) (hm : X.mg x = some (.ref f)) (hk : PySem.W.keepIn X.K (.ref f) = true) (hb : Binds X.K fd ps ds) (hd : Vals dvs ds) (hx : Passes CX X E)
    (ha : PA X (e :: es) t) (hdb : (x == ("__debug__" : Str)) = false := by decide) (he : starEach (e :: es) X.env = (false, eval e X.env) :: starEach es X.env := by rfl) (hpl : (backTo pos (starEach es X.env)).any (·.1) = false := by rfl) :
    PE X (.Call (.Name x p) (e :: es) [] pos) (tCall sp dvs E t) := by
  refine ⟨fun pins s σ H Q I h => ?_⟩
  refine wpAny_Call_Name_kw (ld_glob I hg hm ?_ hdb)
  refine PySem.W.callWith_K (h₀ := X.base) I.ok.mod.kin hk (thn (ha.run pos pins s σ H _ I h) fun us s1 ⟨vs, H1, I1, r, q⟩ => ⟨I1.kIn, ?_⟩) he hpl
  have r2 : Vals (vs ++ dvs) (us ++ ds) := r.append hd
  have nl : (us ++ ds).length = ps.length := r2.length.symm.trans (F.len _ _ _ _ q)
  refine wpAny_call (codeAny_mono (F.run X.A X.stack s1 H1 ⟨us, []⟩ (us ++ ds) (vs ++ dvs) Q E hr gd I1.env0 (hb s1 us I1.kIn nl) r2 q) fun res s' hq => ?_)
  cases res with
  | error z => exact hx pins σ H1 s1 z s' I1 hq
  | ok fl =>
    cases fl with
    | ret u => exact I1.after hq
    | next => exact hq.elim
    | brk => exact hq.elim
    | cont => exact hq.elim
end
end Rp
/-! The law's own call, of a def that is called where no repr is under way. -/
namespace Rp
open PySem PySem.Spec PyProof.Rows L2
theorem law_gcall {P : Program} {w : World} {K : PySem.W.Frag} {mg mb : Str → Option Value} {CX : CXT} {k : Nat} {fa a : Addr} {fd : FuncData} {x : Str} {sp : Sp} {s1 : Shared} {vs : List Value} {ns : List Int}
    (KX : K.In s1.heap) (hns : s1.heap.Ns mainGlobals mg) (hb : s1.heap.Ns builtinsNs mb) (hbb : ∀ y : Str, y ≠ "__name__" → mb y = bootBuiltins y) (lim : s1.heap.NoLimit) (gens : s1.gens = #[])
    (ha : s1.heap.get? a = some { cls := .type "list", data := .seq vs.toArray }) (hi : IntsAre vs ns) (hl : ns.length ≤ sizeLine) (hr : Room k callerA)
    (F : ∀ base : Heap, K.In base → base.Ns mainGlobals mg → GOk P w K mg base CX k fa fd [x] sp) (hbind : ∀ (s : Shared) (u : Value), BindsTo s fd ⟨[u], []⟩ [(x, u)])
    (hsp : ∀ H : Hp, Only H → SqL K H a (ns.map V.int) → sp [.ref a] H (fun v _ => v = .bl true) fun _ _ _ => False)
    (hCX : ∀ H e t, CX [] H s1 (fun _ _ _ => False) e t → False) :
    codeAny (model P w) callerA (.call (.ref fa) ⟨[.ref a], []⟩) (fun r t => r = .ok (.ret (.bool true)) ∧ OldK s1.heap t.heap ∧ t.os = s1.os ∧ AllBare t.gens) s1 := by
  have rv := vals_ints hi
  have nv := hi.length
  have go : ∀ H : Hp, Only H → SqL K H a (ns.map V.int) → HOk P w H s1.heap → (∀ b, H b ≠ none → b = a) → (H a ≠ none → K.lookup a = none) →
      codeAny (model P w) callerA (.call (.ref fa) ⟨[.ref a], []⟩) (fun r t => r = .ok (.ret (.bool true)) ∧ OldK s1.heap t.heap ∧ t.os = s1.os ∧ AllBare t.gens) s1 := by
    intro H hO hS hok only_a noK
    have hid : ∀ {b : Addr} {o : Obj}, s1.heap.get? b = some o → H b = none → (hidT s1.heap H).get? b = some o := fun e n => hidT_get e n
    have dictFree : ∀ {b : Addr} {o : Obj} {es : Array DictEntry} {ep : Nat}, s1.heap.get? b = some o → o.data = .dict es ep → H b = none := fun {b o es ep} e d => by
      cases q : H b with
      | none => rfl
      | some u =>
        have eb : b = a := only_a b (by rw [q]; simp)
        subst eb
        rw [ha] at e
        cases e
        have d2 : Data.seq vs.toArray _ = Data.dict es ep := d
        cases d2
    have nsOf : ∀ {b : Addr} {m : Str → Option Value}, s1.heap.Ns b m → (hidT s1.heap H).Ns b m := fun {b m} ⟨o, es, ep, e, d, r⟩ => ⟨o, es, ep, hid e (dictFree e d), d, r⟩
    have inB : K.In (hidT s1.heap H) := fun b o e => hid (KX b o e) (by
      cases q : H b with
      | none => rfl
      | some u =>
        have eb : b = a := only_a b (by rw [q]; simp)
        subst eb
        rw [noK (by rw [q]; simp)] at e
        cases e)
    have md : Mod K mg (hidT s1.heap H) := ⟨inB, nsOf hns, ⟨mb, nsOf hb, hbb⟩, let ⟨mc, c1, c2⟩ := lim; ⟨mc, nsOf c1, c2⟩⟩
    have e0 : Env0 P w K mg (hidT s1.heap H) callerA [] s1 H := ⟨rfl, md, fun b o e => of_hidT e, Nat.le_of_eq (hidT_size _ _), trivial, fun b hb => absurd (show b ∈ ([] : List Addr) from hb) (by simp), hok, .of_eq gens⟩
    refine codeAny_mono ((F _ inB (nsOf hns)).run callerA [] s1 H ⟨[.ref a], []⟩ [.ref a] [.ref a] _ _ hr rfl e0 (hbind s1 (.ref a)) (.cons rfl .nil) (hsp H hO hS)) fun r t h => ?_
    cases r with
    | error e => exact (hCX H e t h).elim
    | ok fl =>
      cases fl with
      | next => exact h.elim
      | brk => exact h.elim
      | cont => exact h.elim
      | ret u =>
        obtain ⟨v, H', os, bare, un, hok', r', q⟩ := h
        have q' : v = .bl true := q
        subst q'
        obtain rfl : u = Value.bool true := r'
        refine ⟨rfl, OldK.of_keep fun b o e => ?_, os, bare⟩
        cases q : H b with
        | none => exact un.keep b o e q (by intro z; exact absurd (show b ∈ ([] : List Addr) from z) (by simp)) (by simp)
        | some u =>
          rcases hO b with z | ⟨ob, xs, z⟩
          · rw [q] at z
            cases z
          · have z2 := un.frzs b ob _ z
            obtain ⟨e1, _⟩ := hok b _ z
            obtain ⟨e2, _⟩ := hok' b _ z2
            rw [e] at e1
            cases e1
            exact e2
  cases hk : K.lookup a with
  | some o =>
    have e := KX a o hk
    rw [ha] at e
    cases e
    refine go (fun _ => none) (fun _ => .inl rfl) (.inr ⟨_, vs.toArray, _, hk, rfl, rfl, rfl, by rw [List.size_toArray, nv]; exact hl, by simpa using rv⟩) (fun b u z => by have z' : (none : Option HO) = some u := z; cases z') (fun b z => absurd rfl z) fun z => absurd rfl z
  | none =>
    refine go (fun b => if b = a then some (.frz { cls := .type "list", data := .seq vs.toArray } (.lst (ns.map V.int))) else none) (fun b => ?_) (.inl (.inr ⟨{ cls := .type "list", data := .seq vs.toArray }, if_pos rfl⟩)) (fun b u z => ?_) (fun b z => ?_) fun _ => hk
    · by_cases c : b = a
      · exact .inr ⟨_, _, if_pos c⟩
      · exact .inl (if_neg c)
    · by_cases c : b = a
      · have z' := (if_pos c).symm.trans z
        cases z'
        subst c
        exact ⟨ha, by rw [List.length_map]; exact hl, vs, _, rv, ha⟩
      · have z' := (if_neg c).symm.trans z
        cases z'
    · by_cases c : b = a
      · exact c
      · exact absurd (if_neg c) z
theorem walk_gof {l : PySem.W.OpenLaw} {n k : Nat} {q : Program} {loose : List Str} {XP : (Str → Option Value) → Heap → Prop} {YP : World → Heap → Prop} {d : DefRec} {K : Params → PySem.W.Frag} {CX : World → CXT} {sp : World → Sp} {x : Str}
    (hn : l.most = some n) (hn2 : n ≤ sizeLine) (hdf : d.params.defaults = []) (hr : Room k callerA)
    (hY : ∀ (w : World) (h : Heap), YP w h → (K w.params).In h)
    (F : ∀ (w : World) (mg : Str → Option Value) (fa : Addr) (h : Heap), (K w.params).In h → h.Ns mainGlobals mg → mg d.name = some (.ref fa) →
      ∃ fd : FuncData, (∀ (s : Shared) (u : Value), BindsTo s fd ⟨[u], []⟩ [(x, u)]) ∧
        ∀ base : Heap, (K w.params).In base → base.Ns mainGlobals mg → GOk l.prog w (K w.params) mg base (CX w) k fa fd [x] (sp w))
    (hsp : ∀ (w : World) (H : Hp) (a : Addr) (ns : List Int), ns.length ≤ n → Only H → SqL (K w.params) H a (ns.map V.int) → sp w [.ref a] H (fun v _ => v = .bl true) fun _ _ _ => False)
    (hCX : ∀ (w : World) (H : Hp) (s : Shared) (e : Value) (t : Shared), CX w [] H s (fun _ _ _ => False) e t → False) :
    PySem.W.WalkO q loose XP YP l.row.toRowW d [] (fun f vs => PySem.call f vs) := by
  refine Att.attach_call hn hdf fun w s0 s1 mg mb fa o pm cd doc a vs ns G Y ho hd hcd hmg hobj hints hlen hg => ?_
  have KX := hY w _ Y
  obtain ⟨fd, hb, hF⟩ := F w mg fa _ KX G.T.g hmg
  exact law_gcall KX G.T.g G.T.b G.T.builtins G.T.nolimit hg hobj hints (Nat.le_trans hlen hn2) hr hF hb (fun H hO hS => hsp w H a ns hlen hO hS) fun H e t => hCX w H s1 e t
end Rp

/-! An own error with one field, BadOffset, as the guide's skeleton on own errors gives it. -/
namespace PySem
namespace LowO
open PySem.W PySem.Calls PyProof.Rows PySem.HandSPX
/-! ### the text of __init__ -/
def iA (p1 p2 : Pos) : Arguments := { posonlyargs := [], args := [{ arg := "self", annotation := none, pos := p1 }, { arg := "offset", annotation := none, pos := p2 }], vararg := none, kwonlyargs := [], kw_defaults := [], kwarg := none, defaults := [] }
def iB (q1 q2 q3 q4 : Pos) : List Stmt := [.Assign [.Attribute (.Name "self" q1) "offset" q2] (.Name "offset" q3) q4]
def iS : Scope := { kind := .function, names := [(PySem.Str.ofString "self", .local), (PySem.Str.ofString "offset", .local)], isGenerator := false, isCoroutine := false, more := [] }
/-- what the written part says of Low, at C, and of its __init__, at fI -/
structure LowTxt (K : Frag) (mg : Str → Option Value) (C fI : Addr) : Prop where
  gC : mg "BadOffset" = some (.ref C)
  cls : ∃ nm q N bs bm sn sub ab col dd k0 k1 k2 k3 k5, K.lookup C = some (excClassObj nm q C N bs bm true sn sub ab col dd k0 k1 k2 k3 k5 "ValueError.__new__") ∧ refsVE bm = true
  sa : findIn K (.ref C) "__setattr__" = some (some (.builtin "object.__setattr__"))
  ga : findIn K (.ref C) "__getattribute__" = some (some (.builtin "BaseException.__getattribute__"))
  gg : findIn K (.ref C) "__getattr__" = some none
  noN : findIn K (.ref C) "offset" = some none
  iC : findIn K (.ref C) "__init__" = some (some (.ref fI))
  tC : typeIn K (.ref fI) = some (.type "function")
  kC : keepIn K (.ref C) = true
  exC : subIn K (.ref C) (.type "BaseException") = some true
  tyC : typeIn K (.ref C) = some (.type "type")
  hdC : hasDictIn K C = true
  te : exmOne K (.ref C) (.ref C) = some true
  fn : ∃ (oc : Value) (od : Option Addr) (doc pm : Value) (an : Option Addr) (cdv ct : Value) (osl : Array (Option Value)) (p1 p2 q1 q2 q3 q4 : Pos),
    K.lookup fI = some ⟨oc, od, .func (fnOf "__init__" "BadOffset.__init__" (iA p1 p2) (iB q1 q2 q3 q4) iS .none .none doc pm an cdv ct), osl⟩ ∧ codeIn K cdv "BadOffset.__init__" = true
theorem one_size (v : Value) : [v].length ≤ sizeLine := by
  rw [sizeLine_eq]
  exact (by decide : 1 ≤ 16777216)
theorem kept_but {K : Frag} {h h' : Heap} {x : Addr} (X : K.In h) (hx : K.lookup x = none) (k : ∀ b o, b ≠ x → h.get? b = some o → h'.get? b = some o) : K.In h' := fun a o e =>
  k a o (fun z => by rw [z, hx] at e; cases e) (X a o e)
theorem ldC {M : Model} {s : Shared} {name : Str} {scope : Scope} {L a : Addr} {cd : Value} {m : Str → Option Value} {x : Str} {pos : Pos} {v : Value} {Q : Value → Shared → Prop} {A : Around} {E : Value → Shared → Prop} (hn : s.heap.Ns L m) (hv : m x = some v) (h : Q v s)
    (hk : scope.kind = .function := by rfl) (hl : (envOfC name scope L a cd).kindOf x = some .local := by rfl) (hd : (x == ("__debug__" : Str)) = false := by decide) :
    wpAny M A (eval (.Name x pos) (envOfC name scope L a cd)) Q E s := wpAny_Name (wpAny_loadName_local hk hl hn hv h) hd
/-- what __init__ leaves of a fresh exception at x -/
structure InitEnd (h h' : Heap) (x C dx t1 : Addr) (v : Value) : Prop where
  keep : ∀ b o, b ≠ x → h.get? b = some o → h'.get? b = some o
  obj : h'.get? x = some { cls := .ref C, dict := some dx, data := .fields #[.ref t1, .none, .none, .none, .bool false, .none] }
  dbig : h.objs.size ≤ dx
  dne : dx ≠ x
  ns : h'.Ns1 dx (fun y => if y = "offset" then some v else none)
/-- a made Low -/
structure OwnMade (h h' : Heap) (e C d : Addr) (v : Value) : Prop where
  keep : ∀ b o, h.get? b = some o → h'.get? b = some o
  new : h.objs.size ≤ e
  obj : ∃ oe vs, h'.get? e = some oe ∧ oe.cls = .ref C ∧ oe.dict = some d ∧ oe.data = .fields vs ∧ vs[1]? = some .none
  dbig : h.objs.size ≤ d
  dne : d ≠ e
  ns : h'.Ns1 d (fun y => if y = "offset" then some v else none)
section
variable {prog : Program} {w : World} {A : Around} {E : Value → Shared → Prop} {R : Result → Shared → Prop} {s : Shared} {K : Frag} {mg : Str → Option Value} {C fI : Addr}
theorem low_init (T : LowTxt K mg C fI) {x t0 : Addr} {v : Value} (X : K.In s.heap) (hlim : s.heap.NoLimit) (hx : s.heap.get? x = some (excO C t0)) (hnx : K.lookup x = none) (hroom : A.depth < recursionLimit)
    (hq : ∀ h' tk dx, InitEnd s.heap h' x C dx t0 v → R (.ok (.ret .none)) { s with heap := h', toks := tk }) :
    codeAny (model prog w) A (.call (.ref fI) ⟨[.ref x, v], []⟩) R s := by
  obtain ⟨oc, od, doc, pm, an, cdv, ct, osl, p1, p2, q1, q2, q3, q4, ho, hcd⟩ := T.fn
  obtain ⟨nm, q, N, bs, bm, sn, sub, ab, col, dd, k0, k1, k2, k3, k5, hC, hbm⟩ := T.cls
  have hcl : clsIn K C = some { name := nm, bases := bs, mro := .ref C :: bm, ns := N, qualname := q, hasDict := true, slotNames := sn, subclasses := sub, abstract := ab, collection := col, hasDel := false } := by unfold clsIn; rw [hC] <;> rfl
  refine Att.call_fn (binds := [("self", .ref x), ("offset", v)]) X hlim ho hcd hroom (BindsTo.of_eq (by first | rfl | with_unfolding_all rfl)) (by first | rfl | decide | with_unfolding_all rfl) (fun s₁ IC => ?_) rfl rfl rfl
  obtain ⟨h₁, tk₁, rfl⟩ := IC.toInCall.same
  have k : ∀ b o, s.heap.get? b = some o → h₁.get? b = some o := IC.toInCall.keep
  have hn := IC.toInCall.ns
  have hxL : s.heap.objs.size ≠ x := Nat.ne_of_gt (Heap.lt_size hx)
  have X₁ : K.In h₁ := X.keeps k
  have hx₁ := k _ _ hx
  -- self.by = by
  show wpAny _ _ (execs _ _) _ _ _
  refine wpAny_execs_cons (plainObj_wpAny_Assign_Attribute ?_)
  refine ldC (v := v) hn (by first | rfl | with_unfolding_all rfl | kernel_rfl) (ldC (v := .ref x) hn (by first | rfl | with_unfolding_all rfl | kernel_rfl) ?_)
  refine set_plain X₁ (ox := excO C t0) (od := none) ⟨hx₁, rfl, rfl, trivial⟩ T.sa ?_
  refine exc_osa X₁ hx₁ hcl (show refsVE (.ref C :: bm) = true from hbm) rfl T.noN (fun h₃ tk₃ dx k₃ dn dne hx₃ hn₃ => ?_)
  show wpAny _ _ (execs _ _) _ _ _
  have z : s.heap.objs.size < h₁.objs.size := hn.lt
  exact wpAny_execs_nil (hq h₃ tk₃ dx ⟨fun b o hb e => k₃ b o hb (k b o e), hx₃, Nat.le_of_lt (Nat.lt_of_lt_of_le z dn), dne, hn₃⟩)
theorem low_made (T : LowTxt K mg C fI) {v : Value} (X : K.In s.heap) (hlim : s.heap.NoLimit) (hroom : A.depth + 1 < recursionLimit)
    (hq : ∀ h' tk e d, OwnMade s.heap h' e C d v → R (.ok (.ret (.ref e))) { s with heap := h', toks := tk }) :
    codeAny (model prog w) A (.call (.ref C) ⟨[v], []⟩) R s := by
  obtain ⟨nm, q, N, bs, bm, sn, sub, ab, col, dd, k0, k1, k2, k3, k5, hC, hbm⟩ := T.cls
  obtain ⟨hp, g, dr, tk, os⟩ := s
  have k : ∀ b o, hp.get? b = some o → ((hp.push (kdv_tup [v])).push (excO C hp.objs.size)).get? b = some o := fun b o e => Heap.get?_push_of_some _ (Heap.get?_push_of_some _ e)
  have hget : ((hp.push (kdv_tup [v])).push (excO C hp.objs.size)).get? (hp.objs.size + 1) = some (excO C hp.objs.size) := by heap_get
  have hnx : K.lookup (hp.objs.size + 1) = none := by
    cases e : K.lookup (hp.objs.size + 1) with
    | none => rfl
    | some o =>
      have z : hp.get? (hp.objs.size + 1) = some o := X _ _ e
      exact absurd (Nat.lt_of_succ_lt (Heap.lt_size z)) (Nat.lt_irrefl _)
  refine call_own F.excBase_ValueError (fun X => refsVE_contains X bm hbm) (X _ _ hC) (looks_findIn X T.iC) (fun self => bind_fn X self T.tC) (one_size v) ?_
  refine low_init (s := ⟨(hp.push (kdv_tup [v])).push (excO C hp.objs.size), g, dr, tk, os⟩) T (X.keeps k) (hlim.keeps k) hget hnx ?_ fun h' tk' dx ⟨k', hx, dn, dne, hns⟩ => ?_
  · show A.depth + 1 < recursionLimit
    exact hroom
  · have old : ∀ b o, hp.get? b = some o → h'.get? b = some o := fun b o e => k' b o (Nat.ne_of_lt (Nat.lt_succ_of_lt (Heap.lt_size e))) (k b o e)
    have z : hp.objs.size + 1 + 1 ≤ dx := by
      first
        | (simpa only [Heap.size_push] using dn)
        | exact dn
        | (have q := dn; rw [Heap.size_push, Heap.size_push] at q; exact q)
    exact ⟨rfl, hq h' tk' (hp.objs.size + 1) dx ⟨old, Nat.le_succ _, ⟨_, _, hx, rfl, rfl, rfl, rfl⟩, Nat.le_trans (Nat.le_trans (Nat.le_succ _) (Nat.le_succ _)) z, dne, hns⟩⟩
end
end LowO
end PySem
namespace L2
open PySem PySem.Spec PyProof.Rows
theorem relO_lowO {v : V} {v' : Value} (r : RelV v v') (f : Str) : RelO (List.lookup f [(("offset" : Str), v)]) (if f = "offset" then some v' else none) := by
  by_cases hw : f = "offset"
  · subst hw
    rw [if_pos rfl]
    have q : List.lookup ("offset" : Str) [(("offset" : Str), v)] = some v := by simp [List.lookup]
    rw [q]
    exact r
  · rw [if_neg hw]
    have qw : (f == ("offset" : Str)) = false := by simpa using hw
    have q2 : List.lookup f [(("offset" : Str), v)] = none := by simp [List.lookup, qw]
    rw [q2]
    trivial
section
variable {X : Cx} {C fI : Addr}
/-- Low(e) -/
def tMkLowO (C : Addr) (ta : TA) : St → Hp → XK → Prop := fun σ H Q => ta σ H fun vs H1 => ∃ v, vs = [v] ∧ ∀ d, H1 d = none → Q (.ref C) (some d) (upd H1 d (.xd [(("offset" : Str), v)]))
theorem pmk_lowO {a : Expr} {ta : TA} {p pos : Pos} {k : Nat} (T : PySem.LowO.LowTxt X.K X.mg C fI) (hr : Room k X.A) (ha : PA X [a] ta) (hg : Gl X "BadOffset" := by rfl)
    (he : starEach (a :: []) X.env = (false, eval a X.env) :: starEach [] X.env := by rfl) (hpl : (backTo pos (starEach [] X.env)).any (·.1) = false := by rfl) :
    PMk X (.Call (.Name "BadOffset" p) [a] [] pos) (tMkLowO C ta) := by
  intro pins s σ H Q I h
  refine wpAny_Call_Name_kw (ld_glob I hg T.gC ?_)
  refine PySem.W.callWith_K (h₀ := X.base) I.ok.mod.kin T.kC (thn (ha.run pos pins s σ H _ I h) fun us s1 hh => ?_) he hpl
  obtain ⟨vs, H1, I1, r1, v, ev, q1⟩ := hh
  subst ev
  refine ⟨I1.kIn, ?_⟩
  cases r1 with
  | cons rv rn =>
    rename_i v' us'
    cases rn
    show wpAny _ _ (call (.ref C) [v']) _ _ _
    have hlim := I1.nolimit
    obtain ⟨hp, g, dr, tk, os⟩ := s1
    refine wpAny_call (PySem.LowO.low_made T I1.kIn hlim (by have := hr.dp; omega) fun h' tk' e d M => ?_)
    show MkP X pins σ Q (.ref e) ⟨h', g, dr, tk', os⟩
    obtain ⟨oe, fv, hoe, hc, hd, hdat, h1⟩ := M.obj
    have hns := M.ns
    obtain ⟨G', g1, g2⟩ := restrict h' fun b => decide (b ≠ e)
    have gk : ∀ b, b ≠ e → G'.get? b = h'.get? b := fun b hb => g1 b (decide_eq_true hb)
    have ge : G'.get? e = none := g2 e (by simp)
    have old : ∀ b o, hp.get? b = some o → G'.get? b = some o := fun b o q => (gk b (Nat.ne_of_lt (Nat.lt_of_lt_of_le (Heap.lt_size q) M.new))).trans (M.keep b o q)
    have ob : ObjOk X.prog X.w (upd H1 d (.xd [(("offset" : Str), v)])) G' d (.xd [(("offset" : Str), v)]) :=
      ⟨_, hns.at (fun o q => (gk d M.dne).trans q), fun f => relO_lowO rv f⟩
    have J : Inv X pins σ (upd H1 d (.xd [(("offset" : Str), v)])) ⟨G', g, dr, tk', os⟩ := I1.laid (t' := tk') old M.dbig ob
    refine ⟨e, oe, fv, ⟨G', g, dr, tk', os⟩, _, .ref C, some d, rfl, J, fun b o q => ?_, ge, hoe, ⟨hc, hd⟩, hdat, h1, ?_, rfl, I1.bare, raises_own T.exC T.tyC, q1 d (I1.hok.fresh M.dbig)⟩
    · by_cases hb : b = e
      · have q' : G'.get? b = some o := q
        rw [hb, ge] at q'; cases q'
      · exact (gk b hb).symm.trans q
    · rw [upd_ne (Ne.symm M.dne)]
      exact I1.hok.fresh M.new
/-- raise Low(e) -/
def tRaiseLowO (C : Addr) (W : WX) (ta : TA) : TS := fun _ σ H => tMkLowO C ta σ H fun cls d H' => W cls d σ H'
theorem ps_raiseLowO {a : Expr} {ta : TA} {W : WX} {p pos pos2 : Pos} {k : Nat} (hc : X.calm = true) (T : PySem.LowO.LowTxt X.K X.mg C fI) (hr : Room k X.A) (tk : Takes X W) (ha : PA X [a] ta) (hg : Gl X "BadOffset" := by rfl)
    (he : starEach (a :: []) X.env = (false, eval a X.env) :: starEach [] X.env := by rfl) (hpl : (backTo pos (starEach [] X.env)).any (·.1) = false := by rfl) :
    PS X (.Raise (some (.Call (.Name "BadOffset" p) [a] [] pos)) none pos2) (tRaiseLowO C W ta) := ps_raise hc tk (pmk_lowO T hr ha hg he hpl)
/-- low.by, low the exception that the suite holds (at a; its class cls, its dict d) -/
def tByLowO (C : Addr) (a : Addr) (cls : Value) (d : Option Addr) (te : TE) : TE := fun σ H Q => te σ H fun x H1 => x = .ref a ∧ cls = .ref C ∧ ∃ (dd : Addr) (v : V), d = some dd ∧ H1 dd = some (.xd [(("offset" : Str), v)]) ∧ Q v H1
theorem pe_byLowO {a : Addr} {oe : Obj} {cls : Value} {d : Option Addr} {pn : List (Addr × Obj)} {e : Expr} {te : TE} {pos : Pos} (T : PySem.LowO.LowTxt X.K X.mg C fI) (hz : Zc cls d oe) (hf : ∃ vs, oe.data = .fields vs) (he : PE (X.suite a ((a, oe) :: pn)) e te)
    (hb : attributeBase e "offset" X.env (eval e X.env) = eval e X.env := by rfl) :
    PE (X.suite a ((a, oe) :: pn)) (.Attribute e "offset" pos) (tByLowO C a cls d te) := by
  refine ⟨fun pins s σ H Q I h => ?_⟩
  refine attr_of hb (thn (he.run pins s σ H _ I h) fun u s1 hh => ?_)
  obtain ⟨x, H1, I1, rx, ex, ec, dd, v, ed, ea, q⟩ := hh
  subst ex
  obtain rfl : u = Value.ref a := rx
  subst ec
  subst ed
  obtain ⟨ha, _⟩ := I1.pin (a, oe) (List.mem_append_left _ List.mem_cons_self)
  obtain ⟨vs, hd⟩ := hf
  have hx : ObjOk X.prog X.w H1 s1.heap dd (.xd [(("offset" : Str), v)]) := I1.hok dd _ ea
  obtain ⟨mA, hns, hr⟩ := hx
  obtain ⟨od, ho, hl⟩ := lookIn_ns hns
  have l : List.lookup ("offset" : Str) [(("offset" : Str), v)] = some v := by simp [List.lookup]
  obtain ⟨u, hu, ru⟩ := RelO.some_of (v := v) (o := mA "offset") (by rw [← l]; exact hr "offset")
  have J : PySem.W.InstAt s1.heap a oe C (some od) := ⟨ha, hz.1, by unfold PySem.W.notCls; rw [hd] <;> rfl, by rw [hz.2]; exact ho⟩
  exact HandSPX.exc_get I1.kIn J T.ga T.gg T.exC (PySem.W.findObj_own T.hdC T.noN rfl (by rw [hl, hu])) (handed_of ru) ⟨v, H1, I1.tok _, ru, q⟩
end
end L2


/-! isinstance of a caught error with a dict of its own; == over data without dicts; text * int. -/
namespace Xe
open PySem PySem.Spec PyProof.Rows L2
/-- isinstance(e, c), e the error of the class at C that the suite holds, with its own dict -/
def rIsD (K : PySem.W.Frag) (C a : Addr) (cls : Value) (d : Option Addr) : List V → Hp → VK → Prop := fun xs H Q => ∃ (c : V) (cv : Value) (b : Bool) (dd : Addr) (fs : List (Str × V)), xs = [.ref a, c] ∧ cls = .ref C ∧ d = some dd ∧ H dd = some (.xd fs) ∧ (∀ u, RelV c u → u = cv) ∧
  PySem.W.kitOne K (.ref C) cv = some b ∧ Q (.bl b) H
theorem call_isD {X : Cx} {a C : Addr} {oe : Obj} {cls : Value} {d : Option Addr} {pn : List (Addr × Obj)} (EC : ExcC X.K C) (hcl : (PySem.W.clsIn X.K C).isSome = true) (hz : Zc cls d oe) (hf : ∃ vs, oe.data = .fields vs) : CallR (X.suite a ((a, oe) :: pn)) (.builtin "isinstance") (rIsD X.K C a cls d) := by
  intro pins s σ H xs us Q I r h
  obtain ⟨c, cv, b, dd, fs, rfl, ec, ed, hH, hcv, e, q⟩ := h
  subst ec ed
  cases r with
  | cons rx rr =>
    cases rr with
    | cons rt rr =>
      cases rr
      cases rx
      have ec := hcv _ rt
      subst ec
      obtain ⟨hget, _⟩ := I.pin (a, oe) (List.mem_append.mpr (.inl List.mem_cons_self))
      obtain ⟨vs, hd⟩ := hf
      have hx : ObjOk X.prog X.w H s.heap dd (.xd fs) := I.hok dd _ hH
      obtain ⟨mA, hns, hr⟩ := hx
      obtain ⟨od, ho, hl⟩ := lookIn_ns hns
      have J : PySem.W.InstAt s.heap a oe C (some od) := ⟨hget, hz.1, by unfold PySem.W.notCls; rw [hd] <;> rfl, by rw [hz.2]; exact ho⟩
      exact PySem.W.kia_one (PySem.W.kitx_exc hcl EC.hg EC.hk EC.hs EC.ha EC.hn EC.ht EC.hm) I.kIn J e (fun z => nomatch z) fun tk => ⟨.bl b, H, I.kept (t' := tk) fun _ _ z => z, rfl, q⟩
section
variable {X : Cx}
/-- None != None, (True, t) != (True, t): both answers the same -/
def rNe2 (K : PySem.W.Frag) : R2 := fun x y H Q => (x = .non ∧ y = .non ∧ Q (.bl false) H) ∨ ∃ p q t, x = .ref p ∧ y = .ref q ∧ SqT K H p [.bl true, .str t] ∧ SqT K H q [.bl true, .str t] ∧ Q (.bl false) H
theorem op_ne2 (hu : X.A.units + 64 < cLine) : OpR X (compareOp .NotEq) (rNe2 X.K) := by
  intro pins s σ H x y v u Q I rx ry h
  rcases h with ⟨rfl, rfl, q⟩ | ⟨p, q, t, rfl, rfl, hp, hq, h⟩
  · cases rx
    cases ry
    exact (PySem.SeqAt.RcNeAt.none_none (A := X.A) (s := s)) X.prog X.w X.xe _ ⟨.bl false, H, I, rfl, q⟩
  · cases rx
    cases ry
    obtain ⟨its, r1, p1, _⟩ := I.tuple hp
    obtain ⟨its2, r2, p2, _⟩ := I.tuple hq
    cases r1 with
    | cons a1 b1 =>
    cases b1 with
    | cons a2 b2 =>
    cases b2
    cases r2 with
    | cons c1 d1 =>
    cases d1 with
    | cons c2 d2 =>
    cases d2
    cases a1
    cases c1
    obtain ⟨k1, rfl⟩ := a2
    obtain ⟨k2, rfl⟩ := c2
    have e := PySem.SeqAt.RcNeAt.tuples (A := X.A) (s := s) (e := fun _ => true) p1 p2 (by omega) (fun j h1 h2 => by
      have hj : j = 0 ∨ j = 1 := by
        have : j < 2 := h1
        omega
      rcases hj with rfl | rfl
      · have := PySem.SeqAt.EqAt.bool_bool (A := X.A.in1) (s := s) true true
        simpa using this
      · have := PySem.SeqAt.EqAt.str_str (A := X.A.in1) (s := s) t k1 t k2
        simpa using this)
    exact e X.prog X.w X.xe _ ⟨.bl false, H, I, rfl, h⟩
/-- (t, True) != (t, True) -/
def rNe4 (K : PySem.W.Frag) : R2 := fun x y H Q => ∃ p q t, x = .ref p ∧ y = .ref q ∧ SqT K H p [.str t, .bl true] ∧ SqT K H q [.str t, .bl true] ∧ Q (.bl false) H
theorem op_ne4 (hu : X.A.units + 64 < cLine) : OpR X (compareOp .NotEq) (rNe4 X.K) := by
  intro pins s σ H x y v u Q I rx ry h
  obtain ⟨p, q, t, rfl, rfl, hp, hq, h⟩ := h
  · cases rx
    cases ry
    obtain ⟨its, r1, p1, _⟩ := I.tuple hp
    obtain ⟨its2, r2, p2, _⟩ := I.tuple hq
    cases r1 with
    | cons a1 b1 =>
    cases b1 with
    | cons a2 b2 =>
    cases b2
    cases r2 with
    | cons c1 d1 =>
    cases d1 with
    | cons c2 d2 =>
    cases d2
    cases a2
    cases c2
    obtain ⟨k1, rfl⟩ := a1
    obtain ⟨k2, rfl⟩ := c1
    have e := PySem.SeqAt.RcNeAt.tuples (A := X.A) (s := s) (e := fun _ => true) p1 p2 (by omega) (fun j h1 h2 => by
      have hj : j = 0 ∨ j = 1 := by
        have : j < 2 := h1
        omega
      rcases hj with rfl | rfl
      · have := PySem.SeqAt.EqAt.str_str (A := X.A.in1) (s := s) t k1 t k2
        simpa using this
      · have := PySem.SeqAt.EqAt.bool_bool (A := X.A.in1) (s := s) true true
        simpa using this)
    exact e X.prog X.w X.xe _ ⟨.bl false, H, I, rfl, h⟩
/-- == of data without dicts -/
def rEqP (K : PySem.W.Frag) : R2 := fun x y H Q => ∃ d e, Dp K H x d ∧ Dp K H y e ∧ d.plain = true ∧ e.plain = true ∧ d.depth ≤ 60 ∧ Q (.bl (PyData.eqv d e)) H
theorem op_eqP (hu : X.A.units + 64 < cLine) : OpR X (compareOp .Eq) (rEqP X.K) := by
  intro pins s σ H x y v u Q I rx ry h
  obtain ⟨d, e, hd, he, sd, se, hz, q⟩ := h
  obtain ⟨as, r1⟩ := Dp.reads I d x v hd rx
  obtain ⟨bs, r2⟩ := Dp.reads I e y u he ry
  exact PySem.SeqAt.rcAt_plain r1 r2 sd se (by have : min d.depth e.depth ≤ d.depth := Nat.min_le_left _ _; omega) X.prog X.w X.xe _ ⟨.bl _, H, I, rfl, q⟩
/-- a sign times a number -/
def rMul1 : R2 := fun x y H Q => ∃ (c n : Nat), x = .str ⟨#[c]⟩ ∧ y = .int (n : Nat) ∧ 1 ≤ n ∧ n ≤ 1000 ∧ Q (.str ⟨(List.replicate n c).toArray⟩) H
theorem rep_fold (c : Nat) : ∀ (n : Nat) (acc : Array Nat), ((List.replicate n #[c]).foldl (· ++ ·) acc).toList = acc.toList ++ List.replicate n c
  | 0, acc => by simp
  | n + 1, acc => by
    rw [List.replicate_succ, List.foldl_cons, rep_fold c n, Array.toList_append, List.replicate_succ, List.append_assoc]
    rfl
theorem mul_one (c n : Nat) (h : 1 ≤ n) : Txt.mul ⟨#[c]⟩ ((n : Nat) : Int) = ⟨(List.replicate n c).toArray⟩ := by
  unfold Txt.mul
  rw [if_neg (by omega)]
  refine TL.ext_tl ?_
  show ((if _ then (⟨#[c]⟩ : Str) else _) : Str).cps.toList = List.replicate n c
  by_cases z : n = 1
  · subst z
    rfl
  · rw [if_neg (by
      intro q
      rcases Bool.or_eq_true_iff.mp q with q | q
      · have := eq_of_beq q
        omega
      · cases q)]
    rw [Int.toNat_natCast]
    show ((List.replicate n #[c]).foldl (· ++ ·) #[]).toList = _
    rw [rep_fold]
    rfl
theorem op_mul1 : OpR X (binaryOp .Mult) rMul1 := by
  intro pins s σ H x y v u Q I rx ry h
  obtain ⟨c, n, rfl, rfl, h1, h2, q⟩ := h
  obtain ⟨t, rfl⟩ := rx
  obtain ⟨t', rfl⟩ := ry
  refine PySem.SB.mul (x := ⟨#[c]⟩) (n := ((n : Nat) : Int)) ⟨?_, fun _ _ => ?_, fun _ _ => ?_⟩ fun t2 k => ?_
  · rw [decide_eq_false (by omega), decide_eq_false (by omega)]
    rfl
  · show ¬ ((1 : Nat) : Int) > (2 ^ 63 - 1) / ((n : Nat) : Int)
    have : (1 : Int) ≤ (2 ^ 63 - 1) / ((n : Nat) : Int) := Int.le_ediv_of_mul_le (by omega) (by omega)
    omega
  · show PySem.Builtin.Str.tooLong (1 * ((n : Nat) : Int).toNat) = false
    rw [Int.toNat_natCast, Nat.one_mul]
    have h3 : (1000 : Nat) ≤ sizeLine := by decide
    exact decide_eq_false (by omega)
  · rw [mul_one c n h1]
    exact ⟨.str _, H, I.tok _, ⟨_, rfl⟩, q⟩
end
end Xe

/-! x op y by the own def of x's class, y of a built-in type; a call that may raise in a try whose suite asks only its own name. -/
namespace Po
open PySem PySem.Spec PyProof.Rows L2
theorem passL {X : Cx} {W : WX} (n : Nat) (hn : X.N.length = n) (tk : Takes X W) : Passes (L2.CX X.prog X.w) X (fun cls d H => ∀ σ : L2.St, σ.length = n → W cls d σ H) :=
  fun _ σ _ _ e s' I c => tk e s' (XE.of_call I (fun _ _ _ h => h σ (I.len.trans hn)) c)
/-- what is asked of the type T on the right -/
structure RT (K : PySem.W.Frag) (op : Operator) (C : Addr) (T : String) : Prop where
  ex : ∃ fo ro : Option Value, PySem.W.findIn K (.type T) (PySem.dunder op.info.2) = some fo ∧ PySem.W.findIn K (.type T) (dunderR op.info.2) = some ro
  sub : PySem.W.subIn K (.type T) (.ref C) = some false
/-- and of the class on the left -/
structure LT (K : PySem.W.Frag) (op : Operator) (C : Addr) : Prop where
  rc : ∃ rc : Option Value, PySem.W.findIn K (.ref C) (dunderR op.info.2) = some rc ∧ (rc = none ∨ ∃ g : Addr, rc = some (.ref g))
  sf : PySem.W.selfFirst K C = true
section
open PySem.W
variable {prog : Program} {w : World} {A : Around} {E : Value → Shared → Prop} {s : Shared} {K : Frag} {x C L f : Addr} {h₀ : Heap} {m : Str → Option Value} {ox : Obj} {od : Option Obj} {T : String}
theorem bin_at {op : Operator} {b : Value} {Q : Value → Shared → Prop} (F : Fr h₀ L s.heap m) (kin : K.In h₀) (I : InstAt s.heap x ox C od) (hb : Looks (model prog w) s.heap (typeOf b) (.type T)) (lt : LT K op C)
    (own : findIn K (.ref C) (PySem.dunder op.info.2) = some (some (.ref f))) (fn : isFn K (.ref f) = true) (rt : RT K op C T)
    (go : wpAny (model prog w) A (call (.ref f) [.ref x, b]) (PySem.W.CmpBack Q) E s) : wpAny (model prog w) A (binaryOp op (.ref x) b) Q E s := by
  have kn := kin.keeps F.keep
  obtain ⟨⟨fo, ro, t1, t2⟩, apart⟩ := rt
  obtain ⟨⟨rc, back, bk⟩, first⟩ := lt
  obtain ⟨cd, rest, ecd, emro⟩ := ksp_first first
  rcases hop : op.info with ⟨sg, nm⟩
  rw [hop] at own back t1 t2
  dsimp only at own back t1 t2
  have tried := ksp_try kn I own fn go
  obtain ⟨hp, gn, dr, tks, oss⟩ := s
  have k1 : Looks (model prog w) hp (typeOf (Value.ref x)) (Value.ref C) := I.type
  have k2 : Looks (model prog w) hp (typeOf b) (Value.type T) := hb
  have k3 : Looks (model prog w) hp (fillsNumberSlot (Value.ref C) nm) true := fills_K kn ecd emro own
  have k4 := ksp_fillsT (M := model prog w) kn t1 t2
  have k5 : Looks (model prog w) hp (isSubtype (Value.type T) (Value.ref C)) false := looks_subIn kn apart
  have k6 : Looks (model prog w) hp (numberSlotInPython (Value.ref C) nm) true := ksp_inPy kn own back bk
  have k7 : Looks (model prog w) hp (numberSlotInPython (Value.type T) nm) false := Looks.of_pure rfl
  have k8 : Looks (model prog w) hp (typeLookup (Value.type T) (dunderR nm)) ro := looks_findIn kn t2
  revert k4
  generalize ((fo.isSome && !isSeqSlot fo) || (ro.isSome && !isSeqSlot ro)) = rgt
  intro k4
  have apart2 : (Value.ref C == Value.type T) = false := by
    cases q : (Value.ref C == Value.type T) with
    | false => rfl
    | true => cases beq_iff_eq.mp q
  simp only [binaryOp, hop]
  apply wpAny_holding
  apply wpAny_bind
  unfold binaryOp1
  refine wpAny_bind (k1.at ?_)
  refine wpAny_bind (k2.at ?_)
  refine wpAny_bind (k3.at ?_)
  simp only [apart2, Bool.false_eq_true, if_false]
  cases rgt <;>
    (ksp_lk
     refine wpAny_mono tried (fun r s' z => ?_) fun _ _ e => e
     obtain ⟨v, rfl, hq⟩ := z
     ksp_lk
     exact hq)
end
section
variable {X : Cx} {CX : CXT} {C g : Addr} {n : Nat} {sp : Sp} {E : XK}
/-- x op y by the own def of x's class at C; y of a built-in type -/
def rBinT (K : PySem.W.Frag) (op : Operator) (C : Addr) (sp : Sp) (E : XK) : R2 := fun x y H Q => ∃ a dx fs T, x = .ref a ∧ H a = some (.ins C dx fs) ∧ TyX K H y (.type T) ∧ RT K op C T ∧ sp [x, y] H Q E
theorem op_binI {op : Operator} (lt : LT X.K op C) (hs : PySem.W.findIn X.K (.ref C) (PySem.dunder op.info.2) = some (some (.ref g))) (hf : PySem.W.isFn X.K (.ref g) = true) (F : FnR X.prog X.w X.K X.mg X.base CX n g sp)
    (hr : Room n X.A) (hx : Passes CX X E) : OpR X (binaryOp op) (rBinT X.K op C sp E) := by
  intro pins s σ H x y v u Q I rx ry h
  obtain ⟨a, dx, fs, T, rfl, ha, ty, rt, q⟩ := h
  cases (show v = Value.ref a from rx)
  obtain ⟨ox, od, J⟩ := Ow.ins_at I ha
  obtain ⟨P, k, hp, _⟩ := kit_of I ry ty
  obtain ⟨m, hF⟩ := I.fr
  refine bin_at hF I.ok.mod.kin J (k.ty _ _ I.kIn hp) lt hs hf rt ?_
  refine wpAny_mono (wpAny_call (run_fnR (us := [.ref a, u]) (vs := [.ref a, y]) F hr hx I (.cons rfl (.cons ry .nil)) q)) (fun w s' z => ?_) fun _ _ x => x
  obtain ⟨z', H', I', rz, qz⟩ := z
  exact SlX.cmpback rz ⟨z', H', I', rz, qz⟩
end
end Po

namespace K04
open PySem L2
def top (i : Nat) : Stmt := PySem.Challenge.pw_wheelchorus_k04_strokes_moved_and_cut.main.body.getD i (.Pass ⟨0, 0, 0, 0⟩)
abbrev s_is_whole : Stmt := top 6
abbrev s_check_offset : Stmt := top 9
abbrev s_init : Stmt := inClass (top 8) 0
abbrev s_iter : Stmt := inClass (top 8) 1
abbrev s_len : Stmt := inClass (top 8) 2
abbrev s_eq : Stmt := inClass (top 8) 4
abbrev s_or : Stmt := inClass (top 8) 5
abbrev s_sub : Stmt := inClass (top 8) 7
abbrev s_rshift : Stmt := inClass (top 8) 8
abbrev s_cut : Stmt := inClass (top 8) 11
abbrev s_bag : Stmt := top 11
abbrev s_draw : Stmt := top 12
abbrev s_offset : Stmt := top 13
abbrev s_odd : Stmt := top 14
abbrev s_made : Stmt := top 15
abbrev s_moved : Stmt := top 16
abbrev s_end : Stmt := top 17
abbrev s_law : Stmt := top 18
abbrev nm_is_whole : List Str := ["thing"]
theorem sc_is_whole : FnScope nm_is_whole ["thing"] (defScope s_is_whole) :=
  ⟨rfl, rfl, rfl, by decide +kernel, rfl, by decide +kernel, by decide +kernel⟩
abbrev nm_check_offset : List Str := ["thing"]
theorem sc_check_offset : FnScope nm_check_offset ["thing"] (defScope s_check_offset) :=
  ⟨rfl, rfl, rfl, by decide +kernel, rfl, by decide +kernel, by decide +kernel⟩
abbrev nm_init : List Str := ["self", "offsets", "offset"]
theorem sc_init : FnScope nm_init ["self", "offsets"] (defScope s_init) :=
  ⟨rfl, rfl, rfl, by decide +kernel, rfl, by decide +kernel, by decide +kernel⟩
abbrev nm_iter : List Str := ["self"]
theorem sc_iter : FnScope nm_iter ["self"] (defScope s_iter) :=
  ⟨rfl, rfl, rfl, by decide +kernel, rfl, by decide +kernel, by decide +kernel⟩
abbrev nm_len : List Str := ["self"]
theorem sc_len : FnScope nm_len ["self"] (defScope s_len) :=
  ⟨rfl, rfl, rfl, by decide +kernel, rfl, by decide +kernel, by decide +kernel⟩
abbrev nm_eq : List Str := ["self", "other"]
theorem sc_eq : FnScope nm_eq ["self", "other"] (defScope s_eq) :=
  ⟨rfl, rfl, rfl, by decide +kernel, rfl, by decide +kernel, by decide +kernel⟩
abbrev nm_or : List Str := ["self", "other"]
theorem sc_or : FnScope nm_or ["self", "other"] (defScope s_or) :=
  ⟨rfl, rfl, rfl, by decide +kernel, rfl, by decide +kernel, by decide +kernel⟩
abbrev nm_sub : List Str := ["self", "other"]
theorem sc_sub : FnScope nm_sub ["self", "other"] (defScope s_sub) :=
  ⟨rfl, rfl, rfl, by decide +kernel, rfl, by decide +kernel, by decide +kernel⟩
abbrev nm_rshift : List Str := ["self", "other", "offset"]
theorem sc_rshift : FnScope nm_rshift ["self", "other"] (defScope s_rshift) :=
  ⟨rfl, rfl, rfl, by decide +kernel, rfl, by decide +kernel, by decide +kernel⟩
abbrev nm_cut : List Str := ["self", "end", "offset"]
theorem sc_cut : FnScope nm_cut ["self", "end"] (defScope s_cut) :=
  ⟨rfl, rfl, rfl, by decide +kernel, rfl, by decide +kernel, by decide +kernel⟩
abbrev nm_bag : List Str := ["_law_script", "_law_cells", "_law_cell"]
theorem sc_bag : FnScope nm_bag ["_law_script"] (defScope s_bag) :=
  ⟨rfl, rfl, rfl, by decide +kernel, rfl, by decide +kernel, by decide +kernel⟩
abbrev nm_draw : List Str := ["_law_bag_here", "_law_limit", "_law_digit"]
theorem sc_draw : FnScope nm_draw ["_law_bag_here", "_law_limit"] (defScope s_draw) :=
  ⟨rfl, rfl, rfl, by decide +kernel, rfl, by decide +kernel, by decide +kernel⟩
abbrev nm_offset : List Str := ["_law_bag_here"]
theorem sc_offset : FnScope nm_offset ["_law_bag_here"] (defScope s_offset) :=
  ⟨rfl, rfl, rfl, by decide +kernel, rfl, by decide +kernel, by decide +kernel⟩
abbrev nm_odd : List Str := ["_law_bag_here", "_law_way"]
theorem sc_odd : FnScope nm_odd ["_law_bag_here"] (defScope s_odd) :=
  ⟨rfl, rfl, rfl, by decide +kernel, rfl, by decide +kernel, by decide +kernel⟩
abbrev nm_made : List Str := ["_law_offsets", "e"]
theorem sc_made : FnScope nm_made ["_law_offsets"] (defScope s_made) :=
  ⟨rfl, rfl, rfl, by decide +kernel, rfl, by decide +kernel, by decide +kernel⟩
abbrev nm_moved : List Str := ["_law_strokes", "_law_shift", "_law_told", "e"]
theorem sc_moved : FnScope nm_moved ["_law_strokes", "_law_shift"] (defScope s_moved) :=
  ⟨rfl, rfl, rfl, by decide +kernel, rfl, by decide +kernel, by decide +kernel⟩
abbrev nm_end : List Str := ["_law_bag_here", "_law_due", "_law_way"]
theorem sc_end : FnScope nm_end ["_law_bag_here", "_law_due"] (defScope s_end) :=
  ⟨rfl, rfl, rfl, by decide +kernel, rfl, by decide +kernel, by decide +kernel⟩
abbrev nm_law : List Str := ["_law_script", "_law_bag_here", "_law_offsets", "_law_k", "_law_due", "_law_strokes", "_law_shift", "_law_again", "_law_moved_here", "_law_offset_here", "_law_odd_here", "_law_end_here", "_law_kept", "_law_at", "_law_spoilt"]
theorem sc_law : FnScope nm_law ["_law_script"] (defScope s_law) :=
  ⟨rfl, rfl, rfl, by decide +kernel, rfl, by decide +kernel, by decide +kernel⟩
structure Txt (K : PySem.W.Frag) (mg : Str → Option Value) where
  C : Addr
  tE : Addr
  isi : SlX.SIsi K C
  kS : PySem.W.kitOne K (.ref C) (.ref C) = some true
  sfC : PySem.W.notFirst K C (.ref C) = true
  sf : PySem.W.selfFirst K C = true
  lt : Po.LT K .RShift C
  rT : ∀ n ∈ ["int", "bool", "NoneType", "str", "tuple", "list"], Po.RT K .RShift C n
  gC : mg "Strokes" = some (.ref C)
  clC : Cls K C
  nO : NoAttr K C "offsets"
  eT : ∃ o n, K.lookup tE = some o ∧ o.cls = .type "tuple" ∧ o.data = .seq #[] n
  CO : Addr
  fO : Addr
  lowO : PySem.LowO.LowTxt K mg CO fO
  Wc : Addr
  gW : mg "WheelError" = some (.ref Wc)
  kW : PySem.W.kitOne K (.ref CO) (.ref Wc) = some true
  Nc : Addr
  gN : mg "BadNumber" = some (.ref Nc)
  kN : PySem.W.kitOne K (.ref CO) (.ref Nc) = some false
  xc : ExcC K CO
  cl : (PySem.W.clsIn K CO).isSome = true
  a_is_whole : Addr
  d_is_whole : FuncData
  F_is_whole : Fun K "is_whole" "is_whole" s_is_whole a_is_whole d_is_whole
  b_is_whole : Binds K d_is_whole ["thing"] []
  g_is_whole : mg "is_whole" = some (.ref a_is_whole)
  a_check_offset : Addr
  d_check_offset : FuncData
  F_check_offset : Fun K "check_offset" "check_offset" s_check_offset a_check_offset d_check_offset
  b_check_offset : Binds K d_check_offset ["thing"] []
  g_check_offset : mg "check_offset" = some (.ref a_check_offset)
  a_init : Addr
  d_init : FuncData
  F_init : FunD K "__init__" "Strokes.__init__" (defArgs s_init) (defBody s_init) (defScope s_init) [V.ref tE] [] a_init d_init
  b_init : Binds K d_init ["self", "offsets"] []
  mk_init : Mk K C a_init
  a_iter : Addr
  d_iter : FuncData
  F_iter : Fun K "__iter__" "Strokes.__iter__" s_iter a_iter d_iter
  b_iter : Binds K d_iter ["self"] []
  m_iter : Meth K C "__iter__" a_iter
  a_len : Addr
  d_len : FuncData
  F_len : Fun K "__len__" "Strokes.__len__" s_len a_len d_len
  b_len : Binds K d_len ["self"] []
  m_len : Meth K C "__len__" a_len
  a_eq : Addr
  d_eq : FuncData
  F_eq : Fun K "__eq__" "Strokes.__eq__" s_eq a_eq d_eq
  b_eq : Binds K d_eq ["self", "other"] []
  m_eq : Meth K C "__eq__" a_eq
  a_or : Addr
  d_or : FuncData
  F_or : Fun K "__or__" "Strokes.__or__" s_or a_or d_or
  b_or : Binds K d_or ["self", "other"] []
  m_or : Meth K C "__or__" a_or
  a_sub : Addr
  d_sub : FuncData
  F_sub : Fun K "__sub__" "Strokes.__sub__" s_sub a_sub d_sub
  b_sub : Binds K d_sub ["self", "other"] []
  m_sub : Meth K C "__sub__" a_sub
  a_rshift : Addr
  d_rshift : FuncData
  F_rshift : Fun K "__rshift__" "Strokes.__rshift__" s_rshift a_rshift d_rshift
  b_rshift : Binds K d_rshift ["self", "other"] []
  m_rshift : Meth K C "__rshift__" a_rshift
  a_cut : Addr
  d_cut : FuncData
  F_cut : Fun K "cut" "Strokes.cut" s_cut a_cut d_cut
  b_cut : Binds K d_cut ["self", "end"] []
  m_cut : Meth K C "cut" a_cut
  a_bag : Addr
  d_bag : FuncData
  F_bag : Fun K "_law_bag" "_law_bag" s_bag a_bag d_bag
  b_bag : Binds K d_bag ["_law_script"] []
  g_bag : mg "_law_bag" = some (.ref a_bag)
  a_draw : Addr
  d_draw : FuncData
  F_draw : Fun K "_law_draw" "_law_draw" s_draw a_draw d_draw
  b_draw : Binds K d_draw ["_law_bag_here", "_law_limit"] []
  g_draw : mg "_law_draw" = some (.ref a_draw)
  a_offset : Addr
  d_offset : FuncData
  F_offset : Fun K "_law_offset" "_law_offset" s_offset a_offset d_offset
  b_offset : Binds K d_offset ["_law_bag_here"] []
  g_offset : mg "_law_offset" = some (.ref a_offset)
  a_odd : Addr
  d_odd : FuncData
  F_odd : Fun K "_law_odd" "_law_odd" s_odd a_odd d_odd
  b_odd : Binds K d_odd ["_law_bag_here"] []
  g_odd : mg "_law_odd" = some (.ref a_odd)
  a_made : Addr
  d_made : FuncData
  F_made : Fun K "_law_made" "_law_made" s_made a_made d_made
  b_made : Binds K d_made ["_law_offsets"] []
  g_made : mg "_law_made" = some (.ref a_made)
  a_moved : Addr
  d_moved : FuncData
  F_moved : Fun K "_law_moved" "_law_moved" s_moved a_moved d_moved
  b_moved : Binds K d_moved ["_law_strokes", "_law_shift"] []
  g_moved : mg "_law_moved" = some (.ref a_moved)
  a_end : Addr
  d_end : FuncData
  F_end : Fun K "_law_end" "_law_end" s_end a_end d_end
  b_end : Binds K d_end ["_law_bag_here", "_law_due"] []
  g_end : mg "_law_end" = some (.ref a_end)
  a_law : Addr
  d_law : FuncData
  F_law : Fun K "law" "law" s_law a_law d_law
  b_law : Binds K d_law ["_law_script"] []
  g_law : mg "law" = some (.ref a_law)
  z_bool : mg "bool" = none
  z_int : mg "int" = none
  z_isinstance : mg "isinstance" = none
  z_iter : mg "iter" = none
  z_len : mg "len" = none
  z_list : mg "list" = none
  z_range : mg "range" = none
  z_repr : mg "repr" = none
  z_set : mg "set" = none
  z_sorted : mg "sorted" = none
  z_tuple : mg "tuple" = none
  aEq : PySem.W.findIn K (.ref C) (cmpInfo .Eq).2.1 = some (some (.ref a_eq))
  iEq : PySem.W.isFn K (.ref a_eq) = true
  aLen : PySem.W.findIn K (.ref C) "__len__" = some (some (.ref a_len))
  iLen : PySem.W.isFn K (.ref a_len) = true
  aIt : PySem.W.findIn K (.ref C) "__iter__" = some (some (.ref a_iter))
  iIt : PySem.W.isFn K (.ref a_iter) = true
  h_or : PySem.W.findIn K (.ref C) (PySem.dunder Operator.BitOr.info.2) = some (some (.ref a_or))
  i_or : PySem.W.isFn K (.ref a_or) = true
  h_sub : PySem.W.findIn K (.ref C) (PySem.dunder Operator.Sub.info.2) = some (some (.ref a_sub))
  i_sub : PySem.W.isFn K (.ref a_sub) = true
  h_rshift : PySem.W.findIn K (.ref C) (PySem.dunder Operator.RShift.info.2) = some (some (.ref a_rshift))
  i_rshift : PySem.W.isFn K (.ref a_rshift) = true
  ne : On.NeOk K C a_eq
  ds0 : List Value
  r_init : Vals [V.ref tE] ds0
  b0_init : Binds K d_init ["self", "offsets"] ds0
end K04

namespace K04
open PySem L2 Wm TL Dv
/-- the offsets of strokes: rising, none below 0 -/
structure Off (ns : List Int) : Prop where
  up : ns.Pairwise (· < ·)
  lo : ∀ n ∈ ns, 0 ≤ n
  few : ns.length < 32
def offD (ns : List Int) : PyData := .tuple (ns.map PyData.int)
/-- an instance of Strokes that holds ns -/
def StrAt (K : PySem.W.Frag) (C : Addr) (H : Hp) (p : Addr) (ns : List Int) : Prop :=
  ∃ dx fs q, H p = some (.ins C dx fs) ∧ fs.lookup ("offsets" : Str) = some (.ref q) ∧ (∀ m : Str, m ≠ "offsets" → fs.lookup m = none) ∧ SqT K H q (ns.map V.int)
/-- the members of a list, each once, rising -/
def IsSort (xs ns : List Int) : Prop := ns.Pairwise (· < ·) ∧ ∀ k, k ∈ ns ↔ k ∈ xs
theorem up_eq : ∀ {a b : List Int}, a.Pairwise (· < ·) → b.Pairwise (· < ·) → (∀ k, k ∈ a ↔ k ∈ b) → a = b
  | [], [], _, _, _ => rfl
  | [], y :: b, _, _, h => absurd ((h y).mpr List.mem_cons_self) (by simp)
  | x :: a, [], _, _, h => absurd ((h x).mp List.mem_cons_self) (by simp)
  | x :: a, y :: b, ha, hb, h => by
    rw [List.pairwise_cons] at ha hb
    have e : x = y := by
      rcases List.mem_cons.mp ((h x).mp List.mem_cons_self) with z | z
      · exact z
      · rcases List.mem_cons.mp ((h y).mpr List.mem_cons_self) with v | v
        · exact v.symm
        · have := hb.1 x z
          have := ha.1 y v
          omega
    subst e
    congr 1
    refine up_eq ha.2 hb.2 fun k => ⟨fun m => ?_, fun m => ?_⟩
    · rcases List.mem_cons.mp ((h k).mp (List.mem_cons_of_mem _ m)) with z | z
      · have := ha.1 k m
        omega
      · exact z
    · rcases List.mem_cons.mp ((h k).mpr (List.mem_cons_of_mem _ m)) with z | z
      · have := hb.1 k m
        omega
      · exact z
/-- what may be asked whether it is a whole number, and which -/
inductive Thing (K : PySem.W.Frag) (H : Hp) : V → Option Int → Prop
  | int (i : Int) : Thing K H (.int i) (some i)
  | bl (b : Bool) : Thing K H (.bl b) none
  | str (s : Str) : Thing K H (.str s) none
  | non : Thing K H .non none
  | seq (t : Bool) {p : Addr} {xs : List V} (h : Kd.Is K t H p xs) : Thing K H (.ref p) none
/-- a text that may be shown -/
structure Tx (t : Str) : Prop where
  len : t.length ≤ 100
  asc : ∀ c ∈ tl t, c < 128
/-- what may be handed over as an offset, as data, and its number if it is a whole one -/
inductive Od (K : PySem.W.Frag) (b : Addr) (H : Hp) : V → PyData → Option Int → Prop
  | int (i : Int) : i.natAbs < 2 ^ 100 → Od K b H (.int i) (.int i) (some i)
  | bl (c : Bool) : Od K b H (.bl c) (.bool c) none
  | non : Od K b H .non .none none
  | str {t : Str} : Tx t → Od K b H (.str t) (.str t) none
  | tup {p : Addr} : p ≠ b → SqT K H p [V.int 2] → Od K b H (.ref p) (.tuple [.int 2]) none
  | lst {p : Addr} : p ≠ b → SqL K H p [V.int 2] → Od K b H (.ref p) (.list [.int 2]) none
def Bad (o : Option Int) : Prop := ∀ i, o = some i → i < 0
/-- an error of the class at C is on its way, with x -/
def Er (C : Addr) (E : XK) (H : Hp) (x : V) : Prop := ∀ H' d, Same H H' → H' d = some (.xd [(("offset" : Str), x)]) → E (.ref C) (some d) H'
theorem Er.after {C : Addr} {E : XK} {H H1 : Hp} {x : V} (h : Er C E H x) (s : Same H H1) : Er C E H1 x := fun H' d s' e => h H' d (s.trans s') e
def sp_is_whole (K : PySem.W.Frag) : Sp := fun vs H Q _ => ∃ (x : V) (o : Option Int), vs = [x] ∧ Thing K H x o ∧ Q (.bl o.isSome) H
def sp_check_offset (K : PySem.W.Frag) (CO : Addr) : Sp := fun vs H Q E => ∃ (x : V) (o : Option Int), vs = [x] ∧ Thing K H x o ∧ ((∃ i, o = some i ∧ 0 ≤ i ∧ Q .non H) ∨ (Bad o ∧ Er CO E H x))
def sp_init (K : PySem.W.Frag) (C CO : Addr) : Sp := fun vs H Q E => ∃ (p dx : Addr) (x : Addr) (t : Bool), vs = [.ref p, .ref x] ∧ H p = some (.ins C dx []) ∧
  ((∃ xs : List Int, Kd.Is K t H x (xs.map V.int) ∧ (∀ n ∈ xs, 0 ≤ n) ∧ xs.length < 64 ∧
    ∀ H' ns, (∀ q o, q ≠ p → H q = some o → H' q = some o) → IsSort xs ns → ns.length ≤ xs.length → StrAt K C H' p ns → Q .non H') ∨
  (∃ (pre : List Int) (y : V) (post : List V) (o : Option Int), Kd.Is K t H x (pre.map V.int ++ y :: post) ∧ (∀ n ∈ pre, 0 ≤ n) ∧ Thing K H y o ∧ Bad o ∧ Er CO E H y))
def sp_iter (K : PySem.W.Frag) (C : Addr) : Sp := fun vs H Q _ => ∃ (p q : Addr) (ns : List Int) (dx : Addr) (fs : List (Str × V)), vs = [.ref p] ∧ H p = some (.ins C dx fs) ∧ fs.lookup ("offsets" : Str) = some (.ref q) ∧ SqT K H q (ns.map V.int) ∧
  ∀ it, H it = none → (∀ b o, H b = some o → b < it) → Q (.ref it) (upd H it (Li.TiO q it))
def sp_len (K : PySem.W.Frag) (C : Addr) : Sp := fun vs H Q _ => ∃ (p : Addr) (ns : List Int), vs = [.ref p] ∧ StrAt K C H p ns ∧ ns.length < 64 ∧ Q (.int (ns.length : Nat)) H
def sp_eq (K : PySem.W.Frag) (C : Addr) : Sp := fun vs H Q _ => ∃ (p : Addr) (ns : List Int) (q : Addr) (ms : List Int), vs = [.ref p, .ref q] ∧ StrAt K C H p ns ∧ ns.length < 64 ∧ StrAt K C H q ms ∧ ms.length < 64 ∧ Q (.bl (decide (ns = ms))) H
def spBin (K : PySem.W.Frag) (C : Addr) (f : Bool → Bool → Bool) : Sp := fun vs H Q _ => ∃ (p q : Addr) (ns ms : List Int), vs = [.ref p, .ref q] ∧ StrAt K C H p ns ∧ Off ns ∧ StrAt K C H q ms ∧ Off ms ∧
  ∀ H' r ls, Same H H' → H r = none → StrAt K C H' r ls → ls.Pairwise (· < ·) → (∀ k, k ∈ ls ↔ f (decide (k ∈ ns)) (decide (k ∈ ms)) = true) → Q (.ref r) H'
def sp_or (K : PySem.W.Frag) (C : Addr) : Sp := spBin K C fun x y => x || y
def sp_sub (K : PySem.W.Frag) (C : Addr) : Sp := spBin K C fun x y => x && !y
def sp_rshift (K : PySem.W.Frag) (C CO : Addr) : Sp := fun vs H Q E => ∃ (p : Addr) (ns : List Int) (y : V) (o : Option Int), vs = [.ref p, y] ∧ StrAt K C H p ns ∧ Off ns ∧ Thing K H y o ∧
  ((∃ i, o = some i ∧ 0 ≤ i ∧ ∀ H' r, Same H H' → H r = none → StrAt K C H' r (ns.map (· + i)) → Q (.ref r) H') ∨ (Bad o ∧ Er CO E H y))
def sp_cut (K : PySem.W.Frag) (C : Addr) : Sp := fun vs H Q _ => ∃ (p : Addr) (ns : List Int) (e : Int), vs = [.ref p, .int e] ∧ StrAt K C H p ns ∧ Off ns ∧
  ∀ H' r, Same H H' → H r = none → StrAt K C H' r (ns.filter fun k => decide (k < e)) → Q (.ref r) H'
def sp_bag (K : PySem.W.Frag) : Sp := fun vs H Q _ => ∃ (a : Addr) (ns : List Int), vs = [.ref a] ∧ SqL K H a (ns.map V.int) ∧ ns.length ≤ 63 ∧ ∀ H' b, Same H H' → Bag H' b 0 → Q (.ref b) H'
def sp_draw (K : PySem.W.Frag) : Sp := fun vs H Q _ => ∃ (b : Addr) (n : Nat) (lim : Int), vs = [.ref b, .int lim] ∧ 0 < lim ∧ lim < 2 ^ 100 ∧ Bag H b n ∧ n ≤ 1000000 ∧
  ∀ H' d, 0 ≤ d → d < lim → Bag H' b (n + 1) → But b H H' → Q (.int d) H'
def sp_offset (K : PySem.W.Frag) : Sp := fun vs H Q _ => ∃ (b : Addr) (n : Nat), vs = [.ref b] ∧ Bag H b n ∧ n ≤ 900000 ∧ ∀ H' (i : Int), 0 ≤ i → Bag H' b (n + 2) → But b H H' → Q (.int i) H'
def sp_odd (K : PySem.W.Frag) : Sp := fun vs H Q _ => ∃ (b : Addr) (n : Nat), vs = [.ref b] ∧ Bag H b n ∧ n ≤ 900000 ∧
  ∀ H' x d o, Od K b H' x d o → Bad o → (∀ p, x = .ref p → H p = none) → Bag H' b (n + 3) → But b H H' → Q x H'
def sp_made (K : PySem.W.Frag) (C : Addr) : Sp := fun vs H Q _ => ∃ (p : Addr) (t : Bool), vs = [.ref p] ∧
  ((∃ xs : List Int, Kd.Is K t H p (xs.map V.int) ∧ (∀ n ∈ xs, 0 ≤ n) ∧ xs.length < 64 ∧ ∀ H', Same H H' → Q .non H') ∨
  (∃ (pre : List Int) (y : V) (post : List V) (d : PyData) (o : Option Int) (b : Addr), Kd.Is K t H p (pre.map V.int ++ y :: post) ∧ (∀ n ∈ pre, 0 ≤ n) ∧ Od K b H y d o ∧ Bad o ∧ ∀ H' r, Same H H' → H' r = some (.tup [.str d.shown, .bl true]) → Q (.ref r) H'))
def sp_moved (K : PySem.W.Frag) (C : Addr) : Sp := fun vs H Q _ => ∃ (p : Addr) (ns : List Int) (y : V) (d : PyData) (o : Option Int) (b : Addr), vs = [.ref p, y] ∧ StrAt K C H p ns ∧ Off ns ∧ Od K b H y d o ∧
  ((∃ i, o = some i ∧ 0 ≤ i ∧ ∀ H' r, Same H H' → SqT K H' r ((ns.map (· + i)).map V.int) → Q (.ref r) H') ∨ (Bad o ∧ ∀ H', Same H H' → Q (.str d.shown) H'))
def sp_end (K : PySem.W.Frag) : Sp := fun vs H Q _ => ∃ (b q : Addr) (n : Nat) (ns : List Int), vs = [.ref b, .ref q] ∧ Bag H b n ∧ n ≤ 900000 ∧ H q = some (.lst (ns.map V.int)) ∧ q ≠ b ∧ ns.length < 64 ∧
  ∀ H' (i : Int), Bag H' b (n + 2) → But b H H' → Q (.int i) H'
def sp_law (K : PySem.W.Frag) (C : Addr) : Sp := fun vs H Q _ => ∃ (a : Addr) (ns : List Int), vs = [.ref a] ∧ SqL K H a (ns.map V.int) ∧ ns.length ≤ 63 ∧ ∀ H', Q (.bl true) H'
end K04

namespace K04
open PySem L2 Wm TL Dv
section
variable {P : Program} {w : World} {K : PySem.W.Frag} {mg : Str → Option Value} {base : Heap}
@[irreducible] def rLi (K : PySem.W.Frag) (C : Addr) : List V → Hp → VK → Prop := Li.rListIt K C (fun vs H Q E => sp_iter K C (vs ++ []) H Q E) (fun vs H Q E => sp_len K C (vs ++ []) H Q E) E0 E0
theorem rLi_of {X : Cx} {C : Addr} (h : CallR X (.type "list") (Li.rListIt X.K C (fun vs H Q E => sp_iter X.K C (vs ++ []) H Q E) (fun vs H Q E => sp_len X.K C (vs ++ []) H Q E) E0 E0)) : CallR X (.type "list") (rLi X.K C) := by
  unfold rLi
  exact h
theorem tk_succ {α : Type} {l : List α} {i : Nat} {x : α} (h : l[i]? = some x) : l.take (i + 1) = l.take i ++ [x] := by
  rw [List.take_succ, h]
  rfl
theorem tyT {H : Hp} {p : Addr} {xs : List V} (h : SqT K H p xs) : TyX K H (.ref p) (.type "tuple") := by
  rcases h with (h | ⟨o, h⟩) | ⟨o, its, n, e, c, _⟩
  · exact .base (.tup h)
  · exact .fTuple h
  · exact .kTuple e c
theorem tyL {H : Hp} {p : Addr} {xs : List V} (h : SqL K H p xs) : TyX K H (.ref p) (.type "list") := by
  rcases h with (h | ⟨o, h⟩) | ⟨o, its, n, e, c, _⟩
  · exact .base (.lst h)
  · exact .base (.frz h)
  · exact .kList e c
theorem iteN {c : Bool} {A B : Prop} (e : c = false) (h : B) : if c = true then A else B := by
  rw [e]
  exact iteF h
theorem flat_ints (ns : List Int) : (ns.map V.int).all flatV = true := by
  rw [List.all_map]
  exact List.all_eq_true.mpr fun _ _ => rfl
theorem in_ints (x : Int) : ∀ ns : List Int, inV (.int x) (ns.map V.int) = decide (x ∈ ns)
  | [] => rfl
  | n :: ns => by
    have ih := in_ints x ns
    unfold inV at ih ⊢
    rw [List.map_cons, List.any_cons, ih]
    show ((n == x) || decide (x ∈ ns)) = _
    by_cases e : n = x
    · subst e; simp
    · simp [e, Ne.symm e]
theorem dp_ints {H : Hp} : ∀ ns : List Int, DpAll K H (ns.map V.int) (ns.map PyData.int)
  | [] => .nil
  | n :: ns => .cons (.int n) (dp_ints ns)
theorem fine_off (ns : List Int) : Fine 1 (offD ns) := fine_tup (n := 0) fun d m => by
  obtain ⟨n, _, rfl⟩ := List.mem_map.mp m
  exact fine_int n
theorem eqv_ints : ∀ a b : List Int, PyData.eqvAll (a.map PyData.int) (b.map PyData.int) = decide (a = b)
  | [], [] => rfl
  | [], _ :: _ => rfl
  | _ :: _, [] => rfl
  | x :: a, y :: b => by
    rw [List.map_cons, List.map_cons]
    unfold PyData.eqvAll
    rw [eqv_ints a b]
    by_cases e : x = y
    · subst e; simp [PyData.eqv]
    · simp [PyData.eqv, e]
theorem eqv_off (a b : List Int) : PyData.eqv (offD a) (offD b) = decide (a = b) := by
  unfold offD PyData.eqv
  exact eqv_ints a b
theorem ok_is_whole (T : Txt K mg) : FnOk P w K mg base CX0 1 T.a_is_whole T.d_is_whole ["thing"] (sp_is_whole K) := by
  refine T.F_is_whole.ok sc_is_whole (fun vs H Q E h => ?_) (fun cdv A outer s H vs Q E hr h => ?_)
  · obtain ⟨x, o, rfl, _⟩ := h
    rfl
  · obtain ⟨x, o, rfl, hx, k⟩ := h
    refine ⟨_, (pss_one (ps_ret (pe_and (pe_callB call_isi (by rfl) T.z_isinstance (by decide +kernel) (pa_cons (pv 0) (pa_cons (pe_bltn (v := V.ty "int") (by rfl) T.z_int (by decide +kernel) rfl) pa_nil))) (pe_one (pe_not (pe_callB call_isi (by rfl) T.z_isinstance (by decide +kernel) (pa_cons (pv 0) (pa_cons (pe_bltn (v := V.ty "bool") (by rfl) T.z_bool (by decide +kernel) rfl) pa_nil)))))))), ?_⟩
    cases hx with
    | int i =>
      refine ⟨_, rfl, _, _, _, _, true, rfl, .ty "int", .base (.int _), kit_ty (by decide +kernel), true, rfl, iteT ?_⟩
      exact ⟨_, rfl, _, _, _, _, false, rfl, .ty "bool", .base (.int _), kit_ty (by decide +kernel), false, rfl, k⟩
    | bl b =>
      refine ⟨_, rfl, _, _, _, _, true, rfl, .ty "int", .base (.bl _), kit_ty (by decide +kernel), true, rfl, iteT ?_⟩
      exact ⟨_, rfl, _, _, _, _, true, rfl, .ty "bool", .base (.bl _), kit_ty (by decide +kernel), true, rfl, k⟩
    | str s => exact ⟨_, rfl, _, _, _, _, false, rfl, .ty "int", .base (.str _), kit_ty (by decide +kernel), false, rfl, iteF k⟩
    | non => exact ⟨_, rfl, _, _, _, _, false, rfl, .ty "int", .base .non, kit_ty (by decide +kernel), false, rfl, iteF k⟩
    | @seq t p xs h =>
      cases t with
      | true => exact ⟨_, rfl, _, _, _, _, false, rfl, .ty "int", tyT h, kit_ty (by decide +kernel), false, rfl, iteF k⟩
      | false => exact ⟨_, rfl, _, _, _, _, false, rfl, .ty "int", tyL h, kit_ty (by decide +kernel), false, rfl, iteF k⟩
theorem Bad.none : Bad none := fun i e => by cases e
theorem thing_ty {H : Hp} {x : V} {o : Option Int} (h : Thing K H x o) : ∃ n ∈ ["int", "bool", "NoneType", "str", "tuple", "list"], TyX K H x (.type n) := by
  cases h with
  | int i => exact ⟨"int", by simp, .base (.int _)⟩
  | bl b => exact ⟨"bool", by simp, .base (.bl _)⟩
  | str s => exact ⟨"str", by simp, .base (.str _)⟩
  | non => exact ⟨"NoneType", by simp, .base .non⟩
  | @seq t p xs h =>
    cases t with
    | true => exact ⟨"tuple", by simp, tyT h⟩
    | false => exact ⟨"list", by simp, tyL h⟩
theorem ok_check_offset (T : Txt K mg) : FnOk P w K mg base (L2.CX P w) 2 T.a_check_offset T.d_check_offset ["thing"] (sp_check_offset K T.CO) := by
  refine T.F_check_offset.okX sc_check_offset (fun vs H Q E h => ?_) (fun cdv A outer s H vs Q E hr h => ?_)
  · obtain ⟨x, o, rfl, _⟩ := h
    rfl
  · obtain ⟨x, o, rfl, hx, k⟩ := h
    refine ⟨_, (pss_one (ps_if (PW.pt (pw_or (pt_not (pt_val (pe_call (ok_is_whole T) (hr.mono (by decide)) (by rfl) T.g_is_whole T.F_is_whole.kp T.b_is_whole .nil pass0 (pa_cons (pv 0) pa_nil)))) (pw_or1 (pt_cmpR op_lt (pv 0) pe_int (nomark _)))))
        (pss_one (ps_raiseLowO rfl T.lowO hr (takes_of rfl rfl rfl rfl) (by exact (pa_cons (pv 0) pa_nil))))
        pss_nil)), ?_⟩
    refine ⟨_, rfl, x, o, rfl, hx, o.isSome, rfl, ?_⟩
    cases o with
    | none =>
      rcases k with ⟨i, e, _⟩ | ⟨_, er⟩
      · cases e
      · exact iteT ⟨_, rfl, _, rfl, fun dd hdd => er _ dd (same_new hdd) upd_same⟩
    | some i =>
      refine iteF ?_
      rcases k with ⟨j, e, h0, k⟩ | ⟨bd, er⟩
      · cases e
        cases hx with
        | int i => exact ⟨_, rfl, i, 0, rfl, rfl, _, rfl, iteN (decide_eq_false (by omega)) k⟩
      · have h0 := bd i rfl
        cases hx with
        | int i =>
          refine ⟨_, rfl, i, 0, rfl, rfl, _, rfl, ?_⟩
          rw [decide_eq_true h0]
          exact iteT ⟨_, rfl, _, rfl, fun dd hdd => er _ dd (same_new hdd) upd_same⟩
theorem ok_iter (T : Txt K mg) : FnOk P w K mg base CX0 1 T.a_iter T.d_iter ["self"] (sp_iter K T.C) := by
  refine T.F_iter.ok sc_iter (fun vs H Q E h => ?_) (fun cdv A outer s H vs Q E hr h => ?_)
  · obtain ⟨p, q, ns, dx, fs, rfl, _⟩ := h
    rfl
  · obtain ⟨p, q, ns, dx, fs, rfl, hp, l1, hq, k⟩ := h
    refine ⟨_, (pss_one (ps_ret (pe_callB Li.call_iterT (by rfl) T.z_iter (by decide +kernel) (pa_cons (pe_fld (pv 0) rfl) pa_nil)))), ?_⟩
    exact ⟨_, rfl, p, T.C, dx, fs, _, rfl, hp, T.clC, T.nO, l1, q, _, rfl, hq, k⟩
theorem ok_len (T : Txt K mg) : FnOk P w K mg base CX0 1 T.a_len T.d_len ["self"] (sp_len K T.C) := by
  refine T.F_len.ok sc_len (fun vs H Q E h => ?_) (fun cdv A outer s H vs Q E hr h => ?_)
  · obtain ⟨p, ns, rfl, _⟩ := h
    rfl
  · obtain ⟨p, ns, rfl, ⟨dx, fs, q, hp, l1, l2, hq⟩, few, k⟩ := h
    refine ⟨_, (pss_one (ps_ret (pe_callB call_len_seq (by rfl) T.z_len PySem.boot_len (pa_cons (pe_fld (pv 0) rfl) pa_nil)))), ?_⟩
    refine ⟨_, rfl, p, T.C, dx, fs, _, rfl, hp, T.clC, T.nO, l1, q, _, rfl, .inr hq, ?_⟩
    rw [List.length_map]
    exact k
theorem ok_eq (T : Txt K mg) : FnOk P w K mg base CX0 1 T.a_eq T.d_eq ["self", "other"] (sp_eq K T.C) := by
  refine T.F_eq.ok sc_eq (fun vs H Q E h => ?_) (fun cdv A outer s H vs Q E hr h => ?_)
  · obtain ⟨p, ns, q, ms, rfl, _⟩ := h
    rfl
  · obtain ⟨p, ns, p2, ms, rfl, ⟨dx, fs, q, hp, l1, l2, hq⟩, few, ⟨dx2, fs2, q2, hp2, m1, m2, hq2⟩, few2, k⟩ := h
    refine ⟨_, (pss_one (ps_ret (pe_and (pe_callB call_isi (by rfl) T.z_isinstance (by decide +kernel) (pa_cons (pv 1) (pa_cons (pe_glob (v := V.ref T.C) rfl T.gC rfl) pa_nil))) (pe_one (pe_cmpR (op_eqD hr.units) (pe_fld (pv 0) rfl) (pe_fld (pv 1) rfl) (nomark _)))))), ?_⟩
    refine ⟨_, rfl, _, _, _, _, true, rfl, .own T.C, .base (.ins hp2 T.clC T.isi.ca T.isi.cn T.isi.ct T.isi.cm), T.kS, true, rfl, iteT ?_⟩
    refine ⟨_, rfl, p, T.C, dx, fs, _, rfl, hp, T.clC, T.nO, l1, _, rfl, p2, T.C, dx2, fs2, _, rfl, hp2, T.clC, T.nO, m1, ?_⟩
    refine ⟨offD ns, offD ms, .tup hq (dp_ints ns), .tup hq2 (dp_ints ms), (fine_off ns).shaped (by decide), (fine_off ms).shaped (by decide), ?_⟩
    rw [eqv_off]
    exact k
end
end K04

namespace K04
open PySem L2 Wm TL Dv
section
variable {P : Program} {w : World} {K : PySem.W.Frag} {mg : Str → Option Value} {base : Heap}
theorem StrAt.keep {C : Addr} {H H' : Hp} {p : Addr} {ns : List Int} (h : StrAt K C H p ns) (s : Same H H') : StrAt K C H' p ns := by
  obtain ⟨dx, fs, q, hp, l1, l2, hq⟩ := h
  exact ⟨dx, fs, q, s _ _ hp, l1, l2, sameT s hq⟩
theorem Off.sort {xs ns : List Int} (h : IsSort xs ns) (lo : ∀ n ∈ xs, 0 ≤ n) (few : ns.length < 32) : Off ns := ⟨h.1, fun n m => lo n ((h.2 n).mp m), few⟩
theorem made {H : Hp} {p dx C : Addr} (hp : H p = none) (hd : H dx = none) (ne : dx ≠ p) : Same H (upd (upd H dx (.own p)) p (.ins C dx [])) :=
  (same_new hd).trans (same_new (by rw [upd_ne (Ne.symm ne)]; exact hp))
theorem made_off {H H' : Hp} {p dx C : Addr} (hp : H p = none) (hd : H dx = none) (ne : dx ≠ p) (off : ∀ q o, q ≠ p → upd (upd H dx (.own p)) p (.ins C dx []) q = some o → H' q = some o) : Same H H' :=
  fun q o e => off q o (ne_of_none e hp) (made hp hd ne q o e)
theorem ok_init (T : Txt K mg) : FnOk P w K mg base (L2.CX P w) 3 T.a_init T.d_init ["self", "offsets"] (sp_init K T.C T.CO) := by
  refine T.F_init.ok sc_init (fun vs H Q E h => ?_) (fun cdv A outer s H vs Q E hr h => ?_)
  · obtain ⟨p, dx, x, t, rfl, _⟩ := h
    rfl
  · obtain ⟨p, dx, x, t, rfl, hp, ⟨xs, hx, lo, few, k⟩ | ⟨pre, y, post, o, hx, lo, th, bd, er⟩⟩ := h
    · refine ⟨_, (pss_cons (ps_for (passes_of rfl) rfl (Kd.pi_seq (pv 1)) (pg_name (i := 2) sc_init.nd rfl (Or.inl rfl))
        (pss_one (ps_expr (pe_callS (ok_check_offset T) (hr.mono (by decide)) rfl T.g_check_offset T.F_check_offset.kp T.b_check_offset (fun σ => passAt (takes_of rfl rfl rfl rfl) σ) (by exact (pa_cons (pv 2) pa_nil))))))
      (pss_one (ps_fld (pv 0) (pe_callTy call_tuple_of (by rfl) T.z_tuple (by decide +kernel) (pa_cons (pe_callB (cr_sortedSet (by rfl)) (by rfl) T.z_sorted (by decide +kernel) (pa_cons (pe_callTy (Si.call_set (by rfl)) (by rfl) T.z_set (by decide +kernel) (pa_cons (pv 1) pa_nil)) pa_nil)) pa_nil)) rfl))), ?_⟩
      refine ⟨_, rfl, x, _, t, rfl, hx, fun J G wk hG => ?_⟩
      refine for_it wk (fun _ σ H' => ∃ v, σ = [some (.ref p), some (.ref x), v] ∧ H' = H) ⟨none, rfl, rfl⟩ (fun i σ H' _ h => let ⟨_, _, e⟩ := h; e ▸ hG _ hx) (fun i y σ H1 H2 hi hP hY => ?_) (fun σ H1 hP => ?_)
      · obtain ⟨v, rfl, rfl⟩ := hP
        obtain ⟨rfl, hy⟩ := hY
        rw [List.getElem?_map] at hy
        obtain ⟨n, hn, rfl⟩ := Option.map_eq_some_iff.mp hy
        exact ⟨_, rfl, _, some n, rfl, .int n, .inl ⟨n, rfl, lo n (List.mem_of_getElem? hn), _, rfl, rfl⟩⟩
      · obtain ⟨v, rfl, rfl⟩ := hP
        refine ⟨_, rfl, x, xs, rfl, hx.sq, by omega, fun S c hc hS => ?_⟩
        have s1 := same_new (o := SetO w S (fun y => decide (y ∈ xs)) c) hS
        refine ⟨S, _, c, rfl, upd_same, by omega, fun ls l up mem len hl => ?_⟩
        have s2 := s1.trans (same_new (o := .lst (ls.map V.int)) hl)
        refine ⟨l, _, rfl, .inl ⟨SqL.of upd_same, fun q hq => ?_⟩⟩
        have s3 := s2.trans (same_new (o := .tup (ls.map V.int)) hq)
        have hq3 : upd (upd (upd H1 S (SetO w S (fun y => decide (y ∈ xs)) c)) l (.lst (ls.map V.int))) q (.tup (ls.map V.int)) q = some (.tup (ls.map V.int)) := upd_same
        have hp4 := s3 _ _ hp
        have nq : q ≠ p := (ne_of_none (s2 _ _ hp) hq).symm
        refine ⟨_, rfl, p, T.C, dx, [], rfl, hp4, T.clC, T.nO, by show 0 < 1000; decide, ?_⟩
        refine k _ ls (fun a o na e => by rw [upd_ne na]; exact s3 _ _ e) ⟨up, fun j => (mem j).trans decide_eq_true_iff⟩ (by omega) ⟨dx, _, q, upd_same, ?_, fun m hm => ?_, ?_⟩
        · rfl
        · show List.lookup m [(("offsets" : Str), V.ref q)] = none
          rw [List.lookup_cons, beq_eq_false_iff_ne.mpr hm]
          rfl
        · exact SqT.of (by rw [upd_ne nq]; exact hq3)
    · refine ⟨_, (pss_cons (ps_for (passes_of rfl) rfl (Kd.pi_seq (pv 1)) (pg_name (i := 2) sc_init.nd rfl (Or.inl rfl))
        (pss_one (ps_expr (pe_callS (ok_check_offset T) (hr.mono (by decide)) rfl T.g_check_offset T.F_check_offset.kp T.b_check_offset (fun σ => passAt (takes_of rfl rfl rfl rfl) σ) (by exact (pa_cons (pv 2) pa_nil))))))
      (pss_one (ps_fld (pv 0) (pe_callTy call_tuple_of (by rfl) T.z_tuple (by decide +kernel) (pa_cons (pe_callB (cr_sortedSet (by rfl)) (by rfl) T.z_sorted (by decide +kernel) (pa_cons (pe_callTy (Si.call_set (by rfl)) (by rfl) T.z_set (by decide +kernel) (pa_cons (pv 1) pa_nil)) pa_nil)) pa_nil)) rfl))), ?_⟩
      refine ⟨_, rfl, x, _, t, rfl, hx, fun J G wk hG => ?_⟩
      have ln : (pre.map V.int ++ y :: post).length = pre.length + 1 + post.length := by simp; omega
      refine for_it wk (fun i σ H' => i ≤ pre.length ∧ ∃ v, σ = [some (.ref p), some (.ref x), v] ∧ H' = H) ⟨Nat.zero_le _, none, rfl, rfl⟩ (fun i σ H' _ h => let ⟨_, _, _, e⟩ := h; e ▸ hG _ hx) (fun i z σ H1 H2 hi hP hY => ?_) (fun σ H1 hP => ?_)
      · obtain ⟨il, v, rfl, rfl⟩ := hP
        obtain ⟨rfl, hy⟩ := hY
        by_cases c : i < pre.length
        · rw [List.getElem?_append_left (by rw [List.length_map]; exact c), List.getElem?_map] at hy
          obtain ⟨n, hn, rfl⟩ := Option.map_eq_some_iff.mp hy
          exact ⟨_, rfl, _, some n, rfl, .int n, .inl ⟨n, rfl, lo n (List.mem_of_getElem? hn), by omega, _, rfl, rfl⟩⟩
        · have ei : i = pre.length := by omega
          rw [ei, List.getElem?_append_right (by rw [List.length_map]; exact Nat.le_refl _), List.length_map, Nat.sub_self] at hy
          cases hy
          exact ⟨_, rfl, _, o, rfl, th, .inr ⟨bd, er⟩⟩
      · obtain ⟨il, _⟩ := hP
        omega
end
end K04

namespace K04
open PySem L2 Wm TL Dv
section
variable {P : Program} {w : World} {K : PySem.W.Frag} {mg : Str → Option Value} {base : Heap}
theorem ok_or (T : Txt K mg) : FnOk P w K mg base CX0 5 T.a_or T.d_or ["self", "other"] (sp_or K T.C) := by
  refine T.F_or.ok sc_or (fun vs H Q E h => ?_) (fun cdv A outer s H vs Q E hr h => ?_)
  · obtain ⟨p, q, ns, ms, rfl, _⟩ := h
    rfl
  · obtain ⟨p, p2, ns, ms, rfl, ⟨dx, fs, q, hp, l1, l2, hq⟩, O1, ⟨dx2, fs2, q2, hp2, m1, m2, hq2⟩, O2, k⟩ := h
    have f1 := O1.few
    have f2 := O2.few
    refine ⟨_, (pss_one (ps_ret (pe_make T.mk_init (ok_init T) (hr.mono (by decide)) (by rfl) T.gC T.b_init .nil Mk1.passF (pa_cons (pe_callB (cr_sortedSet (by rfl)) (by rfl) T.z_sorted (by decide +kernel) (pa_cons (pe_op So.op_or (pe_callTy (Si.call_set (by rfl)) (by rfl) T.z_set (by decide +kernel) (pa_cons (pe_fld (pv 0) rfl) pa_nil)) (pe_callTy (Si.call_set (by rfl)) (by rfl) T.z_set (by decide +kernel) (pa_cons (pe_fld (pv 1) rfl) pa_nil))) pa_nil)) pa_nil)))), ?_⟩
    refine ⟨_, rfl, p, T.C, dx, fs, _, rfl, hp, T.clC, T.nO, l1, q, ns, rfl, .inr hq, by omega, fun S1 c1 hc1 hS1 => ?_⟩
    have s1 := same_new (o := SetO w S1 (fun y => decide (y ∈ ns)) c1) hS1
    refine ⟨_, rfl, p2, T.C, dx2, fs2, _, rfl, s1 _ _ hp2, T.clC, T.nO, m1, q2, ms, rfl, .inr (sameT s1 hq2), by omega, fun S2 c2 hc2 hS2 => ?_⟩
    have s2 := same_new (o := SetO w S2 (fun y => decide (y ∈ ms)) c2) hS2
    have e1 := s2 _ _ (show upd H S1 (SetO w S1 (fun y => decide (y ∈ ns)) c1) S1 = some (SetO w S1 (fun y => decide (y ∈ ns)) c1) from upd_same)
    refine ⟨S1, S2, _, _, c1, c2, rfl, rfl, ne_of_none upd_same hS2, e1, upd_same, by omega, by omega, fun p3 c3 hc3 hp3 => ?_⟩
    refine ⟨p3, _, c3, rfl, upd_same, by omega, fun ls l up mem len hl => ?_⟩
    have s4 := ((s1.trans s2).trans (same_new hp3)).trans (same_new (o := .lst (ls.map V.int)) hl)
    refine fun x dy hx hdy ne => ?_
    have sm := made (C := T.C) hx hdy ne
    have lq := sm l _ upd_same
    refine ⟨x, dy, l, false, rfl, upd_same, .inl ⟨ls, Kd.Is.lst (SqL.of lq), fun n mn => ?_, by omega, fun H' ns2 off so le sA => ⟨rfl, ?_⟩⟩⟩
    · rcases (show n ∈ ns ∨ n ∈ ms by simpa using (mem n).mp mn) with z | z
      · exact O1.lo n z
      · exact O2.lo n z
    have e := up_eq so.1 up so.2
    subst e
    refine k _ x _ (s4.trans (made_off hx hdy ne off)) ?_ sA up fun j => ?_
    · exact s4.free hx
    · exact mem j
theorem ok_sub (T : Txt K mg) : FnOk P w K mg base CX0 5 T.a_sub T.d_sub ["self", "other"] (sp_sub K T.C) := by
  refine T.F_sub.ok sc_sub (fun vs H Q E h => ?_) (fun cdv A outer s H vs Q E hr h => ?_)
  · obtain ⟨p, q, ns, ms, rfl, _⟩ := h
    rfl
  · obtain ⟨p, p2, ns, ms, rfl, ⟨dx, fs, q, hp, l1, l2, hq⟩, O1, ⟨dx2, fs2, q2, hp2, m1, m2, hq2⟩, O2, k⟩ := h
    have f1 := O1.few
    have f2 := O2.few
    refine ⟨_, (pss_one (ps_ret (pe_make T.mk_init (ok_init T) (hr.mono (by decide)) (by rfl) T.gC T.b_init .nil Mk1.passF (pa_cons (pe_callB (cr_sortedSet (by rfl)) (by rfl) T.z_sorted (by decide +kernel) (pa_cons (pe_op So.op_sub (pe_callTy (Si.call_set (by rfl)) (by rfl) T.z_set (by decide +kernel) (pa_cons (pe_fld (pv 0) rfl) pa_nil)) (pe_callTy (Si.call_set (by rfl)) (by rfl) T.z_set (by decide +kernel) (pa_cons (pe_fld (pv 1) rfl) pa_nil))) pa_nil)) pa_nil)))), ?_⟩
    refine ⟨_, rfl, p, T.C, dx, fs, _, rfl, hp, T.clC, T.nO, l1, q, ns, rfl, .inr hq, by omega, fun S1 c1 hc1 hS1 => ?_⟩
    have s1 := same_new (o := SetO w S1 (fun y => decide (y ∈ ns)) c1) hS1
    refine ⟨_, rfl, p2, T.C, dx2, fs2, _, rfl, s1 _ _ hp2, T.clC, T.nO, m1, q2, ms, rfl, .inr (sameT s1 hq2), by omega, fun S2 c2 hc2 hS2 => ?_⟩
    have s2 := same_new (o := SetO w S2 (fun y => decide (y ∈ ms)) c2) hS2
    have e1 := s2 _ _ (show upd H S1 (SetO w S1 (fun y => decide (y ∈ ns)) c1) S1 = some (SetO w S1 (fun y => decide (y ∈ ns)) c1) from upd_same)
    refine ⟨S1, S2, _, _, c1, c2, rfl, rfl, ne_of_none upd_same hS2, e1, upd_same, by omega, by omega, fun p3 c3 hc3 hp3 => ?_⟩
    refine ⟨p3, _, c3, rfl, upd_same, by omega, fun ls l up mem len hl => ?_⟩
    have s4 := ((s1.trans s2).trans (same_new hp3)).trans (same_new (o := .lst (ls.map V.int)) hl)
    refine fun x dy hx hdy ne => ?_
    have sm := made (C := T.C) hx hdy ne
    have lq := sm l _ upd_same
    refine ⟨x, dy, l, false, rfl, upd_same, .inl ⟨ls, Kd.Is.lst (SqL.of lq), fun n mn => ?_, by omega, fun H' ns2 off so le sA => ⟨rfl, ?_⟩⟩⟩
    · exact O1.lo n (show n ∈ ns ∧ n ∉ ms by simpa using (mem n).mp mn).1
    have e := up_eq so.1 up so.2
    subst e
    refine k _ x _ (s4.trans (made_off hx hdy ne off)) ?_ sA up fun j => ?_
    · exact s4.free hx
    · exact mem j
theorem shift_up {ns : List Int} (h : ns.Pairwise (· < ·)) (i : Int) : (ns.map (· + i)).Pairwise (· < ·) := by
  rw [List.pairwise_map]
  exact h.imp fun h => by omega
theorem ok_rshift (T : Txt K mg) : FnOk P w K mg base (L2.CX P w) 5 T.a_rshift T.d_rshift ["self", "other"] (sp_rshift K T.C T.CO) := by
  refine T.F_rshift.okX sc_rshift (fun vs H Q E h => ?_) (fun cdv A outer s H vs Q E hr h => ?_)
  · obtain ⟨p, ns, y, o, rfl, _⟩ := h
    rfl
  · obtain ⟨p, ns, y, o, rfl, ⟨dx, fs, q, hp, l1, l2, hq⟩, O, th, k⟩ := h
    have few := O.few
    refine ⟨_, (pss_cons (ps_expr (pe_callS (ok_check_offset T) (hr.mono (by decide)) rfl T.g_check_offset T.F_check_offset.kp T.b_check_offset (fun σ => passAt (takes_of rfl rfl rfl rfl) σ) (by exact (pa_cons (pv 1) pa_nil))))
      (pss_one (ps_ret (pe_make T.mk_init (ok_init T) (hr.mono (by decide)) (by rfl) T.gC T.b_init .nil Mk1.passF (pa_cons (pe_lc (own := [("offset", 2)]) (g := gName 2) (tt := tYes) rfl sc_rshift.nd (pi_tup (pe_fld (pv 0) rfl)) (blkOk_by (own := [("offset", 2)]) (N := nm_rshift) (sc := (defScope s_rshift)) (by decide +kernel)) (fun _ _ _ _ _ => pg_name (i := 2) sc_rshift.nd rfl (Or.inl rfl)) (fun _ _ _ _ _ => pts_nil) (fun _ _ _ _ _ => (pe_op op_add (pv 2) (pv 1)))) pa_nil))))), ?_⟩
    refine ⟨_, rfl, y, o, rfl, th, ?_⟩
    rcases k with ⟨i, rfl, h0, k⟩ | ⟨bd, er⟩
    · refine .inl ⟨i, rfl, h0, ?_⟩
      cases th
      refine ⟨_, rfl, p, T.C, dx, fs, _, rfl, hp, T.clC, T.nO, l1, q, rfl, ⟨_, hq⟩, fun D hD => ?_⟩
      refine lc_tup (xs := ns.map V.int) (fun j A => Same H A ∧ A D = some (.lst (((ns.map (· + i)).take j).map V.int))) ⟨same_new hD, upd_same⟩ (fun j A _ hP => sameT hP.1 hq) (fun j z A hz hP => ?_) (fun H1 hP => ?_)
      · obtain ⟨sm, hL⟩ := hP
        rw [List.getElem?_map] at hz
        obtain ⟨n, hn, rfl⟩ := Option.map_eq_some_iff.mp hz
        refine ⟨rfl, yesT ?_⟩
        refine ⟨_, rfl, _, rfl, _, _, rfl, rfl, _, hL, by rw [List.length_map, List.length_take, List.length_map]; exact small1000 (by omega), same_mut sm hD, ?_⟩
        rw [upd_same, tk_succ (show (ns.map (· + i))[j]? = some (n + i) by rw [List.getElem?_map, hn]; rfl), List.map_append]
        rfl
      · obtain ⟨sm, hL⟩ := hP
        rw [List.length_map, List.take_of_length_le (by rw [List.length_map]; exact Nat.le_refl _)] at hL
        refine fun x dy hx hdy ne => ?_
        have m1 := made (C := T.C) hx hdy ne
        refine ⟨x, dy, D, false, rfl, upd_same, .inl ⟨ns.map (· + i), Kd.Is.lst (SqL.of (m1 _ _ hL)), fun n mn => ?_, by rw [List.length_map]; omega, fun H' ns2 off so le sA => ⟨rfl, ?_⟩⟩⟩
        · obtain ⟨z, mz, rfl⟩ := List.mem_map.mp mn
          have := O.lo z mz
          show 0 ≤ z + i
          omega
        have e := up_eq so.1 (shift_up O.up i) so.2
        subst e
        exact k _ x (sm.trans (made_off hx hdy ne off)) (sm.free hx) sA
    · exact .inr ⟨bd, er⟩
theorem ok_cut (T : Txt K mg) : FnOk P w K mg base CX0 5 T.a_cut T.d_cut ["self", "end"] (sp_cut K T.C) := by
  refine T.F_cut.ok sc_cut (fun vs H Q E h => ?_) (fun cdv A outer s H vs Q E hr h => ?_)
  · obtain ⟨p, ns, e, rfl, _⟩ := h
    rfl
  · obtain ⟨p, ns, e, rfl, ⟨dx, fs, q, hp, l1, l2, hq⟩, O, k⟩ := h
    have few := O.few
    refine ⟨_, (pss_one (ps_ret (pe_make T.mk_init (ok_init T) (hr.mono (by decide)) (by rfl) T.gC T.b_init .nil Mk1.passF (pa_cons (pe_lc (own := [("offset", 2)]) (g := gName 2) rfl sc_cut.nd (pi_tup (pe_fld (pv 0) rfl)) (blkOk_by (own := [("offset", 2)]) (N := nm_cut) (sc := (defScope s_cut)) (by decide +kernel)) (fun _ _ _ _ _ => pg_name (i := 2) sc_cut.nd rfl (Or.inl rfl)) (fun _ _ _ _ _ => (pts_one (pt_cmpR op_lt (pv 2) (pv 1) (nomark _)))) (fun _ _ _ _ _ => (pv 2))) pa_nil)))), ?_⟩
    refine ⟨_, rfl, p, T.C, dx, fs, _, rfl, hp, T.clC, T.nO, l1, q, rfl, ⟨_, hq⟩, fun D hD => ?_⟩
    refine lc_tup (xs := ns.map V.int) (fun j A => Same H A ∧ A D = some (.lst (((ns.take j).filter fun k => decide (k < e)).map V.int))) ⟨same_new hD, upd_same⟩ (fun j A _ hP => sameT hP.1 hq) (fun j z A hz hP => ?_) (fun H1 hP => ?_)
    · obtain ⟨sm, hL⟩ := hP
      rw [List.getElem?_map] at hz
      obtain ⟨n, hn, rfl⟩ := Option.map_eq_some_iff.mp hz
      have le : ((ns.take j).filter fun k => decide (k < e)).length ≤ ns.length := Nat.le_trans (List.length_filter_le _ _) (by rw [List.length_take]; omega)
      refine ⟨rfl, _, rfl, _, rfl, _, _, rfl, rfl, _, rfl, ite2 (fun c => ?_) (fun c => ?_)⟩
      · refine ⟨_, rfl, _, hL, by rw [List.length_map]; exact small1000 (by omega), same_mut sm hD, ?_⟩
        rw [upd_same, tk_succ hn, List.filter_append, List.map_append, List.filter_cons, if_pos c]
        rfl
      · refine ⟨sm, ?_⟩
        rw [tk_succ hn, List.filter_append, List.filter_cons, if_neg c, List.filter_nil, List.append_nil]
        exact hL
    · obtain ⟨sm, hL⟩ := hP
      rw [List.length_map, List.take_length] at hL
      refine fun x dy hx hdy ne => ?_
      have m1 := made (C := T.C) hx hdy ne
      have le : (ns.filter fun k => decide (k < e)).length ≤ ns.length := List.length_filter_le _ _
      refine ⟨x, dy, D, false, rfl, upd_same, .inl ⟨_, Kd.Is.lst (SqL.of (m1 _ _ hL)), fun n mn => O.lo n (List.mem_filter.mp mn).1, by omega, fun H' ns2 off so le sA => ⟨rfl, ?_⟩⟩⟩
      have e := up_eq so.1 (O.up.filter _) so.2
      subst e
      exact k _ x (sm.trans (made_off hx hdy ne off)) (sm.free hx) sA
end
end K04

namespace K04
open PySem L2 Wm TL Dv
section
variable {P : Program} {w : World} {K : PySem.W.Frag} {mg : Str → Option Value} {base : Heap}
theorem cut_some (ns : List Int) (hi : Option Int) : ∃ m, cutV (ns.map V.int) none hi = (ns.take m).map V.int := by
  refine ⟨HT.sIx (ns.map V.int).length (ns.map V.int).length hi - HT.sIx (ns.map V.int).length 0 none, ?_⟩
  unfold cutV
  rw [HT.sIx_none, List.drop_zero, List.map_take]
theorem ok_bag (T : Txt K mg) : FnOk P w K mg base CX0 1 T.a_bag T.d_bag ["_law_script"] (sp_bag K) := by
  refine T.F_bag.ok sc_bag (fun vs H Q E h => ?_) (fun cdv A outer s H vs Q E hr h => ?_)
  · obtain ⟨a, ns, rfl, _⟩ := h
    rfl
  · obtain ⟨a, ns, rfl, hS, hlen, k⟩ := h
    refine ⟨_, (pss_cons (ps_setLc (i := 1) (own := [("_law_cell", 2)]) (g := gName 2) (tt := tYes) rfl sc_bag.nd rfl rfl (sw_true rfl rfl rfl (by decide +kernel)) (pi_list (pe_slice sl_list (pv 0) po_none (po_some pe_int))) (blkOk_by (own := [("_law_cell", 2)]) (N := nm_bag) (sc := (defScope s_bag)) (by decide +kernel)) (fun _ _ _ _ _ => pg_name (i := 2) sc_bag.nd rfl (Or.inl rfl)) (fun _ _ _ _ _ => pts_nil) (fun _ _ _ _ _ => (pe_ifExp (pt_cmpR op_ge (pv 2) pe_int (nomark _)) (pv 2) (pe_op op_sub pe_int (pv 2)))))
      (pss_one (ps_ret (pe_lst (pa_cons pe_int (pa_cons (pv 1) (pa_cons pe_int (pa_cons pe_int (pa_cons pe_int pa_nil))))))))), ?_⟩
    refine ⟨.ref a, rfl, 63, rfl, a, _, rfl, hS, fun p hp => ?_⟩
    obtain ⟨m, em⟩ := cut_some ns (some 63)
    rw [em]
    have hml : (ns.take m).length ≤ 63 := by rw [List.length_take]; omega
    generalize ns.take m = ms at hml
    refine ⟨p, rfl, ⟨_, SqL.of upd_same⟩, fun D hD => ?_⟩
    refine lc_list (xs := ms.map V.int) (fun i H' => Same (upd H p (.lst (ms.map V.int))) H' ∧ ∃ qs : List Int, qs.length = i ∧ H' D = some (.lst (qs.map V.int))) ⟨same_new hD, [], rfl, upd_same⟩ (fun i H2 _ hP => SqL.of (hP.1 _ _ upd_same)) (fun i x H2 hx hP => ?_) (fun H2 hP => ?_)
    · obtain ⟨sm, qs, eq, hq⟩ := hP
      have hi : i < ms.length := by
        have := (List.getElem?_eq_some_iff.mp hx).1
        rw [List.length_map] at this
        exact this
      have ex : x = .int ms[i] := by
        rw [List.getElem?_map, List.getElem?_eq_getElem hi] at hx
        exact (Option.some.inj hx).symm
      subst ex
      have small : (qs.map V.int).length < sizeLine := by rw [List.length_map]; exact small1000 (by omega)
      refine ⟨rfl, yesT ?_⟩
      refine ⟨_, rfl, _, _, rfl, rfl, _, rfl, ite2 (fun _ => ?_) (fun _ => ?_)⟩
      · exact ⟨_, rfl, _, hq, small, same_mut sm hD, qs ++ [ms[i]], by rw [List.length_append, eq]; rfl, by rw [upd_same, List.map_append]; rfl⟩
      · exact ⟨_, rfl, _, _, rfl, rfl, _, hq, small, same_mut sm hD, qs ++ [1 - ms[i]], by rw [List.length_append, eq]; rfl, by rw [upd_same, List.map_append]; rfl⟩
    · obtain ⟨sm, qs, eq, hq⟩ := hP
      refine ⟨_, rfl, by show 5 ≤ sizeLine; decide, fun b hb => ?_⟩
      refine k _ b (((same_new hp).trans sm).trans (same_new hb)) ⟨D, 0, 0, 0, 20261, qs, upd_same, at_old hq hb, by decide, by decide, by decide⟩
end
end K04

namespace K04
open PySem L2 Wm TL Dv
section
variable {P : Program} {w : World} {K : PySem.W.Frag} {mg : Str → Option Value} {base : Heap}
theorem fmod_in {x l : Int} (h : 0 < l) : 0 ≤ x.fmod l ∧ x.fmod l < l := by
  rw [Int.fmod_eq_emod_of_nonneg x (Int.le_of_lt h)]
  exact ⟨Int.emod_nonneg x (by omega), Int.emod_lt_of_pos x h⟩
theorem ok_draw (T : Txt K mg) : FnOk P w K mg base CX0 1 T.a_draw T.d_draw ["_law_bag_here", "_law_limit"] (sp_draw K) := by
  refine T.F_draw.ok sc_draw (fun vs H Q E h => ?_) (fun cdv A outer s H vs Q E hr h => ?_)
  · obtain ⟨b, n, lim, rfl, _⟩ := h
    rfl
  · obtain ⟨b, n, lim, rfl, l0, l1, ⟨c, x, k, m, z, ns, hb, hc, k0, m0, mn⟩, hn, kk⟩ := h
    have hcb := bag_ne hb hc
    refine ⟨_, (C8.pss_cut (ps_if (PW.pt (pw_and (pt_cmpR op_lt (pe_ix ix_list (pv 0) pe_int (fun _ _ => rfl)) (pe_op op_pow pe_int pe_int) (nomark _)) (pw_and1 (pt_cmpR op_lt (pe_ix ix_list (pv 0) pe_int (fun _ _ => rfl)) (pe_callB call_len_seq (by rfl) T.z_len PySem.boot_len (pa_cons (pe_ix ix_list (pv 0) pe_int (fun _ _ => rfl)) pa_nil)) (nomark _)))))
        (pss_cons (ps_asg (pe_ix ix_list (pe_ix ix_list (pv 0) pe_int (fun _ _ => rfl)) (pe_ix ix_list (pv 0) pe_int (fun _ _ => rfl)) (fun _ _ => rfl)) (pg_sub (pv 0) pe_int set_list))
        (pss_one (ps_asg (pe_op op_add (pe_ix ix_list (pv 0) pe_int (fun _ _ => rfl)) pe_int) (pg_sub (pv 0) pe_int set_list))))
        pss_nil)
      (pss_cons (ps_if (pt_cmpR op_ge (pe_ix ix_list (pv 0) pe_int (fun _ _ => rfl)) (pe_op op_pow pe_int pe_int) (nomark _))
        (pss_cons (ps_set (i := 2) sc_draw.nd rfl (Or.inl rfl) (pe_op op_modN (pe_callTy call_int1 (by rfl) T.z_int (by decide +kernel) (pa_cons (pe_ix ix_list (pv 0) pe_int (fun _ _ => rfl)) pa_nil)) (pv 1)))
        (pss_cons (ps_asg (pe_op op_fdivW (pe_callTy call_int1 (by rfl) T.z_int (by decide +kernel) (pa_cons (pe_ix ix_list (pv 0) pe_int (fun _ _ => rfl)) pa_nil)) (pv 1)) (pg_sub (pv 0) pe_int set_list))
        (pss_one (ps_ret (pv 2)))))
        pss_nil)
      (pss_cons (ps_asg (pe_op op_add (pe_ix ix_list (pv 0) pe_int (fun _ _ => rfl)) pe_int) (pg_sub (pv 0) pe_int set_list))
      (pss_cons (ps_asg (pe_op op_modN (pe_callTy call_int1 (by rfl) T.z_int (by decide +kernel) (pa_cons (pe_op op_add (pe_op op_add (pe_op op_mul (pe_ix ix_list (pv 0) pe_int (fun _ _ => rfl)) pe_int) (pe_op op_mul (pe_op op_modN (pe_callTy call_int1 (by rfl) T.z_int (by decide +kernel) (pa_cons (pe_ix ix_list (pv 0) pe_int (fun _ _ => rfl)) pa_nil)) pe_int) pe_int)) (pe_op op_mul (pe_ix ix_list (pv 0) pe_int (fun _ _ => rfl)) pe_int)) pa_nil)) pe_int) (pg_sub (pv 0) pe_int set_list))
      (pss_one (ps_ret (pe_op op_modN (pe_op op_fdivN (pe_op op_modN (pe_callTy call_int1 (by rfl) T.z_int (by decide +kernel) (pa_cons (pe_op op_add (pe_op op_mul (pe_ix ix_list (pv 0) pe_int (fun _ _ => rfl)) pe_int) (pe_op op_mul (pe_ix ix_list (pv 0) pe_int (fun _ _ => rfl)) (pe_ix ix_list (pv 0) pe_int (fun _ _ => rfl)))) pa_nil)) pe_int) pe_int) (pv 1)))))))), ?_⟩
    refine ⟨fun σ H1 => ∃ x k : Int, σ = [some (.ref b), some (.int lim), none] ∧ 0 ≤ k ∧ But b H H1 ∧ H1 b = some (.lst [.int x, .ref c, .int k, .int m, .int z]), ?_, ?_⟩
    · refine ⟨_, rfl, b, _, 0, _, rfl, rfl, SqL.of hb, atI_nat (j := 0) rfl, _, _, rfl, rfl, ⟨by decide, by decide, by decide⟩, _, _, rfl, rfl, _, rfl, ite2 (fun h1 => ?_) (fun h1 => ?_)⟩
      · refine ⟨_, rfl, b, _, 2, _, rfl, rfl, SqL.of hb, atI_nat (j := 2) rfl, _, rfl, b, _, 1, _, rfl, rfl, SqL.of hb, atI_nat (j := 1) rfl, c, _, rfl, .inl (SqL.of hc), _, _, rfl, rfl, _, rfl, ite2 (fun h2 => ?_) (fun h2 => ?_)⟩
        · have h3 := of_decide_eq_true h2
          rw [List.length_map] at h3
          have h4 : k.toNat < ns.length := by omega
          have g : (ns.map V.int)[k.toNat]? = some (.int ns[k.toNat]) := by rw [List.getElem?_map, List.getElem?_eq_getElem h4]; rfl
          refine ⟨_, rfl, b, _, 1, _, rfl, rfl, SqL.of hb, atI_nat (j := 1) rfl, _, rfl, b, _, 2, _, rfl, rfl, SqL.of hb, atI_nat (j := 2) rfl, c, _, k, _, rfl, rfl, SqL.of hc, at_of (by omega) g, ?_⟩
          refine ⟨_, rfl, b, _, 0, 0, rfl, rfl, hb, rfl, ?_⟩
          refine ⟨_, rfl, b, _, 2, _, rfl, rfl, SqL.of upd_same, atI_nat (j := 2) rfl, _, _, rfl, rfl, ?_⟩
          refine ⟨_, rfl, b, _, 2, 2, rfl, rfl, upd_same, rfl, ?_⟩
          exact ⟨_, _, rfl, by omega, But.trans (But.set hb) (But.set upd_same), upd_same⟩
        · exact ⟨x, k, rfl, k0, But.refl _ _, hb⟩
      · exact ⟨x, k, rfl, k0, But.refl _ _, hb⟩
    · rintro σ H1 ⟨x, k, rfl, k0, but, hb⟩
      have hc1 : H1 c = some (.lst (ns.map V.int)) := but _ _ hcb hc
      refine ⟨_, rfl, b, _, 0, _, rfl, rfl, SqL.of hb, atI_nat (j := 0) rfl, _, _, rfl, rfl, ⟨by decide, by decide, by decide⟩, _, _, rfl, rfl, _, rfl, ite2 (fun h1 => ?_) (fun h1 => ?_)⟩
      · refine ⟨_, rfl, b, _, 0, _, rfl, rfl, SqL.of hb, atI_nat (j := 0) rfl, .inl ⟨_, rfl, _, rfl, _, _, rfl, rfl, by omega, ?_⟩⟩
        refine ⟨_, rfl, b, _, 0, _, rfl, rfl, SqL.of hb, atI_nat (j := 0) rfl, .inl ⟨_, rfl, _, rfl, _, _, rfl, rfl, wide_div l0 (b := 100) (by omega) (by decide) (by decide), ?_⟩⟩
        refine ⟨_, rfl, b, _, 0, 0, rfl, rfl, hb, rfl, ?_⟩
        refine ⟨_, rfl, kk _ _ (fmod_in l0).1 (fmod_in l0).2 ⟨c, _, k, m, z, ns, upd_same, ?_, k0, m0, by omega⟩ (but.trans (But.set hb))⟩
        rw [upd_ne hcb]
        exact hc1
      · refine ⟨_, rfl, b, _, 3, _, rfl, rfl, SqL.of hb, atI_nat (j := 3) rfl, _, _, rfl, rfl, ?_⟩
        refine ⟨_, rfl, b, _, 3, 3, rfl, rfl, hb, rfl, ?_⟩
        -- the two reckonings
        refine ⟨_, rfl, b, _, 4, _, rfl, rfl, SqL.of upd_same, atI_nat (j := 4) rfl, _, _, rfl, rfl, .inr ⟨by decide, by decide⟩, ?_⟩
        refine ⟨_, rfl, b, _, 0, _, rfl, rfl, SqL.of upd_same, atI_nat (j := 0) rfl, .inl ⟨_, rfl, _, _, rfl, rfl, by omega, _, _, rfl, rfl, .inr ⟨by decide, by decide⟩, _, _, rfl, rfl, ?_⟩⟩
        refine ⟨_, rfl, b, _, 3, _, rfl, rfl, SqL.of upd_same, atI_nat (j := 3) rfl, _, _, rfl, rfl, .inr ⟨by decide, by decide⟩, _, _, rfl, rfl, .inl ⟨_, rfl, _, _, rfl, rfl, by omega, ?_⟩⟩
        refine ⟨_, rfl, b, _, 4, 4, rfl, rfl, upd_same, rfl, ?_⟩
        refine ⟨_, rfl, b, _, 4, _, rfl, rfl, SqL.of upd_same, atI_nat (j := 4) rfl, _, _, rfl, rfl, .inr ⟨by decide, by decide⟩, ?_⟩
        refine ⟨_, rfl, b, _, 3, _, rfl, rfl, SqL.of upd_same, atI_nat (j := 3) rfl, _, rfl, b, _, 3, _, rfl, rfl, SqL.of upd_same, atI_nat (j := 3) rfl, _, _, rfl, rfl, .inl ⟨by omega, by omega⟩, _, _, rfl, rfl, .inl ⟨_, rfl, _, _, rfl, rfl, by omega, _, _, rfl, rfl, ⟨by decide, by decide⟩, _, rfl, _, _, rfl, rfl, by omega, ?_⟩⟩
        refine kk _ _ (fmod_in l0).1 (fmod_in l0).2 ⟨c, x, k, m + 1, _, ns, upd_same, ?_, k0, by omega, by omega⟩ ((but.trans (But.set hb)).trans (But.set upd_same))
        rw [upd_ne hcb, upd_ne hcb]
        exact hc1
end
end K04

namespace K04
open PySem L2 Wm TL Dv
section
variable {P : Program} {w : World} {K : PySem.W.Frag} {mg : Str → Option Value} {base : Heap}
theorem ok_offset (T : Txt K mg) : FnOk P w K mg base CX0 2 T.a_offset T.d_offset ["_law_bag_here"] (sp_offset K) := by
  refine T.F_offset.ok sc_offset (fun vs H Q E h => ?_) (fun cdv A outer s H vs Q E hr h => ?_)
  · obtain ⟨b, n, rfl, _⟩ := h
    rfl
  · obtain ⟨b, n, rfl, bag, hn, k⟩ := h
    refine ⟨_, (pss_cons (ps_if (pt_cmpR op_eq (pe_call (ok_draw T) (hr.mono (by decide)) (by rfl) T.g_draw T.F_draw.kp T.b_draw .nil pass0 (pa_cons (pv 0) (pa_cons pe_int pa_nil))) pe_int (nomark _))
        (pss_one (ps_ret (pe_call (ok_draw T) (hr.mono (by decide)) (by rfl) T.g_draw T.F_draw.kp T.b_draw .nil pass0 (pa_cons (pv 0) (pa_cons (pe_op op_pow pe_int pe_int) pa_nil)))))
        pss_nil)
      (pss_one (ps_ret (pe_call (ok_draw T) (hr.mono (by decide)) (by rfl) T.g_draw T.F_draw.kp T.b_draw .nil pass0 (pa_cons (pv 0) (pa_cons pe_int pa_nil)))))), ?_⟩
    refine ⟨_, rfl, b, n, 4, rfl, by decide, by decide, bag, by omega, fun H1 d h0 h1 bag1 but1 => ?_⟩
    refine ⟨rfl, _, rfl, ite2 (fun c => ?_) (fun c => ?_)⟩
    · exact ⟨_, rfl, _, _, rfl, rfl, ⟨by decide, by decide, by decide⟩, b, n + 1, _, rfl, by decide, by decide, bag1, by omega, fun H2 d2 l0 l1 bag2 but2 => k H2 d2 l0 bag2 (but1.trans but2)⟩
    · exact ⟨_, rfl, b, n + 1, 40, rfl, by decide, by decide, bag1, by omega, fun H2 d2 l0 l1 bag2 but2 => k H2 d2 l0 bag2 (but1.trans but2)⟩
theorem But.free {H H' : Hp} {b p : Addr} {n m : Nat} (bag' : Bag H' b n) (e : But b H H') (bag : Bag H b m) (h : H' p = none) : H p = none := by
  cases q : H p with
  | none => rfl
  | some o =>
    by_cases c : p = b
    · obtain ⟨_, _, _, _, _, _, hb, _⟩ := bag'
      rw [c, hb] at h
      cases h
    · rw [e.keep p o c q] at h
      cases h
theorem eqv_lst (a b : List Int) : PyData.eqv (.list (a.map PyData.int)) (.list (b.map PyData.int)) = decide (a = b) := by
  unfold PyData.eqv
  exact eqv_ints a b
theorem shl (ns : List Int) : SeqAt.shaped (.list (ns.map PyData.int)) = true := PySem.W.ke_shaped_ints ns
theorem pow20 : (10 : Int) ^ 20 = 100000000000000000000 := by decide
theorem ok_odd (T : Txt K mg) : FnOk P w K mg base CX0 2 T.a_odd T.d_odd ["_law_bag_here"] (sp_odd K) := by
  refine T.F_odd.ok sc_odd (fun vs H Q E h => ?_) (fun cdv A outer s H vs Q E hr h => ?_)
  · obtain ⟨b, n, rfl, _⟩ := h
    rfl
  · obtain ⟨b, n, rfl, bag, hn, k⟩ := h
    refine ⟨_, (pss_cons (ps_set (i := 1) sc_odd.nd rfl (Or.inl rfl) (pe_call (ok_draw T) (hr.mono (by decide)) (by rfl) T.g_draw T.F_draw.kp T.b_draw .nil pass0 (pa_cons (pv 0) (pa_cons pe_int pa_nil))))
      (pss_cons (ps_if (pt_cmpR op_eq (pv 1) pe_int (nomark _))
        (pss_one (ps_ret (pe_op op_sub (pe_un un_neg pe_int) (pe_call (ok_draw T) (hr.mono (by decide)) (by rfl) T.g_draw T.F_draw.kp T.b_draw .nil pass0 (pa_cons (pv 0) (pa_cons (pe_op op_pow pe_int pe_int) pa_nil))))))
        pss_nil)
      (pss_one (ps_ret (pe_ix ix_list (pe_lst (pa_cons pe_bl (pa_cons pe_bl (pa_cons pe_non (pa_cons pe_str (pa_cons pe_str (pa_cons (pe_tup (pa_cons pe_int pa_nil)) (pa_cons (pe_lst (pa_cons pe_int pa_nil)) pa_nil)))))))) (pe_op op_sub (pv 1) pe_int) (fun _ _ => rfl)))))), ?_⟩
    refine ⟨_, rfl, b, n, 8, rfl, by decide, by decide, bag, by omega, fun H1 way w0 w1 bag1 but1 => ?_⟩
    refine ⟨_, rfl, rfl, _, rfl, ite2 (fun c => ?_) (fun c => ?_)⟩
    · refine ⟨1, rfl, _, rfl, _, _, rfl, rfl, ⟨by decide, by decide, by decide⟩, b, n + 1, _, rfl, by decide, by decide, bag1, by omega, fun H2 d d0 d1 bag2 but2 => ⟨_, _, rfl, rfl, ?_⟩⟩
      have d2 : d < 100000000000000000000 := d1
      exact k _ _ (.int (-1 - d)) (some (-1 - d)) (.int _ (by show (-1 - d).natAbs < 1267650600228229401496703205376; omega)) (fun i e => by cases e; omega) (fun p z => by cases z) (bag2.mono (by omega)) (but1.trans but2)
    · have w2 : way ≠ 0 := fun z => by rw [z] at c; simp at c
      refine ⟨by show 1 ≤ sizeLine; decide, fun tp htp => ⟨by show 1 ≤ sizeLine; decide, fun lp hlp => ⟨by show 7 ≤ sizeLine; decide, fun u hu => ?_⟩⟩⟩
      have t1 := same_new (o := .tup [V.int 2]) htp
      have t2 := same_new (o := .lst [V.int 2]) hlp
      have t3 := same_new (o := .lst [V.bl true, V.bl false, V.non, V.str "3", V.str "", V.ref tp, V.ref lp]) hu
      have t13 := (t1.trans t2).trans t3
      have htp3 := (t2.trans t3) _ _ (show upd H1 tp (.tup [V.int 2]) tp = some (.tup [V.int 2]) from upd_same)
      have hlp3 := t3 _ _ (show upd (upd H1 tp (.tup [V.int 2])) lp (.lst [V.int 2]) lp = some (.lst [V.int 2]) from upd_same)
      have hv : ∃ v d, atI [V.bl true, V.bl false, V.non, V.str "3", V.str "", V.ref tp, V.ref lp] (way - 1) = some v ∧ Od K b (upd (upd (upd H1 tp (.tup [V.int 2])) lp (.lst [V.int 2])) u (.lst [V.bl true, V.bl false, V.non, V.str "3", V.str "", V.ref tp, V.ref lp])) v d none ∧ ∀ p2, v = .ref p2 → H p2 = none := by
        have h4 : way = 1 ∨ way = 2 ∨ way = 3 ∨ way = 4 ∨ way = 5 ∨ way = 6 ∨ way = 7 := by omega
        rcases h4 with z | z | z | z | z | z | z <;> subst z
        · exact ⟨_, _, rfl, .bl _, fun p2 z => by cases z⟩
        · exact ⟨_, _, rfl, .bl _, fun p2 z => by cases z⟩
        · exact ⟨_, _, rfl, .non, fun p2 z => by cases z⟩
        · exact ⟨_, _, rfl, .str ⟨by decide, by decide +kernel⟩, fun p2 z => by cases z⟩
        · exact ⟨_, _, rfl, .str ⟨by decide, by decide +kernel⟩, fun p2 z => by cases z⟩
        · exact ⟨_, _, rfl, .tup (Lm.bag_off bag1 htp) (SqT.of htp3), fun p2 z => by cases z; exact But.free bag1 but1 bag htp⟩
        · exact ⟨_, _, rfl, .lst (Lm.bag_off (bag1.keep t1) hlp) (SqL.of hlp3), fun p2 z => by cases z; exact But.free bag1 but1 bag (t1.free hlp)⟩
      obtain ⟨v, d, ev, od, fr⟩ := hv
      refine ⟨_, rfl, _, _, rfl, rfl, u, _, _, v, rfl, rfl, SqL.of upd_same, ev, ?_⟩
      exact k _ _ d none od Bad.none fr ((bag1.keep t13).mono (by omega)) (but1.trans (But.of t13))
theorem ok_end (T : Txt K mg) : FnOk P w K mg base CX0 2 T.a_end T.d_end ["_law_bag_here", "_law_due"] (sp_end K) := by
  refine T.F_end.ok sc_end (fun vs H Q E h => ?_) (fun cdv A outer s H vs Q E hr h => ?_)
  · obtain ⟨b, q, n, ns, rfl, _⟩ := h
    rfl
  · obtain ⟨b, q, n, ns, rfl, bag, hn, hq, qb, few, k⟩ := h
    refine ⟨_, (pss_cons (ps_set (i := 2) sc_end.nd rfl (Or.inl rfl) (pe_call (ok_draw T) (hr.mono (by decide)) (by rfl) T.g_draw T.F_draw.kp T.b_draw .nil pass0 (pa_cons (pv 0) (pa_cons pe_int pa_nil))))
      (pss_cons (ps_if (pt_cmpR op_eq (pv 2) pe_int (nomark _))
        (pss_one (ps_ret (pe_op op_sub (pe_call (ok_draw T) (hr.mono (by decide)) (by rfl) T.g_draw T.F_draw.kp T.b_draw .nil pass0 (pa_cons (pv 0) (pa_cons pe_int pa_nil))) pe_int)))
        pss_nil)
      (pss_cons (ps_if (pt_cmpR op_eq (pv 2) pe_int (nomark _))
        (pss_one (ps_ret (pe_call (ok_draw T) (hr.mono (by decide)) (by rfl) T.g_draw T.F_draw.kp T.b_draw .nil pass0 (pa_cons (pv 0) (pa_cons (pe_op op_pow pe_int pe_int) pa_nil)))))
        pss_nil)
      (pss_cons (ps_if (pt_cmpR (op_eqD hr.units) (pv 1) (pe_lst pa_nil) (nomark _))
        (pss_one (ps_ret pe_int))
        pss_nil)
      (pss_one (ps_ret (pe_op op_sub (pe_op op_add (pe_ix ix_list (pv 1) (pe_call (ok_draw T) (hr.mono (by decide)) (by rfl) T.g_draw T.F_draw.kp T.b_draw .nil pass0 (pa_cons (pv 0) (pa_cons (pe_callB call_len_seq (by rfl) T.z_len PySem.boot_len (pa_cons (pv 1) pa_nil)) pa_nil))) (fun _ _ => rfl)) (pv 2)) pe_int))))))), ?_⟩
    refine ⟨_, rfl, b, n, 4, rfl, by decide, by decide, bag, by omega, fun H1 way w0 w1 bag1 but1 => ?_⟩
    have hq1 := but1.keep _ _ qb hq
    refine ⟨_, rfl, rfl, _, rfl, ite2 (fun c => ?_) (fun c => ?_)⟩
    · exact ⟨_, rfl, b, _, 50, rfl, by decide, by decide, bag1, by omega, fun H2 d d0 d1 bag2 but2 => ⟨_, _, rfl, rfl, k _ _ (bag2.mono (by omega)) (but1.trans but2)⟩⟩
    refine ⟨_, rfl, rfl, _, rfl, ite2 (fun c => ?_) (fun c => ?_)⟩
    · exact ⟨_, rfl, _, _, rfl, rfl, ⟨by decide, by decide, by decide⟩, b, _, _, rfl, by decide, by decide, bag1, by omega, fun H2 d d0 d1 bag2 but2 => k _ _ (bag2.mono (by omega)) (but1.trans but2)⟩
    refine ⟨_, rfl, by show 0 ≤ sizeLine; exact Nat.zero_le _, fun u hu => ?_⟩
    have s1 := same_new (o := .lst []) hu
    refine ⟨.list (ns.map PyData.int), .list [], .lst (SqL.of (s1 _ _ hq1)) (dp_ints ns), .lst (SqL.of upd_same) .nil, shl ns, shl [], _, rfl, ?_⟩
    rw [show PyData.eqv (.list (ns.map PyData.int)) (.list []) = decide (ns = []) from eqv_lst ns []]
    refine ite2 (fun c => ?_) (fun c => ?_)
    · exact k _ _ ((bag1.keep s1).mono (by omega)) (but1.trans (But.of s1))
    · have nn : 0 < ns.length := List.length_pos_iff.mpr (fun z => c (decide_eq_true z))
      have hq2 := s1 _ _ hq1
      refine ⟨_, rfl, _, rfl, _, rfl, q, _, rfl, .inl (SqL.of hq2), b, _, _, rfl, by rw [List.length_map]; omega, by rw [List.length_map]; omega, bag1.keep s1, by omega, fun H2 d d0 d1 bag2 but2 => ?_⟩
      rw [List.length_map] at d1
      obtain ⟨e, rfl⟩ : ∃ e : Nat, d = (e : Int) := ⟨d.toNat, by omega⟩
      have hle : e < ns.length := by omega
      refine ⟨q, _, ((e : Nat) : Int), _, rfl, rfl, SqL.of (but2.keep _ _ qb hq2), atI_nat (show (ns.map V.int)[e]? = some (.int ns[e]) by rw [List.getElem?_map, List.getElem?_eq_getElem hle]; rfl), ?_⟩
      exact ⟨_, rfl, _, _, rfl, rfl, _, _, rfl, rfl, k _ _ (bag2.mono (by omega)) ((but1.trans (But.of s1)).trans but2)⟩
end
end K04

namespace K04
open PySem L2 Wm TL Dv
section
variable {P : Program} {w : World} {K : PySem.W.Frag} {mg : Str → Option Value} {base : Heap}
theorem Thing.keep {H H' : Hp} {x : V} {o : Option Int} (h : Thing K H x o) (s : Same H H') : Thing K H' x o := by
  cases h with
  | int i => exact .int i
  | bl c => exact .bl c
  | non => exact .non
  | str _ => exact .str _
  | seq t h => exact .seq t (h.keep s)
theorem Od.thing {b : Addr} {H : Hp} {x : V} {d : PyData} {o : Option Int} (h : Od K b H x d o) : Thing K H x o := by
  cases h with
  | int i _ => exact .int i
  | bl c => exact .bl c
  | non => exact .non
  | str _ => exact .str _
  | tup _ h => exact .seq true (Kd.Is.tup h)
  | lst _ h => exact .seq false (Kd.Is.lst h)
theorem Od.dp {b : Addr} {H : Hp} {x : V} {d : PyData} {o : Option Int} (h : Od K b H x d o) : Dp K H x d := by
  cases h with
  | int i _ => exact .int i
  | bl c => exact .bl c
  | non => exact .non
  | str _ => exact .str _
  | tup _ h => exact .tup h (.cons (.int 2) .nil)
  | lst _ h => exact .lst h (.cons (.int 2) .nil)
theorem Od.keep {b : Addr} {H H' : Hp} {x : V} {d : PyData} {o : Option Int} (s : Same H H') (h : Od K b H x d o) : Od K b H' x d o := by
  cases h with
  | int i l => exact .int i l
  | bl c => exact .bl c
  | non => exact .non
  | str t => exact .str t
  | tup pb h => exact .tup pb (sameT s h)
  | lst pb h => exact .lst pb (Hf.keepL s h)
theorem sqt_but {b p : Addr} {H H' : Hp} {xs : List V} (e : But b H H') (pb : p ≠ b) (h : SqT K H p xs) : SqT K H' p xs := by
  rcases h with (h | ⟨o, h⟩) | h
  · exact .inl (.inl (e.keep _ _ pb h))
  · exact .inl (.inr ⟨o, e.keep _ _ pb h⟩)
  · exact .inr h
theorem sql_but {b p : Addr} {H H' : Hp} {xs : List V} (e : But b H H') (pb : p ≠ b) (h : SqL K H p xs) : SqL K H' p xs := by
  rcases h with (h | ⟨o, h⟩) | h
  · exact .inl (.inl (e.keep _ _ pb h))
  · exact .inl (.inr ⟨o, e.keep _ _ pb h⟩)
  · exact .inr h
theorem Od.but {b : Addr} {H H' : Hp} {x : V} {d : PyData} {o : Option Int} (e : But b H H') (h : Od K b H x d o) : Od K b H' x d o := by
  cases h with
  | int i l => exact .int i l
  | bl c => exact .bl c
  | non => exact .non
  | str t => exact .str t
  | tup pb h => exact .tup pb (sqt_but e pb h)
  | lst pb h => exact .lst pb (sql_but e pb h)
structure Shows (d : PyData) : Prop where
  sh : d.showable = true
  nd : d.hasDict = false
  dep : d.depth ≤ 60
  fit : d.shown.length ≤ sizeLine
theorem log_lt {i : Int} {k : Nat} (h : i.natAbs < 2 ^ k) (k0 : 0 < k) : i.natAbs.log2 < k := by
  by_cases z : i.natAbs = 0
  · rw [z]; exact k0
  · exact (Nat.log2_lt z).mpr h
theorem shown_int {i : Int} (h : i.natAbs < 2 ^ 100) : (PyData.shown (.int i)).length ≤ 32 := by
  have e := PySem.int_text_length_le10 (k := 31) (by decide) (Nat.lt_of_lt_of_le h (by decide))
  show (Str.ofString (toString i)).length ≤ 32
  rw [PySem.ofString_length]
  exact e
theorem Od.shows {b : Addr} {H : Hp} {x : V} {d : PyData} {o : Option Int} (h : Od K b H x d o) : Shows d := by
  cases h with
  | int i l =>
    have l2 := log_lt l (by decide)
    exact ⟨decide_eq_true (by omega), rfl, Nat.zero_le _, Nat.le_trans (shown_int l) (by decide)⟩
  | bl c => exact ⟨rfl, rfl, Nat.zero_le _, by cases c <;> decide +kernel⟩
  | non => exact ⟨rfl, rfl, Nat.zero_le _, by decide +kernel⟩
  | @str t h =>
    have q1 : PyData.leavesShort 13 (.str t) = true := by
      show (t.cps.toList.all fun c => decide (c < 16 ^ 8)) = true
      rw [List.all_eq_true]
      intro c m
      have := h.asc c m
      exact decide_eq_true (by omega)
    exact ⟨rfl, rfl, Nat.zero_le _, PyData.shown_fits (B := 13) (by decide) (by decide) q1 (Nat.le_trans h.len (by decide))⟩
  | tup pb h => exact ⟨by decide +kernel, rfl, by decide +kernel, by decide +kernel⟩
  | lst pb h => exact ⟨by decide +kernel, rfl, by decide +kernel, by decide +kernel⟩
theorem len2 {σ : L2.St} (h : σ.length = 2) : ∃ a b, σ = [a, b] := by
  match σ, h with
  | [a, b], _ => exact ⟨a, b, rfl⟩
theorem len4 {σ : L2.St} (h : σ.length = 4) : ∃ a b c d, σ = [a, b, c, d] := by
  match σ, h with
  | [a, b, c, d], _ => exact ⟨a, b, c, d, rfl⟩
theorem ok_made (T : Txt K mg) : Rp.GOk P w K mg base CX0 6 T.a_made T.d_made ["_law_offsets"] (sp_made K T.C) := by
  refine Rp.gok T.F_made sc_made (fun vs H Q E h => ?_) (fun cdv A outer s H vs Q E hg hr h => ?_)
  · obtain ⟨p, t, rfl, _⟩ := h
    rfl
  · obtain ⟨p, t, rfl, ⟨xs, hp, lo, few, k⟩ | ⟨pre, y, post, d, o, b, hp, lo, od, bd, k⟩⟩ := h
    · refine ⟨_, (pss_cons (ps_try_as (i := 1) (Wout := fun _ _ _ _ => False) rfl rfl sc_made.nd rfl rfl ⟨rfl, by decide, Or.inl T.lowO.gC⟩ takes0 (fun W pn xe tk _ => (pss_one (ps_expr (pe_make T.mk_init (ok_init T) (hr.mono (by decide)) (by rfl) T.gC T.b_init .nil (Po.passL 2 rfl tk) (pa_cons (pv 0) pa_nil))))) (fun a oe cls d pn hz hf => (pss_one (ps_ret (pe_tup (pa_cons (pe_callB (show CallR _ _ (Rp.rRepr K) from Rp.call_reprD hg hr.units) (by rfl) T.z_repr (by decide +kernel) (pa_cons (pe_byLowO T.lowO hz hf (pv 1)) pa_nil)) (pa_cons (pe_and (pe_callB (Xe.call_isD T.xc T.cl hz hf) (by rfl) T.z_isinstance (by decide +kernel) (pa_cons (pv 1) (pa_cons (pe_glob (v := V.ref T.Wc) rfl T.gW rfl) pa_nil))) (pe_one (pe_not (pe_callB (Xe.call_isD T.xc T.cl hz hf) (by rfl) T.z_isinstance (by decide +kernel) (pa_cons (pv 1) (pa_cons (pe_glob (v := V.ref T.Nc) rfl T.gN rfl) pa_nil)))))) pa_nil)))))))
      (pss_one (ps_ret pe_non))), ?_⟩
      refine ⟨_, rfl, fun x dx hx hdx ne => ?_⟩
      have m := made (C := T.C) hx hdx ne
      refine ⟨x, dx, p, t, rfl, upd_same, .inl ⟨xs, hp.keep m, lo, few, fun H' ns off so le sA => ⟨rfl, ?_⟩⟩⟩
      exact k _ (made_off hx hdx ne off)
    · refine ⟨_, (pss_cons (ps_try_as (i := 1) (Wout := fun _ _ _ _ => False) rfl rfl sc_made.nd rfl rfl ⟨rfl, by decide, Or.inl T.lowO.gC⟩ takes0 (fun W pn xe tk _ => (pss_one (ps_expr (pe_make T.mk_init (ok_init T) (hr.mono (by decide)) (by rfl) T.gC T.b_init .nil (Po.passL 2 rfl tk) (pa_cons (pv 0) pa_nil))))) (fun a oe cls d pn hz hf => (pss_one (ps_ret (pe_tup (pa_cons (pe_callB (show CallR _ _ (Rp.rRepr K) from Rp.call_reprD hg hr.units) (by rfl) T.z_repr (by decide +kernel) (pa_cons (pe_byLowO T.lowO hz hf (pv 1)) pa_nil)) (pa_cons (pe_and (pe_callB (Xe.call_isD T.xc T.cl hz hf) (by rfl) T.z_isinstance (by decide +kernel) (pa_cons (pv 1) (pa_cons (pe_glob (v := V.ref T.Wc) rfl T.gW rfl) pa_nil))) (pe_one (pe_not (pe_callB (Xe.call_isD T.xc T.cl hz hf) (by rfl) T.z_isinstance (by decide +kernel) (pa_cons (pv 1) (pa_cons (pe_glob (v := V.ref T.Nc) rfl T.gN rfl) pa_nil)))))) pa_nil)))))))
      (pss_one (ps_ret pe_non))), ?_⟩
      refine ⟨_, rfl, fun x dx hx hdx ne => ?_⟩
      have m := made (C := T.C) hx hdx ne
      refine ⟨x, dx, p, t, rfl, upd_same, .inr ⟨pre, y, post, o, hp.keep m, lo, od.thing.keep m, bd, fun H' dd s' he σ hσ => ⟨true, T.lowO.te, fun _ a0 ha0 => ?_, fun q => Bool.noConfusion q⟩⟩⟩
      obtain ⟨v0, v1, rfl⟩ := len2 hσ
      have S := od.shows
      have ms := m.trans s'
      refine ⟨_, rfl, rfl, rfl, dd, y, rfl, he, y, d, rfl, (od.keep ms).dp, S.sh, S.nd, S.dep, S.fit, ?_⟩
      refine ⟨_, rfl, .ref T.Wc, _, true, dd, _, rfl, rfl, rfl, he, (fun u r => r), T.kW, true, rfl, iteT ?_⟩
      refine ⟨_, rfl, .ref T.Nc, _, false, dd, _, rfl, rfl, rfl, he, (fun u r => r), T.kN, false, rfl, ?_⟩
      refine ⟨by show 2 ≤ sizeLine; decide, fun r hr => ?_⟩
      exact k _ r (ms.trans (same_new hr)) upd_same
theorem ok_moved (T : Txt K mg) : Rp.GOk P w K mg base CX0 7 T.a_moved T.d_moved ["_law_strokes", "_law_shift"] (sp_moved K T.C) := by
  refine Rp.gok T.F_moved sc_moved (fun vs H Q E h => ?_) (fun cdv A outer s H vs Q E hg hr h => ?_)
  · obtain ⟨p, ns, y, d, o, b, rfl, _⟩ := h
    rfl
  · obtain ⟨p, ns, y, d, o, b, rfl, sA, O, od, k⟩ := h
    obtain ⟨dx, fs, q, hp, l1, l2, hq⟩ := id sA
    obtain ⟨n, mn, ty⟩ := thing_ty od.thing
    rcases k with ⟨i, rfl, h0, k⟩ | ⟨bd, k⟩
    · refine ⟨_, (pss_cons (ps_try_as (i := 3) (Wout := fun _ _ _ _ => False) rfl rfl sc_moved.nd rfl rfl ⟨rfl, by decide, Or.inl T.lowO.gC⟩ takes0 (fun W pn xe tk _ => (pss_one (ps_set (i := 2) sc_moved.nd rfl (Or.inl rfl) (pe_op (show OpR _ _ (Po.rBinT K .RShift T.C (fun vs H Q E => sp_rshift K T.C T.CO (vs ++ []) H Q E) (fun cls d H => ∀ σ : L2.St, σ.length = 4 → W cls d σ H)) from Po.op_binI T.lt T.h_rshift T.i_rshift ((ok_rshift T).raw T.b_rshift .nil) (hr.mono (by decide)) (Po.passL 4 rfl tk)) (pv 0) (pv 1))))) (fun a oe cls d pn hz hf => (pss_one (ps_ret (pe_callB (show CallR _ _ (Rp.rRepr K) from Rp.call_reprD hg hr.units) (by rfl) T.z_repr (by decide +kernel) (pa_cons (pe_byLowO T.lowO hz hf (pv 3)) pa_nil))))))
      (pss_one (ps_ret (pe_fld (pv 2) rfl)))), ?_⟩
      refine ⟨_, rfl, _, rfl, p, dx, fs, n, rfl, hp, ty, T.rT n mn, p, ns, y, _, rfl, sA, O, od.thing, .inl ⟨i, rfl, h0, fun H' r s fr sR => ?_⟩⟩
      obtain ⟨dx2, fs2, q2, hr, m1, m2, hq2⟩ := sR
      exact ⟨_, rfl, r, T.C, dx2, fs2, _, rfl, hr, T.clC, T.nO, m1, k _ _ s hq2⟩
    · refine ⟨_, (pss_cons (ps_try_as (i := 3) (Wout := fun _ _ _ _ => False) rfl rfl sc_moved.nd rfl rfl ⟨rfl, by decide, Or.inl T.lowO.gC⟩ takes0 (fun W pn xe tk _ => (pss_one (ps_set (i := 2) sc_moved.nd rfl (Or.inl rfl) (pe_op (show OpR _ _ (Po.rBinT K .RShift T.C (fun vs H Q E => sp_rshift K T.C T.CO (vs ++ []) H Q E) (fun cls d H => ∀ σ : L2.St, σ.length = 4 → W cls d σ H)) from Po.op_binI T.lt T.h_rshift T.i_rshift ((ok_rshift T).raw T.b_rshift .nil) (hr.mono (by decide)) (Po.passL 4 rfl tk)) (pv 0) (pv 1))))) (fun a oe cls d pn hz hf => (pss_one (ps_ret (pe_callB (show CallR _ _ (Rp.rRepr K) from Rp.call_reprD hg hr.units) (by rfl) T.z_repr (by decide +kernel) (pa_cons (pe_byLowO T.lowO hz hf (pv 3)) pa_nil))))))
      (pss_one (ps_ret (pe_fld (pv 2) rfl)))), ?_⟩
      refine ⟨_, rfl, _, rfl, p, dx, fs, n, rfl, hp, ty, T.rT n mn, p, ns, y, _, rfl, sA, O, od.thing, .inr ⟨bd, fun H' dd s' he σ hσ => ⟨true, T.lowO.te, fun _ a0 ha0 => ?_, fun q => Bool.noConfusion q⟩⟩⟩
      obtain ⟨v0, v1, v2, v3, rfl⟩ := len4 hσ
      have S := od.shows
      exact ⟨_, rfl, rfl, rfl, dd, y, rfl, he, y, d, rfl, (od.keep s').dp, S.sh, S.nd, S.dep, S.fit, k _ s'⟩
end
end K04

namespace K04
open PySem L2 Wm TL Dv
section
variable {P : Program} {w : World} {K : PySem.W.Frag} {mg : Str → Option Value} {base : Heap}
theorem Off.of {xs ns : List Int} {k : Nat} (h : IsSort xs ns) (lo : ∀ n ∈ xs, 0 ≤ n) (l : ns.length ≤ xs.length) (few : xs.length < 32) : Off ns := ⟨h.1, fun n mn => lo n ((h.2 n).mp mn), by omega⟩
theorem StrAt.but {C : Addr} {H H' : Hp} {p b : Addr} {n : Nat} {ns : List Int} (bag : Bag H b n) (e : But b H H') (q : StrAt K C H p ns) : StrAt K C H' p ns := by
  obtain ⟨dx, fs, t, hp, l1, l2, ht⟩ := q
  have pb : p ≠ b := fun z => by
    obtain ⟨_, _, _, _, _, _, hb, _⟩ := bag
    rw [z, hb] at hp
    cases hp
  exact ⟨dx, fs, t, e.keep _ _ pb hp, l1, l2, Lm.kt_but bag e _ _ ht⟩
theorem str_ty {C : Addr} (cl : Cls K C) (isi : SlX.SIsi K C) {H : Hp} {p dx : Addr} {fs : List (Str × V)} (hp : H p = some (.ins C dx fs)) : TyX K H (.ref p) (.ref C) := .base (.ins hp cl isi.ca isi.cn isi.ct isi.cm)
theorem StrAt.ex {C : Addr} {H : Hp} {p : Addr} {ns : List Int} (h : StrAt K C H p ns) : ∃ dx fs, H p = some (.ins C dx fs) ∧ ∀ m : Str, m ≠ "offsets" → fs.lookup m = none := let ⟨dx, fs, _, a, _, c, _⟩ := h; ⟨dx, fs, a, c⟩
/-- list(strokes) -/
theorem lst_it {C : Addr} {H : Hp} {p : Addr} {ns : List Int} {Q : VK} (sA : StrAt K C H p ns) (few : ns.length < 64) (k : ∀ u, H u = none → Q (.ref u) (upd H u (.lst (ns.map V.int)))) :
    rLi K C [.ref p] H Q := by
  unfold rLi
  obtain ⟨dx, fs, t, hp, l1, l2, ht⟩ := id sA
  refine ⟨p, dx, fs, rfl, hp, fun u2 hu2 => ?_⟩
  have s2 := same_new (o := .lst []) hu2
  refine ⟨p, t, ns, dx, fs, rfl, s2 _ _ hp, l1, sameT s2 ht, fun it hit young => ?_⟩
  have s3 := s2.trans (same_new (o := Li.TiO t it) hit)
  refine ⟨it, t, _, rfl, upd_same, young u2 _ upd_same, sameT s3 ht, by rw [List.length_map]; omega, same_new hit _ _ upd_same, s3 _ _ hp, ?_⟩
  refine ⟨p, ns, rfl, sA.keep s3, few, _, rfl, by omega, by omega, rfl, ?_⟩
  rw [ItX.dropH_upd hit, upd_upd]
  exact k u2 hu2
/-- two lists alike -/
theorem ne_l {H : Hp} {p q : Addr} {ns : List Int} {Q : VK} (hp : SqL K H p (ns.map V.int)) (hq : SqL K H q (ns.map V.int)) (k : Q (.bl false) H) : rNeD K (.ref p) (.ref q) H Q := by
  refine ⟨.list (ns.map PyData.int), .list (ns.map PyData.int), .lst hp (dp_ints ns), .lst hq (dp_ints ns), shl ns, shl ns, ?_⟩
  rw [eqv_lst, decide_eq_true rfl]
  exact k
theorem ne_t {H : Hp} {p q : Addr} {ns : List Int} {Q : VK} (hp : SqT K H p (ns.map V.int)) (hq : SqT K H q (ns.map V.int)) (k : Q (.bl false) H) : rNeD K (.ref p) (.ref q) H Q := by
  refine ⟨offD ns, offD ns, .tup hp (dp_ints ns), .tup hq (dp_ints ns), (fine_off ns).shaped (by decide), (fine_off ns).shaped (by decide), ?_⟩
  rw [eqv_off, decide_eq_true rfl]
  exact k
theorem ne_s {C : Addr} {H : Hp} {p q : Addr} {ns : List Int} {Q : VK} (hp : StrAt K C H p ns) (hq : StrAt K C H q ns) (few : ns.length < 64) (k : Q (.bl false) H) : On.rNe C (fun vs H Q E => sp_eq K C (vs ++ []) H Q E) E0 (.ref p) (.ref q) H Q := by
  obtain ⟨y1, f1, i1, _⟩ := hp.ex
  obtain ⟨y2, f2, i2, _⟩ := hq.ex
  refine ⟨p, y1, f1, q, y2, f2, rfl, rfl, i1, i2, p, ns, q, ns, rfl, hp, few, hq, few, _, rfl, ?_⟩
  rw [decide_eq_true rfl]
  exact k
/-- strokes >> a whole number -/
theorem shr {C CO : Addr} {E : XK} {H : Hp} {p : Addr} {ns : List Int} {i : Int} {Q : VK} (rT : Po.RT K .RShift C "int") (hp : StrAt K C H p ns) (O : Off ns) (h0 : 0 ≤ i) (k : ∀ H' r, Same H H' → StrAt K C H' r (ns.map (· + i)) → Q (.ref r) H') :
    Po.rBinT K .RShift C (fun vs H Q E => sp_rshift K C CO (vs ++ []) H Q E) E (.ref p) (.int i) H Q := by
  obtain ⟨y1, f1, i1, _⟩ := hp.ex
  exact ⟨p, y1, f1, "int", rfl, i1, .base (.int _), rT, p, ns, _, some i, rfl, hp, O, .int i, .inl ⟨i, rfl, h0, fun H' r s _ sR => k H' r s sR⟩⟩
theorem bin {C : Addr} {f : Bool → Bool → Bool} {H : Hp} {p q : Addr} {ns ms : List Int} {Q : VK} (hp : StrAt K C H p ns) (O : Off ns) (hq : StrAt K C H q ms) (O2 : Off ms)
    (k : ∀ H' r ls, Same H H' → StrAt K C H' r ls → ls.Pairwise (· < ·) → (∀ k, k ∈ ls ↔ f (decide (k ∈ ns)) (decide (k ∈ ms)) = true) → Q (.ref r) H') : Ow.rBin C (fun vs H Q E => spBin K C f (vs ++ []) H Q E) E0 (.ref p) (.ref q) H Q := by
  obtain ⟨y1, f1, i1, _⟩ := hp.ex
  obtain ⟨y2, f2, i2, _⟩ := hq.ex
  exact ⟨p, y1, f1, q, y2, f2, rfl, rfl, i1, i2, p, q, ns, ms, rfl, hp, O, hq, O2, fun H' r ls s _ sR u m => k H' r ls s sR u m⟩
/-- what the law holds -/
structure Stt (K : PySem.W.Frag) (C b q d p : Addr) (xs ns : List Int) (H : Hp) : Prop where
  e : H q = some (.lst (xs.map V.int))
  g : H d = some (.lst (ns.map V.int))
  qb : q ≠ b
  db : d ≠ b
  o : StrAt K C H p ns
theorem Stt.but {C b q d p : Addr} {xs ns : List Int} {H H' : Hp} {n : Nat} (bag : Bag H b n) (e : But b H H') (s : Stt K C b q d p xs ns H) : Stt K C b q d p xs ns H' :=
  ⟨e.keep _ _ s.qb s.e, e.keep _ _ s.db s.g, s.qb, s.db, s.o.but bag e⟩
theorem Stt.keep {C b q d p : Addr} {xs ns : List Int} {H H' : Hp} (e : Same H H') (s : Stt K C b q d p xs ns H) : Stt K C b q d p xs ns H' :=
  ⟨e _ _ s.e, e _ _ s.g, s.qb, s.db, s.o.keep e⟩
theorem walk_rngL {lo : Int} {n : Nat} : Walk (Itr lo n) n (fun _ => True) (YAt ((List.range n).map fun (i : Nat) => V.int (lo + (i : Int)))) :=
  walk_range.mono (fun _ h => h) fun i H x H' hi _ y => ⟨y.1, by rw [List.getElem?_map, List.getElem?_range hi, y.2]; rfl⟩
theorem nn_of : ∀ {ys : List V}, (∀ (i : Nat) y, ys[i]? = some y → ∃ n : Int, 0 ≤ n ∧ y = .int n) → ∃ zs : List Int, ys = zs.map V.int ∧ ∀ n ∈ zs, 0 ≤ n
  | [], _ => ⟨[], rfl, fun n h => by cases h⟩
  | y :: ys, h => by
    obtain ⟨n, h0, rfl⟩ := h 0 y rfl
    obtain ⟨zs, rfl, hz⟩ := nn_of (ys := ys) fun i z hz => h (i + 1) z (by simpa using hz)
    exact ⟨n :: zs, rfl, fun m hm => by
      rcases List.mem_cons.mp hm with rfl | hm
      · exact h0
      · exact hz m hm⟩
theorem cut_take (ns : List Int) {k : Nat} : cutV (ns.map V.int) none (some (k : Int)) = (ns.take k).map V.int := by
  unfold cutV
  rw [HT.sIx_none, HT.sIx_nat, List.drop_zero, List.map_take, Nat.sub_zero, List.take_eq_take_iff]
  omega
theorem cut_drop (ns : List Int) {k : Nat} (h : k ≤ ns.length) : cutV (ns.map V.int) (some (k : Int)) none = (ns.drop k).map V.int := by
  unfold cutV
  rw [HT.sIx_none, HT.sIx_nat, List.map_drop, List.length_map, Nat.min_eq_left h, List.take_of_length_le]
  rw [List.length_drop, List.length_map]
  exact Nat.le_refl _
theorem map_map_add (ns : List Int) (i j : Int) : (ns.map (· + i)).map (· + j) = ns.map (· + (i + j)) := by
  rw [List.map_map]
  exact List.map_congr_left fun k _ => by show k + i + j = k + (i + j); omega
theorem map_zero (ns : List Int) : ns.map (· + 0) = ns := by
  have : (fun k : Int => k + 0) = id := funext fun k => by simp
  rw [this, List.map_id]
theorem Off.shift {ns : List Int} (O : Off ns) {i : Int} (h : 0 ≤ i) : Off (ns.map (· + i)) := ⟨shift_up O.up i, fun n m => by
  obtain ⟨z, mz, rfl⟩ := List.mem_map.mp m
  have := O.lo z mz
  show 0 ≤ z + i
  omega, by rw [List.length_map]; exact O.few⟩
theorem Off.few64 {ns : List Int} (O : Off ns) : ns.length < 64 := by have := O.few; omega
theorem Off.filter {ns : List Int} (O : Off ns) (f : Int → Bool) : Off (ns.filter f) := ⟨O.up.filter _, fun n m => O.lo n (List.mem_filter.mp m).1, by have := List.length_filter_le f ns; have := O.few; omega⟩
def LimV (d : Int) : Int := if d = 0 then 60 else 10 ^ 29
theorem ok_law (T : Txt K mg) : Rp.GOk P w K mg base CX0 10 T.a_law T.d_law ["_law_script"] (sp_law K T.C) := by
  refine Rp.gok T.F_law sc_law (fun vs H Q E h => ?_) (fun cdv A outer s H vs Q E hg hr h => ?_)
  · obtain ⟨a, ns, rfl, _⟩ := h
    rfl
  · obtain ⟨a, zs, rfl, hS, hl, k⟩ := h
    refine ⟨_, (pss_cons (ps_set (i := 1) sc_law.nd rfl (Or.inr rfl) (pe_call (ok_bag T) (hr.mono (by decide)) (by rfl) T.g_bag T.F_bag.kp T.b_bag .nil pass0 (pa_cons (pv 0) pa_nil)))
      (pss_cons (ps_setLc (i := 2) (own := [("_law_k", 3)]) (g := gName 3) (tt := tYes) rfl sc_law.nd rfl rfl (sw_true rfl rfl rfl (by decide +kernel)) (pi_range1 (by rfl) T.z_range (pa_cons (pe_call (ok_draw T) (hr.mono (by decide)) (by rfl) T.g_draw T.F_draw.kp T.b_draw .nil pass0 (pa_cons (pv 1) (pa_cons pe_int pa_nil))) pa_nil)) (blkOk_by (own := [("_law_k", 3)]) (N := nm_law) (sc := (defScope s_law)) (by decide +kernel)) (fun _ _ _ _ _ => pg_name (i := 3) sc_law.nd rfl (Or.inl rfl)) (fun _ _ _ _ _ => pts_nil) (fun _ _ _ _ _ => (pe_call (ok_offset T) (hr.mono (by decide)) (by rfl) T.g_offset T.F_offset.kp T.b_offset .nil pass0 (pa_cons (pv 1) pa_nil))))
      (pss_cons (ps_set (i := 4) sc_law.nd rfl (Or.inl rfl) (pe_callB (cr_sortedSet (by rfl)) (by rfl) T.z_sorted (by decide +kernel) (pa_cons (pe_callTy (Si.call_set (by rfl)) (by rfl) T.z_set (by decide +kernel) (pa_cons (pv 2) pa_nil)) pa_nil)))
      (pss_cons (ps_set (i := 5) sc_law.nd rfl (Or.inl rfl) (pe_make T.mk_init (ok_init T) (hr.mono (by decide)) (by rfl) T.gC T.b_init .nil Mk1.passF (pa_cons (pv 2) pa_nil)))
      (pss_cons (ps_set (i := 6) sc_law.nd rfl (Or.inr rfl) (pe_call (ok_draw T) (hr.mono (by decide)) (by rfl) T.g_draw T.F_draw.kp T.b_draw .nil pass0 (pa_cons (pv 1) (pa_cons (pe_ix ix_list (pe_lst (pa_cons pe_int (pa_cons (pe_op op_pow pe_int pe_int) pa_nil))) (pe_call (ok_draw T) (hr.mono (by decide)) (by rfl) T.g_draw T.F_draw.kp T.b_draw .nil pass0 (pa_cons (pv 1) (pa_cons pe_int pa_nil))) (fun _ _ => rfl)) pa_nil))))
      (pss_cons (ps_set (i := 7) sc_law.nd rfl (Or.inl rfl) (pe_call (ok_draw T) (hr.mono (by decide)) (by rfl) T.g_draw T.F_draw.kp T.b_draw .nil pass0 (pa_cons (pv 1) (pa_cons pe_int pa_nil))))
      (pss_cons (ps_set (i := 8) sc_law.nd rfl (Or.inl rfl) (pe_op (Po.op_binI T.lt T.h_rshift T.i_rshift ((ok_rshift T).raw T.b_rshift .nil) (hr.mono (by decide)) Mk1.passF) (pv 5) (pv 6)))
      (pss_cons (ps_if (PW.pt (pw_or (pt_cmpR (op_neD hr.units) (pe_callTy (rLi_of (Li.call_listIt (EI := E0) (EL := E0) T.aIt T.iIt T.aLen T.iLen ((ok_iter T).raw T.b_iter .nil) ((ok_len T).raw T.b_len .nil) (by rfl) (hr.mono (by decide)))) (by rfl) T.z_list (by decide +kernel) (pa_cons (pv 8) pa_nil)) (pe_lc (own := [("_law_offset_here", 9)]) (g := gName 9) (tt := tYes) rfl sc_law.nd (pi_list (pv 4)) (blkOk_by (own := [("_law_offset_here", 9)]) (N := nm_law) (sc := (defScope s_law)) (by decide +kernel)) (fun _ _ _ _ _ => pg_name (i := 9) sc_law.nd rfl (Or.inl rfl)) (fun _ _ _ _ _ => pts_nil) (fun _ _ _ _ _ => (pe_op op_add (pv 9) (pv 6)))) (nomark _)) (pw_or1 (pt_cmpR (op_neD hr.units) (pe_callTy (rLi_of (Li.call_listIt (EI := E0) (EL := E0) T.aIt T.iIt T.aLen T.iLen ((ok_iter T).raw T.b_iter .nil) ((ok_len T).raw T.b_len .nil) (by rfl) (hr.mono (by decide)))) (by rfl) T.z_list (by decide +kernel) (pa_cons (pv 5) pa_nil)) (pv 4) (nomark _)))))
        (pss_one (ps_ret pe_bl))
        pss_nil)
      (pss_cons (ps_if (PW.pt (pw_or (pt_cmpR (On.op_ne T.ne ((ok_eq T).raw T.b_eq .nil) (hr.mono (by decide)) hr.units pass0) (pe_op (Po.op_binI T.lt T.h_rshift T.i_rshift ((ok_rshift T).raw T.b_rshift .nil) (hr.mono (by decide)) Mk1.passF) (pv 8) (pv 7)) (pe_op (Po.op_binI T.lt T.h_rshift T.i_rshift ((ok_rshift T).raw T.b_rshift .nil) (hr.mono (by decide)) Mk1.passF) (pv 5) (pe_op op_add (pv 6) (pv 7))) (nomark _)) (pw_or1 (pt_cmpR (On.op_ne T.ne ((ok_eq T).raw T.b_eq .nil) (hr.mono (by decide)) hr.units pass0) (pe_op (Po.op_binI T.lt T.h_rshift T.i_rshift ((ok_rshift T).raw T.b_rshift .nil) (hr.mono (by decide)) Mk1.passF) (pv 5) pe_int) (pv 5) (nomark _)))))
        (pss_one (ps_ret pe_bl))
        pss_nil)
      (pss_cons (ps_set (i := 10) sc_law.nd rfl (Or.inl rfl) (pe_call (ok_odd T) (hr.mono (by decide)) (by rfl) T.g_odd T.F_odd.kp T.b_odd .nil pass0 (pa_cons (pv 1) pa_nil)))
      (pss_cons (ps_if (PW.pt (pw_or (pt_cmpR op_ne (Rp.pe_gcall (ok_moved T) hg (hr.mono (by decide)) rfl T.g_moved T.F_moved.kp T.b_moved .nil pass0 (pa_cons (pv 5) (pa_cons (pv 10) pa_nil))) (pe_callB (show CallR _ _ (Rp.rRepr K) from Rp.call_reprD hg hr.units) (by rfl) T.z_repr (by decide +kernel) (pa_cons (pv 10) pa_nil)) (nomark _)) (pw_or1 (pt_cmpR (op_neD hr.units) (Rp.pe_gcall (ok_moved T) hg (hr.mono (by decide)) rfl T.g_moved T.F_moved.kp T.b_moved .nil pass0 (pa_cons (pv 5) (pa_cons pe_int pa_nil))) (pe_callTy call_tuple_of (by rfl) T.z_tuple (by decide +kernel) (pa_cons (pe_lc (own := [("_law_offset_here", 9)]) (g := gName 9) (tt := tYes) rfl sc_law.nd (pi_list (pv 4)) (blkOk_by (own := [("_law_offset_here", 9)]) (N := nm_law) (sc := (defScope s_law)) (by decide +kernel)) (fun _ _ _ _ _ => pg_name (i := 9) sc_law.nd rfl (Or.inl rfl)) (fun _ _ _ _ _ => pts_nil) (fun _ _ _ _ _ => (pe_op op_add (pv 9) pe_int))) pa_nil)) (nomark _)))))
        (pss_one (ps_ret pe_bl))
        pss_nil)
      (pss_cons (ps_for PassesOwn.never rfl (pi_range1 (by rfl) T.z_range (pa_cons pe_int pa_nil)) (pg_name (i := 3) sc_law.nd rfl (Or.inl rfl))
        (pss_cons (ps_set (i := 11) sc_law.nd rfl (Or.inr rfl) (pe_call (ok_end T) (hr.mono (by decide)) (by rfl) T.g_end T.F_end.kp T.b_end .nil pass0 (pa_cons (pv 1) (pa_cons (pv 4) pa_nil))))
        (pss_cons (ps_set (i := 12) sc_law.nd rfl (Or.inl rfl) (pe_meth (pv 5) T.clC T.m_cut (ok_cut T) (hr.mono (by decide)) T.b_cut .nil pass0 (pa_cons (pv 11) pa_nil)))
        (pss_cons (ps_if (PW.pt (pw_or (pt_not (pt_val (pe_callB call_isi (by rfl) T.z_isinstance (by decide +kernel) (pa_cons (pv 12) (pa_cons (pe_glob (v := V.ref T.C) rfl T.gC rfl) pa_nil))))) (pw_or1 (pt_cmpR (op_neD hr.units) (pe_callTy (rLi_of (Li.call_listIt (EI := E0) (EL := E0) T.aIt T.iIt T.aLen T.iLen ((ok_iter T).raw T.b_iter .nil) ((ok_len T).raw T.b_len .nil) (by rfl) (hr.mono (by decide)))) (by rfl) T.z_list (by decide +kernel) (pa_cons (pv 12) pa_nil)) (pe_lc (own := [("_law_offset_here", 9)]) (g := gName 9) rfl sc_law.nd (pi_list (pv 4)) (blkOk_by (own := [("_law_offset_here", 9)]) (N := nm_law) (sc := (defScope s_law)) (by decide +kernel)) (fun _ _ _ _ _ => pg_name (i := 9) sc_law.nd rfl (Or.inl rfl)) (fun _ _ _ _ _ => (pts_one (pt_cmpR op_lt (pv 9) (pv 11) (nomark _)))) (fun _ _ _ _ _ => (pv 9))) (nomark _)))))
          (pss_one (ps_ret pe_bl))
          pss_nil)
        (pss_one (ps_if (PW.pt (pw_or (pt_cmpR (On.op_ne T.ne ((ok_eq T).raw T.b_eq .nil) (hr.mono (by decide)) hr.units pass0) (pe_meth (pe_op (Ow.op_bin T.sf T.h_sub T.i_sub ((ok_sub T).raw T.b_sub .nil) (hr.mono (by decide)) pass0) (pv 5) (pv 12)) T.clC T.m_cut (ok_cut T) (hr.mono (by decide)) T.b_cut .nil pass0 (pa_cons (pv 11) pa_nil)) (pe_make0 T.mk_init (ok_init T) (hr.mono (by decide)) (by rfl) T.gC T.b0_init T.r_init Mk1.passF) (nomark _)) (pw_or1 (pt_cmpR (On.op_ne T.ne ((ok_eq T).raw T.b_eq .nil) (hr.mono (by decide)) hr.units pass0) (pe_op (Ow.op_bin T.sf T.h_or T.i_or ((ok_or T).raw T.b_or .nil) (hr.mono (by decide)) pass0) (pv 12) (pe_op (Ow.op_bin T.sf T.h_sub T.i_sub ((ok_sub T).raw T.b_sub .nil) (hr.mono (by decide)) pass0) (pv 5) (pv 12))) (pv 5) (nomark _)))))
          (pss_one (ps_ret pe_bl))
          pss_nil))))))
      (pss_cons (ps_if (pt_cmpR op_notN (Rp.pe_gcall (ok_made T) hg (hr.mono (by decide)) rfl T.g_made T.F_made.kp T.b_made .nil pass0 (pa_cons (pv 2) pa_nil)) pe_non (nomark _))
        (pss_one (ps_ret pe_bl))
        pss_nil)
      (pss_cons (ps_set (i := 13) sc_law.nd rfl (Or.inl rfl) (pe_call (ok_draw T) (hr.mono (by decide)) (by rfl) T.g_draw T.F_draw.kp T.b_draw .nil pass0 (pa_cons (pv 1) (pa_cons (pe_op op_add (pe_callB call_len_seq (by rfl) T.z_len PySem.boot_len (pa_cons (pv 2) pa_nil)) pe_int) pa_nil))))
      (pss_cons (ps_set (i := 14) sc_law.nd rfl (Or.inl rfl) (pe_op op_cat (pe_op op_cat (pe_slice sl_list (pv 2) po_none (po_some (pv 13))) (pe_lst (pa_cons (pv 10) pa_nil))) (pe_slice sl_list (pv 2) (po_some (pv 13)) po_none)))
      (C8.pss_cut (ps_if (pt_cmpR op_eq (pe_call (ok_draw T) (hr.mono (by decide)) (by rfl) T.g_draw T.F_draw.kp T.b_draw .nil pass0 (pa_cons (pv 1) (pa_cons pe_int pa_nil))) pe_int (nomark _))
        (pss_one (ps_set (i := 14) sc_law.nd rfl (Or.inl rfl) (pe_op op_cat (pv 14) (pe_lst (pa_cons (pe_call (ok_odd T) (hr.mono (by decide)) (by rfl) T.g_odd T.F_odd.kp T.b_odd .nil pass0 (pa_cons (pv 1) pa_nil)) (pa_cons pe_int pa_nil))))))
        pss_nil)
      (pss_cons (ps_if (PW.pt (pw_or (pt_cmpR (Xe.op_ne4 hr.units) (Rp.pe_gcall (ok_made T) hg (hr.mono (by decide)) rfl T.g_made T.F_made.kp T.b_made .nil pass0 (pa_cons (pv 14) pa_nil)) (pe_tup (pa_cons (pe_callB (show CallR _ _ (Rp.rRepr K) from Rp.call_reprD hg hr.units) (by rfl) T.z_repr (by decide +kernel) (pa_cons (pv 10) pa_nil)) (pa_cons pe_bl pa_nil))) (nomark _)) (pw_or1 (pt_cmpR (Xe.op_ne4 hr.units) (Rp.pe_gcall (ok_made T) hg (hr.mono (by decide)) rfl T.g_made T.F_made.kp T.b_made .nil pass0 (pa_cons (pe_callTy call_tuple_of (by rfl) T.z_tuple (by decide +kernel) (pa_cons (pv 14) pa_nil)) pa_nil)) (pe_tup (pa_cons (pe_callB (show CallR _ _ (Rp.rRepr K) from Rp.call_reprD hg hr.units) (by rfl) T.z_repr (by decide +kernel) (pa_cons (pv 10) pa_nil)) (pa_cons pe_bl pa_nil))) (nomark _)))))
        (pss_one (ps_ret pe_bl))
        pss_nil)
      (pss_one (ps_ret (pe_and (pe_cmpR (op_eqD hr.units) (pe_fld (pv 5) rfl) (pe_callTy call_tuple_of (by rfl) T.z_tuple (by decide +kernel) (pa_cons (pv 4) pa_nil)) (nomark _)) (pe_one (pe_cmpR (op_eqD hr.units) (pe_callTy (rLi_of (Li.call_listIt (EI := E0) (EL := E0) T.aIt T.iIt T.aLen T.iLen ((ok_iter T).raw T.b_iter .nil) ((ok_len T).raw T.b_len .nil) (by rfl) (hr.mono (by decide)))) (by rfl) T.z_list (by decide +kernel) (pa_cons (pv 5) pa_nil)) (pv 4) (nomark _))))))))))))))))))))))), ?_⟩
    refine ⟨_, rfl, a, zs, rfl, hS, hl, fun H1 b s1 bag1 => ?_⟩
    refine ⟨_, rfl, b, 0, 13, rfl, by decide, by decide, bag1, by omega, fun H2 d1 h10 h11 bag2 but2 => ?_⟩
    refine ⟨_, rfl, by omega, by omega, fun q f1 => ?_⟩
    have z1 : d1.toNat ≤ 12 := by omega
    refine Lm.lc_bag (K := K) (c := 2) (walk_rngL (lo := 0) (n := d1.toNat)) (fun _ y _ => ∃ m : Int, 0 ≤ m ∧ y = .int m) (fun _ _ _ _ h _ => h) f1 bag2 (by omega) (fun _ _ => trivial)
      (fun i y A hi hy bA gA Q2 Z q2 => ?_) (fun H3 ys b3 bag3 hy ly hR => ?_)
    · refine ⟨rfl, yesT ⟨_, rfl, b, _, rfl, gA, by omega, fun H4 m h0 bag4 but4 => ?_⟩⟩
      exact q2 _ _ but4 (bag4.mono (by omega)) ⟨m, h0, rfl⟩
    obtain ⟨xs, rfl, hx0⟩ := nn_of hR
    rw [List.length_map] at ly
    have lx : xs.length ≤ 12 := by omega
    have qb := Lm.bag_off bag2 f1
    have bag3 : Bag H3 b 40 := bag3.mono (by omega)
    refine ⟨_, rfl, q, xs, rfl, .inl (SqL.of hy), by omega, fun S c hc hS => ?_⟩
    have s4 := same_new (o := SetO w S (fun y => decide (y ∈ xs)) c) hS
    refine ⟨S, _, c, rfl, upd_same, by omega, fun ns d up mem len hd => ?_⟩
    have s5 := s4.trans (same_new (o := .lst (ns.map V.int)) hd)
    have db := Lm.bag_off (bag3.keep s4) hd
    have hd5 : upd (upd H3 S (SetO w S (fun y => decide (y ∈ xs)) c)) d (.lst (ns.map V.int)) d = some (.lst (ns.map V.int)) := upd_same
    have hy5 := s5 _ _ hy
    have bag5 := bag3.keep s5
    have so : IsSort xs ns := ⟨up, fun j => (mem j).trans decide_eq_true_iff⟩
    have O : Off ns := ⟨up, fun n mn => hx0 n ((so.2 n).mp mn), by omega⟩
    have few := O.few
    refine ⟨_, rfl, fun p x hp hx ne => ?_⟩
    have m1 := made (C := T.C) hp hx ne
    refine ⟨p, x, q, false, rfl, upd_same, .inl ⟨xs, Kd.Is.lst (SqL.of (m1 _ _ hy5)), hx0, by omega, fun H6 ns1 off1 so1 le1 o1 => ⟨rfl, ?_⟩⟩⟩
    have en := up_eq up so1.1 fun k => (so.2 k).trans (so1.2 k).symm
    subst en
    have s6 := made_off hp hx ne off1
    have st : Stt K T.C b q d p xs ns H6 := ⟨s6 _ _ hy5, s6 _ _ hd5, qb, db, o1⟩
    have bag6 := bag5.keep s6
    -- shift, again
    refine ⟨_, rfl, _, _, rfl, rfl, ⟨by decide, by decide, by decide⟩, by show 2 ≤ sizeLine; decide, fun u hu => ?_⟩
    have ub := Lm.bag_off bag6 hu
    refine ⟨_, rfl, b, _, 2, rfl, by decide, by decide, bag6.keep (same_new hu), by omega, fun H8 d2 h20 h21 bag8 but8 => ?_⟩
    have st := (st.keep (same_new hu)).but (bag6.keep (same_new hu)) but8
    have hv : atI [V.int 60, V.int (10 ^ 29)] d2 = some (.int (LimV d2)) ∧ 0 < LimV d2 ∧ LimV d2 < 2 ^ 100 := by
      have : d2 = 0 ∨ d2 = 1 := by omega
      rcases this with z | z <;> subst z
      · exact ⟨rfl, by decide, by decide⟩
      · exact ⟨rfl, by decide, by decide⟩
    refine ⟨u, _, d2, _, rfl, rfl, SqL.of (but8.keep _ _ ub upd_same), hv.1, b, _, LimV d2, rfl, hv.2.1, hv.2.2, bag8, by omega, fun H9 sh h30 h31 bag9 but9 => ?_⟩
    have st := st.but bag8 but9
    refine ⟨_, rfl, b, _, 60, rfl, by decide, by decide, bag9, by omega, fun H10 ag h40 h41 bag10 but10 => ?_⟩
    have st := st.but bag9 but10
    clear hv but8 but9 but10 s4 s5 s6 m1 off1 hy5 hd5
    refine ⟨_, rfl, _, rfl, shr (T.rT "int" (by simp)) st.o O h30 fun H11 pm s11 om => ?_⟩
    have st := st.keep s11
    have bag11 := bag10.keep s11
    have OM := O.shift h30
    -- list(moved), list(strokes)
    refine ⟨_, rfl, lst_it (K := K) om OM.few64 fun u1 hu1 => ?_⟩
    have s12 := same_new (o := .lst ((ns.map (· + sh)).map V.int)) hu1
    have st := st.keep s12
    have hu2 : upd H11 u1 (.lst ((ns.map (· + sh)).map V.int)) u1 = some (.lst ((ns.map (· + sh)).map V.int)) := upd_same
    have bag12 := bag11.keep s12
    have om := om.keep s12
    generalize upd H11 u1 (.lst ((ns.map (· + sh)).map V.int)) = H12 at *
    refine ⟨_, rfl, d, rfl, ⟨_, SqL.of st.g⟩, fun D hD => ?_⟩
    refine lc_list (xs := ns.map V.int) (fun j A => Same H12 A ∧ A D = some (.lst (((ns.map (· + sh)).take j).map V.int))) ⟨same_new hD, upd_same⟩ (fun j A _ hP => SqL.of (hP.1 _ _ st.g)) (fun j z A hz hP => ?_) (fun H13 hP => ?_)
    · obtain ⟨sm, hL⟩ := hP
      rw [List.getElem?_map] at hz
      obtain ⟨n, hn, rfl⟩ := Option.map_eq_some_iff.mp hz
      refine ⟨rfl, yesT ?_⟩
      refine ⟨_, rfl, _, rfl, _, _, rfl, rfl, _, hL, by rw [List.length_map, List.length_take, List.length_map]; exact small1000 (by omega), same_mut sm hD, ?_⟩
      rw [upd_same, tk_succ (show (ns.map (· + sh))[j]? = some (n + sh) by rw [List.getElem?_map, hn]; rfl), List.map_append]
      rfl
    obtain ⟨s13, hL⟩ := hP
    rw [List.length_map, List.take_of_length_le (by rw [List.length_map]; exact Nat.le_refl _)] at hL
    have st := st.keep s13
    have bag13 := bag12.keep s13
    have om := om.keep s13
    refine ne_l (SqL.of (s13 _ _ hu2)) (SqL.of hL) ⟨_, rfl, iteF ?_⟩
    clear hL hu2 s13 hD
    refine ⟨_, rfl, lst_it (K := K) st.o (by omega) fun u3 hu3 => ?_⟩
    have s14 := same_new (o := .lst (ns.map V.int)) hu3
    have st := st.keep s14
    have bag14 := bag13.keep s14
    have om := om.keep s14
    refine ⟨_, rfl, ne_l (SqL.of upd_same) (SqL.of st.g) ⟨_, rfl, iteF ?_⟩⟩
    generalize upd H13 u3 (.lst (ns.map V.int)) = H14 at *
    -- two shifts are one
    refine ⟨_, rfl, _, rfl, shr (T.rT "int" (by simp)) om OM h40 fun H15 p2 s15 o2 => ?_⟩
    have st := st.keep s15
    refine ⟨_, rfl, _, rfl, _, rfl, _, _, rfl, rfl, shr (T.rT "int" (by simp)) st.o O (show 0 ≤ sh + ag by omega) fun H16 p3 s16 o3 => ?_⟩
    have st := st.keep s16
    rw [map_map_add] at o2
    refine ne_s (o2.keep s16) o3 (by rw [List.length_map]; omega) ⟨_, rfl, iteF ?_⟩
    refine ⟨_, rfl, shr (T.rT "int" (by simp)) st.o O (Int.le_refl 0) fun H17 p4 s17 o4 => ?_⟩
    have st := st.keep s17
    rw [map_zero] at o4
    refine ⟨_, rfl, ne_s o4 st.o (by omega) ⟨_, rfl, iteF ?_⟩⟩
    have bag17 := bag14.keep ((s15.trans s16).trans s17)
    clear o2 o3 o4 om s14 s15 s16 s17
    -- odd
    refine ⟨_, rfl, b, _, rfl, bag17, by omega, fun H18 y dy oy od bd fr bag18 but18 => ?_⟩
    have st := st.but bag17 but18
    refine ⟨_, rfl, _, rfl, p, ns, y, dy, oy, b, rfl, st.o, O, od, .inr ⟨bd, fun H19 s19 => ?_⟩⟩
    have st := st.keep s19
    have od := od.keep s19
    have S := od.shows
    refine ⟨_, rfl, y, dy, rfl, od.dp, S.sh, S.nd, S.dep, S.fit, rfl, _, rfl, iteN (by simp) ?_⟩
    refine ⟨_, rfl, p, ns, .int 1, .int 1, some 1, b, rfl, st.o, O, .int 1 (by decide), .inl ⟨1, rfl, by decide, fun H20 r s20 hr => ?_⟩⟩
    have st := st.keep s20
    have od := od.keep s20
    have bag20 := bag18.keep (s19.trans s20)
    refine ⟨_, rfl, d, rfl, ⟨_, SqL.of st.g⟩, fun D hD => ?_⟩
    refine lc_list (xs := ns.map V.int) (fun j A => Same H20 A ∧ A D = some (.lst (((ns.map (· + 1)).take j).map V.int))) ⟨same_new hD, upd_same⟩ (fun j A _ hP => SqL.of (hP.1 _ _ st.g)) (fun j z A hz hP => ?_) (fun H21 hP => ?_)
    · obtain ⟨sm, hL⟩ := hP
      rw [List.getElem?_map] at hz
      obtain ⟨n, hn, rfl⟩ := Option.map_eq_some_iff.mp hz
      refine ⟨rfl, yesT ?_⟩
      refine ⟨_, rfl, _, _, rfl, rfl, _, hL, by rw [List.length_map, List.length_take, List.length_map]; exact small1000 (by omega), same_mut sm hD, ?_⟩
      rw [upd_same, tk_succ (show (ns.map (· + 1))[j]? = some (n + 1) by rw [List.getElem?_map, hn]; rfl), List.map_append]
      rfl
    obtain ⟨s21, hL⟩ := hP
    rw [List.length_map, List.take_of_length_le (by rw [List.length_map]; exact Nat.le_refl _)] at hL
    have st := st.keep s21
    have od := od.keep s21
    have bag21 := bag20.keep s21
    refine ⟨D, _, rfl, .inl ⟨SqL.of hL, fun tq htq => ?_⟩⟩
    have s22 := same_new (o := .tup ((ns.map (· + 1)).map V.int)) htq
    have st := st.keep s22
    have od := od.keep s22
    have bag22 := bag21.keep s22
    refine ne_t (sameT (s21.trans s22) hr) (SqT.of upd_same) ⟨_, rfl, iteF ?_⟩
    generalize upd H21 tq (.tup ((ns.map (· + 1)).map V.int)) = H22 at *
    clear hr hL hD s19 s20 s21 s22
    have bag22 : Bag H22 b 46 := bag22
    refine ⟨3, rfl, by decide, by decide, ?_⟩
    refine for_range (fun i σ H' => (∃ v3 v11 v12, σ = [some (.ref a), some (.ref b), some (.ref q), v3, some (.ref d), some (.ref p), some (.int sh), some (.int ag), some (.ref pm), none, some y, v11, v12, none, none]) ∧ Stt K T.C b q d p xs ns H' ∧ Od K b H' y dy oy ∧ Bag H' b (46 + 2 * i))
      ⟨⟨_, _, _, rfl⟩, st, od, bag22⟩ (fun i σ H23 hi hP => ?_) (fun σ H23 hP => ?_)
    · obtain ⟨⟨v3, v11, v12, rfl⟩, st, od, bag23⟩ := hP
      have hi3 : i < 3 := hi
      refine ⟨_, rfl, _, rfl, b, d, _, ns, rfl, bag23, by omega, st.g, st.db, by omega, fun H24 e bag24 but24 => ?_⟩
      have st := st.but bag23 but24
      have od := od.but but24
      obtain ⟨dx, fs, hp, nm⟩ := st.o.ex
      refine ⟨_, rfl, p, dx, fs, rfl, hp, nm _ (by decide), _, rfl, p, ns, e, rfl, st.o, O, fun H25 pk s25 _ ok => ?_⟩
      have st := st.keep s25
      have od := od.keep s25
      have bag25 := bag24.keep s25
      have OK := O.filter fun k => decide (k < e)
      obtain ⟨dk, fk, hk, _⟩ := ok.ex
      refine ⟨_, rfl, _, _, _, _, true, rfl, .own T.C, str_ty T.clC T.isi hk, T.kS, true, rfl, iteF ?_⟩
      refine ⟨_, rfl, lst_it (K := K) ok OK.few64 fun u hu => ?_⟩
      have s26 := same_new (o := .lst ((ns.filter fun k => decide (k < e)).map V.int)) hu
      have hu2 : upd H25 u (.lst ((ns.filter fun k => decide (k < e)).map V.int)) u = some (.lst ((ns.filter fun k => decide (k < e)).map V.int)) := upd_same
      have st := st.keep s26
      have od := od.keep s26
      have ok := ok.keep s26
      have bag26 := bag25.keep s26
      generalize upd H25 u (.lst ((ns.filter fun k => decide (k < e)).map V.int)) = H26 at *
      refine ⟨_, rfl, d, rfl, ⟨_, SqL.of st.g⟩, fun D hD => ?_⟩
      refine lc_list (xs := ns.map V.int) (fun j A => Same H26 A ∧ A D = some (.lst (((ns.take j).filter fun k => decide (k < e)).map V.int))) ⟨same_new hD, upd_same⟩ (fun j A _ hP => SqL.of (hP.1 _ _ st.g)) (fun j z A hz hP => ?_) (fun H27 hP => ?_)
      · obtain ⟨sm, hL⟩ := hP
        rw [List.getElem?_map] at hz
        obtain ⟨n, hn, rfl⟩ := Option.map_eq_some_iff.mp hz
        have le : ((ns.take j).filter fun k => decide (k < e)).length ≤ ns.length := Nat.le_trans (List.length_filter_le _ _) (by rw [List.length_take]; omega)
        refine ⟨rfl, _, rfl, _, rfl, _, _, rfl, rfl, _, rfl, ite2 (fun c => ?_) (fun c => ?_)⟩
        · refine ⟨_, rfl, _, hL, by rw [List.length_map]; exact small1000 (by omega), same_mut sm hD, ?_⟩
          rw [upd_same, tk_succ hn, List.filter_append, List.map_append, List.filter_cons, if_pos c]
          rfl
        · refine ⟨sm, ?_⟩
          rw [tk_succ hn, List.filter_append, List.filter_cons, if_neg c, List.filter_nil, List.append_nil]
          exact hL
      obtain ⟨s27, hL⟩ := hP
      rw [List.length_map, List.take_length] at hL
      refine ne_l (SqL.of (s27 _ _ hu2)) (SqL.of hL) ⟨_, rfl, iteF ?_⟩
      have st := st.keep s27
      have od := od.keep s27
      have ok := ok.keep s27
      have bag27 := bag26.keep s27
      clear hL hu2 hD hk hp
      refine ⟨_, rfl, _, rfl, bin st.o O ok OK fun H28 p2 ls s28 o2 up2 m2 => ?_⟩
      have mem2 : ∀ k, k ∈ ls ↔ k ∈ ns ∧ ¬ k < e := fun k => by
        rw [m2 k]
        simp only [Bool.and_eq_true, decide_eq_true_eq, Bool.not_eq_true', decide_eq_false_iff_not, List.mem_filter]
        constructor
        · rintro ⟨x, y⟩; exact ⟨x, fun z => y ⟨x, z⟩⟩
        · rintro ⟨x, y⟩; exact ⟨x, fun z => y z.2⟩
      have el : ls = ns.filter fun k => decide (¬ k < e) := up_eq up2 (O.up.filter _) fun k => by rw [mem2 k, List.mem_filter, decide_eq_true_eq]
      have OL : Off ls := el ▸ O.filter _
      have e0 : (ls.filter fun k => decide (k < e)) = [] := List.eq_nil_iff_forall_not_mem.mpr fun k mk => by
        have z := List.mem_filter.mp mk
        exact ((mem2 k).mp z.1).2 (of_decide_eq_true z.2)
      obtain ⟨d2, f2, h2, nm2⟩ := o2.ex
      refine ⟨p2, d2, f2, rfl, h2, nm2 _ (by decide), _, rfl, p2, ls, e, rfl, o2, OL, fun H29 pc s29 _ oc => ?_⟩
      rw [e0] at oc
      refine fun x dx hx hdx ne => ?_
      obtain ⟨oT, nT, e1, e2, e3⟩ := T.eT
      have mx := made (C := T.C) hx hdx ne
      refine ⟨x, dx, T.tE, true, rfl, upd_same, .inl ⟨[], Kd.Is.tup (.inr ⟨oT, #[], nT, e1, e2, e3, Nat.zero_le _, .nil⟩), fun n mn => absurd mn List.not_mem_nil, by show 0 < 64; decide, fun H30 ns0 off0 so0 le0 o0 => ⟨rfl, ?_⟩⟩⟩
      have en0 : ns0 = [] := List.eq_nil_iff_forall_not_mem.mpr fun k mk => by have := (so0.2 k).mp mk; cases this
      subst en0
      have s30 := made_off hx hdx ne off0
      refine ne_s (oc.keep s30) o0 (by show 0 < 64; decide) ⟨_, rfl, iteF ?_⟩
      have s2830 := (s28.trans s29).trans s30
      have st := st.keep s2830
      have od := od.keep s2830
      have ok := ok.keep s2830
      have bag30 := bag27.keep s2830
      refine ⟨_, rfl, _, rfl, _, rfl, bin st.o O ok OK fun H31 p3 ls3 s31 o3 up3 m3 => ?_⟩
      have el3 : ls3 = ns.filter fun k => decide (¬ k < e) := up_eq up3 (O.up.filter _) fun k => by rw [m3 k, ← m2 k, mem2 k, List.mem_filter, decide_eq_true_eq]
      have OL3 : Off ls3 := el3 ▸ O.filter _
      refine bin (ok.keep s31) OK o3 OL3 fun H32 p4 ls4 s32 o4 up4 m4 => ?_
      have e4 : ls4 = ns := up_eq up4 O.up fun k => by
        rw [m4 k, el3]
        simp only [Bool.or_eq_true, decide_eq_true_eq, List.mem_filter]
        constructor
        · rintro (z | z)
          · exact z.1
          · exact z.1
        · intro z
          by_cases c : k < e
          · exact .inl ⟨z, c⟩
          · exact .inr ⟨z, c⟩
      rw [e4] at o4
      have s3132 := s31.trans s32
      refine ⟨_, rfl, ne_s o4 (st.o.keep s3132) (by omega) ⟨_, rfl, iteF ?_⟩⟩
      exact ⟨⟨_, _, _, rfl⟩, st.keep s3132, od.keep s3132, (bag30.keep s3132).mono (by omega)⟩
    obtain ⟨⟨v3, v11, v12, rfl⟩, st, od, bag23⟩ := hP
    have bag23 : Bag H23 b 60 := bag23.mono (by decide)
    refine ⟨_, rfl, q, false, rfl, .inl ⟨xs, Kd.Is.lst (SqL.of st.e), hx0, by omega, fun H24 s24 => ⟨rfl, _, rfl, iteF ?_⟩⟩⟩
    have st := st.keep s24
    have od := od.keep s24
    have bag24 := bag23.keep s24
    refine ⟨_, rfl, _, rfl, q, _, rfl, .inl (SqL.of st.e), _, _, rfl, rfl, b, _, _, rfl, by rw [List.length_map]; omega, by rw [List.length_map]; omega, bag24, by omega, fun H25 at_ a0 a1 bag25 but25 => ?_⟩
    rw [List.length_map] at a1
    obtain ⟨c, rfl⟩ : ∃ c : Nat, at_ = (c : Int) := ⟨at_.toNat, by omega⟩
    have cl : c ≤ xs.length := by omega
    have st := st.but bag24 but25
    have od := od.but but25
    refine ⟨_, rfl, _, rfl, _, rfl, q, _, rfl, SqL.of st.e, fun r1 hr1 => ?_⟩
    rw [cut_take]
    have s26 := same_new (o := .lst ((xs.take c).map V.int)) hr1
    refine ⟨_, rfl, by show 1 ≤ sizeLine; decide, fun r2 hr2 => ?_⟩
    have s27 := same_new (o := .lst [y]) hr2
    refine ⟨r1, r2, _, _, rfl, rfl, s27 _ _ upd_same, upd_same, by rw [List.length_map, List.length_take]; exact Nat.le_of_lt (small1000 (by show min c xs.length + 1 ≤ 1000; omega)), fun r3 hr3 => ?_⟩
    have s28 := same_new (o := .lst ((xs.take c).map V.int ++ [y])) hr3
    have s2628 := (s26.trans s27).trans s28
    refine ⟨_, rfl, _, rfl, _, rfl, q, _, rfl, SqL.of (s2628 _ _ st.e), fun r4 hr4 => ?_⟩
    rw [cut_drop xs cl]
    have s29 := same_new (o := .lst ((xs.drop c).map V.int)) hr4
    refine ⟨r3, r4, _, _, rfl, rfl, s29 _ _ upd_same, upd_same, by rw [List.length_append, List.length_map, List.length_take, List.length_map, List.length_drop]; exact Nat.le_of_lt (small1000 (by show min c xs.length + 1 + (xs.length - c) ≤ 1000; omega)), fun r5 hr5 => ?_⟩
    have s30 := same_new (o := .lst ((xs.take c).map V.int ++ [y] ++ (xs.drop c).map V.int)) hr5
    have s2630 := (s2628.trans s29).trans s30
    have hq5 : upd (upd (upd (upd (upd H25 r1 (.lst ((xs.take c).map V.int))) r2 (.lst [y])) r3 (.lst ((xs.take c).map V.int ++ [y]))) r4 (.lst ((xs.drop c).map V.int))) r5 (.lst ((xs.take c).map V.int ++ [y] ++ (xs.drop c).map V.int)) r5 = some (.lst ((xs.take c).map V.int ++ y :: (xs.drop c).map V.int)) := by
      rw [upd_same, List.append_assoc]
      rfl
    have st := st.keep s2630
    have od := od.keep s2630
    have bag30 := bag25.keep s2630
    have r5b := Lm.bag_off (bag25.keep (s2628.trans s29)) hr5
    clear s26 s27 s28 s29 s30 s2628 s2630
    generalize upd (upd (upd (upd (upd H25 r1 (.lst ((xs.take c).map V.int))) r2 (.lst [y])) r3 (.lst ((xs.take c).map V.int ++ [y]))) r4 (.lst ((xs.drop c).map V.int))) r5 (.lst ((xs.take c).map V.int ++ [y] ++ (xs.drop c).map V.int)) = H30 at *
    refine ⟨fun σ H' => ∃ (r : Addr) (post : List V), σ = [some (.ref a), some (.ref b), some (.ref q), v3, some (.ref d), some (.ref p), some (.int sh), some (.int ag), some (.ref pm), none, some y, v11, v12, some (.int (c : Int)), some (.ref r)] ∧
      H' r = some (.lst ((xs.take c).map V.int ++ y :: post)) ∧ Stt K T.C b q d p xs ns H' ∧ Od K b H' y dy oy, ?_, ?_⟩
    · refine ⟨_, rfl, b, _, 2, rfl, by decide, by decide, bag30, by omega, fun H31 d2 d20 d21 bag31 but31 => ⟨rfl, _, rfl, ite2 (fun cc => ?_) (fun cc => ?_)⟩⟩
      · refine ⟨_, rfl, _, rfl, b, _, rfl, bag31, by omega, fun H32 y2 dy2 oy2 od2 bd2 fr2 bag32 but32 => ?_⟩
        have hq6 := but32.keep _ _ r5b (but31.keep _ _ r5b hq5)
        refine ⟨by show 2 ≤ sizeLine; decide, fun r6 hr6 => ?_⟩
        have s33 := same_new (o := .lst [y2, V.int 5]) hr6
        refine ⟨r5, r6, _, _, rfl, rfl, s33 _ _ hq6, upd_same, by rw [List.length_append, List.length_map, List.length_take, List.length_cons, List.length_map, List.length_drop]; exact Nat.le_of_lt (small1000 (by show min c xs.length + (xs.length - c + 1) + 2 ≤ 1000; omega)), fun r7 hr7 => ?_⟩
        have s34 := s33.trans (same_new (o := .lst ((xs.take c).map V.int ++ y :: (xs.drop c).map V.int ++ [y2, V.int 5])) hr7)
        refine ⟨r7, (xs.drop c).map V.int ++ [y2, V.int 5], rfl, ?_, ((st.but bag30 but31).but bag31 but32).keep s34, ((od.but but31).but but32).keep s34⟩
        rw [upd_same, List.append_assoc]
        rfl
      · exact ⟨r5, (xs.drop c).map V.int, rfl, but31.keep _ _ r5b hq5, st.but bag30 but31, od.but but31⟩
    rintro σ H31 ⟨r, post, rfl, hr, st, od⟩
    have lo : ∀ n ∈ xs.take c, 0 ≤ n := fun n mn => hx0 n (List.mem_of_mem_take mn)
    have S := od.shows
    refine ⟨_, rfl, r, false, rfl, .inr ⟨xs.take c, y, post, dy, oy, b, Kd.Is.lst (SqL.of hr), lo, od, bd, fun H32 w1 s32 hw1 => ?_⟩⟩
    have od2 := od.keep s32
    refine ⟨_, rfl, y, dy, rfl, od2.dp, S.sh, S.nd, S.dep, S.fit, by show 2 ≤ sizeLine; decide, fun t1 ht1 => ?_⟩
    have s33 := same_new (o := .tup [V.str dy.shown, V.bl true]) ht1
    refine ⟨w1, t1, _, rfl, rfl, SqT.of (s33 _ _ hw1), SqT.of upd_same, _, rfl, iteF ?_⟩
    have s33 := s32.trans s33
    have hr2 := s33 _ _ hr
    have st := st.keep s33
    have od := od.keep s33
    generalize upd H32 t1 (.tup [V.str dy.shown, V.bl true]) = H33 at *
    refine ⟨_, rfl, r, _, rfl, .inl ⟨SqL.of hr2, fun tq htq => ?_⟩⟩
    have s34 := same_new (o := .tup ((xs.take c).map V.int ++ y :: post)) htq
    have od := od.keep s34
    refine ⟨tq, true, rfl, .inr ⟨xs.take c, y, post, dy, oy, b, Kd.Is.tup (SqT.of upd_same), lo, od, bd, fun H35 w2 s35 hw2 => ?_⟩⟩
    have od2 := od.keep s35
    refine ⟨_, rfl, y, dy, rfl, od2.dp, S.sh, S.nd, S.dep, S.fit, by show 2 ≤ sizeLine; decide, fun t2 ht2 => ?_⟩
    have s36 := same_new (o := .tup [V.str dy.shown, V.bl true]) ht2
    refine ⟨w2, t2, _, rfl, rfl, SqT.of (s36 _ _ hw2), SqT.of upd_same, _, rfl, iteF ?_⟩
    have st := ((st.keep s34).keep s35).keep s36
    generalize upd H35 t2 (.tup [V.str dy.shown, V.bl true]) = H36 at *
    obtain ⟨dx, fs, qo, hp, l1, l2, ho⟩ := id st.o
    refine ⟨_, rfl, p, T.C, dx, fs, _, rfl, hp, T.clC, T.nO, l1, _, rfl, d, _, rfl, .inl ⟨SqL.of st.g, fun tz htz => ?_⟩⟩
    have s37 := same_new (o := .tup (ns.map V.int)) htz
    refine ⟨offD ns, offD ns, .tup (sameT s37 ho) (dp_ints ns), .tup (SqT.of upd_same) (dp_ints ns), (fine_off ns).shaped (by decide), (fine_off ns).shaped (by decide), _, rfl, ?_⟩
    rw [eqv_off, decide_eq_true rfl]
    have st := st.keep s37
    refine iteT ⟨_, rfl, lst_it (K := K) st.o (by omega) fun u hu => ?_⟩
    have s38 := same_new (o := .lst (ns.map V.int)) hu
    refine ⟨_, rfl, .list (ns.map PyData.int), .list (ns.map PyData.int), .lst (SqL.of upd_same) (dp_ints ns), .lst (SqL.of (s38 _ _ st.g)) (dp_ints ns), shl ns, shl ns, ?_⟩
    rw [eqv_lst, decide_eq_true rfl]
    exact k _
end
end K04

namespace K04
open PySem L2 Wm TL Dv PySem.W
theorem ns_ok {K : PySem.W.Frag} {oN : Addr} {oc1 : Value} {od1 : Option Addr} {oes : Array DictEntry} {oex : Nat} {osl : Array (Option Value)} (ol : K.lookup oN = some ⟨oc1, od1, .dict oes oex, osl⟩) (on : (oes.toList.all fun e => match e.key with | .str _ _ => true | _ => false) = true) : PySem.W.nsOkIn K oN = true := by
  unfold PySem.W.nsOkIn
  rw [ol]
  show (oes.all fun e => match e.key with | .str _ _ => true | _ => false) = true
  rw [← Array.all_toList]
  exact on
theorem all_mk {l : PySem.W.OpenLaw} {w : World} {K : PySem.W.Frag} {h : Heap} {mg : Str → Option Value} {fa : Addr} (X : K.In h) (G : h.Ns mainGlobals mg) (hfa : mg "law" = some (.ref fa))
    {xC : Addr}
    (axC : PySem.W.nsIn K mainGlobals "Strokes" = some (some (.ref xC)))
    {x_is_whole : Addr} {od_is_whole an_is_whole : Option Addr} {sl_is_whole : Array (Option Value)} {oc_is_whole dc_is_whole pm_is_whole cd_is_whole ct_is_whole : Value}
    {kV_is_whole : Value}
    (a_is_whole : PySem.W.nsIn K mainGlobals "is_whole" = some (some (.ref x_is_whole)))
    (l_is_whole : K.lookup x_is_whole = some ⟨oc_is_whole, od_is_whole, .func (PySem.W.fnOf "is_whole" "is_whole" (defArgs s_is_whole) (defBody s_is_whole) (defScope s_is_whole) .none kV_is_whole dc_is_whole pm_is_whole an_is_whole cd_is_whole ct_is_whole), sl_is_whole⟩)
    (c_is_whole : PySem.W.codeIn K cd_is_whole "is_whole" = true)
    (k_is_whole : PySem.W.keepIn K (.ref x_is_whole) = true)
    {x_check_offset : Addr} {od_check_offset an_check_offset : Option Addr} {sl_check_offset : Array (Option Value)} {oc_check_offset dc_check_offset pm_check_offset cd_check_offset ct_check_offset : Value}
    {kV_check_offset : Value}
    (a_check_offset : PySem.W.nsIn K mainGlobals "check_offset" = some (some (.ref x_check_offset)))
    (l_check_offset : K.lookup x_check_offset = some ⟨oc_check_offset, od_check_offset, .func (PySem.W.fnOf "check_offset" "check_offset" (defArgs s_check_offset) (defBody s_check_offset) (defScope s_check_offset) .none kV_check_offset dc_check_offset pm_check_offset an_check_offset cd_check_offset ct_check_offset), sl_check_offset⟩)
    (c_check_offset : PySem.W.codeIn K cd_check_offset "check_offset" = true)
    (k_check_offset : PySem.W.keepIn K (.ref x_check_offset) = true)
    {x_init : Addr} {od_init an_init : Option Addr} {sl_init : Array (Option Value)} {oc_init dc_init pm_init cd_init ct_init : Value}
    {kV_init : Value}
    {xT xE : Addr} {ocT : Value} {odT : Option Addr} {nT : Nat} {slT : Array (Option Value)} {odE : Option Addr} {nE : Nat} {slE : Array (Option Value)}
    (a_init : PySem.W.findIn K (.ref xC) "__init__" = some (some (.ref x_init)))
    (i_init : PySem.W.isFn K (.ref x_init) = true)
    (l_init : K.lookup x_init = some ⟨oc_init, od_init, .func (PySem.W.fnOf "__init__" "Strokes.__init__" (defArgs s_init) (defBody s_init) (defScope s_init) (.ref xT) kV_init dc_init pm_init an_init cd_init ct_init), sl_init⟩)
    (c_init : PySem.W.codeIn K cd_init "Strokes.__init__" = true)
    (k_init : PySem.W.keepIn K (.ref x_init) = true)
    (e_init : K.lookup xT = some ⟨ocT, odT, .seq #[.ref xE] nT, slT⟩)
    (e2_init : K.lookup xE = some ⟨.type "tuple", odE, .seq #[] nE, slE⟩)
    {x_iter : Addr} {od_iter an_iter : Option Addr} {sl_iter : Array (Option Value)} {oc_iter dc_iter pm_iter cd_iter ct_iter : Value}
    {kV_iter : Value}
    (a_iter : PySem.W.findIn K (.ref xC) "__iter__" = some (some (.ref x_iter)))
    (i_iter : PySem.W.isFn K (.ref x_iter) = true)
    (l_iter : K.lookup x_iter = some ⟨oc_iter, od_iter, .func (PySem.W.fnOf "__iter__" "Strokes.__iter__" (defArgs s_iter) (defBody s_iter) (defScope s_iter) .none kV_iter dc_iter pm_iter an_iter cd_iter ct_iter), sl_iter⟩)
    (c_iter : PySem.W.codeIn K cd_iter "Strokes.__iter__" = true)
    (k_iter : PySem.W.keepIn K (.ref x_iter) = true)
    {x_len : Addr} {od_len an_len : Option Addr} {sl_len : Array (Option Value)} {oc_len dc_len pm_len cd_len ct_len : Value}
    {kV_len : Value}
    (a_len : PySem.W.findIn K (.ref xC) "__len__" = some (some (.ref x_len)))
    (i_len : PySem.W.isFn K (.ref x_len) = true)
    (l_len : K.lookup x_len = some ⟨oc_len, od_len, .func (PySem.W.fnOf "__len__" "Strokes.__len__" (defArgs s_len) (defBody s_len) (defScope s_len) .none kV_len dc_len pm_len an_len cd_len ct_len), sl_len⟩)
    (c_len : PySem.W.codeIn K cd_len "Strokes.__len__" = true)
    (k_len : PySem.W.keepIn K (.ref x_len) = true)
    {x_eq : Addr} {od_eq an_eq : Option Addr} {sl_eq : Array (Option Value)} {oc_eq dc_eq pm_eq cd_eq ct_eq : Value}
    {kV_eq : Value}
    (a_eq : PySem.W.findIn K (.ref xC) "__eq__" = some (some (.ref x_eq)))
    (i_eq : PySem.W.isFn K (.ref x_eq) = true)
    (l_eq : K.lookup x_eq = some ⟨oc_eq, od_eq, .func (PySem.W.fnOf "__eq__" "Strokes.__eq__" (defArgs s_eq) (defBody s_eq) (defScope s_eq) .none kV_eq dc_eq pm_eq an_eq cd_eq ct_eq), sl_eq⟩)
    (c_eq : PySem.W.codeIn K cd_eq "Strokes.__eq__" = true)
    (k_eq : PySem.W.keepIn K (.ref x_eq) = true)
    {x_or : Addr} {od_or an_or : Option Addr} {sl_or : Array (Option Value)} {oc_or dc_or pm_or cd_or ct_or : Value}
    {kV_or : Value}
    (a_or : PySem.W.findIn K (.ref xC) "__or__" = some (some (.ref x_or)))
    (i_or : PySem.W.isFn K (.ref x_or) = true)
    (l_or : K.lookup x_or = some ⟨oc_or, od_or, .func (PySem.W.fnOf "__or__" "Strokes.__or__" (defArgs s_or) (defBody s_or) (defScope s_or) .none kV_or dc_or pm_or an_or cd_or ct_or), sl_or⟩)
    (c_or : PySem.W.codeIn K cd_or "Strokes.__or__" = true)
    (k_or : PySem.W.keepIn K (.ref x_or) = true)
    {x_sub : Addr} {od_sub an_sub : Option Addr} {sl_sub : Array (Option Value)} {oc_sub dc_sub pm_sub cd_sub ct_sub : Value}
    {kV_sub : Value}
    (a_sub : PySem.W.findIn K (.ref xC) "__sub__" = some (some (.ref x_sub)))
    (i_sub : PySem.W.isFn K (.ref x_sub) = true)
    (l_sub : K.lookup x_sub = some ⟨oc_sub, od_sub, .func (PySem.W.fnOf "__sub__" "Strokes.__sub__" (defArgs s_sub) (defBody s_sub) (defScope s_sub) .none kV_sub dc_sub pm_sub an_sub cd_sub ct_sub), sl_sub⟩)
    (c_sub : PySem.W.codeIn K cd_sub "Strokes.__sub__" = true)
    (k_sub : PySem.W.keepIn K (.ref x_sub) = true)
    {x_rshift : Addr} {od_rshift an_rshift : Option Addr} {sl_rshift : Array (Option Value)} {oc_rshift dc_rshift pm_rshift cd_rshift ct_rshift : Value}
    {kV_rshift : Value}
    (a_rshift : PySem.W.findIn K (.ref xC) "__rshift__" = some (some (.ref x_rshift)))
    (i_rshift : PySem.W.isFn K (.ref x_rshift) = true)
    (l_rshift : K.lookup x_rshift = some ⟨oc_rshift, od_rshift, .func (PySem.W.fnOf "__rshift__" "Strokes.__rshift__" (defArgs s_rshift) (defBody s_rshift) (defScope s_rshift) .none kV_rshift dc_rshift pm_rshift an_rshift cd_rshift ct_rshift), sl_rshift⟩)
    (c_rshift : PySem.W.codeIn K cd_rshift "Strokes.__rshift__" = true)
    (k_rshift : PySem.W.keepIn K (.ref x_rshift) = true)
    {x_cut : Addr} {od_cut an_cut : Option Addr} {sl_cut : Array (Option Value)} {oc_cut dc_cut pm_cut cd_cut ct_cut : Value}
    {kV_cut : Value}
    (a_cut : PySem.W.findIn K (.ref xC) "cut" = some (some (.ref x_cut)))
    (i_cut : PySem.W.isFn K (.ref x_cut) = true)
    (l_cut : K.lookup x_cut = some ⟨oc_cut, od_cut, .func (PySem.W.fnOf "cut" "Strokes.cut" (defArgs s_cut) (defBody s_cut) (defScope s_cut) .none kV_cut dc_cut pm_cut an_cut cd_cut ct_cut), sl_cut⟩)
    (c_cut : PySem.W.codeIn K cd_cut "Strokes.cut" = true)
    (k_cut : PySem.W.keepIn K (.ref x_cut) = true)
    {x_bag : Addr} {od_bag an_bag : Option Addr} {sl_bag : Array (Option Value)} {oc_bag dc_bag pm_bag cd_bag ct_bag : Value}
    {kV_bag : Value}
    (a_bag : PySem.W.nsIn K mainGlobals "_law_bag" = some (some (.ref x_bag)))
    (l_bag : K.lookup x_bag = some ⟨oc_bag, od_bag, .func (PySem.W.fnOf "_law_bag" "_law_bag" (defArgs s_bag) (defBody s_bag) (defScope s_bag) .none kV_bag dc_bag pm_bag an_bag cd_bag ct_bag), sl_bag⟩)
    (c_bag : PySem.W.codeIn K cd_bag "_law_bag" = true)
    (k_bag : PySem.W.keepIn K (.ref x_bag) = true)
    {x_draw : Addr} {od_draw an_draw : Option Addr} {sl_draw : Array (Option Value)} {oc_draw dc_draw pm_draw cd_draw ct_draw : Value}
    {kV_draw : Value}
    (a_draw : PySem.W.nsIn K mainGlobals "_law_draw" = some (some (.ref x_draw)))
    (l_draw : K.lookup x_draw = some ⟨oc_draw, od_draw, .func (PySem.W.fnOf "_law_draw" "_law_draw" (defArgs s_draw) (defBody s_draw) (defScope s_draw) .none kV_draw dc_draw pm_draw an_draw cd_draw ct_draw), sl_draw⟩)
    (c_draw : PySem.W.codeIn K cd_draw "_law_draw" = true)
    (k_draw : PySem.W.keepIn K (.ref x_draw) = true)
    {x_offset : Addr} {od_offset an_offset : Option Addr} {sl_offset : Array (Option Value)} {oc_offset dc_offset pm_offset cd_offset ct_offset : Value}
    {kV_offset : Value}
    (a_offset : PySem.W.nsIn K mainGlobals "_law_offset" = some (some (.ref x_offset)))
    (l_offset : K.lookup x_offset = some ⟨oc_offset, od_offset, .func (PySem.W.fnOf "_law_offset" "_law_offset" (defArgs s_offset) (defBody s_offset) (defScope s_offset) .none kV_offset dc_offset pm_offset an_offset cd_offset ct_offset), sl_offset⟩)
    (c_offset : PySem.W.codeIn K cd_offset "_law_offset" = true)
    (k_offset : PySem.W.keepIn K (.ref x_offset) = true)
    {x_odd : Addr} {od_odd an_odd : Option Addr} {sl_odd : Array (Option Value)} {oc_odd dc_odd pm_odd cd_odd ct_odd : Value}
    {kV_odd : Value}
    (a_odd : PySem.W.nsIn K mainGlobals "_law_odd" = some (some (.ref x_odd)))
    (l_odd : K.lookup x_odd = some ⟨oc_odd, od_odd, .func (PySem.W.fnOf "_law_odd" "_law_odd" (defArgs s_odd) (defBody s_odd) (defScope s_odd) .none kV_odd dc_odd pm_odd an_odd cd_odd ct_odd), sl_odd⟩)
    (c_odd : PySem.W.codeIn K cd_odd "_law_odd" = true)
    (k_odd : PySem.W.keepIn K (.ref x_odd) = true)
    {x_made : Addr} {od_made an_made : Option Addr} {sl_made : Array (Option Value)} {oc_made dc_made pm_made cd_made ct_made : Value}
    {kV_made : Value}
    (a_made : PySem.W.nsIn K mainGlobals "_law_made" = some (some (.ref x_made)))
    (l_made : K.lookup x_made = some ⟨oc_made, od_made, .func (PySem.W.fnOf "_law_made" "_law_made" (defArgs s_made) (defBody s_made) (defScope s_made) .none kV_made dc_made pm_made an_made cd_made ct_made), sl_made⟩)
    (c_made : PySem.W.codeIn K cd_made "_law_made" = true)
    (k_made : PySem.W.keepIn K (.ref x_made) = true)
    {x_moved : Addr} {od_moved an_moved : Option Addr} {sl_moved : Array (Option Value)} {oc_moved dc_moved pm_moved cd_moved ct_moved : Value}
    {kV_moved : Value}
    (a_moved : PySem.W.nsIn K mainGlobals "_law_moved" = some (some (.ref x_moved)))
    (l_moved : K.lookup x_moved = some ⟨oc_moved, od_moved, .func (PySem.W.fnOf "_law_moved" "_law_moved" (defArgs s_moved) (defBody s_moved) (defScope s_moved) .none kV_moved dc_moved pm_moved an_moved cd_moved ct_moved), sl_moved⟩)
    (c_moved : PySem.W.codeIn K cd_moved "_law_moved" = true)
    (k_moved : PySem.W.keepIn K (.ref x_moved) = true)
    {x_end : Addr} {od_end an_end : Option Addr} {sl_end : Array (Option Value)} {oc_end dc_end pm_end cd_end ct_end : Value}
    {kV_end : Value}
    (a_end : PySem.W.nsIn K mainGlobals "_law_end" = some (some (.ref x_end)))
    (l_end : K.lookup x_end = some ⟨oc_end, od_end, .func (PySem.W.fnOf "_law_end" "_law_end" (defArgs s_end) (defBody s_end) (defScope s_end) .none kV_end dc_end pm_end an_end cd_end ct_end), sl_end⟩)
    (c_end : PySem.W.codeIn K cd_end "_law_end" = true)
    (k_end : PySem.W.keepIn K (.ref x_end) = true)
    {x_law : Addr} {od_law an_law : Option Addr} {sl_law : Array (Option Value)} {oc_law dc_law pm_law cd_law ct_law : Value}
    {kV_law : Value}
    (a_law : PySem.W.nsIn K mainGlobals "law" = some (some (.ref x_law)))
    (l_law : K.lookup x_law = some ⟨oc_law, od_law, .func (PySem.W.fnOf "law" "law" (defArgs s_law) (defBody s_law) (defScope s_law) .none kV_law dc_law pm_law an_law cd_law ct_law), sl_law⟩)
    (c_law : PySem.W.codeIn K cd_law "law" = true)
    (k_law : PySem.W.keepIn K (.ref x_law) = true)
    (pg : PySem.W.plainGet K xC Str.empty = true)
    (hd : PySem.W.hasDictIn K xC = true)
    (po : PySem.W.plainOver K xC = true)
    (sa : PySem.W.findIn K (.ref xC) "__setattr__" = some (some (.builtin "object.__setattr__")))
    (mk : PySem.W.makesIn K xC = true)
    (kc : PySem.W.keepIn K (.ref xC) = true)
    (nO : PySem.W.findIn K (.ref xC) "offsets" = some none)
    (ica : PySem.W.findIn K (.ref xC) "__class__" = some (some (.builtin "object.__class__")))
    (icn : PySem.W.specialIn K (.builtin "object.__class__") "__get__" = some (some (.builtin "getset_descriptor.__get__")))
    (ict : PySem.W.takesIn K (.builtin "object.__class__") = some true)
    (icm : PySem.W.mroIn K xC (.type "object") = some true)
    (kS : PySem.W.kitOne K (.ref xC) (.ref xC) = some true)
    (sf : PySem.W.selfFirst K xC = true)
    {onm oq : Str} {oN : Addr} {obs : List Value} {ohd : Bool} {osn : List Str} {osub : List Value} {oab : Bool} {ocol : Option Bool} {odd : Option Addr} {ok0 ok1 ok2 ok3 ok5 : Option Value} (ox : K.lookup xC = some (excClassObj onm oq xC oN obs [.type "object"] ohd osn osub oab ocol odd ok0 ok1 ok2 ok3 ok5 "object.__new__")) {oc1 : Value} {od1 : Option Addr} {oes : Array DictEntry} {oex : Nat} {osl : Array (Option Value)} (ol : K.lookup oN = some ⟨oc1, od1, .dict oes oex, osl⟩) (on : (oes.toList.all fun e => match e.key with | .str _ _ => true | _ => false) = true) (oe : PySem.W.nsIn K oN "__eq__" = some (some (.ref x_eq))) (oz : PySem.W.nsIn K oN "__ne__" = some none)
    {eCO eIO : Addr} {enmO eqO : Str} {eNO : Addr} {ebsO ebmO : List Value} {esnO : List Str} {esubO : List Value} {eabO : Bool} {ecolO : Option Bool} {eddO : Option Addr} {em0O em1O em2O em3O em5O : Option Value}
    {eocO edcO epmO ecdO ectO : Value} {eodO eanO : Option Addr} {eslO : Array (Option Value)} {ep1O ep2O eq1O eq2O eq3O eq4O : Pos}
    (e_aO : PySem.W.nsIn K mainGlobals "BadOffset" = some (some (.ref eCO)))
    (e_xO : K.lookup eCO = some (excClassObj enmO eqO eCO eNO ebsO ebmO true esnO esubO eabO ecolO eddO em0O em1O em2O em3O em5O "ValueError.__new__"))
    (e_bO : PySem.HandSPX.refsVE ebmO = true)
    (e_sO : PySem.W.findIn K (.ref eCO) "__setattr__" = some (some (.builtin "object.__setattr__"))) (e_gO : PySem.W.findIn K (.ref eCO) "__getattribute__" = some (some (.builtin "BaseException.__getattribute__"))) (e_hO : PySem.W.findIn K (.ref eCO) "__getattr__" = some none) (e_nO : PySem.W.findIn K (.ref eCO) "offset" = some none)
    (e_iO : PySem.W.findIn K (.ref eCO) "__init__" = some (some (.ref eIO))) (e_tO : PySem.W.typeIn K (.ref eIO) = some (.type "function"))
    (e_lO : K.lookup eIO = some ⟨eocO, eodO, .func (PySem.W.fnOf "__init__" "BadOffset.__init__" (PySem.LowO.iA ep1O ep2O) (PySem.LowO.iB eq1O eq2O eq3O eq4O) PySem.LowO.iS .none .none edcO epmO eanO ecdO ectO), eslO⟩) (e_cO : PySem.W.codeIn K ecdO "BadOffset.__init__" = true)
    (e_kO : PySem.W.keepIn K (.ref eCO) = true) (e_eO : PySem.W.subIn K (.ref eCO) (.type "BaseException") = some true) (e_tyO : PySem.W.typeIn K (.ref eCO) = some (.type "type")) (e_dO : PySem.W.hasDictIn K eCO = true) (e_scO : PySem.W.subIn K (.ref eCO) (.ref eCO) = some true)
    {eW eN_ : Addr}
    (e_w : PySem.W.nsIn K mainGlobals "WheelError" = some (some (.ref eW)))
    (e_nn : PySem.W.nsIn K mainGlobals "BadNumber" = some (some (.ref eN_)))
    (e_kw : PySem.W.kitOne K (.ref eCO) (.ref eW) = some true)
    (e_kn : PySem.W.kitOne K (.ref eCO) (.ref eN_) = some false)
    (e_ic : PySem.W.isClsIn K eCO = true)
    (e_ha : PySem.W.findIn K (.ref eCO) "__class__" = some (some (.builtin "object.__class__")))
    (e_hn : PySem.W.specialIn K (.builtin "object.__class__") "__get__" = some (some (.builtin "getset_descriptor.__get__")))
    (e_ht : PySem.W.takesIn K (.builtin "object.__class__") = some true)
    (e_hm : PySem.W.mroIn K eCO (.type "object") = some true)
    {fo_int ro_int : Option Value}
    (f1_int : PySem.W.findIn K (.type "int") (PySem.dunder Operator.RShift.info.2) = some fo_int)
    (f2_int : PySem.W.findIn K (.type "int") (dunderR Operator.RShift.info.2) = some ro_int)
    (f3_int : PySem.W.subIn K (.type "int") (.ref xC) = some false)
    {fo_bool ro_bool : Option Value}
    (f1_bool : PySem.W.findIn K (.type "bool") (PySem.dunder Operator.RShift.info.2) = some fo_bool)
    (f2_bool : PySem.W.findIn K (.type "bool") (dunderR Operator.RShift.info.2) = some ro_bool)
    (f3_bool : PySem.W.subIn K (.type "bool") (.ref xC) = some false)
    {fo_NoneType ro_NoneType : Option Value}
    (f1_NoneType : PySem.W.findIn K (.type "NoneType") (PySem.dunder Operator.RShift.info.2) = some fo_NoneType)
    (f2_NoneType : PySem.W.findIn K (.type "NoneType") (dunderR Operator.RShift.info.2) = some ro_NoneType)
    (f3_NoneType : PySem.W.subIn K (.type "NoneType") (.ref xC) = some false)
    {fo_str ro_str : Option Value}
    (f1_str : PySem.W.findIn K (.type "str") (PySem.dunder Operator.RShift.info.2) = some fo_str)
    (f2_str : PySem.W.findIn K (.type "str") (dunderR Operator.RShift.info.2) = some ro_str)
    (f3_str : PySem.W.subIn K (.type "str") (.ref xC) = some false)
    {fo_tuple ro_tuple : Option Value}
    (f1_tuple : PySem.W.findIn K (.type "tuple") (PySem.dunder Operator.RShift.info.2) = some fo_tuple)
    (f2_tuple : PySem.W.findIn K (.type "tuple") (dunderR Operator.RShift.info.2) = some ro_tuple)
    (f3_tuple : PySem.W.subIn K (.type "tuple") (.ref xC) = some false)
    {fo_list ro_list : Option Value}
    (f1_list : PySem.W.findIn K (.type "list") (PySem.dunder Operator.RShift.info.2) = some fo_list)
    (f2_list : PySem.W.findIn K (.type "list") (dunderR Operator.RShift.info.2) = some ro_list)
    (f3_list : PySem.W.subIn K (.type "list") (.ref xC) = some false)
    {rc_ : Option Value}
    (rcl : PySem.W.findIn K (.ref xC) (dunderR Operator.RShift.info.2) = some rc_)
    (rcp : rc_ = none ∨ ∃ g : Addr, rc_ = some (.ref g))
    (z_bool : PySem.W.nsIn K mainGlobals "bool" = some none)
    (z_int : PySem.W.nsIn K mainGlobals "int" = some none)
    (z_isinstance : PySem.W.nsIn K mainGlobals "isinstance" = some none)
    (z_iter : PySem.W.nsIn K mainGlobals "iter" = some none)
    (z_len : PySem.W.nsIn K mainGlobals "len" = some none)
    (z_list : PySem.W.nsIn K mainGlobals "list" = some none)
    (z_range : PySem.W.nsIn K mainGlobals "range" = some none)
    (z_repr : PySem.W.nsIn K mainGlobals "repr" = some none)
    (z_set : PySem.W.nsIn K mainGlobals "set" = some none)
    (z_sorted : PySem.W.nsIn K mainGlobals "sorted" = some none)
    (z_tuple : PySem.W.nsIn K mainGlobals "tuple" = some none)
    : ∃ fd : FuncData, (∀ (s : Shared) (v : Value), BindsTo s fd ⟨[v], []⟩ [("_law_script", v)]) ∧ ∀ base : Heap, K.In base → base.Ns mainGlobals mg → Rp.GOk l.prog w K mg base CX0 10 fa fd ["_law_script"] (sp_law K 0) := by
  have e := hfa.symm.trans (PySem.W.mg_of X G a_law)
  cases e
  have F_is_whole := fun_mk (st := s_is_whole) l_is_whole c_is_whole k_is_whole
  have b_is_whole := F_is_whole.binds (ps := ["thing"]) fun _ _ _ _ _ _ us hl => match us, hl with | [_], _ => rfl
  have F_check_offset := fun_mk (st := s_check_offset) l_check_offset c_check_offset k_check_offset
  have b_check_offset := F_check_offset.binds (ps := ["thing"]) fun _ _ _ _ _ _ us hl => match us, hl with | [_], _ => rfl
  have F_init : FunD K "__init__" "Strokes.__init__" (defArgs s_init) (defBody s_init) (defScope s_init) [V.ref xE] [] x_init _ := ⟨⟨_, _, _, _, _, _, _, _, _, _, rfl, l_init, c_init, .inr ⟨List.cons_ne_nil _ _, xT, _, [.ref xE], _, rfl, e_init, rfl, .cons rfl .nil⟩, .inl rfl⟩, k_init⟩
  have b_init := F_init.binds1 (ps := ["self", "offsets"]) 2 1 (List.cons_ne_nil _ _) rfl fun T kV doc pm an cdv ct us its h1 h2 => match us, its, h1, h2 with | [_, _], [_], _, _ => ⟨_, rfl, rfl⟩
  obtain ⟨ds_init, rd_init, b_init⟩ := b_init
  cases rd_init
  have b0_init := F_init.binds1 (ps := ["self", "offsets"]) 1 0 (List.cons_ne_nil _ _) rfl fun T kV doc pm an cdv ct us its h1 h2 => match us, its, h1, h2 with | [_], [_], _, _ => ⟨_, rfl, rfl⟩
  obtain ⟨dw, r_init, b0_init⟩ := b0_init
  have F_iter := fun_mk (st := s_iter) l_iter c_iter k_iter
  have b_iter := F_iter.binds (ps := ["self"]) fun _ _ _ _ _ _ us hl => match us, hl with | [_], _ => rfl
  have F_len := fun_mk (st := s_len) l_len c_len k_len
  have b_len := F_len.binds (ps := ["self"]) fun _ _ _ _ _ _ us hl => match us, hl with | [_], _ => rfl
  have F_eq := fun_mk (st := s_eq) l_eq c_eq k_eq
  have b_eq := F_eq.binds (ps := ["self", "other"]) fun _ _ _ _ _ _ us hl => match us, hl with | [_, _], _ => rfl
  have F_or := fun_mk (st := s_or) l_or c_or k_or
  have b_or := F_or.binds (ps := ["self", "other"]) fun _ _ _ _ _ _ us hl => match us, hl with | [_, _], _ => rfl
  have F_sub := fun_mk (st := s_sub) l_sub c_sub k_sub
  have b_sub := F_sub.binds (ps := ["self", "other"]) fun _ _ _ _ _ _ us hl => match us, hl with | [_, _], _ => rfl
  have F_rshift := fun_mk (st := s_rshift) l_rshift c_rshift k_rshift
  have b_rshift := F_rshift.binds (ps := ["self", "other"]) fun _ _ _ _ _ _ us hl => match us, hl with | [_, _], _ => rfl
  have F_cut := fun_mk (st := s_cut) l_cut c_cut k_cut
  have b_cut := F_cut.binds (ps := ["self", "end"]) fun _ _ _ _ _ _ us hl => match us, hl with | [_, _], _ => rfl
  have F_bag := fun_mk (st := s_bag) l_bag c_bag k_bag
  have b_bag := F_bag.binds (ps := ["_law_script"]) fun _ _ _ _ _ _ us hl => match us, hl with | [_], _ => rfl
  have F_draw := fun_mk (st := s_draw) l_draw c_draw k_draw
  have b_draw := F_draw.binds (ps := ["_law_bag_here", "_law_limit"]) fun _ _ _ _ _ _ us hl => match us, hl with | [_, _], _ => rfl
  have F_offset := fun_mk (st := s_offset) l_offset c_offset k_offset
  have b_offset := F_offset.binds (ps := ["_law_bag_here"]) fun _ _ _ _ _ _ us hl => match us, hl with | [_], _ => rfl
  have F_odd := fun_mk (st := s_odd) l_odd c_odd k_odd
  have b_odd := F_odd.binds (ps := ["_law_bag_here"]) fun _ _ _ _ _ _ us hl => match us, hl with | [_], _ => rfl
  have F_made := fun_mk (st := s_made) l_made c_made k_made
  have b_made := F_made.binds (ps := ["_law_offsets"]) fun _ _ _ _ _ _ us hl => match us, hl with | [_], _ => rfl
  have F_moved := fun_mk (st := s_moved) l_moved c_moved k_moved
  have b_moved := F_moved.binds (ps := ["_law_strokes", "_law_shift"]) fun _ _ _ _ _ _ us hl => match us, hl with | [_, _], _ => rfl
  have F_end := fun_mk (st := s_end) l_end c_end k_end
  have b_end := F_end.binds (ps := ["_law_bag_here", "_law_due"]) fun _ _ _ _ _ _ us hl => match us, hl with | [_, _], _ => rfl
  have F_law := fun_mk (st := s_law) l_law c_law k_law
  have b_law := F_law.binds (ps := ["_law_script"]) fun _ _ _ _ _ _ us hl => match us, hl with | [_], _ => rfl
  have lowO : PySem.LowO.LowTxt K mg eCO eIO :=
    { gC := PySem.W.mg_of X G e_aO, cls := ⟨enmO, eqO, eNO, ebsO, _, esnO, esubO, eabO, ecolO, eddO, em0O, em1O, em2O, em3O, em5O, e_xO, e_bO⟩, sa := e_sO, ga := e_gO, gg := e_hO, noN := e_nO, iC := e_iO, tC := e_tO, kC := e_kO, exC := e_eO, tyC := e_tyO, hdC := e_dO, te := PySem.W.exm_ref e_eO e_dO e_tyO e_scO,
      fn := ⟨_, _, _, _, _, _, _, _, _, _, _, _, _, _, e_lO, e_cO⟩ }
  have rT : ∀ n ∈ ["int", "bool", "NoneType", "str", "tuple", "list"], Po.RT K .RShift xC n := fun n m => by
    simp only [List.mem_cons, List.not_mem_nil, or_false] at m
    rcases m with rfl | rfl | rfl | rfl | rfl | rfl
    · exact ⟨⟨_, _, f1_int, f2_int⟩, f3_int⟩
    · exact ⟨⟨_, _, f1_bool, f2_bool⟩, f3_bool⟩
    · exact ⟨⟨_, _, f1_NoneType, f2_NoneType⟩, f3_NoneType⟩
    · exact ⟨⟨_, _, f1_str, f2_str⟩, f3_str⟩
    · exact ⟨⟨_, _, f1_tuple, f2_tuple⟩, f3_tuple⟩
    · exact ⟨⟨_, _, f1_list, f2_list⟩, f3_list⟩
  have T : Σ' T : Txt K mg, T.a_law = fa ∧ T.d_law = PySem.W.fnOf "law" "law" (defArgs s_law) (defBody s_law) (defScope s_law) .none kV_law dc_law pm_law an_law cd_law ct_law :=
    ⟨{ C := xC, gC := PySem.W.mg_of X G axC, clC := ⟨pg, hd, po, sa⟩,
        isi := ⟨ica, icn, ict, icm⟩, kS := kS,
        nO := nO, sf := sf, sfC := (by unfold PySem.W.notFirst; simp), lt := ⟨⟨_, rcl, rcp⟩, sf⟩, rT := rT,
        CO := _, fO := _, lowO := lowO, Wc := _, gW := PySem.W.mg_of X G e_w, kW := e_kw, Nc := _, gN := PySem.W.mg_of X G e_nn, kN := e_kn, xc := ⟨e_gO, e_hO, e_eO, e_dO, e_ha, e_hn, e_ht, e_hm⟩, cl := e_ic,
        aEq := a_eq, iEq := i_eq, aLen := a_len, iLen := i_len, aIt := a_iter, iIt := i_iter, h_or := a_or, i_or := i_or, h_sub := a_sub, i_sub := i_sub, h_rshift := a_rshift, i_rshift := i_rshift,
        ne := ⟨⟨_, _, _, _, _, _, _, _, _, _, _, _, _, _, _, ox, ns_ok ol on, oe, oz⟩, i_eq⟩,
        a_is_whole := _, d_is_whole := _, F_is_whole := F_is_whole, b_is_whole := b_is_whole, g_is_whole := PySem.W.mg_of X G a_is_whole,
        a_check_offset := _, d_check_offset := _, F_check_offset := F_check_offset, b_check_offset := b_check_offset, g_check_offset := PySem.W.mg_of X G a_check_offset,
        a_init := _, d_init := _, F_init := F_init, b_init := b_init, mk_init := ⟨mk, a_init, i_init, kc⟩, ds0 := dw, r_init := r_init, b0_init := b0_init, tE := xE, eT := ⟨_, _, e2_init, rfl, rfl⟩,
        a_iter := _, d_iter := _, F_iter := F_iter, b_iter := b_iter, m_iter := ⟨a_iter, i_iter, k_iter⟩,
        a_len := _, d_len := _, F_len := F_len, b_len := b_len, m_len := ⟨a_len, i_len, k_len⟩,
        a_eq := _, d_eq := _, F_eq := F_eq, b_eq := b_eq, m_eq := ⟨a_eq, i_eq, k_eq⟩,
        a_or := _, d_or := _, F_or := F_or, b_or := b_or, m_or := ⟨a_or, i_or, k_or⟩,
        a_sub := _, d_sub := _, F_sub := F_sub, b_sub := b_sub, m_sub := ⟨a_sub, i_sub, k_sub⟩,
        a_rshift := _, d_rshift := _, F_rshift := F_rshift, b_rshift := b_rshift, m_rshift := ⟨a_rshift, i_rshift, k_rshift⟩,
        a_cut := _, d_cut := _, F_cut := F_cut, b_cut := b_cut, m_cut := ⟨a_cut, i_cut, k_cut⟩,
        a_bag := _, d_bag := _, F_bag := F_bag, b_bag := b_bag, g_bag := PySem.W.mg_of X G a_bag,
        a_draw := _, d_draw := _, F_draw := F_draw, b_draw := b_draw, g_draw := PySem.W.mg_of X G a_draw,
        a_offset := _, d_offset := _, F_offset := F_offset, b_offset := b_offset, g_offset := PySem.W.mg_of X G a_offset,
        a_odd := _, d_odd := _, F_odd := F_odd, b_odd := b_odd, g_odd := PySem.W.mg_of X G a_odd,
        a_made := _, d_made := _, F_made := F_made, b_made := b_made, g_made := PySem.W.mg_of X G a_made,
        a_moved := _, d_moved := _, F_moved := F_moved, b_moved := b_moved, g_moved := PySem.W.mg_of X G a_moved,
        a_end := _, d_end := _, F_end := F_end, b_end := b_end, g_end := PySem.W.mg_of X G a_end,
        a_law := _, d_law := _, F_law := F_law, b_law := b_law, g_law := PySem.W.mg_of X G a_law,
        z_bool := PySem.W.mg_none_of X G z_bool,
        z_int := PySem.W.mg_none_of X G z_int,
        z_isinstance := PySem.W.mg_none_of X G z_isinstance,
        z_iter := PySem.W.mg_none_of X G z_iter,
        z_len := PySem.W.mg_none_of X G z_len,
        z_list := PySem.W.mg_none_of X G z_list,
        z_range := PySem.W.mg_none_of X G z_range,
        z_repr := PySem.W.mg_none_of X G z_repr,
        z_set := PySem.W.mg_none_of X G z_set,
        z_sorted := PySem.W.mg_none_of X G z_sorted,
        z_tuple := PySem.W.mg_none_of X G z_tuple }, rfl, rfl⟩
  obtain ⟨T, e1, e2⟩ := T
  subst e1
  refine ⟨T.d_law, fun s v => by rw [e2]; exact .of_eq rfl, fun base _ _ => ok_law T⟩
theorem walk {l : PySem.W.OpenLaw} {q : Program} {loose : List Str} {XP : (Str → Option Value) → Heap → Prop} {YP : World → Heap → Prop} {d : DefRec} {K : Params → PySem.W.Frag} (hn : l.most = some 63) (hdf : d.params.defaults = [])
    (hY : ∀ (w : World) (h : Heap), YP w h → (K w.params).In h)
    (F : ∀ (w : World) (mg : Str → Option Value) (fa : Addr) (h : Heap), (K w.params).In h → h.Ns mainGlobals mg → mg d.name = some (.ref fa) →
      ∃ fd : FuncData, (∀ (s : Shared) (u : Value), BindsTo s fd ⟨[u], []⟩ [("_law_script", u)]) ∧ ∀ base : Heap, (K w.params).In base → base.Ns mainGlobals mg → Rp.GOk l.prog w (K w.params) mg base CX0 10 fa fd ["_law_script"] (sp_law (K w.params) 0)) :
    PySem.W.WalkO q loose XP YP l.row.toRowW d [] (fun f vs => PySem.call f vs) :=
  Rp.walk_gof (n := 63) (k := 10) (x := "_law_script") (CX := fun _ => CX0) (sp := fun w => sp_law (K w.params) 0) hn (by decide) hdf ⟨rfl, by decide, by decide⟩ hY F (fun w H a ns hl _ hS => ⟨a, ns, rfl, hS, hl, fun _ => rfl⟩) fun _ _ _ _ _ z => z
end K04

open PySem PySem.W PyProof.Rows in
set_option maxRecDepth 100000 in
set_option maxHeartbeats 0 in
theorem PySem.Challenge.cw_wheelchorus_k04_strokes_moved_and_cut_holds : PySem.Challenge.rw_wheelchorus_k04_strokes_moved_and_cut.Holds := by
  w_on; o_law; k_head; (case hw => w_witness2)
  k_fill
  refine K04.walk (l := PySem.Challenge.rw_wheelchorus_k04_strokes_moved_and_cut) rfl rfl (fun w h Y => PySem.W.kIn_of Y) ?F
  case F =>
    intro w mg fa h KX G hmg
    refine' K04.all_mk KX G hmg ?axC ?a_is_whole ?l_is_whole ?c_is_whole ?k_is_whole ?a_check_offset ?l_check_offset ?c_check_offset ?k_check_offset ?a_init ?i_init ?l_init ?c_init ?k_init ?e_init ?e2_init ?a_iter ?i_iter ?l_iter ?c_iter ?k_iter ?a_len ?i_len ?l_len ?c_len ?k_len ?a_eq ?i_eq ?l_eq ?c_eq ?k_eq ?a_or ?i_or ?l_or ?c_or ?k_or ?a_sub ?i_sub ?l_sub ?c_sub ?k_sub ?a_rshift ?i_rshift ?l_rshift ?c_rshift ?k_rshift ?a_cut ?i_cut ?l_cut ?c_cut ?k_cut ?a_bag ?l_bag ?c_bag ?k_bag ?a_draw ?l_draw ?c_draw ?k_draw ?a_offset ?l_offset ?c_offset ?k_offset ?a_odd ?l_odd ?c_odd ?k_odd ?a_made ?l_made ?c_made ?k_made ?a_moved ?l_moved ?c_moved ?k_moved ?a_end ?l_end ?c_end ?k_end ?a_law ?l_law ?c_law ?k_law ?pg ?hd ?po ?sa ?mk ?kc ?nO ?ica ?icn ?ict ?icm ?kS ?sf ?ox ?ol ?on ?oe ?oz ?e_aO ?e_xO ?e_bO ?e_sO ?e_gO ?e_hO ?e_nO ?e_iO ?e_tO ?e_lO ?e_cO ?e_kO ?e_eO ?e_tyO ?e_dO ?e_scO ?e_w ?e_nn ?e_kw ?e_kn ?e_ic ?e_ha ?e_hn ?e_ht ?e_hm ?f1_int ?f2_int ?f3_int ?f1_bool ?f2_bool ?f3_bool ?f1_NoneType ?f2_NoneType ?f3_NoneType ?f1_str ?f2_str ?f3_str ?f1_tuple ?f2_tuple ?f3_tuple ?f1_list ?f2_list ?f3_list ?rcl ?rcp ?z_bool ?z_int ?z_isinstance ?z_iter ?z_len ?z_list ?z_range ?z_repr ?z_set ?z_sorted ?z_tuple
    (case axC => k_is)
    (case a_is_whole => k_is)
    (case l_is_whole => k_is)
    (case c_is_whole => k_is)
    (case k_is_whole => k_is)
    (case a_check_offset => k_is)
    (case l_check_offset => k_is)
    (case c_check_offset => k_is)
    (case k_check_offset => k_is)
    (case a_init => k_is)
    (case i_init => k_is)
    (case l_init => k_is)
    (case c_init => k_is)
    (case k_init => k_is)
    (case e_init => k_is)
    (case e2_init => k_is)
    (case a_iter => k_is)
    (case i_iter => k_is)
    (case l_iter => k_is)
    (case c_iter => k_is)
    (case k_iter => k_is)
    (case a_len => k_is)
    (case i_len => k_is)
    (case l_len => k_is)
    (case c_len => k_is)
    (case k_len => k_is)
    (case a_eq => k_is)
    (case i_eq => k_is)
    (case l_eq => k_is)
    (case c_eq => k_is)
    (case k_eq => k_is)
    (case a_or => k_is)
    (case i_or => k_is)
    (case l_or => k_is)
    (case c_or => k_is)
    (case k_or => k_is)
    (case a_sub => k_is)
    (case i_sub => k_is)
    (case l_sub => k_is)
    (case c_sub => k_is)
    (case k_sub => k_is)
    (case a_rshift => k_is)
    (case i_rshift => k_is)
    (case l_rshift => k_is)
    (case c_rshift => k_is)
    (case k_rshift => k_is)
    (case a_cut => k_is)
    (case i_cut => k_is)
    (case l_cut => k_is)
    (case c_cut => k_is)
    (case k_cut => k_is)
    (case a_bag => k_is)
    (case l_bag => k_is)
    (case c_bag => k_is)
    (case k_bag => k_is)
    (case a_draw => k_is)
    (case l_draw => k_is)
    (case c_draw => k_is)
    (case k_draw => k_is)
    (case a_offset => k_is)
    (case l_offset => k_is)
    (case c_offset => k_is)
    (case k_offset => k_is)
    (case a_odd => k_is)
    (case l_odd => k_is)
    (case c_odd => k_is)
    (case k_odd => k_is)
    (case a_made => k_is)
    (case l_made => k_is)
    (case c_made => k_is)
    (case k_made => k_is)
    (case a_moved => k_is)
    (case l_moved => k_is)
    (case c_moved => k_is)
    (case k_moved => k_is)
    (case a_end => k_is)
    (case l_end => k_is)
    (case c_end => k_is)
    (case k_end => k_is)
    (case a_law => k_is)
    (case l_law => k_is)
    (case c_law => k_is)
    (case k_law => k_is)
    (case pg => k_is)
    (case hd => k_is)
    (case po => k_is)
    (case sa => k_is)
    (case mk => k_is)
    (case kc => k_is)
    (case nO => k_is)
    (case ica => k_is)
    (case icn => k_is)
    (case ict => k_is)
    (case icm => k_is)
    (case kS => first | k_is | kit_is | (decide +kernel))
    (case sf => k_is)
    (case ox => k_is)
    (case ol => k_is)
    (case on => first | rfl | (decide +kernel) | simp)
    (case oe => k_is)
    (case oz => k_is)
    (case e_aO => k_is)
    (case e_xO => k_is)
    (case e_bO => decide +kernel)
    (case e_sO => k_is)
    (case e_gO => k_is)
    (case e_hO => k_is)
    (case e_nO => k_is)
    (case e_iO => k_is)
    (case e_tO => k_is)
    (case e_lO => k_is)
    (case e_cO => k_is)
    (case e_kO => k_is)
    (case e_eO => k_is)
    (case e_tyO => k_is)
    (case e_dO => k_is)
    (case e_scO => first | rfl | k_is)
    (case e_w => k_is)
    (case e_nn => k_is)
    (case e_kw => first | k_is | kit_is | (decide +kernel))
    (case e_kn => first | k_is | kit_is | (decide +kernel))
    (case e_ic => k_is)
    (case e_ha => k_is)
    (case e_hn => k_is)
    (case e_ht => k_is)
    (case e_hm => k_is)
    (case f1_int => k_is)
    (case f2_int => k_is)
    (case f3_int => k_is)
    (case f1_bool => k_is)
    (case f2_bool => k_is)
    (case f3_bool => k_is)
    (case f1_NoneType => k_is)
    (case f2_NoneType => k_is)
    (case f3_NoneType => k_is)
    (case f1_str => k_is)
    (case f2_str => k_is)
    (case f3_str => k_is)
    (case f1_tuple => k_is)
    (case f2_tuple => k_is)
    (case f3_tuple => k_is)
    (case f1_list => k_is)
    (case f2_list => k_is)
    (case f3_list => k_is)
    (case rcl => k_is)
    (case rcp => first | exact .inl rfl | exact .inr ⟨_, rfl⟩)
    (case z_bool => k_is)
    (case z_int => k_is)
    (case z_isinstance => k_is)
    (case z_iter => k_is)
    (case z_len => k_is)
    (case z_list => k_is)
    (case z_range => k_is)
    (case z_repr => k_is)
    (case z_set => k_is)
    (case z_sorted => k_is)
    (case z_tuple => k_is)
