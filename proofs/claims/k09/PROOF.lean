import PyProof.Rows.All
import Wide.All
import OpenK.AllK
import Wide.FinOn
import HandS.ForMost
import HandS.SlotsOwn
import HandS.Wide
import HandS.IsInst
import HandS.Style
import HandS.Zip
import HandS.Walk
import HandS.Exc
import HandS.TryOnly
import HandS.ExcOwn
import HandS.WordsExc
import HandS.ExcIs
import KE.OsGo
import HandS.Codes
import HandS.Text
import KE.IntTextLaws
import KE.KExcIs
import KE.DataEq
import KE.KTupSum
import HandS.Defaults
import HandS.MakeKw
import HandS.MakeKwOnly
import HandS.ClsMeth
import HandS.Strs
import KE.GoesMore
import HandS.TupAny
import HandS.TupMul
import HandS.TryMany
import HandS.ExcCtx
import PyProof.InstNe
import KE.GoesEnumKw
import HandS.FStr
import PySem.Challenge.RW_wheelchorus_k09_town_texts_read_back
set_option Elab.async false
set_option linter.all false
set_option maxRecDepth 100000
set_option maxHeartbeats 4000000
/-! Numbers as lists of digits, their rows, and where two rows part. -/
namespace Wm
open PySem L2
def codes (ds : List Nat) : List Nat := ds.map (· + 48)
def numS (ds : List Nat) : Str := ⟨(codes ds).toArray⟩
structure Dig (ds : List Nat) : Prop where
  dig : ∀ d ∈ ds, 1 ≤ d ∧ d ≤ 9
structure Num (ds : List Nat) : Prop where
  pos : 1 ≤ ds.length
  len : ds.length ≤ 4
  dig : ∀ d ∈ ds, 1 ≤ d ∧ d ≤ 9
  sum : ds.sum ≤ 24
def blk (d : Nat) : List Int := (List.replicate d [1, 0]).flatten
def rowL : List Nat → List Int
  | [] => [0, 0]
  | d :: ds => blk d ++ ([0, 0] ++ rowL ds)
structure Diff (xs ys : List Int) (k : Nat) (a b : Int) : Prop where
  one : xs[k]? = some a
  two : ys[k]? = some b
  ne : a ≠ b
  eq : ∀ j, j < k → xs[j]? = ys[j]?
theorem Diff.symm {xs ys : List Int} {k : Nat} {a b : Int} (h : Diff xs ys k a b) : Diff ys xs k b a :=
  ⟨h.two, h.one, h.ne.symm, fun j l => (h.eq j l).symm⟩
theorem Diff.cons {xs ys : List Int} {k : Nat} {a b : Int} (z : Int) (h : Diff xs ys k a b) : Diff (z :: xs) (z :: ys) (k + 1) a b := by
  refine ⟨by simpa using h.one, by simpa using h.two, h.ne, fun j l => ?_⟩
  cases j with
  | zero => rfl
  | succ j => simpa using h.eq j (by omega)
theorem Diff.app {xs ys : List Int} {k : Nat} {a b : Int} : ∀ (p : List Int), Diff xs ys k a b → Diff (p ++ xs) (p ++ ys) (p.length + k) a b
  | [], h => by simpa using h
  | z :: p, h => by
    have ih := (Diff.app p h).cons z
    have e : (z :: p).length + k = p.length + k + 1 := by simp only [List.length_cons]; omega
    rw [e]
    exact ih
theorem Diff.uniq {xs ys : List Int} {k l : Nat} {a b c d : Int} (h : Diff xs ys k a b) (g : Diff xs ys l c d) : k = l ∧ a = c ∧ b = d := by
  have e : k = l := by
    rcases Nat.lt_trichotomy k l with x | x | x
    · exact absurd (by have q := g.eq k x; rw [h.one, h.two] at q; exact Option.some.inj q) h.ne
    · exact x
    · exact absurd (by have q := h.eq l x; rw [g.one, g.two] at q; exact Option.some.inj q) g.ne
  subst e
  exact ⟨rfl, Option.some.inj (h.one.symm.trans g.one), Option.some.inj (h.two.symm.trans g.two)⟩
theorem Diff.lt1 {xs ys : List Int} {k : Nat} {a b : Int} (h : Diff xs ys k a b) : k < xs.length := (List.getElem?_eq_some_iff.mp h.one).1
theorem Diff.lt2 {xs ys : List Int} {k : Nat} {a b : Int} (h : Diff xs ys k a b) : k < ys.length := (List.getElem?_eq_some_iff.mp h.two).1
theorem blk_add (d e : Nat) : blk (d + e) = blk d ++ blk e := by
  unfold blk
  rw [← List.replicate_append_replicate, List.flatten_append]
theorem blk_succ (e : Nat) : blk (e + 1) = [1, 0] ++ blk e := by
  rw [Nat.add_comm, blk_add]
  rfl
theorem blk_len (d : Nat) : (blk d).length = 2 * d := by
  induction d with
  | zero => rfl
  | succ d ih => rw [blk_succ, List.length_append, ih]; simp only [List.length_cons, List.length_nil]; omega
theorem row_less (d e : Nat) (ds es : List Nat) (h : d < e) : Diff (rowL (d :: ds)) (rowL (e :: es)) (2 * d) 0 1 := by
  obtain ⟨f, rfl⟩ : ∃ f, e = d + (f + 1) := ⟨e - d - 1, by omega⟩
  have h0 : Diff ([0, 0] ++ rowL ds) ([1, 0] ++ (blk f ++ ([0, 0] ++ rowL es))) 0 0 1 := ⟨rfl, rfl, by decide, fun j l => absurd l (Nat.not_lt_zero _)⟩
  have h1 := h0.app (blk d)
  rw [blk_len, Nat.add_zero] at h1
  have e1 : rowL ((d + (f + 1)) :: es) = blk d ++ ([1, 0] ++ (blk f ++ ([0, 0] ++ rowL es))) := by
    show blk (d + (f + 1)) ++ _ = _
    rw [blk_add, blk_succ, List.append_assoc, List.append_assoc]
  rw [e1]
  exact h1
theorem rows_part : ∀ (ds es : List Nat), (∀ d ∈ ds, 1 ≤ d) → (∀ e ∈ es, 1 ≤ e) →
    ds = es ∨ (∃ k, Diff (rowL ds) (rowL es) k 1 0 ∧ es < ds) ∨ (∃ k, Diff (rowL ds) (rowL es) k 0 1 ∧ ds < es)
  | [], [], _, _ => .inl rfl
  | [], e :: es, _, h => by
    obtain ⟨f, rfl⟩ : ∃ f, e = f + 1 := ⟨e - 1, by have := h e (by simp); omega⟩
    refine .inr (.inr ⟨0, ⟨rfl, ?_, by decide, fun j l => absurd l (Nat.not_lt_zero _)⟩, List.nil_lt_cons _ _⟩)
    show (blk (f + 1) ++ _)[0]? = _
    rw [blk_succ]
    rfl
  | d :: ds, [], h, _ => by
    obtain ⟨f, rfl⟩ : ∃ f, d = f + 1 := ⟨d - 1, by have := h d (by simp); omega⟩
    refine .inr (.inl ⟨0, ⟨?_, rfl, by decide, fun j l => absurd l (Nat.not_lt_zero _)⟩, List.nil_lt_cons _ _⟩)
    show (blk (f + 1) ++ _)[0]? = _
    rw [blk_succ]
    rfl
  | d :: ds, e :: es, h, g => by
    rcases Nat.lt_trichotomy d e with x | x | x
    · exact .inr (.inr ⟨_, row_less d e ds es x, List.cons_lt_cons_iff.mpr (.inl x)⟩)
    · subst x
      rcases rows_part ds es (fun y m => h y (List.mem_cons_of_mem _ m)) (fun y m => g y (List.mem_cons_of_mem _ m)) with q | ⟨k, q, l⟩ | ⟨k, q, l⟩
      · exact .inl (by rw [q])
      · exact .inr (.inl ⟨_, (q.app [0, 0]).app (blk d), List.cons_lt_cons_iff.mpr (.inr ⟨rfl, l⟩)⟩)
      · exact .inr (.inr ⟨_, (q.app [0, 0]).app (blk d), List.cons_lt_cons_iff.mpr (.inr ⟨rfl, l⟩)⟩)
    · exact .inr (.inl ⟨_, (row_less e d es ds x).symm, List.cons_lt_cons_iff.mpr (.inl x)⟩)
theorem codes_lt : ∀ (ds es : List Nat), ds < es → codes ds < codes es
  | [], [], h => absurd h (List.lt_irrefl _)
  | [], _ :: _, _ => List.nil_lt_cons _ _
  | _ :: _, [], h => absurd h (List.not_lt_nil _)
  | d :: ds, e :: es, h => by
    rcases List.cons_lt_cons_iff.mp h with x | ⟨x, y⟩
    · exact List.cons_lt_cons_iff.mpr (.inl (Nat.add_lt_add_right x 48))
    · exact List.cons_lt_cons_iff.mpr (.inr ⟨by rw [x], codes_lt ds es y⟩)
theorem codes_inj : ∀ (ds es : List Nat), codes ds = codes es → ds = es
  | [], [], _ => rfl
  | [], _ :: _, h => by simp [codes] at h
  | _ :: _, [], h => by simp [codes] at h
  | d :: ds, e :: es, h => by
    have h1 : d + 48 = e + 48 := (List.cons.inj h).1
    have h2 : codes ds = codes es := (List.cons.inj h).2
    rw [codes_inj ds es h2, show d = e by omega]
theorem numS_cps (ds : List Nat) : (numS ds).cps.toList = codes ds := rfl
theorem numS_inj {ds es : List Nat} (h : numS ds = numS es) : ds = es := codes_inj _ _ (by rw [← numS_cps, h, numS_cps])
theorem numS_len (ds : List Nat) : (numS ds).length = ds.length := by
  show (codes ds).toArray.size = _
  simp [codes]
theorem lt_asymm' {a b : List Nat} (h : a < b) : ¬ b < a := fun g => List.lt_irrefl _ (List.lt_trans h g)
theorem rowL_le : ∀ ds : List Nat, (∀ d ∈ ds, d ≤ 9) → (rowL ds).length ≤ 20 * ds.length + 2
  | [], _ => by decide
  | d :: ds, h => by
    have ih := rowL_le ds fun y m => h y (List.mem_cons_of_mem _ m)
    have hd := h d (by simp)
    show (blk d ++ ([0, 0] ++ rowL ds)).length ≤ _
    rw [List.length_append, List.length_append, blk_len]
    simp only [List.length_cons, List.length_nil]
    omega
end Wm

/-! Digits as signs, texts of digits cut and joined; what a heap keeps. -/
namespace Wm
open PySem L2
theorem dig_cases {d : Nat} (h : 1 ≤ d ∧ d ≤ 9) : d = 1 ∨ d = 2 ∨ d = 3 ∨ d = 4 ∨ d = 5 ∨ d = 6 ∨ d = 7 ∨ d = 8 ∨ d = 9 := by omega
theorem dig_int {d : Nat} (h : 1 ≤ d ∧ d ≤ 9) : PySem.intText? ⟨#[d + 48]⟩ = some (d : Int) := by
  rcases dig_cases h with e | e | e | e | e | e | e | e | e <;> subst e <;> decide +kernel
theorem dig_in {d : Nat} (h : 1 ≤ d ∧ d ≤ 9) : (d + 48) ∈ ("123456789" : Str).cps.toList := by
  rcases dig_cases h with e | e | e | e | e | e | e | e | e <;> subst e <;> decide +kernel
theorem dig_str {d : Nat} (h : 1 ≤ d ∧ d ≤ 9) : ((toString (d : Int) : String) : Str) = numS [d] := by
  rcases dig_cases h with e | e | e | e | e | e | e | e | e <;> subst e <;> decide +kernel
theorem numS_app (ds es : List Nat) : numS ds ++ numS es = numS (ds ++ es) := by
  refine PyProof.Rows.ext_toList ?_
  show ((numS ds).cps ++ (numS es).cps).toList = _
  rw [Array.toList_append, numS_cps, numS_cps, numS_cps]
  simp [codes]
theorem numS_nil : numS [] = ("" : Str) := by decide +kernel
theorem numS_take (ds : List Nat) (k : Nat) : cutS (numS ds) none (some (k : Int)) = numS (ds.take k) := by
  refine PyProof.Rows.ext_toList ?_
  show ((codes ds).drop 0).take (HT.sIx (numS ds).length (numS ds).length (some (k : Int)) - 0) = codes (ds.take k)
  rw [numS_len, HT.sIx_nat, List.drop_zero, Nat.sub_zero]
  simp only [codes, ← List.map_take]
  congr 1
  rw [List.take_eq_take_iff]
  omega
theorem numS_last (ds : List Nat) : cutS (numS ds) none (some (-1)) = numS ds.dropLast := by
  refine PyProof.Rows.ext_toList ?_
  show ((codes ds).drop 0).take (HT.sIx (numS ds).length (numS ds).length (some (-1)) - 0) = codes ds.dropLast
  rw [numS_len, List.drop_zero, Nat.sub_zero, List.dropLast_eq_take]
  simp only [codes, ← List.map_take]
  have e : HT.sIx ds.length ds.length (some (-1)) = ds.length - 1 := by
    unfold HT.sIx
    simp only [show (-1 : Int) < 0 by decide, if_true]
    omega
  rw [e]
theorem numS_at (ds : List Nat) (i : Nat) (hi : i < ds.length) : (numS ds).cps[i]? = some (ds[i] + 48) := by
  show ((codes ds).toArray)[i]? = _
  simp [codes, hi]
theorem numS_size (ds : List Nat) : (numS ds).cps.size = ds.length := numS_len ds

/-! heaps -/
theorem same_new {H : Hp} {p : Addr} {o : HO} (n : H p = none) : Same H (upd H p o) := fun b u e => by
  rw [upd_ne (ne_of_none e n)]
  exact e
theorem at_old {H : Hp} {p q : Addr} {o u : HO} (h : H p = some o) (n : H q = none) : upd H q u p = some o := by
  rw [upd_ne (ne_of_none h n)]
  exact h
theorem sameT {K : PySem.W.Frag} {H H' : Hp} {a : Addr} {xs : List V} (e : Same H H') (h : SqT K H a xs) : SqT K H' a xs := by
  rcases h with (h | ⟨o, h⟩) | h
  · exact .inl (.inl (e _ _ h))
  · exact .inl (.inr ⟨o, e _ _ h⟩)
  · exact .inr h
/-- what stood stands, but for what H did not know and the object at p, which is new since -/
theorem same_mut {H H' : Hp} {p : Addr} {o : HO} (s : Same H H') (n : H p = none) : Same H (upd H' p o) := fun b u e => by
  rw [upd_ne (ne_of_none e n)]
  exact s b u e
/-- the bag's list at b, its cells at c -/
def Cel (H : Hp) (b c : Addr) : Prop := ∃ x k m z : Int, H b = some (.lst [.int x, .ref c, .int k, .int m, .int z])
structure But (b : Addr) (H H' : Hp) : Prop where
  keep : ∀ p o, p ≠ b → H p = some o → H' p = some o
  cel : ∀ c, Cel H b c → Cel H' b c
instance {b : Addr} {H H' : Hp} : CoeFun (But b H H') (fun _ => ∀ p o, p ≠ b → H p = some o → H' p = some o) := ⟨But.keep⟩
theorem But.refl (b : Addr) (H : Hp) : But b H H := ⟨fun _ _ _ h => h, fun _ h => h⟩
theorem But.trans {b : Addr} {H H1 H2 : Hp} (x : But b H H1) (y : But b H1 H2) : But b H H2 := ⟨fun p o n h => y.keep p o n (x.keep p o n h), fun c h => y.cel c (x.cel c h)⟩
theorem But.of {b : Addr} {H H' : Hp} (s : Same H H') : But b H H' := ⟨fun p o _ h => s p o h, fun _ ⟨x, k, m, z, h⟩ => ⟨x, k, m, z, s _ _ h⟩⟩
theorem But.set {b c : Addr} {H : Hp} {x k m z x' k' m' z' : Int} (hb : H b = some (.lst [.int x, .ref c, .int k, .int m, .int z])) : But b H (upd H b (.lst [.int x', .ref c, .int k', .int m', .int z'])) :=
  ⟨fun p u n h => by
    rw [upd_ne n]
    exact h, fun c2 ⟨a1, a2, a3, a4, h⟩ => by
    rw [hb] at h
    have h := Option.some.inj h
    injection h with h
    injection h with h1 h
    injection h with h2 h
    injection h2 with h2
    subst h2
    exact ⟨x', k', m', z', upd_same⟩⟩
/-- the bag of draws: its cells' list and its four numbers -/
def Bag (H : Hp) (b : Addr) (n : Nat) : Prop :=
  ∃ (c : Addr) (x k m z : Int) (ns : List Int), H b = some (.lst [.int x, .ref c, .int k, .int m, .int z]) ∧ H c = some (.lst (ns.map V.int)) ∧ 0 ≤ k ∧ 0 ≤ m ∧ m ≤ (n : Int)
theorem bag_ne {H : Hp} {b c : Addr} {x k m z : Int} {ns : List Int} (hb : H b = some (.lst [.int x, .ref c, .int k, .int m, .int z])) (hc : H c = some (.lst (ns.map V.int))) : c ≠ b := by
  intro e
  subst e
  rw [hb] at hc
  have q := Option.some.inj hc
  have q2 : ([.int x, .ref c, .int k, .int m, .int z] : List V) = ns.map V.int := by injection q
  cases ns with
  | nil => simp at q2
  | cons u r => cases r with
    | nil => simp at q2
    | cons v r => simp at q2
theorem Bag.mono {H : Hp} {b : Addr} {n m : Nat} (h : Bag H b n) (l : n ≤ m) : Bag H b m := by
  obtain ⟨c, x, k, q, z, ns, h1, h2, h3, h4, h5⟩ := h
  exact ⟨c, x, k, q, z, ns, h1, h2, h3, h4, by omega⟩
theorem Bag.keep {H H' : Hp} {b : Addr} {n : Nat} (h : Bag H b n) (s : Same H H') : Bag H' b n := by
  obtain ⟨c, x, k, q, z, ns, h1, h2, h3, h4, h5⟩ := h
  exact ⟨c, x, k, q, z, ns, s _ _ h1, s _ _ h2, h3, h4, h5⟩
theorem Cel.uniq {H : Hp} {b c d : Addr} (h : Cel H b c) (g : Cel H b d) : c = d := by
  obtain ⟨x, k, m, z, h⟩ := h
  obtain ⟨x', k', m', z', g⟩ := g
  rw [h] at g
  have g := Option.some.inj g
  injection g with g
  injection g with g1 g
  injection g with g2 g
  injection g2
theorem But.put {b D : Addr} {H H' : Hp} {o : HO} (e : But b H H') (n : H D = none) : But b H (upd H' D o) := by
  refine ⟨fun p u pb h => ?_, fun c h => ?_⟩
  · rw [upd_ne (ne_of_none h n)]
    exact e.keep p u pb h
  · have h0 := h
    obtain ⟨x, k, m, z, h⟩ := h
    obtain ⟨x', k', m', z', g⟩ := e.cel c h0
    exact ⟨x', k', m', z', by rw [upd_ne (ne_of_none h n)]; exact g⟩
theorem Bag.put {b D : Addr} {H H' : Hp} {o : HO} {n m : Nat} (bag : Bag H b n) (f : H D = none) (e : But b H H') (bag2 : Bag H' b m) : Bag (upd H' D o) b m := by
  obtain ⟨c, x, k, q, z, ns, h1, h2, h3, h4, h5⟩ := bag
  obtain ⟨c', x', k', q', z', ns', g1, g2, g3, g4, g5⟩ := bag2
  have ec : c = c' := Cel.uniq (e.cel c ⟨x, k, q, z, h1⟩) ⟨x', k', q', z', g1⟩
  subst ec
  exact ⟨c, x', k', q', z', ns', by rw [upd_ne (ne_of_none h1 f)]; exact g1, by rw [upd_ne (ne_of_none h2 f)]; exact g2, g3, g4, g5⟩
end Wm
namespace Wm
open PySem L2
theorem yesT {σ : L2.St} {H : Hp} {A B : Hp → Prop} (h : A H) : tYes σ H (fun b H3 => if b = true then A H3 else B H3) := by
  show (if true = true then A H else B H)
  rw [if_pos rfl]
  exact h
end Wm

/-! row[::2] of a list or a tuple; a loop over a list or a tuple. -/
namespace Hf
open PySem PySem.Spec PyProof.Rows L2
def ev2 {α : Type} : List α → List α
  | [] => []
  | [x] => [x]
  | x :: _ :: r => x :: ev2 r
theorem ev2_le {α : Type} : ∀ xs : List α, (ev2 xs).length ≤ xs.length
  | [] => Nat.le_refl _
  | [_] => Nat.le_refl _
  | x :: y :: r => by
    have ih := ev2_le r
    show (ev2 r).length + 1 ≤ r.length + 2
    omega
theorem ev2_mem {α : Type} {z : α} : ∀ {xs : List α}, z ∈ ev2 xs → z ∈ xs
  | [], h => h
  | [_], h => h
  | x :: y :: r, h => by
    rcases List.mem_cons.mp h with e | e
    · rw [e]; simp
    · exact List.mem_cons_of_mem _ (List.mem_cons_of_mem _ (ev2_mem e))
theorem ev2_map {α β : Type} (f : α → β) : ∀ xs : List α, ev2 (xs.map f) = (ev2 xs).map f
  | [] => rfl
  | [_] => rfl
  | x :: y :: r => by
    show f x :: ev2 (r.map f) = f x :: (ev2 r).map f
    rw [ev2_map f r]
theorem ev2_pick {α : Type} : ∀ xs : List α, (List.range ((xs.length + 1) / 2)).filterMap (fun k => xs[2 * k]?) = ev2 xs
  | [] => by simp [ev2]
  | [x] => by
    rw [show ([x].length + 1) / 2 = 1 by simp, show List.range 1 = [0] by decide]
    simp [ev2]
  | x :: y :: r => by
    have ih := ev2_pick r
    have e : ((x :: y :: r).length + 1) / 2 = (r.length + 1) / 2 + 1 := by
      show (r.length + 1 + 1 + 1) / 2 = _
      omega
    rw [e, List.range_succ_eq_map, List.filterMap_cons]
    show x :: _ = x :: ev2 r
    rw [List.filterMap_map, ← ih]
    rfl
theorem ev2_vals : ∀ {xs : List V} {us : List Value}, Vals xs us → Vals (ev2 xs) (ev2 us)
  | [], _, h => by cases h; exact .nil
  | [x], _, h => by
    cases h with
    | cons a b =>
      cases b
      exact .cons a .nil
  | x :: y :: r, _, h => by
    cases h with
    | cons a b =>
      cases b with
      | cons c d => exact .cons a (ev2_vals d)
theorem pick2 (items : Array Value) : slicePick items none none (some 2) = (ev2 items.toList).toArray := by
  have e := ev2_pick items.toList
  unfold slicePick
  have b : sliceBounds none none (some 2) items.size = (0, (items.size : Int), 2) := by
    first
    | rfl
    | simp [sliceBounds]
  rw [b]
  show ((sliceRange 0 (items.size : Int) 2).filterMap (items[·]?)).toArray = _
  have r : sliceRange 0 (items.size : Int) 2 = (List.range ((items.size + 1) / 2)).map fun k => 2 * k := by
    unfold sliceRange
    have h1 : (2 : Int) > 0 := by decide
    by_cases h : (0 : Int) < (items.size : Int)
    · have e : ((items.size : Int) - 0 + 2 - 1) / 2 = (((items.size + 1) / 2 : Nat) : Int) := by omega
      simp only [h1, if_true, h, e, Int.toNat_natCast]
      apply List.map_congr_left
      intro k _
      omega
    · have e : items.size = 0 := by omega
      simp [e]
  rw [r, List.filterMap_map]
  rw [Array.length_toList] at e
  rw [← e]
  refine congrArg List.toArray (congrArg (fun f => List.filterMap f _) (funext fun k => ?_))
  show items[2 * k]? = _
  rw [Array.getElem?_toList]
section
variable {prog : Program} {w : World} {A : Around} {E : Value → Shared → Prop} {s : Shared}
theorem places2 (n : Nat) : Builtin.Slice.slicePlaces 0 (n : Int) 2 = (n + 1) / 2 := by
  unfold Builtin.Slice.slicePlaces
  have h1 : (2 : Int) > 0 := by omega
  simp only [h1, if_true]
  split <;> omega
theorem adjust2 (n : Nat) : Builtin.Slice.sliceAdjust none none 2 (n : Int) = (0, (n : Int)) := by
  have h1 : ¬ ((2 : Int) < 0) := by omega
  unfold Builtin.Slice.sliceAdjust
  simp only [h1, if_false]
theorem sliceApplied2 {sl : Addr} {t : Tok} {n : Nat} {Q : Int × Int × Nat → Shared → Prop} (hs : s.heap.IsSliceOf sl .none .none (.int 2 t))
    (h : Q (0, 2, (n + 1) / 2) s) : wpAny (model prog w) A (Builtin.Slice.sliceApplied (.ref sl) (pure (n : Int))) Q E s := by
  obtain ⟨os, hos, hcs, hds⟩ := id hs
  unfold Builtin.Slice.sliceApplied Builtin.Slice.sliceFields
  refine wpAny_bind (wpAny_bind (wpAny_field hos hds (x := .none) rfl (wpAny_bind (wpAny_field hos hds (x := .none) rfl (wpAny_bind (wpAny_field hos hds (x := .int 2 t) rfl (wpAny_pure ?_)))))))
  refine wpAny_bind (slicePart_int ?_)
  show wpAny _ _ (if ((2 : Int) == 0) = true then _ else _) _ _ s
  rw [if_neg (by decide)]
  refine wpAny_bind (HT.slicePart_ .none (wpAny_bind (HT.slicePart_ .none (wpAny_bind (wpAny_pure ?_)))))
  show wpAny _ _ (match Builtin.Slice.sliceAdjust none none 2 (n : Int) with | (lo, hi) => pure (lo, (2 : Int), Builtin.Slice.slicePlaces lo hi 2)) _ _ s
  rw [adjust2 n]
  show wpAny _ _ (pure ((0 : Int), (2 : Int), Builtin.Slice.slicePlaces (0 : Int) (n : Int) 2)) _ _ s
  rw [places2]
  exact wpAny_pure h
theorem pick2t (xs : Array Value) : ((List.range ((xs.size + 1) / 2)).filterMap fun (m : Nat) => xs[((0 : Int) + (m : Int) * 2).toNat]?).toArray = (ev2 xs.toList).toArray := by
  have e : (fun (m : Nat) => xs[((0 : Int) + (m : Int) * 2).toNat]?) = fun m => xs.toList[2 * m]? := by
    funext m
    have : ((0 : Int) + (m : Int) * 2).toNat = 2 * m := by omega
    rw [this, Array.getElem?_toList]
  rw [e, ← ev2_pick xs.toList, Array.length_toList]
theorem getItem_tuple_2 {t sl : Addr} {tk : Tok} {items : Array Value} {Q : Value → Shared → Prop} (ht : IsTup s.heap t items) (hs : s.heap.IsSliceOf sl .none .none (.int 2 tk))
    (h : Q (.ref s.heap.objs.size) { s with heap := s.heap.push { cls := .type "tuple", data := .seq (ev2 items.toList).toArray } })
    (hsz : items.size ≤ sizeLine) : wpAny (model prog w) A (getItem (.ref t) (.ref sl)) Q E s := by
  have htake : sizeOk (.seq (ev2 items.toList).toArray) := by
    show (ev2 items.toList).toArray.size ≤ sizeLine
    rw [List.size_toArray]
    exact Nat.le_trans (ev2_le items.toList) (by rw [Array.length_toList]; exact hsz)
  obtain ⟨os, hos, hcs, hds⟩ := id hs
  have hTs : s.TypeIs (.ref sl) "slice" := ⟨os, hos, hcs⟩
  unfold getItem
  try with_reducible refine wpAny_holding ?_
  first | refine wpAny_bind (wpAny_pure ?_) | skip
  refine wpAny_bind (wpAny_sequenceKey ht.typeIs (by decide) ?_)
  refine wpAny_bind (wpAny_callSpecial?_slot (name := Str.ofString "__getitem__") ht.typeIs PyProof.Rows.slot_tuple_getitem
    (wpAny_call_entry PyProof.Rows.slot_tuple_getitem ht.typeIs entry_tuple_getitem ?_ (args_tuple_getitem _ _)))
  show wpAny _ _ (Builtin.Tuple.tupleItemsOf (.ref t) >>= _) _ _ s
  refine wpAny_bind (tupleItemsOf_ ht ?_)
  refine wpAny_bind (wpAny_typeOf hTs ?_)
  rw [if_pos (by decide)]
  refine wpAny_bind (sliceApplied2 hs ?_)
  have hno : ¬ (((0 : Int) == 0 && (2 : Int) == 1 && ((items.size + 1) / 2) == items.size) = true) := by
    intro q
    rw [Bool.and_eq_true, Bool.and_eq_true] at q
    exact absurd q.1.2 (by decide)
  show wpAny _ _ (if ((0 : Int) == 0 && (2 : Int) == 1 && ((items.size + 1) / 2) == items.size) = true then _ else _) _ _ s
  rw [if_neg hno, pick2t]
  first
    | exact wpAny_bind (m := Builtin.Tuple.tupleExact _) (wpAny_newObj_type (wpAny_pure ⟨_, rfl, wpAny_pure h⟩) htake)
    | exact wpAny_bind (m := Builtin.Tuple.tupleExact _) (wpAny_newObj_type (wpAny_bind (wpAny_pure (wpAny_pure ⟨_, rfl, wpAny_pure h⟩))) htake)
    | exact wpAny_bind (wpAny_bind (m := Builtin.Tuple.tupleExact _) (wpAny_newObj_type (wpAny_pure (wpAny_pure ⟨_, rfl, wpAny_pure h⟩)) htake))
    | exact wpAny_bind (wpAny_bind (m := Builtin.Tuple.tupleExact _) (wpAny_newObj_type (wpAny_pure ⟨_, rfl, wpAny_pure h⟩) htake))
end
section
variable {X : Cx}
def tHalf (K : PySem.W.Frag) (te : TE) : TE := fun σ H Q => te σ H fun x H1 => ∃ a xs, x = .ref a ∧ (SqL K H1 a xs ∨ SqT K H1 a xs) ∧
  ∀ p H2, (∀ b o, H1 b = some o → H2 b = some o) → H1 p = none → (SqL K H2 p (ev2 xs) ∨ SqT K H2 p (ev2 xs)) → Q (.ref p) H2
theorem new_same {H : Hp} {p : Addr} {o : HO} (n : H p = none) : ∀ b u, H b = some u → upd H p o b = some u := fun b u e => by
  rw [upd_ne (ne_of_none e n)]
  exact e
theorem pe_half {e : Expr} {te : TE} {k : Nat} {p1 p3 pos : Pos} (he : PE X e te) : PE X (.Subscript e (.Slice none none (some (.Constant (.int 2) k p1)) p3) pos) (tHalf X.K te) := by
  refine ⟨fun pins s σ H Q I h => ?_⟩
  refine Subscript_ (thn (he.run pins s σ H _ I h) fun v s1 ⟨x, H1, I1, r1, q1⟩ => ?_)
  obtain ⟨a, xs, ex, hq, q⟩ := q1
  subst ex
  cases r1
  have hst : PO X (some (.Constant (.int 2) k p1)) (tPart (tC (.int 2))) := po_some pe_int
  refine wpAny_Slice (thn (po_none.run pins s1 σ H1 (fun o H2 => o = none ∧ H2 = H1) I1 ⟨rfl, rfl⟩) fun vl s2 ⟨l, H2, I2, pl, el, e2⟩ => ?_)
  subst el e2
  refine thn (po_none.run pins s2 σ H2 (fun o H3 => o = none ∧ H3 = H2) I2 ⟨rfl, rfl⟩) fun vu s3 ⟨u, H3, I3, pu, eu, e3⟩ => ?_
  subst eu e3
  refine thn (hst.run pins s3 σ H3 (fun o H4 => o = some 2 ∧ H4 = H3) I3 ⟨2, rfl, rfl, rfl⟩) fun vs s4 ⟨o, H4, I4, ps, eo, e4⟩ => ?_
  subst eo e4
  have I5 : Inv X pins σ H4 { s4 with heap := s4.heap.push { cls := .type "slice", data := .fields #[vl, vu, vs] } } := I4.kept (t' := s4.toks) fun b ob q => Heap.get?_push_of_some _ q
  rcases hq with hx | hx
  · obtain ⟨its, r, ht, hz⟩ := I5.list hx
    have hlen := r.length
    show wpAny (model X.prog X.w) X.A (subscriptTail e (.Slice none none (some (.Constant (.int 2) k p1)) p3) (.ref a) (.ref s4.heap.objs.size)) (EP X pins σ Q) X.xe { s4 with heap := s4.heap.push { cls := .type "slice", data := .fields #[vl, vu, vs] } }
    refine tail_any (ops := [.ref a, .ref s4.heap.objs.size]) ht.isList.typeIs (PySem.slot_list_getitem.lookup) ?_ (by with_unfolding_all rfl)
    refine wpAny_getItem_list_slice ht.isList (Heap.IsSliceOf.new _ vl vu vs) pl pu ps (by decide) ?_ (by rw [List.size_toArray]; omega)
    rw [pick2]
    refine ⟨.ref _, _, I5.laid (t' := s4.toks) (o := .lst (ev2 xs)) (fun b ob q => Heap.get?_push_of_some _ q) (Nat.le_refl _) ?_, rfl, q _ _ (new_same (I5.hok.fresh (Nat.le_refl _))) (I5.hok.fresh (Nat.le_refl _)) (.inl (SqL.of upd_same))⟩
    exact ⟨Nat.le_trans (ev2_le xs) hz, _, 0, ev2_vals r, Heap.get?_push_size _ rfl⟩
  · obtain ⟨its, r, ht, hz⟩ := I5.tuple hx
    have hlen := r.length
    cases pl
    cases pu
    cases ps
    show wpAny (model X.prog X.w) X.A (subscriptTail e (.Slice none none (some (.Constant (.int 2) k p1)) p3) (.ref a) (.ref s4.heap.objs.size)) (EP X pins σ Q) X.xe { s4 with heap := s4.heap.push { cls := .type "slice", data := .fields #[Value.none, Value.none, .int 2 _] } }
    refine tail_any (ops := [.ref a, .ref s4.heap.objs.size]) ht.typeIs (PyProof.Rows.slot_tuple_getitem.lookup) ?_ (by with_unfolding_all rfl)
    refine getItem_tuple_2 ht (Heap.IsSliceOf.new _ _ _ _) ?_ (by rw [List.size_toArray]; omega)
    refine ⟨.ref _, _, I5.laid (t' := s4.toks) (o := .tup (ev2 xs)) (fun b ob q => Heap.get?_push_of_some _ q) (Nat.le_refl _) ?_, rfl, q _ _ (new_same (I5.hok.fresh (Nat.le_refl _))) (I5.hok.fresh (Nat.le_refl _)) (.inr (SqT.of upd_same))⟩
    exact ⟨Nat.le_trans (ev2_le xs) hz, _, ev2_vals r, IsTup.new _ _⟩
theorem keepL {K : PySem.W.Frag} {H H' : Hp} {a : Addr} {xs : List V} (e : Same H H') (h : SqL K H a xs) : SqL K H' a xs := by
  rcases h with (h | ⟨o, h⟩) | h
  · exact .inl (.inl (e _ _ h))
  · exact .inl (.inr ⟨o, e _ _ h⟩)
  · exact .inr h
theorem keepT {K : PySem.W.Frag} {H H' : Hp} {a : Addr} {xs : List V} (e : Same H H') (h : SqT K H a xs) : SqT K H' a xs := by
  rcases h with (h | ⟨o, h⟩) | h
  · exact .inl (.inl (e _ _ h))
  · exact .inl (.inr ⟨o, e _ _ h⟩)
  · exact .inr h
def iSeq (K : PySem.W.Frag) (tl : TE) : TI := fun σ H R => tl σ H fun x H1 => ∃ a xs, x = .ref a ∧ (SqL K H1 a xs ∨ SqT K H1 a xs) ∧
  ∀ J G, Walk J xs.length G (YAt xs) → (∀ H', Same H1 H' → G H') → R J H1
theorem pi_seq {tg l : Expr} {tl : TE} (hl : PE X l tl) : PI X tg l (iSeq X.K tl) := by
  refine ⟨fun pins s σ H R I h => ?_⟩
  refine thn (hl.run pins s σ H _ I h) fun v s1 ⟨x, H1, I1, r1, q1⟩ => ?_
  obtain ⟨a, xs, e, hq, q⟩ := q1
  subst e
  cases r1
  rcases hq with hq | hq
  · have q := q _ _ walk_list fun H' s => keepL s hq
    obtain ⟨its, rv, p, hz⟩ := I1.list hq
    refine wpAny_pyIter_list p.isList ?_
    refine ⟨s1.heap.objs.size, [s1.heap.objs.size], _, _, H1, rfl, I1.kept (t' := s1.toks) fun b o e => Heap.get?_push_of_some _ e, turn_list a _, ⟨_, Heap.get?_push_size _ rfl, rfl, rfl⟩, fun b hb => ?_, q⟩
    have e : b = s1.heap.objs.size := by simpa using hb
    subst e
    exact I1.fpOk (Nat.le_refl _) (I1.hok.fresh (Nat.le_refl _))
  · have q := q _ _ walk_tup fun H' s => keepT s hq
    obtain ⟨its, rv, p, hz⟩ := I1.tuple hq
    refine wpAny_pyIter_tuple (show s1.heap.IsTuple a its.toArray from p) ?_
    refine ⟨s1.heap.objs.size, [s1.heap.objs.size], _, _, H1, rfl, I1.kept (t' := s1.toks) fun b o e => Heap.get?_push_of_some _ e, turn_tuple a _, ⟨_, Heap.get?_push_size _ rfl, rfl, rfl⟩, fun b hb => ?_, q⟩
    have e : b = s1.heap.objs.size := by simpa using hb
    subst e
    exact I1.fpOk (Nat.le_refl _) (I1.hok.fresh (Nat.le_refl _))
end
end Hf

/-! Rows read back: strokes, steps, groups. -/
namespace Wm
open PySem L2 TL
/-- the rows of the first digits, without the two ticks at the end -/
def pre : List Nat → List Int
  | [] => []
  | d :: ds => blk d ++ ([0, 0] ++ pre ds)
theorem pre_app : ∀ (ds : List Nat) (d : Nat), pre (ds ++ [d]) = pre ds ++ (blk d ++ [0, 0])
  | [], d => by show blk d ++ ([0, 0] ++ []) = [] ++ _; simp
  | e :: ds, d => by
    show blk e ++ ([0, 0] ++ pre (ds ++ [d])) = (blk e ++ ([0, 0] ++ pre ds)) ++ _
    rw [pre_app ds d]
    simp only [List.append_assoc]
theorem pre_row : ∀ ds : List Nat, pre ds ++ [0, 0] = rowL ds
  | [] => rfl
  | d :: ds => by
    show (blk d ++ ([0, 0] ++ pre ds)) ++ _ = blk d ++ ([0, 0] ++ rowL ds)
    rw [← pre_row ds]
    simp only [List.append_assoc]
theorem blk_V (d : Nat) : (List.replicate d [V.int 1, V.int 0]).flatten = (blk d).map V.int := by
  unfold blk
  rw [List.map_flatten, List.map_replicate]
  rfl
theorem pre_le : ∀ ds : List Nat, (∀ d ∈ ds, d ≤ 9) → (pre ds).length ≤ 20 * ds.length
  | [], _ => by decide
  | d :: ds, h => by
    have ih := pre_le ds fun y m => h y (List.mem_cons_of_mem _ m)
    have hd := h d (by simp)
    show (blk d ++ ([0, 0] ++ pre ds)).length ≤ _
    rw [List.length_append, List.length_append, blk_len]
    simp only [List.length_cons, List.length_nil]
    omega
theorem take_succ_app {α : Type} {l : List α} {i : Nat} {x : α} (h : l[i]? = some x) : l.take (i + 1) = l.take i ++ [x] := by
  rw [List.take_add_one, h]
  rfl
theorem take_succ_map {α β : Type} {l : List α} {i : Nat} {x : α} (f : α → β) (h : l[i]? = some x) : (l.take i).map f ++ [f x] = (l.take (i + 1)).map f := by
  rw [take_succ_app h, List.map_append]
  rfl
theorem row_sum : ∀ ds : List Nat, (rowL ds).length = 2 * (ds.sum + ds.length + 1)
  | [] => rfl
  | d :: ds => by
    have ih := row_sum ds
    show (blk d ++ ([0, 0] ++ rowL ds)).length = _
    rw [List.length_append, List.length_append, blk_len, ih, List.sum_cons]
    simp only [List.length_cons, List.length_nil]
    omega
theorem row_le (ds : List Nat) (N : Num ds) : (rowL ds).length ≤ 100 := by
  have h := rowL_le ds fun d m => (N.dig d m).2
  have l := N.len
  omega
theorem row_bits : ∀ (ds : List Nat) (z : Int), z ∈ rowL ds → z = 0 ∨ z = 1
  | [], z, h => by
    have h : z ∈ [0, 0] := h
    simp only [List.mem_cons, List.not_mem_nil, or_false, or_self] at h
    exact .inl h
  | d :: ds, z, h => by
    have h : z ∈ blk d ++ ([0, 0] ++ rowL ds) := h
    rw [List.mem_append, List.mem_append] at h
    rcases h with h | h | h
    · obtain ⟨l, hl, hz⟩ := List.mem_flatten.mp h
      rw [(List.mem_replicate.mp hl).2] at hz
      simp only [List.mem_cons, List.not_mem_nil, or_false] at hz
      exact hz.symm
    · simp only [List.mem_cons, List.not_mem_nil, or_false, or_self] at h
      exact .inl h
    · exact row_bits ds z h
/-! strokes -/
def ones : Nat → List Int → List Nat
  | _, [] => []
  | o, x :: xs => if x = 1 then o :: ones (o + 1) xs else ones (o + 1) xs
theorem ones_app : ∀ (a : List Int) (o : Nat) (b : List Int), ones o (a ++ b) = ones o a ++ ones (o + a.length) b
  | [], o, b => rfl
  | x :: a, o, b => by
    have ih := ones_app a (o + 1) b
    have e : o + (x :: a).length = o + 1 + a.length := by rw [List.length_cons]; omega
    rw [e]
    show (if x = 1 then o :: ones (o + 1) (a ++ b) else ones (o + 1) (a ++ b)) = (if x = 1 then o :: ones (o + 1) a else ones (o + 1) a) ++ _
    rw [ih]
    by_cases c : x = 1
    · rw [if_pos c, if_pos c]; rfl
    · rw [if_neg c, if_neg c]
theorem ones_mem : ∀ (xs : List Int) (o k : Nat), k ∈ ones o xs ↔ ∃ j, k = o + j ∧ xs[j]? = some 1
  | [], o, k => by simp [ones]
  | x :: xs, o, k => by
    have ih := ones_mem xs (o + 1) k
    show k ∈ (if x = 1 then o :: ones (o + 1) xs else ones (o + 1) xs) ↔ _
    constructor
    · intro h
      by_cases c : x = 1
      · rw [if_pos c] at h
        rcases List.mem_cons.mp h with e | e
        · exact ⟨0, by omega, by rw [c]; rfl⟩
        · obtain ⟨j, e1, e2⟩ := ih.mp e
          exact ⟨j + 1, by omega, by simpa using e2⟩
      · rw [if_neg c] at h
        obtain ⟨j, e1, e2⟩ := ih.mp h
        exact ⟨j + 1, by omega, by simpa using e2⟩
    · rintro ⟨j, e1, e2⟩
      cases j with
      | zero =>
        have c : x = 1 := Option.some.inj e2
        rw [if_pos c]
        exact List.mem_cons.mpr (.inl (by omega))
      | succ j =>
        have m : k ∈ ones (o + 1) xs := ih.mpr ⟨j, by omega, by simpa using e2⟩
        by_cases c : x = 1
        · rw [if_pos c]; exact List.mem_cons_of_mem _ m
        · rw [if_neg c]; exact m
theorem ones_blk (o d : Nat) : ones o (blk (d + 1)) = ones o (blk d) ++ [o + 2 * d] := by
  rw [blk_add, ones_app, blk_len]
  rfl
theorem ones_end (a : List Int) (o : Nat) : ones o (a ++ [0, 0]) = ones o a := by
  rw [ones_app]
  show ones o a ++ [] = _
  rw [List.append_nil]
theorem step2 (s : List Nat) (d : Nat) : ones 0 (pre s ++ blk (d + 1)) = ones 0 (pre s ++ blk d) ++ [(pre s).length + 2 * d] := by
  rw [ones_app, ones_app, ones_blk, List.append_assoc, Nat.zero_add]
theorem step4 (s : List Nat) (d : Nat) : ones 0 (pre (s ++ [d]) ++ blk 1) = ones 0 (pre s ++ blk d) ++ [(pre s).length + 2 * d + 2] := by
  rw [ones_app, pre_app, ← List.append_assoc, ones_end]
  have e : ((pre s ++ blk d) ++ ([0, 0] : List Int)).length = (pre s).length + 2 * d + 2 := by
    rw [List.length_append, List.length_append, blk_len]
    rfl
  rw [e, Nat.zero_add]
  rfl
theorem ones_row (s : List Nat) (d : Nat) : ones 0 (rowL (s ++ [d])) = ones 0 (pre s ++ blk d) := by
  rw [← pre_row, pre_app, ← List.append_assoc, ones_end, ones_end]
theorem ones_inj {ds es : List Nat} (h1 : ∀ d ∈ ds, 1 ≤ d) (h2 : ∀ e ∈ es, 1 ≤ e) (h : ones 0 (rowL ds) = ones 0 (rowL es)) : ds = es := by
  rcases rows_part ds es h1 h2 with q | ⟨k, q, _⟩ | ⟨k, q, _⟩
  · exact q
  · have m : k ∈ ones 0 (rowL ds) := (ones_mem _ _ _).mpr ⟨k, by omega, q.one⟩
    rw [h] at m
    obtain ⟨j, e1, e2⟩ := (ones_mem _ _ _).mp m
    rw [show j = k by omega, q.two] at e2
    cases e2
  · have m : k ∈ ones 0 (rowL es) := (ones_mem _ _ _).mpr ⟨k, by omega, q.two⟩
    rw [← h] at m
    obtain ⟨j, e1, e2⟩ := (ones_mem _ _ _).mp m
    rw [show j = k by omega, q.one] at e2
    cases e2
def St (l : List Nat) : Prop := ∀ (k a b : Nat), l[k]? = some a → l[k + 1]? = some b → b = a + 2 ∨ b = a + 4
theorem St.cons {x : Nat} {l : List Nat} (h : ∀ y, l.head? = some y → y = x + 2 ∨ y = x + 4) (s : St l) : St (x :: l) := by
  intro k a b e1 e2
  cases k with
  | zero =>
    have e : x = a := Option.some.inj e1
    subst e
    refine h b ?_
    rw [List.head?_eq_getElem?]
    exact e2
  | succ k => exact s k a b (by simpa using e1) (by simpa using e2)
theorem steps_blk {l : List Int} (hl : ∀ o, St (ones o l) ∧ ∀ y, (ones o l).head? = some y → y = o) : ∀ (d o : Nat), St (ones o (blk d ++ ([0, 0] ++ l))) ∧ ∀ y, (ones o (blk d ++ ([0, 0] ++ l))).head? = some y → (y = o ∨ y = o + 2)
  | 0, o => by
    have h := hl (o + 2)
    exact ⟨h.1, fun y e => .inr (h.2 y e)⟩
  | d + 1, o => by
    have ih := steps_blk hl d (o + 2)
    have e : ones o (blk (d + 1) ++ ([0, 0] ++ l)) = o :: ones (o + 2) (blk d ++ ([0, 0] ++ l)) := by
      rw [blk_succ]
      rfl
    rw [e]
    refine ⟨ih.1.cons fun y q => ?_, fun y q => .inl (Option.some.inj q).symm⟩
    rcases ih.2 y q with z | z
    · exact .inl z
    · exact .inr (by omega)
theorem steps_row : ∀ (es : List Nat), (∀ d ∈ es, 1 ≤ d) → ∀ o, St (ones o (rowL es)) ∧ ∀ y, (ones o (rowL es)).head? = some y → y = o
  | [], _, o => ⟨fun k a b (e : (none : Option Nat) = some a) => (by cases e), fun y (e : (none : Option Nat) = some y) => by cases e⟩
  | d :: es, h, o => by
    have ih := steps_row es fun y m => h y (List.mem_cons_of_mem _ m)
    obtain ⟨f, rfl⟩ : ∃ f, d = f + 1 := ⟨d - 1, by have := h d (by simp); omega⟩
    have q := steps_blk ih (f + 1) o
    refine ⟨q.1, fun y e => ?_⟩
    have e' : ones o (rowL ((f + 1) :: es)) = o :: ones (o + 2) (blk f ++ ([0, 0] ++ rowL es)) := by
      show ones o (blk (f + 1) ++ _) = _
      rw [blk_succ]
      rfl
    rw [e'] at e
    exact (Option.some.inj e).symm
theorem first_row (d : Nat) (es : List Nat) (h : 1 ≤ d) : (ones 0 (rowL (d :: es)))[0]? = some 0 := by
  obtain ⟨f, rfl⟩ : ∃ f, d = f + 1 := ⟨d - 1, by omega⟩
  show (ones 0 (blk (f + 1) ++ _))[0]? = _
  rw [blk_succ]
  rfl
/-! groups -/
def gaps : List Int → List Nat
  | [] => [0]
  | z :: zs => if z = 1 then (match gaps zs with | [] => [1] | g :: gs => (g + 1) :: gs) else 0 :: gaps zs
theorem gaps_ne : ∀ zs, gaps zs ≠ []
  | [] => by simp [gaps]
  | z :: zs => by
    show (if z = 1 then (match gaps zs with | [] => [1] | g :: gs => (g + 1) :: gs) else 0 :: gaps zs) ≠ []
    by_cases c : z = 1
    · rw [if_pos c]
      split <;> simp
    · rw [if_neg c]; simp
def bits (zs : List Int) : List Nat := zs.map fun z => if z = 1 then 49 else 48
theorem joinL_cons {s : List Nat} {p : List Nat} {ps : List (List Nat)} (h : ps ≠ []) : joinL s (p :: ps) = p ++ (s ++ joinL s ps) := by
  cases ps with
  | nil => exact absurd rfl h
  | cons q r => rfl
theorem joinL_one (s p : List Nat) : joinL s [p] = p := rfl
theorem map_ne {α β : Type} {f : α → β} {l : List α} (h : l ≠ []) : l.map f ≠ [] := fun e => h (List.map_eq_nil_iff.mp e)
theorem gaps_join : ∀ zs, bits zs = joinL [48] ((gaps zs).map fun g => List.replicate g 49)
  | [] => rfl
  | z :: zs => by
    have ih := gaps_join zs
    have ne := gaps_ne zs
    show (if z = 1 then 49 else 48) :: bits zs = joinL [48] ((if z = 1 then (match gaps zs with | [] => [1] | g :: gs => (g + 1) :: gs) else 0 :: gaps zs).map _)
    by_cases c : z = 1
    · rw [if_pos c, if_pos c]
      cases e : gaps zs with
      | nil => exact absurd e ne
      | cons g gs =>
        rw [e] at ih
        rw [ih]
        cases gs with
        | nil => rfl
        | cons g2 gs => rfl
    · rw [if_neg c, if_neg c, List.map_cons, joinL_cons (map_ne ne), ← ih]
      rfl
theorem gaps_sum : ∀ zs, (gaps zs).sum ≤ zs.length ∧ (gaps zs).length ≤ zs.length + 1
  | [] => by decide
  | z :: zs => by
    have ih := gaps_sum zs
    show (if z = 1 then (match gaps zs with | [] => [1] | g :: gs => (g + 1) :: gs) else 0 :: gaps zs).sum ≤ zs.length + 1 ∧ (if z = 1 then (match gaps zs with | [] => [1] | g :: gs => (g + 1) :: gs) else 0 :: gaps zs).length ≤ zs.length + 1 + 1
    by_cases c : z = 1
    · rw [if_pos c]
      cases e : gaps zs with
      | nil => exact absurd e (gaps_ne zs)
      | cons g gs =>
        rw [e, List.sum_cons, List.length_cons] at ih
        show ((g + 1) :: gs).sum ≤ _ ∧ ((g + 1) :: gs).length ≤ _
        rw [List.sum_cons, List.length_cons]
        omega
    · rw [if_neg c, List.sum_cons, List.length_cons]
      omega
theorem mem_sum {g : Nat} : ∀ {l : List Nat}, g ∈ l → g ≤ l.sum
  | a :: l, h => by
    rw [List.sum_cons]
    rcases List.mem_cons.mp h with e | e
    · omega
    · have := mem_sum e
      omega
theorem gaps_le {zs : List Int} {g : Nat} (h : g ∈ gaps zs) : g ≤ zs.length := by
  have h1 := (gaps_sum zs).1
  have h2 : g ≤ (gaps zs).sum := mem_sum h
  omega
theorem ev2_row : ∀ ds, Hf.ev2 (rowL ds) = (match ds with | [] => [0] | d :: r => List.replicate d 1 ++ (0 :: Hf.ev2 (rowL r)))
  | [] => rfl
  | d :: r => by
    show Hf.ev2 (blk d ++ ([0, 0] ++ rowL r)) = List.replicate d 1 ++ (0 :: Hf.ev2 (rowL r))
    induction d with
    | zero => rfl
    | succ d ih =>
      rw [blk_succ, List.replicate_succ]
      show (1 : Int) :: Hf.ev2 (blk d ++ ([0, 0] ++ rowL r)) = _
      rw [ih]
      rfl
theorem gaps_rep (l : List Int) (d : Nat) : gaps (List.replicate d 1 ++ (0 :: l)) = d :: gaps l := by
  induction d with
  | zero => rfl
  | succ d ih =>
    rw [List.replicate_succ]
    show (if (1 : Int) = 1 then (match gaps (List.replicate d 1 ++ (0 :: l)) with | [] => [1] | g :: gs => (g + 1) :: gs) else _) = _
    rw [if_pos rfl, ih]
theorem gaps_row : ∀ ds, gaps (Hf.ev2 (rowL ds)) = ds ++ [0, 0]
  | [] => rfl
  | d :: r => by
    rw [ev2_row]
    show gaps (List.replicate d 1 ++ (0 :: Hf.ev2 (rowL r))) = _
    rw [gaps_rep, gaps_row r]
    rfl
end Wm

/-! Ticks of bent rows as data. -/
namespace Wm
open PySem L2
inductive Tk : PyData → Prop
  | int {i : Int} : i.natAbs < 1000000 → Tk (.int i)
  | bl (b : Bool) : Tk (.bool b)
  | non : Tk .none
  | one : Tk (.str "1")
  | lst : Tk (.list [.int 0])
def Item (K : PySem.W.Frag) (H : Hp) (x : V) : Prop := ∃ d, Dp K H x d ∧ Tk d
theorem sqL_keep {K : PySem.W.Frag} {H H' : Hp} {a : Addr} {xs : List V} (e : Same H H') (h : SqL K H a xs) : SqL K H' a xs := by
  rcases h with (h | ⟨o, h⟩) | h
  · exact .inl (.inl (e _ _ h))
  · exact .inl (.inr ⟨o, e _ _ h⟩)
  · exact .inr h
theorem tk_keep {K : PySem.W.Frag} {H H' : Hp} {x : V} {d : PyData} (e : Same H H') (h : Dp K H x d) (t : Tk d) : Dp K H' x d := by
  cases t with
  | int _ => cases h; exact .int _
  | bl b => cases h; exact .bl _
  | non => cases h; exact .non
  | one => cases h; exact .str _
  | lst =>
    cases h with
    | lst q a =>
      refine .lst (sqL_keep e q) ?_
      cases a with
      | cons b c =>
        cases b
        cases c
        exact .cons (.int _) .nil
theorem Item.keep {K : PySem.W.Frag} {H H' : Hp} {x : V} (e : Same H H') (h : Item K H x) : Item K H' x := let ⟨d, a, b⟩ := h; ⟨d, tk_keep e a b, b⟩
theorem tks_keep {K : PySem.W.Frag} {H H' : Hp} (e : Same H H') : ∀ {xs : List V} {ds : List PyData}, DpAll K H xs ds → (∀ d ∈ ds, Tk d) → DpAll K H' xs ds
  | _, _, .nil, _ => .nil
  | _, _, .cons a b, t => .cons (tk_keep e a (t _ (by simp))) (tks_keep e b fun d m => t d (List.mem_cons_of_mem _ m))
theorem items_data {K : PySem.W.Frag} {H : Hp} : ∀ {xs : List V}, (∀ x ∈ xs, Item K H x) → ∃ ds, DpAll K H xs ds ∧ (∀ d ∈ ds, Tk d) ∧ ds.length = xs.length
  | [], _ => ⟨[], .nil, by simp, rfl⟩
  | x :: xs, h => by
    obtain ⟨d, a, b⟩ := h x (by simp)
    obtain ⟨ds, c1, c2, c3⟩ := items_data (xs := xs) fun y m => h y (List.mem_cons_of_mem _ m)
    refine ⟨d :: ds, .cons a c1, fun y m => ?_, by rw [List.length_cons, List.length_cons, c3]⟩
    rcases List.mem_cons.mp m with q | q
    · rw [q]; exact b
    · exact c2 y q
theorem item_int {K : PySem.W.Frag} {H : Hp} {i : Int} (h : i.natAbs < 1000000) : Item K H (.int i) := ⟨_, .int i, .int h⟩
theorem tk_lay {d : PyData} (t : Tk d) : d.canLay0 = true ∧ d.depth ≤ 1 := by
  cases t with
  | int _ => exact ⟨by simp [PyData.canLay0], by simp [PyData.depth]⟩
  | bl b => exact ⟨by simp [PyData.canLay0], by simp [PyData.depth]⟩
  | non => exact ⟨by simp [PyData.canLay0], by simp [PyData.depth]⟩
  | one => exact ⟨by decide +kernel, by simp [PyData.depth]⟩
  | lst => exact ⟨by simp [PyData.canLay0, PyData.canLayAll0], by simp [PyData.depth, PyData.depthAll]⟩
theorem tks_lay : ∀ {ds : List PyData}, (∀ d ∈ ds, Tk d) → PyData.canLayAll0 ds = true ∧ PyData.depthAll ds ≤ 1
  | [], _ => by simp [PyData.canLayAll0, PyData.depthAll]
  | d :: ds, h => by
    have h1 := tk_lay (h d (by simp))
    have h2 := tks_lay (ds := ds) fun y m => h y (List.mem_cons_of_mem _ m)
    simp only [PyData.canLayAll0, PyData.depthAll, h1.1, h2.1, Bool.and_self, true_and]
    omega
theorem tks_shaped {ds : List PyData} (h : ∀ d ∈ ds, Tk d) : SeqAt.shaped (.list ds) = true := by
  have q := tks_lay h
  have e : decide ((PyData.list ds).depth ≤ 64) = true := decide_eq_true (by simp only [PyData.depth]; omega)
  show ((PyData.list ds).canLay0 && _) = true
  rw [e, Bool.and_true]
  exact q.1
theorem tk_show {d : PyData} (t : Tk d) : d.showable = true ∧ d.hasDict = false ∧ d.leavesShort 13 = true ∧ d.weight ≤ 30 := by
  cases t with
  | @int i h =>
    have hl : i.natAbs.log2 < 20 ∨ i = 0 := by
      by_cases z : i = 0
      · exact .inr z
      · exact .inl ((Nat.log2_lt (by omega)).mpr (by omega))
    refine ⟨decide_eq_true ?_, rfl, decide_eq_true (PyData.shown_int_le (by omega)), ?_⟩
    · rcases hl with z | z
      · omega
      · subst z; decide
    · rcases hl with z | z
      · simp only [PyData.weight]; split <;> omega
      · subst z; decide
  | bl b => exact ⟨rfl, rfl, rfl, by simp [PyData.weight]⟩
  | non => exact ⟨rfl, rfl, rfl, by simp [PyData.weight]⟩
  | one => exact ⟨rfl, rfl, by decide +kernel, by decide +kernel⟩
  | lst => exact ⟨by decide +kernel, rfl, by decide +kernel, by decide +kernel⟩
theorem tks_show : ∀ {ds : List PyData}, (∀ d ∈ ds, Tk d) → PyData.showableAll ds = true ∧ PyData.hasDictAll ds = false ∧ PyData.leavesShortAll 13 ds = true ∧ PyData.weightAll ds ≤ 31 * ds.length
  | [], _ => by simp [PyData.showableAll, PyData.hasDictAll, PyData.leavesShortAll, PyData.weightAll]
  | d :: ds, h => by
    have h1 := tk_show (h d (by simp))
    have h2 := tks_show (ds := ds) fun y m => h y (List.mem_cons_of_mem _ m)
    simp only [PyData.showableAll, PyData.hasDictAll, PyData.leavesShortAll, PyData.weightAll, h1.1, h1.2.1, h1.2.2.1, h2.1, h2.2.1, h2.2.2.1, Bool.and_self, Bool.or_self, true_and, List.length_cons]
    omega
theorem tks_shown {ds : List PyData} (h : ∀ d ∈ ds, Tk d) (l : ds.length ≤ 1000) : (PyData.list ds).shown.length ≤ sizeLine :=
  PyData.shown_fits (B := 13) (by decide) (by decide) (tks_show h).2.2.1 (Nat.le_trans (tks_show h).2.2.2 (by omega))
def isI : V → Bool
  | .int _ => true
  | _ => false
def isBit (x : V) : Bool := decide (x = .int 0) || decide (x = .int 1)
theorem all_ints {xs : List V} (h : ∀ x ∈ xs, isI x = true) : ∃ zs : List Int, xs = zs.map V.int := by
  induction xs with
  | nil => exact ⟨[], rfl⟩
  | cons x xs ih =>
    obtain ⟨zs, e⟩ := ih fun y m => h y (List.mem_cons_of_mem _ m)
    have hx := h x (by simp)
    cases x with
    | int i => exact ⟨i :: zs, by rw [e]; rfl⟩
    | _ => cases hx
theorem all_bits {xs : List V} (h : ∀ x ∈ xs, isBit x = true) : ∃ zs : List Int, xs = zs.map V.int ∧ ∀ z ∈ zs, z = 0 ∨ z = 1 := by
  induction xs with
  | nil => exact ⟨[], rfl, by simp⟩
  | cons x xs ih =>
    obtain ⟨zs, e, b⟩ := ih fun y m => h y (List.mem_cons_of_mem _ m)
    have hx := h x (by simp)
    have hc : x = .int 0 ∨ x = .int 1 := by
      rcases Bool.or_eq_true_iff.mp hx with q | q
      · exact .inl (of_decide_eq_true q)
      · exact .inr (of_decide_eq_true q)
    have : ∃ i : Int, x = .int i ∧ (i = 0 ∨ i = 1) := by
      rcases hc with q | q
      · exact ⟨0, q, .inl rfl⟩
      · exact ⟨1, q, .inr rfl⟩
    obtain ⟨i, rfl, hi⟩ := this
    refine ⟨i :: zs, by rw [e]; rfl, fun z m => ?_⟩
    rcases List.mem_cons.mp m with q | q
    · rw [q]; exact hi
    · exact b z q
/-- what isinstance asks of such a tick -/
theorem tyx_of {K : PySem.W.Frag} {H : Hp} {x : V} (h : Item K H x) : ∃ (n : String) (a b : Bool), TyX K H x (.type n) ∧ PySem.W.kitOne K (.type n) (.type "int") = some a ∧
    PySem.W.kitOne K (.type n) (.type "bool") = some b ∧ (a && !b) = isI x := by
  obtain ⟨d, h, t⟩ := h
  cases t with
  | int _ => cases h; exact ⟨"int", true, false, .base (.int _), kit_ty (by decide +kernel), kit_ty (by decide +kernel), rfl⟩
  | bl b => cases h; exact ⟨"bool", true, true, .base (.bl _), kit_ty (by decide +kernel), kit_ty (by decide +kernel), rfl⟩
  | non => cases h; exact ⟨"NoneType", false, false, .base .non, kit_ty (by decide +kernel), kit_ty (by decide +kernel), rfl⟩
  | one => cases h; exact ⟨"str", false, false, .base (.str _), kit_ty (by decide +kernel), kit_ty (by decide +kernel), rfl⟩
  | lst =>
    cases h with
    | lst q a =>
      rcases q with (q | ⟨o, q⟩) | q
      · exact ⟨"list", false, false, .base (.lst q), kit_ty (by decide +kernel), kit_ty (by decide +kernel), rfl⟩
      · exact ⟨"list", false, false, .base (.frz q), kit_ty (by decide +kernel), kit_ty (by decide +kernel), rfl⟩
      · obtain ⟨o, xs, n, e, c, _⟩ := q
        exact ⟨"list", false, false, .kList e c, kit_ty (by decide +kernel), kit_ty (by decide +kernel), rfl⟩
/-- a list or a tuple -/
def SqA (K : PySem.W.Frag) (H : Hp) (a : Addr) (xs : List V) : Prop := SqL K H a xs ∨ SqT K H a xs
theorem SqA.keep {K : PySem.W.Frag} {H H' : Hp} {a : Addr} {xs : List V} (e : Same H H') (h : SqA K H a xs) : SqA K H' a xs := h.imp (sqL_keep e) (sameT e)
end Wm

/-! Texts of digits: halves, groups, the number they tell. -/
namespace Wm
open PySem L2 TL
def oneS (g : Nat) : Str := ⟨(List.replicate g 49).toArray⟩
def bitS (z : Int) : Str := if z = 1 then "1" else "0"
def decS (g : Nat) : Str := ((toString (g : Int) : String) : Str)
theorem bit_str {z : Int} (h : z = 0 ∨ z = 1) : ((toString z : String) : Str) = bitS z := by
  rcases h with e | e <;> subst e <;> decide +kernel
theorem tl_bit (z : Int) : tl (bitS z) = [if z = 1 then 49 else 48] := by
  unfold bitS
  by_cases c : z = 1
  · rw [if_pos c, if_pos c]; decide +kernel
  · rw [if_neg c, if_neg c]; decide +kernel
theorem joinL_nil : ∀ ps : List (List Nat), joinL [] ps = ps.flatten
  | [] => rfl
  | [p] => by show p = [p].flatten; simp
  | p :: q :: r => by
    show p ++ ([] ++ joinL [] (q :: r)) = _
    rw [joinL_nil (q :: r), List.nil_append]
    rfl
theorem tl_empty : tl ("" : Str) = [] := by decide +kernel
theorem tl_zero : tl ("0" : Str) = [48] := by decide +kernel
theorem tl_join0 (ys : List Str) : tl (Txt.join "" ys) = (ys.map tl).flatten := by
  rw [join_eq, tl_join, tl_empty, joinL_nil]
theorem bits_flat : ∀ zs : List Int, ((zs.map bitS).map tl).flatten = bits zs
  | [] => rfl
  | z :: zs => by
    rw [List.map_cons, List.map_cons, List.flatten_cons, bits_flat zs, tl_bit]
    rfl
theorem halves_eq (zs : List Int) : Txt.join "" (zs.map bitS) = Txt.join "0" ((gaps zs).map oneS) := by
  refine ext_tl ?_
  rw [tl_join0, bits_flat, gaps_join, join_eq, tl_join, tl_zero, List.map_map]
  rfl
theorem groups_eq (zs : List Int) : Txt.split (Txt.join "" (zs.map bitS)) "0" = (gaps zs).map oneS := by
  rw [halves_eq]
  refine split_join (s := 48) (S := []) tl_zero (by decide +kernel) (map_ne (gaps_ne zs)) fun p hp h => ?_
  obtain ⟨g, _, rfl⟩ := List.mem_map.mp hp
  have h : 48 ∈ List.replicate g 49 := h
  exact absurd (List.mem_replicate.mp h).2 (by decide)
theorem oneS_len (g : Nat) : (oneS g).length = g := by
  rw [len_tl]
  show (List.replicate g 49).length = g
  rw [List.length_replicate]
theorem halves_len (zs : List Int) : (Txt.join "" (zs.map bitS)).length = zs.length := by
  rw [len_tl, tl_join0, bits_flat]
  unfold bits
  rw [List.length_map]
theorem len4 : ∀ g : Fin 1001, (decS g.val).length ≤ 4 := by decide +kernel
theorem dec_len {g : Nat} (h : g ≤ 1000) : (decS g).length ≤ 4 := len4 ⟨g, by omega⟩
theorem dec_sum : ∀ {gs : List Nat}, (∀ g ∈ gs, g ≤ 1000) → ((gs.map decS).map (·.length)).sum ≤ 4 * gs.length
  | [], _ => by simp
  | g :: gs, h => by
    have h1 := dec_len (h g (by simp))
    have h2 := dec_sum (gs := gs) fun y m => h y (List.mem_cons_of_mem _ m)
    rw [List.map_cons, List.map_cons, List.sum_cons, List.length_cons]
    omega
theorem join0_len (ys : List Str) : (Txt.join "" ys).length = (ys.map (·.length)).sum := by
  rw [len_tl, tl_join0]
  induction ys with
  | nil => rfl
  | cons y ys ih => rw [List.map_cons, List.flatten_cons, List.length_append, ih, List.map_cons, List.sum_cons, len_tl]
theorem bit_sum (zs : List Int) : ((zs.map bitS).map (·.length)).sum = zs.length := by rw [← join0_len, halves_len]
theorem num_text : ∀ {ds : List Nat}, (∀ d ∈ ds, 1 ≤ d ∧ d ≤ 9) → Txt.join "" (ds.map decS) = numS ds
  | [], _ => by decide +kernel
  | d :: ds, h => by
    have ih := num_text (ds := ds) fun y m => h y (List.mem_cons_of_mem _ m)
    refine ext_tl ?_
    rw [tl_join0, List.map_cons, List.map_cons, List.flatten_cons, ← tl_join0, ih]
    have e : decS d = numS [d] := dig_str (h d (by simp))
    rw [e]
    rfl
/-- the number that a row of bits tells, if it is a row -/
def told (zs : List Int) : Str := Txt.join "" ((gaps (Hf.ev2 zs)).dropLast.dropLast.map decS)
theorem told_row {ds : List Nat} (h : ∀ d ∈ ds, 1 ≤ d ∧ d ≤ 9) : told (rowL ds) = numS ds := by
  unfold told
  rw [gaps_row, ← num_text h]
  congr 2
  show (ds ++ [0, 0]).dropLast.dropLast = ds
  rw [show (ds ++ [0, 0]) = (ds ++ [0]) ++ [0] by simp, List.dropLast_concat, List.dropLast_concat]
theorem digits_codes : ("123456789" : Str).cps.toList = [49, 50, 51, 52, 53, 54, 55, 56, 57] := by decide +kernel
theorem dig_text (t : Str) (h : ∀ c ∈ tl t, c ∈ ("123456789" : Str).cps.toList) : ∃ ds : List Nat, (∀ d ∈ ds, 1 ≤ d ∧ d ≤ 9) ∧ t = numS ds := by
  have h2 : ∀ c ∈ tl t, 49 ≤ c ∧ c ≤ 57 := fun c m => by
    have q := h c m
    rw [digits_codes] at q
    simp only [List.mem_cons, List.not_mem_nil, or_false] at q
    omega
  refine ⟨(tl t).map (· - 48), fun d m => ?_, ?_⟩
  · obtain ⟨c, mc, rfl⟩ := List.mem_map.mp m
    have := h2 c mc
    omega
  · refine ext_tl ?_
    show tl t = ((tl t).map (· - 48)).map (· + 48)
    rw [List.map_map]
    refine (List.map_id _).symm.trans (List.map_congr_left fun c m => ?_)
    have := h2 c m
    show c = c - 48 + 48
    omega
theorem num_codes {ds : List Nat} (h : ∀ d ∈ ds, 1 ≤ d ∧ d ≤ 9) : ∀ c ∈ tl (numS ds), c ∈ ("123456789" : Str).cps.toList := fun c m => by
  have m : c ∈ codes ds := m
  obtain ⟨d, md, rfl⟩ := List.mem_map.mp m
  exact dig_in (h d md)
def IsNum (t : Str) : Prop := ∃ ds, Num ds ∧ t = numS ds
theorem isnum_dig {ds : List Nat} : IsNum (numS ds) ↔ Num ds :=
  ⟨fun ⟨es, N, e⟩ => by rw [numS_inj e]; exact N, fun N => ⟨ds, N, rfl⟩⟩
theorem row_inj {ds es : List Nat} (N : Num ds) (M : Num es) (h : (rowL ds).map V.int = (rowL es).map V.int) : ds = es := by
  have e : rowL ds = rowL es := by
    have q := congrArg (List.map fun v => match v with | V.int i => i | _ => 0) h
    simpa [List.map_map, Function.comp_def] using q
  exact ones_inj (fun d m => (N.dig d m).1) (fun d m => (M.dig d m).1) (by rw [e])
theorem map_int_inj {xs ys : List Int} (h : xs.map V.int = ys.map V.int) : xs = ys := by
  have q := congrArg (List.map fun v => match v with | V.int i => i | _ => 0) h
  simpa [List.map_map, Function.comp_def] using q
/-- what number_of tells of a row -/
def Told (xs : List V) (v : V) : Prop := (∃ ds, Num ds ∧ xs = (rowL ds).map V.int ∧ v = .str (numS ds)) ∨ ((∀ ds, Num ds → xs ≠ (rowL ds).map V.int) ∧ v = .non)
theorem Told.uniq {xs : List V} {v u : V} (a : Told xs v) (b : Told xs u) : v = u := by
  rcases a with ⟨ds, N, e, rfl⟩ | ⟨n, rfl⟩
  · rcases b with ⟨es, M, f, rfl⟩ | ⟨n, _⟩
    · rw [row_inj N M (e.symm.trans f)]
    · exact absurd e (n ds N)
  · rcases b with ⟨es, M, f, rfl⟩ | ⟨_, rfl⟩
    · exact absurd f (n es M)
    · rfl
theorem Told.row {ds : List Nat} {v : V} (N : Num ds) (a : Told ((rowL ds).map V.int) v) : v = .str (numS ds) := a.uniq (.inl ⟨ds, N, rfl, rfl⟩)
end Wm

/-! enumerate of a tuple, as a thing that a for walks. -/
namespace Es
open PySem PySem.Spec PyProof.Rows L2
theorem meets_ent (t : Addr) (its : Array Value) (m : Nat) (dd : Option Addr) (slo : Array (Option Value)) :
    Meets (Builtin.«enumerate.__new__» ⟨[.type "enumerate", .ref t], []⟩) (fun _ R s => s.heap.get? t = some { cls := .type "tuple", dict := dd, data := .seq its m, slots := slo } ∧
      R (.ok (.ret (.ref (s.heap.push { cls := .type "tuple_iterator", data := .fields #[.ref t, .int 0 0] }).objs.size))) { s with heap := (s.heap.push { cls := .type "tuple_iterator", data := .fields #[.ref t, .int 0 0] }).push { cls := .type "enumerate", data := .fields #[.none, .bool false, .ref s.heap.objs.size, rawInt 0, .none, .none] } }) :=
  .of_wp fun prog w A R s h => by
    obtain ⟨hp, gn, dr, tk, os⟩ := s
    obtain ⟨ht, h⟩ := h
    have hsub := sub_enumerate
    have hT : Heap.IsTuple (Shared.heap ⟨hp, gn, dr, tk, os⟩) t its := ⟨_, ht, rfl, m, rfl⟩
    wp_walk using AutoSeq1.wpAny_loadPart' ht
    refine wpAny_stack_any fun st => wpAny_pure ?_
    split
    · rename_i c _ _ _ _ _
      cases (c == Value.type "enumerate")
      · wp_walk using AutoSeq1.wpAny_loadPart' ht, wpAny_pyIter_tuple hT
        exact ⟨_, rfl, h⟩
      · wp_walk using AutoSeq1.wpAny_loadPart' ht, wpAny_pyIter_tuple hT
        exact ⟨_, rfl, h⟩
    · wp_walk using AutoSeq1.wpAny_loadPart' ht, wpAny_pyIter_tuple hT
      exact ⟨_, rfl, h⟩
section
variable {prog : Program} {w : World} {A : Around} {E : Value → Shared → Prop} {s : Shared}
theorem call_ent {t : Addr} {its : Array Value} {Q : Value → Shared → Prop} (ht : s.heap.IsTuple t its)
    (q : ∀ g, IsEnum g (s.heap.objs.size + 1) s.heap.objs.size 0 .none → g.IsTupleIter s.heap.objs.size t 0 → (∀ b o, s.heap.get? b = some o → g.get? b = some o) → Q (.ref (s.heap.objs.size + 1)) { s with heap := g }) :
    wpAny (model prog w) A (call (.type "enumerate") [.ref t]) Q E s := by
  obtain ⟨⟨tc, td, tdat, tsl⟩, h0, h1, m, h2⟩ := ht
  simp only at h1 h2
  subst h1 h2
  refine callType_new F.called_enumerate (by decide) (F.typeCall_enumerate_1 _) (F.newCall_enumerate_1 _) (fun ob => F.args_object_init_2 ob _) F.entry_enumerate_new (meets_ent t its m td tsl) ⟨h0, ?_⟩
  have hz : (s.heap.push { cls := .type "tuple_iterator", data := .fields #[.ref t, .int 0 0] }).objs.size = s.heap.objs.size + 1 := Heap.size_push ..
  have er : IsEnum ((s.heap.push { cls := .type "tuple_iterator", data := .fields #[.ref t, .int 0 0] }).push { cls := .type "enumerate", data := .fields #[.none, .bool false, .ref s.heap.objs.size, rawInt 0, .none, .none] }) (s.heap.objs.size + 1) s.heap.objs.size 0 .none := by
    rw [← hz]
    exact Heap.get?_push_size _ rfl
  show _ ∧ _
  rw [hz]
  exact ⟨⟨_, er, rfl⟩, q _ er ⟨_, Heap.get?_push_of_some _ (Heap.get?_push_size _ rfl), rfl, rfl⟩ fun b o x => Heap.get?_push_of_some _ (Heap.get?_push_of_some _ x)⟩
theorem tup_end {e it t : Addr} {i : Nat} {its : Array Value} {old : Value} {k : Int} {Q : Option Value → Shared → Prop} (hh : A.handled = none) (er : IsEnum s.heap e it k old) (ti : s.heap.IsTupleIter it t i) (ht : s.heap.IsTuple t its) (hx : its[i]? = none)
    (q : ∀ g, Heap.ExtBut it s.heap g → Q none { s with heap := g }) : wpAny (model prog w) A (pyNext (.ref e)) Q E s := by
  have te : s.TypeIs (.ref e) "enumerate" := ⟨_, er, rfl⟩
  unfold pyNext
  refine wpAny_bind (wpAny_attempt (wpAny_callSpecial?_slot (name := Str.ofString "__next__") te F.slot_enumerate_next (wpAny_call_entry F.slot_enumerate_next te F.entry_enumerate_next ?_ (F.args_enumerate_next_1 _))))
  show wpAny _ _ (field (.ref e) 2 >>= _) _ _ _
  refine wpAny_bind (wpAny_field er rfl (x := .ref it) rfl ?_)
  refine wpAny_bind (wpAny_nextOf_tuple_end (show A.in1.handled = none from hh) ti ht hx fun g x k1 ⟨o, k2, k3⟩ => ?_)
  refine wpAny_bind (wpAny_isInstance (T := "StopIteration") (b := true) ⟨o, k2, k3⟩ isSubtype_stop ?_)
  exact wpAny_pure (q _ k1)
end
def Iten (K : PySem.W.Frag) (a : Addr) : It :=
  ⟨fun i H => ∃ (xs : List V) (x : V), SqT K H a xs ∧ xs[i]? = some x, fun i H v H' => ∃ T x, v = .ref T ∧ H T = none ∧ H' = upd H T (.tup [.int (i : Nat), x]) ∧ ∀ xs, SqT K H a xs → xs[i]? = some x, fun i H => ∃ xs : List V, SqT K H a xs ∧ xs.length ≤ i⟩
theorem turn_ent {P : Program} {w : World} {K : PySem.W.Frag} {elts : List Expr} {kk : Nat} {tpos : Pos} (a e it : Addr) (nei : e ≠ it) (nea : e ≠ a) (nai : a ≠ it) :
    Turn P w K (.Tuple elts kk tpos) (Iten K a) [e, it] e (fun i h => (∃ old, IsEnum h e it ((i : Nat) : Int) old) ∧ h.IsTupleIter it a i) where
  mem := by simp
  obj := fun i h st b hb => by
    obtain ⟨⟨old, er⟩, o, ho, _, hd⟩ := st
    have hb' : b = e ∨ b = it := by simpa using hb
    rcases hb' with z | z
    · rw [z]
      exact ⟨_, er, fun v q => nomatch q⟩
    · rw [z]
      exact ⟨o, ho, fun v q => by rw [hd] at q; cases q⟩
  keep := fun i h g st k => by
    obtain ⟨⟨old, er⟩, ti⟩ := st
    exact ⟨⟨old, k e (by simp) _ er⟩, ti.at fun o q => k it (by simp) o q⟩
  item := by
    intro X hP hw hK hc i pins s σ H E I hf st hg
    subst hP hw hK
    obtain ⟨⟨old, er⟩, ti⟩ := st
    obtain ⟨xs, x, hq, hx⟩ := hg
    obtain ⟨its, rv, p, _⟩ := I.tuple hq
    obtain ⟨u, hu, ru⟩ := rv.get hx
    have el : e < s.heap.objs.size := Heap.lt_size er
    have il : it < s.heap.objs.size := by
      obtain ⟨_, q, _⟩ := id ti
      exact Heap.lt_size q
    have hlt : i < its.toArray.size := by
      have q := (List.getElem?_eq_some_iff.mp hu).1
      simpa using q
    have hd : X.A.in1.handled = none := I.ok.hd hc
    refine wpAny_pyNext_enum_itemD (Draws.tuple hd it a nai its.toArray) er ⟨ti, p⟩ hlt nei (by simp [nei, nea]) fun y g tk hy eo st2 hT hsz hk => ?_
    have ey : y = u := by
      rw [show its.toArray[i]? = some u by simpa using hu] at hy
      exact (Option.some.inj hy).symm
    subst ey
    refine ⟨_, rfl, wpAny_letOwnedTupleGo_enum (s := { s with heap := g, toks := tk + 1 }) eo fun g2 er2 sb => ?_⟩
    have hT2 : g2.get? s.heap.objs.size = some { cls := .type "tuple", data := .seq #[.int i tk, y] } := (sb.2 _ (Nat.ne_of_gt el)).trans hT
    have new : ObjOk X.prog X.w (upd H s.heap.objs.size (.tup [.int (i : Nat), x])) g2 s.heap.objs.size (.tup [.int (i : Nat), x]) := ⟨by show 2 ≤ sizeLine; decide, [.int i tk, y], .cons ⟨_, rfl⟩ (.cons ru .nil), ⟨_, hT2, rfl, _, rfl⟩⟩
    have I1 : Inv X pins σ (upd H s.heap.objs.size (.tup [.int (i : Nat), x])) { s with heap := g2, toks := tk + 1 } := I.turnedNew (ch := [e, it]) (fun b ob hb q => (sb.2 b (fun z => hb (by simp [z]))).trans (hk b ob (fun z => hb (by simp [z])) (fun z => hb (by simp [z])) q)) hf (Nat.le_refl _) new
    refine ⟨.ref s.heap.objs.size, _, I1, rfl, ⟨_, x, rfl, I.hok.fresh (Nat.le_refl _), rfl, fun ys hy => by rw [I.tuple_inj hy hq]; exact hx⟩, ⟨⟨y, ?_⟩, st2.1.at fun o q => (sb.2 it nei.symm).trans q⟩, fun b hb => ?_⟩
    · rw [show ((i + 1 : Nat) : Int) = (i : Int) + 1 by omega]
      exact er2
    · have lb : b < s.heap.objs.size := by
        have hb' : b = e ∨ b = it := by simpa using hb
        rcases hb' with z | z
        · rw [z]; exact el
        · rw [z]; exact il
      rw [upd_ne (Nat.ne_of_lt lb)]
      exact (hf b hb).1
  done := by
    intro X hP hw hK hc i pins s σ H E I hf st hg
    subst hP hw hK
    obtain ⟨⟨old, er⟩, ti⟩ := st
    obtain ⟨xs, hq, hx⟩ := hg
    obtain ⟨its, rv, p, _⟩ := I.tuple hq
    have hl := rv.length
    exact tup_end (I.ok.hd hc) er ti p (by simp; omega) fun g kg => ⟨rfl, I.turnedL (t' := s.toks) (ch := [e, it]) (fun b o hb q => kg b o (fun z => hb (by simp [z])) q) hf⟩
  self := fun A i s Q E st h => let ⟨⟨_, er⟩, _⟩ := st; wpAny_pyIter_enum er h
def iEnt (K : PySem.W.Frag) (ta : TA) : TI := fun σ H R => ta σ H fun vs H1 => ∃ a xs, vs = [.ref a] ∧ SqT K H1 a xs ∧ R (Iten K a) H1
theorem pi_ent {X : Cx} {e : Expr} {ta : TA} {p pos tpos : Pos} {elts : List Expr} {kk : Nat} (hg : Gl X "enumerate") (hm : X.mg "enumerate" = none) (ha : PA X [e] ta) (hs : starEach [e] X.env = [(false, eval e X.env)] := by rfl) :
    PI X (.Tuple elts kk tpos) (.Call (.Name "enumerate" p) [e] [] pos) (iEnt X.K ta) := by
  refine ⟨fun pins s σ H R I h => ?_⟩
  refine Call_ (ld_blt I hg hm boot_enumerate (PyProof.Rows.callWith_type1 (thn (ha.run pos pins s σ H _ I h) fun us s1 ⟨vs, H1, I1, r1, q1⟩ => ?_) hs rfl))
  obtain ⟨a, xs, ev, hq, q⟩ := q1
  subst ev
  cases r1 with
  | cons r rr =>
    cases rr
    cases r
    obtain ⟨its, rv, pt, _⟩ := I1.tuple hq
    obtain ⟨ot, hot, _⟩ := id pt
    have al : a < s1.heap.objs.size := Heap.lt_size hot
    refine call_ent (show s1.heap.IsTuple a its.toArray from pt) fun g er ti kg => wpAny_pyIter_enum er ?_
    have I2 : Inv X pins σ H1 { s1 with heap := g } := I1.kept (t' := s1.toks) kg
    refine ⟨s1.heap.objs.size + 1, [s1.heap.objs.size + 1, s1.heap.objs.size], _, _, H1, rfl, I2, turn_ent a (s1.heap.objs.size + 1) s1.heap.objs.size (Nat.succ_ne_self _) (Nat.ne_of_gt (Nat.lt_succ_of_lt al)) (Nat.ne_of_lt al), ⟨⟨.none, er⟩, ti⟩, fun b hb => ?_, q⟩
    have hb' : b = s1.heap.objs.size + 1 ∨ b = s1.heap.objs.size := by simpa using hb
    have le : s1.heap.objs.size ≤ b := by
      rcases hb' with z | z
      · rw [z]; exact Nat.le_add_right _ _
      · rw [z]; exact Nat.le_refl _
    exact I1.fpOk le (I1.hok.fresh le)
theorem walk_ent {K : PySem.W.Frag} {a : Addr} {xs : List V} : Walk (Iten K a) xs.length (fun H => SqT K H a xs) (YPair (fun i => some (.int (i : Nat))) (fun i => xs[i]?)) := by
  refine ⟨fun i _ hi q => ⟨xs, xs[i], q, by simp [hi]⟩, fun _ q => ⟨xs, q, Nat.le_refl _⟩, fun i H v H' _ q y => ?_⟩
  obtain ⟨T, x, y1, y2, y3, y4⟩ := y
  exact ⟨T, .int (i : Nat), x, y1, y2, y3, rfl, y4 xs q⟩
end Es

/-! len(set(xs)) of a list of texts: how many different ones. -/
namespace Sl
open PySem PySem.Spec PyProof.Rows
section
variable {prog : Program} {w : World} {A : Around} {E : Value → Shared → Prop} {s : Shared}
/-- c different ones among the first i: c = i just if they differ -/
def Cnt (xs : List Str) (i c : Nat) : Prop := c ≤ i ∧ (c = i ↔ (xs.take i).Nodup)
theorem cnt_zero (xs : List Str) : Cnt xs 0 0 := ⟨Nat.le_refl _, by simp⟩
theorem cnt_succ {xs : List Str} {i c : Nat} {x : Str} (h : Cnt xs i c) (hx : xs[i]? = some x) : Cnt xs (i + 1) (if decide (x ∈ xs.take i) = true then c else c + 1) := by
  obtain ⟨h1, h2⟩ := h
  have e : xs.take (i + 1) = xs.take i ++ [x] := by rw [List.take_add_one, hx]; rfl
  by_cases m : x ∈ xs.take i
  · rw [decide_eq_true m, if_pos rfl]
    refine ⟨by omega, ⟨fun z => absurd z (by omega), fun z => ?_⟩⟩
    rw [e, List.nodup_append] at z
    exact absurd rfl (z.2.2 x m x (by simp))
  · rw [decide_eq_false m, if_neg (by decide)]
    refine ⟨by omega, ?_⟩
    rw [e, List.nodup_append]
    constructor
    · intro z
      refine ⟨h2.mp (by omega), by simp, fun a ha b hb q => m ?_⟩
      rw [List.mem_singleton] at hb
      rw [← hb, ← q]
      exact ha
    · intro z
      have := h2.mpr z.1
      omega
abbrev so (led : Bool) : Obj := { cls := .type "set", dict := none, data := .set #[] 0 (.fresh 0 0 led) }
theorem at_keep {h h' : Heap} {S : Addr} {f : Str → Bool} {n : Nat} (R : h.SetOf (PySem.strKind prog w) S f n) (k : ∀ o, h.get? S = some o → h'.get? S = some o) : h'.SetOf (PySem.strKind prog w) S f n := by
  obtain ⟨o, es, ep, t, ho, r⟩ := R
  exact ⟨o, es, ep, t, k _ ho, r⟩
theorem fill {R : Result → Shared → Prop} {I : Addr} {fp wr : List Addr} {G : Array GenState → Array GenState → Prop} {n : Nat} {P : Nat → Value → Prop} {St : Nat → Shared → Prop}
    (W : WalksS prog w A.in1 I fp wr G n P St) (S : Addr) (hSf : S ∉ fp) (xs : List Str) (hsz : xs.length = n) (hb : n + 1 < scanBound) (hval : ∀ i v, P i v → ∃ x t, xs[i]? = some x ∧ v = .str x t) :
    ∀ (k i : Nat) (s : Shared), n - i = k → i ≤ n → St i s → (∃ c, Cnt xs i c ∧ s.heap.SetOf (PySem.strKind prog w) S (fun y => decide (y ∈ xs.take i)) c) →
      (∀ s' c, Moved (S :: wr) G s s' → Cnt xs n c → s'.heap.SetOf (PySem.strKind prog w) S (fun y => decide (y ∈ xs.take n)) c → R (.ok (.ret .none)) s') →
      codeAny (model prog w) A (.builtin "set.update.loop" ⟨[.ref S, .ref I], []⟩) R s := by
  have nw : S ∉ wr := fun h => hSf (W.sub _ h)
  have more : ∀ b ∈ wr, b ∈ S :: wr := fun b hb => List.mem_cons_of_mem _ hb
  intro k
  induction k with
  | zero =>
    intro i s hk hi st ⟨c, hc, hS⟩ hR
    have e : i = n := by omega
    subst e
    refine codeAny_builtin PyProof.Rows.F.entry_set_update_loop ?_
    rw [Around.under_plainId PyProof.Rows.F.plain_set_update_loop _]
    show wpAny _ A.in1 (pyNext (.ref I) >>= _) _ _ s
    refine wpAny_bind (W.done s _ _ st fun s' hm => ?_)
    show wpAny _ A.in1 (ret Value.none) _ _ s'
    exact wpAny_pure (hR s' c (hm.mono more) hc (at_keep hS fun o e => hm.heap S o nw e))
  | succ k ih =>
    intro i s hk hi st ⟨c, hc, hS⟩ hR
    have lt : i < n := by omega
    refine codeAny_builtin PyProof.Rows.F.entry_set_update_loop ?_
    rw [Around.under_plainId PyProof.Rows.F.plain_set_update_loop _]
    show wpAny _ A.in1 (pyNext (.ref I) >>= _) _ _ s
    refine wpAny_bind (W.item i s _ _ lt st fun v s' hP st' hm => ?_)
    obtain ⟨x, t, hx, rfl⟩ := hval i v hP
    have hS1 := at_keep (h' := s'.heap) hS fun o e => hm.heap S o nw e
    show wpAny _ A.in1 (holding [Value.str x t] (setAdd S (.str x t)) >>= _) _ _ s'
    refine wpAny_bind (wpAny_holding ?_)
    unfold setAdd
    refine wpAny_holding ?_
    refine wpAny_bind ((PySem.strKind prog w).pyHash (k := x) (strKind_is _ _ _ _) ?_)
    refine wpAny_setAddHashed_of (knd := PySem.strKind prog w) (s := { s' with toks := s'.toks + 1 }) (strKind_is _ _ _ _) rfl hS1 (by have := hc.1; omega) fun g same hS2 => ?_
    have hS3 := SetOf_congr (S' := fun y => decide (y ∈ xs.take (i + 1))) hS2 (fun y => by
      rw [List.take_add_one, hx]
      simp [List.mem_append]) rfl
    refine wpAny_pure ⟨plainId_quiet PyProof.Rows.F.plain_set_update_loop _, ih (i + 1) _ (by omega) lt (W.frame _ s' _ _ st' (Nat.le_succ _) fun b hb o e => ?_) ⟨_, cnt_succ hc hx, hS3⟩ fun s2 c2 m2 hc2 hS4 => ?_⟩
    · rw [same.2 b (fun h : b = S => hSf (by rw [← h]; exact hb))]
      exact e
    · refine hR s2 c2 (Moved.trans W.gtrans ((hm.mono more).then_heap (Nat.le_succ _) fun b o hb e => ?_) m2) hc2 hS4
      rw [same.2 b (fun h : b = S => hb (by rw [h]; exact List.mem_cons_self))]
      exact e
set_option maxHeartbeats 3200000 in
theorem set_strs {l : Addr} {its : Array Value} {xs : List Str} {Q : Value → Shared → Prop} (hh : A.handled = none) (hl : s.heap.IsList l its) (hi : PyProof.Rows.StrsAre its.toList xs) (hb : xs.length + 1 < scanBound)
    (q : ∀ (g : Heap) (tk c : Nat), Cnt xs xs.length c → g.SetOf (PySem.strKind prog w) s.heap.objs.size (fun y => decide (y ∈ xs.take xs.length)) c → (∀ b o, b < s.heap.objs.size → s.heap.get? b = some o → g.get? b = some o) → Q (.ref s.heap.objs.size) { s with heap := g, toks := tk }) :
    wpAny (model prog w) A (call (.type "set") [.ref l]) Q E s := by
  obtain ⟨c0, tl0, m0⟩ := PySem.F.called_set.mro
  have a1 := PySem.F.called_set.made
  have a2 := PySem.F.called_set.sub
  refine wpAny_call (codeAny_of_tree ?_)
  show wpAny _ _ (callAny (.type "set") _) _ _ _
  refine wpAny_pure ⟨Code.quiet_builtin _ (by decide +kernel), codeAny_builtin PySem.F.entry_type_call ?_⟩
  rw [Around.under_plain (weight_type_call_type "set" [.ref l] []) rfl]
  have a3 := PySem.F.called_set.notType
  have a4 := PySem.F.called_set.canCreate
  have a5 := PySem.F.typeCall_set_1 (.ref l)
  repeat (any_goals (first | assumption | wp_step))
  refine codeAny_mono (code_set_new_1 (.ref l) (E := E) (Q₁ := fun ob s₁ => ∃ led : Bool, ob = .ref s.heap.objs.size ∧ s₁ = { s with heap := s.heap.push { cls := .type "set", dict := none, data := .set #[] 0 (.fresh 0 0 led) } }) fun led => ⟨led, rfl, rfl⟩) fun r s₁ hr => ?_
  cases r with
  | error e => exact hr
  | ok fl =>
    cases fl with
    | ret ob =>
      obtain ⟨led, rfl, rfl⟩ := hr
      generalize hso : ({ cls := .type "set", dict := none, data := .set #[] 0 (.fresh 0 0 led) } : Obj) = so
      have hfr : so.isFreed = false := by rw [← hso]; rfl
      have b1 : (s.heap.push so).get? s.heap.objs.size = some so := Heap.get?_push_size _ hfr
      have b2 : Shared.TypeIs { s with heap := s.heap.push so } (.ref s.heap.objs.size) "set" := ⟨_, b1, by rw [← hso]⟩
      have b3 := PySem.F.called_set.init.lookup
      have b4 := PySem.F.called_set.init.bind (.ref s.heap.objs.size)
      repeat (any_goals (first | assumption | wp_step))
      refine codeAny_mono (codeAny_call_builtin (R := wants (fun r s₂ => r = .none ∧ ∃ g tk c, s₂ = { s with heap := g, toks := tk } ∧ Cnt xs xs.length c ∧ g.SetOf (PySem.strKind prog w) s.heap.objs.size (fun y => decide (y ∈ xs.take xs.length)) c ∧
          (∀ b o, b < s.heap.objs.size → s.heap.get? b = some o → g.get? b = some o)) E) PySem.F.called_set.init.plain PySem.F.entry_set_init (check_set_init_1 b2 ?_)) fun r₂ s₂ hr₂ => ?_
      · obtain ⟨ol, hol, hcl, nl, hdl⟩ := hl
        obtain ⟨ocls, odict, odata, oslots⟩ := ol
        simp only at hcl hdl
        subst hcl hdl
        have hol' : (s.heap.push so).get? l = some { cls := .type "list", dict := odict, data := .seq its nl, slots := oslots } := Heap.get?_push_of_some _ hol
        have c1 := PySem.F.sub_list_set
        have c2 := PySem.F.sub_list_frozenset
        have c3 : (Value.type "list" == Value.type "dict") = false := by decide
        have hl1 : (s.heap.push so).IsList l its := ⟨_, hol', rfl, nl, rfl⟩
        unfold Builtin.«set.__init__» noKeywords Builtin.Frozenset.updateFrom
        generalize hPI : pyIter = PI
        have ll : l < s.heap.objs.size := Heap.lt_size hol
        have nI : ∀ ob : Obj, l ≠ (s.heap.push ob).objs.size := fun ob => by
          rw [Heap.size_push]
          exact Nat.ne_of_lt (Nat.lt_succ_of_lt ll)
        have nS : ∀ ob : Obj, s.heap.objs.size ∉ [(s.heap.push ob).objs.size, l] := fun ob => by
          rw [Heap.size_push]
          simp only [List.mem_cons, List.mem_singleton, List.not_mem_nil, or_false, not_or]
          exact ⟨Nat.ne_of_lt (Nat.lt_succ_self _), Nat.ne_of_gt ll⟩
        have nB : ∀ (ob : Obj) (b : Addr), b < s.heap.objs.size → b ≠ (s.heap.push ob).objs.size := fun ob b lb => by
          rw [Heap.size_push]
          exact Nat.ne_of_lt (Nat.lt_succ_of_lt lb)
        subst hso
        wp_walk
        subst hPI
        refine wpAny_pyIter_list hl1 ?_
        refine wpAny_bind (wpAny_runValue ?_)
        have hh3 : A.in1.in1.in1.handled = none := by simp [hh]
        have sz : xs.length = its.size := by rw [← StrsAre.len_eq hi, Array.length_toList]
        have hval : ∀ (i : Nat) (v : Value), its[i]? = some v → ∃ x t, xs[i]? = some x ∧ v = .str x t := fun i v hv => by
          have li : i < xs.length := by
            rw [sz]
            exact (Array.getElem?_eq_some_iff.mp hv).1
          obtain ⟨t, e⟩ := SS.strs_at hi i v (by rw [Array.getElem?_toList]; exact hv)
          refine ⟨xs[i], t, List.getElem?_eq_getElem li, ?_⟩
          rw [e, List.getD_eq_getElem?_getD, List.getElem?_eq_getElem li]
          rfl
        refine fill ((Walks.list hh3 _ l (nI (so led)) its).toS) s.heap.objs.size (nS (so led)) xs sz (by rw [← sz]; exact hb) hval (its.size - 0) 0 _ (by omega) (Nat.zero_le _)
          ⟨⟨_, Heap.get?_push_size _ rfl, rfl, rfl⟩, (hl1.push _)⟩ ?hS0 ?hR
        case hS0 =>
          exact ⟨0, cnt_zero xs, PyProof.Rows.SetOf_congr ((PyProof.Rows.setObjOf_fresh (knd := PySem.strKind prog w) led).setOf (Heap.get?_push_of_some _ b1) (by unfold scanBound; omega)) (fun _ => by simp) rfl⟩
        case hR =>
          intro s' c' hm hc' hS'
          obtain ⟨g, g', d', tk', os'⟩ := s'
          have eg : g' = s.gens := hm.gens
          have ed : d' = s.drawn := hm.drawn
          have eo : os' = s.os := hm.os
          subst eg ed eo
          show wpAny _ _ _ _ _ _
          refine wpAny_pure ?_
          show wpAny _ _ (ret Value.none) _ _ _
          rw [← sz] at hc' hS'
          refine wpAny_pure ⟨rfl, g, tk', c', rfl, hc', hS', fun b o lb e => ?_⟩
          have n1 : b ≠ s.heap.objs.size := Nat.ne_of_lt lb
          have n2 := nB (so led) b lb
          exact hm.heap b o (by simp only [List.mem_cons, List.mem_singleton, List.not_mem_nil, or_false, not_or]; exact ⟨n1, n2⟩) (Heap.get?_push_of_some _ (Heap.get?_push_of_some _ e))
      · cases r₂ with
        | error e => exact hr₂
        | ok fl₂ =>
          cases fl₂ with
          | ret r =>
            obtain ⟨rfl, g, tk, c', rfl, hc', hS', hk'⟩ := hr₂
            repeat (any_goals (first | assumption | wp_step))
            exact q _ _ _ hc' hS' hk'
          | _ => exact hr₂.elim
    | _ => exact hr.elim
end
end Sl
namespace Sl
open PySem PySem.Spec PyProof.Rows L2
section
variable {X : Cx}
def tLen (K : PySem.W.Frag) (ta : TE) : TE := fun σ H Q => ta σ H fun x H1 => ∃ l, ∃ xs : List Str, x = .ref l ∧ SqL K H1 l (xs.map V.str) ∧ xs.length ≤ 4000 ∧ ∀ c, Cnt xs xs.length c → Q (.int (c : Nat)) H1
theorem pe_len {a : Expr} {ta : TE} {p p2 q pos : Pos} (hc : X.calm = true) (hg : Gl X "len") (hm : X.mg "len" = none) (hg2 : Gl X "set") (hm2 : X.mg "set" = none) (ha : PE X a ta)
    (na : starEach [a] X.env = (false, eval a X.env) :: starEach [] X.env := by rfl) : PE X (.Call (.Name "len" p) [.Call (.Name "set" p2) [a] [] q] [] pos) (tLen X.K ta) := by
  refine ⟨fun pins s σ H Q I h => ?_⟩
  refine Call_ (ld_blt I hg hm boot_len ?_)
  refine PyProof.Rows.callWith_builtin1 (PyProof.Rows.args_cons ?_ rfl) rfl rfl
  refine Call_ (ld_blt I hg2 hm2 boot_set ?_)
  refine PyProof.Rows.callWith_type1 (PyProof.Rows.args_cons (thn (ha.run pins s σ H _ I h) fun v s1 ⟨x, H1, I1, r1, q1⟩ => PyProof.Rows.args_nil ?_) na) na rfl
  obtain ⟨l, xs, ev, hq, hl, k⟩ := q1
  subst ev
  cases r1
  obtain ⟨its, r, pl, hz⟩ := I1.list hq
  refine set_strs (I1.ok.hd hc) pl.isList (by simpa using strsAre_of r) (by unfold scanBound; omega) fun g tk c hcn hS hk => ?_
  refine PyProof.Rows.args_nil ?_
  obtain ⟨o, es, ep, t, ho, hex, hd, _, _, _, hf, hn⟩ := hS
  have I2 : Inv X pins σ H1 { s1 with heap := g, toks := tk } := I1.kept fun b o e => hk b o (Heap.lt_size e) e
  have := hcn.1
  refine call_len_set ho hex hd hf (by rw [hn] <;> omega) ⟨.int (c : Nat), H1, I2.tok _, ⟨_, by rw [hn]⟩, k c hcn⟩
end
/-- xs[i], for xs[i] op= e -/
theorem get_list {X : Cx} : PGet X (rIxL X.K) := by
  intro pins s σ H o i ov iv Q I ro ri h
  obtain ⟨p, xs, k, z, rfl, rfl, hq, he, q⟩ := h
  cases ro
  obtain ⟨t, rfl⟩ := ri
  obtain ⟨its, r, pl, hz⟩ := I.list hq
  obtain ⟨j, h1, h2, h3, h4, h5⟩ := atI_get he
  obtain ⟨u, eu, ru⟩ := r.get h2
  have hl := r.length
  have hn := line63
  have fin : EP X pins σ Q u s := ⟨z, H, I, ru, q⟩
  by_cases h0 : 0 ≤ k
  · have hj : k.toNat = j := by
      rw [seqIndex_of h0 h5] at h1
      exact Option.some.inj h1
    exact wpAny_getItem_list pl.isList h0 (by omega) (by rw [hj]; simpa using eu) fin
  · have hj : (k + (its.toArray.size : Int)).toNat = j := by
      rw [seqIndex_neg (by omega) h4] at h1
      rw [List.size_toArray, ← hl]
      exact Option.some.inj h1
    exact wpAny_getItem_list_neg pl.isList (by omega) (by rw [List.size_toArray] <;> omega) (by omega) (by rw [hj]; simpa using eu) fin
end Sl

/-! xs.extend(t), t a tuple; comprehensions of two clauses by walks. -/
namespace Et
open PySem PySem.Spec PyProof.Rows L2
theorem ext_meets (l : Addr) (us : Array Value) (n : Nat) (b : Addr) (vs : Array Value) (m : Nat) (dd : Option Addr) (sl : Array (Option Value)) (h0 : ¬(!us.isEmpty && Builtin.List.listTooLong (us.size + vs.size)) = true) (h1 : us.size ≤ sizeLine) (h2 : us.size + vs.size ≤ sizeLine + 1) :
    Meets (Builtin.«list.extend» ⟨[.ref l, .ref b], []⟩) (fun _ R s => s.heap.get? l = some { cls := .type "list", dict := none, data := .seq us n, slots := #[] } ∧ s.heap.get? b = some { cls := .type "tuple", dict := dd, data := .seq vs m, slots := sl } ∧ R (.ok (.ret Value.none)) { s with heap := s.heap.update l (Obj.mapSeq fun x => x ++ vs), toks := s.toks }) :=
  .of_wp fun prog w A R s h => by
    obtain ⟨hp, g, d, tk, os⟩ := s
    obtain ⟨hl, hb, h⟩ := h
    have f1 := AutoSeq1.idx_int
    have f2 := AutoSeq1.sub_tuple_tuple
    have f3 := AutoSeq1.sub_list_list
    have f4 := AutoSeq1.sub_tuple_list
    have f5 := AutoSeq1.sub_list_tuple
    have hz' : (us ++ vs).size ≤ sizeLine + 1 := by
      rw [Array.size_append]
      exact h2
    wp_walk using (wpAny_updateSeq hl rfl (hz := h1) (_hz' := hz')), AutoSeq1.wpAny_loadPart' hl, AutoSeq1.wpAny_loadPart' hb
    exact ⟨_, rfl, h⟩
section
variable {X : Cx}
def rExtT (K : PySem.W.Frag) : V → List V → Hp → VK → Prop := fun x vs H Q => ∃ l b xs zs, x = .ref l ∧ vs = [.ref b] ∧ H l = some (.lst xs) ∧ SqT K H b zs ∧ xs.length + zs.length ≤ sizeLine ∧ Q .non (upd H l (.lst (xs ++ zs)))
theorem mt_extT : MtM X "list.extend" (rExtT X.K) := by
  intro pins s σ H x vs v us Q I rx rv h
  obtain ⟨l, b, xs, zs, rfl, rfl, hH, hB, hz, q⟩ := h
  cases rx
  obtain ⟨u, rfl, ru⟩ := rv.one
  cases ru
  obtain ⟨z, its, n, r, hl, e⟩ := I.lstM hH
  obtain ⟨its2, r2, p2, _⟩ := I.tuple hB
  obtain ⟨⟨c2, d2, a2, s2⟩, e2, k1, m, k2⟩ := p2
  simp only at k1 k2
  subst k1 k2
  have hl2 := r2.length
  have hsz : its.toArray.size + its2.toArray.size ≤ sizeLine := by
    rw [List.size_toArray, List.size_toArray]
    omega
  have hlong : ¬ (!its.toArray.isEmpty && Builtin.List.listTooLong (its.toArray.size + its2.toArray.size)) = true := by
    rw [notLongL hsz, Bool.and_false]
    exact Bool.false_ne_true
  refine call_meets F.slot_list_extend ⟨_, e, rfl⟩ F.entry_list_extend (F.args_list_extend_2 _ _) (ext_meets l its.toArray n b its2.toArray m d2 s2 hlong (by rw [List.size_toArray]; omega) (by omega)) ⟨e, e2, ?_⟩
  refine ⟨.non, _, I.lset (its' := its ++ its2) hH e (by simp) (r.append r2) ?_, rfl, q⟩
  rw [List.length_append]
  omega
end
/-- the outer clause of a comprehension of two -/
theorem out_it {J : It} {n : Nat} {G : Hp → Prop} {Y : Nat → Hp → V → Hp → Prop} (w : Walk J n G Y) {g : TG} {tt : TT} {B : (Hp → Prop) → L2.St → Hp → Prop} {vs : List Nat} {σ : L2.St} {H1 : Hp} {D : Addr} {Qd : Hp → Prop} (Pv : Nat → Hp → Prop) (h0 : Pv 0 (upd H1 D (.lst []))) (hG : ∀ i H, i ≤ n → Pv i H → G H)
    (hs : ∀ i x H H', i < n → Pv i H → Y i H x H' → g x (wipe σ vs) H' fun σ2 H2 => wipe σ2 vs = wipe σ vs ∧ tt σ2 H2 fun b H3 => if b = true then B (Pv (i + 1)) σ2 H3 else Pv (i + 1) H3) (hd : ∀ H, Pv n H → Qd H) :
    ∃ W : Nat → Nat → Hp → Prop, (∃ m, W 0 m (upd H1 D (.lst []))) ∧ ∀ i m H, W i m H →
      (J.stop i H ∧ Qd H) ∨ (J.go i H ∧ ∃ Nx : Hp → Prop, (∀ H', Nx H' → ∃ m', m' < m ∧ W (i + 1) m' H') ∧ ∀ x H', J.yld i H x H' → g x (wipe σ vs) H' fun σ2 H2 => wipe σ2 vs = wipe σ vs ∧ tt σ2 H2 fun b H3 => if b = true then B Nx σ2 H3 else Nx H3) := by
  refine ⟨fun i m H => m = n - i ∧ i ≤ n ∧ Pv i H, ⟨n, by simp, Nat.zero_le _, h0⟩, ?_⟩
  rintro i m H ⟨rfl, hi, p⟩
  have q := hG i H hi p
  by_cases lt : i < n
  · exact .inr ⟨w.goes i H lt q, Pv (i + 1), fun H' p' => ⟨n - (i + 1), by omega, rfl, lt, p'⟩, fun x H' y => hs i x H H' lt p (w.yields i H x H' lt q y)⟩
  · have e : i = n := by omega
    subst e
    exact .inl ⟨w.stops H q, hd H p⟩
/-- the inner clause -/
theorem in_it {J : It} {n : Nat} {G : Hp → Prop} {Y : Nat → Hp → V → Hp → Prop} (w : Walk J n G Y) {g : TG} {tt : TT} {te : TE} {vs : List Nat} {σ : L2.St} {H1 : Hp} {D : Addr} {Qd : Hp → Prop} (Pv : Nat → Hp → Prop) (h0 : Pv 0 H1) (hG : ∀ i H, i ≤ n → Pv i H → G H)
    (hs : ∀ i x H H', i < n → Pv i H → Y i H x H' → g x (wipe σ vs) H' fun σ2 H2 => wipe σ2 vs = wipe σ vs ∧ tt σ2 H2 fun b H3 =>
      if b = true then te σ2 H3 fun y H4 => ∃ acc, H4 D = some (.lst acc) ∧ acc.length < sizeLine ∧ Pv (i + 1) (upd H4 D (.lst (acc ++ [y]))) else Pv (i + 1) H3) (hd : ∀ H, Pv n H → Qd H) :
    ∃ W : Nat → Nat → Hp → Prop, (∃ m, W 0 m H1) ∧ ∀ i m H, W i m H →
      (J.stop i H ∧ Qd H) ∨ (J.go i H ∧ ∃ Nx : Hp → Prop, (∀ H', Nx H' → ∃ m', m' < m ∧ W (i + 1) m' H') ∧ ∀ x H', J.yld i H x H' → g x (wipe σ vs) H' fun σ2 H2 => wipe σ2 vs = wipe σ vs ∧ tt σ2 H2 fun b H3 =>
        if b = true then te σ2 H3 fun y H4 => ∃ acc, H4 D = some (.lst acc) ∧ acc.length < sizeLine ∧ Nx (upd H4 D (.lst (acc ++ [y]))) else Nx H3) := by
  refine ⟨fun i m H => m = n - i ∧ i ≤ n ∧ Pv i H, ⟨n, by simp, Nat.zero_le _, h0⟩, ?_⟩
  rintro i m H ⟨rfl, hi, p⟩
  have q := hG i H hi p
  by_cases lt : i < n
  · refine .inr ⟨w.goes i H lt q, Pv (i + 1), fun H' p' => ⟨n - (i + 1), by omega, rfl, lt, p'⟩, fun x H' y => hs i x H H' lt p (w.yields i H x H' lt q y)⟩
  · have e : i = n := by omega
    subst e
    exact .inl ⟨w.stops H q, hd H p⟩
end Et

/-! Data of ints, texts and tuples of such; what keeps them. -/
namespace Dv
open PySem L2 Wm
mutual
inductive Dt (K : PySem.W.Frag) (H : Hp) : V → PyData → Prop
  | int (i : Int) : Dt K H (.int i) (.int i)
  | str (x : Str) : Dt K H (.str x) (.str x)
  | tup {a : Addr} {xs : List V} {ds : List PyData} : SqT K H a xs → Dts K H xs ds → Dt K H (.ref a) (.tuple ds)
inductive Dts (K : PySem.W.Frag) (H : Hp) : List V → List PyData → Prop
  | nil : Dts K H [] []
  | cons {v : V} {vs : List V} {d : PyData} {ds : List PyData} : Dt K H v d → Dts K H vs ds → Dts K H (v :: vs) (d :: ds)
end
/-- tuples stand -/
def Kt (K : PySem.W.Frag) (H H' : Hp) : Prop := ∀ a xs, SqT K H a xs → SqT K H' a xs
section
variable {K : PySem.W.Frag} {H H' H2 : Hp}
theorem Kt.refl : Kt K H H := fun _ _ h => h
theorem Kt.trans (a : Kt K H H') (b : Kt K H' H2) : Kt K H H2 := fun p xs h => b p xs (a p xs h)
theorem Kt.same (s : Same H H') : Kt K H H' := fun _ _ h => sameT s h
/-- a store at what is no tuple -/
theorem Kt.set {p : Addr} {o u : HO} (h : H p = some u) (n1 : ∀ xs, u ≠ .tup xs) (n2 : ∀ ob xs, u ≠ .frz ob (.tup xs)) : Kt K H (upd H p o) := fun a xs q => by
  rcases q with (q | ⟨ob, q⟩) | q
  · exact .inl (.inl (by rw [upd_ne (fun e => by subst e; rw [h] at q; exact n1 _ (Option.some.inj q))]; exact q))
  · exact .inl (.inr ⟨ob, by rw [upd_ne (fun e => by subst e; rw [h] at q; exact n2 _ _ (Option.some.inj q))]; exact q⟩)
  · exact .inr q
theorem Kt.lst {p : Addr} {o : HO} {xs : List V} (h : H p = some (.lst xs)) : Kt K H (upd H p o) := Kt.set h (fun _ q => by cases q) (fun _ _ q => by cases q)
theorem Kt.new {p : Addr} {o : HO} (h : H p = none) : Kt K H (upd H p o) := Kt.same (same_new h)
mutual
theorem Dt.keep (k : Kt K H H') : ∀ (d : PyData) (v : V), Dt K H v d → Dt K H' v d
  | .int _, _, h => by cases h; exact .int _
  | .str _, _, h => by cases h; exact .str _
  | .tuple ds, _, h => by
    cases h with
    | tup a b => exact .tup (k _ _ a) (Dts.keep k ds _ b)
  | .none, _, h => by cases h
  | .bool _, _, h => by cases h
  | .list _, _, h => by cases h
  | .dict _, _, h => by cases h
theorem Dts.keep (k : Kt K H H') : ∀ (ds : List PyData) (vs : List V), Dts K H vs ds → Dts K H' vs ds
  | [], _, h => by cases h; exact .nil
  | d :: ds, _, h => by
    cases h with
    | cons a b => exact .cons (Dt.keep k d _ a) (Dts.keep k ds _ b)
end
mutual
theorem Dt.dp : ∀ (d : PyData) (v : V), Dt K H v d → Dp K H v d
  | .int _, _, h => by cases h; exact .int _
  | .str _, _, h => by cases h; exact .str _
  | .tuple ds, _, h => by
    cases h with
    | tup a b => exact .tup a (Dts.dp ds _ b)
  | .none, _, h => by cases h
  | .bool _, _, h => by cases h
  | .list _, _, h => by cases h
  | .dict _, _, h => by cases h
theorem Dts.dp : ∀ (ds : List PyData) (vs : List V), Dts K H vs ds → DpAll K H vs ds
  | [], _, h => by cases h; exact .nil
  | d :: ds, _, h => by
    cases h with
    | cons a b => exact .cons (Dt.dp d _ a) (Dts.dp ds _ b)
end
theorem Dt.k {d : PyData} {v : V} (h : Dt K H v d) (k : Kt K H H') : Dt K H' v d := Dt.keep k _ _ h
theorem Dts.k {ds : List PyData} {vs : List V} (h : Dts K H vs ds) (k : Kt K H H') : Dts K H' vs ds := Dts.keep k _ _ h
theorem Dt.toDp {d : PyData} {v : V} (h : Dt K H v d) : Dp K H v d := Dt.dp _ _ h
theorem Dts.toDp {ds : List PyData} {vs : List V} (h : Dts K H vs ds) : DpAll K H vs ds := Dts.dp _ _ h
theorem Dt.inv {ds : List PyData} {v : V} (h : Dt K H v (.tuple ds)) : ∃ p xs, v = .ref p ∧ SqT K H p xs ∧ Dts K H xs ds := by
  cases h with
  | tup a b => exact ⟨_, _, rfl, a, b⟩
theorem Dt.str_inv {x : Str} {v : V} (h : Dt K H v (.str x)) : v = .str x := by cases h; rfl
theorem Dt.int_inv {i : Int} {v : V} (h : Dt K H v (.int i)) : v = .int i := by cases h; rfl
theorem Dts.len {ds : List PyData} {vs : List V} (h : Dts K H vs ds) : vs.length = ds.length := by
  induction ds generalizing vs with
  | nil => cases h; rfl
  | cons d ds ih =>
    cases h with
    | cons a b => rw [List.length_cons, List.length_cons, ih b]
theorem Dts.at {i : Nat} {ds : List PyData} {vs : List V} {v : V} (h : Dts K H vs ds) (g : vs[i]? = some v) : ∃ d, ds[i]? = some d ∧ Dt K H v d := by
  induction ds generalizing vs i with
  | nil =>
    cases h
    simp at g
  | cons d ds ih =>
    cases h with
    | cons a b =>
      cases i with
      | zero =>
        simp at g
        subst g
        exact ⟨d, rfl, a⟩
      | succ i => exact ih b (by simpa using g)
theorem Dts.get {i : Nat} {ds : List PyData} {vs : List V} {d : PyData} (h : Dts K H vs ds) (g : ds[i]? = some d) : ∃ v, vs[i]? = some v ∧ Dt K H v d := by
  have li := (List.getElem?_eq_some_iff.mp g).1
  obtain ⟨v, e⟩ : ∃ v, vs[i]? = some v := ⟨_, List.getElem?_eq_getElem (by rw [h.len]; exact li)⟩
  obtain ⟨d2, e2, a⟩ := h.at e
  rw [g] at e2
  cases e2
  exact ⟨v, e, a⟩
theorem Dts.app {ds es : List PyData} {vs ws : List V} (h : Dts K H vs ds) (g : Dts K H ws es) : Dts K H (vs ++ ws) (ds ++ es) := by
  induction ds generalizing vs with
  | nil => cases h; exact g
  | cons d ds ih =>
    cases h with
    | cons a b => exact .cons a (ih b)
theorem Dts.snoc {ds : List PyData} {d : PyData} {vs : List V} {v : V} (h : Dts K H vs ds) (g : Dt K H v d) : Dts K H (vs ++ [v]) (ds ++ [d]) := h.app (.cons g .nil)
theorem Dts.take {ds : List PyData} {vs : List V} (h : Dts K H vs ds) : ∀ n, Dts K H (vs.take n) (ds.take n) := by
  induction ds generalizing vs with
  | nil => cases h; intro n; simp; exact .nil
  | cons d ds ih =>
    cases h with
    | cons a b =>
      intro n
      cases n with
      | zero => exact .nil
      | succ n => exact .cons a (ih b n)
theorem Dts.drop {ds : List PyData} {vs : List V} (h : Dts K H vs ds) : ∀ n, Dts K H (vs.drop n) (ds.drop n) := by
  induction ds generalizing vs with
  | nil => cases h; intro n; simp; exact .nil
  | cons d ds ih =>
    cases h with
    | cons a b =>
      intro n
      cases n with
      | zero => exact .cons a b
      | succ n => exact ih b n
theorem dts_str : ∀ ss : List Str, Dts K H (ss.map V.str) (ss.map PyData.str)
  | [] => .nil
  | s :: ss => .cons (.str s) (dts_str ss)
theorem dts_str_inv {ss : List Str} {vs : List V} (h : Dts K H vs (ss.map PyData.str)) : vs = ss.map V.str := by
  induction ss generalizing vs with
  | nil => cases h; rfl
  | cons s ss ih =>
    cases h with
    | cons a b => rw [a.str_inv, ih b]; rfl
theorem dts_int : ∀ ns : List Int, Dts K H (ns.map V.int) (ns.map PyData.int)
  | [] => .nil
  | s :: ss => .cons (.int s) (dts_int ss)
theorem dts_int_inv {ns : List Int} {vs : List V} (h : Dts K H vs (ns.map PyData.int)) : vs = ns.map V.int := by
  induction ns generalizing vs with
  | nil => cases h; rfl
  | cons s ss ih =>
    cases h with
    | cons a b => rw [a.int_inv, ih b]; rfl
theorem dt_tup {p : Addr} {xs : List V} {ds : List PyData} (h : H p = some (.tup xs)) (g : Dts K H xs ds) : Dt K H (.ref p) (.tuple ds) := .tup (SqT.of h) g
end
/-- data that == may be asked of: texts in the line, not deep -/
def Fine (n : Nat) (d : PyData) : Prop := d.canLay0 = true ∧ d.depth ≤ n
theorem fine_int {n : Nat} (i : Int) : Fine n (.int i) := ⟨by simp [PyData.canLay0], by simp [PyData.depth]⟩
theorem fine_tup {n : Nat} {ds : List PyData} (h : ∀ d ∈ ds, Fine n d) : Fine (n + 1) (.tuple ds) := by
  have q : PyData.canLayAll0 ds = true ∧ PyData.depthAll ds ≤ n := by
    induction ds with
    | nil => simp [PyData.canLayAll0, PyData.depthAll]
    | cons d ds ih =>
      have h1 := h d (by simp)
      have h2 := ih fun y m => h y (List.mem_cons_of_mem _ m)
      simp only [PyData.canLayAll0, PyData.depthAll, h1.1, h2.1, Bool.and_self, true_and]
      have := h1.2
      have := h2.2
      omega
  exact ⟨by simp only [PyData.canLay0]; exact q.1, by simp only [PyData.depth]; have := q.2; omega⟩
theorem fine_str {n : Nat} {x : Str} (h : x.cps.all (· < 0x110000) = true) : Fine n (.str x) := ⟨by simp only [PyData.canLay0]; exact h, by simp [PyData.depth]⟩
theorem fine_num {n : Nat} {ds : List Nat} (h : ∀ d ∈ ds, d ≤ 9) : Fine n (.str (numS ds)) := by
  refine fine_str ?_
  rw [← Array.all_toList, List.all_eq_true]
  intro c m
  obtain ⟨d, md, rfl⟩ := List.mem_map.mp (show c ∈ codes ds from m)
  have := h d md
  exact decide_eq_true (by omega)
theorem Fine.shaped {n : Nat} {d : PyData} (h : Fine n d) (l : n ≤ 64) : SeqAt.shaped d = true := by
  have e : decide (d.depth ≤ 64) = true := decide_eq_true (Nat.le_trans h.2 l)
  show (d.canLay0 && _) = true
  rw [e, Bool.and_true]
  exact h.1
theorem Fine.refl {n : Nat} {d : PyData} (h : Fine n d) : PyData.eqv d d = true := SeqAt.eqv_refl d h.1
theorem Fine.mono {n m : Nat} {d : PyData} (h : Fine n d) (l : n ≤ m) : Fine m d := ⟨h.1, Nat.le_trans h.2 l⟩
end Dv

/-! A list or a tuple, told by a letter; loops over it that may write elsewhere. -/
namespace Kd
open PySem PySem.Spec PyProof.Rows L2
/-- the list or (t) the tuple at a -/
def Is (K : PySem.W.Frag) (t : Bool) (H : Hp) (a : Addr) (xs : List V) : Prop := if t = true then SqT K H a xs else SqL K H a xs
theorem Is.keep {K : PySem.W.Frag} {t : Bool} {H H' : Hp} {a : Addr} {xs : List V} (s : Same H H') (h : Is K t H a xs) : Is K t H' a xs := by
  cases t
  · exact Hf.keepL s h
  · exact Hf.keepT s h
theorem Is.sq {K : PySem.W.Frag} {t : Bool} {H : Hp} {a : Addr} {xs : List V} (h : Is K t H a xs) : SqL K H a xs ∨ SqT K H a xs := by
  cases t
  · exact .inl h
  · exact .inr h
theorem Is.tup {K : PySem.W.Frag} {H : Hp} {a : Addr} {xs : List V} (h : SqT K H a xs) : Is K true H a xs := h
theorem Is.lst {K : PySem.W.Frag} {H : Hp} {a : Addr} {xs : List V} (h : SqL K H a xs) : Is K false H a xs := h
section
variable {X : Cx}
def iSeq (K : PySem.W.Frag) (tl : TE) : TI := fun σ H R => tl σ H fun x H1 => ∃ a xs t, x = .ref a ∧ Is K t H1 a xs ∧
  ∀ J G, Walk J xs.length G (YAt xs) → (∀ H', Is K t H' a xs → G H') → R J H1
theorem pi_seq {tg l : Expr} {tl : TE} (hl : PE X l tl) : PI X tg l (iSeq X.K tl) := by
  refine ⟨fun pins s σ H R I h => ?_⟩
  refine thn (hl.run pins s σ H _ I h) fun v s1 ⟨x, H1, I1, r1, q1⟩ => ?_
  obtain ⟨a, xs, t, e, hq, q⟩ := q1
  subst e
  cases r1
  cases t with
  | false =>
    have hq : SqL X.K H1 a xs := hq
    have q := q _ _ walk_list fun H' s => s
    obtain ⟨its, rv, p, hz⟩ := I1.list hq
    refine wpAny_pyIter_list p.isList ?_
    refine ⟨s1.heap.objs.size, [s1.heap.objs.size], _, _, H1, rfl, I1.kept (t' := s1.toks) fun b o e => Heap.get?_push_of_some _ e, turn_list a _, ⟨_, Heap.get?_push_size _ rfl, rfl, rfl⟩, fun b hb => ?_, q⟩
    have e : b = s1.heap.objs.size := by simpa using hb
    subst e
    exact I1.fpOk (Nat.le_refl _) (I1.hok.fresh (Nat.le_refl _))
  | true =>
    have hq : SqT X.K H1 a xs := hq
    have q := q _ _ walk_tup fun H' s => s
    obtain ⟨its, rv, p, hz⟩ := I1.tuple hq
    refine wpAny_pyIter_tuple (show s1.heap.IsTuple a its.toArray from p) ?_
    refine ⟨s1.heap.objs.size, [s1.heap.objs.size], _, _, H1, rfl, I1.kept (t' := s1.toks) fun b o e => Heap.get?_push_of_some _ e, turn_tuple a _, ⟨_, Heap.get?_push_size _ rfl, rfl, rfl⟩, fun b hb => ?_, q⟩
    have e : b = s1.heap.objs.size := by simpa using hb
    subst e
    exact I1.fpOk (Nat.le_refl _) (I1.hok.fresh (Nat.le_refl _))
end
end Kd

/-! Comprehensions whose items are told one by one. -/
namespace Lm
open PySem L2 Wm Dv
theorem list_is {α : Type} {ys zs : List α} (l : ys.length = zs.length) (h : ∀ (i : Nat) y, ys[i]? = some y → zs[i]? = some y) : ys = zs := by
  refine List.ext_getElem? fun i => ?_
  by_cases q : i < ys.length
  · rw [h i _ (List.getElem?_eq_getElem q), List.getElem?_eq_getElem q]
  · rw [List.getElem?_eq_none (by omega), List.getElem?_eq_none (by omega)]
theorem lc_map {K : PySem.W.Frag} {J : It} {n : Nat} {G : Hp → Prop} {xs : List V} (w : Walk J n G (YAt xs)) {g : TG} {te : TE} {vs : List Nat} {σ : L2.St} {H1 : Hp} {D : Addr} {Qd : Hp → Prop} (R : Nat → V → Hp → Prop)
    (mono : ∀ i y H H', R i y H → Kt K H H' → R i y H') (hD : H1 D = none) (hn : n ≤ 1000) (hG : ∀ H', Same H1 H' → G H')
    (hs : ∀ i x H', i < n → xs[i]? = some x → Same H1 H' → ∀ (Q : V → Hp → Prop) (Z : Hp → Prop), (∀ y H4, Same H' H4 → R i y H4 → Q y H4) → g x (wipe σ vs) H' fun σ2 H2 => wipe σ2 vs = wipe σ vs ∧ tYes σ2 H2 fun b H3 => if b = true then te σ2 H3 Q else Z H3)
    (hd : ∀ H ys, Same H1 H → H D = some (.lst ys) → ys.length = n → (∀ (i : Nat) y, ys[i]? = some y → R i y H) → Qd H) :
    ∃ W : Nat → Nat → Hp → Prop, (∃ m, W 0 m (upd H1 D (.lst []))) ∧ ∀ i m H, W i m H →
      (J.stop i H ∧ Qd H) ∨ (J.go i H ∧ ∃ Nx : Hp → Prop, (∀ H', Nx H' → ∃ m', m' < m ∧ W (i + 1) m' H') ∧ ∀ x H', J.yld i H x H' → g x (wipe σ vs) H' fun σ2 H2 => wipe σ2 vs = wipe σ vs ∧ tYes σ2 H2 fun b H3 =>
        if b = true then te σ2 H3 fun y H4 => ∃ acc, H4 D = some (.lst acc) ∧ acc.length < sizeLine ∧ Nx (upd H4 D (.lst (acc ++ [y]))) else Nx H3) := by
  refine lc_it (tt := tYes) w (fun i H => Same H1 H ∧ ∃ ys : List V, ys.length = i ∧ H D = some (.lst ys) ∧ ∀ j y, ys[j]? = some y → R j y H) ⟨same_new hD, [], rfl, upd_same, fun (j : Nat) (y : V) e => by simp at e⟩ (fun i H _ h => hG H h.1) (fun i x H H' hi hP hY => ?_) (fun H hP => ?_)
  · obtain ⟨sm, ys, el, hy, hR⟩ := hP
    obtain ⟨rfl, hx⟩ := hY
    refine hs i x H' hi hx sm _ _ (fun y H4 s4 r4 => ?_)
    · refine ⟨ys, s4 _ _ hy, by rw [el]; exact small1000 (by omega), same_mut (sm.trans s4) hD, ys ++ [y], by rw [List.length_append, el]; rfl, upd_same, fun j z hz => ?_⟩
      have k5 : Kt K H4 (upd H4 D (.lst (ys ++ [y]))) := Kt.lst (s4 _ _ hy)
      by_cases lj : j < ys.length
      · rw [List.getElem?_append_left lj] at hz
        exact mono _ _ _ _ (hR j z hz) ((Kt.same s4).trans k5)
      · rw [List.getElem?_append_right (by omega)] at hz
        have e0 : j - ys.length = 0 := by
          by_cases q : j - ys.length = 0
          · exact q
          · rw [List.getElem?_eq_none (by rw [List.length_singleton]; omega)] at hz
            cases hz
        rw [e0] at hz
        have ez : y = z := by simpa using hz
        have ej : j = i := by omega
        subst ez ej
        exact mono _ _ _ _ r4 k5
  · obtain ⟨sm, ys, el, hy, hR⟩ := hP
    exact hd H ys sm hy el hR
end Lm
namespace Kx
open PySem L2
def rLen (K : PySem.W.Frag) : List V → Hp → VK → Prop := fun xs H Q => ∃ p ys, xs = [.ref p] ∧ (SqL K H p ys ∨ SqT K H p ys) ∧ Q (.int (ys.length : Nat)) H
def rTup (K : PySem.W.Frag) : List V → Hp → VK → Prop := fun xs H Q => ∃ a ys, xs = [.ref a] ∧ SqT K H a ys ∧ Q (.ref a) H
def rTupOf (K : PySem.W.Frag) : List V → Hp → VK → Prop := fun xs H Q => ∃ p ys, xs = [.ref p] ∧ ((SqL K H p ys ∧ ∀ l, H l = none → Q (.ref l) (upd H l (.tup ys))) ∨ (SqT K H p ys ∧ Q (.ref p) H))
end Kx

/-! An own error with one field, NoBox, as the guide's skeleton on own errors gives it. -/
namespace PySem
namespace LowB
open PySem.W PySem.Calls PyProof.Rows PySem.HandSPX
/-! ### the text of __init__ -/
def iA (p1 p2 : Pos) : Arguments := { posonlyargs := [], args := [{ arg := "self", annotation := none, pos := p1 }, { arg := "number", annotation := none, pos := p2 }], vararg := none, kwonlyargs := [], kw_defaults := [], kwarg := none, defaults := [] }
def iB (q1 q2 q3 q4 : Pos) : List Stmt := [.Assign [.Attribute (.Name "self" q1) "number" q2] (.Name "number" q3) q4]
def iS : Scope := { kind := .function, names := [(PySem.Str.ofString "self", .local), (PySem.Str.ofString "number", .local)], isGenerator := false, isCoroutine := false, more := [] }
/-- what the written part says of Low, at C, and of its __init__, at fI -/
structure LowTxt (K : Frag) (mg : Str → Option Value) (C fI : Addr) : Prop where
  gC : mg "NoBox" = some (.ref C)
  cls : ∃ nm q N bs bm sn sub ab col dd k0 k1 k2 k3 k5, K.lookup C = some (excClassObj nm q C N bs bm true sn sub ab col dd k0 k1 k2 k3 k5 "ValueError.__new__") ∧ refsVE bm = true
  sa : findIn K (.ref C) "__setattr__" = some (some (.builtin "object.__setattr__"))
  ga : findIn K (.ref C) "__getattribute__" = some (some (.builtin "BaseException.__getattribute__"))
  gg : findIn K (.ref C) "__getattr__" = some none
  noN : findIn K (.ref C) "number" = some none
  iC : findIn K (.ref C) "__init__" = some (some (.ref fI))
  tC : typeIn K (.ref fI) = some (.type "function")
  kC : keepIn K (.ref C) = true
  exC : subIn K (.ref C) (.type "BaseException") = some true
  tyC : typeIn K (.ref C) = some (.type "type")
  hdC : hasDictIn K C = true
  te : exmOne K (.ref C) (.ref C) = some true
  fn : ∃ (oc : Value) (od : Option Addr) (doc pm : Value) (an : Option Addr) (cdv ct : Value) (osl : Array (Option Value)) (p1 p2 q1 q2 q3 q4 : Pos),
    K.lookup fI = some ⟨oc, od, .func (fnOf "__init__" "NoBox.__init__" (iA p1 p2) (iB q1 q2 q3 q4) iS .none .none doc pm an cdv ct), osl⟩ ∧ codeIn K cdv "NoBox.__init__" = true
theorem one_size (v : Value) : [v].length ≤ sizeLine := by
  rw [sizeLine_eq]
  exact (by decide : 1 ≤ 16777216)
theorem kept_but {K : Frag} {h h' : Heap} {x : Addr} (X : K.In h) (hx : K.lookup x = none) (k : ∀ b o, b ≠ x → h.get? b = some o → h'.get? b = some o) : K.In h' := fun a o e =>
  k a o (fun z => by rw [z, hx] at e; cases e) (X a o e)
theorem ldC {M : Model} {s : Shared} {name : Str} {scope : Scope} {L a : Addr} {cd : Value} {m : Str → Option Value} {x : Str} {pos : Pos} {v : Value} {Q : Value → Shared → Prop} {A : Around} {E : Value → Shared → Prop} (hn : s.heap.Ns L m) (hv : m x = some v) (h : Q v s)
    (hk : scope.kind = .function := by rfl) (hl : (envOfC name scope L a cd).kindOf x = some .local := by rfl) (hd : (x == ("__debug__" : Str)) = false := by decide) :
    wpAny M A (eval (.Name x pos) (envOfC name scope L a cd)) Q E s := wpAny_Name (wpAny_loadName_local hk hl hn hv h) hd
/-- what __init__ leaves of a fresh exception at x -/
structure InitEnd (h h' : Heap) (x C dx t1 : Addr) (v : Value) : Prop where
  keep : ∀ b o, b ≠ x → h.get? b = some o → h'.get? b = some o
  obj : h'.get? x = some { cls := .ref C, dict := some dx, data := .fields #[.ref t1, .none, .none, .none, .bool false, .none] }
  dbig : h.objs.size ≤ dx
  dne : dx ≠ x
  ns : h'.Ns1 dx (fun y => if y = "number" then some v else none)
/-- a made Low -/
structure OwnMade (h h' : Heap) (e C d : Addr) (v : Value) : Prop where
  keep : ∀ b o, h.get? b = some o → h'.get? b = some o
  new : h.objs.size ≤ e
  obj : ∃ oe vs, h'.get? e = some oe ∧ oe.cls = .ref C ∧ oe.dict = some d ∧ oe.data = .fields vs ∧ vs[1]? = some .none
  dbig : h.objs.size ≤ d
  dne : d ≠ e
  ns : h'.Ns1 d (fun y => if y = "number" then some v else none)
section
variable {prog : Program} {w : World} {A : Around} {E : Value → Shared → Prop} {R : Result → Shared → Prop} {s : Shared} {K : Frag} {mg : Str → Option Value} {C fI : Addr}
theorem low_init (T : LowTxt K mg C fI) {x t0 : Addr} {v : Value} (X : K.In s.heap) (hlim : s.heap.NoLimit) (hx : s.heap.get? x = some (excO C t0)) (hnx : K.lookup x = none) (hroom : A.depth < recursionLimit)
    (hq : ∀ h' tk dx, InitEnd s.heap h' x C dx t0 v → R (.ok (.ret .none)) { s with heap := h', toks := tk }) :
    codeAny (model prog w) A (.call (.ref fI) ⟨[.ref x, v], []⟩) R s := by
  obtain ⟨oc, od, doc, pm, an, cdv, ct, osl, p1, p2, q1, q2, q3, q4, ho, hcd⟩ := T.fn
  obtain ⟨nm, q, N, bs, bm, sn, sub, ab, col, dd, k0, k1, k2, k3, k5, hC, hbm⟩ := T.cls
  have hcl : clsIn K C = some { name := nm, bases := bs, mro := .ref C :: bm, ns := N, qualname := q, hasDict := true, slotNames := sn, subclasses := sub, abstract := ab, collection := col, hasDel := false } := by unfold clsIn; rw [hC] <;> rfl
  refine Att.call_fn (binds := [("self", .ref x), ("number", v)]) X hlim ho hcd hroom (BindsTo.of_eq (by first | rfl | with_unfolding_all rfl)) (by first | rfl | decide | with_unfolding_all rfl) (fun s₁ IC => ?_) rfl rfl rfl
  obtain ⟨h₁, tk₁, rfl⟩ := IC.toInCall.same
  have k : ∀ b o, s.heap.get? b = some o → h₁.get? b = some o := IC.toInCall.keep
  have hn := IC.toInCall.ns
  have hxL : s.heap.objs.size ≠ x := Nat.ne_of_gt (Heap.lt_size hx)
  have X₁ : K.In h₁ := X.keeps k
  have hx₁ := k _ _ hx
  -- self.by = by
  show wpAny _ _ (execs _ _) _ _ _
  refine wpAny_execs_cons (plainObj_wpAny_Assign_Attribute ?_)
  refine ldC (v := v) hn (by first | rfl | with_unfolding_all rfl | kernel_rfl) (ldC (v := .ref x) hn (by first | rfl | with_unfolding_all rfl | kernel_rfl) ?_)
  refine set_plain X₁ (ox := excO C t0) (od := none) ⟨hx₁, rfl, rfl, trivial⟩ T.sa ?_
  refine exc_osa X₁ hx₁ hcl (show refsVE (.ref C :: bm) = true from hbm) rfl T.noN (fun h₃ tk₃ dx k₃ dn dne hx₃ hn₃ => ?_)
  show wpAny _ _ (execs _ _) _ _ _
  have z : s.heap.objs.size < h₁.objs.size := hn.lt
  exact wpAny_execs_nil (hq h₃ tk₃ dx ⟨fun b o hb e => k₃ b o hb (k b o e), hx₃, Nat.le_of_lt (Nat.lt_of_lt_of_le z dn), dne, hn₃⟩)
theorem low_made (T : LowTxt K mg C fI) {v : Value} (X : K.In s.heap) (hlim : s.heap.NoLimit) (hroom : A.depth + 1 < recursionLimit)
    (hq : ∀ h' tk e d, OwnMade s.heap h' e C d v → R (.ok (.ret (.ref e))) { s with heap := h', toks := tk }) :
    codeAny (model prog w) A (.call (.ref C) ⟨[v], []⟩) R s := by
  obtain ⟨nm, q, N, bs, bm, sn, sub, ab, col, dd, k0, k1, k2, k3, k5, hC, hbm⟩ := T.cls
  obtain ⟨hp, g, dr, tk, os⟩ := s
  have k : ∀ b o, hp.get? b = some o → ((hp.push (kdv_tup [v])).push (excO C hp.objs.size)).get? b = some o := fun b o e => Heap.get?_push_of_some _ (Heap.get?_push_of_some _ e)
  have hget : ((hp.push (kdv_tup [v])).push (excO C hp.objs.size)).get? (hp.objs.size + 1) = some (excO C hp.objs.size) := by heap_get
  have hnx : K.lookup (hp.objs.size + 1) = none := by
    cases e : K.lookup (hp.objs.size + 1) with
    | none => rfl
    | some o =>
      have z : hp.get? (hp.objs.size + 1) = some o := X _ _ e
      exact absurd (Nat.lt_of_succ_lt (Heap.lt_size z)) (Nat.lt_irrefl _)
  refine call_own F.excBase_ValueError (fun X => refsVE_contains X bm hbm) (X _ _ hC) (looks_findIn X T.iC) (fun self => bind_fn X self T.tC) (one_size v) ?_
  refine low_init (s := ⟨(hp.push (kdv_tup [v])).push (excO C hp.objs.size), g, dr, tk, os⟩) T (X.keeps k) (hlim.keeps k) hget hnx ?_ fun h' tk' dx ⟨k', hx, dn, dne, hns⟩ => ?_
  · show A.depth + 1 < recursionLimit
    exact hroom
  · have old : ∀ b o, hp.get? b = some o → h'.get? b = some o := fun b o e => k' b o (Nat.ne_of_lt (Nat.lt_succ_of_lt (Heap.lt_size e))) (k b o e)
    have z : hp.objs.size + 1 + 1 ≤ dx := by
      first
        | (simpa only [Heap.size_push] using dn)
        | exact dn
        | (have q := dn; rw [Heap.size_push, Heap.size_push] at q; exact q)
    exact ⟨rfl, hq h' tk' (hp.objs.size + 1) dx ⟨old, Nat.le_succ _, ⟨_, _, hx, rfl, rfl, rfl, rfl⟩, Nat.le_trans (Nat.le_trans (Nat.le_succ _) (Nat.le_succ _)) z, dne, hns⟩⟩
end
end LowB
end PySem
namespace L2
open PySem PySem.Spec PyProof.Rows
theorem relO_lowB {v : V} {v' : Value} (r : RelV v v') (f : Str) : RelO (List.lookup f [(("number" : Str), v)]) (if f = "number" then some v' else none) := by
  by_cases hw : f = "number"
  · subst hw
    rw [if_pos rfl]
    have q : List.lookup ("number" : Str) [(("number" : Str), v)] = some v := by simp [List.lookup]
    rw [q]
    exact r
  · rw [if_neg hw]
    have qw : (f == ("number" : Str)) = false := by simpa using hw
    have q2 : List.lookup f [(("number" : Str), v)] = none := by simp [List.lookup, qw]
    rw [q2]
    trivial
section
variable {X : Cx} {C fI : Addr}
/-- Low(e) -/
def tMkLowB (C : Addr) (ta : TA) : St → Hp → XK → Prop := fun σ H Q => ta σ H fun vs H1 => ∃ v, vs = [v] ∧ ∀ d, H1 d = none → Q (.ref C) (some d) (upd H1 d (.xd [(("number" : Str), v)]))
theorem pmk_lowB {a : Expr} {ta : TA} {p pos : Pos} {k : Nat} (T : PySem.LowB.LowTxt X.K X.mg C fI) (hr : Room k X.A) (ha : PA X [a] ta) (hg : Gl X "NoBox" := by rfl)
    (he : starEach (a :: []) X.env = (false, eval a X.env) :: starEach [] X.env := by rfl) (hpl : (backTo pos (starEach [] X.env)).any (·.1) = false := by rfl) :
    PMk X (.Call (.Name "NoBox" p) [a] [] pos) (tMkLowB C ta) := by
  intro pins s σ H Q I h
  refine wpAny_Call_Name_kw (ld_glob I hg T.gC ?_)
  refine PySem.W.callWith_K (h₀ := X.base) I.ok.mod.kin T.kC (thn (ha.run pos pins s σ H _ I h) fun us s1 hh => ?_) he hpl
  obtain ⟨vs, H1, I1, r1, v, ev, q1⟩ := hh
  subst ev
  refine ⟨I1.kIn, ?_⟩
  cases r1 with
  | cons rv rn =>
    rename_i v' us'
    cases rn
    show wpAny _ _ (call (.ref C) [v']) _ _ _
    have hlim := I1.nolimit
    obtain ⟨hp, g, dr, tk, os⟩ := s1
    refine wpAny_call (PySem.LowB.low_made T I1.kIn hlim (by have := hr.dp; omega) fun h' tk' e d M => ?_)
    show MkP X pins σ Q (.ref e) ⟨h', g, dr, tk', os⟩
    obtain ⟨oe, fv, hoe, hc, hd, hdat, h1⟩ := M.obj
    have hns := M.ns
    obtain ⟨G', g1, g2⟩ := restrict h' fun b => decide (b ≠ e)
    have gk : ∀ b, b ≠ e → G'.get? b = h'.get? b := fun b hb => g1 b (decide_eq_true hb)
    have ge : G'.get? e = none := g2 e (by simp)
    have old : ∀ b o, hp.get? b = some o → G'.get? b = some o := fun b o q => (gk b (Nat.ne_of_lt (Nat.lt_of_lt_of_le (Heap.lt_size q) M.new))).trans (M.keep b o q)
    have ob : ObjOk X.prog X.w (upd H1 d (.xd [(("number" : Str), v)])) G' d (.xd [(("number" : Str), v)]) :=
      ⟨_, hns.at (fun o q => (gk d M.dne).trans q), fun f => relO_lowB rv f⟩
    have J : Inv X pins σ (upd H1 d (.xd [(("number" : Str), v)])) ⟨G', g, dr, tk', os⟩ := I1.laid (t' := tk') old M.dbig ob
    refine ⟨e, oe, fv, ⟨G', g, dr, tk', os⟩, _, .ref C, some d, rfl, J, fun b o q => ?_, ge, hoe, ⟨hc, hd⟩, hdat, h1, ?_, rfl, I1.bare, raises_own T.exC T.tyC, q1 d (I1.hok.fresh M.dbig)⟩
    · by_cases hb : b = e
      · have q' : G'.get? b = some o := q
        rw [hb, ge] at q'; cases q'
      · exact (gk b hb).symm.trans q
    · rw [upd_ne (Ne.symm M.dne)]
      exact I1.hok.fresh M.new
/-- raise Low(e) -/
def tRaiseLowB (C : Addr) (W : WX) (ta : TA) : TS := fun _ σ H => tMkLowB C ta σ H fun cls d H' => W cls d σ H'
theorem ps_raiseLowB {a : Expr} {ta : TA} {W : WX} {p pos pos2 : Pos} {k : Nat} (hc : X.calm = true) (T : PySem.LowB.LowTxt X.K X.mg C fI) (hr : Room k X.A) (tk : Takes X W) (ha : PA X [a] ta) (hg : Gl X "NoBox" := by rfl)
    (he : starEach (a :: []) X.env = (false, eval a X.env) :: starEach [] X.env := by rfl) (hpl : (backTo pos (starEach [] X.env)).any (·.1) = false := by rfl) :
    PS X (.Raise (some (.Call (.Name "NoBox" p) [a] [] pos)) none pos2) (tRaiseLowB C W ta) := ps_raise hc tk (pmk_lowB T hr ha hg he hpl)
/-- low.by, low the exception that the suite holds (at a; its class cls, its dict d) -/
def tByLowB (C : Addr) (a : Addr) (cls : Value) (d : Option Addr) (te : TE) : TE := fun σ H Q => te σ H fun x H1 => x = .ref a ∧ cls = .ref C ∧ ∃ (dd : Addr) (v : V), d = some dd ∧ H1 dd = some (.xd [(("number" : Str), v)]) ∧ Q v H1
theorem pe_byLowB {a : Addr} {oe : Obj} {cls : Value} {d : Option Addr} {pn : List (Addr × Obj)} {e : Expr} {te : TE} {pos : Pos} (T : PySem.LowB.LowTxt X.K X.mg C fI) (hz : Zc cls d oe) (hf : ∃ vs, oe.data = .fields vs) (he : PE (X.suite a ((a, oe) :: pn)) e te)
    (hb : attributeBase e "number" X.env (eval e X.env) = eval e X.env := by rfl) :
    PE (X.suite a ((a, oe) :: pn)) (.Attribute e "number" pos) (tByLowB C a cls d te) := by
  refine ⟨fun pins s σ H Q I h => ?_⟩
  refine attr_of hb (thn (he.run pins s σ H _ I h) fun u s1 hh => ?_)
  obtain ⟨x, H1, I1, rx, ex, ec, dd, v, ed, ea, q⟩ := hh
  subst ex
  obtain rfl : u = Value.ref a := rx
  subst ec
  subst ed
  obtain ⟨ha, _⟩ := I1.pin (a, oe) (List.mem_append_left _ List.mem_cons_self)
  obtain ⟨vs, hd⟩ := hf
  have hx : ObjOk X.prog X.w H1 s1.heap dd (.xd [(("number" : Str), v)]) := I1.hok dd _ ea
  obtain ⟨mA, hns, hr⟩ := hx
  obtain ⟨od, ho, hl⟩ := lookIn_ns hns
  have l : List.lookup ("number" : Str) [(("number" : Str), v)] = some v := by simp [List.lookup]
  obtain ⟨u, hu, ru⟩ := RelO.some_of (v := v) (o := mA "number") (by rw [← l]; exact hr "number")
  have J : PySem.W.InstAt s1.heap a oe C (some od) := ⟨ha, hz.1, by unfold PySem.W.notCls; rw [hd] <;> rfl, by rw [hz.2]; exact ho⟩
  exact HandSPX.exc_get I1.kIn J T.ga T.gg T.exC (PySem.W.findObj_own T.hdC T.noN rfl (by rw [hl, hu])) (handed_of ru) ⟨v, H1, I1.tok _, ru, q⟩
end
end L2


/-! A method of an own class that may raise, called with values (the guide's way). -/
namespace MS
open PySem PySem.Spec PyProof.Rows L2
def tMethS (C : Addr) (m : Str) (sp : Sp) (E : L2.St → XK) (ta : TE) (t : TA) : TE := fun σ H Q => ta σ H fun x H1 => ∃ a dx fs, x = .ref a ∧ H1 a = some (.ins C dx fs) ∧ fs.lookup m = none ∧ t σ H1 fun vs H2 => sp (x :: vs) H2 Q (E σ)
theorem pe_methS {X : Cx} {CX : CXT} {k : Nat} {f C : Addr} {fd : FuncData} {ps : List Str} {sp : Sp} {E : L2.St → XK} {m : Str} {pos apos : Pos} {e o : Expr} {es : List Expr} {ta : TE} {t : TA} {pl : Sem Bool} (he : PE X o ta) (c : Cls X.K C) (hm : Meth X.K C m f)
    (F : FnOk X.prog X.w X.K X.mg X.base CX k f fd ps sp) (hr : Room k X.A) (hb : Binds X.K fd ps []) (hx : ∀ σ, PassesAt CX X σ (E σ)) (ha : PA X (e :: es) t)
    (hst : starEach (e :: es) X.env = (false, eval e X.env) :: starEach es X.env := by rfl) (hpl : (backTo pos (starEach es X.env)).any (·.1) = false := by rfl)
    (ht : eval (.Call (.Attribute o m apos) (e :: es) [] pos) X.env = (do
      let ov ← eval o X.env
      standAt apos.atName
      let (f, first) ← holding [ov] (getMethod ov m pl)
      callWith pos f first (backTo pos (starEach (e :: es) X.env)) (backToKw pos (keywordEach [] X.env))) := by rfl) :
    PE X (.Call (.Attribute o m apos) (e :: es) [] pos) (tMethS C m sp E ta t) := by
  refine ⟨fun pins s σ H Q I h => ?_⟩
  refine PySem.W.methodCall_KW (pl := pl) (thn (he.run pins s σ H _ I h) fun u s1 ⟨x, H1, I1, rx, a, dx, fs, ex, ea, l, q⟩ => ?_) ht
  subst ex
  obtain rfl : u = Value.ref a := rx
  refine getmeth_ok I1 ea c hm l ?_
  refine PySem.W.callWith_K (first := [.ref a]) (h₀ := X.base) I.ok.mod.kin hm.kp (thn (ha.run pos pins s1 σ H1 _ I1 q) fun us s2 ⟨vs, H2, I2, r, q2⟩ => ⟨I2.kIn, ?_⟩) hst hpl
  exact run_fnS (us := .ref a :: us) (vs := .ref a :: vs) F hr hb (hx σ) I2 (.cons rfl r) q2
end MS

/-! Comprehensions whose items draw from the bag, told one by one. -/
namespace Lm
open PySem L2 Wm Dv
theorem kt_but {K : PySem.W.Frag} {H H' : Hp} {b : Addr} {n : Nat} (bag : Bag H b n) (e : But b H H') : Kt K H H' := fun a xs q => by
  obtain ⟨c, x, k, m, z, ns, hb, _⟩ := bag
  have ne : ∀ {u : HO}, H a = some u → (∀ y, u ≠ .lst y) → H' a = some u := fun {u} h n => e.keep _ _ (fun z => by subst z; rw [hb] at h; exact n _ (Option.some.inj h).symm) h
  rcases q with (q | ⟨ob, q⟩) | q
  · exact .inl (.inl (ne q fun y z => by cases z))
  · exact .inl (.inr ⟨ob, ne q fun y z => by cases z⟩)
  · exact .inr q
theorem bag_off {H : Hp} {b p : Addr} {n : Nat} (bag : Bag H b n) (h : H p = none) : p ≠ b := fun e => by
  obtain ⟨_, _, _, _, _, _, hb, _⟩ := bag
  rw [e, hb] at h
  cases h
theorem lc_bag {K : PySem.W.Frag} {J : It} {n : Nat} {G : Hp → Prop} {xs : List V} (w : Walk J n G (YAt xs)) {g : TG} {te : TE} {vs : List Nat} {σ : L2.St} {H1 : Hp} {D : Addr} {Qd : Hp → Prop} {b : Addr} {m c : Nat} (R : Nat → V → Hp → Prop)
    (mono : ∀ i y H H', R i y H → Kt K H H' → R i y H') (hD : H1 D = none) (bag : Bag H1 b m) (hn : n ≤ 1000) (hG : ∀ H', But b H1 H' → G H')
    (hs : ∀ i x H', i < n → xs[i]? = some x → But b H1 H' → Bag H' b (m + c * i) → ∀ (Q : V → Hp → Prop) (Z : Hp → Prop), (∀ y H4, But b H' H4 → Bag H4 b (m + c * (i + 1)) → R i y H4 → Q y H4) → g x (wipe σ vs) H' fun σ2 H2 => wipe σ2 vs = wipe σ vs ∧ tYes σ2 H2 fun b H3 => if b = true then te σ2 H3 Q else Z H3)
    (hd : ∀ H ys, But b H1 H → Bag H b (m + c * n) → H D = some (.lst ys) → ys.length = n → (∀ (i : Nat) y, ys[i]? = some y → R i y H) → Qd H) :
    ∃ W : Nat → Nat → Hp → Prop, (∃ m, W 0 m (upd H1 D (.lst []))) ∧ ∀ i m H, W i m H →
      (J.stop i H ∧ Qd H) ∨ (J.go i H ∧ ∃ Nx : Hp → Prop, (∀ H', Nx H' → ∃ m', m' < m ∧ W (i + 1) m' H') ∧ ∀ x H', J.yld i H x H' → g x (wipe σ vs) H' fun σ2 H2 => wipe σ2 vs = wipe σ vs ∧ tYes σ2 H2 fun b H3 =>
        if b = true then te σ2 H3 fun y H4 => ∃ acc, H4 D = some (.lst acc) ∧ acc.length < sizeLine ∧ Nx (upd H4 D (.lst (acc ++ [y]))) else Nx H3) := by
  have db := bag_off bag hD
  refine lc_it (tt := tYes) w (fun i H => But b H1 H ∧ Bag H b (m + c * i) ∧ ∃ ys : List V, ys.length = i ∧ H D = some (.lst ys) ∧ ∀ j y, ys[j]? = some y → R j y H)
    ⟨But.of (same_new hD), (bag.keep (same_new hD)).mono (by omega), [], rfl, upd_same, fun (j : Nat) (y : V) e => by simp at e⟩ (fun i H _ h => hG H h.1) (fun i x H H' hi hP hY => ?_) (fun H hP => ?_)
  · obtain ⟨bt, bg, ys, el, hy, hR⟩ := hP
    obtain ⟨rfl, hx⟩ := hY
    refine hs i x H' hi hx bt bg _ _ (fun y H4 b4 g4 r4 => ?_)
    have hy4 := b4.keep _ _ db hy
    have k5 : Kt K H4 (upd H4 D (.lst (ys ++ [y]))) := Kt.lst hy4
    refine ⟨ys, hy4, by rw [el]; exact small1000 (by omega), (bt.trans b4).put hD, Bag.put bag hD (bt.trans b4) g4, ys ++ [y], by rw [List.length_append, el]; rfl, upd_same, fun j z hz => ?_⟩
    by_cases lj : j < ys.length
    · rw [List.getElem?_append_left lj] at hz
      exact mono _ _ _ _ (hR j z hz) ((kt_but bg b4).trans k5)
    · rw [List.getElem?_append_right (by omega)] at hz
      have e0 : j - ys.length = 0 := by
        by_cases q : j - ys.length = 0
        · exact q
        · rw [List.getElem?_eq_none (by rw [List.length_singleton]; omega)] at hz
          cases hz
      rw [e0] at hz
      have ez : y = z := by simpa using hz
      have ej : j = i := by omega
      subst ez ej
      exact mono _ _ _ _ r4 k5
  · obtain ⟨bt, bg, ys, el, hy, hR⟩ := hP
    exact hd H ys bt bg hy el hR
end Lm

/-! A method with keywords alone; a def that may raise, where it does not. -/
namespace Mk1
open PySem PySem.Spec PyProof.Rows L2
theorem passF {X : Cx} : Passes (L2.CX X.prog X.w) X (fun _ _ _ => False) := by
  intro pins σ H s e s' I h
  obtain ⟨_, _, _, _, _, _, _, _, _, _, _, _, z⟩ := h
  exact z.elim
section
variable {X : Cx} {CX : CXT} {k : Nat} {f C : Addr} {fd : FuncData} {ps ks : List Str} {sp : Sp} {E : XK} {m : Str} {pos apos : Pos} {o : Expr} {kws : List Keyword} {ta : TE} {tk : TA} {g : List Value → List Value → List Value} {gV : List V → List V → List V} {pl : Sem Bool}
def tMethN (C : Addr) (m : Str) (n : Nat) (sp : Sp) (gV : List V → List V → List V) (E : XK) (ta : TE) (tk : TA) : TE := fun σ H Q => ta σ H fun x H1 => ∃ a dx fs, x = .ref a ∧ H1 a = some (.ins C dx fs) ∧ fs.lookup m = none ∧
  tk σ H1 fun zs H2 => zs.length = n ∧ sp (gV [x] zs) H2 Q E
theorem pe_methN (ho : PE X o ta) (c : Cls X.K C) (hm : Meth X.K C m f) (F : FnOk X.prog X.w X.K X.mg X.base CX k f fd ps sp) (hr : Room k X.A) (hb : KBn X.K fd ps 1 ks g gV) (hx : Passes CX X E) (hk : PK X kws tk)
    (h1 : (backToKw pos (keywordEach kws X.env)).all (·.1.isSome) = true := by rfl) (h2 : (backToKw pos (keywordEach kws X.env)).filterMap (·.1) = ks := by rfl)
    (h3 : ((backTo pos (starEach [] X.env)).any (·.1) || (backToKw pos (keywordEach kws X.env)).any (·.1.isNone)) = false := by rfl)
    (h4 : eval (.Call (.Attribute o m apos) [] kws pos) X.env = (do
      let v ← eval o X.env
      standAt apos.atName
      let (a, b) ← holding [v] (getMethod v m pl)
      callWith pos a b (backTo pos (starEach [] X.env)) (backToKw pos (keywordEach kws X.env))) := by rfl) :
    PE X (.Call (.Attribute o m apos) [] kws pos) (tMethN C m ks.length sp gV E ta tk) := by
  constructor
  intro pins s σ H Q I h
  refine PySem.W.methodCall_KW (pl := pl) (thn (ho.run pins s σ H _ I h) fun u s1 w => ?_) h4
  obtain ⟨x, H1, I1, rx, a, dx, fs, ex, ea, l, q⟩ := w
  subst ex
  cases (show u = Value.ref a from rx)
  refine getmeth_ok I1 ea c hm l ?_
  refine PySem.W.callWith_KW0 (first := [.ref a]) (h₀ := X.base) I.ok.mod.kin hm.kp h1 (thn (hk.run pos pins s1 σ H1 _ I1 q) fun ws s2 w2 => ?_) h3
  obtain ⟨zs, H2, I2, rz, l2, q2⟩ := w2
  refine ⟨I2.kIn, ?_⟩
  rw [h2]
  exact run_fnN (us := [.ref a]) (vs := [.ref a]) F hr hb hx I2 (.cons rfl .nil) rz rfl l2 q2
end
end Mk1

/-! Operators of own classes, by values: ==, <, .. by __eq__, __lt__, ..; |, &, - by __or__, ..; in by __contains__; len by __len__. -/
namespace Ow
open PySem PySem.Spec PyProof.Rows L2
section
variable {X : Cx} {CX : CXT} {C g : Addr} {n : Nat} {sp : Sp} {E : XK}
theorem ins_at {pins : List (Addr × Obj)} {σ : L2.St} {H : Hp} {s : Shared} {a C dx : Addr} {fs : List (Str × V)} (I : Inv X pins σ H s) (e : H a = some (.ins C dx fs)) : ∃ ox od, PySem.W.InstAt s.heap a ox C od := by
  obtain ⟨mA, O, _⟩ := ins_get I.hok e
  obtain ⟨od, J, _⟩ := O.look
  exact ⟨_, _, J⟩
/-- x op y by the own def of x's class at C; y's class not below C -/
def rCmp (K : PySem.W.Frag) (C : Addr) (sp : Sp) (E : XK) : R2 := fun x y H Q => ∃ a dx fs t, x = .ref a ∧ H a = some (.ins C dx fs) ∧ TyX K H y t ∧ PySem.W.notFirst K C t = true ∧ sp [x, y] H Q E
theorem op_cmp {op : CmpOp} (hop : ∀ a b, compareOp op a b = richCompare op a b) (hs : PySem.W.findIn X.K (.ref C) (cmpInfo op).2.1 = some (some (.ref g))) (hf : PySem.W.isFn X.K (.ref g) = true) (F : FnR X.prog X.w X.K X.mg X.base CX n g sp)
    (hr : Room n X.A) (hx : Passes CX X E) : OpR X (compareOp op) (rCmp X.K C sp E) := by
  intro pins s σ H x y v u Q I rx ry h
  obtain ⟨a, dx, fs, t, rfl, ha, ty, hn, q⟩ := h
  cases (show v = Value.ref a from rx)
  obtain ⟨ox, od, J⟩ := ins_at I ha
  obtain ⟨P, k, hp, _⟩ := kit_of I ry ty
  obtain ⟨m, hF⟩ := I.fr
  rw [hop]
  refine PySem.W.cmp_K (op := op) (tb := t) hr.units0 hF I.ok.mod.kin J (k.ty _ _ I.kIn hp) hn hs hf ?_
  refine wpAny_mono (wpAny_call (run_fnR (us := [.ref a, u]) (vs := [.ref a, y]) F hr hx I (.cons rfl (.cons ry .nil)) q)) (fun w s' z => ?_) fun _ _ x => x
  obtain ⟨z', H', I', rz, qz⟩ := z
  exact SlX.cmpback rz ⟨z', H', I', rz, qz⟩
/-- x op y, both of the class at C -/
def rBin (C : Addr) (sp : Sp) (E : XK) : R2 := fun x y H Q => ∃ a dx fs b dy gs, x = .ref a ∧ y = .ref b ∧ H a = some (.ins C dx fs) ∧ H b = some (.ins C dy gs) ∧ sp [x, y] H Q E
theorem op_bin {op : Operator} (hc : PySem.W.selfFirst X.K C = true) (hs : PySem.W.findIn X.K (.ref C) (PySem.dunder op.info.2) = some (some (.ref g))) (hf : PySem.W.isFn X.K (.ref g) = true) (F : FnR X.prog X.w X.K X.mg X.base CX n g sp)
    (hr : Room n X.A) (hx : Passes CX X E) : OpR X (binaryOp op) (rBin C sp E) := by
  intro pins s σ H x y v u Q I rx ry h
  obtain ⟨a, dx, fs, b, dy, gs, rfl, rfl, ha, hb, q⟩ := h
  cases (show v = Value.ref a from rx)
  cases (show u = Value.ref b from ry)
  obtain ⟨ox, od, J⟩ := ins_at I ha
  obtain ⟨oy, oe, J'⟩ := ins_at I hb
  obtain ⟨m, hF⟩ := I.fr
  refine PySem.W.binop_K (op := op) hF I.ok.mod.kin J J'.type hc hs hf ?_
  refine wpAny_mono (wpAny_call (run_fnR (us := [.ref a, .ref b]) (vs := [.ref a, .ref b]) F hr hx I (.cons rfl (.cons rfl .nil)) q)) (fun w s' z => ?_) fun _ _ x => x
  obtain ⟨z', H', I', rz, qz⟩ := z
  exact SlX.cmpback rz ⟨z', H', I', rz, qz⟩
/-- y in x, by __contains__ (its answer a bool) -/
def rIn (C : Addr) (sp : Sp) (E : XK) (neg : Bool) : R2 := fun y x H Q => ∃ a dx fs, x = .ref a ∧ H a = some (.ins C dx fs) ∧ sp [x, y] H (fun z H' => ∃ c, z = .bl c ∧ Q (.bl (if neg then !c else c)) H') E
theorem op_in (hs : PySem.W.findIn X.K (.ref C) "__contains__" = some (some (.ref g))) (hf : PySem.W.isFn X.K (.ref g) = true) (F : FnR X.prog X.w X.K X.mg X.base CX n g sp)
    (hr : Room n X.A) (hx : Passes CX X E) : OpR X (compareOp .In) (rIn C sp E false) := by
  intro pins s σ H y x u v Q I ry rx h
  obtain ⟨a, dx, fs, rfl, ha, q⟩ := h
  cases (show v = Value.ref a from rx)
  obtain ⟨ox, od, J⟩ := ins_at I ha
  obtain ⟨m, hF⟩ := I.fr
  refine PySem.W.in_K hF I.ok.mod.kin J hs hf ?_
  refine wpAny_mono (wpAny_call (run_fnR (us := [.ref a, u]) (vs := [.ref a, y]) F hr hx I (.cons rfl (.cons ry .nil)) q)) (fun w s' z => ?_) fun _ _ x => x
  obtain ⟨z', H', I', rz, c, rfl, qz⟩ := z
  cases (show w = Value.bool c from rz)
  exact wpAny_truthy_bool ⟨.bl c, H', I', rfl, qz⟩
theorem op_notIn (hs : PySem.W.findIn X.K (.ref C) "__contains__" = some (some (.ref g))) (hf : PySem.W.isFn X.K (.ref g) = true) (F : FnR X.prog X.w X.K X.mg X.base CX n g sp)
    (hr : Room n X.A) (hx : Passes CX X E) : OpR X (compareOp .NotIn) (rIn C sp E true) := by
  intro pins s σ H y x u v Q I ry rx h
  obtain ⟨a, dx, fs, rfl, ha, q⟩ := h
  cases (show v = Value.ref a from rx)
  obtain ⟨ox, od, J⟩ := ins_at I ha
  obtain ⟨m, hF⟩ := I.fr
  refine PySem.W.notIn_K hF I.ok.mod.kin J hs hf ?_
  refine wpAny_mono (wpAny_call (run_fnR (us := [.ref a, u]) (vs := [.ref a, y]) F hr hx I (.cons rfl (.cons ry .nil)) q)) (fun w s' z => ?_) fun _ _ x => x
  obtain ⟨z', H', I', rz, c, rfl, qz⟩ := z
  cases (show w = Value.bool c from rz)
  exact wpAny_truthy_bool ⟨.bl (!c), H', I', rfl, qz⟩
/-- len(x), by __len__ -/
def rLen (C : Addr) (sp : Sp) (E : XK) : List V → Hp → VK → Prop := fun xs H Q => ∃ a dx fs, xs = [V.ref a] ∧ H a = some (.ins C dx fs) ∧ sp [.ref a] H (fun z H' => ∃ i : Int, z = .int i ∧ 0 ≤ i ∧ i < 2 ^ 63 ∧ Q (.int i) H') E
theorem call_len (hs : PySem.W.findIn X.K (.ref C) "__len__" = some (some (.ref g))) (hf : PySem.W.isFn X.K (.ref g) = true) (F : FnR X.prog X.w X.K X.mg X.base CX n g sp)
    (hr : Room (n + 1) X.A) (hx : Passes CX X E) : CallR X (.builtin "len") (rLen C sp E) := by
  intro pins s σ H xs us Q I r h
  obtain ⟨a, dx, fs, rfl, ha, q⟩ := h
  obtain ⟨u, rfl, ru⟩ := r.one
  cases (show u = Value.ref a from ru)
  obtain ⟨ox, od, J⟩ := ins_at I ha
  obtain ⟨m, hF⟩ := I.fr
  refine PySem.W.len_K hF I.ok.mod.kin J hs hf (wpAny_mono (wpAny_call (SlX.run_at (us := [.ref a]) (ws := [.ref a]) F hr.in1 I.env0.in1 hx I (.cons rfl .nil) q)) (fun w s' z => ?_) fun _ _ x => x)
  obtain ⟨z', H', I', rz, i, rfl, h0, h1, qz⟩ := z
  obtain ⟨t, e⟩ := (show ∃ t, w = Value.int i t from rz)
  cases e
  exact ⟨⟨h0, h1⟩, .int i, H', I'.tok _, ⟨_, rfl⟩, qz⟩
end
end Ow

/-! x != y of two instances of an own class with an own __eq__ and no __ne__. -/
namespace On
open PySem PySem.Spec PyProof.Rows L2
structure NeOk (K : PySem.W.Frag) (C f : Addr) : Prop where
  ex : ∃ (nm q : Str) (N : Addr) (bs : List Value) (hd : Bool) (sn : List Str) (sub : List Value) (ab : Bool) (col : Option Bool) (dd : Option Addr) (k0 k1 k2 k3 k5 : Option Value),
    K.lookup C = some (excClassObj nm q C N bs [.type "object"] hd sn sub ab col dd k0 k1 k2 k3 k5 "object.__new__") ∧ PySem.W.nsOkIn K N = true ∧ PySem.W.nsIn K N "__eq__" = some (some (.ref f)) ∧ PySem.W.nsIn K N "__ne__" = some none
  fn : PySem.W.isFn K (.ref f) = true
theorem ns_some {K : PySem.W.Frag} {h : Heap} {N : Addr} {mg : Str → Option Value} {n : Str} {v : Value} (X : K.In h) (G : h.Ns N mg) (e : PySem.W.nsIn K N n = some (some v)) : mg n = some v := by
  obtain ⟨o, es, ep, ho, hd, _, hf⟩ := G
  unfold PySem.W.nsIn at e
  split at e
  · rename_i c d es' n' sl q
    have z := X _ _ q
    rw [ho] at z
    cases z
    cases hd
    split at e
    · rename_i y hy
      rw [← hf]
      unfold nsFind findBy
      rw [← Array.find?_toList, hy]
      exact Option.some.inj e
    · rename_i hy
      split at e <;> cases e
  · cases e
section
variable {X : Cx} {CX : CXT} {C g : Addr} {n : Nat} {sp : Sp} {E : XK}
def rNe (C : Addr) (sp : Sp) (E : XK) : R2 := fun x y H Q => ∃ a dx fs b dy gs, x = .ref a ∧ y = .ref b ∧ H a = some (.ins C dx fs) ∧ H b = some (.ins C dy gs) ∧ sp [x, y] H (fun z H' => ∃ c, z = .bl c ∧ Q (.bl (!c)) H') E
theorem op_ne (W : NeOk X.K C g) (F : FnR X.prog X.w X.K X.mg X.base CX n g sp) (hr : Room (n + 1) X.A) (hu : X.A.units + 64 < cLine) (hx : Passes CX X E) : OpR X (compareOp .NotEq) (rNe C sp E) := by
  intro pins s σ H x y v u Q I rx ry h
  obtain ⟨a, dx, fs, b, dy, gs, rfl, rfl, ha, hb, q⟩ := h
  cases (show v = Value.ref a from rx)
  cases (show u = Value.ref b from ry)
  obtain ⟨ox, od, J⟩ := Ow.ins_at I ha
  obtain ⟨oy, oe, J'⟩ := Ow.ins_at I hb
  obtain ⟨nm, qn, N, bs, hd, sn, sub, ab, col, dd, k0, k1, k2, k3, k5, lC, ok, e1, e2⟩ := W.ex
  have KX := I.kIn
  have G : s.heap.Ns N (s.heap.nsMap N) := .of_isNs (PySem.W.isNs_of_in KX ok)
  have m1 := ns_some KX G e1
  have m2 := PySem.W.ns_none_of KX G e2
  obtain ⟨of, hf, hc⟩ : ∃ of, X.K.lookup g = some of ∧ of.cls = .type "function" := by
    have z := W.fn
    unfold PySem.W.isFn PySem.W.typeIn at z
    have z := beq_iff_eq.mp z
    obtain ⟨of, h1, h2⟩ := Option.map_eq_some_iff.mp z
    exact ⟨of, h1, h2⟩
  have Y : s.heap.OwnEqNoNe a C g "object" [.type "object"] := ⟨ox, of, nm, qn, N, bs, hd, sn, sub, ab, col, dd, k0, k1, k2, k3, k5, "object.__new__", s.heap.nsMap N, _, J.at_, J.cls, KX _ _ lC, G, m1, KX _ _ hf, hc, PySem.F.mro_object, rfl, m2⟩
  obtain ⟨hh, gn, dr, tk, os⟩ := s
  refine compareOp_ne_ownEq PySem.F.cmp_object Y J'.at_ J'.cls (by omega) (wpAny_mono (wpAny_call (SlX.run_at (us := [.ref a, .ref b]) (ws := [.ref a, .ref b]) F hr.in1 I.env0.in1 hx I (.cons rfl (.cons rfl .nil)) q)) (fun w s' z => ?_) fun _ _ z => z)
  obtain ⟨z', H', I', rz, c, rfl, qz⟩ := z
  cases (show w = Value.bool c from rz)
  exact ⟨c, rfl, .bl (!c), H', I', rfl, qz⟩
end
end On

/-! enumerate(list, start=k), as a thing that a for or a comprehension walks. -/
namespace Eu
open PySem PySem.Spec PyProof.Rows L2
section
variable {prog : Program} {w : World} {A : Around} {E : Value → Shared → Prop} {s : Shared}
theorem lst_end {e it t : Addr} {i : Nat} {its : Array Value} {old : Value} {k : Int} {Q : Option Value → Shared → Prop} (hh : A.handled = none) (er : IsEnum s.heap e it k old) (ti : s.heap.IsListIter it t i) (ht : s.heap.IsList t its) (hx : its[i]? = none)
    (q : ∀ g, Heap.ExtBut it s.heap g → Q none { s with heap := g }) : wpAny (model prog w) A (pyNext (.ref e)) Q E s := by
  have te : s.TypeIs (.ref e) "enumerate" := ⟨_, er, rfl⟩
  unfold pyNext
  refine wpAny_bind (wpAny_attempt (wpAny_callSpecial?_slot (name := Str.ofString "__next__") te F.slot_enumerate_next (wpAny_call_entry F.slot_enumerate_next te F.entry_enumerate_next ?_ (F.args_enumerate_next_1 _))))
  show wpAny _ _ (field (.ref e) 2 >>= _) _ _ _
  refine wpAny_bind (wpAny_field er rfl (x := .ref it) rfl ?_)
  refine wpAny_bind (wpAny_nextOf_list_end (show A.in1.handled = none from hh) ti ht hx fun g x k1 ⟨o, k2, k3⟩ => ?_)
  refine wpAny_bind (wpAny_isInstance (T := "StopIteration") (b := true) ⟨o, k2, k3⟩ isSubtype_stop ?_)
  exact wpAny_pure (q _ k1)
end
/-- the list at a, its items counted from k -/
def Its (K : PySem.W.Frag) (a : Addr) (k : Int) : It :=
  ⟨fun i H => ∃ (xs : List V) (x : V), SqL K H a xs ∧ xs[i]? = some x, fun i H v H' => ∃ T x, v = .ref T ∧ H T = none ∧ H' = upd H T (.tup [.int (k + (i : Nat)), x]) ∧ ∀ xs, SqL K H a xs → xs[i]? = some x, fun i H => ∃ xs : List V, SqL K H a xs ∧ xs.length ≤ i⟩
theorem turn_its {P : Program} {w : World} {K : PySem.W.Frag} {elts : List Expr} {kk : Nat} {tpos : Pos} {k : Int} (a e it : Addr) (nei : e ≠ it) (nea : e ≠ a) (nai : a ≠ it) :
    Turn P w K (.Tuple elts kk tpos) (Its K a k) [e, it] e (fun i h => (∃ old, IsEnum h e it (k + ((i : Nat) : Int)) old) ∧ h.IsListIter it a i) where
  mem := by simp
  obj := fun i h st b hb => by
    obtain ⟨⟨old, er⟩, o, ho, _, hd⟩ := st
    have hb' : b = e ∨ b = it := by simpa using hb
    rcases hb' with z | z
    · rw [z]
      exact ⟨_, er, fun v q => nomatch q⟩
    · rw [z]
      exact ⟨o, ho, fun v q => by rw [hd] at q; cases q⟩
  keep := fun i h g st kp => by
    obtain ⟨⟨old, er⟩, ti⟩ := st
    exact ⟨⟨old, kp e (by simp) _ er⟩, ti.at fun o q => kp it (by simp) o q⟩
  item := by
    intro X hP hw hK hc i pins s σ H E I hf st hg
    subst hP hw hK
    obtain ⟨⟨old, er⟩, ti⟩ := st
    obtain ⟨xs, x, hq, hx⟩ := hg
    obtain ⟨its, rv, p, _⟩ := I.list hq
    obtain ⟨u, hu, ru⟩ := rv.get hx
    have el : e < s.heap.objs.size := Heap.lt_size er
    have il : it < s.heap.objs.size := by
      obtain ⟨_, q, _⟩ := id ti
      exact Heap.lt_size q
    have hlt : i < its.toArray.size := by
      have q := (List.getElem?_eq_some_iff.mp hu).1
      simpa using q
    have hd : X.A.in1.handled = none := I.ok.hd hc
    refine wpAny_pyNext_enum_itemC (Draws.list hd it a nai its.toArray) er ⟨ti, p.isList⟩ hlt nei (by simp [nei, nea]) fun y g tk hy eo st2 hT hsz hk => ?_
    have ey : y = u := by
      rw [show its.toArray[i]? = some u by simpa using hu] at hy
      exact (Option.some.inj hy).symm
    subst ey
    refine ⟨_, rfl, wpAny_letOwnedTupleGo_enum (s := { s with heap := g, toks := tk + 1 }) eo fun g2 er2 sb => ?_⟩
    have hT2 : g2.get? s.heap.objs.size = some { cls := .type "tuple", data := .seq #[.int (k + (i : Nat)) tk, y] } := (sb.2 _ (Nat.ne_of_gt el)).trans hT
    have new : ObjOk X.prog X.w (upd H s.heap.objs.size (.tup [.int (k + (i : Nat)), x])) g2 s.heap.objs.size (.tup [.int (k + (i : Nat)), x]) := ⟨by show 2 ≤ sizeLine; decide, [.int (k + (i : Nat)) tk, y], .cons ⟨_, rfl⟩ (.cons ru .nil), ⟨_, hT2, rfl, _, rfl⟩⟩
    have I1 : Inv X pins σ (upd H s.heap.objs.size (.tup [.int (k + (i : Nat)), x])) { s with heap := g2, toks := tk + 1 } := I.turnedNew (ch := [e, it]) (fun b ob hb q => (sb.2 b (fun z => hb (by simp [z]))).trans (hk b ob (fun z => hb (by simp [z])) (fun z => hb (by simp [z])) q)) hf (Nat.le_refl _) new
    refine ⟨.ref s.heap.objs.size, _, I1, rfl, ⟨_, x, rfl, I.hok.fresh (Nat.le_refl _), rfl, fun ys hy => by rw [I.list_inj hy hq]; exact hx⟩, ⟨⟨y, ?_⟩, st2.1.at fun o q => (sb.2 it nei.symm).trans q⟩, fun b hb => ?_⟩
    · rw [show k + ((i + 1 : Nat) : Int) = k + (i : Int) + 1 by omega]
      exact er2
    · have lb : b < s.heap.objs.size := by
        have hb' : b = e ∨ b = it := by simpa using hb
        rcases hb' with z | z
        · rw [z]; exact el
        · rw [z]; exact il
      rw [upd_ne (Nat.ne_of_lt lb)]
      exact (hf b hb).1
  done := by
    intro X hP hw hK hc i pins s σ H E I hf st hg
    subst hP hw hK
    obtain ⟨⟨old, er⟩, ti⟩ := st
    obtain ⟨xs, hq, hx⟩ := hg
    obtain ⟨its, rv, p, _⟩ := I.list hq
    have hl := rv.length
    exact lst_end (I.ok.hd hc) er ti p.isList (by simp; omega) fun g kg => ⟨rfl, I.turnedL (t' := s.toks) (ch := [e, it]) (fun b o hb q => kg b o (fun z => hb (by simp [z])) q) hf⟩
  self := fun A i s Q E st h => let ⟨⟨_, er⟩, _⟩ := st; wpAny_pyIter_enum er h
/-- a class of Python's own called with keywords -/
theorem with_kw {M : Model} {A : Around} {E : Value → Shared → Prop} {s : Shared} {env : Env} {pos : Pos} {T : String} {e : Expr} {rest : List Expr} {kws : List Keyword} {Q : Value → Shared → Prop}
    (h : wpAny M A (spliced (backTo pos (starEach (e :: rest) env))) (fun vs s1 => wpAny M A (evalAll ((backToKw pos (keywordEach kws env)).map (·.2))) (fun zs s2 => wpAny M A (call (.type T) vs (((backToKw pos (keywordEach kws env)).filterMap (·.1)).zip zs)) Q E s2) E s1) E s)
    (h1 : (backTo pos (starEach (e :: rest) env)).any (·.1) = false) (h2 : (backToKw pos (keywordEach kws env)).any (·.1.isNone) = false) (h3 : (backToKw pos (keywordEach kws env)).all (·.1.isSome) = true) (h4 : starEach (e :: rest) env = (false, eval e env) :: starEach rest env) :
    wpAny M A (callWith pos (.type T) [] (backTo pos (starEach (e :: rest) env)) (backToKw pos (keywordEach kws env))) Q E s := by
  have g : wpAny M A (evalArgs (.type T) true (backTo pos (starEach (e :: rest) env)) (backToKw pos (keywordEach kws env))) (fun a s1 => wpAny M A (call (.type T) ([] ++ a.pos) a.kw) Q E s1) E s := evalArgs_kw2 h3 h h4
  unfold callWith
  refine wpAny_bind (wpAny_holding (wpAny_mono g (fun a s1 r => wpAny_bind (wpAny_standAt ?_)) fun _ _ z => z))
  simp only [h1, h2, Bool.or_false]
  refine wpAny_bind (wpAny_pure ?_)
  exact wpAny_bind (wpAny_mono r (fun z s2 hz => wpAny_bind (wpAny_holding (wpAny_point (wpAny_pure hz)))) fun _ _ z => z)
def iEnumS (K : PySem.W.Frag) (ta tk : TA) : TI := fun σ H R => ta σ H fun vs H1 => tk σ H1 fun zs H2 => ∃ a xs k, vs = [.ref a] ∧ zs = [.int k] ∧ -(2 ^ 63) ≤ k ∧ k < 2 ^ 63 ∧ SqL K H2 a xs ∧ R (Its K a k) H2
theorem pi_enumS {X : Cx} {e : Expr} {ta tk : TA} {p pos tpos : Pos} {elts : List Expr} {kk : Nat} {kws : List Keyword} (hg : Gl X "enumerate") (hm : X.mg "enumerate" = none) (ha : PA X [e] ta) (hk : PK X kws tk)
    (h4 : starEach [e] X.env = [(false, eval e X.env)] := by rfl) (h1 : (backTo pos (starEach [e] X.env)).any (·.1) = false := by rfl) (h2 : (backToKw pos (keywordEach kws X.env)).any (·.1.isNone) = false := by rfl)
    (h3 : (backToKw pos (keywordEach kws X.env)).all (·.1.isSome) = true := by rfl) (h5 : (backToKw pos (keywordEach kws X.env)).filterMap (·.1) = [Str.ofString "start"] := by rfl) :
    PI X (.Tuple elts kk tpos) (.Call (.Name "enumerate" p) [e] kws pos) (iEnumS X.K ta tk) := by
  refine ⟨fun pins s σ H R I h => ?_⟩
  refine wpAny_Call_Name_kw (ld_blt I hg hm boot_enumerate (with_kw (thn (ha.run pos pins s σ H _ I h) fun us s1 ⟨vs, H1, I1, r1, q1⟩ => thn (hk.run pos pins s1 σ H1 _ I1 q1) fun ws s2 ⟨zs, H2, I2, r2, q2⟩ => ?_) h1 h2 h3 h4))
  obtain ⟨a, xs, k, ev, ez, k0, k1, hq, q⟩ := q2
  subst ev ez
  rw [h5]
  cases r1 with
  | cons r rr =>
    cases rr
    cases r
    cases r2 with
    | cons z zz =>
      cases zz
      obtain ⟨t, rfl⟩ := z
      obtain ⟨its, rv, pt, _⟩ := I2.list hq
      obtain ⟨ot, hot, _⟩ := id pt.isList
      have al : a < s2.heap.objs.size := Heap.lt_size hot
      refine enum_begins_start (begins_list a its.toArray) pt.isList k0 k1 fun g er ti sz kg => wpAny_pyIter_enum er ?_
      have I3 : Inv X pins σ H2 { s2 with heap := g } := I2.kept (t' := s2.toks) kg
      refine ⟨s2.heap.objs.size + 1, [s2.heap.objs.size + 1, s2.heap.objs.size], _, _, H2, rfl, I3, turn_its a (s2.heap.objs.size + 1) s2.heap.objs.size (Nat.succ_ne_self _) (Nat.ne_of_gt (Nat.lt_succ_of_lt al)) (Nat.ne_of_lt al), ⟨⟨.none, ?_⟩, ⟨_, ti, rfl, rfl⟩⟩, fun b hb => ?_, q⟩
      · rw [show k + ((0 : Nat) : Int) = k by omega]
        exact er
      have hb' : b = s2.heap.objs.size + 1 ∨ b = s2.heap.objs.size := by simpa using hb
      have le : s2.heap.objs.size ≤ b := by
        rcases hb' with z | z
        · rw [z]; exact Nat.le_add_right _ _
        · rw [z]; exact Nat.le_refl _
      exact I2.fpOk le (I2.hok.fresh le)
theorem walk_its {K : PySem.W.Frag} {a : Addr} {xs : List V} {k : Int} : Walk (Its K a k) xs.length (fun H => SqL K H a xs) (YPair (fun i => some (.int (k + (i : Nat)))) (fun i => xs[i]?)) := by
  refine ⟨fun i _ hi q => ⟨xs, xs[i], q, by simp [hi]⟩, fun _ q => ⟨xs, q, Nat.le_refl _⟩, fun i H v H' _ q y => ?_⟩
  obtain ⟨T, x, y1, y2, y3, y4⟩ := y
  exact ⟨T, .int (k + (i : Nat)), x, y1, y2, y3, rfl, y4 xs q⟩
end Eu

/-! Comprehensions whose items are told one by one: over any walk, with facts that live on all but the list that is made. -/
namespace Lm
open PySem L2 Wm Dv
/-- what stood stands, but for D -/
def Bar (D : Addr) (H H' : Hp) : Prop := ∀ a o, a ≠ D → H a = some o → H' a = some o
theorem Bar.kt {K : PySem.W.Frag} {D : Addr} {H H' : Hp} {ys : List V} (hy : H D = some (.lst ys)) (e : Bar D H H') : Kt K H H' := fun a xs q => by
  have ne : ∀ {u : HO}, H a = some u → (∀ y, u ≠ .lst y) → H' a = some u := fun {u} h n => e _ _ (fun z => by subst z; rw [hy] at h; exact n _ (Option.some.inj h).symm) h
  rcases q with (q | ⟨ob, q⟩) | q
  · exact .inl (.inl (ne q fun y z => by cases z))
  · exact .inl (.inr ⟨ob, ne q fun y z => by cases z⟩)
  · exact .inr q
theorem lc_any {J : It} {n : Nat} {G : Hp → Prop} {Y : Nat → Hp → V → Hp → Prop} (w : Walk J n G Y) {g : TG} {te : TE} {vs : List Nat} {σ : L2.St} {H1 : Hp} {D : Addr} {Qd : Hp → Prop} (R : Nat → V → Hp → Prop)
    (mono : ∀ i y H H' ys, R i y H → H D = some (.lst ys) → Bar D H H' → R i y H') (hY : ∀ i H x H', Y i H x H' → Same H H') (hD : H1 D = none) (hn : n ≤ 1000) (hG : ∀ H', Same H1 H' → G H')
    (hs : ∀ i x H H', i < n → Same H1 H → (∃ ys, H D = some (.lst ys)) → Y i H x H' → ∀ (Q : V → Hp → Prop) (Z : Hp → Prop), (∀ y H4, Same H' H4 → R i y H4 → Q y H4) → g x (wipe σ vs) H' fun σ2 H2 => wipe σ2 vs = wipe σ vs ∧ tYes σ2 H2 fun b H3 => if b = true then te σ2 H3 Q else Z H3)
    (hd : ∀ H ys, Same H1 H → H D = some (.lst ys) → ys.length = n → (∀ (i : Nat) y, ys[i]? = some y → R i y H) → Qd H) :
    ∃ W : Nat → Nat → Hp → Prop, (∃ m, W 0 m (upd H1 D (.lst []))) ∧ ∀ i m H, W i m H →
      (J.stop i H ∧ Qd H) ∨ (J.go i H ∧ ∃ Nx : Hp → Prop, (∀ H', Nx H' → ∃ m', m' < m ∧ W (i + 1) m' H') ∧ ∀ x H', J.yld i H x H' → g x (wipe σ vs) H' fun σ2 H2 => wipe σ2 vs = wipe σ vs ∧ tYes σ2 H2 fun b H3 =>
        if b = true then te σ2 H3 fun y H4 => ∃ acc, H4 D = some (.lst acc) ∧ acc.length < sizeLine ∧ Nx (upd H4 D (.lst (acc ++ [y]))) else Nx H3) := by
  refine lc_it (tt := tYes) w (fun i H => Same H1 H ∧ ∃ ys : List V, ys.length = i ∧ H D = some (.lst ys) ∧ ∀ j y, ys[j]? = some y → R j y H) ⟨same_new hD, [], rfl, upd_same, fun (j : Nat) (y : V) e => by simp at e⟩ (fun i H _ h => hG H h.1) (fun i x H H' hi hP y => ?_) (fun H hP => ?_)
  · obtain ⟨sm, ys, el, hy, hR⟩ := hP
    have sy := hY _ _ _ _ y
    refine hs i x H H' hi sm ⟨ys, hy⟩ y _ _ (fun y H4 s4 r4 => ?_)
    have s5 := sy.trans s4
    have b5 : Bar D H4 (upd H4 D (.lst (ys ++ [y]))) := fun a o n e => by
      rw [upd_ne n]
      exact e
    refine ⟨ys, s5 _ _ hy, by rw [el]; exact small1000 (by omega), same_mut (sm.trans s5) hD, ys ++ [y], by rw [List.length_append, el]; rfl, upd_same, fun j z hz => ?_⟩
    by_cases lj : j < ys.length
    · rw [List.getElem?_append_left lj] at hz
      exact mono _ _ _ _ _ (mono _ _ _ _ _ (hR j z hz) hy fun a o _ e => s5 _ _ e) (s5 _ _ hy) b5
    · rw [List.getElem?_append_right (by omega)] at hz
      have e0 : j - ys.length = 0 := by
        by_cases q : j - ys.length = 0
        · exact q
        · rw [List.getElem?_eq_none (by rw [List.length_singleton]; omega)] at hz
          cases hz
      rw [e0] at hz
      have ez : y = z := by simpa using hz
      have ej : j = i := by omega
      subst ez ej
      exact mono _ _ _ _ _ r4 (s5 _ _ hy) b5
  · obtain ⟨sm, ys, el, hy, hR⟩ := hP
    exact hd H ys sm hy el hR
/-- the same, the items apart from one another -/
theorem lc_apart {J : It} {n : Nat} {G : Hp → Prop} {Y : Nat → Hp → V → Hp → Prop} (w : Walk J n G Y) {g : TG} {te : TE} {vs : List Nat} {σ : L2.St} {H1 : Hp} {D : Addr} {Qd : Hp → Prop} (R : Nat → V → Hp → Prop) (N : V → V → Prop)
    (mono : ∀ i y H H' ys, R i y H → H D = some (.lst ys) → Bar D H H' → R i y H') (hY : ∀ i H x H', Y i H x H' → Same H H') (hD : H1 D = none) (hn : n ≤ 1000) (hG : ∀ H', Same H1 H' → G H')
    (hs : ∀ i x H H', i < n → Same H1 H → (∃ ys, H D = some (.lst ys)) → Y i H x H' → ∀ ys : List V, (∀ (j : Nat) z, ys[j]? = some z → R j z H) → ∀ (Q : V → Hp → Prop) (Z : Hp → Prop), (∀ y H4, Same H' H4 → R i y H4 → (∀ z ∈ ys, N z y) → Q y H4) → g x (wipe σ vs) H' fun σ2 H2 => wipe σ2 vs = wipe σ vs ∧ tYes σ2 H2 fun b H3 => if b = true then te σ2 H3 Q else Z H3)
    (hd : ∀ H ys, Same H1 H → H D = some (.lst ys) → ys.length = n → (∀ (i : Nat) y, ys[i]? = some y → R i y H) → ys.Pairwise N → Qd H) :
    ∃ W : Nat → Nat → Hp → Prop, (∃ m, W 0 m (upd H1 D (.lst []))) ∧ ∀ i m H, W i m H →
      (J.stop i H ∧ Qd H) ∨ (J.go i H ∧ ∃ Nx : Hp → Prop, (∀ H', Nx H' → ∃ m', m' < m ∧ W (i + 1) m' H') ∧ ∀ x H', J.yld i H x H' → g x (wipe σ vs) H' fun σ2 H2 => wipe σ2 vs = wipe σ vs ∧ tYes σ2 H2 fun b H3 =>
        if b = true then te σ2 H3 fun y H4 => ∃ acc, H4 D = some (.lst acc) ∧ acc.length < sizeLine ∧ Nx (upd H4 D (.lst (acc ++ [y]))) else Nx H3) := by
  refine lc_it (tt := tYes) w (fun i H => Same H1 H ∧ ∃ ys : List V, ys.length = i ∧ H D = some (.lst ys) ∧ (∀ j y, ys[j]? = some y → R j y H) ∧ ys.Pairwise N) ⟨same_new hD, [], rfl, upd_same, (fun (j : Nat) (y : V) e => by simp at e), .nil⟩ (fun i H _ h => hG H h.1) (fun i x H H' hi hP y => ?_) (fun H hP => ?_)
  · obtain ⟨sm, ys, el, hy, hR, hN⟩ := hP
    have sy := hY _ _ _ _ y
    refine hs i x H H' hi sm ⟨ys, hy⟩ y ys hR _ _ (fun y H4 s4 r4 n4 => ?_)
    have s5 := sy.trans s4
    have b5 : Bar D H4 (upd H4 D (.lst (ys ++ [y]))) := fun a o n e => by
      rw [upd_ne n]
      exact e
    refine ⟨ys, s5 _ _ hy, by rw [el]; exact small1000 (by omega), same_mut (sm.trans s5) hD, ys ++ [y], by rw [List.length_append, el]; rfl, upd_same, fun j z hz => ?_, List.pairwise_append.mpr ⟨hN, List.pairwise_singleton _ _, fun a ma c mc => by rw [List.mem_singleton.mp mc]; exact n4 a ma⟩⟩
    by_cases lj : j < ys.length
    · rw [List.getElem?_append_left lj] at hz
      exact mono _ _ _ _ _ (mono _ _ _ _ _ (hR j z hz) hy fun a o _ e => s5 _ _ e) (s5 _ _ hy) b5
    · rw [List.getElem?_append_right (by omega)] at hz
      have e0 : j - ys.length = 0 := by
        by_cases q : j - ys.length = 0
        · exact q
        · rw [List.getElem?_eq_none (by rw [List.length_singleton]; omega)] at hz
          cases hz
      rw [e0] at hz
      have ez : y = z := by simpa using hz
      have ej : j = i := by omega
      subst ez ej
      exact mono _ _ _ _ _ r4 (s5 _ _ hy) b5
  · obtain ⟨sm, ys, el, hy, hR, hN⟩ := hP
    exact hd H ys sm hy el hR hN
theorem same_at {xs : List V} {i : Nat} {H H' : Hp} {x : V} (h : YAt xs i H x H') : Same H H' := by
  obtain ⟨rfl, _⟩ := h
  exact Same.refl _
theorem same_pair {f g : Nat → Option V} {i : Nat} {H H' : Hp} {x : V} (h : YPair f g i H x H') : Same H H' := by
  obtain ⟨T, a, b, rfl, hT, rfl, _⟩ := h
  exact same_new hT
end Lm
namespace Kx
open PySem L2
def rLst (K : PySem.W.Frag) : List V → Hp → VK → Prop := fun xs H Q => ∃ p ys, xs = [.ref p] ∧ (SqL K H p ys ∨ SqT K H p ys) ∧ ∀ l, H l = none → Q (.ref l) (upd H l (.lst ys))
end Kx

namespace K09
open PySem L2
def top (i : Nat) : Stmt := PySem.Challenge.pw_wheelchorus_k09_town_texts_read_back.main.body.getD i (.Pass ⟨0, 0, 0, 0⟩)
abbrev s_is_whole : Stmt := top 7
abbrev s_is_whole_within : Stmt := top 8
abbrev s_is_sequence : Stmt := top 9
abbrev s_is_digit : Stmt := top 10
abbrev s_is_number : Stmt := top 15
abbrev s_is_sort : Stmt := top 21
abbrev s_has_double : Stmt := top 22
abbrev s_are_loops : Stmt := top 24
abbrev s_check_boxes : Stmt := top 25
abbrev s_check_town : Stmt := top 23
abbrev s_init : Stmt := inClass (top 20) 2
abbrev s_site_of : Stmt := inClass (top 20) 7
abbrev s_sort_of : Stmt := inClass (top 20) 4
abbrev s_loop_of : Stmt := inClass (top 20) 5
abbrev s_place_of : Stmt := inClass (top 20) 6
abbrev s_eq : Stmt := inClass (top 20) 3
abbrev s_with_box : Stmt := inClass (top 20) 11
abbrev s_with_sort : Stmt := inClass (top 20) 9
abbrev s_town_text : Stmt := top 28
abbrev s_read_head : Stmt := top 30
abbrev s_read_loop : Stmt := top 31
abbrev s_read_town : Stmt := top 29
abbrev s_bag : Stmt := top 37
abbrev s_draw : Stmt := top 38
abbrev s_number : Stmt := top 39
abbrev s_numbers : Stmt := top 40
abbrev s_loops : Stmt := top 41
abbrev s_rules : Stmt := top 42
abbrev s_told : Stmt := top 43
abbrev s_text : Stmt := top 44
abbrev s_asked : Stmt := top 45
abbrev s_law : Stmt := top 46
abbrev nm_is_whole : List Str := ["thing"]
theorem sc_is_whole : FnScope nm_is_whole ["thing"] (defScope s_is_whole) :=
  ⟨rfl, rfl, rfl, by decide +kernel, rfl, by decide +kernel, by decide +kernel⟩
abbrev nm_is_whole_within : List Str := ["thing", "low", "high"]
theorem sc_is_whole_within : FnScope nm_is_whole_within ["thing", "low", "high"] (defScope s_is_whole_within) :=
  ⟨rfl, rfl, rfl, by decide +kernel, rfl, by decide +kernel, by decide +kernel⟩
abbrev nm_is_sequence : List Str := ["thing"]
theorem sc_is_sequence : FnScope nm_is_sequence ["thing"] (defScope s_is_sequence) :=
  ⟨rfl, rfl, rfl, by decide +kernel, rfl, by decide +kernel, by decide +kernel⟩
abbrev nm_is_digit : List Str := ["word"]
theorem sc_is_digit : FnScope nm_is_digit ["word"] (defScope s_is_digit) :=
  ⟨rfl, rfl, rfl, by decide +kernel, rfl, by decide +kernel, by decide +kernel⟩
abbrev nm_is_number : List Str := ["thing", "letter"]
theorem sc_is_number : FnScope nm_is_number ["thing"] (defScope s_is_number) :=
  ⟨rfl, rfl, rfl, by decide +kernel, rfl, by decide +kernel, by decide +kernel⟩
abbrev nm_is_sort : List Str := ["thing"]
theorem sc_is_sort : FnScope nm_is_sort ["thing"] (defScope s_is_sort) :=
  ⟨rfl, rfl, rfl, by decide +kernel, rfl, by decide +kernel, by decide +kernel⟩
abbrev nm_has_double : List Str := ["boxes", "number", "_"]
theorem sc_has_double : FnScope nm_has_double ["boxes"] (defScope s_has_double) :=
  ⟨rfl, rfl, rfl, by decide +kernel, rfl, by decide +kernel, by decide +kernel⟩
abbrev nm_are_loops : List Str := ["thing", "loop"]
theorem sc_are_loops : FnScope nm_are_loops ["thing"] (defScope s_are_loops) :=
  ⟨rfl, rfl, rfl, by decide +kernel, rfl, by decide +kernel, by decide +kernel⟩
abbrev nm_check_boxes : List Str := ["boxes", "box", "number", "_", "sort"]
theorem sc_check_boxes : FnScope nm_check_boxes ["boxes"] (defScope s_check_boxes) :=
  ⟨rfl, rfl, rfl, by decide +kernel, rfl, by decide +kernel, by decide +kernel⟩
abbrev nm_check_town : List Str := ["loops", "rounds", "hear", "loop", "box"]
theorem sc_check_town : FnScope nm_check_town ["loops", "rounds", "hear"] (defScope s_check_town) :=
  ⟨rfl, rfl, rfl, by decide +kernel, rfl, by decide +kernel, by decide +kernel⟩
abbrev nm_init : List Str := ["self", "loops", "rounds", "hear", "loop", "box", "number", "_"]
theorem sc_init : FnScope nm_init ["self", "loops", "rounds", "hear"] (defScope s_init) :=
  ⟨rfl, rfl, rfl, by decide +kernel, rfl, by decide +kernel, by decide +kernel⟩
abbrev nm_site_of : List Str := ["self", "number", "index", "loop", "place", "box"]
theorem sc_site_of : FnScope nm_site_of ["self", "number"] (defScope s_site_of) :=
  ⟨rfl, rfl, rfl, by decide +kernel, rfl, by decide +kernel, by decide +kernel⟩
abbrev nm_sort_of : List Str := ["self", "number", "loop", "place"]
theorem sc_sort_of : FnScope nm_sort_of ["self", "number"] (defScope s_sort_of) :=
  ⟨rfl, rfl, rfl, by decide +kernel, rfl, by decide +kernel, by decide +kernel⟩
abbrev nm_loop_of : List Str := ["self", "number"]
theorem sc_loop_of : FnScope nm_loop_of ["self", "number"] (defScope s_loop_of) :=
  ⟨rfl, rfl, rfl, by decide +kernel, rfl, by decide +kernel, by decide +kernel⟩
abbrev nm_place_of : List Str := ["self", "number"]
theorem sc_place_of : FnScope nm_place_of ["self", "number"] (defScope s_place_of) :=
  ⟨rfl, rfl, rfl, by decide +kernel, rfl, by decide +kernel, by decide +kernel⟩
abbrev nm_eq : List Str := ["self", "other"]
theorem sc_eq : FnScope nm_eq ["self", "other"] (defScope s_eq) :=
  ⟨rfl, rfl, rfl, by decide +kernel, rfl, by decide +kernel, by decide +kernel⟩
abbrev nm_with_box : List Str := ["self", "number", "box", "index", "place", "loops", "loop"]
theorem sc_with_box : FnScope nm_with_box ["self", "number", "box"] (defScope s_with_box) :=
  ⟨rfl, rfl, rfl, by decide +kernel, rfl, by decide +kernel, by decide +kernel⟩
abbrev nm_with_sort : List Str := ["self", "number", "sort"]
theorem sc_with_sort : FnScope nm_with_sort ["self", "number", "sort"] (defScope s_with_sort) :=
  ⟨rfl, rfl, rfl, by decide +kernel, rfl, by decide +kernel, by decide +kernel⟩
abbrev nm_town_text : List Str := ["town", "rows", "loop", "number", "sort"]
theorem sc_town_text : FnScope nm_town_text ["town"] (defScope s_town_text) :=
  ⟨rfl, rfl, rfl, by decide +kernel, rfl, by decide +kernel, by decide +kernel⟩
abbrev nm_read_head : List Str := ["row", "words"]
theorem sc_read_head : FnScope nm_read_head ["row"] (defScope s_read_head) :=
  ⟨rfl, rfl, rfl, by decide +kernel, rfl, by decide +kernel, by decide +kernel⟩
abbrev nm_read_loop : List Str := ["index", "row", "boxes", "piece", "words"]
theorem sc_read_loop : FnScope nm_read_loop ["index", "row"] (defScope s_read_loop) :=
  ⟨rfl, rfl, rfl, by decide +kernel, rfl, by decide +kernel, by decide +kernel⟩
abbrev nm_read_town : List Str := ["text", "rows", "rounds", "hear", "loops", "index", "row", "wrong"]
theorem sc_read_town : FnScope nm_read_town ["text"] (defScope s_read_town) :=
  ⟨rfl, rfl, rfl, by decide +kernel, rfl, by decide +kernel, by decide +kernel⟩
abbrev nm_bag : List Str := ["_law_script", "_law_cells", "_law_cell"]
theorem sc_bag : FnScope nm_bag ["_law_script"] (defScope s_bag) :=
  ⟨rfl, rfl, rfl, by decide +kernel, rfl, by decide +kernel, by decide +kernel⟩
abbrev nm_draw : List Str := ["_law_bag_here", "_law_limit", "_law_digit"]
theorem sc_draw : FnScope nm_draw ["_law_bag_here", "_law_limit"] (defScope s_draw) :=
  ⟨rfl, rfl, rfl, by decide +kernel, rfl, by decide +kernel, by decide +kernel⟩
abbrev nm_number : List Str := ["_law_bag_here", "_law_many", "_law_way", "_law_top", "_law_word", "_law_left", "_law_k", "_law_digit"]
theorem sc_number : FnScope nm_number ["_law_bag_here"] (defScope s_number) :=
  ⟨rfl, rfl, rfl, by decide +kernel, rfl, by decide +kernel, by decide +kernel⟩
abbrev nm_numbers : List Str := ["_law_bag_here", "_law_many", "_law_found", "_law_spare", "_law_k", "_law_number_here", "_law_free", "_law_one"]
theorem sc_numbers : FnScope nm_numbers ["_law_bag_here", "_law_many"] (defScope s_numbers) :=
  ⟨rfl, rfl, rfl, by decide +kernel, rfl, by decide +kernel, by decide +kernel⟩
abbrev nm_loops : List Str := ["_law_bag_here", "_law_sizes", "_law_k", "_law_numbers_here", "_law_loops_here", "_law_size"]
theorem sc_loops : FnScope nm_loops ["_law_bag_here"] (defScope s_loops) :=
  ⟨rfl, rfl, rfl, by decide +kernel, rfl, by decide +kernel, by decide +kernel⟩
abbrev nm_rules : List Str := ["_law_bag_here", "_law_count"]
theorem sc_rules : FnScope nm_rules ["_law_bag_here"] (defScope s_rules) :=
  ⟨rfl, rfl, rfl, by decide +kernel, rfl, by decide +kernel, by decide +kernel⟩
abbrev nm_told : List Str := ["_law_loops_here", "_law_loop"]
theorem sc_told : FnScope nm_told ["_law_loops_here"] (defScope s_told) :=
  ⟨rfl, rfl, rfl, by decide +kernel, rfl, by decide +kernel, by decide +kernel⟩
abbrev nm_text : List Str := ["_law_loops_here", "_law_rules_here", "_law_rows", "_law_loop", "_law_box"]
theorem sc_text : FnScope nm_text ["_law_loops_here", "_law_rules_here"] (defScope s_text) :=
  ⟨rfl, rfl, rfl, by decide +kernel, rfl, by decide +kernel, by decide +kernel⟩
abbrev nm_asked : List Str := ["_law_town", "_law_loops_here", "_law_rules_here", "_law_text_here", "_law_read", "_law_at", "_law_place", "_law_box"]
theorem sc_asked : FnScope nm_asked ["_law_town", "_law_loops_here", "_law_rules_here"] (defScope s_asked) :=
  ⟨rfl, rfl, rfl, by decide +kernel, rfl, by decide +kernel, by decide +kernel⟩
abbrev nm_law : List Str := ["_law_script", "_law_bag_here", "_law_one", "_law_first", "_law_two", "_law_second", "_law_town", "_law_other", "_law_same", "_law_changed"]
theorem sc_law : FnScope nm_law ["_law_script"] (defScope s_law) :=
  ⟨rfl, rfl, rfl, by decide +kernel, rfl, by decide +kernel, by decide +kernel⟩
structure Txt (K : PySem.W.Frag) (mg : Str → Option Value) where
  C : Addr
  isi : SlX.SIsi K C
  kS : PySem.W.kitOne K (.ref C) (.ref C) = some true
  kT : PySem.W.kitOne K (.type "tuple") (.ref C) = some false
  CB : Addr
  fB : Addr
  lowB : PySem.LowB.LowTxt K mg CB fB
  sfC : PySem.W.notFirst K C (.ref C) = true
  sfT : PySem.W.notFirst K C (.type "tuple") = true
  gC : mg "Town" = some (.ref C)
  clC : Cls K C
  mc : Value
  rd : ClX.CRead K C mc
  uP : Value
  uS : Value
  vP : ClX.CVal K C mc "PLAIN" (.str "plain") uP
  vS : ClX.CVal K C mc "SHY" (.str "shy") uS
  nL : NoAttr K C "loops"
  nR : NoAttr K C "rounds"
  nH : NoAttr K C "hear"
  nN : NoAttr K C "numbers"
  a_is_whole : Addr
  d_is_whole : FuncData
  F_is_whole : Fun K "is_whole" "is_whole" s_is_whole a_is_whole d_is_whole
  b_is_whole : Binds K d_is_whole ["thing"] []
  g_is_whole : mg "is_whole" = some (.ref a_is_whole)
  a_is_whole_within : Addr
  d_is_whole_within : FuncData
  F_is_whole_within : Fun K "is_whole_within" "is_whole_within" s_is_whole_within a_is_whole_within d_is_whole_within
  b_is_whole_within : Binds K d_is_whole_within ["thing", "low", "high"] []
  g_is_whole_within : mg "is_whole_within" = some (.ref a_is_whole_within)
  a_is_sequence : Addr
  d_is_sequence : FuncData
  F_is_sequence : Fun K "is_sequence" "is_sequence" s_is_sequence a_is_sequence d_is_sequence
  b_is_sequence : Binds K d_is_sequence ["thing"] []
  g_is_sequence : mg "is_sequence" = some (.ref a_is_sequence)
  a_is_digit : Addr
  d_is_digit : FuncData
  F_is_digit : Fun K "is_digit" "is_digit" s_is_digit a_is_digit d_is_digit
  b_is_digit : Binds K d_is_digit ["word"] []
  g_is_digit : mg "is_digit" = some (.ref a_is_digit)
  a_is_number : Addr
  d_is_number : FuncData
  F_is_number : Fun K "is_number" "is_number" s_is_number a_is_number d_is_number
  b_is_number : Binds K d_is_number ["thing"] []
  g_is_number : mg "is_number" = some (.ref a_is_number)
  a_is_sort : Addr
  d_is_sort : FuncData
  F_is_sort : Fun K "is_sort" "is_sort" s_is_sort a_is_sort d_is_sort
  b_is_sort : Binds K d_is_sort ["thing"] []
  g_is_sort : mg "is_sort" = some (.ref a_is_sort)
  a_has_double : Addr
  d_has_double : FuncData
  F_has_double : Fun K "has_double" "has_double" s_has_double a_has_double d_has_double
  b_has_double : Binds K d_has_double ["boxes"] []
  g_has_double : mg "has_double" = some (.ref a_has_double)
  a_are_loops : Addr
  d_are_loops : FuncData
  F_are_loops : Fun K "are_loops" "are_loops" s_are_loops a_are_loops d_are_loops
  b_are_loops : Binds K d_are_loops ["thing"] []
  g_are_loops : mg "are_loops" = some (.ref a_are_loops)
  a_check_boxes : Addr
  d_check_boxes : FuncData
  F_check_boxes : Fun K "check_boxes" "check_boxes" s_check_boxes a_check_boxes d_check_boxes
  b_check_boxes : Binds K d_check_boxes ["boxes"] []
  g_check_boxes : mg "check_boxes" = some (.ref a_check_boxes)
  a_check_town : Addr
  d_check_town : FuncData
  F_check_town : Fun K "check_town" "check_town" s_check_town a_check_town d_check_town
  b_check_town : Binds K d_check_town ["loops", "rounds", "hear"] []
  g_check_town : mg "check_town" = some (.ref a_check_town)
  a_init : Addr
  d_init : FuncData
  F_init : FunD K "__init__" "Town.__init__" (defArgs s_init) (defBody s_init) (defScope s_init) [] [("hear", V.int 1)] a_init d_init
  mk_init : Mk K C a_init
  a_site_of : Addr
  d_site_of : FuncData
  F_site_of : Fun K "site_of" "Town.site_of" s_site_of a_site_of d_site_of
  b_site_of : Binds K d_site_of ["self", "number"] []
  m_site_of : Meth K C "site_of" a_site_of
  a_sort_of : Addr
  d_sort_of : FuncData
  F_sort_of : Fun K "sort_of" "Town.sort_of" s_sort_of a_sort_of d_sort_of
  b_sort_of : Binds K d_sort_of ["self", "number"] []
  m_sort_of : Meth K C "sort_of" a_sort_of
  a_loop_of : Addr
  d_loop_of : FuncData
  F_loop_of : Fun K "loop_of" "Town.loop_of" s_loop_of a_loop_of d_loop_of
  b_loop_of : Binds K d_loop_of ["self", "number"] []
  m_loop_of : Meth K C "loop_of" a_loop_of
  a_place_of : Addr
  d_place_of : FuncData
  F_place_of : Fun K "place_of" "Town.place_of" s_place_of a_place_of d_place_of
  b_place_of : Binds K d_place_of ["self", "number"] []
  m_place_of : Meth K C "place_of" a_place_of
  a_eq : Addr
  d_eq : FuncData
  F_eq : Fun K "__eq__" "Town.__eq__" s_eq a_eq d_eq
  b_eq : Binds K d_eq ["self", "other"] []
  m_eq : Meth K C "__eq__" a_eq
  a_with_box : Addr
  d_with_box : FuncData
  F_with_box : Fun K "with_box" "Town.with_box" s_with_box a_with_box d_with_box
  b_with_box : Binds K d_with_box ["self", "number", "box"] []
  m_with_box : Meth K C "with_box" a_with_box
  a_with_sort : Addr
  d_with_sort : FuncData
  F_with_sort : Fun K "with_sort" "Town.with_sort" s_with_sort a_with_sort d_with_sort
  b_with_sort : Binds K d_with_sort ["self", "number", "sort"] []
  m_with_sort : Meth K C "with_sort" a_with_sort
  a_town_text : Addr
  d_town_text : FuncData
  F_town_text : Fun K "town_text" "town_text" s_town_text a_town_text d_town_text
  b_town_text : Binds K d_town_text ["town"] []
  g_town_text : mg "town_text" = some (.ref a_town_text)
  a_read_head : Addr
  d_read_head : FuncData
  F_read_head : Fun K "read_head" "read_head" s_read_head a_read_head d_read_head
  b_read_head : Binds K d_read_head ["row"] []
  g_read_head : mg "read_head" = some (.ref a_read_head)
  a_read_loop : Addr
  d_read_loop : FuncData
  F_read_loop : Fun K "read_loop" "read_loop" s_read_loop a_read_loop d_read_loop
  b_read_loop : Binds K d_read_loop ["index", "row"] []
  g_read_loop : mg "read_loop" = some (.ref a_read_loop)
  a_read_town : Addr
  d_read_town : FuncData
  F_read_town : Fun K "read_town" "read_town" s_read_town a_read_town d_read_town
  b_read_town : Binds K d_read_town ["text"] []
  g_read_town : mg "read_town" = some (.ref a_read_town)
  a_bag : Addr
  d_bag : FuncData
  F_bag : Fun K "_law_bag" "_law_bag" s_bag a_bag d_bag
  b_bag : Binds K d_bag ["_law_script"] []
  g_bag : mg "_law_bag" = some (.ref a_bag)
  a_draw : Addr
  d_draw : FuncData
  F_draw : Fun K "_law_draw" "_law_draw" s_draw a_draw d_draw
  b_draw : Binds K d_draw ["_law_bag_here", "_law_limit"] []
  g_draw : mg "_law_draw" = some (.ref a_draw)
  a_number : Addr
  d_number : FuncData
  F_number : Fun K "_law_number" "_law_number" s_number a_number d_number
  b_number : Binds K d_number ["_law_bag_here"] []
  g_number : mg "_law_number" = some (.ref a_number)
  a_numbers : Addr
  d_numbers : FuncData
  F_numbers : Fun K "_law_numbers" "_law_numbers" s_numbers a_numbers d_numbers
  b_numbers : Binds K d_numbers ["_law_bag_here", "_law_many"] []
  g_numbers : mg "_law_numbers" = some (.ref a_numbers)
  a_loops : Addr
  d_loops : FuncData
  F_loops : Fun K "_law_loops" "_law_loops" s_loops a_loops d_loops
  b_loops : Binds K d_loops ["_law_bag_here"] []
  g_loops : mg "_law_loops" = some (.ref a_loops)
  a_rules : Addr
  d_rules : FuncData
  F_rules : Fun K "_law_rules" "_law_rules" s_rules a_rules d_rules
  b_rules : Binds K d_rules ["_law_bag_here"] []
  g_rules : mg "_law_rules" = some (.ref a_rules)
  a_told : Addr
  d_told : FuncData
  F_told : Fun K "_law_told" "_law_told" s_told a_told d_told
  b_told : Binds K d_told ["_law_loops_here"] []
  g_told : mg "_law_told" = some (.ref a_told)
  a_text : Addr
  d_text : FuncData
  F_text : Fun K "_law_text" "_law_text" s_text a_text d_text
  b_text : Binds K d_text ["_law_loops_here", "_law_rules_here"] []
  g_text : mg "_law_text" = some (.ref a_text)
  a_asked : Addr
  d_asked : FuncData
  F_asked : Fun K "_law_asked" "_law_asked" s_asked a_asked d_asked
  b_asked : Binds K d_asked ["_law_town", "_law_loops_here", "_law_rules_here"] []
  g_asked : mg "_law_asked" = some (.ref a_asked)
  a_law : Addr
  d_law : FuncData
  F_law : Fun K "law" "law" s_law a_law d_law
  b_law : Binds K d_law ["_law_script"] []
  g_law : mg "law" = some (.ref a_law)
  t_DIGITS : Tok
  c_DIGITS : mg "DIGITS" = some (.str "123456789" t_DIGITS)
  t_MOST_DIGITS : Tok
  c_MOST_DIGITS : mg "MOST_DIGITS" = some (.int 4 t_MOST_DIGITS)
  t_GREATEST_SUM : Tok
  c_GREATEST_SUM : mg "GREATEST_SUM" = some (.int 24 t_GREATEST_SUM)
  t_MOST_LOOPS : Tok
  c_MOST_LOOPS : mg "MOST_LOOPS" = some (.int 3 t_MOST_LOOPS)
  t_MOST_BOXES : Tok
  c_MOST_BOXES : mg "MOST_BOXES" = some (.int 10 t_MOST_BOXES)
  t_MOST_ROUNDS : Tok
  c_MOST_ROUNDS : mg "MOST_ROUNDS" = some (.int 8 t_MOST_ROUNDS)
  t_LOOP_HEAD : Tok
  c_LOOP_HEAD : mg "LOOP_HEAD" = some (.str "loop " t_LOOP_HEAD)
  z_all : mg "all" = none
  z_bool : mg "bool" = none
  z_enumerate : mg "enumerate" = none
  z_int : mg "int" = none
  z_isinstance : mg "isinstance" = none
  z_len : mg "len" = none
  z_list : mg "list" = none
  z_min : mg "min" = none
  z_range : mg "range" = none
  z_set : mg "set" = none
  z_str : mg "str" = none
  z_sum : mg "sum" = none
  z_tuple : mg "tuple" = none
  aEq : PySem.W.findIn K (.ref C) (cmpInfo .Eq).2.1 = some (some (.ref a_eq))
  iEq : PySem.W.isFn K (.ref a_eq) = true
  ne : On.NeOk K C a_eq
  kb2 : KBn K d_init ["self", "loops", "rounds", "hear"] 2 ["rounds", "hear"] (fun us ws => us ++ ws) (fun vs zs => vs ++ zs)
  mv : List Value
  kb : KBn K d_init ["self", "loops", "rounds", "hear"] 2 ["rounds"] (fun us ws => us ++ ws ++ mv) (fun vs zs => vs ++ zs ++ [V.int 1])
end K09

/-! The promises. -/
namespace K09
open PySem L2 Wm Dv
abbrev Box := List Nat × Bool
def sortS (b : Bool) : Str := if b then "shy" else "plain"
def boxD (b : Box) : PyData := .tuple [.str (numS b.1), .str (sortS b.2)]
def loopD (l : List Box) : PyData := .tuple (l.map boxD)
def townD (ls : List (List Box)) : PyData := .tuple (ls.map loopD)
def numD (b : Box) : PyData := .str (numS b.1)
/-- boxes with numbers -/
def Bs (bs : List Box) : Prop := ∀ b ∈ bs, Num b.1
structure Good (ls : List (List Box)) : Prop where
  l1 : 1 ≤ ls.length
  l2 : ls.length ≤ 3
  b1 : ∀ l ∈ ls, 1 ≤ l.length
  b2 : ∀ l ∈ ls, l.length ≤ 10
  num : Bs ls.flatten
  nd : (ls.flatten.map fun b => numS b.1).Nodup
def numV (b : Box) : V := V.str (numS b.1)
def TownAt (K : PySem.W.Frag) (C : Addr) (H : Hp) (p : Addr) (ls : List (List Box)) (r h : Int) : Prop :=
  ∃ dx fs y y2, H p = some (.ins C dx fs) ∧ fs.lookup ("loops" : Str) = some y ∧ fs.lookup ("rounds" : Str) = some (.int r) ∧ fs.lookup ("hear" : Str) = some (.int h) ∧ fs.lookup ("numbers" : Str) = some y2 ∧
    (∀ m : Str, m ≠ "loops" → m ≠ "rounds" → m ≠ "hear" → m ≠ "numbers" → fs.lookup m = none) ∧ Dt K H y (townD ls) ∧ Dt K H y2 (.tuple (ls.flatten.map numD))
/-- a loop as a list or a tuple of boxes; a town of such -/
def LoopIn (K : PySem.W.Frag) (H : Hp) (v : V) (l : List Box) : Prop := ∃ q ys t, v = .ref q ∧ Kd.Is K t H q ys ∧ Dts K H ys (l.map boxD)
def InTown (K : PySem.W.Frag) (H : Hp) (x : V) (ls : List (List Box)) : Prop := ∃ p xs t, x = .ref p ∧ Kd.Is K t H p xs ∧ xs.length = ls.length ∧ ∀ (i : Nat) v, xs[i]? = some v → ∃ l, ls[i]? = some l ∧ LoopIn K H v l
theorem LoopIn.k {K : PySem.W.Frag} {H H' : Hp} {v : V} {l : List Box} (h : LoopIn K H v l) (s : Same H H') : LoopIn K H' v l := by
  obtain ⟨q, ys, t, e, hq, hd⟩ := h
  exact ⟨q, ys, t, e, hq.keep s, hd.k (Kt.same s)⟩
theorem InTown.k {K : PySem.W.Frag} {H H' : Hp} {x : V} {ls : List (List Box)} (h : InTown K H x ls) (s : Same H H') : InTown K H' x ls := by
  obtain ⟨p, xs, t, e, hp, el, ha⟩ := h
  exact ⟨p, xs, t, e, hp.keep s, el, fun i v hv => by
    obtain ⟨l, hl, hL⟩ := ha i v hv
    exact ⟨l, hl, hL.k s⟩⟩
/-- what may be asked whether it is a whole number, and which -/
inductive Thing (K : PySem.W.Frag) (H : Hp) : V → Option Int → Prop
  | int (i : Int) : Thing K H (.int i) (some i)
  | bl (b : Bool) : Thing K H (.bl b) none
  | str (s : Str) : Thing K H (.str s) none
  | non : Thing K H .non none
  | seq {p : Addr} {xs : List V} {t : Bool} : Kd.Is K t H p xs → Thing K H (.ref p) none
theorem Thing.k {K : PySem.W.Frag} {H H' : Hp} {x : V} {o : Option Int} (h : Thing K H x o) (s : Same H H') : Thing K H' x o := by
  cases h with
  | int i => exact .int i
  | bl b => exact .bl b
  | str b => exact .str b
  | non => exact .non
  | seq h => exact .seq (h.keep s)
def within (lo hi : Int) : Option Int → Bool
  | some i => decide (lo ≤ i) && decide (i ≤ hi)
  | none => false
def sp_is_whole (K : PySem.W.Frag) : Sp := fun vs H Q _ => ∃ x o, vs = [x] ∧ Thing K H x o ∧ Q (.bl o.isSome) H
def sp_is_whole_within (K : PySem.W.Frag) : Sp := fun vs H Q _ => ∃ x o, ∃ lo hi : Int, vs = [x, .int lo, .int hi] ∧ Thing K H x o ∧ Q (.bl (within lo hi o)) H
def sp_is_sequence (K : PySem.W.Frag) : Sp := fun vs H Q _ => ∃ p xs t, vs = [.ref p] ∧ Kd.Is K t H p xs ∧ ∀ H', Same H H' → Q (.bl true) H'
def sp_is_number (K : PySem.W.Frag) : Sp := fun vs H Q _ => ∃ (t : Str), t.length ≤ 100000 ∧ vs = [.str t] ∧ ∀ H' b, Same H H' → (b = true ↔ IsNum t) → Q (.bl b) H'
def sp_is_sort (K : PySem.W.Frag) : Sp := fun vs H Q _ => ∃ b : Bool, vs = [.str (sortS b)] ∧ ∀ H', Same H H' → Q (.bl true) H'
def sp_has_double (K : PySem.W.Frag) : Sp := fun vs H Q _ => ∃ (p : Addr) (xs : List V) (bs : List Box), vs = [.ref p] ∧ SqL K H p xs ∧ Dts K H xs (bs.map boxD) ∧ bs.length ≤ 30 ∧ (bs.map fun b => numS b.1).Nodup ∧ ∀ H', Same H H' → Q (.bl false) H'
def sp_are_loops (K : PySem.W.Frag) : Sp := fun vs H Q _ => ∃ (x : V) (ls : List (List Box)), vs = [x] ∧ InTown K H x ls ∧ Good ls ∧ ∀ H', Same H H' → Q (.bl true) H'
def sp_check_boxes (K : PySem.W.Frag) : Sp := fun vs H Q _ => ∃ (p : Addr) (xs : List V) (bs : List Box), vs = [.ref p] ∧ SqL K H p xs ∧ Dts K H xs (bs.map boxD) ∧ bs.length ≤ 30 ∧ Bs bs ∧ (bs.map fun b => numS b.1).Nodup ∧ ∀ H', Same H H' → Q .non H'
def sp_check_town (K : PySem.W.Frag) : Sp := fun vs H Q _ => ∃ (x : V) (ls : List (List Box)) (r h : Int), vs = [x, .int r, .int h] ∧ InTown K H x ls ∧ Good ls ∧ 1 ≤ r ∧ r ≤ 8 ∧ 1 ≤ h ∧ h ≤ 2 ∧ h ≤ r ∧ ∀ H', Same H H' → Q .non H'
def sp_init (K : PySem.W.Frag) (C : Addr) : Sp := fun vs H Q _ => ∃ (p dx : Addr) (x : V) (ls : List (List Box)) (r h : Int), vs = [.ref p, x, .int r, .int h] ∧ H p = some (.ins C dx []) ∧ InTown K H x ls ∧ Good ls ∧ 1 ≤ r ∧ r ≤ 8 ∧ 1 ≤ h ∧ h ≤ 2 ∧ h ≤ r ∧
  ∀ H', (∀ q o, q ≠ p → H q = some o → H' q = some o) → TownAt K C H' p ls r h → Q .non H'
def Er (C : Addr) (f : Str) (E : XK) (H : Hp) (x : V) : Prop := ∀ H' d, Same H H' → H' d = some (.xd [(f, x)]) → E (.ref C) (some d) H'
theorem Er.after {C : Addr} {f : Str} {E : XK} {H H1 : Hp} {x : V} (h : Er C f E H x) (s : Same H H1) : Er C f E H1 x := fun H' d s' e => h H' d (s.trans s') e
def sp_site_of (K : PySem.W.Frag) (C CB : Addr) : Sp := fun vs H Q E => ∃ (p : Addr) (x : V) (d : PyData) (ls : List (List Box)) (r h : Int), vs = [.ref p, x] ∧ TownAt K C H p ls r h ∧ Good ls ∧ (∀ H', Same H H' → Dp K H' x d) ∧ SeqAt.shaped d = true ∧
  (∀ (i j : Nat) l b, ls[i]? = some l → l[j]? = some b → PyData.eqv (.str (numS b.1)) d = true → ∀ H' q, Same H H' → H q = none → H' q = some (.tup [.int (i : Nat), .int (j : Nat)]) → Q (.ref q) H') ∧ ((∀ b ∈ ls.flatten, PyData.eqv (.str (numS b.1)) d = false) → Er CB "number" E H x)
def sp_sort_of (K : PySem.W.Frag) (C CB : Addr) : Sp := fun vs H Q E => ∃ (p : Addr) (x : V) (d : PyData) (ls : List (List Box)) (r h : Int), vs = [.ref p, x] ∧ TownAt K C H p ls r h ∧ Good ls ∧ (∀ H', Same H H' → Dp K H' x d) ∧ SeqAt.shaped d = true ∧
  (∀ (i j : Nat) l b, ls[i]? = some l → l[j]? = some b → PyData.eqv (.str (numS b.1)) d = true → ∀ H', Same H H' → Q (.str (sortS b.2)) H') ∧ ((∀ b ∈ ls.flatten, PyData.eqv (.str (numS b.1)) d = false) → Er CB "number" E H x)
def sp_loop_of (K : PySem.W.Frag) (C CB : Addr) : Sp := fun vs H Q E => ∃ (p : Addr) (x : V) (d : PyData) (ls : List (List Box)) (r h : Int), vs = [.ref p, x] ∧ TownAt K C H p ls r h ∧ Good ls ∧ (∀ H', Same H H' → Dp K H' x d) ∧ SeqAt.shaped d = true ∧
  (∀ (i j : Nat) l b, ls[i]? = some l → l[j]? = some b → PyData.eqv (.str (numS b.1)) d = true → ∀ H', Same H H' → Q (.int (i : Nat)) H') ∧ ((∀ b ∈ ls.flatten, PyData.eqv (.str (numS b.1)) d = false) → Er CB "number" E H x)
def sp_place_of (K : PySem.W.Frag) (C CB : Addr) : Sp := fun vs H Q E => ∃ (p : Addr) (x : V) (d : PyData) (ls : List (List Box)) (r h : Int), vs = [.ref p, x] ∧ TownAt K C H p ls r h ∧ Good ls ∧ (∀ H', Same H H' → Dp K H' x d) ∧ SeqAt.shaped d = true ∧
  (∀ (i j : Nat) l b, ls[i]? = some l → l[j]? = some b → PyData.eqv (.str (numS b.1)) d = true → ∀ H', Same H H' → Q (.int (j : Nat)) H') ∧ ((∀ b ∈ ls.flatten, PyData.eqv (.str (numS b.1)) d = false) → Er CB "number" E H x)
def sp_eq (K : PySem.W.Frag) (C : Addr) : Sp := fun vs H Q _ => ∃ (p : Addr) (y : V) (ls : List (List Box)) (r h : Int), vs = [.ref p, y] ∧ TownAt K C H p ls r h ∧ Good ls ∧
  ((∃ (p2 : Addr) (ls2 : List (List Box)) (r2 h2 : Int), y = .ref p2 ∧ TownAt K C H p2 ls2 r2 h2 ∧ Good ls2 ∧ Q (.bl (PyData.eqv (townD ls) (townD ls2) && (decide (V.int r = V.int r2) && decide (V.int h = V.int h2)))) H) ∨
    ∃ (q : Addr) (xs : List V), y = .ref q ∧ SqT K H q xs ∧ Q (.bl false) H)
def sp_bag (K : PySem.W.Frag) : Sp := fun vs H Q _ => ∃ (a : Addr) (ns : List Int), vs = [.ref a] ∧ SqL K H a (ns.map V.int) ∧ ns.length ≤ 63 ∧ ∀ H' b, Same H H' → Bag H' b 0 → Q (.ref b) H'
def sp_draw (K : PySem.W.Frag) : Sp := fun vs H Q _ => ∃ (b : Addr) (n : Nat) (lim : Int), vs = [.ref b, .int lim] ∧ 0 < lim ∧ lim < 2 ^ 100 ∧ Bag H b n ∧ n ≤ 1000000 ∧
  ∀ H' d, 0 ≤ d → d < lim → Bag H' b (n + 1) → But b H H' → Q (.int d) H'
def sp_number (K : PySem.W.Frag) : Sp := fun vs H Q _ => ∃ (b : Addr) (n : Nat), vs = [.ref b] ∧ Bag H b n ∧ n ≤ 900000 ∧ ∀ H' (ds : List Nat), Num ds → Bag H' b (n + 6) → But b H H' → Q (.str (numS ds)) H'
def sp_numbers (K : PySem.W.Frag) : Sp := fun vs H Q _ => ∃ (b : Addr) (n many : Nat), vs = [.ref b, .int (many : Nat)] ∧ many ≤ 40 ∧ Bag H b n ∧ n ≤ 800000 ∧
  ∀ H' p (dss : List (List Nat)), dss.length = many → (∀ ds ∈ dss, Num ds) → (dss.map numS).Nodup → H p = none → H' p = some (.lst ((dss.map numS).map V.str)) → Bag H' b (n + 6 * many) → But b H H' → Q (.ref p) H'
def sp_rules (K : PySem.W.Frag) : Sp := fun vs H Q _ => ∃ (b : Addr) (n : Nat), vs = [.ref b] ∧ Bag H b n ∧ n ≤ 900000 ∧
  ∀ H' p (r h : Int), 1 ≤ r → r ≤ 8 → 1 ≤ h → h ≤ 2 → h ≤ r → H p = none → H' p = some (.lst [.int r, .int h]) → Bag H' b (n + 2) → But b H H' → Q (.ref p) H'
def sp_told (K : PySem.W.Frag) : Sp := fun vs H Q _ => ∃ (p : Addr) (xs : List V) (ls : List (List Box)), vs = [.ref p] ∧ SqL K H p xs ∧ xs.length = ls.length ∧ (∀ (i : Nat) v, xs[i]? = some v → ∃ l, ls[i]? = some l ∧ LoopIn K H v l) ∧ ls.length ≤ 100 ∧ ∀ H' y, Same H H' → Dt K H' y (townD ls) → Q y H'
/-- a new list of tuples -/
def NewLoop (K : PySem.W.Frag) (H H' : Hp) (v : V) (l : List Box) : Prop := ∃ q ys, v = .ref q ∧ H q = none ∧ H' q = some (.lst ys) ∧ Dts K H' ys (l.map boxD)
def sp_loops (K : PySem.W.Frag) : Sp := fun vs H Q _ => ∃ (b : Addr) (n : Nat), vs = [.ref b] ∧ Bag H b n ∧ n ≤ 700000 ∧
  ∀ H' p (xs : List V) (ls : List (List Box)), Good ls → H p = none → H' p = some (.lst xs) → xs.length = ls.length → (∀ (i : Nat) v, xs[i]? = some v → ∃ l, ls[i]? = some l ∧ NewLoop K H H' v l) → Bag H' b (n + 400) → But b H H' → Q (.ref p) H'
/-- a list of lists of boxes -/
def LsAt (K : PySem.W.Frag) (H : Hp) (q : Addr) (ls : List (List Box)) : Prop := ∃ xs, H q = some (.lst xs) ∧ xs.length = ls.length ∧ ∀ (i : Nat) v, xs[i]? = some v → ∃ l, ls[i]? = some l ∧ ∃ q2 ys, v = .ref q2 ∧ H q2 = some (.lst ys) ∧ Dts K H ys (l.map boxD)
def natS (r : Int) : Str := (toString r : String)
def boxS (b : Box) : Str := numS b.1 ++ " " ++ sortS b.2
def loopS (l : List Box) : Str := "loop " ++ Txt.join ", " (l.map boxS)
def headS (r h : Int) : Str := Txt.join " " ["rounds", natS r, "hear", natS h]
def textS (ls : List (List Box)) (r h : Int) : Str := Txt.join "\n" (headS r h :: ls.map loopS)
/-- rounds and hear -/
structure Rul (r h : Int) : Prop where
  r1 : 1 ≤ r
  r8 : r ≤ 8
  h1 : 1 ≤ h
  h2 : h ≤ 2
  hr : h ≤ r
def sp_is_digit (K : PySem.W.Frag) : Sp := fun vs H Q _ => ∃ r : Int, vs = [.str (natS r)] ∧ 1 ≤ r ∧ r ≤ 8 ∧ Q (.bl true) H
def sp_with_box (K : PySem.W.Frag) (C : Addr) : Sp := fun vs H Q _ => ∃ (p q : Addr) (ls : List (List Box)) (r h : Int) (i j : Nat) (l : List Box) (b : Box) (s : Bool), vs = [.ref p, .str (numS b.1), .ref q] ∧ TownAt K C H p ls r h ∧ Good ls ∧ Rul r h ∧ ls[i]? = some l ∧ l[j]? = some b ∧
  SqT K H q [.str (numS b.1), .str (sortS s)] ∧ ∀ H' p2, Same H H' → TownAt K C H' p2 (ls.set i (l.set j (b.1, s))) r h → Q (.ref p2) H'
def sp_with_sort (K : PySem.W.Frag) (C : Addr) : Sp := fun vs H Q _ => ∃ (p : Addr) (ls : List (List Box)) (r h : Int) (i j : Nat) (l : List Box) (b : Box) (s : Bool), vs = [.ref p, .str (numS b.1), .str (sortS s)] ∧ TownAt K C H p ls r h ∧ Good ls ∧ Rul r h ∧ ls[i]? = some l ∧ l[j]? = some b ∧
  ∀ H' p2, Same H H' → TownAt K C H' p2 (ls.set i (l.set j (b.1, s))) r h → Q (.ref p2) H'
def sp_town_text (K : PySem.W.Frag) (C : Addr) : Sp := fun vs H Q _ => ∃ (p : Addr) (ls : List (List Box)) (r h : Int), vs = [.ref p] ∧ TownAt K C H p ls r h ∧ Good ls ∧ Rul r h ∧ ∀ H', Same H H' → Q (.str (textS ls r h)) H'
def sp_read_head (K : PySem.W.Frag) : Sp := fun vs H Q _ => ∃ r h : Int, vs = [.str (headS r h)] ∧ Rul r h ∧ ∀ H' q, Same H H' → H' q = some (.tup [.int r, .int h]) → Q (.ref q) H'
def sp_read_loop (K : PySem.W.Frag) : Sp := fun vs H Q _ => ∃ (i : Int) (l : List Box), vs = [.int i, .str (loopS l)] ∧ Bs l ∧ 1 ≤ l.length ∧ l.length ≤ 10 ∧ ∀ H' q ys, Same H H' → H q = none → H' q = some (.lst ys) → Dts K H' ys (l.map boxD) → Q (.ref q) H'
def sp_read_town (K : PySem.W.Frag) (C : Addr) : Sp := fun vs H Q _ => ∃ (ls : List (List Box)) (r h : Int), vs = [.str (textS ls r h)] ∧ Good ls ∧ Rul r h ∧ ∀ H' p, Same H H' → TownAt K C H' p ls r h → Q (.ref p) H'
def sp_text (K : PySem.W.Frag) : Sp := fun vs H Q _ => ∃ (q t : Addr) (ls : List (List Box)) (r h : Int), vs = [.ref q, .ref t] ∧ LsAt K H q ls ∧ Good ls ∧ Rul r h ∧ H t = some (.lst [.int r, .int h]) ∧ ∀ H', Same H H' → Q (.str (textS ls r h)) H'
def sp_asked (K : PySem.W.Frag) (C : Addr) : Sp := fun vs H Q _ => ∃ (p q t : Addr) (ls : List (List Box)) (r h : Int), vs = [.ref p, .ref q, .ref t] ∧ TownAt K C H p ls r h ∧ LsAt K H q ls ∧ Good ls ∧ Rul r h ∧ H t = some (.lst [.int r, .int h]) ∧ ∀ H', Same H H' → Q (.bl true) H'
def sp_law (K : PySem.W.Frag) : Sp := fun vs H Q _ => ∃ (a : Addr) (ns : List Int), vs = [.ref a] ∧ SqL K H a (ns.map V.int) ∧ ns.length ≤ 63 ∧ ∀ H', Q (.bl true) H'
end K09

namespace K09
open PySem L2 Wm TL Dv
section
variable {P : Program} {w : World} {K : PySem.W.Frag} {mg : Str → Option Value} {base : Heap}
theorem tyT {H : Hp} {p : Addr} {xs : List V} (h : SqT K H p xs) : TyX K H (.ref p) (.type "tuple") := by
  rcases h with (h | ⟨o, h⟩) | ⟨o, its, n, e, c, _⟩
  · exact .base (.tup h)
  · exact .fTuple h
  · exact .kTuple e c
theorem box_inv {H : Hp} {x : V} {b : Box} (h : Dt K H x (boxD b)) : ∃ p, x = .ref p ∧ SqT K H p [.str (numS b.1), .str (sortS b.2)] := by
  obtain ⟨p, xs, rfl, hS, hd⟩ := h.inv
  cases hd with
  | cons a r =>
    cases r with
    | cons b2 r =>
      cases r
      rw [a.str_inv, b2.str_inv] at hS
      exact ⟨p, rfl, hS⟩
theorem tyL {H : Hp} {p : Addr} {xs : List V} (h : SqL K H p xs) : TyX K H (.ref p) (.type "list") := by
  rcases h with (h | ⟨o, h⟩) | ⟨o, its, n, e, c, _⟩
  · exact .base (.lst h)
  · exact .base (.frz h)
  · exact .kList e c
theorem ok_is_whole (T : Txt K mg) : FnOk P w K mg base CX0 1 T.a_is_whole T.d_is_whole ["thing"] (sp_is_whole K) := by
  refine T.F_is_whole.ok sc_is_whole (fun vs H Q E h => ?_) (fun cdv A outer s H vs Q E hr h => ?_)
  · obtain ⟨x, o, rfl, _⟩ := h
    rfl
  · obtain ⟨x, o, rfl, hx, k⟩ := h
    refine ⟨_, (pss_one (ps_ret (pe_and (pe_callB call_isi (by rfl) T.z_isinstance (by decide +kernel) (pa_cons (pv 0) (pa_cons (pe_bltn (v := V.ty "int") (by rfl) T.z_int (by decide +kernel) rfl) pa_nil))) (pe_one (pe_not (pe_callB call_isi (by rfl) T.z_isinstance (by decide +kernel) (pa_cons (pv 0) (pa_cons (pe_bltn (v := V.ty "bool") (by rfl) T.z_bool (by decide +kernel) rfl) pa_nil)))))))), ?_⟩
    cases hx with
    | int i =>
      refine ⟨_, rfl, _, _, _, _, true, rfl, .ty "int", .base (.int _), kit_ty (by decide +kernel), true, rfl, iteT ?_⟩
      exact ⟨_, rfl, _, _, _, _, false, rfl, .ty "bool", .base (.int _), kit_ty (by decide +kernel), false, rfl, k⟩
    | bl b =>
      refine ⟨_, rfl, _, _, _, _, true, rfl, .ty "int", .base (.bl _), kit_ty (by decide +kernel), true, rfl, iteT ?_⟩
      exact ⟨_, rfl, _, _, _, _, true, rfl, .ty "bool", .base (.bl _), kit_ty (by decide +kernel), true, rfl, k⟩
    | str s => exact ⟨_, rfl, _, _, _, _, false, rfl, .ty "int", .base (.str _), kit_ty (by decide +kernel), false, rfl, iteF k⟩
    | non => exact ⟨_, rfl, _, _, _, _, false, rfl, .ty "int", .base .non, kit_ty (by decide +kernel), false, rfl, iteF k⟩
    | @seq p xs t h =>
      cases t with
      | true => exact ⟨_, rfl, _, _, _, _, false, rfl, .ty "int", tyT h, kit_ty (by decide +kernel), false, rfl, iteF k⟩
      | false => exact ⟨_, rfl, _, _, _, _, false, rfl, .ty "int", tyL h, kit_ty (by decide +kernel), false, rfl, iteF k⟩
theorem ok_is_whole_within (T : Txt K mg) : FnOk P w K mg base CX0 2 T.a_is_whole_within T.d_is_whole_within ["thing", "low", "high"] (sp_is_whole_within K) := by
  refine T.F_is_whole_within.ok sc_is_whole_within (fun vs H Q E h => ?_) (fun cdv A outer s H vs Q E hr h => ?_)
  · obtain ⟨x, o, lo, hi, rfl, _⟩ := h
    rfl
  · obtain ⟨x, o, lo, hi, rfl, hx, k⟩ := h
    refine ⟨_, (pss_one (ps_ret (pe_and (pe_call (ok_is_whole T) (hr.mono (by decide)) (by rfl) T.g_is_whole T.F_is_whole.kp T.b_is_whole .nil pass0 (pa_cons (pv 0) pa_nil)) (pe_one (pe_chain op_le op_le (pv 1) (pv 0) (pv 2)))))), ?_⟩
    refine ⟨_, rfl, x, o, rfl, hx, ?_⟩
    cases o with
    | none => exact ⟨false, rfl, iteF k⟩
    | some i =>
      cases hx
      refine ⟨true, rfl, iteT ?_⟩
      refine ⟨_, rfl, _, rfl, _, _, rfl, rfl, _, rfl, ?_⟩
      have k : Q (.bl (decide (lo ≤ i) && decide (i ≤ hi))) H := k
      cases e : decide (lo ≤ i) with
      | true =>
        rw [e] at k
        exact iteT ⟨_, rfl, _, _, rfl, rfl, k⟩
      | false =>
        rw [e] at k
        exact iteF k
theorem ok_is_sequence (T : Txt K mg) : FnOk P w K mg base CX0 1 T.a_is_sequence T.d_is_sequence ["thing"] (sp_is_sequence K) := by
  refine T.F_is_sequence.ok sc_is_sequence (fun vs H Q E h => ?_) (fun cdv A outer s H vs Q E hr h => ?_)
  · obtain ⟨p, xs, t, rfl, _⟩ := h
    rfl
  · obtain ⟨p, xs, t, rfl, hS, k⟩ := h
    refine ⟨_, (pss_one (ps_ret (pe_callB call_isiT (by rfl) T.z_isinstance (by decide +kernel) (pa_cons (pv 0) (pa_cons (pe_tup (pa_cons (pe_bltn (v := V.ty "list") (by rfl) T.z_list (by decide +kernel) rfl) (pa_cons (pe_bltn (v := V.ty "tuple") (by rfl) T.z_tuple (by decide +kernel) rfl) pa_nil))) pa_nil))))), ?_⟩
    refine ⟨_, rfl, by show 2 ≤ sizeLine; decide, fun t2 ht => ?_⟩
    have s1 : Same H (upd H t2 (.tup [.ty "list", .ty "tuple"])) := same_new ht
    cases t with
    | true =>
      refine ⟨_, t2, _, _, _, true, rfl, upd_same, .cons (.ty "list") (.cons (.ty "tuple") .nil), tyT (sameT s1 hS), kitAny_cons (b := false) (kit_ty (by decide +kernel)) (fun _ => kitAny_cons (b := true) (kit_ty (by decide +kernel)) (fun z => by cases z) (fun _ => rfl)) (fun z => by cases z), ?_⟩
      exact k _ s1
    | false =>
      refine ⟨_, t2, _, _, _, true, rfl, upd_same, .cons (.ty "list") (.cons (.ty "tuple") .nil), tyL (Hf.keepL s1 hS), kitAny_cons (b := true) (kit_ty (by decide +kernel)) (fun z => by cases z) (fun _ => rfl), ?_⟩
      exact k _ s1
theorem ok_is_sort (T : Txt K mg) : FnOk P w K mg base CX0 1 T.a_is_sort T.d_is_sort ["thing"] (sp_is_sort K) := by
  refine T.F_is_sort.ok sc_is_sort (fun vs H Q E h => ?_) (fun cdv A outer s H vs Q E hr h => ?_)
  · obtain ⟨b, rfl, _⟩ := h
    rfl
  · obtain ⟨b, rfl, k⟩ := h
    refine ⟨_, (pss_one (ps_ret (pe_cmpR op_in_seq (pv 0) (pe_tup (pa_cons (ClX.pe_cval (pe_glob (v := V.ref T.C) rfl T.gC rfl)) (pa_cons (ClX.pe_cval (pe_glob (v := V.ref T.C) rfl T.gC rfl)) pa_nil))) rfl))), ?_⟩
    refine ⟨_, rfl, T.C, T.mc, _, _, rfl, T.rd, T.vP, T.C, T.mc, _, _, rfl, T.rd, T.vS, by show 2 ≤ sizeLine; decide, fun t ht => ?_⟩
    refine ⟨t, _, rfl, .inr (SqT.of upd_same), rfl, rfl, ?_⟩
    have e : inV (.str (sortS b)) [V.str "plain", V.str "shy"] = true := by cases b <;> decide +kernel
    show Q (V.bl (if false = true then _ else inV (.str (sortS b)) [V.str "plain", V.str "shy"])) _
    rw [if_neg (by decide), e]
    exact k _ (same_new ht)
end
end K09

namespace K09
open PySem L2 Wm TL Dv
section
variable {P : Program} {w : World} {K : PySem.W.Frag} {mg : Str → Option Value} {base : Heap}
theorem small_len {n : Nat} (h : n ≤ 100000) : n ≤ sizeLine := by
  have : (100000 : Nat) ≤ sizeLine := by decide
  omega
theorem sum_cast : ∀ ds : List Nat, (ds.map fun (d : Nat) => (d : Int)).sum = ((ds.sum : Nat) : Int)
  | [] => rfl
  | d :: ds => by
    rw [List.map_cons, List.sum_cons, List.sum_cons, sum_cast ds]
    omega
def letters (t : Str) : List Bool := (tl t).map fun c => decide (c ∈ ("123456789" : Str).cps.toList)
theorem letters_all {t : Str} : (letters t).all id = true ↔ ∀ c ∈ tl t, c ∈ ("123456789" : Str).cps.toList := by
  unfold letters
  rw [List.all_map, List.all_eq_true]
  constructor
  · intro h c m
    exact of_decide_eq_true (h c m)
  · intro h c m
    exact decide_eq_true (h c m)
theorem cps_at {t : Str} {i c : Nat} (h : t.cps[i]? = some c) : (tl t)[i]? = some c := by
  rw [← h]
  exact Array.getElem?_toList ..
theorem ok_is_number (T : Txt K mg) : FnOk P w K mg base CX0 1 T.a_is_number T.d_is_number ["thing"] (sp_is_number K) := by
  refine T.F_is_number.ok sc_is_number (fun vs H Q E h => ?_) (fun cdv A outer s H vs Q E hr h => ?_)
  · obtain ⟨t, _, rfl, _⟩ := h
    rfl
  · obtain ⟨t, hz, rfl, k⟩ := h
    have hl : t.length = (tl t).length := len_tl t
    have numlen : IsNum t → 1 ≤ t.length ∧ t.length ≤ 4 := fun ⟨ds, N, e⟩ => by
      rw [e, numS_len]
      exact ⟨N.pos, N.len⟩
    refine ⟨_, (pss_cons (ps_if (PW.pt (pw_or (pt_not (pt_val (pe_callB call_isi (by rfl) T.z_isinstance (by decide +kernel) (pa_cons (pv 0) (pa_cons (pe_bltn (v := V.ty "str") (by rfl) T.z_str (by decide +kernel) rfl) pa_nil))))) (pw_or1 (pt_not (pt_chain op_le op_le pe_int (pe_callB call_len_str (by rfl) T.z_len PySem.boot_len (pa_cons (pv 0) pa_nil)) (pe_glob (v := V.int 4) rfl T.c_MOST_DIGITS ⟨_, rfl⟩))))))
        (pss_one (ps_ret pe_bl))
        pss_nil)
      (pss_cons (ps_if (pt_not (pt_val (pe_callB (cr_all rfl) (by rfl) T.z_all (by decide +kernel) (pa_cons (pe_lc (own := [("letter", 1)]) (g := gName 1) (tt := tYes) rfl sc_is_number.nd (pi_str (pv 0)) (blkOk_by (own := [("letter", 1)]) (N := nm_is_number) (sc := (defScope s_is_number)) (by decide +kernel)) (fun _ _ _ _ _ => pg_name (i := 1) sc_is_number.nd rfl (Or.inl rfl)) (fun _ _ _ _ _ => pts_nil) (fun _ _ _ _ _ => (pe_cmpR op_in_sign (pv 1) (pe_glob (v := V.str "123456789") rfl T.c_DIGITS ⟨_, rfl⟩) rfl))) pa_nil))))
        (pss_one (ps_ret pe_bl))
        pss_nil)
      (pss_one (ps_ret (pe_cmpR op_le (pe_callB (cr_sum rfl) (by rfl) T.z_sum (by decide +kernel) (pa_cons (pe_lc (own := [("letter", 1)]) (g := gName 1) (tt := tYes) rfl sc_is_number.nd (pi_str (pv 0)) (blkOk_by (own := [("letter", 1)]) (N := nm_is_number) (sc := (defScope s_is_number)) (by decide +kernel)) (fun _ _ _ _ _ => pg_name (i := 1) sc_is_number.nd rfl (Or.inl rfl)) (fun _ _ _ _ _ => pts_nil) (fun _ _ _ _ _ => (pe_callTy call_int_str (by rfl) T.z_int (by decide +kernel) (pa_cons (pv 1) pa_nil)))) pa_nil)) (pe_glob (v := V.int 24) rfl T.c_GREATEST_SUM ⟨_, rfl⟩) (nomark _)))))), ?_⟩
    refine ⟨_, rfl, _, _, _, _, true, rfl, .ty "str", .base (.str _), kit_ty (by decide +kernel), true, rfl, ?_⟩
    refine iteF ?_
    refine ⟨_, rfl, _, rfl, small_len hz, _, _, rfl, rfl, _, rfl, ?_⟩
    refine ite2 (fun c1 => ?_) (fun c1 => ?_)
    case refine_2 =>
      have c1' : ¬ (1 : Int) ≤ (t.length : Nat) := fun z => c1 (decide_eq_true z)
      refine ⟨false, rfl, iteT ?_⟩
      exact k _ _ (Same.refl _) ⟨fun z => (by cases z), fun z => absurd (numlen z).1 (by omega)⟩
    have c1' : (1 : Int) ≤ (t.length : Nat) := of_decide_eq_true c1
    refine ⟨_, _, rfl, rfl, _, rfl, ?_⟩
    by_cases c2 : ((t.length : Nat) : Int) ≤ 4
    case neg =>
      rw [decide_eq_false c2]
      refine iteT ?_
      exact k _ _ (Same.refl _) ⟨fun z => (by cases z), fun z => absurd (numlen z).2 (by omega)⟩
    rw [decide_eq_true c2]
    refine iteF ?_
    refine ⟨_, rfl, _, rfl, fun D hD => ?_⟩
    have hsz : t.cps.size = (tl t).length := hl
    refine lc_it walk_str (fun i H' => Same H H' ∧ H' D = some (.lst (((letters t).take i).map V.bl))) ⟨same_new hD, upd_same⟩ (fun _ _ _ _ => trivial) (fun i x H1 H' hi hP hY => ?_) (fun H1 hP => ?_)
    · obtain ⟨sm, hL⟩ := hP
      obtain ⟨rfl, c, hc, rfl⟩ := hY
      have hc2 : (letters t)[i]? = some (decide (c ∈ ("123456789" : Str).cps.toList)) := by
        unfold letters
        rw [List.getElem?_map, cps_at hc]
        rfl
      refine ⟨rfl, yesT ?_⟩
      refine ⟨_, rfl, _, _, rfl, rfl, _, hL, by rw [List.length_map, List.length_take]; exact small1000 (by omega), ?_⟩
      refine ⟨same_mut sm hD, ?_⟩
      rw [upd_same, take_succ_map _ hc2]
    · obtain ⟨sm, hL⟩ := hP
      have ell : (letters t).length = t.cps.size := by unfold letters; rw [List.length_map, hsz]
      rw [← ell, List.take_length] at hL
      refine ⟨D, letters t, rfl, SqL.of hL, _, rfl, ?_⟩
      by_cases c3 : (letters t).all id = true
      case neg =>
        rw [Bool.not_eq_true] at c3
        rw [c3]
        refine iteT ?_
        refine k _ _ sm ⟨fun z => (by cases z), fun ⟨ds, N, e⟩ => ?_⟩
        have q := letters_all.mpr (by rw [e]; exact num_codes N.dig : ∀ c ∈ tl t, c ∈ ("123456789" : Str).cps.toList)
        rw [c3] at q
        cases q
      rw [c3]
      refine iteF ?_
      obtain ⟨ds, dig, et⟩ := dig_text t (letters_all.mp c3)
      subst et
      rw [numS_len] at c1' c2
      refine ⟨_, rfl, _, rfl, fun D2 hD2 => ?_⟩
      refine lc_it walk_str (fun i H' => Same H H' ∧ H' D2 = some (.lst ((ds.take i).map fun (d : Nat) => V.int (d : Int)))) ⟨sm.trans (same_new hD2), upd_same⟩ (fun _ _ _ _ => trivial) (fun i x H2 H' hi hP hY => ?_) (fun H2 hP => ?_)
      · obtain ⟨sm2, hl2⟩ := hP
        obtain ⟨rfl, c, hc, rfl⟩ := hY
        rw [numS_size] at hi
        rw [numS_at ds i hi] at hc
        have hc' := (Option.some.inj hc).symm
        subst hc'
        refine ⟨rfl, yesT ?_⟩
        refine ⟨_, rfl, _, _, rfl, dig_int (dig _ (List.getElem_mem hi)), (by show 1 ≤ 640; decide), _, hl2, by rw [List.length_map, List.length_take]; exact small1000 (by omega), ?_⟩
        refine ⟨same_mut sm2 (sm.free hD2), ?_⟩
        rw [upd_same, take_succ_map _ (List.getElem?_eq_getElem hi)]
      · obtain ⟨sm2, hl2⟩ := hP
        rw [numS_size, List.take_length] at hl2
        refine ⟨D2, ds.map fun (d : Nat) => (d : Int), rfl, SqL.of (by rw [hl2, List.map_map]; rfl), _, _, rfl, rfl, ?_⟩
        rw [sum_cast]
        refine k _ _ sm2 ?_
        rw [isnum_dig]
        constructor
        · intro z
          have z' : ((ds.sum : Nat) : Int) ≤ 24 := of_decide_eq_true z
          exact ⟨by omega, by omega, dig, by omega⟩
        · intro N
          exact decide_eq_true (show ((ds.sum : Nat) : Int) ≤ 24 by have := N.sum; omega)
end
end K09

namespace K09
open PySem L2 Wm TL Dv
section
variable {P : Program} {w : World} {K : PySem.W.Frag} {mg : Str → Option Value} {base : Heap}
theorem all_true {H : Hp} {D : Addr} {ys : List V} (hy : H D = some (.lst ys)) (hR : ∀ (i : Nat) y, ys[i]? = some y → y = V.bl true) : SqL K H D ((ys.map fun _ => true).map V.bl) := by
  refine SqL.of ?_
  rw [hy, List.map_map, show ys = ys.map (V.bl ∘ fun _ => true) from Lm.list_is (by rw [List.length_map]) fun i y e => by rw [List.getElem?_map, e, hR i y e]; rfl]
  simp
theorem all_id (ys : List V) : (ys.map fun _ => true).all id = true := by simp
theorem cnt_nodup {xs : List Str} {c : Nat} (h : Sl.Cnt xs xs.length c) (nd : xs.Nodup) : c = xs.length := h.2.mpr (by rw [List.take_length]; exact nd)
theorem boxes_at {H : Hp} {xs : List V} {bs : List Box} {i : Nat} {x : V} (h : Dts K H xs (bs.map boxD)) (hx : xs[i]? = some x) : ∃ b, bs[i]? = some b ∧ Dt K H x (boxD b) := by
  obtain ⟨d, hd, a⟩ := h.at hx
  rw [List.getElem?_map] at hd
  obtain ⟨b, hb, rfl⟩ := Option.map_eq_some_iff.mp hd
  exact ⟨b, hb, a⟩
theorem boxes_len {H : Hp} {xs : List V} {bs : List Box} (h : Dts K H xs (bs.map boxD)) : xs.length = bs.length := by rw [h.len, List.length_map]
theorem ok_has_double (T : Txt K mg) : FnOk P w K mg base CX0 1 T.a_has_double T.d_has_double ["boxes"] (sp_has_double K) := by
  refine T.F_has_double.ok sc_has_double (fun vs H Q E h => ?_) (fun cdv A outer s H vs Q E hr h => ?_)
  · obtain ⟨p, xs, bs, rfl, _⟩ := h
    rfl
  · obtain ⟨p, xs, bs, rfl, hS, hd, hl, nd, k⟩ := h
    have el := boxes_len hd
    refine ⟨_, (pss_one (ps_ret (pe_cmpR op_lt (Sl.pe_len rfl (by rfl) T.z_len (by rfl) T.z_set (pe_lc (own := [("number", 1), ("_", 2)]) (g := gTup K 2 (gCons (gName 1) (gCons (gName 2) (gNil)))) (tt := tYes) rfl sc_has_double.nd (pi_list (pv 0)) (blkOk_by (own := [("number", 1), ("_", 2)]) (N := nm_has_double) (sc := (defScope s_has_double)) (by decide +kernel)) (fun _ _ _ _ _ => (pg_tup rfl (pgs_cons (pg_name (i := 1) sc_has_double.nd rfl (Or.inl rfl)) (pgs_cons (pg_name (i := 2) sc_has_double.nd rfl (Or.inl rfl)) pgs_nil)))) (fun _ _ _ _ _ => pts_nil) (fun _ _ _ _ _ => (pv 1)))) (pe_callB call_len_seq (by rfl) T.z_len PySem.boot_len (pa_cons (pv 0) pa_nil)) (nomark _)))), ?_⟩
    refine ⟨_, rfl, p, rfl, ⟨_, hS⟩, fun D hD => ?_⟩
    refine Lm.lc_map (K := K) walk_list (fun i y _ => (bs.map fun b => V.str (numS b.1))[i]? = some y) (fun _ _ _ _ h _ => h) hD (by omega) (fun H' s => Hf.keepL s hS) (fun i x H' hi hx sm Q2 Z q => ?_) (fun H2 ys s2 hy ly hR => ?_)
    · obtain ⟨b, hb, a⟩ := boxes_at hd hx
      obtain ⟨q1, rfl, hq⟩ := box_inv (a.k (Kt.same sm))
      refine ⟨q1, _, rfl, hq, rfl, _, _, rfl, _, _, rfl, rfl, rfl, yesT ?_⟩
      refine ⟨_, rfl, q _ _ (Same.refl _) ?_⟩
      rw [List.getElem?_map, hb]
      rfl
    · have ey : ys = (bs.map fun b => numS b.1).map V.str := by
        rw [List.map_map]
        exact Lm.list_is (by rw [ly, List.length_map, el]) hR
      rw [ey] at hy
      refine ⟨D, _, rfl, SqL.of hy, by rw [List.length_map]; omega, fun c hc => ?_⟩
      have ec := cnt_nodup hc nd
      rw [List.length_map] at ec
      refine ⟨_, rfl, p, _, rfl, .inl (Hf.keepL s2 hS), _, _, rfl, rfl, ?_⟩
      have e : decide (((c : Nat) : Int) < ((xs.length : Nat) : Int)) = false := decide_eq_false (by omega)
      show Q (V.bl (decide (((c : Nat) : Int) < ((xs.length : Nat) : Int)))) _
      rw [e]
      exact k _ s2
theorem ok_are_loops (T : Txt K mg) : FnOk P w K mg base CX0 2 T.a_are_loops T.d_are_loops ["thing"] (sp_are_loops K) := by
  refine T.F_are_loops.ok sc_are_loops (fun vs H Q E h => ?_) (fun cdv A outer s H vs Q E hr h => ?_)
  · obtain ⟨x, ls, rfl, _⟩ := h
    rfl
  · obtain ⟨x, ls, rfl, hx, G, k⟩ := h
    have g1 := G.l1
    have g2 := G.l2
    obtain ⟨p, xs, t, rfl, hS, el, ha⟩ := hx
    refine ⟨_, (pss_cons (ps_if (PW.pt (pw_or (pt_not (pt_val (pe_call (ok_is_sequence T) (hr.mono (by decide)) (by rfl) T.g_is_sequence T.F_is_sequence.kp T.b_is_sequence .nil pass0 (pa_cons (pv 0) pa_nil)))) (pw_or1 (pt_not (pt_chain op_le op_le pe_int (pe_callB call_len_seq (by rfl) T.z_len PySem.boot_len (pa_cons (pv 0) pa_nil)) (pe_glob (v := V.int 3) rfl T.c_MOST_LOOPS ⟨_, rfl⟩))))))
        (pss_one (ps_ret pe_bl))
        pss_nil)
      (pss_one (ps_ret (pe_callB (cr_all rfl) (by rfl) T.z_all (by decide +kernel) (pa_cons (pe_lc (own := [("loop", 1)]) (g := gName 1) (tt := tYes) rfl sc_are_loops.nd (Kd.pi_seq (pv 0)) (blkOk_by (own := [("loop", 1)]) (N := nm_are_loops) (sc := (defScope s_are_loops)) (by decide +kernel)) (fun _ _ _ _ _ => pg_name (i := 1) sc_are_loops.nd rfl (Or.inl rfl)) (fun _ _ _ _ _ => pts_nil) (fun _ _ _ _ _ => (pe_and (pe_call (ok_is_sequence T) (hr.mono (by decide)) (by rfl) T.g_is_sequence T.F_is_sequence.kp T.b_is_sequence .nil pass0 (pa_cons (pv 1) pa_nil)) (pe_one (pe_chain op_le op_le pe_int (pe_callB (show CallR _ _ (Kx.rLen K) from call_len_seq) (by rfl) T.z_len PySem.boot_len (pa_cons (pv 1) pa_nil)) (pe_glob (v := V.int 10) rfl T.c_MOST_BOXES ⟨_, rfl⟩)))))) pa_nil))))), ?_⟩
    refine ⟨_, rfl, p, xs, t, rfl, hS, fun H1 s1 => ⟨true, rfl, iteF ?_⟩⟩
    refine ⟨_, rfl, p, _, rfl, (hS.keep s1).sq, _, _, rfl, rfl, _, rfl, ?_⟩
    rw [decide_eq_true (show (1 : Int) ≤ ((xs.length : Nat) : Int) by omega)]
    refine iteT ⟨_, _, rfl, rfl, _, rfl, ?_⟩
    rw [decide_eq_true (show ((xs.length : Nat) : Int) ≤ 3 by omega)]
    refine iteF ?_
    refine ⟨_, rfl, p, xs, t, rfl, hS.keep s1, fun J GG w hG D hD => ?_⟩
    refine Lm.lc_map (K := K) w (fun i y _ => y = .bl true) (fun _ _ _ _ h _ => h) hD (by omega) (fun H' s => hG _ (hS.keep (s1.trans s))) (fun i x H' hi hx sm Q2 Z q => ?_) (fun H2 ys s2 hy ly hR => ?_)
    · obtain ⟨l, hl, a⟩ := ha i x hx
      obtain ⟨q1, zs, t1, rfl, hq, hz⟩ := a.k (s1.trans sm)
      have lz : zs.length = l.length := by rw [hz.len, List.length_map]
      have b1 := G.b1 l (List.mem_of_getElem? hl)
      have b2 := G.b2 l (List.mem_of_getElem? hl)
      refine ⟨rfl, yesT ?_⟩
      refine ⟨_, rfl, q1, zs, t1, rfl, hq, fun H5 s5 => ⟨true, rfl, iteT ?_⟩⟩
      refine ⟨_, rfl, q1, _, rfl, (hq.keep s5).sq, _, _, rfl, rfl, _, rfl, ?_⟩
      rw [decide_eq_true (show (1 : Int) ≤ ((zs.length : Nat) : Int) by omega)]
      refine iteT ⟨_, _, rfl, rfl, q _ _ s5 ?_⟩
      show V.bl (decide (((zs.length : Nat) : Int) ≤ 10)) = V.bl true
      rw [decide_eq_true (by omega)]
    · refine ⟨D, ys.map fun _ => true, rfl, all_true hy hR, ?_⟩
      rw [all_id]
      exact k _ (s1.trans s2)
end
end K09

namespace K09
open PySem L2 Wm TL Dv
section
variable {P : Program} {w : World} {K : PySem.W.Frag} {mg : Str → Option Value} {base : Heap}
theorem within_true {lo hi i : Int} (a : lo ≤ i) (b : i ≤ hi) : within lo hi (some i) = true := by
  show (decide (lo ≤ i) && decide (i ≤ hi)) = true
  rw [decide_eq_true a, decide_eq_true b]
  rfl
theorem dts_of {H : Hp} {ys : List V} {ds : List PyData} (l : ys.length = ds.length) (h : ∀ (i : Nat) y, ys[i]? = some y → ∃ d, ds[i]? = some d ∧ Dt K H y d) : Dts K H ys ds := by
  induction ds generalizing ys with
  | nil =>
    rw [List.eq_nil_of_length_eq_zero l]
    exact .nil
  | cons d ds ih =>
    cases ys with
    | nil => cases l
    | cons y ys =>
      refine .cons ?_ (ih (by simpa using l) fun i z hz => ?_)
      · obtain ⟨e, he, a⟩ := h 0 y rfl
        cases he
        exact a
      · obtain ⟨e, he, a⟩ := h (i + 1) z (by simpa using hz)
        exact ⟨e, by simpa using he, a⟩
theorem flat_le {α : Type} : ∀ (ls : List (List α)) (i : Nat), (∀ l ∈ ls, l.length ≤ 10) → (ls.take i).flatten.length ≤ 10 * i
  | [], i, _ => by simp
  | l :: ls, 0, _ => by simp
  | l :: ls, i + 1, h => by
    have ih := flat_le ls i fun m q => h m (List.mem_cons_of_mem _ q)
    have hl := h l (by simp)
    rw [List.take_succ_cons, List.flatten_cons, List.length_append]
    omega
theorem flat_succ {α : Type} {ls : List (List α)} {l : List α} {i : Nat} (h : ls[i]? = some l) : (ls.take (i + 1)).flatten = (ls.take i).flatten ++ l := by
  rw [List.take_add_one, h, List.flatten_append]
  simp
theorem Good.flat {ls : List (List Box)} (G : Good ls) : ls.flatten.length ≤ 30 := by
  have h := flat_le ls ls.length G.b2
  rw [List.take_length] at h
  have := G.l2
  omega
theorem ok_check_boxes (T : Txt K mg) : FnOk P w K mg base CX0 2 T.a_check_boxes T.d_check_boxes ["boxes"] (sp_check_boxes K) := by
  refine T.F_check_boxes.ok sc_check_boxes (fun vs H Q E h => ?_) (fun cdv A outer s H vs Q E hr h => ?_)
  · obtain ⟨p, xs, bs, rfl, _⟩ := h
    rfl
  · obtain ⟨p, xs, bs, rfl, hS, hd, hl, hN, nd, k⟩ := h
    have el := boxes_len hd
    refine ⟨_, (pss_cons (ps_if (pt_not (pt_val (pe_callB (cr_all rfl) (by rfl) T.z_all (by decide +kernel) (pa_cons (pe_lc (own := [("box", 1)]) (g := gName 1) (tt := tYes) rfl sc_check_boxes.nd (pi_list (pv 0)) (blkOk_by (own := [("box", 1)]) (N := nm_check_boxes) (sc := (defScope s_check_boxes)) (by decide +kernel)) (fun _ _ _ _ _ => pg_name (i := 1) sc_check_boxes.nd rfl (Or.inl rfl)) (fun _ _ _ _ _ => pts_nil) (fun _ _ _ _ _ => (pe_and (pe_call (ok_is_sequence T) (hr.mono (by decide)) (by rfl) T.g_is_sequence T.F_is_sequence.kp T.b_is_sequence .nil pass0 (pa_cons (pv 1) pa_nil)) (pe_one (pe_cmpR op_eq (pe_callB (show CallR _ _ (Kx.rLen K) from call_len_seq) (by rfl) T.z_len PySem.boot_len (pa_cons (pv 1) pa_nil)) pe_int (nomark _)))))) pa_nil))))
        (pss_one ps_never)
        pss_nil)
      (pss_cons (ps_if (pt_not (pt_val (pe_callB (cr_all rfl) (by rfl) T.z_all (by decide +kernel) (pa_cons (pe_lc (own := [("number", 2), ("_", 3)]) (g := gTup K 2 (gCons (gName 2) (gCons (gName 3) (gNil)))) (tt := tYes) rfl sc_check_boxes.nd (pi_list (pv 0)) (blkOk_by (own := [("number", 2), ("_", 3)]) (N := nm_check_boxes) (sc := (defScope s_check_boxes)) (by decide +kernel)) (fun _ _ _ _ _ => (pg_tup rfl (pgs_cons (pg_name (i := 2) sc_check_boxes.nd rfl (Or.inl rfl)) (pgs_cons (pg_name (i := 3) sc_check_boxes.nd rfl (Or.inl rfl)) pgs_nil)))) (fun _ _ _ _ _ => pts_nil) (fun _ _ _ _ _ => (pe_call (ok_is_number T) (hr.mono (by decide)) (by rfl) T.g_is_number T.F_is_number.kp T.b_is_number .nil pass0 (pa_cons (pv 2) pa_nil)))) pa_nil))))
        (pss_one ps_never)
        pss_nil)
      (pss_cons (ps_if (pt_not (pt_val (pe_callB (cr_all rfl) (by rfl) T.z_all (by decide +kernel) (pa_cons (pe_lc (own := [("_", 3), ("sort", 4)]) (g := gTup K 2 (gCons (gName 3) (gCons (gName 4) (gNil)))) (tt := tYes) rfl sc_check_boxes.nd (pi_list (pv 0)) (blkOk_by (own := [("_", 3), ("sort", 4)]) (N := nm_check_boxes) (sc := (defScope s_check_boxes)) (by decide +kernel)) (fun _ _ _ _ _ => (pg_tup rfl (pgs_cons (pg_name (i := 3) sc_check_boxes.nd rfl (Or.inl rfl)) (pgs_cons (pg_name (i := 4) sc_check_boxes.nd rfl (Or.inl rfl)) pgs_nil)))) (fun _ _ _ _ _ => pts_nil) (fun _ _ _ _ _ => (pe_call (ok_is_sort T) (hr.mono (by decide)) (by rfl) T.g_is_sort T.F_is_sort.kp T.b_is_sort .nil pass0 (pa_cons (pv 4) pa_nil)))) pa_nil))))
        (pss_one ps_never)
        pss_nil)
      (pss_one (ps_if (pt_val (pe_call (ok_has_double T) (hr.mono (by decide)) (by rfl) T.g_has_double T.F_has_double.kp T.b_has_double .nil pass0 (pa_cons (pv 0) pa_nil)))
        (pss_one ps_never)
        pss_nil))))), ?_⟩
    refine ⟨_, rfl, p, rfl, ⟨_, hS⟩, fun D hD => ?_⟩
    refine Lm.lc_map (K := K) walk_list (fun i y _ => y = .bl true) (fun _ _ _ _ h _ => h) hD (by omega) (fun H' s => Hf.keepL s hS) (fun i x H' hi hx sm Q2 Z q => ?_) (fun H2 ys s2 hy ly hR => ?_)
    · obtain ⟨b, hb, a⟩ := boxes_at hd hx
      obtain ⟨q1, rfl, hq⟩ := box_inv (a.k (Kt.same sm))
      refine ⟨rfl, yesT ?_⟩
      refine ⟨_, rfl, q1, _, true, rfl, hq, fun H5 s5 => ⟨true, rfl, iteT ?_⟩⟩
      exact ⟨_, rfl, q1, _, rfl, .inr (sameT s5 hq), rfl, q _ _ s5 (congrArg V.bl (decide_eq_true rfl))⟩
    refine ⟨D, _, rfl, all_true hy hR, _, rfl, ?_⟩
    rw [all_id]
    refine iteF ?_
    refine ⟨_, rfl, p, rfl, ⟨_, Hf.keepL s2 hS⟩, fun D3 hD3 => ?_⟩
    refine Lm.lc_map (K := K) walk_list (fun i y _ => y = .bl true) (fun _ _ _ _ h _ => h) hD3 (by omega) (fun H' s => Hf.keepL (s2.trans s) hS) (fun i x H' hi hx sm Q2 Z q => ?_) (fun H3 ys3 s3 hy3 ly3 hR3 => ?_)
    · obtain ⟨b, hb, a⟩ := boxes_at hd hx
      obtain ⟨q1, rfl, hq⟩ := box_inv (a.k (Kt.same (s2.trans sm)))
      have N := hN b (List.mem_of_getElem? hb)
      have := N.len
      refine ⟨q1, _, rfl, hq, rfl, _, _, rfl, _, _, rfl, rfl, rfl, yesT ?_⟩
      refine ⟨_, rfl, numS b.1, by rw [numS_len]; omega, rfl, fun H5 b5 s5 h5 => q _ _ s5 ?_⟩
      rw [h5.mpr ⟨b.1, N, rfl⟩]
    refine ⟨D3, _, rfl, all_true hy3 hR3, _, rfl, ?_⟩
    rw [all_id]
    refine iteF ?_
    have s23 := s2.trans s3
    refine ⟨_, rfl, p, rfl, ⟨_, Hf.keepL s23 hS⟩, fun D4 hD4 => ?_⟩
    refine Lm.lc_map (K := K) walk_list (fun i y _ => y = .bl true) (fun _ _ _ _ h _ => h) hD4 (by omega) (fun H' s => Hf.keepL (s23.trans s) hS) (fun i x H' hi hx sm Q2 Z q => ?_) (fun H4 ys4 s4 hy4 ly4 hR4 => ?_)
    · obtain ⟨b, hb, a⟩ := boxes_at hd hx
      obtain ⟨q1, rfl, hq⟩ := box_inv (a.k (Kt.same (s23.trans sm)))
      refine ⟨q1, _, rfl, hq, rfl, _, _, rfl, _, _, rfl, rfl, rfl, yesT ?_⟩
      exact ⟨_, rfl, b.2, rfl, fun H5 s5 => q _ _ s5 rfl⟩
    refine ⟨D4, _, rfl, all_true hy4 hR4, _, rfl, ?_⟩
    rw [all_id]
    refine iteF ?_
    have s24 := s23.trans s4
    refine ⟨_, rfl, p, xs, bs, rfl, Hf.keepL s24 hS, hd.k (Kt.same s24), hl, nd, fun H5 s5 => ⟨false, rfl, iteF ?_⟩⟩
    exact k _ (s24.trans s5)
theorem ok_check_town (T : Txt K mg) : FnOk P w K mg base CX0 3 T.a_check_town T.d_check_town ["loops", "rounds", "hear"] (sp_check_town K) := by
  refine T.F_check_town.ok sc_check_town (fun vs H Q E h => ?_) (fun cdv A outer s H vs Q E hr h => ?_)
  · obtain ⟨x, ls, r, h, rfl, _⟩ := h
    rfl
  · obtain ⟨x, ls, r, h, rfl, hx, G, r1, r8, h1, h2, hr', k⟩ := h
    have g2 := G.l2
    refine ⟨_, (pss_cons (ps_if (pt_not (pt_val (pe_call (ok_are_loops T) (hr.mono (by decide)) (by rfl) T.g_are_loops T.F_are_loops.kp T.b_are_loops .nil pass0 (pa_cons (pv 0) pa_nil))))
        (pss_one ps_never)
        pss_nil)
      (pss_cons (ps_expr (pe_call (ok_check_boxes T) (hr.mono (by decide)) (by rfl) T.g_check_boxes T.F_check_boxes.kp T.b_check_boxes .nil pass0 (pa_cons (pe_lc2 (own := [("loop", 3), ("box", 4)]) (g := gName 3) (tt := tYes) (g1 := gName 4) (tt1 := tYes) (vs1 := [4]) rfl sc_check_town.nd (Kd.pi_seq (pv 0)) (blkOk_by (own := [("loop", 3), ("box", 4)]) (N := nm_check_town) (sc := (defScope s_check_town)) (by decide +kernel)) (by decide) (fun _ _ _ _ _ => pg_name (i := 3) sc_check_town.nd rfl (Or.inl rfl)) (fun _ _ _ _ _ => pts_nil) (fun _ _ _ _ _ => (show PI _ _ _ (Kd.iSeq K (tVar 3)) from (Kd.pi_seq (pv 3)))) (fun _ _ _ _ _ => pg_name (i := 4) sc_check_town.nd rfl (Or.inl rfl)) (fun _ _ _ _ _ => pts_nil) (fun _ _ _ _ _ => (pv 4))) pa_nil)))
      (pss_cons (ps_if (pt_not (pt_val (pe_call (ok_is_whole_within T) (hr.mono (by decide)) (by rfl) T.g_is_whole_within T.F_is_whole_within.kp T.b_is_whole_within .nil pass0 (pa_cons (pv 1) (pa_cons pe_int (pa_cons (pe_glob (v := V.int 8) rfl T.c_MOST_ROUNDS ⟨_, rfl⟩) pa_nil))))))
        (pss_one ps_never)
        pss_nil)
      (pss_one (ps_if (PW.pt (pw_or (pt_not (pt_val (pe_call (ok_is_whole_within T) (hr.mono (by decide)) (by rfl) T.g_is_whole_within T.F_is_whole_within.kp T.b_is_whole_within .nil pass0 (pa_cons (pv 2) (pa_cons pe_int (pa_cons pe_int pa_nil)))))) (pw_or1 (pt_cmpR op_gt (pv 2) (pv 1) (nomark _)))))
        (pss_one ps_never)
        pss_nil))))), ?_⟩
    refine ⟨_, rfl, x, ls, rfl, hx, G, fun H1 s1 => ⟨true, rfl, iteF ?_⟩⟩
    obtain ⟨p, xs, t, rfl, hS, el, ha⟩ := hx.k s1
    refine ⟨_, rfl, p, xs, t, rfl, hS, fun J GG w hG D hD => ?_⟩
    refine Et.out_it w (fun i H' => Same H1 H' ∧ ∃ ys, H' D = some (.lst ys) ∧ Dts K H' ys ((ls.take i).flatten.map boxD)) ⟨same_new hD, [], upd_same, by simp; exact .nil⟩ (fun i H' _ h => hG _ (hS.keep h.1)) (fun i x H2 H' hi hP hY => ?_) (fun H2 hP => ?_)
    · obtain ⟨sm, ys, hy, hys⟩ := hP
      obtain ⟨rfl, hx2⟩ := hY
      obtain ⟨l, hl, a⟩ := ha i x hx2
      obtain ⟨q1, zs, t1, rfl, hq1, hz1⟩ := a
      have hq := hq1.keep sm
      have hz := hz1.k (Kt.same (K := K) sm)
      have lz := boxes_len hz
      have b2 := G.b2 l (List.mem_of_getElem? hl)
      have fl := flat_le ls i G.b2
      refine ⟨rfl, yesT ?_⟩
      refine ⟨_, rfl, q1, zs, t1, rfl, hq, fun J1 GG1 w1 hG1 => ?_⟩
      refine Et.in_it w1 (fun j H3 => Same H1 H3 ∧ ∃ ys, H3 D = some (.lst ys) ∧ Dts K H3 ys (((ls.take i).flatten ++ l.take j).map boxD) ∧ Kt K H' H3) ⟨sm, ys, hy, by simpa using hys, Kt.refl⟩ (fun j H3 _ h => hG1 _ (hq1.keep h.1)) (fun j x H3 H4 hj hP hY => ?_) (fun H3 hP => ?_)
      · obtain ⟨sm3, ys3, hy3, hys3, kt⟩ := hP
        obtain ⟨rfl, hx3⟩ := hY
        obtain ⟨b, hb, a3⟩ := boxes_at hz hx3
        have l3 := boxes_len hys3
        rw [List.length_append, List.length_take] at l3
        have k5 : Kt K H4 (upd H4 D (.lst (ys3 ++ [x]))) := Kt.lst hy3
        refine ⟨rfl, yesT ?_⟩
        refine ⟨_, rfl, ys3, hy3, small1000 (by omega), same_mut sm3 hD, ys3 ++ [x], upd_same, ?_, kt.trans k5⟩
        rw [List.take_add_one, hb, ← List.append_assoc, List.map_append]
        exact (hys3.k k5).snoc ((a3.k kt).k k5)
      · obtain ⟨sm3, ys3, hy3, hys3, kt⟩ := hP
        refine ⟨sm3, ys3, hy3, ?_⟩
        rw [lz, List.take_length] at hys3
        rw [flat_succ hl]
        exact hys3
    obtain ⟨sm, ys, hy, hys⟩ := hP
    rw [el, List.take_length] at hys
    refine ⟨D, ys, ls.flatten, rfl, SqL.of hy, hys, G.flat, G.num, G.nd, fun H5 s5 => ?_⟩
    refine ⟨_, rfl, .int r, some r, 1, 8, rfl, .int r, true, by rw [within_true r1 r8], iteF ?_⟩
    refine ⟨_, rfl, .int h, some h, 1, 2, rfl, .int h, true, by rw [within_true h1 h2], iteF ?_⟩
    refine ⟨_, rfl, _, rfl, _, _, rfl, rfl, _, rfl, ?_⟩
    rw [decide_eq_false (show ¬ h > r by omega)]
    refine iteF ?_
    exact k _ ((s1.trans sm).trans s5)
end
end K09

namespace K09
open PySem L2 Wm TL Dv
section
variable {P : Program} {w : World} {K : PySem.W.Frag} {mg : Str → Option Value} {base : Heap}
theorem dts_nums {H : Hp} : ∀ l : List Box, Dts K H (l.map numV) (l.map numD)
  | [] => .nil
  | b :: l => .cons (.str _) (dts_nums l)
theorem putF_len (f : Str) (v : V) : ∀ fs : List (Str × V), (putF f v fs).length ≤ fs.length + 1
  | [] => by simp [putF]
  | (g, x) :: r => by
    have ih := putF_len f v r
    unfold putF
    split
    · simp
    · simp only [List.length_cons]
      omega
/-- what stands at another place than p -/
def Off (p : Addr) (H H' : Hp) : Prop := ∀ q o, q ≠ p → H q = some o → H' q = some o
theorem Off.trans {p : Addr} {H H1 H2 : Hp} (a : Off p H H1) (b : Off p H1 H2) : Off p H H2 := fun q o n h => b q o n (a q o n h)
theorem Off.of {p : Addr} {H H' : Hp} (s : Same H H') : Off p H H' := fun q o _ h => s q o h
theorem Off.set {p : Addr} {H : Hp} {o : HO} : Off p H (upd H p o) := fun q u n h => by
  rw [upd_ne n]
  exact h
theorem kt_ins {H : Hp} {p C dx : Addr} {fs : List (Str × V)} {o : HO} (h : H p = some (.ins C dx fs)) : Kt K H (upd H p o) := Kt.set h (fun _ q => by cases q) (fun _ _ q => by cases q)
theorem ok_init (T : Txt K mg) : FnOk P w K mg base CX0 4 T.a_init T.d_init ["self", "loops", "rounds", "hear"] (sp_init K T.C) := by
  refine T.F_init.ok sc_init (fun vs H Q E h => ?_) (fun cdv A outer s H vs Q E hr h => ?_)
  · obtain ⟨p, dx, x, ls, r, h, rfl, _⟩ := h
    rfl
  · obtain ⟨p, dx, x, ls, r, h, rfl, hp, hx, G, r1, r8, h1, h2, hr', k⟩ := h
    have g2 := G.l2
    refine ⟨_, (pss_cons (ps_expr (pe_call (ok_check_town T) (hr.mono (by decide)) (by rfl) T.g_check_town T.F_check_town.kp T.b_check_town .nil pass0 (pa_cons (pv 1) (pa_cons (pv 2) (pa_cons (pv 3) pa_nil)))))
      (pss_cons (ps_fld (pv 0) (pe_callTy call_tuple_of (by rfl) T.z_tuple (by decide +kernel) (pa_cons (pe_lc (own := [("loop", 4)]) (g := gName 4) (tt := tYes) rfl sc_init.nd (Kd.pi_seq (pv 1)) (blkOk_by (own := [("loop", 4)]) (N := nm_init) (sc := (defScope s_init)) (by decide +kernel)) (fun _ _ _ _ _ => pg_name (i := 4) sc_init.nd rfl (Or.inl rfl)) (fun _ _ _ _ _ => pts_nil) (fun _ _ _ _ _ => (pe_callTy (show CallR _ _ (Kx.rTupOf K) from call_tuple_of) (by rfl) T.z_tuple (by decide +kernel) (pa_cons (pe_lc (own := [("box", 5)]) (g := gName 5) (tt := tYes) rfl sc_init.nd (show PI _ _ _ (Kd.iSeq K (tVar 4)) from (Kd.pi_seq (pv 4))) (blkOk_by (own := [("box", 5)]) (N := nm_init) (sc := ({ kind := .function, names := [(".0", .local), ("loop", .local), ("tuple", .globalImplicit)], isGenerator := false, isCoroutine := false } : Scope)) (by decide +kernel)) (fun _ _ _ _ _ => pg_name (i := 5) sc_init.nd rfl (Or.inl rfl)) (fun _ _ _ _ _ => pts_nil) (fun _ _ _ _ _ => (pe_callTy (show CallR _ _ (Kx.rTup K) from call_tupleT) (by rfl) T.z_tuple (by decide +kernel) (pa_cons (pv 5) pa_nil)))) pa_nil)))) pa_nil)) rfl)
      (pss_cons (ps_fld (pv 0) (pv 2) rfl)
      (pss_cons (ps_fld (pv 0) (pv 3) rfl)
      (pss_one (ps_fld (pv 0) (pe_callTy call_tuple_of (by rfl) T.z_tuple (by decide +kernel) (pa_cons (pe_lc2 (own := [("loop", 4), ("number", 6), ("_", 7)]) (g := gName 4) (tt := tYes) (g1 := gTup K 2 (gCons (gName 6) (gCons (gName 7) (gNil)))) (tt1 := tYes) (vs1 := [6, 7]) rfl sc_init.nd (pi_tup (pe_fld (pv 0) rfl)) (blkOk_by (own := [("loop", 4), ("number", 6), ("_", 7)]) (N := nm_init) (sc := (defScope s_init)) (by decide +kernel)) (by decide) (fun _ _ _ _ _ => pg_name (i := 4) sc_init.nd rfl (Or.inl rfl)) (fun _ _ _ _ _ => pts_nil) (fun _ _ _ _ _ => (show PI _ _ _ (Kd.iSeq K (tVar 4)) from (Kd.pi_seq (pv 4)))) (fun _ _ _ _ _ => (pg_tup rfl (pgs_cons (pg_name (i := 6) sc_init.nd rfl (Or.inl rfl)) (pgs_cons (pg_name (i := 7) sc_init.nd rfl (Or.inl rfl)) pgs_nil)))) (fun _ _ _ _ _ => pts_nil) (fun _ _ _ _ _ => (pv 6))) pa_nil)) rfl)))))), ?_⟩
    refine ⟨_, rfl, _, rfl, _, rfl, x, ls, r, h, rfl, hx, G, r1, r8, h1, h2, hr', fun H1 s1 => ?_⟩
    obtain ⟨a, xs, t, rfl, hS, el, ha⟩ := hx.k s1
    refine ⟨_, rfl, a, xs, t, rfl, hS, fun J GG w hG D hD => ?_⟩
    refine Lm.lc_map (K := K) w (fun i y H' => ∃ d, (ls.map loopD)[i]? = some d ∧ Dt K H' y d) (fun _ _ _ _ ⟨d, e, t⟩ kt => ⟨d, e, t.k kt⟩) hD (by omega) (fun H' s => hG _ (hS.keep s)) (fun i x H' hi hx2 sm Q2 Z q => ?_) (fun H2 ys s2 hy ly hR => ?_)
    · obtain ⟨l, hl, t⟩ := ha i x hx2
      have hd2 : (ls.map loopD)[i]? = some (loopD l) := by rw [List.getElem?_map, hl]; rfl
      obtain ⟨q1, zs, t1, rfl, hq, hz⟩ := t.k sm
      have lz := boxes_len hz
      have b2 := G.b2 l (List.mem_of_getElem? hl)
      refine ⟨rfl, yesT ?_⟩
      refine ⟨_, rfl, q1, zs, t1, rfl, hq, fun J1 GG1 w1 hG1 D2 hD2 => ?_⟩
      refine Lm.lc_map (K := K) w1 (fun i y H' => ∃ d, (l.map boxD)[i]? = some d ∧ Dt K H' y d) (fun _ _ _ _ ⟨d, e, t⟩ kt => ⟨d, e, t.k kt⟩) hD2 (by omega) (fun H' s => hG1 _ (hq.keep s)) (fun j x H3 hj hx3 sm3 Q3 Z3 q3 => ?_) (fun H3 zs3 s3 hy3 ly3 hR3 => ?_)
      · obtain ⟨b, hb, t3⟩ := boxes_at hz hx3
        have t4 := t3.k (Kt.same sm3)
        obtain ⟨q2, rfl, hq2⟩ := box_inv t4
        refine ⟨rfl, yesT ?_⟩
        exact ⟨_, rfl, q2, _, rfl, hq2, q3 _ _ (Same.refl _) ⟨boxD b, by rw [List.getElem?_map, hb]; rfl, t4⟩⟩
      · refine ⟨D2, zs3, rfl, .inl ⟨SqL.of hy3, fun l2 hl2 => ?_⟩⟩
        have kt := Kt.new (K := K) (o := .tup zs3) hl2
        refine q _ _ (s3.trans (same_new hl2)) ⟨_, hd2, dt_tup upd_same ?_⟩
        exact (dts_of (by rw [ly3, lz, List.length_map]) hR3).k kt
    have hds := dts_of (by rw [ly, el, List.length_map]) hR
    refine ⟨D, ys, rfl, .inl ⟨SqL.of hy, fun lp hlp => ?_⟩⟩
    have s3 : Same H (upd H2 lp (.tup ys)) := (s1.trans s2).trans (same_new hlp)
    have hloops : Dt K (upd H2 lp (.tup ys)) (.ref lp) (townD ls) := dt_tup upd_same (hds.k (Kt.new hlp))
    generalize upd H2 lp (.tup ys) = H3 at *
    have hp3 := s3 _ _ hp
    refine ⟨_, rfl, p, T.C, dx, _, rfl, hp3, T.clC, T.nL, by show 0 < 1000; decide, ?_⟩
    have hp4 : upd H3 p (.ins T.C dx (putF "loops" (.ref lp) [])) p = some (.ins T.C dx (putF "loops" (.ref lp) [])) := upd_same
    have lf1 := putF_len "loops" (.ref lp) []
    refine ⟨_, rfl, _, rfl, p, T.C, dx, _, rfl, hp4, T.clC, T.nR, by simp only [List.length_nil] at lf1; omega, ?_⟩
    have lf2 := putF_len "rounds" (.int r) (putF "loops" (.ref lp) [])
    refine ⟨_, rfl, _, rfl, p, T.C, dx, _, rfl, upd_same, T.clC, T.nH, by simp only [List.length_nil] at lf1; omega, ?_⟩
    have lf3 := putF_len "hear" (.int h) (putF "rounds" (.int r) (putF "loops" (.ref lp) []))
    have k4 : Kt K H3 (upd H3 p (.ins T.C dx (putF "loops" (.ref lp) []))) := kt_ins hp3
    have k5 := k4.trans (kt_ins (o := .ins T.C dx (putF "rounds" (.int r) (putF "loops" (.ref lp) []))) hp4)
    have k6 := k5.trans (kt_ins (o := .ins T.C dx (putF "hear" (.int h) (putF "rounds" (.int r) (putF "loops" (.ref lp) [])))) upd_same)
    have o6 : Off p H (upd (upd (upd H3 p (.ins T.C dx (putF "loops" (.ref lp) []))) p (.ins T.C dx (putF "rounds" (.int r) (putF "loops" (.ref lp) [])))) p (.ins T.C dx (putF "hear" (.int h) (putF "rounds" (.int r) (putF "loops" (.ref lp) []))))) := (((Off.of s3).trans Off.set).trans Off.set).trans Off.set
    have hp6 : upd (upd (upd H3 p (.ins T.C dx (putF "loops" (.ref lp) []))) p (.ins T.C dx (putF "rounds" (.int r) (putF "loops" (.ref lp) [])))) p (.ins T.C dx (putF "hear" (.int h) (putF "rounds" (.int r) (putF "loops" (.ref lp) [])))) p = some (.ins T.C dx (putF "hear" (.int h) (putF "rounds" (.int r) (putF "loops" (.ref lp) [])))) := upd_same
    have hl6 := hloops.k k6
    have e1 : ¬ ("loops" : Str) = "rounds" := by decide +kernel
    have e2 : ¬ ("loops" : Str) = "hear" := by decide +kernel
    have e3 : ¬ ("loops" : Str) = "numbers" := by decide +kernel
    have e4 : ¬ ("rounds" : Str) = "hear" := by decide +kernel
    have e5 : ¬ ("rounds" : Str) = "numbers" := by decide +kernel
    have e6 : ¬ ("hear" : Str) = "numbers" := by decide +kernel
    have lk : (putF "hear" (.int h) (putF "rounds" (.int r) (putF "loops" (.ref lp) []))).lookup ("loops" : Str) = some (.ref lp) := by
      rw [lookup_putF, if_neg e2, lookup_putF, if_neg e1, lookup_putF, if_pos rfl]
    have lr : (putF "hear" (.int h) (putF "rounds" (.int r) (putF "loops" (.ref lp) []))).lookup ("rounds" : Str) = some (.int r) := by
      rw [lookup_putF, if_neg e4, lookup_putF, if_pos rfl]
    have lh : (putF "hear" (.int h) (putF "rounds" (.int r) (putF "loops" (.ref lp) []))).lookup ("hear" : Str) = some (.int h) := by
      rw [lookup_putF, if_pos rfl]
    have lw : ∀ m : Str, m ≠ "loops" → m ≠ "rounds" → m ≠ "hear" → (putF "hear" (.int h) (putF "rounds" (.int r) (putF "loops" (.ref lp) []))).lookup m = none := fun m w0 w1 w2 => by
      rw [lookup_putF, if_neg w2, lookup_putF, if_neg w1, lookup_putF, if_neg w0]
      rfl
    have lf : (putF "hear" (.int h) (putF "rounds" (.int r) (putF "loops" (.ref lp) []))).length ≤ 3 := by simp only [List.length_nil] at lf1; omega
    generalize (putF "hear" (.int h) (putF "rounds" (.int r) (putF "loops" (.ref lp) []))) = fs at *
    generalize upd (upd (upd H3 p (.ins T.C dx (putF "loops" (.ref lp) []))) p (.ins T.C dx (putF "rounds" (.int r) (putF "loops" (.ref lp) [])))) p (.ins T.C dx fs) = H6 at *
    obtain ⟨a6, xs6, e6, hS6, hd6⟩ := hl6.inv
    cases e6
    have el6 : xs6.length = ls.length := by rw [hd6.len, List.length_map]
    refine ⟨_, rfl, p, T.C, dx, _, _, rfl, hp6, T.clC, T.nL, lk, lp, rfl, ⟨_, hS6⟩, fun D7 hD7 => ?_⟩
    refine Et.out_it walk_tup (fun i H' => Same H6 H' ∧ ∃ ys, H' D7 = some (.lst ys) ∧ ys = (ls.take i).flatten.map numV) ⟨same_new hD7, [], upd_same, by simp⟩ (fun i H' _ h => sameT h.1 hS6) (fun i x H7 H' hi hP hY => ?_) (fun H7 hP => ?_)
    · obtain ⟨sm, ys, hy, hys⟩ := hP
      obtain ⟨rfl, hx2⟩ := hY
      obtain ⟨d, hd2, t⟩ := hd6.at hx2
      rw [List.getElem?_map] at hd2
      obtain ⟨l, hl, rfl⟩ := Option.map_eq_some_iff.mp hd2
      obtain ⟨q1, zs, rfl, hq, hz⟩ := (t.k (Kt.same sm)).inv
      have lz := boxes_len hz
      have b2 := G.b2 l (List.mem_of_getElem? hl)
      have fl := flat_le ls i G.b2
      refine ⟨rfl, yesT ?_⟩
      refine ⟨_, rfl, q1, zs, true, rfl, hq, fun J1 GG1 w1 hG1 => ?_⟩
      refine Et.in_it w1 (fun j H3 => Same H6 H3 ∧ ∃ ys, H3 D7 = some (.lst ys) ∧ ys = ((ls.take i).flatten ++ l.take j).map numV ∧ Kt K H' H3) ⟨sm, ys, hy, by simpa using hys, Kt.refl⟩ (fun j H3 _ h => let ⟨_, _, _, _, t⟩ := h; hG1 _ (t _ _ hq)) (fun j x H3 H4 hj hP hY => ?_) (fun H3 hP => ?_)
      · obtain ⟨sm3, ys3, hy3, hys3, kt⟩ := hP
        obtain ⟨rfl, hx3⟩ := hY
        obtain ⟨b, hb, a3⟩ := boxes_at hz hx3
        obtain ⟨q2, rfl, hq2⟩ := box_inv (a3.k kt)
        have l3 : ys3.length ≤ 100 := by rw [hys3, List.length_map, List.length_append, List.length_take]; omega
        have k5 : Kt K H4 (upd H4 D7 (.lst (ys3 ++ [.str (numS b.1)]))) := Kt.lst hy3
        refine ⟨q2, _, rfl, hq2, rfl, _, _, rfl, _, _, rfl, rfl, rfl, yesT ?_⟩
        refine ⟨_, rfl, ys3, hy3, small1000 (by omega), same_mut sm3 hD7, ys3 ++ [.str (numS b.1)], upd_same, ?_, kt.trans k5⟩
        rw [List.take_add_one, hb, ← List.append_assoc, List.map_append, hys3]
        rfl
      · obtain ⟨sm3, ys3, hy3, hys3, kt⟩ := hP
        refine ⟨sm3, ys3, hy3, ?_⟩
        rw [lz, List.take_length] at hys3
        rw [flat_succ hl]
        exact hys3
    obtain ⟨sm7, ys7, hy7, hys7⟩ := hP
    rw [el6, List.take_length] at hys7
    refine ⟨D7, ys7, rfl, .inl ⟨SqL.of hy7, fun l8 hl8 => ?_⟩⟩
    have s8 : Same H6 (upd H7 l8 (.tup ys7)) := sm7.trans (same_new hl8)
    have t8 : Dt K (upd H7 l8 (.tup ys7)) (.ref l8) (.tuple (ls.flatten.map numD)) := by
      refine dt_tup upd_same ?_
      rw [hys7]
      exact dts_nums _
    refine ⟨_, rfl, p, T.C, dx, _, rfl, s8 _ _ hp6, T.clC, T.nN, by omega, ?_⟩
    have k9 := kt_ins (K := K) (o := .ins T.C dx (putF "numbers" (.ref l8) fs)) (s8 _ _ hp6)
    refine k _ ((o6.trans (Off.of s8)).trans Off.set) ⟨dx, _, .ref lp, .ref l8, upd_same, ?_, ?_, ?_, ?_, fun m m0 m1 m2 m3 => ?_, (hl6.k (Kt.same s8)).k k9, t8.k k9⟩
    · rw [lookup_putF, if_neg e3]
      exact lk
    · rw [lookup_putF, if_neg e5]
      exact lr
    · rw [lookup_putF, if_neg e6]
      exact lh
    · rw [lookup_putF, if_pos rfl]
    · rw [lookup_putF, if_neg m3]
      exact lw m m0 m1 m2
end
end K09

namespace K09
open PySem L2 Wm TL Dv
section
variable {P : Program} {w : World} {K : PySem.W.Frag} {mg : Str → Option Value} {base : Heap}
theorem TownAt.keep {C : Addr} {H H' : Hp} {p : Addr} {ls : List (List Box)} {r h : Int} (q : TownAt K C H p ls r h) (s : Same H H') : TownAt K C H' p ls r h := by
  obtain ⟨dx, fs, y, y2, hp, l1, l2, l3, l4, l5, t, t2⟩ := q
  exact ⟨dx, fs, y, y2, s _ _ hp, l1, l2, l3, l4, l5, t.k (Kt.same s), t2.k (Kt.same s)⟩
theorem town_at {H : Hp} {xs : List V} {ls : List (List Box)} {i : Nat} {x : V} (h : Dts K H xs (ls.map loopD)) (hx : xs[i]? = some x) : ∃ l, ls[i]? = some l ∧ Dt K H x (loopD l) := by
  obtain ⟨d, e, t⟩ := h.at hx
  rw [List.getElem?_map] at e
  obtain ⟨l, el, rfl⟩ := Option.map_eq_some_iff.mp e
  exact ⟨l, el, t⟩
theorem town_len {H : Hp} {xs : List V} {ls : List (List Box)} (h : Dts K H xs (ls.map loopD)) : xs.length = ls.length := by rw [h.len, List.length_map]
theorem shaped_num {b : Box} (h : Num b.1) : SeqAt.shaped (.str (numS b.1)) = true := (fine_num (n := 0) fun d m => (h.3 d m).2 : Fine 0 _).shaped (by decide)
theorem ok_site_of (T : Txt K mg) : FnOk P w K mg base (L2.CX P w) 3 T.a_site_of T.d_site_of ["self", "number"] (sp_site_of K T.C T.CB) := by
  refine T.F_site_of.okX sc_site_of (fun vs H Q E h => ?_) (fun cdv A outer s H vs Q E hr h => ?_)
  · obtain ⟨p, x, d, ls, r, h, rfl, _⟩ := h
    rfl
  · obtain ⟨p, x, d, ls, r, h, rfl, hT, G, hd, sd, kS, kE⟩ := h
    obtain ⟨dx, fs, y, y2, hp, l1, l2, l3, l4, l5, t, t2⟩ := id hT
    obtain ⟨q, xs, rfl, hS, hds⟩ := t.inv
    have el := town_len hds
    refine ⟨_, (pss_cons (ps_for (passes_of rfl) rfl (Es.pi_ent (by rfl) T.z_enumerate (pa_cons (pe_fld (pv 0) rfl) pa_nil)) (pg_tup rfl (pgs_cons (pg_name (i := 2) sc_site_of.nd rfl (Or.inl rfl)) (pgs_cons (pg_name (i := 3) sc_site_of.nd rfl (Or.inl rfl)) pgs_nil)))
        (pss_one (ps_for (passes_of rfl) rfl (Es.pi_ent (by rfl) T.z_enumerate (pa_cons (pv 3) pa_nil)) (pg_tup rfl (pgs_cons (pg_name (i := 4) sc_site_of.nd rfl (Or.inl rfl)) (pgs_cons (pg_name (i := 5) sc_site_of.nd rfl (Or.inl rfl)) pgs_nil)))
          (pss_one (ps_if (pt_cmpR (op_eqD hr.units) (pe_ix ix_tup (pv 5) pe_int (fun _ _ => rfl)) (pv 1) (nomark _))
            (pss_one (ps_ret (pe_tup (pa_cons (pv 2) (pa_cons (pv 4) pa_nil)))))
            pss_nil)))))
      (pss_one (ps_raiseLowB rfl T.lowB hr (takes_of rfl rfl rfl rfl) (by exact (pa_cons (pv 1) pa_nil))))), ?_⟩
    refine ⟨_, rfl, p, T.C, dx, fs, _, rfl, hp, T.clC, T.nL, l1, q, xs, rfl, hS, ?_⟩
    refine for_it Es.walk_ent (fun i σ H' => ∃ v2 v3 v4 v5, σ = [some (.ref p), some x, v2, v3, v4, v5] ∧ Same H H' ∧ ∀ b ∈ (ls.take i).flatten, PyData.eqv (.str (numS b.1)) d = false)
      ⟨none, none, none, none, rfl, Same.refl _, by simp⟩ (fun i σ H' _ h => let ⟨_, _, _, _, _, s, _⟩ := h; sameT s hS) (fun i v σ H1 H' hi hP hY => ?_) (fun σ H1 hP => ?_)
    · obtain ⟨v2, v3, v4, v5, rfl, sm, no⟩ := hP
      obtain ⟨tp, x1, x2, rfl, ht, rfl, e1, e2⟩ := hY
      cases e1
      obtain ⟨l, hl, tl⟩ := town_at hds e2
      obtain ⟨q2, zs, rfl, hq2, hz⟩ := tl.inv
      have lz := boxes_len hz
      have sB : Same H (upd H1 tp (.tup [.int (i : Nat), .ref q2])) := sm.trans (same_new ht)
      refine ⟨tp, _, rfl, SqT.of upd_same, rfl, _, _, rfl, _, _, rfl, rfl, ?_⟩
      generalize upd H1 tp (.tup [.int (i : Nat), .ref q2]) = H2 at *
      refine ⟨_, rfl, q2, zs, rfl, sameT sB hq2, ?_⟩
      refine for_it Es.walk_ent (fun j σ H' => ∃ v4 v5, σ = [some (.ref p), some x, some (.int (i : Nat)), some (.ref q2), v4, v5] ∧ Same H H' ∧ ∀ b ∈ (ls.take i).flatten ++ l.take j, PyData.eqv (.str (numS b.1)) d = false)
        ⟨v4, v5, rfl, sB, by simpa using no⟩ (fun j σ H' _ h => let ⟨_, _, _, s, _⟩ := h; sameT s hq2) (fun j v σ H3 H' hj hP hY => ?_) (fun σ H3 hP => ?_)
      · obtain ⟨v4, v5, rfl, sm3, no3⟩ := hP
        obtain ⟨tp3, x3, x4, rfl, ht3, rfl, e3, e4⟩ := hY
        cases e3
        obtain ⟨b, hb, tb⟩ := boxes_at hz e4
        obtain ⟨q3, rfl, hq3⟩ := box_inv tb
        have sC : Same H (upd H3 tp3 (.tup [.int (j : Nat), .ref q3])) := sm3.trans (same_new ht3)
        refine ⟨tp3, _, rfl, SqT.of upd_same, rfl, _, _, rfl, _, _, rfl, rfl, ?_⟩
        generalize upd H3 tp3 (.tup [.int (j : Nat), .ref q3]) = H4 at *
        have nb := G.num b (List.mem_flatten.mpr ⟨l, List.mem_of_getElem? hl, List.mem_of_getElem? hb⟩)
        refine ⟨_, rfl, q3, _, 0, _, rfl, rfl, sameT sC hq3, atI_nat (j := 0) rfl, _, rfl, _, d, .str _, hd _ sC, shaped_num nb, sd, _, rfl, ite2 (fun c => ?_) (fun c => ?_)⟩
        · refine ⟨_, rfl, _, rfl, by show 2 ≤ sizeLine; decide, fun q9 hq9 => ?_⟩
          exact kS i j l b hl hb c _ q9 (sC.trans (same_new hq9)) (sC.free hq9) upd_same
        · refine ⟨_, _, rfl, sC, fun b' m => ?_⟩
          rw [List.take_add_one, hb, ← List.append_assoc] at m
          rcases List.mem_append.mp m with m | m
          · exact no3 b' m
          · have e : b' = b := by simpa using m
            rw [e]
            exact Bool.eq_false_iff.mpr c
      · obtain ⟨v4, v5, rfl, sm3, no3⟩ := hP
        rw [lz, List.take_length] at no3
        refine ⟨_, _, _, _, rfl, sm3, ?_⟩
        rw [flat_succ hl]
        exact no3
    · obtain ⟨v2, v3, v4, v5, rfl, sm, no⟩ := hP
      rw [el, List.take_length] at no
      exact ⟨_, rfl, _, rfl, fun dd hdd => kE no _ dd (sm.trans (same_new hdd)) upd_same⟩
theorem ne_names (m : Str) (a : decide (m = "loops") = false) (b : decide (m = "rounds") = false) (c : decide (m = "hear") = false) (d : decide (m = "numbers") = false) : m ≠ "loops" ∧ m ≠ "rounds" ∧ m ≠ "hear" ∧ m ≠ "numbers" :=
  ⟨of_decide_eq_false a, of_decide_eq_false b, of_decide_eq_false c, of_decide_eq_false d⟩
theorem no_site : ("site_of" : Str) ≠ "loops" ∧ ("site_of" : Str) ≠ "rounds" ∧ ("site_of" : Str) ≠ "hear" ∧ ("site_of" : Str) ≠ "numbers" := ne_names _ (by decide +kernel) (by decide +kernel) (by decide +kernel) (by decide +kernel)
theorem ok_loop_of (T : Txt K mg) : FnOk P w K mg base (L2.CX P w) 4 T.a_loop_of T.d_loop_of ["self", "number"] (sp_loop_of K T.C T.CB) := by
  refine T.F_loop_of.okX sc_loop_of (fun vs H Q E h => ?_) (fun cdv A outer s H vs Q E hr h => ?_)
  · obtain ⟨p, x, d, ls, r, h, rfl, _⟩ := h
    rfl
  · obtain ⟨p, x, d, ls, r, h, rfl, hT, G, hd, sd, kS, kE⟩ := h
    obtain ⟨dx, fs, y, y2, hp, l1, l2, l3, l4, l5, t, t2⟩ := id hT
    refine ⟨_, (pss_one (ps_ret (pe_ix ix_tup (MS.pe_methS (pv 0) T.clC T.m_site_of (ok_site_of T) (hr.mono (by decide)) T.b_site_of (fun σ => passAt (takes_of rfl rfl rfl rfl) σ) (by exact (pa_cons (pv 1) pa_nil))) pe_int (fun _ _ => rfl)))), ?_⟩
    refine ⟨_, rfl, p, dx, fs, rfl, hp, l5 _ no_site.1 no_site.2.1 no_site.2.2.1 no_site.2.2.2, _, rfl, p, x, d, ls, r, h, rfl, hT, G, hd, sd, fun i j l b hl hb e H1 q s1 _ hq => ?_, fun no => kE no⟩
    exact ⟨q, _, 0, _, rfl, rfl, SqT.of hq, atI_nat (j := 0) rfl, kS i j l b hl hb e _ s1⟩
theorem ok_place_of (T : Txt K mg) : FnOk P w K mg base (L2.CX P w) 4 T.a_place_of T.d_place_of ["self", "number"] (sp_place_of K T.C T.CB) := by
  refine T.F_place_of.okX sc_place_of (fun vs H Q E h => ?_) (fun cdv A outer s H vs Q E hr h => ?_)
  · obtain ⟨p, x, d, ls, r, h, rfl, _⟩ := h
    rfl
  · obtain ⟨p, x, d, ls, r, h, rfl, hT, G, hd, sd, kS, kE⟩ := h
    obtain ⟨dx, fs, y, y2, hp, l1, l2, l3, l4, l5, t, t2⟩ := id hT
    refine ⟨_, (pss_one (ps_ret (pe_ix ix_tup (MS.pe_methS (pv 0) T.clC T.m_site_of (ok_site_of T) (hr.mono (by decide)) T.b_site_of (fun σ => passAt (takes_of rfl rfl rfl rfl) σ) (by exact (pa_cons (pv 1) pa_nil))) pe_int (fun _ _ => rfl)))), ?_⟩
    refine ⟨_, rfl, p, dx, fs, rfl, hp, l5 _ no_site.1 no_site.2.1 no_site.2.2.1 no_site.2.2.2, _, rfl, p, x, d, ls, r, h, rfl, hT, G, hd, sd, fun i j l b hl hb e H1 q s1 _ hq => ?_, fun no => kE no⟩
    exact ⟨q, _, 1, _, rfl, rfl, SqT.of hq, atI_nat (j := 1) rfl, kS i j l b hl hb e _ s1⟩
theorem ok_sort_of (T : Txt K mg) : FnOk P w K mg base (L2.CX P w) 4 T.a_sort_of T.d_sort_of ["self", "number"] (sp_sort_of K T.C T.CB) := by
  refine T.F_sort_of.okX sc_sort_of (fun vs H Q E h => ?_) (fun cdv A outer s H vs Q E hr h => ?_)
  · obtain ⟨p, x, d, ls, r, h, rfl, _⟩ := h
    rfl
  · obtain ⟨p, x, d, ls, r, h, rfl, hT, G, hd, sd, kS, kE⟩ := h
    obtain ⟨dx, fs, y, y2, hp, l1, l2, l3, l4, l5, t, t2⟩ := id hT
    obtain ⟨q0, xs, rfl, hS, hds⟩ := t.inv
    refine ⟨_, (pss_cons (ps_asg (MS.pe_methS (pv 0) T.clC T.m_site_of (ok_site_of T) (hr.mono (by decide)) T.b_site_of (fun σ => passAt (takes_of rfl rfl rfl rfl) σ) (by exact (pa_cons (pv 1) pa_nil))) (pg_tup rfl (pgs_cons (pg_name (i := 2) sc_sort_of.nd rfl (Or.inl rfl)) (pgs_cons (pg_name (i := 3) sc_sort_of.nd rfl (Or.inl rfl)) pgs_nil))))
      (pss_one (ps_ret (pe_ix ix_tup (pe_ix ix_tup (pe_ix ix_tup (pe_fld (pv 0) rfl) (pv 2) (fun _ _ => rfl)) (pv 3) (fun _ _ => rfl)) pe_int (fun _ _ => rfl))))), ?_⟩
    refine ⟨_, rfl, p, dx, fs, rfl, hp, l5 _ no_site.1 no_site.2.1 no_site.2.2.1 no_site.2.2.2, _, rfl, p, x, d, ls, r, h, rfl, hT, G, hd, sd, fun i j l b hl hb e H1 q s1 _ hq => ?_, fun no => kE no⟩
    obtain ⟨v1, e1, t1⟩ := hds.get (show (ls.map loopD)[i]? = some (loopD l) by rw [List.getElem?_map, hl]; rfl)
    obtain ⟨q1, zs, rfl, hq1, hz⟩ := t1.inv
    obtain ⟨v2, e2, t2⟩ := hz.get (show (l.map boxD)[j]? = some (boxD b) by rw [List.getElem?_map, hb]; rfl)
    obtain ⟨q2, rfl, hq2⟩ := box_inv t2
    refine ⟨q, _, rfl, SqT.of hq, rfl, _, _, rfl, _, _, rfl, rfl, ?_⟩
    refine ⟨_, rfl, p, T.C, dx, fs, _, rfl, s1 _ _ hp, T.clC, T.nL, l1, _, rfl, q0, xs, _, _, rfl, rfl, sameT s1 hS, atI_nat e1, _, rfl, q1, zs, _, _, rfl, rfl, sameT s1 hq1, atI_nat e2, q2, _, 1, _, rfl, rfl, sameT s1 hq2, atI_nat (j := 1) rfl, ?_⟩
    exact kS i j l b hl hb e _ s1
end
end K09

namespace K09
open PySem L2 Wm TL Dv
section
variable {P : Program} {w : World} {K : PySem.W.Frag} {mg : Str → Option Value} {base : Heap}
theorem fine_boxD {b : Box} (h : Num b.1) : Fine 5 (boxD b) := fine_tup (n := 4) fun d m => by
  rcases List.mem_cons.mp m with rfl | m
  · exact fine_num fun d m => (h.3 d m).2
  · rw [List.mem_singleton.mp m]
    cases b.2 <;> exact fine_str (by decide +kernel)
theorem fine_town {ls : List (List Box)} (G : Good ls) : Fine 7 (townD ls) := fine_tup (n := 6) fun d m => by
  obtain ⟨l, ml, rfl⟩ := List.mem_map.mp m
  exact fine_tup (n := 5) fun d m => by
    obtain ⟨b, mb, rfl⟩ := List.mem_map.mp m
    exact fine_boxD (G.num b (List.mem_flatten.mpr ⟨l, ml, mb⟩))
theorem iteB {c : Bool} {A B : Prop} (h1 : c = true → A) (h2 : c = false → B) : if c = true then A else B := by
  cases c
  · exact h2 rfl
  · exact h1 rfl
theorem ok_eq (T : Txt K mg) : FnOk P w K mg base CX0 1 T.a_eq T.d_eq ["self", "other"] (sp_eq K T.C) := by
  refine T.F_eq.ok sc_eq (fun vs H Q E h => ?_) (fun cdv A outer s H vs Q E hr h => ?_)
  · obtain ⟨p, y, ls, r, h, rfl, _⟩ := h
    rfl
  · obtain ⟨p, y, ls, r, h, rfl, hT, G, hc⟩ := h
    obtain ⟨dx, fs, z, z2, hp, l1, l2, l3, l4, l5, t, t2⟩ := id hT
    have f1 := (fine_town G).shaped (by decide)
    refine ⟨_, (pss_one (ps_ret (pe_and (pe_callB call_isi (by rfl) T.z_isinstance (by decide +kernel) (pa_cons (pv 1) (pa_cons (pe_glob (v := V.ref T.C) rfl T.gC rfl) pa_nil))) (pe_and (pe_cmpR (op_eqD hr.units) (pe_fld (pv 0) rfl) (pe_fld (pv 1) rfl) (nomark _)) (pe_and (pe_cmpR op_eq (pe_fld (pv 0) rfl) (pe_fld (pv 1) rfl) (nomark _)) (pe_one (pe_cmpR op_eq (pe_fld (pv 0) rfl) (pe_fld (pv 1) rfl) (nomark _)))))))), ?_⟩
    rcases hc with ⟨p2, ls2, r2, h2, rfl, hT2, G2, k⟩ | ⟨q, xs, rfl, hq, k⟩
    · obtain ⟨dx', fs', z', z2', hp', m1, m2, m3, m4, m5, u, u2⟩ := id hT2
      have f2 := (fine_town G2).shaped (by decide)
      refine ⟨_, rfl, _, _, _, _, true, rfl, .own T.C, .base (.ins hp' T.clC T.isi.ca T.isi.cn T.isi.ct T.isi.cm), T.kS, true, rfl, iteT ?_⟩
      refine ⟨_, rfl, p, T.C, dx, fs, _, rfl, hp, T.clC, T.nL, l1, _, rfl, p2, T.C, dx', fs', _, rfl, hp', T.clC, T.nL, m1, _, _, t.toDp, u.toDp, f1, f2, _, rfl, ?_⟩
      refine iteB (fun e => ?_) (fun e => ?_)
      · rw [e, Bool.true_and] at k
        refine ⟨_, rfl, p, T.C, dx, fs, _, rfl, hp, T.clC, T.nR, l2, _, rfl, p2, T.C, dx', fs', _, rfl, hp', T.clC, T.nR, m2, rfl, _, rfl, ?_⟩
        refine iteB (fun e => ?_) (fun e => ?_)
        · rw [e, Bool.true_and] at k
          exact ⟨_, rfl, p, T.C, dx, fs, _, rfl, hp, T.clC, T.nH, l3, _, rfl, p2, T.C, dx', fs', _, rfl, hp', T.clC, T.nH, m3, rfl, k⟩
        · rw [e, Bool.false_and] at k
          exact k
      · rw [e, Bool.false_and] at k
        exact k
    · exact ⟨_, rfl, _, _, _, _, false, rfl, .own T.C, tyT hq, T.kT, false, rfl, iteF k⟩
end
end K09

namespace K09
open PySem L2 Wm TL Dv
section
variable {P : Program} {w : World} {K : PySem.W.Frag} {mg : Str → Option Value} {base : Heap}
theorem cut_some (ns : List Int) (hi : Option Int) : ∃ m, cutV (ns.map V.int) none hi = (ns.take m).map V.int := by
  refine ⟨HT.sIx (ns.map V.int).length (ns.map V.int).length hi - HT.sIx (ns.map V.int).length 0 none, ?_⟩
  unfold cutV
  rw [HT.sIx_none, List.drop_zero, List.map_take]
theorem ok_bag (T : Txt K mg) : FnOk P w K mg base CX0 1 T.a_bag T.d_bag ["_law_script"] (sp_bag K) := by
  refine T.F_bag.ok sc_bag (fun vs H Q E h => ?_) (fun cdv A outer s H vs Q E hr h => ?_)
  · obtain ⟨a, ns, rfl, _⟩ := h
    rfl
  · obtain ⟨a, ns, rfl, hS, hlen, k⟩ := h
    refine ⟨_, (pss_cons (ps_setLc (i := 1) (own := [("_law_cell", 2)]) (g := gName 2) (tt := tYes) rfl sc_bag.nd rfl rfl (sw_true rfl rfl rfl (by decide +kernel)) (pi_list (pe_slice sl_list (pv 0) po_none (po_some pe_int))) (blkOk_by (own := [("_law_cell", 2)]) (N := nm_bag) (sc := (defScope s_bag)) (by decide +kernel)) (fun _ _ _ _ _ => pg_name (i := 2) sc_bag.nd rfl (Or.inl rfl)) (fun _ _ _ _ _ => pts_nil) (fun _ _ _ _ _ => (pe_ifExp (pt_cmpR op_ge (pv 2) pe_int (nomark _)) (pv 2) (pe_op op_sub pe_int (pv 2)))))
      (pss_one (ps_ret (pe_lst (pa_cons pe_int (pa_cons (pv 1) (pa_cons pe_int (pa_cons pe_int (pa_cons pe_int pa_nil))))))))), ?_⟩
    refine ⟨.ref a, rfl, 63, rfl, a, _, rfl, hS, fun p hp => ?_⟩
    obtain ⟨m, em⟩ := cut_some ns (some 63)
    rw [em]
    have hml : (ns.take m).length ≤ 63 := by rw [List.length_take]; omega
    generalize ns.take m = ms at hml
    refine ⟨p, rfl, ⟨_, SqL.of upd_same⟩, fun D hD => ?_⟩
    refine lc_list (xs := ms.map V.int) (fun i H' => Same (upd H p (.lst (ms.map V.int))) H' ∧ ∃ qs : List Int, qs.length = i ∧ H' D = some (.lst (qs.map V.int))) ⟨same_new hD, [], rfl, upd_same⟩ (fun i H2 _ hP => SqL.of (hP.1 _ _ upd_same)) (fun i x H2 hx hP => ?_) (fun H2 hP => ?_)
    · obtain ⟨sm, qs, eq, hq⟩ := hP
      have hi : i < ms.length := by
        have := (List.getElem?_eq_some_iff.mp hx).1
        rw [List.length_map] at this
        exact this
      have ex : x = .int ms[i] := by
        rw [List.getElem?_map, List.getElem?_eq_getElem hi] at hx
        exact (Option.some.inj hx).symm
      subst ex
      have small : (qs.map V.int).length < sizeLine := by rw [List.length_map]; exact small1000 (by omega)
      refine ⟨rfl, yesT ?_⟩
      refine ⟨_, rfl, _, _, rfl, rfl, _, rfl, ite2 (fun _ => ?_) (fun _ => ?_)⟩
      · exact ⟨_, rfl, _, hq, small, same_mut sm hD, qs ++ [ms[i]], by rw [List.length_append, eq]; rfl, by rw [upd_same, List.map_append]; rfl⟩
      · exact ⟨_, rfl, _, _, rfl, rfl, _, hq, small, same_mut sm hD, qs ++ [1 - ms[i]], by rw [List.length_append, eq]; rfl, by rw [upd_same, List.map_append]; rfl⟩
    · obtain ⟨sm, qs, eq, hq⟩ := hP
      refine ⟨_, rfl, by show 5 ≤ sizeLine; decide, fun b hb => ?_⟩
      refine k _ b (((same_new hp).trans sm).trans (same_new hb)) ⟨D, 0, 0, 0, 20261, qs, upd_same, at_old hq hb, by decide, by decide, by decide⟩
end
end K09

namespace K09
open PySem L2 Wm TL Dv
section
variable {P : Program} {w : World} {K : PySem.W.Frag} {mg : Str → Option Value} {base : Heap}
theorem fmod_in {x l : Int} (h : 0 < l) : 0 ≤ x.fmod l ∧ x.fmod l < l := by
  rw [Int.fmod_eq_emod_of_nonneg x (Int.le_of_lt h)]
  exact ⟨Int.emod_nonneg x (by omega), Int.emod_lt_of_pos x h⟩
theorem ok_draw (T : Txt K mg) : FnOk P w K mg base CX0 1 T.a_draw T.d_draw ["_law_bag_here", "_law_limit"] (sp_draw K) := by
  refine T.F_draw.ok sc_draw (fun vs H Q E h => ?_) (fun cdv A outer s H vs Q E hr h => ?_)
  · obtain ⟨b, n, lim, rfl, _⟩ := h
    rfl
  · obtain ⟨b, n, lim, rfl, l0, l1, ⟨c, x, k, m, z, ns, hb, hc, k0, m0, mn⟩, hn, kk⟩ := h
    have hcb := bag_ne hb hc
    refine ⟨_, (C8.pss_cut (ps_if (PW.pt (pw_and (pt_cmpR op_lt (pe_ix ix_list (pv 0) pe_int (fun _ _ => rfl)) (pe_op op_pow pe_int pe_int) (nomark _)) (pw_and1 (pt_cmpR op_lt (pe_ix ix_list (pv 0) pe_int (fun _ _ => rfl)) (pe_callB call_len_seq (by rfl) T.z_len PySem.boot_len (pa_cons (pe_ix ix_list (pv 0) pe_int (fun _ _ => rfl)) pa_nil)) (nomark _)))))
        (pss_cons (ps_asg (pe_ix ix_list (pe_ix ix_list (pv 0) pe_int (fun _ _ => rfl)) (pe_ix ix_list (pv 0) pe_int (fun _ _ => rfl)) (fun _ _ => rfl)) (pg_sub (pv 0) pe_int set_list))
        (pss_one (ps_asg (pe_op op_add (pe_ix ix_list (pv 0) pe_int (fun _ _ => rfl)) pe_int) (pg_sub (pv 0) pe_int set_list))))
        pss_nil)
      (pss_cons (ps_if (pt_cmpR op_ge (pe_ix ix_list (pv 0) pe_int (fun _ _ => rfl)) (pe_op op_pow pe_int pe_int) (nomark _))
        (pss_cons (ps_set (i := 2) sc_draw.nd rfl (Or.inl rfl) (pe_op op_modN (pe_callTy call_int1 (by rfl) T.z_int (by decide +kernel) (pa_cons (pe_ix ix_list (pv 0) pe_int (fun _ _ => rfl)) pa_nil)) (pv 1)))
        (pss_cons (ps_asg (pe_op op_fdivW (pe_callTy call_int1 (by rfl) T.z_int (by decide +kernel) (pa_cons (pe_ix ix_list (pv 0) pe_int (fun _ _ => rfl)) pa_nil)) (pv 1)) (pg_sub (pv 0) pe_int set_list))
        (pss_one (ps_ret (pv 2)))))
        pss_nil)
      (pss_cons (ps_asg (pe_op op_add (pe_ix ix_list (pv 0) pe_int (fun _ _ => rfl)) pe_int) (pg_sub (pv 0) pe_int set_list))
      (pss_cons (ps_asg (pe_op op_modN (pe_callTy call_int1 (by rfl) T.z_int (by decide +kernel) (pa_cons (pe_op op_add (pe_op op_add (pe_op op_mul (pe_ix ix_list (pv 0) pe_int (fun _ _ => rfl)) pe_int) (pe_op op_mul (pe_op op_modN (pe_callTy call_int1 (by rfl) T.z_int (by decide +kernel) (pa_cons (pe_ix ix_list (pv 0) pe_int (fun _ _ => rfl)) pa_nil)) pe_int) pe_int)) (pe_op op_mul (pe_ix ix_list (pv 0) pe_int (fun _ _ => rfl)) pe_int)) pa_nil)) pe_int) (pg_sub (pv 0) pe_int set_list))
      (pss_one (ps_ret (pe_op op_modN (pe_op op_fdivN (pe_op op_modN (pe_callTy call_int1 (by rfl) T.z_int (by decide +kernel) (pa_cons (pe_op op_add (pe_op op_mul (pe_ix ix_list (pv 0) pe_int (fun _ _ => rfl)) pe_int) (pe_op op_mul (pe_ix ix_list (pv 0) pe_int (fun _ _ => rfl)) (pe_ix ix_list (pv 0) pe_int (fun _ _ => rfl)))) pa_nil)) pe_int) pe_int) (pv 1)))))))), ?_⟩
    refine ⟨fun σ H1 => ∃ x k : Int, σ = [some (.ref b), some (.int lim), none] ∧ 0 ≤ k ∧ But b H H1 ∧ H1 b = some (.lst [.int x, .ref c, .int k, .int m, .int z]), ?_, ?_⟩
    · refine ⟨_, rfl, b, _, 0, _, rfl, rfl, SqL.of hb, atI_nat (j := 0) rfl, _, _, rfl, rfl, ⟨by decide, by decide, by decide⟩, _, _, rfl, rfl, _, rfl, ite2 (fun h1 => ?_) (fun h1 => ?_)⟩
      · refine ⟨_, rfl, b, _, 2, _, rfl, rfl, SqL.of hb, atI_nat (j := 2) rfl, _, rfl, b, _, 1, _, rfl, rfl, SqL.of hb, atI_nat (j := 1) rfl, c, _, rfl, .inl (SqL.of hc), _, _, rfl, rfl, _, rfl, ite2 (fun h2 => ?_) (fun h2 => ?_)⟩
        · have h3 := of_decide_eq_true h2
          rw [List.length_map] at h3
          have h4 : k.toNat < ns.length := by omega
          have g : (ns.map V.int)[k.toNat]? = some (.int ns[k.toNat]) := by rw [List.getElem?_map, List.getElem?_eq_getElem h4]; rfl
          refine ⟨_, rfl, b, _, 1, _, rfl, rfl, SqL.of hb, atI_nat (j := 1) rfl, _, rfl, b, _, 2, _, rfl, rfl, SqL.of hb, atI_nat (j := 2) rfl, c, _, k, _, rfl, rfl, SqL.of hc, at_of (by omega) g, ?_⟩
          refine ⟨_, rfl, b, _, 0, 0, rfl, rfl, hb, rfl, ?_⟩
          refine ⟨_, rfl, b, _, 2, _, rfl, rfl, SqL.of upd_same, atI_nat (j := 2) rfl, _, _, rfl, rfl, ?_⟩
          refine ⟨_, rfl, b, _, 2, 2, rfl, rfl, upd_same, rfl, ?_⟩
          exact ⟨_, _, rfl, by omega, But.trans (But.set hb) (But.set upd_same), upd_same⟩
        · exact ⟨x, k, rfl, k0, But.refl _ _, hb⟩
      · exact ⟨x, k, rfl, k0, But.refl _ _, hb⟩
    · rintro σ H1 ⟨x, k, rfl, k0, but, hb⟩
      have hc1 : H1 c = some (.lst (ns.map V.int)) := but _ _ hcb hc
      refine ⟨_, rfl, b, _, 0, _, rfl, rfl, SqL.of hb, atI_nat (j := 0) rfl, _, _, rfl, rfl, ⟨by decide, by decide, by decide⟩, _, _, rfl, rfl, _, rfl, ite2 (fun h1 => ?_) (fun h1 => ?_)⟩
      · refine ⟨_, rfl, b, _, 0, _, rfl, rfl, SqL.of hb, atI_nat (j := 0) rfl, .inl ⟨_, rfl, _, rfl, _, _, rfl, rfl, by omega, ?_⟩⟩
        refine ⟨_, rfl, b, _, 0, _, rfl, rfl, SqL.of hb, atI_nat (j := 0) rfl, .inl ⟨_, rfl, _, rfl, _, _, rfl, rfl, wide_div l0 (b := 100) (by omega) (by decide) (by decide), ?_⟩⟩
        refine ⟨_, rfl, b, _, 0, 0, rfl, rfl, hb, rfl, ?_⟩
        refine ⟨_, rfl, kk _ _ (fmod_in l0).1 (fmod_in l0).2 ⟨c, _, k, m, z, ns, upd_same, ?_, k0, m0, by omega⟩ (but.trans (But.set hb))⟩
        rw [upd_ne hcb]
        exact hc1
      · refine ⟨_, rfl, b, _, 3, _, rfl, rfl, SqL.of hb, atI_nat (j := 3) rfl, _, _, rfl, rfl, ?_⟩
        refine ⟨_, rfl, b, _, 3, 3, rfl, rfl, hb, rfl, ?_⟩
        -- the two reckonings
        refine ⟨_, rfl, b, _, 4, _, rfl, rfl, SqL.of upd_same, atI_nat (j := 4) rfl, _, _, rfl, rfl, .inr ⟨by decide, by decide⟩, ?_⟩
        refine ⟨_, rfl, b, _, 0, _, rfl, rfl, SqL.of upd_same, atI_nat (j := 0) rfl, .inl ⟨_, rfl, _, _, rfl, rfl, by omega, _, _, rfl, rfl, .inr ⟨by decide, by decide⟩, _, _, rfl, rfl, ?_⟩⟩
        refine ⟨_, rfl, b, _, 3, _, rfl, rfl, SqL.of upd_same, atI_nat (j := 3) rfl, _, _, rfl, rfl, .inr ⟨by decide, by decide⟩, _, _, rfl, rfl, .inl ⟨_, rfl, _, _, rfl, rfl, by omega, ?_⟩⟩
        refine ⟨_, rfl, b, _, 4, 4, rfl, rfl, upd_same, rfl, ?_⟩
        refine ⟨_, rfl, b, _, 4, _, rfl, rfl, SqL.of upd_same, atI_nat (j := 4) rfl, _, _, rfl, rfl, .inr ⟨by decide, by decide⟩, ?_⟩
        refine ⟨_, rfl, b, _, 3, _, rfl, rfl, SqL.of upd_same, atI_nat (j := 3) rfl, _, rfl, b, _, 3, _, rfl, rfl, SqL.of upd_same, atI_nat (j := 3) rfl, _, _, rfl, rfl, .inl ⟨by omega, by omega⟩, _, _, rfl, rfl, .inl ⟨_, rfl, _, _, rfl, rfl, by omega, _, _, rfl, rfl, ⟨by decide, by decide⟩, _, rfl, _, _, rfl, rfl, by omega, ?_⟩⟩
        refine kk _ _ (fmod_in l0).1 (fmod_in l0).2 ⟨c, x, k, m + 1, _, ns, upd_same, ?_, k0, by omega, by omega⟩ ((but.trans (But.set hb)).trans (But.set upd_same))
        rw [upd_ne hcb, upd_ne hcb]
        exact hc1
end
end K09

namespace K09
open PySem L2 Wm TL Dv
section
variable {P : Program} {w : World} {K : PySem.W.Frag} {mg : Str → Option Value} {base : Heap}
theorem dig_log {d : Nat} (h : 1 ≤ d ∧ d ≤ 9) : ((d : Int)).natAbs.log2 < 1920 := by
  rcases dig_cases h with e | e | e | e | e | e | e | e | e <;> subst e <;> decide +kernel
theorem top_at {way : Int} (h0 : 0 ≤ way) (h1 : way < 6) : ∃ top : Int, atI [V.int 3, V.int 3, V.int 3, V.int 3, V.int 9, V.int 9] way = some (.int top) ∧ 3 ≤ top ∧ top ≤ 9 := by
  have c : way = 0 ∨ way = 1 ∨ way = 2 ∨ way = 3 ∨ way = 4 ∨ way = 5 := by omega
  rcases c with e | e | e | e | e | e <;> subst e
  · exact ⟨3, rfl, by decide, by decide⟩
  · exact ⟨3, rfl, by decide, by decide⟩
  · exact ⟨3, rfl, by decide, by decide⟩
  · exact ⟨3, rfl, by decide, by decide⟩
  · exact ⟨9, rfl, by decide, by decide⟩
  · exact ⟨9, rfl, by decide, by decide⟩
theorem sum_snoc (ds : List Nat) (d : Nat) : (ds ++ [d]).sum = ds.sum + d := by
  rw [List.sum_append]
  simp
theorem len_snoc (ds : List Nat) (d : Nat) : (ds ++ [d]).length = ds.length + 1 := by simp
theorem dig_snoc {ds : List Nat} {d : Nat} (h : ∀ y ∈ ds, 1 ≤ y ∧ y ≤ 9) (g : 1 ≤ d ∧ d ≤ 9) : ∀ y ∈ ds ++ [d], 1 ≤ y ∧ y ≤ 9 := fun y m => by
  rcases List.mem_append.mp m with m | m
  · exact h y m
  · rw [List.mem_singleton.mp m]
    exact g
theorem ok_number (T : Txt K mg) : FnOk P w K mg base CX0 2 T.a_number T.d_number ["_law_bag_here"] (sp_number K) := by
  refine T.F_number.ok sc_number (fun vs H Q E h => ?_) (fun cdv A outer s H vs Q E hr h => ?_)
  · obtain ⟨b, n, rfl, _⟩ := h
    rfl
  · obtain ⟨b, n, rfl, hbag, hn, kk⟩ := h
    refine ⟨_, (pss_cons (ps_set (i := 1) sc_number.nd rfl (Or.inl rfl) (pe_op op_add pe_int (pe_call (ok_draw T) (hr.mono (by decide)) (by rfl) T.g_draw T.F_draw.kp T.b_draw .nil pass0 (pa_cons (pv 0) (pa_cons pe_int pa_nil)))))
      (pss_cons (ps_set (i := 2) sc_number.nd rfl (Or.inl rfl) (pe_call (ok_draw T) (hr.mono (by decide)) (by rfl) T.g_draw T.F_draw.kp T.b_draw .nil pass0 (pa_cons (pv 0) (pa_cons pe_int pa_nil))))
      (pss_cons (ps_set (i := 3) sc_number.nd rfl (Or.inl rfl) (pe_ix ix_list (pe_lst (pa_cons pe_int (pa_cons pe_int (pa_cons pe_int (pa_cons pe_int (pa_cons pe_int (pa_cons pe_int pa_nil))))))) (pv 2) (fun _ _ => rfl)))
      (pss_cons (ps_set (i := 4) sc_number.nd rfl (Or.inl rfl) pe_str)
      (pss_cons (ps_set (i := 5) sc_number.nd rfl (Or.inl rfl) pe_int)
      (pss_cons (ps_for PassesOwn.never rfl (pi_range1 (by rfl) T.z_range (pa_cons (pv 1) pa_nil)) (pg_name (i := 6) sc_number.nd rfl (Or.inl rfl))
        (pss_cons (ps_set (i := 7) sc_number.nd rfl (Or.inl rfl) (pe_op op_add pe_int (pe_call (ok_draw T) (hr.mono (by decide)) (by rfl) T.g_draw T.F_draw.kp T.b_draw .nil pass0 (pa_cons (pv 0) (pa_cons (pe_callB (call_min2 rfl) (by rfl) T.z_min (by decide +kernel) (pa_cons (pv 3) (pa_cons (pe_op op_sub (pv 5) (pe_op op_sub (pe_op op_sub (pv 1) pe_int) (pv 6))) pa_nil))) pa_nil)))))
        (C8.pss_cut (ps_if (PW.pt (pw_and (pt_cmpR op_eq (pv 2) pe_int (nomark _)) (pw_and1 (pt_cmpR op_eq (pv 6) (pe_op op_sub (pv 1) pe_int) (nomark _)))))
          (pss_one (ps_set (i := 7) sc_number.nd rfl (Or.inl rfl) (pe_callB (call_min2 rfl) (by rfl) T.z_min (by decide +kernel) (pa_cons pe_int (pa_cons (pv 5) pa_nil)))))
          pss_nil)
        (pss_cons (ps_set (i := 4) sc_number.nd rfl (Or.inl rfl) (pe_op op_add_str (pv 4) (pe_callTy call_str_int (by rfl) T.z_str (by decide +kernel) (pa_cons (pv 7) pa_nil))))
        (pss_one (ps_set (i := 5) sc_number.nd rfl (Or.inl rfl) (pe_op op_sub (pv 5) (pv 7))))))))
      (pss_one (ps_ret (pv 4))))))))), ?_⟩
    refine ⟨_, rfl, b, n, 4, rfl, by decide, by decide, hbag, by omega, fun H1 d1 g0 g1 bag1 but1 => ?_⟩
    refine ⟨_, _, rfl, rfl, ?_⟩
    refine ⟨_, rfl, b, n + 1, 6, rfl, by decide, by decide, bag1, by omega, fun H2 way w0 w1 bag2 but2 => ?_⟩
    obtain ⟨top, et, t3, t9⟩ := top_at w0 w1
    refine ⟨by show 6 ≤ sizeLine; decide, fun t ht => ?_⟩
    refine ⟨_, rfl, t, _, _, _, rfl, rfl, SqL.of upd_same, et, ?_⟩
    have bag3 := bag2.keep (same_new (o := .lst [V.int 3, V.int 3, V.int 3, V.int 3, V.int 9, V.int 9]) ht)
    have but3 : But b H (upd H2 t (.lst [V.int 3, V.int 3, V.int 3, V.int 3, V.int 9, V.int 9])) := (but1.trans but2).trans (But.of (same_new ht))
    obtain ⟨many, em⟩ : ∃ many : Nat, (1 : Int) + d1 = (many : Nat) := ⟨(1 + d1).toNat, by omega⟩
    try dsimp only
    rw [em]
    have m1 : 1 ≤ many := by omega
    have m4 : many ≤ 4 := by omega
    refine ⟨_, rfl, _, rfl, by omega, by omega, ?_⟩
    rw [Int.toNat_natCast]
    refine for_range (fun i σ H' => ∃ (ds : List Nat) (vk vd : Option V), σ = [some (.ref b), some (.int (many : Nat)), some (.int way), some (.int top), some (.str (numS ds)), some (.int (24 - (ds.sum : Nat))), vk, vd] ∧
      ds.length = i ∧ (∀ d ∈ ds, 1 ≤ d ∧ d ≤ 9) ∧ ds.sum + (many - i) ≤ 24 ∧ Bag H' b (n + 2 + i) ∧ But b H H')
      ⟨[], none, none, by rw [numS_nil]; rfl, rfl, fun _ m => absurd m (List.not_mem_nil), by show 0 + (many - 0) ≤ 24; omega, bag3, but3⟩ (fun i σ H' hi hP => ?_) (fun σ H' hP => ?_)
    · obtain ⟨ds, vk, vd, rfl, el, hd, hs, bag, but⟩ := hP
      have eL : ((24 : Int) - (ds.sum : Nat)) - ((many : Nat) - 1 - (0 + (i : Nat))) = ((24 - ds.sum - (many - 1 - i) : Nat) : Int) := by omega
      -- the digit's draw
      refine ⟨_, rfl, _, rfl, _, rfl, _, rfl, _, _, rfl, rfl, _, rfl, _, _, rfl, rfl, _, _, rfl, rfl, _, _, rfl, ?_⟩
      (try dsimp only; rw [eL])
      generalize hlim : (if ((24 - ds.sum - (many - 1 - i) : Nat) : Int) < top then ((24 - ds.sum - (many - 1 - i) : Nat) : Int) else top) = lim
      have lim1 : 1 ≤ lim ∧ lim ≤ 9 ∧ lim ≤ ((24 - ds.sum - (many - 1 - i) : Nat) : Int) := by
        rw [← hlim]
        split <;> omega
      refine ⟨b, n + 2 + i, lim, rfl, by omega, by omega, bag, by omega, fun H3 g q0 q1 bag4 but4 => ?_⟩
      refine ⟨_, _, rfl, rfl, ?_⟩
      refine ⟨fun σ H4 => ∃ d : Nat, σ = [some (.ref b), some (.int (many : Nat)), some (.int way), some (.int top), some (.str (numS ds)), some (.int (24 - (ds.sum : Nat))), some (.int (0 + (i : Nat))), some (.int (d : Nat))] ∧
        (1 ≤ d ∧ d ≤ 9) ∧ ds.sum + d + (many - 1 - i) ≤ 24 ∧ H4 = H3, ?_, ?_⟩
      · have mid : ∃ d : Nat, (1 : Int) + g = (d : Nat) ∧ (1 ≤ d ∧ d ≤ 9) ∧ ds.sum + d + (many - 1 - i) ≤ 24 := ⟨(1 + g).toNat, by omega, by omega, by omega⟩
        obtain ⟨d, ed, hd9, hsum⟩ := mid
        (try dsimp only; rw [ed])
        refine ⟨_, rfl, rfl, _, rfl, ite2 (fun c1 => ?_) (fun c1 => ?_)⟩
        · refine ⟨_, rfl, _, rfl, _, _, rfl, rfl, rfl, _, rfl, ite2 (fun c2 => ?_) (fun c2 => ?_)⟩
          · refine ⟨_, rfl, _, _, rfl, ?_⟩
            have e2 : (0 : Int) + (i : Nat) = (many : Nat) - 1 := V.int.inj (of_decide_eq_true c2)
            have q : ∃ e : Nat, (if ((24 : Int) - (ds.sum : Nat)) < 9 then ((24 : Int) - (ds.sum : Nat)) else 9) = (e : Nat) ∧ (1 ≤ e ∧ e ≤ 9) ∧ ds.sum + e + (many - 1 - i) ≤ 24 := by
              split
              · exact ⟨24 - ds.sum, by omega, by omega, by omega⟩
              · exact ⟨9, rfl, by omega, by omega⟩
            obtain ⟨e, ee, he9, hes⟩ := q
            (try dsimp only; rw [ee])
            exact ⟨e, rfl, he9, hes, rfl⟩
          · exact ⟨d, rfl, hd9, hsum, rfl⟩
        · exact ⟨d, rfl, hd9, hsum, rfl⟩
      · rintro σ H4 ⟨d, rfl, hd9, hsum, rfl⟩
        refine ⟨_, rfl, _, rfl, _, rfl, dig_log hd9, _, _, rfl, rfl, ?_, ?_⟩
        · rw [dig_str hd9, numS_len, numS_len]
          exact Nat.le_of_lt (small1000 (by show ds.length + 1 ≤ 1000; omega))
        rw [dig_str hd9, numS_app]
        refine ⟨_, rfl, _, rfl, _, _, rfl, rfl, ?_⟩
        have e3 : (24 : Int) - (ds.sum : Nat) - (d : Nat) = 24 - ((ds ++ [d]).sum : Nat) := by rw [sum_snoc]; omega
        (try dsimp only; rw [e3])
        exact ⟨ds ++ [d], _, _, rfl, by rw [len_snoc, el], dig_snoc hd hd9, by rw [sum_snoc]; omega, bag4, but.trans but4⟩
    · obtain ⟨ds, vk, vd, rfl, el, hd, hs, bag, but⟩ := hP
      refine ⟨_, rfl, kk _ ds ⟨by omega, by omega, hd, by omega⟩ (bag.mono (by omega)) but⟩
end
end K09

namespace K09
open PySem L2 Wm TL Dv
section
variable {P : Program} {w : World} {K : PySem.W.Frag} {mg : Str → Option Value} {base : Heap}
theorem walk_rngL {lo : Int} {n : Nat} : Walk (Itr lo n) n (fun _ => True) (YAt ((List.range n).map fun (i : Nat) => V.int (lo + (i : Int)))) :=
  walk_range.mono (fun _ h => h) fun i H x H' hi _ y => ⟨y.1, by rw [List.getElem?_map, List.getElem?_range hi, y.2]; rfl⟩
theorem nodup_le {α : Type} [DecidableEq α] : ∀ (l D : List α), l.Nodup → (∀ x ∈ l, x ∈ D) → l.length ≤ D.length
  | [], _, _, _ => Nat.zero_le _
  | x :: l, D, hn, hs => by
    obtain ⟨h1, h2⟩ := List.nodup_cons.mp hn
    have hx : x ∈ D := hs x List.mem_cons_self
    have ih := nodup_le l (D.erase x) h2 fun y hy => by
      have hne : y ≠ x := fun e => h1 (e ▸ hy)
      exact (List.mem_erase_of_ne hne).2 (hs y (List.mem_cons_of_mem _ hy))
    have e := List.length_erase_of_mem hx
    have hp : 0 < D.length := List.length_pos_of_mem hx
    rw [List.length_cons]
    omega
def poolN (k : Nat) : List Nat := [k / 9 + 1, k % 9 + 1]
def pool : List Str := (List.range 81).map fun k => numS (poolN k)
theorem pool_str : ∀ k : Nat, k < 81 → Str.ofString (toString ((11 : Int) + (k : Int) + ((k : Int).fdiv 9))) = numS (poolN k) := by decide +kernel
theorem pool_small : ∀ k : Nat, k < 81 → ((11 : Int) + (k : Int) + ((k : Int).fdiv 9)).natAbs.log2 < 1920 := by decide +kernel
theorem pool_nd : pool.Nodup := by decide +kernel
theorem pool_len : pool.length = 81 := by unfold pool; rw [List.length_map, List.length_range]
theorem pool_num {k : Nat} (h : k < 81) : Num (poolN k) := ⟨by show 1 ≤ 2; omega, by show 2 ≤ 4; omega, fun d m => by
  rcases List.mem_cons.mp m with e | m
  · omega
  · rw [List.mem_singleton.mp m]; omega, by show k / 9 + 1 + (k % 9 + 1 + 0) ≤ 24; omega⟩
theorem pool_mem {x : Str} (h : x ∈ pool) : ∃ ds, Num ds ∧ x = numS ds := by
  obtain ⟨k, m, e⟩ := List.mem_map.mp h
  exact ⟨poolN k, pool_num (List.mem_range.mp m), e.symm⟩
theorem pool_ne {ts : List Str} (h : ts.length ≤ 40) : ∃ x r, (pool.filter fun x => !decide (x ∈ ts)) = x :: r ∧ x ∈ pool ∧ x ∉ ts := by
  cases e : pool.filter fun x => !decide (x ∈ ts) with
  | nil =>
    have q := nodup_le pool ts pool_nd fun x m => by
      have z := List.filter_eq_nil_iff.mp e x m
      simpa using z
    rw [pool_len] at q
    omega
  | cons x r =>
    have m : x ∈ pool.filter fun x => !decide (x ∈ ts) := by rw [e]; exact List.mem_cons_self
    obtain ⟨m1, m2⟩ := List.mem_filter.mp m
    exact ⟨x, r, rfl, m1, by simpa using m2⟩
theorem flat_strs (ts : List Str) : (ts.map V.str).all flatV = true := by
  rw [List.all_map]
  exact List.all_eq_true.mpr fun _ _ => rfl
theorem in_strs (x : Str) : ∀ ts : List Str, inV (.str x) (ts.map V.str) = decide (x ∈ ts)
  | [] => rfl
  | t :: ts => by
    have ih := in_strs x ts
    unfold inV at ih ⊢
    rw [List.map_cons, List.any_cons, ih]
    show ((t == x) || decide (x ∈ ts)) = _
    by_cases q : t = x
    · subst q
      simp
    · have q2 : ¬ x = t := fun e => q e.symm
      simp [q, q2]
theorem filt_yes {ts : List Str} {x : Str} (c : (if true = true then !decide (x ∈ ts) else decide (x ∈ ts)) = true) : ([x].filter fun x => !decide (x ∈ ts)) = [x] := List.filter_cons_of_pos (by simpa using c)
theorem filt_no {ts : List Str} {x : Str} (c : ¬ (if true = true then !decide (x ∈ ts) else decide (x ∈ ts)) = true) : ([x].filter fun x => !decide (x ∈ ts)) = [] := by
  rw [List.filter_cons_of_neg (by simpa using c)]
  rfl
theorem take_snoc {α : Type} {xs : List α} {i : Nat} {x : α} (h : xs[i]? = some x) : xs.take (i + 1) = xs.take i ++ [x] := by
  rw [List.take_add_one, h]
  rfl
theorem nums_mem {dss : List (List Nat)} {x : Str} (hN : ∀ ds ∈ dss, Num ds) (m : x ∈ dss.map numS) : ∃ ds, Num ds ∧ x = numS ds := by
  obtain ⟨ds, md, rfl⟩ := List.mem_map.mp m
  exact ⟨ds, hN ds md, rfl⟩
theorem ok_numbers (T : Txt K mg) : FnOk P w K mg base CX0 3 T.a_numbers T.d_numbers ["_law_bag_here", "_law_many"] (sp_numbers K) := by
  refine T.F_numbers.ok sc_numbers (fun vs H Q E h => ?_) (fun cdv A outer s H vs Q E hr h => ?_)
  · obtain ⟨b, n, many, rfl, _⟩ := h
    rfl
  · obtain ⟨b, n, many, rfl, m40, hbag, hn, kk⟩ := h
    refine ⟨_, (pss_cons (ps_set (i := 2) sc_numbers.nd rfl (Or.inr rfl) (pe_lst pa_nil))
      (pss_cons (ps_setLc (i := 3) (own := [("_law_k", 4)]) (g := gName 4) (tt := tYes) rfl sc_numbers.nd rfl rfl (sw_true rfl rfl rfl (by decide +kernel)) (pi_range1 (by rfl) T.z_range (pa_cons pe_int pa_nil)) (blkOk_by (own := [("_law_k", 4)]) (N := nm_numbers) (sc := (defScope s_numbers)) (by decide +kernel)) (fun _ _ _ _ _ => pg_name (i := 4) sc_numbers.nd rfl (Or.inl rfl)) (fun _ _ _ _ _ => pts_nil) (fun _ _ _ _ _ => (pe_callTy call_str_int (by rfl) T.z_str (by decide +kernel) (pa_cons (pe_op op_add (pe_op op_add pe_int (pv 4)) (pe_op op_fdivN (pv 4) pe_int)) pa_nil))))
      (pss_cons (ps_for PassesOwn.never rfl (pi_range1 (by rfl) T.z_range (pa_cons (pv 1) pa_nil)) (pg_name (i := 4) sc_numbers.nd rfl (Or.inl rfl))
        (pss_cons (ps_set (i := 5) sc_numbers.nd rfl (Or.inl rfl) (pe_call (ok_number T) (hr.mono (by decide)) (by rfl) T.g_number T.F_number.kp T.b_number .nil pass0 (pa_cons (pv 0) pa_nil)))
        (C8.pss_cut (ps_if (pt_cmpR op_in_seq (pv 5) (pv 2) rfl)
          (pss_cons (ps_setLc (i := 6) (own := [("_law_one", 7)]) (g := gName 7) rfl sc_numbers.nd rfl rfl (sw_true rfl rfl rfl (by decide +kernel)) (pi_list (pv 3)) (blkOk_by (own := [("_law_one", 7)]) (N := nm_numbers) (sc := (defScope s_numbers)) (by decide +kernel)) (fun _ _ _ _ _ => pg_name (i := 7) sc_numbers.nd rfl (Or.inl rfl)) (fun _ _ _ _ _ => (pts_one (pt_cmpR (show OpR _ _ (rIn K true) from op_notIn_seq) (pv 7) (pv 2) rfl))) (fun _ _ _ _ _ => (pv 7)))
          (pss_one (ps_set (i := 5) sc_numbers.nd rfl (Or.inl rfl) (pe_ix ix_list (pv 6) pe_int (fun _ _ => rfl)))))
          pss_nil)
        (pss_one (ps_expr (pe_bm PySem.F.plainAttrs_list PySem.F.slot_list_append PySem.F.type_list_append mt_append (pv 2) (pa_cons (pv 5) pa_nil)))))))
      (pss_one (ps_ret (pv 2)))))), ?_⟩
    refine ⟨Nat.zero_le _, fun f hf => ?_⟩
    have fb : f ≠ b := fun e => by
      obtain ⟨_, _, _, _, _, _, hb, _⟩ := hbag
      rw [e, hb] at hf
      cases hf
    have hf1 : upd H f (.lst []) f = some (.lst []) := upd_same
    have s1 : Same H (upd H f (.lst [])) := same_new hf
    generalize upd H f (.lst []) = H1 at *
    refine ⟨_, rfl, by decide, by decide, fun D hD => ?_⟩
    refine Lm.lc_map (K := K) (walk_rngL (lo := 0) (n := 81)) (fun i y _ => (pool.map V.str)[i]? = some y) (fun _ _ _ _ h _ => h) hD (by decide) (fun _ _ => trivial) (fun i x H' hi hx sm Q2 Z q => ?_) (fun H2 ys s2 hy ly hR => ?_)
    · rw [List.getElem?_map, List.getElem?_range hi] at hx
      cases Option.some.inj hx
      refine ⟨rfl, yesT ?_⟩
      refine ⟨_, rfl, _, _, rfl, rfl, _, rfl, _, _, rfl, rfl, ⟨by decide, by decide⟩, _, _, rfl, rfl, ?_⟩
      rw [Int.zero_add]
      refine ⟨_, rfl, pool_small i hi, ?_⟩
      rw [pool_str i hi]
      refine q _ _ (Same.refl _) ?_
      unfold pool
      rw [List.getElem?_map, List.getElem?_map, List.getElem?_range hi]
      rfl
    have ey : ys = pool.map V.str := Lm.list_is (by rw [ly, List.length_map, pool_len]) hR
    subst ey
    have s02 := s1.trans s2
    have hf2 := s2 _ _ hf1
    have hD0 : H D = none := s1.free hD
    have bag2 := hbag.keep s02
    have db : D ≠ b := fun e => by
      obtain ⟨_, _, _, _, _, _, hb, _⟩ := hbag
      rw [e, hb] at hD0
      cases hD0
    have df : D ≠ f := fun e => by
      rw [e, hf1] at hD
      cases hD
    refine ⟨_, rfl, _, rfl, by omega, by omega, ?_⟩
    rw [Int.toNat_natCast]
    refine for_range (fun i σ H' => ∃ (dss : List (List Nat)) (v4 v5 v6 : Option V), σ = [some (.ref b), some (.int (many : Nat)), some (.ref f), some (.ref D), v4, v5, v6, none] ∧ dss.length = i ∧ (∀ ds ∈ dss, Num ds) ∧ (dss.map numS).Nodup ∧
      H' f = some (.lst ((dss.map numS).map V.str)) ∧ H' D = some (.lst (pool.map V.str)) ∧ Bag H' b (n + 6 * i) ∧ But b H H')
      ⟨[], none, none, none, rfl, rfl, by simp, by simp, hf2, hy, bag2, But.of s02⟩ (fun i σ H3 hi hP => ?_) (fun σ H3 hP => ?_)
    · obtain ⟨dss, v4, v5, v6, rfl, el, hN, nd, hF, hS, bag, but⟩ := hP
      refine ⟨_, rfl, b, n + 6 * i, rfl, bag, by omega, fun H4 ds nm bag4 but4 => ?_⟩
      have hF4 := but4.keep _ _ fb hF
      have hS4 := but4.keep _ _ db hS
      have but5 := but.trans but4
      refine ⟨fun σ H5 => ∃ (ds : List Nat) (v6 : Option V), Num ds ∧ numS ds ∉ dss.map numS ∧ σ = [some (.ref b), some (.int (many : Nat)), some (.ref f), some (.ref D), some (.int (0 + (i : Nat))), some (.str (numS ds)), v6, none] ∧
        H5 f = some (.lst ((dss.map numS).map V.str)) ∧ H5 D = some (.lst (pool.map V.str)) ∧ Bag H5 b (n + 6 * i + 6) ∧ But b H H5, ?_, ?_⟩
      · refine ⟨_, rfl, _, rfl, f, _, rfl, .inl (SqL.of hF4), rfl, flat_strs _, _, rfl, ite2 (fun c => ?_) (fun c => ?_)⟩
        · refine ⟨_, rfl, D, rfl, ⟨_, SqL.of hS4⟩, fun A1 hA1 => ?_⟩
          refine lc_list (xs := pool.map V.str) (fun i H' => Same H4 H' ∧ H' A1 = some (.lst (((pool.take i).filter fun x => !decide (x ∈ dss.map numS)).map V.str))) ⟨same_new hA1, upd_same⟩ (fun i H3 _ hP => SqL.of (hP.1 _ _ hS4)) (fun i x H3 hx hP => ?_) (fun H3 hP => ?_)
          · obtain ⟨sm, hq⟩ := hP
            rw [List.getElem?_map] at hx
            obtain ⟨x, hx1, rfl⟩ := Option.map_eq_some_iff.mp hx
            have hi : i < 81 := by rw [← pool_len]; exact (List.getElem?_eq_some_iff.mp hx1).1
            have lq : ((pool.take i).filter fun x => !decide (x ∈ dss.map numS)).length ≤ 81 := Nat.le_trans (List.length_filter_le _ _) (by rw [List.length_take]; omega)
            have sn := take_snoc hx1
            refine ⟨rfl, ?_⟩
            refine ⟨_, rfl, _, rfl, f, _, rfl, .inl (SqL.of (sm _ _ hF4)), rfl, flat_strs _, _, rfl, ite2 (fun c => ?_) (fun c => ?_)⟩
            · rw [in_strs] at c
              refine ⟨_, rfl, _, hq, by rw [List.length_map]; exact small1000 (by omega), same_mut sm hA1, ?_⟩
              rw [upd_same, sn, List.filter_append, List.map_append, filt_yes c]
              rfl
            · rw [in_strs] at c
              refine ⟨sm, ?_⟩
              rw [hq, sn, List.filter_append, filt_no c, List.append_nil]
          obtain ⟨s3, h3⟩ := hP
          rw [List.length_map, List.take_length] at h3
          obtain ⟨x, r, e, mp, nin⟩ := pool_ne (ts := dss.map numS) (by rw [List.length_map]; omega)
          rw [e] at h3
          obtain ⟨es, ne, rfl⟩ := pool_mem mp
          refine ⟨_, rfl, A1, _, 0, _, rfl, rfl, SqL.of h3, atI_nat (j := 0) rfl, ?_⟩
          exact ⟨es, _, ne, nin, rfl, s3 _ _ hF4, s3 _ _ hS4, bag4.keep s3, but5.trans (But.of s3)⟩
        · rw [in_strs] at c
          exact ⟨ds, _, nm, by simpa using c, rfl, hF4, hS4, bag4, but5⟩
      · rintro σ H5 ⟨ds, v6, nm, nin, rfl, hF5, hS5, bag5, but5⟩
        refine ⟨_, rfl, .inl ⟨rfl, _, SqL.of hF5⟩, _, rfl, f, _, _, rfl, rfl, hF5, small1000 (by rw [List.length_map, List.length_map]; omega), ?_⟩
        refine ⟨dss ++ [ds], _, _, _, rfl, by rw [List.length_append, el]; rfl, fun x m => ?_, ?_, ?_, ?_, Bag.put hbag hf but5 (bag5.mono (by omega)), but5.put hf⟩
        · rcases List.mem_append.mp m with m | m
          · exact hN x m
          · rw [List.mem_singleton.mp m]
            exact nm
        · rw [List.map_append]
          refine List.nodup_append.mpr ⟨nd, by simp, fun x m y my => ?_⟩
          have ey : y = numS ds := by simpa using my
          intro e
          exact nin (by rw [← ey, ← e]; exact m)
        · rw [upd_same, List.map_append, List.map_append (f := V.str)]
          rfl
        · rw [upd_ne df]
          exact hS5
    · obtain ⟨dss, v4, v5, v6, rfl, el, hN, nd, hF, hS, bag, but⟩ := hP
      exact ⟨_, rfl, kk _ f dss el hN nd hf hF bag but⟩
end
end K09

namespace K09
open PySem L2 Wm TL Dv
section
variable {P : Program} {w : World} {K : PySem.W.Frag} {mg : Str → Option Value} {base : Heap}
theorem But.free {H H' : Hp} {b p : Addr} {n m : Nat} (bag' : Bag H' b n) (e : But b H H') (bag : Bag H b m) (h : H' p = none) : H p = none := by
  cases q : H p with
  | none => rfl
  | some o =>
    by_cases c : p = b
    · obtain ⟨_, _, _, _, _, _, hb, _⟩ := bag'
      rw [c, hb] at h
      cases h
    · rw [e.keep p o c q] at h
      cases h
theorem ok_rules (T : Txt K mg) : FnOk P w K mg base CX0 2 T.a_rules T.d_rules ["_law_bag_here"] (sp_rules K) := by
  refine T.F_rules.ok sc_rules (fun vs H Q E h => ?_) (fun cdv A outer s H vs Q E hr h => ?_)
  · obtain ⟨b, n, rfl, _⟩ := h
    rfl
  · obtain ⟨b, n, rfl, hbag, hn, kk⟩ := h
    refine ⟨_, (pss_cons (ps_set (i := 1) sc_rules.nd rfl (Or.inl rfl) (pe_op op_add pe_int (pe_call (ok_draw T) (hr.mono (by decide)) (by rfl) T.g_draw T.F_draw.kp T.b_draw .nil pass0 (pa_cons (pv 0) (pa_cons pe_int pa_nil)))))
      (pss_one (ps_ret (pe_lst (pa_cons (pv 1) (pa_cons (pe_op op_add pe_int (pe_call (ok_draw T) (hr.mono (by decide)) (by rfl) T.g_draw T.F_draw.kp T.b_draw .nil pass0 (pa_cons (pv 0) (pa_cons (pe_callB (call_min2 rfl) (by rfl) T.z_min (by decide +kernel) (pa_cons pe_int (pa_cons (pv 1) pa_nil))) pa_nil)))) pa_nil)))))), ?_⟩
    refine ⟨_, rfl, b, n, 8, rfl, by decide, by decide, hbag, by omega, fun H1 d1 g0 g1 bag1 but1 => ?_⟩
    refine ⟨_, _, rfl, rfl, ?_⟩
    refine ⟨_, rfl, _, rfl, _, rfl, _, _, rfl, ?_⟩
    have lim : ∃ l : Int, (if (1 : Int) + d1 < 2 then 1 + d1 else 2) = l ∧ 1 ≤ l ∧ l ≤ 2 ∧ l ≤ 1 + d1 := by
      split
      · exact ⟨_, rfl, by omega, by omega, by omega⟩
      · exact ⟨_, rfl, by omega, by omega, by omega⟩
    obtain ⟨l, el, l1, l2, l3⟩ := lim
    rw [el]
    refine ⟨b, n + 1, l, rfl, by omega, by omega, bag1, by omega, fun H2 d2 e0 e1 bag2 but2 => ?_⟩
    refine ⟨_, _, rfl, rfl, by show 2 ≤ sizeLine; decide, fun p hp => ?_⟩
    exact kk _ p (1 + d1) (1 + d2) (by omega) (by omega) (by omega) (by omega) (by omega) (But.free bag2 (but1.trans but2) hbag hp) upd_same (bag2.keep (same_new hp)) ((but1.trans but2).trans (But.of (same_new hp)))
theorem ok_told (T : Txt K mg) : FnOk P w K mg base CX0 1 T.a_told T.d_told ["_law_loops_here"] (sp_told K) := by
  refine T.F_told.ok sc_told (fun vs H Q E h => ?_) (fun cdv A outer s H vs Q E hr h => ?_)
  · obtain ⟨p, xs, ls, rfl, _⟩ := h
    rfl
  · obtain ⟨p, xs, ls, rfl, hS, el, ha, hl, k⟩ := h
    refine ⟨_, (pss_one (ps_ret (pe_callTy call_tuple_of (by rfl) T.z_tuple (by decide +kernel) (pa_cons (pe_lc (own := [("_law_loop", 1)]) (g := gName 1) (tt := tYes) rfl sc_told.nd (pi_list (pv 0)) (blkOk_by (own := [("_law_loop", 1)]) (N := nm_told) (sc := (defScope s_told)) (by decide +kernel)) (fun _ _ _ _ _ => pg_name (i := 1) sc_told.nd rfl (Or.inl rfl)) (fun _ _ _ _ _ => pts_nil) (fun _ _ _ _ _ => (pe_callTy (show CallR _ _ (Kx.rTupOf K) from call_tuple_of) (by rfl) T.z_tuple (by decide +kernel) (pa_cons (pv 1) pa_nil)))) pa_nil)))), ?_⟩
    refine ⟨_, rfl, p, rfl, ⟨_, hS⟩, fun D hD => ?_⟩
    refine Lm.lc_map (K := K) walk_list (fun i y H' => ∃ d, (ls.map loopD)[i]? = some d ∧ Dt K H' y d) (fun _ _ _ _ ⟨d, e, t⟩ kt => ⟨d, e, t.k kt⟩) hD (by omega) (fun H' s => Hf.keepL s hS) (fun i x H' hi hx sm Q2 Z q2 => ?_) (fun H2 ys s2 hy ly hR => ?_)
    · obtain ⟨l, hl2, tl⟩ := ha i x hx
      obtain ⟨q, zs, t, rfl, hq, hz⟩ := tl.k sm
      have e : (ls.map loopD)[i]? = some (loopD l) := by rw [List.getElem?_map, hl2]; rfl
      refine ⟨rfl, yesT ?_⟩
      cases t with
      | true => exact ⟨_, rfl, q, zs, rfl, .inr ⟨hq, q2 _ _ (Same.refl _) ⟨_, e, .tup hq hz⟩⟩⟩
      | false => exact ⟨_, rfl, q, zs, rfl, .inl ⟨hq, fun u hu => q2 _ _ (same_new hu) ⟨_, e, dt_tup upd_same (hz.k (Kt.new hu))⟩⟩⟩
    have hds := dts_of (by rw [ly, el, List.length_map]) hR
    exact ⟨D, ys, rfl, .inl ⟨SqL.of hy, fun u hu => k _ _ (s2.trans (same_new hu)) (dt_tup upd_same (hds.k (Kt.new hu)))⟩⟩
end
end K09

namespace K09
open PySem L2 Wm TL Dv
section
variable {P : Program} {w : World} {K : PySem.W.Frag} {mg : Str → Option Value} {base : Heap}
def nV (z : Nat) : V := V.int (z : Int)
theorem lim_at (k : Bool) : ∃ lim : Int, atI [V.int 4, V.int 10] (if k = true then 1 else 0) = some (.int lim) ∧ 4 ≤ lim ∧ lim ≤ 10 := by
  cases k
  · exact ⟨4, rfl, by decide, by decide⟩
  · exact ⟨10, rfl, by decide, by decide⟩
theorem nV_int (sz : List Nat) : sz.map nV = (sz.map fun (z : Nat) => (z : Int)).map V.int := by rw [List.map_map]; rfl
theorem sum_nat : ∀ sz : List Nat, (sz.map fun (z : Nat) => (z : Int)).sum = ((sz.sum : Nat) : Int)
  | [] => rfl
  | z :: sz => by
    rw [List.map_cons, List.sum_cons, List.sum_cons, sum_nat sz]
    omega
theorem sum_le : ∀ sz : List Nat, (∀ z ∈ sz, 1 ≤ z ∧ z ≤ 10) → sz.sum ≤ 10 * sz.length
  | [], _ => Nat.le_refl _
  | z :: sz, h => by
    have h1 := h z (by simp)
    have h2 := sum_le sz fun y m => h y (List.mem_cons_of_mem _ m)
    rw [List.sum_cons, List.length_cons]
    omega
theorem collect {K : PySem.W.Frag} {H : Hp} : ∀ (ys : List V) (rest : List (List Nat)), (∀ (i : Nat) y, ys[i]? = some y → ∃ bx : Box, rest[i]? = some bx.1 ∧ Dt K H y (boxD bx)) → ∃ l : List Box, Dts K H ys (l.map boxD) ∧ l.map Prod.fst = rest.take ys.length
  | [], rest, _ => ⟨[], .nil, by simp⟩
  | y :: ys, [], h => by
    obtain ⟨bx, e, _⟩ := h 0 y rfl
    cases e
  | y :: ys, d :: rest, h => by
    obtain ⟨bx, e, t⟩ := h 0 y rfl
    obtain ⟨l, hl, el⟩ := collect ys rest fun i z hz => by simpa using h (i + 1) z (by simpa using hz)
    refine ⟨bx :: l, .cons t hl, ?_⟩
    have e : d = bx.1 := by simpa using e
    rw [List.map_cons, el, List.length_cons, List.take_succ_cons, e]
theorem sort_at (k : Int) (h0 : 0 ≤ k) (h1 : k < 2) : ∃ s : Bool, atI [V.str "plain", V.str "shy"] k = some (.str (sortS s)) := by
  have c : k = 0 ∨ k = 1 := by omega
  rcases c with e | e <;> subst e
  · exact ⟨false, rfl⟩
  · exact ⟨true, rfl⟩
/-- a new loop, not at t -/
def NL (K : PySem.W.Frag) (H H' : Hp) (t : Addr) (v : V) (l : List Box) : Prop := ∃ q ys, v = .ref q ∧ q ≠ t ∧ H q = none ∧ H' q = some (.lst ys) ∧ Dts K H' ys (l.map boxD)
theorem NL.k {K : PySem.W.Frag} {H H1 H2 : Hp} {t b : Addr} {v : V} {l : List Box} {n m : Nat} (bag0 : Bag H b m) (bag : Bag H1 b n) (e : But b H1 H2) (h : NL K H H1 t v l) : NL K H H2 t v l := by
  obtain ⟨q, ys, rfl, qt, h0, h1, hd⟩ := h
  exact ⟨q, ys, rfl, qt, h0, e.keep _ _ (Lm.bag_off bag0 h0) h1, hd.k (Lm.kt_but bag e)⟩
theorem NL.lst {K : PySem.W.Frag} {H H1 : Hp} {t : Addr} {v : V} {l : List Box} {zs : List V} {o : HO} (ht : H1 t = some (.lst zs)) (h : NL K H H1 t v l) : NL K H (upd H1 t o) t v l := by
  obtain ⟨q, ys, rfl, qt, h0, h1, hd⟩ := h
  exact ⟨q, ys, rfl, qt, h0, by rw [upd_ne qt]; exact h1, hd.k (Kt.lst ht)⟩
theorem NL.same {K : PySem.W.Frag} {H H1 H2 : Hp} {t : Addr} {v : V} {l : List Box} (e : Same H1 H2) (h : NL K H H1 t v l) : NL K H H2 t v l := by
  obtain ⟨q, ys, rfl, qt, h0, h1, hd⟩ := h
  exact ⟨q, ys, rfl, qt, h0, e _ _ h1, hd.k (Kt.same e)⟩
theorem cut_from (xs : List V) (z : Nat) (h : z ≤ xs.length) : cutV xs (some (z : Int)) none = xs.drop z := by
  unfold cutV
  rw [HT.sIx_nat, HT.sIx_none, Nat.min_eq_left h, List.take_of_length_le (by rw [List.length_drop]; omega)]
theorem flat_fst : ∀ ls : List (List Box), (ls.flatten.map fun b => numS b.1) = (ls.flatten.map Prod.fst).map numS := fun ls => by rw [List.map_map]; rfl
theorem rest_len {ls : List (List Box)} {rest dss : List (List Nat)} {sz : List Nat} {i : Nat} (e1 : ls.flatten.map Prod.fst ++ rest = dss) (e2 : ls.map List.length = sz.take i) (e3 : dss.length = sz.sum) : rest.length = (sz.drop i).sum := by
  have h1 : (ls.flatten.map Prod.fst).length + rest.length = sz.sum := by rw [← List.length_append, e1, e3]
  rw [List.length_map, List.length_flatten, e2] at h1
  have h2 : (sz.take i).sum + (sz.drop i).sum = sz.sum := by rw [← List.sum_append, List.take_append_drop]
  omega
theorem ok_loops (T : Txt K mg) : FnOk P w K mg base CX0 4 T.a_loops T.d_loops ["_law_bag_here"] (sp_loops K) := by
  refine T.F_loops.ok sc_loops (fun vs H Q E h => ?_) (fun cdv A outer s H vs Q E hr h => ?_)
  · obtain ⟨b, n, rfl, _⟩ := h
    rfl
  · obtain ⟨b, n, rfl, hbag, hn, kk⟩ := h
    refine ⟨_, (pss_cons (ps_set (i := 1) sc_loops.nd rfl (Or.inl rfl) (pe_lst pa_nil))
      (pss_cons (ps_for PassesOwn.never rfl (pi_range1 (by rfl) T.z_range (pa_cons (pe_op op_add pe_int (pe_call (ok_draw T) (hr.mono (by decide)) (by rfl) T.g_draw T.F_draw.kp T.b_draw .nil pass0 (pa_cons (pv 0) (pa_cons pe_int pa_nil)))) pa_nil)) (pg_name (i := 2) sc_loops.nd rfl (Or.inl rfl))
        (pss_one (ps_expr (pe_bm PySem.F.plainAttrs_list PySem.F.slot_list_append PySem.F.type_list_append mt_append (pv 1) (pa_cons (pe_op op_add pe_int (pe_call (ok_draw T) (hr.mono (by decide)) (by rfl) T.g_draw T.F_draw.kp T.b_draw .nil pass0 (pa_cons (pv 0) (pa_cons (pe_ix ix_list (pe_lst (pa_cons pe_int (pa_cons pe_int pa_nil))) (pe_callTy call_int1 (by rfl) T.z_int (by decide +kernel) (pa_cons (pe_cmpR op_eq (pe_call (ok_draw T) (hr.mono (by decide)) (by rfl) T.g_draw T.F_draw.kp T.b_draw .nil pass0 (pa_cons (pv 0) (pa_cons pe_int pa_nil))) pe_int (nomark _)) pa_nil)) (fun _ _ => rfl)) pa_nil)))) pa_nil)))))
      (pss_cons (ps_set (i := 3) sc_loops.nd rfl (Or.inr rfl) (pe_call (ok_numbers T) (hr.mono (by decide)) (by rfl) T.g_numbers T.F_numbers.kp T.b_numbers .nil pass0 (pa_cons (pv 0) (pa_cons (pe_callB (cr_sum rfl) (by rfl) T.z_sum (by decide +kernel) (pa_cons (pv 1) pa_nil)) pa_nil))))
      (pss_cons (ps_set (i := 4) sc_loops.nd rfl (Or.inl rfl) (pe_lst pa_nil))
      (pss_cons (ps_for PassesOwn.never rfl (pi_list (pv 1)) (pg_name (i := 5) sc_loops.nd rfl (Or.inl rfl))
        (pss_cons (ps_expr (pe_bm PySem.F.plainAttrs_list PySem.F.slot_list_append PySem.F.type_list_append mt_append (pv 4) (pa_cons (pe_lc (own := [("_law_k", 2)]) (g := gName 2) (tt := tYes) rfl sc_loops.nd (pi_range1 (by rfl) T.z_range (pa_cons (pv 5) pa_nil)) (blkOk_by (own := [("_law_k", 2)]) (N := nm_loops) (sc := (defScope s_loops)) (by decide +kernel)) (fun _ _ _ _ _ => pg_name (i := 2) sc_loops.nd rfl (Or.inl rfl)) (fun _ _ _ _ _ => pts_nil) (fun _ _ _ _ _ => (pe_tup (pa_cons (pe_ix (show IxR _ (rIxL K) from ix_list) (pv 3) (pv 2) (fun _ _ => rfl)) (pa_cons (pe_ix (show IxR _ (rIxL K) from ix_list) (pe_lst (pa_cons pe_str (pa_cons pe_str pa_nil))) (pe_call (ok_draw T) (hr.mono (by decide)) (by rfl) T.g_draw T.F_draw.kp T.b_draw .nil pass0 (pa_cons (pv 0) (pa_cons pe_int pa_nil))) (fun _ _ => rfl)) pa_nil))))) pa_nil)))
        (pss_one (ps_set (i := 3) sc_loops.nd rfl (Or.inr rfl) (pe_slice sl_list (pv 3) (po_some (pv 5)) po_none)))))
      (pss_one (ps_ret (pv 4)))))))), ?_⟩
    refine ⟨Nat.zero_le _, fun s1 hs1 => ?_⟩
    have hS1 : upd H s1 (.lst []) s1 = some (.lst []) := upd_same
    have sb := Lm.bag_off hbag hs1
    have sm1 : Same H (upd H s1 (.lst [])) := same_new hs1
    generalize upd H s1 (.lst []) = H1 at *
    refine ⟨_, rfl, b, n, 3, rfl, by decide, by decide, hbag.keep sm1, by omega, fun H2 d1 g0 g1 bag2 but2 => ?_⟩
    obtain ⟨many, em⟩ : ∃ many : Nat, (1 : Int) + d1 = (many : Nat) := ⟨(1 + d1).toNat, by omega⟩
    refine ⟨_, _, rfl, rfl, _, rfl, by omega, by omega, ?_⟩
    rw [em, Int.toNat_natCast]
    have hS2 := but2.keep _ _ sb hS1
    have butA := (But.of sm1).trans but2
    refine for_range (fun i σ H' => ∃ (sz : List Nat) (v2 : Option V), σ = [some (.ref b), some (.ref s1), v2, none, none, none] ∧ sz.length = i ∧ (∀ z ∈ sz, 1 ≤ z ∧ z ≤ 10) ∧ H' s1 = some (.lst (sz.map nV)) ∧ Bag H' b (n + 1 + 2 * i) ∧ But b H H')
      ⟨[], none, rfl, rfl, by simp, hS2, bag2, butA⟩ (fun i σ H3 hi hP => ?_) (fun σ H3 hP => ?_)
    · obtain ⟨sz, v2, rfl, el, hz, hS, bag, but⟩ := hP
      refine ⟨_, rfl, .inl ⟨rfl, _, SqL.of hS⟩, ?_⟩
      refine ⟨_, rfl, by show 2 ≤ sizeLine; decide, fun q hq => ?_⟩
      have qb := Lm.bag_off bag hq
      have hS4 := at_old (u := .lst [.int 4, .int 10]) hS hq
      have hq4 : upd H3 q (.lst [.int 4, .int 10]) q = some (.lst [.int 4, .int 10]) := upd_same
      have bag4 := bag.keep (same_new (o := .lst [.int 4, .int 10]) hq)
      have but4 := but.trans (But.of (same_new (o := .lst [.int 4, .int 10]) hq))
      generalize upd H3 q (.lst [.int 4, .int 10]) = H4 at *
      refine ⟨_, rfl, b, _, 6, rfl, by decide, by decide, bag4, by omega, fun H5 d5 e0 e1 bag5 but5 => ?_⟩
      obtain ⟨lim, al, l4, l10⟩ := lim_at (decide (V.int d5 = V.int 0))
      refine ⟨rfl, .inr ⟨_, rfl, q, _, _, _, rfl, rfl, SqL.of (but5.keep _ _ qb hq4), al, ?_⟩⟩
      refine ⟨b, _, lim, rfl, by omega, by omega, bag5, by omega, fun H6 d6 f0 f1 bag6 but6 => ?_⟩
      have hS6 := but6.keep _ _ sb (but5.keep _ _ sb hS4)
      obtain ⟨z, ez⟩ : ∃ z : Nat, (1 : Int) + d6 = (z : Nat) := ⟨(1 + d6).toNat, by omega⟩
      refine ⟨_, _, rfl, rfl, s1, _, _, rfl, rfl, hS6, small1000 (by rw [List.length_map]; omega), ?_⟩
      refine ⟨sz ++ [z], _, rfl, by rw [List.length_append, el]; rfl, fun y m => ?_, ?_, Bag.put hbag hs1 ((but4.trans but5).trans but6) (bag6.mono (by omega)), ((but4.trans but5).trans but6).put hs1⟩
      · rcases List.mem_append.mp m with m | m
        · exact hz y m
        · rw [List.mem_singleton.mp m]
          omega
      · rw [upd_same, List.map_append]
        show some (HO.lst (sz.map nV ++ [.int (1 + d6)])) = _
        rw [ez]
        rfl
    obtain ⟨sz, v2, rfl, el, hz, hS, bag, but⟩ := hP
    have sl := sum_le sz hz
    refine ⟨_, rfl, _, rfl, s1, _, rfl, SqL.of (by rw [hS, nV_int]), ?_⟩
    rw [sum_nat]
    refine ⟨b, n + 1 + 2 * many, sz.sum, rfl, by omega, bag, by omega, fun H4 u dss ed hN nd hu0 hu bag4 but4 => ?_⟩
    have hS4 := but4.keep _ _ sb hS
    have hu0' : H u = none := But.free bag but hbag hu0
    have us : u ≠ s1 := fun e => by
      rw [e, hS] at hu0
      cases hu0
    have but5 := but.trans but4
    refine ⟨Nat.zero_le _, fun t ht => ?_⟩
    have ht0 : H t = none := But.free bag4 but5 hbag ht
    have tu : t ≠ u := fun e => by
      rw [e, hu] at ht
      cases ht
    have ts : t ≠ s1 := fun e => by
      rw [e, hS4] at ht
      cases ht
    refine ⟨_, rfl, s1, rfl, ⟨_, SqL.of (at_old hS4 ht)⟩, ?_⟩
    refine for_list (xs := sz.map nV) (fun i σ H' => ∃ (ls : List (List Box)) (xs : List V) (rest : List (List Nat)) (w : Addr) (v2 v5 : Option V), σ = [some (.ref b), some (.ref s1), v2, some (.ref w), some (.ref t), v5] ∧ ls.length = i ∧ xs.length = i ∧ H' t = some (.lst xs) ∧
      (∀ (j : Nat) v, xs[j]? = some v → ∃ l, ls[j]? = some l ∧ NL K H H' t v l) ∧ ls.flatten.map Prod.fst ++ rest = dss ∧ ls.map List.length = sz.take i ∧ w ≠ t ∧ w ≠ b ∧ H' w = some (.lst ((rest.map numS).map V.str)) ∧ H' s1 = some (.lst (sz.map nV)) ∧
      Bag H' b (n + 1 + 2 * many + 6 * sz.sum + 20 * i) ∧ But b H H')
      ⟨[], [], dss, u, v2, none, rfl, rfl, rfl, upd_same, fun (j : Nat) (v : V) e => by simp at e, rfl, by simp, tu.symm, Lm.bag_off hbag hu0', by rw [upd_ne tu.symm]; exact hu, by rw [upd_ne ts.symm]; exact hS4, (bag4.keep (same_new ht)).mono (by omega), but5.trans (But.of (same_new ht))⟩
      (fun i σ H5 _ hP => ?_) (fun i x σ H5 hx hP => ?_) (fun σ H5 hP => ?_)
    · obtain ⟨ls, xs, rest, w, v2, v5, rfl, e1, e2, hT, hL, e3, e4, wt, wb, hw, hS5, bag5, but5⟩ := hP
      exact SqL.of hS5
    · obtain ⟨ls, xs, rest, w, v2, v5, rfl, e1, e2, hT, hL, e3, e4, wt, wb, hw, hS5, bag5, but5⟩ := hP
      rw [List.getElem?_map] at hx
      obtain ⟨z, hz1, rfl⟩ := Option.map_eq_some_iff.mp hx
      have hi : i < sz.length := (List.getElem?_eq_some_iff.mp hz1).1
      have z10 := hz z (List.mem_of_getElem? hz1)
      have rl := rest_len e3 e4 ed
      have dz : sz.drop i = z :: sz.drop (i + 1) := by
        rw [List.drop_eq_getElem_cons hi]
        congr 1
        have := List.getElem?_eq_getElem hi
        rw [hz1] at this
        exact (Option.some.inj this).symm
      rw [dz, List.sum_cons] at rl
      have rl30 : rest.length ≤ 30 := by
        have := (congrArg List.length e3).trans ed
        rw [List.length_append] at this
        omega
      refine ⟨_, rfl, .inl ⟨rfl, _, SqL.of hT⟩, ?_⟩
      refine ⟨_, rfl, _, rfl, by omega, by omega, fun D hD => ?_⟩
      have Dt' : D ≠ t := fun e => by
        rw [e, hT] at hD
        cases hD
      have D0 : H D = none := But.free bag5 but5 hbag hD
      have hn : ((z : Nat) : Int).toNat = z := Int.toNat_natCast z
      rw [hn]
      refine Lm.lc_bag (K := K) (c := 1) (walk_rngL (lo := 0) (n := z)) (fun k y H' => ∃ bx : Box, rest[k]? = some bx.1 ∧ Dt K H' y (boxD bx)) (fun k y A B ⟨bx, e, d⟩ kt => ⟨bx, e, d.k kt⟩) hD bag5 (by omega) (fun _ _ => trivial)
        (fun k y A hk hy bA gA Q2 Z q2 => ?_) (fun A ys bA gA hy ly hR => ?_)
      · rw [List.getElem?_map, List.getElem?_range hk] at hy
        cases Option.some.inj hy
        have kl : k < rest.length := by omega
        have hw2 := bA.keep _ _ wb hw
        refine ⟨rfl, yesT ?_⟩
        refine ⟨_, rfl, _, rfl, w, _, ((k : Nat) : Int), _, rfl, by show V.int (0 + (k : Int)) = _; rw [Int.zero_add], SqL.of hw2, atI_nat (show ((rest.map numS).map V.str)[k]? = some (.str (numS rest[k])) by rw [List.getElem?_map, List.getElem?_map, List.getElem?_eq_getElem kl]; rfl), ?_⟩
        refine ⟨by show 2 ≤ sizeLine; decide, fun q hq => ?_⟩
        have qb := Lm.bag_off gA hq
        have gA2 := gA.keep (same_new (o := .lst [V.str "plain", V.str "shy"]) hq)
        have bA2 : But b A (upd A q (.lst [V.str "plain", V.str "shy"])) := But.of (same_new hq)
        have hq2 : upd A q (.lst [V.str "plain", V.str "shy"]) q = some (.lst [V.str "plain", V.str "shy"]) := upd_same
        refine ⟨_, rfl, b, _, 2, rfl, by decide, by decide, gA2, by omega, fun A3 dd d0 d1 gA3 bA3 => ?_⟩
        obtain ⟨sb, hsb⟩ := sort_at dd d0 d1
        refine ⟨q, _, _, _, rfl, rfl, SqL.of (bA3.keep _ _ qb hq2), hsb, ?_⟩
        refine ⟨by show 2 ≤ sizeLine; decide, fun p9 hp9 => ?_⟩
        exact q2 _ _ ((bA2.trans bA3).trans (But.of (same_new hp9))) ((gA3.keep (same_new hp9)).mono (by omega)) ⟨(rest[k], sb), List.getElem?_eq_getElem kl, dt_tup upd_same (.cons (.str _) (.cons (.str _) .nil))⟩
      · obtain ⟨l, hl, el⟩ := collect ys rest hR
        have tA := bA.keep _ _ (Lm.bag_off hbag ht0) hT
        have tb := Lm.bag_off hbag ht0
        refine ⟨t, _, _, rfl, rfl, tA, small1000 (by omega), ?_⟩
        refine ⟨_, rfl, _, rfl, _, rfl, w, _, rfl, SqL.of (by rw [upd_ne wt]; exact bA.keep _ _ wb hw), fun p hp => ?_⟩
        have pt : p ≠ t := fun e => by
          rw [e, upd_same] at hp
          cases hp
        have lw : z ≤ ((rest.map numS).map V.str).length := by rw [List.length_map, List.length_map]; omega
        rw [show nV z = V.int (z : Int) from rfl] at *
        have ll : l.length = z := by
          have := congrArg List.length el
          rw [List.length_map, List.length_take] at this
          omega
        have hpA : A p = none := by
          rw [upd_ne pt] at hp
          exact hp
        have g2 := Bag.put hbag ht0 (but5.trans bA) gA (o := .lst (xs ++ [V.ref D]))
        refine ⟨ls ++ [l], xs ++ [.ref D], rest.drop z, p, v2, _, rfl, by rw [List.length_append, e1]; rfl, by rw [List.length_append, e2]; rfl, by rw [upd_ne pt.symm]; exact upd_same, fun j v hj => ?_, ?_, ?_, pt, Lm.bag_off g2 hp, ?_, ?_,
          (g2.keep (same_new hp)).mono (by omega), ((but5.trans bA).put ht0).trans (But.of (same_new hp))⟩
        · by_cases lj : j < xs.length
          · rw [List.getElem?_append_left lj] at hj
            obtain ⟨l2, hl2, n2⟩ := hL j v hj
            exact ⟨l2, by rw [List.getElem?_append_left (by omega)]; exact hl2, ((n2.k hbag bag5 bA).lst tA).same (same_new hp)⟩
          · have ej : j = xs.length := by
              have := (List.getElem?_eq_some_iff.mp hj).1
              rw [List.length_append, List.length_singleton] at this
              omega
            subst ej
            rw [List.getElem?_append_right (Nat.le_refl _), Nat.sub_self] at hj
            cases hj
            refine ⟨l, by rw [e2, ← e1, List.getElem?_append_right (Nat.le_refl _), Nat.sub_self]; rfl, NL.same (same_new hp) ⟨D, ys, rfl, Dt', D0, ?_, hl.k (Kt.lst tA)⟩⟩
            rw [upd_ne Dt']
            exact hy
        · rw [List.flatten_append, List.map_append, List.flatten_singleton, el, ly, List.append_assoc, List.take_append_drop]
          exact e3
        · rw [List.map_append, e4, take_snoc hz1]
          show _ ++ [l.length] = _
          rw [ll]
        · rw [upd_same, cut_from _ _ lw, ← List.map_drop, ← List.map_drop]
        · rw [upd_ne (ne_of_none (by rw [upd_ne ts.symm]; exact bA.keep _ _ sb hS5) hp), upd_ne ts.symm]
          exact bA.keep _ _ sb hS5
    · obtain ⟨ls, xs, rest, w, v2, v5, rfl, e1, e2, hT, hL, e3, e4, wt, wb, hw, hS5, bag5, but5⟩ := hP
      rw [List.length_map] at e1 e2 e4 bag5
      have e4' : ls.map List.length = sz := by rw [e4, List.take_length]
      have rl := rest_len e3 e4 ed
      rw [List.drop_length] at rl
      have er : rest = [] := List.eq_nil_of_length_eq_zero rl
      rw [er, List.append_nil] at e3
      refine ⟨_, rfl, kk _ t xs ls ⟨by omega, by omega, fun l m => ?_, fun l m => ?_, fun x m => ?_, ?_⟩ ht0 hT (by omega) (fun j v hj => ?_) (bag5.mono (by omega)) but5⟩
      · exact (hz _ (e4' ▸ List.mem_map_of_mem m)).1
      · exact (hz _ (e4' ▸ List.mem_map_of_mem m)).2
      · exact hN _ (e3 ▸ List.mem_map_of_mem m)
      · rw [flat_fst, e3]
        exact nd
      · obtain ⟨l, h1, q, ys, rfl, h2, h3, h4, h5⟩ := hL j v hj
        exact ⟨l, h1, q, ys, rfl, h3, h4, h5⟩
end
end K09

namespace K09
open PySem L2 Wm TL Dv
section
variable {P : Program} {w : World} {K : PySem.W.Frag} {mg : Str → Option Value} {base : Heap}
theorem no_meth (m : Str) (a : decide (m = "loops") = false) (b : decide (m = "rounds") = false) (c : decide (m = "hear") = false) (d : decide (m = "numbers") = false) {fs : List (Str × V)} (l5 : ∀ m : Str, m ≠ "loops" → m ≠ "rounds" → m ≠ "hear" → m ≠ "numbers" → fs.lookup m = none) : fs.lookup m = none :=
  l5 m (of_decide_eq_false a) (of_decide_eq_false b) (of_decide_eq_false c) (of_decide_eq_false d)
theorem in_flat {ls : List (List Box)} {i j : Nat} {l : List Box} {b : Box} (hl : ls[i]? = some l) (hb : l[j]? = some b) : b ∈ ls.flatten := List.mem_flatten.mpr ⟨l, List.mem_of_getElem? hl, List.mem_of_getElem? hb⟩
theorem iteN {c : Bool} {A B : Prop} (e : c = false) (h : B) : if c = true then A else B := by
  rw [e]
  exact iteF h
theorem str_eqv {a b : Str} (h : PyData.eqv (.str a) (.str b) = true) : a = b := by simpa [PyData.eqv] using h
theorem flat_parts {ls : List (List Box)} (nd : (ls.flatten.map fun b => numS b.1).Nodup) : (∀ l ∈ ls, l.Pairwise fun a b => numS a.1 ≠ numS b.1) ∧ ls.Pairwise fun l m => ∀ a ∈ l, ∀ b ∈ m, numS a.1 ≠ numS b.1 := by
  have h : ls.flatten.Pairwise fun a b => numS a.1 ≠ numS b.1 := List.pairwise_map.mp nd
  exact List.pairwise_flatten.mp h
theorem pw_at {α : Type} {R : α → α → Prop} {l : List α} (h : l.Pairwise R) {i j : Nat} {a b : α} (ha : l[i]? = some a) (hb : l[j]? = some b) (lt : i < j) : R a b := by
  obtain ⟨hi, ea⟩ := List.getElem?_eq_some_iff.mp ha
  obtain ⟨hj, eb⟩ := List.getElem?_eq_some_iff.mp hb
  have := List.pairwise_iff_getElem.mp h i j hi hj lt
  rw [ea, eb] at this
  exact this
theorem pos_eq {ls : List (List Box)} (nd : (ls.flatten.map fun b => numS b.1).Nodup) {i j i2 j2 : Nat} {l l2 : List Box} {b b2 : Box} (hl : ls[i]? = some l) (hb : l[j]? = some b) (hl2 : ls[i2]? = some l2) (hb2 : l2[j2]? = some b2) (e : numS b2.1 = numS b.1) : i2 = i ∧ j2 = j ∧ b2 = b := by
  obtain ⟨h1, h2⟩ := flat_parts nd
  have ei : i2 = i := by
    rcases Nat.lt_trichotomy i2 i with q | q | q
    · exact absurd e (pw_at h2 hl2 hl q b2 (List.mem_of_getElem? hb2) b (List.mem_of_getElem? hb))
    · exact q
    · exact absurd e.symm (pw_at h2 hl hl2 q b (List.mem_of_getElem? hb) b2 (List.mem_of_getElem? hb2))
  subst ei
  rw [hl] at hl2
  cases hl2
  have h := h1 l (List.mem_of_getElem? hl)
  have ej : j2 = j := by
    rcases Nat.lt_trichotomy j2 j with q | q | q
    · exact absurd e (pw_at h hb2 hb q)
    · exact q
    · exact absurd e.symm (pw_at h hb hb2 q)
  subst ej
  rw [hb] at hb2
  cases hb2
  exact ⟨rfl, rfl, rfl⟩
theorem in_self {ls : List (List Box)} {i j : Nat} {l : List Box} {b : Box} (hl : ls[i]? = some l) (hb : l[j]? = some b) (G : Good ls) (h : ∀ c ∈ ls.flatten, PyData.eqv (.str (numS c.1)) (.str (numS b.1)) = false) : False := by
  have e := h b (in_flat hl hb)
  have f : Fine 0 (.str (numS b.1)) := fine_num fun d m => ((G.num b (in_flat hl hb)).3 d m).2
  rw [f.refl] at e
  cases e
theorem ints_fine (ns : List Int) : Fine 1 (.list (ns.map .int)) := by
  have q : PyData.canLayAll0 (ns.map .int) = true ∧ PyData.depthAll (ns.map .int) = 0 := by
    induction ns with
    | nil => simp [PyData.canLayAll0, PyData.depthAll]
    | cons n ns ih => simp [PyData.canLayAll0, PyData.depthAll, PyData.canLay0, PyData.depth, ih.1, ih.2]
  exact ⟨by simp only [PyData.canLay0]; exact q.1, by simp only [PyData.depth, q.2]; omega⟩
theorem LsAt.keep {H H' : Hp} {q : Addr} {ls : List (List Box)} (h : LsAt K H q ls) (s : Same H H') : LsAt K H' q ls := by
  obtain ⟨xs, hq, el, ha⟩ := h
  refine ⟨xs, s _ _ hq, el, fun i v hv => ?_⟩
  obtain ⟨l, hl, q2, ys, e, h2, hd⟩ := ha i v hv
  exact ⟨l, hl, q2, ys, e, s _ _ h2, hd.k (Kt.same s)⟩
theorem LsAt.at {H : Hp} {xs : List V} {ls : List (List Box)} {i : Nat} (el : xs.length = ls.length) (ha : ∀ (i : Nat) v, xs[i]? = some v → ∃ l, ls[i]? = some l ∧ ∃ q2 ys, v = .ref q2 ∧ H q2 = some (.lst ys) ∧ Dts K H ys (l.map boxD)) (hi : i < ls.length) :
    ∃ l q2 ys, ls[i]? = some l ∧ xs[i]? = some (.ref q2) ∧ H q2 = some (.lst ys) ∧ Dts K H ys (l.map boxD) ∧ ys.length = l.length := by
  have hx := List.getElem?_eq_getElem (l := xs) (i := i) (by omega)
  obtain ⟨l, hl, q2, ys, e, h2, hd⟩ := ha i _ hx
  exact ⟨l, q2, ys, hl, by rw [hx, e], h2, hd, boxes_len hd⟩
end
end K09

namespace K09
open PySem L2 Wm TL Dv
section
variable {P : Program} {w : World} {K : PySem.W.Frag} {mg : Str → Option Value} {base : Heap}
theorem iteY {c : Bool} {A B : Prop} (e : c = true) (h : A) : if c = true then A else B := by
  rw [e]
  exact iteT h
theorem fine_loop {l : List Box} (h : Bs l) : Fine 6 (loopD l) := fine_tup (n := 5) fun d m => by
  obtain ⟨b, mb, rfl⟩ := List.mem_map.mp m
  exact fine_boxD (h b mb)
theorem fine_nums {l : List Box} (h : Bs l) : Fine 1 (.tuple (l.map numD)) := fine_tup (n := 0) fun d m => by
  obtain ⟨b, mb, rfl⟩ := List.mem_map.mp m
  exact fine_num fun d m => ((h b mb).3 d m).2
theorem Good.loop {ls : List (List Box)} (G : Good ls) {i : Nat} {l : List Box} (hl : ls[i]? = some l) : Bs l := fun b m => G.num b (List.mem_flatten.mpr ⟨l, List.mem_of_getElem? hl, m⟩)
theorem dts_numD {H : Hp} : ∀ {ys : List V} {bs : List Box}, ys.length = bs.length → (∀ (i : Nat) y, ys[i]? = some y → ∃ b, bs[i]? = some b ∧ y = .str (numS b.1)) → Dts K H ys (bs.map numD)
  | [], [], _, _ => .nil
  | y :: ys, b :: bs, e, h => by
    obtain ⟨b2, e2, ey⟩ := h 0 y rfl
    cases e2
    rw [ey]
    exact .cons (.str _) (dts_numD (by simpa using e) fun i z hz => by simpa using h (i + 1) z (by simpa using hz))
end
end K09

namespace K09
open PySem L2 Wm TL Dv
section
variable {P : Program} {w : World} {K : PySem.W.Frag} {mg : Str → Option Value} {base : Heap}
theorem TownAt.but {C : Addr} {H H' : Hp} {p b : Addr} {n : Nat} {ls : List (List Box)} {r h : Int} (bag : Bag H b n) (e : But b H H') (q : TownAt K C H p ls r h) : TownAt K C H' p ls r h := by
  obtain ⟨dx, fs, y, y2, hp, l1, l2, l3, l4, l5, t, t2⟩ := q
  have pb : p ≠ b := fun z => by
    obtain ⟨_, _, _, _, _, _, hb, _⟩ := bag
    rw [z, hb] at hp
    cases hp
  exact ⟨dx, fs, y, y2, e.keep _ _ pb hp, l1, l2, l3, l4, l5, t.k (Lm.kt_but bag e), t2.k (Lm.kt_but bag e)⟩
theorem strs_off {H : Hp} {q b : Addr} {n : Nat} {bs : List Box} (bag : Bag H b n) (h : H q = some (.lst (bs.map numV))) : q ≠ b := fun z => by
  obtain ⟨_, _, _, _, _, _, hb, _⟩ := bag
  rw [z, hb] at h
  have h := Option.some.inj h
  injection h with h
  cases bs with
  | nil => cases h
  | cons x bs => injection h with h _; cases h
theorem numV_strs (bs : List Box) : bs.map numV = (bs.map fun b => numS b.1).map V.str := by rw [List.map_map]; rfl
theorem Good.some_box {ls : List (List Box)} (G : Good ls) : ∃ b r, ls.flatten = b :: r ∧ Num b.1 := by
  cases e : ls with
  | nil =>
    have := G.l1
    rw [e] at this
    cases this
  | cons l r =>
    cases el : l with
    | nil =>
      have := G.b1 l (by rw [e]; exact List.mem_cons_self)
      rw [el] at this
      cases this
    | cons b r2 => exact ⟨b, r2 ++ r.flatten, rfl, G.num b (by rw [e, el]; simp)⟩
theorem at_numV {bs : List Box} {d : Int} (h0 : 0 ≤ d) (h1 : d < (bs.length : Nat)) : ∃ x ∈ bs, atI (bs.map numV) d = some (.str (numS x.1)) := by
  have hd : d.toNat < bs.length := by omega
  refine ⟨bs[d.toNat], List.getElem_mem hd, ?_⟩
  have e : d = ((d.toNat : Nat) : Int) := by omega
  exact at_of e (by rw [List.getElem?_map, List.getElem?_eq_getElem hd]; rfl)
end
end K09

namespace K09
open PySem L2 Wm TL Dv
section
variable {P : Program} {w : World} {K : PySem.W.Frag} {mg : Str → Option Value} {base : Heap}
/-- a list of lists of boxes that are not the bag -/
def LsO (K : PySem.W.Frag) (b : Addr) (H : Hp) (q : Addr) (ls : List (List Box)) : Prop := ∃ xs, q ≠ b ∧ H q = some (.lst xs) ∧ xs.length = ls.length ∧ ∀ (i : Nat) v, xs[i]? = some v → ∃ l, ls[i]? = some l ∧ ∃ q2 ys, v = .ref q2 ∧ q2 ≠ b ∧ H q2 = some (.lst ys) ∧ Dts K H ys (l.map boxD)
theorem LsO.at {H : Hp} {q b : Addr} {ls : List (List Box)} (h : LsO K b H q ls) : LsAt K H q ls := by
  obtain ⟨xs, _, hq, el, ha⟩ := h
  refine ⟨xs, hq, el, fun i v hv => ?_⟩
  obtain ⟨l, hl, q2, ys, e, _, h2, hd⟩ := ha i v hv
  exact ⟨l, hl, q2, ys, e, h2, hd⟩
theorem LsO.but {H H' : Hp} {q b : Addr} {n : Nat} {ls : List (List Box)} (bag : Bag H b n) (e : But b H H') (h : LsO K b H q ls) : LsO K b H' q ls := by
  obtain ⟨xs, qb, hq, el, ha⟩ := h
  refine ⟨xs, qb, e.keep _ _ qb hq, el, fun i v hv => ?_⟩
  obtain ⟨l, hl, q2, ys, ev, q2b, h2, hd⟩ := ha i v hv
  exact ⟨l, hl, q2, ys, ev, q2b, e.keep _ _ q2b h2, hd.k (Lm.kt_but bag e)⟩
theorem lso_new {H H' : Hp} {q b : Addr} {n : Nat} {xs : List V} {ls : List (List Box)} (bag : Bag H b n) (h0 : H q = none) (h1 : H' q = some (.lst xs)) (el : xs.length = ls.length) (ha : ∀ (i : Nat) v, xs[i]? = some v → ∃ l, ls[i]? = some l ∧ NewLoop K H H' v l) : LsO K b H' q ls := by
  refine ⟨xs, Lm.bag_off bag h0, h1, el, fun i v hv => ?_⟩
  obtain ⟨l, hl, q2, ys, e, h2, h3, hd⟩ := ha i v hv
  exact ⟨l, hl, q2, ys, e, Lm.bag_off bag h2, h3, hd⟩
theorem LsAt.inTown {H : Hp} {q : Addr} {ls : List (List Box)} (h : LsAt K H q ls) : InTown K H (.ref q) ls := by
  obtain ⟨xs, hq, el, ha⟩ := h
  refine ⟨q, xs, false, rfl, Kd.Is.lst (SqL.of hq), el, fun i v hv => ?_⟩
  obtain ⟨l, hl, q2, ys, e, h2, hd⟩ := ha i v hv
  exact ⟨l, hl, q2, ys, false, e, Kd.Is.lst (SqL.of h2), hd⟩
theorem dt_inTown {H : Hp} {y : V} {ls : List (List Box)} (h : Dt K H y (townD ls)) : InTown K H y ls := by
  obtain ⟨q, xs, rfl, hS, hds⟩ := h.inv
  refine ⟨q, xs, true, rfl, Kd.Is.tup hS, town_len hds, fun i v hv => ?_⟩
  obtain ⟨l, hl, tl⟩ := town_at hds hv
  obtain ⟨q2, ys, e, h2, hd⟩ := tl.inv
  exact ⟨l, hl, q2, ys, true, e, Kd.Is.tup h2, hd⟩
/-- a list of lists as data -/
def listsD (ls : List (List Box)) : PyData := .list (ls.map fun l => .list (l.map boxD))
theorem fine_lst {n : Nat} {ds : List PyData} (h : ∀ d ∈ ds, Fine n d) : Fine (n + 1) (.list ds) := by
  have q := fine_tup h
  have q1 := q.1
  have q2 := q.2
  simp only [PyData.canLay0] at q1
  simp only [PyData.depth] at q2
  exact ⟨by simp only [PyData.canLay0]; exact q1, by simp only [PyData.depth]; exact q2⟩
theorem fine_lists {ls : List (List Box)} (G : Good ls) : Fine 7 (listsD ls) := fine_lst (n := 6) fun d m => by
  obtain ⟨l, ml, rfl⟩ := List.mem_map.mp m
  exact fine_lst (n := 5) fun d m => by
    obtain ⟨b, mb, rfl⟩ := List.mem_map.mp m
    exact fine_boxD (G.num b (List.mem_flatten.mpr ⟨l, ml, mb⟩))
theorem dp_all_of {H : Hp} : ∀ {xs : List V} {ds : List PyData}, xs.length = ds.length → (∀ (i : Nat) v, xs[i]? = some v → ∃ d, ds[i]? = some d ∧ Dp K H v d) → DpAll K H xs ds
  | [], [], _, _ => .nil
  | x :: xs, d :: ds, e, h => by
    obtain ⟨d2, e2, t⟩ := h 0 x rfl
    cases e2
    exact .cons t (dp_all_of (by simpa using e) fun i v hv => by simpa using h (i + 1) v (by simpa using hv))
theorem LsAt.dp {H : Hp} {q : Addr} {ls : List (List Box)} (h : LsAt K H q ls) : Dp K H (.ref q) (listsD ls) := by
  obtain ⟨xs, hq, el, ha⟩ := h
  refine .lst (SqL.of hq) (dp_all_of (by rw [List.length_map]; exact el) fun i v hv => ?_)
  obtain ⟨l, hl, q2, ys, rfl, h2, hd⟩ := ha i v hv
  exact ⟨_, by rw [List.getElem?_map, hl]; rfl, .lst (SqL.of h2) hd.toDp⟩
theorem eqv_rows : ∀ (a b : List (List Box)), PyData.eqvAll (a.map fun l => .list (l.map boxD)) (b.map fun l => .list (l.map boxD)) = PyData.eqvAll (a.map loopD) (b.map loopD)
  | [], [] => rfl
  | [], _ :: _ => rfl
  | _ :: _, [] => rfl
  | x :: a, y :: b => by
    have ih := eqv_rows a b
    simp only [List.map_cons, PyData.eqvAll, loopD, PyData.eqv] at ih ⊢
    rw [ih]
theorem eqv_lists (a b : List (List Box)) : PyData.eqv (listsD a) (listsD b) = PyData.eqv (townD a) (townD b) := by
  have := eqv_rows a b
  simpa only [listsD, townD, PyData.eqv] using this
theorem eqv_two (a b c d : Int) : PyData.eqv (.list [.int a, .int b]) (.list [.int c, .int d]) = (decide (V.int a = V.int c) && decide (V.int b = V.int d)) := by
  have k : ∀ x y : Int, (x == y) = decide (x = y) := fun x y => by by_cases q : x = y <;> simp [q]
  simp [PyData.eqv, PyData.eqvAll, k]
theorem nums_inv {H : Hp} {y : V} {bs : List Box} (h : Dt K H y (.tuple (bs.map numD))) : ∃ q, y = .ref q ∧ SqT K H q (bs.map numV) := by
  obtain ⟨q, xs, rfl, hS, hds⟩ := h.inv
  have e : bs.map numD = (bs.map fun b => numS b.1).map PyData.str := by rw [List.map_map]; rfl
  rw [e] at hds
  have e2 := dts_str_inv hds
  rw [← numV_strs] at e2
  subst e2
  exact ⟨q, rfl, hS⟩
theorem ins_ty {C : Addr} (cl : Cls K C) (isi : SlX.SIsi K C) {H : Hp} {p dx : Addr} {fs : List (Str × V)} (hp : H p = some (.ins C dx fs)) : TyX K H (.ref p) (.ref C) := .base (.ins hp cl isi.ca isi.cn isi.ct isi.cm)
/-- what the law holds -/
structure Stt (K : PySem.W.Frag) (C b q1 r1 q2 r2 pA pB : Addr) (ls1 ls2 : List (List Box)) (ra ha rb hb : Int) (H : Hp) : Prop where
  tA : TownAt K C H pA ls1 ra ha
  tB : TownAt K C H pB ls2 rb hb
  l1 : LsO K b H q1 ls1
  l2 : LsO K b H q2 ls2
  n1 : r1 ≠ b
  n2 : r2 ≠ b
  e1 : H r1 = some (.lst [.int ra, .int ha])
  e2 : H r2 = some (.lst [.int rb, .int hb])
theorem Stt.but {C b q1 r1 q2 r2 pA pB : Addr} {ls1 ls2 : List (List Box)} {ra ha rb hb : Int} {H H' : Hp} {n : Nat} (bag : Bag H b n) (e : But b H H') (s : Stt K C b q1 r1 q2 r2 pA pB ls1 ls2 ra ha rb hb H) : Stt K C b q1 r1 q2 r2 pA pB ls1 ls2 ra ha rb hb H' :=
  ⟨s.tA.but bag e, s.tB.but bag e, s.l1.but bag e, s.l2.but bag e, s.n1, s.n2, e.keep _ _ s.n1 s.e1, e.keep _ _ s.n2 s.e2⟩
theorem made {H : Hp} {p dx C : Addr} (hp : H p = none) (hd : H dx = none) (ne : dx ≠ p) : Same H (upd (upd H dx (.own p)) p (.ins C dx [])) :=
  (same_new hd).trans (same_new (by rw [upd_ne (Ne.symm ne)]; exact hp))
theorem made_off {H H' : Hp} {p dx C : Addr} (hp : H p = none) (hd : H dx = none) (ne : dx ≠ p) (off : ∀ q o, q ≠ p → upd (upd H dx (.own p)) p (.ins C dx []) q = some o → H' q = some o) : Same H H' :=
  fun q o e => off q o (ne_of_none e hp) (made hp hd ne q o e)
end
end K09

namespace K09
open PySem L2 Wm TL Dv
section
variable {P : Program} {w : World} {K : PySem.W.Frag} {mg : Str → Option Value} {base : Heap}

theorem mem_joinL {S : List Nat} {c : Nat} : ∀ {ps : List (List Nat)}, c ∈ joinL S ps → c ∈ S ∨ ∃ p ∈ ps, c ∈ p
  | [], h => by cases h
  | [p], h => .inr ⟨p, by simp, h⟩
  | p :: q :: r, h => by
    have h : c ∈ p ++ (S ++ joinL S (q :: r)) := h
    rcases List.mem_append.mp h with h | h
    · exact .inr ⟨p, by simp, h⟩
    · rcases List.mem_append.mp h with h | h
      · exact .inl h
      · rcases mem_joinL h with h | ⟨x, m, h⟩
        · exact .inl h
        · exact .inr ⟨x, List.mem_cons_of_mem _ m, h⟩
theorem joinL_len {S : List Nat} : ∀ {ps : List (List Nat)}, (joinL S ps).length ≤ (ps.map List.length).sum + ps.length * S.length
  | [] => by simp [joinL]
  | [p] => by simp [joinL]
  | p :: q :: r => by
    have ih := joinL_len (S := S) (ps := q :: r)
    have e : (joinL S (p :: q :: r)).length = p.length + (S.length + (joinL S (q :: r)).length) := by
      show (p ++ (S ++ joinL S (q :: r))).length = _
      rw [List.length_append, List.length_append]
    rw [e, List.map_cons, List.sum_cons, List.length_cons (a := p), Nat.succ_mul]
    omega
theorem join_len (y : Str) (ps : List Str) : (Txt.join y ps).length ≤ (ps.map (·.length)).sum + ps.length * y.length := by
  rw [len_tl, join_eq, tl_join, len_tl y]
  refine Nat.le_trans joinL_len ?_
  rw [List.length_map, List.map_map]
  have e : ps.map (List.length ∘ tl) = ps.map (·.length) := List.map_congr_left fun p _ => (len_tl p).symm
  rw [e]
  exact Nat.le_refl _
theorem sum_bound {k : Nat} : ∀ {ls : List Nat}, (∀ x ∈ ls, x ≤ k) → ls.sum ≤ k * ls.length
  | [], _ => by simp
  | x :: ls, h => by
    have h1 := h x (by simp)
    have h2 := sum_bound (ls := ls) fun y m => h y (List.mem_cons_of_mem _ m)
    rw [List.sum_cons, List.length_cons, Nat.mul_succ]
    omega
theorem tl_sp : tl (" " : Str) = [32] := by decide +kernel
theorem tl_cm : tl (", " : Str) = [44, 32] := by decide +kernel
theorem tl_nl : tl ("\n" : Str) = [10] := by decide +kernel
theorem tl_emp : tl Str.empty = [] := rfl
theorem sort_free (s : Bool) {c : Nat} (h : c < 97) : c ∉ tl (sortS s) := by
  have a : ∀ x ∈ tl ("shy" : Str), 97 ≤ x := by decide +kernel
  have b : ∀ x ∈ tl ("plain" : Str), 97 ≤ x := by decide +kernel
  intro m
  cases s
  · have := b c m
    omega
  · have := a c m
    omega
theorem num_free {ds : List Nat} (N : Num ds) {c : Nat} (h : c < 49) : c ∉ tl (numS ds) := fun m => by
  have m : c ∈ codes ds := m
  obtain ⟨d, md, rfl⟩ := List.mem_map.mp m
  have := (N.dig d md).1
  omega
theorem nat_num {r : Int} (h1 : 1 ≤ r) (h8 : r ≤ 8) : natS r = numS [r.toNat] := by
  have e : r = ((r.toNat : Nat) : Int) := by omega
  have := dig_str (d := r.toNat) (by omega)
  rw [← e] at this
  exact this
theorem nat_free {r : Int} (h1 : 1 ≤ r) (h8 : r ≤ 8) {c : Nat} (h : c < 49) : c ∉ tl (natS r) := by
  rw [nat_num h1 h8]
  exact num_free ⟨by show 1 ≤ 1; omega, by show 1 ≤ 4; omega, fun d m => by rw [List.mem_singleton.mp m]; omega, by show r.toNat + 0 ≤ 24; omega⟩ h
theorem box_eq (b : Box) : boxS b = Txt.join " " [numS b.1, sortS b.2] := by
  refine ext_tl ?_
  unfold boxS
  rw [join_eq, tl_join, tl_append, tl_append, List.append_assoc]
  rfl
theorem box_back {b : Box} (h : Num b.1) : Txt.split (boxS b) " " = [numS b.1, sortS b.2] := by
  rw [box_eq]
  refine split_join (s := 32) (S := []) tl_sp (by decide +kernel) (by simp) fun p m => ?_
  simp only [List.mem_cons, List.not_mem_nil, or_false] at m
  rcases m with rfl | rfl
  · exact num_free h (by decide)
  · exact sort_free _ (by decide)
theorem box_free {b : Box} (h : Num b.1) {c : Nat} (h1 : c < 49) (h2 : c ≠ 32) : c ∉ tl (boxS b) := by
  unfold boxS
  rw [tl_append, tl_append, tl_sp]
  intro m
  rcases List.mem_append.mp m with m | m
  · rcases List.mem_append.mp m with m | m
    · exact num_free h h1 m
    · exact h2 (List.mem_singleton.mp m)
  · exact sort_free _ (by omega) m
theorem sort_len (s : Bool) : (sortS s).length ≤ 5 := by cases s <;> decide +kernel
theorem box_len {b : Box} (h : Num b.1) : (boxS b).length ≤ 10 := by
  have e : (boxS b).length = (numS b.1).length + 1 + (sortS b.2).length := by
    unfold boxS
    rw [len_tl, tl_append, tl_append, List.length_append, List.length_append, tl_sp, ← len_tl, ← len_tl]
    rfl
  have := sort_len b.2
  have := h.len
  rw [e, numS_len]
  omega
theorem inner_back {l : List Box} (h : Bs l) (ne : l ≠ []) : Txt.split (Txt.join ", " (l.map boxS)) ", " = l.map boxS :=
  split_join (s := 44) (S := [32]) tl_cm (by decide +kernel) (fun e => ne (List.map_eq_nil_iff.mp e)) fun p m => by
    obtain ⟨b, mb, rfl⟩ := List.mem_map.mp m
    exact box_free (h b mb) (by decide) (by decide)
theorem inner_cost {l : List Box} (h : Bs l) (l10 : l.length ≤ 10) : ((l.map boxS).map (·.length)).sum + (l.map boxS).length * (", " : Str).length ≤ 120 := by
  have e : (", " : Str).length = 2 := by decide +kernel
  have s := sum_bound (k := 10) (ls := (l.map boxS).map (·.length)) fun x m => by
    obtain ⟨y, my, rfl⟩ := List.mem_map.mp m
    obtain ⟨b, mb, rfl⟩ := List.mem_map.mp my
    exact box_len (h b mb)
  rw [List.length_map, List.length_map] at s
  rw [e, List.length_map]
  omega
theorem inner_len {l : List Box} (h : Bs l) (l10 : l.length ≤ 10) : (Txt.join ", " (l.map boxS)).length ≤ 120 := Nat.le_trans (join_len _ _) (inner_cost h l10)
theorem cut_app (a b : Str) : cutS (a ++ b) (some (a.length : Int)) none = b := by
  refine ext_tl ?_
  show ((tl (a ++ b)).drop (HT.sIx (a ++ b).length 0 (some (a.length : Int)))).take (HT.sIx (a ++ b).length (a ++ b).length none - HT.sIx (a ++ b).length 0 (some (a.length : Int))) = tl b
  have e : (a ++ b).length = a.length + b.length := by rw [len_tl, tl_append, List.length_append, ← len_tl, ← len_tl]
  rw [HT.sIx_nat, HT.sIx_none, e, Nat.min_eq_left (Nat.le_add_right _ _), tl_append, len_tl a, List.drop_left, List.take_of_length_le (by rw [len_tl b]; omega)]
theorem starts_app (a b : Str) (h : tl a ≠ []) : Txt.startswith (a ++ b) a = true := by
  have q := (at_iff (x := a ++ b) (y := a) h 0).mpr (by
    rw [List.drop_zero, tl_append]
    exact pre_self _ _)
  unfold Txt.startswith
  rw [Bool.and_eq_true]
  exact ⟨decide_eq_true q.1, q.2⟩
theorem loop_free {l : List Box} (h : Bs l) : 10 ∉ tl (loopS l) := by
  unfold loopS
  rw [tl_append, join_eq, tl_join, tl_cm]
  intro m
  rcases List.mem_append.mp m with m | m
  · exact absurd m (by decide +kernel)
  · rcases mem_joinL m with m | ⟨p, mp, m⟩
    · exact absurd m (by decide)
    · obtain ⟨y, my, rfl⟩ := List.mem_map.mp mp
      obtain ⟨b, mb, rfl⟩ := List.mem_map.mp my
      exact box_free (h b mb) (by decide) (by decide) m
theorem loop_len {l : List Box} (h : Bs l) (l10 : l.length ≤ 10) : (loopS l).length ≤ 125 := by
  have e : (loopS l).length = 5 + (Txt.join ", " (l.map boxS)).length := by
    unfold loopS
    rw [len_tl, tl_append, List.length_append, ← len_tl (Txt.join _ _)]
    rfl
  have := inner_len h l10
  omega
theorem head_parts {r h : Int} (R : Rul r h) {c : Nat} (hc : c < 49) : ∀ p ∈ [("rounds" : Str), natS r, "hear", natS h], c ∉ tl p := fun p m => by
  have a : ∀ x ∈ tl ("rounds" : Str), 97 ≤ x := by decide +kernel
  have b : ∀ x ∈ tl ("hear" : Str), 97 ≤ x := by decide +kernel
  simp only [List.mem_cons, List.not_mem_nil, or_false] at m
  rcases m with rfl | rfl | rfl | rfl
  · intro q
    have := a c q
    omega
  · exact nat_free R.r1 R.r8 hc
  · intro q
    have := b c q
    omega
  · exact nat_free R.h1 (by have := R.h2; omega) hc
theorem head_back {r h : Int} (R : Rul r h) : Txt.split (headS r h) " " = [("rounds" : Str), natS r, "hear", natS h] :=
  split_join (s := 32) (S := []) tl_sp (by decide +kernel) (by simp) (head_parts R (by decide))
theorem head_free {r h : Int} (R : Rul r h) : 10 ∉ tl (headS r h) := by
  unfold headS
  rw [join_eq, tl_join, tl_sp]
  intro m
  rcases mem_joinL m with m | ⟨p, mp, m⟩
  · exact absurd m (by decide)
  · obtain ⟨y, my, rfl⟩ := List.mem_map.mp mp
    exact head_parts R (by decide) y my m
theorem nat_len {r : Int} (h1 : 1 ≤ r) (h8 : r ≤ 8) : (natS r).length = 1 := by rw [nat_num h1 h8, numS_len]; rfl
theorem head_len {r h : Int} (R : Rul r h) : (headS r h).length ≤ 16 := by
  have q := join_len " " [("rounds" : Str), natS r, "hear", natS h]
  have e1 : ("rounds" : Str).length = 6 := by decide +kernel
  have e2 : ("hear" : Str).length = 4 := by decide +kernel
  have e3 : (" " : Str).length = 1 := by decide +kernel
  simp only [List.map_cons, List.map_nil, List.sum_cons, List.sum_nil, List.length_cons, List.length_nil, e1, e2, e3, nat_len R.r1 R.r8, nat_len R.h1 (show h ≤ 8 by have := R.h2; omega)] at q
  unfold headS
  omega
theorem rows_back {ls : List (List Box)} {r h : Int} (G : Good ls) (R : Rul r h) : Txt.split (textS ls r h) "\n" = headS r h :: ls.map loopS :=
  split_join (s := 10) (S := []) tl_nl (by decide +kernel) (by simp) fun p m => by
    rcases List.mem_cons.mp m with rfl | m
    · exact head_free R
    · obtain ⟨l, ml, rfl⟩ := List.mem_map.mp m
      exact loop_free fun b mb => G.num b (List.mem_flatten.mpr ⟨l, ml, mb⟩)
theorem text_cost {ls : List (List Box)} {r h : Int} (G : Good ls) (R : Rul r h) : ((headS r h :: ls.map loopS).map (·.length)).sum + (headS r h :: ls.map loopS).length * ("\n" : Str).length ≤ 600 := by
  have e : ("\n" : Str).length = 1 := by decide +kernel
  have s := sum_bound (k := 125) (ls := (ls.map loopS).map (·.length)) fun x m => by
    obtain ⟨y, my, rfl⟩ := List.mem_map.mp m
    obtain ⟨l, ml, rfl⟩ := List.mem_map.mp my
    exact loop_len (fun b mb => G.num b (List.mem_flatten.mpr ⟨l, ml, mb⟩)) (G.b2 l ml)
  rw [List.length_map, List.length_map] at s
  have := G.l2
  have := head_len R
  rw [e, List.map_cons, List.sum_cons, List.length_cons, List.length_map]
  omega
theorem text_len {ls : List (List Box)} {r h : Int} (G : Good ls) (R : Rul r h) : (textS ls r h).length ≤ 600 := Nat.le_trans (join_len _ _) (text_cost G R)
theorem map_inj_on {α β : Type} {f : α → β} : ∀ {a b : List α}, (∀ x ∈ a, ∀ y ∈ b, f x = f y → x = y) → a.map f = b.map f → a = b
  | [], [], _, _ => rfl
  | [], _ :: _, _, e => by cases e
  | _ :: _, [], _, e => by cases e
  | x :: a, y :: b, h, e => by
    rw [List.map_cons, List.map_cons] at e
    injection e with e1 e2
    rw [h x (by simp) y (by simp) e1, map_inj_on (fun z mz w mw => h z (List.mem_cons_of_mem _ mz) w (List.mem_cons_of_mem _ mw)) e2]
theorem sort_inj {s t : Bool} (h : sortS s = sortS t) : s = t := by
  cases s <;> cases t
  · rfl
  · exact absurd h (by decide +kernel)
  · exact absurd h (by decide +kernel)
  · rfl
theorem box_inj {a b : Box} (ha : Num a.1) (hb : Num b.1) (h : boxS a = boxS b) : a = b := by
  have e := congrArg (Txt.split · " ") h
  simp only [box_back ha, box_back hb] at e
  injection e with e1 e2
  injection e2 with e2 _
  exact Prod.ext (numS_inj e1) (sort_inj e2)
theorem loop_inj {l m : List Box} (hl : Bs l) (hm : Bs m) (nl : l ≠ []) (nm : m ≠ []) (h : loopS l = loopS m) : l = m := by
  have e := congrArg (fun x => Txt.split (cutS x (some (("loop " : Str).length : Int)) none) ", ") h
  simp only [loopS, cut_app, inner_back hl nl, inner_back hm nm] at e
  exact map_inj_on (fun x mx y my => box_inj (hl x mx) (hm y my)) e
theorem loop_ne {ls : List (List Box)} (G : Good ls) {l : List Box} (m : l ∈ ls) : l ≠ [] := fun e => by
  have := G.b1 l m
  rw [e] at this
  cases this
theorem text_inj {a b : List (List Box)} {r h r2 h2 : Int} (G : Good a) (G2 : Good b) (R : Rul r h) (R2 : Rul r2 h2) (e : textS a r h = textS b r2 h2) : a = b ∧ r = r2 ∧ h = h2 := by
  have e := congrArg (Txt.split · "\n") e
  simp only [rows_back G R, rows_back G2 R2] at e
  injection e with e1 e2
  have e3 := congrArg (Txt.split · " ") e1
  simp only [head_back R, head_back R2] at e3
  injection e3 with _ e3
  injection e3 with e4 e3
  injection e3 with _ e3
  injection e3 with e5 _
  rw [nat_num R.r1 R.r8, nat_num R2.r1 R2.r8] at e4
  rw [nat_num R.h1 (by have := R.h2; omega), nat_num R2.h1 (by have := R2.h2; omega)] at e5
  have e4 := numS_inj e4
  have e5 := numS_inj e5
  injection e4 with e4 _
  injection e5 with e5 _
  have := R.r1
  have := R2.r1
  have := R.h1
  have := R2.h1
  refine ⟨map_inj_on (fun x mx y my => loop_inj (fun b mb => G.num b (List.mem_flatten.mpr ⟨x, mx, mb⟩)) (fun b mb => G2.num b (List.mem_flatten.mpr ⟨y, my, mb⟩)) (loop_ne G mx) (loop_ne G2 my)) e2, by omega, by omega⟩
theorem eqv_box {a b : Box} (h : PyData.eqv (boxD a) (boxD b) = true) : a = b := by
  simp only [boxD, PyData.eqv, PyData.eqvAll, Bool.and_true, Bool.and_eq_true, beq_iff_eq] at h
  exact Prod.ext (numS_inj h.1) (sort_inj h.2)
theorem eqv_loop : ∀ {a b : List Box}, PyData.eqvAll (a.map boxD) (b.map boxD) = true → a = b
  | [], [], _ => rfl
  | [], _ :: _, h => by simp [PyData.eqvAll] at h
  | _ :: _, [], h => by simp [PyData.eqvAll] at h
  | x :: a, y :: b, h => by
    simp only [List.map_cons, PyData.eqvAll, Bool.and_eq_true] at h
    rw [eqv_box h.1, eqv_loop h.2]
theorem eqv_towns : ∀ {a b : List (List Box)}, PyData.eqvAll (a.map loopD) (b.map loopD) = true → a = b
  | [], [], _ => rfl
  | [], _ :: _, h => by simp [PyData.eqvAll] at h
  | _ :: _, [], h => by simp [PyData.eqvAll] at h
  | x :: a, y :: b, h => by
    simp only [List.map_cons, PyData.eqvAll, Bool.and_eq_true] at h
    have h1 : PyData.eqvAll (x.map boxD) (y.map boxD) = true := by simpa only [loopD, PyData.eqv] using h.1
    rw [eqv_loop h1, eqv_towns h.2]
theorem eqv_town {a b : List (List Box)} (h : PyData.eqv (townD a) (townD b) = true) : a = b := eqv_towns (by simpa only [townD, PyData.eqv] using h)
end
end K09

namespace K09
open PySem L2 Wm TL Dv
section
variable {P : Program} {w : World} {K : PySem.W.Frag} {mg : Str → Option Value} {base : Heap}
theorem nat_dig {r : Int} (h1 : 1 ≤ r) (h8 : r ≤ 8) : natS r = ⟨#[r.toNat + 48]⟩ := by rw [nat_num h1 h8]; rfl
theorem nat_int {r : Int} (h1 : 1 ≤ r) (h8 : r ≤ 8) : PySem.intText? (natS r) = some r := by
  rw [nat_dig h1 h8, dig_int (d := r.toNat) (by omega)]
  congr 1
  omega
theorem dig_all {d : Nat} (h1 : 1 ≤ d) (h8 : d ≤ 8) : (d + 48) ∈ ("0123456789" : Str).cps.toList := by
  have c : d = 1 ∨ d = 2 ∨ d = 3 ∨ d = 4 ∨ d = 5 ∨ d = 6 ∨ d = 7 ∨ d = 8 := by omega
  rcases c with e | e | e | e | e | e | e | e <;> subst e <;> decide +kernel
theorem ok_is_digit (T : Txt K mg) : FnOk P w K mg base CX0 1 T.a_is_digit T.d_is_digit ["word"] (sp_is_digit K) := by
  refine T.F_is_digit.ok sc_is_digit (fun vs H Q E h => ?_) (fun cdv A outer s H vs Q E hr h => ?_)
  · obtain ⟨r, rfl, _⟩ := h
    rfl
  · obtain ⟨r, rfl, h1, h8, k⟩ := h
    refine ⟨_, (pss_one (ps_ret (pe_and (pe_cmpR op_eq (pe_callB call_len_str (by rfl) T.z_len PySem.boot_len (pa_cons (pv 0) pa_nil)) pe_int (nomark _)) (pe_one (pe_cmpR op_in_sign (pv 0) pe_str rfl))))), ?_⟩
    refine ⟨_, rfl, _, rfl, by rw [nat_len h1 h8]; decide, rfl, _, rfl, iteY (by rw [nat_len h1 h8]; rfl) ?_⟩
    refine ⟨_, rfl, r.toNat + 48, _, congrArg V.str (nat_dig h1 h8), rfl, ?_⟩
    rw [decide_eq_true (dig_all (by omega) (by omega))]
    exact k
theorem ok_read_head (T : Txt K mg) : FnOk P w K mg base CX0 2 T.a_read_head T.d_read_head ["row"] (sp_read_head K) := by
  refine T.F_read_head.ok sc_read_head (fun vs H Q E h => ?_) (fun cdv A outer s H vs Q E hr h => ?_)
  · obtain ⟨r, h, rfl, _⟩ := h
    rfl
  · obtain ⟨r, h, rfl, R, k⟩ := h
    have h8 : h ≤ 8 := by have := R.h2; omega
    refine ⟨_, (pss_cons (ps_set (i := 1) sc_read_head.nd rfl (Or.inl rfl) (pe_split (pv 0) pe_str))
      (pss_cons (ps_if (PW.pt (pw_or (pt_cmpR op_ne (pe_callB call_len_seq (by rfl) T.z_len PySem.boot_len (pa_cons (pv 1) pa_nil)) pe_int (nomark _)) (pw_or (pt_cmpR op_ne (pe_ix ix_list (pv 1) pe_int (fun _ _ => rfl)) pe_str (nomark _)) (pw_or1 (pt_cmpR op_ne (pe_ix ix_list (pv 1) pe_int (fun _ _ => rfl)) pe_str (nomark _))))))
        (pss_one ps_never)
        pss_nil)
      (pss_cons (ps_if (PW.pt (pw_or (pt_not (pt_val (pe_call (ok_is_digit T) (hr.mono (by decide)) (by rfl) T.g_is_digit T.F_is_digit.kp T.b_is_digit .nil pass0 (pa_cons (pe_ix ix_list (pv 1) pe_int (fun _ _ => rfl)) pa_nil)))) (pw_or1 (pt_not (pt_val (pe_call (ok_is_digit T) (hr.mono (by decide)) (by rfl) T.g_is_digit T.F_is_digit.kp T.b_is_digit .nil pass0 (pa_cons (pe_ix ix_list (pv 1) pe_int (fun _ _ => rfl)) pa_nil)))))))
        (pss_one ps_never)
        pss_nil)
      (pss_one (ps_ret (pe_tup (pa_cons (pe_callTy call_int_str (by rfl) T.z_int (by decide +kernel) (pa_cons (pe_ix ix_list (pv 1) pe_int (fun _ _ => rfl)) pa_nil)) (pa_cons (pe_callTy call_int_str (by rfl) T.z_int (by decide +kernel) (pa_cons (pe_ix ix_list (pv 1) pe_int (fun _ _ => rfl)) pa_nil)) pa_nil)))))))), ?_⟩
    refine ⟨_, rfl, ⟨_, rfl⟩, _, _, rfl, rfl, by decide +kernel, Nat.le_of_lt (small1000 (by have := head_len R; omega)), fun q hq => ?_⟩
    rw [head_back R]
    have s1 := same_new (o := .lst ([("rounds" : Str), natS r, "hear", natS h].map V.str)) hq
    have hS : upd H q (.lst ([("rounds" : Str), natS r, "hear", natS h].map V.str)) q = some (.lst ([("rounds" : Str), natS r, "hear", natS h].map V.str)) := upd_same
    generalize upd H q (.lst ([("rounds" : Str), natS r, "hear", natS h].map V.str)) = H1 at *
    have hS := SqL.of (K := K) hS
    refine ⟨_, rfl, q, _, rfl, .inl hS, rfl, _, rfl, iteN (by simp) ?_⟩
    refine ⟨_, rfl, q, _, 0, _, rfl, rfl, hS, atI_nat (j := 0) rfl, rfl, _, rfl, iteN (by simp) ?_⟩
    refine ⟨_, rfl, q, _, 2, _, rfl, rfl, hS, atI_nat (j := 2) rfl, rfl, _, rfl, iteN (by simp) ?_⟩
    refine ⟨_, rfl, q, _, 1, _, rfl, rfl, hS, atI_nat (j := 1) rfl, r, rfl, R.r1, R.r8, true, rfl, iteF ?_⟩
    refine ⟨_, rfl, q, _, 3, _, rfl, rfl, hS, atI_nat (j := 3) rfl, h, rfl, R.h1, h8, true, rfl, iteF ?_⟩
    refine ⟨_, rfl, q, _, 1, _, rfl, rfl, hS, atI_nat (j := 1) rfl, natS r, r, rfl, nat_int R.r1 R.r8, by rw [nat_len R.r1 R.r8]; decide, ?_⟩
    refine ⟨_, rfl, q, _, 3, _, rfl, rfl, hS, atI_nat (j := 3) rfl, natS h, h, rfl, nat_int R.h1 h8, by rw [nat_len R.h1 h8]; decide, ?_⟩
    refine ⟨by show 2 ≤ sizeLine; decide, fun t ht => ?_⟩
    exact k _ t (s1.trans (same_new ht)) upd_same
theorem ok_read_loop (T : Txt K mg) : FnOk P w K mg base CX0 1 T.a_read_loop T.d_read_loop ["index", "row"] (sp_read_loop K) := by
  refine T.F_read_loop.ok sc_read_loop (fun vs H Q E h => ?_) (fun cdv A outer s H vs Q E hr h => ?_)
  · obtain ⟨i, l, rfl, _⟩ := h
    rfl
  · obtain ⟨i, l, rfl, B, l1, l10, k⟩ := h
    have ne : l ≠ [] := fun e => by
      rw [e] at l1
      cases l1
    refine ⟨_, (pss_cons (ps_if (pt_not (pt_val (pe_m1 F.slot_str_startswith F.type_str_startswith mt_startswith (pv 1) (pe_glob (v := V.str "loop ") rfl T.c_LOOP_HEAD ⟨_, rfl⟩))))
        (pss_one ps_never)
        pss_nil)
      (pss_cons (ps_setLc (i := 2) (own := [("piece", 3)]) (g := gName 3) (tt := tYes) rfl sc_read_loop.nd rfl rfl (sw_true rfl rfl rfl (by decide +kernel)) (pi_list (pe_split (pe_slice sl_str (pv 1) (po_some (pe_callB call_len_str (by rfl) T.z_len PySem.boot_len (pa_cons (pe_glob (v := V.str "loop ") rfl T.c_LOOP_HEAD ⟨_, rfl⟩) pa_nil))) po_none) pe_str)) (blkOk_by (own := [("piece", 3)]) (N := nm_read_loop) (sc := (defScope s_read_loop)) (by decide +kernel)) (fun _ _ _ _ _ => pg_name (i := 3) sc_read_loop.nd rfl (Or.inl rfl)) (fun _ _ _ _ _ => pts_nil) (fun _ _ _ _ _ => (pe_callTy (show CallR _ _ (Kx.rTupOf K) from call_tuple_of) (by rfl) T.z_tuple (by decide +kernel) (pa_cons (pe_split (pv 3) pe_str) pa_nil))))
      (pss_cons (ps_for PassesOwn.never rfl (pi_list (pv 2)) (pg_name (i := 4) sc_read_loop.nd rfl (Or.inl rfl))
        (pss_one (ps_if (PW.pt (pw_or (pt_cmpR op_ne (pe_callB call_len_seq (by rfl) T.z_len PySem.boot_len (pa_cons (pv 4) pa_nil)) pe_int (nomark _)) (pw_or1 (pt_cmpR op_in_seq pe_str (pv 4) rfl))))
          (pss_one ps_never)
          pss_nil)))
      (pss_one (ps_ret (pv 2)))))), ?_⟩
    refine ⟨_, rfl, ⟨_, rfl⟩, _, _, rfl, rfl, true, by rw [show Txt.startswith (loopS l) "loop " = true from starts_app _ _ (by decide +kernel)], iteF ?_⟩
    refine ⟨_, rfl, _, rfl, by decide +kernel, _, rfl, _, rfl, Nat.le_of_lt (small1000 (by have := loop_len B l10; omega)), ?_⟩
    rw [show cutS (loopS l) (some (("loop " : Str).length : Int)) none = Txt.join ", " (l.map boxS) from cut_app _ _]
    refine ⟨⟨_, rfl⟩, _, _, rfl, rfl, by decide +kernel, Nat.le_of_lt (small1000 (by have := inner_len B l10; omega)), fun q hq => ?_⟩
    rw [inner_back B ne]
    have s1 := same_new (o := .lst ((l.map boxS).map V.str)) hq
    have hS : upd H q (.lst ((l.map boxS).map V.str)) q = some (.lst ((l.map boxS).map V.str)) := upd_same
    generalize upd H q (.lst ((l.map boxS).map V.str)) = H1 at *
    refine ⟨q, rfl, ⟨_, SqL.of hS⟩, fun D hD => ?_⟩
    refine Lm.lc_map (K := K) walk_list (fun i y H' => ∃ b, l[i]? = some b ∧ Dt K H' y (boxD b)) (fun _ _ _ _ ⟨b, e, t⟩ kt => ⟨b, e, t.k kt⟩) hD (by rw [List.length_map, List.length_map]; omega) (fun H' s => SqL.of (s _ _ hS)) (fun i x H' hi hx sm Q2 Z q2 => ?_) (fun H2 ys s2 hy ly hR => ?_)
    · rw [List.getElem?_map, List.getElem?_map] at hx
      obtain ⟨y, hy, rfl⟩ := Option.map_eq_some_iff.mp hx
      obtain ⟨b, hb, rfl⟩ := Option.map_eq_some_iff.mp hy
      have nb := B b (List.mem_of_getElem? hb)
      refine ⟨rfl, yesT ?_⟩
      refine ⟨_, rfl, ⟨_, rfl⟩, _, _, rfl, rfl, by decide +kernel, Nat.le_of_lt (small1000 (by have := box_len nb; omega)), fun q3 hq3 => ?_⟩
      rw [box_back nb]
      refine ⟨q3, _, rfl, .inl ⟨SqL.of upd_same, fun u hu => ?_⟩⟩
      exact q2 _ _ ((same_new hq3).trans (same_new hu)) ⟨b, hb, dt_tup upd_same (.cons (.str _) (.cons (.str _) .nil))⟩
    rw [List.length_map, List.length_map] at ly
    have D0 : H D = none := s1.free hD
    have hds : Dts K H2 ys (l.map boxD) := dts_of (by rw [ly, List.length_map]) fun i y hi => by
      obtain ⟨b, hb, t⟩ := hR i y hi
      exact ⟨boxD b, by rw [List.getElem?_map, hb]; rfl, t⟩
    refine ⟨_, rfl, D, rfl, ⟨_, SqL.of hy⟩, ?_⟩
    refine for_list (xs := ys) (fun _ σ H' => ∃ v3 v4, σ = [some (.int i), some (.str (loopS l)), some (.ref D), v3, v4] ∧ H' = H2) ⟨_, _, rfl, rfl⟩ (fun _ σ H' _ h => let ⟨_, _, _, e⟩ := h; e ▸ SqL.of hy) (fun j x σ H' hx hP => ?_) (fun σ H' hP => ?_)
    · obtain ⟨v3, v4, rfl, rfl⟩ := hP
      obtain ⟨b, hb, tb⟩ := boxes_at hds hx
      obtain ⟨qb, rfl, hqb⟩ := box_inv tb
      have nb := B b (List.mem_of_getElem? hb)
      refine ⟨_, rfl, qb, _, rfl, .inr hqb, rfl, _, rfl, iteN (by simp) ?_⟩
      refine ⟨_, rfl, qb, [numS b.1, sortS b.2].map V.str, rfl, .inr hqb, rfl, flat_strs _, _, rfl, iteN ?_ ⟨_, _, rfl, rfl⟩⟩
      rw [in_strs]
      refine decide_eq_false fun m => ?_
      simp only [List.mem_cons, List.not_mem_nil, or_false] at m
      rcases m with m | m
      · have e := congrArg Str.length m
        rw [numS_len] at e
        have := nb.pos
        have e0 : ("" : Str).length = 0 := by decide +kernel
        omega
      · have a : ∀ s : Bool, ("" : Str) ≠ sortS s := by decide +kernel
        exact a _ m
    · obtain ⟨v3, v4, rfl, rfl⟩ := hP
      exact ⟨_, rfl, k _ D ys (s1.trans s2) D0 hy hds⟩
end
end K09

namespace K09
open PySem L2 Wm TL Dv
section
variable {P : Program} {w : World} {K : PySem.W.Frag} {mg : Str → Option Value} {base : Heap}
theorem app_len (a b : Str) : (a ++ b).length = a.length + b.length := by rw [len_tl, tl_append, List.length_append, ← len_tl, ← len_tl]
theorem emp_len : Str.empty.length = 0 := rfl
theorem fit {x : Str} (h : x.length ≤ 900) : x.length ≤ sizeLine := Nat.le_of_lt (small1000 (by omega))
theorem box_f (b : Box) : Str.empty ++ numS b.1 ++ " " ++ sortS b.2 = boxS b := by
  refine ext_tl ?_
  unfold boxS
  simp only [tl_append, tl_emp, List.nil_append]
theorem tl_head (r h : Int) : tl (headS r h) = tl ("rounds" : Str) ++ ([32] ++ (tl (natS r) ++ ([32] ++ (tl ("hear" : Str) ++ ([32] ++ tl (natS h)))))) := by
  unfold headS
  rw [join_eq, tl_join, tl_sp]
  rfl
theorem tl_r : tl ("rounds " : Str) = tl ("rounds" : Str) ++ [32] := by decide +kernel
theorem tl_h : tl (" hear " : Str) = [32] ++ (tl ("hear" : Str) ++ [32]) := by decide +kernel
theorem head_c (r h : Int) : "rounds " ++ natS r ++ " hear " ++ natS h = headS r h := by
  refine ext_tl ?_
  rw [tl_head, tl_append, tl_append, tl_append, tl_r, tl_h]
  simp only [List.append_assoc]
theorem head_f (r h : Int) : Str.empty ++ "rounds " ++ natS r ++ " hear " ++ natS h = headS r h := by
  rw [← head_c]
  refine ext_tl ?_
  simp only [tl_append, tl_emp, List.nil_append]
theorem len_r : ("rounds " : Str).length = 7 := by decide +kernel
theorem len_h : (" hear " : Str).length = 6 := by decide +kernel
theorem len_s : (" " : Str).length = 1 := by decide +kernel
theorem len_l : ("loop " : Str).length = 5 := by decide +kernel
theorem log_small {r : Int} (h1 : 1 ≤ r) (h8 : r ≤ 8) : r.natAbs.log2 < 1920 := by
  have c : r = 1 ∨ r = 2 ∨ r = 3 ∨ r = 4 ∨ r = 5 ∨ r = 6 ∨ r = 7 ∨ r = 8 := by omega
  rcases c with e | e | e | e | e | e | e | e <;> subst e <;> decide +kernel
theorem rows_snoc {ls : List (List Box)} {i : Nat} {l : List Box} (hl : ls[i]? = some l) (r h : Int) : (headS r h :: (ls.take (i + 1)).map loopS).map V.str = (headS r h :: (ls.take i).map loopS).map V.str ++ [.str (loopS l)] := by
  rw [List.take_add_one, hl]
  simp
theorem strs_is {l : List Box} {ys : List V} (e : ys.length = l.length) (h : ∀ (i : Nat) y, ys[i]? = some y → ∃ b, l[i]? = some b ∧ y = .str (boxS b)) : ys = (l.map boxS).map V.str :=
  Lm.list_is (by rw [e, List.length_map, List.length_map]) fun i y hy => by
    obtain ⟨b, hb, rfl⟩ := h i y hy
    rw [List.getElem?_map, List.getElem?_map, hb]
    rfl
theorem ok_town_text (T : Txt K mg) : FnOk P w K mg base CX0 1 T.a_town_text T.d_town_text ["town"] (sp_town_text K T.C) := by
  refine T.F_town_text.ok sc_town_text (fun vs H Q E h => ?_) (fun cdv A outer s H vs Q E hr h => ?_)
  · obtain ⟨p, ls, r, h, rfl, _⟩ := h
    rfl
  · obtain ⟨p, ls, r, h, rfl, hT, G, R, k⟩ := h
    obtain ⟨dx, fs, y, y2, hp, l1, l2, l3, l4, l5, t, t2⟩ := id hT
    obtain ⟨q0, xs, rfl, hS, hds⟩ := t.inv
    have el := town_len hds
    have g2 := G.l2
    have h8 : h ≤ 8 := by have := R.h2; omega
    have nr := nat_len R.r1 R.r8
    have nh := nat_len R.h1 h8
    refine ⟨_, (pss_cons (ps_set (i := 1) sc_town_text.nd rfl (Or.inl rfl) (pe_lst (pa_cons (pe_joined (.cons pe_str (.cons (pe_fmt (pe_fld (pv 0) rfl)) (.cons pe_str (.cons (pe_fmt (pe_fld (pv 0) rfl)) .nil))))) pa_nil)))
      (pss_cons (ps_for PassesOwn.never rfl (pi_tup (pe_fld (pv 0) rfl)) (pg_name (i := 2) sc_town_text.nd rfl (Or.inl rfl))
        (pss_one (ps_expr (pe_bm PySem.F.plainAttrs_list PySem.F.slot_list_append PySem.F.type_list_append mt_append (pv 1) (pa_cons (pe_op op_add_str (pe_glob (v := V.str "loop ") rfl T.c_LOOP_HEAD ⟨_, rfl⟩) (pe_join pe_str (pe_lc (own := [("number", 3), ("sort", 4)]) (g := gTup K 2 (gCons (gName 3) (gCons (gName 4) (gNil)))) (tt := tYes) rfl sc_town_text.nd (pi_tup (pv 2)) (blkOk_by (own := [("number", 3), ("sort", 4)]) (N := nm_town_text) (sc := (defScope s_town_text)) (by decide +kernel)) (fun _ _ _ _ _ => (pg_tup rfl (pgs_cons (pg_name (i := 3) sc_town_text.nd rfl (Or.inl rfl)) (pgs_cons (pg_name (i := 4) sc_town_text.nd rfl (Or.inl rfl)) pgs_nil)))) (fun _ _ _ _ _ => pts_nil) (fun _ _ _ _ _ => (pe_joined (.cons (pe_fmt (pv 3)) (.cons pe_str (.cons (pe_fmt (pv 4)) .nil)))))))) pa_nil)))))
      (pss_one (ps_ret (pe_join pe_str (pv 1)))))), ?_⟩
    refine ⟨_, rfl, fit (by simp only [app_len, emp_len, len_r]; decide), _, rfl, p, T.C, dx, fs, _, rfl, hp, T.clC, T.nR, l2, .inr ⟨r, rfl, log_small R.r1 R.r8, natS r, rfl, fit (by simp only [app_len, emp_len, len_r, nr]; decide), _, rfl, fit (by simp only [app_len, emp_len, len_r, nr, len_h]; decide), _, rfl, p, T.C, dx, fs, _, rfl, hp, T.clC, T.nH, l3, .inr ⟨h, rfl, log_small R.h1 h8, natS h, rfl, fit (by simp only [app_len, emp_len, len_r, nr, len_h, nh]; decide), ?_⟩⟩⟩
    rw [head_f]
    refine ⟨by show 1 ≤ sizeLine; decide, fun q hq => ?_⟩
    refine ⟨_, rfl, p, T.C, dx, fs, _, rfl, at_old hp hq, T.clC, T.nL, l1, q0, rfl, ⟨_, sameT (same_new hq) hS⟩, ?_⟩
    refine for_it walk_tup (fun i σ H' => ∃ v2 v3 v4, σ = [some (.ref p), some (.ref q), v2, v3, v4] ∧ H' q = some (.lst ((headS r h :: (ls.take i).map loopS).map V.str)) ∧ Same H H')
      ⟨none, none, none, rfl, by rw [List.take_zero]; exact upd_same, same_new hq⟩ (fun i σ H' _ hP => let ⟨_, _, _, _, _, s⟩ := hP; sameT s hS) (fun i x σ H1 H' hi hP hY => ?_) (fun σ H1 hP => ?_)
    · obtain ⟨v2, v3, v4, rfl, hr', s1⟩ := hP
      obtain ⟨rfl, hx⟩ := hY
      obtain ⟨l, hl, tl'⟩ := town_at hds hx
      obtain ⟨qz, zs, rfl, hqz, hz⟩ := (tl'.k (Kt.same s1)).inv
      have lz := boxes_len hz
      have B := G.loop hl
      have b2 := G.b2 l (List.mem_of_getElem? hl)
      refine ⟨_, rfl, .inl ⟨rfl, _, SqL.of hr'⟩, ?_⟩
      refine ⟨⟨_, rfl⟩, _, rfl, qz, rfl, ⟨_, hqz⟩, fun D hD => ?_⟩
      refine Lm.lc_map (K := K) (te := fun σ H Q => tJs [tFmt (tVar 3), tC (.str " "), tFmt (tVar 4)] Str.empty σ H fun out H1 => Q (.str out) H1) walk_tup (fun i y H' => ∃ b, l[i]? = some b ∧ y = .str (boxS b)) (fun _ _ _ _ h _ => h) hD (by omega) (fun H' s => sameT s hqz) (fun j x H2 hj hx2 sm Q2 Z q2 => ?_) (fun H2 ys s2 hy ly hR => ?_)
      · obtain ⟨b, hb, tb⟩ := boxes_at hz hx2
        obtain ⟨qb, rfl, hqb⟩ := box_inv tb
        have nb := B b (List.mem_of_getElem? hb)
        have ln := nb.len
        have lso := sort_len b.2
        refine ⟨qb, _, rfl, sameT sm hqb, rfl, _, _, rfl, _, _, rfl, rfl, rfl, yesT ?_⟩
        refine ⟨_, rfl, .inl ⟨numS b.1, rfl, fit (by rw [numS_len]; omega), _, rfl, fit (by simp only [app_len, emp_len, numS_len]; omega), _, rfl, fit (by simp only [app_len, emp_len, numS_len, len_s]; omega), _, rfl, .inl ⟨sortS b.2, rfl, fit (by omega), _, rfl, fit (by simp only [app_len, emp_len, numS_len, len_s]; omega), ?_⟩⟩⟩
        rw [box_f]
        exact q2 _ _ (Same.refl _) ⟨b, hb, rfl⟩
      have ey := strs_is (by omega) hR
      subst ey
      have cost := inner_cost B b2
      have il := inner_len B b2
      refine ⟨_, D, l.map boxS, rfl, rfl, .inl (SqL.of hy), by omega, ?_⟩
      refine ⟨_, _, rfl, rfl, Nat.le_of_lt (small1000 (by rw [len_l]; omega)), ?_⟩
      have hr2 := s2 _ _ hr'
      refine ⟨q, _, _, rfl, rfl, hr2, small1000 (by simp only [List.length_map, List.length_cons, List.length_take]; omega), ?_⟩
      refine ⟨_, _, _, rfl, ?_, same_mut (s1.trans s2) hq⟩
      rw [upd_same, rows_snoc hl]
      rfl
    · obtain ⟨v2, v3, v4, rfl, hr', s1⟩ := hP
      rw [el, List.take_length] at hr'
      have cost := text_cost G R
      exact ⟨⟨_, rfl⟩, _, rfl, _, q, headS r h :: ls.map loopS, rfl, rfl, .inl (SqL.of hr'), by omega, k _ s1⟩
theorem ok_text (T : Txt K mg) : FnOk P w K mg base CX0 1 T.a_text T.d_text ["_law_loops_here", "_law_rules_here"] (sp_text K) := by
  refine T.F_text.ok sc_text (fun vs H Q E h => ?_) (fun cdv A outer s H vs Q E hr h => ?_)
  · obtain ⟨q, t, ls, r, h, rfl, _⟩ := h
    rfl
  · obtain ⟨qa, t, ls, r, h, rfl, hL, G, R, ht, k⟩ := h
    obtain ⟨xs, hqa, el, ha⟩ := id hL
    have g2 := G.l2
    have h8 : h ≤ 8 := by have := R.h2; omega
    have nr := nat_len R.r1 R.r8
    have nh := nat_len R.h1 h8
    refine ⟨_, (pss_cons (ps_set (i := 2) sc_text.nd rfl (Or.inl rfl) (pe_lst (pa_cons (pe_op op_add_str (pe_op op_add_str (pe_op op_add_str pe_str (pe_callTy call_str_int (by rfl) T.z_str (by decide +kernel) (pa_cons (pe_ix ix_list (pv 1) pe_int (fun _ _ => rfl)) pa_nil))) pe_str) (pe_callTy call_str_int (by rfl) T.z_str (by decide +kernel) (pa_cons (pe_ix ix_list (pv 1) pe_int (fun _ _ => rfl)) pa_nil))) pa_nil)))
      (pss_cons (ps_for PassesOwn.never rfl (pi_list (pv 0)) (pg_name (i := 3) sc_text.nd rfl (Or.inl rfl))
        (pss_one (ps_expr (pe_bm PySem.F.plainAttrs_list PySem.F.slot_list_append PySem.F.type_list_append mt_append (pv 2) (pa_cons (pe_op op_add_str pe_str (pe_join pe_str (pe_lc (own := [("_law_box", 4)]) (g := gName 4) (tt := tYes) rfl sc_text.nd (pi_list (pv 3)) (blkOk_by (own := [("_law_box", 4)]) (N := nm_text) (sc := (defScope s_text)) (by decide +kernel)) (fun _ _ _ _ _ => pg_name (i := 4) sc_text.nd rfl (Or.inl rfl)) (fun _ _ _ _ _ => pts_nil) (fun _ _ _ _ _ => (pe_op op_add_str (pe_op op_add_str (pe_ix (show IxR _ (rIxT K) from ix_tup) (pv 4) pe_int (fun _ _ => rfl)) pe_str) (pe_ix (show IxR _ (rIxT K) from ix_tup) (pv 4) pe_int (fun _ _ => rfl))))))) pa_nil)))))
      (pss_one (ps_ret (pe_join pe_str (pv 2)))))), ?_⟩
    refine ⟨_, rfl, t, _, 0, _, rfl, rfl, SqL.of ht, atI_nat (j := 0) rfl, r, rfl, log_small R.r1 R.r8, _, natS r, rfl, rfl, Nat.le_of_lt (small1000 (by rw [len_r, nr]; decide)), _, _, rfl, rfl, Nat.le_of_lt (small1000 (by rw [app_len, len_r, nr, len_h]; decide)), _, rfl, t, _, 1, _, rfl, rfl, SqL.of ht, atI_nat (j := 1) rfl, h, rfl, log_small R.h1 h8, _, natS h, rfl, rfl, Nat.le_of_lt (small1000 (by rw [app_len, app_len, len_r, nr, len_h, nh]; decide)), ?_⟩
    rw [head_c]
    refine ⟨by show 1 ≤ sizeLine; decide, fun q hq => ?_⟩
    have s0 := same_new (o := .lst [.str (headS r h)]) hq
    refine ⟨_, rfl, qa, rfl, ⟨_, SqL.of (s0 _ _ hqa)⟩, ?_⟩
    refine for_list (xs := xs) (fun i σ H' => ∃ v3 v4, σ = [some (.ref qa), some (.ref t), some (.ref q), v3, v4] ∧ H' q = some (.lst ((headS r h :: (ls.take i).map loopS).map V.str)) ∧ Same H H')
      ⟨none, none, rfl, by rw [List.take_zero]; exact upd_same, s0⟩ (fun i σ H' _ hP => let ⟨_, _, _, _, s⟩ := hP; SqL.of (s _ _ hqa)) (fun i x σ H' hx hP => ?_) (fun σ H1 hP => ?_)
    · obtain ⟨v3, v4, rfl, hr', s1⟩ := hP
      obtain ⟨l, hl, q2, zs, rfl, hq2, hz0⟩ := ha i x hx
      have hz := hz0.k (Kt.same (K := K) s1)
      have hqz := SqL.of (K := K) (s1 _ _ hq2)
      have lz := boxes_len hz
      have B := G.loop hl
      have b2 := G.b2 l (List.mem_of_getElem? hl)
      refine ⟨_, rfl, .inl ⟨rfl, _, SqL.of hr'⟩, ?_⟩
      refine ⟨⟨_, rfl⟩, _, rfl, q2, rfl, ⟨_, hqz⟩, fun D hD => ?_⟩
      refine Lm.lc_map (K := K) walk_list (fun i y H' => ∃ b, l[i]? = some b ∧ y = .str (boxS b)) (fun _ _ _ _ h _ => h) hD (by omega) (fun H' s => Hf.keepL s hqz) (fun j x H2 hj hx2 sm Q2 Z q3 => ?_) (fun H2 ys s2 hy ly hR => ?_)
      · obtain ⟨b, hb, tb⟩ := boxes_at hz hx2
        obtain ⟨qb, rfl, hqb⟩ := box_inv tb
        have nb := B b (List.mem_of_getElem? hb)
        have ln := nb.len
        have lso := sort_len b.2
        have hqb' := sameT sm hqb
        exact ⟨rfl, yesT ⟨_, rfl, qb, _, 0, _, rfl, rfl, hqb', atI_nat (j := 0) rfl, _, _, rfl, rfl, Nat.le_of_lt (small1000 (by rw [numS_len, len_s]; omega)), _, rfl, qb, _, 1, _, rfl, rfl, hqb', atI_nat (j := 1) rfl, _, _, rfl, rfl, Nat.le_of_lt (small1000 (by rw [app_len, numS_len, len_s]; omega)), q3 _ _ (Same.refl _) ⟨b, hb, rfl⟩⟩⟩
      have ey := strs_is (by omega) hR
      subst ey
      have cost := inner_cost B b2
      have il := inner_len B b2
      refine ⟨_, D, l.map boxS, rfl, rfl, .inl (SqL.of hy), by omega, ?_⟩
      refine ⟨_, _, rfl, rfl, Nat.le_of_lt (small1000 (by rw [len_l]; omega)), ?_⟩
      have hr2 := s2 _ _ hr'
      refine ⟨q, _, _, rfl, rfl, hr2, small1000 (by simp only [List.length_map, List.length_cons, List.length_take]; omega), ?_⟩
      refine ⟨_, _, rfl, ?_, same_mut (s1.trans s2) hq⟩
      rw [upd_same, rows_snoc hl]
      rfl
    · obtain ⟨v3, v4, rfl, hr', s1⟩ := hP
      rw [el, List.take_length] at hr'
      have cost := text_cost G R
      exact ⟨⟨_, rfl⟩, _, rfl, _, q, headS r h :: ls.map loopS, rfl, rfl, .inl (SqL.of hr'), by omega, k _ s1⟩
end
end K09

namespace K09
open PySem L2 Wm TL Dv
section
variable {P : Program} {w : World} {K : PySem.W.Frag} {mg : Str → Option Value} {base : Heap}
theorem ixn {n j : Nat} (hj : j < n) : ixN n (j : Int) = some j := by
  unfold ixN
  rw [if_pos (by omega), if_pos (by omega)]
  simp
theorem set_self {α β : Type} {f : α → β} {l : List α} {j : Nat} {b c : α} (hb : l[j]? = some b) (e : f c = f b) : (l.set j c).map f = l.map f := by
  refine List.ext_getElem? fun i => ?_
  rw [List.getElem?_map, List.getElem?_map, List.getElem?_set]
  by_cases q : j = i
  · subst q
    obtain ⟨hj, eb⟩ := List.getElem?_eq_some_iff.mp hb
    simp [hj, e, eb]
  · simp [q]
theorem set_flat {ls : List (List Box)} {i j : Nat} {l : List Box} {b : Box} (s : Bool) (hl : ls[i]? = some l) (hb : l[j]? = some b) {β : Type} (f : Box → β) (e : f (b.1, s) = f b) : (ls.set i (l.set j (b.1, s))).flatten.map f = ls.flatten.map f := by
  rw [List.map_flatten, List.map_flatten]
  congr 1
  exact set_self hl (set_self hb e)
theorem Good.set {ls : List (List Box)} (G : Good ls) {i j : Nat} {l : List Box} {b : Box} (s : Bool) (hl : ls[i]? = some l) (hb : l[j]? = some b) : Good (ls.set i (l.set j (b.1, s))) := by
  have ml := List.mem_of_getElem? hl
  have mem : ∀ m ∈ ls.set i (l.set j (b.1, s)), m ∈ ls ∨ m = l.set j (b.1, s) := fun m h => List.mem_or_eq_of_mem_set h
  refine ⟨by rw [List.length_set]; exact G.l1, by rw [List.length_set]; exact G.l2, fun m h => ?_, fun m h => ?_, fun x h => ?_, ?_⟩
  · rcases mem m h with h | rfl
    · exact G.b1 m h
    · rw [List.length_set]
      exact G.b1 l ml
  · rcases mem m h with h | rfl
    · exact G.b2 m h
    · rw [List.length_set]
      exact G.b2 l ml
  · have e := set_flat s hl hb (fun x : Box => x.1) rfl
    have q : x.1 ∈ (ls.set i (l.set j (b.1, s))).flatten.map fun x : Box => x.1 := List.mem_map_of_mem h
    rw [e] at q
    obtain ⟨y, my, ey⟩ := List.mem_map.mp q
    rw [← ey]
    exact G.num y my
  · rw [set_flat s hl hb (fun x : Box => numS x.1) rfl]
    exact G.nd
theorem dts_set {H : Hp} {ys : List V} {l : List Box} {j : Nat} {v : V} {c : Box} (h : Dts K H ys (l.map boxD)) (t : Dt K H v (boxD c)) : Dts K H (ys.set j v) ((l.set j c).map boxD) := by
  refine dts_of (by rw [List.length_set, List.length_map, List.length_set, h.len, List.length_map]) fun i y hy => ?_
  rw [List.getElem?_set] at hy
  have le := h.len
  rw [List.length_map] at le
  by_cases q : j = i
  · subst q
    rw [if_pos rfl] at hy
    split at hy
    · rename_i hj
      cases hy
      exact ⟨boxD c, by rw [List.getElem?_map, List.getElem?_set, if_pos rfl, if_pos (by omega)]; rfl, t⟩
    · cases hy
  · rw [if_neg q] at hy
    obtain ⟨d, e, td⟩ := h.at hy
    exact ⟨d, by rw [List.getElem?_map, List.getElem?_set, if_neg q, ← List.getElem?_map]; exact e, td⟩
theorem ok_with_box (T : Txt K mg) : FnOk P w K mg base CX0 6 T.a_with_box T.d_with_box ["self", "number", "box"] (sp_with_box K T.C) := by
  refine T.F_with_box.ok sc_with_box (fun vs H Q E h => ?_) (fun cdv A outer s H vs Q E hr h => ?_)
  · obtain ⟨p, q, ls, r, h, i, j, l, b, s, rfl, _⟩ := h
    rfl
  · obtain ⟨p, q, ls, r, h, i, j, l, b, s, rfl, hT, G, R, hl, hb, hq, k⟩ := h
    obtain ⟨dx, fs, y, y2, hp, l1, l2, l3, l4, l5, t, t2⟩ := id hT
    obtain ⟨q0, xs, rfl, hS, hds⟩ := t.inv
    have el := town_len hds
    have g2 := G.l2
    have nb := G.num b (in_flat hl hb)
    have nm : fs.lookup ("site_of" : Str) = none := no_meth "site_of" (by decide +kernel) (by decide +kernel) (by decide +kernel) (by decide +kernel) l5
    refine ⟨_, (pss_cons (ps_asg (pe_meth (pv 0) T.clC T.m_site_of (ok_site_of T) (hr.mono (by decide)) T.b_site_of .nil Mk1.passF (pa_cons (pv 1) pa_nil)) (pg_tup rfl (pgs_cons (pg_name (i := 3) sc_with_box.nd rfl (Or.inl rfl)) (pgs_cons (pg_name (i := 4) sc_with_box.nd rfl (Or.inl rfl)) pgs_nil))))
      (pss_cons (ps_setLc (i := 5) (own := [("loop", 6)]) (g := gName 6) (tt := tYes) rfl sc_with_box.nd rfl rfl (sw_true rfl rfl rfl (by decide +kernel)) (pi_tup (pe_fld (pv 0) rfl)) (blkOk_by (own := [("loop", 6)]) (N := nm_with_box) (sc := (defScope s_with_box)) (by decide +kernel)) (fun _ _ _ _ _ => pg_name (i := 6) sc_with_box.nd rfl (Or.inl rfl)) (fun _ _ _ _ _ => pts_nil) (fun _ _ _ _ _ => (pe_callTy (show CallR _ _ (Kx.rLst K) from call_list_of) (by rfl) T.z_list (by decide +kernel) (pa_cons (pv 6) pa_nil))))
      (pss_cons (ps_asg (pv 2) (pg_sub (pe_ix ix_list (pv 5) (pv 3) (fun _ _ => rfl)) (pv 4) set_list))
      (pss_one (ps_ret (pe_makeK T.mk_init (ok_init T) (hr.mono (by decide)) (by rfl) T.gC T.kb2 pass0 (pa_cons (pv 5) pa_nil) (pk_cons (pe_fld (pv 0) rfl) (pk_cons (pe_fld (pv 0) rfl) pk_nil)))))))), ?_⟩
    refine ⟨_, rfl, p, dx, fs, rfl, hp, nm, _, rfl, p, _, .str (numS b.1), ls, r, h, rfl, hT, G, fun _ _ => .str _, shaped_num nb, fun i2 j2 l2' b2 hl2 hb2 e H1 q1 s1 f1 hq1 => ?_, fun no => (in_self hl hb G no).elim⟩
    obtain ⟨ei, ej, _⟩ := pos_eq G.nd hl hb hl2 hb2 (str_eqv e)
    rw [ei, ej] at hq1
    refine ⟨q1, _, rfl, SqT.of hq1, rfl, _, _, rfl, _, _, rfl, rfl, ?_⟩
    have hS1 := sameT s1 hS
    have hds1 := hds.k (Kt.same (K := K) s1)
    refine ⟨_, rfl, p, T.C, dx, fs, _, rfl, s1 _ _ hp, T.clC, T.nL, l1, q0, rfl, ⟨_, hS1⟩, fun D hD => ?_⟩
    refine Lm.lc_apart walk_tup (fun n y H' => ∃ m qm ys, ls[n]? = some m ∧ y = .ref qm ∧ qm ≠ D ∧ H1 qm = none ∧ H' qm = some (.lst ys) ∧ Dts K H' ys (m.map boxD)) (fun a b => a ≠ b) (fun n y A B zs hR hy bar => ?_) (fun _ _ _ _ h => Lm.same_at h) hD (by omega) (fun H' s => sameT s hS1)
      (fun n x A A' hn sm hDl hY ys0 hys Q2 Z q2 => ?_) (fun H2 ys s2 hy ly hR hN => ?_)
    · obtain ⟨m, qm, ys, e1, e2, e3, e4, e5, e6⟩ := hR
      exact ⟨m, qm, ys, e1, e2, e3, e4, bar _ _ e3 e5, e6.k (Lm.Bar.kt hy bar)⟩
    · obtain ⟨rfl, hx⟩ := hY
      obtain ⟨m, hm, tm⟩ := town_at hds1 hx
      obtain ⟨qz, zs, rfl, hqz, hz⟩ := (tm.k (Kt.same sm)).inv
      obtain ⟨dl, hDl⟩ := hDl
      refine ⟨rfl, yesT ⟨_, rfl, qz, zs, rfl, .inr hqz, fun u hu => ?_⟩⟩
      exact q2 _ _ (same_new hu) ⟨m, u, zs, hm, rfl, (ne_of_none hDl hu).symm, sm.free hu, upd_same, hz.k (Kt.new hu)⟩ (fun z mz ez => by
        obtain ⟨w, hw⟩ := List.getElem?_of_mem mz
        obtain ⟨_, qm, zs2, _, e2, _, _, e5, _⟩ := hys w z hw
        rw [ez] at e2
        cases e2
        rw [e5] at hu
        cases hu)
    · obtain ⟨hi, _⟩ := List.getElem?_eq_some_iff.mp hl
      obtain ⟨yi, hyi⟩ : ∃ y, ys[i]? = some y := ⟨ys[i]'(by omega), List.getElem?_eq_getElem (by omega)⟩
      obtain ⟨m, qm, zs, e1, rfl, e3, e4, e5, e6⟩ := hR i _ hyi
      rw [hl] at e1
      cases e1
      have lz := e6.len
      rw [List.length_map] at lz
      obtain ⟨hj, _⟩ := List.getElem?_eq_some_iff.mp hb
      have s12 := s1.trans s2
      have qp : p ≠ qm := ne_of_none (s1 _ _ hp) e4
      have b3 : Lm.Bar qm H2 (upd H2 qm (.lst (zs.set j (.ref q)))) := fun a o n e => by
        rw [upd_ne n]
        exact e
      have s13 : Same H (upd H2 qm (.lst (zs.set j (.ref q)))) := fun a o e => b3 a o (ne_of_none (s1 _ _ e) e4) (s12 _ _ e)
      refine ⟨_, rfl, _, rfl, _, rfl, D, ys, i, _, rfl, rfl, SqL.of hy, atI_nat hyi, _, rfl, qm, zs, j, j, rfl, rfl, e5, ixn (by omega), ?_⟩
      refine ⟨_, rfl, _, rfl, p, T.C, dx, fs, _, rfl, s13 _ _ hp, T.clC, T.nR, l2, _, rfl, p, T.C, dx, fs, _, rfl, s13 _ _ hp, T.clC, T.nH, l3, rfl, rfl, fun pA dy hpA hdy ne => ?_⟩
      have sm := made (C := T.C) hpA hdy ne
      have tq : Dt K (upd H2 qm (.lst (zs.set j (.ref q)))) (.ref q) (boxD (b.1, s)) := .tup (sameT s13 hq) (.cons (.str _) (.cons (.str _) .nil))
      have L : LsAt K (upd H2 qm (.lst (zs.set j (.ref q)))) D (ls.set i (l.set j (b.1, s))) := by
        refine ⟨ys, b3 _ _ e3.symm hy, by rw [List.length_set]; omega, fun i2 v hv => ?_⟩
        by_cases q : i = i2
        · subst q
          rw [hyi] at hv
          cases hv
          exact ⟨l.set j (b.1, s), by rw [List.getElem?_set, if_pos rfl, if_pos hi], qm, _, rfl, upd_same, dts_set (e6.k (Lm.Bar.kt e5 b3)) tq⟩
        · obtain ⟨m2, qm2, zs2, f1, rfl, f3, f4, f5, f6⟩ := hR i2 _ hv
          have nq : qm2 ≠ qm := fun e => by
            obtain ⟨g1, g1'⟩ := List.getElem?_eq_some_iff.mp hyi
            obtain ⟨g2, g2'⟩ := List.getElem?_eq_some_iff.mp hv
            have pw := List.pairwise_iff_getElem.mp hN
            rcases Nat.lt_or_gt_of_ne q with lt | lt
            · exact pw i i2 g1 g2 lt (by rw [g1', g2', e])
            · exact pw i2 i g2 g1 lt (by rw [g1', g2', e])
          exact ⟨m2, by rw [List.getElem?_set, if_neg q]; exact f1, qm2, zs2, rfl, b3 _ _ nq f5, f6.k (Lm.Bar.kt e5 b3)⟩
      refine ⟨pA, dy, .ref D, _, r, h, rfl, upd_same, (L.keep sm).inTown, G.set s hl hb, R.r1, R.r8, R.h1, R.h2, R.hr, fun H7 off tA => ⟨rfl, ?_⟩⟩
      exact k _ _ (s13.trans (made_off hpA hdy ne off)) tA
end
end K09

namespace K09
open PySem L2 Wm TL Dv
section
variable {P : Program} {w : World} {K : PySem.W.Frag} {mg : Str → Option Value} {base : Heap}
theorem ok_with_sort (T : Txt K mg) : FnOk P w K mg base CX0 7 T.a_with_sort T.d_with_sort ["self", "number", "sort"] (sp_with_sort K T.C) := by
  refine T.F_with_sort.ok sc_with_sort (fun vs H Q E h => ?_) (fun cdv A outer s H vs Q E hr h => ?_)
  · obtain ⟨p, ls, r, h, i, j, l, b, s, rfl, _⟩ := h
    rfl
  · obtain ⟨p, ls, r, h, i, j, l, b, s, rfl, hT, G, R, hl, hb, k⟩ := h
    obtain ⟨dx, fs, y, y2, hp, l1, l2, l3, l4, l5, t, t2⟩ := id hT
    have nm : fs.lookup ("with_box" : Str) = none := no_meth "with_box" (by decide +kernel) (by decide +kernel) (by decide +kernel) (by decide +kernel) l5
    refine ⟨_, (pss_one (ps_ret (pe_meth (pv 0) T.clC T.m_with_box (ok_with_box T) (hr.mono (by decide)) T.b_with_box .nil pass0 (pa_cons (pv 1) (pa_cons (pe_tup (pa_cons (pv 1) (pa_cons (pv 2) pa_nil))) pa_nil))))), ?_⟩
    refine ⟨_, rfl, p, dx, fs, rfl, hp, nm, _, rfl, _, rfl, _, rfl, by show 2 ≤ sizeLine; decide, fun q hq => ?_⟩
    have s1 := same_new (o := .tup [.str (numS b.1), .str (sortS s)]) hq
    exact ⟨p, q, ls, r, h, i, j, l, b, s, rfl, hT.keep s1, G, R, hl, hb, SqT.of upd_same, fun H' p2 s2 tA => k _ _ (s1.trans s2) tA⟩
end
end K09

namespace K09
open PySem L2 Wm TL Dv
section
variable {P : Program} {w : World} {K : PySem.W.Frag} {mg : Str → Option Value} {base : Heap}
theorem ok_read_town (T : Txt K mg) : FnOk P w K mg base CX0 6 T.a_read_town T.d_read_town ["text"] (sp_read_town K T.C) := by
  refine T.F_read_town.ok sc_read_town (fun vs H Q E h => ?_) (fun cdv A outer s H vs Q E hr h => ?_)
  · obtain ⟨ls, r, h, rfl, _⟩ := h
    rfl
  · obtain ⟨ls, r, h, rfl, G, R, k⟩ := h
    have g2 := G.l2
    refine ⟨_, (pss_cons (ps_set (i := 1) sc_read_town.nd rfl (Or.inl rfl) (pe_split (pv 0) pe_str))
      (pss_cons (ps_asg (pe_call (ok_read_head T) (hr.mono (by decide)) (by rfl) T.g_read_head T.F_read_head.kp T.b_read_head .nil pass0 (pa_cons (pe_ix ix_list (pv 1) pe_int (fun _ _ => rfl)) pa_nil)) (pg_tup rfl (pgs_cons (pg_name (i := 2) sc_read_town.nd rfl (Or.inl rfl)) (pgs_cons (pg_name (i := 3) sc_read_town.nd rfl (Or.inl rfl)) pgs_nil))))
      (pss_cons (ps_setLc (i := 4) (own := [("index", 5), ("row", 6)]) (g := gTup K 2 (gCons (gName 5) (gCons (gName 6) (gNil)))) (tt := tYes) rfl sc_read_town.nd rfl rfl (sw_true rfl rfl rfl (by decide +kernel)) (Eu.pi_enumS (by rfl) T.z_enumerate (pa_cons (pe_slice sl_list (pv 1) (po_some pe_int) po_none) pa_nil) (pk_cons pe_int pk_nil)) (blkOk_by (own := [("index", 5), ("row", 6)]) (N := nm_read_town) (sc := (defScope s_read_town)) (by decide +kernel)) (fun _ _ _ _ _ => (pg_tup rfl (pgs_cons (pg_name (i := 5) sc_read_town.nd rfl (Or.inl rfl)) (pgs_cons (pg_name (i := 6) sc_read_town.nd rfl (Or.inl rfl)) pgs_nil)))) (fun _ _ _ _ _ => pts_nil) (fun _ _ _ _ _ => (pe_call (ok_read_loop T) (hr.mono (by decide)) (by rfl) T.g_read_loop T.F_read_loop.kp T.b_read_loop .nil pass0 (pa_cons (pv 5) (pa_cons (pv 6) pa_nil)))))
      (pss_one (ps_try_thru0 (pss_one (ps_ret (pe_makeK T.mk_init (ok_init T) (hr.mono (by decide)) (by rfl) T.gC T.kb2 pass0 (pa_cons (pv 4) pa_nil) (pk_cons (pv 2) (pk_cons (pv 3) pk_nil)))))))))), ?_⟩
    refine ⟨_, rfl, ⟨_, rfl⟩, _, _, rfl, rfl, by decide +kernel, Nat.le_of_lt (small1000 (by have := text_len G R; omega)), fun q hq => ?_⟩
    rw [rows_back G R]
    have s1 := same_new (o := .lst ((headS r h :: ls.map loopS).map V.str)) hq
    have hS : upd H q (.lst ((headS r h :: ls.map loopS).map V.str)) q = some (.lst ((headS r h :: ls.map loopS).map V.str)) := upd_same
    generalize upd H q (.lst ((headS r h :: ls.map loopS).map V.str)) = H1 at *
    have hL := SqL.of (K := K) hS
    refine ⟨_, rfl, q, _, 0, _, rfl, rfl, hL, atI_nat (j := 0) rfl, r, h, rfl, R, fun H2 q2 s2 hq2 => ?_⟩
    refine ⟨q2, _, rfl, SqT.of hq2, rfl, ?_⟩
    refine ⟨_, _, rfl, _, _, rfl, rfl, ?_⟩
    refine ⟨_, rfl, 1, rfl, q, _, rfl, Hf.keepL s2 hL, fun q3 hq3 => ?_⟩
    rw [show cutV ((headS r h :: ls.map loopS).map V.str) (some 1) none = (ls.map loopS).map V.str from cut_from _ 1 (by simp)]
    have s12 := s1.trans s2
    have s3 := same_new (o := .lst ((ls.map loopS).map V.str)) hq3
    have hR3 : upd H2 q3 (.lst ((ls.map loopS).map V.str)) q3 = some (.lst ((ls.map loopS).map V.str)) := upd_same
    generalize upd H2 q3 (.lst ((ls.map loopS).map V.str)) = H3 at *
    have s13 := s12.trans s3
    refine ⟨q3, _, 1, rfl, rfl, by decide, by decide, SqL.of hR3, fun D hD => ?_⟩
    refine Lm.lc_any Eu.walk_its (fun n y H' => ∃ m qm ys, ls[n]? = some m ∧ y = .ref qm ∧ qm ≠ D ∧ H' qm = some (.lst ys) ∧ Dts K H' ys (m.map boxD)) (fun n y A B zs hR hy bar => ?_) (fun _ _ _ _ h => Lm.same_pair h) hD (by simp only [List.length_map]; omega) (fun H' s => SqL.of (s _ _ hR3))
      (fun n x A A' hn sm hDl hY Q2 Z q2' => ?_) (fun H4 ys s4 hy ly hR => ?_)
    · obtain ⟨m, qm, ys, e1, e2, e3, e5, e6⟩ := hR
      exact ⟨m, qm, ys, e1, e2, e3, bar _ _ e3 e5, e6.k (Lm.Bar.kt hy bar)⟩
    · obtain ⟨T2, a, b, rfl, hT2, rfl, ea, eb⟩ := hY
      cases ea
      change ((ls.map loopS).map V.str)[n]? = some b at eb
      rw [List.getElem?_map, List.getElem?_map] at eb
      obtain ⟨y, hy, rfl⟩ := Option.map_eq_some_iff.mp eb
      obtain ⟨l, hl, rfl⟩ := Option.map_eq_some_iff.mp hy
      have ml := List.mem_of_getElem? hl
      obtain ⟨dl, hDl⟩ := hDl
      have sT := same_new (o := .tup [.int (1 + (n : Nat)), .str (loopS l)]) hT2
      refine ⟨T2, _, rfl, SqT.of upd_same, rfl, _, _, rfl, _, _, rfl, rfl, rfl, yesT ?_⟩
      refine ⟨_, rfl, _, rfl, _, l, rfl, G.loop hl, G.b1 l ml, G.b2 l ml, fun H' qm ys s5 e0 e1 e2 => ?_⟩
      exact q2' _ _ (by first | exact s5 | exact sT.trans s5) ⟨l, qm, ys, hl, rfl, (ne_of_none (sT _ _ hDl) e0).symm, e1, e2⟩
    rw [List.length_map, List.length_map] at ly
    have L : LsAt K H4 D ls := ⟨ys, hy, ly, fun i v hv => by
      obtain ⟨m, qm, zs, e1, e2, e3, e5, e6⟩ := hR i v hv
      exact ⟨m, e1, qm, zs, e2, e5, e6⟩⟩
    have s14 := s13.trans s4
    refine ⟨_, rfl, _, rfl, _, rfl, rfl, rfl, fun pA dy hpA hdy ne => ?_⟩
    have sm := made (C := T.C) hpA hdy ne
    refine ⟨pA, dy, .ref D, _, r, h, rfl, upd_same, (L.keep sm).inTown, G, R.r1, R.r8, R.h1, R.h2, R.hr, fun H7 off tA => ⟨rfl, ?_⟩⟩
    exact k _ _ (s14.trans (made_off hpA hdy ne off)) tA
end
end K09

namespace K09
open PySem L2 Wm TL Dv
section
variable {P : Program} {w : World} {K : PySem.W.Frag} {mg : Str → Option Value} {base : Heap}
theorem fine_place (i j : Nat) (s : Bool) : Fine 1 (.list [.int (i : Nat), .int (j : Nat), .str (sortS s)]) := fine_lst (n := 0) fun d m => by
  simp only [List.mem_cons, List.not_mem_nil, or_false] at m
  rcases m with rfl | rfl | rfl
  · exact fine_int _
  · exact fine_int _
  · exact fine_str (by cases s <;> decide +kernel)
theorem ls_ins {H : Hp} {xs : List V} {ls : List (List Box)} (ha : ∀ (i : Nat) v, xs[i]? = some v → ∃ l, ls[i]? = some l ∧ ∃ q2 ys, v = .ref q2 ∧ H q2 = some (.lst ys) ∧ Dts K H ys (l.map boxD)) (i : Nat) (v : V) (hv : xs[i]? = some v) : ∃ l, ls[i]? = some l ∧ LoopIn K H v l := by
  obtain ⟨l, hl, q2, ys2, e, h2, hd⟩ := ha i v hv
  exact ⟨l, hl, q2, ys2, false, e, Kd.Is.lst (SqL.of h2), hd⟩
theorem ok_asked (T : Txt K mg) : FnOk P w K mg base CX0 8 T.a_asked T.d_asked ["_law_town", "_law_loops_here", "_law_rules_here"] (sp_asked K T.C) := by
  refine T.F_asked.ok sc_asked (fun vs H Q E h => ?_) (fun cdv A outer s H vs Q E hr h => ?_)
  · obtain ⟨p, q, t, ls, r, h, rfl, _⟩ := h
    rfl
  · obtain ⟨p, q, t, ls, r, h, rfl, hT, hL, G, R, ht, k⟩ := h
    obtain ⟨xs, hq, el, ha⟩ := id hL
    obtain ⟨dx, fs, y, y2, hp, l1, l2, l3, l4, l5, tt, tt2⟩ := id hT
    have g2 := G.l2
    have fT := fine_town G
    refine ⟨_, (pss_cons (ps_set (i := 3) sc_asked.nd rfl (Or.inl rfl) (pe_call (ok_town_text T) (hr.mono (by decide)) (by rfl) T.g_town_text T.F_town_text.kp T.b_town_text .nil pass0 (pa_cons (pv 0) pa_nil)))
      (pss_cons (ps_if (PW.pt (pw_or (pt_not (pt_val (pe_callB call_isi (by rfl) T.z_isinstance (by decide +kernel) (pa_cons (pv 3) (pa_cons (pe_bltn (v := V.ty "str") (by rfl) T.z_str (by decide +kernel) rfl) pa_nil))))) (pw_or1 (pt_cmpR op_ne (pv 3) (pe_call (ok_text T) (hr.mono (by decide)) (by rfl) T.g_text T.F_text.kp T.b_text .nil pass0 (pa_cons (pv 1) (pa_cons (pv 2) pa_nil))) (nomark _)))))
        (pss_one (ps_ret pe_bl))
        pss_nil)
      (pss_cons (ps_set (i := 4) sc_asked.nd rfl (Or.inl rfl) (pe_call (ok_read_town T) (hr.mono (by decide)) (by rfl) T.g_read_town T.F_read_town.kp T.b_read_town .nil pass0 (pa_cons (pv 3) pa_nil)))
      (pss_cons (ps_if (PW.pt (pw_or (pt_not (pt_val (pe_callB call_isi (by rfl) T.z_isinstance (by decide +kernel) (pa_cons (pv 4) (pa_cons (pe_glob (v := V.ref T.C) rfl T.gC rfl) pa_nil))))) (pw_or (pt_cmpR (On.op_ne T.ne ((ok_eq T).raw T.b_eq .nil) (hr.mono (by decide)) hr.units pass0) (pv 4) (pv 0) (nomark _)) (pw_or1 (pt_cmpR op_ne (pe_call (ok_town_text T) (hr.mono (by decide)) (by rfl) T.g_town_text T.F_town_text.kp T.b_town_text .nil pass0 (pa_cons (pv 4) pa_nil)) (pv 3) (nomark _))))))
        (pss_one (ps_ret pe_bl))
        pss_nil)
      (pss_cons (ps_if (PW.pt (pw_or (pt_cmpR (op_neD hr.units) (pe_fld (pv 4) rfl) (pe_call (ok_told T) (hr.mono (by decide)) (by rfl) T.g_told T.F_told.kp T.b_told .nil pass0 (pa_cons (pv 1) pa_nil)) (nomark _)) (pw_or1 (pt_cmpR (op_neD hr.units) (pe_lst (pa_cons (pe_fld (pv 4) rfl) (pa_cons (pe_fld (pv 4) rfl) pa_nil))) (pv 2) (nomark _)))))
        (pss_one (ps_ret pe_bl))
        pss_nil)
      (pss_cons (ps_for PassesOwn.never rfl (pi_range1 (by rfl) T.z_range (pa_cons (pe_callB call_len_seq (by rfl) T.z_len PySem.boot_len (pa_cons (pv 1) pa_nil)) pa_nil)) (pg_name (i := 5) sc_asked.nd rfl (Or.inl rfl))
        (pss_one (ps_for PassesOwn.never rfl (pi_range1 (by rfl) T.z_range (pa_cons (pe_callB call_len_seq (by rfl) T.z_len PySem.boot_len (pa_cons (pe_ix ix_list (pv 1) (pv 5) (fun _ _ => rfl)) pa_nil)) pa_nil)) (pg_name (i := 6) sc_asked.nd rfl (Or.inl rfl))
          (pss_cons (ps_set (i := 7) sc_asked.nd rfl (Or.inl rfl) (pe_ix ix_list (pe_ix ix_list (pv 1) (pv 5) (fun _ _ => rfl)) (pv 6) (fun _ _ => rfl)))
          (pss_one (ps_if (pt_cmpR (op_neD hr.units) (pe_lst (pa_cons (pe_meth (pv 4) T.clC T.m_loop_of (ok_loop_of T) (hr.mono (by decide)) T.b_loop_of .nil Mk1.passF (pa_cons (pe_ix ix_tup (pv 7) pe_int (fun _ _ => rfl)) pa_nil)) (pa_cons (pe_meth (pv 4) T.clC T.m_place_of (ok_place_of T) (hr.mono (by decide)) T.b_place_of .nil Mk1.passF (pa_cons (pe_ix ix_tup (pv 7) pe_int (fun _ _ => rfl)) pa_nil)) (pa_cons (pe_meth (pv 4) T.clC T.m_sort_of (ok_sort_of T) (hr.mono (by decide)) T.b_sort_of .nil Mk1.passF (pa_cons (pe_ix ix_tup (pv 7) pe_int (fun _ _ => rfl)) pa_nil)) pa_nil)))) (pe_lst (pa_cons (pv 5) (pa_cons (pv 6) (pa_cons (pe_ix ix_tup (pv 7) pe_int (fun _ _ => rfl)) pa_nil)))) (nomark _))
            (pss_one (ps_ret pe_bl))
            pss_nil))))))
      (pss_one (ps_ret (pe_cmpR (op_eqD hr.units) (pe_fld (pv 0) rfl) (pe_call (ok_told T) (hr.mono (by decide)) (by rfl) T.g_told T.F_told.kp T.b_told .nil pass0 (pa_cons (pv 1) pa_nil)) (nomark _)))))))))), ?_⟩
    refine ⟨_, rfl, p, ls, r, h, rfl, hT, G, R, fun H1 s1 => ?_⟩
    refine ⟨_, rfl, _, _, _, _, true, rfl, .ty "str", .base (.str _), kit_ty (by decide +kernel), true, rfl, iteF ?_⟩
    refine ⟨_, rfl, _, rfl, _, rfl, q, t, ls, r, h, rfl, hL.keep s1, G, R, s1 _ _ ht, fun H2 s2 => ⟨rfl, _, rfl, iteN (by simp) ?_⟩⟩
    have s12 := s1.trans s2
    refine ⟨_, rfl, ls, r, h, rfl, G, R, fun H3 pB s3 tB => ?_⟩
    have s13 := s12.trans s3
    obtain ⟨dxB, fsB, yB, yB2, hpB, b1, b2, b3, b4, b5, bT, bT2⟩ := id tB
    refine ⟨_, rfl, _, _, _, _, true, rfl, .own T.C, ins_ty T.clC T.isi hpB, T.kS, true, rfl, iteF ?_⟩
    have te : (PyData.eqv (townD ls) (townD ls) && (decide (V.int r = V.int r) && decide (V.int h = V.int h))) = true := by
      rw [fT.refl, decide_eq_true rfl, decide_eq_true rfl]
      rfl
    refine ⟨_, rfl, _, rfl, pB, dxB, fsB, p, dx, fs, rfl, rfl, hpB, s13 _ _ hp, pB, .ref p, ls, r, h, rfl, tB, G, .inl ⟨p, ls, r, h, rfl, hT.keep s13, G, _, rfl, _, rfl, iteN (by rw [te]; rfl) ?_⟩⟩
    refine ⟨_, rfl, pB, ls, r, h, rfl, tB, G, R, fun H4 s4 => ⟨_, rfl, rfl, _, rfl, iteN (by simp) ?_⟩⟩
    have s14 := s13.trans s4
    refine ⟨_, rfl, pB, T.C, dxB, fsB, _, rfl, s4 _ _ hpB, T.clC, T.nL, b1, _, rfl, q, xs, ls, rfl, SqL.of (s14 _ _ hq), el, ls_ins fun i v hv => ?_, by omega, fun H5 y5 s5 d5 => ?_⟩
    · obtain ⟨l, hl, q2, ys2, e, h2, hd⟩ := ha i v hv
      exact ⟨l, hl, q2, ys2, e, s14 _ _ h2, hd.k (Kt.same s14)⟩
    have fs' := fT.shaped (by decide)
    have s15 := s14.trans s5
    refine ⟨_, _, (bT.k (Kt.same (s4.trans s5))).toDp, d5.toDp, fs', fs', _, rfl, iteN (by rw [fT.refl]; rfl) ?_⟩
    have hpB5 := s5 _ _ (s4 _ _ hpB)
    refine ⟨_, rfl, pB, T.C, dxB, fsB, _, rfl, hpB5, T.clC, T.nR, b2, _, rfl, pB, T.C, dxB, fsB, _, rfl, hpB5, T.clC, T.nH, b3, by show 2 ≤ sizeLine; decide, fun u hu => ?_⟩
    have fi := ints_fine [r, h]
    have s6 := same_new (o := .lst [.int r, .int h]) hu
    have s16 := s15.trans s6
    refine ⟨_, rfl, .list [.int r, .int h], .list [.int r, .int h], .lst (SqL.of upd_same) (.cons (.int _) (.cons (.int _) .nil)), .lst (SqL.of (s16 _ _ ht)) (.cons (.int _) (.cons (.int _) .nil)), fi.shaped (by decide), fi.shaped (by decide), _, rfl, iteN (by rw [show PyData.eqv (.list [.int r, .int h]) (.list [.int r, .int h]) = true from fi.refl]; rfl) ?_⟩
    have tB6 := tB.keep ((s4.trans s5).trans s6)
    generalize upd H5 u (.lst [.int r, .int h]) = H6 at *
    have n1 : fsB.lookup ("sort_of" : Str) = none := no_meth "sort_of" (by decide +kernel) (by decide +kernel) (by decide +kernel) (by decide +kernel) b5
    have n2 : fsB.lookup ("loop_of" : Str) = none := no_meth "loop_of" (by decide +kernel) (by decide +kernel) (by decide +kernel) (by decide +kernel) b5
    have n3 : fsB.lookup ("place_of" : Str) = none := no_meth "place_of" (by decide +kernel) (by decide +kernel) (by decide +kernel) (by decide +kernel) b5
    have hpB6 := s6 _ _ hpB5
    refine ⟨_, rfl, q, xs, rfl, .inl (SqL.of (s16 _ _ hq)), _, rfl, by omega, by omega, ?_⟩
    rw [Int.toNat_natCast]
    refine for_range (fun i σ H' => ∃ v5 v6 v7, σ = [some (.ref p), some (.ref q), some (.ref t), some (.str (textS ls r h)), some (.ref pB), v5, v6, v7] ∧ Same H6 H') ⟨none, none, none, rfl, Same.refl _⟩ (fun i σ H7 hi hP => ?_) (fun σ H7 hP => ?_)
    · obtain ⟨v5, v6, v7, rfl, s7⟩ := hP
      obtain ⟨l, q2, ys, hl, hx, hq2, hz, ly⟩ := LsAt.at el ha (i := i) (by omega)
      have b2' := G.b2 l (List.mem_of_getElem? hl)
      have ii : (0 : Int) + (i : Nat) = ((i : Nat) : Int) := Int.zero_add _
      have s17 := s16.trans s7
      refine ⟨_, rfl, _, rfl, q, xs, ((i : Nat) : Int), _, rfl, by rw [ii], SqL.of (s17 _ _ hq), atI_nat hx, q2, ys, rfl, .inl (SqL.of (s17 _ _ hq2)), _, rfl, by omega, by omega, ?_⟩
      rw [Int.toNat_natCast]
      refine for_range (fun j σ H' => ∃ v6 v7, σ = [some (.ref p), some (.ref q), some (.ref t), some (.str (textS ls r h)), some (.ref pB), some (.int (0 + (i : Nat))), v6, v7] ∧ Same H6 H') ⟨v6, v7, rfl, s7⟩ (fun j σ H8 hj hP => ?_) (fun σ H8 hP => ?_)
      · obtain ⟨v6, v7, rfl, s8⟩ := hP
        have s18 := s16.trans s8
        have jj : (0 : Int) + (j : Nat) = ((j : Nat) : Int) := Int.zero_add _
        have hjy := List.getElem?_eq_getElem (l := ys) (i := j) hj
        obtain ⟨b, hb, tb⟩ := boxes_at hz hjy
        obtain ⟨q3, e3, hq3⟩ := box_inv tb
        rw [e3] at hjy
        have nb := G.num b (in_flat hl hb)
        refine ⟨_, rfl, _, rfl, q, xs, ((i : Nat) : Int), _, rfl, by rw [ii], SqL.of (s18 _ _ hq), atI_nat hx, _, rfl, q2, ys, ((j : Nat) : Int), _, rfl, by rw [jj], SqL.of (s18 _ _ hq2), atI_nat hjy, ?_⟩
        refine ⟨_, rfl, pB, dxB, fsB, rfl, s8 _ _ hpB6, n2, _, rfl, q3, _, 0, _, rfl, rfl, sameT s18 hq3, atI_nat (j := 0) rfl, pB, _, .str (numS b.1), ls, r, h, rfl, tB6.keep s8, G, fun _ _ => .str _, shaped_num nb, fun i3 j3 l3 b3 hl3 hb3 e3 H9 s9 => ?_, fun no => (in_self hl hb G no).elim⟩
        rw [(pos_eq G.nd hl hb hl3 hb3 (str_eqv e3)).1]
        have s9' := s8.trans s9
        refine ⟨_, rfl, pB, dxB, fsB, rfl, s9' _ _ hpB6, n3, _, rfl, q3, _, 0, _, rfl, rfl, sameT (s16.trans s9') hq3, atI_nat (j := 0) rfl, pB, _, .str (numS b.1), ls, r, h, rfl, tB6.keep s9', G, fun _ _ => .str _, shaped_num nb, fun i5 j5 l6 b5 hl5 hb5 e5 H10 s10 => ?_, fun no => (in_self hl hb G no).elim⟩
        rw [(pos_eq G.nd hl hb hl5 hb5 (str_eqv e5)).2.1]
        have s10' := s9'.trans s10
        refine ⟨_, rfl, pB, dxB, fsB, rfl, s10' _ _ hpB6, n1, _, rfl, q3, _, 0, _, rfl, rfl, sameT (s16.trans s10') hq3, atI_nat (j := 0) rfl, pB, _, .str (numS b.1), ls, r, h, rfl, tB6.keep s10', G, fun _ _ => .str _, shaped_num nb, fun i2 j2 l2 b2 hl2 hb2 e H11 s11 => ?_, fun no => (in_self hl hb G no).elim⟩
        rw [(pos_eq G.nd hl hb hl2 hb2 (str_eqv e)).2.2]
        have s11' := s10'.trans s11
        refine ⟨by show 3 ≤ sizeLine; decide, fun u1 hu1 => ?_⟩
        have s12 := s11'.trans (same_new (o := .lst [V.int (i : Nat), V.int (j : Nat), V.str (sortS b.2)]) hu1)
        have h1 : upd H11 u1 (.lst [V.int (i : Nat), V.int (j : Nat), V.str (sortS b.2)]) u1 = some (.lst [V.int (i : Nat), V.int (j : Nat), V.str (sortS b.2)]) := upd_same
        generalize upd H11 u1 (.lst [V.int (i : Nat), V.int (j : Nat), V.str (sortS b.2)]) = H12 at *
        refine ⟨_, rfl, _, rfl, _, rfl, q3, _, 1, _, rfl, rfl, sameT (s16.trans s12) hq3, atI_nat (j := 1) rfl, by show 3 ≤ sizeLine; decide, fun u2 hu2 => ?_⟩
        rw [ii, jj]
        have f := fine_place i j b.2
        exact ⟨.list [.int (i : Nat), .int (j : Nat), .str (sortS b.2)], .list [.int (i : Nat), .int (j : Nat), .str (sortS b.2)], .lst (SqL.of (at_old h1 hu2)) (.cons (.int _) (.cons (.int _) (.cons (.str _) .nil))), .lst (SqL.of upd_same) (.cons (.int _) (.cons (.int _) (.cons (.str _) .nil))), f.shaped (by decide), f.shaped (by decide), _, rfl, iteN (by rw [show PyData.eqv (.list [.int (i : Nat), .int (j : Nat), .str (sortS b.2)]) (.list [.int (i : Nat), .int (j : Nat), .str (sortS b.2)]) = true from f.refl]; rfl) ⟨_, _, rfl, s12.trans (same_new hu2)⟩⟩
      · obtain ⟨v6, v7, rfl, s8⟩ := hP
        exact ⟨_, _, _, rfl, s8⟩
    · obtain ⟨v5, v6, v7, rfl, s7⟩ := hP
      have s17 := s16.trans s7
      refine ⟨_, rfl, p, T.C, dx, fs, _, rfl, s17 _ _ hp, T.clC, T.nL, l1, _, rfl, q, xs, ls, rfl, SqL.of (s17 _ _ hq), el, ls_ins fun i v hv => ?_, by omega, fun H8 y8 s8 d8 => ?_⟩
      · obtain ⟨l, hl, q2, ys2, e, h2, hd⟩ := ha i v hv
        exact ⟨l, hl, q2, ys2, e, s17 _ _ h2, hd.k (Kt.same s17)⟩
      refine ⟨_, _, (tt.k (Kt.same (s17.trans s8))).toDp, d8.toDp, fs', fs', ?_⟩
      rw [fT.refl]
      exact k _ (s17.trans s8)
end
end K09

namespace K09
open PySem L2 Wm TL Dv
section
variable {P : Program} {w : World} {K : PySem.W.Frag} {mg : Str → Option Value} {base : Heap}
theorem both_eqv {a b : List (List Box)} {r h r2 h2 : Int} (G : Good a) (G2 : Good b) (R : Rul r h) (R2 : Rul r2 h2) :
    decide (V.str (textS a r h) = V.str (textS b r2 h2)) = (PyData.eqv (listsD a) (listsD b) && PyData.eqv (.list [.int r, .int h]) (.list [.int r2, .int h2])) := by
  rw [eqv_lists, eqv_two]
  by_cases e : textS a r h = textS b r2 h2
  · obtain ⟨rfl, rfl, rfl⟩ := text_inj G G2 R R2 e
    rw [(fine_town G).refl]
    simp
  · rw [decide_eq_false (fun z => e (V.str.inj z))]
    refine Eq.symm (Bool.eq_false_iff.mpr fun z => e ?_)
    rw [Bool.and_eq_true, Bool.and_eq_true] at z
    obtain ⟨z1, z2, z3⟩ := z
    rw [eqv_town z1, V.int.inj (of_decide_eq_true z2), V.int.inj (of_decide_eq_true z3)]
theorem set_ne {ls : List (List Box)} {l : List Box} {b : Box} (hl : ls[0]? = some l) (hb : l[0]? = some b) : ls.set 0 (l.set 0 (b.1, !b.2)) ≠ ls := fun e => by
  have e1 := congrArg (fun m : List (List Box) => m[0]?) e
  obtain ⟨h0, _⟩ := List.getElem?_eq_some_iff.mp hl
  obtain ⟨h1, _⟩ := List.getElem?_eq_some_iff.mp hb
  simp only [List.getElem?_set, if_true, h0, hl] at e1
  have e2 := congrArg (fun m : List Box => m[0]?) (Option.some.inj e1)
  simp only [List.getElem?_set, if_true, h1, hb] at e2
  have e3 := congrArg Prod.snd (Option.some.inj e2)
  revert e3
  cases b.2 <;> simp
theorem other_sort (s : Bool) : atI [V.str "plain", V.str "shy"] (if decide (V.str (sortS s) = V.str "plain") = true then 1 else 0) = some (V.str (sortS (!s))) := by
  cases s <;> decide +kernel
theorem ok_law (T : Txt K mg) : FnOk P w K mg base CX0 10 T.a_law T.d_law ["_law_script"] (sp_law K) := by
  refine T.F_law.ok sc_law (fun vs H Q E h => ?_) (fun cdv A outer s H vs Q E hr h => ?_)
  · obtain ⟨a, ns, rfl, _⟩ := h
    rfl
  · obtain ⟨a, ns, rfl, hS, hl, k⟩ := h
    refine ⟨_, (pss_cons (ps_set (i := 1) sc_law.nd rfl (Or.inl rfl) (pe_call (ok_bag T) (hr.mono (by decide)) (by rfl) T.g_bag T.F_bag.kp T.b_bag .nil pass0 (pa_cons (pv 0) pa_nil)))
      (pss_cons (ps_set (i := 2) sc_law.nd rfl (Or.inl rfl) (pe_call (ok_loops T) (hr.mono (by decide)) (by rfl) T.g_loops T.F_loops.kp T.b_loops .nil pass0 (pa_cons (pv 1) pa_nil)))
      (pss_cons (ps_set (i := 3) sc_law.nd rfl (Or.inl rfl) (pe_call (ok_rules T) (hr.mono (by decide)) (by rfl) T.g_rules T.F_rules.kp T.b_rules .nil pass0 (pa_cons (pv 1) pa_nil)))
      (pss_cons (ps_set (i := 4) sc_law.nd rfl (Or.inl rfl) (pe_call (ok_loops T) (hr.mono (by decide)) (by rfl) T.g_loops T.F_loops.kp T.b_loops .nil pass0 (pa_cons (pv 1) pa_nil)))
      (pss_cons (ps_set (i := 5) sc_law.nd rfl (Or.inl rfl) (pe_call (ok_rules T) (hr.mono (by decide)) (by rfl) T.g_rules T.F_rules.kp T.b_rules .nil pass0 (pa_cons (pv 1) pa_nil)))
      (pss_cons (ps_set (i := 6) sc_law.nd rfl (Or.inl rfl) (pe_makeK T.mk_init (ok_init T) (hr.mono (by decide)) (by rfl) T.gC T.kb2 pass0 (pa_cons (pv 2) pa_nil) (pk_cons (pe_ix ix_list (pv 3) pe_int (fun _ _ => rfl)) (pk_cons (pe_ix ix_list (pv 3) pe_int (fun _ _ => rfl)) pk_nil))))
      (pss_cons (ps_set (i := 7) sc_law.nd rfl (Or.inl rfl) (pe_makeK T.mk_init (ok_init T) (hr.mono (by decide)) (by rfl) T.gC T.kb2 pass0 (pa_cons (pv 4) pa_nil) (pk_cons (pe_ix ix_list (pv 5) pe_int (fun _ _ => rfl)) (pk_cons (pe_ix ix_list (pv 5) pe_int (fun _ _ => rfl)) pk_nil))))
      (pss_cons (ps_if (PW.pt (pw_or (pt_not (pt_truth (pe_call (ok_asked T) (hr.mono (by decide)) (by rfl) T.g_asked T.F_asked.kp T.b_asked .nil pass0 (pa_cons (pv 6) (pa_cons (pv 2) (pa_cons (pv 3) pa_nil)))) (by intro _; rfl))) (pw_or1 (pt_not (pt_truth (pe_call (ok_asked T) (hr.mono (by decide)) (by rfl) T.g_asked T.F_asked.kp T.b_asked .nil pass0 (pa_cons (pv 7) (pa_cons (pv 4) (pa_cons (pv 5) pa_nil)))) (by intro _; rfl))))))
        (pss_one (ps_ret pe_bl))
        pss_nil)
      (C8.pss_cut (ps_set (i := 8) sc_law.nd rfl (Or.inl rfl) (pe_and (pe_cmpR (op_eqD hr.units) (pv 2) (pv 4) (nomark _)) (pe_one (pe_cmpR (op_eqD hr.units) (pv 3) (pv 5) (nomark _)))))
      (pss_cons (ps_if (pt_cmpR op_ne (pe_cmpR op_eq (pe_call (ok_town_text T) (hr.mono (by decide)) (by rfl) T.g_town_text T.F_town_text.kp T.b_town_text .nil pass0 (pa_cons (pv 6) pa_nil)) (pe_call (ok_town_text T) (hr.mono (by decide)) (by rfl) T.g_town_text T.F_town_text.kp T.b_town_text .nil pass0 (pa_cons (pv 7) pa_nil)) (nomark _)) (pv 8) (nomark _))
        (pss_one (ps_ret pe_bl))
        pss_nil)
      (pss_cons (ps_set (i := 9) sc_law.nd rfl (Or.inl rfl) (pe_meth (pv 6) T.clC T.m_with_sort (ok_with_sort T) (hr.mono (by decide)) T.b_with_sort .nil pass0 (pa_cons (pe_ix ix_tup (pe_ix ix_list (pe_ix ix_list (pv 2) pe_int (fun _ _ => rfl)) pe_int (fun _ _ => rfl)) pe_int (fun _ _ => rfl)) (pa_cons (pe_ix ix_list (pe_lst (pa_cons pe_str (pa_cons pe_str pa_nil))) (pe_callTy call_int1 (by rfl) T.z_int (by decide +kernel) (pa_cons (pe_cmpR op_eq (pe_ix ix_tup (pe_ix ix_list (pe_ix ix_list (pv 2) pe_int (fun _ _ => rfl)) pe_int (fun _ _ => rfl)) pe_int (fun _ _ => rfl)) pe_str (nomark _)) pa_nil)) (fun _ _ => rfl)) pa_nil))))
      (pss_cons (ps_if (PW.pt (pw_or (pt_cmpR op_eq (pe_call (ok_town_text T) (hr.mono (by decide)) (by rfl) T.g_town_text T.F_town_text.kp T.b_town_text .nil pass0 (pa_cons (pv 9) pa_nil)) (pe_call (ok_town_text T) (hr.mono (by decide)) (by rfl) T.g_town_text T.F_town_text.kp T.b_town_text .nil pass0 (pa_cons (pv 6) pa_nil)) (nomark _)) (pw_or1 (pt_cmpR (Ow.op_cmp (op := .Eq) (fun _ _ => rfl) T.aEq T.iEq ((ok_eq T).raw T.b_eq .nil) (hr.mono (by decide)) pass0) (pe_call (ok_read_town T) (hr.mono (by decide)) (by rfl) T.g_read_town T.F_read_town.kp T.b_read_town .nil pass0 (pa_cons (pe_call (ok_town_text T) (hr.mono (by decide)) (by rfl) T.g_town_text T.F_town_text.kp T.b_town_text .nil pass0 (pa_cons (pv 9) pa_nil)) pa_nil)) (pv 6) (nomark _)))))
        (pss_one (ps_ret pe_bl))
        pss_nil)
      (pss_one (ps_ret (pe_call (ok_asked T) (hr.mono (by decide)) (by rfl) T.g_asked T.F_asked.kp T.b_asked .nil pass0 (pa_cons (pv 6) (pa_cons (pv 2) (pa_cons (pv 3) pa_nil)))))))))))))))))), ?_⟩
    refine ⟨_, rfl, a, ns, rfl, hS, hl, fun H1 b s1 bag1 => ?_⟩
    refine ⟨_, rfl, b, 0, rfl, bag1, by omega, fun H2 q1 xs1 ls1 G1 f1 hq1 el1 ha1 bag2 but2 => ?_⟩
    have L1 := lso_new bag1 f1 hq1 el1 ha1
    refine ⟨_, rfl, b, _, rfl, bag2, by omega, fun H3 r1 ra ha ra1 ra8 hb1 hb2 hbr f3 h3 bag3 but3 => ?_⟩
    have L1 := L1.but bag2 but3
    have r1b := Lm.bag_off bag2 f3
    refine ⟨_, rfl, b, _, rfl, bag3, by omega, fun H4 q2 xs2 ls2 G2 f4 hq2 el2 ha2 bag4 but4 => ?_⟩
    have L1 := L1.but bag3 but4
    have L2 := lso_new bag3 f4 hq2 el2 ha2
    have h4 := but4.keep _ _ r1b h3
    refine ⟨_, rfl, b, _, rfl, bag4, by omega, fun H5 r2 rb hb rb1 rb8 hc1 hc2 hcr f5 h5 bag5 but5 => ?_⟩
    have L1 := L1.but bag4 but5
    have L2 := L2.but bag4 but5
    have h6 := but5.keep _ _ r1b h4
    have r2b := Lm.bag_off bag4 f5
    refine ⟨_, rfl, _, rfl, r1, _, 0, _, rfl, rfl, SqL.of h6, atI_nat (j := 0) rfl, _, rfl, r1, _, 1, _, rfl, rfl, SqL.of h6, atI_nat (j := 1) rfl, rfl, rfl, fun pA dx hp hd ne => ?_⟩
    have sm := made (C := T.C) hp hd ne
    refine ⟨pA, dx, .ref q1, ls1, ra, ha, rfl, upd_same, (L1.at.keep sm).inTown, G1, ra1, ra8, hb1, hb2, hbr, fun H7 off tA => ⟨rfl, ?_⟩⟩
    have s7 := made_off hp hd ne off
    refine ⟨_, rfl, _, rfl, r2, _, 0, _, rfl, rfl, SqL.of (s7 _ _ h5), atI_nat (j := 0) rfl, _, rfl, r2, _, 1, _, rfl, rfl, SqL.of (s7 _ _ h5), atI_nat (j := 1) rfl, rfl, rfl, fun pB dy hp2 hd2 ne2 => ?_⟩
    have sm2 := made (C := T.C) hp2 hd2 ne2
    refine ⟨pB, dy, .ref q2, ls2, rb, hb, rfl, upd_same, ((L2.at.keep s7).keep sm2).inTown, G2, rb1, rb8, hc1, hc2, hcr, fun H8 off2 tB => ⟨rfl, ?_⟩⟩
    have s8 := made_off hp2 hd2 ne2 off2
    have s78 := s7.trans s8
    have s78 := s7.trans s8
    have st : Stt K T.C b q1 r1 q2 r2 pA pB ls1 ls2 ra ha rb hb H8 := ⟨tA.keep s8, tB, L1.but bag5 (But.of s78), L2.but bag5 (But.of s78), r1b, r2b, s78 _ _ h6, s78 _ _ h5⟩
    have bag8 := bag5.keep s78
    have R1 : Rul ra ha := ⟨ra1, ra8, hb1, hb2, hbr⟩
    have R2 : Rul rb hb := ⟨rb1, rb8, hc1, hc2, hcr⟩
    refine ⟨_, rfl, _, rfl, _, rfl, pA, q1, r1, ls1, ra, ha, rfl, st.tA, st.l1.at, G1, R1, st.e1, fun H9 s9 => ⟨true, rfl, iteF ?_⟩⟩
    have st := st.but bag8 (But.of s9)
    have bag9 := bag8.keep s9
    refine ⟨_, rfl, _, rfl, _, rfl, pB, q2, r2, ls2, rb, hb, rfl, st.tB, st.l2.at, G2, R2, st.e2, fun H10 s10 => ⟨true, rfl, iteF ?_⟩⟩
    have st := st.but bag9 (But.of s10)
    have bag10 := bag9.keep s10
    have f1 := (fine_lists G1).shaped (by decide)
    have f2 := (fine_lists G2).shaped (by decide)
    have g1 := (ints_fine [ra, ha]).shaped (by decide)
    have g2 := (ints_fine [rb, hb]).shaped (by decide)
    refine ⟨fun σ H' => σ = [some (.ref a), some (.ref b), some (.ref q1), some (.ref r1), some (.ref q2), some (.ref r2), some (.ref pA), some (.ref pB), some (.bl (PyData.eqv (listsD ls1) (listsD ls2) && PyData.eqv (.list [.int ra, .int ha]) (.list [.int rb, .int hb]))), none] ∧
      Stt K T.C b q1 r1 q2 r2 pA pB ls1 ls2 ra ha rb hb H', ?_, ?_⟩
    · refine ⟨_, rfl, _, rfl, _, _, st.l1.at.dp, st.l2.at.dp, f1, f2, _, rfl, iteB (fun e => ?_) (fun e => ?_)⟩
      · rw [e, Bool.true_and]
        exact ⟨_, rfl, _, rfl, _, _, .lst (SqL.of st.e1) (.cons (.int _) (.cons (.int _) .nil)), .lst (SqL.of st.e2) (.cons (.int _) (.cons (.int _) .nil)), g1, g2, rfl, st⟩
      · rw [e, Bool.false_and]
        exact ⟨rfl, st⟩
    · rintro σ H11 ⟨rfl, st⟩
      refine ⟨_, rfl, pA, ls1, ra, ha, rfl, st.tA, G1, R1, fun H12 s12 => ⟨_, rfl, pB, ls2, rb, hb, rfl, st.tB.keep s12, G2, R2, fun H13 s13 => ⟨rfl, _, rfl, rfl, _, rfl, iteN ?_ ?_⟩⟩⟩
      · rw [both_eqv G1 G2 R1 R2, decide_eq_true rfl]
        rfl
      have s1113 := s12.trans s13
      have tA := st.tA.keep s1113
      obtain ⟨x1, hx1, ex1, hA1⟩ := st.l1.at.keep s1113
      obtain ⟨dxA, fsA, yA, yA2, hpA, a1, a2, a3, a4, a5, aT, aT2⟩ := id tA
      have lG := G1.l1
      obtain ⟨l, q3, ys, hl, hx, hq3, hz, ly⟩ := LsAt.at ex1 hA1 (i := 0) (by omega)
      have lb := G1.b1 l (List.mem_of_getElem? hl)
      have hjy := List.getElem?_eq_getElem (l := ys) (i := 0) (by omega)
      obtain ⟨bx, hbx, tb⟩ := boxes_at hz hjy
      obtain ⟨q4, e4, hq4⟩ := box_inv tb
      rw [e4] at hjy
      have nm : fsA.lookup ("with_sort" : Str) = none := no_meth "with_sort" (by decide +kernel) (by decide +kernel) (by decide +kernel) (by decide +kernel) a5
      refine ⟨_, rfl, pA, dxA, fsA, rfl, hpA, nm, _, rfl, q1, x1, 0, _, rfl, rfl, SqL.of hx1, atI_nat (j := 0) hx, q3, ys, 0, _, rfl, rfl, SqL.of hq3, atI_nat (j := 0) hjy, q4, _, 0, _, rfl, rfl, hq4, atI_nat (j := 0) rfl, by show 2 ≤ sizeLine; decide, fun u hu => ?_⟩
      have s14 := same_new (o := .lst [V.str "plain", V.str "shy"]) hu
      refine ⟨_, rfl, q1, x1, 0, _, rfl, rfl, SqL.of (s14 _ _ hx1), atI_nat (j := 0) hx, q3, ys, 0, _, rfl, rfl, SqL.of (s14 _ _ hq3), atI_nat (j := 0) hjy, q4, _, 1, _, rfl, rfl, sameT s14 hq4, atI_nat (j := 1) rfl, rfl, .inr ⟨_, rfl, ?_⟩⟩
      refine ⟨u, _, _, _, rfl, rfl, SqL.of upd_same, other_sort bx.2, ?_⟩
      refine ⟨pA, ls1, ra, ha, 0, 0, l, bx, !bx.2, rfl, tA.keep s14, G1, R1, hl, hbx, fun H15 pC s15 tC => ?_⟩
      have G3 := G1.set (!bx.2) hl hbx
      have nls := set_ne hl hbx
      have s1115 := (s1113.trans s14).trans s15
      generalize ls1.set 0 (l.set 0 (bx.1, !bx.2)) = ls3 at *
      have tA5 := st.tA.keep s1115
      refine ⟨_, rfl, pC, ls3, ra, ha, rfl, tC, G3, R1, fun H16 s16 => ⟨_, rfl, pA, ls1, ra, ha, rfl, tA5.keep s16, G1, R1, fun H17 s17 => ⟨rfl, _, rfl, iteN ?_ ?_⟩⟩⟩
      · exact decide_eq_false fun z => nls (text_inj G3 G1 R1 R1 (V.str.inj z)).1
      have s1617 := s16.trans s17
      refine ⟨_, rfl, pC, ls3, ra, ha, rfl, tC.keep s1617, G3, R1, fun H18 s18 => ⟨ls3, ra, ha, rfl, G3, R1, fun H19 pD s19 tD => ?_⟩⟩
      obtain ⟨dxD, fsD, yD, yD2, hpD, _⟩ := id tD
      have tA9 := tA5.keep ((s1617.trans s18).trans s19)
      obtain ⟨dxE, fsE, yE, yE2, hpE, _⟩ := id tA9
      refine ⟨_, rfl, pD, dxD, fsD, _, rfl, hpD, ins_ty T.clC T.isi hpE, T.sfC, pD, .ref pA, ls3, ra, ha, rfl, tD, G3, .inl ⟨pA, ls1, ra, ha, rfl, tA9, G1, _, rfl, iteN ?_ ?_⟩⟩
      · rw [Bool.eq_false_iff.mpr fun z => nls (eqv_town z), Bool.false_and]
      have s1119 := s1115.trans ((s1617.trans s18).trans s19)
      exact ⟨_, rfl, _, rfl, _, rfl, pA, q1, r1, ls1, ra, ha, rfl, tA9, st.l1.at.keep s1119, G1, R1, s1119 _ _ st.e1, fun H20 s20 => k _⟩
end
end K09

namespace K09
open PySem L2 Wm TL Dv PySem.W
theorem ns_ok {K : PySem.W.Frag} {oN : Addr} {oc1 : Value} {od1 : Option Addr} {oes : Array DictEntry} {oex : Nat} {osl : Array (Option Value)} (ol : K.lookup oN = some ⟨oc1, od1, .dict oes oex, osl⟩) (on : (oes.toList.all fun e => match e.key with | .str _ _ => true | _ => false) = true) : PySem.W.nsOkIn K oN = true := by
  unfold PySem.W.nsOkIn
  rw [ol]
  show (oes.all fun e => match e.key with | .str _ _ => true | _ => false) = true
  rw [← Array.all_toList]
  exact on
theorem all_mk {l : PySem.W.OpenLaw} {w : World} {K : PySem.W.Frag} {h : Heap} {mg : Str → Option Value} {fa : Addr} (X : K.In h) (G : h.Ns mainGlobals mg) (hfa : mg "law" = some (.ref fa))
    {xC : Addr} (aC : PySem.W.nsIn K mainGlobals "Town" = some (some (.ref xC)))
    {x_is_whole : Addr} {od_is_whole an_is_whole : Option Addr} {sl_is_whole : Array (Option Value)} {oc_is_whole kV_is_whole dc_is_whole pm_is_whole cd_is_whole ct_is_whole : Value}
    (a_is_whole : PySem.W.nsIn K mainGlobals "is_whole" = some (some (.ref x_is_whole)))
    (l_is_whole : K.lookup x_is_whole = some ⟨oc_is_whole, od_is_whole, .func (PySem.W.fnOf "is_whole" "is_whole" (defArgs s_is_whole) (defBody s_is_whole) (defScope s_is_whole) .none kV_is_whole dc_is_whole pm_is_whole an_is_whole cd_is_whole ct_is_whole), sl_is_whole⟩)
    (c_is_whole : PySem.W.codeIn K cd_is_whole "is_whole" = true) (k_is_whole : PySem.W.keepIn K (.ref x_is_whole) = true)
    {x_is_whole_within : Addr} {od_is_whole_within an_is_whole_within : Option Addr} {sl_is_whole_within : Array (Option Value)} {oc_is_whole_within kV_is_whole_within dc_is_whole_within pm_is_whole_within cd_is_whole_within ct_is_whole_within : Value}
    (a_is_whole_within : PySem.W.nsIn K mainGlobals "is_whole_within" = some (some (.ref x_is_whole_within)))
    (l_is_whole_within : K.lookup x_is_whole_within = some ⟨oc_is_whole_within, od_is_whole_within, .func (PySem.W.fnOf "is_whole_within" "is_whole_within" (defArgs s_is_whole_within) (defBody s_is_whole_within) (defScope s_is_whole_within) .none kV_is_whole_within dc_is_whole_within pm_is_whole_within an_is_whole_within cd_is_whole_within ct_is_whole_within), sl_is_whole_within⟩)
    (c_is_whole_within : PySem.W.codeIn K cd_is_whole_within "is_whole_within" = true) (k_is_whole_within : PySem.W.keepIn K (.ref x_is_whole_within) = true)
    {x_is_sequence : Addr} {od_is_sequence an_is_sequence : Option Addr} {sl_is_sequence : Array (Option Value)} {oc_is_sequence kV_is_sequence dc_is_sequence pm_is_sequence cd_is_sequence ct_is_sequence : Value}
    (a_is_sequence : PySem.W.nsIn K mainGlobals "is_sequence" = some (some (.ref x_is_sequence)))
    (l_is_sequence : K.lookup x_is_sequence = some ⟨oc_is_sequence, od_is_sequence, .func (PySem.W.fnOf "is_sequence" "is_sequence" (defArgs s_is_sequence) (defBody s_is_sequence) (defScope s_is_sequence) .none kV_is_sequence dc_is_sequence pm_is_sequence an_is_sequence cd_is_sequence ct_is_sequence), sl_is_sequence⟩)
    (c_is_sequence : PySem.W.codeIn K cd_is_sequence "is_sequence" = true) (k_is_sequence : PySem.W.keepIn K (.ref x_is_sequence) = true)
    {x_is_digit : Addr} {od_is_digit an_is_digit : Option Addr} {sl_is_digit : Array (Option Value)} {oc_is_digit kV_is_digit dc_is_digit pm_is_digit cd_is_digit ct_is_digit : Value}
    (a_is_digit : PySem.W.nsIn K mainGlobals "is_digit" = some (some (.ref x_is_digit)))
    (l_is_digit : K.lookup x_is_digit = some ⟨oc_is_digit, od_is_digit, .func (PySem.W.fnOf "is_digit" "is_digit" (defArgs s_is_digit) (defBody s_is_digit) (defScope s_is_digit) .none kV_is_digit dc_is_digit pm_is_digit an_is_digit cd_is_digit ct_is_digit), sl_is_digit⟩)
    (c_is_digit : PySem.W.codeIn K cd_is_digit "is_digit" = true) (k_is_digit : PySem.W.keepIn K (.ref x_is_digit) = true)
    {x_is_number : Addr} {od_is_number an_is_number : Option Addr} {sl_is_number : Array (Option Value)} {oc_is_number kV_is_number dc_is_number pm_is_number cd_is_number ct_is_number : Value}
    (a_is_number : PySem.W.nsIn K mainGlobals "is_number" = some (some (.ref x_is_number)))
    (l_is_number : K.lookup x_is_number = some ⟨oc_is_number, od_is_number, .func (PySem.W.fnOf "is_number" "is_number" (defArgs s_is_number) (defBody s_is_number) (defScope s_is_number) .none kV_is_number dc_is_number pm_is_number an_is_number cd_is_number ct_is_number), sl_is_number⟩)
    (c_is_number : PySem.W.codeIn K cd_is_number "is_number" = true) (k_is_number : PySem.W.keepIn K (.ref x_is_number) = true)
    {x_is_sort : Addr} {od_is_sort an_is_sort : Option Addr} {sl_is_sort : Array (Option Value)} {oc_is_sort kV_is_sort dc_is_sort pm_is_sort cd_is_sort ct_is_sort : Value}
    (a_is_sort : PySem.W.nsIn K mainGlobals "is_sort" = some (some (.ref x_is_sort)))
    (l_is_sort : K.lookup x_is_sort = some ⟨oc_is_sort, od_is_sort, .func (PySem.W.fnOf "is_sort" "is_sort" (defArgs s_is_sort) (defBody s_is_sort) (defScope s_is_sort) .none kV_is_sort dc_is_sort pm_is_sort an_is_sort cd_is_sort ct_is_sort), sl_is_sort⟩)
    (c_is_sort : PySem.W.codeIn K cd_is_sort "is_sort" = true) (k_is_sort : PySem.W.keepIn K (.ref x_is_sort) = true)
    {x_has_double : Addr} {od_has_double an_has_double : Option Addr} {sl_has_double : Array (Option Value)} {oc_has_double kV_has_double dc_has_double pm_has_double cd_has_double ct_has_double : Value}
    (a_has_double : PySem.W.nsIn K mainGlobals "has_double" = some (some (.ref x_has_double)))
    (l_has_double : K.lookup x_has_double = some ⟨oc_has_double, od_has_double, .func (PySem.W.fnOf "has_double" "has_double" (defArgs s_has_double) (defBody s_has_double) (defScope s_has_double) .none kV_has_double dc_has_double pm_has_double an_has_double cd_has_double ct_has_double), sl_has_double⟩)
    (c_has_double : PySem.W.codeIn K cd_has_double "has_double" = true) (k_has_double : PySem.W.keepIn K (.ref x_has_double) = true)
    {x_are_loops : Addr} {od_are_loops an_are_loops : Option Addr} {sl_are_loops : Array (Option Value)} {oc_are_loops kV_are_loops dc_are_loops pm_are_loops cd_are_loops ct_are_loops : Value}
    (a_are_loops : PySem.W.nsIn K mainGlobals "are_loops" = some (some (.ref x_are_loops)))
    (l_are_loops : K.lookup x_are_loops = some ⟨oc_are_loops, od_are_loops, .func (PySem.W.fnOf "are_loops" "are_loops" (defArgs s_are_loops) (defBody s_are_loops) (defScope s_are_loops) .none kV_are_loops dc_are_loops pm_are_loops an_are_loops cd_are_loops ct_are_loops), sl_are_loops⟩)
    (c_are_loops : PySem.W.codeIn K cd_are_loops "are_loops" = true) (k_are_loops : PySem.W.keepIn K (.ref x_are_loops) = true)
    {x_check_boxes : Addr} {od_check_boxes an_check_boxes : Option Addr} {sl_check_boxes : Array (Option Value)} {oc_check_boxes kV_check_boxes dc_check_boxes pm_check_boxes cd_check_boxes ct_check_boxes : Value}
    (a_check_boxes : PySem.W.nsIn K mainGlobals "check_boxes" = some (some (.ref x_check_boxes)))
    (l_check_boxes : K.lookup x_check_boxes = some ⟨oc_check_boxes, od_check_boxes, .func (PySem.W.fnOf "check_boxes" "check_boxes" (defArgs s_check_boxes) (defBody s_check_boxes) (defScope s_check_boxes) .none kV_check_boxes dc_check_boxes pm_check_boxes an_check_boxes cd_check_boxes ct_check_boxes), sl_check_boxes⟩)
    (c_check_boxes : PySem.W.codeIn K cd_check_boxes "check_boxes" = true) (k_check_boxes : PySem.W.keepIn K (.ref x_check_boxes) = true)
    {x_check_town : Addr} {od_check_town an_check_town : Option Addr} {sl_check_town : Array (Option Value)} {oc_check_town kV_check_town dc_check_town pm_check_town cd_check_town ct_check_town : Value}
    (a_check_town : PySem.W.nsIn K mainGlobals "check_town" = some (some (.ref x_check_town)))
    (l_check_town : K.lookup x_check_town = some ⟨oc_check_town, od_check_town, .func (PySem.W.fnOf "check_town" "check_town" (defArgs s_check_town) (defBody s_check_town) (defScope s_check_town) .none kV_check_town dc_check_town pm_check_town an_check_town cd_check_town ct_check_town), sl_check_town⟩)
    (c_check_town : PySem.W.codeIn K cd_check_town "check_town" = true) (k_check_town : PySem.W.keepIn K (.ref x_check_town) = true)
    {x_init : Addr} {od_init an_init : Option Addr} {sl_init : Array (Option Value)} {oc_init dc_init pm_init cd_init ct_init : Value}
    {xD : Addr} {tD : Tok}
    (a_init : PySem.W.findIn K (.ref xC) "__init__" = some (some (.ref x_init)))
    (i_init : PySem.W.isFn K (.ref x_init) = true)
    (l_init : K.lookup x_init = some ⟨oc_init, od_init, .func (PySem.W.fnOf "__init__" "Town.__init__" (defArgs s_init) (defBody s_init) (defScope s_init) .none (.ref xD) dc_init pm_init an_init cd_init ct_init), sl_init⟩)
    (c_init : PySem.W.codeIn K cd_init "Town.__init__" = true) (k_init : PySem.W.keepIn K (.ref x_init) = true)
    (e_init : PySem.W.nsIn K xD "hear" = some (some (.int 1 tD)))
    {x_site_of : Addr} {od_site_of an_site_of : Option Addr} {sl_site_of : Array (Option Value)} {oc_site_of kV_site_of dc_site_of pm_site_of cd_site_of ct_site_of : Value}
    (a_site_of : PySem.W.findIn K (.ref xC) "site_of" = some (some (.ref x_site_of)))
    (i_site_of : PySem.W.isFn K (.ref x_site_of) = true)
    (l_site_of : K.lookup x_site_of = some ⟨oc_site_of, od_site_of, .func (PySem.W.fnOf "site_of" "Town.site_of" (defArgs s_site_of) (defBody s_site_of) (defScope s_site_of) .none kV_site_of dc_site_of pm_site_of an_site_of cd_site_of ct_site_of), sl_site_of⟩)
    (c_site_of : PySem.W.codeIn K cd_site_of "Town.site_of" = true) (k_site_of : PySem.W.keepIn K (.ref x_site_of) = true)
    {x_sort_of : Addr} {od_sort_of an_sort_of : Option Addr} {sl_sort_of : Array (Option Value)} {oc_sort_of kV_sort_of dc_sort_of pm_sort_of cd_sort_of ct_sort_of : Value}
    (a_sort_of : PySem.W.findIn K (.ref xC) "sort_of" = some (some (.ref x_sort_of)))
    (i_sort_of : PySem.W.isFn K (.ref x_sort_of) = true)
    (l_sort_of : K.lookup x_sort_of = some ⟨oc_sort_of, od_sort_of, .func (PySem.W.fnOf "sort_of" "Town.sort_of" (defArgs s_sort_of) (defBody s_sort_of) (defScope s_sort_of) .none kV_sort_of dc_sort_of pm_sort_of an_sort_of cd_sort_of ct_sort_of), sl_sort_of⟩)
    (c_sort_of : PySem.W.codeIn K cd_sort_of "Town.sort_of" = true) (k_sort_of : PySem.W.keepIn K (.ref x_sort_of) = true)
    {x_loop_of : Addr} {od_loop_of an_loop_of : Option Addr} {sl_loop_of : Array (Option Value)} {oc_loop_of kV_loop_of dc_loop_of pm_loop_of cd_loop_of ct_loop_of : Value}
    (a_loop_of : PySem.W.findIn K (.ref xC) "loop_of" = some (some (.ref x_loop_of)))
    (i_loop_of : PySem.W.isFn K (.ref x_loop_of) = true)
    (l_loop_of : K.lookup x_loop_of = some ⟨oc_loop_of, od_loop_of, .func (PySem.W.fnOf "loop_of" "Town.loop_of" (defArgs s_loop_of) (defBody s_loop_of) (defScope s_loop_of) .none kV_loop_of dc_loop_of pm_loop_of an_loop_of cd_loop_of ct_loop_of), sl_loop_of⟩)
    (c_loop_of : PySem.W.codeIn K cd_loop_of "Town.loop_of" = true) (k_loop_of : PySem.W.keepIn K (.ref x_loop_of) = true)
    {x_place_of : Addr} {od_place_of an_place_of : Option Addr} {sl_place_of : Array (Option Value)} {oc_place_of kV_place_of dc_place_of pm_place_of cd_place_of ct_place_of : Value}
    (a_place_of : PySem.W.findIn K (.ref xC) "place_of" = some (some (.ref x_place_of)))
    (i_place_of : PySem.W.isFn K (.ref x_place_of) = true)
    (l_place_of : K.lookup x_place_of = some ⟨oc_place_of, od_place_of, .func (PySem.W.fnOf "place_of" "Town.place_of" (defArgs s_place_of) (defBody s_place_of) (defScope s_place_of) .none kV_place_of dc_place_of pm_place_of an_place_of cd_place_of ct_place_of), sl_place_of⟩)
    (c_place_of : PySem.W.codeIn K cd_place_of "Town.place_of" = true) (k_place_of : PySem.W.keepIn K (.ref x_place_of) = true)
    {x_eq : Addr} {od_eq an_eq : Option Addr} {sl_eq : Array (Option Value)} {oc_eq kV_eq dc_eq pm_eq cd_eq ct_eq : Value}
    (a_eq : PySem.W.findIn K (.ref xC) "__eq__" = some (some (.ref x_eq)))
    (i_eq : PySem.W.isFn K (.ref x_eq) = true)
    (l_eq : K.lookup x_eq = some ⟨oc_eq, od_eq, .func (PySem.W.fnOf "__eq__" "Town.__eq__" (defArgs s_eq) (defBody s_eq) (defScope s_eq) .none kV_eq dc_eq pm_eq an_eq cd_eq ct_eq), sl_eq⟩)
    (c_eq : PySem.W.codeIn K cd_eq "Town.__eq__" = true) (k_eq : PySem.W.keepIn K (.ref x_eq) = true)
    {x_with_box : Addr} {od_with_box an_with_box : Option Addr} {sl_with_box : Array (Option Value)} {oc_with_box kV_with_box dc_with_box pm_with_box cd_with_box ct_with_box : Value}
    (a_with_box : PySem.W.findIn K (.ref xC) "with_box" = some (some (.ref x_with_box)))
    (i_with_box : PySem.W.isFn K (.ref x_with_box) = true)
    (l_with_box : K.lookup x_with_box = some ⟨oc_with_box, od_with_box, .func (PySem.W.fnOf "with_box" "Town.with_box" (defArgs s_with_box) (defBody s_with_box) (defScope s_with_box) .none kV_with_box dc_with_box pm_with_box an_with_box cd_with_box ct_with_box), sl_with_box⟩)
    (c_with_box : PySem.W.codeIn K cd_with_box "Town.with_box" = true) (k_with_box : PySem.W.keepIn K (.ref x_with_box) = true)
    {x_with_sort : Addr} {od_with_sort an_with_sort : Option Addr} {sl_with_sort : Array (Option Value)} {oc_with_sort kV_with_sort dc_with_sort pm_with_sort cd_with_sort ct_with_sort : Value}
    (a_with_sort : PySem.W.findIn K (.ref xC) "with_sort" = some (some (.ref x_with_sort)))
    (i_with_sort : PySem.W.isFn K (.ref x_with_sort) = true)
    (l_with_sort : K.lookup x_with_sort = some ⟨oc_with_sort, od_with_sort, .func (PySem.W.fnOf "with_sort" "Town.with_sort" (defArgs s_with_sort) (defBody s_with_sort) (defScope s_with_sort) .none kV_with_sort dc_with_sort pm_with_sort an_with_sort cd_with_sort ct_with_sort), sl_with_sort⟩)
    (c_with_sort : PySem.W.codeIn K cd_with_sort "Town.with_sort" = true) (k_with_sort : PySem.W.keepIn K (.ref x_with_sort) = true)
    {x_town_text : Addr} {od_town_text an_town_text : Option Addr} {sl_town_text : Array (Option Value)} {oc_town_text kV_town_text dc_town_text pm_town_text cd_town_text ct_town_text : Value}
    (a_town_text : PySem.W.nsIn K mainGlobals "town_text" = some (some (.ref x_town_text)))
    (l_town_text : K.lookup x_town_text = some ⟨oc_town_text, od_town_text, .func (PySem.W.fnOf "town_text" "town_text" (defArgs s_town_text) (defBody s_town_text) (defScope s_town_text) .none kV_town_text dc_town_text pm_town_text an_town_text cd_town_text ct_town_text), sl_town_text⟩)
    (c_town_text : PySem.W.codeIn K cd_town_text "town_text" = true) (k_town_text : PySem.W.keepIn K (.ref x_town_text) = true)
    {x_read_head : Addr} {od_read_head an_read_head : Option Addr} {sl_read_head : Array (Option Value)} {oc_read_head kV_read_head dc_read_head pm_read_head cd_read_head ct_read_head : Value}
    (a_read_head : PySem.W.nsIn K mainGlobals "read_head" = some (some (.ref x_read_head)))
    (l_read_head : K.lookup x_read_head = some ⟨oc_read_head, od_read_head, .func (PySem.W.fnOf "read_head" "read_head" (defArgs s_read_head) (defBody s_read_head) (defScope s_read_head) .none kV_read_head dc_read_head pm_read_head an_read_head cd_read_head ct_read_head), sl_read_head⟩)
    (c_read_head : PySem.W.codeIn K cd_read_head "read_head" = true) (k_read_head : PySem.W.keepIn K (.ref x_read_head) = true)
    {x_read_loop : Addr} {od_read_loop an_read_loop : Option Addr} {sl_read_loop : Array (Option Value)} {oc_read_loop kV_read_loop dc_read_loop pm_read_loop cd_read_loop ct_read_loop : Value}
    (a_read_loop : PySem.W.nsIn K mainGlobals "read_loop" = some (some (.ref x_read_loop)))
    (l_read_loop : K.lookup x_read_loop = some ⟨oc_read_loop, od_read_loop, .func (PySem.W.fnOf "read_loop" "read_loop" (defArgs s_read_loop) (defBody s_read_loop) (defScope s_read_loop) .none kV_read_loop dc_read_loop pm_read_loop an_read_loop cd_read_loop ct_read_loop), sl_read_loop⟩)
    (c_read_loop : PySem.W.codeIn K cd_read_loop "read_loop" = true) (k_read_loop : PySem.W.keepIn K (.ref x_read_loop) = true)
    {x_read_town : Addr} {od_read_town an_read_town : Option Addr} {sl_read_town : Array (Option Value)} {oc_read_town kV_read_town dc_read_town pm_read_town cd_read_town ct_read_town : Value}
    (a_read_town : PySem.W.nsIn K mainGlobals "read_town" = some (some (.ref x_read_town)))
    (l_read_town : K.lookup x_read_town = some ⟨oc_read_town, od_read_town, .func (PySem.W.fnOf "read_town" "read_town" (defArgs s_read_town) (defBody s_read_town) (defScope s_read_town) .none kV_read_town dc_read_town pm_read_town an_read_town cd_read_town ct_read_town), sl_read_town⟩)
    (c_read_town : PySem.W.codeIn K cd_read_town "read_town" = true) (k_read_town : PySem.W.keepIn K (.ref x_read_town) = true)
    {x_bag : Addr} {od_bag an_bag : Option Addr} {sl_bag : Array (Option Value)} {oc_bag kV_bag dc_bag pm_bag cd_bag ct_bag : Value}
    (a_bag : PySem.W.nsIn K mainGlobals "_law_bag" = some (some (.ref x_bag)))
    (l_bag : K.lookup x_bag = some ⟨oc_bag, od_bag, .func (PySem.W.fnOf "_law_bag" "_law_bag" (defArgs s_bag) (defBody s_bag) (defScope s_bag) .none kV_bag dc_bag pm_bag an_bag cd_bag ct_bag), sl_bag⟩)
    (c_bag : PySem.W.codeIn K cd_bag "_law_bag" = true) (k_bag : PySem.W.keepIn K (.ref x_bag) = true)
    {x_draw : Addr} {od_draw an_draw : Option Addr} {sl_draw : Array (Option Value)} {oc_draw kV_draw dc_draw pm_draw cd_draw ct_draw : Value}
    (a_draw : PySem.W.nsIn K mainGlobals "_law_draw" = some (some (.ref x_draw)))
    (l_draw : K.lookup x_draw = some ⟨oc_draw, od_draw, .func (PySem.W.fnOf "_law_draw" "_law_draw" (defArgs s_draw) (defBody s_draw) (defScope s_draw) .none kV_draw dc_draw pm_draw an_draw cd_draw ct_draw), sl_draw⟩)
    (c_draw : PySem.W.codeIn K cd_draw "_law_draw" = true) (k_draw : PySem.W.keepIn K (.ref x_draw) = true)
    {x_number : Addr} {od_number an_number : Option Addr} {sl_number : Array (Option Value)} {oc_number kV_number dc_number pm_number cd_number ct_number : Value}
    (a_number : PySem.W.nsIn K mainGlobals "_law_number" = some (some (.ref x_number)))
    (l_number : K.lookup x_number = some ⟨oc_number, od_number, .func (PySem.W.fnOf "_law_number" "_law_number" (defArgs s_number) (defBody s_number) (defScope s_number) .none kV_number dc_number pm_number an_number cd_number ct_number), sl_number⟩)
    (c_number : PySem.W.codeIn K cd_number "_law_number" = true) (k_number : PySem.W.keepIn K (.ref x_number) = true)
    {x_numbers : Addr} {od_numbers an_numbers : Option Addr} {sl_numbers : Array (Option Value)} {oc_numbers kV_numbers dc_numbers pm_numbers cd_numbers ct_numbers : Value}
    (a_numbers : PySem.W.nsIn K mainGlobals "_law_numbers" = some (some (.ref x_numbers)))
    (l_numbers : K.lookup x_numbers = some ⟨oc_numbers, od_numbers, .func (PySem.W.fnOf "_law_numbers" "_law_numbers" (defArgs s_numbers) (defBody s_numbers) (defScope s_numbers) .none kV_numbers dc_numbers pm_numbers an_numbers cd_numbers ct_numbers), sl_numbers⟩)
    (c_numbers : PySem.W.codeIn K cd_numbers "_law_numbers" = true) (k_numbers : PySem.W.keepIn K (.ref x_numbers) = true)
    {x_loops : Addr} {od_loops an_loops : Option Addr} {sl_loops : Array (Option Value)} {oc_loops kV_loops dc_loops pm_loops cd_loops ct_loops : Value}
    (a_loops : PySem.W.nsIn K mainGlobals "_law_loops" = some (some (.ref x_loops)))
    (l_loops : K.lookup x_loops = some ⟨oc_loops, od_loops, .func (PySem.W.fnOf "_law_loops" "_law_loops" (defArgs s_loops) (defBody s_loops) (defScope s_loops) .none kV_loops dc_loops pm_loops an_loops cd_loops ct_loops), sl_loops⟩)
    (c_loops : PySem.W.codeIn K cd_loops "_law_loops" = true) (k_loops : PySem.W.keepIn K (.ref x_loops) = true)
    {x_rules : Addr} {od_rules an_rules : Option Addr} {sl_rules : Array (Option Value)} {oc_rules kV_rules dc_rules pm_rules cd_rules ct_rules : Value}
    (a_rules : PySem.W.nsIn K mainGlobals "_law_rules" = some (some (.ref x_rules)))
    (l_rules : K.lookup x_rules = some ⟨oc_rules, od_rules, .func (PySem.W.fnOf "_law_rules" "_law_rules" (defArgs s_rules) (defBody s_rules) (defScope s_rules) .none kV_rules dc_rules pm_rules an_rules cd_rules ct_rules), sl_rules⟩)
    (c_rules : PySem.W.codeIn K cd_rules "_law_rules" = true) (k_rules : PySem.W.keepIn K (.ref x_rules) = true)
    {x_told : Addr} {od_told an_told : Option Addr} {sl_told : Array (Option Value)} {oc_told kV_told dc_told pm_told cd_told ct_told : Value}
    (a_told : PySem.W.nsIn K mainGlobals "_law_told" = some (some (.ref x_told)))
    (l_told : K.lookup x_told = some ⟨oc_told, od_told, .func (PySem.W.fnOf "_law_told" "_law_told" (defArgs s_told) (defBody s_told) (defScope s_told) .none kV_told dc_told pm_told an_told cd_told ct_told), sl_told⟩)
    (c_told : PySem.W.codeIn K cd_told "_law_told" = true) (k_told : PySem.W.keepIn K (.ref x_told) = true)
    {x_text : Addr} {od_text an_text : Option Addr} {sl_text : Array (Option Value)} {oc_text kV_text dc_text pm_text cd_text ct_text : Value}
    (a_text : PySem.W.nsIn K mainGlobals "_law_text" = some (some (.ref x_text)))
    (l_text : K.lookup x_text = some ⟨oc_text, od_text, .func (PySem.W.fnOf "_law_text" "_law_text" (defArgs s_text) (defBody s_text) (defScope s_text) .none kV_text dc_text pm_text an_text cd_text ct_text), sl_text⟩)
    (c_text : PySem.W.codeIn K cd_text "_law_text" = true) (k_text : PySem.W.keepIn K (.ref x_text) = true)
    {x_asked : Addr} {od_asked an_asked : Option Addr} {sl_asked : Array (Option Value)} {oc_asked kV_asked dc_asked pm_asked cd_asked ct_asked : Value}
    (a_asked : PySem.W.nsIn K mainGlobals "_law_asked" = some (some (.ref x_asked)))
    (l_asked : K.lookup x_asked = some ⟨oc_asked, od_asked, .func (PySem.W.fnOf "_law_asked" "_law_asked" (defArgs s_asked) (defBody s_asked) (defScope s_asked) .none kV_asked dc_asked pm_asked an_asked cd_asked ct_asked), sl_asked⟩)
    (c_asked : PySem.W.codeIn K cd_asked "_law_asked" = true) (k_asked : PySem.W.keepIn K (.ref x_asked) = true)
    {x_law : Addr} {od_law an_law : Option Addr} {sl_law : Array (Option Value)} {oc_law kV_law dc_law pm_law cd_law ct_law : Value}
    (a_law : PySem.W.nsIn K mainGlobals "law" = some (some (.ref x_law)))
    (l_law : K.lookup x_law = some ⟨oc_law, od_law, .func (PySem.W.fnOf "law" "law" (defArgs s_law) (defBody s_law) (defScope s_law) .none kV_law dc_law pm_law an_law cd_law ct_law), sl_law⟩)
    (c_law : PySem.W.codeIn K cd_law "law" = true) (k_law : PySem.W.keepIn K (.ref x_law) = true)
    (pg : PySem.W.plainGet K xC Str.empty = true)
    (hd : PySem.W.hasDictIn K xC = true)
    (po : PySem.W.plainOver K xC = true)
    (sa : PySem.W.findIn K (.ref xC) "__setattr__" = some (some (.builtin "object.__setattr__")))
    (mk : PySem.W.makesIn K xC = true)
    (kc : PySem.W.keepIn K (.ref xC) = true)
    (nL : PySem.W.findIn K (.ref xC) "loops" = some none)
    (nR : PySem.W.findIn K (.ref xC) "rounds" = some none)
    (nH : PySem.W.findIn K (.ref xC) "hear" = some none)
    (nN : PySem.W.findIn K (.ref xC) "numbers" = some none)
    (rd : PySem.W.readsIn K xC (.type "type") = true)
    (ga : PySem.W.specialIn K (.ref xC) "__getattribute__" = some (some (.builtin "type.__getattribute__")))
    (ica : PySem.W.findIn K (.ref xC) "__class__" = some (some (.builtin "object.__class__")))
    (icn : PySem.W.specialIn K (.builtin "object.__class__") "__get__" = some (some (.builtin "getset_descriptor.__get__")))
    (ict : PySem.W.takesIn K (.builtin "object.__class__") = some true)
    (icm : PySem.W.mroIn K xC (.type "object") = some true)
    (kS : PySem.W.kitOne K (.ref xC) (.ref xC) = some true)
    (kT : PySem.W.kitOne K (.type "tuple") (.ref xC) = some false)
    (sT : PySem.W.subIn K (.type "tuple") (.ref xC) = some false)
    {tP tS : Tok} (vP : PySem.W.findCls K (.ref xC) (.type "type") "PLAIN" = some (.val (.str "plain" tP))) (vS : PySem.W.findCls K (.ref xC) (.type "type") "SHY" = some (.val (.str "shy" tS)))
    {onm oq : Str} {oN : Addr} {obs : List Value} {ohd : Bool} {osn : List Str} {osub : List Value} {oab : Bool} {ocol : Option Bool} {odd : Option Addr} {ok0 ok1 ok2 ok3 ok5 : Option Value} (ox : K.lookup xC = some (excClassObj onm oq xC oN obs [.type "object"] ohd osn osub oab ocol odd ok0 ok1 ok2 ok3 ok5 "object.__new__")) {oc1 : Value} {od1 : Option Addr} {oes : Array DictEntry} {oex : Nat} {osl : Array (Option Value)} (ol : K.lookup oN = some ⟨oc1, od1, .dict oes oex, osl⟩) (on : (oes.toList.all fun e => match e.key with | .str _ _ => true | _ => false) = true) (oe : PySem.W.nsIn K oN "__eq__" = some (some (.ref x_eq))) (oz : PySem.W.nsIn K oN "__ne__" = some none)
    {eCB eIB : Addr} {enmB eqB : Str} {eNB : Addr} {ebsB ebmB : List Value} {esnB : List Str} {esubB : List Value} {eabB : Bool} {ecolB : Option Bool} {eddB : Option Addr} {em0B em1B em2B em3B em5B : Option Value}
    {eocB edcB epmB ecdB ectB : Value} {eodB eanB : Option Addr} {eslB : Array (Option Value)} {ep1B ep2B eq1B eq2B eq3B eq4B : Pos}
    (e_aB : PySem.W.nsIn K mainGlobals "NoBox" = some (some (.ref eCB)))
    (e_xB : K.lookup eCB = some (excClassObj enmB eqB eCB eNB ebsB ebmB true esnB esubB eabB ecolB eddB em0B em1B em2B em3B em5B "ValueError.__new__"))
    (e_bB : PySem.HandSPX.refsVE ebmB = true)
    (e_sB : PySem.W.findIn K (.ref eCB) "__setattr__" = some (some (.builtin "object.__setattr__"))) (e_gB : PySem.W.findIn K (.ref eCB) "__getattribute__" = some (some (.builtin "BaseException.__getattribute__"))) (e_hB : PySem.W.findIn K (.ref eCB) "__getattr__" = some none) (e_nB : PySem.W.findIn K (.ref eCB) "number" = some none)
    (e_iB : PySem.W.findIn K (.ref eCB) "__init__" = some (some (.ref eIB))) (e_tB : PySem.W.typeIn K (.ref eIB) = some (.type "function"))
    (e_lB : K.lookup eIB = some ⟨eocB, eodB, .func (PySem.W.fnOf "__init__" "NoBox.__init__" (PySem.LowB.iA ep1B ep2B) (PySem.LowB.iB eq1B eq2B eq3B eq4B) PySem.LowB.iS .none .none edcB epmB eanB ecdB ectB), eslB⟩) (e_cB : PySem.W.codeIn K ecdB "NoBox.__init__" = true)
    (e_kB : PySem.W.keepIn K (.ref eCB) = true) (e_eB : PySem.W.subIn K (.ref eCB) (.type "BaseException") = some true) (e_tyB : PySem.W.typeIn K (.ref eCB) = some (.type "type")) (e_dB : PySem.W.hasDictIn K eCB = true) (e_scB : PySem.W.subIn K (.ref eCB) (.ref eCB) = some true)
    {t_DIGITS : Tok} (n_DIGITS : PySem.W.nsIn K mainGlobals "DIGITS" = some (some (.str "123456789" t_DIGITS)))
    {t_MOST_DIGITS : Tok} (n_MOST_DIGITS : PySem.W.nsIn K mainGlobals "MOST_DIGITS" = some (some (.int 4 t_MOST_DIGITS)))
    {t_GREATEST_SUM : Tok} (n_GREATEST_SUM : PySem.W.nsIn K mainGlobals "GREATEST_SUM" = some (some (.int 24 t_GREATEST_SUM)))
    {t_MOST_LOOPS : Tok} (n_MOST_LOOPS : PySem.W.nsIn K mainGlobals "MOST_LOOPS" = some (some (.int 3 t_MOST_LOOPS)))
    {t_MOST_BOXES : Tok} (n_MOST_BOXES : PySem.W.nsIn K mainGlobals "MOST_BOXES" = some (some (.int 10 t_MOST_BOXES)))
    {t_MOST_ROUNDS : Tok} (n_MOST_ROUNDS : PySem.W.nsIn K mainGlobals "MOST_ROUNDS" = some (some (.int 8 t_MOST_ROUNDS)))
    {t_LOOP_HEAD : Tok} (n_LOOP_HEAD : PySem.W.nsIn K mainGlobals "LOOP_HEAD" = some (some (.str "loop " t_LOOP_HEAD)))
    (z_all : PySem.W.nsIn K mainGlobals "all" = some none)
    (z_bool : PySem.W.nsIn K mainGlobals "bool" = some none)
    (z_enumerate : PySem.W.nsIn K mainGlobals "enumerate" = some none)
    (z_int : PySem.W.nsIn K mainGlobals "int" = some none)
    (z_isinstance : PySem.W.nsIn K mainGlobals "isinstance" = some none)
    (z_len : PySem.W.nsIn K mainGlobals "len" = some none)
    (z_list : PySem.W.nsIn K mainGlobals "list" = some none)
    (z_min : PySem.W.nsIn K mainGlobals "min" = some none)
    (z_range : PySem.W.nsIn K mainGlobals "range" = some none)
    (z_set : PySem.W.nsIn K mainGlobals "set" = some none)
    (z_str : PySem.W.nsIn K mainGlobals "str" = some none)
    (z_sum : PySem.W.nsIn K mainGlobals "sum" = some none)
    (z_tuple : PySem.W.nsIn K mainGlobals "tuple" = some none)
    : ∃ fd : FuncData, (∀ (s : Shared) (v : Value), BindsTo s fd ⟨[v], []⟩ [("_law_script", v)]) ∧ ∀ base : Heap, K.In base → base.Ns mainGlobals mg → FnOk l.prog w K mg base CX0 10 fa fd ["_law_script"] (sp_law K) := by
  have e := hfa.symm.trans (PySem.W.mg_of X G a_law)
  cases e
  have F_is_whole := fun_mk (st := s_is_whole) l_is_whole c_is_whole k_is_whole
  have b_is_whole := F_is_whole.binds (ps := ["thing"]) fun _ _ _ _ _ _ us hl => match us, hl with | [_], _ => rfl
  have F_is_whole_within := fun_mk (st := s_is_whole_within) l_is_whole_within c_is_whole_within k_is_whole_within
  have b_is_whole_within := F_is_whole_within.binds (ps := ["thing", "low", "high"]) fun _ _ _ _ _ _ us hl => match us, hl with | [_, _, _], _ => rfl
  have F_is_sequence := fun_mk (st := s_is_sequence) l_is_sequence c_is_sequence k_is_sequence
  have b_is_sequence := F_is_sequence.binds (ps := ["thing"]) fun _ _ _ _ _ _ us hl => match us, hl with | [_], _ => rfl
  have F_is_digit := fun_mk (st := s_is_digit) l_is_digit c_is_digit k_is_digit
  have b_is_digit := F_is_digit.binds (ps := ["word"]) fun _ _ _ _ _ _ us hl => match us, hl with | [_], _ => rfl
  have F_is_number := fun_mk (st := s_is_number) l_is_number c_is_number k_is_number
  have b_is_number := F_is_number.binds (ps := ["thing"]) fun _ _ _ _ _ _ us hl => match us, hl with | [_], _ => rfl
  have F_is_sort := fun_mk (st := s_is_sort) l_is_sort c_is_sort k_is_sort
  have b_is_sort := F_is_sort.binds (ps := ["thing"]) fun _ _ _ _ _ _ us hl => match us, hl with | [_], _ => rfl
  have F_has_double := fun_mk (st := s_has_double) l_has_double c_has_double k_has_double
  have b_has_double := F_has_double.binds (ps := ["boxes"]) fun _ _ _ _ _ _ us hl => match us, hl with | [_], _ => rfl
  have F_are_loops := fun_mk (st := s_are_loops) l_are_loops c_are_loops k_are_loops
  have b_are_loops := F_are_loops.binds (ps := ["thing"]) fun _ _ _ _ _ _ us hl => match us, hl with | [_], _ => rfl
  have F_check_boxes := fun_mk (st := s_check_boxes) l_check_boxes c_check_boxes k_check_boxes
  have b_check_boxes := F_check_boxes.binds (ps := ["boxes"]) fun _ _ _ _ _ _ us hl => match us, hl with | [_], _ => rfl
  have F_check_town := fun_mk (st := s_check_town) l_check_town c_check_town k_check_town
  have b_check_town := F_check_town.binds (ps := ["loops", "rounds", "hear"]) fun _ _ _ _ _ _ us hl => match us, hl with | [_, _, _], _ => rfl
  have F_init : FunD K "__init__" "Town.__init__" (defArgs s_init) (defBody s_init) (defScope s_init) [] [("hear", V.int 1)] x_init _ := ⟨⟨_, _, _, _, _, _, _, _, _, _, rfl, l_init, c_init, .inl ⟨rfl, rfl⟩, .inr ⟨xD, rfl, fun q m => by rw [List.mem_singleton.mp m]; exact ⟨_, e_init, ⟨_, rfl⟩⟩⟩⟩, k_init⟩
  have kb := F_init.kbinds0 (ps := ["self", "loops", "rounds", "hear"]) 2 ["rounds"] [("hear", V.int 1)] (fun vs mz zs => vs ++ zs ++ mz) (by decide) (fun _ h => h) (fun a b c => (a.append c).append b) fun D doc pm an cdv ct us mv ws h1 h2 h3 => match us, mv, ws, h1, h2, h3 with | [_, _], [_], [_], _, _, _ => ⟨_, _, _, _, _, _, rfl, rfl, rfl⟩
  obtain ⟨mv, kb⟩ := kb
  have kb2 := F_init.kbinds0 (ps := ["self", "loops", "rounds", "hear"]) 2 ["rounds", "hear"] [] (fun vs mz zs => vs ++ zs) (by decide) (fun _ h => absurd h (by simp)) (fun a b c => a.append c) fun D doc pm an cdv ct us mv ws h1 h2 h3 => match us, mv, ws, h1, h2, h3 with | [_, _], [], [_, _], _, _, _ => rfl
  obtain ⟨_, kb2⟩ := kb2
  have F_site_of := fun_mk (st := s_site_of) l_site_of c_site_of k_site_of
  have b_site_of := F_site_of.binds (ps := ["self", "number"]) fun _ _ _ _ _ _ us hl => match us, hl with | [_, _], _ => rfl
  have F_sort_of := fun_mk (st := s_sort_of) l_sort_of c_sort_of k_sort_of
  have b_sort_of := F_sort_of.binds (ps := ["self", "number"]) fun _ _ _ _ _ _ us hl => match us, hl with | [_, _], _ => rfl
  have F_loop_of := fun_mk (st := s_loop_of) l_loop_of c_loop_of k_loop_of
  have b_loop_of := F_loop_of.binds (ps := ["self", "number"]) fun _ _ _ _ _ _ us hl => match us, hl with | [_, _], _ => rfl
  have F_place_of := fun_mk (st := s_place_of) l_place_of c_place_of k_place_of
  have b_place_of := F_place_of.binds (ps := ["self", "number"]) fun _ _ _ _ _ _ us hl => match us, hl with | [_, _], _ => rfl
  have F_eq := fun_mk (st := s_eq) l_eq c_eq k_eq
  have b_eq := F_eq.binds (ps := ["self", "other"]) fun _ _ _ _ _ _ us hl => match us, hl with | [_, _], _ => rfl
  have F_with_box := fun_mk (st := s_with_box) l_with_box c_with_box k_with_box
  have b_with_box := F_with_box.binds (ps := ["self", "number", "box"]) fun _ _ _ _ _ _ us hl => match us, hl with | [_, _, _], _ => rfl
  have F_with_sort := fun_mk (st := s_with_sort) l_with_sort c_with_sort k_with_sort
  have b_with_sort := F_with_sort.binds (ps := ["self", "number", "sort"]) fun _ _ _ _ _ _ us hl => match us, hl with | [_, _, _], _ => rfl
  have F_town_text := fun_mk (st := s_town_text) l_town_text c_town_text k_town_text
  have b_town_text := F_town_text.binds (ps := ["town"]) fun _ _ _ _ _ _ us hl => match us, hl with | [_], _ => rfl
  have F_read_head := fun_mk (st := s_read_head) l_read_head c_read_head k_read_head
  have b_read_head := F_read_head.binds (ps := ["row"]) fun _ _ _ _ _ _ us hl => match us, hl with | [_], _ => rfl
  have F_read_loop := fun_mk (st := s_read_loop) l_read_loop c_read_loop k_read_loop
  have b_read_loop := F_read_loop.binds (ps := ["index", "row"]) fun _ _ _ _ _ _ us hl => match us, hl with | [_, _], _ => rfl
  have F_read_town := fun_mk (st := s_read_town) l_read_town c_read_town k_read_town
  have b_read_town := F_read_town.binds (ps := ["text"]) fun _ _ _ _ _ _ us hl => match us, hl with | [_], _ => rfl
  have F_bag := fun_mk (st := s_bag) l_bag c_bag k_bag
  have b_bag := F_bag.binds (ps := ["_law_script"]) fun _ _ _ _ _ _ us hl => match us, hl with | [_], _ => rfl
  have F_draw := fun_mk (st := s_draw) l_draw c_draw k_draw
  have b_draw := F_draw.binds (ps := ["_law_bag_here", "_law_limit"]) fun _ _ _ _ _ _ us hl => match us, hl with | [_, _], _ => rfl
  have F_number := fun_mk (st := s_number) l_number c_number k_number
  have b_number := F_number.binds (ps := ["_law_bag_here"]) fun _ _ _ _ _ _ us hl => match us, hl with | [_], _ => rfl
  have F_numbers := fun_mk (st := s_numbers) l_numbers c_numbers k_numbers
  have b_numbers := F_numbers.binds (ps := ["_law_bag_here", "_law_many"]) fun _ _ _ _ _ _ us hl => match us, hl with | [_, _], _ => rfl
  have F_loops := fun_mk (st := s_loops) l_loops c_loops k_loops
  have b_loops := F_loops.binds (ps := ["_law_bag_here"]) fun _ _ _ _ _ _ us hl => match us, hl with | [_], _ => rfl
  have F_rules := fun_mk (st := s_rules) l_rules c_rules k_rules
  have b_rules := F_rules.binds (ps := ["_law_bag_here"]) fun _ _ _ _ _ _ us hl => match us, hl with | [_], _ => rfl
  have F_told := fun_mk (st := s_told) l_told c_told k_told
  have b_told := F_told.binds (ps := ["_law_loops_here"]) fun _ _ _ _ _ _ us hl => match us, hl with | [_], _ => rfl
  have F_text := fun_mk (st := s_text) l_text c_text k_text
  have b_text := F_text.binds (ps := ["_law_loops_here", "_law_rules_here"]) fun _ _ _ _ _ _ us hl => match us, hl with | [_, _], _ => rfl
  have F_asked := fun_mk (st := s_asked) l_asked c_asked k_asked
  have b_asked := F_asked.binds (ps := ["_law_town", "_law_loops_here", "_law_rules_here"]) fun _ _ _ _ _ _ us hl => match us, hl with | [_, _, _], _ => rfl
  have F_law := fun_mk (st := s_law) l_law c_law k_law
  have b_law := F_law.binds (ps := ["_law_script"]) fun _ _ _ _ _ _ us hl => match us, hl with | [_], _ => rfl
  have lowB : PySem.LowB.LowTxt K mg eCB eIB :=
    { gC := PySem.W.mg_of X G e_aB, cls := ⟨enmB, eqB, eNB, ebsB, _, esnB, esubB, eabB, ecolB, eddB, em0B, em1B, em2B, em3B, em5B, e_xB, e_bB⟩, sa := e_sB, ga := e_gB, gg := e_hB, noN := e_nB, iC := e_iB, tC := e_tB, kC := e_kB, exC := e_eB, tyC := e_tyB, hdC := e_dB, te := PySem.W.exm_ref e_eB e_dB e_tyB e_scB,
      fn := ⟨_, _, _, _, _, _, _, _, _, _, _, _, _, _, e_lB, e_cB⟩ }
  have T : Σ' T : Txt K mg, T.a_law = fa ∧ T.d_law = PySem.W.fnOf "law" "law" (defArgs s_law) (defBody s_law) (defScope s_law) .none kV_law dc_law pm_law an_law cd_law ct_law :=
    ⟨{ C := xC, gC := PySem.W.mg_of X G aC, clC := ⟨pg, hd, po, sa⟩, mc := .type "type", rd := ⟨rd, ga⟩, uP := _, uS := _, vP := ⟨vP, ⟨_, rfl⟩⟩, vS := ⟨vS, ⟨_, rfl⟩⟩, nL := nL, nR := nR, nH := nH, nN := nN,
        isi := ⟨ica, icn, ict, icm⟩, kS := kS, kT := kT, CB := _, fB := _, lowB := lowB,
        sfC := (by unfold PySem.W.notFirst; simp), sfT := (by unfold PySem.W.notFirst; rw [sT]; simp), aEq := a_eq, iEq := i_eq, ne := ⟨⟨_, _, _, _, _, _, _, _, _, _, _, _, _, _, _, ox, ns_ok ol on, oe, oz⟩, i_eq⟩,
        a_is_whole := _, d_is_whole := _, F_is_whole := F_is_whole, b_is_whole := b_is_whole, g_is_whole := PySem.W.mg_of X G a_is_whole,
        a_is_whole_within := _, d_is_whole_within := _, F_is_whole_within := F_is_whole_within, b_is_whole_within := b_is_whole_within, g_is_whole_within := PySem.W.mg_of X G a_is_whole_within,
        a_is_sequence := _, d_is_sequence := _, F_is_sequence := F_is_sequence, b_is_sequence := b_is_sequence, g_is_sequence := PySem.W.mg_of X G a_is_sequence,
        a_is_digit := _, d_is_digit := _, F_is_digit := F_is_digit, b_is_digit := b_is_digit, g_is_digit := PySem.W.mg_of X G a_is_digit,
        a_is_number := _, d_is_number := _, F_is_number := F_is_number, b_is_number := b_is_number, g_is_number := PySem.W.mg_of X G a_is_number,
        a_is_sort := _, d_is_sort := _, F_is_sort := F_is_sort, b_is_sort := b_is_sort, g_is_sort := PySem.W.mg_of X G a_is_sort,
        a_has_double := _, d_has_double := _, F_has_double := F_has_double, b_has_double := b_has_double, g_has_double := PySem.W.mg_of X G a_has_double,
        a_are_loops := _, d_are_loops := _, F_are_loops := F_are_loops, b_are_loops := b_are_loops, g_are_loops := PySem.W.mg_of X G a_are_loops,
        a_check_boxes := _, d_check_boxes := _, F_check_boxes := F_check_boxes, b_check_boxes := b_check_boxes, g_check_boxes := PySem.W.mg_of X G a_check_boxes,
        a_check_town := _, d_check_town := _, F_check_town := F_check_town, b_check_town := b_check_town, g_check_town := PySem.W.mg_of X G a_check_town,
        a_init := _, d_init := _, F_init := F_init, mk_init := ⟨mk, a_init, i_init, kc⟩,
        a_site_of := _, d_site_of := _, F_site_of := F_site_of, b_site_of := b_site_of, m_site_of := ⟨a_site_of, i_site_of, k_site_of⟩,
        a_sort_of := _, d_sort_of := _, F_sort_of := F_sort_of, b_sort_of := b_sort_of, m_sort_of := ⟨a_sort_of, i_sort_of, k_sort_of⟩,
        a_loop_of := _, d_loop_of := _, F_loop_of := F_loop_of, b_loop_of := b_loop_of, m_loop_of := ⟨a_loop_of, i_loop_of, k_loop_of⟩,
        a_place_of := _, d_place_of := _, F_place_of := F_place_of, b_place_of := b_place_of, m_place_of := ⟨a_place_of, i_place_of, k_place_of⟩,
        a_eq := _, d_eq := _, F_eq := F_eq, b_eq := b_eq, m_eq := ⟨a_eq, i_eq, k_eq⟩,
        a_with_box := _, d_with_box := _, F_with_box := F_with_box, b_with_box := b_with_box, m_with_box := ⟨a_with_box, i_with_box, k_with_box⟩,
        a_with_sort := _, d_with_sort := _, F_with_sort := F_with_sort, b_with_sort := b_with_sort, m_with_sort := ⟨a_with_sort, i_with_sort, k_with_sort⟩,
        a_town_text := _, d_town_text := _, F_town_text := F_town_text, b_town_text := b_town_text, g_town_text := PySem.W.mg_of X G a_town_text,
        a_read_head := _, d_read_head := _, F_read_head := F_read_head, b_read_head := b_read_head, g_read_head := PySem.W.mg_of X G a_read_head,
        a_read_loop := _, d_read_loop := _, F_read_loop := F_read_loop, b_read_loop := b_read_loop, g_read_loop := PySem.W.mg_of X G a_read_loop,
        a_read_town := _, d_read_town := _, F_read_town := F_read_town, b_read_town := b_read_town, g_read_town := PySem.W.mg_of X G a_read_town,
        a_bag := _, d_bag := _, F_bag := F_bag, b_bag := b_bag, g_bag := PySem.W.mg_of X G a_bag,
        a_draw := _, d_draw := _, F_draw := F_draw, b_draw := b_draw, g_draw := PySem.W.mg_of X G a_draw,
        a_number := _, d_number := _, F_number := F_number, b_number := b_number, g_number := PySem.W.mg_of X G a_number,
        a_numbers := _, d_numbers := _, F_numbers := F_numbers, b_numbers := b_numbers, g_numbers := PySem.W.mg_of X G a_numbers,
        a_loops := _, d_loops := _, F_loops := F_loops, b_loops := b_loops, g_loops := PySem.W.mg_of X G a_loops,
        a_rules := _, d_rules := _, F_rules := F_rules, b_rules := b_rules, g_rules := PySem.W.mg_of X G a_rules,
        a_told := _, d_told := _, F_told := F_told, b_told := b_told, g_told := PySem.W.mg_of X G a_told,
        a_text := _, d_text := _, F_text := F_text, b_text := b_text, g_text := PySem.W.mg_of X G a_text,
        a_asked := _, d_asked := _, F_asked := F_asked, b_asked := b_asked, g_asked := PySem.W.mg_of X G a_asked,
        a_law := _, d_law := _, F_law := F_law, b_law := b_law, g_law := PySem.W.mg_of X G a_law,
        t_DIGITS := _, c_DIGITS := PySem.W.mg_of X G n_DIGITS,
        t_MOST_DIGITS := _, c_MOST_DIGITS := PySem.W.mg_of X G n_MOST_DIGITS,
        t_GREATEST_SUM := _, c_GREATEST_SUM := PySem.W.mg_of X G n_GREATEST_SUM,
        t_MOST_LOOPS := _, c_MOST_LOOPS := PySem.W.mg_of X G n_MOST_LOOPS,
        t_MOST_BOXES := _, c_MOST_BOXES := PySem.W.mg_of X G n_MOST_BOXES,
        t_MOST_ROUNDS := _, c_MOST_ROUNDS := PySem.W.mg_of X G n_MOST_ROUNDS,
        t_LOOP_HEAD := _, c_LOOP_HEAD := PySem.W.mg_of X G n_LOOP_HEAD,
        z_all := PySem.W.mg_none_of X G z_all,
        z_bool := PySem.W.mg_none_of X G z_bool,
        z_enumerate := PySem.W.mg_none_of X G z_enumerate,
        z_int := PySem.W.mg_none_of X G z_int,
        z_isinstance := PySem.W.mg_none_of X G z_isinstance,
        z_len := PySem.W.mg_none_of X G z_len,
        z_list := PySem.W.mg_none_of X G z_list,
        z_min := PySem.W.mg_none_of X G z_min,
        z_range := PySem.W.mg_none_of X G z_range,
        z_set := PySem.W.mg_none_of X G z_set,
        z_str := PySem.W.mg_none_of X G z_str,
        z_sum := PySem.W.mg_none_of X G z_sum,
        z_tuple := PySem.W.mg_none_of X G z_tuple,
        mv := mv, kb := kb, kb2 := kb2 }, rfl, rfl⟩
  obtain ⟨T, e1, e2⟩ := T
  subst e1
  refine ⟨T.d_law, fun s v => by rw [e2]; exact .of_eq rfl, fun base _ _ => ok_law T⟩
theorem walk {l : PySem.W.OpenLaw} {q : Program} {loose : List Str} {XP : (Str → Option Value) → Heap → Prop} {YP : World → Heap → Prop} {d : DefRec} {K : Params → PySem.W.Frag} (hn : l.most = some 63) (hdf : d.params.defaults = [])
    (hY : ∀ (w : World) (h : Heap), YP w h → (K w.params).In h)
    (F : ∀ (w : World) (mg : Str → Option Value) (fa : Addr) (h : Heap), (K w.params).In h → h.Ns mainGlobals mg → mg d.name = some (.ref fa) →
      ∃ fd : FuncData, (∀ (s : Shared) (u : Value), BindsTo s fd ⟨[u], []⟩ [("_law_script", u)]) ∧ ∀ base : Heap, (K w.params).In base → base.Ns mainGlobals mg → FnOk l.prog w (K w.params) mg base CX0 10 fa fd ["_law_script"] (sp_law (K w.params))) :
    PySem.W.WalkO q loose XP YP l.row.toRowW d [] (fun f vs => PySem.call f vs) :=
  L2.walk_of (n := 63) (k := 10) (x := "_law_script") (CX := fun _ => CX0) (sp := fun w => sp_law (K w.params)) hn (by decide) hdf ⟨rfl, by decide, by decide⟩ hY F (fun _ _ a ns hl _ hS => ⟨a, ns, rfl, hS, hl, fun _ => rfl⟩) fun _ _ _ _ _ z => z
end K09

open PySem PySem.W PyProof.Rows in
set_option maxRecDepth 100000 in
set_option maxHeartbeats 0 in
theorem PySem.Challenge.cw_wheelchorus_k09_town_texts_read_back_holds : PySem.Challenge.rw_wheelchorus_k09_town_texts_read_back.Holds := by
  w_on; o_law; k_head; (case hw => w_witness2)
  k_fill
  refine K09.walk (l := PySem.Challenge.rw_wheelchorus_k09_town_texts_read_back) rfl rfl (fun w h Y => PySem.W.kIn_of Y) ?F
  case F =>
    intro w mg fa h KX G hmg
    refine' K09.all_mk KX G hmg ?aC ?a_is_whole ?l_is_whole ?c_is_whole ?k_is_whole ?a_is_whole_within ?l_is_whole_within ?c_is_whole_within ?k_is_whole_within ?a_is_sequence ?l_is_sequence ?c_is_sequence ?k_is_sequence ?a_is_digit ?l_is_digit ?c_is_digit ?k_is_digit ?a_is_number ?l_is_number ?c_is_number ?k_is_number ?a_is_sort ?l_is_sort ?c_is_sort ?k_is_sort ?a_has_double ?l_has_double ?c_has_double ?k_has_double ?a_are_loops ?l_are_loops ?c_are_loops ?k_are_loops ?a_check_boxes ?l_check_boxes ?c_check_boxes ?k_check_boxes ?a_check_town ?l_check_town ?c_check_town ?k_check_town ?a_init ?i_init ?l_init ?c_init ?k_init ?e_init ?a_site_of ?i_site_of ?l_site_of ?c_site_of ?k_site_of ?a_sort_of ?i_sort_of ?l_sort_of ?c_sort_of ?k_sort_of ?a_loop_of ?i_loop_of ?l_loop_of ?c_loop_of ?k_loop_of ?a_place_of ?i_place_of ?l_place_of ?c_place_of ?k_place_of ?a_eq ?i_eq ?l_eq ?c_eq ?k_eq ?a_with_box ?i_with_box ?l_with_box ?c_with_box ?k_with_box ?a_with_sort ?i_with_sort ?l_with_sort ?c_with_sort ?k_with_sort ?a_town_text ?l_town_text ?c_town_text ?k_town_text ?a_read_head ?l_read_head ?c_read_head ?k_read_head ?a_read_loop ?l_read_loop ?c_read_loop ?k_read_loop ?a_read_town ?l_read_town ?c_read_town ?k_read_town ?a_bag ?l_bag ?c_bag ?k_bag ?a_draw ?l_draw ?c_draw ?k_draw ?a_number ?l_number ?c_number ?k_number ?a_numbers ?l_numbers ?c_numbers ?k_numbers ?a_loops ?l_loops ?c_loops ?k_loops ?a_rules ?l_rules ?c_rules ?k_rules ?a_told ?l_told ?c_told ?k_told ?a_text ?l_text ?c_text ?k_text ?a_asked ?l_asked ?c_asked ?k_asked ?a_law ?l_law ?c_law ?k_law ?pg ?hd ?po ?sa ?mk ?kc ?nL ?nR ?nH ?nN ?rd ?ga ?ica ?icn ?ict ?icm ?kS ?kT ?sT ?vP ?vS ?ox ?ol ?on ?oe ?oz ?e_aB ?e_xB ?e_bB ?e_sB ?e_gB ?e_hB ?e_nB ?e_iB ?e_tB ?e_lB ?e_cB ?e_kB ?e_eB ?e_tyB ?e_dB ?e_scB ?n_DIGITS ?n_MOST_DIGITS ?n_GREATEST_SUM ?n_MOST_LOOPS ?n_MOST_BOXES ?n_MOST_ROUNDS ?n_LOOP_HEAD ?z_all ?z_bool ?z_enumerate ?z_int ?z_isinstance ?z_len ?z_list ?z_min ?z_range ?z_set ?z_str ?z_sum ?z_tuple
    (case aC => k_is)
    (case a_is_whole => k_is)
    (case l_is_whole => k_is)
    (case c_is_whole => k_is)
    (case k_is_whole => k_is)
    (case a_is_whole_within => k_is)
    (case l_is_whole_within => k_is)
    (case c_is_whole_within => k_is)
    (case k_is_whole_within => k_is)
    (case a_is_sequence => k_is)
    (case l_is_sequence => k_is)
    (case c_is_sequence => k_is)
    (case k_is_sequence => k_is)
    (case a_is_digit => k_is)
    (case l_is_digit => k_is)
    (case c_is_digit => k_is)
    (case k_is_digit => k_is)
    (case a_is_number => k_is)
    (case l_is_number => k_is)
    (case c_is_number => k_is)
    (case k_is_number => k_is)
    (case a_is_sort => k_is)
    (case l_is_sort => k_is)
    (case c_is_sort => k_is)
    (case k_is_sort => k_is)
    (case a_has_double => k_is)
    (case l_has_double => k_is)
    (case c_has_double => k_is)
    (case k_has_double => k_is)
    (case a_are_loops => k_is)
    (case l_are_loops => k_is)
    (case c_are_loops => k_is)
    (case k_are_loops => k_is)
    (case a_check_boxes => k_is)
    (case l_check_boxes => k_is)
    (case c_check_boxes => k_is)
    (case k_check_boxes => k_is)
    (case a_check_town => k_is)
    (case l_check_town => k_is)
    (case c_check_town => k_is)
    (case k_check_town => k_is)
    (case a_init => k_is)
    (case i_init => k_is)
    (case l_init => k_is)
    (case c_init => k_is)
    (case k_init => k_is)
    (case e_init => k_is)
    (case a_site_of => k_is)
    (case i_site_of => k_is)
    (case l_site_of => k_is)
    (case c_site_of => k_is)
    (case k_site_of => k_is)
    (case a_sort_of => k_is)
    (case i_sort_of => k_is)
    (case l_sort_of => k_is)
    (case c_sort_of => k_is)
    (case k_sort_of => k_is)
    (case a_loop_of => k_is)
    (case i_loop_of => k_is)
    (case l_loop_of => k_is)
    (case c_loop_of => k_is)
    (case k_loop_of => k_is)
    (case a_place_of => k_is)
    (case i_place_of => k_is)
    (case l_place_of => k_is)
    (case c_place_of => k_is)
    (case k_place_of => k_is)
    (case a_eq => k_is)
    (case i_eq => k_is)
    (case l_eq => k_is)
    (case c_eq => k_is)
    (case k_eq => k_is)
    (case a_with_box => k_is)
    (case i_with_box => k_is)
    (case l_with_box => k_is)
    (case c_with_box => k_is)
    (case k_with_box => k_is)
    (case a_with_sort => k_is)
    (case i_with_sort => k_is)
    (case l_with_sort => k_is)
    (case c_with_sort => k_is)
    (case k_with_sort => k_is)
    (case a_town_text => k_is)
    (case l_town_text => k_is)
    (case c_town_text => k_is)
    (case k_town_text => k_is)
    (case a_read_head => k_is)
    (case l_read_head => k_is)
    (case c_read_head => k_is)
    (case k_read_head => k_is)
    (case a_read_loop => k_is)
    (case l_read_loop => k_is)
    (case c_read_loop => k_is)
    (case k_read_loop => k_is)
    (case a_read_town => k_is)
    (case l_read_town => k_is)
    (case c_read_town => k_is)
    (case k_read_town => k_is)
    (case a_bag => k_is)
    (case l_bag => k_is)
    (case c_bag => k_is)
    (case k_bag => k_is)
    (case a_draw => k_is)
    (case l_draw => k_is)
    (case c_draw => k_is)
    (case k_draw => k_is)
    (case a_number => k_is)
    (case l_number => k_is)
    (case c_number => k_is)
    (case k_number => k_is)
    (case a_numbers => k_is)
    (case l_numbers => k_is)
    (case c_numbers => k_is)
    (case k_numbers => k_is)
    (case a_loops => k_is)
    (case l_loops => k_is)
    (case c_loops => k_is)
    (case k_loops => k_is)
    (case a_rules => k_is)
    (case l_rules => k_is)
    (case c_rules => k_is)
    (case k_rules => k_is)
    (case a_told => k_is)
    (case l_told => k_is)
    (case c_told => k_is)
    (case k_told => k_is)
    (case a_text => k_is)
    (case l_text => k_is)
    (case c_text => k_is)
    (case k_text => k_is)
    (case a_asked => k_is)
    (case l_asked => k_is)
    (case c_asked => k_is)
    (case k_asked => k_is)
    (case a_law => k_is)
    (case l_law => k_is)
    (case c_law => k_is)
    (case k_law => k_is)
    (case pg => k_is)
    (case hd => k_is)
    (case po => k_is)
    (case sa => k_is)
    (case mk => k_is)
    (case kc => k_is)
    (case nL => k_is)
    (case nR => k_is)
    (case nH => k_is)
    (case nN => k_is)
    (case rd => k_is)
    (case ga => k_is)
    (case ica => k_is)
    (case icn => k_is)
    (case ict => k_is)
    (case icm => k_is)
    (case kS => first | k_is | kit_is | (decide +kernel))
    (case kT => first | k_is | kit_is | (decide +kernel))
    (case sT => k_is)
    (case vP => k_is)
    (case vS => k_is)
    (case ox => k_is)
    (case ol => k_is)
    (case on => first | rfl | (decide +kernel) | simp)
    (case oe => k_is)
    (case oz => k_is)
    (case e_aB => k_is)
    (case e_xB => k_is)
    (case e_bB => decide +kernel)
    (case e_sB => k_is)
    (case e_gB => k_is)
    (case e_hB => k_is)
    (case e_nB => k_is)
    (case e_iB => k_is)
    (case e_tB => k_is)
    (case e_lB => k_is)
    (case e_cB => k_is)
    (case e_kB => k_is)
    (case e_eB => k_is)
    (case e_tyB => k_is)
    (case e_dB => k_is)
    (case e_scB => first | rfl | k_is)
    (case n_DIGITS => k_is)
    (case n_MOST_DIGITS => k_is)
    (case n_GREATEST_SUM => k_is)
    (case n_MOST_LOOPS => k_is)
    (case n_MOST_BOXES => k_is)
    (case n_MOST_ROUNDS => k_is)
    (case n_LOOP_HEAD => k_is)
    (case z_all => k_is)
    (case z_bool => k_is)
    (case z_enumerate => k_is)
    (case z_int => k_is)
    (case z_isinstance => k_is)
    (case z_len => k_is)
    (case z_list => k_is)
    (case z_min => k_is)
    (case z_range => k_is)
    (case z_set => k_is)
    (case z_str => k_is)
    (case z_sum => k_is)
    (case z_tuple => k_is)
