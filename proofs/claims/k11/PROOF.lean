import PyProof.Rows.All
import Wide.All
import OpenK.AllK
import Wide.FinOn
import HandS.ForMost
import HandS.SlotsOwn
import HandS.Wide
import HandS.IsInst
import HandS.Style
import HandS.Zip
import HandS.Walk
import HandS.Exc
import HandS.TryOnly
import HandS.ExcOwn
import HandS.WordsExc
import HandS.ExcIs
import KE.OsGo
import HandS.Codes
import HandS.Text
import KE.IntTextLaws
import KE.KExcIs
import KE.DataEq
import KE.KTupSum
import HandS.Defaults
import HandS.MakeKw
import HandS.MakeKwOnly
import HandS.ClsMeth
import HandS.Strs
import KE.GoesMore
import HandS.TupAny
import HandS.TupMul
import HandS.TryMany
import HandS.ExcCtx
import HandS.TupSets
import HandS.SetFor
import HandS.OwnIter
import HandS.IterVal
import KE.KOpsOwn
import HandS.Property
import HandS.TupLe
import PySem.Challenge.RW_wheelchorus_k11_whole_fits_by_blocks_and
import HandS.FStr
set_option Elab.async false
set_option linter.all false
set_option maxRecDepth 100000
set_option maxHeartbeats 4000000
/-! Numbers as lists of digits, their rows, and where two rows part. -/
namespace Wm
open PySem L2
def codes (ds : List Nat) : List Nat := ds.map (· + 48)
def numS (ds : List Nat) : Str := ⟨(codes ds).toArray⟩
structure Dig (ds : List Nat) : Prop where
  dig : ∀ d ∈ ds, 1 ≤ d ∧ d ≤ 9
structure Num (ds : List Nat) : Prop where
  pos : 1 ≤ ds.length
  len : ds.length ≤ 4
  dig : ∀ d ∈ ds, 1 ≤ d ∧ d ≤ 9
  sum : ds.sum ≤ 24
def blk (d : Nat) : List Int := (List.replicate d [1, 0]).flatten
def rowL : List Nat → List Int
  | [] => [0, 0]
  | d :: ds => blk d ++ ([0, 0] ++ rowL ds)
structure Diff (xs ys : List Int) (k : Nat) (a b : Int) : Prop where
  one : xs[k]? = some a
  two : ys[k]? = some b
  ne : a ≠ b
  eq : ∀ j, j < k → xs[j]? = ys[j]?
theorem Diff.symm {xs ys : List Int} {k : Nat} {a b : Int} (h : Diff xs ys k a b) : Diff ys xs k b a :=
  ⟨h.two, h.one, h.ne.symm, fun j l => (h.eq j l).symm⟩
theorem Diff.cons {xs ys : List Int} {k : Nat} {a b : Int} (z : Int) (h : Diff xs ys k a b) : Diff (z :: xs) (z :: ys) (k + 1) a b := by
  refine ⟨by simpa using h.one, by simpa using h.two, h.ne, fun j l => ?_⟩
  cases j with
  | zero => rfl
  | succ j => simpa using h.eq j (by omega)
theorem Diff.app {xs ys : List Int} {k : Nat} {a b : Int} : ∀ (p : List Int), Diff xs ys k a b → Diff (p ++ xs) (p ++ ys) (p.length + k) a b
  | [], h => by simpa using h
  | z :: p, h => by
    have ih := (Diff.app p h).cons z
    have e : (z :: p).length + k = p.length + k + 1 := by simp only [List.length_cons]; omega
    rw [e]
    exact ih
theorem Diff.uniq {xs ys : List Int} {k l : Nat} {a b c d : Int} (h : Diff xs ys k a b) (g : Diff xs ys l c d) : k = l ∧ a = c ∧ b = d := by
  have e : k = l := by
    rcases Nat.lt_trichotomy k l with x | x | x
    · exact absurd (by have q := g.eq k x; rw [h.one, h.two] at q; exact Option.some.inj q) h.ne
    · exact x
    · exact absurd (by have q := h.eq l x; rw [g.one, g.two] at q; exact Option.some.inj q) g.ne
  subst e
  exact ⟨rfl, Option.some.inj (h.one.symm.trans g.one), Option.some.inj (h.two.symm.trans g.two)⟩
theorem Diff.lt1 {xs ys : List Int} {k : Nat} {a b : Int} (h : Diff xs ys k a b) : k < xs.length := (List.getElem?_eq_some_iff.mp h.one).1
theorem Diff.lt2 {xs ys : List Int} {k : Nat} {a b : Int} (h : Diff xs ys k a b) : k < ys.length := (List.getElem?_eq_some_iff.mp h.two).1
theorem blk_add (d e : Nat) : blk (d + e) = blk d ++ blk e := by
  unfold blk
  rw [← List.replicate_append_replicate, List.flatten_append]
theorem blk_succ (e : Nat) : blk (e + 1) = [1, 0] ++ blk e := by
  rw [Nat.add_comm, blk_add]
  rfl
theorem blk_len (d : Nat) : (blk d).length = 2 * d := by
  induction d with
  | zero => rfl
  | succ d ih => rw [blk_succ, List.length_append, ih]; simp only [List.length_cons, List.length_nil]; omega
theorem row_less (d e : Nat) (ds es : List Nat) (h : d < e) : Diff (rowL (d :: ds)) (rowL (e :: es)) (2 * d) 0 1 := by
  obtain ⟨f, rfl⟩ : ∃ f, e = d + (f + 1) := ⟨e - d - 1, by omega⟩
  have h0 : Diff ([0, 0] ++ rowL ds) ([1, 0] ++ (blk f ++ ([0, 0] ++ rowL es))) 0 0 1 := ⟨rfl, rfl, by decide, fun j l => absurd l (Nat.not_lt_zero _)⟩
  have h1 := h0.app (blk d)
  rw [blk_len, Nat.add_zero] at h1
  have e1 : rowL ((d + (f + 1)) :: es) = blk d ++ ([1, 0] ++ (blk f ++ ([0, 0] ++ rowL es))) := by
    show blk (d + (f + 1)) ++ _ = _
    rw [blk_add, blk_succ, List.append_assoc, List.append_assoc]
  rw [e1]
  exact h1
theorem rows_part : ∀ (ds es : List Nat), (∀ d ∈ ds, 1 ≤ d) → (∀ e ∈ es, 1 ≤ e) →
    ds = es ∨ (∃ k, Diff (rowL ds) (rowL es) k 1 0 ∧ es < ds) ∨ (∃ k, Diff (rowL ds) (rowL es) k 0 1 ∧ ds < es)
  | [], [], _, _ => .inl rfl
  | [], e :: es, _, h => by
    obtain ⟨f, rfl⟩ : ∃ f, e = f + 1 := ⟨e - 1, by have := h e (by simp); omega⟩
    refine .inr (.inr ⟨0, ⟨rfl, ?_, by decide, fun j l => absurd l (Nat.not_lt_zero _)⟩, List.nil_lt_cons _ _⟩)
    show (blk (f + 1) ++ _)[0]? = _
    rw [blk_succ]
    rfl
  | d :: ds, [], h, _ => by
    obtain ⟨f, rfl⟩ : ∃ f, d = f + 1 := ⟨d - 1, by have := h d (by simp); omega⟩
    refine .inr (.inl ⟨0, ⟨?_, rfl, by decide, fun j l => absurd l (Nat.not_lt_zero _)⟩, List.nil_lt_cons _ _⟩)
    show (blk (f + 1) ++ _)[0]? = _
    rw [blk_succ]
    rfl
  | d :: ds, e :: es, h, g => by
    rcases Nat.lt_trichotomy d e with x | x | x
    · exact .inr (.inr ⟨_, row_less d e ds es x, List.cons_lt_cons_iff.mpr (.inl x)⟩)
    · subst x
      rcases rows_part ds es (fun y m => h y (List.mem_cons_of_mem _ m)) (fun y m => g y (List.mem_cons_of_mem _ m)) with q | ⟨k, q, l⟩ | ⟨k, q, l⟩
      · exact .inl (by rw [q])
      · exact .inr (.inl ⟨_, (q.app [0, 0]).app (blk d), List.cons_lt_cons_iff.mpr (.inr ⟨rfl, l⟩)⟩)
      · exact .inr (.inr ⟨_, (q.app [0, 0]).app (blk d), List.cons_lt_cons_iff.mpr (.inr ⟨rfl, l⟩)⟩)
    · exact .inr (.inl ⟨_, (row_less e d es ds x).symm, List.cons_lt_cons_iff.mpr (.inl x)⟩)
theorem codes_lt : ∀ (ds es : List Nat), ds < es → codes ds < codes es
  | [], [], h => absurd h (List.lt_irrefl _)
  | [], _ :: _, _ => List.nil_lt_cons _ _
  | _ :: _, [], h => absurd h (List.not_lt_nil _)
  | d :: ds, e :: es, h => by
    rcases List.cons_lt_cons_iff.mp h with x | ⟨x, y⟩
    · exact List.cons_lt_cons_iff.mpr (.inl (Nat.add_lt_add_right x 48))
    · exact List.cons_lt_cons_iff.mpr (.inr ⟨by rw [x], codes_lt ds es y⟩)
theorem codes_inj : ∀ (ds es : List Nat), codes ds = codes es → ds = es
  | [], [], _ => rfl
  | [], _ :: _, h => by simp [codes] at h
  | _ :: _, [], h => by simp [codes] at h
  | d :: ds, e :: es, h => by
    have h1 : d + 48 = e + 48 := (List.cons.inj h).1
    have h2 : codes ds = codes es := (List.cons.inj h).2
    rw [codes_inj ds es h2, show d = e by omega]
theorem numS_cps (ds : List Nat) : (numS ds).cps.toList = codes ds := rfl
theorem numS_inj {ds es : List Nat} (h : numS ds = numS es) : ds = es := codes_inj _ _ (by rw [← numS_cps, h, numS_cps])
theorem numS_len (ds : List Nat) : (numS ds).length = ds.length := by
  show (codes ds).toArray.size = _
  simp [codes]
theorem lt_asymm' {a b : List Nat} (h : a < b) : ¬ b < a := fun g => List.lt_irrefl _ (List.lt_trans h g)
theorem rowL_le : ∀ ds : List Nat, (∀ d ∈ ds, d ≤ 9) → (rowL ds).length ≤ 20 * ds.length + 2
  | [], _ => by decide
  | d :: ds, h => by
    have ih := rowL_le ds fun y m => h y (List.mem_cons_of_mem _ m)
    have hd := h d (by simp)
    show (blk d ++ ([0, 0] ++ rowL ds)).length ≤ _
    rw [List.length_append, List.length_append, blk_len]
    simp only [List.length_cons, List.length_nil]
    omega
end Wm

/-! Digits as signs, texts of digits cut and joined; what a heap keeps. -/
namespace Wm
open PySem L2
theorem dig_cases {d : Nat} (h : 1 ≤ d ∧ d ≤ 9) : d = 1 ∨ d = 2 ∨ d = 3 ∨ d = 4 ∨ d = 5 ∨ d = 6 ∨ d = 7 ∨ d = 8 ∨ d = 9 := by omega
theorem dig_int {d : Nat} (h : 1 ≤ d ∧ d ≤ 9) : PySem.intText? ⟨#[d + 48]⟩ = some (d : Int) := by
  rcases dig_cases h with e | e | e | e | e | e | e | e | e <;> subst e <;> decide +kernel
theorem dig_in {d : Nat} (h : 1 ≤ d ∧ d ≤ 9) : (d + 48) ∈ ("123456789" : Str).cps.toList := by
  rcases dig_cases h with e | e | e | e | e | e | e | e | e <;> subst e <;> decide +kernel
theorem dig_str {d : Nat} (h : 1 ≤ d ∧ d ≤ 9) : ((toString (d : Int) : String) : Str) = numS [d] := by
  rcases dig_cases h with e | e | e | e | e | e | e | e | e <;> subst e <;> decide +kernel
theorem numS_app (ds es : List Nat) : numS ds ++ numS es = numS (ds ++ es) := by
  refine PyProof.Rows.ext_toList ?_
  show ((numS ds).cps ++ (numS es).cps).toList = _
  rw [Array.toList_append, numS_cps, numS_cps, numS_cps]
  simp [codes]
theorem numS_nil : numS [] = ("" : Str) := by decide +kernel
theorem numS_take (ds : List Nat) (k : Nat) : cutS (numS ds) none (some (k : Int)) = numS (ds.take k) := by
  refine PyProof.Rows.ext_toList ?_
  show ((codes ds).drop 0).take (HT.sIx (numS ds).length (numS ds).length (some (k : Int)) - 0) = codes (ds.take k)
  rw [numS_len, HT.sIx_nat, List.drop_zero, Nat.sub_zero]
  simp only [codes, ← List.map_take]
  congr 1
  rw [List.take_eq_take_iff]
  omega
theorem numS_last (ds : List Nat) : cutS (numS ds) none (some (-1)) = numS ds.dropLast := by
  refine PyProof.Rows.ext_toList ?_
  show ((codes ds).drop 0).take (HT.sIx (numS ds).length (numS ds).length (some (-1)) - 0) = codes ds.dropLast
  rw [numS_len, List.drop_zero, Nat.sub_zero, List.dropLast_eq_take]
  simp only [codes, ← List.map_take]
  have e : HT.sIx ds.length ds.length (some (-1)) = ds.length - 1 := by
    unfold HT.sIx
    simp only [show (-1 : Int) < 0 by decide, if_true]
    omega
  rw [e]
theorem numS_at (ds : List Nat) (i : Nat) (hi : i < ds.length) : (numS ds).cps[i]? = some (ds[i] + 48) := by
  show ((codes ds).toArray)[i]? = _
  simp [codes, hi]
theorem numS_size (ds : List Nat) : (numS ds).cps.size = ds.length := numS_len ds

/-! heaps -/
theorem same_new {H : Hp} {p : Addr} {o : HO} (n : H p = none) : Same H (upd H p o) := fun b u e => by
  rw [upd_ne (ne_of_none e n)]
  exact e
theorem at_old {H : Hp} {p q : Addr} {o u : HO} (h : H p = some o) (n : H q = none) : upd H q u p = some o := by
  rw [upd_ne (ne_of_none h n)]
  exact h
theorem sameT {K : PySem.W.Frag} {H H' : Hp} {a : Addr} {xs : List V} (e : Same H H') (h : SqT K H a xs) : SqT K H' a xs := by
  rcases h with (h | ⟨o, h⟩) | h
  · exact .inl (.inl (e _ _ h))
  · exact .inl (.inr ⟨o, e _ _ h⟩)
  · exact .inr h
/-- what stood stands, but for what H did not know and the object at p, which is new since -/
theorem same_mut {H H' : Hp} {p : Addr} {o : HO} (s : Same H H') (n : H p = none) : Same H (upd H' p o) := fun b u e => by
  rw [upd_ne (ne_of_none e n)]
  exact s b u e
/-- the bag's list at b, its cells at c -/
def Cel (H : Hp) (b c : Addr) : Prop := ∃ x k m z : Int, H b = some (.lst [.int x, .ref c, .int k, .int m, .int z])
structure But (b : Addr) (H H' : Hp) : Prop where
  keep : ∀ p o, p ≠ b → H p = some o → H' p = some o
  cel : ∀ c, Cel H b c → Cel H' b c
instance {b : Addr} {H H' : Hp} : CoeFun (But b H H') (fun _ => ∀ p o, p ≠ b → H p = some o → H' p = some o) := ⟨But.keep⟩
theorem But.refl (b : Addr) (H : Hp) : But b H H := ⟨fun _ _ _ h => h, fun _ h => h⟩
theorem But.trans {b : Addr} {H H1 H2 : Hp} (x : But b H H1) (y : But b H1 H2) : But b H H2 := ⟨fun p o n h => y.keep p o n (x.keep p o n h), fun c h => y.cel c (x.cel c h)⟩
theorem But.of {b : Addr} {H H' : Hp} (s : Same H H') : But b H H' := ⟨fun p o _ h => s p o h, fun _ ⟨x, k, m, z, h⟩ => ⟨x, k, m, z, s _ _ h⟩⟩
theorem But.set {b c : Addr} {H : Hp} {x k m z x' k' m' z' : Int} (hb : H b = some (.lst [.int x, .ref c, .int k, .int m, .int z])) : But b H (upd H b (.lst [.int x', .ref c, .int k', .int m', .int z'])) :=
  ⟨fun p u n h => by
    rw [upd_ne n]
    exact h, fun c2 ⟨a1, a2, a3, a4, h⟩ => by
    rw [hb] at h
    have h := Option.some.inj h
    injection h with h
    injection h with h1 h
    injection h with h2 h
    injection h2 with h2
    subst h2
    exact ⟨x', k', m', z', upd_same⟩⟩
/-- the bag of draws: its cells' list and its four numbers -/
def Bag (H : Hp) (b : Addr) (n : Nat) : Prop :=
  ∃ (c : Addr) (x k m z : Int) (ns : List Int), H b = some (.lst [.int x, .ref c, .int k, .int m, .int z]) ∧ H c = some (.lst (ns.map V.int)) ∧ 0 ≤ k ∧ 0 ≤ m ∧ m ≤ (n : Int)
theorem bag_ne {H : Hp} {b c : Addr} {x k m z : Int} {ns : List Int} (hb : H b = some (.lst [.int x, .ref c, .int k, .int m, .int z])) (hc : H c = some (.lst (ns.map V.int))) : c ≠ b := by
  intro e
  subst e
  rw [hb] at hc
  have q := Option.some.inj hc
  have q2 : ([.int x, .ref c, .int k, .int m, .int z] : List V) = ns.map V.int := by injection q
  cases ns with
  | nil => simp at q2
  | cons u r => cases r with
    | nil => simp at q2
    | cons v r => simp at q2
theorem Bag.mono {H : Hp} {b : Addr} {n m : Nat} (h : Bag H b n) (l : n ≤ m) : Bag H b m := by
  obtain ⟨c, x, k, q, z, ns, h1, h2, h3, h4, h5⟩ := h
  exact ⟨c, x, k, q, z, ns, h1, h2, h3, h4, by omega⟩
theorem Bag.keep {H H' : Hp} {b : Addr} {n : Nat} (h : Bag H b n) (s : Same H H') : Bag H' b n := by
  obtain ⟨c, x, k, q, z, ns, h1, h2, h3, h4, h5⟩ := h
  exact ⟨c, x, k, q, z, ns, s _ _ h1, s _ _ h2, h3, h4, h5⟩
theorem Cel.uniq {H : Hp} {b c d : Addr} (h : Cel H b c) (g : Cel H b d) : c = d := by
  obtain ⟨x, k, m, z, h⟩ := h
  obtain ⟨x', k', m', z', g⟩ := g
  rw [h] at g
  have g := Option.some.inj g
  injection g with g
  injection g with g1 g
  injection g with g2 g
  injection g2
theorem But.put {b D : Addr} {H H' : Hp} {o : HO} (e : But b H H') (n : H D = none) : But b H (upd H' D o) := by
  refine ⟨fun p u pb h => ?_, fun c h => ?_⟩
  · rw [upd_ne (ne_of_none h n)]
    exact e.keep p u pb h
  · have h0 := h
    obtain ⟨x, k, m, z, h⟩ := h
    obtain ⟨x', k', m', z', g⟩ := e.cel c h0
    exact ⟨x', k', m', z', by rw [upd_ne (ne_of_none h n)]; exact g⟩
theorem Bag.put {b D : Addr} {H H' : Hp} {o : HO} {n m : Nat} (bag : Bag H b n) (f : H D = none) (e : But b H H') (bag2 : Bag H' b m) : Bag (upd H' D o) b m := by
  obtain ⟨c, x, k, q, z, ns, h1, h2, h3, h4, h5⟩ := bag
  obtain ⟨c', x', k', q', z', ns', g1, g2, g3, g4, g5⟩ := bag2
  have ec : c = c' := Cel.uniq (e.cel c ⟨x, k, q, z, h1⟩) ⟨x', k', q', z', g1⟩
  subst ec
  exact ⟨c, x', k', q', z', ns', by rw [upd_ne (ne_of_none h1 f)]; exact g1, by rw [upd_ne (ne_of_none h2 f)]; exact g2, g3, g4, g5⟩
end Wm
namespace Wm
open PySem L2
theorem yesT {σ : L2.St} {H : Hp} {A B : Hp → Prop} (h : A H) : tYes σ H (fun b H3 => if b = true then A H3 else B H3) := by
  show (if true = true then A H else B H)
  rw [if_pos rfl]
  exact h
end Wm

/-! row[::2] of a list or a tuple; a loop over a list or a tuple. -/
namespace Hf
open PySem PySem.Spec PyProof.Rows L2
def ev2 {α : Type} : List α → List α
  | [] => []
  | [x] => [x]
  | x :: _ :: r => x :: ev2 r
theorem ev2_le {α : Type} : ∀ xs : List α, (ev2 xs).length ≤ xs.length
  | [] => Nat.le_refl _
  | [_] => Nat.le_refl _
  | x :: y :: r => by
    have ih := ev2_le r
    show (ev2 r).length + 1 ≤ r.length + 2
    omega
theorem ev2_mem {α : Type} {z : α} : ∀ {xs : List α}, z ∈ ev2 xs → z ∈ xs
  | [], h => h
  | [_], h => h
  | x :: y :: r, h => by
    rcases List.mem_cons.mp h with e | e
    · rw [e]; simp
    · exact List.mem_cons_of_mem _ (List.mem_cons_of_mem _ (ev2_mem e))
theorem ev2_map {α β : Type} (f : α → β) : ∀ xs : List α, ev2 (xs.map f) = (ev2 xs).map f
  | [] => rfl
  | [_] => rfl
  | x :: y :: r => by
    show f x :: ev2 (r.map f) = f x :: (ev2 r).map f
    rw [ev2_map f r]
theorem ev2_pick {α : Type} : ∀ xs : List α, (List.range ((xs.length + 1) / 2)).filterMap (fun k => xs[2 * k]?) = ev2 xs
  | [] => by simp [ev2]
  | [x] => by
    rw [show ([x].length + 1) / 2 = 1 by simp, show List.range 1 = [0] by decide]
    simp [ev2]
  | x :: y :: r => by
    have ih := ev2_pick r
    have e : ((x :: y :: r).length + 1) / 2 = (r.length + 1) / 2 + 1 := by
      show (r.length + 1 + 1 + 1) / 2 = _
      omega
    rw [e, List.range_succ_eq_map, List.filterMap_cons]
    show x :: _ = x :: ev2 r
    rw [List.filterMap_map, ← ih]
    rfl
theorem ev2_vals : ∀ {xs : List V} {us : List Value}, Vals xs us → Vals (ev2 xs) (ev2 us)
  | [], _, h => by cases h; exact .nil
  | [x], _, h => by
    cases h with
    | cons a b =>
      cases b
      exact .cons a .nil
  | x :: y :: r, _, h => by
    cases h with
    | cons a b =>
      cases b with
      | cons c d => exact .cons a (ev2_vals d)
theorem pick2 (items : Array Value) : slicePick items none none (some 2) = (ev2 items.toList).toArray := by
  have e := ev2_pick items.toList
  unfold slicePick
  have b : sliceBounds none none (some 2) items.size = (0, (items.size : Int), 2) := by
    first
    | rfl
    | simp [sliceBounds]
  rw [b]
  show ((sliceRange 0 (items.size : Int) 2).filterMap (items[·]?)).toArray = _
  have r : sliceRange 0 (items.size : Int) 2 = (List.range ((items.size + 1) / 2)).map fun k => 2 * k := by
    unfold sliceRange
    have h1 : (2 : Int) > 0 := by decide
    by_cases h : (0 : Int) < (items.size : Int)
    · have e : ((items.size : Int) - 0 + 2 - 1) / 2 = (((items.size + 1) / 2 : Nat) : Int) := by omega
      simp only [h1, if_true, h, e, Int.toNat_natCast]
      apply List.map_congr_left
      intro k _
      omega
    · have e : items.size = 0 := by omega
      simp [e]
  rw [r, List.filterMap_map]
  rw [Array.length_toList] at e
  rw [← e]
  refine congrArg List.toArray (congrArg (fun f => List.filterMap f _) (funext fun k => ?_))
  show items[2 * k]? = _
  rw [Array.getElem?_toList]
section
variable {prog : Program} {w : World} {A : Around} {E : Value → Shared → Prop} {s : Shared}
theorem places2 (n : Nat) : Builtin.Slice.slicePlaces 0 (n : Int) 2 = (n + 1) / 2 := by
  unfold Builtin.Slice.slicePlaces
  have h1 : (2 : Int) > 0 := by omega
  simp only [h1, if_true]
  split <;> omega
theorem adjust2 (n : Nat) : Builtin.Slice.sliceAdjust none none 2 (n : Int) = (0, (n : Int)) := by
  have h1 : ¬ ((2 : Int) < 0) := by omega
  unfold Builtin.Slice.sliceAdjust
  simp only [h1, if_false]
theorem sliceApplied2 {sl : Addr} {t : Tok} {n : Nat} {Q : Int × Int × Nat → Shared → Prop} (hs : s.heap.IsSliceOf sl .none .none (.int 2 t))
    (h : Q (0, 2, (n + 1) / 2) s) : wpAny (model prog w) A (Builtin.Slice.sliceApplied (.ref sl) (pure (n : Int))) Q E s := by
  obtain ⟨os, hos, hcs, hds⟩ := id hs
  unfold Builtin.Slice.sliceApplied Builtin.Slice.sliceFields
  refine wpAny_bind (wpAny_bind (wpAny_field hos hds (x := .none) rfl (wpAny_bind (wpAny_field hos hds (x := .none) rfl (wpAny_bind (wpAny_field hos hds (x := .int 2 t) rfl (wpAny_pure ?_)))))))
  refine wpAny_bind (slicePart_int ?_)
  show wpAny _ _ (if ((2 : Int) == 0) = true then _ else _) _ _ s
  rw [if_neg (by decide)]
  refine wpAny_bind (HT.slicePart_ .none (wpAny_bind (HT.slicePart_ .none (wpAny_bind (wpAny_pure ?_)))))
  show wpAny _ _ (match Builtin.Slice.sliceAdjust none none 2 (n : Int) with | (lo, hi) => pure (lo, (2 : Int), Builtin.Slice.slicePlaces lo hi 2)) _ _ s
  rw [adjust2 n]
  show wpAny _ _ (pure ((0 : Int), (2 : Int), Builtin.Slice.slicePlaces (0 : Int) (n : Int) 2)) _ _ s
  rw [places2]
  exact wpAny_pure h
theorem pick2t (xs : Array Value) : ((List.range ((xs.size + 1) / 2)).filterMap fun (m : Nat) => xs[((0 : Int) + (m : Int) * 2).toNat]?).toArray = (ev2 xs.toList).toArray := by
  have e : (fun (m : Nat) => xs[((0 : Int) + (m : Int) * 2).toNat]?) = fun m => xs.toList[2 * m]? := by
    funext m
    have : ((0 : Int) + (m : Int) * 2).toNat = 2 * m := by omega
    rw [this, Array.getElem?_toList]
  rw [e, ← ev2_pick xs.toList, Array.length_toList]
theorem getItem_tuple_2 {t sl : Addr} {tk : Tok} {items : Array Value} {Q : Value → Shared → Prop} (ht : IsTup s.heap t items) (hs : s.heap.IsSliceOf sl .none .none (.int 2 tk))
    (h : Q (.ref s.heap.objs.size) { s with heap := s.heap.push { cls := .type "tuple", data := .seq (ev2 items.toList).toArray } })
    (hsz : items.size ≤ sizeLine) : wpAny (model prog w) A (getItem (.ref t) (.ref sl)) Q E s := by
  have htake : sizeOk (.seq (ev2 items.toList).toArray) := by
    show (ev2 items.toList).toArray.size ≤ sizeLine
    rw [List.size_toArray]
    exact Nat.le_trans (ev2_le items.toList) (by rw [Array.length_toList]; exact hsz)
  obtain ⟨os, hos, hcs, hds⟩ := id hs
  have hTs : s.TypeIs (.ref sl) "slice" := ⟨os, hos, hcs⟩
  unfold getItem
  try with_reducible refine wpAny_holding ?_
  first | refine wpAny_bind (wpAny_pure ?_) | skip
  refine wpAny_bind (wpAny_sequenceKey ht.typeIs (by decide) ?_)
  refine wpAny_bind (wpAny_callSpecial?_slot (name := Str.ofString "__getitem__") ht.typeIs PyProof.Rows.slot_tuple_getitem
    (wpAny_call_entry PyProof.Rows.slot_tuple_getitem ht.typeIs entry_tuple_getitem ?_ (args_tuple_getitem _ _)))
  show wpAny _ _ (Builtin.Tuple.tupleItemsOf (.ref t) >>= _) _ _ s
  refine wpAny_bind (tupleItemsOf_ ht ?_)
  refine wpAny_bind (wpAny_typeOf hTs ?_)
  rw [if_pos (by decide)]
  refine wpAny_bind (sliceApplied2 hs ?_)
  have hno : ¬ (((0 : Int) == 0 && (2 : Int) == 1 && ((items.size + 1) / 2) == items.size) = true) := by
    intro q
    rw [Bool.and_eq_true, Bool.and_eq_true] at q
    exact absurd q.1.2 (by decide)
  show wpAny _ _ (if ((0 : Int) == 0 && (2 : Int) == 1 && ((items.size + 1) / 2) == items.size) = true then _ else _) _ _ s
  rw [if_neg hno, pick2t]
  first
    | exact wpAny_bind (m := Builtin.Tuple.tupleExact _) (wpAny_newObj_type (wpAny_pure ⟨_, rfl, wpAny_pure h⟩) htake)
    | exact wpAny_bind (m := Builtin.Tuple.tupleExact _) (wpAny_newObj_type (wpAny_bind (wpAny_pure (wpAny_pure ⟨_, rfl, wpAny_pure h⟩))) htake)
    | exact wpAny_bind (wpAny_bind (m := Builtin.Tuple.tupleExact _) (wpAny_newObj_type (wpAny_pure (wpAny_pure ⟨_, rfl, wpAny_pure h⟩)) htake))
    | exact wpAny_bind (wpAny_bind (m := Builtin.Tuple.tupleExact _) (wpAny_newObj_type (wpAny_pure ⟨_, rfl, wpAny_pure h⟩) htake))
end
section
variable {X : Cx}
def tHalf (K : PySem.W.Frag) (te : TE) : TE := fun σ H Q => te σ H fun x H1 => ∃ a xs, x = .ref a ∧ (SqL K H1 a xs ∨ SqT K H1 a xs) ∧
  ∀ p H2, (∀ b o, H1 b = some o → H2 b = some o) → H1 p = none → (SqL K H2 p (ev2 xs) ∨ SqT K H2 p (ev2 xs)) → Q (.ref p) H2
theorem new_same {H : Hp} {p : Addr} {o : HO} (n : H p = none) : ∀ b u, H b = some u → upd H p o b = some u := fun b u e => by
  rw [upd_ne (ne_of_none e n)]
  exact e
theorem pe_half {e : Expr} {te : TE} {k : Nat} {p1 p3 pos : Pos} (he : PE X e te) : PE X (.Subscript e (.Slice none none (some (.Constant (.int 2) k p1)) p3) pos) (tHalf X.K te) := by
  refine ⟨fun pins s σ H Q I h => ?_⟩
  refine Subscript_ (thn (he.run pins s σ H _ I h) fun v s1 ⟨x, H1, I1, r1, q1⟩ => ?_)
  obtain ⟨a, xs, ex, hq, q⟩ := q1
  subst ex
  cases r1
  have hst : PO X (some (.Constant (.int 2) k p1)) (tPart (tC (.int 2))) := po_some pe_int
  refine wpAny_Slice (thn (po_none.run pins s1 σ H1 (fun o H2 => o = none ∧ H2 = H1) I1 ⟨rfl, rfl⟩) fun vl s2 ⟨l, H2, I2, pl, el, e2⟩ => ?_)
  subst el e2
  refine thn (po_none.run pins s2 σ H2 (fun o H3 => o = none ∧ H3 = H2) I2 ⟨rfl, rfl⟩) fun vu s3 ⟨u, H3, I3, pu, eu, e3⟩ => ?_
  subst eu e3
  refine thn (hst.run pins s3 σ H3 (fun o H4 => o = some 2 ∧ H4 = H3) I3 ⟨2, rfl, rfl, rfl⟩) fun vs s4 ⟨o, H4, I4, ps, eo, e4⟩ => ?_
  subst eo e4
  have I5 : Inv X pins σ H4 { s4 with heap := s4.heap.push { cls := .type "slice", data := .fields #[vl, vu, vs] } } := I4.kept (t' := s4.toks) fun b ob q => Heap.get?_push_of_some _ q
  rcases hq with hx | hx
  · obtain ⟨its, r, ht, hz⟩ := I5.list hx
    have hlen := r.length
    show wpAny (model X.prog X.w) X.A (subscriptTail e (.Slice none none (some (.Constant (.int 2) k p1)) p3) (.ref a) (.ref s4.heap.objs.size)) (EP X pins σ Q) X.xe { s4 with heap := s4.heap.push { cls := .type "slice", data := .fields #[vl, vu, vs] } }
    refine tail_any (ops := [.ref a, .ref s4.heap.objs.size]) ht.isList.typeIs (PySem.slot_list_getitem.lookup) ?_ (by with_unfolding_all rfl)
    refine wpAny_getItem_list_slice ht.isList (Heap.IsSliceOf.new _ vl vu vs) pl pu ps (by decide) ?_ (by rw [List.size_toArray]; omega)
    rw [pick2]
    refine ⟨.ref _, _, I5.laid (t' := s4.toks) (o := .lst (ev2 xs)) (fun b ob q => Heap.get?_push_of_some _ q) (Nat.le_refl _) ?_, rfl, q _ _ (new_same (I5.hok.fresh (Nat.le_refl _))) (I5.hok.fresh (Nat.le_refl _)) (.inl (SqL.of upd_same))⟩
    exact ⟨Nat.le_trans (ev2_le xs) hz, _, 0, ev2_vals r, Heap.get?_push_size _ rfl⟩
  · obtain ⟨its, r, ht, hz⟩ := I5.tuple hx
    have hlen := r.length
    cases pl
    cases pu
    cases ps
    show wpAny (model X.prog X.w) X.A (subscriptTail e (.Slice none none (some (.Constant (.int 2) k p1)) p3) (.ref a) (.ref s4.heap.objs.size)) (EP X pins σ Q) X.xe { s4 with heap := s4.heap.push { cls := .type "slice", data := .fields #[Value.none, Value.none, .int 2 _] } }
    refine tail_any (ops := [.ref a, .ref s4.heap.objs.size]) ht.typeIs (PyProof.Rows.slot_tuple_getitem.lookup) ?_ (by with_unfolding_all rfl)
    refine getItem_tuple_2 ht (Heap.IsSliceOf.new _ _ _ _) ?_ (by rw [List.size_toArray]; omega)
    refine ⟨.ref _, _, I5.laid (t' := s4.toks) (o := .tup (ev2 xs)) (fun b ob q => Heap.get?_push_of_some _ q) (Nat.le_refl _) ?_, rfl, q _ _ (new_same (I5.hok.fresh (Nat.le_refl _))) (I5.hok.fresh (Nat.le_refl _)) (.inr (SqT.of upd_same))⟩
    exact ⟨Nat.le_trans (ev2_le xs) hz, _, ev2_vals r, IsTup.new _ _⟩
theorem keepL {K : PySem.W.Frag} {H H' : Hp} {a : Addr} {xs : List V} (e : Same H H') (h : SqL K H a xs) : SqL K H' a xs := by
  rcases h with (h | ⟨o, h⟩) | h
  · exact .inl (.inl (e _ _ h))
  · exact .inl (.inr ⟨o, e _ _ h⟩)
  · exact .inr h
theorem keepT {K : PySem.W.Frag} {H H' : Hp} {a : Addr} {xs : List V} (e : Same H H') (h : SqT K H a xs) : SqT K H' a xs := by
  rcases h with (h | ⟨o, h⟩) | h
  · exact .inl (.inl (e _ _ h))
  · exact .inl (.inr ⟨o, e _ _ h⟩)
  · exact .inr h
def iSeq (K : PySem.W.Frag) (tl : TE) : TI := fun σ H R => tl σ H fun x H1 => ∃ a xs, x = .ref a ∧ (SqL K H1 a xs ∨ SqT K H1 a xs) ∧
  ∀ J G, Walk J xs.length G (YAt xs) → (∀ H', Same H1 H' → G H') → R J H1
theorem pi_seq {tg l : Expr} {tl : TE} (hl : PE X l tl) : PI X tg l (iSeq X.K tl) := by
  refine ⟨fun pins s σ H R I h => ?_⟩
  refine thn (hl.run pins s σ H _ I h) fun v s1 ⟨x, H1, I1, r1, q1⟩ => ?_
  obtain ⟨a, xs, e, hq, q⟩ := q1
  subst e
  cases r1
  rcases hq with hq | hq
  · have q := q _ _ walk_list fun H' s => keepL s hq
    obtain ⟨its, rv, p, hz⟩ := I1.list hq
    refine wpAny_pyIter_list p.isList ?_
    refine ⟨s1.heap.objs.size, [s1.heap.objs.size], _, _, H1, rfl, I1.kept (t' := s1.toks) fun b o e => Heap.get?_push_of_some _ e, turn_list a _, ⟨_, Heap.get?_push_size _ rfl, rfl, rfl⟩, fun b hb => ?_, q⟩
    have e : b = s1.heap.objs.size := by simpa using hb
    subst e
    exact I1.fpOk (Nat.le_refl _) (I1.hok.fresh (Nat.le_refl _))
  · have q := q _ _ walk_tup fun H' s => keepT s hq
    obtain ⟨its, rv, p, hz⟩ := I1.tuple hq
    refine wpAny_pyIter_tuple (show s1.heap.IsTuple a its.toArray from p) ?_
    refine ⟨s1.heap.objs.size, [s1.heap.objs.size], _, _, H1, rfl, I1.kept (t' := s1.toks) fun b o e => Heap.get?_push_of_some _ e, turn_tuple a _, ⟨_, Heap.get?_push_size _ rfl, rfl, rfl⟩, fun b hb => ?_, q⟩
    have e : b = s1.heap.objs.size := by simpa using hb
    subst e
    exact I1.fpOk (Nat.le_refl _) (I1.hok.fresh (Nat.le_refl _))
end
end Hf

/-! Rows read back: strokes, steps, groups. -/
namespace Wm
open PySem L2 TL
/-- the rows of the first digits, without the two ticks at the end -/
def pre : List Nat → List Int
  | [] => []
  | d :: ds => blk d ++ ([0, 0] ++ pre ds)
theorem pre_app : ∀ (ds : List Nat) (d : Nat), pre (ds ++ [d]) = pre ds ++ (blk d ++ [0, 0])
  | [], d => by show blk d ++ ([0, 0] ++ []) = [] ++ _; simp
  | e :: ds, d => by
    show blk e ++ ([0, 0] ++ pre (ds ++ [d])) = (blk e ++ ([0, 0] ++ pre ds)) ++ _
    rw [pre_app ds d]
    simp only [List.append_assoc]
theorem pre_row : ∀ ds : List Nat, pre ds ++ [0, 0] = rowL ds
  | [] => rfl
  | d :: ds => by
    show (blk d ++ ([0, 0] ++ pre ds)) ++ _ = blk d ++ ([0, 0] ++ rowL ds)
    rw [← pre_row ds]
    simp only [List.append_assoc]
theorem blk_V (d : Nat) : (List.replicate d [V.int 1, V.int 0]).flatten = (blk d).map V.int := by
  unfold blk
  rw [List.map_flatten, List.map_replicate]
  rfl
theorem pre_le : ∀ ds : List Nat, (∀ d ∈ ds, d ≤ 9) → (pre ds).length ≤ 20 * ds.length
  | [], _ => by decide
  | d :: ds, h => by
    have ih := pre_le ds fun y m => h y (List.mem_cons_of_mem _ m)
    have hd := h d (by simp)
    show (blk d ++ ([0, 0] ++ pre ds)).length ≤ _
    rw [List.length_append, List.length_append, blk_len]
    simp only [List.length_cons, List.length_nil]
    omega
theorem take_succ_app {α : Type} {l : List α} {i : Nat} {x : α} (h : l[i]? = some x) : l.take (i + 1) = l.take i ++ [x] := by
  rw [List.take_add_one, h]
  rfl
theorem take_succ_map {α β : Type} {l : List α} {i : Nat} {x : α} (f : α → β) (h : l[i]? = some x) : (l.take i).map f ++ [f x] = (l.take (i + 1)).map f := by
  rw [take_succ_app h, List.map_append]
  rfl
theorem row_sum : ∀ ds : List Nat, (rowL ds).length = 2 * (ds.sum + ds.length + 1)
  | [] => rfl
  | d :: ds => by
    have ih := row_sum ds
    show (blk d ++ ([0, 0] ++ rowL ds)).length = _
    rw [List.length_append, List.length_append, blk_len, ih, List.sum_cons]
    simp only [List.length_cons, List.length_nil]
    omega
theorem row_le (ds : List Nat) (N : Num ds) : (rowL ds).length ≤ 100 := by
  have h := rowL_le ds fun d m => (N.dig d m).2
  have l := N.len
  omega
theorem row_bits : ∀ (ds : List Nat) (z : Int), z ∈ rowL ds → z = 0 ∨ z = 1
  | [], z, h => by
    have h : z ∈ [0, 0] := h
    simp only [List.mem_cons, List.not_mem_nil, or_false, or_self] at h
    exact .inl h
  | d :: ds, z, h => by
    have h : z ∈ blk d ++ ([0, 0] ++ rowL ds) := h
    rw [List.mem_append, List.mem_append] at h
    rcases h with h | h | h
    · obtain ⟨l, hl, hz⟩ := List.mem_flatten.mp h
      rw [(List.mem_replicate.mp hl).2] at hz
      simp only [List.mem_cons, List.not_mem_nil, or_false] at hz
      exact hz.symm
    · simp only [List.mem_cons, List.not_mem_nil, or_false, or_self] at h
      exact .inl h
    · exact row_bits ds z h
/-! strokes -/
def ones : Nat → List Int → List Nat
  | _, [] => []
  | o, x :: xs => if x = 1 then o :: ones (o + 1) xs else ones (o + 1) xs
theorem ones_app : ∀ (a : List Int) (o : Nat) (b : List Int), ones o (a ++ b) = ones o a ++ ones (o + a.length) b
  | [], o, b => rfl
  | x :: a, o, b => by
    have ih := ones_app a (o + 1) b
    have e : o + (x :: a).length = o + 1 + a.length := by rw [List.length_cons]; omega
    rw [e]
    show (if x = 1 then o :: ones (o + 1) (a ++ b) else ones (o + 1) (a ++ b)) = (if x = 1 then o :: ones (o + 1) a else ones (o + 1) a) ++ _
    rw [ih]
    by_cases c : x = 1
    · rw [if_pos c, if_pos c]; rfl
    · rw [if_neg c, if_neg c]
theorem ones_mem : ∀ (xs : List Int) (o k : Nat), k ∈ ones o xs ↔ ∃ j, k = o + j ∧ xs[j]? = some 1
  | [], o, k => by simp [ones]
  | x :: xs, o, k => by
    have ih := ones_mem xs (o + 1) k
    show k ∈ (if x = 1 then o :: ones (o + 1) xs else ones (o + 1) xs) ↔ _
    constructor
    · intro h
      by_cases c : x = 1
      · rw [if_pos c] at h
        rcases List.mem_cons.mp h with e | e
        · exact ⟨0, by omega, by rw [c]; rfl⟩
        · obtain ⟨j, e1, e2⟩ := ih.mp e
          exact ⟨j + 1, by omega, by simpa using e2⟩
      · rw [if_neg c] at h
        obtain ⟨j, e1, e2⟩ := ih.mp h
        exact ⟨j + 1, by omega, by simpa using e2⟩
    · rintro ⟨j, e1, e2⟩
      cases j with
      | zero =>
        have c : x = 1 := Option.some.inj e2
        rw [if_pos c]
        exact List.mem_cons.mpr (.inl (by omega))
      | succ j =>
        have m : k ∈ ones (o + 1) xs := ih.mpr ⟨j, by omega, by simpa using e2⟩
        by_cases c : x = 1
        · rw [if_pos c]; exact List.mem_cons_of_mem _ m
        · rw [if_neg c]; exact m
theorem ones_blk (o d : Nat) : ones o (blk (d + 1)) = ones o (blk d) ++ [o + 2 * d] := by
  rw [blk_add, ones_app, blk_len]
  rfl
theorem ones_end (a : List Int) (o : Nat) : ones o (a ++ [0, 0]) = ones o a := by
  rw [ones_app]
  show ones o a ++ [] = _
  rw [List.append_nil]
theorem step2 (s : List Nat) (d : Nat) : ones 0 (pre s ++ blk (d + 1)) = ones 0 (pre s ++ blk d) ++ [(pre s).length + 2 * d] := by
  rw [ones_app, ones_app, ones_blk, List.append_assoc, Nat.zero_add]
theorem step4 (s : List Nat) (d : Nat) : ones 0 (pre (s ++ [d]) ++ blk 1) = ones 0 (pre s ++ blk d) ++ [(pre s).length + 2 * d + 2] := by
  rw [ones_app, pre_app, ← List.append_assoc, ones_end]
  have e : ((pre s ++ blk d) ++ ([0, 0] : List Int)).length = (pre s).length + 2 * d + 2 := by
    rw [List.length_append, List.length_append, blk_len]
    rfl
  rw [e, Nat.zero_add]
  rfl
theorem ones_row (s : List Nat) (d : Nat) : ones 0 (rowL (s ++ [d])) = ones 0 (pre s ++ blk d) := by
  rw [← pre_row, pre_app, ← List.append_assoc, ones_end, ones_end]
theorem ones_inj {ds es : List Nat} (h1 : ∀ d ∈ ds, 1 ≤ d) (h2 : ∀ e ∈ es, 1 ≤ e) (h : ones 0 (rowL ds) = ones 0 (rowL es)) : ds = es := by
  rcases rows_part ds es h1 h2 with q | ⟨k, q, _⟩ | ⟨k, q, _⟩
  · exact q
  · have m : k ∈ ones 0 (rowL ds) := (ones_mem _ _ _).mpr ⟨k, by omega, q.one⟩
    rw [h] at m
    obtain ⟨j, e1, e2⟩ := (ones_mem _ _ _).mp m
    rw [show j = k by omega, q.two] at e2
    cases e2
  · have m : k ∈ ones 0 (rowL es) := (ones_mem _ _ _).mpr ⟨k, by omega, q.two⟩
    rw [← h] at m
    obtain ⟨j, e1, e2⟩ := (ones_mem _ _ _).mp m
    rw [show j = k by omega, q.one] at e2
    cases e2
def St (l : List Nat) : Prop := ∀ (k a b : Nat), l[k]? = some a → l[k + 1]? = some b → b = a + 2 ∨ b = a + 4
theorem St.cons {x : Nat} {l : List Nat} (h : ∀ y, l.head? = some y → y = x + 2 ∨ y = x + 4) (s : St l) : St (x :: l) := by
  intro k a b e1 e2
  cases k with
  | zero =>
    have e : x = a := Option.some.inj e1
    subst e
    refine h b ?_
    rw [List.head?_eq_getElem?]
    exact e2
  | succ k => exact s k a b (by simpa using e1) (by simpa using e2)
theorem steps_blk {l : List Int} (hl : ∀ o, St (ones o l) ∧ ∀ y, (ones o l).head? = some y → y = o) : ∀ (d o : Nat), St (ones o (blk d ++ ([0, 0] ++ l))) ∧ ∀ y, (ones o (blk d ++ ([0, 0] ++ l))).head? = some y → (y = o ∨ y = o + 2)
  | 0, o => by
    have h := hl (o + 2)
    exact ⟨h.1, fun y e => .inr (h.2 y e)⟩
  | d + 1, o => by
    have ih := steps_blk hl d (o + 2)
    have e : ones o (blk (d + 1) ++ ([0, 0] ++ l)) = o :: ones (o + 2) (blk d ++ ([0, 0] ++ l)) := by
      rw [blk_succ]
      rfl
    rw [e]
    refine ⟨ih.1.cons fun y q => ?_, fun y q => .inl (Option.some.inj q).symm⟩
    rcases ih.2 y q with z | z
    · exact .inl z
    · exact .inr (by omega)
theorem steps_row : ∀ (es : List Nat), (∀ d ∈ es, 1 ≤ d) → ∀ o, St (ones o (rowL es)) ∧ ∀ y, (ones o (rowL es)).head? = some y → y = o
  | [], _, o => ⟨fun k a b (e : (none : Option Nat) = some a) => (by cases e), fun y (e : (none : Option Nat) = some y) => by cases e⟩
  | d :: es, h, o => by
    have ih := steps_row es fun y m => h y (List.mem_cons_of_mem _ m)
    obtain ⟨f, rfl⟩ : ∃ f, d = f + 1 := ⟨d - 1, by have := h d (by simp); omega⟩
    have q := steps_blk ih (f + 1) o
    refine ⟨q.1, fun y e => ?_⟩
    have e' : ones o (rowL ((f + 1) :: es)) = o :: ones (o + 2) (blk f ++ ([0, 0] ++ rowL es)) := by
      show ones o (blk (f + 1) ++ _) = _
      rw [blk_succ]
      rfl
    rw [e'] at e
    exact (Option.some.inj e).symm
theorem first_row (d : Nat) (es : List Nat) (h : 1 ≤ d) : (ones 0 (rowL (d :: es)))[0]? = some 0 := by
  obtain ⟨f, rfl⟩ : ∃ f, d = f + 1 := ⟨d - 1, by omega⟩
  show (ones 0 (blk (f + 1) ++ _))[0]? = _
  rw [blk_succ]
  rfl
/-! groups -/
def gaps : List Int → List Nat
  | [] => [0]
  | z :: zs => if z = 1 then (match gaps zs with | [] => [1] | g :: gs => (g + 1) :: gs) else 0 :: gaps zs
theorem gaps_ne : ∀ zs, gaps zs ≠ []
  | [] => by simp [gaps]
  | z :: zs => by
    show (if z = 1 then (match gaps zs with | [] => [1] | g :: gs => (g + 1) :: gs) else 0 :: gaps zs) ≠ []
    by_cases c : z = 1
    · rw [if_pos c]
      split <;> simp
    · rw [if_neg c]; simp
def bits (zs : List Int) : List Nat := zs.map fun z => if z = 1 then 49 else 48
theorem joinL_cons {s : List Nat} {p : List Nat} {ps : List (List Nat)} (h : ps ≠ []) : joinL s (p :: ps) = p ++ (s ++ joinL s ps) := by
  cases ps with
  | nil => exact absurd rfl h
  | cons q r => rfl
theorem joinL_one (s p : List Nat) : joinL s [p] = p := rfl
theorem map_ne {α β : Type} {f : α → β} {l : List α} (h : l ≠ []) : l.map f ≠ [] := fun e => h (List.map_eq_nil_iff.mp e)
theorem gaps_join : ∀ zs, bits zs = joinL [48] ((gaps zs).map fun g => List.replicate g 49)
  | [] => rfl
  | z :: zs => by
    have ih := gaps_join zs
    have ne := gaps_ne zs
    show (if z = 1 then 49 else 48) :: bits zs = joinL [48] ((if z = 1 then (match gaps zs with | [] => [1] | g :: gs => (g + 1) :: gs) else 0 :: gaps zs).map _)
    by_cases c : z = 1
    · rw [if_pos c, if_pos c]
      cases e : gaps zs with
      | nil => exact absurd e ne
      | cons g gs =>
        rw [e] at ih
        rw [ih]
        cases gs with
        | nil => rfl
        | cons g2 gs => rfl
    · rw [if_neg c, if_neg c, List.map_cons, joinL_cons (map_ne ne), ← ih]
      rfl
theorem gaps_sum : ∀ zs, (gaps zs).sum ≤ zs.length ∧ (gaps zs).length ≤ zs.length + 1
  | [] => by decide
  | z :: zs => by
    have ih := gaps_sum zs
    show (if z = 1 then (match gaps zs with | [] => [1] | g :: gs => (g + 1) :: gs) else 0 :: gaps zs).sum ≤ zs.length + 1 ∧ (if z = 1 then (match gaps zs with | [] => [1] | g :: gs => (g + 1) :: gs) else 0 :: gaps zs).length ≤ zs.length + 1 + 1
    by_cases c : z = 1
    · rw [if_pos c]
      cases e : gaps zs with
      | nil => exact absurd e (gaps_ne zs)
      | cons g gs =>
        rw [e, List.sum_cons, List.length_cons] at ih
        show ((g + 1) :: gs).sum ≤ _ ∧ ((g + 1) :: gs).length ≤ _
        rw [List.sum_cons, List.length_cons]
        omega
    · rw [if_neg c, List.sum_cons, List.length_cons]
      omega
theorem mem_sum {g : Nat} : ∀ {l : List Nat}, g ∈ l → g ≤ l.sum
  | a :: l, h => by
    rw [List.sum_cons]
    rcases List.mem_cons.mp h with e | e
    · omega
    · have := mem_sum e
      omega
theorem gaps_le {zs : List Int} {g : Nat} (h : g ∈ gaps zs) : g ≤ zs.length := by
  have h1 := (gaps_sum zs).1
  have h2 : g ≤ (gaps zs).sum := mem_sum h
  omega
theorem ev2_row : ∀ ds, Hf.ev2 (rowL ds) = (match ds with | [] => [0] | d :: r => List.replicate d 1 ++ (0 :: Hf.ev2 (rowL r)))
  | [] => rfl
  | d :: r => by
    show Hf.ev2 (blk d ++ ([0, 0] ++ rowL r)) = List.replicate d 1 ++ (0 :: Hf.ev2 (rowL r))
    induction d with
    | zero => rfl
    | succ d ih =>
      rw [blk_succ, List.replicate_succ]
      show (1 : Int) :: Hf.ev2 (blk d ++ ([0, 0] ++ rowL r)) = _
      rw [ih]
      rfl
theorem gaps_rep (l : List Int) (d : Nat) : gaps (List.replicate d 1 ++ (0 :: l)) = d :: gaps l := by
  induction d with
  | zero => rfl
  | succ d ih =>
    rw [List.replicate_succ]
    show (if (1 : Int) = 1 then (match gaps (List.replicate d 1 ++ (0 :: l)) with | [] => [1] | g :: gs => (g + 1) :: gs) else _) = _
    rw [if_pos rfl, ih]
theorem gaps_row : ∀ ds, gaps (Hf.ev2 (rowL ds)) = ds ++ [0, 0]
  | [] => rfl
  | d :: r => by
    rw [ev2_row]
    show gaps (List.replicate d 1 ++ (0 :: Hf.ev2 (rowL r))) = _
    rw [gaps_rep, gaps_row r]
    rfl
end Wm

/-! Ticks of bent rows as data. -/
namespace Wm
open PySem L2
inductive Tk : PyData → Prop
  | int {i : Int} : i.natAbs < 1000000 → Tk (.int i)
  | bl (b : Bool) : Tk (.bool b)
  | non : Tk .none
  | one : Tk (.str "1")
  | lst : Tk (.list [.int 0])
def Item (K : PySem.W.Frag) (H : Hp) (x : V) : Prop := ∃ d, Dp K H x d ∧ Tk d
theorem sqL_keep {K : PySem.W.Frag} {H H' : Hp} {a : Addr} {xs : List V} (e : Same H H') (h : SqL K H a xs) : SqL K H' a xs := by
  rcases h with (h | ⟨o, h⟩) | h
  · exact .inl (.inl (e _ _ h))
  · exact .inl (.inr ⟨o, e _ _ h⟩)
  · exact .inr h
theorem tk_keep {K : PySem.W.Frag} {H H' : Hp} {x : V} {d : PyData} (e : Same H H') (h : Dp K H x d) (t : Tk d) : Dp K H' x d := by
  cases t with
  | int _ => cases h; exact .int _
  | bl b => cases h; exact .bl _
  | non => cases h; exact .non
  | one => cases h; exact .str _
  | lst =>
    cases h with
    | lst q a =>
      refine .lst (sqL_keep e q) ?_
      cases a with
      | cons b c =>
        cases b
        cases c
        exact .cons (.int _) .nil
theorem Item.keep {K : PySem.W.Frag} {H H' : Hp} {x : V} (e : Same H H') (h : Item K H x) : Item K H' x := let ⟨d, a, b⟩ := h; ⟨d, tk_keep e a b, b⟩
theorem tks_keep {K : PySem.W.Frag} {H H' : Hp} (e : Same H H') : ∀ {xs : List V} {ds : List PyData}, DpAll K H xs ds → (∀ d ∈ ds, Tk d) → DpAll K H' xs ds
  | _, _, .nil, _ => .nil
  | _, _, .cons a b, t => .cons (tk_keep e a (t _ (by simp))) (tks_keep e b fun d m => t d (List.mem_cons_of_mem _ m))
theorem items_data {K : PySem.W.Frag} {H : Hp} : ∀ {xs : List V}, (∀ x ∈ xs, Item K H x) → ∃ ds, DpAll K H xs ds ∧ (∀ d ∈ ds, Tk d) ∧ ds.length = xs.length
  | [], _ => ⟨[], .nil, by simp, rfl⟩
  | x :: xs, h => by
    obtain ⟨d, a, b⟩ := h x (by simp)
    obtain ⟨ds, c1, c2, c3⟩ := items_data (xs := xs) fun y m => h y (List.mem_cons_of_mem _ m)
    refine ⟨d :: ds, .cons a c1, fun y m => ?_, by rw [List.length_cons, List.length_cons, c3]⟩
    rcases List.mem_cons.mp m with q | q
    · rw [q]; exact b
    · exact c2 y q
theorem item_int {K : PySem.W.Frag} {H : Hp} {i : Int} (h : i.natAbs < 1000000) : Item K H (.int i) := ⟨_, .int i, .int h⟩
theorem tk_lay {d : PyData} (t : Tk d) : d.canLay0 = true ∧ d.depth ≤ 1 := by
  cases t with
  | int _ => exact ⟨by simp [PyData.canLay0], by simp [PyData.depth]⟩
  | bl b => exact ⟨by simp [PyData.canLay0], by simp [PyData.depth]⟩
  | non => exact ⟨by simp [PyData.canLay0], by simp [PyData.depth]⟩
  | one => exact ⟨by decide +kernel, by simp [PyData.depth]⟩
  | lst => exact ⟨by simp [PyData.canLay0, PyData.canLayAll0], by simp [PyData.depth, PyData.depthAll]⟩
theorem tks_lay : ∀ {ds : List PyData}, (∀ d ∈ ds, Tk d) → PyData.canLayAll0 ds = true ∧ PyData.depthAll ds ≤ 1
  | [], _ => by simp [PyData.canLayAll0, PyData.depthAll]
  | d :: ds, h => by
    have h1 := tk_lay (h d (by simp))
    have h2 := tks_lay (ds := ds) fun y m => h y (List.mem_cons_of_mem _ m)
    simp only [PyData.canLayAll0, PyData.depthAll, h1.1, h2.1, Bool.and_self, true_and]
    omega
theorem tks_shaped {ds : List PyData} (h : ∀ d ∈ ds, Tk d) : SeqAt.shaped (.list ds) = true := by
  have q := tks_lay h
  have e : decide ((PyData.list ds).depth ≤ 64) = true := decide_eq_true (by simp only [PyData.depth]; omega)
  show ((PyData.list ds).canLay0 && _) = true
  rw [e, Bool.and_true]
  exact q.1
theorem tk_show {d : PyData} (t : Tk d) : d.showable = true ∧ d.hasDict = false ∧ d.leavesShort 13 = true ∧ d.weight ≤ 30 := by
  cases t with
  | @int i h =>
    have hl : i.natAbs.log2 < 20 ∨ i = 0 := by
      by_cases z : i = 0
      · exact .inr z
      · exact .inl ((Nat.log2_lt (by omega)).mpr (by omega))
    refine ⟨decide_eq_true ?_, rfl, decide_eq_true (PyData.shown_int_le (by omega)), ?_⟩
    · rcases hl with z | z
      · omega
      · subst z; decide
    · rcases hl with z | z
      · simp only [PyData.weight]; split <;> omega
      · subst z; decide
  | bl b => exact ⟨rfl, rfl, rfl, by simp [PyData.weight]⟩
  | non => exact ⟨rfl, rfl, rfl, by simp [PyData.weight]⟩
  | one => exact ⟨rfl, rfl, by decide +kernel, by decide +kernel⟩
  | lst => exact ⟨by decide +kernel, rfl, by decide +kernel, by decide +kernel⟩
theorem tks_show : ∀ {ds : List PyData}, (∀ d ∈ ds, Tk d) → PyData.showableAll ds = true ∧ PyData.hasDictAll ds = false ∧ PyData.leavesShortAll 13 ds = true ∧ PyData.weightAll ds ≤ 31 * ds.length
  | [], _ => by simp [PyData.showableAll, PyData.hasDictAll, PyData.leavesShortAll, PyData.weightAll]
  | d :: ds, h => by
    have h1 := tk_show (h d (by simp))
    have h2 := tks_show (ds := ds) fun y m => h y (List.mem_cons_of_mem _ m)
    simp only [PyData.showableAll, PyData.hasDictAll, PyData.leavesShortAll, PyData.weightAll, h1.1, h1.2.1, h1.2.2.1, h2.1, h2.2.1, h2.2.2.1, Bool.and_self, Bool.or_self, true_and, List.length_cons]
    omega
theorem tks_shown {ds : List PyData} (h : ∀ d ∈ ds, Tk d) (l : ds.length ≤ 1000) : (PyData.list ds).shown.length ≤ sizeLine :=
  PyData.shown_fits (B := 13) (by decide) (by decide) (tks_show h).2.2.1 (Nat.le_trans (tks_show h).2.2.2 (by omega))
def isI : V → Bool
  | .int _ => true
  | _ => false
def isBit (x : V) : Bool := decide (x = .int 0) || decide (x = .int 1)
theorem all_ints {xs : List V} (h : ∀ x ∈ xs, isI x = true) : ∃ zs : List Int, xs = zs.map V.int := by
  induction xs with
  | nil => exact ⟨[], rfl⟩
  | cons x xs ih =>
    obtain ⟨zs, e⟩ := ih fun y m => h y (List.mem_cons_of_mem _ m)
    have hx := h x (by simp)
    cases x with
    | int i => exact ⟨i :: zs, by rw [e]; rfl⟩
    | _ => cases hx
theorem all_bits {xs : List V} (h : ∀ x ∈ xs, isBit x = true) : ∃ zs : List Int, xs = zs.map V.int ∧ ∀ z ∈ zs, z = 0 ∨ z = 1 := by
  induction xs with
  | nil => exact ⟨[], rfl, by simp⟩
  | cons x xs ih =>
    obtain ⟨zs, e, b⟩ := ih fun y m => h y (List.mem_cons_of_mem _ m)
    have hx := h x (by simp)
    have hc : x = .int 0 ∨ x = .int 1 := by
      rcases Bool.or_eq_true_iff.mp hx with q | q
      · exact .inl (of_decide_eq_true q)
      · exact .inr (of_decide_eq_true q)
    have : ∃ i : Int, x = .int i ∧ (i = 0 ∨ i = 1) := by
      rcases hc with q | q
      · exact ⟨0, q, .inl rfl⟩
      · exact ⟨1, q, .inr rfl⟩
    obtain ⟨i, rfl, hi⟩ := this
    refine ⟨i :: zs, by rw [e]; rfl, fun z m => ?_⟩
    rcases List.mem_cons.mp m with q | q
    · rw [q]; exact hi
    · exact b z q
/-- what isinstance asks of such a tick -/
theorem tyx_of {K : PySem.W.Frag} {H : Hp} {x : V} (h : Item K H x) : ∃ (n : String) (a b : Bool), TyX K H x (.type n) ∧ PySem.W.kitOne K (.type n) (.type "int") = some a ∧
    PySem.W.kitOne K (.type n) (.type "bool") = some b ∧ (a && !b) = isI x := by
  obtain ⟨d, h, t⟩ := h
  cases t with
  | int _ => cases h; exact ⟨"int", true, false, .base (.int _), kit_ty (by decide +kernel), kit_ty (by decide +kernel), rfl⟩
  | bl b => cases h; exact ⟨"bool", true, true, .base (.bl _), kit_ty (by decide +kernel), kit_ty (by decide +kernel), rfl⟩
  | non => cases h; exact ⟨"NoneType", false, false, .base .non, kit_ty (by decide +kernel), kit_ty (by decide +kernel), rfl⟩
  | one => cases h; exact ⟨"str", false, false, .base (.str _), kit_ty (by decide +kernel), kit_ty (by decide +kernel), rfl⟩
  | lst =>
    cases h with
    | lst q a =>
      rcases q with (q | ⟨o, q⟩) | q
      · exact ⟨"list", false, false, .base (.lst q), kit_ty (by decide +kernel), kit_ty (by decide +kernel), rfl⟩
      · exact ⟨"list", false, false, .base (.frz q), kit_ty (by decide +kernel), kit_ty (by decide +kernel), rfl⟩
      · obtain ⟨o, xs, n, e, c, _⟩ := q
        exact ⟨"list", false, false, .kList e c, kit_ty (by decide +kernel), kit_ty (by decide +kernel), rfl⟩
/-- a list or a tuple -/
def SqA (K : PySem.W.Frag) (H : Hp) (a : Addr) (xs : List V) : Prop := SqL K H a xs ∨ SqT K H a xs
theorem SqA.keep {K : PySem.W.Frag} {H H' : Hp} {a : Addr} {xs : List V} (e : Same H H') (h : SqA K H a xs) : SqA K H' a xs := h.imp (sqL_keep e) (sameT e)
end Wm

/-! Texts of digits: halves, groups, the number they tell. -/
namespace Wm
open PySem L2 TL
def oneS (g : Nat) : Str := ⟨(List.replicate g 49).toArray⟩
def bitS (z : Int) : Str := if z = 1 then "1" else "0"
def decS (g : Nat) : Str := ((toString (g : Int) : String) : Str)
theorem bit_str {z : Int} (h : z = 0 ∨ z = 1) : ((toString z : String) : Str) = bitS z := by
  rcases h with e | e <;> subst e <;> decide +kernel
theorem tl_bit (z : Int) : tl (bitS z) = [if z = 1 then 49 else 48] := by
  unfold bitS
  by_cases c : z = 1
  · rw [if_pos c, if_pos c]; decide +kernel
  · rw [if_neg c, if_neg c]; decide +kernel
theorem joinL_nil : ∀ ps : List (List Nat), joinL [] ps = ps.flatten
  | [] => rfl
  | [p] => by show p = [p].flatten; simp
  | p :: q :: r => by
    show p ++ ([] ++ joinL [] (q :: r)) = _
    rw [joinL_nil (q :: r), List.nil_append]
    rfl
theorem tl_empty : tl ("" : Str) = [] := by decide +kernel
theorem tl_zero : tl ("0" : Str) = [48] := by decide +kernel
theorem tl_join0 (ys : List Str) : tl (Txt.join "" ys) = (ys.map tl).flatten := by
  rw [join_eq, tl_join, tl_empty, joinL_nil]
theorem bits_flat : ∀ zs : List Int, ((zs.map bitS).map tl).flatten = bits zs
  | [] => rfl
  | z :: zs => by
    rw [List.map_cons, List.map_cons, List.flatten_cons, bits_flat zs, tl_bit]
    rfl
theorem halves_eq (zs : List Int) : Txt.join "" (zs.map bitS) = Txt.join "0" ((gaps zs).map oneS) := by
  refine ext_tl ?_
  rw [tl_join0, bits_flat, gaps_join, join_eq, tl_join, tl_zero, List.map_map]
  rfl
theorem groups_eq (zs : List Int) : Txt.split (Txt.join "" (zs.map bitS)) "0" = (gaps zs).map oneS := by
  rw [halves_eq]
  refine split_join (s := 48) (S := []) tl_zero (by decide +kernel) (map_ne (gaps_ne zs)) fun p hp h => ?_
  obtain ⟨g, _, rfl⟩ := List.mem_map.mp hp
  have h : 48 ∈ List.replicate g 49 := h
  exact absurd (List.mem_replicate.mp h).2 (by decide)
theorem oneS_len (g : Nat) : (oneS g).length = g := by
  rw [len_tl]
  show (List.replicate g 49).length = g
  rw [List.length_replicate]
theorem halves_len (zs : List Int) : (Txt.join "" (zs.map bitS)).length = zs.length := by
  rw [len_tl, tl_join0, bits_flat]
  unfold bits
  rw [List.length_map]
theorem len4 : ∀ g : Fin 1001, (decS g.val).length ≤ 4 := by decide +kernel
theorem dec_len {g : Nat} (h : g ≤ 1000) : (decS g).length ≤ 4 := len4 ⟨g, by omega⟩
theorem dec_sum : ∀ {gs : List Nat}, (∀ g ∈ gs, g ≤ 1000) → ((gs.map decS).map (·.length)).sum ≤ 4 * gs.length
  | [], _ => by simp
  | g :: gs, h => by
    have h1 := dec_len (h g (by simp))
    have h2 := dec_sum (gs := gs) fun y m => h y (List.mem_cons_of_mem _ m)
    rw [List.map_cons, List.map_cons, List.sum_cons, List.length_cons]
    omega
theorem join0_len (ys : List Str) : (Txt.join "" ys).length = (ys.map (·.length)).sum := by
  rw [len_tl, tl_join0]
  induction ys with
  | nil => rfl
  | cons y ys ih => rw [List.map_cons, List.flatten_cons, List.length_append, ih, List.map_cons, List.sum_cons, len_tl]
theorem bit_sum (zs : List Int) : ((zs.map bitS).map (·.length)).sum = zs.length := by rw [← join0_len, halves_len]
theorem num_text : ∀ {ds : List Nat}, (∀ d ∈ ds, 1 ≤ d ∧ d ≤ 9) → Txt.join "" (ds.map decS) = numS ds
  | [], _ => by decide +kernel
  | d :: ds, h => by
    have ih := num_text (ds := ds) fun y m => h y (List.mem_cons_of_mem _ m)
    refine ext_tl ?_
    rw [tl_join0, List.map_cons, List.map_cons, List.flatten_cons, ← tl_join0, ih]
    have e : decS d = numS [d] := dig_str (h d (by simp))
    rw [e]
    rfl
/-- the number that a row of bits tells, if it is a row -/
def told (zs : List Int) : Str := Txt.join "" ((gaps (Hf.ev2 zs)).dropLast.dropLast.map decS)
theorem told_row {ds : List Nat} (h : ∀ d ∈ ds, 1 ≤ d ∧ d ≤ 9) : told (rowL ds) = numS ds := by
  unfold told
  rw [gaps_row, ← num_text h]
  congr 2
  show (ds ++ [0, 0]).dropLast.dropLast = ds
  rw [show (ds ++ [0, 0]) = (ds ++ [0]) ++ [0] by simp, List.dropLast_concat, List.dropLast_concat]
theorem digits_codes : ("123456789" : Str).cps.toList = [49, 50, 51, 52, 53, 54, 55, 56, 57] := by decide +kernel
theorem dig_text (t : Str) (h : ∀ c ∈ tl t, c ∈ ("123456789" : Str).cps.toList) : ∃ ds : List Nat, (∀ d ∈ ds, 1 ≤ d ∧ d ≤ 9) ∧ t = numS ds := by
  have h2 : ∀ c ∈ tl t, 49 ≤ c ∧ c ≤ 57 := fun c m => by
    have q := h c m
    rw [digits_codes] at q
    simp only [List.mem_cons, List.not_mem_nil, or_false] at q
    omega
  refine ⟨(tl t).map (· - 48), fun d m => ?_, ?_⟩
  · obtain ⟨c, mc, rfl⟩ := List.mem_map.mp m
    have := h2 c mc
    omega
  · refine ext_tl ?_
    show tl t = ((tl t).map (· - 48)).map (· + 48)
    rw [List.map_map]
    refine (List.map_id _).symm.trans (List.map_congr_left fun c m => ?_)
    have := h2 c m
    show c = c - 48 + 48
    omega
theorem num_codes {ds : List Nat} (h : ∀ d ∈ ds, 1 ≤ d ∧ d ≤ 9) : ∀ c ∈ tl (numS ds), c ∈ ("123456789" : Str).cps.toList := fun c m => by
  have m : c ∈ codes ds := m
  obtain ⟨d, md, rfl⟩ := List.mem_map.mp m
  exact dig_in (h d md)
def IsNum (t : Str) : Prop := ∃ ds, Num ds ∧ t = numS ds
theorem isnum_dig {ds : List Nat} : IsNum (numS ds) ↔ Num ds :=
  ⟨fun ⟨es, N, e⟩ => by rw [numS_inj e]; exact N, fun N => ⟨ds, N, rfl⟩⟩
theorem row_inj {ds es : List Nat} (N : Num ds) (M : Num es) (h : (rowL ds).map V.int = (rowL es).map V.int) : ds = es := by
  have e : rowL ds = rowL es := by
    have q := congrArg (List.map fun v => match v with | V.int i => i | _ => 0) h
    simpa [List.map_map, Function.comp_def] using q
  exact ones_inj (fun d m => (N.dig d m).1) (fun d m => (M.dig d m).1) (by rw [e])
theorem map_int_inj {xs ys : List Int} (h : xs.map V.int = ys.map V.int) : xs = ys := by
  have q := congrArg (List.map fun v => match v with | V.int i => i | _ => 0) h
  simpa [List.map_map, Function.comp_def] using q
/-- what number_of tells of a row -/
def Told (xs : List V) (v : V) : Prop := (∃ ds, Num ds ∧ xs = (rowL ds).map V.int ∧ v = .str (numS ds)) ∨ ((∀ ds, Num ds → xs ≠ (rowL ds).map V.int) ∧ v = .non)
theorem Told.uniq {xs : List V} {v u : V} (a : Told xs v) (b : Told xs u) : v = u := by
  rcases a with ⟨ds, N, e, rfl⟩ | ⟨n, rfl⟩
  · rcases b with ⟨es, M, f, rfl⟩ | ⟨n, _⟩
    · rw [row_inj N M (e.symm.trans f)]
    · exact absurd e (n ds N)
  · rcases b with ⟨es, M, f, rfl⟩ | ⟨_, rfl⟩
    · exact absurd f (n es M)
    · rfl
theorem Told.row {ds : List Nat} {v : V} (N : Num ds) (a : Told ((rowL ds).map V.int) v) : v = .str (numS ds) := a.uniq (.inl ⟨ds, N, rfl, rfl⟩)
end Wm

/-! Things as data: what may be asked whether it is a number. -/
namespace Wm
open PySem L2 TL
structure Tx (t : Str) : Prop where
  len : t.length ≤ 100
  asc : ∀ c ∈ tl t, c < 128
inductive Tg : PyData → Prop
  | int {i : Int} : i.natAbs < 1000000 → Tg (.int i)
  | bl (b : Bool) : Tg (.bool b)
  | non : Tg .none
  | str {t : Str} : Tx t → Tg (.str t)
  | lst {ts : List Str} : (∀ t ∈ ts, Tx t) → ts.length ≤ 100 → Tg (.list (ts.map .str))
  | tup {ts : List Str} : (∀ t ∈ ts, Tx t) → ts.length ≤ 100 → Tg (.tuple (ts.map .str))
structure Ob (K : PySem.W.Frag) (H : Hp) (x : V) (d : PyData) : Prop where
  dp : Dp K H x d
  tg : Tg d
theorem dp_strs {K : PySem.W.Frag} {H H' : Hp} : ∀ {xs : List V} {ts : List Str}, DpAll K H xs (ts.map PyData.str) → xs = ts.map V.str ∧ DpAll K H' (ts.map V.str) (ts.map PyData.str)
  | _, [], h => by cases h; exact ⟨rfl, .nil⟩
  | _, t :: ts, h => by
    cases h with
    | cons a b =>
      cases a
      obtain ⟨e, g⟩ := dp_strs (H' := H') (ts := ts) b
      subst e
      exact ⟨rfl, .cons (.str t) g⟩
theorem dp_strs' {K : PySem.W.Frag} {H : Hp} : ∀ ts : List Str, DpAll K H (ts.map V.str) (ts.map PyData.str)
  | [] => .nil
  | t :: ts => .cons (.str t) (dp_strs' ts)
theorem Ob.move {K : PySem.W.Frag} {H H' : Hp} {x : V} {d : PyData} (h : Ob K H x d) (f : ∀ p o, x = .ref p → H p = some o → (∀ ts : List Str, o = .lst (ts.map V.str) → H' p = some o) ∧ (∀ ts : List Str, o = .tup (ts.map V.str) → H' p = some o) ∧ (∀ ob u, o = .frz ob u → H' p = some o)) : Ob K H' x d := by
  obtain ⟨h, t⟩ := h
  cases t with
  | int q => cases h; exact ⟨.int _, .int q⟩
  | bl b => cases h; exact ⟨.bl _, .bl b⟩
  | non => cases h; exact ⟨.non, .non⟩
  | str q => cases h; exact ⟨.str _, .str q⟩
  | lst q l =>
    cases h with
    | lst s a =>
      obtain ⟨e, g⟩ := dp_strs (H' := H') a
      subst e
      refine ⟨.lst ?_ g, .lst q l⟩
      rcases s with (s | ⟨o, s⟩) | s
      · exact .inl (.inl ((f _ _ rfl s).1 _ rfl))
      · exact .inl (.inr ⟨o, (f _ _ rfl s).2.2 _ _ rfl⟩)
      · exact .inr s
  | tup q l =>
    cases h with
    | tup s a =>
      obtain ⟨e, g⟩ := dp_strs (H' := H') a
      subst e
      refine ⟨.tup ?_ g, .tup q l⟩
      rcases s with (s | ⟨o, s⟩) | s
      · exact .inl (.inl ((f _ _ rfl s).2.1 _ rfl))
      · exact .inl (.inr ⟨o, (f _ _ rfl s).2.2 _ _ rfl⟩)
      · exact .inr s
theorem Ob.keep {K : PySem.W.Frag} {H H' : Hp} {x : V} {d : PyData} (e : Same H H') (h : Ob K H x d) : Ob K H' x d :=
  h.move fun p o _ q => ⟨fun _ _ => e _ _ q, fun _ _ => e _ _ q, fun _ _ _ => e _ _ q⟩
theorem Ob.but {K : PySem.W.Frag} {H H' : Hp} {x : V} {d : PyData} {b : Addr} {n : Nat} (bag : Bag H b n) (e : But b H H') (h : Ob K H x d) : Ob K H' x d := by
  obtain ⟨c, i, k, m, z, ns, hb, _⟩ := bag
  refine h.move fun p o _ q => ?_
  by_cases pb : p = b
  · subst pb
    rw [hb] at q
    have q := Option.some.inj q
    subst q
    refine ⟨fun ts f => ?_, fun ts f => (by cases f), fun ob u f => (by cases f)⟩
    cases ts with
    | nil => simp at f
    | cons t ts => simp at f
  · exact ⟨fun _ _ => e _ _ pb q, fun _ _ => e _ _ pb q, fun _ _ _ => e _ _ pb q⟩
theorem tx_lay {t : Str} (h : Tx t) : PyData.leavesShort 13 (.str t) = true ∧ PyData.weight (.str t) ≤ 100 := by
  refine ⟨?_, h.len⟩
  show (t.cps.toList.all fun c => decide (c < 16 ^ 8)) = true
  rw [List.all_eq_true]
  intro c m
  have := h.asc c m
  exact decide_eq_true (by omega)
theorem strs_lay : ∀ {ts : List Str}, (∀ t ∈ ts, Tx t) → PyData.leavesShortAll 13 (ts.map .str) = true ∧ PyData.weightAll (ts.map .str) ≤ 101 * ts.length ∧ PyData.showableAll (ts.map .str) = true ∧ PyData.hasDictAll (ts.map .str) = false ∧ PyData.depthAll (ts.map .str) = 0 ∧ PyData.plainAll (ts.map .str) = true
  | [], _ => by simp [PyData.leavesShortAll, PyData.weightAll, PyData.showableAll, PyData.hasDictAll, PyData.depthAll, PyData.plainAll]
  | t :: ts, h => by
    have h1 := tx_lay (h t (by simp))
    have h2 := strs_lay (ts := ts) fun y m => h y (List.mem_cons_of_mem _ m)
    obtain ⟨a1, a2⟩ := h1
    obtain ⟨b1, b2, b3, b4, b5, b6⟩ := h2
    simp only [List.map_cons, PyData.leavesShortAll, PyData.weightAll, PyData.showableAll, PyData.hasDictAll, PyData.depthAll, PyData.plainAll, a1, b1, b3, b4, b5, b6, PyData.showable, PyData.hasDict, PyData.depth, PyData.plain, Bool.and_self, Bool.or_self, true_and, List.length_cons, and_true, Nat.max_self]
    omega
structure Shows (d : PyData) : Prop where
  sh : d.showable = true
  nd : d.hasDict = false
  dep : d.depth ≤ 60
  fit : d.shown.length ≤ sizeLine
theorem tg_shows {d : PyData} (t : Tg d) : Shows d := by
  cases t with
  | @int i h =>
    have hl : i.natAbs.log2 < 20 ∨ i = 0 := by
      by_cases z : i = 0
      · exact .inr z
      · exact .inl ((Nat.log2_lt (by omega)).mpr (by omega))
    refine ⟨decide_eq_true ?_, rfl, Nat.zero_le _, Nat.le_trans (PyData.shown_int_le (by omega)) (by decide)⟩
    rcases hl with z | z
    · omega
    · subst z; decide
  | bl b => exact ⟨rfl, rfl, Nat.zero_le _, by cases b <;> decide +kernel⟩
  | non => exact ⟨rfl, rfl, Nat.zero_le _, by decide +kernel⟩
  | str h =>
    have q := tx_lay h
    exact ⟨rfl, rfl, Nat.zero_le _, PyData.shown_fits (B := 13) (by decide) (by decide) q.1 (Nat.le_trans q.2 (by decide))⟩
  | lst h l =>
    obtain ⟨b1, b2, b3, b4, b5, b6⟩ := strs_lay h
    exact ⟨b3, b4, by simp only [PyData.depth, b5]; decide, PyData.shown_fits (B := 13) (by decide) (by decide) b1 (Nat.le_trans b2 (by omega))⟩
  | tup h l =>
    obtain ⟨b1, b2, b3, b4, b5, b6⟩ := strs_lay h
    exact ⟨b3, b4, by simp only [PyData.depth, b5]; decide, PyData.shown_fits (B := 13) (by decide) (by decide) b1 (Nat.le_trans b2 (by omega))⟩
/-- a number's text -/
def IsN (x : V) : Prop := ∃ ds, Num ds ∧ x = .str (numS ds)
/-- what isinstance asks of a thing: a text, or no text -/
theorem tys_of {K : PySem.W.Frag} {H : Hp} {x : V} {d : PyData} (h : Ob K H x d) : ∃ (n : String) (b : Bool), TyX K H x (.type n) ∧ PySem.W.kitOne K (.type n) (.type "str") = some b ∧ (b = true → ∃ t, x = .str t ∧ d = .str t ∧ Tx t) ∧ (b = false → ¬ IsN x) := by
  obtain ⟨h, t⟩ := h
  cases t with
  | int _ => cases h; exact ⟨"int", false, .base (.int _), kit_ty (by decide +kernel), (fun z => by cases z), fun _ ⟨ds, _, e⟩ => by cases e⟩
  | bl b => cases h; exact ⟨"bool", false, .base (.bl _), kit_ty (by decide +kernel), (fun z => by cases z), fun _ ⟨ds, _, e⟩ => by cases e⟩
  | non => cases h; exact ⟨"NoneType", false, .base .non, kit_ty (by decide +kernel), (fun z => by cases z), fun _ ⟨ds, _, e⟩ => by cases e⟩
  | str q => cases h; exact ⟨"str", true, .base (.str _), kit_ty (by decide +kernel), fun _ => ⟨_, rfl, rfl, q⟩, fun z => by cases z⟩
  | lst _ _ =>
    cases h with
    | lst q a =>
      rcases q with (q | ⟨o, q⟩) | q
      · exact ⟨"list", false, .base (.lst q), kit_ty (by decide +kernel), (fun z => by cases z), fun _ ⟨ds, _, e⟩ => by cases e⟩
      · exact ⟨"list", false, .base (.frz q), kit_ty (by decide +kernel), (fun z => by cases z), fun _ ⟨ds, _, e⟩ => by cases e⟩
      · obtain ⟨o, xs, n, e, c, _⟩ := q
        exact ⟨"list", false, .kList e c, kit_ty (by decide +kernel), (fun z => by cases z), fun _ ⟨ds, _, e⟩ => by cases e⟩
  | tup _ _ =>
    cases h with
    | tup q a =>
      rcases q with (q | ⟨o, q⟩) | q
      · exact ⟨"tuple", false, .base (.tup q), kit_ty (by decide +kernel), (fun z => by cases z), fun _ ⟨ds, _, e⟩ => by cases e⟩
      · exact ⟨"tuple", false, .fTuple q, kit_ty (by decide +kernel), (fun z => by cases z), fun _ ⟨ds, _, e⟩ => by cases e⟩
      · obtain ⟨o, xs, n, e, c, _⟩ := q
        exact ⟨"tuple", false, .kTuple e c, kit_ty (by decide +kernel), (fun z => by cases z), fun _ ⟨ds, _, e⟩ => by cases e⟩
theorem ob_num {K : PySem.W.Frag} {H : Hp} {ds : List Nat} (N : Num ds) : Ob K H (.str (numS ds)) (.str (numS ds)) :=
  ⟨.str _, .str ⟨by rw [numS_len]; have := N.len; omega, fun c m => by
    have m : c ∈ codes ds := m
    obtain ⟨d, md, rfl⟩ := List.mem_map.mp m
    have := (N.dig d md).2
    omega⟩⟩
theorem isN_str {t : Str} : IsN (.str t) ↔ IsNum t := ⟨fun ⟨ds, N, e⟩ => ⟨ds, N, V.str.inj e⟩, fun ⟨ds, N, e⟩ => ⟨ds, N, by rw [e]⟩⟩
theorem fresh_but {b p : Addr} {H H' : Hp} {n : Nat} (bag : Bag H b n) (e : But b H H') (f : H' p = none) : H p = none := by
  cases q : H p with
  | none => rfl
  | some o =>
    by_cases pb : p = b
    · obtain ⟨c, x, k, m, z, ns, h, _⟩ := bag
      obtain ⟨x', k', m', z', g⟩ := e.cel c ⟨x, k, m, z, h⟩
      rw [pb, g] at f
      cases f
    · rw [e.keep p o pb q] at f
      cases f
end Wm

/-! sum of a tuple of ints. -/
namespace Hf
open PySem PySem.Spec PyProof.Rows L2
section
variable {prog : Program} {w : World} {A : Around} {E : Value → Shared → Prop} {s : Shared} {l : Addr} {its : List Value} {ns : List Int} {Q : Value → Shared → Prop}
theorem sum_rawT (hh : A.handled = none) (hl : s.heap.IsTuple l its.toArray) (hi : IntsAre its ns)
    (h : ∀ h' tk t', (∀ b o, s.heap.get? b = some o → h'.get? b = some o) → Q (.int ns.sum t') { s with heap := h', toks := tk }) : wpAny (model prog w) A (call (.builtin "sum") [.ref l]) Q E s := by
  obtain ⟨xs, e⟩ := hi.allInts.items
  have hn : numsOf (intItems xs).toList = ns := by rw [← e]; exact hi.numsOf
  rw [nums_intItems] at hn
  rw [e] at hl
  refine PySem.W.ktm_sumG hh hl fun h' tk t' hk => ?_
  have := h h' tk t' hk
  rw [preSum_eq, List.take_of_length_le (by simp), hn]; exact this
end
section
variable {X : Cx}
def rSumA (K : PySem.W.Frag) : List V → Hp → VK → Prop := fun vs H Q => ∃ (a : Addr) (ns : List Int), vs = [V.ref a] ∧ (SqL K H a (ns.map V.int) ∨ SqT K H a (ns.map V.int)) ∧ Q (.int ns.sum) H
theorem cr_sumA (hc : X.calm = true) : CallR X (.builtin "sum") (rSumA X.K) := by
  intro pins s σ H vs us Q I r h
  obtain ⟨a, ns, rfl, hs, q⟩ := h
  rcases hs with hs | hs
  · obtain ⟨its, rv, hl, _⟩ := I.list hs
    rw [Vals.ref1 r]
    exact sum_raw (I.ok.hd hc) hl.isList rv.ints fun h' tk t' hk => ⟨.int _, H, I.kept hk, ⟨_, rfl⟩, q⟩
  · obtain ⟨its, rv, hl, _⟩ := I.tuple hs
    rw [Vals.ref1 r]
    exact sum_rawT (I.ok.hd hc) (show s.heap.IsTuple a its.toArray from hl) rv.ints fun h' tk t' hk => ⟨.int _, H, I.kept hk, ⟨_, rfl⟩, q⟩
end
end Hf

/-! enumerate of a tuple, as a thing that a for walks. -/
namespace Es
open PySem PySem.Spec PyProof.Rows L2
theorem meets_ent (t : Addr) (its : Array Value) (m : Nat) (dd : Option Addr) (slo : Array (Option Value)) :
    Meets (Builtin.«enumerate.__new__» ⟨[.type "enumerate", .ref t], []⟩) (fun _ R s => s.heap.get? t = some { cls := .type "tuple", dict := dd, data := .seq its m, slots := slo } ∧
      R (.ok (.ret (.ref (s.heap.push { cls := .type "tuple_iterator", data := .fields #[.ref t, .int 0 0] }).objs.size))) { s with heap := (s.heap.push { cls := .type "tuple_iterator", data := .fields #[.ref t, .int 0 0] }).push { cls := .type "enumerate", data := .fields #[.none, .bool false, .ref s.heap.objs.size, rawInt 0, .none, .none] } }) :=
  .of_wp fun prog w A R s h => by
    obtain ⟨hp, gn, dr, tk, os⟩ := s
    obtain ⟨ht, h⟩ := h
    have hsub := sub_enumerate
    have hT : Heap.IsTuple (Shared.heap ⟨hp, gn, dr, tk, os⟩) t its := ⟨_, ht, rfl, m, rfl⟩
    wp_walk using AutoSeq1.wpAny_loadPart' ht
    refine wpAny_stack_any fun st => wpAny_pure ?_
    split
    · rename_i c _ _ _ _ _
      cases (c == Value.type "enumerate")
      · wp_walk using AutoSeq1.wpAny_loadPart' ht, wpAny_pyIter_tuple hT
        exact ⟨_, rfl, h⟩
      · wp_walk using AutoSeq1.wpAny_loadPart' ht, wpAny_pyIter_tuple hT
        exact ⟨_, rfl, h⟩
    · wp_walk using AutoSeq1.wpAny_loadPart' ht, wpAny_pyIter_tuple hT
      exact ⟨_, rfl, h⟩
section
variable {prog : Program} {w : World} {A : Around} {E : Value → Shared → Prop} {s : Shared}
theorem call_ent {t : Addr} {its : Array Value} {Q : Value → Shared → Prop} (ht : s.heap.IsTuple t its)
    (q : ∀ g, IsEnum g (s.heap.objs.size + 1) s.heap.objs.size 0 .none → g.IsTupleIter s.heap.objs.size t 0 → (∀ b o, s.heap.get? b = some o → g.get? b = some o) → Q (.ref (s.heap.objs.size + 1)) { s with heap := g }) :
    wpAny (model prog w) A (call (.type "enumerate") [.ref t]) Q E s := by
  obtain ⟨⟨tc, td, tdat, tsl⟩, h0, h1, m, h2⟩ := ht
  simp only at h1 h2
  subst h1 h2
  refine callType_new F.called_enumerate (by decide) (F.typeCall_enumerate_1 _) (F.newCall_enumerate_1 _) (fun ob => F.args_object_init_2 ob _) F.entry_enumerate_new (meets_ent t its m td tsl) ⟨h0, ?_⟩
  have hz : (s.heap.push { cls := .type "tuple_iterator", data := .fields #[.ref t, .int 0 0] }).objs.size = s.heap.objs.size + 1 := Heap.size_push ..
  have er : IsEnum ((s.heap.push { cls := .type "tuple_iterator", data := .fields #[.ref t, .int 0 0] }).push { cls := .type "enumerate", data := .fields #[.none, .bool false, .ref s.heap.objs.size, rawInt 0, .none, .none] }) (s.heap.objs.size + 1) s.heap.objs.size 0 .none := by
    rw [← hz]
    exact Heap.get?_push_size _ rfl
  show _ ∧ _
  rw [hz]
  exact ⟨⟨_, er, rfl⟩, q _ er ⟨_, Heap.get?_push_of_some _ (Heap.get?_push_size _ rfl), rfl, rfl⟩ fun b o x => Heap.get?_push_of_some _ (Heap.get?_push_of_some _ x)⟩
theorem tup_end {e it t : Addr} {i : Nat} {its : Array Value} {old : Value} {k : Int} {Q : Option Value → Shared → Prop} (hh : A.handled = none) (er : IsEnum s.heap e it k old) (ti : s.heap.IsTupleIter it t i) (ht : s.heap.IsTuple t its) (hx : its[i]? = none)
    (q : ∀ g, Heap.ExtBut it s.heap g → Q none { s with heap := g }) : wpAny (model prog w) A (pyNext (.ref e)) Q E s := by
  have te : s.TypeIs (.ref e) "enumerate" := ⟨_, er, rfl⟩
  unfold pyNext
  refine wpAny_bind (wpAny_attempt (wpAny_callSpecial?_slot (name := Str.ofString "__next__") te F.slot_enumerate_next (wpAny_call_entry F.slot_enumerate_next te F.entry_enumerate_next ?_ (F.args_enumerate_next_1 _))))
  show wpAny _ _ (field (.ref e) 2 >>= _) _ _ _
  refine wpAny_bind (wpAny_field er rfl (x := .ref it) rfl ?_)
  refine wpAny_bind (wpAny_nextOf_tuple_end (show A.in1.handled = none from hh) ti ht hx fun g x k1 ⟨o, k2, k3⟩ => ?_)
  refine wpAny_bind (wpAny_isInstance (T := "StopIteration") (b := true) ⟨o, k2, k3⟩ isSubtype_stop ?_)
  exact wpAny_pure (q _ k1)
end
def Iten (K : PySem.W.Frag) (a : Addr) : It :=
  ⟨fun i H => ∃ (xs : List V) (x : V), SqT K H a xs ∧ xs[i]? = some x, fun i H v H' => ∃ T x, v = .ref T ∧ H T = none ∧ H' = upd H T (.tup [.int (i : Nat), x]) ∧ ∀ xs, SqT K H a xs → xs[i]? = some x, fun i H => ∃ xs : List V, SqT K H a xs ∧ xs.length ≤ i⟩
theorem turn_ent {P : Program} {w : World} {K : PySem.W.Frag} {elts : List Expr} {kk : Nat} {tpos : Pos} (a e it : Addr) (nei : e ≠ it) (nea : e ≠ a) (nai : a ≠ it) :
    Turn P w K (.Tuple elts kk tpos) (Iten K a) [e, it] e (fun i h => (∃ old, IsEnum h e it ((i : Nat) : Int) old) ∧ h.IsTupleIter it a i) where
  mem := by simp
  obj := fun i h st b hb => by
    obtain ⟨⟨old, er⟩, o, ho, _, hd⟩ := st
    have hb' : b = e ∨ b = it := by simpa using hb
    rcases hb' with z | z
    · rw [z]
      exact ⟨_, er, fun v q => nomatch q⟩
    · rw [z]
      exact ⟨o, ho, fun v q => by rw [hd] at q; cases q⟩
  keep := fun i h g st k => by
    obtain ⟨⟨old, er⟩, ti⟩ := st
    exact ⟨⟨old, k e (by simp) _ er⟩, ti.at fun o q => k it (by simp) o q⟩
  item := by
    intro X hP hw hK hc i pins s σ H E I hf st hg
    subst hP hw hK
    obtain ⟨⟨old, er⟩, ti⟩ := st
    obtain ⟨xs, x, hq, hx⟩ := hg
    obtain ⟨its, rv, p, _⟩ := I.tuple hq
    obtain ⟨u, hu, ru⟩ := rv.get hx
    have el : e < s.heap.objs.size := Heap.lt_size er
    have il : it < s.heap.objs.size := by
      obtain ⟨_, q, _⟩ := id ti
      exact Heap.lt_size q
    have hlt : i < its.toArray.size := by
      have q := (List.getElem?_eq_some_iff.mp hu).1
      simpa using q
    have hd : X.A.in1.handled = none := I.ok.hd hc
    refine wpAny_pyNext_enum_itemD (Draws.tuple hd it a nai its.toArray) er ⟨ti, p⟩ hlt nei (by simp [nei, nea]) fun y g tk hy eo st2 hT hsz hk => ?_
    have ey : y = u := by
      rw [show its.toArray[i]? = some u by simpa using hu] at hy
      exact (Option.some.inj hy).symm
    subst ey
    refine ⟨_, rfl, wpAny_letOwnedTupleGo_enum (s := { s with heap := g, toks := tk + 1 }) eo fun g2 er2 sb => ?_⟩
    have hT2 : g2.get? s.heap.objs.size = some { cls := .type "tuple", data := .seq #[.int i tk, y] } := (sb.2 _ (Nat.ne_of_gt el)).trans hT
    have new : ObjOk X.prog X.w (upd H s.heap.objs.size (.tup [.int (i : Nat), x])) g2 s.heap.objs.size (.tup [.int (i : Nat), x]) := ⟨by show 2 ≤ sizeLine; decide, [.int i tk, y], .cons ⟨_, rfl⟩ (.cons ru .nil), ⟨_, hT2, rfl, _, rfl⟩⟩
    have I1 : Inv X pins σ (upd H s.heap.objs.size (.tup [.int (i : Nat), x])) { s with heap := g2, toks := tk + 1 } := I.turnedNew (ch := [e, it]) (fun b ob hb q => (sb.2 b (fun z => hb (by simp [z]))).trans (hk b ob (fun z => hb (by simp [z])) (fun z => hb (by simp [z])) q)) hf (Nat.le_refl _) new
    refine ⟨.ref s.heap.objs.size, _, I1, rfl, ⟨_, x, rfl, I.hok.fresh (Nat.le_refl _), rfl, fun ys hy => by rw [I.tuple_inj hy hq]; exact hx⟩, ⟨⟨y, ?_⟩, st2.1.at fun o q => (sb.2 it nei.symm).trans q⟩, fun b hb => ?_⟩
    · rw [show ((i + 1 : Nat) : Int) = (i : Int) + 1 by omega]
      exact er2
    · have lb : b < s.heap.objs.size := by
        have hb' : b = e ∨ b = it := by simpa using hb
        rcases hb' with z | z
        · rw [z]; exact el
        · rw [z]; exact il
      rw [upd_ne (Nat.ne_of_lt lb)]
      exact (hf b hb).1
  done := by
    intro X hP hw hK hc i pins s σ H E I hf st hg
    subst hP hw hK
    obtain ⟨⟨old, er⟩, ti⟩ := st
    obtain ⟨xs, hq, hx⟩ := hg
    obtain ⟨its, rv, p, _⟩ := I.tuple hq
    have hl := rv.length
    exact tup_end (I.ok.hd hc) er ti p (by simp; omega) fun g kg => ⟨rfl, I.turnedL (t' := s.toks) (ch := [e, it]) (fun b o hb q => kg b o (fun z => hb (by simp [z])) q) hf⟩
  self := fun A i s Q E st h => let ⟨⟨_, er⟩, _⟩ := st; wpAny_pyIter_enum er h
def iEnt (K : PySem.W.Frag) (ta : TA) : TI := fun σ H R => ta σ H fun vs H1 => ∃ a xs, vs = [.ref a] ∧ SqT K H1 a xs ∧ R (Iten K a) H1
theorem pi_ent {X : Cx} {e : Expr} {ta : TA} {p pos tpos : Pos} {elts : List Expr} {kk : Nat} (hg : Gl X "enumerate") (hm : X.mg "enumerate" = none) (ha : PA X [e] ta) (hs : starEach [e] X.env = [(false, eval e X.env)] := by rfl) :
    PI X (.Tuple elts kk tpos) (.Call (.Name "enumerate" p) [e] [] pos) (iEnt X.K ta) := by
  refine ⟨fun pins s σ H R I h => ?_⟩
  refine Call_ (ld_blt I hg hm boot_enumerate (PyProof.Rows.callWith_type1 (thn (ha.run pos pins s σ H _ I h) fun us s1 ⟨vs, H1, I1, r1, q1⟩ => ?_) hs rfl))
  obtain ⟨a, xs, ev, hq, q⟩ := q1
  subst ev
  cases r1 with
  | cons r rr =>
    cases rr
    cases r
    obtain ⟨its, rv, pt, _⟩ := I1.tuple hq
    obtain ⟨ot, hot, _⟩ := id pt
    have al : a < s1.heap.objs.size := Heap.lt_size hot
    refine call_ent (show s1.heap.IsTuple a its.toArray from pt) fun g er ti kg => wpAny_pyIter_enum er ?_
    have I2 : Inv X pins σ H1 { s1 with heap := g } := I1.kept (t' := s1.toks) kg
    refine ⟨s1.heap.objs.size + 1, [s1.heap.objs.size + 1, s1.heap.objs.size], _, _, H1, rfl, I2, turn_ent a (s1.heap.objs.size + 1) s1.heap.objs.size (Nat.succ_ne_self _) (Nat.ne_of_gt (Nat.lt_succ_of_lt al)) (Nat.ne_of_lt al), ⟨⟨.none, er⟩, ti⟩, fun b hb => ?_, q⟩
    have hb' : b = s1.heap.objs.size + 1 ∨ b = s1.heap.objs.size := by simpa using hb
    have le : s1.heap.objs.size ≤ b := by
      rcases hb' with z | z
      · rw [z]; exact Nat.le_add_right _ _
      · rw [z]; exact Nat.le_refl _
    exact I1.fpOk le (I1.hok.fresh le)
theorem walk_ent {K : PySem.W.Frag} {a : Addr} {xs : List V} : Walk (Iten K a) xs.length (fun H => SqT K H a xs) (YPair (fun i => some (.int (i : Nat))) (fun i => xs[i]?)) := by
  refine ⟨fun i _ hi q => ⟨xs, xs[i], q, by simp [hi]⟩, fun _ q => ⟨xs, q, Nat.le_refl _⟩, fun i H v H' _ q y => ?_⟩
  obtain ⟨T, x, y1, y2, y3, y4⟩ := y
  exact ⟨T, .int (i : Nat), x, y1, y2, y3, rfl, y4 xs q⟩
end Es

/-! xs.extend(t), t a tuple; comprehensions of two clauses by walks. -/
namespace Et
open PySem PySem.Spec PyProof.Rows L2
theorem ext_meets (l : Addr) (us : Array Value) (n : Nat) (b : Addr) (vs : Array Value) (m : Nat) (dd : Option Addr) (sl : Array (Option Value)) (h0 : ¬(!us.isEmpty && Builtin.List.listTooLong (us.size + vs.size)) = true) (h1 : us.size ≤ sizeLine) (h2 : us.size + vs.size ≤ sizeLine + 1) :
    Meets (Builtin.«list.extend» ⟨[.ref l, .ref b], []⟩) (fun _ R s => s.heap.get? l = some { cls := .type "list", dict := none, data := .seq us n, slots := #[] } ∧ s.heap.get? b = some { cls := .type "tuple", dict := dd, data := .seq vs m, slots := sl } ∧ R (.ok (.ret Value.none)) { s with heap := s.heap.update l (Obj.mapSeq fun x => x ++ vs), toks := s.toks }) :=
  .of_wp fun prog w A R s h => by
    obtain ⟨hp, g, d, tk, os⟩ := s
    obtain ⟨hl, hb, h⟩ := h
    have f1 := AutoSeq1.idx_int
    have f2 := AutoSeq1.sub_tuple_tuple
    have f3 := AutoSeq1.sub_list_list
    have f4 := AutoSeq1.sub_tuple_list
    have f5 := AutoSeq1.sub_list_tuple
    have hz' : (us ++ vs).size ≤ sizeLine + 1 := by
      rw [Array.size_append]
      exact h2
    wp_walk using (wpAny_updateSeq hl rfl (hz := h1) (_hz' := hz')), AutoSeq1.wpAny_loadPart' hl, AutoSeq1.wpAny_loadPart' hb
    exact ⟨_, rfl, h⟩
section
variable {X : Cx}
def rExtT (K : PySem.W.Frag) : V → List V → Hp → VK → Prop := fun x vs H Q => ∃ l b xs zs, x = .ref l ∧ vs = [.ref b] ∧ H l = some (.lst xs) ∧ SqT K H b zs ∧ xs.length + zs.length ≤ sizeLine ∧ Q .non (upd H l (.lst (xs ++ zs)))
theorem mt_extT : MtM X "list.extend" (rExtT X.K) := by
  intro pins s σ H x vs v us Q I rx rv h
  obtain ⟨l, b, xs, zs, rfl, rfl, hH, hB, hz, q⟩ := h
  cases rx
  obtain ⟨u, rfl, ru⟩ := rv.one
  cases ru
  obtain ⟨z, its, n, r, hl, e⟩ := I.lstM hH
  obtain ⟨its2, r2, p2, _⟩ := I.tuple hB
  obtain ⟨⟨c2, d2, a2, s2⟩, e2, k1, m, k2⟩ := p2
  simp only at k1 k2
  subst k1 k2
  have hl2 := r2.length
  have hsz : its.toArray.size + its2.toArray.size ≤ sizeLine := by
    rw [List.size_toArray, List.size_toArray]
    omega
  have hlong : ¬ (!its.toArray.isEmpty && Builtin.List.listTooLong (its.toArray.size + its2.toArray.size)) = true := by
    rw [notLongL hsz, Bool.and_false]
    exact Bool.false_ne_true
  refine call_meets F.slot_list_extend ⟨_, e, rfl⟩ F.entry_list_extend (F.args_list_extend_2 _ _) (ext_meets l its.toArray n b its2.toArray m d2 s2 hlong (by rw [List.size_toArray]; omega) (by omega)) ⟨e, e2, ?_⟩
  refine ⟨.non, _, I.lset (its' := its ++ its2) hH e (by simp) (r.append r2) ?_, rfl, q⟩
  rw [List.length_append]
  omega
end
/-- the outer clause of a comprehension of two -/
theorem out_it {J : It} {n : Nat} {G : Hp → Prop} {Y : Nat → Hp → V → Hp → Prop} (w : Walk J n G Y) {g : TG} {tt : TT} {B : (Hp → Prop) → L2.St → Hp → Prop} {vs : List Nat} {σ : L2.St} {H1 : Hp} {D : Addr} {Qd : Hp → Prop} (Pv : Nat → Hp → Prop) (h0 : Pv 0 (upd H1 D (.lst []))) (hG : ∀ i H, i ≤ n → Pv i H → G H)
    (hs : ∀ i x H H', i < n → Pv i H → Y i H x H' → g x (wipe σ vs) H' fun σ2 H2 => wipe σ2 vs = wipe σ vs ∧ tt σ2 H2 fun b H3 => if b = true then B (Pv (i + 1)) σ2 H3 else Pv (i + 1) H3) (hd : ∀ H, Pv n H → Qd H) :
    ∃ W : Nat → Nat → Hp → Prop, (∃ m, W 0 m (upd H1 D (.lst []))) ∧ ∀ i m H, W i m H →
      (J.stop i H ∧ Qd H) ∨ (J.go i H ∧ ∃ Nx : Hp → Prop, (∀ H', Nx H' → ∃ m', m' < m ∧ W (i + 1) m' H') ∧ ∀ x H', J.yld i H x H' → g x (wipe σ vs) H' fun σ2 H2 => wipe σ2 vs = wipe σ vs ∧ tt σ2 H2 fun b H3 => if b = true then B Nx σ2 H3 else Nx H3) := by
  refine ⟨fun i m H => m = n - i ∧ i ≤ n ∧ Pv i H, ⟨n, by simp, Nat.zero_le _, h0⟩, ?_⟩
  rintro i m H ⟨rfl, hi, p⟩
  have q := hG i H hi p
  by_cases lt : i < n
  · exact .inr ⟨w.goes i H lt q, Pv (i + 1), fun H' p' => ⟨n - (i + 1), by omega, rfl, lt, p'⟩, fun x H' y => hs i x H H' lt p (w.yields i H x H' lt q y)⟩
  · have e : i = n := by omega
    subst e
    exact .inl ⟨w.stops H q, hd H p⟩
/-- the inner clause -/
theorem in_it {J : It} {n : Nat} {G : Hp → Prop} {Y : Nat → Hp → V → Hp → Prop} (w : Walk J n G Y) {g : TG} {tt : TT} {te : TE} {vs : List Nat} {σ : L2.St} {H1 : Hp} {D : Addr} {Qd : Hp → Prop} (Pv : Nat → Hp → Prop) (h0 : Pv 0 H1) (hG : ∀ i H, i ≤ n → Pv i H → G H)
    (hs : ∀ i x H H', i < n → Pv i H → Y i H x H' → g x (wipe σ vs) H' fun σ2 H2 => wipe σ2 vs = wipe σ vs ∧ tt σ2 H2 fun b H3 =>
      if b = true then te σ2 H3 fun y H4 => ∃ acc, H4 D = some (.lst acc) ∧ acc.length < sizeLine ∧ Pv (i + 1) (upd H4 D (.lst (acc ++ [y]))) else Pv (i + 1) H3) (hd : ∀ H, Pv n H → Qd H) :
    ∃ W : Nat → Nat → Hp → Prop, (∃ m, W 0 m H1) ∧ ∀ i m H, W i m H →
      (J.stop i H ∧ Qd H) ∨ (J.go i H ∧ ∃ Nx : Hp → Prop, (∀ H', Nx H' → ∃ m', m' < m ∧ W (i + 1) m' H') ∧ ∀ x H', J.yld i H x H' → g x (wipe σ vs) H' fun σ2 H2 => wipe σ2 vs = wipe σ vs ∧ tt σ2 H2 fun b H3 =>
        if b = true then te σ2 H3 fun y H4 => ∃ acc, H4 D = some (.lst acc) ∧ acc.length < sizeLine ∧ Nx (upd H4 D (.lst (acc ++ [y]))) else Nx H3) := by
  refine ⟨fun i m H => m = n - i ∧ i ≤ n ∧ Pv i H, ⟨n, by simp, Nat.zero_le _, h0⟩, ?_⟩
  rintro i m H ⟨rfl, hi, p⟩
  have q := hG i H hi p
  by_cases lt : i < n
  · refine .inr ⟨w.goes i H lt q, Pv (i + 1), fun H' p' => ⟨n - (i + 1), by omega, rfl, lt, p'⟩, fun x H' y => hs i x H H' lt p (w.yields i H x H' lt q y)⟩
  · have e : i = n := by omega
    subst e
    exact .inl ⟨w.stops H q, hd H p⟩
end Et

/-! Data of ints, texts and tuples of such; what keeps them. -/
namespace Dv
open PySem L2 Wm
mutual
inductive Dt (K : PySem.W.Frag) (H : Hp) : V → PyData → Prop
  | int (i : Int) : Dt K H (.int i) (.int i)
  | str (x : Str) : Dt K H (.str x) (.str x)
  | tup {a : Addr} {xs : List V} {ds : List PyData} : SqT K H a xs → Dts K H xs ds → Dt K H (.ref a) (.tuple ds)
inductive Dts (K : PySem.W.Frag) (H : Hp) : List V → List PyData → Prop
  | nil : Dts K H [] []
  | cons {v : V} {vs : List V} {d : PyData} {ds : List PyData} : Dt K H v d → Dts K H vs ds → Dts K H (v :: vs) (d :: ds)
end
/-- tuples stand -/
def Kt (K : PySem.W.Frag) (H H' : Hp) : Prop := ∀ a xs, SqT K H a xs → SqT K H' a xs
section
variable {K : PySem.W.Frag} {H H' H2 : Hp}
theorem Kt.refl : Kt K H H := fun _ _ h => h
theorem Kt.trans (a : Kt K H H') (b : Kt K H' H2) : Kt K H H2 := fun p xs h => b p xs (a p xs h)
theorem Kt.same (s : Same H H') : Kt K H H' := fun _ _ h => sameT s h
/-- a store at what is no tuple -/
theorem Kt.set {p : Addr} {o u : HO} (h : H p = some u) (n1 : ∀ xs, u ≠ .tup xs) (n2 : ∀ ob xs, u ≠ .frz ob (.tup xs)) : Kt K H (upd H p o) := fun a xs q => by
  rcases q with (q | ⟨ob, q⟩) | q
  · exact .inl (.inl (by rw [upd_ne (fun e => by subst e; rw [h] at q; exact n1 _ (Option.some.inj q))]; exact q))
  · exact .inl (.inr ⟨ob, by rw [upd_ne (fun e => by subst e; rw [h] at q; exact n2 _ _ (Option.some.inj q))]; exact q⟩)
  · exact .inr q
theorem Kt.lst {p : Addr} {o : HO} {xs : List V} (h : H p = some (.lst xs)) : Kt K H (upd H p o) := Kt.set h (fun _ q => by cases q) (fun _ _ q => by cases q)
theorem Kt.new {p : Addr} {o : HO} (h : H p = none) : Kt K H (upd H p o) := Kt.same (same_new h)
mutual
theorem Dt.keep (k : Kt K H H') : ∀ (d : PyData) (v : V), Dt K H v d → Dt K H' v d
  | .int _, _, h => by cases h; exact .int _
  | .str _, _, h => by cases h; exact .str _
  | .tuple ds, _, h => by
    cases h with
    | tup a b => exact .tup (k _ _ a) (Dts.keep k ds _ b)
  | .none, _, h => by cases h
  | .bool _, _, h => by cases h
  | .list _, _, h => by cases h
  | .dict _, _, h => by cases h
theorem Dts.keep (k : Kt K H H') : ∀ (ds : List PyData) (vs : List V), Dts K H vs ds → Dts K H' vs ds
  | [], _, h => by cases h; exact .nil
  | d :: ds, _, h => by
    cases h with
    | cons a b => exact .cons (Dt.keep k d _ a) (Dts.keep k ds _ b)
end
mutual
theorem Dt.dp : ∀ (d : PyData) (v : V), Dt K H v d → Dp K H v d
  | .int _, _, h => by cases h; exact .int _
  | .str _, _, h => by cases h; exact .str _
  | .tuple ds, _, h => by
    cases h with
    | tup a b => exact .tup a (Dts.dp ds _ b)
  | .none, _, h => by cases h
  | .bool _, _, h => by cases h
  | .list _, _, h => by cases h
  | .dict _, _, h => by cases h
theorem Dts.dp : ∀ (ds : List PyData) (vs : List V), Dts K H vs ds → DpAll K H vs ds
  | [], _, h => by cases h; exact .nil
  | d :: ds, _, h => by
    cases h with
    | cons a b => exact .cons (Dt.dp d _ a) (Dts.dp ds _ b)
end
theorem Dt.k {d : PyData} {v : V} (h : Dt K H v d) (k : Kt K H H') : Dt K H' v d := Dt.keep k _ _ h
theorem Dts.k {ds : List PyData} {vs : List V} (h : Dts K H vs ds) (k : Kt K H H') : Dts K H' vs ds := Dts.keep k _ _ h
theorem Dt.toDp {d : PyData} {v : V} (h : Dt K H v d) : Dp K H v d := Dt.dp _ _ h
theorem Dts.toDp {ds : List PyData} {vs : List V} (h : Dts K H vs ds) : DpAll K H vs ds := Dts.dp _ _ h
theorem Dt.inv {ds : List PyData} {v : V} (h : Dt K H v (.tuple ds)) : ∃ p xs, v = .ref p ∧ SqT K H p xs ∧ Dts K H xs ds := by
  cases h with
  | tup a b => exact ⟨_, _, rfl, a, b⟩
theorem Dt.str_inv {x : Str} {v : V} (h : Dt K H v (.str x)) : v = .str x := by cases h; rfl
theorem Dt.int_inv {i : Int} {v : V} (h : Dt K H v (.int i)) : v = .int i := by cases h; rfl
theorem Dts.len {ds : List PyData} {vs : List V} (h : Dts K H vs ds) : vs.length = ds.length := by
  induction ds generalizing vs with
  | nil => cases h; rfl
  | cons d ds ih =>
    cases h with
    | cons a b => rw [List.length_cons, List.length_cons, ih b]
theorem Dts.at {i : Nat} {ds : List PyData} {vs : List V} {v : V} (h : Dts K H vs ds) (g : vs[i]? = some v) : ∃ d, ds[i]? = some d ∧ Dt K H v d := by
  induction ds generalizing vs i with
  | nil =>
    cases h
    simp at g
  | cons d ds ih =>
    cases h with
    | cons a b =>
      cases i with
      | zero =>
        simp at g
        subst g
        exact ⟨d, rfl, a⟩
      | succ i => exact ih b (by simpa using g)
theorem Dts.get {i : Nat} {ds : List PyData} {vs : List V} {d : PyData} (h : Dts K H vs ds) (g : ds[i]? = some d) : ∃ v, vs[i]? = some v ∧ Dt K H v d := by
  have li := (List.getElem?_eq_some_iff.mp g).1
  obtain ⟨v, e⟩ : ∃ v, vs[i]? = some v := ⟨_, List.getElem?_eq_getElem (by rw [h.len]; exact li)⟩
  obtain ⟨d2, e2, a⟩ := h.at e
  rw [g] at e2
  cases e2
  exact ⟨v, e, a⟩
theorem Dts.app {ds es : List PyData} {vs ws : List V} (h : Dts K H vs ds) (g : Dts K H ws es) : Dts K H (vs ++ ws) (ds ++ es) := by
  induction ds generalizing vs with
  | nil => cases h; exact g
  | cons d ds ih =>
    cases h with
    | cons a b => exact .cons a (ih b)
theorem Dts.snoc {ds : List PyData} {d : PyData} {vs : List V} {v : V} (h : Dts K H vs ds) (g : Dt K H v d) : Dts K H (vs ++ [v]) (ds ++ [d]) := h.app (.cons g .nil)
theorem Dts.take {ds : List PyData} {vs : List V} (h : Dts K H vs ds) : ∀ n, Dts K H (vs.take n) (ds.take n) := by
  induction ds generalizing vs with
  | nil => cases h; intro n; simp; exact .nil
  | cons d ds ih =>
    cases h with
    | cons a b =>
      intro n
      cases n with
      | zero => exact .nil
      | succ n => exact .cons a (ih b n)
theorem Dts.drop {ds : List PyData} {vs : List V} (h : Dts K H vs ds) : ∀ n, Dts K H (vs.drop n) (ds.drop n) := by
  induction ds generalizing vs with
  | nil => cases h; intro n; simp; exact .nil
  | cons d ds ih =>
    cases h with
    | cons a b =>
      intro n
      cases n with
      | zero => exact .cons a b
      | succ n => exact ih b n
theorem dts_str : ∀ ss : List Str, Dts K H (ss.map V.str) (ss.map PyData.str)
  | [] => .nil
  | s :: ss => .cons (.str s) (dts_str ss)
theorem dts_str_inv {ss : List Str} {vs : List V} (h : Dts K H vs (ss.map PyData.str)) : vs = ss.map V.str := by
  induction ss generalizing vs with
  | nil => cases h; rfl
  | cons s ss ih =>
    cases h with
    | cons a b => rw [a.str_inv, ih b]; rfl
theorem dts_int : ∀ ns : List Int, Dts K H (ns.map V.int) (ns.map PyData.int)
  | [] => .nil
  | s :: ss => .cons (.int s) (dts_int ss)
theorem dts_int_inv {ns : List Int} {vs : List V} (h : Dts K H vs (ns.map PyData.int)) : vs = ns.map V.int := by
  induction ns generalizing vs with
  | nil => cases h; rfl
  | cons s ss ih =>
    cases h with
    | cons a b => rw [a.int_inv, ih b]; rfl
theorem dt_tup {p : Addr} {xs : List V} {ds : List PyData} (h : H p = some (.tup xs)) (g : Dts K H xs ds) : Dt K H (.ref p) (.tuple ds) := .tup (SqT.of h) g
end
/-- data that == may be asked of: texts in the line, not deep -/
def Fine (n : Nat) (d : PyData) : Prop := d.canLay0 = true ∧ d.depth ≤ n
theorem fine_int {n : Nat} (i : Int) : Fine n (.int i) := ⟨by simp [PyData.canLay0], by simp [PyData.depth]⟩
theorem fine_tup {n : Nat} {ds : List PyData} (h : ∀ d ∈ ds, Fine n d) : Fine (n + 1) (.tuple ds) := by
  have q : PyData.canLayAll0 ds = true ∧ PyData.depthAll ds ≤ n := by
    induction ds with
    | nil => simp [PyData.canLayAll0, PyData.depthAll]
    | cons d ds ih =>
      have h1 := h d (by simp)
      have h2 := ih fun y m => h y (List.mem_cons_of_mem _ m)
      simp only [PyData.canLayAll0, PyData.depthAll, h1.1, h2.1, Bool.and_self, true_and]
      have := h1.2
      have := h2.2
      omega
  exact ⟨by simp only [PyData.canLay0]; exact q.1, by simp only [PyData.depth]; have := q.2; omega⟩
theorem fine_str {n : Nat} {x : Str} (h : x.cps.all (· < 0x110000) = true) : Fine n (.str x) := ⟨by simp only [PyData.canLay0]; exact h, by simp [PyData.depth]⟩
theorem fine_num {n : Nat} {ds : List Nat} (h : ∀ d ∈ ds, d ≤ 9) : Fine n (.str (numS ds)) := by
  refine fine_str ?_
  rw [← Array.all_toList, List.all_eq_true]
  intro c m
  obtain ⟨d, md, rfl⟩ := List.mem_map.mp (show c ∈ codes ds from m)
  have := h d md
  exact decide_eq_true (by omega)
theorem Fine.shaped {n : Nat} {d : PyData} (h : Fine n d) (l : n ≤ 64) : SeqAt.shaped d = true := by
  have e : decide (d.depth ≤ 64) = true := decide_eq_true (Nat.le_trans h.2 l)
  show (d.canLay0 && _) = true
  rw [e, Bool.and_true]
  exact h.1
theorem Fine.refl {n : Nat} {d : PyData} (h : Fine n d) : PyData.eqv d d = true := SeqAt.eqv_refl d h.1
theorem Fine.mono {n m : Nat} {d : PyData} (h : Fine n d) (l : n ≤ m) : Fine m d := ⟨h.1, Nat.le_trans h.2 l⟩
end Dv

/-! A list or a tuple, told by a letter; loops over it that may write elsewhere. -/
namespace Kd
open PySem PySem.Spec PyProof.Rows L2
/-- the list or (t) the tuple at a -/
def Is (K : PySem.W.Frag) (t : Bool) (H : Hp) (a : Addr) (xs : List V) : Prop := if t = true then SqT K H a xs else SqL K H a xs
theorem Is.keep {K : PySem.W.Frag} {t : Bool} {H H' : Hp} {a : Addr} {xs : List V} (s : Same H H') (h : Is K t H a xs) : Is K t H' a xs := by
  cases t
  · exact Hf.keepL s h
  · exact Hf.keepT s h
theorem Is.sq {K : PySem.W.Frag} {t : Bool} {H : Hp} {a : Addr} {xs : List V} (h : Is K t H a xs) : SqL K H a xs ∨ SqT K H a xs := by
  cases t
  · exact .inl h
  · exact .inr h
theorem Is.tup {K : PySem.W.Frag} {H : Hp} {a : Addr} {xs : List V} (h : SqT K H a xs) : Is K true H a xs := h
theorem Is.lst {K : PySem.W.Frag} {H : Hp} {a : Addr} {xs : List V} (h : SqL K H a xs) : Is K false H a xs := h
section
variable {X : Cx}
def iSeq (K : PySem.W.Frag) (tl : TE) : TI := fun σ H R => tl σ H fun x H1 => ∃ a xs t, x = .ref a ∧ Is K t H1 a xs ∧
  ∀ J G, Walk J xs.length G (YAt xs) → (∀ H', Is K t H' a xs → G H') → R J H1
theorem pi_seq {tg l : Expr} {tl : TE} (hl : PE X l tl) : PI X tg l (iSeq X.K tl) := by
  refine ⟨fun pins s σ H R I h => ?_⟩
  refine thn (hl.run pins s σ H _ I h) fun v s1 ⟨x, H1, I1, r1, q1⟩ => ?_
  obtain ⟨a, xs, t, e, hq, q⟩ := q1
  subst e
  cases r1
  cases t with
  | false =>
    have hq : SqL X.K H1 a xs := hq
    have q := q _ _ walk_list fun H' s => s
    obtain ⟨its, rv, p, hz⟩ := I1.list hq
    refine wpAny_pyIter_list p.isList ?_
    refine ⟨s1.heap.objs.size, [s1.heap.objs.size], _, _, H1, rfl, I1.kept (t' := s1.toks) fun b o e => Heap.get?_push_of_some _ e, turn_list a _, ⟨_, Heap.get?_push_size _ rfl, rfl, rfl⟩, fun b hb => ?_, q⟩
    have e : b = s1.heap.objs.size := by simpa using hb
    subst e
    exact I1.fpOk (Nat.le_refl _) (I1.hok.fresh (Nat.le_refl _))
  | true =>
    have hq : SqT X.K H1 a xs := hq
    have q := q _ _ walk_tup fun H' s => s
    obtain ⟨its, rv, p, hz⟩ := I1.tuple hq
    refine wpAny_pyIter_tuple (show s1.heap.IsTuple a its.toArray from p) ?_
    refine ⟨s1.heap.objs.size, [s1.heap.objs.size], _, _, H1, rfl, I1.kept (t' := s1.toks) fun b o e => Heap.get?_push_of_some _ e, turn_tuple a _, ⟨_, Heap.get?_push_size _ rfl, rfl, rfl⟩, fun b hb => ?_, q⟩
    have e : b = s1.heap.objs.size := by simpa using hb
    subst e
    exact I1.fpOk (Nat.le_refl _) (I1.hok.fresh (Nat.le_refl _))
end
end Kd

/-! Comprehensions whose items are told one by one. -/
namespace Lm
open PySem L2 Wm Dv
theorem list_is {α : Type} {ys zs : List α} (l : ys.length = zs.length) (h : ∀ (i : Nat) y, ys[i]? = some y → zs[i]? = some y) : ys = zs := by
  refine List.ext_getElem? fun i => ?_
  by_cases q : i < ys.length
  · rw [h i _ (List.getElem?_eq_getElem q), List.getElem?_eq_getElem q]
  · rw [List.getElem?_eq_none (by omega), List.getElem?_eq_none (by omega)]
theorem lc_map {K : PySem.W.Frag} {J : It} {n : Nat} {G : Hp → Prop} {xs : List V} (w : Walk J n G (YAt xs)) {g : TG} {te : TE} {vs : List Nat} {σ : L2.St} {H1 : Hp} {D : Addr} {Qd : Hp → Prop} (R : Nat → V → Hp → Prop)
    (mono : ∀ i y H H', R i y H → Kt K H H' → R i y H') (hD : H1 D = none) (hn : n ≤ 1000) (hG : ∀ H', Same H1 H' → G H')
    (hs : ∀ i x H', i < n → xs[i]? = some x → Same H1 H' → ∀ (Q : V → Hp → Prop) (Z : Hp → Prop), (∀ y H4, Same H' H4 → R i y H4 → Q y H4) → g x (wipe σ vs) H' fun σ2 H2 => wipe σ2 vs = wipe σ vs ∧ tYes σ2 H2 fun b H3 => if b = true then te σ2 H3 Q else Z H3)
    (hd : ∀ H ys, Same H1 H → H D = some (.lst ys) → ys.length = n → (∀ (i : Nat) y, ys[i]? = some y → R i y H) → Qd H) :
    ∃ W : Nat → Nat → Hp → Prop, (∃ m, W 0 m (upd H1 D (.lst []))) ∧ ∀ i m H, W i m H →
      (J.stop i H ∧ Qd H) ∨ (J.go i H ∧ ∃ Nx : Hp → Prop, (∀ H', Nx H' → ∃ m', m' < m ∧ W (i + 1) m' H') ∧ ∀ x H', J.yld i H x H' → g x (wipe σ vs) H' fun σ2 H2 => wipe σ2 vs = wipe σ vs ∧ tYes σ2 H2 fun b H3 =>
        if b = true then te σ2 H3 fun y H4 => ∃ acc, H4 D = some (.lst acc) ∧ acc.length < sizeLine ∧ Nx (upd H4 D (.lst (acc ++ [y]))) else Nx H3) := by
  refine lc_it (tt := tYes) w (fun i H => Same H1 H ∧ ∃ ys : List V, ys.length = i ∧ H D = some (.lst ys) ∧ ∀ j y, ys[j]? = some y → R j y H) ⟨same_new hD, [], rfl, upd_same, fun (j : Nat) (y : V) e => by simp at e⟩ (fun i H _ h => hG H h.1) (fun i x H H' hi hP hY => ?_) (fun H hP => ?_)
  · obtain ⟨sm, ys, el, hy, hR⟩ := hP
    obtain ⟨rfl, hx⟩ := hY
    refine hs i x H' hi hx sm _ _ (fun y H4 s4 r4 => ?_)
    · refine ⟨ys, s4 _ _ hy, by rw [el]; exact small1000 (by omega), same_mut (sm.trans s4) hD, ys ++ [y], by rw [List.length_append, el]; rfl, upd_same, fun j z hz => ?_⟩
      have k5 : Kt K H4 (upd H4 D (.lst (ys ++ [y]))) := Kt.lst (s4 _ _ hy)
      by_cases lj : j < ys.length
      · rw [List.getElem?_append_left lj] at hz
        exact mono _ _ _ _ (hR j z hz) ((Kt.same s4).trans k5)
      · rw [List.getElem?_append_right (by omega)] at hz
        have e0 : j - ys.length = 0 := by
          by_cases q : j - ys.length = 0
          · exact q
          · rw [List.getElem?_eq_none (by rw [List.length_singleton]; omega)] at hz
            cases hz
        rw [e0] at hz
        have ez : y = z := by simpa using hz
        have ej : j = i := by omega
        subst ez ej
        exact mono _ _ _ _ r4 k5
  · obtain ⟨sm, ys, el, hy, hR⟩ := hP
    exact hd H ys sm hy el hR
end Lm
namespace Kx
open PySem L2
def rLen (K : PySem.W.Frag) : List V → Hp → VK → Prop := fun xs H Q => ∃ p ys, xs = [.ref p] ∧ (SqL K H p ys ∨ SqT K H p ys) ∧ Q (.int (ys.length : Nat)) H
def rTup (K : PySem.W.Frag) : List V → Hp → VK → Prop := fun xs H Q => ∃ a ys, xs = [.ref a] ∧ SqT K H a ys ∧ Q (.ref a) H
def rTupOf (K : PySem.W.Frag) : List V → Hp → VK → Prop := fun xs H Q => ∃ p ys, xs = [.ref p] ∧ ((SqL K H p ys ∧ ∀ l, H l = none → Q (.ref l) (upd H l (.tup ys))) ∨ (SqT K H p ys ∧ Q (.ref p) H))
end Kx

/-! Comprehensions whose items draw from the bag, told one by one. -/
namespace Lm
open PySem L2 Wm Dv
theorem kt_but {K : PySem.W.Frag} {H H' : Hp} {b : Addr} {n : Nat} (bag : Bag H b n) (e : But b H H') : Kt K H H' := fun a xs q => by
  obtain ⟨c, x, k, m, z, ns, hb, _⟩ := bag
  have ne : ∀ {u : HO}, H a = some u → (∀ y, u ≠ .lst y) → H' a = some u := fun {u} h n => e.keep _ _ (fun z => by subst z; rw [hb] at h; exact n _ (Option.some.inj h).symm) h
  rcases q with (q | ⟨ob, q⟩) | q
  · exact .inl (.inl (ne q fun y z => by cases z))
  · exact .inl (.inr ⟨ob, ne q fun y z => by cases z⟩)
  · exact .inr q
theorem bag_off {H : Hp} {b p : Addr} {n : Nat} (bag : Bag H b n) (h : H p = none) : p ≠ b := fun e => by
  obtain ⟨_, _, _, _, _, _, hb, _⟩ := bag
  rw [e, hb] at h
  cases h
theorem lc_bag {K : PySem.W.Frag} {J : It} {n : Nat} {G : Hp → Prop} {xs : List V} (w : Walk J n G (YAt xs)) {g : TG} {te : TE} {vs : List Nat} {σ : L2.St} {H1 : Hp} {D : Addr} {Qd : Hp → Prop} {b : Addr} {m c : Nat} (R : Nat → V → Hp → Prop)
    (mono : ∀ i y H H', R i y H → Kt K H H' → R i y H') (hD : H1 D = none) (bag : Bag H1 b m) (hn : n ≤ 1000) (hG : ∀ H', But b H1 H' → G H')
    (hs : ∀ i x H', i < n → xs[i]? = some x → But b H1 H' → Bag H' b (m + c * i) → ∀ (Q : V → Hp → Prop) (Z : Hp → Prop), (∀ y H4, But b H' H4 → Bag H4 b (m + c * (i + 1)) → R i y H4 → Q y H4) → g x (wipe σ vs) H' fun σ2 H2 => wipe σ2 vs = wipe σ vs ∧ tYes σ2 H2 fun b H3 => if b = true then te σ2 H3 Q else Z H3)
    (hd : ∀ H ys, But b H1 H → Bag H b (m + c * n) → H D = some (.lst ys) → ys.length = n → (∀ (i : Nat) y, ys[i]? = some y → R i y H) → Qd H) :
    ∃ W : Nat → Nat → Hp → Prop, (∃ m, W 0 m (upd H1 D (.lst []))) ∧ ∀ i m H, W i m H →
      (J.stop i H ∧ Qd H) ∨ (J.go i H ∧ ∃ Nx : Hp → Prop, (∀ H', Nx H' → ∃ m', m' < m ∧ W (i + 1) m' H') ∧ ∀ x H', J.yld i H x H' → g x (wipe σ vs) H' fun σ2 H2 => wipe σ2 vs = wipe σ vs ∧ tYes σ2 H2 fun b H3 =>
        if b = true then te σ2 H3 fun y H4 => ∃ acc, H4 D = some (.lst acc) ∧ acc.length < sizeLine ∧ Nx (upd H4 D (.lst (acc ++ [y]))) else Nx H3) := by
  have db := bag_off bag hD
  refine lc_it (tt := tYes) w (fun i H => But b H1 H ∧ Bag H b (m + c * i) ∧ ∃ ys : List V, ys.length = i ∧ H D = some (.lst ys) ∧ ∀ j y, ys[j]? = some y → R j y H)
    ⟨But.of (same_new hD), (bag.keep (same_new hD)).mono (by omega), [], rfl, upd_same, fun (j : Nat) (y : V) e => by simp at e⟩ (fun i H _ h => hG H h.1) (fun i x H H' hi hP hY => ?_) (fun H hP => ?_)
  · obtain ⟨bt, bg, ys, el, hy, hR⟩ := hP
    obtain ⟨rfl, hx⟩ := hY
    refine hs i x H' hi hx bt bg _ _ (fun y H4 b4 g4 r4 => ?_)
    have hy4 := b4.keep _ _ db hy
    have k5 : Kt K H4 (upd H4 D (.lst (ys ++ [y]))) := Kt.lst hy4
    refine ⟨ys, hy4, by rw [el]; exact small1000 (by omega), (bt.trans b4).put hD, Bag.put bag hD (bt.trans b4) g4, ys ++ [y], by rw [List.length_append, el]; rfl, upd_same, fun j z hz => ?_⟩
    by_cases lj : j < ys.length
    · rw [List.getElem?_append_left lj] at hz
      exact mono _ _ _ _ (hR j z hz) ((kt_but bg b4).trans k5)
    · rw [List.getElem?_append_right (by omega)] at hz
      have e0 : j - ys.length = 0 := by
        by_cases q : j - ys.length = 0
        · exact q
        · rw [List.getElem?_eq_none (by rw [List.length_singleton]; omega)] at hz
          cases hz
      rw [e0] at hz
      have ez : y = z := by simpa using hz
      have ej : j = i := by omega
      subst ez ej
      exact mono _ _ _ _ r4 k5
  · obtain ⟨bt, bg, ys, el, hy, hR⟩ := hP
    exact hd H ys bt bg hy el hR
end Lm

/-! A method with keywords alone; a def that may raise, where it does not. -/
namespace Mk1
open PySem PySem.Spec PyProof.Rows L2
theorem passF {X : Cx} : Passes (L2.CX X.prog X.w) X (fun _ _ _ => False) := by
  intro pins σ H s e s' I h
  obtain ⟨_, _, _, _, _, _, _, _, _, _, _, _, z⟩ := h
  exact z.elim
section
variable {X : Cx} {CX : CXT} {k : Nat} {f C : Addr} {fd : FuncData} {ps ks : List Str} {sp : Sp} {E : XK} {m : Str} {pos apos : Pos} {o : Expr} {kws : List Keyword} {ta : TE} {tk : TA} {g : List Value → List Value → List Value} {gV : List V → List V → List V} {pl : Sem Bool}
def tMethN (C : Addr) (m : Str) (n : Nat) (sp : Sp) (gV : List V → List V → List V) (E : XK) (ta : TE) (tk : TA) : TE := fun σ H Q => ta σ H fun x H1 => ∃ a dx fs, x = .ref a ∧ H1 a = some (.ins C dx fs) ∧ fs.lookup m = none ∧
  tk σ H1 fun zs H2 => zs.length = n ∧ sp (gV [x] zs) H2 Q E
theorem pe_methN (ho : PE X o ta) (c : Cls X.K C) (hm : Meth X.K C m f) (F : FnOk X.prog X.w X.K X.mg X.base CX k f fd ps sp) (hr : Room k X.A) (hb : KBn X.K fd ps 1 ks g gV) (hx : Passes CX X E) (hk : PK X kws tk)
    (h1 : (backToKw pos (keywordEach kws X.env)).all (·.1.isSome) = true := by rfl) (h2 : (backToKw pos (keywordEach kws X.env)).filterMap (·.1) = ks := by rfl)
    (h3 : ((backTo pos (starEach [] X.env)).any (·.1) || (backToKw pos (keywordEach kws X.env)).any (·.1.isNone)) = false := by rfl)
    (h4 : eval (.Call (.Attribute o m apos) [] kws pos) X.env = (do
      let v ← eval o X.env
      standAt apos.atName
      let (a, b) ← holding [v] (getMethod v m pl)
      callWith pos a b (backTo pos (starEach [] X.env)) (backToKw pos (keywordEach kws X.env))) := by rfl) :
    PE X (.Call (.Attribute o m apos) [] kws pos) (tMethN C m ks.length sp gV E ta tk) := by
  constructor
  intro pins s σ H Q I h
  refine PySem.W.methodCall_KW (pl := pl) (thn (ho.run pins s σ H _ I h) fun u s1 w => ?_) h4
  obtain ⟨x, H1, I1, rx, a, dx, fs, ex, ea, l, q⟩ := w
  subst ex
  cases (show u = Value.ref a from rx)
  refine getmeth_ok I1 ea c hm l ?_
  refine PySem.W.callWith_KW0 (first := [.ref a]) (h₀ := X.base) I.ok.mod.kin hm.kp h1 (thn (hk.run pos pins s1 σ H1 _ I1 q) fun ws s2 w2 => ?_) h3
  obtain ⟨zs, H2, I2, rz, l2, q2⟩ := w2
  refine ⟨I2.kIn, ?_⟩
  rw [h2]
  exact run_fnN (us := [.ref a]) (vs := [.ref a]) F hr hb hx I2 (.cons rfl .nil) rz rfl l2 q2
end
end Mk1

/-! Operators of own classes, by values: ==, <, .. by __eq__, __lt__, ..; |, &, - by __or__, ..; in by __contains__; len by __len__. -/
namespace Ow
open PySem PySem.Spec PyProof.Rows L2
section
variable {X : Cx} {CX : CXT} {C g : Addr} {n : Nat} {sp : Sp} {E : XK}
theorem ins_at {pins : List (Addr × Obj)} {σ : L2.St} {H : Hp} {s : Shared} {a C dx : Addr} {fs : List (Str × V)} (I : Inv X pins σ H s) (e : H a = some (.ins C dx fs)) : ∃ ox od, PySem.W.InstAt s.heap a ox C od := by
  obtain ⟨mA, O, _⟩ := ins_get I.hok e
  obtain ⟨od, J, _⟩ := O.look
  exact ⟨_, _, J⟩
/-- x op y by the own def of x's class at C; y's class not below C -/
def rCmp (K : PySem.W.Frag) (C : Addr) (sp : Sp) (E : XK) : R2 := fun x y H Q => ∃ a dx fs t, x = .ref a ∧ H a = some (.ins C dx fs) ∧ TyX K H y t ∧ PySem.W.notFirst K C t = true ∧ sp [x, y] H Q E
theorem op_cmp {op : CmpOp} (hop : ∀ a b, compareOp op a b = richCompare op a b) (hs : PySem.W.findIn X.K (.ref C) (cmpInfo op).2.1 = some (some (.ref g))) (hf : PySem.W.isFn X.K (.ref g) = true) (F : FnR X.prog X.w X.K X.mg X.base CX n g sp)
    (hr : Room n X.A) (hx : Passes CX X E) : OpR X (compareOp op) (rCmp X.K C sp E) := by
  intro pins s σ H x y v u Q I rx ry h
  obtain ⟨a, dx, fs, t, rfl, ha, ty, hn, q⟩ := h
  cases (show v = Value.ref a from rx)
  obtain ⟨ox, od, J⟩ := ins_at I ha
  obtain ⟨P, k, hp, _⟩ := kit_of I ry ty
  obtain ⟨m, hF⟩ := I.fr
  rw [hop]
  refine PySem.W.cmp_K (op := op) (tb := t) hr.units0 hF I.ok.mod.kin J (k.ty _ _ I.kIn hp) hn hs hf ?_
  refine wpAny_mono (wpAny_call (run_fnR (us := [.ref a, u]) (vs := [.ref a, y]) F hr hx I (.cons rfl (.cons ry .nil)) q)) (fun w s' z => ?_) fun _ _ x => x
  obtain ⟨z', H', I', rz, qz⟩ := z
  exact SlX.cmpback rz ⟨z', H', I', rz, qz⟩
/-- x op y, both of the class at C -/
def rBin (C : Addr) (sp : Sp) (E : XK) : R2 := fun x y H Q => ∃ a dx fs b dy gs, x = .ref a ∧ y = .ref b ∧ H a = some (.ins C dx fs) ∧ H b = some (.ins C dy gs) ∧ sp [x, y] H Q E
theorem op_bin {op : Operator} (hc : PySem.W.selfFirst X.K C = true) (hs : PySem.W.findIn X.K (.ref C) (PySem.dunder op.info.2) = some (some (.ref g))) (hf : PySem.W.isFn X.K (.ref g) = true) (F : FnR X.prog X.w X.K X.mg X.base CX n g sp)
    (hr : Room n X.A) (hx : Passes CX X E) : OpR X (binaryOp op) (rBin C sp E) := by
  intro pins s σ H x y v u Q I rx ry h
  obtain ⟨a, dx, fs, b, dy, gs, rfl, rfl, ha, hb, q⟩ := h
  cases (show v = Value.ref a from rx)
  cases (show u = Value.ref b from ry)
  obtain ⟨ox, od, J⟩ := ins_at I ha
  obtain ⟨oy, oe, J'⟩ := ins_at I hb
  obtain ⟨m, hF⟩ := I.fr
  refine PySem.W.binop_K (op := op) hF I.ok.mod.kin J J'.type hc hs hf ?_
  refine wpAny_mono (wpAny_call (run_fnR (us := [.ref a, .ref b]) (vs := [.ref a, .ref b]) F hr hx I (.cons rfl (.cons rfl .nil)) q)) (fun w s' z => ?_) fun _ _ x => x
  obtain ⟨z', H', I', rz, qz⟩ := z
  exact SlX.cmpback rz ⟨z', H', I', rz, qz⟩
/-- y in x, by __contains__ (its answer a bool) -/
def rIn (C : Addr) (sp : Sp) (E : XK) (neg : Bool) : R2 := fun y x H Q => ∃ a dx fs, x = .ref a ∧ H a = some (.ins C dx fs) ∧ sp [x, y] H (fun z H' => ∃ c, z = .bl c ∧ Q (.bl (if neg then !c else c)) H') E
theorem op_in (hs : PySem.W.findIn X.K (.ref C) "__contains__" = some (some (.ref g))) (hf : PySem.W.isFn X.K (.ref g) = true) (F : FnR X.prog X.w X.K X.mg X.base CX n g sp)
    (hr : Room n X.A) (hx : Passes CX X E) : OpR X (compareOp .In) (rIn C sp E false) := by
  intro pins s σ H y x u v Q I ry rx h
  obtain ⟨a, dx, fs, rfl, ha, q⟩ := h
  cases (show v = Value.ref a from rx)
  obtain ⟨ox, od, J⟩ := ins_at I ha
  obtain ⟨m, hF⟩ := I.fr
  refine PySem.W.in_K hF I.ok.mod.kin J hs hf ?_
  refine wpAny_mono (wpAny_call (run_fnR (us := [.ref a, u]) (vs := [.ref a, y]) F hr hx I (.cons rfl (.cons ry .nil)) q)) (fun w s' z => ?_) fun _ _ x => x
  obtain ⟨z', H', I', rz, c, rfl, qz⟩ := z
  cases (show w = Value.bool c from rz)
  exact wpAny_truthy_bool ⟨.bl c, H', I', rfl, qz⟩
theorem op_notIn (hs : PySem.W.findIn X.K (.ref C) "__contains__" = some (some (.ref g))) (hf : PySem.W.isFn X.K (.ref g) = true) (F : FnR X.prog X.w X.K X.mg X.base CX n g sp)
    (hr : Room n X.A) (hx : Passes CX X E) : OpR X (compareOp .NotIn) (rIn C sp E true) := by
  intro pins s σ H y x u v Q I ry rx h
  obtain ⟨a, dx, fs, rfl, ha, q⟩ := h
  cases (show v = Value.ref a from rx)
  obtain ⟨ox, od, J⟩ := ins_at I ha
  obtain ⟨m, hF⟩ := I.fr
  refine PySem.W.notIn_K hF I.ok.mod.kin J hs hf ?_
  refine wpAny_mono (wpAny_call (run_fnR (us := [.ref a, u]) (vs := [.ref a, y]) F hr hx I (.cons rfl (.cons ry .nil)) q)) (fun w s' z => ?_) fun _ _ x => x
  obtain ⟨z', H', I', rz, c, rfl, qz⟩ := z
  cases (show w = Value.bool c from rz)
  exact wpAny_truthy_bool ⟨.bl (!c), H', I', rfl, qz⟩
/-- len(x), by __len__ -/
def rLen (C : Addr) (sp : Sp) (E : XK) : List V → Hp → VK → Prop := fun xs H Q => ∃ a dx fs, xs = [V.ref a] ∧ H a = some (.ins C dx fs) ∧ sp [.ref a] H (fun z H' => ∃ i : Int, z = .int i ∧ 0 ≤ i ∧ i < 2 ^ 63 ∧ Q (.int i) H') E
theorem call_len (hs : PySem.W.findIn X.K (.ref C) "__len__" = some (some (.ref g))) (hf : PySem.W.isFn X.K (.ref g) = true) (F : FnR X.prog X.w X.K X.mg X.base CX n g sp)
    (hr : Room (n + 1) X.A) (hx : Passes CX X E) : CallR X (.builtin "len") (rLen C sp E) := by
  intro pins s σ H xs us Q I r h
  obtain ⟨a, dx, fs, rfl, ha, q⟩ := h
  obtain ⟨u, rfl, ru⟩ := r.one
  cases (show u = Value.ref a from ru)
  obtain ⟨ox, od, J⟩ := ins_at I ha
  obtain ⟨m, hF⟩ := I.fr
  refine PySem.W.len_K hF I.ok.mod.kin J hs hf (wpAny_mono (wpAny_call (SlX.run_at (us := [.ref a]) (ws := [.ref a]) F hr.in1 I.env0.in1 hx I (.cons rfl .nil) q)) (fun w s' z => ?_) fun _ _ x => x)
  obtain ⟨z', H', I', rz, i, rfl, h0, h1, qz⟩ := z
  obtain ⟨t, e⟩ := (show ∃ t, w = Value.int i t from rz)
  cases e
  exact ⟨⟨h0, h1⟩, .int i, H', I'.tok _, ⟨_, rfl⟩, qz⟩
end
end Ow

/-! set | set, set & set, set - set of sets of ints: the tables that are laid for them. -/
namespace So
open PySem PySem.Spec PyProof.Rows L2
/-- the masks that come when sets are merged -/
def M2 (m : Nat) : Prop := m ∈ [7, 15, 31, 63, 127]
/-- every place begins a run -/
theorem orbit {m : Nat} (hm : M2 m) : (∀ j ∈ List.range (m + 1), j ∈ (List.range (m + 1)).map (lcgN m)) ∧ lcgN m (m + 1) = lcgN m 0 := by
  simp only [M2, List.mem_cons, List.not_mem_nil, or_false] at hm
  rcases hm with rfl | rfl | rfl | rfl | rfl
  all_goals exact ⟨by decide +kernel, by decide +kernel⟩
theorem orbit_at {m : Nat} (hm : M2 m) {j : Nat} (hj : j ≤ m) : ∃ a ≤ m, lcgN m a = j := by
  have q := (orbit hm).1 j (by simp; omega)
  simp only [List.mem_map, List.mem_range] at q
  obtain ⟨a, ha, e⟩ := q
  exact ⟨a, by omega, e⟩
theorem meets {m : Nat} (hm : M2 m) (b : Nat) (hb : b < 2 ^ 64) {j : Nat} (hj : j ≤ m) : ∃ n, n < SetTable.turns m ∧ runI m b n = j := by
  obtain ⟨x, hx, ex⟩ := orbit_at hm (runI_le m b 12)
  obtain ⟨y, hy, ey⟩ := orbit_at hm hj
  have more : ∀ z, lcgI m (runI m b 12) z = lcgN m (x + z) := fun z => by rw [← ex, lcgN_add]
  have turn : ∀ z, lcgN m (m + 1 + z) = lcgN m z := fun z => by
    rw [← lcgN_add, (orbit hm).2, lcgN_add, Nat.zero_add]
  by_cases c : x ≤ y
  · refine ⟨12 + (y - x), by unfold SetTable.turns; omega, ?_⟩
    rw [runI_tail hb, more, show x + (y - x) = y by omega, ey]
  · refine ⟨12 + (m + 1 + y - x), by unfold SetTable.turns; omega, ?_⟩
    rw [runI_tail hb, more, show x + (m + 1 + y - x) = m + 1 + y by omega, turn, ey]
/-- where some run begins at a free place, a free place is found -/
theorem free_at {m : Nat} (owner : Array (Option Nat)) : ∀ (f n i b : Nat), i ≤ m → n < f → oAt owner (itL m i b n).1 = none →
    ∃ x, x ≤ m ∧ oAt owner x = none ∧ SetTable.layClean.free m owner f i b = some x
  | 0, n, _, _, _, h, _ => absurd h (Nat.not_lt_zero n)
  | f + 1, n, i, b, hi, h, z => by
    rw [free_succ]
    have re := runEnd_bd hi
    cases q : (List.range (SetTable.runEnd m i + 1 - i)).find? fun k => (oAt owner (i + k)).isNone with
    | some k =>
      have k1 := List.mem_range.mp (List.mem_of_find?_eq_some q)
      have k2 := List.find?_some q
      exact ⟨i + k, by omega, Option.isNone_iff_eq_none.mp k2, rfl⟩
    | none =>
      cases n with
      | zero =>
        have w := List.find?_eq_none.mp q 0 (by simp; omega)
        rw [Nat.add_zero] at w
        have z0 : oAt owner i = none := z
        rw [z0] at w
        exact absurd rfl w
      | succ n => exact free_at owner f n _ _ (Nat.le_of_lt_succ (Nat.mod_lt _ (by omega))) (by omega) z
/-- the elements laid so far: each of the first k has one place -/
structure Laid (m k : Nat) (owner : Array (Option Nat)) : Prop where
  sz : owner.size = m + 1
  pm : ((List.range (m + 1)).filterMap fun j => owner.getD j none).Perm (List.range k)
theorem fm_congr {α β : Type} {f g : α → Option β} : ∀ {l : List α}, (∀ x ∈ l, f x = g x) → l.filterMap f = l.filterMap g
  | [], _ => rfl
  | x :: l, h => by
    have ih := fm_congr (l := l) fun y hy => h y (List.mem_cons_of_mem _ hy)
    have e := h x List.mem_cons_self
    simp only [List.filterMap_cons, e, ih]
theorem put_perm {f g : Nat → Option Nat} {x k : Nat} (e : g x = some k) (e0 : f x = none) (o : ∀ y, y ≠ x → g y = f y) : ∀ l : List Nat, l.Nodup → x ∈ l → (l.filterMap g).Perm (k :: l.filterMap f)
  | [], _, h => by cases h
  | y :: l, nd, h => by
    rw [List.nodup_cons] at nd
    by_cases c : y = x
    · subst c
      rw [List.filterMap_cons_some e, List.filterMap_cons_none e0, fm_congr fun z hz => o z fun q => nd.1 (q ▸ hz)]
    · have ih := put_perm e e0 o l nd.2 ((List.mem_cons.mp h).resolve_left fun q => c q.symm)
      cases q : f y with
      | none => rw [List.filterMap_cons_none ((o y c).trans q), List.filterMap_cons_none q]; exact ih
      | some z => rw [List.filterMap_cons_some ((o y c).trans q), List.filterMap_cons_some q]; exact (ih.cons z).trans (.swap _ _ _)
theorem Laid.put {m k : Nat} {owner : Array (Option Nat)} (L : Laid m k owner) {x : Nat} (hx : x ≤ m) (e : oAt owner x = none) : Laid m (k + 1) (owner.setIfInBounds x (some k)) := by
  have xs : x < owner.size := by rw [L.sz]; omega
  refine ⟨by rw [Array.size_setIfInBounds, L.sz], ?_⟩
  refine (put_perm (x := x) (k := k) (f := fun j => owner.getD j none) ?_ ?_ (fun y ny => ?_) _ List.nodup_range (by simp; omega)).trans ?_
  · simp [Array.getD_eq_getD_getElem?, Array.getElem?_setIfInBounds, xs]
  · simpa [oAt, Array.getD_eq_getD_getElem?, xs] using e
  · simp only [Array.getD_eq_getD_getElem?, Array.getElem?_setIfInBounds, if_neg ny.symm]
  · refine (L.pm.cons k).trans ?_
    rw [List.range_succ]
    exact (List.perm_append_singleton k _).symm
theorem Laid.room {m k : Nat} {owner : Array (Option Nat)} (L : Laid m k owner) (hk : k ≤ m) : ∃ j, j ≤ m ∧ oAt owner j = none := by
  refine Classical.byContradiction fun c => ?_
  have full : ∀ l : List Nat, (∀ j ∈ l, j ≤ m) → (l.filterMap fun j => owner.getD j none).length = l.length := fun l => by
    induction l with
    | nil => exact fun _ => rfl
    | cons j l ih =>
      intro hl
      have hj := hl j List.mem_cons_self
      cases q : owner.getD j none with
      | none =>
        refine absurd ⟨j, hj, ?_⟩ c
        have js : j < owner.size := by rw [L.sz]; omega
        simpa [oAt, Array.getD_eq_getD_getElem?, js] using q
      | some z => rw [List.filterMap_cons_some (f := fun j => owner.getD j none) q, List.length_cons, List.length_cons, ih fun y hy => hl y (List.mem_cons_of_mem _ hy)]
  have q := full (List.range (m + 1)) fun j hj => by simp at hj; omega
  rw [L.pm.length_eq, List.length_range, List.length_range] at q
  omega
theorem lay_fold {m : Nat} (hm : M2 m) : ∀ (hs : List Int) (k : Nat) (owner : Array (Option Nat)), Laid m k owner → k + hs.length ≤ m →
    ∃ o2, hs.foldl (stepF m) (some (owner, k)) = some (o2, k + hs.length) ∧ Laid m (k + hs.length) o2
  | [], k, owner, L, _ => ⟨owner, rfl, L⟩
  | h :: hs, k, owner, L, hl => by
    rw [List.length_cons] at hl
    obtain ⟨j, hj, ej⟩ := L.room (by omega)
    obtain ⟨n, hn, en⟩ := meets hm (SetTable.bits h) (bits_lt h) hj
    obtain ⟨x, hx, ex, fx⟩ := free_at (m := m) owner (SetTable.turns m) n (SetTable.bits h % (m + 1)) (SetTable.bits h) (Nat.le_of_lt_succ (Nat.mod_lt _ (by omega))) hn (by rw [itL_run, en]; exact ej)
    obtain ⟨o2, e2, L2⟩ := lay_fold hm hs (k + 1) _ (L.put hx ex) (by omega)
    refine ⟨o2, ?_, by rw [List.length_cons, Nat.add_comm hs.length 1, ← Nat.add_assoc]; exact L2⟩
    rw [List.foldl_cons, stepF_some fx, e2, List.length_cons, Nat.add_comm hs.length 1, ← Nat.add_assoc]
/-- any elements are laid in a table of more places -/
theorem laid_ok {m : Nat} (hm : M2 m) {hs : Array Int} (hn : hs.size ≤ m) (fi mo : Nat) (led pl : Bool) :
    ∃ t order, SetTable.laid m fi mo led pl hs = some (t, order) ∧ order.toList.Perm (List.range hs.size) ∧ Ris t.place.toList ∧ t.place.size = hs.size ∧ t.dummies = #[] ∧ t.mask = m ∧ t.led = led := by
  obtain ⟨o2, e, L⟩ := lay_fold hm hs.toList 0 (Array.replicate (m + 1) none) ⟨by simp, by
    have z : ∀ l : List Nat, (l.filterMap fun j => (Array.replicate (m + 1) (none : Option Nat)).getD j none) = [] := fun l => by
      induction l with
      | nil => rfl
      | cons j l ih =>
        rw [List.filterMap_cons_none, ih]
        simp only [Array.getD_eq_getD_getElem?, Array.getElem?_replicate]
        split <;> rfl
    rw [z]
    exact .nil⟩ (by rw [Array.length_toList]; omega)
  rw [Array.length_toList, Nat.zero_add] at L
  have lc : SetTable.layClean m hs = some o2 := by rw [layClean_eq, e]; rfl
  have ris := ris_live (fun j => o2.getD j none) (List.range (m + 1)) (by unfold Ris; exact List.pairwise_lt_range)
  have snd : (((List.range (m + 1)).filterMap fun j => (o2.getD j none).map (j, ·)).map (·.2)) = (List.range (m + 1)).filterMap fun j => o2.getD j none := by
    rw [List.map_filterMap]
    refine fm_congr fun j _ => ?_
    cases o2.getD j none <;> rfl
  refine ⟨_, _, by unfold SetTable.laid; rw [lc]; rfl, ?_, ris.1, ?_, rfl, rfl, rfl⟩
  · show ((((List.range (m + 1)).filterMap fun j => (o2.getD j none).map (j, ·)).map (·.2))).Perm _
    rw [snd]
    exact L.pm
  · rw [List.size_toArray, List.length_map, ← List.length_map (f := Prod.snd), snd, L.pm.length_eq, List.length_range]
end So
namespace So
open PySem PySem.Spec PyProof.Rows L2
/-- what a table holds: S its members, n their number -/
structure Tab (w : World) (S : Int → Bool) (n : Nat) (es : Array (Int × Value)) (t : SetTable) : Prop where
  g : ∀ e ∈ es.toList, GoodE e
  nd : (es.toList.map keyOf).Nodup
  mem : ∀ k, S k = true ↔ k ∈ es.toList.map keyOf
  bd : es.size < scanBound
  fit : t.fits es.size = true
  num : es.size = n
  ris : Ris t.place.toList
  led : w.params.followText "set-order" = true ∨ t.led = true
/-- a set's object at an address -/
def At (h : Heap) (a : Addr) (es : Array (Int × Value)) (ep : Nat) (t : SetTable) : Prop := ∃ o, h.get? a = some o ∧ o.ExactSet ∧ o.data = .set es ep t
theorem setR_iff {w : World} {h : Heap} {a : Addr} {S : Int → Bool} {n : Nat} : SetR w h a S n ↔ ∃ es ep t, At h a es ep t ∧ Tab w S n es t := by
  constructor
  · rintro ⟨o, es, ep, t, h1, h2, h3, h4, h5, h6, h7, h8, h9, hA, hB⟩
    exact ⟨es, ep, t, ⟨o, h1, h2, h3⟩, ⟨h4, h5, h6, h7, h8, h9, hA, hB⟩⟩
  · rintro ⟨es, ep, t, ⟨o, h1, h2, h3⟩, T⟩
    exact ⟨o, es, ep, t, h1, h2, h3, T.g, T.nd, T.mem, T.bd, T.fit, T.num, T.ris, T.led⟩
theorem fits_iff {t : SetTable} {n : Nat} : t.fits n = true ↔ t.place.size = n ∧ t.place.size + t.dummies.size ≤ t.mask := by
  unfold SetTable.fits SetTable.fill
  rw [Bool.and_eq_true, beq_iff_eq, decide_eq_true_eq]
theorem Tab.turn {w : World} {S : Int → Bool} {n : Nat} {es es' : Array (Int × Value)} {t t' : SetTable} (T : Tab w S n es t) (p : es'.toList.Perm es.toList) (f : t'.fits es'.size = true) (r : Ris t'.place.toList)
    (l : w.params.followText "set-order" = true ∨ t'.led = true) : Tab w S n es' t' := by
  have z : es'.size = es.size := by rw [← Array.length_toList, p.length_eq, Array.length_toList]
  exact ⟨fun e he => T.g e (p.mem_iff.mp he), (p.map keyOf).nodup_iff.mpr T.nd, fun k => (T.mem k).trans (p.map keyOf).mem_iff.symm, by rw [z]; exact T.bd, f, by rw [z]; exact T.num, r, l⟩
theorem pick_all {α : Type} : ∀ l : List α, (List.range l.length).filterMap (fun i => l[i]?) = l
  | [] => rfl
  | x :: l => by
    rw [List.length_cons, List.range_succ_eq_map, List.filterMap_cons_some (f := fun i => (x :: l)[i]?) (b := x) rfl, List.filterMap_map]
    exact congrArg (x :: ·) (pick_all l)
theorem pick_perm {es : Array (Int × Value)} {order : Array Nat} (h : order.toList.Perm (List.range es.size)) : (order.filterMap (es[·]?)).toList.Perm es.toList := by
  have q := h.filterMap fun i => es.toList[i]?
  rw [← Array.length_toList, pick_all] at q
  rw [Array.toList_filterMap]
  simpa using q
section
variable {P : Program} {w : World} {A : Around} {E : Value → Shared → Prop} {s : Shared} {a : Addr} {S : Int → Bool} {n : Nat} {es : Array (Int × Value)} {ep : Nat} {t : SetTable}
/-- the sizes that a table grows to -/
theorem sizes {k : Nat} (h : k < 64) : M2 (SetTable.sizeAbove (k * 2) - 1) ∧ k ≤ SetTable.sizeAbove (k * 2) - 1 ∧ SetTable.sizeAbove (k * 2) ≤ 128 := by
  have q : ∀ k ∈ List.range 64, (SetTable.sizeAbove (k * 2) - 1) ∈ [7, 15, 31, 63, 127] ∧ k ≤ SetTable.sizeAbove (k * 2) - 1 ∧ SetTable.sizeAbove (k * 2) ≤ 128 := by decide +kernel
  exact q k (List.mem_range.mpr h)
theorem relay {k : Nat} (hk : k < 64) (hn : n ≤ k) (a0 : At s.heap a es ep t) (T : Tab w S n es t) {Q : Unit → Shared → Prop}
    (q : ∀ h' es' t', Heap.SameBut a s.heap h' → At h' a es' (ep + 1) t' → Tab w S n es' t' → t'.dummies = #[] → t'.mask = SetTable.sizeAbove (k * 2) - 1 → Q () { s with heap := h' }) :
    wpAny (model P w) A (setRelay a (k * 2)) Q E s := by
  obtain ⟨o, ho, hx, hd⟩ := a0
  obtain ⟨m2, km, w128⟩ := sizes hk
  obtain ⟨t', order, e, pm, ris, sz, dm, mk, ld⟩ := laid_ok m2 (hs := es.map (·.1)) (by rw [Array.size_map, T.num]; omega) t.finger (t.movedTo (SetTable.sizeAbove (k * 2) - 1)) t.led t.plain
  rw [Array.size_map] at pm sz
  have pp := pick_perm pm
  have zz : (order.filterMap (es[·]?)).size = es.size := by rw [← Array.length_toList, pp.length_eq, Array.length_toList]
  have e' : t.relaid (es.map (·.1)) (k * 2) = some (t', order) := e
  have sl := sizeLine_eq
  rw [setRelay_eq]
  refine wpAny_bind (wpAny_setState_of ho hd T.fit ?_)
  dsimp only
  refine wp_if_neg (by omega) ?_
  try refine wpAny_bind (wpAny_pure ?_)
  rw [e']
  dsimp only
  refine wpAny_bind (wp_if_neg (by rw [zz]; simp) ?_)
  try refine wpAny_bind (wpAny_pure ?_)
  refine wpAny_pure (wpAny_storeSet_of ho hd ?_ (by rw [zz]; exact fits_of_scanBound T.bd))
  exact q _ _ _ (Heap.SameBut.update ..) ⟨_, store_at ho hd, ⟨hx.1, hx.2.1, hx.2.2⟩, rfl⟩ (T.turn pp (fits_iff.mpr ⟨by rw [sz, zz], by rw [sz, dm, mk, T.num]; simp; omega⟩) ris (T.led.imp id fun z => by rw [ld]; exact z)) dm mk
theorem room {more : Nat} (hk : n + more < 64) (a0 : At s.heap a es ep t) (T : Tab w S n es t) {Q : Unit → Shared → Prop}
    (q : ∀ h' es' ep' t', Heap.SameBut a s.heap h' → At h' a es' ep' t' → Tab w S n es' t' → (t' = t ∧ es' = es ∧ (t.fill + more) * 5 < t.mask * 3 ∨ t'.dummies = #[] ∧ t'.mask = SetTable.sizeAbove ((n + more) * 2) - 1) → Q () { s with heap := h' }) :
    wpAny (model P w) A (setRoomFor a more) Q E s := by
  obtain ⟨o, ho, hx, hd⟩ := id a0
  have ps := (fits_iff.mp T.fit).1
  unfold setRoomFor
  refine wpAny_bind (wpAny_setState_of ho hd T.fit ?_)
  dsimp only
  unfold SetTable.roomFor
  by_cases c : (t.fill + more) * 5 ≥ t.mask * 3
  · rw [if_pos c]
    dsimp only
    rw [ps, T.num]
    exact relay hk (by omega) a0 T fun h' es' t' sb a1 T1 dm mk => q h' es' _ t' sb a1 T1 (.inr ⟨dm, mk⟩)
  · rw [if_neg c]
    exact wpAny_pure (q s.heap es ep t (Heap.SameBut.refl ..) a0 T (.inl ⟨rfl, rfl, by omega⟩))
end
end So
namespace So
open PySem PySem.Spec PyProof.Rows L2
section
variable {P : Program} {w : World} {A : Around} {E : Value → Shared → Prop} {s : Shared} {a : Addr} {S : Int → Bool} {n : Nat} {es : Array (Int × Value)} {ep : Nat} {t : SetTable}
/-- no element of sets of ints is asked for its own == -/
theorem quiet : ∀ {l : List Addr} {Q : Bool → Shared → Prop}, (∀ a ∈ l, ∃ S n, SetR w s.heap a S n) → Q true s → wpAny (model P w) A (setsQuiet l) Q E s := by
  intro l Q hl q
  unfold setsQuiet
  refine wpAny_bind (wpAny_forIn_list _ (fun rest r s' => r.1 = none ∧ s' = s ∧ ∀ a ∈ rest, ∃ S n, SetR w s.heap a S n) _ (fun a rest b s' hI => ?_) (fun b s' hI => ?_) l _ ⟨rfl, rfl, hl⟩)
  · obtain ⟨e0, rfl, hr⟩ := hI
    obtain ⟨S, n, R⟩ := hr a List.mem_cons_self
    obtain ⟨es, ep, t, ⟨o, ho, hx, hd⟩, T⟩ := setR_iff.mp R
    refine wpAny_bind (wpAny_setEntries_of ho hd T.fit ?_)
    rw [← Array.forIn_toList]
    refine wpAny_bind (wpAny_forIn_list _ (fun rest r s2 => r.1 = none ∧ s2 = s' ∧ ∀ e ∈ rest, GoodE e) _ (fun x more c s2 hJ => ?_) (fun c s2 hJ => ?_) es.toList _ ⟨rfl, rfl, T.g⟩)
    · obtain ⟨e1, rfl, hg⟩ := hJ
      obtain ⟨k, tk, ek, _⟩ := hg x List.mem_cons_self
      obtain ⟨x1, x2⟩ := x
      cases (show x2 = .int k tk from ek)
      exact wpAny_pure ⟨rfl, rfl, fun e he => hg e (List.mem_cons_of_mem _ he)⟩
    · obtain ⟨e1, rfl, _⟩ := hJ
      dsimp only
      rw [e1]
      exact wpAny_pure ⟨rfl, rfl, fun a ha => hr a (List.mem_cons_of_mem _ ha)⟩
  · obtain ⟨e0, rfl, _⟩ := hI
    dsimp only
    rw [e0]
    exact wpAny_pure q
theorem walk_es (a0 : At s.heap a es ep t) (T : Tab w S n es t) (hp : w.params.followText "set-order" = true ∨ t.plain = true ∨ es.size ≤ 1) {Q : Array (Int × Value) → Shared → Prop} (q : ∀ es' : Array (Int × Value), es'.toList.Perm es.toList → Q es' s) :
    wpAny (model P w) A (setWalk a) Q E s := by
  obtain ⟨o, ho, hx, hd⟩ := id a0
  unfold setWalk
  refine wpAny_bind (wpAny_setState_of ho hd T.fit ?_)
  dsimp only
  refine wpAny_bind (wpAny_byText ?_)
  by_cases bt : w.params.followText "set-order" = true
  · refine wp_if_pos bt ?_
    exact wpAny_bind (wpAny_askSetting (wpAny_pure (q _ (L2.pick_perm _ _))))
  · refine wp_if_neg bt ?_
    have pl := hp.resolve_left bt
    have ld := T.led.resolve_left bt
    have dr : (!t.plain && decide (es.size > 1)) = false := by
      rcases pl with z | z
      · rw [z]; rfl
      · rw [decide_eq_false (by omega), Bool.and_false]
    refine wp_if_neg (fun z => ?_) ?_
    · have z' : (!t.plain && decide (es.size > 1)) = true := z
      rw [dr] at z'
      cases z'
    · have ml : (if (!t.led && decide (es.size > 1)) = true then unsupported "set:maker-not-led" else pure ()) = (pure () : Sem Unit) := by
        rw [ld]
        rfl
      exact wpAny_bind (wpAny_of_eq ml (wpAny_pure (q es (.refl _))))
theorem walk_unseen {l : List Addr} {r : Addr} {S' : Int → Bool} {n' : Nat} (a0 : At s.heap a es ep t) (T : Tab w S n es t) (R : SetR w s.heap r S' n') (ne : a ≠ r) (hl : ∀ b ∈ l, ∃ S n, SetR w s.heap b S n) {Q : Array (Int × Value) → Shared → Prop}
    (q : ∀ h' (es' : Array (Int × Value)), Heap.SameBut r s.heap h' → SetR w h' r S' n' → es'.toList.Perm es.toList → Q es' { s with heap := h' }) : wpAny (model P w) A (setWalkUnseen a l (some r)) Q E s := by
  obtain ⟨o, ho, hx, hd⟩ := id a0
  unfold setWalkUnseen
  refine wpAny_bind (wpAny_setState_of ho hd T.fit ?_)
  dsimp only
  refine wpAny_bind (wpAny_byText ?_)
  have plain : ∀ {Q1 : Array (Int × Value) → Shared → Prop}, Q1 = Q → (w.params.followText "set-order" = true ∨ t.plain = true ∨ es.size ≤ 1) → wpAny (model P w) A (setWalk a) Q1 E s := fun e hp => by
    subst e
    exact walk_es a0 T hp fun es' p => q s.heap es' (Heap.SameBut.refl ..) R p
  by_cases c : (w.params.followText "set-order" || t.led && t.plain || decide (es.size ≤ 1)) = true
  · refine wp_if_pos c (plain rfl ?_)
    rw [Bool.or_eq_true, Bool.or_eq_true, Bool.and_eq_true, decide_eq_true_eq] at c
    rcases c with (c | c) | c
    · exact .inl c
    · exact .inr (.inl c.2)
    · exact .inr (.inr c)
  · refine wp_if_neg c (wpAny_bind (quiet (fun b hb => ?_) ?_))
    · rcases List.mem_cons.mp hb with rfl | hb
      · exact ⟨S, n, setR_iff.mpr ⟨es, ep, t, a0, T⟩⟩
      · exact hl b hb
    refine wp_if_neg (by simp) ?_
    refine wpAny_bind (wpAny_rule ?_)
    obtain ⟨er, pr, tr, ⟨o2, ho2, hx2, hd2⟩, Tr⟩ := setR_iff.mp R
    refine wpAny_bind (wpAny_setState_of ho2 hd2 Tr.fit ?_)
    dsimp only
    by_cases d : (tr.led && !t.led || tr.plain && !t.plain) = true
    · refine wp_if_pos d (wpAny_bind (wpAny_storeSet_of ho2 hd2 (wpAny_pure (q _ es (Heap.SameBut.update ..) (setR_iff.mpr ⟨_, _, _, ⟨_, store_at ho2 hd2, ⟨hx2.1, hx2.2.1, hx2.2.2⟩, rfl⟩, Tr.turn (.refl _) Tr.fit Tr.ris ?_⟩) (.refl _))) (fits_of_scanBound Tr.bd)))
      rcases T.led with z | z
      · exact .inl z
      · exact Tr.led.imp id fun y => by
          show (tr.led && t.led) = true
          rw [y, z]
          rfl
    · exact wp_if_neg d (wpAny_pure (q s.heap es (Heap.SameBut.refl ..) R (.refl _)))
end
end So
namespace So
open PySem PySem.Spec PyProof.Rows L2
theorem road_empty {t u : SetTable} (h : t.road u ≠ .oneByOne) : t.place.size = 0 ∧ t.dummies.size = 0 := by
  unfold SetTable.road SetTable.fill at h
  by_cases c : (t.place.size + t.dummies.size != 0) = true
  · rw [if_pos c] at h
    exact absurd rfl h
  · simp at c
    simpa using c
section
variable {P : Program} {w : World} {A : Around} {E : Value → Shared → Prop} {s : Shared} {r o : Addr} {S U : Int → Bool} {n m : Nat} {er eo : Array (Int × Value)} {pr po : Nat} {tr to : SetTable}
theorem At.but {h h' : Heap} {a : Addr} (x : At h o eo po to) (ne : o ≠ a) (sb : Heap.SameBut a h h') : At h' o eo po to := by
  obtain ⟨b, hb, hx⟩ := x
  exact ⟨b, (sb.2 o ne).trans hb, hx⟩
theorem merge (ne : r ≠ o) (ar : At s.heap r er pr tr) (Tr : Tab w S n er tr) (ao : At s.heap o eo po to) (To : Tab w U m eo to) (hz : n = 0 → M2 tr.mask) (few : n + m < 64) {each : Sem Unit}
    (he : ∀ (h' : Heap) {Q' : Unit → Shared → Prop}, Heap.SameBut r s.heap h' → Q' () { s with heap := h' } → wpAny (model P w) A each Q' E { s with heap := h' }) {Q : Unit → Shared → Prop}
    (q : ∀ h' c, (m = 0 → h' = s.heap) → Heap.SameBut r s.heap h' → c ≤ n + m → SetR w h' r (fun k => S k || U k) c → Q () { s with heap := h' }) : wpAny (model P w) A (setMerge r o each) Q E s := by
  obtain ⟨oo, ho, hxo, hdo⟩ := id ao
  unfold setMerge
  refine wp_if_neg (by simp [ne]) ?_
  refine wpAny_bind (wpAny_setState_of ho hdo To.fit ?_)
  dsimp only
  by_cases em : eo.isEmpty = true
  · refine wp_if_pos em (wpAny_pure (q s.heap n (fun _ => rfl) (Heap.SameBut.refl ..) (by omega) ((setR_iff.mpr ⟨_, _, _, ar, Tr⟩).congr fun k => ?_)))
    have z : U k = false := by
      refine Bool.eq_false_iff.mpr fun y => ?_
      have mm := (To.mem k).mp y
      rw [Array.isEmpty_iff.mp em] at mm
      cases mm
    rw [z, Bool.or_false]
  refine wp_if_neg em ?_
  have zo := To.num
  have some_ : ∀ {h' : Heap}, m = 0 → h' = s.heap := fun z => absurd (by rw [Array.isEmpty_iff_size_eq_zero]; omega) em
  refine wpAny_bind (room (n := n) (more := eo.size) (by omega) ar Tr fun h1 e1 p1 t1 sb1 a1 T1 cd => ?_)
  obtain ⟨o1, ho1, hx1, hd1⟩ := id a1
  refine wpAny_bind (wpAny_setState_of ho1 hd1 T1.fit ?_)
  dsimp only
  have fresh : t1.road to ≠ .oneByOne → n = 0 ∧ t1.dummies = #[] ∧ M2 t1.mask ∧ m ≤ t1.mask ∧ ∀ k, S k = false := fun nr => by
    obtain ⟨z1, z2⟩ := road_empty nr
    have n0 : n = 0 := by rw [← T1.num, ← (fits_iff.mp T1.fit).1]; exact z1
    refine ⟨n0, Array.eq_empty_of_size_eq_zero z2, ?_, ?_, fun k => Bool.eq_false_iff.mpr fun y => ?_⟩
    · rcases cd with ⟨rfl, _, _⟩ | ⟨_, mk⟩
      · exact hz n0
      · rw [mk]
        exact (sizes (k := n + eo.size) (by omega)).1
    · rcases cd with ⟨rfl, _, lt⟩ | ⟨_, mk⟩
      · unfold SetTable.fill at lt
        omega
      · rw [mk]
        have := (sizes (k := n + eo.size) (by omega)).2.1
        omega
    · have mm := (T1.mem k).mp y
      rw [Array.eq_empty_of_size_eq_zero (T1.num.trans n0)] at mm
      cases mm
  have led2 : w.params.followText "set-order" = true ∨ (t1.led && to.led) = true := by
    rcases To.led with z | z
    · exact .inl z
    · exact T1.led.imp id fun y => by rw [y, z]; rfl
  cases rd : t1.road to with
  | slotForSlot =>
    obtain ⟨n0, d0, m2, mm, sf⟩ := fresh (by rw [rd]; exact fun z => nomatch z)
    dsimp only
    refine wpAny_storeSet_of ho1 hd1 (q _ m some_ (sb1.trans (Heap.SameBut.update ..)) (by omega) (setR_iff.mpr ⟨_, _, _, ⟨_, store_at ho1 hd1, ⟨hx1.1, hx1.2.1, hx1.2.2⟩, rfl⟩, ?_⟩)) (fits_of_scanBound To.bd)
    have T2 := To.turn (es' := eo) (t' := { to with finger := t1.finger, led := t1.led && to.led, moves := t1.moves, plain := t1.plain && to.plain }) (.refl _) To.fit To.ris led2
    exact ⟨T2.g, T2.nd, fun k => by rw [sf k, Bool.false_or]; exact T2.mem k, T2.bd, T2.fit, T2.num, T2.ris, T2.led⟩
  | clean =>
    obtain ⟨n0, d0, m2, mm, sf⟩ := fresh (by rw [rd]; exact fun z => nomatch z)
    dsimp only
    obtain ⟨t', order, e, pm, ris, sz, dm, mk, ld⟩ := laid_ok m2 (hs := eo.map (·.1)) (by rw [Array.size_map]; omega) t1.finger t1.moves (t1.led && to.led) (t1.plain && to.plain)
    rw [Array.size_map] at pm sz
    have pp := So.pick_perm pm
    have zz : (order.filterMap (eo[·]?)).size = eo.size := by rw [← Array.length_toList, pp.length_eq, Array.length_toList]
    rw [e]
    refine wpAny_bind (wp_if_neg (by rw [zz]; simp) (wpAny_pure ?_))
    have T2 := To.turn (t' := t') pp (fits_iff.mpr ⟨by rw [sz, zz], by rw [sz, dm, mk]; simp; omega⟩) ris (by rw [ld]; exact led2)
    refine wpAny_storeSet_of ho1 hd1 (q _ m some_ (sb1.trans (Heap.SameBut.update ..)) (by omega) (setR_iff.mpr ⟨_, _, _, ⟨_, store_at ho1 hd1, ⟨hx1.1, hx1.2.1, hx1.2.2⟩, rfl⟩, ?_⟩)) (by rw [zz]; exact fits_of_scanBound To.bd)
    exact ⟨T2.g, T2.nd, fun k => by rw [sf k, Bool.false_or]; exact T2.mem k, T2.bd, T2.fit, T2.num, T2.ris, T2.led⟩
  | oneByOne =>
    dsimp only
    have R1 : SetR w h1 r S n := setR_iff.mpr ⟨_, _, _, a1, T1⟩
    refine wpAny_bind (walk_unseen (s := { s with heap := h1 }) (ao.but (Ne.symm ne) sb1) To R1 (Ne.symm ne) (fun b hb => ?_) fun h2 e2 sb2 R2 p2 => ?_)
    · cases (List.mem_singleton.mp hb)
      exact ⟨S, n, R1⟩
    rw [← Array.forIn_toList]
    have sb02 := sb1.trans sb2
    have g2 : ∀ e ∈ e2.toList, GoodE e := fun e z => To.g e (p2.mem_iff.mp z)
    have l2 : e2.toList.length = m := by rw [p2.length_eq, Array.length_toList, zo]
    have sc : scanBound = 4096 := rfl
    refine wpAny_bind (wpAny_forIn_list _ (fun rest _ s' => ∃ h' c done, s' = { s with heap := h' } ∧ Heap.SameBut r s.heap h' ∧ e2.toList = done ++ rest ∧ c + rest.length ≤ n + m ∧ SetR w h' r (fun k => S k || decide (k ∈ done.map keyOf)) c)
      _ (fun x rest b s' hI => ?_) (fun b s' hI => ?_) e2.toList _ ⟨h2, n, [], rfl, sb02, rfl, by omega, R2.congr fun k => by simp⟩)
    · obtain ⟨h', c, done, rfl, sb', sp, cn, R'⟩ := hI
      obtain ⟨k, tk, ek, hk⟩ := g2 x (by rw [sp]; simp)
      obtain ⟨x1, x2⟩ := x
      cases (show x2 = .int k tk from ek)
      cases (show x1 = hashInt k from hk)
      rw [List.length_cons] at cn
      refine wpAny_bind (wpAny_holding (setR_add_hashed (P := P) (k := k) R' (by omega) fun h3 sb3 R3 => ?_))
      have sb4 := sb'.trans sb3
      refine wpAny_bind (he h3 sb4 ?_)
      obtain ⟨o4, ho4, hx4, hd4⟩ := ao.but (Ne.symm ne) sb4
      refine wpAny_bind (wpAny_setState_of ho4 hd4 To.fit ?_)
      refine wp_if_neg (by simp) (wpAny_pure ⟨h3, _, done ++ [(hashInt k, .int k tk)], rfl, sb4, by rw [sp, List.append_assoc]; rfl, ?_, R3.congr fun j => ?_⟩)
      · split <;> omega
      · rw [List.map_append, List.map_singleton, show keyOf (hashInt k, Value.int k tk) = k from rfl]
        rw [Bool.or_assoc, ← Bool.decide_or]
        simp only [List.mem_append, List.mem_singleton]
    · obtain ⟨h', c, done, rfl, sb', sp, cn, R'⟩ := hI
      rw [List.append_nil] at sp
      refine wpAny_pure (q h' c some_ sb' (by simpa using cn) (R'.congr fun k => ?_))
      congr 1
      rw [← sp]
      exact Bool.eq_iff_iff.mpr (((To.mem k).trans (p2.map keyOf).mem_iff.symm).trans decide_eq_true_iff.symm)
end
end So
namespace So
open PySem PySem.Spec PyProof.Rows L2
theorem slot_or : Slot "set" "__or__" "set.__or__" := .of (owner := "set") (n := "__or__") (by rw [typeLookup_type, builtinLookup_eq_fast]; kernel_rfl) (by decide +kernel) (by decide +kernel) (by decide +kernel) (by first | exact .inl (by decide +kernel) | exact .inr (by decide +kernel)) (by rw [isSubtype_type]; kernel_rfl)
theorem entry_or : entryFor table "set.__or__" = some Builtin.«frozenset.__or__» := entryFor_alias (id' := "frozenset.__or__") (by kernel_rfl) rfl (by decide +kernel) (by kernel_rfl)
theorem args_or (a b : Value) : argsOk "set.__or__" ⟨[a, b], []⟩ := by unfold argsOk; kernel_rfl
theorem fill_or : fillsNumberSlot (.type "set") "or" = pure true := fillsNumberSlot_of slot_or.lookup (by decide +kernel) (r := some (.builtin "set.__ror__")) (by rw [typeLookup_type, builtinLookup_eq_fast]; kernel_rfl)
section
variable {P : Program} {w : World} {A : Around} {E : Value → Shared → Prop} {s : Shared} {a b : Addr} {S U : Int → Bool} {n m : Nat}
theorem SetR.typ {h : Heap} (R : SetR w h a S n) : ∃ o, h.get? a = some o ∧ o.cls = .type "set" := by
  obtain ⟨o, es, ep, t, h1, h2, _⟩ := R
  exact ⟨o, h1, h2.1⟩
theorem anySet (ty : s.TypeIs (.ref a) "set") {Q : Bool → Shared → Prop} (q : Q true s) : wpAny (model P w) A (Builtin.Frozenset.isAnySet (.ref a)) Q E s := by
  unfold Builtin.Frozenset.isAnySet orM
  exact wpAny_bind (wpAny_isInstance (b := true) ty sub_set_self (wpAny_pure q))
theorem base (ty : s.TypeIs (.ref a) "set") {Q : Value → Shared → Prop} (q : Q (.type "set") s) : wpAny (model P w) A (Builtin.Frozenset.baseOf a) Q E s := by
  unfold Builtin.Frozenset.baseOf
  exact wpAny_bind (wpAny_isInstance (b := true) ty sub_set_self (wpAny_pure q))
def emptyO (w : World) : Obj := { cls := .type "set", dict := none, data := .set #[] 0 (.fresh 0 0 (!w.params.followText "set-order")) }
theorem new {Q : Value → Shared → Prop} (q : Q (.ref s.heap.objs.size) { s with heap := s.heap.push (emptyO w) }) : wpAny (model P w) A (newSet (.type "set")) Q E s := by
  unfold newSet
  refine wpAny_bind (wpAny_byText ?_)
  show wpAny _ _ (newObj (.type "set") _) _ _ _
  simp only [newObj]
  exact wpAny_bind (wpAny_alloc (wpAny_pure q))
theorem nodup_le : ∀ {l k : List Int}, l.Nodup → (∀ x ∈ l, x ∈ k) → l.length ≤ k.length
  | [], _, _, _ => Nat.zero_le _
  | x :: l, k, nd, h => by
    rw [List.nodup_cons] at nd
    have hx := h x List.mem_cons_self
    have ih := nodup_le (k := k.erase x) nd.2 fun y hy => (List.mem_erase_of_ne (by intro z; subst z; exact nd.1 hy)).mpr (h y (List.mem_cons_of_mem _ hy))
    have e := List.length_erase_of_mem hx
    have p := List.length_pos_of_mem hx
    rw [List.length_cons]
    omega
theorem Tab.le {S' : Int → Bool} {n' : Nat} {es es' : Array (Int × Value)} {t t' : SetTable} (T : Tab w S n es t) (T' : Tab w S' n' es' t') (h : ∀ k, S k = true → S' k = true) : n ≤ n' := by
  have q := nodup_le T.nd fun x hx => (T'.mem x).mp (h x ((T.mem x).mpr hx))
  rw [List.length_map, List.length_map, Array.length_toList, Array.length_toList, T.num, T'.num] at q
  exact q
def Old (h h' : Heap) : Prop := ∀ x o, x < h.objs.size → h.get? x = some o → h'.get? x = some o
theorem Old.of {h h' : Heap} {o : Obj} (sb : Heap.SameBut h.objs.size (h.push o) h') : Old h h' := fun x u lt e => (sb.2 x (Nat.ne_of_lt lt)).trans (Heap.get?_push_of_some _ e)
theorem At.old {h h' : Heap} {es : Array (Int × Value)} {ep : Nat} {t : SetTable} (x : At h a es ep t) (o : Old h h') : At h' a es ep t := by
  obtain ⟨u, h1, h2⟩ := x
  exact ⟨u, o a u (Heap.lt_size h1) h1, h2⟩
theorem fresh_at {h : Heap} : At (h.push (emptyO w)) h.objs.size #[] 0 (.fresh 0 0 (!w.params.followText "set-order")) ∧ Tab w (fun _ => false) 0 #[] (.fresh 0 0 (!w.params.followText "set-order")) := by
  refine ⟨⟨_, Heap.get?_push_size _ rfl, ⟨rfl, rfl, rfl⟩, rfl⟩, ⟨fun e he => by simp at he, by simp, fun k => by simp, by decide, by rfl, rfl, List.Pairwise.nil, ?_⟩⟩
  cases w.params.followText "set-order"
  · exact .inr rfl
  · exact .inl rfl
theorem copy (R : SetR w s.heap a S n) (few : n < 64) {Q : Value → Shared → Prop}
    (q : ∀ h es ep t, At h s.heap.objs.size es ep t → Tab w S n es t → (n = 0 → M2 t.mask) → Old s.heap h → Q (.ref s.heap.objs.size) { s with heap := h }) : wpAny (model P w) A (Builtin.Frozenset.copyOf a) Q E s := by
  obtain ⟨es, ep, t, a0, T⟩ := setR_iff.mp R
  obtain ⟨o, ho, hx, _⟩ := id a0
  have lt := Heap.lt_size ho
  unfold Builtin.Frozenset.copyOf
  refine wpAny_bind (base ⟨o, ho, hx.1⟩ (wpAny_bind (new (wpAny_bind ?_))))
  unfold Builtin.Frozenset.addrOf
  refine wpAny_pure (wpAny_bind ?_)
  obtain ⟨f1, f2⟩ := fresh_at (w := w) (h := s.heap)
  have a1 : At (s.heap.push (emptyO w)) a es ep t := by
    obtain ⟨u, h1, h2⟩ := a0
    exact ⟨u, Heap.get?_push_of_some _ h1, h2⟩
  refine merge (s := { s with heap := s.heap.push (emptyO w) }) (Nat.ne_of_gt lt) f1 f2 a1 T (fun _ => show (7 : Nat) ∈ [7, 15, 31, 63, 127] by decide) (by omega) (fun h' Q' _ z => wpAny_pure z) fun h' c z sb cn R' => wpAny_pure ?_
  obtain ⟨es', ep', t', b0, T'⟩ := setR_iff.mp (R'.congr (S' := S) fun k => by simp)
  have e : c = n := by
    have := T.le T' fun _ h => h
    omega
  subst e
  refine q h' es' ep' t' b0 T' (fun n0 => ?_) (Old.of sb)
  have hh := z n0
  subst hh
  obtain ⟨u, u1, _, u2⟩ := b0
  obtain ⟨v, v1, _, v2⟩ := f1
  cases u1.symm.trans v1
  cases u2.symm.trans v2
  exact show (7 : Nat) ∈ [7, 15, 31, 63, 127] by decide
theorem or_sets (ab : a ≠ b) (R : SetR w s.heap a S n) (R2 : SetR w s.heap b U m) (few : n + m < 64) {Q : Value → Shared → Prop}
    (q : ∀ (h : Heap) c, c ≤ n + m → SetR w h s.heap.objs.size (fun k => S k || U k) c → Old s.heap h → Q (.ref s.heap.objs.size) { s with heap := h }) :
    wpAny (model P w) A (binaryOp .BitOr (.ref a) (.ref b)) Q E s := by
  obtain ⟨oa, ha, ca⟩ := So.SetR.typ R
  obtain ⟨ob, hb, cb⟩ := So.SetR.typ R2
  refine wpAny_binaryOp_same (T := "set") ⟨oa, ha, ca⟩ ⟨ob, hb, cb⟩ fill_or slot_or (wpAny_call_entry slot_or ⟨oa, ha, ca⟩ entry_or ?_ (args_or _ _))
  show wpAny _ _ (Builtin.Frozenset.slot1 "__or__" _ >>= _) _ _ _
  refine wpAny_bind (wpAny_bind (m := slotArgs "__or__" 1 _) (wpAny_pure (wpAny_pure ?_)))
  dsimp only
  simp only [Bool.false_eq_true, if_false]
  unfold andM
  refine wpAny_bind (wpAny_bind (anySet ⟨oa, ha, ca⟩ (anySet ⟨ob, hb, cb⟩ ?_)))
  refine wp_if_neg (by simp) ?_
  unfold Builtin.Frozenset.addrOf
  refine wpAny_bind (wpAny_pure (wpAny_bind ?_))
  show wpAny _ _ (Builtin.Frozenset.copyOf a >>= _) _ _ _
  refine wpAny_bind (copy R (by omega) fun h es ep t a1 T hz old => ?_)
  obtain ⟨eb, pb, tb, b0, Tb⟩ := setR_iff.mp R2
  have b1 := b0.old old
  obtain ⟨ob1, hb1, hx1, hd1⟩ := id b1
  have lt := Heap.lt_size hb
  dsimp only
  refine wp_if_pos (by simp [ab.symm]) ?_
  unfold Builtin.Frozenset.addrOf
  refine wpAny_bind (wpAny_pure (wpAny_bind (wpAny_holding ?_)))
  unfold Builtin.Frozenset.updateFrom
  refine wpAny_bind (anySet ⟨ob1, hb1, hx1.1⟩ ?_)
  refine wp_if_pos rfl ?_
  unfold Builtin.Frozenset.addrOf
  refine wpAny_bind (wpAny_pure ?_)
  unfold Builtin.Frozenset.merge
  refine wpAny_bind (wpAny_setEpoch_of hb1 hd1 Tb.fit ?_)
  refine merge (s := { s with heap := h }) (Nat.ne_of_gt lt) a1 T b1 Tb hz few (fun h' Q' sb z => ?_) fun h' c _ sb cn R' => ?_
  · obtain ⟨o3, h3, _, d3⟩ := b1.but (Nat.ne_of_lt lt) sb
    unfold Builtin.Frozenset.unchanged
    refine wpAny_bind (wpAny_setEpoch_of h3 d3 Tb.fit ?_)
    exact wp_if_neg (by simp) (wpAny_pure z)
  · refine wpAny_pure (wpAny_pure ⟨_, rfl, (fun z => nomatch z), q h' c cn R' fun x o lx e => ?_⟩)
    exact (sb.2 x (Nat.ne_of_lt lx)).trans (old x o lx e)
end
end So
namespace So
open PySem PySem.Spec PyProof.Rows L2
theorem slot_and : Slot "set" "__and__" "set.__and__" := .of (owner := "set") (n := "__and__") (by rw [typeLookup_type, builtinLookup_eq_fast]; kernel_rfl) (by decide +kernel) (by decide +kernel) (by decide +kernel) (by first | exact .inl (by decide +kernel) | exact .inr (by decide +kernel)) (by rw [isSubtype_type]; kernel_rfl)
theorem entry_and : entryFor table "set.__and__" = some Builtin.«frozenset.__and__» := entryFor_alias (id' := "frozenset.__and__") (by kernel_rfl) rfl (by decide +kernel) (by kernel_rfl)
theorem args_and (a b : Value) : argsOk "set.__and__" ⟨[a, b], []⟩ := by unfold argsOk; kernel_rfl
theorem fill_and : fillsNumberSlot (.type "set") "and" = pure true := fillsNumberSlot_of slot_and.lookup (by decide +kernel) (r := some (.builtin "set.__rand__")) (by rw [typeLookup_type, builtinLookup_eq_fast]; kernel_rfl)
section
variable {P : Program} {w : World} {A : Around} {E : Value → Shared → Prop} {s : Shared} {a b r : Addr} {S U : Int → Bool} {n m : Nat}
/-- a walk that lays what it keeps into a new set -/
theorem walk_fill {h0 h1 : Heap} {keep : Int → Bool} {f : (Int × Value) → PUnit → Sem (ForInStep PUnit)} {l : List (Int × Value)} (gl : ∀ e ∈ l, GoodE e) (few : l.length < 64)
    (body : ∀ (k : Int) (tk : Tok) (h' : Heap) (D : Int → Bool) (c : Nat) {Q' : ForInStep PUnit → Shared → Prop}, (hashInt k, Value.int k tk) ∈ l → Heap.SameBut r h0 h' → SetR w h' r D c → c < 64 →
      (∀ h2 c2, Heap.SameBut r h0 h2 → c2 ≤ c + 1 → SetR w h2 r (fun j => D j || (keep j && decide (j = k))) c2 → Q' (.yield ⟨⟩) { s with heap := h2 }) → wpAny (model P w) A (f (hashInt k, .int k tk) ⟨⟩) Q' E { s with heap := h' })
    (R : SetR w h1 r (fun _ => false) 0) (sb1 : Heap.SameBut r h0 h1) {Q : PUnit → Shared → Prop}
    (q : ∀ h2 c, Heap.SameBut r h0 h2 → c ≤ l.length → SetR w h2 r (fun j => keep j && decide (j ∈ l.map keyOf)) c → Q ⟨⟩ { s with heap := h2 }) : wpAny (model P w) A (forIn l PUnit.unit f) Q E { s with heap := h1 } := by
  refine wpAny_forIn_list _ (fun rest _ s' => ∃ h2 c done, s' = { s with heap := h2 } ∧ Heap.SameBut r h0 h2 ∧ l = done ++ rest ∧ c + rest.length ≤ l.length ∧ SetR w h2 r (fun j => keep j && decide (j ∈ done.map keyOf)) c)
    _ (fun x rest u s' hI => ?_) (fun u s' hI => ?_) l _ ⟨h1, 0, [], rfl, sb1, rfl, by omega, R.congr fun k => by simp⟩
  · obtain ⟨h2, c, done, rfl, sb2, sp, cn, R2⟩ := hI
    have xin : x ∈ l := by rw [sp]; simp
    obtain ⟨k, tk, ek, hk⟩ := gl x xin
    obtain ⟨x1, x2⟩ := x
    cases (show x2 = .int k tk from ek)
    cases (show x1 = hashInt k from hk)
    rw [List.length_cons] at cn
    refine body k tk h2 _ c xin sb2 R2 (by omega) fun h3 c3 sb3 le R3 => ⟨h3, c3, done ++ [(hashInt k, .int k tk)], rfl, sb3, by rw [sp, List.append_assoc]; rfl, by omega, R3.congr fun j => ?_⟩
    rw [List.map_append, List.map_singleton, show keyOf (hashInt k, Value.int k tk) = k from rfl, ← Bool.and_or_distrib_left, ← Bool.decide_or]
    simp only [List.mem_append, List.mem_singleton]
  · obtain ⟨h2, c, done, rfl, sb2, sp, cn, R2⟩ := hI
    rw [List.append_nil] at sp
    subst sp
    exact q h2 c sb2 (by simpa using cn) R2
theorem sizeOf_set {Q : Nat → Shared → Prop} {es : Array (Int × Value)} {ep : Nat} {t : SetTable} (a0 : At s.heap a es ep t) (T : Tab w S n es t) (q : Q n s) : wpAny (model P w) A (Builtin.Frozenset.sizeOf a) Q E s := by
  obtain ⟨o, ho, _, hd⟩ := a0
  unfold Builtin.Frozenset.sizeOf
  refine wpAny_bind (wpAny_setEntries_of ho hd T.fit (wpAny_pure ?_))
  rw [T.num]
  exact q
theorem unchanged_set {id : String} {es : Array (Int × Value)} {ep : Nat} {t : SetTable} (a0 : At s.heap a es ep t) (T : Tab w S n es t) {Q : Unit → Shared → Prop} (q : Q () s) : wpAny (model P w) A (Builtin.Frozenset.unchanged id a ep) Q E s := by
  obtain ⟨o, ho, _, hd⟩ := a0
  unfold Builtin.Frozenset.unchanged
  exact wpAny_bind (wpAny_setEpoch_of ho hd T.fit (wp_if_neg (by simp) (wpAny_pure q)))
theorem and_sets (ab : a ≠ b) (R : SetR w s.heap a S n) (R2 : SetR w s.heap b U m) (fn : n < 64) (fm : m < 64) {Q : Value → Shared → Prop}
    (q : ∀ (h : Heap) c, c ≤ n → SetR w h s.heap.objs.size (fun k => S k && U k) c → Old s.heap h → Q (.ref s.heap.objs.size) { s with heap := h }) :
    wpAny (model P w) A (binaryOp .BitAnd (.ref a) (.ref b)) Q E s := by
  obtain ⟨oa, ha, ca⟩ := So.SetR.typ R
  obtain ⟨ob, hb, cb⟩ := So.SetR.typ R2
  have la := Heap.lt_size ha
  have lb := Heap.lt_size hb
  refine wpAny_binaryOp_same (T := "set") ⟨oa, ha, ca⟩ ⟨ob, hb, cb⟩ fill_and slot_and (wpAny_call_entry slot_and ⟨oa, ha, ca⟩ entry_and ?_ (args_and _ _))
  show wpAny _ _ (Builtin.Frozenset.slot1 "__and__" _ >>= _) _ _ _
  refine wpAny_bind (wpAny_bind (m := slotArgs "__and__" 1 _) (wpAny_pure (wpAny_pure ?_)))
  dsimp only
  simp only [Bool.false_eq_true, if_false]
  unfold andM
  refine wpAny_bind (wpAny_bind (anySet ⟨oa, ha, ca⟩ (anySet ⟨ob, hb, cb⟩ ?_)))
  refine wp_if_neg (by simp) ?_
  unfold Builtin.Frozenset.addrOf
  refine wpAny_bind (wpAny_pure (wpAny_bind ?_))
  unfold Builtin.Frozenset.intersection
  refine wp_if_neg (by simp [ab.symm]) ?_
  refine wpAny_bind (base ⟨oa, ha, ca⟩ (wpAny_bind (new ?_)))
  obtain ⟨f1, f2⟩ := fresh_at (w := w) (h := s.heap)
  obtain ⟨es, ep, t, a0, T⟩ := setR_iff.mp R
  obtain ⟨eb, pb, tb, b0, Tb⟩ := setR_iff.mp R2
  have old : Old s.heap (s.heap.push (emptyO w)) := Old.of (Heap.SameBut.refl ..)
  have a1 := a0.old old
  have b1 := b0.old old
  unfold Builtin.Frozenset.addrOf
  refine wpAny_bind (wpAny_pure (wpAny_bind (wpAny_holding ?_)))
  obtain ⟨ob1, hb1, hx1, hd1⟩ := id b1
  refine wpAny_bind (anySet (s := { s with heap := s.heap.push (emptyO w) }) ⟨ob1, hb1, hx1.1⟩ ?_)
  refine wp_if_pos rfl ?_
  refine wpAny_bind (wpAny_pure (wpAny_bind (sizeOf_set (s := { s with heap := s.heap.push (emptyO w) }) b1 Tb (wpAny_bind (sizeOf_set (s := { s with heap := s.heap.push (emptyO w) }) a1 T ?_)))))
  obtain ⟨k, d, Sk, Sd, nk, nd, ek, pk, tk, ed, pd, td, hp, k1, Tk, d1, Td, kr, dr, hS, le⟩ : ∃ (k d : Addr) (Sk Sd : Int → Bool) (nk nd : Nat) (ek : Array (Int × Value)) (pk : Nat) (tk : SetTable) (ed : Array (Int × Value)) (pd : Nat) (td : SetTable),
      (if m > n then (b, a) else (a, b)) = (k, d) ∧ At (s.heap.push (emptyO w)) k ek pk tk ∧ Tab w Sk nk ek tk ∧ At (s.heap.push (emptyO w)) d ed pd td ∧ Tab w Sd nd ed td ∧ k ≠ s.heap.objs.size ∧ d ≠ s.heap.objs.size ∧ (∀ j, (Sk j && Sd j) = (S j && U j)) ∧ nd ≤ n := by
    by_cases c : m > n
    · exact ⟨b, a, U, S, m, n, eb, pb, tb, es, ep, t, if_pos c, b1, Tb, a1, T, Nat.ne_of_lt lb, Nat.ne_of_lt la, fun j => Bool.and_comm .., Nat.le_refl _⟩
    · exact ⟨a, b, S, U, n, m, es, ep, t, eb, pb, tb, if_neg c, a1, T, b1, Tb, Nat.ne_of_lt la, Nat.ne_of_lt lb, fun j => rfl, by omega⟩
  rw [hp]
  dsimp only
  obtain ⟨od, hd, xd, dd⟩ := id d1
  refine wpAny_bind (wpAny_setEpoch_of (s := { s with heap := s.heap.push (emptyO w) }) hd dd Td.fit ?_)
  have F : SetR w (s.heap.push (emptyO w)) s.heap.objs.size (fun _ => false) 0 := setR_iff.mpr ⟨_, _, _, f1, f2⟩
  refine wpAny_bind (walk_unseen (s := { s with heap := s.heap.push (emptyO w) }) d1 Td F dr (fun x hx => ?_) fun h2 e2 sb2 R3 p2 => ?_)
  · rcases List.mem_cons.mp hx with rfl | hx
    · exact ⟨_, _, setR_iff.mpr ⟨_, _, _, k1, Tk⟩⟩
    · cases List.mem_singleton.mp hx
      exact ⟨_, _, F⟩
  rw [← Array.forIn_toList]
  have l2 : e2.toList.length = nd := by rw [p2.length_eq, Array.length_toList, Td.num]
  have sc : scanBound = 4096 := rfl
  refine wpAny_bind (walk_fill (keep := Sk) (h0 := s.heap.push (emptyO w)) (h1 := h2) (s := s) (fun e z => Td.g e (p2.mem_iff.mp z)) (by omega) (fun j tj h' D c Q' mj sb' R' cl kk => ?_) R3 sb2 fun h3 c sb3 cn R4 => ?_)
  · dsimp only
    have k2 := k1.but kr sb'
    refine wpAny_bind (wpAny_holding (wpAny_bind (wpAny_setFind_of (s := { s with heap := h' }) (knd := intKind P w) (intKind_is P w j tj) rfl (setR_iff.mpr ⟨_, _, _, k2, Tk⟩ : SetR w h' k Sk nk).setOf fun rr hr => ?_)))
    cases hk : Sk j with
    | true =>
      refine wp_if_pos (by rw [hr, hk]) (wpAny_bind (setR_add_hashed (P := P) (s := { s with heap := h' }) R' (by omega) fun h4 sb4 R5 => wpAny_pure ?_))
      refine wpAny_bind (unchanged_set (s := { s with heap := h4 }) (d1.but dr (sb'.trans sb4)) Td (wpAny_pure (kk h4 _ (sb'.trans sb4) (by split <;> omega) (R5.congr fun i => ?_))))
      by_cases ij : i = j
      · subst ij; simp [hk]
      · simp [ij]
    | false =>
      refine wp_if_neg (by rw [hr, hk]; simp) (wpAny_pure ?_)
      refine wpAny_bind (unchanged_set (s := { s with heap := h' }) (d1.but dr sb') Td (wpAny_pure (kk h' c sb' (by omega) (R'.congr fun i => ?_))))
      by_cases ij : i = j
      · subst ij; simp [hk]
      · simp [ij]
  · refine wpAny_pure (wpAny_pure (wpAny_pure ⟨_, rfl, (fun z => nomatch z), q h3 c (by omega) (R4.congr fun j => ?_) (Old.of sb3)⟩))
    rw [← hS]
    congr 1
    exact Bool.eq_iff_iff.mpr (((Td.mem j).trans (p2.map keyOf).mem_iff.symm).trans decide_eq_true_iff.symm)
end
end So
namespace So
open PySem PySem.Spec PyProof.Rows L2
theorem erase_list {α : Type} (xs : Array α) (j : Nat) : (SetTable.eraseAt xs j).toList = xs.toList.take j ++ xs.toList.drop (j + 1) := by
  unfold SetTable.eraseAt
  rw [Array.toList_append, Array.toList_extract, Array.toList_extract]
  simp only [List.extract_eq_drop_take, Nat.sub_zero, List.drop_zero]
  rw [List.take_of_length_le (i := xs.size - (j + 1)) (by rw [List.length_drop, Array.length_toList]; omega)]
theorem erase_perm {α : Type} {l : List α} {j : Nat} (h : j < l.length) : l.Perm (l[j] :: (l.take j ++ l.drop (j + 1))) := by
  have e : l = l.take j ++ l[j] :: l.drop (j + 1) := by rw [List.getElem_cons_drop, List.take_append_drop]
  have p : (l.take j ++ l[j] :: l.drop (j + 1)).Perm (l[j] :: (l.take j ++ l.drop (j + 1))) := List.perm_middle
  exact (List.Perm.of_eq e).trans p
theorem drop_tab {t : SetTable} {j n : Nat} (f : t.fits n = true) (h : j < n) (r : Ris t.place.toList) : (t.drop j).fits (n - 1) = true ∧ Ris (t.drop j).place.toList ∧ (t.drop j).led = t.led := by
  obtain ⟨f1, f2⟩ := fits_iff.mp f
  have hj : j < t.place.size := by omega
  unfold SetTable.drop
  rw [Array.getElem?_eq_getElem hj]
  dsimp only
  have z : (SetTable.eraseAt t.place j).size = n - 1 := by
    rw [← Array.length_toList, erase_list, List.length_append, List.length_take, List.length_drop, Array.length_toList]
    omega
  have y : ∀ p x, p ≤ t.dummies.size → (SetTable.insertAt t.dummies p x).size = t.dummies.size + 1 := fun p x hp => by
    unfold SetTable.insertAt
    rw [Array.size_append, Array.size_push, Array.size_extract, Array.size_extract]
    omega
  have b : ∀ (f lo hi : Nat), lo ≤ hi → SetTable.below.go t.dummies t.place[j] f lo hi ≤ hi := fun f => by
    induction f with
    | zero => exact fun lo hi h => h
    | succ f ih =>
      intro lo hi h
      unfold SetTable.below.go
      split
      · dsimp only
        split
        · exact ih _ _ (by omega)
        · exact Nat.le_trans (ih _ _ (by omega)) (by omega)
      · exact h
  refine ⟨fits_iff.mpr ⟨z, ?_⟩, ?_, rfl⟩
  · show (SetTable.eraseAt t.place j).size + (SetTable.insertAt t.dummies (SetTable.below t.dummies t.place[j]) t.place[j]).size ≤ t.mask
    have bb : SetTable.below t.dummies t.place[j] ≤ t.dummies.size := b _ _ _ (Nat.zero_le _)
    rw [z, y _ _ bb]
    omega
  · show Ris (SetTable.eraseAt t.place j).toList
    rw [erase_list]
    have sub : (t.place.toList.take j ++ t.place.toList.drop (j + 1)).Sublist t.place.toList := by
      have e := List.take_append_drop j t.place.toList
      refine e ▸ ?_
      rw [e]
      conv => rhs; rw [← e]
      exact List.Sublist.append_left (List.drop_sublist_drop_left _ (Nat.le_succ j)) _
    exact List.Pairwise.sublist sub r
section
variable {P : Program} {w : World} {A : Around} {E : Value → Shared → Prop} {s : Shared} {a b r : Addr} {S U : Int → Bool} {n m : Nat}
theorem discard {k : Int} {tk : Tok} (R : SetR w s.heap a S n) {Q : Bool → Shared → Prop} (q : ∀ h' x c, Heap.SameBut a s.heap h' → c ≤ n → SetR w h' a (fun j => S j && !decide (j = k)) c → Q x { s with heap := h' }) :
    wpAny (model P w) A (setDiscardHashed a (.int k tk) (hashInt k)) Q E s := by
  obtain ⟨es, ep, t, a0, T⟩ := setR_iff.mp R
  obtain ⟨o, ho, hx, hd⟩ := id a0
  have hkey : (intKind P w).is k (.int k tk) = true := intKind_is P w k tk
  have hel : ElemsOf (intKind P w) es.toList := good_elems T.g
  unfold setDiscardHashed setFind setFindIn
  refine wpAny_bind (wpAny_bind (wpAny_setState_of ho hd T.fit ?_))
  dsimp only
  rw [byScan_of rfl T.bd hel]
  simp only [↓reduceIte]
  refine wpAny_bind (wpAny_rule (wpAny_bind (wpAny_setScan_of hkey ho hd T.fit hel ?_)))
  cases hr : List.findIdx? (fun e => (intKind P w).is k e.2) es.toList with
  | none =>
    refine wpAny_pure (wpAny_pure (q s.heap false n (Heap.SameBut.refl ..) (Nat.le_refl _) (R.congr fun j => ?_)))
    by_cases jk : j = k
    · subst jk
      have z : S j = false := Bool.eq_false_iff.mpr fun y => by
        obtain ⟨e, he, pe⟩ := (good_mem (P := P) (w := w) T.g j).mp ((T.mem j).mp y)
        have c := List.findIdx?_eq_none_iff.mp hr e he
        rw [pe] at c
        cases c
      rw [z, Bool.false_and]
    · simp [jk]
  | some j =>
    obtain ⟨hj, pj, _⟩ := List.findIdx?_eq_some_iff_getElem.mp hr
    have kj : keyOf es.toList[j] = k := (good_is (T.g _ (List.getElem_mem hj)) k).mp pj
    refine wpAny_pure ?_
    refine wpAny_bind (wpAny_setState_of ho hd T.fit ?_)
    dsimp only
    rw [Nat.zero_add]
    have pp := erase_perm hj
    rw [← erase_list] at pp
    have pk := pp.map keyOf
    rw [List.map_cons, kj] at pk
    have nd := pk.nodup_iff.mp T.nd
    rw [List.nodup_cons] at nd
    have sz : (SetTable.eraseAt es j).size = n - 1 := by
      have l := pp.length_eq
      rw [List.length_cons, Array.length_toList, Array.length_toList, T.num] at l
      omega
    have hn : j < n := by rw [← T.num, ← Array.length_toList]; exact hj
    obtain ⟨d1, d2, d3⟩ := drop_tab (by rw [← T.num]; exact T.fit) hn T.ris
    have sc := fits_of_scanBound T.bd
    refine wpAny_bind (wpAny_storeSet_of ho hd (wpAny_bind (wpAny_point (wpAny_pure (q _ true (n - 1) (Heap.SameBut.update ..) (by omega) (setR_iff.mpr ⟨_, _, _, ⟨_, store_at ho hd, ⟨hx.1, hx.2.1, hx.2.2⟩, rfl⟩, ?_⟩))))) (by rw [sz, ← T.num]; omega))
    refine ⟨fun e he => T.g e (pp.mem_iff.mpr (List.mem_cons_of_mem _ he)), nd.2, fun i => ?_, by rw [sz]; have := T.bd; rw [T.num] at this; omega, by rw [sz]; exact d1, sz, d2, by rw [d3]; exact T.led⟩
    rw [Bool.and_eq_true, T.mem i, pk.mem_iff, List.mem_cons, Bool.not_eq_true', decide_eq_false_iff_not]
    constructor
    · rintro ⟨x | x, y⟩
      · exact absurd x y
      · exact x
    · exact fun x => ⟨.inr x, fun y => nd.1 (y ▸ x)⟩
end
end So
namespace So
open PySem PySem.Spec PyProof.Rows L2
theorem slot_sub : Slot "set" "__sub__" "set.__sub__" := .of (owner := "set") (n := "__sub__") (by rw [typeLookup_type, builtinLookup_eq_fast]; kernel_rfl) (by decide +kernel) (by decide +kernel) (by decide +kernel) (by first | exact .inl (by decide +kernel) | exact .inr (by decide +kernel)) (by rw [isSubtype_type]; kernel_rfl)
theorem entry_sub : entryFor table "set.__sub__" = some Builtin.«frozenset.__sub__» := entryFor_alias (id' := "frozenset.__sub__") (by kernel_rfl) rfl (by decide +kernel) (by kernel_rfl)
theorem args_sub (a b : Value) : argsOk "set.__sub__" ⟨[a, b], []⟩ := by unfold argsOk; kernel_rfl
theorem fill_sub : fillsNumberSlot (.type "set") "sub" = pure true := fillsNumberSlot_of slot_sub.lookup (by decide +kernel) (r := some (.builtin "set.__rsub__")) (by rw [typeLookup_type, builtinLookup_eq_fast]; kernel_rfl)
section
variable {P : Program} {w : World} {A : Around} {E : Value → Shared → Prop} {s : Shared} {a b r : Addr} {S U : Int → Bool} {n m : Nat}
theorem walk_alone {l : List Addr} {es : Array (Int × Value)} {ep : Nat} {t : SetTable} (a0 : At s.heap a es ep t) (T : Tab w S n es t) (hl : ∀ b ∈ l, ∃ S n, SetR w s.heap b S n) {Q : Array (Int × Value) → Shared → Prop}
    (q : ∀ es' : Array (Int × Value), es'.toList.Perm es.toList → Q es' s) : wpAny (model P w) A (setWalkUnseen a l none) Q E s := by
  obtain ⟨o, ho, hx, hd⟩ := id a0
  unfold setWalkUnseen
  refine wpAny_bind (wpAny_setState_of ho hd T.fit ?_)
  dsimp only
  refine wpAny_bind (wpAny_byText ?_)
  by_cases c : (w.params.followText "set-order" || t.led && t.plain || decide (es.size ≤ 1)) = true
  · refine wp_if_pos c (walk_es a0 T ?_ q)
    rw [Bool.or_eq_true, Bool.or_eq_true, Bool.and_eq_true, decide_eq_true_eq] at c
    rcases c with (c | c) | c
    · exact .inl c
    · exact .inr (.inl c.2)
    · exact .inr (.inr c)
  · refine wp_if_neg c (wpAny_bind (quiet (fun b hb => ?_) ?_))
    · rcases List.mem_cons.mp hb with rfl | hb
      · exact ⟨S, n, setR_iff.mpr ⟨es, ep, t, a0, T⟩⟩
      · exact hl b hb
    refine wp_if_neg (by simp) ?_
    exact wpAny_bind (wpAny_rule (wpAny_pure (q es (.refl _))))
theorem tidy (few : n < 32) (R : SetR w s.heap a S n) {Q : Unit → Shared → Prop} (q : ∀ h', Heap.SameBut a s.heap h' → SetR w h' a S n → Q () { s with heap := h' }) : wpAny (model P w) A (setTidy a) Q E s := by
  obtain ⟨es, ep, t, a0, T⟩ := setR_iff.mp R
  obtain ⟨o, ho, hx, hd⟩ := id a0
  unfold setTidy
  refine wpAny_bind (wpAny_setState_of ho hd T.fit ?_)
  dsimp only
  by_cases c : t.tooManyDummies = true
  · refine wp_if_pos c ?_
    have e : SetTable.grown es.size = (2 * n) * 2 := by
      unfold SetTable.grown
      rw [if_neg (by rw [T.num]; omega), T.num]
      omega
    rw [e]
    exact relay (by omega) (by omega) a0 T fun h' es' t' sb a1 T1 _ _ => q h' sb (setR_iff.mpr ⟨_, _, _, a1, T1⟩)
  · exact wp_if_neg c (wpAny_pure (q s.heap (Heap.SameBut.refl ..) R))
/-- set a loses what set b holds -/
theorem lose {nm : String} (ab : a ≠ b) (R : SetR w s.heap a S n) (R2 : SetR w s.heap b U m) (few : n < 32) (le : ¬ m / 8 > n) {Q : Unit → Shared → Prop}
    (q : ∀ h' c, Heap.SameBut a s.heap h' → c ≤ n → SetR w h' a (fun k => S k && !U k) c → Q () { s with heap := h' }) : wpAny (model P w) A (Builtin.Frozenset.differenceUpdate nm a (.ref b)) Q E s := by
  obtain ⟨es, ep, t, a0, T⟩ := setR_iff.mp R
  obtain ⟨eb, pb, tb, b0, Tb⟩ := setR_iff.mp R2
  obtain ⟨ob, hb, hx, hd⟩ := id b0
  unfold Builtin.Frozenset.differenceUpdate
  refine wp_if_neg (by simp [ab.symm]) ?_
  refine wpAny_bind (anySet ⟨ob, hb, hx.1⟩ ?_)
  refine wp_if_pos rfl ?_
  unfold Builtin.Frozenset.addrOf
  refine wpAny_bind (wpAny_pure (wpAny_bind (sizeOf_set b0 Tb (wpAny_bind (sizeOf_set a0 T ?_)))))
  dsimp only
  refine wp_if_neg le ?_
  refine wpAny_bind (wpAny_setEpoch_of hb hd Tb.fit ?_)
  refine wpAny_bind (wpAny_holding (wpAny_bind (walk_alone b0 Tb (fun x hx => ?_) fun e2 p2 => ?_)))
  · cases List.mem_singleton.mp hx
    exact ⟨_, _, R⟩
  rw [← Array.forIn_toList]
  refine wpAny_bind (wpAny_forIn_list _ (fun rest _ s' => ∃ h2 c done, s' = { s with heap := h2 } ∧ Heap.SameBut a s.heap h2 ∧ e2.toList = done ++ rest ∧ c ≤ n ∧ SetR w h2 a (fun j => S j && !decide (j ∈ done.map keyOf)) c)
    _ (fun x rest u s' hI => ?_) (fun u s' hI => ?_) e2.toList _ ⟨s.heap, n, [], rfl, Heap.SameBut.refl .., rfl, Nat.le_refl _, R.congr fun k => by simp⟩)
  · obtain ⟨h2, c, done, rfl, sb2, sp, cn, R3⟩ := hI
    obtain ⟨k, tk, ek, hk⟩ := Tb.g x (p2.mem_iff.mp (by rw [sp]; simp))
    obtain ⟨x1, x2⟩ := x
    cases (show x2 = .int k tk from ek)
    cases (show x1 = hashInt k from hk)
    refine wpAny_bind (wpAny_holding (discard (s := { s with heap := h2 }) R3 fun h3 _ c3 sb3 le3 R4 => ?_))
    have sb4 := sb2.trans sb3
    refine wpAny_bind (unchanged_set (s := { s with heap := h3 }) (b0.but (Ne.symm ab) sb4) Tb (wpAny_pure ⟨h3, c3, done ++ [(hashInt k, .int k tk)], rfl, sb4, by rw [sp, List.append_assoc]; rfl, by omega, R4.congr fun j => ?_⟩))
    rw [List.map_append, List.map_singleton, show keyOf (hashInt k, Value.int k tk) = k from rfl, Bool.and_assoc, ← Bool.not_or, ← Bool.decide_or]
    simp only [List.mem_append, List.mem_singleton]
  · obtain ⟨h2, c, done, rfl, sb2, sp, cn, R3⟩ := hI
    rw [List.append_nil] at sp
    refine wpAny_pure (tidy (s := { s with heap := h2 }) (by omega) R3 fun h3 sb3 R4 => q h3 c (sb2.trans sb3) cn (R4.congr fun j => ?_))
    congr 2
    rw [← sp]
    exact Bool.eq_iff_iff.mpr (((Tb.mem j).trans (p2.map keyOf).mem_iff.symm).trans decide_eq_true_iff.symm)
theorem sub_sets (ab : a ≠ b) (R : SetR w s.heap a S n) (R2 : SetR w s.heap b U m) (fn : n < 32) (fm : m < 64) {Q : Value → Shared → Prop}
    (q : ∀ (h : Heap) c, c ≤ n → SetR w h s.heap.objs.size (fun k => S k && !U k) c → Old s.heap h → Q (.ref s.heap.objs.size) { s with heap := h }) :
    wpAny (model P w) A (binaryOp .Sub (.ref a) (.ref b)) Q E s := by
  obtain ⟨oa, ha, ca⟩ := So.SetR.typ R
  obtain ⟨ob, hb, cb⟩ := So.SetR.typ R2
  have la := Heap.lt_size ha
  have lb := Heap.lt_size hb
  refine wpAny_binaryOp_same (T := "set") ⟨oa, ha, ca⟩ ⟨ob, hb, cb⟩ fill_sub slot_sub (wpAny_call_entry slot_sub ⟨oa, ha, ca⟩ entry_sub ?_ (args_sub _ _))
  show wpAny _ _ (Builtin.Frozenset.slot1 "__sub__" _ >>= _) _ _ _
  refine wpAny_bind (wpAny_bind (m := slotArgs "__sub__" 1 _) (wpAny_pure (wpAny_pure ?_)))
  dsimp only
  simp only [Bool.false_eq_true, if_false]
  unfold andM
  refine wpAny_bind (wpAny_bind (anySet ⟨oa, ha, ca⟩ (anySet ⟨ob, hb, cb⟩ ?_)))
  refine wp_if_neg (by simp) ?_
  unfold Builtin.Frozenset.addrOf
  refine wpAny_bind (wpAny_pure (wpAny_bind ?_))
  unfold Builtin.Frozenset.difference
  dsimp only
  refine wpAny_bind (anySet ⟨ob, hb, cb⟩ ?_)
  simp only [Bool.not_true, Bool.false_eq_true, if_false, if_true, Bool.false_and]
  obtain ⟨es, ep, t, a0, T⟩ := setR_iff.mp R
  obtain ⟨eb, pb, tb, b0, Tb⟩ := setR_iff.mp R2
  unfold Builtin.Frozenset.addrOf
  refine wpAny_bind (wpAny_pure (wpAny_bind (sizeOf_set b0 Tb (wpAny_bind (sizeOf_set a0 T ?_)))))
  by_cases big : n / 4 > m
  · refine wp_if_pos big (wpAny_bind (wpAny_rule ?_))
    refine wpAny_bind (copy R (by omega) fun h es1 ep1 t1 r1 T1 _ old => ?_)
    refine wpAny_bind (wpAny_pure (wpAny_bind (wpAny_holding ?_)))
    refine lose (s := { s with heap := h }) (Nat.ne_of_gt lb) (setR_iff.mpr ⟨_, _, _, r1, T1⟩) (setR_iff.mpr ⟨_, _, _, b0.old old, Tb⟩) (by omega) (by omega) fun h2 c sb cn R4 => ?_
    refine wpAny_pure (wpAny_pure ⟨_, rfl, (fun z => nomatch z), q h2 c cn R4 fun x o lx e => ?_⟩)
    exact (sb.2 x (Nat.ne_of_lt lx)).trans (old x o lx e)
  · refine wp_if_neg big (wpAny_bind (base ⟨oa, ha, ca⟩ (wpAny_bind (new ?_))))
    obtain ⟨f1, f2⟩ := fresh_at (w := w) (h := s.heap)
    have old : Old s.heap (s.heap.push (emptyO w)) := Old.of (Heap.SameBut.refl ..)
    have a1 := a0.old old
    have b1 := b0.old old
    refine wpAny_bind (wpAny_pure ?_)
    obtain ⟨od, hd, xd, dd⟩ := id a1
    refine wpAny_bind (wpAny_setEpoch_of (s := { s with heap := s.heap.push (emptyO w) }) hd dd T.fit ?_)
    have F : SetR w (s.heap.push (emptyO w)) s.heap.objs.size (fun _ => false) 0 := setR_iff.mpr ⟨_, _, _, f1, f2⟩
    have na : a ≠ s.heap.objs.size := Nat.ne_of_lt la
    have nb : b ≠ s.heap.objs.size := Nat.ne_of_lt lb
    refine wpAny_bind (wpAny_holding (wpAny_bind (walk_unseen (s := { s with heap := s.heap.push (emptyO w) }) a1 T F na (fun x hx => ?_) fun h2 e2 sb2 R3 p2 => ?_)))
    · rcases List.mem_cons.mp hx with rfl | hx
      · exact ⟨_, _, setR_iff.mpr ⟨_, _, _, b1, Tb⟩⟩
      · cases List.mem_singleton.mp hx
        exact ⟨_, _, F⟩
    rw [← Array.forIn_toList]
    have l2 : e2.toList.length = n := by rw [p2.length_eq, Array.length_toList, T.num]
    have sc : scanBound = 4096 := rfl
    refine wpAny_bind (walk_fill (keep := fun j => !U j) (h0 := s.heap.push (emptyO w)) (h1 := h2) (s := s) (fun e z => T.g e (p2.mem_iff.mp z)) (by omega) (fun j tj h' D c Q' mj sb' R' cl kk => ?_) R3 sb2 fun h3 c sb3 cn R4 => ?_)
    · dsimp only
      have k2 := b1.but nb sb'
      have fin : ∀ {h4 : Heap} {c4 : Nat}, Heap.SameBut s.heap.objs.size (s.heap.push (emptyO w)) h4 → c4 ≤ c + 1 → SetR w h4 s.heap.objs.size (fun i => D i || (!U i && decide (i = j))) c4 → wpAny (model P w) A.in1 (Builtin.Frozenset.unchanged (toString "frozenset." ++ toString "__sub__") a ep) (fun _ s' => wpAny (model P w) A.in1 (pure (ForInStep.yield PUnit.unit)) Q' E s') E { s with heap := h4 } := fun sb4 le R5 =>
        unchanged_set (s := { s with heap := _ }) (a1.but na sb4) T (wpAny_pure (kk _ _ sb4 le R5))
      refine wpAny_bind (wpAny_holding (wpAny_bind (wpAny_setFind_of (s := { s with heap := h' }) (knd := intKind P w) (intKind_is P w j tj) rfl (setR_iff.mpr ⟨_, _, _, k2, Tb⟩ : SetR w h' b U m).setOf fun rr hr => wpAny_bind (wpAny_pure ?_))))
      cases hk : U j with
      | false =>
        refine wp_if_pos (by rw [hr, hk]; rfl) (wpAny_bind (setR_add_hashed (P := P) (s := { s with heap := h' }) R' (by omega) fun h4 sb4 R5 => wpAny_pure ?_))
        refine wpAny_bind (fin (c4 := _) (sb'.trans sb4) (by split <;> omega) (R5.congr fun i => ?_))
        by_cases ij : i = j
        · subst ij; simp [hk]
        · simp [ij]
      | true =>
        refine wp_if_neg (by rw [hr, hk]; simp) (wpAny_pure ?_)
        refine wpAny_bind (fin sb' (Nat.le_succ _) (R'.congr fun i => ?_))
        by_cases ij : i = j
        · subst ij; simp [hk]
        · simp [ij]
    · refine wpAny_pure (wpAny_pure (wpAny_pure ⟨_, rfl, (fun z => nomatch z), q h3 c (by omega) (R4.congr fun j => ?_) (Old.of sb3)⟩))
      rw [Bool.and_comm]
      congr 1
      exact Bool.eq_iff_iff.mpr (((T.mem j).trans (p2.map keyOf).mem_iff.symm).trans decide_eq_true_iff.symm)
end
end So
namespace So
open PySem PySem.Spec PyProof.Rows L2
section
variable {X : Cx}
/-- a | b, a & b, a - b of two sets of ints -/
def rSO (w : World) (f : Bool → Bool → Bool) : R2 := fun x y H Q => ∃ a b S U n m, x = .ref a ∧ y = .ref b ∧ a ≠ b ∧ H a = some (SetO w a S n) ∧ H b = some (SetO w b U m) ∧ n < 32 ∧ m < 32 ∧
  ∀ p c, c ≤ n + m → H p = none → Q (.ref p) (upd H p (SetO w p (fun k => f (S k) (U k)) c))
theorem op_or : OpR X (binaryOp .BitOr) (rSO X.w fun x y => x || y) := by
  intro pins s σ H x y v u Q I rx ry h
  obtain ⟨a, b, S, U, n, m, rfl, rfl, ab, ha, hb, hn, hm, k⟩ := h
  cases rx
  cases ry
  refine or_sets ab (setO_get I ha) (setO_get I hb) (by omega) fun h c hc R old => ?_
  exact ⟨.ref _, _, I.laid (t' := s.toks) (fun x o e => old x o (Heap.lt_size e) e) (Nat.le_refl _) (setO_new R), rfl, k _ c hc (I.hok.fresh (Nat.le_refl _))⟩
theorem op_and : OpR X (binaryOp .BitAnd) (rSO X.w fun x y => x && y) := by
  intro pins s σ H x y v u Q I rx ry h
  obtain ⟨a, b, S, U, n, m, rfl, rfl, ab, ha, hb, hn, hm, k⟩ := h
  cases rx
  cases ry
  refine and_sets ab (setO_get I ha) (setO_get I hb) (by omega) (by omega) fun h c hc R old => ?_
  exact ⟨.ref _, _, I.laid (t' := s.toks) (fun x o e => old x o (Heap.lt_size e) e) (Nat.le_refl _) (setO_new R), rfl, k _ c (by omega) (I.hok.fresh (Nat.le_refl _))⟩
theorem op_sub : OpR X (binaryOp .Sub) (rSO X.w fun x y => x && !y) := by
  intro pins s σ H x y v u Q I rx ry h
  obtain ⟨a, b, S, U, n, m, rfl, rfl, ab, ha, hb, hn, hm, k⟩ := h
  cases rx
  cases ry
  refine sub_sets ab (setO_get I ha) (setO_get I hb) (by omega) (by omega) fun h c hc R old => ?_
  exact ⟨.ref _, _, I.laid (t' := s.toks) (fun x o e => old x o (Heap.lt_size e) e) (Nat.le_refl _) (setO_new R), rfl, k _ c (by omega) (I.hok.fresh (Nat.le_refl _))⟩
/-- len(s) -/
def rLenO (w : World) : List V → Hp → VK → Prop := fun xs H Q => ∃ a S n, xs = [V.ref a] ∧ H a = some (SetO w a S n) ∧ n ≤ 4000 ∧ ((n = 0 ↔ ∀ j, S j = false) → Q (.int (n : Nat)) H)
theorem call_lenSet : CallR X (.builtin "len") (rLenO X.w) := by
  intro pins s σ H xs us Q I r h
  obtain ⟨a, S, n, rfl, ha, hn, k⟩ := h
  obtain ⟨u, rfl, ru⟩ := r.one
  cases (show u = Value.ref a from ru)
  obtain ⟨es, ep, t, ⟨o, ho, hx, hd⟩, T⟩ := setR_iff.mp (setO_get I ha)
  refine call_len_set ho hx hd T.fit (by rw [T.num]; omega) ?_
  rw [T.num]
  refine ⟨.int n, H, (I.tok _).tok _, ⟨_, rfl⟩, k ⟨fun z j => Bool.eq_false_iff.mpr fun y => ?_, fun z => ?_⟩⟩
  · have mm := (T.mem j).mp y
    rw [Array.eq_empty_of_size_eq_zero (T.num.trans z)] at mm
    cases mm
  · rw [← T.num, ← Array.length_toList]
    cases e : es.toList with
    | nil => rfl
    | cons x l =>
      have y := (T.mem (keyOf x)).mpr (by rw [e]; simp)
      rw [z] at y
      cases y
end
end So

/-! set(xs) of a list or a tuple of ints, as a set object. -/
namespace Si
open PySem PySem.Spec PyProof.Rows
section
variable {prog : Program} {w : World} {A : Around} {E : Value → Shared → Prop} {s : Shared}
theorem code_led1 (a : Value) {Q₁ : Value → Shared → Prop}
    (h : Q₁ (.ref s.heap.objs.size) { s with heap := s.heap.push { cls := .type "set", dict := none, data := .set #[] 0 (.fresh 0 0 (!w.params.followText "set-order")) } }) :
    codeAny (model prog w) A (.call (.builtin "set.__new__") ⟨[.type "set", a], []⟩) (wants Q₁ E) s := by
  refine codeAny_of_tree ?_
  show wpAny _ A.in1 (do checkBuiltinCall "set.__new__" ⟨[.type "set", a], []⟩; again (.builtin "set.__new__" ⟨[.type "set", a], []⟩)) _ _ s
  refine wpAny_bind (wpAny_of_eq (F.newCall_set_1 a) (wpAny_pure ⟨plainId_quiet F.plain_set_new _, codeAny_builtin F.entry_set_new ?_⟩))
  rw [Around.under_plainId F.plain_set_new _]
  unfold Builtin.«set.__new__» Builtin.Frozenset.newClass
  have hsub := sub_set_self
  obtain ⟨hp, g, d, tk, os⟩ := s
  dsimp only
  wp_walk
  refine wpAny_askSetting (wpAny_pure ?_)
  dsimp only
  simp only [newObj]
  refine wpAny_bind (wpAny_alloc (wpAny_pure ?_))
  exact wpAny_pure h
theorem ints_len : ∀ {vs : List Value} {xs : List Int}, IntsAre vs xs → vs.length = xs.length
  | _, _, .nil => rfl
  | _, _, .cons _ _ h => by rw [List.length_cons, List.length_cons, ints_len h]
theorem ints_at : ∀ {vs : List Value} {xs : List Int}, IntsAre vs xs → ∀ (i : Nat) v, vs[i]? = some v → ∃ x t, xs[i]? = some x ∧ v = .int x t
  | _, _, .nil, i, v, e => by simp at e
  | _, _, .cons x t h, 0, v, e => ⟨x, t, rfl, by simpa using e.symm⟩
  | _, _, .cons _ _ h, i + 1, v, e => by
    obtain ⟨x, t, e1, e2⟩ := ints_at h i v (by simpa using e)
    exact ⟨x, t, by simpa using e1, e2⟩
abbrev so (led : Bool) : Obj := { cls := .type "set", dict := none, data := .set #[] 0 (.fresh 0 0 led) }
theorem fill {R : Result → Shared → Prop} {I : Addr} {fp wr : List Addr} {G : Array GenState → Array GenState → Prop} {n : Nat} {P : Nat → Value → Prop} {St : Nat → Shared → Prop}
    (W : WalksS prog w A.in1 I fp wr G n P St) (S : Addr) (hSf : S ∉ fp) (xs : List Int) (hsz : xs.length = n) (hb : n + 1 < scanBound) (hval : ∀ i v, P i v → ∃ x t, xs[i]? = some x ∧ v = .int x t) :
    ∀ (k i : Nat) (s : Shared), n - i = k → i ≤ n → St i s → (∃ c, c ≤ i ∧ L2.SetR w s.heap S (fun y => decide (y ∈ xs.take i)) c) →
      (∀ s' c, Moved (S :: wr) G s s' → c ≤ n → L2.SetR w s'.heap S (fun y => decide (y ∈ xs.take n)) c → R (.ok (.ret .none)) s') →
      codeAny (model prog w) A (.builtin "set.update.loop" ⟨[.ref S, .ref I], []⟩) R s := by
  have nw : S ∉ wr := fun h => hSf (W.sub _ h)
  have more : ∀ b ∈ wr, b ∈ S :: wr := fun b hb => List.mem_cons_of_mem _ hb
  intro k
  induction k with
  | zero =>
    intro i s hk hi st ⟨c, hc, hS⟩ hR
    have e : i = n := by omega
    subst e
    refine codeAny_builtin PyProof.Rows.F.entry_set_update_loop ?_
    rw [Around.under_plainId PyProof.Rows.F.plain_set_update_loop _]
    show wpAny _ A.in1 (pyNext (.ref I) >>= _) _ _ s
    refine wpAny_bind (W.done s _ _ st fun s' hm => ?_)
    show wpAny _ A.in1 (ret Value.none) _ _ s'
    exact wpAny_pure (hR s' c (hm.mono more) hc (L2.SetR.at hS fun o e => hm.heap S o nw e))
  | succ k ih =>
    intro i s hk hi st ⟨c, hc, hS⟩ hR
    have lt : i < n := by omega
    refine codeAny_builtin PyProof.Rows.F.entry_set_update_loop ?_
    rw [Around.under_plainId PyProof.Rows.F.plain_set_update_loop _]
    show wpAny _ A.in1 (pyNext (.ref I) >>= _) _ _ s
    refine wpAny_bind (W.item i s _ _ lt st fun v s' hP st' hm => ?_)
    obtain ⟨x, t, hx, rfl⟩ := hval i v hP
    have hS1 := L2.SetR.at (h' := s'.heap) hS fun o e => hm.heap S o nw e
    show wpAny _ A.in1 (holding [Value.int x t] (setAdd S (.int x t)) >>= _) _ _ s'
    refine wpAny_bind (wpAny_holding ?_)
    unfold setAdd
    refine wpAny_holding ?_
    refine wpAny_bind ((PySem.intKind prog w).pyHash (k := x) (intKind_is _ _ _ _) ?_)
    refine L2.setR_add_hashed (s := { s' with toks := s'.toks + 1 }) hS1 (by omega) fun g same hS2 => ?_
    have hS3 := L2.SetR.congr (S' := fun y => decide (y ∈ xs.take (i + 1))) hS2 (fun y => by
      rw [List.take_add_one, hx]
      simp [List.mem_append])
    refine wpAny_pure ⟨plainId_quiet PyProof.Rows.F.plain_set_update_loop _, ih (i + 1) _ (by omega) lt (W.frame _ s' _ _ st' (Nat.le_succ _) fun b hb o e => ?_) ⟨_, (by split <;> omega), hS3⟩ fun s2 c2 m2 hc2 hS4 => ?_⟩
    · rw [same.2 b (fun h : b = S => hSf (by rw [← h]; exact hb))]
      exact e
    · refine hR s2 c2 (Moved.trans W.gtrans ((hm.mono more).then_heap (Nat.le_succ _) fun b o hb e => ?_) m2) hc2 hS4
      rw [same.2 b (fun h : b = S => hb (by rw [h]; exact List.mem_cons_self))]
      exact e
set_option maxHeartbeats 3200000 in
theorem set_ints {l : Addr} {its : Array Value} {xs : List Int} {Q : Value → Shared → Prop} (hh : A.handled = none) (hl : s.heap.IsList l its) (hi : PyProof.Rows.IntsAre its.toList xs) (hb : xs.length + 1 < scanBound)
    (q : ∀ (g : Heap) (tk c : Nat), c ≤ xs.length → L2.SetR w g s.heap.objs.size (fun y => decide (y ∈ xs)) c → (∀ b o, b < s.heap.objs.size → s.heap.get? b = some o → g.get? b = some o) → Q (.ref s.heap.objs.size) { s with heap := g, toks := tk }) :
    wpAny (model prog w) A (call (.type "set") [.ref l]) Q E s := by
  obtain ⟨c0, tl0, m0⟩ := PySem.F.called_set.mro
  have a1 := PySem.F.called_set.made
  have a2 := PySem.F.called_set.sub
  refine wpAny_call (codeAny_of_tree ?_)
  show wpAny _ _ (callAny (.type "set") _) _ _ _
  refine wpAny_pure ⟨Code.quiet_builtin _ (by decide +kernel), codeAny_builtin PySem.F.entry_type_call ?_⟩
  rw [Around.under_plain (weight_type_call_type "set" [.ref l] []) rfl]
  have a3 := PySem.F.called_set.notType
  have a4 := PySem.F.called_set.canCreate
  have a5 := PySem.F.typeCall_set_1 (.ref l)
  repeat (any_goals (first | assumption | wp_step))
  refine codeAny_mono (code_led1 (.ref l) (E := E) (Q₁ := fun ob s₁ => ob = .ref s.heap.objs.size ∧ s₁ = { s with heap := s.heap.push { cls := .type "set", dict := none, data := .set #[] 0 (.fresh 0 0 (!w.params.followText "set-order")) } }) ⟨rfl, rfl⟩) fun r s₁ hr => ?_
  cases r with
  | error e => exact hr
  | ok fl =>
    cases fl with
    | ret ob =>
      obtain ⟨rfl, rfl⟩ := hr
      generalize hso : ({ cls := .type "set", dict := none, data := .set #[] 0 (.fresh 0 0 (!w.params.followText "set-order")) } : Obj) = so
      have hfr : so.isFreed = false := by rw [← hso]; rfl
      have b1 : (s.heap.push so).get? s.heap.objs.size = some so := Heap.get?_push_size _ hfr
      have b2 : Shared.TypeIs { s with heap := s.heap.push so } (.ref s.heap.objs.size) "set" := ⟨_, b1, by rw [← hso]⟩
      have b3 := PySem.F.called_set.init.lookup
      have b4 := PySem.F.called_set.init.bind (.ref s.heap.objs.size)
      repeat (any_goals (first | assumption | wp_step))
      refine codeAny_mono (codeAny_call_builtin (R := wants (fun r s₂ => r = .none ∧ ∃ g tk c, s₂ = { s with heap := g, toks := tk } ∧ c ≤ xs.length ∧ L2.SetR w g s.heap.objs.size (fun y => decide (y ∈ xs)) c ∧
          (∀ b o, b < s.heap.objs.size → s.heap.get? b = some o → g.get? b = some o)) E) PySem.F.called_set.init.plain PySem.F.entry_set_init (check_set_init_1 b2 ?_)) fun r₂ s₂ hr₂ => ?_
      · obtain ⟨ol, hol, hcl, nl, hdl⟩ := hl
        obtain ⟨ocls, odict, odata, oslots⟩ := ol
        simp only at hcl hdl
        subst hcl hdl
        have hol' : (s.heap.push so).get? l = some { cls := .type "list", dict := odict, data := .seq its nl, slots := oslots } := Heap.get?_push_of_some _ hol
        have c1 := PySem.F.sub_list_set
        have c2 := PySem.F.sub_list_frozenset
        have c3 : (Value.type "list" == Value.type "dict") = false := by decide
        have hl1 : (s.heap.push so).IsList l its := ⟨_, hol', rfl, nl, rfl⟩
        unfold Builtin.«set.__init__» noKeywords Builtin.Frozenset.updateFrom
        generalize hPI : pyIter = PI
        have ll : l < s.heap.objs.size := Heap.lt_size hol
        have nI : ∀ ob : Obj, l ≠ (s.heap.push ob).objs.size := fun ob => by
          rw [Heap.size_push]
          exact Nat.ne_of_lt (Nat.lt_succ_of_lt ll)
        have nS : ∀ ob : Obj, s.heap.objs.size ∉ [(s.heap.push ob).objs.size, l] := fun ob => by
          rw [Heap.size_push]
          simp only [List.mem_cons, List.mem_singleton, List.not_mem_nil, or_false, not_or]
          exact ⟨Nat.ne_of_lt (Nat.lt_succ_self _), Nat.ne_of_gt ll⟩
        have nB : ∀ (ob : Obj) (b : Addr), b < s.heap.objs.size → b ≠ (s.heap.push ob).objs.size := fun ob b lb => by
          rw [Heap.size_push]
          exact Nat.ne_of_lt (Nat.lt_succ_of_lt lb)
        subst hso
        wp_walk
        subst hPI
        refine wpAny_pyIter_list hl1 ?_
        refine wpAny_bind (wpAny_runValue ?_)
        have hh3 : A.in1.in1.in1.handled = none := by simp [hh]
        have sz : xs.length = its.size := by rw [← ints_len hi, Array.length_toList]
        have hval : ∀ (i : Nat) (v : Value), its[i]? = some v → ∃ x t, xs[i]? = some x ∧ v = .int x t := fun i v hv => ints_at hi i v (by rw [Array.getElem?_toList]; exact hv)
        refine fill ((Walks.list hh3 _ l (nI (so (!w.params.followText "set-order"))) its).toS) s.heap.objs.size (nS (so (!w.params.followText "set-order"))) xs sz (by rw [← sz]; exact hb) hval (its.size - 0) 0 _ (by omega) (Nat.zero_le _)
          ⟨⟨_, Heap.get?_push_size _ rfl, rfl, rfl⟩, (hl1.push _)⟩ ?hS0 ?hR
        case hS0 =>
          exact ⟨0, Nat.le_refl _, L2.SetR.congr (L2.SetR.at (L2.setR_fresh w) fun o e => Heap.get?_push_of_some _ e) (fun _ => by simp)⟩
        case hR =>
          intro s' c' hm hc' hS'
          obtain ⟨g, g', d', tk', os'⟩ := s'
          have eg : g' = s.gens := hm.gens
          have ed : d' = s.drawn := hm.drawn
          have eo : os' = s.os := hm.os
          subst eg ed eo
          show wpAny _ _ _ _ _ _
          refine wpAny_pure ?_
          show wpAny _ _ (ret Value.none) _ _ _
          rw [← sz, List.take_length] at hS'
          rw [← sz] at hc'
          refine wpAny_pure ⟨rfl, g, tk', c', rfl, hc', hS', fun b o lb e => ?_⟩
          have n1 : b ≠ s.heap.objs.size := Nat.ne_of_lt lb
          have n2 := nB (so (!w.params.followText "set-order")) b lb
          exact hm.heap b o (by simp only [List.mem_cons, List.mem_singleton, List.not_mem_nil, or_false, not_or]; exact ⟨n1, n2⟩) (Heap.get?_push_of_some _ (Heap.get?_push_of_some _ e))
      · cases r₂ with
        | error e => exact hr₂
        | ok fl₂ =>
          cases fl₂ with
          | ret r =>
            obtain ⟨rfl, g, tk, c', rfl, hc', hS', hk'⟩ := hr₂
            repeat (any_goals (first | assumption | wp_step))
            exact q _ _ _ hc' hS' hk'
          | _ => exact hr₂.elim
    | _ => exact hr.elim
set_option maxHeartbeats 3200000 in
theorem set_intsT {l : Addr} {its : Array Value} {xs : List Int} {Q : Value → Shared → Prop} (hh : A.handled = none) (hl : s.heap.IsTuple l its) (hi : PyProof.Rows.IntsAre its.toList xs) (hb : xs.length + 1 < scanBound)
    (q : ∀ (g : Heap) (tk c : Nat), c ≤ xs.length → L2.SetR w g s.heap.objs.size (fun y => decide (y ∈ xs)) c → (∀ b o, b < s.heap.objs.size → s.heap.get? b = some o → g.get? b = some o) → Q (.ref s.heap.objs.size) { s with heap := g, toks := tk }) :
    wpAny (model prog w) A (call (.type "set") [.ref l]) Q E s := by
  obtain ⟨c0, tl0, m0⟩ := PySem.F.called_set.mro
  have a1 := PySem.F.called_set.made
  have a2 := PySem.F.called_set.sub
  refine wpAny_call (codeAny_of_tree ?_)
  show wpAny _ _ (callAny (.type "set") _) _ _ _
  refine wpAny_pure ⟨Code.quiet_builtin _ (by decide +kernel), codeAny_builtin PySem.F.entry_type_call ?_⟩
  rw [Around.under_plain (weight_type_call_type "set" [.ref l] []) rfl]
  have a3 := PySem.F.called_set.notType
  have a4 := PySem.F.called_set.canCreate
  have a5 := PySem.F.typeCall_set_1 (.ref l)
  repeat (any_goals (first | assumption | wp_step))
  refine codeAny_mono (code_led1 (.ref l) (E := E) (Q₁ := fun ob s₁ => ob = .ref s.heap.objs.size ∧ s₁ = { s with heap := s.heap.push { cls := .type "set", dict := none, data := .set #[] 0 (.fresh 0 0 (!w.params.followText "set-order")) } }) ⟨rfl, rfl⟩) fun r s₁ hr => ?_
  cases r with
  | error e => exact hr
  | ok fl =>
    cases fl with
    | ret ob =>
      obtain ⟨rfl, rfl⟩ := hr
      generalize hso : ({ cls := .type "set", dict := none, data := .set #[] 0 (.fresh 0 0 (!w.params.followText "set-order")) } : Obj) = so
      have hfr : so.isFreed = false := by rw [← hso]; rfl
      have b1 : (s.heap.push so).get? s.heap.objs.size = some so := Heap.get?_push_size _ hfr
      have b2 : Shared.TypeIs { s with heap := s.heap.push so } (.ref s.heap.objs.size) "set" := ⟨_, b1, by rw [← hso]⟩
      have b3 := PySem.F.called_set.init.lookup
      have b4 := PySem.F.called_set.init.bind (.ref s.heap.objs.size)
      repeat (any_goals (first | assumption | wp_step))
      refine codeAny_mono (codeAny_call_builtin (R := wants (fun r s₂ => r = .none ∧ ∃ g tk c, s₂ = { s with heap := g, toks := tk } ∧ c ≤ xs.length ∧ L2.SetR w g s.heap.objs.size (fun y => decide (y ∈ xs)) c ∧
          (∀ b o, b < s.heap.objs.size → s.heap.get? b = some o → g.get? b = some o)) E) PySem.F.called_set.init.plain PySem.F.entry_set_init (check_set_init_1 b2 ?_)) fun r₂ s₂ hr₂ => ?_
      · obtain ⟨ol, hol, hcl, nl, hdl⟩ := hl
        obtain ⟨ocls, odict, odata, oslots⟩ := ol
        simp only at hcl hdl
        subst hcl hdl
        have hol' : (s.heap.push so).get? l = some { cls := .type "tuple", dict := odict, data := .seq its nl, slots := oslots } := Heap.get?_push_of_some _ hol
        have c1 := PySem.F.sub_tuple_set
        have c2 := PySem.F.sub_tuple_frozenset
        have c3 : (Value.type "tuple" == Value.type "dict") = false := by decide
        have hl1 : (s.heap.push so).IsTuple l its := ⟨_, hol', rfl, nl, rfl⟩
        unfold Builtin.«set.__init__» noKeywords Builtin.Frozenset.updateFrom
        generalize hPI : pyIter = PI
        have ll : l < s.heap.objs.size := Heap.lt_size hol
        have nI : ∀ ob : Obj, l ≠ (s.heap.push ob).objs.size := fun ob => by
          rw [Heap.size_push]
          exact Nat.ne_of_lt (Nat.lt_succ_of_lt ll)
        have nS : ∀ ob : Obj, s.heap.objs.size ∉ [(s.heap.push ob).objs.size, l] := fun ob => by
          rw [Heap.size_push]
          simp only [List.mem_cons, List.mem_singleton, List.not_mem_nil, or_false, not_or]
          exact ⟨Nat.ne_of_lt (Nat.lt_succ_self _), Nat.ne_of_gt ll⟩
        have nB : ∀ (ob : Obj) (b : Addr), b < s.heap.objs.size → b ≠ (s.heap.push ob).objs.size := fun ob b lb => by
          rw [Heap.size_push]
          exact Nat.ne_of_lt (Nat.lt_succ_of_lt lb)
        subst hso
        wp_walk
        subst hPI
        refine wpAny_pyIter_tuple hl1 ?_
        refine wpAny_bind (wpAny_runValue ?_)
        have hh3 : A.in1.in1.in1.handled = none := by simp [hh]
        have sz : xs.length = its.size := by rw [← ints_len hi, Array.length_toList]
        have hval : ∀ (i : Nat) (v : Value), its[i]? = some v → ∃ x t, xs[i]? = some x ∧ v = .int x t := fun i v hv => ints_at hi i v (by rw [Array.getElem?_toList]; exact hv)
        refine fill ((Walks.tuple hh3 _ l (nI (so (!w.params.followText "set-order"))) its).toS) s.heap.objs.size (nS (so (!w.params.followText "set-order"))) xs sz (by rw [← sz]; exact hb) hval (its.size - 0) 0 _ (by omega) (Nat.zero_le _)
          ⟨⟨_, Heap.get?_push_size _ rfl, rfl, rfl⟩, (hl1.push _)⟩ ?hS0 ?hR
        case hS0 =>
          exact ⟨0, Nat.le_refl _, L2.SetR.congr (L2.SetR.at (L2.setR_fresh w) fun o e => Heap.get?_push_of_some _ e) (fun _ => by simp)⟩
        case hR =>
          intro s' c' hm hc' hS'
          obtain ⟨g, g', d', tk', os'⟩ := s'
          have eg : g' = s.gens := hm.gens
          have ed : d' = s.drawn := hm.drawn
          have eo : os' = s.os := hm.os
          subst eg ed eo
          show wpAny _ _ _ _ _ _
          refine wpAny_pure ?_
          show wpAny _ _ (ret Value.none) _ _ _
          rw [← sz, List.take_length] at hS'
          rw [← sz] at hc'
          refine wpAny_pure ⟨rfl, g, tk', c', rfl, hc', hS', fun b o lb e => ?_⟩
          have n1 : b ≠ s.heap.objs.size := Nat.ne_of_lt lb
          have n2 := nB (so (!w.params.followText "set-order")) b lb
          exact hm.heap b o (by simp only [List.mem_cons, List.mem_singleton, List.not_mem_nil, or_false, not_or]; exact ⟨n1, n2⟩) (Heap.get?_push_of_some _ (Heap.get?_push_of_some _ e))
      · cases r₂ with
        | error e => exact hr₂
        | ok fl₂ =>
          cases fl₂ with
          | ret r =>
            obtain ⟨rfl, g, tk, c', rfl, hc', hS', hk'⟩ := hr₂
            repeat (any_goals (first | assumption | wp_step))
            exact q _ _ _ hc' hS' hk'
          | _ => exact hr₂.elim
    | _ => exact hr.elim
end
end Si
namespace Si
open PySem PySem.Spec PyProof.Rows L2
section
variable {X : Cx}
theorem intsAre : ∀ {ns : List Int} {us : List Value}, Vals (ns.map V.int) us → IntsAre us ns
  | [], _, .nil => .nil
  | n :: ns, _, .cons r rt => by
    obtain ⟨t, rfl⟩ := r
    exact .cons n t (intsAre rt)
/-- set(xs), xs a list or a tuple of ints -/
def rSet (K : PySem.W.Frag) (w : World) : List V → Hp → VK → Prop := fun xs H Q => ∃ (p : Addr) (ns : List Int), xs = [.ref p] ∧ (SqL K H p (ns.map V.int) ∨ SqT K H p (ns.map V.int)) ∧ ns.length ≤ 4000 ∧
  ∀ S c, c ≤ ns.length → H S = none → Q (.ref S) (upd H S (SetO w S (fun y => decide (y ∈ ns)) c))
theorem call_set (hc : X.calm = true) : CallR X (.type "set") (rSet X.K X.w) := by
  intro pins s σ H xs us Q I r h
  obtain ⟨p, ns, rfl, hq, hl, k⟩ := h
  obtain ⟨u, rfl, ru⟩ := r.one
  cases (show u = Value.ref p from ru)
  rcases hq with hq | hq
  · obtain ⟨its, r, pl, hz⟩ := I.list hq
    refine set_ints (I.ok.hd hc) pl.isList (by simpa using intsAre r) (by unfold scanBound; omega) fun g tk c hcn hS hk => ?_
    exact ⟨.ref _, _, I.laid (t' := tk) (fun b u e => hk b u (Heap.lt_size e) e) (Nat.le_refl _) (setO_new hS), rfl, k _ c hcn (I.hok.fresh (Nat.le_refl _))⟩
  · obtain ⟨its, r, pl, hz⟩ := I.tuple hq
    refine set_intsT (I.ok.hd hc) pl (by simpa using intsAre r) (by unfold scanBound; omega) fun g tk c hcn hS hk => ?_
    exact ⟨.ref _, _, I.laid (t' := tk) (fun b u e => hk b u (Heap.lt_size e) e) (Nat.le_refl _) (setO_new hS), rfl, k _ c hcn (I.hok.fresh (Nat.le_refl _))⟩
end
end Si

/-! repr of data, and defs that are called where no repr is under way. -/
namespace Rp
open PySem PySem.Spec PyProof.Rows L2
section
variable {X : Cx}
def rRepr (K : PySem.W.Frag) : List V → Hp → VK → Prop := fun xs H Q => ∃ x d, xs = [x] ∧ Dp K H x d ∧ d.showable = true ∧ d.hasDict = false ∧ d.depth ≤ 60 ∧ d.shown.length ≤ sizeLine ∧ Q (.str d.shown) H
theorem call_reprD (hg : X.A.guards = some []) (hu : X.A.units + 64 < cLine) : CallR X (.builtin "repr") (rRepr X.K) := by
  intro pins s σ H xs us Q I r h
  obtain ⟨x, d, rfl, hd, hs, hn, hz, hl, q⟩ := h
  cases r with
  | cons rx rn =>
    cases rn
    obtain ⟨as, rd⟩ := Dp.reads I d x _ hd rx
    cases rd with
    | none => exact PySem.P.repr_of_none ⟨.str _, H, I.tok _, ⟨_, rfl⟩, q⟩
    | bool b => exact PySem.P.repr_of_bool ⟨.str _, H, I.tok _, ⟨_, rfl⟩, q⟩
    | int i t => exact PySem.P.repr_of_int (of_decide_eq_true hs) ⟨.str _, H, I.tok _, ⟨_, rfl⟩, q⟩
    | str z t => exact PySem.P.repr_of_str (hsz := hl) ⟨.str _, H, I.tok _, ⟨_, rfl⟩, q⟩
    | list h1 h2 h3 h4 =>
      exact PySem.repr_of_reads' (.list h1 h2 h3 h4) hs (fun e => by rw [hn] at e; cases e) hg (by omega) (fun _ _ e => e) (fun g u tk k => ⟨.str _, H, I.kept (t' := tk) k, ⟨_, rfl⟩, q⟩) hl
    | tuple h1 h2 h3 h4 =>
      exact PySem.repr_of_reads' (.tuple h1 h2 h3 h4) hs (fun e => by rw [hn] at e; cases e) hg (by omega) (fun _ _ e => e) (fun g u tk k => ⟨.str _, H, I.kept (t' := tk) k, ⟨_, rfl⟩, q⟩) hl
    | dict => cases hd
end
/-- as FnOk, where no repr is under way -/
structure GOk (P : Program) (w : World) (K : PySem.W.Frag) (mg : Str → Option Value) (base : Heap) (CX : CXT) (k : Nat) (f : Addr) (fd : FuncData) (ps : List Str) (sp : Sp) : Prop where
  len : ∀ vs H Q E, sp vs H Q E → vs.length = ps.length
  run : ∀ (A : Around) (outer : List Env) (s : Shared) (H : Hp) (args : Args) (us : List Value) (vs : List V) (Q : VK) (E : XK), Room k A → A.guards = some [] → Env0 P w K mg base A outer s H → BindsTo s fd args (ps.zip us) → Vals vs us → sp vs H Q E →
    codeAny (model P w) A (.call (.ref f) args) (CR CX outer P w H s Q E) s
section
variable {CX : CXT} {P : Program} {w : World} {K : PySem.W.Frag} {mg : Str → Option Value} {base : Heap} {k : Nat} {f : Addr} {fd : FuncData} {ps : List Str} {sp : Sp}
theorem GOk.of (F : FnOk P w K mg base CX k f fd ps sp) : GOk P w K mg base CX k f fd ps sp := ⟨F.len, fun A outer s H args us vs Q E hr _ => F.run A outer s H args us vs Q E hr⟩
theorem GOk.mono {j : Nat} (F : GOk P w K mg base CX j f fd ps sp) (h : j ≤ k) : GOk P w K mg base CX k f fd ps sp := ⟨F.len, fun A outer s H args us vs Q E hr => F.run A outer s H args us vs Q E (hr.mono h)⟩
theorem gfn_of {name qual : Str} {params : Arguments} {body : List Stmt} {scope : Scope} {dV kV doc pm cdv ct oc : Value} {an od : Option Addr} {osl : Array (Option Value)} {N : List Str}
    (lk : K.lookup f = some ⟨oc, od, .func (PySem.W.fnOf name qual params body scope dV kV doc pm an cdv ct), osl⟩) (hcd : PySem.W.codeIn K cdv qual = true) (S : FnScope N ps scope)
    (len : ∀ vs H Q E, sp vs H Q E → vs.length = ps.length)
    (hbody : ∀ (A : Around) (outer : List Env) (s : Shared) (H : Hp) (vs : List V) (Q : VK) (E : XK), A.guards = some [] → Room k (A.deeper (envOfC qual scope s.heap.objs.size f cdv)) → sp vs H Q E →
      ∃ t, PSs (cxOf CX P w K mg base N qual scope f cdv A outer s H E) body t ∧ t { nx := fun _ H' => Q .non H', rt := Q } (start N vs) H) :
    GOk P w K mg base CX (k + 1) f (PySem.W.fnOf name qual params body scope dV kV doc pm an cdv ct) ps sp := by
  refine ⟨len, fun A outer s H args us vs Q E hr hg e0 hb r hsp => ?_⟩
  have nl := len _ _ _ _ hsp
  have old : ∀ b o, base.get? b = some o → s.heap.get? b = some o := fun b o e => (e0.bs b o e).1
  have KX : K.In s.heap := e0.mod.kin.keeps old
  have lim : s.heap.NoLimit := e0.mod.nolimit.keeps old
  have kinds : ∀ y ∈ ps.zip us, scope.names.lookup y.1 = some .local ∨ (scope.names.lookup y.1 = some .cell ∧ ((cellsFrom (s.heap.objs.size + 1) scope.names []).lookup y.1).isSome = true) := fun ⟨n, v⟩ hy =>
    (S.par n (List.of_mem_zip hy).1).imp id fun q => ⟨q, PySem.W.cellsFrom_some _ _ _ (.inl q)⟩
  refine codeAny_call_function hr.depth (KX _ _ lk) rfl S.co S.gen rfl (PySem.W.codeRec_of KX hcd) (hb _ _ _ _ ?_)
  refine wpAny_newFunctionEnv_cells S.kind kinds fun env ee s1 x => ?_
  subst ee
  refine ⟨lim.keeps x.toInCall.keep, codeAny_func ?_⟩
  obtain ⟨t, ht, hq⟩ := hbody A outer s H vs Q E hg (hr.deeper _) hsp
  have I0 : Inv (cxOf CX P w K mg base N qual scope f cdv A outer s H E) [] (start N vs) H s1 := inv_start S hr.hd e0 nl r x
  refine wpAny_mono (ht.run [] s1 (start N vs) H _ I0 hq) (fun fl s' hs => ?_) fun e s' hs => hs
  cases fl with
  | ret u =>
    obtain ⟨v, σ', H', J, rv, q⟩ := hs
    exact ⟨v, H', J.os, J.bare, J.base, J.hok, rv, q⟩
  | next =>
    obtain ⟨σ', H', J, q⟩ := hs
    exact ⟨V.non, H', J.os, J.bare, J.base, J.hok, rfl, q⟩
  | brk =>
    obtain ⟨_, _, _, q⟩ := hs
    exact q.elim
  | cont =>
    obtain ⟨_, _, _, q⟩ := hs
    exact q.elim
theorem gok {x qual : Str} {st : Stmt} {N : List Str} (F : Fun K x qual st f fd) (S : FnScope N ps (defScope st)) (len : ∀ vs H Q E, sp vs H Q E → vs.length = ps.length)
    (hbody : ∀ (cdv : Value) (A : Around) (outer : List Env) (s : Shared) (H : Hp) (vs : List V) (Q : VK) (E : XK), A.guards = some [] → Room k (A.deeper (envOfC qual (defScope st) s.heap.objs.size f cdv)) → sp vs H Q E →
      ∃ t, PSs (cxOf CX0 P w K mg base N qual (defScope st) f cdv A outer s H E).nox (defBody st) t ∧ t { nx := fun _ H' => Q .non H', rt := Q } (start N vs) H) : GOk P w K mg base CX0 (k + 1) f fd ps sp := by
  obtain ⟨oc, od, kV, doc, pm, an, cdv, ct, osl, rfl, lk, hcd⟩ := F.ex
  refine gfn_of lk hcd S len fun A outer s H vs Q E hg hr hsp => ?_
  obtain ⟨t, h, q⟩ := hbody cdv A outer s H vs Q E hg hr hsp
  exact ⟨t, h.nox, q⟩
end
section
variable {X : Cx} {CX : CXT} {k : Nat} {f : Addr} {fd : FuncData} {ps : List Str} {sp : Sp} {E : XK} {ds : List Value} {dvs : List V} {x : Str} {e : Expr} {es : List Expr} {t : TA} {p pos : Pos}
theorem pe_gcall (F : GOk X.prog X.w X.K X.mg X.base CX k f fd ps sp) (gd : X.A.guards = some []) (hr : Room k X.A) (hg : Gl X x) (hm : X.mg x = some (.ref f)) (hk : PySem.W.keepIn X.K (.ref f) = true) (hb : Binds X.K fd ps ds) (hd : Vals dvs ds) (hx : Passes CX X E)
    (ha : PA X (e :: es) t) (hdb : (x == ("__debug__" : Str)) = false := by decide) (he : starEach (e :: es) X.env = (false, eval e X.env) :: starEach es X.env := by rfl) (hpl : (backTo pos (starEach es X.env)).any (·.1) = false := by rfl) :
    PE X (.Call (.Name x p) (e :: es) [] pos) (tCall sp dvs E t) := by
  refine ⟨fun pins s σ H Q I h => ?_⟩
  refine wpAny_Call_Name_kw (ld_glob I hg hm ?_ hdb)
  refine PySem.W.callWith_K (h₀ := X.base) I.ok.mod.kin hk (thn (ha.run pos pins s σ H _ I h) fun us s1 ⟨vs, H1, I1, r, q⟩ => ⟨I1.kIn, ?_⟩) he hpl
  have r2 : Vals (vs ++ dvs) (us ++ ds) := r.append hd
  have nl : (us ++ ds).length = ps.length := r2.length.symm.trans (F.len _ _ _ _ q)
  refine wpAny_call (codeAny_mono (F.run X.A X.stack s1 H1 ⟨us, []⟩ (us ++ ds) (vs ++ dvs) Q E hr gd I1.env0 (hb s1 us I1.kIn nl) r2 q) fun res s' hq => ?_)
  cases res with
  | error z => exact hx pins σ H1 s1 z s' I1 hq
  | ok fl =>
    cases fl with
    | ret u => exact I1.after hq
    | next => exact hq.elim
    | brk => exact hq.elim
    | cont => exact hq.elim
end
end Rp
/-! The law's own call, of a def that is called where no repr is under way. -/
namespace Rp
open PySem PySem.Spec PyProof.Rows L2
theorem law_gcall {P : Program} {w : World} {K : PySem.W.Frag} {mg mb : Str → Option Value} {CX : CXT} {k : Nat} {fa a : Addr} {fd : FuncData} {x : Str} {sp : Sp} {s1 : Shared} {vs : List Value} {ns : List Int}
    (KX : K.In s1.heap) (hns : s1.heap.Ns mainGlobals mg) (hb : s1.heap.Ns builtinsNs mb) (hbb : ∀ y : Str, y ≠ "__name__" → mb y = bootBuiltins y) (lim : s1.heap.NoLimit) (gens : s1.gens = #[])
    (ha : s1.heap.get? a = some { cls := .type "list", data := .seq vs.toArray }) (hi : IntsAre vs ns) (hl : ns.length ≤ sizeLine) (hr : Room k callerA)
    (F : ∀ base : Heap, K.In base → base.Ns mainGlobals mg → GOk P w K mg base CX k fa fd [x] sp) (hbind : ∀ (s : Shared) (u : Value), BindsTo s fd ⟨[u], []⟩ [(x, u)])
    (hsp : ∀ H : Hp, Only H → SqL K H a (ns.map V.int) → sp [.ref a] H (fun v _ => v = .bl true) fun _ _ _ => False)
    (hCX : ∀ H e t, CX [] H s1 (fun _ _ _ => False) e t → False) :
    codeAny (model P w) callerA (.call (.ref fa) ⟨[.ref a], []⟩) (fun r t => r = .ok (.ret (.bool true)) ∧ OldK s1.heap t.heap ∧ t.os = s1.os ∧ AllBare t.gens) s1 := by
  have rv := vals_ints hi
  have nv := hi.length
  have go : ∀ H : Hp, Only H → SqL K H a (ns.map V.int) → HOk P w H s1.heap → (∀ b, H b ≠ none → b = a) → (H a ≠ none → K.lookup a = none) →
      codeAny (model P w) callerA (.call (.ref fa) ⟨[.ref a], []⟩) (fun r t => r = .ok (.ret (.bool true)) ∧ OldK s1.heap t.heap ∧ t.os = s1.os ∧ AllBare t.gens) s1 := by
    intro H hO hS hok only_a noK
    have hid : ∀ {b : Addr} {o : Obj}, s1.heap.get? b = some o → H b = none → (hidT s1.heap H).get? b = some o := fun e n => hidT_get e n
    have dictFree : ∀ {b : Addr} {o : Obj} {es : Array DictEntry} {ep : Nat}, s1.heap.get? b = some o → o.data = .dict es ep → H b = none := fun {b o es ep} e d => by
      cases q : H b with
      | none => rfl
      | some u =>
        have eb : b = a := only_a b (by rw [q]; simp)
        subst eb
        rw [ha] at e
        cases e
        have d2 : Data.seq vs.toArray _ = Data.dict es ep := d
        cases d2
    have nsOf : ∀ {b : Addr} {m : Str → Option Value}, s1.heap.Ns b m → (hidT s1.heap H).Ns b m := fun {b m} ⟨o, es, ep, e, d, r⟩ => ⟨o, es, ep, hid e (dictFree e d), d, r⟩
    have inB : K.In (hidT s1.heap H) := fun b o e => hid (KX b o e) (by
      cases q : H b with
      | none => rfl
      | some u =>
        have eb : b = a := only_a b (by rw [q]; simp)
        subst eb
        rw [noK (by rw [q]; simp)] at e
        cases e)
    have md : Mod K mg (hidT s1.heap H) := ⟨inB, nsOf hns, ⟨mb, nsOf hb, hbb⟩, let ⟨mc, c1, c2⟩ := lim; ⟨mc, nsOf c1, c2⟩⟩
    have e0 : Env0 P w K mg (hidT s1.heap H) callerA [] s1 H := ⟨rfl, md, fun b o e => of_hidT e, Nat.le_of_eq (hidT_size _ _), trivial, fun b hb => absurd (show b ∈ ([] : List Addr) from hb) (by simp), hok, .of_eq gens⟩
    refine codeAny_mono ((F _ inB (nsOf hns)).run callerA [] s1 H ⟨[.ref a], []⟩ [.ref a] [.ref a] _ _ hr rfl e0 (hbind s1 (.ref a)) (.cons rfl .nil) (hsp H hO hS)) fun r t h => ?_
    cases r with
    | error e => exact (hCX H e t h).elim
    | ok fl =>
      cases fl with
      | next => exact h.elim
      | brk => exact h.elim
      | cont => exact h.elim
      | ret u =>
        obtain ⟨v, H', os, bare, un, hok', r', q⟩ := h
        have q' : v = .bl true := q
        subst q'
        obtain rfl : u = Value.bool true := r'
        refine ⟨rfl, OldK.of_keep fun b o e => ?_, os, bare⟩
        cases q : H b with
        | none => exact un.keep b o e q (by intro z; exact absurd (show b ∈ ([] : List Addr) from z) (by simp)) (by simp)
        | some u =>
          rcases hO b with z | ⟨ob, xs, z⟩
          · rw [q] at z
            cases z
          · have z2 := un.frzs b ob _ z
            obtain ⟨e1, _⟩ := hok b _ z
            obtain ⟨e2, _⟩ := hok' b _ z2
            rw [e] at e1
            cases e1
            exact e2
  cases hk : K.lookup a with
  | some o =>
    have e := KX a o hk
    rw [ha] at e
    cases e
    refine go (fun _ => none) (fun _ => .inl rfl) (.inr ⟨_, vs.toArray, _, hk, rfl, rfl, rfl, by rw [List.size_toArray, nv]; exact hl, by simpa using rv⟩) (fun b u z => by have z' : (none : Option HO) = some u := z; cases z') (fun b z => absurd rfl z) fun z => absurd rfl z
  | none =>
    refine go (fun b => if b = a then some (.frz { cls := .type "list", data := .seq vs.toArray } (.lst (ns.map V.int))) else none) (fun b => ?_) (.inl (.inr ⟨{ cls := .type "list", data := .seq vs.toArray }, if_pos rfl⟩)) (fun b u z => ?_) (fun b z => ?_) fun _ => hk
    · by_cases c : b = a
      · exact .inr ⟨_, _, if_pos c⟩
      · exact .inl (if_neg c)
    · by_cases c : b = a
      · have z' := (if_pos c).symm.trans z
        cases z'
        subst c
        exact ⟨ha, by rw [List.length_map]; exact hl, vs, _, rv, ha⟩
      · have z' := (if_neg c).symm.trans z
        cases z'
    · by_cases c : b = a
      · exact c
      · exact absurd (if_neg c) z
theorem walk_gof {l : PySem.W.OpenLaw} {n k : Nat} {q : Program} {loose : List Str} {XP : (Str → Option Value) → Heap → Prop} {YP : World → Heap → Prop} {d : DefRec} {K : Params → PySem.W.Frag} {CX : World → CXT} {sp : World → Sp} {x : Str}
    (hn : l.most = some n) (hn2 : n ≤ sizeLine) (hdf : d.params.defaults = []) (hr : Room k callerA)
    (hY : ∀ (w : World) (h : Heap), YP w h → (K w.params).In h)
    (F : ∀ (w : World) (mg : Str → Option Value) (fa : Addr) (h : Heap), (K w.params).In h → h.Ns mainGlobals mg → mg d.name = some (.ref fa) →
      ∃ fd : FuncData, (∀ (s : Shared) (u : Value), BindsTo s fd ⟨[u], []⟩ [(x, u)]) ∧
        ∀ base : Heap, (K w.params).In base → base.Ns mainGlobals mg → GOk l.prog w (K w.params) mg base (CX w) k fa fd [x] (sp w))
    (hsp : ∀ (w : World) (H : Hp) (a : Addr) (ns : List Int), ns.length ≤ n → Only H → SqL (K w.params) H a (ns.map V.int) → sp w [.ref a] H (fun v _ => v = .bl true) fun _ _ _ => False)
    (hCX : ∀ (w : World) (H : Hp) (s : Shared) (e : Value) (t : Shared), CX w [] H s (fun _ _ _ => False) e t → False) :
    PySem.W.WalkO q loose XP YP l.row.toRowW d [] (fun f vs => PySem.call f vs) := by
  refine Att.attach_call hn hdf fun w s0 s1 mg mb fa o pm cd doc a vs ns G Y ho hd hcd hmg hobj hints hlen hg => ?_
  have KX := hY w _ Y
  obtain ⟨fd, hb, hF⟩ := F w mg fa _ KX G.T.g hmg
  exact law_gcall KX G.T.g G.T.b G.T.builtins G.T.nolimit hg hobj hints (Nat.le_trans hlen hn2) hr hF hb (fun H hO hS => hsp w H a ns hlen hO hS) fun H e t => hCX w H s1 e t
end Rp

/-! An own error with one field, BadNumber, as the guide's skeleton on own errors gives it. -/
namespace PySem
namespace LowX
open PySem.W PySem.Calls PyProof.Rows PySem.HandSPX
/-! ### the text of __init__ -/
def iA (p1 p2 : Pos) : Arguments := { posonlyargs := [], args := [{ arg := "self", annotation := none, pos := p1 }, { arg := "number", annotation := none, pos := p2 }], vararg := none, kwonlyargs := [], kw_defaults := [], kwarg := none, defaults := [] }
def iB (q1 q2 q3 q4 : Pos) : List Stmt := [.Assign [.Attribute (.Name "self" q1) "number" q2] (.Name "number" q3) q4]
def iS : Scope := { kind := .function, names := [(PySem.Str.ofString "self", .local), (PySem.Str.ofString "number", .local)], isGenerator := false, isCoroutine := false, more := [] }
/-- what the written part says of Low, at C, and of its __init__, at fI -/
structure LowTxt (K : Frag) (mg : Str → Option Value) (C fI : Addr) : Prop where
  gC : mg "BadNumber" = some (.ref C)
  cls : ∃ nm q N bs bm sn sub ab col dd k0 k1 k2 k3 k5, K.lookup C = some (excClassObj nm q C N bs bm true sn sub ab col dd k0 k1 k2 k3 k5 "ValueError.__new__") ∧ refsVE bm = true
  sa : findIn K (.ref C) "__setattr__" = some (some (.builtin "object.__setattr__"))
  ga : findIn K (.ref C) "__getattribute__" = some (some (.builtin "BaseException.__getattribute__"))
  gg : findIn K (.ref C) "__getattr__" = some none
  noN : findIn K (.ref C) "number" = some none
  iC : findIn K (.ref C) "__init__" = some (some (.ref fI))
  tC : typeIn K (.ref fI) = some (.type "function")
  kC : keepIn K (.ref C) = true
  exC : subIn K (.ref C) (.type "BaseException") = some true
  tyC : typeIn K (.ref C) = some (.type "type")
  hdC : hasDictIn K C = true
  te : exmOne K (.ref C) (.ref C) = some true
  fn : ∃ (oc : Value) (od : Option Addr) (doc pm : Value) (an : Option Addr) (cdv ct : Value) (osl : Array (Option Value)) (p1 p2 q1 q2 q3 q4 : Pos),
    K.lookup fI = some ⟨oc, od, .func (fnOf "__init__" "BadNumber.__init__" (iA p1 p2) (iB q1 q2 q3 q4) iS .none .none doc pm an cdv ct), osl⟩ ∧ codeIn K cdv "BadNumber.__init__" = true
theorem one_size (v : Value) : [v].length ≤ sizeLine := by
  rw [sizeLine_eq]
  exact (by decide : 1 ≤ 16777216)
theorem kept_but {K : Frag} {h h' : Heap} {x : Addr} (X : K.In h) (hx : K.lookup x = none) (k : ∀ b o, b ≠ x → h.get? b = some o → h'.get? b = some o) : K.In h' := fun a o e =>
  k a o (fun z => by rw [z, hx] at e; cases e) (X a o e)
theorem ldC {M : Model} {s : Shared} {name : Str} {scope : Scope} {L a : Addr} {cd : Value} {m : Str → Option Value} {x : Str} {pos : Pos} {v : Value} {Q : Value → Shared → Prop} {A : Around} {E : Value → Shared → Prop} (hn : s.heap.Ns L m) (hv : m x = some v) (h : Q v s)
    (hk : scope.kind = .function := by rfl) (hl : (envOfC name scope L a cd).kindOf x = some .local := by rfl) (hd : (x == ("__debug__" : Str)) = false := by decide) :
    wpAny M A (eval (.Name x pos) (envOfC name scope L a cd)) Q E s := wpAny_Name (wpAny_loadName_local hk hl hn hv h) hd
/-- what __init__ leaves of a fresh exception at x -/
structure InitEnd (h h' : Heap) (x C dx t1 : Addr) (v : Value) : Prop where
  keep : ∀ b o, b ≠ x → h.get? b = some o → h'.get? b = some o
  obj : h'.get? x = some { cls := .ref C, dict := some dx, data := .fields #[.ref t1, .none, .none, .none, .bool false, .none] }
  dbig : h.objs.size ≤ dx
  dne : dx ≠ x
  ns : h'.Ns1 dx (fun y => if y = "number" then some v else none)
/-- a made Low -/
structure OwnMade (h h' : Heap) (e C d : Addr) (v : Value) : Prop where
  keep : ∀ b o, h.get? b = some o → h'.get? b = some o
  new : h.objs.size ≤ e
  obj : ∃ oe vs, h'.get? e = some oe ∧ oe.cls = .ref C ∧ oe.dict = some d ∧ oe.data = .fields vs ∧ vs[1]? = some .none
  dbig : h.objs.size ≤ d
  dne : d ≠ e
  ns : h'.Ns1 d (fun y => if y = "number" then some v else none)
section
variable {prog : Program} {w : World} {A : Around} {E : Value → Shared → Prop} {R : Result → Shared → Prop} {s : Shared} {K : Frag} {mg : Str → Option Value} {C fI : Addr}
theorem low_init (T : LowTxt K mg C fI) {x t0 : Addr} {v : Value} (X : K.In s.heap) (hlim : s.heap.NoLimit) (hx : s.heap.get? x = some (excO C t0)) (hnx : K.lookup x = none) (hroom : A.depth < recursionLimit)
    (hq : ∀ h' tk dx, InitEnd s.heap h' x C dx t0 v → R (.ok (.ret .none)) { s with heap := h', toks := tk }) :
    codeAny (model prog w) A (.call (.ref fI) ⟨[.ref x, v], []⟩) R s := by
  obtain ⟨oc, od, doc, pm, an, cdv, ct, osl, p1, p2, q1, q2, q3, q4, ho, hcd⟩ := T.fn
  obtain ⟨nm, q, N, bs, bm, sn, sub, ab, col, dd, k0, k1, k2, k3, k5, hC, hbm⟩ := T.cls
  have hcl : clsIn K C = some { name := nm, bases := bs, mro := .ref C :: bm, ns := N, qualname := q, hasDict := true, slotNames := sn, subclasses := sub, abstract := ab, collection := col, hasDel := false } := by unfold clsIn; rw [hC] <;> rfl
  refine Att.call_fn (binds := [("self", .ref x), ("number", v)]) X hlim ho hcd hroom (BindsTo.of_eq (by first | rfl | with_unfolding_all rfl)) (by first | rfl | decide | with_unfolding_all rfl) (fun s₁ IC => ?_) rfl rfl rfl
  obtain ⟨h₁, tk₁, rfl⟩ := IC.toInCall.same
  have k : ∀ b o, s.heap.get? b = some o → h₁.get? b = some o := IC.toInCall.keep
  have hn := IC.toInCall.ns
  have hxL : s.heap.objs.size ≠ x := Nat.ne_of_gt (Heap.lt_size hx)
  have X₁ : K.In h₁ := X.keeps k
  have hx₁ := k _ _ hx
  -- self.by = by
  show wpAny _ _ (execs _ _) _ _ _
  refine wpAny_execs_cons (plainObj_wpAny_Assign_Attribute ?_)
  refine ldC (v := v) hn (by first | rfl | with_unfolding_all rfl | kernel_rfl) (ldC (v := .ref x) hn (by first | rfl | with_unfolding_all rfl | kernel_rfl) ?_)
  refine set_plain X₁ (ox := excO C t0) (od := none) ⟨hx₁, rfl, rfl, trivial⟩ T.sa ?_
  refine exc_osa X₁ hx₁ hcl (show refsVE (.ref C :: bm) = true from hbm) rfl T.noN (fun h₃ tk₃ dx k₃ dn dne hx₃ hn₃ => ?_)
  show wpAny _ _ (execs _ _) _ _ _
  have z : s.heap.objs.size < h₁.objs.size := hn.lt
  exact wpAny_execs_nil (hq h₃ tk₃ dx ⟨fun b o hb e => k₃ b o hb (k b o e), hx₃, Nat.le_of_lt (Nat.lt_of_lt_of_le z dn), dne, hn₃⟩)
theorem low_made (T : LowTxt K mg C fI) {v : Value} (X : K.In s.heap) (hlim : s.heap.NoLimit) (hroom : A.depth + 1 < recursionLimit)
    (hq : ∀ h' tk e d, OwnMade s.heap h' e C d v → R (.ok (.ret (.ref e))) { s with heap := h', toks := tk }) :
    codeAny (model prog w) A (.call (.ref C) ⟨[v], []⟩) R s := by
  obtain ⟨nm, q, N, bs, bm, sn, sub, ab, col, dd, k0, k1, k2, k3, k5, hC, hbm⟩ := T.cls
  obtain ⟨hp, g, dr, tk, os⟩ := s
  have k : ∀ b o, hp.get? b = some o → ((hp.push (kdv_tup [v])).push (excO C hp.objs.size)).get? b = some o := fun b o e => Heap.get?_push_of_some _ (Heap.get?_push_of_some _ e)
  have hget : ((hp.push (kdv_tup [v])).push (excO C hp.objs.size)).get? (hp.objs.size + 1) = some (excO C hp.objs.size) := by heap_get
  have hnx : K.lookup (hp.objs.size + 1) = none := by
    cases e : K.lookup (hp.objs.size + 1) with
    | none => rfl
    | some o =>
      have z : hp.get? (hp.objs.size + 1) = some o := X _ _ e
      exact absurd (Nat.lt_of_succ_lt (Heap.lt_size z)) (Nat.lt_irrefl _)
  refine call_own F.excBase_ValueError (fun X => refsVE_contains X bm hbm) (X _ _ hC) (looks_findIn X T.iC) (fun self => bind_fn X self T.tC) (one_size v) ?_
  refine low_init (s := ⟨(hp.push (kdv_tup [v])).push (excO C hp.objs.size), g, dr, tk, os⟩) T (X.keeps k) (hlim.keeps k) hget hnx ?_ fun h' tk' dx ⟨k', hx, dn, dne, hns⟩ => ?_
  · show A.depth + 1 < recursionLimit
    exact hroom
  · have old : ∀ b o, hp.get? b = some o → h'.get? b = some o := fun b o e => k' b o (Nat.ne_of_lt (Nat.lt_succ_of_lt (Heap.lt_size e))) (k b o e)
    have z : hp.objs.size + 1 + 1 ≤ dx := by
      first
        | (simpa only [Heap.size_push] using dn)
        | exact dn
        | (have q := dn; rw [Heap.size_push, Heap.size_push] at q; exact q)
    exact ⟨rfl, hq h' tk' (hp.objs.size + 1) dx ⟨old, Nat.le_succ _, ⟨_, _, hx, rfl, rfl, rfl, rfl⟩, Nat.le_trans (Nat.le_trans (Nat.le_succ _) (Nat.le_succ _)) z, dne, hns⟩⟩
end
end LowX
end PySem
namespace L2
open PySem PySem.Spec PyProof.Rows
theorem relO_low {v : V} {v' : Value} (r : RelV v v') (f : Str) : RelO (List.lookup f [(("number" : Str), v)]) (if f = "number" then some v' else none) := by
  by_cases hw : f = "number"
  · subst hw
    rw [if_pos rfl]
    have q : List.lookup ("number" : Str) [(("number" : Str), v)] = some v := by simp [List.lookup]
    rw [q]
    exact r
  · rw [if_neg hw]
    have qw : (f == ("number" : Str)) = false := by simpa using hw
    have q2 : List.lookup f [(("number" : Str), v)] = none := by simp [List.lookup, qw]
    rw [q2]
    trivial
section
variable {X : Cx} {C fI : Addr}
/-- Low(e) -/
def tMkLow (C : Addr) (ta : TA) : St → Hp → XK → Prop := fun σ H Q => ta σ H fun vs H1 => ∃ v, vs = [v] ∧ ∀ d, H1 d = none → Q (.ref C) (some d) (upd H1 d (.xd [(("number" : Str), v)]))
theorem pmk_low {a : Expr} {ta : TA} {p pos : Pos} {k : Nat} (T : PySem.LowX.LowTxt X.K X.mg C fI) (hr : Room k X.A) (ha : PA X [a] ta) (hg : Gl X "BadNumber" := by rfl)
    (he : starEach (a :: []) X.env = (false, eval a X.env) :: starEach [] X.env := by rfl) (hpl : (backTo pos (starEach [] X.env)).any (·.1) = false := by rfl) :
    PMk X (.Call (.Name "BadNumber" p) [a] [] pos) (tMkLow C ta) := by
  intro pins s σ H Q I h
  refine wpAny_Call_Name_kw (ld_glob I hg T.gC ?_)
  refine PySem.W.callWith_K (h₀ := X.base) I.ok.mod.kin T.kC (thn (ha.run pos pins s σ H _ I h) fun us s1 hh => ?_) he hpl
  obtain ⟨vs, H1, I1, r1, v, ev, q1⟩ := hh
  subst ev
  refine ⟨I1.kIn, ?_⟩
  cases r1 with
  | cons rv rn =>
    rename_i v' us'
    cases rn
    show wpAny _ _ (call (.ref C) [v']) _ _ _
    have hlim := I1.nolimit
    obtain ⟨hp, g, dr, tk, os⟩ := s1
    refine wpAny_call (PySem.LowX.low_made T I1.kIn hlim (by have := hr.dp; omega) fun h' tk' e d M => ?_)
    show MkP X pins σ Q (.ref e) ⟨h', g, dr, tk', os⟩
    obtain ⟨oe, fv, hoe, hc, hd, hdat, h1⟩ := M.obj
    have hns := M.ns
    obtain ⟨G', g1, g2⟩ := restrict h' fun b => decide (b ≠ e)
    have gk : ∀ b, b ≠ e → G'.get? b = h'.get? b := fun b hb => g1 b (decide_eq_true hb)
    have ge : G'.get? e = none := g2 e (by simp)
    have old : ∀ b o, hp.get? b = some o → G'.get? b = some o := fun b o q => (gk b (Nat.ne_of_lt (Nat.lt_of_lt_of_le (Heap.lt_size q) M.new))).trans (M.keep b o q)
    have ob : ObjOk X.prog X.w (upd H1 d (.xd [(("number" : Str), v)])) G' d (.xd [(("number" : Str), v)]) :=
      ⟨_, hns.at (fun o q => (gk d M.dne).trans q), fun f => relO_low rv f⟩
    have J : Inv X pins σ (upd H1 d (.xd [(("number" : Str), v)])) ⟨G', g, dr, tk', os⟩ := I1.laid (t' := tk') old M.dbig ob
    refine ⟨e, oe, fv, ⟨G', g, dr, tk', os⟩, _, .ref C, some d, rfl, J, fun b o q => ?_, ge, hoe, ⟨hc, hd⟩, hdat, h1, ?_, rfl, I1.bare, raises_own T.exC T.tyC, q1 d (I1.hok.fresh M.dbig)⟩
    · by_cases hb : b = e
      · have q' : G'.get? b = some o := q
        rw [hb, ge] at q'; cases q'
      · exact (gk b hb).symm.trans q
    · rw [upd_ne (Ne.symm M.dne)]
      exact I1.hok.fresh M.new
/-- raise Low(e) -/
def tRaiseLow (C : Addr) (W : WX) (ta : TA) : TS := fun _ σ H => tMkLow C ta σ H fun cls d H' => W cls d σ H'
theorem ps_raiseLow {a : Expr} {ta : TA} {W : WX} {p pos pos2 : Pos} {k : Nat} (hc : X.calm = true) (T : PySem.LowX.LowTxt X.K X.mg C fI) (hr : Room k X.A) (tk : Takes X W) (ha : PA X [a] ta) (hg : Gl X "BadNumber" := by rfl)
    (he : starEach (a :: []) X.env = (false, eval a X.env) :: starEach [] X.env := by rfl) (hpl : (backTo pos (starEach [] X.env)).any (·.1) = false := by rfl) :
    PS X (.Raise (some (.Call (.Name "BadNumber" p) [a] [] pos)) none pos2) (tRaiseLow C W ta) := ps_raise hc tk (pmk_low T hr ha hg he hpl)
/-- low.by, low the exception that the suite holds (at a; its class cls, its dict d) -/
def tByLow (C : Addr) (a : Addr) (cls : Value) (d : Option Addr) (te : TE) : TE := fun σ H Q => te σ H fun x H1 => x = .ref a ∧ cls = .ref C ∧ ∃ (dd : Addr) (v : V), d = some dd ∧ H1 dd = some (.xd [(("number" : Str), v)]) ∧ Q v H1
theorem pe_byLow {a : Addr} {oe : Obj} {cls : Value} {d : Option Addr} {pn : List (Addr × Obj)} {e : Expr} {te : TE} {pos : Pos} (T : PySem.LowX.LowTxt X.K X.mg C fI) (hz : Zc cls d oe) (hf : ∃ vs, oe.data = .fields vs) (he : PE (X.suite a ((a, oe) :: pn)) e te)
    (hb : attributeBase e "number" X.env (eval e X.env) = eval e X.env := by rfl) :
    PE (X.suite a ((a, oe) :: pn)) (.Attribute e "number" pos) (tByLow C a cls d te) := by
  refine ⟨fun pins s σ H Q I h => ?_⟩
  refine attr_of hb (thn (he.run pins s σ H _ I h) fun u s1 hh => ?_)
  obtain ⟨x, H1, I1, rx, ex, ec, dd, v, ed, ea, q⟩ := hh
  subst ex
  obtain rfl : u = Value.ref a := rx
  subst ec
  subst ed
  obtain ⟨ha, _⟩ := I1.pin (a, oe) (List.mem_append_left _ List.mem_cons_self)
  obtain ⟨vs, hd⟩ := hf
  have hx : ObjOk X.prog X.w H1 s1.heap dd (.xd [(("number" : Str), v)]) := I1.hok dd _ ea
  obtain ⟨mA, hns, hr⟩ := hx
  obtain ⟨od, ho, hl⟩ := lookIn_ns hns
  have l : List.lookup ("number" : Str) [(("number" : Str), v)] = some v := by simp [List.lookup]
  obtain ⟨u, hu, ru⟩ := RelO.some_of (v := v) (o := mA "number") (by rw [← l]; exact hr "number")
  have J : PySem.W.InstAt s1.heap a oe C (some od) := ⟨ha, hz.1, by unfold PySem.W.notCls; rw [hd] <;> rfl, by rw [hz.2]; exact ho⟩
  exact HandSPX.exc_get I1.kIn J T.ga T.gg T.exC (PySem.W.findObj_own T.hdC T.noN rfl (by rw [hl, hu])) (handed_of ru) ⟨v, H1, I1.tok _, ru, q⟩
end
end L2


/-! x op y by the own def of x's class, y of a built-in type; a call that may raise in a try whose suite asks only its own name. -/
namespace Po
open PySem PySem.Spec PyProof.Rows L2
theorem passL {X : Cx} {W : WX} (n : Nat) (hn : X.N.length = n) (tk : Takes X W) : Passes (L2.CX X.prog X.w) X (fun cls d H => ∀ σ : L2.St, σ.length = n → W cls d σ H) :=
  fun _ σ _ _ e s' I c => tk e s' (XE.of_call I (fun _ _ _ h => h σ (I.len.trans hn)) c)
/-- what is asked of the type T on the right -/
structure RT (K : PySem.W.Frag) (op : Operator) (C : Addr) (T : String) : Prop where
  ex : ∃ fo ro : Option Value, PySem.W.findIn K (.type T) (PySem.dunder op.info.2) = some fo ∧ PySem.W.findIn K (.type T) (dunderR op.info.2) = some ro
  sub : PySem.W.subIn K (.type T) (.ref C) = some false
/-- and of the class on the left -/
structure LT (K : PySem.W.Frag) (op : Operator) (C : Addr) : Prop where
  rc : ∃ rc : Option Value, PySem.W.findIn K (.ref C) (dunderR op.info.2) = some rc ∧ (rc = none ∨ ∃ g : Addr, rc = some (.ref g))
  sf : PySem.W.selfFirst K C = true
section
open PySem.W
variable {prog : Program} {w : World} {A : Around} {E : Value → Shared → Prop} {s : Shared} {K : Frag} {x C L f : Addr} {h₀ : Heap} {m : Str → Option Value} {ox : Obj} {od : Option Obj} {T : String}
theorem bin_at {op : Operator} {b : Value} {Q : Value → Shared → Prop} (F : Fr h₀ L s.heap m) (kin : K.In h₀) (I : InstAt s.heap x ox C od) (hb : Looks (model prog w) s.heap (typeOf b) (.type T)) (lt : LT K op C)
    (own : findIn K (.ref C) (PySem.dunder op.info.2) = some (some (.ref f))) (fn : isFn K (.ref f) = true) (rt : RT K op C T)
    (go : wpAny (model prog w) A (call (.ref f) [.ref x, b]) (PySem.W.CmpBack Q) E s) : wpAny (model prog w) A (binaryOp op (.ref x) b) Q E s := by
  have kn := kin.keeps F.keep
  obtain ⟨⟨fo, ro, t1, t2⟩, apart⟩ := rt
  obtain ⟨⟨rc, back, bk⟩, first⟩ := lt
  obtain ⟨cd, rest, ecd, emro⟩ := ksp_first first
  rcases hop : op.info with ⟨sg, nm⟩
  rw [hop] at own back t1 t2
  dsimp only at own back t1 t2
  have tried := ksp_try kn I own fn go
  obtain ⟨hp, gn, dr, tks, oss⟩ := s
  have k1 : Looks (model prog w) hp (typeOf (Value.ref x)) (Value.ref C) := I.type
  have k2 : Looks (model prog w) hp (typeOf b) (Value.type T) := hb
  have k3 : Looks (model prog w) hp (fillsNumberSlot (Value.ref C) nm) true := fills_K kn ecd emro own
  have k4 := ksp_fillsT (M := model prog w) kn t1 t2
  have k5 : Looks (model prog w) hp (isSubtype (Value.type T) (Value.ref C)) false := looks_subIn kn apart
  have k6 : Looks (model prog w) hp (numberSlotInPython (Value.ref C) nm) true := ksp_inPy kn own back bk
  have k7 : Looks (model prog w) hp (numberSlotInPython (Value.type T) nm) false := Looks.of_pure rfl
  have k8 : Looks (model prog w) hp (typeLookup (Value.type T) (dunderR nm)) ro := looks_findIn kn t2
  revert k4
  generalize ((fo.isSome && !isSeqSlot fo) || (ro.isSome && !isSeqSlot ro)) = rgt
  intro k4
  have apart2 : (Value.ref C == Value.type T) = false := by
    cases q : (Value.ref C == Value.type T) with
    | false => rfl
    | true => cases beq_iff_eq.mp q
  simp only [binaryOp, hop]
  apply wpAny_holding
  apply wpAny_bind
  unfold binaryOp1
  refine wpAny_bind (k1.at ?_)
  refine wpAny_bind (k2.at ?_)
  refine wpAny_bind (k3.at ?_)
  simp only [apart2, Bool.false_eq_true, if_false]
  cases rgt <;>
    (ksp_lk
     refine wpAny_mono tried (fun r s' z => ?_) fun _ _ e => e
     obtain ⟨v, rfl, hq⟩ := z
     ksp_lk
     exact hq)
end
section
variable {X : Cx} {CX : CXT} {C g : Addr} {n : Nat} {sp : Sp} {E : XK}
/-- x op y by the own def of x's class at C; y of a built-in type -/
def rBinT (K : PySem.W.Frag) (op : Operator) (C : Addr) (sp : Sp) (E : XK) : R2 := fun x y H Q => ∃ a dx fs T, x = .ref a ∧ H a = some (.ins C dx fs) ∧ TyX K H y (.type T) ∧ RT K op C T ∧ sp [x, y] H Q E
theorem op_binI {op : Operator} (lt : LT X.K op C) (hs : PySem.W.findIn X.K (.ref C) (PySem.dunder op.info.2) = some (some (.ref g))) (hf : PySem.W.isFn X.K (.ref g) = true) (F : FnR X.prog X.w X.K X.mg X.base CX n g sp)
    (hr : Room n X.A) (hx : Passes CX X E) : OpR X (binaryOp op) (rBinT X.K op C sp E) := by
  intro pins s σ H x y v u Q I rx ry h
  obtain ⟨a, dx, fs, T, rfl, ha, ty, rt, q⟩ := h
  cases (show v = Value.ref a from rx)
  obtain ⟨ox, od, J⟩ := Ow.ins_at I ha
  obtain ⟨P, k, hp, _⟩ := kit_of I ry ty
  obtain ⟨m, hF⟩ := I.fr
  refine bin_at hF I.ok.mod.kin J (k.ty _ _ I.kIn hp) lt hs hf rt ?_
  refine wpAny_mono (wpAny_call (run_fnR (us := [.ref a, u]) (vs := [.ref a, y]) F hr hx I (.cons rfl (.cons ry .nil)) q)) (fun w s' z => ?_) fun _ _ x => x
  obtain ⟨z', H', I', rz, qz⟩ := z
  exact SlX.cmpback rz ⟨z', H', I', rz, qz⟩
end
end Po

/-! A row in a row: by ticks and by blocks. -/
namespace Wm
open PySem L2
/-- the blocks: where each begins, and how many strokes it has -/
def spans : Nat → List Nat → List (Nat × Nat)
  | _, [] => []
  | f, d :: ds => (f, d) :: spans (f + 2 * d + 2) ds
theorem spans_len : ∀ (f : Nat) (ds : List Nat), (spans f ds).length = ds.length
  | _, [] => rfl
  | f, d :: ds => by rw [spans, List.length_cons, List.length_cons, spans_len _ ds]
theorem spans_app : ∀ (f : Nat) (ds : List Nat) (d : Nat), spans f (ds ++ [d]) = spans f ds ++ [(f + 2 * (ds.sum + ds.length), d)]
  | f, [], d => by simp [spans]
  | f, x :: ds, d => by
    rw [List.cons_append, spans, spans, spans_app _ ds d, List.cons_append, List.sum_cons, List.length_cons]
    have : f + 2 * x + 2 + 2 * (ds.sum + ds.length) = f + 2 * (x + ds.sum + (ds.length + 1)) := by omega
    rw [this]
theorem ones_blk_mem (f k : Nat) : ∀ d, k ∈ ones f (blk d) ↔ ∃ j, j < d ∧ k = f + 2 * j
  | 0 => by
    have : ones f (blk 0) = [] := rfl
    rw [this]
    exact ⟨fun h => absurd h List.not_mem_nil, fun ⟨j, h, _⟩ => absurd h (Nat.not_lt_zero _)⟩
  | d + 1 => by
    rw [ones_blk, List.mem_append, ones_blk_mem f k d, List.mem_singleton]
    constructor
    · rintro (⟨j, h, e⟩ | h)
      · exact ⟨j, by omega, e⟩
      · exact ⟨d, by omega, h⟩
    · rintro ⟨j, h, e⟩
      by_cases c : j = d
      · subst c; exact .inr e
      · exact .inl ⟨j, by omega, e⟩
theorem ones_spans : ∀ (ds : List Nat) (f k : Nat), k ∈ ones f (rowL ds) ↔ ∃ p ∈ spans f ds, ∃ j, j < p.2 ∧ k = p.1 + 2 * j
  | [], f, k => by
    have : ones f (rowL []) = [] := rfl
    rw [this]
    exact ⟨fun h => absurd h List.not_mem_nil, fun ⟨p, h, _⟩ => absurd h List.not_mem_nil⟩
  | d :: ds, f, k => by
    have e : ones f (rowL (d :: ds)) = ones f (blk d) ++ ones (f + 2 * d + 2) (rowL ds) := by
      show ones f (blk d ++ ([0, 0] ++ rowL ds)) = _
      rw [ones_app, ones_app, blk_len]
      rfl
    rw [e, List.mem_append, ones_blk_mem, ones_spans ds, spans]
    constructor
    · rintro (h | ⟨p, m, h⟩)
      · exact ⟨(f, d), List.mem_cons_self, h⟩
      · exact ⟨p, List.mem_cons_of_mem _ m, h⟩
    · rintro ⟨p, m, h⟩
      rcases List.mem_cons.mp m with rfl | m
      · exact .inl h
      · exact .inr ⟨p, m, h⟩
theorem spans_ge : ∀ (ds : List Nat) (f : Nat) (p : Nat × Nat), p ∈ spans f ds → f ≤ p.1 ∧ p.1 % 2 = f % 2 ∧ p.2 ∈ ds
  | [], f, p, h => by cases h
  | d :: ds, f, p, h => by
    rw [spans] at h
    rcases List.mem_cons.mp h with rfl | m
    · exact ⟨Nat.le_refl _, rfl, List.mem_cons_self⟩
    · obtain ⟨a, b, c⟩ := spans_ge ds _ p m
      exact ⟨by omega, by omega, List.mem_cons_of_mem _ c⟩
theorem spans_up : ∀ (ds : List Nat) (f : Nat), (spans f ds).Pairwise fun p q => p.1 + 2 * p.2 + 2 ≤ q.1
  | [], f => .nil
  | d :: ds, f => by
    rw [spans]
    exact .cons (fun q m => (spans_ge ds _ q m).1) (spans_up ds _)
theorem tri {α : Type} {R : α → α → Prop} {a b : α} : ∀ {l : List α}, l.Pairwise R → a ∈ l → b ∈ l → a = b ∨ R a b ∨ R b a
  | [], _, h, _ => by cases h
  | x :: l, h, ha, hb => by
    rw [List.pairwise_cons] at h
    rcases List.mem_cons.mp ha with rfl | ma
    · rcases List.mem_cons.mp hb with rfl | mb
      · exact .inl rfl
      · exact .inr (.inl (h.1 _ mb))
    · rcases List.mem_cons.mp hb with rfl | mb
      · exact .inr (.inr (h.1 _ ma))
      · exact tri h.2 ma mb
/-- block p, moved by a, within block q -/
def inB (a : Int) (p q : Nat × Nat) : Bool := decide (a % 2 = 0 ∧ (q.1 : Int) ≤ a + p.1 ∧ a + ((p.1 : Int) + 2 * ((p.2 : Int) - 1)) ≤ (q.1 : Int) + 2 * ((q.2 : Int) - 1))
theorem inB_iff {a : Int} {p q : Nat × Nat} (h1 : p.1 % 2 = 0) (h2 : 1 ≤ p.2) (h3 : q.1 % 2 = 0) : inB a p q = true ↔ ∀ j, j < p.2 → ∃ i, i < q.2 ∧ (p.1 : Int) + 2 * (j : Nat) + a = (q.1 : Int) + 2 * (i : Nat) := by
  unfold inB
  rw [decide_eq_true_iff]
  constructor
  · rintro ⟨x, y, z⟩ j hj
    refine ⟨(((p.1 : Int) + 2 * (j : Nat) + a - q.1) / 2).toNat, ?_, ?_⟩
    · omega
    · omega
  · intro h
    obtain ⟨i, hi, e⟩ := h 0 (by omega)
    obtain ⟨i2, hi2, e2⟩ := h (p.2 - 1) (by omega)
    exact ⟨by omega, by omega, by omega⟩
/-- the strokes' offsets -/
def SI (ds : List Nat) : List Int := (ones 0 (rowL ds)).map fun (k : Nat) => (k : Int)
theorem SI_mem {ds : List Nat} {k : Int} : k ∈ SI ds ↔ ∃ p ∈ spans 0 ds, ∃ j : Nat, j < p.2 ∧ k = (p.1 : Int) + 2 * (j : Int) := by
  unfold SI
  rw [List.mem_map]
  constructor
  · rintro ⟨n, m, rfl⟩
    obtain ⟨p, mp, j, hj, e⟩ := (ones_spans ds 0 n).mp m
    exact ⟨p, mp, j, hj, by omega⟩
  · rintro ⟨p, mp, j, hj, e⟩
    exact ⟨p.1 + 2 * j, (ones_spans ds 0 _).mpr ⟨p, mp, j, hj, rfl⟩, by omega⟩
theorem key {a : Int} {p : Nat × Nat} {es : List Nat} (h1 : p.1 % 2 = 0) (h2 : 1 ≤ p.2) : (∀ j : Nat, j < p.2 → (p.1 : Int) + 2 * (j : Int) + a ∈ SI es) ↔ ∃ q ∈ spans 0 es, inB a p q = true := by
  constructor
  · intro h
    obtain ⟨q, mq, i0, hi0, e0⟩ := SI_mem.mp (h 0 (by omega))
    refine ⟨q, mq, (inB_iff h1 h2 (spans_ge es 0 q mq).2.1).mpr fun j => ?_⟩
    induction j with
    | zero => exact fun _ => ⟨i0, hi0, e0⟩
    | succ j ih =>
      intro hj
      obtain ⟨i, hi, e⟩ := ih (by omega)
      obtain ⟨q2, mq2, i2, hi2, e2⟩ := SI_mem.mp (h (j + 1) hj)
      rcases tri (spans_up es 0) mq mq2 with z | z | z
      · subst z
        exact ⟨i2, hi2, e2⟩
      · omega
      · omega
  · rintro ⟨q, mq, hq⟩ j hj
    obtain ⟨i, hi, e⟩ := (inB_iff h1 h2 (spans_ge es 0 q mq).2.1).mp hq j hj
    exact SI_mem.mpr ⟨q, mq, i, hi, e⟩
def home (a : Int) (qs : List (Nat × Nat)) (p : Nat × Nat) : Option Nat := qs.findIdx? (inB a p)
/-- the block of each block -/
def FitL (a : Int) (ds es : List Nat) : List Nat := if (spans 0 ds).all (fun p => (home a (spans 0 es) p).isSome) then (spans 0 ds).map (fun p => (home a (spans 0 es) p).getD 0) else []
def insB (ds es : List Nat) (a : Int) : Bool := (SI ds).all fun k => decide (k + a ∈ SI es)
theorem ins_iff {ds es : List Nat} {a : Int} : insB ds es a = true ↔ ∀ k ∈ SI ds, k + a ∈ SI es := by
  unfold insB
  rw [List.all_eq_true]
  exact ⟨fun h k m => of_decide_eq_true (h k m), fun h k m => decide_eq_true (h k m)⟩
theorem home_some {a : Int} {p : Nat × Nat} {es : List Nat} : (home a (spans 0 es) p).isSome = true ↔ ∃ q ∈ spans 0 es, inB a p q = true := by
  unfold home
  rw [List.findIdx?_isSome, List.any_eq_true]
theorem fit_all {ds es : List Nat} {a : Int} (N : Num ds) : (spans 0 ds).all (fun p => (home a (spans 0 es) p).isSome) = insB ds es a := by
  rw [Bool.eq_iff_iff, ins_iff, List.all_eq_true]
  constructor
  · intro h k mk
    obtain ⟨p, mp, j, hj, rfl⟩ := SI_mem.mp mk
    have sp := spans_ge ds 0 p mp
    exact (key sp.2.1 (N.dig _ sp.2.2).1).mpr (home_some.mp (h p mp)) j hj
  · intro h p mp
    have sp := spans_ge ds 0 p mp
    exact home_some.mpr ((key sp.2.1 (N.dig _ sp.2.2).1).mp fun j hj => h _ (SI_mem.mpr ⟨p, mp, j, hj, rfl⟩))
theorem fit_ne {ds es : List Nat} {a : Int} (N : Num ds) : (decide (FitL a ds es ≠ [])) = insB ds es a := by
  unfold FitL
  rw [fit_all N]
  cases insB ds es a with
  | false => simp
  | true =>
    simp only [if_true]
    refine decide_eq_true fun e => ?_
    have := congrArg List.length e
    rw [List.length_map, spans_len, List.length_nil] at this
    have := N.pos
    omega
theorem zero_in {ds : List Nat} (N : Num ds) : (0 : Int) ∈ SI ds := by
  obtain ⟨d, r, e⟩ : ∃ d r, ds = d :: r := by
    have := N.pos
    cases ds with
    | nil => simp at this
    | cons d r => exact ⟨d, r, rfl⟩
  subst e
  exact SI_mem.mpr ⟨(0, d), by rw [spans]; exact List.mem_cons_self, 0, (N.dig d List.mem_cons_self).1, rfl⟩
theorem SI_lt {ds : List Nat} {k : Int} (h : k ∈ SI ds) : 0 ≤ k ∧ k < (rowL ds).length ∧ k % 2 = 0 := by
  obtain ⟨n, m, rfl⟩ := List.mem_map.mp h
  obtain ⟨j, e, g⟩ := (ones_mem _ _ _).mp m
  have := (List.getElem?_eq_some_iff.mp g).1
  obtain ⟨p, mp, i, hi, e2⟩ := (ones_spans ds 0 n).mp m
  have := (spans_ge ds 0 p mp).2.1
  exact ⟨by omega, by omega, by omega⟩
theorem ins_at {ds es : List Nat} {a : Int} (N : Num ds) (h : insB ds es a = true) : 0 ≤ a ∧ a < (rowL es).length ∧ a % 2 = 0 := by
  have := ins_iff.mp h 0 (zero_in N)
  rw [Int.zero_add] at this
  exact SI_lt this
/-- where ds fits into es -/
def DI (ds es : List Nat) : List Int := ((List.range (rowL es).length).map fun (i : Nat) => (i : Int)).filter (insB ds es)
theorem range_up (n : Nat) (c : Int) (hc : 0 < c) : ((List.range n).map fun (i : Nat) => (i : Int) * c).Pairwise (· < ·) := by
  rw [List.pairwise_map]
  exact List.pairwise_lt_range.imp fun {x y} h => Int.mul_lt_mul_of_pos_right (by omega) hc
theorem range_up1 (n : Nat) : ((List.range n).map fun (i : Nat) => (i : Int)).Pairwise (· < ·) := by
  rw [List.pairwise_map]
  exact List.pairwise_lt_range.imp fun {x y} h => by omega
theorem DI_up (ds es : List Nat) : (DI ds es).Pairwise (· < ·) := (range_up1 _).filter _
theorem DI_mem {ds es : List Nat} {a : Int} (N : Num ds) : a ∈ DI ds es ↔ insB ds es a = true := by
  unfold DI
  rw [List.mem_filter, List.mem_map]
  constructor
  · exact fun h => h.2
  · intro h
    obtain ⟨h0, h1, _⟩ := ins_at N h
    exact ⟨⟨a.toNat, List.mem_range.mpr (by omega), by omega⟩, h⟩
theorem DI_trans {ds es fs : List Nat} {a c : Int} (N : Num ds) (M : Num es) (h : a ∈ DI ds es) (g : c ∈ DI es fs) : a + c ∈ DI ds fs := by
  rw [DI_mem N, ins_iff] at *
  rw [DI_mem M, ins_iff] at g
  intro k mk
  have := g _ (h k mk)
  rwa [Int.add_assoc] at this
theorem SI_up (ds : List Nat) : (SI ds).Pairwise (· < ·) := by
  unfold SI
  rw [List.pairwise_map]
  have : ∀ (xs : List Int) (o : Nat), (ones o xs).Pairwise (· < ·) ∧ ∀ k ∈ ones o xs, o ≤ k := by
    intro xs
    induction xs with
    | nil => exact fun o => ⟨.nil, fun k m => by cases m⟩
    | cons x xs ih =>
      intro o
      obtain ⟨a, b⟩ := ih (o + 1)
      unfold ones
      split
      · exact ⟨.cons (fun k m => by have := b k m; omega) a, fun k m => by
          rcases List.mem_cons.mp m with rfl | m
          · exact Nat.le_refl _
          · have := b k m; omega⟩
      · exact ⟨a, fun k m => by have := b k m; omega⟩
  exact (this (rowL ds) 0).1.imp fun {x y} h => by omega
theorem DI_self {ds : List Nat} (N : Num ds) : DI ds ds = [0] := by
  have h0 : insB ds ds 0 = true := ins_iff.mpr fun k m => by rw [Int.add_zero]; exact m
  have only : ∀ a, insB ds ds a = true → a = 0 := fun a h => by
    have h1 := (ins_at N h).1
    by_cases c : a = 0
    · exact c
    · -- the last stroke moves beyond itself
      have no : ∀ (l : List Int), l ≠ [] → l.Pairwise (· < ·) → ∃ m ∈ l, ∀ k ∈ l, k ≤ m := by
        intro l
        induction l with
        | nil => exact fun h => absurd rfl h
        | cons x l ih =>
          intro _ hp
          rw [List.pairwise_cons] at hp
          by_cases e : l = []
          · subst e
            exact ⟨x, List.mem_cons_self, fun k m => by rw [List.mem_singleton.mp m]; exact Int.le_refl _⟩
          · obtain ⟨m, mm, hm⟩ := ih e hp.2
            refine ⟨m, List.mem_cons_of_mem _ mm, fun k mk => ?_⟩
            rcases List.mem_cons.mp mk with rfl | mk
            · have := hp.1 m mm; omega
            · exact hm k mk
      obtain ⟨m, mm, hm⟩ := no (SI ds) (fun e => by have := zero_in N; rw [e] at this; cases this) (SI_up ds)
      have := hm _ (ins_iff.mp h m mm)
      omega
  have e : ∀ a, a ∈ DI ds ds ↔ a ∈ [(0 : Int)] := fun a => by
    rw [DI_mem N, List.mem_singleton]
    exact ⟨only a, fun h => by rw [h]; exact h0⟩
  have up := DI_up ds ds
  cases q : DI ds ds with
  | nil => have := (e 0).mpr (by simp); rw [q] at this; cases this
  | cons x l =>
    rw [q] at up e
    rw [List.pairwise_cons] at up
    have hx : x = 0 := by simpa using (e x).mp List.mem_cons_self
    subst hx
    cases l with
    | nil => rfl
    | cons y l =>
      have hy : y = 0 := by simpa using (e y).mp (by simp)
      have := up.1 y List.mem_cons_self
      omega
end Wm

/-! [t, t, t] != [t, t, t], whatever the text. -/
namespace Ne5
open PySem PySem.Spec PyProof.Rows L2
def rNe5 (K : PySem.W.Frag) : R2 := fun x y H Q => ∃ p q t, x = .ref p ∧ y = .ref q ∧ SqL K H p [.str t, .str t, .str t] ∧ SqL K H q [.str t, .str t, .str t] ∧ Q (.bl false) H
theorem op_ne5 {X : Cx} (hu : X.A.units + 64 < cLine) : OpR X (compareOp .NotEq) (rNe5 X.K) := by
  intro pins s σ H x y v u Q I rx ry h
  obtain ⟨p, q, t, rfl, rfl, hp, hq, h⟩ := h
  cases rx
  cases ry
  obtain ⟨its, r1, p1, _⟩ := I.list hp
  obtain ⟨its2, r2, p2, _⟩ := I.list hq
  rcases r1 with _ | ⟨a1, r1⟩
  rcases r1 with _ | ⟨a2, r1⟩
  rcases r1 with _ | ⟨a3, r1⟩
  cases r1
  rcases r2 with _ | ⟨b1, r2⟩
  rcases r2 with _ | ⟨b2, r2⟩
  rcases r2 with _ | ⟨b3, r2⟩
  cases r2
  obtain ⟨k1, rfl⟩ := a1
  obtain ⟨k2, rfl⟩ := a2
  obtain ⟨k3, rfl⟩ := a3
  obtain ⟨m1, rfl⟩ := b1
  obtain ⟨m2, rfl⟩ := b2
  obtain ⟨m3, rfl⟩ := b3
  have e := PySem.SeqAt.RcNeAt.lists (A := X.A) (s := s) (e := fun _ => true) p1.isList p2.isList rfl (by omega) (fun j h1 h2 => by
    have c : j = 0 ∨ j = 1 ∨ j = 2 := by
      have : j < 3 := h1
      omega
    rcases c with rfl | rfl | rfl
    · have := PySem.SeqAt.EqAt.str_str (A := X.A.in1) (s := s) t k1 t m1
      simpa using this
    · have := PySem.SeqAt.EqAt.str_str (A := X.A.in1) (s := s) t k2 t m2
      simpa using this
    · have := PySem.SeqAt.EqAt.str_str (A := X.A.in1) (s := s) t k3 t m3
      simpa using this)
  exact e X.prog X.w X.xe _ ⟨.bl false, H, I, rfl, h⟩
end Ne5

namespace K11
open PySem L2
def top (i : Nat) : Stmt := PySem.Challenge.pw_wheelchorus_k11_whole_fits_by_blocks_and.main.body.getD i (.Pass ⟨0, 0, 0, 0⟩)
abbrev s_is_whole : Stmt := top 6
abbrev s_check_offset : Stmt := top 18
abbrev s_init : Stmt := inClass (top 17) 0
abbrev s_rshift : Stmt := inClass (top 17) 8
abbrev s_swithin : Stmt := inClass (top 17) 10
abbrev s_is_number : Stmt := top 11
abbrev s_check_number : Stmt := top 12
abbrev s_blocks : Stmt := top 13
abbrev s_row_of : Stmt := top 14
abbrev s_length_of : Stmt := top 15
abbrev s_strokes_of : Stmt := top 19
abbrev s_block_ends : Stmt := top 21
abbrev s_home_index : Stmt := top 23
abbrev s_fit_blocks : Stmt := top 22
abbrev s_fits : Stmt := top 24
abbrev s_fits_by_ticks : Stmt := top 25
abbrev s_bag : Stmt := top 27
abbrev s_draw : Stmt := top 28
abbrev s_number : Stmt := top 29
abbrev s_row : Stmt := top 30
abbrev s_wider : Stmt := top 31
abbrev s_strokes : Stmt := top 32
abbrev s_spans : Stmt := top 33
abbrev s_due : Stmt := top 34
abbrev s_blocks_due : Stmt := top 35
abbrev s_whole : Stmt := top 36
abbrev s_pair : Stmt := top 37
abbrev s_refused : Stmt := top 38
abbrev s_law : Stmt := top 39
abbrev nm_is_whole : List Str := ["thing"]
theorem sc_is_whole : FnScope nm_is_whole ["thing"] (defScope s_is_whole) :=
  ⟨rfl, rfl, rfl, by decide +kernel, rfl, by decide +kernel, by decide +kernel⟩
abbrev nm_check_offset : List Str := ["thing"]
theorem sc_check_offset : FnScope nm_check_offset ["thing"] (defScope s_check_offset) :=
  ⟨rfl, rfl, rfl, by decide +kernel, rfl, by decide +kernel, by decide +kernel⟩
abbrev nm_init : List Str := ["self", "offsets", "offset"]
theorem sc_init : FnScope nm_init ["self", "offsets"] (defScope s_init) :=
  ⟨rfl, rfl, rfl, by decide +kernel, rfl, by decide +kernel, by decide +kernel⟩
abbrev nm_rshift : List Str := ["self", "other", "offset"]
theorem sc_rshift : FnScope nm_rshift ["self", "other"] (defScope s_rshift) :=
  ⟨rfl, rfl, rfl, by decide +kernel, rfl, by decide +kernel, by decide +kernel⟩
abbrev nm_swithin : List Str := ["self", "other"]
theorem sc_swithin : FnScope nm_swithin ["self", "other"] (defScope s_swithin) :=
  ⟨rfl, rfl, rfl, by decide +kernel, rfl, by decide +kernel, by decide +kernel⟩
abbrev nm_is_number : List Str := ["thing", "letter"]
theorem sc_is_number : FnScope nm_is_number ["thing"] (defScope s_is_number) :=
  ⟨rfl, rfl, rfl, by decide +kernel, rfl, by decide +kernel, by decide +kernel⟩
abbrev nm_check_number : List Str := ["thing"]
theorem sc_check_number : FnScope nm_check_number ["thing"] (defScope s_check_number) :=
  ⟨rfl, rfl, rfl, by decide +kernel, rfl, by decide +kernel, by decide +kernel⟩
abbrev nm_blocks : List Str := ["number", "letter"]
theorem sc_blocks : FnScope nm_blocks ["number"] (defScope s_blocks) :=
  ⟨rfl, rfl, rfl, by decide +kernel, rfl, by decide +kernel, by decide +kernel⟩
abbrev nm_row_of : List Str := ["number", "row", "strokes"]
theorem sc_row_of : FnScope nm_row_of ["number"] (defScope s_row_of) :=
  ⟨rfl, rfl, rfl, by decide +kernel, rfl, by decide +kernel, by decide +kernel⟩
abbrev nm_length_of : List Str := ["number", "sizes"]
theorem sc_length_of : FnScope nm_length_of ["number"] (defScope s_length_of) :=
  ⟨rfl, rfl, rfl, by decide +kernel, rfl, by decide +kernel, by decide +kernel⟩
abbrev nm_strokes_of : List Str := ["number", "offset", "sign"]
theorem sc_strokes_of : FnScope nm_strokes_of ["number"] (defScope s_strokes_of) :=
  ⟨rfl, rfl, rfl, by decide +kernel, rfl, by decide +kernel, by decide +kernel⟩
abbrev nm_block_ends : List Str := ["number", "ends", "first", "strokes"]
theorem sc_block_ends : FnScope nm_block_ends ["number"] (defScope s_block_ends) :=
  ⟨rfl, rfl, rfl, by decide +kernel, rfl, by decide +kernel, by decide +kernel⟩
abbrev nm_home_index : List Str := ["homes", "first", "last", "index", "low", "high"]
theorem sc_home_index : FnScope nm_home_index ["homes", "first", "last"] (defScope s_home_index) :=
  ⟨rfl, rfl, rfl, by decide +kernel, rfl, by decide +kernel, by decide +kernel⟩
abbrev nm_fit_blocks : List Str := ["number", "within", "at", "ends", "homes", "indexes", "first", "last", "index"]
theorem sc_fit_blocks : FnScope nm_fit_blocks ["number", "within", "at"] (defScope s_fit_blocks) :=
  ⟨rfl, rfl, rfl, by decide +kernel, rfl, by decide +kernel, by decide +kernel⟩
abbrev nm_fits : List Str := ["number", "within", "at"]
theorem sc_fits : FnScope nm_fits ["number", "within"] (defScope s_fits) :=
  ⟨rfl, rfl, rfl, by decide +kernel, rfl, by decide +kernel, by decide +kernel⟩
abbrev nm_fits_by_ticks : List Str := ["number", "within", "strokes", "room", "at"]
theorem sc_fits_by_ticks : FnScope nm_fits_by_ticks ["number", "within"] (defScope s_fits_by_ticks) :=
  ⟨rfl, rfl, rfl, by decide +kernel, rfl, by decide +kernel, by decide +kernel⟩
abbrev nm_bag : List Str := ["_law_script", "_law_cells", "_law_cell"]
theorem sc_bag : FnScope nm_bag ["_law_script"] (defScope s_bag) :=
  ⟨rfl, rfl, rfl, by decide +kernel, rfl, by decide +kernel, by decide +kernel⟩
abbrev nm_draw : List Str := ["_law_bag_here", "_law_limit", "_law_digit"]
theorem sc_draw : FnScope nm_draw ["_law_bag_here", "_law_limit"] (defScope s_draw) :=
  ⟨rfl, rfl, rfl, by decide +kernel, rfl, by decide +kernel, by decide +kernel⟩
abbrev nm_number : List Str := ["_law_bag_here", "_law_many", "_law_way", "_law_top", "_law_word", "_law_left", "_law_k", "_law_digit"]
theorem sc_number : FnScope nm_number ["_law_bag_here"] (defScope s_number) :=
  ⟨rfl, rfl, rfl, by decide +kernel, rfl, by decide +kernel, by decide +kernel⟩
abbrev nm_row : List Str := ["_law_number_here", "_law_row_here", "_law_sign"]
theorem sc_row : FnScope nm_row ["_law_number_here"] (defScope s_row) :=
  ⟨rfl, rfl, rfl, by decide +kernel, rfl, by decide +kernel, by decide +kernel⟩
abbrev nm_wider : List Str := ["_law_bag_here", "_law_number_here", "_law_way", "_law_word", "_law_left", "_law_sign", "_law_more"]
theorem sc_wider : FnScope nm_wider ["_law_bag_here", "_law_number_here"] (defScope s_wider) :=
  ⟨rfl, rfl, rfl, by decide +kernel, rfl, by decide +kernel, by decide +kernel⟩
abbrev nm_strokes : List Str := ["_law_number_here", "_law_row_here", "_law_at"]
theorem sc_strokes : FnScope nm_strokes ["_law_number_here"] (defScope s_strokes) :=
  ⟨rfl, rfl, rfl, by decide +kernel, rfl, by decide +kernel, by decide +kernel⟩
abbrev nm_spans : List Str := ["_law_number_here", "_law_spans_here", "_law_at", "_law_sign", "_law_k"]
theorem sc_spans : FnScope nm_spans ["_law_number_here"] (defScope s_spans) :=
  ⟨rfl, rfl, rfl, by decide +kernel, rfl, by decide +kernel, by decide +kernel⟩
abbrev nm_due : List Str := ["_law_number_here", "_law_within", "_law_mine", "_law_under", "_law_at", "_law_one"]
theorem sc_due : FnScope nm_due ["_law_number_here", "_law_within"] (defScope s_due) :=
  ⟨rfl, rfl, rfl, by decide +kernel, rfl, by decide +kernel, by decide +kernel⟩
abbrev nm_blocks_due : List Str := ["_law_number_here", "_law_within", "_law_at", "_law_spans_here", "_law_found", "_law_block", "_law_inside", "_law_k", "_law_one"]
theorem sc_blocks_due : FnScope nm_blocks_due ["_law_number_here", "_law_within", "_law_at"] (defScope s_blocks_due) :=
  ⟨rfl, rfl, rfl, by decide +kernel, rfl, by decide +kernel, by decide +kernel⟩
abbrev nm_whole : List Str := ["_law_thing"]
theorem sc_whole : FnScope nm_whole ["_law_thing"] (defScope s_whole) :=
  ⟨rfl, rfl, rfl, by decide +kernel, rfl, by decide +kernel, by decide +kernel⟩
abbrev nm_pair : List Str := ["_law_number_here", "_law_within", "_law_due_here", "_law_told", "_law_again", "_law_at", "_law_blocks"]
theorem sc_pair : FnScope nm_pair ["_law_number_here", "_law_within"] (defScope s_pair) :=
  ⟨rfl, rfl, rfl, by decide +kernel, rfl, by decide +kernel, by decide +kernel⟩
abbrev nm_refused : List Str := ["_law_which", "_law_one", "_law_other", "e"]
theorem sc_refused : FnScope nm_refused ["_law_which", "_law_one", "_law_other"] (defScope s_refused) :=
  ⟨rfl, rfl, rfl, by decide +kernel, rfl, by decide +kernel, by decide +kernel⟩
abbrev nm_law : List Str := ["_law_script", "_law_bag_here", "_law_one", "_law_two", "_law_three", "_law_pair_here", "_law_at", "_law_more", "_law_odd", "_law_worse", "_law_which", "_law_told"]
theorem sc_law : FnScope nm_law ["_law_script"] (defScope s_law) :=
  ⟨rfl, rfl, rfl, by decide +kernel, rfl, by decide +kernel, by decide +kernel⟩
structure Txt (K : PySem.W.Frag) (mg : Str → Option Value) where
  C : Addr
  tE : Addr
  gC : mg "Strokes" = some (.ref C)
  clC : Cls K C
  nO : NoAttr K C "offsets"
  lt : Po.LT K .RShift C
  rI : Po.RT K .RShift C "int"
  CN : Addr
  fN : Addr
  low : PySem.LowX.LowTxt K mg CN fN
  a_is_whole : Addr
  d_is_whole : FuncData
  F_is_whole : Fun K "is_whole" "is_whole" s_is_whole a_is_whole d_is_whole
  b_is_whole : Binds K d_is_whole ["thing"] []
  g_is_whole : mg "is_whole" = some (.ref a_is_whole)
  a_check_offset : Addr
  d_check_offset : FuncData
  F_check_offset : Fun K "check_offset" "check_offset" s_check_offset a_check_offset d_check_offset
  b_check_offset : Binds K d_check_offset ["thing"] []
  g_check_offset : mg "check_offset" = some (.ref a_check_offset)
  a_init : Addr
  d_init : FuncData
  F_init : FunD K "__init__" "Strokes.__init__" (defArgs s_init) (defBody s_init) (defScope s_init) [V.ref tE] [] a_init d_init
  b_init : Binds K d_init ["self", "offsets"] []
  mk_init : Mk K C a_init
  a_rshift : Addr
  d_rshift : FuncData
  F_rshift : Fun K "__rshift__" "Strokes.__rshift__" s_rshift a_rshift d_rshift
  b_rshift : Binds K d_rshift ["self", "other"] []
  m_rshift : Meth K C "__rshift__" a_rshift
  a_swithin : Addr
  d_swithin : FuncData
  F_swithin : Fun K "within" "Strokes.within" s_swithin a_swithin d_swithin
  b_swithin : Binds K d_swithin ["self", "other"] []
  m_swithin : Meth K C "within" a_swithin
  a_is_number : Addr
  d_is_number : FuncData
  F_is_number : Fun K "is_number" "is_number" s_is_number a_is_number d_is_number
  b_is_number : Binds K d_is_number ["thing"] []
  g_is_number : mg "is_number" = some (.ref a_is_number)
  a_check_number : Addr
  d_check_number : FuncData
  F_check_number : Fun K "check_number" "check_number" s_check_number a_check_number d_check_number
  b_check_number : Binds K d_check_number ["thing"] []
  g_check_number : mg "check_number" = some (.ref a_check_number)
  a_blocks : Addr
  d_blocks : FuncData
  F_blocks : Fun K "blocks" "blocks" s_blocks a_blocks d_blocks
  b_blocks : Binds K d_blocks ["number"] []
  g_blocks : mg "blocks" = some (.ref a_blocks)
  a_row_of : Addr
  d_row_of : FuncData
  F_row_of : Fun K "row_of" "row_of" s_row_of a_row_of d_row_of
  b_row_of : Binds K d_row_of ["number"] []
  g_row_of : mg "row_of" = some (.ref a_row_of)
  a_length_of : Addr
  d_length_of : FuncData
  F_length_of : Fun K "length_of" "length_of" s_length_of a_length_of d_length_of
  b_length_of : Binds K d_length_of ["number"] []
  g_length_of : mg "length_of" = some (.ref a_length_of)
  a_strokes_of : Addr
  d_strokes_of : FuncData
  F_strokes_of : Fun K "strokes_of" "strokes_of" s_strokes_of a_strokes_of d_strokes_of
  b_strokes_of : Binds K d_strokes_of ["number"] []
  g_strokes_of : mg "strokes_of" = some (.ref a_strokes_of)
  a_block_ends : Addr
  d_block_ends : FuncData
  F_block_ends : Fun K "block_ends" "block_ends" s_block_ends a_block_ends d_block_ends
  b_block_ends : Binds K d_block_ends ["number"] []
  g_block_ends : mg "block_ends" = some (.ref a_block_ends)
  a_home_index : Addr
  d_home_index : FuncData
  F_home_index : Fun K "home_index" "home_index" s_home_index a_home_index d_home_index
  b_home_index : Binds K d_home_index ["homes", "first", "last"] []
  g_home_index : mg "home_index" = some (.ref a_home_index)
  a_fit_blocks : Addr
  d_fit_blocks : FuncData
  F_fit_blocks : Fun K "fit_blocks" "fit_blocks" s_fit_blocks a_fit_blocks d_fit_blocks
  b_fit_blocks : Binds K d_fit_blocks ["number", "within", "at"] []
  g_fit_blocks : mg "fit_blocks" = some (.ref a_fit_blocks)
  a_fits : Addr
  d_fits : FuncData
  F_fits : Fun K "fits" "fits" s_fits a_fits d_fits
  b_fits : Binds K d_fits ["number", "within"] []
  g_fits : mg "fits" = some (.ref a_fits)
  a_fits_by_ticks : Addr
  d_fits_by_ticks : FuncData
  F_fits_by_ticks : Fun K "fits_by_ticks" "fits_by_ticks" s_fits_by_ticks a_fits_by_ticks d_fits_by_ticks
  b_fits_by_ticks : Binds K d_fits_by_ticks ["number", "within"] []
  g_fits_by_ticks : mg "fits_by_ticks" = some (.ref a_fits_by_ticks)
  a_bag : Addr
  d_bag : FuncData
  F_bag : Fun K "_law_bag" "_law_bag" s_bag a_bag d_bag
  b_bag : Binds K d_bag ["_law_script"] []
  g_bag : mg "_law_bag" = some (.ref a_bag)
  a_draw : Addr
  d_draw : FuncData
  F_draw : Fun K "_law_draw" "_law_draw" s_draw a_draw d_draw
  b_draw : Binds K d_draw ["_law_bag_here", "_law_limit"] []
  g_draw : mg "_law_draw" = some (.ref a_draw)
  a_number : Addr
  d_number : FuncData
  F_number : Fun K "_law_number" "_law_number" s_number a_number d_number
  b_number : Binds K d_number ["_law_bag_here"] []
  g_number : mg "_law_number" = some (.ref a_number)
  a_row : Addr
  d_row : FuncData
  F_row : Fun K "_law_row" "_law_row" s_row a_row d_row
  b_row : Binds K d_row ["_law_number_here"] []
  g_row : mg "_law_row" = some (.ref a_row)
  a_wider : Addr
  d_wider : FuncData
  F_wider : Fun K "_law_wider" "_law_wider" s_wider a_wider d_wider
  b_wider : Binds K d_wider ["_law_bag_here", "_law_number_here"] []
  g_wider : mg "_law_wider" = some (.ref a_wider)
  a_strokes : Addr
  d_strokes : FuncData
  F_strokes : Fun K "_law_strokes" "_law_strokes" s_strokes a_strokes d_strokes
  b_strokes : Binds K d_strokes ["_law_number_here"] []
  g_strokes : mg "_law_strokes" = some (.ref a_strokes)
  a_spans : Addr
  d_spans : FuncData
  F_spans : Fun K "_law_spans" "_law_spans" s_spans a_spans d_spans
  b_spans : Binds K d_spans ["_law_number_here"] []
  g_spans : mg "_law_spans" = some (.ref a_spans)
  a_due : Addr
  d_due : FuncData
  F_due : Fun K "_law_due" "_law_due" s_due a_due d_due
  b_due : Binds K d_due ["_law_number_here", "_law_within"] []
  g_due : mg "_law_due" = some (.ref a_due)
  a_blocks_due : Addr
  d_blocks_due : FuncData
  F_blocks_due : Fun K "_law_blocks_due" "_law_blocks_due" s_blocks_due a_blocks_due d_blocks_due
  b_blocks_due : Binds K d_blocks_due ["_law_number_here", "_law_within", "_law_at"] []
  g_blocks_due : mg "_law_blocks_due" = some (.ref a_blocks_due)
  a_whole : Addr
  d_whole : FuncData
  F_whole : Fun K "_law_whole" "_law_whole" s_whole a_whole d_whole
  b_whole : Binds K d_whole ["_law_thing"] []
  g_whole : mg "_law_whole" = some (.ref a_whole)
  a_pair : Addr
  d_pair : FuncData
  F_pair : Fun K "_law_pair" "_law_pair" s_pair a_pair d_pair
  b_pair : Binds K d_pair ["_law_number_here", "_law_within"] []
  g_pair : mg "_law_pair" = some (.ref a_pair)
  a_refused : Addr
  d_refused : FuncData
  F_refused : Fun K "_law_refused" "_law_refused" s_refused a_refused d_refused
  b_refused : Binds K d_refused ["_law_which", "_law_one", "_law_other"] []
  g_refused : mg "_law_refused" = some (.ref a_refused)
  a_law : Addr
  d_law : FuncData
  F_law : Fun K "law" "law" s_law a_law d_law
  b_law : Binds K d_law ["_law_script"] []
  g_law : mg "law" = some (.ref a_law)
  t_DIGITS : Tok
  c_DIGITS : mg "DIGITS" = some (.str "123456789" t_DIGITS)
  t_MOST_DIGITS : Tok
  c_MOST_DIGITS : mg "MOST_DIGITS" = some (.int 4 t_MOST_DIGITS)
  t_GREATEST_SUM : Tok
  c_GREATEST_SUM : mg "GREATEST_SUM" = some (.int 24 t_GREATEST_SUM)
  z_all : mg "all" = none
  z_bool : mg "bool" = none
  z_enumerate : mg "enumerate" = none
  z_int : mg "int" = none
  z_isinstance : mg "isinstance" = none
  z_len : mg "len" = none
  z_list : mg "list" = none
  z_min : mg "min" = none
  z_range : mg "range" = none
  z_repr : mg "repr" = none
  z_set : mg "set" = none
  z_sorted : mg "sorted" = none
  z_str : mg "str" = none
  z_sum : mg "sum" = none
  z_tuple : mg "tuple" = none
  h_rshift : PySem.W.findIn K (.ref C) (PySem.dunder Operator.RShift.info.2) = some (some (.ref a_rshift))
  i_rshift : PySem.W.isFn K (.ref a_rshift) = true
end K11

namespace K11
open PySem L2 Wm TL Dv
/-- the offsets of strokes: rising, none below 0 -/
structure Off (ns : List Int) : Prop where
  up : ns.Pairwise (· < ·)
  lo : ∀ n ∈ ns, 0 ≤ n
  few : ns.length < 32
def offD (ns : List Int) : PyData := .tuple (ns.map PyData.int)
/-- an instance of Strokes that holds ns -/
def StrAt (K : PySem.W.Frag) (C : Addr) (H : Hp) (p : Addr) (ns : List Int) : Prop :=
  ∃ dx fs q, H p = some (.ins C dx fs) ∧ fs.lookup ("offsets" : Str) = some (.ref q) ∧ (∀ m : Str, m ≠ "offsets" → fs.lookup m = none) ∧ SqT K H q (ns.map V.int)
/-- the members of a list, each once, rising -/
def IsSort (xs ns : List Int) : Prop := ns.Pairwise (· < ·) ∧ ∀ k, k ∈ ns ↔ k ∈ xs
theorem up_eq : ∀ {a b : List Int}, a.Pairwise (· < ·) → b.Pairwise (· < ·) → (∀ k, k ∈ a ↔ k ∈ b) → a = b
  | [], [], _, _, _ => rfl
  | [], y :: b, _, _, h => absurd ((h y).mpr List.mem_cons_self) (by simp)
  | x :: a, [], _, _, h => absurd ((h x).mp List.mem_cons_self) (by simp)
  | x :: a, y :: b, ha, hb, h => by
    rw [List.pairwise_cons] at ha hb
    have e : x = y := by
      rcases List.mem_cons.mp ((h x).mp List.mem_cons_self) with z | z
      · exact z
      · rcases List.mem_cons.mp ((h y).mpr List.mem_cons_self) with v | v
        · exact v.symm
        · have := hb.1 x z
          have := ha.1 y v
          omega
    subst e
    congr 1
    refine up_eq ha.2 hb.2 fun k => ⟨fun m => ?_, fun m => ?_⟩
    · rcases List.mem_cons.mp ((h k).mp (List.mem_cons_of_mem _ m)) with z | z
      · have := ha.1 k m
        omega
      · exact z
    · rcases List.mem_cons.mp ((h k).mpr (List.mem_cons_of_mem _ m)) with z | z
      · have := hb.1 k m
        omega
      · exact z
/-- what may be asked whether it is a whole number, and which -/
inductive Thing (K : PySem.W.Frag) (H : Hp) : V → Option Int → Prop
  | int (i : Int) : Thing K H (.int i) (some i)
  | bl (b : Bool) : Thing K H (.bl b) none
  | str (s : Str) : Thing K H (.str s) none
  | non : Thing K H .non none
  | seq (t : Bool) {p : Addr} {xs : List V} (h : Kd.Is K t H p xs) : Thing K H (.ref p) none
/-- an error of the class at C is on its way, with x -/
def Er (C : Addr) (E : XK) (H : Hp) (x : V) : Prop := ∀ H' d, Same H H' → H' d = some (.xd [(("number" : Str), x)]) → E (.ref C) (some d) H'
theorem Er.after {C : Addr} {E : XK} {H H1 : Hp} {x : V} (h : Er C E H x) (s : Same H H1) : Er C E H1 x := fun H' d s' e => h H' d (s.trans s') e
def sp_is_whole (K : PySem.W.Frag) : Sp := fun vs H Q _ => ∃ (x : V) (o : Option Int), vs = [x] ∧ Thing K H x o ∧ Q (.bl o.isSome) H
def sp_check_offset (K : PySem.W.Frag) : Sp := fun vs H Q _ => ∃ i : Int, vs = [.int i] ∧ 0 ≤ i ∧ Q .non H
def sp_init (K : PySem.W.Frag) (C : Addr) : Sp := fun vs H Q _ => ∃ (p dx : Addr) (x : Addr) (t : Bool) (xs : List Int), vs = [.ref p, .ref x] ∧ H p = some (.ins C dx []) ∧ Kd.Is K t H x (xs.map V.int) ∧ (∀ n ∈ xs, 0 ≤ n) ∧ xs.length < 64 ∧
  ∀ H' ns, (∀ q o, q ≠ p → H q = some o → H' q = some o) → IsSort xs ns → ns.length ≤ xs.length → StrAt K C H' p ns → Q .non H'
def sp_rshift (K : PySem.W.Frag) (C : Addr) : Sp := fun vs H Q _ => ∃ (p : Addr) (ns : List Int) (i : Int), vs = [.ref p, .int i] ∧ StrAt K C H p ns ∧ Off ns ∧ 0 ≤ i ∧
  ∀ H' r, Same H H' → H r = none → StrAt K C H' r (ns.map (· + i)) → Q (.ref r) H'
def sp_swithin (K : PySem.W.Frag) (C : Addr) : Sp := fun vs H Q _ => ∃ (p q : Addr) (ns ms : List Int), vs = [.ref p, .ref q] ∧ StrAt K C H p ns ∧ Off ns ∧ StrAt K C H q ms ∧ Off ms ∧ ∀ H', Same H H' → Q (.bl (decide (∀ k ∈ ns, k ∈ ms))) H'
def sp_is_number (K : PySem.W.Frag) : Sp := fun vs H Q _ => ∃ x d, vs = [x] ∧ Ob K H x d ∧ ∀ H' b, Same H H' → (b = true ↔ IsN x) → Q (.bl b) H'
def sp_check_number (K : PySem.W.Frag) (C : Addr) : Sp := fun vs H Q E => ∃ x d, vs = [x] ∧ Ob K H x d ∧ (IsN x → ∀ H', Same H H' → Q .non H') ∧ (¬ IsN x → Er C E H x)
def sp_blocks (K : PySem.W.Frag) (C : Addr) : Sp := fun vs H Q E => ∃ x d, vs = [x] ∧ Ob K H x d ∧
  (∀ ds, Num ds → x = .str (numS ds) → ∀ H' p, Same H H' → H p = none → H' p = some (.tup (ds.map fun (d : Nat) => V.int (d : Int))) → Q (.ref p) H') ∧ (¬ IsN x → Er C E H x)
def sp_row_of (K : PySem.W.Frag) (C : Addr) : Sp := fun vs H Q E => ∃ x d, vs = [x] ∧ Ob K H x d ∧
  (∀ ds, Num ds → x = .str (numS ds) → ∀ H' p, Same H H' → H p = none → H' p = some (.tup ((rowL ds).map V.int)) → Q (.ref p) H') ∧ (¬ IsN x → Er C E H x)
def sp_length_of (K : PySem.W.Frag) (C : Addr) : Sp := fun vs H Q E => ∃ x d, vs = [x] ∧ Ob K H x d ∧
  (∀ ds, Num ds → x = .str (numS ds) → ∀ H', Same H H' → Q (.int ((rowL ds).length : Nat)) H') ∧ (¬ IsN x → Er C E H x)
def sp_strokes_of (K : PySem.W.Frag) (C CN : Addr) : Sp := fun vs H Q E => ∃ x d, vs = [x] ∧ Ob K H x d ∧
  (∀ ds, Num ds → x = .str (numS ds) → ∀ H' p, Same H H' → H p = none → StrAt K C H' p (SI ds) → Q (.ref p) H') ∧ (¬ IsN x → Er CN E H x)
def endV (p : Nat × Nat) : List V := [.int (p.1 : Int), .int ((p.1 : Int) + 2 * ((p.2 : Int) - 1))]
/-- a list of the ends of blocks -/
def EndsAt (K : PySem.W.Frag) (H : Hp) (q : Addr) (ps : List (Nat × Nat)) : Prop := ∃ xs : List V, H q = some (.lst xs) ∧ xs.length = ps.length ∧ ∀ (i : Nat) v, xs[i]? = some v → ∃ p, ps[i]? = some p ∧ ∃ t, v = .ref t ∧ H t = some (.tup (endV p))
def sp_block_ends (K : PySem.W.Frag) (CN : Addr) : Sp := fun vs H Q E => ∃ x d, vs = [x] ∧ Ob K H x d ∧
  (∀ ds, Num ds → x = .str (numS ds) → ∀ H' p, Same H H' → H p = none → EndsAt K H' p (spans 0 ds) → Q (.ref p) H') ∧ (¬ IsN x → Er CN E H x)
def sp_home_index (K : PySem.W.Frag) : Sp := fun vs H Q _ => ∃ (q : Addr) (qs : List (Nat × Nat)) (a : Int) (p : Nat × Nat), vs = [.ref q, .int (a + p.1), .int (a + ((p.1 : Int) + 2 * ((p.2 : Int) - 1)))] ∧ EndsAt K H q qs ∧ qs.length ≤ 10 ∧ a % 2 = 0 ∧
  ∀ H', Same H H' → Q (match home a qs p with | some i => .int (i : Nat) | none => .non) H'
/-- the blocks told -/
def fitV (a : Int) (ds es : List Nat) : List V := (FitL a ds es).map fun (i : Nat) => V.int (i : Int)
def sp_fit_blocks (K : PySem.W.Frag) (CN : Addr) : Sp := fun vs H Q E => ∃ x y d e, ∃ a : Int, vs = [x, y, .int a] ∧ Ob K H x d ∧ Ob K H y e ∧
  (∀ ds es, Num ds → Num es → x = .str (numS ds) → y = .str (numS es) → ∀ H' p, Same H H' → H' p = some (.tup (fitV a ds es)) → Q (.ref p) H') ∧ (¬ IsN x → Er CN E H x) ∧ (IsN x → ¬ IsN y → Er CN E H y)
def sp_fits (K : PySem.W.Frag) (CN : Addr) : Sp := fun vs H Q E => ∃ x y d e, vs = [x, y] ∧ Ob K H x d ∧ Ob K H y e ∧
  (∀ ds es, Num ds → Num es → x = .str (numS ds) → y = .str (numS es) → ∀ H' p, Same H H' → H' p = some (.tup ((DI ds es).map V.int)) → Q (.ref p) H') ∧ (¬ IsN x → Er CN E H x) ∧ (IsN x → ¬ IsN y → Er CN E H y)
def sp_fits_by_ticks (K : PySem.W.Frag) (CN : Addr) : Sp := sp_fits K CN
def sp_bag (K : PySem.W.Frag) : Sp := fun vs H Q _ => ∃ (a : Addr) (ns : List Int), vs = [.ref a] ∧ SqL K H a (ns.map V.int) ∧ ns.length ≤ 63 ∧ ∀ H' b, Same H H' → Bag H' b 0 → Q (.ref b) H'
def sp_draw (K : PySem.W.Frag) : Sp := fun vs H Q _ => ∃ (b : Addr) (n : Nat) (lim : Int), vs = [.ref b, .int lim] ∧ 0 < lim ∧ lim < 1073741824 ∧ Bag H b n ∧ n ≤ 1000000 ∧
  ∀ H' d, 0 ≤ d → d < lim → Bag H' b (n + 1) → But b H H' → Q (.int d) H'
def sp_number (K : PySem.W.Frag) : Sp := fun vs H Q _ => ∃ (b : Addr) (n : Nat), vs = [.ref b] ∧ Bag H b n ∧ n ≤ 900000 ∧ ∀ H' (ds : List Nat), Num ds → Bag H' b (n + 6) → But b H H' → Q (.str (numS ds)) H'
def sp_row (K : PySem.W.Frag) : Sp := fun vs H Q _ => ∃ ds, vs = [.str (numS ds)] ∧ Num ds ∧ ∀ H' p, Same H H' → H p = none → H' p = some (.lst ((rowL ds).map V.int)) → Q (.ref p) H'
def sp_wider (K : PySem.W.Frag) : Sp := fun vs H Q _ => ∃ (b : Addr) (n : Nat) (ds : List Nat), vs = [.ref b, .str (numS ds)] ∧ Num ds ∧ Bag H b n ∧ n ≤ 800000 ∧ ∀ H' (es : List Nat), Num es → Bag H' b (n + 10) → But b H H' → Q (.str (numS es)) H'
def sp_strokes (K : PySem.W.Frag) : Sp := fun vs H Q _ => ∃ ds, vs = [.str (numS ds)] ∧ Num ds ∧ ∀ H' p, Same H H' → H p = none → H' p = some (.lst ((SI ds).map V.int)) → Q (.ref p) H'
def spanI (p : Nat × Nat) : List Int := (List.range p.2).map fun (k : Nat) => (p.1 : Int) + 2 * (k : Int)
/-- a list of the blocks' offsets -/
def SpansAt (K : PySem.W.Frag) (H : Hp) (q : Addr) (ps : List (Nat × Nat)) : Prop := ∃ xs : List V, H q = some (.lst xs) ∧ xs.length = ps.length ∧ ∀ (i : Nat) v, xs[i]? = some v → ∃ p, ps[i]? = some p ∧ ∃ t, v = .ref t ∧ H t = some (.lst ((spanI p).map V.int))
def sp_spans (K : PySem.W.Frag) : Sp := fun vs H Q _ => ∃ ds, vs = [.str (numS ds)] ∧ Num ds ∧ ∀ H' p, Same H H' → H p = none → SpansAt K H' p (spans 0 ds) → Q (.ref p) H'
def sp_due (K : PySem.W.Frag) : Sp := fun vs H Q _ => ∃ ds es, vs = [.str (numS ds), .str (numS es)] ∧ Num ds ∧ Num es ∧ ∀ H' p, Same H H' → H p = none → H' p = some (.lst ((DI ds es).map V.int)) → Q (.ref p) H'
def sp_blocks_due (K : PySem.W.Frag) : Sp := fun vs H Q _ => ∃ ds es, ∃ a : Int, vs = [.str (numS ds), .str (numS es), .int a] ∧ Num ds ∧ Num es ∧ ∀ H' p, Same H H' → H' p = some (.tup (fitV a ds es)) → Q (.ref p) H'
def sp_whole (K : PySem.W.Frag) : Sp := fun vs H Q _ => ∃ i : Int, vs = [.int i] ∧ Q (.bl true) H
def sp_pair (K : PySem.W.Frag) : Sp := fun vs H Q _ => ∃ ds es, vs = [.str (numS ds), .str (numS es)] ∧ Num ds ∧ Num es ∧ ∀ H', Same H H' → Q (.bl true) H'
def sp_refused (K : PySem.W.Frag) : Sp := fun vs H Q _ => ∃ (w : Int), ∃ x y d e, vs = [.int w, x, y] ∧ 0 ≤ w ∧ w ≤ 2 ∧ Ob K H x d ∧ Ob K H y e ∧
  (IsN x → IsN y → ∀ H', Same H H' → Q .non H') ∧ (¬ IsN x → ∀ H', Same H H' → Q (.str d.shown) H') ∧ (IsN x → ¬ IsN y → ∀ H', Same H H' → Q (.str e.shown) H')
def sp_law (K : PySem.W.Frag) : Sp := fun vs H Q _ => ∃ (a : Addr) (ns : List Int), vs = [.ref a] ∧ SqL K H a (ns.map V.int) ∧ ns.length ≤ 63 ∧ ∀ H', Q (.bl true) H'
end K11

namespace K11
open PySem L2 Wm TL Dv
section
variable {P : Program} {w : World} {K : PySem.W.Frag} {mg : Str → Option Value} {base : Heap}
theorem tk_succ {α : Type} {l : List α} {i : Nat} {x : α} (h : l[i]? = some x) : l.take (i + 1) = l.take i ++ [x] := by
  rw [List.take_succ, h]
  rfl
theorem tyT {H : Hp} {p : Addr} {xs : List V} (h : SqT K H p xs) : TyX K H (.ref p) (.type "tuple") := by
  rcases h with (h | ⟨o, h⟩) | ⟨o, its, n, e, c, _⟩
  · exact .base (.tup h)
  · exact .fTuple h
  · exact .kTuple e c
theorem tyL {H : Hp} {p : Addr} {xs : List V} (h : SqL K H p xs) : TyX K H (.ref p) (.type "list") := by
  rcases h with (h | ⟨o, h⟩) | ⟨o, its, n, e, c, _⟩
  · exact .base (.lst h)
  · exact .base (.frz h)
  · exact .kList e c
theorem iteN {c : Bool} {A B : Prop} (e : c = false) (h : B) : if c = true then A else B := by
  rw [e]
  exact iteF h
theorem flat_ints (ns : List Int) : (ns.map V.int).all flatV = true := by
  rw [List.all_map]
  exact List.all_eq_true.mpr fun _ _ => rfl
theorem in_ints (x : Int) : ∀ ns : List Int, inV (.int x) (ns.map V.int) = decide (x ∈ ns)
  | [] => rfl
  | n :: ns => by
    have ih := in_ints x ns
    unfold inV at ih ⊢
    rw [List.map_cons, List.any_cons, ih]
    show ((n == x) || decide (x ∈ ns)) = _
    by_cases e : n = x
    · subst e; simp
    · simp [e, Ne.symm e]
theorem dp_ints {H : Hp} : ∀ ns : List Int, DpAll K H (ns.map V.int) (ns.map PyData.int)
  | [] => .nil
  | n :: ns => .cons (.int n) (dp_ints ns)
theorem fine_off (ns : List Int) : Fine 1 (offD ns) := fine_tup (n := 0) fun d m => by
  obtain ⟨n, _, rfl⟩ := List.mem_map.mp m
  exact fine_int n
theorem eqv_ints : ∀ a b : List Int, PyData.eqvAll (a.map PyData.int) (b.map PyData.int) = decide (a = b)
  | [], [] => rfl
  | [], _ :: _ => rfl
  | _ :: _, [] => rfl
  | x :: a, y :: b => by
    rw [List.map_cons, List.map_cons]
    unfold PyData.eqvAll
    rw [eqv_ints a b]
    by_cases e : x = y
    · subst e; simp [PyData.eqv]
    · simp [PyData.eqv, e]
theorem eqv_off (a b : List Int) : PyData.eqv (offD a) (offD b) = decide (a = b) := by
  unfold offD PyData.eqv
  exact eqv_ints a b
theorem ok_is_whole (T : Txt K mg) : FnOk P w K mg base CX0 1 T.a_is_whole T.d_is_whole ["thing"] (sp_is_whole K) := by
  refine T.F_is_whole.ok sc_is_whole (fun vs H Q E h => ?_) (fun cdv A outer s H vs Q E hr h => ?_)
  · obtain ⟨x, o, rfl, _⟩ := h
    rfl
  · obtain ⟨x, o, rfl, hx, k⟩ := h
    refine ⟨_, (pss_one (ps_ret (pe_and (pe_callB call_isi (by rfl) T.z_isinstance (by decide +kernel) (pa_cons (pv 0) (pa_cons (pe_bltn (v := V.ty "int") (by rfl) T.z_int (by decide +kernel) rfl) pa_nil))) (pe_one (pe_not (pe_callB call_isi (by rfl) T.z_isinstance (by decide +kernel) (pa_cons (pv 0) (pa_cons (pe_bltn (v := V.ty "bool") (by rfl) T.z_bool (by decide +kernel) rfl) pa_nil)))))))), ?_⟩
    cases hx with
    | int i =>
      refine ⟨_, rfl, _, _, _, _, true, rfl, .ty "int", .base (.int _), kit_ty (by decide +kernel), true, rfl, iteT ?_⟩
      exact ⟨_, rfl, _, _, _, _, false, rfl, .ty "bool", .base (.int _), kit_ty (by decide +kernel), false, rfl, k⟩
    | bl b =>
      refine ⟨_, rfl, _, _, _, _, true, rfl, .ty "int", .base (.bl _), kit_ty (by decide +kernel), true, rfl, iteT ?_⟩
      exact ⟨_, rfl, _, _, _, _, true, rfl, .ty "bool", .base (.bl _), kit_ty (by decide +kernel), true, rfl, k⟩
    | str s => exact ⟨_, rfl, _, _, _, _, false, rfl, .ty "int", .base (.str _), kit_ty (by decide +kernel), false, rfl, iteF k⟩
    | non => exact ⟨_, rfl, _, _, _, _, false, rfl, .ty "int", .base .non, kit_ty (by decide +kernel), false, rfl, iteF k⟩
    | @seq t p xs h =>
      cases t with
      | true => exact ⟨_, rfl, _, _, _, _, false, rfl, .ty "int", tyT h, kit_ty (by decide +kernel), false, rfl, iteF k⟩
      | false => exact ⟨_, rfl, _, _, _, _, false, rfl, .ty "int", tyL h, kit_ty (by decide +kernel), false, rfl, iteF k⟩
theorem ok_check_offset (T : Txt K mg) : FnOk P w K mg base CX0 2 T.a_check_offset T.d_check_offset ["thing"] (sp_check_offset K) := by
  refine T.F_check_offset.ok sc_check_offset (fun vs H Q E h => ?_) (fun cdv A outer s H vs Q E hr h => ?_)
  · obtain ⟨i, rfl, _⟩ := h
    rfl
  · obtain ⟨i, rfl, h0, k⟩ := h
    refine ⟨_, (pss_one (ps_if (PW.pt (pw_or (pt_not (pt_val (pe_call (ok_is_whole T) (hr.mono (by decide)) (by rfl) T.g_is_whole T.F_is_whole.kp T.b_is_whole .nil pass0 (pa_cons (pv 0) pa_nil)))) (pw_or1 (pt_cmpR op_lt (pv 0) pe_int (nomark _)))))
        (pss_one ps_never)
        pss_nil)), ?_⟩
    refine ⟨_, rfl, _, some i, rfl, .int i, true, rfl, iteF ?_⟩
    exact ⟨_, rfl, i, 0, rfl, rfl, _, rfl, iteN (decide_eq_false (by omega)) k⟩
end
end K11

namespace K11
open PySem L2 Wm TL Dv
section
variable {P : Program} {w : World} {K : PySem.W.Frag} {mg : Str → Option Value} {base : Heap}
theorem StrAt.keep {C : Addr} {H H' : Hp} {p : Addr} {ns : List Int} (h : StrAt K C H p ns) (s : Same H H') : StrAt K C H' p ns := by
  obtain ⟨dx, fs, q, hp, l1, l2, hq⟩ := h
  exact ⟨dx, fs, q, s _ _ hp, l1, l2, sameT s hq⟩
theorem ok_init (T : Txt K mg) : FnOk P w K mg base CX0 3 T.a_init T.d_init ["self", "offsets"] (sp_init K T.C) := by
  refine T.F_init.ok sc_init (fun vs H Q E h => ?_) (fun cdv A outer s H vs Q E hr h => ?_)
  · obtain ⟨p, dx, x, t, xs, rfl, _⟩ := h
    rfl
  · obtain ⟨p, dx, x, t, xs, rfl, hp, hx, lo, few, k⟩ := h
    refine ⟨_, (pss_cons (ps_for (passes_of rfl) rfl (Kd.pi_seq (pv 1)) (pg_name (i := 2) sc_init.nd rfl (Or.inl rfl))
        (pss_one (ps_expr (pe_call (ok_check_offset T) (hr.mono (by decide)) (by rfl) T.g_check_offset T.F_check_offset.kp T.b_check_offset .nil pass0 (pa_cons (pv 2) pa_nil)))))
      (pss_one (ps_fld (pv 0) (pe_callTy call_tuple_of (by rfl) T.z_tuple (by decide +kernel) (pa_cons (pe_callB (cr_sortedSet (by rfl)) (by rfl) T.z_sorted (by decide +kernel) (pa_cons (pe_callTy (Si.call_set (by rfl)) (by rfl) T.z_set (by decide +kernel) (pa_cons (pv 1) pa_nil)) pa_nil)) pa_nil)) rfl))), ?_⟩
    refine ⟨_, rfl, x, _, t, rfl, hx, fun J G wk hG => ?_⟩
    refine for_it wk (fun _ σ H' => ∃ v, σ = [some (.ref p), some (.ref x), v] ∧ H' = H) ⟨none, rfl, rfl⟩ (fun _ σ H' _ h => let ⟨_, _, e⟩ := h; e ▸ hG _ hx) (fun i y σ H1 H2 hi hP hY => ?_) (fun σ H1 hP => ?_)
    · obtain ⟨v, rfl, rfl⟩ := hP
      obtain ⟨rfl, hy⟩ := hY
      rw [List.getElem?_map] at hy
      obtain ⟨n, hn, rfl⟩ := Option.map_eq_some_iff.mp hy
      exact ⟨_, rfl, n, rfl, lo n (List.mem_of_getElem? hn), _, rfl, rfl⟩
    · obtain ⟨v, rfl, rfl⟩ := hP
      refine ⟨_, rfl, x, xs, rfl, hx.sq, by omega, fun S c hc hS => ?_⟩
      have s1 := same_new (o := SetO w S (fun y => decide (y ∈ xs)) c) hS
      refine ⟨S, _, c, rfl, upd_same, by omega, fun ls l up mem len hl => ?_⟩
      have s2 := s1.trans (same_new (o := .lst (ls.map V.int)) hl)
      refine ⟨l, _, rfl, .inl ⟨SqL.of upd_same, fun q hq => ?_⟩⟩
      have s3 := s2.trans (same_new (o := .tup (ls.map V.int)) hq)
      have hq3 : upd (upd (upd H1 S (SetO w S (fun y => decide (y ∈ xs)) c)) l (.lst (ls.map V.int))) q (.tup (ls.map V.int)) q = some (.tup (ls.map V.int)) := upd_same
      have hp4 := s3 _ _ hp
      have nq : q ≠ p := (ne_of_none (s2 _ _ hp) hq).symm
      refine ⟨_, rfl, p, T.C, dx, [], rfl, hp4, T.clC, T.nO, by show 0 < 1000; decide, ?_⟩
      refine k _ ls (fun a o na e => by rw [upd_ne na]; exact s3 _ _ e) ⟨up, fun j => (mem j).trans decide_eq_true_iff⟩ (by omega) ⟨dx, _, q, upd_same, ?_, fun m hm => ?_, ?_⟩
      · rfl
      · show List.lookup m [(("offsets" : Str), V.ref q)] = none
        rw [List.lookup_cons, beq_eq_false_iff_ne.mpr hm]
        rfl
      · exact SqT.of (by rw [upd_ne nq]; exact hq3)
theorem Off.sort {xs ns : List Int} (h : IsSort xs ns) (lo : ∀ n ∈ xs, 0 ≤ n) (few : ns.length < 32) : Off ns := ⟨h.1, fun n m => lo n ((h.2 n).mp m), few⟩
end
end K11

namespace K11
open PySem L2 Wm TL Dv
section
variable {P : Program} {w : World} {K : PySem.W.Frag} {mg : Str → Option Value} {base : Heap}
theorem made {H : Hp} {p dx C : Addr} (hp : H p = none) (hd : H dx = none) (ne : dx ≠ p) : Same H (upd (upd H dx (.own p)) p (.ins C dx [])) :=
  (same_new hd).trans (same_new (by rw [upd_ne (Ne.symm ne)]; exact hp))
theorem made_off {H H' : Hp} {p dx C : Addr} (hp : H p = none) (hd : H dx = none) (ne : dx ≠ p) (off : ∀ q o, q ≠ p → upd (upd H dx (.own p)) p (.ins C dx []) q = some o → H' q = some o) : Same H H' :=
  fun q o e => off q o (ne_of_none e hp) (made hp hd ne q o e)
theorem ok_swithin (T : Txt K mg) : FnOk P w K mg base CX0 1 T.a_swithin T.d_swithin ["self", "other"] (sp_swithin K T.C) := by
  refine T.F_swithin.ok sc_swithin (fun vs H Q E h => ?_) (fun cdv A outer s H vs Q E hr h => ?_)
  · obtain ⟨p, q, ns, ms, rfl, _⟩ := h
    rfl
  · obtain ⟨p, p2, ns, ms, rfl, ⟨dx, fs, q, hp, l1, l2, hq⟩, O1, ⟨dx2, fs2, q2, hp2, m1, m2, hq2⟩, O2, k⟩ := h
    have f1 := O1.few
    have f2 := O2.few
    refine ⟨_, (pss_one (ps_ret (pe_cmpR op_eq (pe_callB So.call_lenSet (by rfl) T.z_len (by decide +kernel) (pa_cons (pe_op So.op_sub (pe_callTy (Si.call_set (by rfl)) (by rfl) T.z_set (by decide +kernel) (pa_cons (pe_fld (pv 0) rfl) pa_nil)) (pe_callTy (Si.call_set (by rfl)) (by rfl) T.z_set (by decide +kernel) (pa_cons (pe_fld (pv 1) rfl) pa_nil))) pa_nil)) pe_int (nomark _)))), ?_⟩
    refine ⟨_, rfl, p, T.C, dx, fs, _, rfl, hp, T.clC, T.nO, l1, q, ns, rfl, .inr hq, by omega, fun S1 c1 hc1 hS1 => ?_⟩
    have s1 := same_new (o := SetO w S1 (fun y => decide (y ∈ ns)) c1) hS1
    refine ⟨_, rfl, p2, T.C, dx2, fs2, _, rfl, s1 _ _ hp2, T.clC, T.nO, m1, q2, ms, rfl, .inr (sameT s1 hq2), by omega, fun S2 c2 hc2 hS2 => ?_⟩
    have s2 := same_new (o := SetO w S2 (fun y => decide (y ∈ ms)) c2) hS2
    have e1 := s2 _ _ (show upd H S1 (SetO w S1 (fun y => decide (y ∈ ns)) c1) S1 = some (SetO w S1 (fun y => decide (y ∈ ns)) c1) from upd_same)
    refine ⟨S1, S2, _, _, c1, c2, rfl, rfl, ne_of_none upd_same hS2, e1, upd_same, by omega, by omega, fun p3 c3 hc3 hp3 => ?_⟩
    refine ⟨p3, _, c3, rfl, upd_same, by omega, fun cz => ?_⟩
    have e : decide (V.int (c3 : Nat) = V.int 0) = decide (∀ k ∈ ns, k ∈ ms) := by
      refine decide_eq_decide.mpr ⟨fun z j mj => ?_, fun z => ?_⟩
      · have c0 : c3 = 0 := by have := V.int.inj z; omega
        have := cz.mp c0 j
        simpa [mj] using this
      · have c0 : c3 = 0 := cz.mpr fun j => by
          by_cases mj : j ∈ ns
          · simp [mj, z j mj]
          · simp [mj]
        rw [c0]
        rfl
    refine ⟨rfl, ?_⟩
    rw [e]
    exact k _ ((s1.trans s2).trans (same_new hp3))
theorem shift_up {ns : List Int} (h : ns.Pairwise (· < ·)) (i : Int) : (ns.map (· + i)).Pairwise (· < ·) := by
  rw [List.pairwise_map]
  exact h.imp fun h => by omega
theorem ok_rshift (T : Txt K mg) : FnOk P w K mg base CX0 5 T.a_rshift T.d_rshift ["self", "other"] (sp_rshift K T.C) := by
  refine T.F_rshift.ok sc_rshift (fun vs H Q E h => ?_) (fun cdv A outer s H vs Q E hr h => ?_)
  · obtain ⟨p, ns, i, rfl, _⟩ := h
    rfl
  · obtain ⟨p, ns, i, rfl, ⟨dx, fs, q, hp, l1, l2, hq⟩, O, h0, k⟩ := h
    have few := O.few
    refine ⟨_, (pss_cons (ps_expr (pe_call (ok_check_offset T) (hr.mono (by decide)) (by rfl) T.g_check_offset T.F_check_offset.kp T.b_check_offset .nil pass0 (pa_cons (pv 1) pa_nil)))
      (pss_one (ps_ret (pe_make T.mk_init (ok_init T) (hr.mono (by decide)) (by rfl) T.gC T.b_init .nil pass0 (pa_cons (pe_lc (own := [("offset", 2)]) (g := gName 2) (tt := tYes) rfl sc_rshift.nd (pi_tup (pe_fld (pv 0) rfl)) (blkOk_by (own := [("offset", 2)]) (N := nm_rshift) (sc := (defScope s_rshift)) (by decide +kernel)) (fun _ _ _ _ _ => pg_name (i := 2) sc_rshift.nd rfl (Or.inl rfl)) (fun _ _ _ _ _ => pts_nil) (fun _ _ _ _ _ => (pe_op op_add (pv 2) (pv 1)))) pa_nil))))), ?_⟩
    refine ⟨_, rfl, i, rfl, h0, ?_⟩
    refine ⟨_, rfl, p, T.C, dx, fs, _, rfl, hp, T.clC, T.nO, l1, q, rfl, ⟨_, hq⟩, fun D hD => ?_⟩
    refine lc_tup (xs := ns.map V.int) (fun j A => Same H A ∧ A D = some (.lst (((ns.map (· + i)).take j).map V.int))) ⟨same_new hD, upd_same⟩ (fun j A _ hP => sameT hP.1 hq) (fun j z A hz hP => ?_) (fun H1 hP => ?_)
    · obtain ⟨sm, hL⟩ := hP
      rw [List.getElem?_map] at hz
      obtain ⟨n, hn, rfl⟩ := Option.map_eq_some_iff.mp hz
      refine ⟨rfl, yesT ?_⟩
      refine ⟨_, rfl, _, rfl, _, _, rfl, rfl, _, hL, by rw [List.length_map, List.length_take, List.length_map]; exact small1000 (by omega), same_mut sm hD, ?_⟩
      rw [upd_same, tk_succ (show (ns.map (· + i))[j]? = some (n + i) by rw [List.getElem?_map, hn]; rfl), List.map_append]
      rfl
    · obtain ⟨sm, hL⟩ := hP
      rw [List.length_map, List.take_of_length_le (by rw [List.length_map]; exact Nat.le_refl _)] at hL
      refine fun x dy hx hdy ne => ?_
      have m1 := made (C := T.C) hx hdy ne
      refine ⟨x, dy, D, false, ns.map (· + i), rfl, upd_same, Kd.Is.lst (SqL.of (m1 _ _ hL)), fun n mn => ?_, by rw [List.length_map]; omega, fun H' ns2 off so le sA => ⟨rfl, ?_⟩⟩
      · obtain ⟨z, mz, rfl⟩ := List.mem_map.mp mn
        have := O.lo z mz
        show 0 ≤ z + i
        omega
      have e := up_eq so.1 (shift_up O.up i) so.2
      subst e
      exact k _ x (sm.trans (made_off hx hdy ne off)) (sm.free hx) sA
end
end K11

namespace K11
open PySem L2 Wm TL Dv
section
variable {P : Program} {w : World} {K : PySem.W.Frag} {mg : Str → Option Value} {base : Heap}
theorem small_len {n : Nat} (h : n ≤ 100000) : n ≤ sizeLine := by
  have : (100000 : Nat) ≤ sizeLine := by decide
  omega
theorem sum_cast : ∀ ds : List Nat, (ds.map fun (d : Nat) => (d : Int)).sum = ((ds.sum : Nat) : Int)
  | [] => rfl
  | d :: ds => by
    rw [List.map_cons, List.sum_cons, List.sum_cons, sum_cast ds]
    omega
def letters (t : Str) : List Bool := (tl t).map fun c => decide (c ∈ ("123456789" : Str).cps.toList)
theorem letters_all {t : Str} : (letters t).all id = true ↔ ∀ c ∈ tl t, c ∈ ("123456789" : Str).cps.toList := by
  unfold letters
  rw [List.all_map, List.all_eq_true]
  constructor
  · intro h c m
    exact of_decide_eq_true (h c m)
  · intro h c m
    exact decide_eq_true (h c m)
theorem cps_at {t : Str} {i c : Nat} (h : t.cps[i]? = some c) : (tl t)[i]? = some c := by
  rw [← h]
  exact Array.getElem?_toList ..
theorem ok_is_number (T : Txt K mg) : FnOk P w K mg base CX0 1 T.a_is_number T.d_is_number ["thing"] (sp_is_number K) := by
  refine T.F_is_number.ok sc_is_number (fun vs H Q E h => ?_) (fun cdv A outer s H vs Q E hr h => ?_)
  · obtain ⟨x, d, rfl, _⟩ := h
    rfl
  · obtain ⟨x, d, rfl, ob, kx⟩ := h
    obtain ⟨n, b0, ty, k1, k2, k3⟩ := tys_of ob
    refine ⟨_, (pss_cons (ps_if (PW.pt (pw_or (pt_not (pt_val (pe_callB call_isi (by rfl) T.z_isinstance (by decide +kernel) (pa_cons (pv 0) (pa_cons (pe_bltn (v := V.ty "str") (by rfl) T.z_str (by decide +kernel) rfl) pa_nil))))) (pw_or1 (pt_not (pt_chain op_le op_le pe_int (pe_callB call_len_str (by rfl) T.z_len PySem.boot_len (pa_cons (pv 0) pa_nil)) (pe_glob (v := V.int 4) rfl T.c_MOST_DIGITS ⟨_, rfl⟩))))))
        (pss_one (ps_ret pe_bl))
        pss_nil)
      (pss_cons (ps_if (pt_not (pt_val (pe_callB (cr_all rfl) (by rfl) T.z_all (by decide +kernel) (pa_cons (pe_lc (own := [("letter", 1)]) (g := gName 1) (tt := tYes) rfl sc_is_number.nd (pi_str (pv 0)) (blkOk_by (own := [("letter", 1)]) (N := nm_is_number) (sc := (defScope s_is_number)) (by decide +kernel)) (fun _ _ _ _ _ => pg_name (i := 1) sc_is_number.nd rfl (Or.inl rfl)) (fun _ _ _ _ _ => pts_nil) (fun _ _ _ _ _ => (pe_cmpR op_in_sign (pv 1) (pe_glob (v := V.str "123456789") rfl T.c_DIGITS ⟨_, rfl⟩) rfl))) pa_nil))))
        (pss_one (ps_ret pe_bl))
        pss_nil)
      (pss_one (ps_ret (pe_cmpR op_le (pe_callB (cr_sum rfl) (by rfl) T.z_sum (by decide +kernel) (pa_cons (pe_lc (own := [("letter", 1)]) (g := gName 1) (tt := tYes) rfl sc_is_number.nd (pi_str (pv 0)) (blkOk_by (own := [("letter", 1)]) (N := nm_is_number) (sc := (defScope s_is_number)) (by decide +kernel)) (fun _ _ _ _ _ => pg_name (i := 1) sc_is_number.nd rfl (Or.inl rfl)) (fun _ _ _ _ _ => pts_nil) (fun _ _ _ _ _ => (pe_callTy call_int_str (by rfl) T.z_int (by decide +kernel) (pa_cons (pv 1) pa_nil)))) pa_nil)) (pe_glob (v := V.int 24) rfl T.c_GREATEST_SUM ⟨_, rfl⟩) (nomark _)))))), ?_⟩
    refine ⟨_, rfl, _, _, _, _, b0, rfl, .ty "str", ty, k1, b0, rfl, ?_⟩
    cases b0 with
    | false =>
      refine iteT ?_
      refine iteT ?_
      exact kx _ _ (Same.refl _) ⟨fun z => (by cases z), fun z => absurd z (k3 rfl)⟩
    | true =>
    refine iteF ?_
    obtain ⟨t, rfl, _, tx⟩ := k2 rfl
    have hz : t.length ≤ 100000 := Nat.le_trans tx.len (by decide)
    have k : ∀ H' b, Same H H' → (b = true ↔ IsNum t) → Q (.bl b) H' := fun H' b s e => kx H' b s (e.trans isN_str.symm)
    have hl : t.length = (tl t).length := len_tl t
    have numlen : IsNum t → 1 ≤ t.length ∧ t.length ≤ 4 := fun ⟨ds, N, e⟩ => by
      rw [e, numS_len]
      exact ⟨N.pos, N.len⟩
    refine ⟨_, rfl, _, rfl, small_len hz, _, _, rfl, rfl, _, rfl, ?_⟩
    refine ite2 (fun c1 => ?_) (fun c1 => ?_)
    case refine_2 =>
      have c1' : ¬ (1 : Int) ≤ (t.length : Nat) := fun z => c1 (decide_eq_true z)
      refine ⟨false, rfl, iteT ?_⟩
      exact k _ _ (Same.refl _) ⟨fun z => (by cases z), fun z => absurd (numlen z).1 (by omega)⟩
    have c1' : (1 : Int) ≤ (t.length : Nat) := of_decide_eq_true c1
    refine ⟨_, _, rfl, rfl, _, rfl, ?_⟩
    by_cases c2 : ((t.length : Nat) : Int) ≤ 4
    case neg =>
      rw [decide_eq_false c2]
      refine iteT ?_
      exact k _ _ (Same.refl _) ⟨fun z => (by cases z), fun z => absurd (numlen z).2 (by omega)⟩
    rw [decide_eq_true c2]
    refine iteF ?_
    refine ⟨_, rfl, _, rfl, fun D hD => ?_⟩
    have hsz : t.cps.size = (tl t).length := hl
    refine lc_it walk_str (fun i H' => Same H H' ∧ H' D = some (.lst (((letters t).take i).map V.bl))) ⟨same_new hD, upd_same⟩ (fun _ _ _ _ => trivial) (fun i x H1 H' hi hP hY => ?_) (fun H1 hP => ?_)
    · obtain ⟨sm, hL⟩ := hP
      obtain ⟨rfl, c, hc, rfl⟩ := hY
      have hc2 : (letters t)[i]? = some (decide (c ∈ ("123456789" : Str).cps.toList)) := by
        unfold letters
        rw [List.getElem?_map, cps_at hc]
        rfl
      refine ⟨rfl, yesT ?_⟩
      refine ⟨_, rfl, _, _, rfl, rfl, _, hL, by rw [List.length_map, List.length_take]; exact small1000 (by omega), ?_⟩
      refine ⟨same_mut sm hD, ?_⟩
      rw [upd_same, take_succ_map _ hc2]
    · obtain ⟨sm, hL⟩ := hP
      have ell : (letters t).length = t.cps.size := by unfold letters; rw [List.length_map, hsz]
      rw [← ell, List.take_length] at hL
      refine ⟨D, letters t, rfl, SqL.of hL, _, rfl, ?_⟩
      by_cases c3 : (letters t).all id = true
      case neg =>
        rw [Bool.not_eq_true] at c3
        rw [c3]
        refine iteT ?_
        refine k _ _ sm ⟨fun z => (by cases z), fun ⟨ds, N, e⟩ => ?_⟩
        have q := letters_all.mpr (by rw [e]; exact num_codes N.dig : ∀ c ∈ tl t, c ∈ ("123456789" : Str).cps.toList)
        rw [c3] at q
        cases q
      rw [c3]
      refine iteF ?_
      obtain ⟨ds, dig, et⟩ := dig_text t (letters_all.mp c3)
      subst et
      rw [numS_len] at c1' c2
      refine ⟨_, rfl, _, rfl, fun D2 hD2 => ?_⟩
      refine lc_it walk_str (fun i H' => Same H H' ∧ H' D2 = some (.lst ((ds.take i).map fun (d : Nat) => V.int (d : Int)))) ⟨sm.trans (same_new hD2), upd_same⟩ (fun _ _ _ _ => trivial) (fun i x H2 H' hi hP hY => ?_) (fun H2 hP => ?_)
      · obtain ⟨sm2, hl2⟩ := hP
        obtain ⟨rfl, c, hc, rfl⟩ := hY
        rw [numS_size] at hi
        rw [numS_at ds i hi] at hc
        have hc' := (Option.some.inj hc).symm
        subst hc'
        refine ⟨rfl, yesT ?_⟩
        refine ⟨_, rfl, _, _, rfl, dig_int (dig _ (List.getElem_mem hi)), (by show 1 ≤ 640; decide), _, hl2, by rw [List.length_map, List.length_take]; exact small1000 (by omega), ?_⟩
        refine ⟨same_mut sm2 (sm.free hD2), ?_⟩
        rw [upd_same, take_succ_map _ (List.getElem?_eq_getElem hi)]
      · obtain ⟨sm2, hl2⟩ := hP
        rw [numS_size, List.take_length] at hl2
        refine ⟨D2, ds.map fun (d : Nat) => (d : Int), rfl, SqL.of (by rw [hl2, List.map_map]; rfl), _, _, rfl, rfl, ?_⟩
        rw [sum_cast]
        refine k _ _ sm2 ?_
        rw [isnum_dig]
        constructor
        · intro z
          have z' : ((ds.sum : Nat) : Int) ≤ 24 := of_decide_eq_true z
          exact ⟨by omega, by omega, dig, by omega⟩
        · intro N
          exact decide_eq_true (show ((ds.sum : Nat) : Int) ≤ 24 by have := N.sum; omega)
end
end K11

namespace K11
open PySem L2 Wm TL Dv
section
variable {P : Program} {w : World} {K : PySem.W.Frag} {mg : Str → Option Value} {base : Heap}
theorem ok_check_number (T : Txt K mg) : FnOk P w K mg base (L2.CX P w) 3 T.a_check_number T.d_check_number ["thing"] (sp_check_number K T.CN) := by
  refine T.F_check_number.okX sc_check_number (fun vs H Q E h => ?_) (fun cdv A outer s H vs Q E hr h => ?_)
  · obtain ⟨x, d, rfl, _⟩ := h
    rfl
  · obtain ⟨x, d, rfl, ob, kS, kE⟩ := h
    refine ⟨_, (pss_one (ps_if (pt_not (pt_val (pe_call (ok_is_number T) (hr.mono (by decide)) (by rfl) T.g_is_number T.F_is_number.kp T.b_is_number .nil pass0 (pa_cons (pv 0) pa_nil))))
        (pss_one (ps_raiseLow rfl T.low hr (takes_of rfl rfl rfl rfl) (by exact (pa_cons (pv 0) pa_nil))))
        pss_nil)), ?_⟩
    refine ⟨_, rfl, x, d, rfl, ob, fun H1 b s1 hb => ⟨b, rfl, ?_⟩⟩
    cases b with
    | true => exact iteF (kS (hb.mp rfl) _ s1)
    | false =>
      refine iteT ?_
      exact ⟨_, rfl, _, rfl, fun dd hdd => kE (fun z => by have := hb.mpr z; cases this) _ dd (s1.trans (same_new hdd)) upd_same⟩
theorem ok_blocks (T : Txt K mg) : FnOk P w K mg base (L2.CX P w) 4 T.a_blocks T.d_blocks ["number"] (sp_blocks K T.CN) := by
  refine T.F_blocks.okX sc_blocks (fun vs H Q E h => ?_) (fun cdv A outer s H vs Q E hr h => ?_)
  · obtain ⟨x, d, rfl, _⟩ := h
    rfl
  · obtain ⟨x, d, rfl, ob, kS, kE⟩ := h
    refine ⟨_, (pss_cons (ps_expr (pe_callS (ok_check_number T) (hr.mono (by decide)) rfl T.g_check_number T.F_check_number.kp T.b_check_number (fun σ => passAt (takes_of rfl rfl rfl rfl) σ) (by exact (pa_cons (pv 0) pa_nil))))
      (pss_one (ps_ret (pe_callTy call_tuple_of (by rfl) T.z_tuple (by decide +kernel) (pa_cons (pe_lc (own := [("letter", 1)]) (g := gName 1) (tt := tYes) rfl sc_blocks.nd (pi_str (pv 0)) (blkOk_by (own := [("letter", 1)]) (N := nm_blocks) (sc := (defScope s_blocks)) (by decide +kernel)) (fun _ _ _ _ _ => pg_name (i := 1) sc_blocks.nd rfl (Or.inl rfl)) (fun _ _ _ _ _ => pts_nil) (fun _ _ _ _ _ => (pe_callTy call_int_str (by rfl) T.z_int (by decide +kernel) (pa_cons (pv 1) pa_nil)))) pa_nil))))), ?_⟩
    refine ⟨_, rfl, x, d, rfl, ob, fun isn H1 s1 => ?_, fun n => kE n⟩
    obtain ⟨ds, N, rfl⟩ := isn
    have k := kS ds N rfl
    have hlen := N.len
    refine ⟨_, rfl, _, rfl, fun D hD => ?_⟩
    refine lc_it walk_str (fun i H' => Same H1 H' ∧ H' D = some (.lst ((ds.take i).map fun (d : Nat) => V.int (d : Int)))) ⟨same_new hD, upd_same⟩ (fun _ _ _ _ => trivial) (fun i x H2 H' hi hP hY => ?_) (fun H2 hP => ?_)
    · obtain ⟨sm2, hl2⟩ := hP
      obtain ⟨rfl, c, hc, rfl⟩ := hY
      rw [numS_size] at hi
      rw [numS_at ds i hi] at hc
      have hc' := (Option.some.inj hc).symm
      subst hc'
      refine ⟨rfl, yesT ?_⟩
      refine ⟨_, rfl, _, _, rfl, dig_int (N.dig _ (List.getElem_mem hi)), (by show 1 ≤ 640; decide), _, hl2, by rw [List.length_map, List.length_take]; exact small1000 (by omega), ?_⟩
      refine ⟨same_mut sm2 hD, ?_⟩
      rw [upd_same, take_succ_map _ (List.getElem?_eq_getElem hi)]
    · obtain ⟨sm2, hl2⟩ := hP
      rw [numS_size, List.take_length] at hl2
      refine ⟨D, _, rfl, .inl ⟨SqL.of hl2, fun p hp => ?_⟩⟩
      exact k _ p ((s1.trans sm2).trans (same_new hp)) ((s1.trans sm2).free hp) upd_same
theorem ok_row_of (T : Txt K mg) : FnOk P w K mg base (L2.CX P w) 5 T.a_row_of T.d_row_of ["number"] (sp_row_of K T.CN) := by
  refine T.F_row_of.okX sc_row_of (fun vs H Q E h => ?_) (fun cdv A outer s H vs Q E hr h => ?_)
  · obtain ⟨x, d, rfl, _⟩ := h
    rfl
  · obtain ⟨x, d, rfl, ob, kS, kE⟩ := h
    refine ⟨_, (pss_cons (ps_set (i := 1) sc_row_of.nd rfl (Or.inl rfl) (pe_lst pa_nil))
      (pss_cons (ps_for (passes_of rfl) rfl (pi_tup (pe_callS (ok_blocks T) (hr.mono (by decide)) rfl T.g_blocks T.F_blocks.kp T.b_blocks (fun σ => passAt (takes_of rfl rfl rfl rfl) σ) (by exact (pa_cons (pv 0) pa_nil)))) (pg_name (i := 2) sc_row_of.nd rfl (Or.inl rfl))
        (pss_cons (ps_expr (pe_bm PySem.F.plainAttrs_list PySem.F.slot_list_extend PySem.F.type_list_extend mt_extend (pv 1) (pa_cons (pe_op op_rep (pe_lst (pa_cons pe_int (pa_cons pe_int pa_nil))) (pv 2)) pa_nil)))
        (pss_one (ps_expr (pe_bm PySem.F.plainAttrs_list PySem.F.slot_list_extend PySem.F.type_list_extend mt_extend (pv 1) (pa_cons (pe_lst (pa_cons pe_int (pa_cons pe_int pa_nil))) pa_nil))))))
      (pss_cons (ps_expr (pe_bm PySem.F.plainAttrs_list PySem.F.slot_list_extend PySem.F.type_list_extend mt_extend (pv 1) (pa_cons (pe_lst (pa_cons pe_int (pa_cons pe_int pa_nil))) pa_nil)))
      (pss_one (ps_ret (pe_callTy call_tuple_of (by rfl) T.z_tuple (by decide +kernel) (pa_cons (pv 1) pa_nil))))))), ?_⟩
    refine ⟨Nat.zero_le _, fun r hr0 => ?_⟩
    refine ⟨_, rfl, x, d, rfl, ob.keep (same_new hr0), fun ds N e H1 t s1 ht0 ht => ?_, fun n => (kE n).after (same_new hr0)⟩
    subst e
    have k := kS ds N rfl
    have hlen := N.len
    have hrt : r ≠ t := fun e => by
      rw [e] at hr0
      have := ne_of_none (upd_same (H := H) (a := r) (o := .lst [])) ht0
      exact this e
    have hr1 : H1 r = some (.lst []) := s1 _ _ upd_same
    have sH : Same H H1 := (same_new hr0).trans s1
    refine ⟨t, rfl, ⟨_, SqT.of ht⟩, ?_⟩
    refine for_tup (xs := ds.map fun (d : Nat) => V.int (d : Int)) (fun i σ H2 => ∃ v, σ = [some (.str (numS ds)), some (.ref r), v] ∧ Same H H2 ∧ H2 t = some (.tup (ds.map fun (d : Nat) => V.int (d : Int))) ∧ H2 r = some (.lst ((Wm.pre (ds.take i)).map V.int)))
      ⟨_, rfl, sH, ht, hr1⟩ (fun i σ H2 _ hP => ?_) (fun i x σ H2 hx hP => ?_) (fun σ H2 hP => ?_)
    · obtain ⟨v, rfl, _, h2, _⟩ := hP
      exact SqT.of h2
    · obtain ⟨v, rfl, sm, h2, h3⟩ := hP
      have hi : i < ds.length := by
        have := (List.getElem?_eq_some_iff.mp hx).1
        rw [List.length_map] at this
        exact this
      have ex : x = .int (ds[i] : Nat) := by
        rw [List.getElem?_map, List.getElem?_eq_getElem hi] at hx
        exact (Option.some.inj hx).symm
      subst ex
      have hd := N.dig _ (List.getElem_mem hi)
      have hp9 := pre_le (ds.take i) fun d m => (N.dig d (List.mem_of_mem_take m)).2
      rw [List.length_take] at hp9
      have hrn : H r = none := hr0
      -- row.extend([1, 0] * strokes)
      refine ⟨.ref r, rfl, .inl ⟨rfl, _, SqL.of h3⟩, by decide, fun a ha => ?_⟩
      refine ⟨_, rfl, a, _, _, rfl, rfl, upd_same, by omega, by omega, by rw [Int.toNat_natCast]; show 2 * ds[i] ≤ _; exact Nat.le_of_lt (small1000 (by omega)), fun b hb => ?_⟩
      rw [Int.toNat_natCast, blk_V]
      have ra : r ≠ a := ne_of_none h3 ha
      have rb : r ≠ b := ne_of_none (at_old h3 ha) hb
      refine ⟨r, b, _, _, rfl, rfl, at_old (at_old h3 ha) hb, upd_same, ?_, ?_⟩
      · rw [List.length_map, List.length_map, blk_len]
        exact Nat.le_of_lt (small1000 (by omega))
      -- row.extend([0, 0])
      have h4 : upd (upd (upd H2 a (.lst [.int 1, .int 0])) b (.lst ((blk ds[i]).map V.int))) r (.lst ((Wm.pre (ds.take i)).map V.int ++ (blk ds[i]).map V.int)) r = some (.lst ((Wm.pre (ds.take i)).map V.int ++ (blk ds[i]).map V.int)) := upd_same
      refine ⟨.ref r, rfl, .inl ⟨rfl, _, SqL.of h4⟩, by decide, fun c hc => ?_⟩
      refine ⟨r, c, _, _, rfl, rfl, at_old h4 hc, upd_same, ?_, ?_⟩
      · rw [List.length_append, List.length_map, List.length_map, blk_len]
        exact Nat.le_of_lt (small1000 (by simp only [List.length_cons, List.length_nil]; omega))
      refine ⟨_, rfl, ?_, ?_, ?_⟩
      · have s2 : Same H2 (upd (upd H2 a (.lst [.int 1, .int 0])) b (.lst ((blk ds[i]).map V.int))) := (same_new ha).trans (same_new hb)
        have s3 : Same H (upd (upd (upd H2 a (.lst [.int 1, .int 0])) b (.lst ((blk ds[i]).map V.int))) r (.lst ((Wm.pre (ds.take i)).map V.int ++ (blk ds[i]).map V.int))) := same_mut (sm.trans s2) hrn
        exact same_mut (s3.trans (same_new hc)) hrn
      · rw [upd_ne hrt.symm]
        refine at_old ?_ hc
        rw [upd_ne hrt.symm]
        exact at_old (at_old h2 ha) hb
      · rw [upd_same, take_succ_app (List.getElem?_eq_getElem hi), pre_app]
        simp only [List.map_append, List.append_assoc]
        rfl
    · obtain ⟨v, rfl, sm, h2, h3⟩ := hP
      rw [List.length_map, List.take_length] at h3
      have hp9 := pre_le ds fun d m => (N.dig d m).2
      refine ⟨.ref r, rfl, .inl ⟨rfl, _, SqL.of h3⟩, by decide, fun a ha => ?_⟩
      refine ⟨r, a, _, _, rfl, rfl, at_old h3 ha, upd_same, ?_, ?_⟩
      · rw [List.length_map]
        exact Nat.le_of_lt (small1000 (by simp only [List.length_cons, List.length_nil]; omega))
      refine ⟨.ref r, rfl, r, _, rfl, .inl ⟨SqL.of upd_same, fun p hp => ?_⟩⟩
      have s2 : Same H (upd (upd H2 a (.lst [.int 0, .int 0])) r (.lst ((Wm.pre ds).map V.int ++ [.int 0, .int 0]))) := same_mut (sm.trans (same_new ha)) hr0
      refine k _ p (s2.trans (same_new hp)) (s2.free hp) ?_
      rw [upd_same, ← pre_row ds, List.map_append]
      rfl
theorem ok_length_of (T : Txt K mg) : FnOk P w K mg base (L2.CX P w) 5 T.a_length_of T.d_length_of ["number"] (sp_length_of K T.CN) := by
  refine T.F_length_of.okX sc_length_of (fun vs H Q E h => ?_) (fun cdv A outer s H vs Q E hr h => ?_)
  · obtain ⟨x, d, rfl, _⟩ := h
    rfl
  · obtain ⟨x, d, rfl, ob, kS, kE⟩ := h
    refine ⟨_, (pss_cons (ps_set (i := 1) sc_length_of.nd rfl (Or.inl rfl) (pe_callS (ok_blocks T) (hr.mono (by decide)) rfl T.g_blocks T.F_blocks.kp T.b_blocks (fun σ => passAt (takes_of rfl rfl rfl rfl) σ) (by exact (pa_cons (pv 0) pa_nil))))
      (pss_one (ps_ret (pe_op op_mul pe_int (pe_op op_add (pe_op op_add (pe_callB (Hf.cr_sumA rfl) (by rfl) T.z_sum (by decide +kernel) (pa_cons (pv 1) pa_nil)) (pe_callB call_len_seq (by rfl) T.z_len PySem.boot_len (pa_cons (pv 1) pa_nil))) pe_int))))), ?_⟩
    refine ⟨_, rfl, x, d, rfl, ob, fun ds N e H1 p s1 p0 hp => ?_, fun n => kE n⟩
    subst e
    have k := kS ds N rfl
    have hlen := N.len
    have hs := N.sum
    refine ⟨_, rfl, p, ds.map fun (d : Nat) => (d : Int), rfl, .inr (SqT.of (by rw [hp, List.map_map]; rfl)), ?_⟩
    rw [sum_cast]
    refine ⟨_, rfl, p, _, rfl, .inr (SqT.of hp), _, _, rfl, rfl, _, _, rfl, rfl, 2, _, rfl, rfl, .inl ⟨by decide, by decide⟩, ?_⟩
    have e : (2 : Int) * (((ds.sum : Nat) : Int) + (((ds.map fun (d : Nat) => V.int (d : Int)).length : Nat) : Int) + 1) = (((rowL ds).length : Nat) : Int) := by
      rw [row_sum, List.length_map]
      omega
    show Q (V.int ((2 : Int) * (((ds.sum : Nat) : Int) + (((ds.map fun (d : Nat) => V.int (d : Int)).length : Nat) : Int) + 1))) H1
    rw [e]
    exact k _ s1
end
end K11

namespace K11
open PySem L2 Wm TL Dv
section
variable {P : Program} {w : World} {K : PySem.W.Frag} {mg : Str → Option Value} {base : Heap}
theorem cut_some (ns : List Int) (hi : Option Int) : ∃ m, cutV (ns.map V.int) none hi = (ns.take m).map V.int := by
  refine ⟨HT.sIx (ns.map V.int).length (ns.map V.int).length hi - HT.sIx (ns.map V.int).length 0 none, ?_⟩
  unfold cutV
  rw [HT.sIx_none, List.drop_zero, List.map_take]
theorem ok_bag (T : Txt K mg) : FnOk P w K mg base CX0 1 T.a_bag T.d_bag ["_law_script"] (sp_bag K) := by
  refine T.F_bag.ok sc_bag (fun vs H Q E h => ?_) (fun cdv A outer s H vs Q E hr h => ?_)
  · obtain ⟨a, ns, rfl, _⟩ := h
    rfl
  · obtain ⟨a, ns, rfl, hS, hlen, k⟩ := h
    refine ⟨_, (pss_cons (ps_setLc (i := 1) (own := [("_law_cell", 2)]) (g := gName 2) (tt := tYes) rfl sc_bag.nd rfl rfl (sw_true rfl rfl rfl (by decide +kernel)) (pi_list (pe_slice sl_list (pv 0) po_none (po_some pe_int))) (blkOk_by (own := [("_law_cell", 2)]) (N := nm_bag) (sc := (defScope s_bag)) (by decide +kernel)) (fun _ _ _ _ _ => pg_name (i := 2) sc_bag.nd rfl (Or.inl rfl)) (fun _ _ _ _ _ => pts_nil) (fun _ _ _ _ _ => (pe_ifExp (pt_cmpR op_ge (pv 2) pe_int (nomark _)) (pv 2) (pe_op op_sub pe_int (pv 2)))))
      (pss_one (ps_ret (pe_lst (pa_cons pe_int (pa_cons (pv 1) (pa_cons pe_int (pa_cons pe_int (pa_cons pe_int pa_nil))))))))), ?_⟩
    refine ⟨.ref a, rfl, 63, rfl, a, _, rfl, hS, fun p hp => ?_⟩
    obtain ⟨m, em⟩ := cut_some ns (some 63)
    rw [em]
    have hml : (ns.take m).length ≤ 63 := by rw [List.length_take]; omega
    generalize ns.take m = ms at hml
    refine ⟨p, rfl, ⟨_, SqL.of upd_same⟩, fun D hD => ?_⟩
    refine lc_list (xs := ms.map V.int) (fun i H' => Same (upd H p (.lst (ms.map V.int))) H' ∧ ∃ qs : List Int, qs.length = i ∧ H' D = some (.lst (qs.map V.int))) ⟨same_new hD, [], rfl, upd_same⟩ (fun i H2 _ hP => SqL.of (hP.1 _ _ upd_same)) (fun i x H2 hx hP => ?_) (fun H2 hP => ?_)
    · obtain ⟨sm, qs, eq, hq⟩ := hP
      have hi : i < ms.length := by
        have := (List.getElem?_eq_some_iff.mp hx).1
        rw [List.length_map] at this
        exact this
      have ex : x = .int ms[i] := by
        rw [List.getElem?_map, List.getElem?_eq_getElem hi] at hx
        exact (Option.some.inj hx).symm
      subst ex
      have small : (qs.map V.int).length < sizeLine := by rw [List.length_map]; exact small1000 (by omega)
      refine ⟨rfl, yesT ?_⟩
      refine ⟨_, rfl, _, _, rfl, rfl, _, rfl, ite2 (fun _ => ?_) (fun _ => ?_)⟩
      · exact ⟨_, rfl, _, hq, small, same_mut sm hD, qs ++ [ms[i]], by rw [List.length_append, eq]; rfl, by rw [upd_same, List.map_append]; rfl⟩
      · exact ⟨_, rfl, _, _, rfl, rfl, _, hq, small, same_mut sm hD, qs ++ [1 - ms[i]], by rw [List.length_append, eq]; rfl, by rw [upd_same, List.map_append]; rfl⟩
    · obtain ⟨sm, qs, eq, hq⟩ := hP
      refine ⟨_, rfl, by show 5 ≤ sizeLine; decide, fun b hb => ?_⟩
      refine k _ b (((same_new hp).trans sm).trans (same_new hb)) ⟨D, 0, 0, 0, 20261, qs, upd_same, at_old hq hb, by decide, by decide, by decide⟩
end
end K11

namespace K11
open PySem L2 Wm TL Dv
section
variable {P : Program} {w : World} {K : PySem.W.Frag} {mg : Str → Option Value} {base : Heap}
theorem fmod_in {x l : Int} (h : 0 < l) : 0 ≤ x.fmod l ∧ x.fmod l < l := by
  rw [Int.fmod_eq_emod_of_nonneg x (Int.le_of_lt h)]
  exact ⟨Int.emod_nonneg x (by omega), Int.emod_lt_of_pos x h⟩
theorem ok_draw (T : Txt K mg) : FnOk P w K mg base CX0 1 T.a_draw T.d_draw ["_law_bag_here", "_law_limit"] (sp_draw K) := by
  refine T.F_draw.ok sc_draw (fun vs H Q E h => ?_) (fun cdv A outer s H vs Q E hr h => ?_)
  · obtain ⟨b, n, lim, rfl, _⟩ := h
    rfl
  · obtain ⟨b, n, lim, rfl, l0, l1, ⟨c, x, k, m, z, ns, hb, hc, k0, m0, mn⟩, hn, kk⟩ := h
    have hcb := bag_ne hb hc
    refine ⟨_, (C8.pss_cut (ps_if (PW.pt (pw_and (pt_cmpR op_lt (pe_ix ix_list (pv 0) pe_int (fun _ _ => rfl)) (pe_op op_pow pe_int pe_int) (nomark _)) (pw_and1 (pt_cmpR op_lt (pe_ix ix_list (pv 0) pe_int (fun _ _ => rfl)) (pe_callB call_len_seq (by rfl) T.z_len PySem.boot_len (pa_cons (pe_ix ix_list (pv 0) pe_int (fun _ _ => rfl)) pa_nil)) (nomark _)))))
        (pss_cons (ps_asg (pe_ix ix_list (pe_ix ix_list (pv 0) pe_int (fun _ _ => rfl)) (pe_ix ix_list (pv 0) pe_int (fun _ _ => rfl)) (fun _ _ => rfl)) (pg_sub (pv 0) pe_int set_list))
        (pss_one (ps_asg (pe_op op_add (pe_ix ix_list (pv 0) pe_int (fun _ _ => rfl)) pe_int) (pg_sub (pv 0) pe_int set_list))))
        pss_nil)
      (pss_cons (ps_if (pt_cmpR op_ge (pe_ix ix_list (pv 0) pe_int (fun _ _ => rfl)) (pe_op op_pow pe_int pe_int) (nomark _))
        (pss_cons (ps_set (i := 2) sc_draw.nd rfl (Or.inl rfl) (pe_op op_modN (pe_callTy call_int1 (by rfl) T.z_int (by decide +kernel) (pa_cons (pe_ix ix_list (pv 0) pe_int (fun _ _ => rfl)) pa_nil)) (pv 1)))
        (pss_cons (ps_asg (pe_op op_fdivN (pe_callTy call_int1 (by rfl) T.z_int (by decide +kernel) (pa_cons (pe_ix ix_list (pv 0) pe_int (fun _ _ => rfl)) pa_nil)) (pv 1)) (pg_sub (pv 0) pe_int set_list))
        (pss_one (ps_ret (pv 2)))))
        pss_nil)
      (pss_cons (ps_asg (pe_op op_add (pe_ix ix_list (pv 0) pe_int (fun _ _ => rfl)) pe_int) (pg_sub (pv 0) pe_int set_list))
      (pss_cons (ps_asg (pe_op op_modN (pe_callTy call_int1 (by rfl) T.z_int (by decide +kernel) (pa_cons (pe_op op_add (pe_op op_add (pe_op op_mul (pe_ix ix_list (pv 0) pe_int (fun _ _ => rfl)) pe_int) (pe_op op_mul (pe_op op_modN (pe_callTy call_int1 (by rfl) T.z_int (by decide +kernel) (pa_cons (pe_ix ix_list (pv 0) pe_int (fun _ _ => rfl)) pa_nil)) pe_int) pe_int)) (pe_op op_mul (pe_ix ix_list (pv 0) pe_int (fun _ _ => rfl)) pe_int)) pa_nil)) pe_int) (pg_sub (pv 0) pe_int set_list))
      (pss_one (ps_ret (pe_op op_modN (pe_op op_fdivN (pe_op op_modN (pe_callTy call_int1 (by rfl) T.z_int (by decide +kernel) (pa_cons (pe_op op_add (pe_op op_mul (pe_ix ix_list (pv 0) pe_int (fun _ _ => rfl)) pe_int) (pe_op op_mul (pe_ix ix_list (pv 0) pe_int (fun _ _ => rfl)) (pe_ix ix_list (pv 0) pe_int (fun _ _ => rfl)))) pa_nil)) pe_int) pe_int) (pv 1)))))))), ?_⟩
    refine ⟨fun σ H1 => ∃ x k : Int, σ = [some (.ref b), some (.int lim), none] ∧ 0 ≤ k ∧ But b H H1 ∧ H1 b = some (.lst [.int x, .ref c, .int k, .int m, .int z]), ?_, ?_⟩
    · refine ⟨_, rfl, b, _, 0, _, rfl, rfl, SqL.of hb, atI_nat (j := 0) rfl, _, _, rfl, rfl, ⟨by decide, by decide, by decide⟩, _, _, rfl, rfl, _, rfl, ite2 (fun h1 => ?_) (fun h1 => ?_)⟩
      · refine ⟨_, rfl, b, _, 2, _, rfl, rfl, SqL.of hb, atI_nat (j := 2) rfl, _, rfl, b, _, 1, _, rfl, rfl, SqL.of hb, atI_nat (j := 1) rfl, c, _, rfl, .inl (SqL.of hc), _, _, rfl, rfl, _, rfl, ite2 (fun h2 => ?_) (fun h2 => ?_)⟩
        · have h3 := of_decide_eq_true h2
          rw [List.length_map] at h3
          have h4 : k.toNat < ns.length := by omega
          have g : (ns.map V.int)[k.toNat]? = some (.int ns[k.toNat]) := by rw [List.getElem?_map, List.getElem?_eq_getElem h4]; rfl
          refine ⟨_, rfl, b, _, 1, _, rfl, rfl, SqL.of hb, atI_nat (j := 1) rfl, _, rfl, b, _, 2, _, rfl, rfl, SqL.of hb, atI_nat (j := 2) rfl, c, _, k, _, rfl, rfl, SqL.of hc, at_of (by omega) g, ?_⟩
          refine ⟨_, rfl, b, _, 0, 0, rfl, rfl, hb, rfl, ?_⟩
          refine ⟨_, rfl, b, _, 2, _, rfl, rfl, SqL.of upd_same, atI_nat (j := 2) rfl, _, _, rfl, rfl, ?_⟩
          refine ⟨_, rfl, b, _, 2, 2, rfl, rfl, upd_same, rfl, ?_⟩
          exact ⟨_, _, rfl, by omega, But.trans (But.set hb) (But.set upd_same), upd_same⟩
        · exact ⟨x, k, rfl, k0, But.refl _ _, hb⟩
      · exact ⟨x, k, rfl, k0, But.refl _ _, hb⟩
    · rintro σ H1 ⟨x, k, rfl, k0, but, hb⟩
      have hc1 : H1 c = some (.lst (ns.map V.int)) := but _ _ hcb hc
      refine ⟨_, rfl, b, _, 0, _, rfl, rfl, SqL.of hb, atI_nat (j := 0) rfl, _, _, rfl, rfl, ⟨by decide, by decide, by decide⟩, _, _, rfl, rfl, _, rfl, ite2 (fun h1 => ?_) (fun h1 => ?_)⟩
      · refine ⟨_, rfl, b, _, 0, _, rfl, rfl, SqL.of hb, atI_nat (j := 0) rfl, .inl ⟨_, rfl, _, rfl, _, _, rfl, rfl, by omega, ?_⟩⟩
        refine ⟨_, rfl, b, _, 0, _, rfl, rfl, SqL.of hb, atI_nat (j := 0) rfl, .inl ⟨_, rfl, _, rfl, _, _, rfl, rfl, ⟨by omega, by omega⟩, ?_⟩⟩
        refine ⟨_, rfl, b, _, 0, 0, rfl, rfl, hb, rfl, ?_⟩
        refine ⟨_, rfl, kk _ _ (fmod_in l0).1 (fmod_in l0).2 ⟨c, _, k, m, z, ns, upd_same, ?_, k0, m0, by omega⟩ (but.trans (But.set hb))⟩
        rw [upd_ne hcb]
        exact hc1
      · refine ⟨_, rfl, b, _, 3, _, rfl, rfl, SqL.of hb, atI_nat (j := 3) rfl, _, _, rfl, rfl, ?_⟩
        refine ⟨_, rfl, b, _, 3, 3, rfl, rfl, hb, rfl, ?_⟩
        -- the two reckonings
        refine ⟨_, rfl, b, _, 4, _, rfl, rfl, SqL.of upd_same, atI_nat (j := 4) rfl, _, _, rfl, rfl, .inr ⟨by decide, by decide⟩, ?_⟩
        refine ⟨_, rfl, b, _, 0, _, rfl, rfl, SqL.of upd_same, atI_nat (j := 0) rfl, .inl ⟨_, rfl, _, _, rfl, rfl, by omega, _, _, rfl, rfl, .inr ⟨by decide, by decide⟩, _, _, rfl, rfl, ?_⟩⟩
        refine ⟨_, rfl, b, _, 3, _, rfl, rfl, SqL.of upd_same, atI_nat (j := 3) rfl, _, _, rfl, rfl, .inr ⟨by decide, by decide⟩, _, _, rfl, rfl, .inl ⟨_, rfl, _, _, rfl, rfl, by omega, ?_⟩⟩
        refine ⟨_, rfl, b, _, 4, 4, rfl, rfl, upd_same, rfl, ?_⟩
        refine ⟨_, rfl, b, _, 4, _, rfl, rfl, SqL.of upd_same, atI_nat (j := 4) rfl, _, _, rfl, rfl, .inr ⟨by decide, by decide⟩, ?_⟩
        refine ⟨_, rfl, b, _, 3, _, rfl, rfl, SqL.of upd_same, atI_nat (j := 3) rfl, _, rfl, b, _, 3, _, rfl, rfl, SqL.of upd_same, atI_nat (j := 3) rfl, _, _, rfl, rfl, .inl ⟨by omega, by omega⟩, _, _, rfl, rfl, .inl ⟨_, rfl, _, _, rfl, rfl, by omega, _, _, rfl, rfl, ⟨by decide, by decide⟩, _, rfl, _, _, rfl, rfl, by omega, ?_⟩⟩
        refine kk _ _ (fmod_in l0).1 (fmod_in l0).2 ⟨c, x, k, m + 1, _, ns, upd_same, ?_, k0, by omega, by omega⟩ ((but.trans (But.set hb)).trans (But.set upd_same))
        rw [upd_ne hcb, upd_ne hcb]
        exact hc1
end
end K11

namespace K11
open PySem L2 Wm TL Dv
section
variable {P : Program} {w : World} {K : PySem.W.Frag} {mg : Str → Option Value} {base : Heap}
theorem dig_log {d : Nat} (h : 1 ≤ d ∧ d ≤ 9) : ((d : Int)).natAbs.log2 < 1920 := by
  rcases dig_cases h with e | e | e | e | e | e | e | e | e <;> subst e <;> decide +kernel
theorem top_at {way : Int} (h0 : 0 ≤ way) (h1 : way < 6) : ∃ top : Int, atI [V.int 3, V.int 3, V.int 3, V.int 3, V.int 9, V.int 9] way = some (.int top) ∧ 3 ≤ top ∧ top ≤ 9 := by
  have c : way = 0 ∨ way = 1 ∨ way = 2 ∨ way = 3 ∨ way = 4 ∨ way = 5 := by omega
  rcases c with e | e | e | e | e | e <;> subst e
  · exact ⟨3, rfl, by decide, by decide⟩
  · exact ⟨3, rfl, by decide, by decide⟩
  · exact ⟨3, rfl, by decide, by decide⟩
  · exact ⟨3, rfl, by decide, by decide⟩
  · exact ⟨9, rfl, by decide, by decide⟩
  · exact ⟨9, rfl, by decide, by decide⟩
theorem sum_snoc (ds : List Nat) (d : Nat) : (ds ++ [d]).sum = ds.sum + d := by
  rw [List.sum_append]
  simp
theorem len_snoc (ds : List Nat) (d : Nat) : (ds ++ [d]).length = ds.length + 1 := by simp
theorem dig_snoc {ds : List Nat} {d : Nat} (h : ∀ y ∈ ds, 1 ≤ y ∧ y ≤ 9) (g : 1 ≤ d ∧ d ≤ 9) : ∀ y ∈ ds ++ [d], 1 ≤ y ∧ y ≤ 9 := fun y m => by
  rcases List.mem_append.mp m with m | m
  · exact h y m
  · rw [List.mem_singleton.mp m]
    exact g
theorem ok_number (T : Txt K mg) : FnOk P w K mg base CX0 2 T.a_number T.d_number ["_law_bag_here"] (sp_number K) := by
  refine T.F_number.ok sc_number (fun vs H Q E h => ?_) (fun cdv A outer s H vs Q E hr h => ?_)
  · obtain ⟨b, n, rfl, _⟩ := h
    rfl
  · obtain ⟨b, n, rfl, hbag, hn, kk⟩ := h
    refine ⟨_, (pss_cons (ps_set (i := 1) sc_number.nd rfl (Or.inl rfl) (pe_op op_add pe_int (pe_call (ok_draw T) (hr.mono (by decide)) (by rfl) T.g_draw T.F_draw.kp T.b_draw .nil pass0 (pa_cons (pv 0) (pa_cons pe_int pa_nil)))))
      (pss_cons (ps_set (i := 2) sc_number.nd rfl (Or.inl rfl) (pe_call (ok_draw T) (hr.mono (by decide)) (by rfl) T.g_draw T.F_draw.kp T.b_draw .nil pass0 (pa_cons (pv 0) (pa_cons pe_int pa_nil))))
      (pss_cons (ps_set (i := 3) sc_number.nd rfl (Or.inl rfl) (pe_ix ix_list (pe_lst (pa_cons pe_int (pa_cons pe_int (pa_cons pe_int (pa_cons pe_int (pa_cons pe_int (pa_cons pe_int pa_nil))))))) (pv 2) (fun _ _ => rfl)))
      (pss_cons (ps_set (i := 4) sc_number.nd rfl (Or.inl rfl) pe_str)
      (pss_cons (ps_set (i := 5) sc_number.nd rfl (Or.inl rfl) pe_int)
      (pss_cons (ps_for PassesOwn.never rfl (pi_range1 (by rfl) T.z_range (pa_cons (pv 1) pa_nil)) (pg_name (i := 6) sc_number.nd rfl (Or.inl rfl))
        (pss_cons (ps_set (i := 7) sc_number.nd rfl (Or.inl rfl) (pe_op op_add pe_int (pe_call (ok_draw T) (hr.mono (by decide)) (by rfl) T.g_draw T.F_draw.kp T.b_draw .nil pass0 (pa_cons (pv 0) (pa_cons (pe_callB (call_min2 rfl) (by rfl) T.z_min (by decide +kernel) (pa_cons (pv 3) (pa_cons (pe_op op_sub (pv 5) (pe_op op_sub (pe_op op_sub (pv 1) pe_int) (pv 6))) pa_nil))) pa_nil)))))
        (C8.pss_cut (ps_if (PW.pt (pw_and (pt_cmpR op_eq (pv 2) pe_int (nomark _)) (pw_and1 (pt_cmpR op_eq (pv 6) (pe_op op_sub (pv 1) pe_int) (nomark _)))))
          (pss_one (ps_set (i := 7) sc_number.nd rfl (Or.inl rfl) (pe_callB (call_min2 rfl) (by rfl) T.z_min (by decide +kernel) (pa_cons pe_int (pa_cons (pv 5) pa_nil)))))
          pss_nil)
        (pss_cons (ps_set (i := 4) sc_number.nd rfl (Or.inl rfl) (pe_op op_add_str (pv 4) (pe_callTy call_str_int (by rfl) T.z_str (by decide +kernel) (pa_cons (pv 7) pa_nil))))
        (pss_one (ps_set (i := 5) sc_number.nd rfl (Or.inl rfl) (pe_op op_sub (pv 5) (pv 7))))))))
      (pss_one (ps_ret (pv 4))))))))), ?_⟩
    refine ⟨_, rfl, b, n, 4, rfl, by decide, by decide, hbag, by omega, fun H1 d1 g0 g1 bag1 but1 => ?_⟩
    refine ⟨_, _, rfl, rfl, ?_⟩
    refine ⟨_, rfl, b, n + 1, 6, rfl, by decide, by decide, bag1, by omega, fun H2 way w0 w1 bag2 but2 => ?_⟩
    obtain ⟨top, et, t3, t9⟩ := top_at w0 w1
    refine ⟨by show 6 ≤ sizeLine; decide, fun t ht => ?_⟩
    refine ⟨_, rfl, t, _, _, _, rfl, rfl, SqL.of upd_same, et, ?_⟩
    have bag3 := bag2.keep (same_new (o := .lst [V.int 3, V.int 3, V.int 3, V.int 3, V.int 9, V.int 9]) ht)
    have but3 : But b H (upd H2 t (.lst [V.int 3, V.int 3, V.int 3, V.int 3, V.int 9, V.int 9])) := (but1.trans but2).trans (But.of (same_new ht))
    obtain ⟨many, em⟩ : ∃ many : Nat, (1 : Int) + d1 = (many : Nat) := ⟨(1 + d1).toNat, by omega⟩
    try dsimp only
    rw [em]
    have m1 : 1 ≤ many := by omega
    have m4 : many ≤ 4 := by omega
    refine ⟨_, rfl, _, rfl, by omega, by omega, ?_⟩
    rw [Int.toNat_natCast]
    refine for_range (fun i σ H' => ∃ (ds : List Nat) (vk vd : Option V), σ = [some (.ref b), some (.int (many : Nat)), some (.int way), some (.int top), some (.str (numS ds)), some (.int (24 - (ds.sum : Nat))), vk, vd] ∧
      ds.length = i ∧ (∀ d ∈ ds, 1 ≤ d ∧ d ≤ 9) ∧ ds.sum + (many - i) ≤ 24 ∧ Bag H' b (n + 2 + i) ∧ But b H H')
      ⟨[], none, none, by rw [numS_nil]; rfl, rfl, fun _ m => absurd m (List.not_mem_nil), by show 0 + (many - 0) ≤ 24; omega, bag3, but3⟩ (fun i σ H' hi hP => ?_) (fun σ H' hP => ?_)
    · obtain ⟨ds, vk, vd, rfl, el, hd, hs, bag, but⟩ := hP
      have eL : ((24 : Int) - (ds.sum : Nat)) - ((many : Nat) - 1 - (0 + (i : Nat))) = ((24 - ds.sum - (many - 1 - i) : Nat) : Int) := by omega
      -- the digit's draw
      refine ⟨_, rfl, _, rfl, _, rfl, _, rfl, _, _, rfl, rfl, _, rfl, _, _, rfl, rfl, _, _, rfl, rfl, _, _, rfl, ?_⟩
      (try dsimp only; rw [eL])
      generalize hlim : (if ((24 - ds.sum - (many - 1 - i) : Nat) : Int) < top then ((24 - ds.sum - (many - 1 - i) : Nat) : Int) else top) = lim
      have lim1 : 1 ≤ lim ∧ lim ≤ 9 ∧ lim ≤ ((24 - ds.sum - (many - 1 - i) : Nat) : Int) := by
        rw [← hlim]
        split <;> omega
      refine ⟨b, n + 2 + i, lim, rfl, by omega, by omega, bag, by omega, fun H3 g q0 q1 bag4 but4 => ?_⟩
      refine ⟨_, _, rfl, rfl, ?_⟩
      refine ⟨fun σ H4 => ∃ d : Nat, σ = [some (.ref b), some (.int (many : Nat)), some (.int way), some (.int top), some (.str (numS ds)), some (.int (24 - (ds.sum : Nat))), some (.int (0 + (i : Nat))), some (.int (d : Nat))] ∧
        (1 ≤ d ∧ d ≤ 9) ∧ ds.sum + d + (many - 1 - i) ≤ 24 ∧ H4 = H3, ?_, ?_⟩
      · have mid : ∃ d : Nat, (1 : Int) + g = (d : Nat) ∧ (1 ≤ d ∧ d ≤ 9) ∧ ds.sum + d + (many - 1 - i) ≤ 24 := ⟨(1 + g).toNat, by omega, by omega, by omega⟩
        obtain ⟨d, ed, hd9, hsum⟩ := mid
        (try dsimp only; rw [ed])
        refine ⟨_, rfl, rfl, _, rfl, ite2 (fun c1 => ?_) (fun c1 => ?_)⟩
        · refine ⟨_, rfl, _, rfl, _, _, rfl, rfl, rfl, _, rfl, ite2 (fun c2 => ?_) (fun c2 => ?_)⟩
          · refine ⟨_, rfl, _, _, rfl, ?_⟩
            have e2 : (0 : Int) + (i : Nat) = (many : Nat) - 1 := V.int.inj (of_decide_eq_true c2)
            have q : ∃ e : Nat, (if ((24 : Int) - (ds.sum : Nat)) < 9 then ((24 : Int) - (ds.sum : Nat)) else 9) = (e : Nat) ∧ (1 ≤ e ∧ e ≤ 9) ∧ ds.sum + e + (many - 1 - i) ≤ 24 := by
              split
              · exact ⟨24 - ds.sum, by omega, by omega, by omega⟩
              · exact ⟨9, rfl, by omega, by omega⟩
            obtain ⟨e, ee, he9, hes⟩ := q
            (try dsimp only; rw [ee])
            exact ⟨e, rfl, he9, hes, rfl⟩
          · exact ⟨d, rfl, hd9, hsum, rfl⟩
        · exact ⟨d, rfl, hd9, hsum, rfl⟩
      · rintro σ H4 ⟨d, rfl, hd9, hsum, rfl⟩
        refine ⟨_, rfl, _, rfl, _, rfl, dig_log hd9, _, _, rfl, rfl, ?_, ?_⟩
        · rw [dig_str hd9, numS_len, numS_len]
          exact Nat.le_of_lt (small1000 (by show ds.length + 1 ≤ 1000; omega))
        rw [dig_str hd9, numS_app]
        refine ⟨_, rfl, _, rfl, _, _, rfl, rfl, ?_⟩
        have e3 : (24 : Int) - (ds.sum : Nat) - (d : Nat) = 24 - ((ds ++ [d]).sum : Nat) := by rw [sum_snoc]; omega
        (try dsimp only; rw [e3])
        exact ⟨ds ++ [d], _, _, rfl, by rw [len_snoc, el], dig_snoc hd hd9, by rw [sum_snoc]; omega, bag4, but.trans but4⟩
    · obtain ⟨ds, vk, vd, rfl, el, hd, hs, bag, but⟩ := hP
      refine ⟨_, rfl, kk _ ds ⟨by omega, by omega, hd, by omega⟩ (bag.mono (by omega)) but⟩
end
end K11

namespace K11
open PySem L2 Wm TL Dv
section
variable {P : Program} {w : World} {K : PySem.W.Frag} {mg : Str → Option Value} {base : Heap}
theorem SI_len (ds : List Nat) : (SI ds).length ≤ (rowL ds).length := by
  have : ∀ (xs : List Int) (o : Nat), (ones o xs).length ≤ xs.length := by
    intro xs
    induction xs with
    | nil => exact fun o => Nat.le_refl _
    | cons x xs ih =>
      intro o
      have := ih (o + 1)
      unfold ones
      split
      · rw [List.length_cons, List.length_cons]; omega
      · rw [List.length_cons]; omega
  unfold SI
  rw [List.length_map]
  exact this _ _
theorem SI_sum : ∀ (ds : List Nat) (f : Nat), (ones f (rowL ds)).length = ds.sum
  | [], f => rfl
  | d :: ds, f => by
    have e : ones f (rowL (d :: ds)) = ones f (blk d) ++ ones (f + 2 * d + 2) (rowL ds) := by
      show ones f (blk d ++ ([0, 0] ++ rowL ds)) = _
      rw [ones_app, ones_app, blk_len]
      rfl
    have b : ∀ d, (ones f (blk d)).length = d := by
      intro d
      induction d with
      | zero => rfl
      | succ d ih => rw [ones_blk, List.length_append, ih]; rfl
    rw [e, List.length_append, b, SI_sum ds, List.sum_cons]
theorem SI_off {ds : List Nat} (N : Num ds) : Off (SI ds) := ⟨SI_up ds, fun n m => (SI_lt m).1, by
  have := SI_sum ds 0
  unfold SI
  rw [List.length_map, this]
  have := N.sum
  omega⟩
/-- the strokes up to a tick -/
def SIt (ds : List Nat) (i : Nat) : List Int := (ones 0 ((rowL ds).take i)).map fun (k : Nat) => (k : Int)
theorem SIt_succ {ds : List Nat} {i : Nat} {z : Int} (h : (rowL ds)[i]? = some z) : SIt ds (i + 1) = SIt ds i ++ (if z = 1 then [(i : Int)] else []) := by
  have hi := (List.getElem?_eq_some_iff.mp h).1
  unfold SIt
  rw [tk_succ h, ones_app, List.map_append, List.length_take, Nat.min_eq_left (by omega), Nat.zero_add]
  congr 1
  unfold ones
  by_cases c : z = 1
  · rw [if_pos c, if_pos c]; rfl
  · rw [if_neg c, if_neg c]; rfl
theorem SIt_all (ds : List Nat) : SIt ds (rowL ds).length = SI ds := by unfold SIt SI; rw [List.take_length]
theorem SIt_len (ds : List Nat) (i : Nat) : (SIt ds i).length ≤ (rowL ds).length := by
  have : ∀ (xs : List Int) (o : Nat), (ones o xs).length ≤ xs.length := by
    intro xs
    induction xs with
    | nil => exact fun o => Nat.le_refl _
    | cons x xs ih =>
      intro o
      have := ih (o + 1)
      unfold ones
      split
      · rw [List.length_cons, List.length_cons]; omega
      · rw [List.length_cons]; omega
  unfold SIt
  rw [List.length_map]
  refine Nat.le_trans (this _ _) ?_
  rw [List.length_take]
  omega
theorem ok_strokes_of (T : Txt K mg) : FnOk P w K mg base (L2.CX P w) 6 T.a_strokes_of T.d_strokes_of ["number"] (sp_strokes_of K T.C T.CN) := by
  refine T.F_strokes_of.okX sc_strokes_of (fun vs H Q E h => ?_) (fun cdv A outer s H vs Q E hr h => ?_)
  · obtain ⟨x, d, rfl, _⟩ := h
    rfl
  · obtain ⟨x, d, rfl, ob, k, er⟩ := h
    refine ⟨_, (pss_one (ps_ret (pe_make T.mk_init (ok_init T) (hr.mono (by decide)) (by rfl) T.gC T.b_init .nil pass0 (pa_cons (pe_lc (own := [("offset", 1), ("sign", 2)]) (g := gTup K 2 (gCons (gName 1) (gCons (gName 2) (gNil)))) rfl sc_strokes_of.nd (Es.pi_ent (by rfl) T.z_enumerate (pa_cons (pe_callS (ok_row_of T) (hr.mono (by decide)) rfl T.g_row_of T.F_row_of.kp T.b_row_of (fun σ => passAt (takes_of rfl rfl rfl rfl) σ) (by exact (pa_cons (pv 0) pa_nil))) pa_nil)) (blkOk_by (own := [("offset", 1), ("sign", 2)]) (N := nm_strokes_of) (sc := (defScope s_strokes_of)) (by decide +kernel)) (fun _ _ _ _ _ => (pg_tup rfl (pgs_cons (pg_name (i := 1) sc_strokes_of.nd rfl (Or.inl rfl)) (pgs_cons (pg_name (i := 2) sc_strokes_of.nd rfl (Or.inl rfl)) pgs_nil)))) (fun _ _ _ _ _ => (pts_one (pt_cmpR op_eq (pv 2) pe_int (nomark _)))) (fun _ _ _ _ _ => (pv 1))) pa_nil)))), ?_⟩
    refine ⟨_, rfl, x, d, rfl, ob, fun ds N e H1 t s1 t0 ht => ?_, fun n => er n⟩
    have k := k ds N e
    have rl := row_le ds N
    refine ⟨t, _, rfl, SqT.of ht, fun D hD => ?_⟩
    refine lc_it Es.walk_ent (fun i A => Same H1 A ∧ A D = some (.lst ((SIt ds i).map V.int))) ⟨same_new hD, upd_same⟩ (fun i A _ hP => SqT.of (hP.1 _ _ ht)) (fun i y A A' hi hP hY => ?_) (fun A hP => ?_)
    · obtain ⟨sm, hL⟩ := hP
      obtain ⟨tp, x1, x2, rfl, htp, rfl, e1, e2⟩ := hY
      cases e1
      have e2 : ((rowL ds).map V.int)[i]? = some x2 := e2
      rw [List.getElem?_map] at e2
      obtain ⟨z, hz, rfl⟩ := Option.map_eq_some_iff.mp e2
      have sB : Same H1 (upd A tp (.tup [.int (i : Nat), V.int z])) := sm.trans (same_new htp)
      have hL2 := at_old (u := .tup [.int (i : Nat), V.int z]) hL htp
      have su := SIt_succ hz
      have le := SIt_len ds i
      refine ⟨tp, _, rfl, SqT.of upd_same, rfl, _, _, rfl, _, _, rfl, rfl, rfl, ?_⟩
      generalize upd A tp (.tup [.int (i : Nat), V.int z]) = B at *
      refine ⟨_, rfl, rfl, _, rfl, ite2 (fun c => ?_) (fun c => ?_)⟩
      · have z1 : z = 1 := V.int.inj (of_decide_eq_true c)
        refine ⟨_, rfl, _, hL2, by rw [List.length_map]; exact small1000 (by omega), same_mut sB hD, ?_⟩
        rw [upd_same, su, if_pos z1, List.map_append]
        rfl
      · have z1 : z ≠ 1 := fun q => c (decide_eq_true (by rw [q]))
        refine ⟨sB, ?_⟩
        rw [su, if_neg z1, List.append_nil]
        exact hL2
    · obtain ⟨sm, hL⟩ := hP
      rw [List.length_map, SIt_all] at hL
      refine fun x2 dy hx hdy ne => ?_
      have m1 := made (C := T.C) hx hdy ne
      have O := SI_off N
      refine ⟨x2, dy, D, false, SI ds, rfl, upd_same, Kd.Is.lst (SqL.of (m1 _ _ hL)), O.lo, by have := O.few; omega, fun H' ns2 off so le sA => ⟨rfl, ?_⟩⟩
      have e := up_eq so.1 (SI_up ds) so.2
      subst e
      exact k _ x2 ((s1.trans sm).trans (made_off hx hdy ne off)) ((s1.trans sm).free hx) sA
theorem EndsAt.keep {H H' : Hp} {q : Addr} {ps : List (Nat × Nat)} (h : EndsAt K H q ps) (s : Same H H') : EndsAt K H' q ps := by
  obtain ⟨xs, h1, h2, h3⟩ := h
  refine ⟨xs, s _ _ h1, h2, fun i v hv => ?_⟩
  obtain ⟨p, hp, t, rfl, ht⟩ := h3 i v hv
  exact ⟨p, hp, t, rfl, s _ _ ht⟩
theorem ok_block_ends (T : Txt K mg) : FnOk P w K mg base (L2.CX P w) 5 T.a_block_ends T.d_block_ends ["number"] (sp_block_ends K T.CN) := by
  refine T.F_block_ends.okX sc_block_ends (fun vs H Q E h => ?_) (fun cdv A outer s H vs Q E hr h => ?_)
  · obtain ⟨x, d, rfl, _⟩ := h
    rfl
  · obtain ⟨x, d, rfl, ob, k, er⟩ := h
    refine ⟨_, (pss_cons (ps_set (i := 1) sc_block_ends.nd rfl (Or.inl rfl) (pe_lst pa_nil))
      (pss_cons (ps_set (i := 2) sc_block_ends.nd rfl (Or.inl rfl) pe_int)
      (pss_cons (ps_for (passes_of rfl) rfl (pi_tup (pe_callS (ok_blocks T) (hr.mono (by decide)) rfl T.g_blocks T.F_blocks.kp T.b_blocks (fun σ => passAt (takes_of rfl rfl rfl rfl) σ) (by exact (pa_cons (pv 0) pa_nil)))) (pg_name (i := 3) sc_block_ends.nd rfl (Or.inl rfl))
        (pss_cons (ps_expr (pe_bm PySem.F.plainAttrs_list PySem.F.slot_list_append PySem.F.type_list_append mt_append (pv 1) (pa_cons (pe_tup (pa_cons (pv 2) (pa_cons (pe_op op_add (pv 2) (pe_op op_mul pe_int (pe_op op_sub (pv 3) pe_int))) pa_nil))) pa_nil)))
        (pss_one (ps_aug (i := 2) sc_block_ends.nd rfl (Or.inl rfl) (pe_op op_mul pe_int (pe_op op_add (pv 3) pe_int)) ip_add))))
      (pss_one (ps_ret (pv 1)))))), ?_⟩
    refine ⟨Nat.zero_le _, fun r hr0 => ?_⟩
    refine ⟨_, rfl, x, d, rfl, ob.keep (same_new hr0), fun ds N e H1 t s1 t0 ht => ?_, fun n => (er n).after (same_new hr0)⟩
    have k := k ds N e
    have nl := N.len
    have hr1 : H1 r = some (.lst []) := s1 _ _ upd_same
    have sH : Same H H1 := (same_new hr0).trans s1
    refine ⟨t, rfl, ⟨_, SqT.of ht⟩, ?_⟩
    refine for_tup (xs := ds.map fun (d : Nat) => V.int (d : Int)) (fun i σ A => ∃ v, σ = [some x, some (.ref r), some (.int ((2 * ((ds.take i).sum + i) : Nat) : Int)), v] ∧ Same H A ∧ A t = some (.tup (ds.map fun (d : Nat) => V.int (d : Int))) ∧ EndsAt K A r (spans 0 (ds.take i)))
      ⟨_, rfl, sH, ht, [], hr1, rfl, fun i v hv => by simp at hv⟩ (fun i σ A _ hP => ?_) (fun i y σ A hy hP => ?_) (fun σ A hP => ?_)
    · obtain ⟨v, rfl, _, h2, _⟩ := hP
      exact SqT.of h2
    · obtain ⟨v, rfl, sm, h2, xs, h3, h4, h5⟩ := hP
      rw [List.getElem?_map] at hy
      obtain ⟨z, hz, rfl⟩ := Option.map_eq_some_iff.mp hy
      have hi := (List.getElem?_eq_some_iff.mp hz).1
      rw [spans_len, List.length_take] at h4
      have tk := tk_succ hz
      have hh3 : A r = some (.lst xs) := h3
      refine ⟨_, rfl, .inl ⟨rfl, _, SqL.of h3⟩, _, rfl, _, rfl, _, rfl, _, _, rfl, rfl, _, _, rfl, rfl, .inl ⟨by decide, by decide⟩, _, _, rfl, rfl, by show 2 ≤ sizeLine; decide, fun tp htp => ?_⟩
      have rt : r ≠ t := fun z => by rw [z, h2] at h3; cases h3
      refine ⟨r, xs, _, rfl, rfl, at_old h3 htp, small1000 (by omega), ?_⟩
      refine ⟨_, rfl, _, rfl, _, _, rfl, rfl, _, _, rfl, rfl, .inl ⟨by decide, by decide⟩, _, _, rfl, rfl, ?_⟩
      have eS : (((2 * ((ds.take i).sum + i) : Nat) : Int) + 2 * ((z : Int) + 1)) = ((2 * ((ds.take (i + 1)).sum + (i + 1)) : Nat) : Int) := by
        rw [tk, List.sum_append, List.sum_cons, List.sum_nil]
        omega
      have sB : Same H (upd A tp (.tup [V.int ((2 * ((ds.take i).sum + i) : Nat) : Int), V.int (((2 * ((ds.take i).sum + i) : Nat) : Int) + 2 * ((z : Int) - 1))])) := sm.trans (same_new htp)
      refine ⟨_, by rw [← eS]; rfl, same_mut sB hr0, by rw [upd_ne rt.symm]; exact at_old h2 htp, _, upd_same, ?_, fun j v hv => ?_⟩
      · rw [List.length_append, h4, spans_len, tk, List.length_append, List.length_take]
        rfl
      have tpr : tp ≠ r := (ne_of_none h3 htp).symm
      rw [tk, spans_app, List.length_take, Nat.min_eq_left (by omega), Nat.zero_add]
      by_cases c : j < xs.length
      · rw [List.getElem?_append_left c] at hv
        obtain ⟨g, hg, u, rfl, hu⟩ := h5 j v hv
        have ur : u ≠ r := fun w => by rw [w, h3] at hu; cases hu
        refine ⟨g, by rw [List.getElem?_append_left (by rw [spans_len, List.length_take]; omega)]; exact hg, u, rfl, by rw [upd_ne ur]; exact at_old hu htp⟩
      · rw [List.getElem?_append_right (by omega)] at hv
        have j0 : j - xs.length = 0 := by
          by_cases q : j - xs.length = 0
          · exact q
          · rw [List.getElem?_eq_none (by rw [List.length_singleton]; omega)] at hv
            cases hv
        rw [j0] at hv
        have ev : V.ref tp = v := by simpa using hv
        subst ev
        refine ⟨_, by rw [List.getElem?_append_right (by rw [spans_len, List.length_take]; omega), spans_len, List.length_take, show j - min i ds.length = 0 by omega]; rfl, tp, rfl, ?_⟩
        rw [upd_ne tpr, upd_same]
        rfl
    · obtain ⟨v, rfl, sm, h2, h3⟩ := hP
      rw [List.length_map, List.take_length] at h3
      exact ⟨_, rfl, k _ r sm hr0 h3⟩
theorem ok_home_index (T : Txt K mg) : FnOk P w K mg base CX0 1 T.a_home_index T.d_home_index ["homes", "first", "last"] (sp_home_index K) := by
  refine T.F_home_index.ok sc_home_index (fun vs H Q E h => ?_) (fun cdv A outer s H vs Q E hr h => ?_)
  · obtain ⟨q, qs, a, p, rfl, _⟩ := h
    rfl
  · obtain ⟨q, qs, a, p, rfl, ⟨xs, hq, hl, hx⟩, few, ev, k⟩ := h
    refine ⟨_, (pss_cons (ps_for PassesOwn.never rfl (pi_enum (by rfl) T.z_enumerate (pa_cons (pv 0) pa_nil)) (pg_tup rfl (pgs_cons (pg_name (i := 3) sc_home_index.nd rfl (Or.inl rfl)) (pgs_cons (pg_tup rfl (pgs_cons (pg_name (i := 4) sc_home_index.nd rfl (Or.inl rfl)) (pgs_cons (pg_name (i := 5) sc_home_index.nd rfl (Or.inl rfl)) pgs_nil))) pgs_nil)))
        (pss_one (ps_if (PW.pt (pw_and (pt_cmpR op_le (pv 4) (pv 1) (nomark _)) (pw_and1 (pt_cmpR op_le (pv 2) (pv 5) (nomark _)))))
          (pss_one (ps_ret (pv 3)))
          pss_nil)))
      (pss_one (ps_ret pe_non))), ?_⟩
    refine ⟨_, rfl, q, xs, rfl, SqL.of hq, ?_⟩
    refine for_it walk_enum (fun i σ A => ∃ v3 v4 v5, σ = [some (.ref q), some (.int (a + p.1)), some (.int (a + ((p.1 : Int) + 2 * ((p.2 : Int) - 1)))), v3, v4, v5] ∧ Same H A ∧ ∀ j (h : j < qs.length), j < i → inB a p qs[j] = false)
      ⟨none, none, none, rfl, Same.refl _, fun j _ h => absurd h (Nat.not_lt_zero _)⟩ (fun i σ A _ hP => let ⟨_, _, _, _, s, _⟩ := hP; SqL.of (s _ _ hq)) (fun i y σ A A' hi hP hY => ?_) (fun σ A hP => ?_)
    · obtain ⟨v3, v4, v5, rfl, sm, no⟩ := hP
      obtain ⟨tp, x1, x2, rfl, htp, rfl, e1, e2⟩ := hY
      cases e1
      obtain ⟨g, hg, t, rfl, ht⟩ := hx i x2 e2
      have sB : Same H (upd A tp (.tup [.int (i : Nat), V.ref t])) := sm.trans (same_new htp)
      have hiq := (List.getElem?_eq_some_iff.mp hg).1
      have eg : qs[i] = g := (List.getElem?_eq_some_iff.mp hg).2
      refine ⟨tp, _, rfl, SqT.of upd_same, rfl, _, _, rfl, _, _, rfl, t, _, rfl, SqT.of (at_old (sm _ _ ht) htp), rfl, _, _, rfl, _, _, rfl, rfl, rfl, ?_⟩
      have skip : inB a p g = false → ∃ v3 v4 v5, ([some (.ref q), some (.int (a + p.1)), some (.int (a + ((p.1 : Int) + 2 * ((p.2 : Int) - 1)))), some (.int (i : Nat)), some (.int (g.1 : Int)), some (.int ((g.1 : Int) + 2 * ((g.2 : Int) - 1)))] : L2.St) =
          [some (.ref q), some (.int (a + p.1)), some (.int (a + ((p.1 : Int) + 2 * ((p.2 : Int) - 1)))), v3, v4, v5] ∧ Same H (upd A tp (.tup [.int (i : Nat), V.ref t])) ∧ ∀ j (h : j < qs.length), j < i + 1 → inB a p qs[j] = false := fun nb =>
        ⟨_, _, _, rfl, sB, fun j hj hji => by
          by_cases c : j = i
          · subst c; rw [eg]; exact nb
          · exact no j hj (by omega)⟩
      refine ⟨_, rfl, _, rfl, _, _, rfl, rfl, _, rfl, ite2 (fun c1 => ?_) (fun c1 => ?_)⟩
      · refine ⟨_, rfl, _, rfl, _, _, rfl, rfl, _, rfl, ite2 (fun c2 => ?_) (fun c2 => ?_)⟩
        · have yes : inB a p g = true := by
            unfold inB
            exact decide_eq_true ⟨ev, of_decide_eq_true c1, of_decide_eq_true c2⟩
          have e : home a qs p = some i := by
            unfold home
            exact List.findIdx?_eq_some_iff_getElem.mpr ⟨hiq, by rw [eg]; exact yes, fun j hj => by rw [no j (by omega) hj]; simp⟩
          have k := k _ sB
          rw [e] at k
          exact ⟨_, rfl, k⟩
        · refine skip ?_
          unfold inB
          exact decide_eq_false fun z => c2 (decide_eq_true z.2.2)
      · refine iteF (skip ?_)
        unfold inB
        exact decide_eq_false fun z => c1 (decide_eq_true z.2.1)
    · obtain ⟨v3, v4, v5, rfl, sm, no⟩ := hP
      have e : home a qs p = none := by
        unfold home
        refine List.findIdx?_eq_none_iff.mpr fun g mg => ?_
        obtain ⟨j, hj, rfl⟩ := List.mem_iff_getElem.mp mg
        exact no j hj (by omega)
      have k := k A sm
      rw [e] at k
      exact k
end
end K11

namespace K11
open PySem L2 Wm TL Dv
section
variable {P : Program} {w : World} {K : PySem.W.Frag} {mg : Str → Option Value} {base : Heap}
theorem fit_odd {a : Int} {ds es : List Nat} (N : Num ds) (h : ¬ a % 2 = 0) : FitL a ds es = [] := by
  by_cases c : FitL a ds es = []
  · exact c
  · exact absurd (ins_at N (by rw [← fit_ne N]; exact decide_eq_true c)).2.2 h
theorem fit_none {a : Int} {ds es : List Nat} {g : Nat × Nat} (m : g ∈ spans 0 ds) (h : home a (spans 0 es) g = none) : FitL a ds es = [] := by
  unfold FitL
  refine if_neg fun z => ?_
  have := List.all_eq_true.mp z g m
  rw [h] at this
  cases this
theorem num_str {x : V} (h : IsN x) : ∃ ds, Num ds ∧ x = .str (numS ds) := h
theorem small_fit {n : Nat} (h : n ≤ 100) : n < sizeLine := small1000 (by omega)
theorem ok_fit_blocks (T : Txt K mg) : FnOk P w K mg base (L2.CX P w) 6 T.a_fit_blocks T.d_fit_blocks ["number", "within", "at"] (sp_fit_blocks K T.CN) := by
  refine T.F_fit_blocks.okX sc_fit_blocks (fun vs H Q E h => ?_) (fun cdv A outer s H vs Q E hr h => ?_)
  · obtain ⟨x, y, d, e, a, rfl, _⟩ := h
    rfl
  · obtain ⟨x, y, d, e, a, rfl, ox, oy, k, er1, er2⟩ := h
    refine ⟨_, (pss_cons (ps_set (i := 3) sc_fit_blocks.nd rfl (Or.inl rfl) (pe_callS (ok_block_ends T) (hr.mono (by decide)) rfl T.g_block_ends T.F_block_ends.kp T.b_block_ends (fun σ => passAt (takes_of rfl rfl rfl rfl) σ) (by exact (pa_cons (pv 0) pa_nil))))
      (pss_cons (ps_set (i := 4) sc_fit_blocks.nd rfl (Or.inl rfl) (pe_callS (ok_block_ends T) (hr.mono (by decide)) rfl T.g_block_ends T.F_block_ends.kp T.b_block_ends (fun σ => passAt (takes_of rfl rfl rfl rfl) σ) (by exact (pa_cons (pv 1) pa_nil))))
      (pss_cons (ps_if (pt_cmpR op_eq (pe_op op_modN (pv 2) pe_int) pe_int (nomark _))
        (pss_one (ps_ret (pe_tup pa_nil)))
        pss_nil)
      (pss_cons (ps_set (i := 5) sc_fit_blocks.nd rfl (Or.inl rfl) (pe_lst pa_nil))
      (pss_cons (ps_for (passes_of rfl) rfl (pi_list (pv 3)) (pg_tup rfl (pgs_cons (pg_name (i := 6) sc_fit_blocks.nd rfl (Or.inl rfl)) (pgs_cons (pg_name (i := 7) sc_fit_blocks.nd rfl (Or.inl rfl)) pgs_nil)))
        (pss_cons (ps_set (i := 8) sc_fit_blocks.nd rfl (Or.inl rfl) (pe_call (ok_home_index T) (hr.mono (by decide)) (by rfl) T.g_home_index T.F_home_index.kp T.b_home_index .nil pass0 (pa_cons (pv 4) (pa_cons (pe_op op_add (pv 2) (pv 6)) (pa_cons (pe_op op_add (pv 2) (pv 7)) pa_nil)))))
        (pss_cons (ps_if (pt_cmpR op_isN (pv 8) pe_non (nomark _))
          (pss_one (ps_ret (pe_tup pa_nil)))
          pss_nil)
        (pss_one (ps_expr (pe_bm PySem.F.plainAttrs_list PySem.F.slot_list_append PySem.F.type_list_append mt_append (pv 5) (pa_cons (pv 8) pa_nil)))))))
      (pss_one (ps_ret (pe_callTy call_tuple_of (by rfl) T.z_tuple (by decide +kernel) (pa_cons (pv 5) pa_nil))))))))), ?_⟩
    refine ⟨_, rfl, x, d, rfl, ox, fun ds N ex H1 p s1 f1 e1 => ?_, fun n => er1 n⟩
    have ix : IsN x := ⟨ds, N, ex⟩
    refine ⟨_, rfl, y, e, rfl, oy.keep s1, fun es M ey H2 q s2 f2 e2 => ?_, fun n => (er2 ix n).after s1⟩
    have k := k ds es N M ex ey
    have s12 := s1.trans s2
    have e1 := e1.keep s2
    have sp := N.len
    have Lp := spans_len 0 ds
    have Lq := spans_len 0 es
    have ml := M.len
    have mod : a.fmod 2 = a % 2 := Int.fmod_eq_emod_of_nonneg a (by decide)
    refine ⟨_, rfl, _, _, rfl, rfl, show (2 : Int) ≠ 0 by decide, ?_⟩
    refine ⟨rfl, _, rfl, ite2 (fun c => ?_) (fun c => ?_)⟩
    · have odd : a % 2 = 1 := by rw [← mod]; exact V.int.inj (of_decide_eq_true c)
      refine ⟨by show 0 ≤ sizeLine; exact Nat.zero_le _, fun t ht => k _ t (s12.trans (same_new ht)) ?_⟩
      unfold fitV
      rw [fit_odd N (by omega)]
      exact upd_same
    have even : a % 2 = 0 := by
      have : ¬ a % 2 = 1 := fun z => c (decide_eq_true (by show V.int (a.fmod 2) = V.int 1; rw [mod, z]))
      omega
    refine ⟨by show 0 ≤ sizeLine; exact Nat.zero_le _, fun r hr => ?_⟩
    obtain ⟨xs, hp, hl, hx⟩ := e1
    have sr := same_new (o := .lst []) hr
    refine ⟨_, rfl, p, rfl, ⟨_, SqL.of (sr _ _ hp)⟩, ?_⟩
    refine for_list (xs := xs) (fun i σ A => ∃ v6 v7 v8, σ = [some x, some y, some (.int a), some (.ref p), some (.ref q), some (.ref r), v6, v7, v8] ∧ Same H2 A ∧ A r = some (.lst (((spans 0 ds).take i).map fun g => V.int (((home a (spans 0 es) g).getD 0 : Nat) : Int))) ∧ ∀ g ∈ (spans 0 ds).take i, (home a (spans 0 es) g).isSome = true)
      ⟨none, none, none, rfl, sr, upd_same, fun g m => by simp at m⟩ (fun i σ A _ hP => let ⟨_, _, _, _, s, _⟩ := hP; SqL.of (s _ _ hp)) (fun i v σ A hv hP => ?_) (fun σ A hP => ?_)
    · obtain ⟨v6, v7, v8, rfl, sm, hL, al⟩ := hP
      obtain ⟨g, hg, t, rfl, ht⟩ := hx i v hv
      have mg := List.mem_of_getElem? hg
      have ht := sm _ _ ht
      refine ⟨t, _, rfl, SqT.of ht, rfl, _, _, rfl, _, _, rfl, rfl, ?_⟩
      refine ⟨_, rfl, _, rfl, _, rfl, _, _, rfl, rfl, _, rfl, _, rfl, _, _, rfl, rfl, q, spans 0 es, a, g, rfl, e2.keep sm, by omega, even, fun A2 sA => ?_⟩
      have sm2 := sm.trans sA
      have hL2 := sA _ _ hL
      have tk := tk_succ hg
      cases hh : home a (spans 0 es) g with
      | none =>
        refine ⟨_, rfl, rfl, _, rfl, iteT ?_⟩
        refine ⟨by show 0 ≤ sizeLine; exact Nat.zero_le _, fun t2 ht2 => k _ t2 ((s12.trans sm2).trans (same_new ht2)) ?_⟩
        unfold fitV
        rw [fit_none mg hh]
        exact upd_same
      | some j =>
        refine ⟨_, rfl, rfl, _, rfl, iteF ?_⟩
        refine ⟨_, rfl, .inl ⟨rfl, _, SqL.of hL2⟩, _, rfl, r, _, _, rfl, rfl, hL2, by rw [List.length_map, List.length_take]; exact small_fit (by omega), ?_⟩
        refine ⟨_, _, _, rfl, same_mut sm2 hr, ?_, fun g2 m2 => ?_⟩
        · rw [upd_same, tk, List.map_append, List.map_cons, hh]
          rfl
        · rw [tk] at m2
          rcases List.mem_append.mp m2 with m2 | m2
          · exact al g2 m2
          · rw [List.mem_singleton.mp m2, hh]
            rfl
    · obtain ⟨v6, v7, v8, rfl, sm, hL, al⟩ := hP
      rw [hl, List.take_length] at hL al
      refine ⟨_, rfl, r, _, rfl, .inl ⟨SqL.of hL, fun t ht => k _ t ((s12.trans sm).trans (same_new ht)) ?_⟩⟩
      unfold fitV FitL
      rw [if_pos (List.all_eq_true.mpr al), upd_same, List.map_map]
      rfl
theorem row_even (es : List Nat) : (rowL es).length = 2 * ((rowL es).length / 2) := by
  have := row_sum es
  omega
theorem evs_eq {ds es : List Nat} (N : Num ds) : (((List.range ((rowL es).length / 2)).map fun (i : Nat) => (i : Int) * 2).filter (insB ds es)) = DI ds es := by
  refine up_eq ((range_up _ 2 (by decide)).filter _) (DI_up ds es) fun k => ?_
  rw [DI_mem N, List.mem_filter, List.mem_map]
  constructor
  · exact fun h => h.2
  · intro h
    obtain ⟨h0, h1, h2⟩ := ins_at N h
    have := row_even es
    exact ⟨⟨(k / 2).toNat, List.mem_range.mpr (by omega), by omega⟩, h⟩
theorem rg_even : ∀ n : Nat, n < 51 → RgC 0 ((2 * n : Nat) : Int) 2 n := fun n h => ⟨by decide, by decide, (show ∀ n : Nat, n < 51 → Builtin.Range.small 0 ((2 * n : Nat) : Int) 2 = true by decide +kernel) n h, (show ∀ n : Nat, n < 51 → Builtin.Range.rangeSize 0 ((2 * n : Nat) : Int) 2 = (n : Int) by decide +kernel) n h⟩
theorem ok_fits (T : Txt K mg) : FnOk P w K mg base (L2.CX P w) 7 T.a_fits T.d_fits ["number", "within"] (sp_fits K T.CN) := by
  refine T.F_fits.okX sc_fits (fun vs H Q E h => ?_) (fun cdv A outer s H vs Q E hr h => ?_)
  · obtain ⟨x, y, d, e, rfl, _⟩ := h
    rfl
  · obtain ⟨x, y, d, e, rfl, ox, oy, k, er1, er2⟩ := h
    refine ⟨_, (pss_cons (ps_expr (pe_callS (ok_check_number T) (hr.mono (by decide)) rfl T.g_check_number T.F_check_number.kp T.b_check_number (fun σ => passAt (takes_of rfl rfl rfl rfl) σ) (by exact (pa_cons (pv 0) pa_nil))))
      (pss_one (ps_ret (pe_callTy call_tuple_of (by rfl) T.z_tuple (by decide +kernel) (pa_cons (pe_lc (own := [("at", 2)]) (g := gName 2) rfl sc_fits.nd (pi_range3 (by rfl) T.z_range (pa_cons pe_int (pa_cons (pe_callS (ok_length_of T) (hr.mono (by decide)) rfl T.g_length_of T.F_length_of.kp T.b_length_of (fun σ => passAt (takes_of rfl rfl rfl rfl) σ) (by exact (pa_cons (pv 1) pa_nil))) (pa_cons pe_int pa_nil)))) (blkOk_by (own := [("at", 2)]) (N := nm_fits) (sc := (defScope s_fits)) (by decide +kernel)) (fun _ _ _ _ _ => pg_name (i := 2) sc_fits.nd rfl (Or.inl rfl)) (fun _ _ _ _ _ => (pts_one (pt_cmpR op_gt (pe_callB (show CallR _ _ (Kx.rLen K) from call_len_seq) (by rfl) T.z_len PySem.boot_len (pa_cons (pe_call (ok_fit_blocks T) (hr.mono (by decide)) (by rfl) T.g_fit_blocks T.F_fit_blocks.kp T.b_fit_blocks .nil Mk1.passF (pa_cons (pv 0) (pa_cons (pv 1) (pa_cons (pv 2) pa_nil)))) pa_nil)) pe_int (nomark _)))) (fun _ _ _ _ _ => (pv 2))) pa_nil))))), ?_⟩
    refine ⟨_, rfl, x, d, rfl, ox, fun ix H1 s1 => ?_, fun n => er1 n⟩
    refine ⟨_, rfl, y, e, rfl, oy.keep s1, fun es M ey H2 s2 => ?_, fun n => (er2 ix n).after s1⟩
    obtain ⟨ds, N, ex⟩ := num_str ix
    have k := k ds es N M ex ey
    have iy : IsN y := ⟨es, M, ey⟩
    have s12 := s1.trans s2
    have ev := row_even es
    have rl := row_le es M
    refine ⟨0, ((rowL es).length : Nat), 2, (rowL es).length / 2, rfl, ?_, fun D hD => ?_⟩
    · rw [show (rowL es).length = 2 * ((rowL es).length / 2) from ev, show 2 * ((rowL es).length / 2) / 2 = (rowL es).length / 2 by omega]
      exact rg_even _ (by omega)
    refine lc_it walk_rangeC (fun i A => Same H2 A ∧ A D = some (.lst (((((List.range ((rowL es).length / 2)).map fun (i : Nat) => (i : Int) * 2).take i).filter (insB ds es)).map V.int))) ⟨same_new hD, by rw [upd_same]; rfl⟩ (fun _ _ _ _ => trivial) (fun i z A A' hi hP hY => ?_) (fun A hP => ?_)
    · obtain ⟨sm, hL⟩ := hP
      obtain ⟨rfl, rfl⟩ := hY
      have sa := s12.trans sm
      have evI : ((List.range ((rowL es).length / 2)).map fun (i : Nat) => (i : Int) * 2)[i]? = some (0 + (i : Int) * 2) := by
        rw [List.getElem?_map, List.getElem?_range hi, Int.zero_add]
        rfl
      refine ⟨rfl, _, rfl, _, rfl, _, rfl, x, y, d, e, _, rfl, ox.keep sa, oy.keep sa, fun ds2 es2 N2 M2 ex2 ey2 A3 t s3 ht => ?_, fun n => absurd ix n, fun _ n => absurd iy n⟩
      have ed : ds2 = ds := numS_inj (V.str.inj (ex2.symm.trans ex))
      have ee : es2 = es := numS_inj (V.str.inj (ey2.symm.trans ey))
      subst ed
      subst ee
      have le : ((((List.range ((rowL es2).length / 2)).map fun (i : Nat) => (i : Int) * 2).take i).filter (insB ds2 es2)).length ≤ 100 := Nat.le_trans (List.length_filter_le _ _) (by rw [List.length_take, List.length_map, List.length_range]; omega)
      have val : decide ((0 : Int) < (((fitV (0 + (i : Int) * 2) ds2 es2).length : Nat) : Int)) = insB ds2 es2 (0 + (i : Int) * 2) := by
        rw [← fit_ne N]
        refine decide_eq_decide.mpr ?_
        unfold fitV
        rw [List.length_map]
        constructor
        · intro z q
          rw [q] at z
          simp at z
        · intro z
          have := List.length_pos_iff.mpr z
          omega
      refine ⟨t, _, rfl, .inr (SqT.of ht), _, _, rfl, rfl, _, rfl, ?_⟩
      rw [val]
      have sm3 := sm.trans s3
      have hL3 := s3 _ _ hL
      cases cc : insB ds2 es2 (0 + (i : Int) * 2) with
      | true =>
        refine iteT ⟨_, rfl, _, hL3, by rw [List.length_map]; exact small_fit le, same_mut sm3 hD, ?_⟩
        rw [upd_same, tk_succ evI, List.filter_append, List.filter_cons, if_pos cc, List.map_append]
        rfl
      | false =>
        refine iteF ⟨sm3, ?_⟩
        rw [tk_succ evI, List.filter_append, List.filter_cons, if_neg (by rw [cc]; simp), List.filter_nil, List.append_nil]
        exact hL3
    · obtain ⟨sm, hL⟩ := hP
      rw [List.take_of_length_le (by rw [List.length_map, List.length_range]; exact Nat.le_refl _), evs_eq N] at hL
      exact ⟨D, _, rfl, .inl ⟨SqL.of hL, fun t ht => k _ t ((s12.trans sm).trans (same_new ht)) upd_same⟩⟩
theorem dec_ins {ns ms : List Int} {b : Bool} (h : (∀ k ∈ ns, k ∈ ms) ↔ b = true) : decide (∀ k ∈ ns, k ∈ ms) = b := by
  rw [Bool.eq_iff_iff, decide_eq_true_iff]
  exact h
theorem ok_fits_by_ticks (T : Txt K mg) : FnOk P w K mg base (L2.CX P w) 7 T.a_fits_by_ticks T.d_fits_by_ticks ["number", "within"] (sp_fits_by_ticks K T.CN) := by
  refine T.F_fits_by_ticks.okX sc_fits_by_ticks (fun vs H Q E h => ?_) (fun cdv A outer s H vs Q E hr h => ?_)
  · obtain ⟨x, y, d, e, rfl, _⟩ := h
    rfl
  · obtain ⟨x, y, d, e, rfl, ox, oy, k, er1, er2⟩ := h
    refine ⟨_, (pss_cons (ps_set (i := 2) sc_fits_by_ticks.nd rfl (Or.inr rfl) (pe_callS (ok_strokes_of T) (hr.mono (by decide)) rfl T.g_strokes_of T.F_strokes_of.kp T.b_strokes_of (fun σ => passAt (takes_of rfl rfl rfl rfl) σ) (by exact (pa_cons (pv 0) pa_nil))))
      (pss_cons (ps_set (i := 3) sc_fits_by_ticks.nd rfl (Or.inr rfl) (pe_callS (ok_strokes_of T) (hr.mono (by decide)) rfl T.g_strokes_of T.F_strokes_of.kp T.b_strokes_of (fun σ => passAt (takes_of rfl rfl rfl rfl) σ) (by exact (pa_cons (pv 1) pa_nil))))
      (pss_one (ps_ret (pe_callTy call_tuple_of (by rfl) T.z_tuple (by decide +kernel) (pa_cons (pe_lc (own := [("at", 4)]) (g := gName 4) rfl sc_fits_by_ticks.nd (pi_range3 (by rfl) T.z_range (pa_cons pe_int (pa_cons (pe_callS (ok_length_of T) (hr.mono (by decide)) rfl T.g_length_of T.F_length_of.kp T.b_length_of (fun σ => passAt (takes_of rfl rfl rfl rfl) σ) (by exact (pa_cons (pv 1) pa_nil))) (pa_cons pe_int pa_nil)))) (blkOk_by (own := [("at", 4)]) (N := nm_fits_by_ticks) (sc := (defScope s_fits_by_ticks)) (by decide +kernel)) (fun _ _ _ _ _ => pg_name (i := 4) sc_fits_by_ticks.nd rfl (Or.inl rfl)) (fun _ _ _ _ _ => (pts_one (pt_val (pe_meth (pe_op (show OpR _ _ (Po.rBinT K .RShift T.C (fun vs H Q E => sp_rshift K T.C (vs ++ []) H Q E) E0) from Po.op_binI T.lt T.h_rshift T.i_rshift ((ok_rshift T).raw T.b_rshift .nil) (hr.mono (by decide)) pass0) (pv 2) (pv 4)) T.clC T.m_swithin (ok_swithin T) (hr.mono (by decide)) T.b_swithin .nil pass0 (pa_cons (pv 3) pa_nil))))) (fun _ _ _ _ _ => (pv 4))) pa_nil)))))), ?_⟩
    refine ⟨_, rfl, x, d, rfl, ox, fun ds N ex H1 p s1 f1 o1 => ?_, fun n => er1 n⟩
    have ix : IsN x := ⟨ds, N, ex⟩
    refine ⟨_, rfl, y, e, rfl, oy.keep s1, fun es M ey H2 q s2 f2 o2 => ?_, fun n => (er2 ix n).after s1⟩
    have k := k ds es N M ex ey
    have iy : IsN y := ⟨es, M, ey⟩
    have s12 := s1.trans s2
    have o1 := o1.keep s2
    have ev := row_even es
    have rl := row_le es M
    refine ⟨_, rfl, y, e, rfl, oy.keep s12, fun es2 M2 ey2 H3 s3 => ?_, fun n => absurd iy n⟩
    have ee : es2 = es := numS_inj (V.str.inj (ey2.symm.trans ey))
    subst ee
    have s13 := s12.trans s3
    have o1 := o1.keep s3
    have o2 := o2.keep s3
    refine ⟨0, ((rowL es2).length : Nat), 2, (rowL es2).length / 2, rfl, ?_, fun D hD => ?_⟩
    · rw [show (rowL es2).length = 2 * ((rowL es2).length / 2) from ev, show 2 * ((rowL es2).length / 2) / 2 = (rowL es2).length / 2 by omega]
      exact rg_even _ (by omega)
    refine lc_it walk_rangeC (fun i A => Same H3 A ∧ A D = some (.lst (((((List.range ((rowL es2).length / 2)).map fun (i : Nat) => (i : Int) * 2).take i).filter (insB ds es2)).map V.int))) ⟨same_new hD, by rw [upd_same]; rfl⟩ (fun _ _ _ _ => trivial) (fun i z A A' hi hP hY => ?_) (fun A hP => ?_)
    · obtain ⟨sm, hL⟩ := hP
      obtain ⟨rfl, rfl⟩ := hY
      have evI : ((List.range ((rowL es2).length / 2)).map fun (i : Nat) => (i : Int) * 2)[i]? = some (0 + (i : Int) * 2) := by
        rw [List.getElem?_map, List.getElem?_range hi, Int.zero_add]
        rfl
      have le : ((((List.range ((rowL es2).length / 2)).map fun (i : Nat) => (i : Int) * 2).take i).filter (insB ds es2)).length ≤ 100 := Nat.le_trans (List.length_filter_le _ _) (by rw [List.length_take, List.length_map, List.length_range]; omega)
      have oA := o1.keep sm
      obtain ⟨dx, fs, t, hp, l1, l2, ht⟩ := id oA
      have i0 : (0 : Int) ≤ 0 + (i : Int) * 2 := by omega
      refine ⟨rfl, _, rfl, _, rfl, p, dx, fs, "int", rfl, hp, .base (.int _), T.rI, p, SI ds, _, rfl, oA, SI_off N, i0, fun A3 r s3 fr sR => ?_⟩
      obtain ⟨dy, gs, u, hr, m1, m2, hu⟩ := id sR
      refine ⟨r, dy, gs, rfl, hr, m2 _ (by decide), _, rfl, r, q, _, SI es2, rfl, sR, ⟨shift_up (SI_up ds) _, fun n m => ?_, by rw [List.length_map]; exact (SI_off N).few⟩, (o2.keep sm).keep s3, SI_off M, fun A4 s4 => ?_⟩
      · obtain ⟨w, mw, rfl⟩ := List.mem_map.mp m
        have := (SI_lt mw).1
        show 0 ≤ w + (0 + (i : Int) * 2)
        omega
      refine ⟨_, rfl, ?_⟩
      rw [dec_ins (b := insB ds es2 (0 + (i : Int) * 2)) (by
        rw [ins_iff]
        constructor
        · exact fun h k mk => h _ (List.mem_map_of_mem mk)
        · intro h k mk
          obtain ⟨w, mw, rfl⟩ := List.mem_map.mp mk
          exact h w mw)]
      have sm3 := (sm.trans s3).trans s4
      have hL3 := s4 _ _ (s3 _ _ hL)
      cases cc : insB ds es2 (0 + (i : Int) * 2) with
      | true =>
        refine iteT ⟨_, rfl, _, hL3, by rw [List.length_map]; exact small_fit le, same_mut sm3 hD, ?_⟩
        rw [upd_same, tk_succ evI, List.filter_append, List.filter_cons, if_pos cc, List.map_append]
        rfl
      | false =>
        refine iteF ⟨sm3, ?_⟩
        rw [tk_succ evI, List.filter_append, List.filter_cons, if_neg (by rw [cc]; simp), List.filter_nil, List.append_nil]
        exact hL3
    · obtain ⟨sm, hL⟩ := hP
      rw [List.take_of_length_le (by rw [List.length_map, List.length_range]; exact Nat.le_refl _), evs_eq N] at hL
      exact ⟨D, _, rfl, .inl ⟨SqL.of hL, fun t ht => k _ t ((s13.trans sm).trans (same_new ht)) upd_same⟩⟩
end
end K11

namespace K11
open PySem L2 Wm TL Dv
section
variable {P : Program} {w : World} {K : PySem.W.Frag} {mg : Str → Option Value} {base : Heap}
theorem dig_text_int {d : Nat} (h : 1 ≤ d ∧ d ≤ 9) : PySem.intText? ⟨#[d + 48]⟩ = some (d : Int) := dig_int h
theorem eqv_lst (a b : List Int) : PyData.eqv (.list (a.map PyData.int)) (.list (b.map PyData.int)) = decide (a = b) := by
  unfold PyData.eqv
  exact eqv_ints a b
theorem shl (ns : List Int) : SeqAt.shaped (.list (ns.map PyData.int)) = true := PySem.W.ke_shaped_ints ns
theorem ok_row (T : Txt K mg) : FnOk P w K mg base CX0 1 T.a_row T.d_row ["_law_number_here"] (sp_row K) := by
  refine T.F_row.ok sc_row (fun vs H Q E h => ?_) (fun cdv A outer s H vs Q E hr h => ?_)
  · obtain ⟨ds, rfl, _⟩ := h
    rfl
  · obtain ⟨ds, rfl, N, k⟩ := h
    refine ⟨_, (pss_cons (ps_set (i := 1) sc_row.nd rfl (Or.inl rfl) (pe_lst pa_nil))
      (pss_cons (ps_for PassesOwn.never rfl (pi_str (pv 0)) (pg_name (i := 2) sc_row.nd rfl (Or.inl rfl))
        (pss_one (ps_set (i := 1) sc_row.nd rfl (Or.inl rfl) (pe_op op_cat (pe_op op_cat (pv 1) (pe_op op_rep (pe_lst (pa_cons pe_int (pa_cons pe_int pa_nil))) (pe_callTy call_int_str (by rfl) T.z_int (by decide +kernel) (pa_cons (pv 2) pa_nil)))) (pe_lst (pa_cons pe_int (pa_cons pe_int pa_nil)))))))
      (pss_one (ps_ret (pe_op op_cat (pv 1) (pe_lst (pa_cons pe_int (pa_cons pe_int pa_nil)))))))), ?_⟩
    have nl := N.len
    refine ⟨by show 0 ≤ sizeLine; exact Nat.zero_le _, fun r0 hr0 => ?_⟩
    have s0 := same_new (o := .lst []) hr0
    refine ⟨_, rfl, _, rfl, ?_⟩
    refine for_it walk_str (fun i σ A => ∃ r v, σ = [some (.str (numS ds)), some (.ref r), v] ∧ Same H A ∧ H r = none ∧ A r = some (.lst ((Wm.pre (ds.take i)).map V.int)))
      ⟨r0, none, rfl, s0, hr0, upd_same⟩ (fun _ _ _ _ _ => trivial) (fun i x σ A A' hi hP hY => ?_) (fun σ A hP => ?_)
    · obtain ⟨r, v, rfl, sm, fr, hL⟩ := hP
      obtain ⟨rfl, c, hc, rfl⟩ := hY
      rw [numS_size] at hi
      rw [numS_at ds i hi] at hc
      have hc' := (Option.some.inj hc).symm
      subst hc'
      have hd := N.dig _ (List.getElem_mem hi)
      have hp9 := pre_le (ds.take i) fun d m => (N.dig d (List.mem_of_mem_take m)).2
      rw [List.length_take] at hp9
      refine ⟨_, rfl, by show 2 ≤ sizeLine; decide, fun a ha => ?_⟩
      refine ⟨_, rfl, _, _, rfl, dig_int hd, (by show 1 ≤ 640; decide), ?_⟩
      have hL2 := at_old (u := .lst [V.int 1, V.int 0]) hL ha
      refine ⟨a, _, _, rfl, rfl, upd_same, by omega, by omega, by rw [Int.toNat_natCast]; show 2 * ds[i] ≤ _; exact Nat.le_of_lt (small1000 (by omega)), fun b hb => ?_⟩
      rw [Int.toNat_natCast, blk_V]
      have hL3 := at_old (u := .lst ((blk ds[i]).map V.int)) hL2 hb
      refine ⟨r, b, _, _, rfl, rfl, hL3, upd_same, by rw [List.length_map, List.length_map, blk_len]; exact Nat.le_of_lt (small1000 (by omega)), fun c2 hc2 => ?_⟩
      refine ⟨by show 2 ≤ sizeLine; decide, fun e he => ?_⟩
      refine ⟨c2, e, _, _, rfl, rfl, at_old upd_same he, upd_same, by rw [List.length_append, List.length_map, List.length_map, blk_len]; exact Nat.le_of_lt (small1000 (by show (Wm.pre (ds.take i)).length + 2 * ds[i] + 2 ≤ 1000; omega)), fun f hf => ?_⟩
      have sA := (((sm.trans (same_new (o := .lst [V.int 1, V.int 0]) ha)).trans (same_new (o := .lst ((blk ds[i]).map V.int)) hb)).trans (same_new (o := .lst ((Wm.pre (ds.take i)).map V.int ++ (blk ds[i]).map V.int)) hc2)).trans (same_new (o := .lst [V.int 0, V.int 0]) he)
      refine ⟨f, _, rfl, sA.trans (same_new hf), sA.free hf, ?_⟩
      rw [upd_same, tk_succ (List.getElem?_eq_getElem hi), pre_app]
      simp only [List.map_append, List.append_assoc]
      rfl
    · obtain ⟨r, v, rfl, sm, fr, hL⟩ := hP
      rw [numS_size, List.take_length] at hL
      have hp9 := pre_le ds fun d m => (N.dig d m).2
      refine ⟨_, rfl, by show 2 ≤ sizeLine; decide, fun e he => ?_⟩
      refine ⟨r, e, _, _, rfl, rfl, at_old hL he, upd_same, by rw [List.length_map]; exact Nat.le_of_lt (small1000 (by show (Wm.pre ds).length + 2 ≤ 1000; omega)), fun p hp => ?_⟩
      have sA := sm.trans (same_new (o := .lst [V.int 0, V.int 0]) he)
      refine k _ p (sA.trans (same_new hp)) (sA.free hp) ?_
      rw [upd_same, ← pre_row ds, List.map_append]
      rfl
theorem ok_whole (T : Txt K mg) : FnOk P w K mg base CX0 1 T.a_whole T.d_whole ["_law_thing"] (sp_whole K) := by
  refine T.F_whole.ok sc_whole (fun vs H Q E h => ?_) (fun cdv A outer s H vs Q E hr h => ?_)
  · obtain ⟨i, rfl, _⟩ := h
    rfl
  · obtain ⟨i, rfl, k⟩ := h
    refine ⟨_, (pss_one (ps_ret (pe_and (pe_callB call_isi (by rfl) T.z_isinstance (by decide +kernel) (pa_cons (pv 0) (pa_cons (pe_bltn (v := V.ty "int") (by rfl) T.z_int (by decide +kernel) rfl) pa_nil))) (pe_one (pe_not (pe_callB call_isi (by rfl) T.z_isinstance (by decide +kernel) (pa_cons (pv 0) (pa_cons (pe_bltn (v := V.ty "bool") (by rfl) T.z_bool (by decide +kernel) rfl) pa_nil)))))))), ?_⟩
    refine ⟨_, rfl, _, _, _, _, true, rfl, .ty "int", .base (.int _), kit_ty (by decide +kernel), true, rfl, iteT ?_⟩
    exact ⟨_, rfl, _, _, _, _, false, rfl, .ty "bool", .base (.int _), kit_ty (by decide +kernel), false, rfl, k⟩
theorem ok_strokes (T : Txt K mg) : FnOk P w K mg base CX0 2 T.a_strokes T.d_strokes ["_law_number_here"] (sp_strokes K) := by
  refine T.F_strokes.ok sc_strokes (fun vs H Q E h => ?_) (fun cdv A outer s H vs Q E hr h => ?_)
  · obtain ⟨ds, rfl, _⟩ := h
    rfl
  · obtain ⟨ds, rfl, N, k⟩ := h
    refine ⟨_, (pss_cons (ps_set (i := 1) sc_strokes.nd rfl (Or.inr rfl) (pe_call (ok_row T) (hr.mono (by decide)) (by rfl) T.g_row T.F_row.kp T.b_row .nil pass0 (pa_cons (pv 0) pa_nil)))
      (pss_one (ps_ret (pe_lc (own := [("_law_at", 2)]) (g := gName 2) rfl sc_strokes.nd (pi_range1 (by rfl) T.z_range (pa_cons (pe_callB call_len_seq (by rfl) T.z_len PySem.boot_len (pa_cons (pv 1) pa_nil)) pa_nil)) (blkOk_by (own := [("_law_at", 2)]) (N := nm_strokes) (sc := (defScope s_strokes)) (by decide +kernel)) (fun _ _ _ _ _ => pg_name (i := 2) sc_strokes.nd rfl (Or.inl rfl)) (fun _ _ _ _ _ => (pts_one (pt_cmpR op_eq (pe_ix (show IxR _ (rIxL K) from ix_list) (pv 1) (pv 2) (fun _ _ => rfl)) pe_int (nomark _)))) (fun _ _ _ _ _ => (pv 2)))))), ?_⟩
    have rl := row_le ds N
    refine ⟨_, rfl, ds, rfl, N, fun H1 r s1 fr hr => ?_⟩
    refine ⟨_, rfl, r, _, rfl, .inl (SqL.of hr), _, rfl, by rw [List.length_map]; omega, by rw [List.length_map]; omega, fun D hD => ?_⟩
    rw [List.length_map, Int.toNat_natCast]
    refine lc_it walk_range (fun i A => Same H1 A ∧ A D = some (.lst ((SIt ds i).map V.int))) ⟨same_new hD, upd_same⟩ (fun _ _ _ _ => trivial) (fun i z A A' hi hP hY => ?_) (fun A hP => ?_)
    · obtain ⟨sm, hL⟩ := hP
      obtain ⟨rfl, ez⟩ := hY
      have ez : z = .int (i : Nat) := by rw [ez]; exact congrArg V.int (Int.zero_add _)
      subst ez
      have hz : (rowL ds)[i]? = some (rowL ds)[i] := List.getElem?_eq_getElem hi
      generalize (rowL ds)[i] = z at hz
      have su := SIt_succ hz
      have le := SIt_len ds i
      refine ⟨rfl, _, rfl, _, rfl, r, _, ((i : Nat) : Int), _, rfl, rfl, SqL.of (sm _ _ hr), atI_nat (show ((rowL ds).map V.int)[i]? = some (.int z) by rw [List.getElem?_map, hz]; rfl), rfl, _, rfl, ite2 (fun c => ?_) (fun c => ?_)⟩
      · have z1 : z = 1 := V.int.inj (of_decide_eq_true c)
        refine ⟨_, rfl, _, hL, by rw [List.length_map]; exact small1000 (by omega), same_mut sm hD, ?_⟩
        rw [upd_same, su, if_pos z1, List.map_append]
        rfl
      · have z1 : z ≠ 1 := fun q => c (decide_eq_true (by rw [q]))
        refine ⟨sm, ?_⟩
        rw [su, if_neg z1, List.append_nil]
        exact hL
    · obtain ⟨sm, hL⟩ := hP
      rw [SIt_all] at hL
      exact k _ D (s1.trans sm) (s1.free hD) hL
theorem SpansAt.keep {H H' : Hp} {q : Addr} {ps : List (Nat × Nat)} (h : SpansAt K H q ps) (s : Same H H') : SpansAt K H' q ps := by
  obtain ⟨xs, h1, h2, h3⟩ := h
  refine ⟨xs, s _ _ h1, h2, fun i v hv => ?_⟩
  obtain ⟨p, hp, t, rfl, ht⟩ := h3 i v hv
  exact ⟨p, hp, t, rfl, s _ _ ht⟩
theorem ok_spans (T : Txt K mg) : FnOk P w K mg base CX0 1 T.a_spans T.d_spans ["_law_number_here"] (sp_spans K) := by
  refine T.F_spans.ok sc_spans (fun vs H Q E h => ?_) (fun cdv A outer s H vs Q E hr h => ?_)
  · obtain ⟨ds, rfl, _⟩ := h
    rfl
  · obtain ⟨ds, rfl, N, k⟩ := h
    refine ⟨_, (pss_cons (ps_set (i := 1) sc_spans.nd rfl (Or.inl rfl) (pe_lst pa_nil))
      (pss_cons (ps_set (i := 2) sc_spans.nd rfl (Or.inr rfl) pe_int)
      (pss_cons (ps_for PassesOwn.never rfl (pi_str (pv 0)) (pg_name (i := 3) sc_spans.nd rfl (Or.inl rfl))
        (pss_cons (ps_expr (pe_bm PySem.F.plainAttrs_list PySem.F.slot_list_append PySem.F.type_list_append mt_append (pv 1) (pa_cons (pe_lc (own := [("_law_k", 4)]) (g := gName 4) (tt := tYes) rfl sc_spans.nd (pi_range1 (by rfl) T.z_range (pa_cons (pe_callTy call_int_str (by rfl) T.z_int (by decide +kernel) (pa_cons (pv 3) pa_nil)) pa_nil)) (blkOk_by (own := [("_law_k", 4)]) (N := nm_spans) (sc := (defScope s_spans)) (by decide +kernel)) (fun _ _ _ _ _ => pg_name (i := 4) sc_spans.nd rfl (Or.inl rfl)) (fun _ _ _ _ _ => pts_nil) (fun _ _ _ _ _ => (pe_op op_add (pv 2) (pe_op op_mul pe_int (pv 4))))) pa_nil)))
        (pss_one (ps_set (i := 2) sc_spans.nd rfl (Or.inr rfl) (pe_op op_add (pe_op op_add (pv 2) (pe_op op_mul pe_int (pe_callTy call_int_str (by rfl) T.z_int (by decide +kernel) (pa_cons (pv 3) pa_nil)))) pe_int)))))
      (pss_one (ps_ret (pv 1)))))), ?_⟩
    have nl := N.len
    refine ⟨by show 0 ≤ sizeLine; exact Nat.zero_le _, fun r hr0 => ?_⟩
    have s0 := same_new (o := .lst []) hr0
    refine ⟨_, rfl, _, rfl, ?_⟩
    refine for_it walk_str (fun i σ A => ∃ v, σ = [some (.str (numS ds)), some (.ref r), some (.int ((2 * ((ds.take i).sum + i) : Nat) : Int)), v, none] ∧ Same H A ∧ SpansAt K A r (spans 0 (ds.take i)))
      ⟨none, rfl, s0, [], upd_same, rfl, fun i v hv => by simp at hv⟩ (fun _ _ _ _ _ => trivial) (fun i x σ A A' hi hP hY => ?_) (fun σ A hP => ?_)
    · obtain ⟨v, rfl, sm, xs, h3, h4, h5⟩ := hP
      obtain ⟨rfl, c, hc, rfl⟩ := hY
      rw [numS_size] at hi
      rw [numS_at ds i hi] at hc
      have hc' := (Option.some.inj hc).symm
      subst hc'
      have hd := N.dig _ (List.getElem_mem hi)
      have hz : ds[i]? = some ds[i] := List.getElem?_eq_getElem hi
      generalize ds[i] = z at hd hz
      have tk := tk_succ hz
      rw [spans_len, List.length_take] at h4
      refine ⟨_, rfl, .inl ⟨rfl, _, SqL.of h3⟩, _, rfl, _, _, rfl, dig_int hd, (by show 1 ≤ 640; decide), _, rfl, by omega, by omega, fun D hD => ?_⟩
      rw [Int.toNat_natCast]
      refine lc_it walk_range (fun j B => Same A' B ∧ B D = some (.lst (((spanI (2 * ((ds.take i).sum + i), z)).take j).map V.int))) ⟨same_new hD, by rw [upd_same]; rfl⟩ (fun _ _ _ _ => trivial) (fun j u B B' hj hP hY => ?_) (fun B hP => ?_)
      · obtain ⟨sb, hL⟩ := hP
        obtain ⟨rfl, eu⟩ := hY
        have eu : u = .int (j : Nat) := by rw [eu]; exact congrArg V.int (Int.zero_add _)
        subst eu
        have sj : (spanI (2 * ((ds.take i).sum + i), z))[j]? = some (((2 * ((ds.take i).sum + i) : Nat) : Int) + 2 * (j : Nat)) := by
          unfold spanI
          rw [List.getElem?_map, List.getElem?_range hj]
          rfl
        refine ⟨rfl, yesT ⟨_, rfl, _, rfl, _, _, rfl, rfl, .inl ⟨by decide, by decide⟩, _, _, rfl, rfl, _, hL, by rw [List.length_map, List.length_take]; exact small1000 (by omega), same_mut sb hD, ?_⟩⟩
        rw [upd_same, tk_succ sj, List.map_append]
        rfl
      · obtain ⟨sb, hL⟩ := hP
        rw [List.take_of_length_le (by unfold spanI; rw [List.length_map, List.length_range]; exact Nat.le_refl _)] at hL
        have h3b := sb _ _ h3
        have sAB := sm.trans sb
        have Dr : D ≠ r := (ne_of_none h3 hD).symm
        refine ⟨r, xs, _, rfl, rfl, h3b, small1000 (by omega), ?_⟩
        refine ⟨_, rfl, _, rfl, _, _, rfl, dig_int hd, (by show 1 ≤ 640; decide), _, _, rfl, rfl, .inl ⟨by decide, by decide⟩, _, _, rfl, rfl, _, _, rfl, rfl, ?_⟩
        have eS : (((2 * ((ds.take i).sum + i) : Nat) : Int) + 2 * (z : Int) + 2) = ((2 * ((ds.take (i + 1)).sum + (i + 1)) : Nat) : Int) := by
          rw [tk, List.sum_append, List.sum_cons, List.sum_nil]
          omega
        refine ⟨_, by rw [← eS]; rfl, same_mut sAB hr0, _, upd_same, ?_, fun j v hv => ?_⟩
        · rw [List.length_append, h4, spans_len, tk, List.length_append, List.length_take]
          rfl
        rw [tk, spans_app, List.length_take, Nat.min_eq_left (by omega), Nat.zero_add]
        by_cases c : j < xs.length
        · rw [List.getElem?_append_left c] at hv
          obtain ⟨g, hg, u, rfl, hu⟩ := h5 j v hv
          have ur : u ≠ r := fun w => by
            rw [w, h3] at hu
            have hu := Option.some.inj hu
            injection hu with hu
            rw [hu] at hv
            rw [List.getElem?_map] at hv
            obtain ⟨n, _, en⟩ := Option.map_eq_some_iff.mp hv
            cases en
          refine ⟨g, by rw [List.getElem?_append_left (by rw [spans_len, List.length_take]; omega)]; exact hg, u, rfl, by rw [upd_ne ur]; exact sb _ _ hu⟩
        · rw [List.getElem?_append_right (by omega)] at hv
          have j0 : j - xs.length = 0 := by
            by_cases q : j - xs.length = 0
            · exact q
            · rw [List.getElem?_eq_none (by rw [List.length_singleton]; omega)] at hv
              cases hv
          rw [j0] at hv
          have ev : V.ref D = v := by simpa using hv
          subst ev
          refine ⟨_, by rw [List.getElem?_append_right (by rw [spans_len, List.length_take]; omega), spans_len, List.length_take, show j - min i ds.length = 0 by omega]; rfl, D, rfl, ?_⟩
          rw [upd_ne Dr]
          exact hL
    · obtain ⟨v, rfl, sm, h3⟩ := hP
      rw [numS_size, List.take_length] at h3
      exact ⟨_, rfl, k _ r sm hr0 h3⟩
end
end K11

namespace K11
open PySem L2 Wm TL Dv
section
variable {P : Program} {w : World} {K : PySem.W.Frag} {mg : Str → Option Value} {base : Heap}
def outF (a : Int) (es : List Nat) : Int → Bool := fun k => !decide (k + a ∈ SI es)
theorem out_nil {ds es : List Nat} {a : Int} : decide ((SI ds).filter (outF a es) = []) = insB ds es a := by
  rw [Bool.eq_iff_iff, decide_eq_true_iff, ins_iff, List.filter_eq_nil_iff]
  unfold outF
  exact ⟨fun h k mk => by have := h k mk; simpa using this, fun h k mk => by simp [h k mk]⟩
theorem ok_due (T : Txt K mg) : FnOk P w K mg base CX0 3 T.a_due T.d_due ["_law_number_here", "_law_within"] (sp_due K) := by
  refine T.F_due.ok sc_due (fun vs H Q E h => ?_) (fun cdv A outer s H vs Q E hr h => ?_)
  · obtain ⟨ds, es, rfl, _⟩ := h
    rfl
  · obtain ⟨ds, es, rfl, N, M, k⟩ := h
    refine ⟨_, (pss_cons (ps_set (i := 2) sc_due.nd rfl (Or.inr rfl) (pe_call (ok_strokes T) (hr.mono (by decide)) (by rfl) T.g_strokes T.F_strokes.kp T.b_strokes .nil pass0 (pa_cons (pv 0) pa_nil)))
      (pss_cons (ps_set (i := 3) sc_due.nd rfl (Or.inr rfl) (pe_call (ok_strokes T) (hr.mono (by decide)) (by rfl) T.g_strokes T.F_strokes.kp T.b_strokes .nil pass0 (pa_cons (pv 1) pa_nil)))
      (pss_one (ps_ret (pe_lc (own := [("_law_at", 4)]) (g := gName 4) rfl sc_due.nd (pi_range1 (by rfl) T.z_range (pa_cons (pe_callB call_len_seq (by rfl) T.z_len PySem.boot_len (pa_cons (pe_call (ok_row T) (hr.mono (by decide)) (by rfl) T.g_row T.F_row.kp T.b_row .nil pass0 (pa_cons (pv 1) pa_nil)) pa_nil)) pa_nil)) (blkOk_by (own := [("_law_at", 4)]) (N := nm_due) (sc := (defScope s_due)) (by decide +kernel)) (fun _ _ _ _ _ => pg_name (i := 4) sc_due.nd rfl (Or.inr rfl)) (fun _ _ _ _ _ => (pts_one (pt_cmpR (show OpR _ _ (rEqD K) from op_eqD hr.units) (pe_lc (own := [("_law_one", 5)]) (g := gName 5) rfl sc_due.nd (show PI _ _ _ (iList K (tVar 2)) from (pi_list (pv 2))) (blkOk_by (own := [("_law_one", 5)]) (N := nm_due) (sc := ({ kind := .function, names := [(".0", .local), ("_law_at", .cell), ("_law_mine", .cell), ("_law_under", .cell)], isGenerator := false, isCoroutine := false } : Scope)) (by decide +kernel)) (fun _ _ _ _ _ => pg_name (i := 5) sc_due.nd rfl (Or.inl rfl)) (fun _ _ _ _ _ => (pts_one (pt_cmpR (show OpR _ _ (rIn K true) from op_notIn_seq) (pe_op op_add (pv 5) (pv 4)) (pv 3) rfl))) (fun _ _ _ _ _ => (pv 5))) (pe_lst pa_nil) (nomark _)))) (fun _ _ _ _ _ => (pv 4))))))), ?_⟩
    have rl := row_le es M
    have fd := (SI_off N).few
    refine ⟨_, rfl, ds, rfl, N, fun H1 p1 s1 f1 h1 => ?_⟩
    refine ⟨_, rfl, es, rfl, M, fun H2 p2 s2 f2 h2 => ?_⟩
    have h1 := s2 _ _ h1
    refine ⟨_, rfl, es, rfl, M, fun H3 r s3 f3 hr => ?_⟩
    have h1 := s3 _ _ h1
    have h2 := s3 _ _ h2
    have s13 := (s1.trans s2).trans s3
    refine ⟨r, _, rfl, .inl (SqL.of hr), _, rfl, by rw [List.length_map]; omega, by rw [List.length_map]; omega, fun D hD => ?_⟩
    rw [List.length_map, Int.toNat_natCast]
    refine lc_it walk_range (fun i A => Same H3 A ∧ A D = some (.lst (((((List.range (rowL es).length).map fun (i : Nat) => (i : Int)).take i).filter (insB ds es)).map V.int))) ⟨same_new hD, by rw [upd_same]; rfl⟩ (fun _ _ _ _ => trivial) (fun i z A A' hi hP hY => ?_) (fun A hP => ?_)
    · obtain ⟨sm, hL⟩ := hP
      obtain ⟨rfl, ez⟩ := hY
      have ez : z = .int (i : Nat) := by rw [ez]; exact congrArg V.int (Int.zero_add _)
      subst ez
      have evI : ((List.range (rowL es).length).map fun (i : Nat) => (i : Int))[i]? = some ((i : Nat) : Int) := by
        rw [List.getElem?_map, List.getElem?_range hi]
        rfl
      have le : ((((List.range (rowL es).length).map fun (i : Nat) => (i : Int)).take i).filter (insB ds es)).length ≤ 100 := Nat.le_trans (List.length_filter_le _ _) (by rw [List.length_take, List.length_map, List.length_range]; omega)
      refine ⟨rfl, _, rfl, p1, rfl, ⟨_, SqL.of (sm _ _ h1)⟩, fun D2 hD2 => ?_⟩
      refine lc_list (xs := (SI ds).map V.int) (fun j B => Same A' B ∧ B D2 = some (.lst ((((SI ds).take j).filter (outF i es)).map V.int))) ⟨same_new hD2, by rw [upd_same]; rfl⟩ (fun j B _ hP => SqL.of (hP.1 _ _ (sm _ _ h1))) (fun j u B hu hP => ?_) (fun B hP => ?_)
      · obtain ⟨sb, hB⟩ := hP
        rw [List.getElem?_map] at hu
        obtain ⟨n, hn, rfl⟩ := Option.map_eq_some_iff.mp hu
        have le2 : (((SI ds).take j).filter (outF i es)).length ≤ 100 := Nat.le_trans (List.length_filter_le _ _) (by rw [List.length_take]; omega)
        refine ⟨rfl, _, rfl, _, rfl, _, _, rfl, rfl, _, rfl, p2, _, rfl, .inl (SqL.of (sb _ _ (sm _ _ h2))), rfl, flat_ints _, _, rfl, ite2 (fun c => ?_) (fun c => ?_)⟩
        · rw [in_ints] at c
          have c' : outF i es n = true := c
          refine ⟨_, rfl, _, hB, by rw [List.length_map]; exact small_fit le2, same_mut sb hD2, ?_⟩
          rw [upd_same, tk_succ hn, List.filter_append, List.filter_cons, if_pos c', List.map_append]
          rfl
        · rw [in_ints] at c
          have c' : ¬ outF i es n = true := c
          refine ⟨sb, ?_⟩
          rw [tk_succ hn, List.filter_append, List.filter_cons, if_neg c', List.filter_nil, List.append_nil]
          exact hB
      · obtain ⟨sb, hB⟩ := hP
        rw [List.length_map, List.take_length] at hB
        refine ⟨by show 0 ≤ sizeLine; exact Nat.zero_le _, fun u hu => ?_⟩
        have su := same_new (o := .lst []) hu
        refine ⟨.list (((SI ds).filter (outF i es)).map PyData.int), .list [], .lst (SqL.of (su _ _ hB)) (dp_ints _), .lst (SqL.of upd_same) .nil, shl _, shl [], _, rfl, ?_⟩
        rw [show PyData.eqv (.list (((SI ds).filter (outF i es)).map PyData.int)) (.list []) = decide ((SI ds).filter (outF i es) = []) from eqv_lst _ [], out_nil]
        have sA := sb.trans su
        have sm3 := sm.trans sA
        have hL3 := sA _ _ hL
        cases cc : insB ds es (i : Int) with
        | true =>
          refine iteT ⟨_, rfl, _, hL3, by rw [List.length_map]; exact small_fit le, same_mut sm3 hD, ?_⟩
          rw [upd_same, tk_succ evI, List.filter_append, List.filter_cons, if_pos cc, List.map_append]
          rfl
        | false =>
          refine iteF ⟨sm3, ?_⟩
          rw [tk_succ evI, List.filter_append, List.filter_cons, if_neg (by rw [cc]; simp), List.filter_nil, List.append_nil]
          exact hL3
    · obtain ⟨sm, hL⟩ := hP
      rw [List.take_of_length_le (by rw [List.length_map, List.length_range]; exact Nat.le_refl _)] at hL
      exact k _ D (s13.trans sm) (s13.free hD) hL
theorem span_mem {p : Nat × Nat} {k : Int} : k ∈ spanI p ↔ ∃ j : Nat, j < p.2 ∧ k = (p.1 : Int) + 2 * (j : Int) := by
  unfold spanI
  rw [List.mem_map]
  constructor
  · rintro ⟨j, m, rfl⟩
    exact ⟨j, List.mem_range.mp m, rfl⟩
  · rintro ⟨j, m, rfl⟩
    exact ⟨j, List.mem_range.mpr m, rfl⟩
theorem span_in {a : Int} {p q : Nat × Nat} (h1 : p.1 % 2 = 0) (h2 : 1 ≤ p.2) (h3 : q.1 % 2 = 0) : decide ((spanI p).filter (fun k => !decide (k + a ∈ spanI q)) = []) = inB a p q := by
  rw [Bool.eq_iff_iff, decide_eq_true_iff, inB_iff h1 h2 h3, List.filter_eq_nil_iff]
  constructor
  · intro h j hj
    have := h _ (span_mem.mpr ⟨j, hj, rfl⟩)
    simp only [Bool.not_eq_true', decide_eq_false_iff_not, Decidable.not_not] at this
    obtain ⟨i, hi, e⟩ := span_mem.mp this
    exact ⟨i, hi, e⟩
  · intro h k mk
    obtain ⟨j, hj, rfl⟩ := span_mem.mp mk
    obtain ⟨i, hi, e⟩ := h j hj
    simp only [Bool.not_eq_true', decide_eq_false_iff_not, Decidable.not_not]
    exact span_mem.mpr ⟨i, hi, e⟩
/-- the places of the blocks within which p lies -/
structure Ins (a : Int) (qs : List (Nat × Nat)) (p : Nat × Nat) (j : Nat) (ls : List Nat) : Prop where
  up : ls.Pairwise (· < ·)
  mem : ∀ k, k ∈ ls ↔ k < j ∧ ∃ q, qs[k]? = some q ∧ inB a p q = true
  len : ls.length ≤ j
theorem Ins.yes {a : Int} {qs : List (Nat × Nat)} {p q : Nat × Nat} {j : Nat} {ls : List Nat} (h : Ins a qs p j ls) (hq : qs[j]? = some q) (c : inB a p q = true) : Ins a qs p (j + 1) (ls ++ [j]) :=
  ⟨List.pairwise_append.mpr ⟨h.up, List.pairwise_singleton _ _, fun x mx y my => by rw [List.mem_singleton.mp my]; exact ((h.mem x).mp mx).1⟩, fun k => by
    rw [List.mem_append, h.mem, List.mem_singleton]
    constructor
    · rintro (⟨x, y⟩ | rfl)
      · exact ⟨by omega, y⟩
      · exact ⟨by omega, q, hq, c⟩
    · rintro ⟨x, y⟩
      by_cases e : k = j
      · exact .inr e
      · exact .inl ⟨by omega, y⟩, by rw [List.length_append, List.length_singleton]; have := h.len; omega⟩
theorem Ins.no {a : Int} {qs : List (Nat × Nat)} {p q : Nat × Nat} {j : Nat} {ls : List Nat} (h : Ins a qs p j ls) (hq : qs[j]? = some q) (c : inB a p q = false) : Ins a qs p (j + 1) ls :=
  ⟨h.up, fun k => by
    rw [h.mem]
    constructor
    · rintro ⟨x, y⟩
      exact ⟨by omega, y⟩
    · rintro ⟨x, q2, y, z⟩
      refine ⟨?_, q2, y, z⟩
      by_cases e : k = j
      · subst e
        rw [hq] at y
        cases y
        rw [c] at z
        cases z
      · omega, by have := h.len; omega⟩
theorem Ins.home {a : Int} {qs : List (Nat × Nat)} {p : Nat × Nat} {ls : List Nat} (h : Ins a qs p qs.length ls) : home a qs p = ls.head? := by
  unfold Wm.home
  cases ls with
  | nil =>
    rw [List.head?_nil]
    refine List.findIdx?_eq_none_iff.mpr fun q mq => ?_
    obtain ⟨k, hk, e⟩ := List.mem_iff_getElem.mp mq
    cases c : inB a p q with
    | false => rfl
    | true =>
      have := (h.mem k).mpr ⟨hk, q, by rw [List.getElem?_eq_getElem hk, e], c⟩
      cases this
  | cons i ls =>
    rw [List.head?_cons]
    obtain ⟨x, q, y, z⟩ := (h.mem i).mp List.mem_cons_self
    obtain ⟨hi, e⟩ := List.getElem?_eq_some_iff.mp y
    refine List.findIdx?_eq_some_iff_getElem.mpr ⟨hi, by rw [e]; exact z, fun j hj => ?_⟩
    intro w
    have m := (h.mem j).mpr ⟨by omega, _, List.getElem?_eq_getElem (by omega), w⟩
    have up := h.up
    rw [List.pairwise_cons] at up
    rcases List.mem_cons.mp m with e2 | m
    · omega
    · have := up.1 j m
      omega
theorem ok_blocks_due (T : Txt K mg) : FnOk P w K mg base CX0 2 T.a_blocks_due T.d_blocks_due ["_law_number_here", "_law_within", "_law_at"] (sp_blocks_due K) := by
  refine T.F_blocks_due.ok sc_blocks_due (fun vs H Q E h => ?_) (fun cdv A outer s H vs Q E hr h => ?_)
  · obtain ⟨ds, es, a, rfl, _⟩ := h
    rfl
  · obtain ⟨ds, es, a, rfl, N, M, k⟩ := h
    refine ⟨_, (pss_cons (ps_set (i := 3) sc_blocks_due.nd rfl (Or.inr rfl) (pe_call (ok_spans T) (hr.mono (by decide)) (by rfl) T.g_spans T.F_spans.kp T.b_spans .nil pass0 (pa_cons (pv 1) pa_nil)))
      (pss_cons (ps_set (i := 4) sc_blocks_due.nd rfl (Or.inl rfl) (pe_lst pa_nil))
      (pss_cons (ps_for PassesOwn.never rfl (pi_list (pe_call (ok_spans T) (hr.mono (by decide)) (by rfl) T.g_spans T.F_spans.kp T.b_spans .nil pass0 (pa_cons (pv 0) pa_nil))) (pg_name (i := 5) sc_blocks_due.nd rfl (Or.inr rfl))
        (pss_cons (ps_setLc (i := 6) (own := [("_law_k", 7)]) (g := gName 7) rfl sc_blocks_due.nd rfl rfl (sw_true rfl rfl rfl (by decide +kernel)) (pi_range1 (by rfl) T.z_range (pa_cons (pe_callB call_len_seq (by rfl) T.z_len PySem.boot_len (pa_cons (pv 3) pa_nil)) pa_nil)) (blkOk_by (own := [("_law_k", 7)]) (N := nm_blocks_due) (sc := (defScope s_blocks_due)) (by decide +kernel)) (fun _ _ _ _ _ => pg_name (i := 7) sc_blocks_due.nd rfl (Or.inr rfl)) (fun _ _ _ _ _ => (pts_one (pt_cmpR (show OpR _ _ (rEqD K) from op_eqD hr.units) (pe_lc (own := [("_law_one", 8)]) (g := gName 8) rfl sc_blocks_due.nd (show PI _ _ _ (iList K (tVar 5)) from (pi_list (pv 5))) (blkOk_by (own := [("_law_one", 8)]) (N := nm_blocks_due) (sc := ({ kind := .function, names := [(".0", .local), ("_law_k", .cell), ("_law_at", .cell), ("_law_block", .cell), ("_law_spans_here", .cell)], isGenerator := false, isCoroutine := false } : Scope)) (by decide +kernel)) (fun _ _ _ _ _ => pg_name (i := 8) sc_blocks_due.nd rfl (Or.inl rfl)) (fun _ _ _ _ _ => (pts_one (pt_cmpR (show OpR _ _ (rIn K true) from op_notIn_seq) (pe_op op_add (pv 8) (pv 2)) (pe_ix (show IxR _ (rIxL K) from ix_list) (pv 3) (pv 7) (fun _ _ => rfl)) rfl))) (fun _ _ _ _ _ => (pv 8))) (pe_lst pa_nil) (nomark _)))) (fun _ _ _ _ _ => (pv 7)))
        (pss_cons (ps_if (pt_cmpR (op_eqD hr.units) (pv 6) (pe_lst pa_nil) (nomark _))
          (pss_one (ps_ret (pe_tup pa_nil)))
          pss_nil)
        (pss_one (ps_expr (pe_bm PySem.F.plainAttrs_list PySem.F.slot_list_append PySem.F.type_list_append mt_append (pv 4) (pa_cons (pe_ix ix_list (pv 6) pe_int (fun _ _ => rfl)) pa_nil)))))))
      (pss_one (ps_ret (pe_callTy call_tuple_of (by rfl) T.z_tuple (by decide +kernel) (pa_cons (pv 4) pa_nil))))))), ?_⟩
    have nl := N.len
    have ml := M.len
    have Lp := spans_len 0 ds
    have Lq := spans_len 0 es
    refine ⟨_, rfl, es, rfl, M, fun H1 q s1 f1 e1 => ?_⟩
    refine ⟨by show 0 ≤ sizeLine; exact Nat.zero_le _, fun r hr => ?_⟩
    have sr := same_new (o := .lst []) hr
    refine ⟨_, rfl, ds, rfl, N, fun H2 p s2 f2 e2 => ?_⟩
    have hr2 : H2 r = some (.lst []) := s2 _ _ upd_same
    have s02 := (s1.trans sr).trans s2
    have s12 := sr.trans s2
    obtain ⟨xs, hp, hl, hx⟩ := e2
    have pr : p ≠ r := fun z => by
      rw [z, hr2] at hp
      have := Option.some.inj hp
      injection this with e
      rw [← e, List.length_nil, spans_len] at hl
      have := N.pos
      omega
    refine ⟨p, rfl, ⟨_, SqL.of hp⟩, ?_⟩
    refine for_list (xs := xs) (fun i σ A => ∃ v5 v6, σ = [some (.str (numS ds)), some (.str (numS es)), some (.int a), some (.ref q), some (.ref r), v5, v6, none, none] ∧ (∀ b o, b ≠ r → H2 b = some o → A b = some o) ∧ Same H1 A ∧ A r = some (.lst (((spans 0 ds).take i).map fun g => V.int (((home a (spans 0 es) g).getD 0 : Nat) : Int))) ∧ ∀ g ∈ (spans 0 ds).take i, (home a (spans 0 es) g).isSome = true)
      ⟨none, none, rfl, fun _ _ _ h => h, s12, hr2, fun g m => by simp at m⟩ (fun i σ A _ hP => let ⟨_, _, _, s, _⟩ := hP; SqL.of (s _ _ pr hp)) (fun i v σ A hv hP => ?_) (fun σ A hP => ?_)
    · obtain ⟨v5, v6, rfl, sm, s0, hL, al⟩ := hP
      obtain ⟨g, hg, t, rfl, ht⟩ := hx i v hv
      have mg := List.mem_of_getElem? hg
      have gg := spans_ge ds 0 g mg
      have g2 := (N.dig _ gg.2.2).1
      have tr : t ≠ r := fun z => by
        rw [z, hr2] at ht
        have := Option.some.inj ht
        injection this with e
        have := congrArg List.length e
        unfold spanI at this
        rw [List.length_nil, List.length_map, List.length_map, List.length_range] at this
        omega
      have ht := sm _ _ tr ht
      have tk := tk_succ hg
      obtain ⟨ys, hq, hl2, hy⟩ := e1.keep s0
      refine ⟨_, rfl, q, _, rfl, .inl (SqL.of hq), _, rfl, by omega, by omega, fun D hD => ?_⟩
      rw [Int.toNat_natCast]
      refine lc_it walk_range (fun j B => Same A B ∧ ∃ ls, Ins a (spans 0 es) g j ls ∧ B D = some (.lst ((ls.map fun (k : Nat) => (k : Int)).map V.int))) ⟨same_new hD, [], ⟨.nil, fun k => ⟨fun z => absurd z List.not_mem_nil, fun z => absurd z.1 (Nat.not_lt_zero _)⟩, Nat.le_refl _⟩, by rw [upd_same]; rfl⟩ (fun _ _ _ _ => trivial) (fun j u B B' hj hP hY => ?_) (fun B hP => ?_)
      · obtain ⟨sb, ls, I, hB⟩ := hP
        obtain ⟨rfl, eu⟩ := hY
        have eu : u = .int (j : Nat) := by rw [eu]; exact congrArg V.int (Int.zero_add _)
        subst eu
        have hyj : ys[j]? = some ys[j] := List.getElem?_eq_getElem hj
        obtain ⟨q2, hq2, t2, et2, ht2⟩ := hy j _ hyj
        rw [et2] at hyj
        have gq := spans_ge es 0 q2 (List.mem_of_getElem? hq2)
        have hq := sb _ _ hq
        have ht2 := sb _ _ ht2
        have ht := sb _ _ ht
        have ld : g.2 ≤ 9 := (N.dig _ gg.2.2).2
        have sl : (spanI g).length ≤ 9 := by unfold spanI; rw [List.length_map, List.length_range]; exact ld
        refine ⟨rfl, _, rfl, t, rfl, ⟨_, SqL.of ht⟩, fun D2 hD2 => ?_⟩
        refine lc_list (xs := (spanI g).map V.int) (fun m E => Same B' E ∧ E D2 = some (.lst ((((spanI g).take m).filter (fun k => !decide (k + a ∈ spanI q2))).map V.int))) ⟨same_new hD2, by rw [upd_same]; rfl⟩ (fun m E _ hP => SqL.of (hP.1 _ _ ht)) (fun m u E hu hP => ?_) (fun E hP => ?_)
        · obtain ⟨se, hE⟩ := hP
          rw [List.getElem?_map] at hu
          obtain ⟨n, hn, rfl⟩ := Option.map_eq_some_iff.mp hu
          have le2 : (((spanI g).take m).filter (fun k => !decide (k + a ∈ spanI q2))).length ≤ 100 := Nat.le_trans (List.length_filter_le _ _) (by rw [List.length_take]; omega)
          refine ⟨rfl, _, rfl, _, rfl, _, _, rfl, rfl, _, rfl, _, rfl, q, ys, ((j : Nat) : Int), _, rfl, rfl, SqL.of (se _ _ hq), atI_nat hyj, t2, _, rfl, .inl (SqL.of (se _ _ ht2)), rfl, flat_ints _, _, rfl, ite2 (fun c => ?_) (fun c => ?_)⟩
          · rw [in_ints] at c
            have c' : (fun k => !decide (k + a ∈ spanI q2)) n = true := c
            refine ⟨_, rfl, _, hE, by rw [List.length_map]; exact small_fit le2, same_mut se hD2, ?_⟩
            rw [upd_same, tk_succ hn, List.filter_append, List.filter_cons, if_pos c', List.map_append]
            rfl
          · rw [in_ints] at c
            have c' : ¬ (fun k => !decide (k + a ∈ spanI q2)) n = true := c
            refine ⟨se, ?_⟩
            rw [tk_succ hn, List.filter_append, List.filter_cons, if_neg c', List.filter_nil, List.append_nil]
            exact hE
        · obtain ⟨se, hE⟩ := hP
          rw [List.length_map, List.take_length] at hE
          refine ⟨by show 0 ≤ sizeLine; exact Nat.zero_le _, fun u hu => ?_⟩
          have su := same_new (o := .lst []) hu
          refine ⟨.list (((spanI g).filter (fun k => !decide (k + a ∈ spanI q2))).map PyData.int), .list [], .lst (SqL.of (su _ _ hE)) (dp_ints _), .lst (SqL.of upd_same) .nil, shl _, shl [], _, rfl, ?_⟩
          rw [show PyData.eqv (.list (((spanI g).filter (fun k => !decide (k + a ∈ spanI q2))).map PyData.int)) (.list []) = decide ((spanI g).filter (fun k => !decide (k + a ∈ spanI q2)) = []) from eqv_lst _ [], span_in gg.2.1 g2 gq.2.1]
          have sA := se.trans su
          have hB3 := sA _ _ hB
          have il := I.len
          cases cc : inB a g q2 with
          | true =>
            refine iteT ⟨_, rfl, _, hB3, by rw [List.length_map, List.length_map]; exact small_fit (by omega), same_mut (sb.trans sA) hD, ls ++ [j], I.yes hq2 cc, ?_⟩
            rw [upd_same, List.map_append, List.map_append]
            rfl
          | false => exact iteF ⟨sb.trans sA, ls, I.no hq2 cc, hB3⟩
      · obtain ⟨sb, ls, I, hB⟩ := hP
        rw [hl2] at I
        have hm := I.home
        refine ⟨_, rfl, by show 0 ≤ sizeLine; exact Nat.zero_le _, fun u hu => ?_⟩
        have su := same_new (o := .lst []) hu
        refine ⟨.list ((ls.map fun (k : Nat) => (k : Int)).map PyData.int), .list [], .lst (SqL.of (su _ _ hB)) (dp_ints _), .lst (SqL.of upd_same) .nil, shl _, shl [], _, rfl, ?_⟩
        rw [show PyData.eqv (.list ((ls.map fun (k : Nat) => (k : Int)).map PyData.int)) (.list []) = decide ((ls.map fun (k : Nat) => (k : Int)) = []) from eqv_lst _ []]
        have sbu := sb.trans su
        have s0u := s0.trans sbu
        cases ls with
        | nil =>
          refine iteT ⟨by show 0 ≤ sizeLine; exact Nat.zero_le _, fun w hw => k _ w ((s1.trans s0u).trans (same_new hw)) ?_⟩
          unfold fitV
          rw [fit_none mg hm]
          exact upd_same
        | cons i0 ls =>
          have hL2 := sbu _ _ hL
          refine iteN (by simp) ⟨_, rfl, .inl ⟨rfl, _, SqL.of hL2⟩, _, rfl, D, _, 0, _, rfl, rfl, SqL.of (su _ _ hB), atI_nat (j := 0) rfl, r, _, _, rfl, rfl, hL2, by rw [List.length_map, List.length_take]; exact small_fit (by omega), ?_⟩
          refine ⟨_, _, rfl, fun b o nb e => by rw [upd_ne nb]; exact sbu _ _ (sm b o nb e), same_mut s0u hr, ?_, fun g3 m3 => ?_⟩
          · rw [upd_same, tk, List.map_append, List.map_cons, hm]
            rfl
          · rw [tk] at m3
            rcases List.mem_append.mp m3 with m3 | m3
            · exact al g3 m3
            · rw [List.mem_singleton.mp m3, hm]
              rfl
    · obtain ⟨v5, v6, rfl, sm, s0, hL, al⟩ := hP
      rw [hl, List.take_length] at hL al
      refine ⟨_, rfl, r, _, rfl, .inl ⟨SqL.of hL, fun t ht => k _ t ((s1.trans s0).trans (same_new ht)) ?_⟩⟩
      unfold fitV FitL
      rw [if_pos (List.all_eq_true.mpr al), upd_same, List.map_map]
      rfl
end
end K11

namespace K11
open PySem L2 Wm TL Dv
section
variable {P : Program} {w : World} {K : PySem.W.Frag} {mg : Str → Option Value} {base : Heap}
def FI (a : Int) (ds es : List Nat) : List Int := (FitL a ds es).map fun (i : Nat) => (i : Int)
theorem fitV_eq (a : Int) (ds es : List Nat) : fitV a ds es = (FI a ds es).map V.int := by
  unfold fitV FI
  rw [List.map_map]
  rfl
theorem FI_ne {a : Int} {ds es : List Nat} (N : Num ds) : (!decide (FI a ds es = [])) = decide (a ∈ DI ds es) := by
  have h : insB ds es a = decide (a ∈ DI ds es) := by
    rw [Bool.eq_iff_iff, decide_eq_true_iff, DI_mem N]
  rw [← h, ← fit_ne N]
  unfold FI
  by_cases c : FitL a ds es = []
  · rw [c]; simp
  · have : ¬ (FitL a ds es).map (fun (i : Nat) => (i : Int)) = [] := fun z => c (List.map_eq_nil_iff.mp z)
    rw [decide_eq_false this, decide_eq_true c]
    rfl
theorem DI_len (ds es : List Nat) (M : Num es) : (DI ds es).length ≤ 100 := by
  unfold DI
  refine Nat.le_trans (List.length_filter_le _ _) ?_
  rw [List.length_map, List.length_range]
  exact row_le es M
theorem ok_pair (T : Txt K mg) : FnOk P w K mg base CX0 8 T.a_pair T.d_pair ["_law_number_here", "_law_within"] (sp_pair K) := by
  refine T.F_pair.ok sc_pair (fun vs H Q E h => ?_) (fun cdv A outer s H vs Q E hr h => ?_)
  · obtain ⟨ds, es, rfl, _⟩ := h
    rfl
  · obtain ⟨ds, es, rfl, N, M, k⟩ := h
    refine ⟨_, (pss_cons (ps_set (i := 2) sc_pair.nd rfl (Or.inl rfl) (pe_call (ok_due T) (hr.mono (by decide)) (by rfl) T.g_due T.F_due.kp T.b_due .nil pass0 (pa_cons (pv 0) (pa_cons (pv 1) pa_nil))))
      (pss_cons (ps_set (i := 3) sc_pair.nd rfl (Or.inl rfl) (pe_call (ok_fits T) (hr.mono (by decide)) (by rfl) T.g_fits T.F_fits.kp T.b_fits .nil Mk1.passF (pa_cons (pv 0) (pa_cons (pv 1) pa_nil))))
      (pss_cons (ps_set (i := 4) sc_pair.nd rfl (Or.inl rfl) (pe_call (ok_fits_by_ticks T) (hr.mono (by decide)) (by rfl) T.g_fits_by_ticks T.F_fits_by_ticks.kp T.b_fits_by_ticks .nil Mk1.passF (pa_cons (pv 0) (pa_cons (pv 1) pa_nil))))
      (pss_cons (ps_if (PW.pt (pw_or (pt_not (pt_val (pe_callB call_isi (by rfl) T.z_isinstance (by decide +kernel) (pa_cons (pv 3) (pa_cons (pe_bltn (v := V.ty "tuple") (by rfl) T.z_tuple (by decide +kernel) rfl) pa_nil))))) (pw_or1 (pt_not (pt_val (pe_callB call_isi (by rfl) T.z_isinstance (by decide +kernel) (pa_cons (pv 4) (pa_cons (pe_bltn (v := V.ty "tuple") (by rfl) T.z_tuple (by decide +kernel) rfl) pa_nil))))))))
        (pss_one (ps_ret pe_bl))
        pss_nil)
      (C8.pss_cut (ps_if (PW.pt (pw_or (pt_cmpR (op_neD hr.units) (pe_callTy call_list_of (by rfl) T.z_list (by decide +kernel) (pa_cons (pv 3) pa_nil)) (pv 2) (nomark _)) (pw_or (pt_cmpR (op_neD hr.units) (pe_callTy call_list_of (by rfl) T.z_list (by decide +kernel) (pa_cons (pv 4) pa_nil)) (pv 2) (nomark _)) (pw_or1 (pt_cmpR (op_neD hr.units) (pe_lc (own := [("_law_at", 5)]) (g := gName 5) rfl sc_pair.nd (pi_tup (pe_op op_catA (pv 3) (pv 4))) (blkOk_by (own := [("_law_at", 5)]) (N := nm_pair) (sc := (defScope s_pair)) (by decide +kernel)) (fun _ _ _ _ _ => pg_name (i := 5) sc_pair.nd rfl (Or.inl rfl)) (fun _ _ _ _ _ => (pts_one (pt_not (pt_val (pe_call (ok_whole T) (hr.mono (by decide)) (by rfl) T.g_whole T.F_whole.kp T.b_whole .nil pass0 (pa_cons (pv 5) pa_nil)))))) (fun _ _ _ _ _ => (pv 5))) (pe_lst pa_nil) (nomark _))))))
        (pss_one (ps_ret pe_bl))
        pss_nil)
      (pss_cons (ps_for PassesOwn.never rfl (pi_range2 (by rfl) T.z_range (pa_cons (pe_op op_sub (pe_un un_neg pe_int) (pe_callB call_len_seq (by rfl) T.z_len PySem.boot_len (pa_cons (pe_call (ok_row T) (hr.mono (by decide)) (by rfl) T.g_row T.F_row.kp T.b_row .nil pass0 (pa_cons (pv 1) pa_nil)) pa_nil))) (pa_cons (pe_op op_add (pe_callB call_len_seq (by rfl) T.z_len PySem.boot_len (pa_cons (pe_call (ok_row T) (hr.mono (by decide)) (by rfl) T.g_row T.F_row.kp T.b_row .nil pass0 (pa_cons (pv 1) pa_nil)) pa_nil)) pe_int) pa_nil))) (pg_name (i := 5) sc_pair.nd rfl (Or.inl rfl))
        (pss_cons (ps_set (i := 6) sc_pair.nd rfl (Or.inl rfl) (pe_call (ok_fit_blocks T) (hr.mono (by decide)) (by rfl) T.g_fit_blocks T.F_fit_blocks.kp T.b_fit_blocks .nil Mk1.passF (pa_cons (pv 0) (pa_cons (pv 1) (pa_cons (pv 5) pa_nil)))))
        (pss_cons (ps_if (PW.pt (pw_or (pt_not (pt_val (pe_callB call_isi (by rfl) T.z_isinstance (by decide +kernel) (pa_cons (pv 6) (pa_cons (pe_bltn (v := V.ty "tuple") (by rfl) T.z_tuple (by decide +kernel) rfl) pa_nil))))) (pw_or1 (pt_cmpR (op_neD hr.units) (pv 6) (pe_call (ok_blocks_due T) (hr.mono (by decide)) (by rfl) T.g_blocks_due T.F_blocks_due.kp T.b_blocks_due .nil pass0 (pa_cons (pv 0) (pa_cons (pv 1) (pa_cons (pv 5) pa_nil)))) (nomark _)))))
          (pss_one (ps_ret pe_bl))
          pss_nil)
        (pss_one (ps_if (pt_cmpR op_ne (pe_cmpR (op_neD hr.units) (pv 6) (pe_tup pa_nil) (nomark _)) (pe_cmpR op_in_seq (pv 5) (pv 2) rfl) (nomark _))
          (pss_one (ps_ret pe_bl))
          pss_nil)))))
      (pss_cons (ps_for PassesOwn.never rfl (pi_tup (pv 3)) (pg_name (i := 5) sc_pair.nd rfl (Or.inl rfl))
        (pss_one (ps_if (PW.pt (pw_or (pt_cmpR op_in_seq (pe_op op_add (pv 5) pe_int) (pv 3) rfl) (pw_or1 (pt_cmpR op_ne (pe_op op_modN (pv 5) pe_int) pe_int (nomark _)))))
          (pss_one (ps_ret pe_bl))
          pss_nil)))
      (pss_one (ps_ret (pe_cmpR (op_eqD hr.units) (pe_call (ok_fit_blocks T) (hr.mono (by decide)) (by rfl) T.g_fit_blocks T.F_fit_blocks.kp T.b_fit_blocks .nil Mk1.passF (pa_cons (pv 0) (pa_cons (pv 1) (pa_cons (pe_op op_pow pe_int pe_int) pa_nil)))) (pe_tup pa_nil) (nomark _))))))))))), ?_⟩
    have rl := row_le es M
    have dl := DI_len ds es M
    refine ⟨_, rfl, _, rfl, ds, es, rfl, N, M, fun H1 d s1 f1 hd => ?_⟩
    refine ⟨_, rfl, _, rfl, _, _, _, _, rfl, ob_num N, ob_num M, fun ds2 es2 N2 M2 ex ey H2 t s2 ht => ?_, fun n => absurd ⟨ds, N, rfl⟩ n, fun _ n => absurd ⟨es, M, rfl⟩ n⟩
    obtain rfl := numS_inj (V.str.inj ex)
    obtain rfl := numS_inj (V.str.inj ey)
    refine ⟨_, rfl, _, rfl, _, _, _, _, rfl, ob_num N, ob_num M, fun ds2 es2 N2 M2 ex ey H3 g s3 hg => ?_, fun n => absurd ⟨ds, N, rfl⟩ n, fun _ n => absurd ⟨es, M, rfl⟩ n⟩
    obtain rfl := numS_inj (V.str.inj ex)
    obtain rfl := numS_inj (V.str.inj ey)
    have hd := s3 _ _ (s2 _ _ hd)
    have ht := s3 _ _ ht
    have s13 := (s1.trans s2).trans s3
    refine ⟨_, rfl, _, _, _, _, true, rfl, .ty "tuple", tyT (SqT.of ht), kit_ty (by decide +kernel), true, rfl, iteF ?_⟩
    refine ⟨_, rfl, _, _, _, _, true, rfl, .ty "tuple", tyT (SqT.of hg), kit_ty (by decide +kernel), true, rfl, iteF ?_⟩
    refine ⟨fun σ A => σ = [some (.str (numS ds)), some (.str (numS es)), some (.ref d), some (.ref t), some (.ref g), none, none] ∧ Same H3 A, ?_, ?_⟩
    · refine ⟨_, rfl, t, _, rfl, .inr (SqT.of ht), fun u hu => ?_⟩
      have s4 := same_new (o := .lst ((DI ds es).map V.int)) hu
      refine ⟨_, rfl, .list ((DI ds es).map PyData.int), .list ((DI ds es).map PyData.int), .lst (SqL.of upd_same) (dp_ints _), .lst (SqL.of (s4 _ _ hd)) (dp_ints _), shl _, shl _, _, rfl, iteN (by rw [eqv_lst]; simp) ?_⟩
      have ht := s4 _ _ ht
      have hg := s4 _ _ hg
      have hd := s4 _ _ hd
      generalize upd H3 u (.lst ((DI ds es).map V.int)) = H4 at *
      refine ⟨_, rfl, g, _, rfl, .inr (SqT.of hg), fun u2 hu2 => ?_⟩
      have s5 := same_new (o := .lst ((DI ds es).map V.int)) hu2
      refine ⟨_, rfl, .list ((DI ds es).map PyData.int), .list ((DI ds es).map PyData.int), .lst (SqL.of upd_same) (dp_ints _), .lst (SqL.of (s5 _ _ hd)) (dp_ints _), shl _, shl _, _, rfl, iteN (by rw [eqv_lst]; simp) ?_⟩
      have ht := s5 _ _ ht
      have hg := s5 _ _ hg
      have s45 := s4.trans s5
      generalize upd H4 u2 (.lst ((DI ds es).map V.int)) = H5 at *
      refine ⟨_, rfl, _, rfl, t, g, _, _, rfl, rfl, SqT.of ht, SqT.of hg, by rw [List.length_map]; exact Nat.le_of_lt (small1000 (by omega)), fun e0 => ?_, fun n0 e0 => absurd e0 n0, fun n0 n1 p hp => ?_⟩
      · refine ⟨g, rfl, ⟨_, SqT.of hg⟩, fun D hD => ?_⟩
        refine lc_tup (xs := (DI ds es).map V.int) (fun i A => Same H5 A ∧ A D = some (.lst [])) ⟨same_new hD, upd_same⟩ (fun i A _ hP => sameT hP.1 (SqT.of hg)) (fun i z A hz hP => ?_) (fun A hP => ?_)
        · obtain ⟨sm, hL⟩ := hP
          rw [List.getElem?_map] at hz
          obtain ⟨n, hn, rfl⟩ := Option.map_eq_some_iff.mp hz
          exact ⟨rfl, _, rfl, n, rfl, true, rfl, iteF ⟨sm, hL⟩⟩
        obtain ⟨sm, hL⟩ := hP
        refine ⟨by show 0 ≤ sizeLine; exact Nat.zero_le _, fun w hw => ?_⟩
        have sw := same_new (o := .lst []) hw
        exact ⟨.list [], .list [], .lst (SqL.of (sw _ _ hL)) .nil, .lst (SqL.of upd_same) .nil, shl [], shl [], _, rfl, iteN (by decide) ⟨rfl, (s45.trans sm).trans sw⟩⟩
      · have s6 := same_new (o := .tup ((DI ds es).map V.int ++ (DI ds es).map V.int)) hp
        have hp6 : upd H5 p (.tup ((DI ds es).map V.int ++ (DI ds es).map V.int)) p = some (.tup ((DI ds es ++ DI ds es).map V.int)) := by rw [upd_same, List.map_append]
        have s46 := s45.trans s6
        generalize upd H5 p (.tup ((DI ds es).map V.int ++ (DI ds es).map V.int)) = H6 at *
        refine ⟨p, rfl, ⟨_, SqT.of hp6⟩, fun D hD => ?_⟩
        refine lc_tup (xs := (DI ds es ++ DI ds es).map V.int) (fun i A => Same H6 A ∧ A D = some (.lst [])) ⟨same_new hD, upd_same⟩ (fun i A _ hP => sameT hP.1 (SqT.of hp6)) (fun i z A hz hP => ?_) (fun A hP => ?_)
        · obtain ⟨sm, hL⟩ := hP
          rw [List.getElem?_map] at hz
          obtain ⟨n, hn, rfl⟩ := Option.map_eq_some_iff.mp hz
          exact ⟨rfl, _, rfl, n, rfl, true, rfl, iteF ⟨sm, hL⟩⟩
        obtain ⟨sm, hL⟩ := hP
        refine ⟨by show 0 ≤ sizeLine; exact Nat.zero_le _, fun w hw => ?_⟩
        have sw := same_new (o := .lst []) hw
        exact ⟨.list [], .list [], .lst (SqL.of (sw _ _ hL)) .nil, .lst (SqL.of upd_same) .nil, shl [], shl [], _, rfl, iteN (by decide) ⟨rfl, (s46.trans sm).trans sw⟩⟩
    · rintro σ H6 ⟨rfl, s6⟩
      have hd := s6 _ _ hd
      have ht := s6 _ _ ht
      have s16 := s13.trans s6
      refine ⟨1, rfl, _, rfl, es, rfl, M, fun H7 r1 s7 f7 hr1 => ⟨r1, _, rfl, .inl (SqL.of hr1), _, _, rfl, rfl, _, rfl, es, rfl, M, fun H8 r2 s8 f8 hr2 => ⟨r2, _, rfl, .inl (SqL.of hr2), _, _, rfl, rfl, ?_⟩⟩⟩
      have hd := s8 _ _ (s7 _ _ hd)
      have ht := s8 _ _ (s7 _ _ ht)
      have s18 := (s16.trans s7).trans s8
      rw [List.length_map]
      refine ⟨_, _, rfl, ⟨by omega, by omega, by omega, by omega⟩, ?_⟩
      refine for_it walk_range (fun i σ A => ∃ v5 v6, σ = [some (.str (numS ds)), some (.str (numS es)), some (.ref d), some (.ref t), some (.ref g), v5, v6] ∧ Same H8 A) ⟨none, none, rfl, Same.refl _⟩ (fun _ _ _ _ _ => trivial) (fun i z σ A A' hi hP hY => ?_) (fun σ A hP => ?_)
      · obtain ⟨v5, v6, rfl, sm⟩ := hP
        obtain ⟨rfl, ez⟩ := hY
        have ez : z = .int ((-1 : Int) - ((rowL es).length : Nat) + (i : Int)) := ez
        generalize (-1 : Int) - ((rowL es).length : Nat) + (i : Int) = a at ez
        subst ez
        refine ⟨_, rfl, _, rfl, _, rfl, _, _, _, _, _, rfl, ob_num N, ob_num M, fun ds2 es2 N2 M2 ex ey A2 q sA hq => ?_, fun n => absurd ⟨ds, N, rfl⟩ n, fun _ n => absurd ⟨es, M, rfl⟩ n⟩
        obtain rfl := numS_inj (V.str.inj ex)
        obtain rfl := numS_inj (V.str.inj ey)
        have hd := sm _ _ hd
        have hd := sA _ _ hd
        refine ⟨_, rfl, _, _, _, _, true, rfl, .ty "tuple", tyT (SqT.of hq), kit_ty (by decide +kernel), true, rfl, iteF ?_⟩
        refine ⟨_, rfl, _, rfl, _, rfl, _, rfl, ds, es, a, rfl, N, M, fun A3 q3 sA3 hq3 => ?_⟩
        rw [fitV_eq] at hq hq3
        have hq := sA3 _ _ hq
        have hd := sA3 _ _ hd
        refine ⟨offD (FI a ds es), offD (FI a ds es), .tup (SqT.of hq) (dp_ints _), .tup (SqT.of hq3) (dp_ints _), (fine_off _).shaped (by decide), (fine_off _).shaped (by decide), _, rfl, iteN (by rw [eqv_off]; simp) ?_⟩
        refine ⟨_, rfl, by show 0 ≤ sizeLine; exact Nat.zero_le _, fun w hw => ?_⟩
        have sw := same_new (o := .tup []) hw
        refine ⟨offD (FI a ds es), offD [], .tup (SqT.of (sw _ _ hq)) (dp_ints _), .tup (SqT.of upd_same) .nil, (fine_off _).shaped (by decide), (fine_off _).shaped (by decide), ?_⟩
        refine ⟨_, rfl, _, rfl, d, _, rfl, .inl (SqL.of (sw _ _ hd)), rfl, flat_ints _, rfl, _, rfl, iteN ?_ ⟨_, _, rfl, ((sm.trans sA).trans sA3).trans sw⟩⟩
        rw [eqv_off, FI_ne N]
        show (!decide (V.bl (decide (a ∈ DI ds es)) = V.bl (inV (V.int a) ((DI ds es).map V.int)))) = false
        rw [in_ints]
        simp
      · obtain ⟨v5, v6, rfl, sm⟩ := hP
        have ht := sm _ _ ht
        have s19 := s18.trans sm
        refine ⟨_, rfl, t, rfl, ⟨_, SqT.of ht⟩, ?_⟩
        refine for_it walk_tup (fun i σ B => ∃ v5, σ = [some (.str (numS ds)), some (.str (numS es)), some (.ref d), some (.ref t), some (.ref g), v5, v6] ∧ B = A) ⟨v5, rfl, rfl⟩ (fun i σ B _ h => let ⟨_, _, e⟩ := h; e ▸ SqT.of ht) (fun i z σ B B' hi hP hY => ?_) (fun σ B hP => ?_)
        · obtain ⟨v5, rfl, rfl⟩ := hP
          obtain ⟨rfl, hz⟩ := hY
          rw [List.getElem?_map] at hz
          obtain ⟨a, ha, rfl⟩ := Option.map_eq_some_iff.mp hz
          have ma := List.mem_of_getElem? ha
          have ev := (ins_at N ((DI_mem N).mp ma)).2.2
          have no : ¬ a + 1 ∈ DI ds es := fun m => by
            have := (ins_at N ((DI_mem N).mp m)).2.2
            omega
          refine ⟨_, rfl, _, _, rfl, rfl, _, rfl, t, _, rfl, .inr (SqT.of ht), rfl, flat_ints _, _, rfl, iteN (by rw [in_ints]; exact decide_eq_false no) ?_⟩
          refine ⟨_, rfl, _, _, rfl, rfl, show (2 : Int) ≠ 0 by decide, rfl, _, rfl, iteN ?_ ⟨_, rfl, rfl⟩⟩
          have : a.fmod 2 = 0 := by rw [Int.fmod_eq_emod_of_nonneg a (by decide)]; exact ev
          show (!decide (V.int (a.fmod 2) = V.int 0)) = false
          rw [this]
          simp
        · obtain ⟨v5, rfl, rfl⟩ := hP
          refine ⟨_, rfl, _, rfl, _, _, rfl, rfl, ⟨by decide, by decide, by decide⟩, _, _, _, _, _, rfl, ob_num N, ob_num M, fun ds2 es2 N2 M2 ex ey A4 q sA hq => ?_, fun n => absurd ⟨ds, N, rfl⟩ n, fun _ n => absurd ⟨es, M, rfl⟩ n⟩
          obtain rfl := numS_inj (V.str.inj ex)
          obtain rfl := numS_inj (V.str.inj ey)
          have e0 : FI (10 ^ 29) ds es = [] := by
            have h := FI_ne (a := 10 ^ 29) (es := es) N
            have no : ¬ (10 : Int) ^ 29 ∈ DI ds es := fun m => by
              have l := (ins_at N ((DI_mem N).mp m)).2.1
              have : (1000 : Int) ≤ 10 ^ 29 := by decide
              omega
            rw [decide_eq_false no] at h
            have h2 : decide (FI (10 ^ 29) ds es = []) = true := by
              cases q : decide (FI (10 ^ 29) ds es = []) with
              | true => rfl
              | false => rw [q] at h; cases h
            exact of_decide_eq_true h2
          have hq : A4 q = some (.tup []) := by
            have hq : A4 q = some (.tup (fitV (10 ^ 29) ds es)) := hq
            rw [fitV_eq, e0] at hq
            exact hq
          refine ⟨by show 0 ≤ sizeLine; exact Nat.zero_le _, fun w hw => ?_⟩
          have sw := same_new (o := .tup []) hw
          refine ⟨offD [], offD [], .tup (SqT.of (sw _ _ hq)) .nil, .tup (SqT.of upd_same) .nil, (fine_off _).shaped (by decide), (fine_off _).shaped (by decide), ?_⟩
          rw [eqv_off]
          exact k _ ((s19.trans sA).trans sw)
theorem ok_refused (T : Txt K mg) : Rp.GOk P w K mg base CX0 9 T.a_refused T.d_refused ["_law_which", "_law_one", "_law_other"] (sp_refused K) := by
  refine Rp.gok T.F_refused sc_refused (fun vs H Q E h => ?_) (fun cdv A outer s H vs Q E hg hr h => ?_)
  · obtain ⟨w, x, y, d, e, rfl, _⟩ := h
    rfl
  · obtain ⟨w, x, y, d, e, rfl, w0, w2, ox, oy, k, kx, ky⟩ := h
    refine ⟨_, (pss_cons (ps_try_as (i := 3) (Wout := fun _ _ _ _ => False) rfl rfl sc_refused.nd rfl rfl ⟨rfl, by decide, Or.inl T.low.gC⟩ takes0 (fun W pn xe tk _ => (pss_one (ps_if (pt_cmpR op_eq (pv 0) pe_int (nomark _))
          (pss_one (ps_expr (pe_callS (ok_fits T) (hr.mono (by decide)) rfl T.g_fits T.F_fits.kp T.b_fits (fun σ => passAt tk σ) (by exact (pa_cons (pv 1) (pa_cons (pv 2) pa_nil))))))
          (pss_one (ps_if (pt_cmpR op_eq (pv 0) pe_int (nomark _))
            (pss_one (ps_expr (pe_callS (ok_fits_by_ticks T) (hr.mono (by decide)) rfl T.g_fits_by_ticks T.F_fits_by_ticks.kp T.b_fits_by_ticks (fun σ => passAt tk σ) (by exact (pa_cons (pv 1) (pa_cons (pv 2) pa_nil))))))
            (pss_one (ps_expr (pe_callS (ok_fit_blocks T) (hr.mono (by decide)) rfl T.g_fit_blocks T.F_fit_blocks.kp T.b_fit_blocks (fun σ => passAt tk σ) (by exact (pa_cons (pv 1) (pa_cons (pv 2) (pa_cons pe_int pa_nil)))))))))))) (fun a oe cls d pn hz hf => (pss_one (ps_ret (pe_callB (show CallR _ _ (Rp.rRepr K) from Rp.call_reprD hg hr.units) (by rfl) T.z_repr (by decide +kernel) (pa_cons (pe_byLow T.low hz hf (pv 3)) pa_nil))))))
      (pss_one (ps_ret pe_non))), ?_⟩
    refine ⟨_, rfl, rfl, _, rfl, ite2 (fun c0 => ?_) (fun c0 => ?_)⟩
    · refine ⟨_, rfl, _, rfl, x, y, d, e, rfl, ox, oy, fun ds es N M ex ey H1 p s1 hp => ?_, fun n H' dd s' he => ?_, fun i1 n H' dd s' he => ?_⟩
      · exact k ⟨ds, N, ex⟩ ⟨es, M, ey⟩ _ s1
      · refine ⟨true, T.low.te, fun _ a0 ha0 => ?_, fun q => Bool.noConfusion q⟩
        have S := tg_shows ox.tg
        exact ⟨_, rfl, rfl, rfl, dd, x, rfl, he, x, d, rfl, (ox.keep s').dp, S.sh, S.nd, S.dep, S.fit, kx n _ s'⟩
      · refine ⟨true, T.low.te, fun _ a0 ha0 => ?_, fun q => Bool.noConfusion q⟩
        have S := tg_shows oy.tg
        exact ⟨_, rfl, rfl, rfl, dd, y, rfl, he, y, e, rfl, (oy.keep s').dp, S.sh, S.nd, S.dep, S.fit, ky i1 n _ s'⟩
    refine ⟨_, rfl, rfl, _, rfl, ite2 (fun c1 => ?_) (fun c1 => ?_)⟩
    · refine ⟨_, rfl, _, rfl, x, y, d, e, rfl, ox, oy, fun ds es N M ex ey H1 p s1 hp => ?_, fun n H' dd s' he => ?_, fun i1 n H' dd s' he => ?_⟩
      · exact k ⟨ds, N, ex⟩ ⟨es, M, ey⟩ _ s1
      · refine ⟨true, T.low.te, fun _ a0 ha0 => ?_, fun q => Bool.noConfusion q⟩
        have S := tg_shows ox.tg
        exact ⟨_, rfl, rfl, rfl, dd, x, rfl, he, x, d, rfl, (ox.keep s').dp, S.sh, S.nd, S.dep, S.fit, kx n _ s'⟩
      · refine ⟨true, T.low.te, fun _ a0 ha0 => ?_, fun q => Bool.noConfusion q⟩
        have S := tg_shows oy.tg
        exact ⟨_, rfl, rfl, rfl, dd, y, rfl, he, y, e, rfl, (oy.keep s').dp, S.sh, S.nd, S.dep, S.fit, ky i1 n _ s'⟩
    · refine ⟨_, rfl, _, rfl, x, y, d, e, 0, rfl, ox, oy, fun ds es N M ex ey H1 p s1 hp => ?_, fun n H' dd s' he => ?_, fun i1 n H' dd s' he => ?_⟩
      · exact k ⟨ds, N, ex⟩ ⟨es, M, ey⟩ _ s1
      · refine ⟨true, T.low.te, fun _ a0 ha0 => ?_, fun q => Bool.noConfusion q⟩
        have S := tg_shows ox.tg
        exact ⟨_, rfl, rfl, rfl, dd, x, rfl, he, x, d, rfl, (ox.keep s').dp, S.sh, S.nd, S.dep, S.fit, kx n _ s'⟩
      · refine ⟨true, T.low.te, fun _ a0 ha0 => ?_, fun q => Bool.noConfusion q⟩
        have S := tg_shows oy.tg
        exact ⟨_, rfl, rfl, rfl, dd, y, rfl, he, y, e, rfl, (oy.keep s').dp, S.sh, S.nd, S.dep, S.fit, ky i1 n _ s'⟩
end
end K11

namespace K11
open PySem L2 Wm TL Dv
section
variable {P : Program} {w : World} {K : PySem.W.Frag} {mg : Str → Option Value} {base : Heap}
theorem numS_drop (ds : List Nat) (k : Nat) (h : k ≤ ds.length) : cutS (numS ds) (some (k : Int)) none = numS (ds.drop k) := by
  refine PyProof.Rows.ext_toList ?_
  show ((codes ds).drop (HT.sIx (numS ds).length 0 (some (k : Int)))).take (HT.sIx (numS ds).length (numS ds).length none - HT.sIx (numS ds).length 0 (some (k : Int))) = codes (ds.drop k)
  rw [numS_len, HT.sIx_nat, HT.sIx_none, Nat.min_eq_left h, List.take_of_length_le (by rw [List.length_drop]; unfold codes; rw [List.length_map]; exact Nat.le_refl _)]
  simp only [codes, List.map_drop]
theorem numS_one : (("1" : Str)) = numS [1] := by decide +kernel
theorem numS_get (ds : List Nat) (i : Nat) (h : i < ds.length) : atI (numS ds).cps.toList (i : Int) = some (ds[i] + 48) := by
  refine atI_nat ?_
  rw [numS_cps]
  unfold codes
  rw [List.getElem?_map, List.getElem?_eq_getElem h]
  rfl
theorem int_log {d : Nat} (h : d ≤ 100) : ((d : Nat) : Int).natAbs.log2 < 1920 := by
  rw [Int.natAbs_natCast]
  by_cases z : d = 0
  · rw [z]; decide
  · have := (Nat.log2_lt (k := 7) z).mpr (by show d < 128; omega)
    omega
theorem take_sum : ∀ (ds : List Nat) (i : Nat), (ds.take i).sum ≤ ds.sum
  | [], i => by simp
  | d :: ds, 0 => by simp
  | d :: ds, i + 1 => by
    rw [List.take_succ_cons, List.sum_cons, List.sum_cons]
    have := take_sum ds i
    omega
/-- the digits told so far -/
structure Wid (ds ws : List Nat) (i : Nat) : Prop where
  len : ws.length = i
  dig : ∀ d ∈ ws, 1 ≤ d ∧ d ≤ 9
  ge : (ds.take i).sum ≤ ws.sum
  le : ws.sum + ds.sum ≤ 24 + (ds.take i).sum
theorem ok_wider (T : Txt K mg) : FnOk P w K mg base CX0 3 T.a_wider T.d_wider ["_law_bag_here", "_law_number_here"] (sp_wider K) := by
  refine T.F_wider.ok sc_wider (fun vs H Q E h => ?_) (fun cdv A outer s H vs Q E hr h => ?_)
  · obtain ⟨b, n, ds, rfl, _⟩ := h
    rfl
  · obtain ⟨b, n, ds, rfl, N, bag, hn, k⟩ := h
    have nl := N.len
    have np := N.pos
    have ns := N.sum
    refine ⟨_, (pss_cons (ps_set (i := 2) sc_wider.nd rfl (Or.inl rfl) (pe_call (ok_draw T) (hr.mono (by decide)) (by rfl) T.g_draw T.F_draw.kp T.b_draw .nil pass0 (pa_cons (pv 0) (pa_cons pe_int pa_nil))))
      (pss_cons (ps_if (pt_cmpR op_eq (pv 2) pe_int (nomark _))
        (pss_one (ps_ret (pe_call (ok_number T) (hr.mono (by decide)) (by rfl) T.g_number T.F_number.kp T.b_number .nil pass0 (pa_cons (pv 0) pa_nil))))
        pss_nil)
      (pss_cons (ps_set (i := 3) sc_wider.nd rfl (Or.inl rfl) pe_str)
      (pss_cons (ps_set (i := 4) sc_wider.nd rfl (Or.inl rfl) (pe_op op_sub pe_int (pe_callB (cr_sum rfl) (by rfl) T.z_sum (by decide +kernel) (pa_cons (pe_lc (own := [("_law_sign", 5)]) (g := gName 5) (tt := tYes) rfl sc_wider.nd (pi_str (pv 1)) (blkOk_by (own := [("_law_sign", 5)]) (N := nm_wider) (sc := (defScope s_wider)) (by decide +kernel)) (fun _ _ _ _ _ => pg_name (i := 5) sc_wider.nd rfl (Or.inl rfl)) (fun _ _ _ _ _ => pts_nil) (fun _ _ _ _ _ => (pe_callTy call_int_str (by rfl) T.z_int (by decide +kernel) (pa_cons (pv 5) pa_nil)))) pa_nil))))
      (pss_cons (ps_for PassesOwn.never rfl (pi_str (pv 1)) (pg_name (i := 5) sc_wider.nd rfl (Or.inl rfl))
        (pss_cons (ps_set (i := 6) sc_wider.nd rfl (Or.inl rfl) (pe_call (ok_draw T) (hr.mono (by decide)) (by rfl) T.g_draw T.F_draw.kp T.b_draw .nil pass0 (pa_cons (pv 0) (pa_cons (pe_op op_add (pe_callB (call_min2 rfl) (by rfl) T.z_min (by decide +kernel) (pa_cons (pv 4) (pa_cons (pe_op op_sub pe_int (pe_callTy call_int_str (by rfl) T.z_int (by decide +kernel) (pa_cons (pv 5) pa_nil))) pa_nil))) pe_int) pa_nil))))
        (pss_cons (ps_set (i := 3) sc_wider.nd rfl (Or.inl rfl) (pe_op op_add_str (pv 3) (pe_callTy call_str_int (by rfl) T.z_str (by decide +kernel) (pa_cons (pe_op op_add (pe_callTy call_int_str (by rfl) T.z_int (by decide +kernel) (pa_cons (pv 5) pa_nil)) (pv 6)) pa_nil))))
        (pss_one (ps_set (i := 4) sc_wider.nd rfl (Or.inl rfl) (pe_op op_sub (pv 4) (pv 6)))))))
      (C8.pss_cut (ps_if (PW.pt (pw_and (pt_cmpR op_eq (pv 2) pe_int (nomark _)) (pw_and (pt_cmpR op_gt (pe_callB call_len_str (by rfl) T.z_len PySem.boot_len (pa_cons (pv 3) pa_nil)) pe_int (nomark _)) (pw_and1 (pt_cmpR op_lt (pe_op op_add (pe_callTy call_int_str (by rfl) T.z_int (by decide +kernel) (pa_cons (pe_ix ix_str (pv 3) pe_int (fun _ _ => rfl)) pa_nil)) (pe_callTy call_int_str (by rfl) T.z_int (by decide +kernel) (pa_cons (pe_ix ix_str (pv 3) pe_int (fun _ _ => rfl)) pa_nil))) pe_int (nomark _))))))
        (pss_one (ps_set (i := 3) sc_wider.nd rfl (Or.inl rfl) (pe_op op_add_str (pe_callTy call_str_int (by rfl) T.z_str (by decide +kernel) (pa_cons (pe_op op_add (pe_op op_add (pe_callTy call_int_str (by rfl) T.z_int (by decide +kernel) (pa_cons (pe_ix ix_str (pv 3) pe_int (fun _ _ => rfl)) pa_nil)) (pe_callTy call_int_str (by rfl) T.z_int (by decide +kernel) (pa_cons (pe_ix ix_str (pv 3) pe_int (fun _ _ => rfl)) pa_nil))) pe_int) pa_nil)) (pe_slice sl_str (pv 3) (po_some pe_int) po_none))))
        pss_nil)
      (pss_cons (ps_if (pt_cmpR op_gt (pe_callB (cr_sum rfl) (by rfl) T.z_sum (by decide +kernel) (pa_cons (pe_lc (own := [("_law_sign", 5)]) (g := gName 5) (tt := tYes) rfl sc_wider.nd (pi_str (pv 3)) (blkOk_by (own := [("_law_sign", 5)]) (N := nm_wider) (sc := (defScope s_wider)) (by decide +kernel)) (fun _ _ _ _ _ => pg_name (i := 5) sc_wider.nd rfl (Or.inl rfl)) (fun _ _ _ _ _ => pts_nil) (fun _ _ _ _ _ => (pe_callTy call_int_str (by rfl) T.z_int (by decide +kernel) (pa_cons (pv 5) pa_nil)))) pa_nil)) pe_int (nomark _))
        (pss_one (ps_ret (pv 1)))
        pss_nil)
      (pss_cons (ps_if (PW.pt (pw_and (pt_cmpR op_lt (pe_callB call_len_str (by rfl) T.z_len PySem.boot_len (pa_cons (pv 3) pa_nil)) pe_int (nomark _)) (pw_and1 (pt_cmpR op_gt (pv 4) pe_int (nomark _)))))
        (pss_one (ps_ret (pe_ix ix_list (pe_lst (pa_cons (pv 3) (pa_cons (pe_op op_add_str pe_str (pv 3)) (pa_cons (pe_op op_add_str (pv 3) pe_str) pa_nil)))) (pe_call (ok_draw T) (hr.mono (by decide)) (by rfl) T.g_draw T.F_draw.kp T.b_draw .nil pass0 (pa_cons (pv 0) (pa_cons pe_int pa_nil))) (fun _ _ => rfl))))
        pss_nil)
      (pss_one (ps_ret (pv 3))))))))))), ?_⟩
    refine ⟨_, rfl, b, n, 3, rfl, by decide, by decide, bag, by omega, fun H1 way w0 w1 bag1 but1 => ?_⟩
    refine ⟨_, rfl, rfl, _, rfl, ite2 (fun c => ?_) (fun c => ?_)⟩
    · exact ⟨_, rfl, b, _, rfl, bag1, by omega, fun H2 es M bag2 but2 => k _ es M (bag2.mono (by omega)) (but1.trans but2)⟩
    refine ⟨_, rfl, _, rfl, fun D hD => ?_⟩
    refine lc_it walk_str (fun i A => Same H1 A ∧ A D = some (.lst ((ds.take i).map fun (d : Nat) => V.int (d : Int)))) ⟨same_new hD, upd_same⟩ (fun _ _ _ _ => trivial) (fun i z A A' hi hP hY => ?_) (fun H2 hP => ?_)
    · obtain ⟨sm, hl⟩ := hP
      obtain ⟨rfl, c, hc, rfl⟩ := hY
      rw [numS_size] at hi
      rw [numS_at ds i hi] at hc
      have hc' := (Option.some.inj hc).symm
      subst hc'
      refine ⟨rfl, yesT ?_⟩
      refine ⟨_, rfl, _, _, rfl, dig_int (N.dig _ (List.getElem_mem hi)), (by show 1 ≤ 640; decide), _, hl, by rw [List.length_map, List.length_take]; exact small1000 (by omega), ?_⟩
      refine ⟨same_mut sm hD, ?_⟩
      rw [upd_same, take_succ_map _ (List.getElem?_eq_getElem hi)]
    obtain ⟨s2, hl⟩ := hP
    rw [numS_size, List.take_length] at hl
    refine ⟨D, ds.map fun (d : Nat) => (d : Int), rfl, SqL.of (by rw [hl, List.map_map]; rfl), _, _, rfl, rfl, ?_⟩
    rw [sum_cast]
    have bag2 := bag1.keep s2
    have but2 := but1.trans (But.of s2)
    refine ⟨_, rfl, _, rfl, ?_⟩
    refine for_it walk_str (fun i σ A => ∃ (ws : List Nat) (v5 v6 : Option V), σ = [some (.ref b), some (.str (numS ds)), some (.int way), some (.str (numS ws)), some (.int ((24 : Int) - (ds.sum : Nat) + ((ds.take i).sum : Nat) - (ws.sum : Nat))), v5, v6] ∧ Wid ds ws i ∧ Bag A b (n + 1 + i) ∧ But b H A)
      ⟨[], none, none, by rw [numS_nil]; simp; rfl, ⟨rfl, fun _ m => absurd m List.not_mem_nil, by simp, by simp; omega⟩, bag2, but2⟩ (fun _ _ _ _ _ => trivial) (fun i x σ A A' hi hP hY => ?_) (fun σ A hP => ?_)
    · obtain ⟨ws, v5, v6, rfl, W, bagA, butA⟩ := hP
      obtain ⟨rfl, cc, hc, rfl⟩ := hY
      rw [numS_size] at hi
      rw [numS_at ds i hi] at hc
      have hc' := (Option.some.inj hc).symm
      subst hc'
      have hd := N.dig _ (List.getElem_mem hi)
      have hz : ds[i]? = some ds[i] := List.getElem?_eq_getElem hi
      generalize ds[i] = z at hd hz
      have tk := tk_succ hz
      have ts : (ds.take (i + 1)).sum = (ds.take i).sum + z := by rw [tk, sum_snoc]
      have tle := take_sum ds (i + 1)
      have g1 := W.ge
      have g2 := W.le
      have g3 := W.len
      refine ⟨_, rfl, _, rfl, _, rfl, _, _, rfl, dig_int hd, (by show 1 ≤ 640; decide), _, _, rfl, rfl, _, _, rfl, _, _, rfl, rfl, ?_⟩
      generalize hlim : (if (9 : Int) - (z : Nat) < (24 : Int) - (ds.sum : Nat) + ((ds.take i).sum : Nat) - (ws.sum : Nat) then (9 : Int) - (z : Nat) else (24 : Int) - (ds.sum : Nat) + ((ds.take i).sum : Nat) - (ws.sum : Nat)) = lim
      have lim1 : 0 ≤ lim ∧ lim ≤ 8 ∧ lim ≤ 9 - (z : Int) ∧ lim ≤ (24 : Int) - (ds.sum : Nat) + ((ds.take i).sum : Nat) - (ws.sum : Nat) := by
        rw [← hlim]
        split <;> omega
      refine ⟨b, _, lim + 1, rfl, by omega, by omega, bagA, by omega, fun H3 g q0 q1 bag4 but4 => ?_⟩
      obtain ⟨m, em⟩ : ∃ m : Nat, g = (m : Int) := ⟨g.toNat, by omega⟩
      subst em
      refine ⟨_, rfl, _, rfl, _, _, rfl, dig_int hd, (by show 1 ≤ 640; decide), _, rfl, _, _, rfl, rfl, ?_⟩
      have ed : (z : Int) + (m : Nat) = ((z + m : Nat) : Int) := by omega
      have hd9 : 1 ≤ z + m ∧ z + m ≤ 9 := ⟨by omega, by omega⟩
      (try dsimp only; rw [ed])
      refine ⟨_, rfl, dig_log hd9, _, _, rfl, rfl, ?_, ?_⟩
      · rw [dig_str hd9, numS_len, numS_len]
        exact Nat.le_of_lt (small1000 (by show ws.length + 1 ≤ 1000; omega))
      rw [dig_str hd9, numS_app]
      refine ⟨_, rfl, _, rfl, _, _, rfl, rfl, ?_⟩
      refine ⟨ws ++ [z + m], some (.str ⟨#[z + 48]⟩), some (.int (m : Nat)), ?_, ⟨by rw [len_snoc, g3], dig_snoc W.dig hd9, by rw [sum_snoc]; omega, by rw [sum_snoc]; omega⟩, bag4, butA.trans but4⟩
      rw [sum_snoc, show (24 : Int) - (ds.sum : Nat) + ((ds.take (i + 1)).sum : Nat) - ((ws.sum + (z + m) : Nat) : Int) = (24 : Int) - (ds.sum : Nat) + ((ds.take i).sum : Nat) - (ws.sum : Nat) - (m : Nat) by omega]
      rfl
    · obtain ⟨ws, v5, v6, rfl, W, bagA, butA⟩ := hP
      rw [numS_size] at W bagA
      rw [numS_size, List.take_length]
      have g1 := W.ge
      have g2 := W.le
      have g3 := W.len
      have wd := W.dig
      have bagA : Bag A b (n + 5) := bagA.mono (by omega)
      rw [List.take_length] at g1 g2
      have wl : (24 : Int) - (ds.sum : Nat) + (ds.sum : Nat) - (ws.sum : Nat) = ((24 - ws.sum : Nat) : Int) := by omega
      rw [wl]
      have sml : ∀ us : List Nat, us.length ≤ 4 → (numS us).length ≤ sizeLine := fun us h => by rw [numS_len]; exact Nat.le_of_lt (small1000 (by omega))
      refine ⟨fun σ A2 => A2 = A ∧ ∃ us : List Nat, σ = [some (.ref b), some (.str (numS ds)), some (.int way), some (.str (numS us)), some (.int ((24 - ws.sum : Nat) : Int)), v5, v6] ∧ (∀ d ∈ us, 1 ≤ d ∧ d ≤ 9) ∧ 1 ≤ us.length ∧ us.length ≤ 4 ∧ us.sum ≤ ws.sum + 1, ?_, ?_⟩
      · have same : A = A ∧ ∃ us : List Nat, ([some (.ref b), some (.str (numS ds)), some (.int way), some (.str (numS ws)), some (.int ((24 - ws.sum : Nat) : Int)), v5, v6] : L2.St) = [some (.ref b), some (.str (numS ds)), some (.int way), some (.str (numS us)), some (.int ((24 - ws.sum : Nat) : Int)), v5, v6] ∧ (∀ d ∈ us, 1 ≤ d ∧ d ≤ 9) ∧ 1 ≤ us.length ∧ us.length ≤ 4 ∧ us.sum ≤ ws.sum + 1 := ⟨rfl, ws, rfl, wd, by omega, by omega, by omega⟩
        refine ⟨_, rfl, rfl, _, rfl, ite2 (fun c2 => ?_) (fun c2 => iteF same)⟩
        refine ⟨_, rfl, _, rfl, sml ws (by omega), _, _, rfl, rfl, _, rfl, ite2 (fun c3 => ?_) (fun c3 => iteF same)⟩
        have l2 : 2 ≤ ws.length := by
          have := of_decide_eq_true c3
          rw [numS_len] at this
          omega
        obtain ⟨x, y, r, ew⟩ : ∃ x y r, ws = x :: y :: r := by
          match ws, l2 with
          | x :: y :: r, _ => exact ⟨x, y, r, rfl⟩
        have hx := wd x (by rw [ew]; simp)
        have hy := wd y (by rw [ew]; simp)
        have gx : atI (numS ws).cps.toList 0 = some (x + 48) := by
          have := numS_get ws 0 (by omega)
          simpa [ew] using this
        have gy : atI (numS ws).cps.toList 1 = some (y + 48) := by
          have := numS_get ws 1 (by omega)
          simpa [ew] using this
        refine ⟨_, rfl, _, _, _, rfl, rfl, sml ws (by omega), gx, _, _, rfl, dig_int hx, (by show 1 ≤ 640; decide), _, rfl, _, _, _, rfl, rfl, sml ws (by omega), gy, _, _, rfl, dig_int hy, (by show 1 ≤ 640; decide), _, _, rfl, rfl, _, _, rfl, rfl, _, rfl, ite2 (fun c4 => ?_) (fun c4 => same)⟩
        have lt9 : (x : Int) + (y : Nat) < 9 := of_decide_eq_true c4
        refine ⟨_, rfl, _, _, _, rfl, rfl, sml ws (by omega), gx, _, _, rfl, dig_int hx, (by show 1 ≤ 640; decide), _, rfl, _, _, _, rfl, rfl, sml ws (by omega), gy, _, _, rfl, dig_int hy, (by show 1 ≤ 640; decide), _, _, rfl, rfl, _, _, rfl, rfl, ?_⟩
        have ed : (x : Int) + (y : Nat) + 1 = ((x + y + 1 : Nat) : Int) := by omega
        have hd9 : 1 ≤ x + y + 1 ∧ x + y + 1 ≤ 9 := ⟨by omega, by omega⟩
        (try dsimp only; rw [ed])
        refine ⟨_, rfl, dig_log hd9, _, rfl, 2, rfl, _, rfl, sml ws (by omega), ?_⟩
        rw [dig_str hd9, show cutS (numS ws) (some 2) none = numS (ws.drop 2) from numS_drop ws 2 l2]
        refine ⟨_, _, rfl, rfl, by rw [numS_len, numS_len, List.length_drop]; exact Nat.le_of_lt (small1000 (by show 1 + (ws.length - 2) ≤ 1000; omega)), ?_⟩
        rw [numS_app]
        refine ⟨rfl, [x + y + 1] ++ ws.drop 2, rfl, fun d md => ?_, by rw [List.length_append]; show 1 ≤ 1 + _; omega, by rw [List.length_append, List.length_drop]; show 1 + (ws.length - 2) ≤ 4; omega, ?_⟩
        · rcases List.mem_append.mp md with md | md
          · rw [List.mem_singleton.mp md]; exact hd9
          · exact wd d (List.mem_of_mem_drop md)
        · rw [ew]
          show ([x + y + 1] ++ r).sum ≤ (x :: y :: r).sum + 1
          rw [List.sum_append, List.sum_cons, List.sum_cons, List.sum_cons, List.sum_nil]
          omega
      · rintro σ A2 ⟨rfl, us, rfl, ud, u1, u4, ul⟩
        refine ⟨_, rfl, _, rfl, fun D hD => ?_⟩
        refine lc_it walk_str (fun i A => Same A2 A ∧ A D = some (.lst ((us.take i).map fun (d : Nat) => V.int (d : Int)))) ⟨same_new hD, upd_same⟩ (fun _ _ _ _ => trivial) (fun i z A A' hi hP hY => ?_) (fun A3 hP => ?_)
        · obtain ⟨sm, hl⟩ := hP
          obtain ⟨rfl, c, hc, rfl⟩ := hY
          rw [numS_size] at hi
          rw [numS_at us i hi] at hc
          have hc' := (Option.some.inj hc).symm
          subst hc'
          refine ⟨rfl, yesT ?_⟩
          refine ⟨_, rfl, _, _, rfl, dig_int (ud _ (List.getElem_mem hi)), (by show 1 ≤ 640; decide), _, hl, by rw [List.length_map, List.length_take]; exact small1000 (by omega), ?_⟩
          refine ⟨same_mut sm hD, ?_⟩
          rw [upd_same, take_succ_map _ (List.getElem?_eq_getElem hi)]
        obtain ⟨s3, hl⟩ := hP
        rw [numS_size, List.take_length] at hl
        refine ⟨D, us.map fun (d : Nat) => (d : Int), rfl, SqL.of (by rw [hl, List.map_map]; rfl), _, _, rfl, rfl, _, rfl, ?_⟩
        rw [sum_cast]
        have bag3 := bagA.keep s3
        have but3 := butA.trans (But.of s3)
        refine ite2 (fun c5 => ?_) (fun c5 => ?_)
        · exact ⟨_, rfl, k _ ds N (bag3.mono (by omega)) but3⟩
        have us24 : us.sum ≤ 24 := by
          have : ¬ (24 : Int) < ((us.sum : Nat) : Int) := fun z => c5 (decide_eq_true z)
          omega
        have whole : ∀ A3 m, Bag A3 b m → m ≤ n + 10 → But b H A3 → Q (.str (numS us)) A3 := fun A3 m bg l bt => k _ us ⟨u1, u4, ud, us24⟩ (bg.mono l) bt
        refine ⟨_, rfl, _, rfl, sml us u4, _, _, rfl, rfl, _, rfl, ite2 (fun c6 => ?_) (fun c6 => iteF ⟨_, rfl, whole _ _ bag3 (by omega) but3⟩)⟩
        refine ⟨_, rfl, _, _, rfl, rfl, _, rfl, ite2 (fun c7 => ?_) (fun c7 => ⟨_, rfl, whole _ _ bag3 (by omega) but3⟩)⟩
        have l3 : us.length ≤ 3 := by
          have := of_decide_eq_true c6
          rw [numS_len] at this
          omega
        have s23 : us.sum + 1 ≤ 24 := by
          have : (1 : Int) < ((24 - ws.sum : Nat) : Int) := of_decide_eq_true c7
          omega
        have a1 : ("1" : Str) ++ numS us = numS ([1] ++ us) := by rw [numS_one, numS_app]
        have a2 : numS us ++ ("1" : Str) = numS (us ++ [1]) := by rw [numS_one, numS_app]
        have sz : ∀ x y : Str, x.length ≤ 4 → y.length ≤ 4 → x.length + y.length ≤ sizeLine := fun x y h1 h2 => Nat.le_of_lt (small1000 (by omega))
        refine ⟨_, rfl, _, rfl, _, _, rfl, rfl, sz _ _ (by decide) (by rw [numS_len]; omega), _, rfl, _, _, rfl, rfl, sz _ _ (by rw [numS_len]; omega) (by decide), by show 3 ≤ sizeLine; decide, fun L hL => ?_⟩
        rw [a1, a2]
        have s4 := same_new (o := .lst [V.str (numS us), V.str (numS ([1] ++ us)), V.str (numS (us ++ [1]))]) hL
        have Lb := Lm.bag_off bag3 hL
        refine ⟨_, rfl, b, _, 3, rfl, by decide, by decide, bag3.keep s4, by omega, fun H5 g q0 q1 bag5 but5 => ?_⟩
        have N1 : Num ([1] ++ us) := ⟨by rw [List.length_append]; show 1 ≤ 1 + _; omega, by rw [List.length_append]; show 1 + _ ≤ 4; omega, fun d md => by
          rcases List.mem_append.mp md with md | md
          · rw [List.mem_singleton.mp md]; exact ⟨by decide, by decide⟩
          · exact ud d md, by rw [List.sum_append]; show 1 + us.sum ≤ 24; omega⟩
        have N2 : Num (us ++ [1]) := ⟨by rw [List.length_append]; omega, by rw [List.length_append]; show us.length + 1 ≤ 4; omega, fun d md => by
          rcases List.mem_append.mp md with md | md
          · exact ud d md
          · rw [List.mem_singleton.mp md]; exact ⟨by decide, by decide⟩, by rw [sum_snoc]; omega⟩
        have hv : ∃ es, atI [V.str (numS us), V.str (numS ([1] ++ us)), V.str (numS (us ++ [1]))] g = some (.str (numS es)) ∧ Num es := by
          have : g = 0 ∨ g = 1 ∨ g = 2 := by omega
          rcases this with z | z | z <;> subst z
          · exact ⟨us, rfl, ⟨u1, u4, ud, us24⟩⟩
          · exact ⟨_, rfl, N1⟩
          · exact ⟨_, rfl, N2⟩
        obtain ⟨es, ee, E⟩ := hv
        exact ⟨L, _, g, _, rfl, rfl, SqL.of (but5.keep _ _ Lb upd_same), ee, k _ es E (bag5.mono (by omega)) ((but3.trans (But.of s4)).trans but5)⟩
end
end K11

namespace K11
open PySem L2 Wm TL Dv
section
variable {P : Program} {w : World} {K : PySem.W.Frag} {mg : Str → Option Value} {base : Heap}
def numOk (cs : List Nat) : Bool := decide (1 ≤ cs.length) && decide (cs.length ≤ 4) && cs.all (fun c => decide (49 ≤ c ∧ c ≤ 57)) && decide ((cs.map (· - 48)).sum ≤ 24)
theorem num_ok {t : Str} (h : IsN (.str t)) : numOk t.cps.toList = true := by
  obtain ⟨ds, N, e⟩ := h
  have e := V.str.inj e
  subst e
  rw [numS_cps]
  unfold numOk codes
  have e2 : (ds.map (· + 48)).map (· - 48) = ds := by
    rw [List.map_map]
    have : ((fun x => x - 48) ∘ fun x => x + 48 : Nat → Nat) = id := funext fun x => by simp
    rw [this, List.map_id]
  rw [e2, List.length_map]
  simp only [Bool.and_eq_true, decide_eq_true_eq, List.all_eq_true]
  refine ⟨⟨⟨N.pos, N.len⟩, fun c mc => ?_⟩, N.sum⟩
  obtain ⟨d, md, rfl⟩ := List.mem_map.mp mc
  have := N.dig d md
  omega
theorem no_str {t : Str} (h : numOk t.cps.toList = false) : ¬ IsN (.str t) := fun z => by rw [num_ok z] at h; cases h
theorem ob_str {H : Hp} {t : Str} (h : Tx t) : Ob K H (.str t) (.str t) := ⟨.str _, .str h⟩
/-- no number, and its data -/
def Odd (K : PySem.W.Frag) (H : Hp) (x : V) : Prop := ∃ d, Ob K H x d ∧ ¬ IsN x
theorem Odd.keep {H H' : Hp} {x : V} (h : Odd K H x) (s : Same H H') : Odd K H' x := let ⟨d, o, n⟩ := h; ⟨d, o.keep s, n⟩
theorem odd_str {H : Hp} {t : Str} (h : Tx t) (n : numOk t.cps.toList = false) : Odd K H (.str t) := ⟨_, ob_str h, no_str n⟩
theorem odd_at {H : Hp} {g : Int} (h0 : 0 ≤ g) (h1 : g < 7) : ∃ v, atI [V.str "", V.str "0", V.str "55555", V.str "9996", V.non, V.int 24, V.str "2 4"] g = some v ∧ ∀ H : Hp, Odd K H v := by
  have c : g = 0 ∨ g = 1 ∨ g = 2 ∨ g = 3 ∨ g = 4 ∨ g = 5 ∨ g = 6 := by omega
  rcases c with z | z | z | z | z | z | z <;> subst z
  · exact ⟨_, rfl, fun H => odd_str ⟨by decide, by decide +kernel⟩ (by decide +kernel)⟩
  · exact ⟨_, rfl, fun H => odd_str ⟨by decide, by decide +kernel⟩ (by decide +kernel)⟩
  · exact ⟨_, rfl, fun H => odd_str ⟨by decide, by decide +kernel⟩ (by decide +kernel)⟩
  · exact ⟨_, rfl, fun H => odd_str ⟨by decide, by decide +kernel⟩ (by decide +kernel)⟩
  · exact ⟨_, rfl, fun H => ⟨_, ⟨.non, .non⟩, fun ⟨ds, _, e⟩ => by cases e⟩⟩
  · exact ⟨_, rfl, fun H => ⟨_, ⟨.int _, .int (by decide)⟩, fun ⟨ds, _, e⟩ => by cases e⟩⟩
  · exact ⟨_, rfl, fun H => odd_str ⟨by decide, by decide +kernel⟩ (by decide +kernel)⟩
theorem worse_at {H : Hp} {t : Addr} {g : Int} (ht : H t = some (.tup [V.str "3"])) (h0 : 0 ≤ g) (h1 : g < 4) : ∃ v d, atI [V.str "10", V.ref t, V.str "", V.int (-3)] g = some v ∧ Ob K H v d := by
  have c : g = 0 ∨ g = 1 ∨ g = 2 ∨ g = 3 := by omega
  rcases c with z | z | z | z <;> subst z
  · exact ⟨_, _, rfl, ob_str ⟨by decide, by decide +kernel⟩⟩
  · refine ⟨_, .tuple ([("3" : Str)].map .str), rfl, .tup (SqT.of ht) (dp_strs' ["3"]), .tup (fun x m => ?_) (by show 1 ≤ 100; decide)⟩
    rw [List.mem_singleton.mp m]
    exact ⟨by decide, by decide +kernel⟩
  · exact ⟨_, _, rfl, ob_str ⟨by decide, by decide +kernel⟩⟩
  · exact ⟨_, _, rfl, ⟨.int _, .int (by decide)⟩⟩
theorem ok_law (T : Txt K mg) : Rp.GOk P w K mg base CX0 10 T.a_law T.d_law ["_law_script"] (sp_law K) := by
  refine Rp.gok T.F_law sc_law (fun vs H Q E h => ?_) (fun cdv A outer s H vs Q E hg hr h => ?_)
  · obtain ⟨a, ns, rfl, _⟩ := h
    rfl
  · obtain ⟨a, zs, rfl, hS, hl, k⟩ := h
    refine ⟨_, (pss_cons (ps_set (i := 1) sc_law.nd rfl (Or.inl rfl) (pe_call (ok_bag T) (hr.mono (by decide)) (by rfl) T.g_bag T.F_bag.kp T.b_bag .nil pass0 (pa_cons (pv 0) pa_nil)))
      (pss_cons (ps_set (i := 2) sc_law.nd rfl (Or.inl rfl) (pe_call (ok_number T) (hr.mono (by decide)) (by rfl) T.g_number T.F_number.kp T.b_number .nil pass0 (pa_cons (pv 1) pa_nil)))
      (pss_cons (ps_set (i := 3) sc_law.nd rfl (Or.inl rfl) (pe_call (ok_wider T) (hr.mono (by decide)) (by rfl) T.g_wider T.F_wider.kp T.b_wider .nil pass0 (pa_cons (pv 1) (pa_cons (pv 2) pa_nil))))
      (pss_cons (ps_set (i := 4) sc_law.nd rfl (Or.inl rfl) (pe_call (ok_wider T) (hr.mono (by decide)) (by rfl) T.g_wider T.F_wider.kp T.b_wider .nil pass0 (pa_cons (pv 1) (pa_cons (pv 3) pa_nil))))
      (pss_cons (ps_for PassesOwn.never rfl (pi_list (pe_lst (pa_cons (pe_tup (pa_cons (pv 2) (pa_cons (pv 3) pa_nil))) (pa_cons (pe_tup (pa_cons (pv 3) (pa_cons (pv 4) pa_nil))) (pa_cons (pe_tup (pa_cons (pv 2) (pa_cons (pv 4) pa_nil))) (pa_cons (pe_tup (pa_cons (pv 4) (pa_cons (pv 2) pa_nil))) pa_nil)))))) (pg_name (i := 5) sc_law.nd rfl (Or.inl rfl))
        (pss_one (ps_if (pt_not (pt_val (pe_call (ok_pair T) (hr.mono (by decide)) (by rfl) T.g_pair T.F_pair.kp T.b_pair .nil pass0 (pa_cons (pe_ix ix_tup (pv 5) pe_int (fun _ _ => rfl)) (pa_cons (pe_ix ix_tup (pv 5) pe_int (fun _ _ => rfl)) pa_nil)))))
          (pss_one (ps_ret pe_bl))
          pss_nil)))
      (pss_cons (ps_for PassesOwn.never rfl (pi_tup (pe_call (ok_fits T) (hr.mono (by decide)) (by rfl) T.g_fits T.F_fits.kp T.b_fits .nil Mk1.passF (pa_cons (pv 2) (pa_cons (pv 3) pa_nil)))) (pg_name (i := 6) sc_law.nd rfl (Or.inl rfl))
        (pss_one (ps_for PassesOwn.never rfl (pi_tup (pe_call (ok_fits T) (hr.mono (by decide)) (by rfl) T.g_fits T.F_fits.kp T.b_fits .nil Mk1.passF (pa_cons (pv 3) (pa_cons (pv 4) pa_nil)))) (pg_name (i := 7) sc_law.nd rfl (Or.inl rfl))
          (pss_one (ps_if (pt_cmpR op_notIn_seq (pe_op op_add (pv 6) (pv 7)) (pe_call (ok_fits T) (hr.mono (by decide)) (by rfl) T.g_fits T.F_fits.kp T.b_fits .nil Mk1.passF (pa_cons (pv 2) (pa_cons (pv 4) pa_nil))) rfl)
            (pss_one (ps_ret pe_bl))
            pss_nil)))))
      (pss_cons (ps_if (pt_cmpR (op_neD hr.units) (pe_call (ok_fits T) (hr.mono (by decide)) (by rfl) T.g_fits T.F_fits.kp T.b_fits .nil Mk1.passF (pa_cons (pv 2) (pa_cons (pv 2) pa_nil))) (pe_tup (pa_cons pe_int pa_nil)) (nomark _))
        (pss_one (ps_ret pe_bl))
        pss_nil)
      (pss_cons (ps_set (i := 8) sc_law.nd rfl (Or.inl rfl) (pe_ix ix_list (pe_lst (pa_cons pe_str (pa_cons pe_str (pa_cons pe_str (pa_cons pe_str (pa_cons pe_non (pa_cons pe_int (pa_cons pe_str pa_nil)))))))) (pe_call (ok_draw T) (hr.mono (by decide)) (by rfl) T.g_draw T.F_draw.kp T.b_draw .nil pass0 (pa_cons (pv 1) (pa_cons pe_int pa_nil))) (fun _ _ => rfl)))
      (pss_cons (ps_set (i := 9) sc_law.nd rfl (Or.inl rfl) (pe_ix ix_list (pe_lst (pa_cons pe_str (pa_cons (pe_tup (pa_cons pe_str pa_nil)) (pa_cons pe_str (pa_cons (pe_un un_neg pe_int) pa_nil))))) (pe_call (ok_draw T) (hr.mono (by decide)) (by rfl) T.g_draw T.F_draw.kp T.b_draw .nil pass0 (pa_cons (pv 1) (pa_cons pe_int pa_nil))) (fun _ _ => rfl)))
      (pss_cons (ps_for PassesOwn.never rfl (pi_range1 (by rfl) T.z_range (pa_cons pe_int pa_nil)) (pg_name (i := 10) sc_law.nd rfl (Or.inl rfl))
        (pss_cons (ps_set (i := 11) sc_law.nd rfl (Or.inl rfl) (pe_lst (pa_cons (Rp.pe_gcall (ok_refused T) hg (hr.mono (by decide)) rfl T.g_refused T.F_refused.kp T.b_refused .nil pass0 (pa_cons (pv 10) (pa_cons (pv 8) (pa_cons (pv 2) pa_nil)))) (pa_cons (Rp.pe_gcall (ok_refused T) hg (hr.mono (by decide)) rfl T.g_refused T.F_refused.kp T.b_refused .nil pass0 (pa_cons (pv 10) (pa_cons (pv 2) (pa_cons (pv 8) pa_nil)))) (pa_cons (Rp.pe_gcall (ok_refused T) hg (hr.mono (by decide)) rfl T.g_refused T.F_refused.kp T.b_refused .nil pass0 (pa_cons (pv 10) (pa_cons (pv 8) (pa_cons (pv 9) pa_nil)))) pa_nil)))))
        (pss_cons (ps_if (pt_cmpR (Ne5.op_ne5 hr.units) (pv 11) (pe_lst (pa_cons (pe_callB (show CallR _ _ (Rp.rRepr K) from Rp.call_reprD hg hr.units) (by rfl) T.z_repr (by decide +kernel) (pa_cons (pv 8) pa_nil)) (pa_cons (pe_callB (show CallR _ _ (Rp.rRepr K) from Rp.call_reprD hg hr.units) (by rfl) T.z_repr (by decide +kernel) (pa_cons (pv 8) pa_nil)) (pa_cons (pe_callB (show CallR _ _ (Rp.rRepr K) from Rp.call_reprD hg hr.units) (by rfl) T.z_repr (by decide +kernel) (pa_cons (pv 8) pa_nil)) pa_nil)))) (nomark _))
          (pss_one (ps_ret pe_bl))
          pss_nil)
        (pss_one (ps_if (pt_cmpR op_notN (Rp.pe_gcall (ok_refused T) hg (hr.mono (by decide)) rfl T.g_refused T.F_refused.kp T.b_refused .nil pass0 (pa_cons (pv 10) (pa_cons (pv 2) (pa_cons (pv 3) pa_nil)))) pe_non (nomark _))
          (pss_one (ps_ret pe_bl))
          pss_nil)))))
      (pss_one (ps_ret pe_bl)))))))))))), ?_⟩
    refine ⟨_, rfl, a, zs, rfl, hS, hl, fun H1 b s1 bag1 => ?_⟩
    refine ⟨_, rfl, b, 0, rfl, bag1, by omega, fun H2 ds N bag2 but2 => ?_⟩
    refine ⟨_, rfl, _, rfl, b, _, ds, rfl, N, bag2, by omega, fun H3 es M bag3 but3 => ?_⟩
    refine ⟨_, rfl, _, rfl, b, _, es, rfl, M, bag3, by omega, fun H4 fs O bag4 but4 => ?_⟩
    have two : 2 ≤ sizeLine := by decide
    refine ⟨_, rfl, _, rfl, two, fun t1 h1 => ⟨_, rfl, _, rfl, two, fun t2 h2 => ⟨_, rfl, _, rfl, two, fun t3 h3 => ⟨_, rfl, _, rfl, two, fun t4 h4 => ⟨by show 4 ≤ sizeLine; decide, fun L hL => ?_⟩⟩⟩⟩⟩
    have q1 := same_new (o := .tup [V.str (numS ds), V.str (numS es)]) h1
    have q2 := same_new (o := .tup [V.str (numS es), V.str (numS fs)]) h2
    have q3 := same_new (o := .tup [V.str (numS ds), V.str (numS fs)]) h3
    have q4 := same_new (o := .tup [V.str (numS fs), V.str (numS ds)]) h4
    have q5 := same_new (o := .lst [V.ref t1, V.ref t2, V.ref t3, V.ref t4]) hL
    have g1 := (((q2.trans q3).trans q4).trans q5) t1 _ upd_same
    have g2 := ((q3.trans q4).trans q5) t2 _ upd_same
    have g3 := (q4.trans q5) t3 _ upd_same
    have g4 := q5 t4 _ upd_same
    have sL := (((q1.trans q2).trans q3).trans q4).trans q5
    have gL : upd (upd (upd (upd (upd H4 t1 (.tup [V.str (numS ds), V.str (numS es)])) t2 (.tup [V.str (numS es), V.str (numS fs)])) t3 (.tup [V.str (numS ds), V.str (numS fs)])) t4 (.tup [V.str (numS fs), V.str (numS ds)])) L (.lst [V.ref t1, V.ref t2, V.ref t3, V.ref t4]) L = some (.lst [V.ref t1, V.ref t2, V.ref t3, V.ref t4]) := upd_same
    have bag5 := bag4.keep sL
    generalize upd (upd (upd (upd (upd H4 t1 (.tup [V.str (numS ds), V.str (numS es)])) t2 (.tup [V.str (numS es), V.str (numS fs)])) t3 (.tup [V.str (numS ds), V.str (numS fs)])) t4 (.tup [V.str (numS fs), V.str (numS ds)])) L (.lst [V.ref t1, V.ref t2, V.ref t3, V.ref t4]) = H5 at *
    have prs : ∀ v ∈ [V.ref t1, V.ref t2, V.ref t3, V.ref t4], ∃ t xs ys, v = .ref t ∧ H5 t = some (.tup [V.str (numS xs), V.str (numS ys)]) ∧ Num xs ∧ Num ys := fun v mv => by
      simp only [List.mem_cons, List.not_mem_nil, or_false] at mv
      rcases mv with rfl | rfl | rfl | rfl
      · exact ⟨_, _, _, rfl, g1, N, M⟩
      · exact ⟨_, _, _, rfl, g2, M, O⟩
      · exact ⟨_, _, _, rfl, g3, N, O⟩
      · exact ⟨_, _, _, rfl, g4, O, N⟩
    clear q1 q2 q3 q4 q5 g1 g2 g3 g4 sL h1 h2 h3 h4 hL
    refine ⟨L, rfl, ⟨_, SqL.of gL⟩, ?_⟩
    refine for_list (xs := [V.ref t1, V.ref t2, V.ref t3, V.ref t4]) (fun i σ A => ∃ v5, σ = [some (.ref a), some (.ref b), some (.str (numS ds)), some (.str (numS es)), some (.str (numS fs)), v5, none, none, none, none, none, none] ∧ Same H5 A) ⟨none, rfl, Same.refl _⟩ (fun i σ A _ h => let ⟨_, _, s⟩ := h; SqL.of (s _ _ gL)) (fun i v σ A hv hP => ?_) (fun σ A hP => ?_)
    · obtain ⟨v5, rfl, sm⟩ := hP
      obtain ⟨t, xs, ys, rfl, ht, Nx, Ny⟩ := prs v (List.mem_of_getElem? hv)
      have ht := sm _ _ ht
      exact ⟨_, rfl, t, _, 0, _, rfl, rfl, SqT.of ht, atI_nat (j := 0) rfl, _, rfl, t, _, 1, _, rfl, rfl, SqT.of ht, atI_nat (j := 1) rfl, xs, ys, rfl, Nx, Ny, fun A2 s2 => ⟨true, rfl, iteF ⟨_, rfl, sm.trans s2⟩⟩⟩
    obtain ⟨v5, rfl, s6⟩ := hP
    have bag6 := bag5.keep s6
    clear prs gL
    refine ⟨_, rfl, _, rfl, _, _, _, _, rfl, ob_num N, ob_num M, fun ds2 es2 N2 M2 ex ey H7 t s7 ht => ?_, fun n => absurd ⟨ds, N, rfl⟩ n, fun _ n => absurd ⟨es, M, rfl⟩ n⟩
    obtain rfl := numS_inj (V.str.inj ex)
    obtain rfl := numS_inj (V.str.inj ey)
    refine ⟨t, rfl, ⟨_, SqT.of ht⟩, ?_⟩
    refine for_tup (xs := (DI ds es).map V.int) (fun i σ B => ∃ v6 v7, σ = [some (.ref a), some (.ref b), some (.str (numS ds)), some (.str (numS es)), some (.str (numS fs)), v5, v6, v7, none, none, none, none] ∧ Same H7 B) ⟨none, none, rfl, Same.refl _⟩ (fun i σ B _ h => let ⟨_, _, _, s⟩ := h; SqT.of (s _ _ ht)) (fun i v σ B hv hP => ?_) (fun σ B hP => ?_)
    · obtain ⟨v6, v7, rfl, sm⟩ := hP
      rw [List.getElem?_map] at hv
      obtain ⟨x, hx, rfl⟩ := Option.map_eq_some_iff.mp hv
      have mx := List.mem_of_getElem? hx
      refine ⟨_, rfl, _, rfl, _, _, _, _, rfl, ob_num M, ob_num O, fun ds2 es2 N2 M2 ex ey H8 u s8 hu => ?_, fun n => absurd ⟨es, M, rfl⟩ n, fun _ n => absurd ⟨fs, O, rfl⟩ n⟩
      obtain rfl := numS_inj (V.str.inj ex)
      obtain rfl := numS_inj (V.str.inj ey)
      refine ⟨u, rfl, ⟨_, SqT.of hu⟩, ?_⟩
      refine for_tup (xs := (DI es fs).map V.int) (fun i σ D => ∃ v7, σ = [some (.ref a), some (.ref b), some (.str (numS ds)), some (.str (numS es)), some (.str (numS fs)), v5, some (.int x), v7, none, none, none, none] ∧ Same H8 D) ⟨v7, rfl, Same.refl _⟩ (fun i σ D _ h => let ⟨_, _, s⟩ := h; SqT.of (s _ _ hu)) (fun j v σ D hv hP => ?_) (fun σ D hP => ?_)
      · obtain ⟨v7, rfl, sd⟩ := hP
        rw [List.getElem?_map] at hv
        obtain ⟨y, hy, rfl⟩ := Option.map_eq_some_iff.mp hv
        have my := List.mem_of_getElem? hy
        refine ⟨_, rfl, _, rfl, _, _, rfl, rfl, _, rfl, _, rfl, _, _, _, _, rfl, ob_num N, ob_num O, fun ds2 es2 N2 M2 ex ey H9 w s9 hw => ?_, fun n => absurd ⟨ds, N, rfl⟩ n, fun _ n => absurd ⟨fs, O, rfl⟩ n⟩
        obtain rfl := numS_inj (V.str.inj ex)
        obtain rfl := numS_inj (V.str.inj ey)
        refine ⟨w, _, rfl, .inr (SqT.of hw), rfl, flat_ints _, _, rfl, iteN ?_ ⟨_, rfl, sd.trans s9⟩⟩
        show (!inV (V.int (x + y)) ((DI ds fs).map V.int)) = false
        rw [in_ints, decide_eq_true (DI_trans N M mx my)]
        rfl
      · obtain ⟨v7, rfl, sd⟩ := hP
        exact ⟨_, _, rfl, (sm.trans s8).trans sd⟩
    obtain ⟨v6, v7, rfl, sB⟩ := hP
    have bag7 := (bag6.keep s7).keep sB
    refine ⟨_, rfl, _, rfl, _, _, _, _, rfl, ob_num N, ob_num N, fun ds2 es2 N2 M2 ex ey H9 u s9 hu => ?_, fun n => absurd ⟨ds, N, rfl⟩ n, fun _ n => absurd ⟨ds, N, rfl⟩ n⟩
    obtain rfl := numS_inj (V.str.inj ex)
    obtain rfl := numS_inj (V.str.inj ey)
    refine ⟨by show 1 ≤ sizeLine; decide, fun w hw => ?_⟩
    have sw := same_new (o := .tup [V.int 0]) hw
    rw [DI_self N] at hu
    refine ⟨offD [0], offD [0], .tup (SqT.of (sw _ _ hu)) (dp_ints [0]), .tup (SqT.of upd_same) (dp_ints [0]), (fine_off _).shaped (by decide), (fine_off _).shaped (by decide), _, rfl, iteN (by rw [eqv_off]; rfl) ?_⟩
    have bag9 := (bag7.keep s9).keep sw
    generalize upd H9 w (.tup [V.int 0]) = H10 at *
    -- what is no number
    refine ⟨by show 7 ≤ sizeLine; decide, fun L1 hL1 => ?_⟩
    have s11 := same_new (o := .lst [V.str "", V.str "0", V.str "55555", V.str "9996", V.non, V.int 24, V.str "2 4"]) hL1
    have Lb := Lm.bag_off bag9 hL1
    refine ⟨_, rfl, b, _, 7, rfl, by decide, by decide, bag9.keep s11, by omega, fun H12 g g0 g1 bag12 but12 => ?_⟩
    obtain ⟨y, ey, oy⟩ := odd_at (K := K) (H := H12) g0 g1
    refine ⟨L1, _, g, _, rfl, rfl, SqL.of (but12.keep _ _ Lb upd_same), ey, ?_⟩
    refine ⟨by show 1 ≤ sizeLine; decide, fun tp htp => ?_⟩
    have s13 := same_new (o := .tup [V.str "3"]) htp
    refine ⟨3, rfl, by show 4 ≤ sizeLine; decide, fun L2 hL2 => ?_⟩
    have s14 := same_new (o := .lst [V.str "10", V.ref tp, V.str "", V.int (-3)]) hL2
    have tb := Lm.bag_off bag12 htp
    have Lb2 := Lm.bag_off (bag12.keep s13) hL2
    refine ⟨_, rfl, b, _, 4, rfl, by decide, by decide, (bag12.keep s13).keep s14, by omega, fun H15 g2 g20 g21 bag15 but15 => ?_⟩
    obtain ⟨x, dx, ex, ox⟩ := worse_at (K := K) (H := H15) (t := tp) (but15.keep _ _ tb (s14 _ _ upd_same)) g20 g21
    refine ⟨L2, _, g2, _, rfl, rfl, SqL.of (but15.keep _ _ Lb2 upd_same), ex, ?_⟩
    clear ey ex bag15 but15 bag12 but12 s13 s14 s11 hL1 hL2 htp
    refine ⟨3, rfl, by decide, by decide, ?_⟩
    refine for_range (fun i σ A => (∃ v10 v11, σ = [some (.ref a), some (.ref b), some (.str (numS ds)), some (.str (numS es)), some (.str (numS fs)), v5, v6, v7, some y, some x, v10, v11]) ∧ Same H15 A) ⟨⟨none, none, rfl⟩, Same.refl _⟩ (fun i σ A hi hP => ?_) (fun σ A hP => ?_)
    · obtain ⟨⟨v10, v11, rfl⟩, sm⟩ := hP
      have hi3 : i < 3 := hi
      obtain ⟨dy, ob, no⟩ := oy A
      have S := tg_shows ob.tg
      have iN : IsN (.str (numS ds)) := ⟨ds, N, rfl⟩
      refine ⟨_, rfl, _, rfl, _, rfl, _, y, _, dy, _, rfl, by omega, by omega, ob, ob_num N, fun i => absurd i no, fun _ A1 s1 => ?_, fun i => absurd i no⟩
      refine ⟨_, rfl, _, rfl, _, rfl, _, _, y, _, dy, rfl, by omega, by omega, ob_num N, ob.keep s1, fun _ i => absurd i no, fun n => absurd iN n, fun _ _ A2 s2 => ?_⟩
      have s12 := s1.trans s2
      refine ⟨_, rfl, _, rfl, _, rfl, _, y, x, dy, dx, rfl, by omega, by omega, ob.keep s12, (ox.keep sm).keep s12, fun i => absurd i no, fun _ A3 s3 => ?_, fun i => absurd i no⟩
      refine ⟨by show 3 ≤ sizeLine; decide, fun T1 hT1 => ?_⟩
      have sT := (s12.trans s3).trans (same_new (o := .lst [V.str dy.shown, V.str dy.shown, V.str dy.shown]) hT1)
      have od := (ob.keep sT).dp
      refine ⟨_, rfl, _, rfl, y, dy, rfl, od, S.sh, S.nd, S.dep, S.fit, _, rfl, y, dy, rfl, od, S.sh, S.nd, S.dep, S.fit, _, rfl, y, dy, rfl, od, S.sh, S.nd, S.dep, S.fit, by show 3 ≤ sizeLine; decide, fun T2 hT2 => ?_⟩
      have sU := same_new (o := .lst [V.str dy.shown, V.str dy.shown, V.str dy.shown]) hT2
      refine ⟨T1, T2, _, rfl, rfl, SqL.of (sU _ _ upd_same), SqL.of upd_same, _, rfl, iteF ?_⟩
      refine ⟨_, rfl, _, rfl, _, rfl, _, _, _, _, _, rfl, by omega, by omega, ob_num N, ob_num M, fun _ _ A4 s4 => ⟨rfl, _, rfl, iteF ⟨⟨_, _, rfl⟩, ((sm.trans sT).trans sU).trans s4⟩⟩, fun n => absurd iN n, fun _ n => absurd ⟨es, M, rfl⟩ n⟩
    · obtain ⟨⟨v10, v11, rfl⟩, sm⟩ := hP
      exact k _
end
end K11

namespace K11
open PySem L2 Wm TL Dv PySem.W
theorem all_mk {l : PySem.W.OpenLaw} {w : World} {K : PySem.W.Frag} {h : Heap} {mg : Str → Option Value} {fa : Addr} (X : K.In h) (G : h.Ns mainGlobals mg) (hfa : mg "law" = some (.ref fa))
    {xC : Addr}
    (axC : PySem.W.nsIn K mainGlobals "Strokes" = some (some (.ref xC)))
    {x_is_whole : Addr} {od_is_whole an_is_whole : Option Addr} {sl_is_whole : Array (Option Value)} {oc_is_whole dc_is_whole pm_is_whole cd_is_whole ct_is_whole : Value}
    {kV_is_whole : Value}
    (a_is_whole : PySem.W.nsIn K mainGlobals "is_whole" = some (some (.ref x_is_whole)))
    (l_is_whole : K.lookup x_is_whole = some ⟨oc_is_whole, od_is_whole, .func (PySem.W.fnOf "is_whole" "is_whole" (defArgs s_is_whole) (defBody s_is_whole) (defScope s_is_whole) .none kV_is_whole dc_is_whole pm_is_whole an_is_whole cd_is_whole ct_is_whole), sl_is_whole⟩)
    (c_is_whole : PySem.W.codeIn K cd_is_whole "is_whole" = true)
    (k_is_whole : PySem.W.keepIn K (.ref x_is_whole) = true)
    {x_check_offset : Addr} {od_check_offset an_check_offset : Option Addr} {sl_check_offset : Array (Option Value)} {oc_check_offset dc_check_offset pm_check_offset cd_check_offset ct_check_offset : Value}
    {kV_check_offset : Value}
    (a_check_offset : PySem.W.nsIn K mainGlobals "check_offset" = some (some (.ref x_check_offset)))
    (l_check_offset : K.lookup x_check_offset = some ⟨oc_check_offset, od_check_offset, .func (PySem.W.fnOf "check_offset" "check_offset" (defArgs s_check_offset) (defBody s_check_offset) (defScope s_check_offset) .none kV_check_offset dc_check_offset pm_check_offset an_check_offset cd_check_offset ct_check_offset), sl_check_offset⟩)
    (c_check_offset : PySem.W.codeIn K cd_check_offset "check_offset" = true)
    (k_check_offset : PySem.W.keepIn K (.ref x_check_offset) = true)
    {x_init : Addr} {od_init an_init : Option Addr} {sl_init : Array (Option Value)} {oc_init dc_init pm_init cd_init ct_init : Value}
    {kV_init : Value}
    {xT xE : Addr} {ocT : Value} {odT : Option Addr} {nT : Nat} {slT : Array (Option Value)}
    (a_init : PySem.W.findIn K (.ref xC) "__init__" = some (some (.ref x_init)))
    (i_init : PySem.W.isFn K (.ref x_init) = true)
    (l_init : K.lookup x_init = some ⟨oc_init, od_init, .func (PySem.W.fnOf "__init__" "Strokes.__init__" (defArgs s_init) (defBody s_init) (defScope s_init) (.ref xT) kV_init dc_init pm_init an_init cd_init ct_init), sl_init⟩)
    (c_init : PySem.W.codeIn K cd_init "Strokes.__init__" = true)
    (k_init : PySem.W.keepIn K (.ref x_init) = true)
    (e_init : K.lookup xT = some ⟨ocT, odT, .seq #[.ref xE] nT, slT⟩)
    {x_rshift : Addr} {od_rshift an_rshift : Option Addr} {sl_rshift : Array (Option Value)} {oc_rshift dc_rshift pm_rshift cd_rshift ct_rshift : Value}
    {kV_rshift : Value}
    (a_rshift : PySem.W.findIn K (.ref xC) "__rshift__" = some (some (.ref x_rshift)))
    (i_rshift : PySem.W.isFn K (.ref x_rshift) = true)
    (l_rshift : K.lookup x_rshift = some ⟨oc_rshift, od_rshift, .func (PySem.W.fnOf "__rshift__" "Strokes.__rshift__" (defArgs s_rshift) (defBody s_rshift) (defScope s_rshift) .none kV_rshift dc_rshift pm_rshift an_rshift cd_rshift ct_rshift), sl_rshift⟩)
    (c_rshift : PySem.W.codeIn K cd_rshift "Strokes.__rshift__" = true)
    (k_rshift : PySem.W.keepIn K (.ref x_rshift) = true)
    {x_swithin : Addr} {od_swithin an_swithin : Option Addr} {sl_swithin : Array (Option Value)} {oc_swithin dc_swithin pm_swithin cd_swithin ct_swithin : Value}
    {kV_swithin : Value}
    (a_swithin : PySem.W.findIn K (.ref xC) "within" = some (some (.ref x_swithin)))
    (i_swithin : PySem.W.isFn K (.ref x_swithin) = true)
    (l_swithin : K.lookup x_swithin = some ⟨oc_swithin, od_swithin, .func (PySem.W.fnOf "within" "Strokes.within" (defArgs s_swithin) (defBody s_swithin) (defScope s_swithin) .none kV_swithin dc_swithin pm_swithin an_swithin cd_swithin ct_swithin), sl_swithin⟩)
    (c_swithin : PySem.W.codeIn K cd_swithin "Strokes.within" = true)
    (k_swithin : PySem.W.keepIn K (.ref x_swithin) = true)
    {x_is_number : Addr} {od_is_number an_is_number : Option Addr} {sl_is_number : Array (Option Value)} {oc_is_number dc_is_number pm_is_number cd_is_number ct_is_number : Value}
    {kV_is_number : Value}
    (a_is_number : PySem.W.nsIn K mainGlobals "is_number" = some (some (.ref x_is_number)))
    (l_is_number : K.lookup x_is_number = some ⟨oc_is_number, od_is_number, .func (PySem.W.fnOf "is_number" "is_number" (defArgs s_is_number) (defBody s_is_number) (defScope s_is_number) .none kV_is_number dc_is_number pm_is_number an_is_number cd_is_number ct_is_number), sl_is_number⟩)
    (c_is_number : PySem.W.codeIn K cd_is_number "is_number" = true)
    (k_is_number : PySem.W.keepIn K (.ref x_is_number) = true)
    {x_check_number : Addr} {od_check_number an_check_number : Option Addr} {sl_check_number : Array (Option Value)} {oc_check_number dc_check_number pm_check_number cd_check_number ct_check_number : Value}
    {kV_check_number : Value}
    (a_check_number : PySem.W.nsIn K mainGlobals "check_number" = some (some (.ref x_check_number)))
    (l_check_number : K.lookup x_check_number = some ⟨oc_check_number, od_check_number, .func (PySem.W.fnOf "check_number" "check_number" (defArgs s_check_number) (defBody s_check_number) (defScope s_check_number) .none kV_check_number dc_check_number pm_check_number an_check_number cd_check_number ct_check_number), sl_check_number⟩)
    (c_check_number : PySem.W.codeIn K cd_check_number "check_number" = true)
    (k_check_number : PySem.W.keepIn K (.ref x_check_number) = true)
    {x_blocks : Addr} {od_blocks an_blocks : Option Addr} {sl_blocks : Array (Option Value)} {oc_blocks dc_blocks pm_blocks cd_blocks ct_blocks : Value}
    {kV_blocks : Value}
    (a_blocks : PySem.W.nsIn K mainGlobals "blocks" = some (some (.ref x_blocks)))
    (l_blocks : K.lookup x_blocks = some ⟨oc_blocks, od_blocks, .func (PySem.W.fnOf "blocks" "blocks" (defArgs s_blocks) (defBody s_blocks) (defScope s_blocks) .none kV_blocks dc_blocks pm_blocks an_blocks cd_blocks ct_blocks), sl_blocks⟩)
    (c_blocks : PySem.W.codeIn K cd_blocks "blocks" = true)
    (k_blocks : PySem.W.keepIn K (.ref x_blocks) = true)
    {x_row_of : Addr} {od_row_of an_row_of : Option Addr} {sl_row_of : Array (Option Value)} {oc_row_of dc_row_of pm_row_of cd_row_of ct_row_of : Value}
    {kV_row_of : Value}
    (a_row_of : PySem.W.nsIn K mainGlobals "row_of" = some (some (.ref x_row_of)))
    (l_row_of : K.lookup x_row_of = some ⟨oc_row_of, od_row_of, .func (PySem.W.fnOf "row_of" "row_of" (defArgs s_row_of) (defBody s_row_of) (defScope s_row_of) .none kV_row_of dc_row_of pm_row_of an_row_of cd_row_of ct_row_of), sl_row_of⟩)
    (c_row_of : PySem.W.codeIn K cd_row_of "row_of" = true)
    (k_row_of : PySem.W.keepIn K (.ref x_row_of) = true)
    {x_length_of : Addr} {od_length_of an_length_of : Option Addr} {sl_length_of : Array (Option Value)} {oc_length_of dc_length_of pm_length_of cd_length_of ct_length_of : Value}
    {kV_length_of : Value}
    (a_length_of : PySem.W.nsIn K mainGlobals "length_of" = some (some (.ref x_length_of)))
    (l_length_of : K.lookup x_length_of = some ⟨oc_length_of, od_length_of, .func (PySem.W.fnOf "length_of" "length_of" (defArgs s_length_of) (defBody s_length_of) (defScope s_length_of) .none kV_length_of dc_length_of pm_length_of an_length_of cd_length_of ct_length_of), sl_length_of⟩)
    (c_length_of : PySem.W.codeIn K cd_length_of "length_of" = true)
    (k_length_of : PySem.W.keepIn K (.ref x_length_of) = true)
    {x_strokes_of : Addr} {od_strokes_of an_strokes_of : Option Addr} {sl_strokes_of : Array (Option Value)} {oc_strokes_of dc_strokes_of pm_strokes_of cd_strokes_of ct_strokes_of : Value}
    {kV_strokes_of : Value}
    (a_strokes_of : PySem.W.nsIn K mainGlobals "strokes_of" = some (some (.ref x_strokes_of)))
    (l_strokes_of : K.lookup x_strokes_of = some ⟨oc_strokes_of, od_strokes_of, .func (PySem.W.fnOf "strokes_of" "strokes_of" (defArgs s_strokes_of) (defBody s_strokes_of) (defScope s_strokes_of) .none kV_strokes_of dc_strokes_of pm_strokes_of an_strokes_of cd_strokes_of ct_strokes_of), sl_strokes_of⟩)
    (c_strokes_of : PySem.W.codeIn K cd_strokes_of "strokes_of" = true)
    (k_strokes_of : PySem.W.keepIn K (.ref x_strokes_of) = true)
    {x_block_ends : Addr} {od_block_ends an_block_ends : Option Addr} {sl_block_ends : Array (Option Value)} {oc_block_ends dc_block_ends pm_block_ends cd_block_ends ct_block_ends : Value}
    {kV_block_ends : Value}
    (a_block_ends : PySem.W.nsIn K mainGlobals "block_ends" = some (some (.ref x_block_ends)))
    (l_block_ends : K.lookup x_block_ends = some ⟨oc_block_ends, od_block_ends, .func (PySem.W.fnOf "block_ends" "block_ends" (defArgs s_block_ends) (defBody s_block_ends) (defScope s_block_ends) .none kV_block_ends dc_block_ends pm_block_ends an_block_ends cd_block_ends ct_block_ends), sl_block_ends⟩)
    (c_block_ends : PySem.W.codeIn K cd_block_ends "block_ends" = true)
    (k_block_ends : PySem.W.keepIn K (.ref x_block_ends) = true)
    {x_home_index : Addr} {od_home_index an_home_index : Option Addr} {sl_home_index : Array (Option Value)} {oc_home_index dc_home_index pm_home_index cd_home_index ct_home_index : Value}
    {kV_home_index : Value}
    (a_home_index : PySem.W.nsIn K mainGlobals "home_index" = some (some (.ref x_home_index)))
    (l_home_index : K.lookup x_home_index = some ⟨oc_home_index, od_home_index, .func (PySem.W.fnOf "home_index" "home_index" (defArgs s_home_index) (defBody s_home_index) (defScope s_home_index) .none kV_home_index dc_home_index pm_home_index an_home_index cd_home_index ct_home_index), sl_home_index⟩)
    (c_home_index : PySem.W.codeIn K cd_home_index "home_index" = true)
    (k_home_index : PySem.W.keepIn K (.ref x_home_index) = true)
    {x_fit_blocks : Addr} {od_fit_blocks an_fit_blocks : Option Addr} {sl_fit_blocks : Array (Option Value)} {oc_fit_blocks dc_fit_blocks pm_fit_blocks cd_fit_blocks ct_fit_blocks : Value}
    {kV_fit_blocks : Value}
    (a_fit_blocks : PySem.W.nsIn K mainGlobals "fit_blocks" = some (some (.ref x_fit_blocks)))
    (l_fit_blocks : K.lookup x_fit_blocks = some ⟨oc_fit_blocks, od_fit_blocks, .func (PySem.W.fnOf "fit_blocks" "fit_blocks" (defArgs s_fit_blocks) (defBody s_fit_blocks) (defScope s_fit_blocks) .none kV_fit_blocks dc_fit_blocks pm_fit_blocks an_fit_blocks cd_fit_blocks ct_fit_blocks), sl_fit_blocks⟩)
    (c_fit_blocks : PySem.W.codeIn K cd_fit_blocks "fit_blocks" = true)
    (k_fit_blocks : PySem.W.keepIn K (.ref x_fit_blocks) = true)
    {x_fits : Addr} {od_fits an_fits : Option Addr} {sl_fits : Array (Option Value)} {oc_fits dc_fits pm_fits cd_fits ct_fits : Value}
    {kV_fits : Value}
    (a_fits : PySem.W.nsIn K mainGlobals "fits" = some (some (.ref x_fits)))
    (l_fits : K.lookup x_fits = some ⟨oc_fits, od_fits, .func (PySem.W.fnOf "fits" "fits" (defArgs s_fits) (defBody s_fits) (defScope s_fits) .none kV_fits dc_fits pm_fits an_fits cd_fits ct_fits), sl_fits⟩)
    (c_fits : PySem.W.codeIn K cd_fits "fits" = true)
    (k_fits : PySem.W.keepIn K (.ref x_fits) = true)
    {x_fits_by_ticks : Addr} {od_fits_by_ticks an_fits_by_ticks : Option Addr} {sl_fits_by_ticks : Array (Option Value)} {oc_fits_by_ticks dc_fits_by_ticks pm_fits_by_ticks cd_fits_by_ticks ct_fits_by_ticks : Value}
    {kV_fits_by_ticks : Value}
    (a_fits_by_ticks : PySem.W.nsIn K mainGlobals "fits_by_ticks" = some (some (.ref x_fits_by_ticks)))
    (l_fits_by_ticks : K.lookup x_fits_by_ticks = some ⟨oc_fits_by_ticks, od_fits_by_ticks, .func (PySem.W.fnOf "fits_by_ticks" "fits_by_ticks" (defArgs s_fits_by_ticks) (defBody s_fits_by_ticks) (defScope s_fits_by_ticks) .none kV_fits_by_ticks dc_fits_by_ticks pm_fits_by_ticks an_fits_by_ticks cd_fits_by_ticks ct_fits_by_ticks), sl_fits_by_ticks⟩)
    (c_fits_by_ticks : PySem.W.codeIn K cd_fits_by_ticks "fits_by_ticks" = true)
    (k_fits_by_ticks : PySem.W.keepIn K (.ref x_fits_by_ticks) = true)
    {x_bag : Addr} {od_bag an_bag : Option Addr} {sl_bag : Array (Option Value)} {oc_bag dc_bag pm_bag cd_bag ct_bag : Value}
    {kV_bag : Value}
    (a_bag : PySem.W.nsIn K mainGlobals "_law_bag" = some (some (.ref x_bag)))
    (l_bag : K.lookup x_bag = some ⟨oc_bag, od_bag, .func (PySem.W.fnOf "_law_bag" "_law_bag" (defArgs s_bag) (defBody s_bag) (defScope s_bag) .none kV_bag dc_bag pm_bag an_bag cd_bag ct_bag), sl_bag⟩)
    (c_bag : PySem.W.codeIn K cd_bag "_law_bag" = true)
    (k_bag : PySem.W.keepIn K (.ref x_bag) = true)
    {x_draw : Addr} {od_draw an_draw : Option Addr} {sl_draw : Array (Option Value)} {oc_draw dc_draw pm_draw cd_draw ct_draw : Value}
    {kV_draw : Value}
    (a_draw : PySem.W.nsIn K mainGlobals "_law_draw" = some (some (.ref x_draw)))
    (l_draw : K.lookup x_draw = some ⟨oc_draw, od_draw, .func (PySem.W.fnOf "_law_draw" "_law_draw" (defArgs s_draw) (defBody s_draw) (defScope s_draw) .none kV_draw dc_draw pm_draw an_draw cd_draw ct_draw), sl_draw⟩)
    (c_draw : PySem.W.codeIn K cd_draw "_law_draw" = true)
    (k_draw : PySem.W.keepIn K (.ref x_draw) = true)
    {x_number : Addr} {od_number an_number : Option Addr} {sl_number : Array (Option Value)} {oc_number dc_number pm_number cd_number ct_number : Value}
    {kV_number : Value}
    (a_number : PySem.W.nsIn K mainGlobals "_law_number" = some (some (.ref x_number)))
    (l_number : K.lookup x_number = some ⟨oc_number, od_number, .func (PySem.W.fnOf "_law_number" "_law_number" (defArgs s_number) (defBody s_number) (defScope s_number) .none kV_number dc_number pm_number an_number cd_number ct_number), sl_number⟩)
    (c_number : PySem.W.codeIn K cd_number "_law_number" = true)
    (k_number : PySem.W.keepIn K (.ref x_number) = true)
    {x_row : Addr} {od_row an_row : Option Addr} {sl_row : Array (Option Value)} {oc_row dc_row pm_row cd_row ct_row : Value}
    {kV_row : Value}
    (a_row : PySem.W.nsIn K mainGlobals "_law_row" = some (some (.ref x_row)))
    (l_row : K.lookup x_row = some ⟨oc_row, od_row, .func (PySem.W.fnOf "_law_row" "_law_row" (defArgs s_row) (defBody s_row) (defScope s_row) .none kV_row dc_row pm_row an_row cd_row ct_row), sl_row⟩)
    (c_row : PySem.W.codeIn K cd_row "_law_row" = true)
    (k_row : PySem.W.keepIn K (.ref x_row) = true)
    {x_wider : Addr} {od_wider an_wider : Option Addr} {sl_wider : Array (Option Value)} {oc_wider dc_wider pm_wider cd_wider ct_wider : Value}
    {kV_wider : Value}
    (a_wider : PySem.W.nsIn K mainGlobals "_law_wider" = some (some (.ref x_wider)))
    (l_wider : K.lookup x_wider = some ⟨oc_wider, od_wider, .func (PySem.W.fnOf "_law_wider" "_law_wider" (defArgs s_wider) (defBody s_wider) (defScope s_wider) .none kV_wider dc_wider pm_wider an_wider cd_wider ct_wider), sl_wider⟩)
    (c_wider : PySem.W.codeIn K cd_wider "_law_wider" = true)
    (k_wider : PySem.W.keepIn K (.ref x_wider) = true)
    {x_strokes : Addr} {od_strokes an_strokes : Option Addr} {sl_strokes : Array (Option Value)} {oc_strokes dc_strokes pm_strokes cd_strokes ct_strokes : Value}
    {kV_strokes : Value}
    (a_strokes : PySem.W.nsIn K mainGlobals "_law_strokes" = some (some (.ref x_strokes)))
    (l_strokes : K.lookup x_strokes = some ⟨oc_strokes, od_strokes, .func (PySem.W.fnOf "_law_strokes" "_law_strokes" (defArgs s_strokes) (defBody s_strokes) (defScope s_strokes) .none kV_strokes dc_strokes pm_strokes an_strokes cd_strokes ct_strokes), sl_strokes⟩)
    (c_strokes : PySem.W.codeIn K cd_strokes "_law_strokes" = true)
    (k_strokes : PySem.W.keepIn K (.ref x_strokes) = true)
    {x_spans : Addr} {od_spans an_spans : Option Addr} {sl_spans : Array (Option Value)} {oc_spans dc_spans pm_spans cd_spans ct_spans : Value}
    {kV_spans : Value}
    (a_spans : PySem.W.nsIn K mainGlobals "_law_spans" = some (some (.ref x_spans)))
    (l_spans : K.lookup x_spans = some ⟨oc_spans, od_spans, .func (PySem.W.fnOf "_law_spans" "_law_spans" (defArgs s_spans) (defBody s_spans) (defScope s_spans) .none kV_spans dc_spans pm_spans an_spans cd_spans ct_spans), sl_spans⟩)
    (c_spans : PySem.W.codeIn K cd_spans "_law_spans" = true)
    (k_spans : PySem.W.keepIn K (.ref x_spans) = true)
    {x_due : Addr} {od_due an_due : Option Addr} {sl_due : Array (Option Value)} {oc_due dc_due pm_due cd_due ct_due : Value}
    {kV_due : Value}
    (a_due : PySem.W.nsIn K mainGlobals "_law_due" = some (some (.ref x_due)))
    (l_due : K.lookup x_due = some ⟨oc_due, od_due, .func (PySem.W.fnOf "_law_due" "_law_due" (defArgs s_due) (defBody s_due) (defScope s_due) .none kV_due dc_due pm_due an_due cd_due ct_due), sl_due⟩)
    (c_due : PySem.W.codeIn K cd_due "_law_due" = true)
    (k_due : PySem.W.keepIn K (.ref x_due) = true)
    {x_blocks_due : Addr} {od_blocks_due an_blocks_due : Option Addr} {sl_blocks_due : Array (Option Value)} {oc_blocks_due dc_blocks_due pm_blocks_due cd_blocks_due ct_blocks_due : Value}
    {kV_blocks_due : Value}
    (a_blocks_due : PySem.W.nsIn K mainGlobals "_law_blocks_due" = some (some (.ref x_blocks_due)))
    (l_blocks_due : K.lookup x_blocks_due = some ⟨oc_blocks_due, od_blocks_due, .func (PySem.W.fnOf "_law_blocks_due" "_law_blocks_due" (defArgs s_blocks_due) (defBody s_blocks_due) (defScope s_blocks_due) .none kV_blocks_due dc_blocks_due pm_blocks_due an_blocks_due cd_blocks_due ct_blocks_due), sl_blocks_due⟩)
    (c_blocks_due : PySem.W.codeIn K cd_blocks_due "_law_blocks_due" = true)
    (k_blocks_due : PySem.W.keepIn K (.ref x_blocks_due) = true)
    {x_whole : Addr} {od_whole an_whole : Option Addr} {sl_whole : Array (Option Value)} {oc_whole dc_whole pm_whole cd_whole ct_whole : Value}
    {kV_whole : Value}
    (a_whole : PySem.W.nsIn K mainGlobals "_law_whole" = some (some (.ref x_whole)))
    (l_whole : K.lookup x_whole = some ⟨oc_whole, od_whole, .func (PySem.W.fnOf "_law_whole" "_law_whole" (defArgs s_whole) (defBody s_whole) (defScope s_whole) .none kV_whole dc_whole pm_whole an_whole cd_whole ct_whole), sl_whole⟩)
    (c_whole : PySem.W.codeIn K cd_whole "_law_whole" = true)
    (k_whole : PySem.W.keepIn K (.ref x_whole) = true)
    {x_pair : Addr} {od_pair an_pair : Option Addr} {sl_pair : Array (Option Value)} {oc_pair dc_pair pm_pair cd_pair ct_pair : Value}
    {kV_pair : Value}
    (a_pair : PySem.W.nsIn K mainGlobals "_law_pair" = some (some (.ref x_pair)))
    (l_pair : K.lookup x_pair = some ⟨oc_pair, od_pair, .func (PySem.W.fnOf "_law_pair" "_law_pair" (defArgs s_pair) (defBody s_pair) (defScope s_pair) .none kV_pair dc_pair pm_pair an_pair cd_pair ct_pair), sl_pair⟩)
    (c_pair : PySem.W.codeIn K cd_pair "_law_pair" = true)
    (k_pair : PySem.W.keepIn K (.ref x_pair) = true)
    {x_refused : Addr} {od_refused an_refused : Option Addr} {sl_refused : Array (Option Value)} {oc_refused dc_refused pm_refused cd_refused ct_refused : Value}
    {kV_refused : Value}
    (a_refused : PySem.W.nsIn K mainGlobals "_law_refused" = some (some (.ref x_refused)))
    (l_refused : K.lookup x_refused = some ⟨oc_refused, od_refused, .func (PySem.W.fnOf "_law_refused" "_law_refused" (defArgs s_refused) (defBody s_refused) (defScope s_refused) .none kV_refused dc_refused pm_refused an_refused cd_refused ct_refused), sl_refused⟩)
    (c_refused : PySem.W.codeIn K cd_refused "_law_refused" = true)
    (k_refused : PySem.W.keepIn K (.ref x_refused) = true)
    {x_law : Addr} {od_law an_law : Option Addr} {sl_law : Array (Option Value)} {oc_law dc_law pm_law cd_law ct_law : Value}
    {kV_law : Value}
    (a_law : PySem.W.nsIn K mainGlobals "law" = some (some (.ref x_law)))
    (l_law : K.lookup x_law = some ⟨oc_law, od_law, .func (PySem.W.fnOf "law" "law" (defArgs s_law) (defBody s_law) (defScope s_law) .none kV_law dc_law pm_law an_law cd_law ct_law), sl_law⟩)
    (c_law : PySem.W.codeIn K cd_law "law" = true)
    (k_law : PySem.W.keepIn K (.ref x_law) = true)
    (pg : PySem.W.plainGet K xC Str.empty = true)
    (hd : PySem.W.hasDictIn K xC = true)
    (po : PySem.W.plainOver K xC = true)
    (sa : PySem.W.findIn K (.ref xC) "__setattr__" = some (some (.builtin "object.__setattr__")))
    (mk : PySem.W.makesIn K xC = true)
    (kc : PySem.W.keepIn K (.ref xC) = true)
    (nO : PySem.W.findIn K (.ref xC) "offsets" = some none)
    (sf : PySem.W.selfFirst K xC = true)
    {eCX eIX : Addr} {enmX eqX : Str} {eNX : Addr} {ebsX ebmX : List Value} {esnX : List Str} {esubX : List Value} {eabX : Bool} {ecolX : Option Bool} {eddX : Option Addr} {em0X em1X em2X em3X em5X : Option Value}
    {eocX edcX epmX ecdX ectX : Value} {eodX eanX : Option Addr} {eslX : Array (Option Value)} {ep1X ep2X eq1X eq2X eq3X eq4X : Pos}
    (e_aX : PySem.W.nsIn K mainGlobals "BadNumber" = some (some (.ref eCX)))
    (e_xX : K.lookup eCX = some (excClassObj enmX eqX eCX eNX ebsX ebmX true esnX esubX eabX ecolX eddX em0X em1X em2X em3X em5X "ValueError.__new__"))
    (e_bX : PySem.HandSPX.refsVE ebmX = true)
    (e_sX : PySem.W.findIn K (.ref eCX) "__setattr__" = some (some (.builtin "object.__setattr__"))) (e_gX : PySem.W.findIn K (.ref eCX) "__getattribute__" = some (some (.builtin "BaseException.__getattribute__"))) (e_hX : PySem.W.findIn K (.ref eCX) "__getattr__" = some none) (e_nX : PySem.W.findIn K (.ref eCX) "number" = some none)
    (e_iX : PySem.W.findIn K (.ref eCX) "__init__" = some (some (.ref eIX))) (e_tX : PySem.W.typeIn K (.ref eIX) = some (.type "function"))
    (e_lX : K.lookup eIX = some ⟨eocX, eodX, .func (PySem.W.fnOf "__init__" "BadNumber.__init__" (PySem.LowX.iA ep1X ep2X) (PySem.LowX.iB eq1X eq2X eq3X eq4X) PySem.LowX.iS .none .none edcX epmX eanX ecdX ectX), eslX⟩) (e_cX : PySem.W.codeIn K ecdX "BadNumber.__init__" = true)
    (e_kX : PySem.W.keepIn K (.ref eCX) = true) (e_eX : PySem.W.subIn K (.ref eCX) (.type "BaseException") = some true) (e_tyX : PySem.W.typeIn K (.ref eCX) = some (.type "type")) (e_dX : PySem.W.hasDictIn K eCX = true) (e_scX : PySem.W.subIn K (.ref eCX) (.ref eCX) = some true)
    {fo_int ro_int : Option Value}
    (f1_int : PySem.W.findIn K (.type "int") (PySem.dunder Operator.RShift.info.2) = some fo_int)
    (f2_int : PySem.W.findIn K (.type "int") (dunderR Operator.RShift.info.2) = some ro_int)
    (f3_int : PySem.W.subIn K (.type "int") (.ref xC) = some false)
    {rc_ : Option Value}
    (rcl : PySem.W.findIn K (.ref xC) (dunderR Operator.RShift.info.2) = some rc_)
    (rcp : rc_ = none ∨ ∃ g : Addr, rc_ = some (.ref g))
    {t_DIGITS : Tok}
    (n_DIGITS : PySem.W.nsIn K mainGlobals "DIGITS" = some (some (.str "123456789" t_DIGITS)))
    {t_MOST_DIGITS : Tok}
    (n_MOST_DIGITS : PySem.W.nsIn K mainGlobals "MOST_DIGITS" = some (some (.int 4 t_MOST_DIGITS)))
    {t_GREATEST_SUM : Tok}
    (n_GREATEST_SUM : PySem.W.nsIn K mainGlobals "GREATEST_SUM" = some (some (.int 24 t_GREATEST_SUM)))
    (z_all : PySem.W.nsIn K mainGlobals "all" = some none)
    (z_bool : PySem.W.nsIn K mainGlobals "bool" = some none)
    (z_enumerate : PySem.W.nsIn K mainGlobals "enumerate" = some none)
    (z_int : PySem.W.nsIn K mainGlobals "int" = some none)
    (z_isinstance : PySem.W.nsIn K mainGlobals "isinstance" = some none)
    (z_len : PySem.W.nsIn K mainGlobals "len" = some none)
    (z_list : PySem.W.nsIn K mainGlobals "list" = some none)
    (z_min : PySem.W.nsIn K mainGlobals "min" = some none)
    (z_range : PySem.W.nsIn K mainGlobals "range" = some none)
    (z_repr : PySem.W.nsIn K mainGlobals "repr" = some none)
    (z_set : PySem.W.nsIn K mainGlobals "set" = some none)
    (z_sorted : PySem.W.nsIn K mainGlobals "sorted" = some none)
    (z_str : PySem.W.nsIn K mainGlobals "str" = some none)
    (z_sum : PySem.W.nsIn K mainGlobals "sum" = some none)
    (z_tuple : PySem.W.nsIn K mainGlobals "tuple" = some none)
    : ∃ fd : FuncData, (∀ (s : Shared) (v : Value), BindsTo s fd ⟨[v], []⟩ [("_law_script", v)]) ∧ ∀ base : Heap, K.In base → base.Ns mainGlobals mg → Rp.GOk l.prog w K mg base CX0 10 fa fd ["_law_script"] (sp_law K) := by
  have e := hfa.symm.trans (PySem.W.mg_of X G a_law)
  cases e
  have F_is_whole := fun_mk (st := s_is_whole) l_is_whole c_is_whole k_is_whole
  have b_is_whole := F_is_whole.binds (ps := ["thing"]) fun _ _ _ _ _ _ us hl => match us, hl with | [_], _ => rfl
  have F_check_offset := fun_mk (st := s_check_offset) l_check_offset c_check_offset k_check_offset
  have b_check_offset := F_check_offset.binds (ps := ["thing"]) fun _ _ _ _ _ _ us hl => match us, hl with | [_], _ => rfl
  have F_init : FunD K "__init__" "Strokes.__init__" (defArgs s_init) (defBody s_init) (defScope s_init) [V.ref xE] [] x_init _ := ⟨⟨_, _, _, _, _, _, _, _, _, _, rfl, l_init, c_init, .inr ⟨List.cons_ne_nil _ _, xT, _, [.ref xE], _, rfl, e_init, rfl, .cons rfl .nil⟩, .inl rfl⟩, k_init⟩
  have b_init := F_init.binds1 (ps := ["self", "offsets"]) 2 1 (List.cons_ne_nil _ _) rfl fun T kV doc pm an cdv ct us its h1 h2 => match us, its, h1, h2 with | [_, _], [_], _, _ => ⟨_, rfl, rfl⟩
  obtain ⟨ds_init, rd_init, b_init⟩ := b_init
  cases rd_init
  have F_rshift := fun_mk (st := s_rshift) l_rshift c_rshift k_rshift
  have b_rshift := F_rshift.binds (ps := ["self", "other"]) fun _ _ _ _ _ _ us hl => match us, hl with | [_, _], _ => rfl
  have F_swithin := fun_mk (st := s_swithin) l_swithin c_swithin k_swithin
  have b_swithin := F_swithin.binds (ps := ["self", "other"]) fun _ _ _ _ _ _ us hl => match us, hl with | [_, _], _ => rfl
  have F_is_number := fun_mk (st := s_is_number) l_is_number c_is_number k_is_number
  have b_is_number := F_is_number.binds (ps := ["thing"]) fun _ _ _ _ _ _ us hl => match us, hl with | [_], _ => rfl
  have F_check_number := fun_mk (st := s_check_number) l_check_number c_check_number k_check_number
  have b_check_number := F_check_number.binds (ps := ["thing"]) fun _ _ _ _ _ _ us hl => match us, hl with | [_], _ => rfl
  have F_blocks := fun_mk (st := s_blocks) l_blocks c_blocks k_blocks
  have b_blocks := F_blocks.binds (ps := ["number"]) fun _ _ _ _ _ _ us hl => match us, hl with | [_], _ => rfl
  have F_row_of := fun_mk (st := s_row_of) l_row_of c_row_of k_row_of
  have b_row_of := F_row_of.binds (ps := ["number"]) fun _ _ _ _ _ _ us hl => match us, hl with | [_], _ => rfl
  have F_length_of := fun_mk (st := s_length_of) l_length_of c_length_of k_length_of
  have b_length_of := F_length_of.binds (ps := ["number"]) fun _ _ _ _ _ _ us hl => match us, hl with | [_], _ => rfl
  have F_strokes_of := fun_mk (st := s_strokes_of) l_strokes_of c_strokes_of k_strokes_of
  have b_strokes_of := F_strokes_of.binds (ps := ["number"]) fun _ _ _ _ _ _ us hl => match us, hl with | [_], _ => rfl
  have F_block_ends := fun_mk (st := s_block_ends) l_block_ends c_block_ends k_block_ends
  have b_block_ends := F_block_ends.binds (ps := ["number"]) fun _ _ _ _ _ _ us hl => match us, hl with | [_], _ => rfl
  have F_home_index := fun_mk (st := s_home_index) l_home_index c_home_index k_home_index
  have b_home_index := F_home_index.binds (ps := ["homes", "first", "last"]) fun _ _ _ _ _ _ us hl => match us, hl with | [_, _, _], _ => rfl
  have F_fit_blocks := fun_mk (st := s_fit_blocks) l_fit_blocks c_fit_blocks k_fit_blocks
  have b_fit_blocks := F_fit_blocks.binds (ps := ["number", "within", "at"]) fun _ _ _ _ _ _ us hl => match us, hl with | [_, _, _], _ => rfl
  have F_fits := fun_mk (st := s_fits) l_fits c_fits k_fits
  have b_fits := F_fits.binds (ps := ["number", "within"]) fun _ _ _ _ _ _ us hl => match us, hl with | [_, _], _ => rfl
  have F_fits_by_ticks := fun_mk (st := s_fits_by_ticks) l_fits_by_ticks c_fits_by_ticks k_fits_by_ticks
  have b_fits_by_ticks := F_fits_by_ticks.binds (ps := ["number", "within"]) fun _ _ _ _ _ _ us hl => match us, hl with | [_, _], _ => rfl
  have F_bag := fun_mk (st := s_bag) l_bag c_bag k_bag
  have b_bag := F_bag.binds (ps := ["_law_script"]) fun _ _ _ _ _ _ us hl => match us, hl with | [_], _ => rfl
  have F_draw := fun_mk (st := s_draw) l_draw c_draw k_draw
  have b_draw := F_draw.binds (ps := ["_law_bag_here", "_law_limit"]) fun _ _ _ _ _ _ us hl => match us, hl with | [_, _], _ => rfl
  have F_number := fun_mk (st := s_number) l_number c_number k_number
  have b_number := F_number.binds (ps := ["_law_bag_here"]) fun _ _ _ _ _ _ us hl => match us, hl with | [_], _ => rfl
  have F_row := fun_mk (st := s_row) l_row c_row k_row
  have b_row := F_row.binds (ps := ["_law_number_here"]) fun _ _ _ _ _ _ us hl => match us, hl with | [_], _ => rfl
  have F_wider := fun_mk (st := s_wider) l_wider c_wider k_wider
  have b_wider := F_wider.binds (ps := ["_law_bag_here", "_law_number_here"]) fun _ _ _ _ _ _ us hl => match us, hl with | [_, _], _ => rfl
  have F_strokes := fun_mk (st := s_strokes) l_strokes c_strokes k_strokes
  have b_strokes := F_strokes.binds (ps := ["_law_number_here"]) fun _ _ _ _ _ _ us hl => match us, hl with | [_], _ => rfl
  have F_spans := fun_mk (st := s_spans) l_spans c_spans k_spans
  have b_spans := F_spans.binds (ps := ["_law_number_here"]) fun _ _ _ _ _ _ us hl => match us, hl with | [_], _ => rfl
  have F_due := fun_mk (st := s_due) l_due c_due k_due
  have b_due := F_due.binds (ps := ["_law_number_here", "_law_within"]) fun _ _ _ _ _ _ us hl => match us, hl with | [_, _], _ => rfl
  have F_blocks_due := fun_mk (st := s_blocks_due) l_blocks_due c_blocks_due k_blocks_due
  have b_blocks_due := F_blocks_due.binds (ps := ["_law_number_here", "_law_within", "_law_at"]) fun _ _ _ _ _ _ us hl => match us, hl with | [_, _, _], _ => rfl
  have F_whole := fun_mk (st := s_whole) l_whole c_whole k_whole
  have b_whole := F_whole.binds (ps := ["_law_thing"]) fun _ _ _ _ _ _ us hl => match us, hl with | [_], _ => rfl
  have F_pair := fun_mk (st := s_pair) l_pair c_pair k_pair
  have b_pair := F_pair.binds (ps := ["_law_number_here", "_law_within"]) fun _ _ _ _ _ _ us hl => match us, hl with | [_, _], _ => rfl
  have F_refused := fun_mk (st := s_refused) l_refused c_refused k_refused
  have b_refused := F_refused.binds (ps := ["_law_which", "_law_one", "_law_other"]) fun _ _ _ _ _ _ us hl => match us, hl with | [_, _, _], _ => rfl
  have F_law := fun_mk (st := s_law) l_law c_law k_law
  have b_law := F_law.binds (ps := ["_law_script"]) fun _ _ _ _ _ _ us hl => match us, hl with | [_], _ => rfl
  have lowX : PySem.LowX.LowTxt K mg eCX eIX :=
    { gC := PySem.W.mg_of X G e_aX, cls := ⟨enmX, eqX, eNX, ebsX, _, esnX, esubX, eabX, ecolX, eddX, em0X, em1X, em2X, em3X, em5X, e_xX, e_bX⟩, sa := e_sX, ga := e_gX, gg := e_hX, noN := e_nX, iC := e_iX, tC := e_tX, kC := e_kX, exC := e_eX, tyC := e_tyX, hdC := e_dX, te := PySem.W.exm_ref e_eX e_dX e_tyX e_scX,
      fn := ⟨_, _, _, _, _, _, _, _, _, _, _, _, _, _, e_lX, e_cX⟩ }
  have T : Σ' T : Txt K mg, T.a_law = fa ∧ T.d_law = PySem.W.fnOf "law" "law" (defArgs s_law) (defBody s_law) (defScope s_law) .none kV_law dc_law pm_law an_law cd_law ct_law :=
    ⟨{ C := xC, gC := PySem.W.mg_of X G axC, clC := ⟨pg, hd, po, sa⟩,
        nO := nO, lt := ⟨⟨_, rcl, rcp⟩, sf⟩, rI := ⟨⟨_, _, f1_int, f2_int⟩, f3_int⟩,
        CN := _, fN := _, low := lowX,
        h_rshift := a_rshift, i_rshift := i_rshift,
        a_is_whole := _, d_is_whole := _, F_is_whole := F_is_whole, b_is_whole := b_is_whole, g_is_whole := PySem.W.mg_of X G a_is_whole,
        a_check_offset := _, d_check_offset := _, F_check_offset := F_check_offset, b_check_offset := b_check_offset, g_check_offset := PySem.W.mg_of X G a_check_offset,
        a_init := _, d_init := _, F_init := F_init, b_init := b_init, mk_init := ⟨mk, a_init, i_init, kc⟩, tE := xE,
        a_rshift := _, d_rshift := _, F_rshift := F_rshift, b_rshift := b_rshift, m_rshift := ⟨a_rshift, i_rshift, k_rshift⟩,
        a_swithin := _, d_swithin := _, F_swithin := F_swithin, b_swithin := b_swithin, m_swithin := ⟨a_swithin, i_swithin, k_swithin⟩,
        a_is_number := _, d_is_number := _, F_is_number := F_is_number, b_is_number := b_is_number, g_is_number := PySem.W.mg_of X G a_is_number,
        a_check_number := _, d_check_number := _, F_check_number := F_check_number, b_check_number := b_check_number, g_check_number := PySem.W.mg_of X G a_check_number,
        a_blocks := _, d_blocks := _, F_blocks := F_blocks, b_blocks := b_blocks, g_blocks := PySem.W.mg_of X G a_blocks,
        a_row_of := _, d_row_of := _, F_row_of := F_row_of, b_row_of := b_row_of, g_row_of := PySem.W.mg_of X G a_row_of,
        a_length_of := _, d_length_of := _, F_length_of := F_length_of, b_length_of := b_length_of, g_length_of := PySem.W.mg_of X G a_length_of,
        a_strokes_of := _, d_strokes_of := _, F_strokes_of := F_strokes_of, b_strokes_of := b_strokes_of, g_strokes_of := PySem.W.mg_of X G a_strokes_of,
        a_block_ends := _, d_block_ends := _, F_block_ends := F_block_ends, b_block_ends := b_block_ends, g_block_ends := PySem.W.mg_of X G a_block_ends,
        a_home_index := _, d_home_index := _, F_home_index := F_home_index, b_home_index := b_home_index, g_home_index := PySem.W.mg_of X G a_home_index,
        a_fit_blocks := _, d_fit_blocks := _, F_fit_blocks := F_fit_blocks, b_fit_blocks := b_fit_blocks, g_fit_blocks := PySem.W.mg_of X G a_fit_blocks,
        a_fits := _, d_fits := _, F_fits := F_fits, b_fits := b_fits, g_fits := PySem.W.mg_of X G a_fits,
        a_fits_by_ticks := _, d_fits_by_ticks := _, F_fits_by_ticks := F_fits_by_ticks, b_fits_by_ticks := b_fits_by_ticks, g_fits_by_ticks := PySem.W.mg_of X G a_fits_by_ticks,
        a_bag := _, d_bag := _, F_bag := F_bag, b_bag := b_bag, g_bag := PySem.W.mg_of X G a_bag,
        a_draw := _, d_draw := _, F_draw := F_draw, b_draw := b_draw, g_draw := PySem.W.mg_of X G a_draw,
        a_number := _, d_number := _, F_number := F_number, b_number := b_number, g_number := PySem.W.mg_of X G a_number,
        a_row := _, d_row := _, F_row := F_row, b_row := b_row, g_row := PySem.W.mg_of X G a_row,
        a_wider := _, d_wider := _, F_wider := F_wider, b_wider := b_wider, g_wider := PySem.W.mg_of X G a_wider,
        a_strokes := _, d_strokes := _, F_strokes := F_strokes, b_strokes := b_strokes, g_strokes := PySem.W.mg_of X G a_strokes,
        a_spans := _, d_spans := _, F_spans := F_spans, b_spans := b_spans, g_spans := PySem.W.mg_of X G a_spans,
        a_due := _, d_due := _, F_due := F_due, b_due := b_due, g_due := PySem.W.mg_of X G a_due,
        a_blocks_due := _, d_blocks_due := _, F_blocks_due := F_blocks_due, b_blocks_due := b_blocks_due, g_blocks_due := PySem.W.mg_of X G a_blocks_due,
        a_whole := _, d_whole := _, F_whole := F_whole, b_whole := b_whole, g_whole := PySem.W.mg_of X G a_whole,
        a_pair := _, d_pair := _, F_pair := F_pair, b_pair := b_pair, g_pair := PySem.W.mg_of X G a_pair,
        a_refused := _, d_refused := _, F_refused := F_refused, b_refused := b_refused, g_refused := PySem.W.mg_of X G a_refused,
        a_law := _, d_law := _, F_law := F_law, b_law := b_law, g_law := PySem.W.mg_of X G a_law,
        t_DIGITS := _, c_DIGITS := PySem.W.mg_of X G n_DIGITS,
        t_MOST_DIGITS := _, c_MOST_DIGITS := PySem.W.mg_of X G n_MOST_DIGITS,
        t_GREATEST_SUM := _, c_GREATEST_SUM := PySem.W.mg_of X G n_GREATEST_SUM,
        z_all := PySem.W.mg_none_of X G z_all,
        z_bool := PySem.W.mg_none_of X G z_bool,
        z_enumerate := PySem.W.mg_none_of X G z_enumerate,
        z_int := PySem.W.mg_none_of X G z_int,
        z_isinstance := PySem.W.mg_none_of X G z_isinstance,
        z_len := PySem.W.mg_none_of X G z_len,
        z_list := PySem.W.mg_none_of X G z_list,
        z_min := PySem.W.mg_none_of X G z_min,
        z_range := PySem.W.mg_none_of X G z_range,
        z_repr := PySem.W.mg_none_of X G z_repr,
        z_set := PySem.W.mg_none_of X G z_set,
        z_sorted := PySem.W.mg_none_of X G z_sorted,
        z_str := PySem.W.mg_none_of X G z_str,
        z_sum := PySem.W.mg_none_of X G z_sum,
        z_tuple := PySem.W.mg_none_of X G z_tuple }, rfl, rfl⟩
  obtain ⟨T, e1, e2⟩ := T
  subst e1
  refine ⟨T.d_law, fun s v => by rw [e2]; exact .of_eq rfl, fun base _ _ => ok_law T⟩
theorem walk {l : PySem.W.OpenLaw} {q : Program} {loose : List Str} {XP : (Str → Option Value) → Heap → Prop} {YP : World → Heap → Prop} {d : DefRec} {K : Params → PySem.W.Frag} (hn : l.most = some 63) (hdf : d.params.defaults = [])
    (hY : ∀ (w : World) (h : Heap), YP w h → (K w.params).In h)
    (F : ∀ (w : World) (mg : Str → Option Value) (fa : Addr) (h : Heap), (K w.params).In h → h.Ns mainGlobals mg → mg d.name = some (.ref fa) →
      ∃ fd : FuncData, (∀ (s : Shared) (u : Value), BindsTo s fd ⟨[u], []⟩ [("_law_script", u)]) ∧ ∀ base : Heap, (K w.params).In base → base.Ns mainGlobals mg → Rp.GOk l.prog w (K w.params) mg base CX0 10 fa fd ["_law_script"] (sp_law (K w.params))) :
    PySem.W.WalkO q loose XP YP l.row.toRowW d [] (fun f vs => PySem.call f vs) :=
  Rp.walk_gof (n := 63) (k := 10) (x := "_law_script") (CX := fun _ => CX0) (sp := fun w => sp_law (K w.params)) hn (by decide) hdf ⟨rfl, by decide, by decide⟩ hY F (fun w H a ns hl _ hS => ⟨a, ns, rfl, hS, hl, fun _ => rfl⟩) fun _ _ _ _ _ z => z
end K11

open PySem PySem.W PyProof.Rows in
set_option maxRecDepth 100000 in
set_option maxHeartbeats 0 in
theorem PySem.Challenge.cw_wheelchorus_k11_whole_fits_by_blocks_and_holds : PySem.Challenge.rw_wheelchorus_k11_whole_fits_by_blocks_and.Holds := by
  w_on; o_law; k_head; (case hw => w_witness2)
  k_fill
  refine K11.walk (l := PySem.Challenge.rw_wheelchorus_k11_whole_fits_by_blocks_and) rfl rfl (fun w h Y => PySem.W.kIn_of Y) ?F
  case F =>
    intro w mg fa h KX G hmg
    refine' K11.all_mk KX G hmg ?axC ?a_is_whole ?l_is_whole ?c_is_whole ?k_is_whole ?a_check_offset ?l_check_offset ?c_check_offset ?k_check_offset ?a_init ?i_init ?l_init ?c_init ?k_init ?e_init ?a_rshift ?i_rshift ?l_rshift ?c_rshift ?k_rshift ?a_swithin ?i_swithin ?l_swithin ?c_swithin ?k_swithin ?a_is_number ?l_is_number ?c_is_number ?k_is_number ?a_check_number ?l_check_number ?c_check_number ?k_check_number ?a_blocks ?l_blocks ?c_blocks ?k_blocks ?a_row_of ?l_row_of ?c_row_of ?k_row_of ?a_length_of ?l_length_of ?c_length_of ?k_length_of ?a_strokes_of ?l_strokes_of ?c_strokes_of ?k_strokes_of ?a_block_ends ?l_block_ends ?c_block_ends ?k_block_ends ?a_home_index ?l_home_index ?c_home_index ?k_home_index ?a_fit_blocks ?l_fit_blocks ?c_fit_blocks ?k_fit_blocks ?a_fits ?l_fits ?c_fits ?k_fits ?a_fits_by_ticks ?l_fits_by_ticks ?c_fits_by_ticks ?k_fits_by_ticks ?a_bag ?l_bag ?c_bag ?k_bag ?a_draw ?l_draw ?c_draw ?k_draw ?a_number ?l_number ?c_number ?k_number ?a_row ?l_row ?c_row ?k_row ?a_wider ?l_wider ?c_wider ?k_wider ?a_strokes ?l_strokes ?c_strokes ?k_strokes ?a_spans ?l_spans ?c_spans ?k_spans ?a_due ?l_due ?c_due ?k_due ?a_blocks_due ?l_blocks_due ?c_blocks_due ?k_blocks_due ?a_whole ?l_whole ?c_whole ?k_whole ?a_pair ?l_pair ?c_pair ?k_pair ?a_refused ?l_refused ?c_refused ?k_refused ?a_law ?l_law ?c_law ?k_law ?pg ?hd ?po ?sa ?mk ?kc ?nO ?sf ?e_aX ?e_xX ?e_bX ?e_sX ?e_gX ?e_hX ?e_nX ?e_iX ?e_tX ?e_lX ?e_cX ?e_kX ?e_eX ?e_tyX ?e_dX ?e_scX ?f1_int ?f2_int ?f3_int ?rcl ?rcp ?n_DIGITS ?n_MOST_DIGITS ?n_GREATEST_SUM ?z_all ?z_bool ?z_enumerate ?z_int ?z_isinstance ?z_len ?z_list ?z_min ?z_range ?z_repr ?z_set ?z_sorted ?z_str ?z_sum ?z_tuple
    (case axC => k_is)
    (case a_is_whole => k_is)
    (case l_is_whole => k_is)
    (case c_is_whole => k_is)
    (case k_is_whole => k_is)
    (case a_check_offset => k_is)
    (case l_check_offset => k_is)
    (case c_check_offset => k_is)
    (case k_check_offset => k_is)
    (case a_init => k_is)
    (case i_init => k_is)
    (case l_init => k_is)
    (case c_init => k_is)
    (case k_init => k_is)
    (case e_init => k_is)
    (case a_rshift => k_is)
    (case i_rshift => k_is)
    (case l_rshift => k_is)
    (case c_rshift => k_is)
    (case k_rshift => k_is)
    (case a_swithin => k_is)
    (case i_swithin => k_is)
    (case l_swithin => k_is)
    (case c_swithin => k_is)
    (case k_swithin => k_is)
    (case a_is_number => k_is)
    (case l_is_number => k_is)
    (case c_is_number => k_is)
    (case k_is_number => k_is)
    (case a_check_number => k_is)
    (case l_check_number => k_is)
    (case c_check_number => k_is)
    (case k_check_number => k_is)
    (case a_blocks => k_is)
    (case l_blocks => k_is)
    (case c_blocks => k_is)
    (case k_blocks => k_is)
    (case a_row_of => k_is)
    (case l_row_of => k_is)
    (case c_row_of => k_is)
    (case k_row_of => k_is)
    (case a_length_of => k_is)
    (case l_length_of => k_is)
    (case c_length_of => k_is)
    (case k_length_of => k_is)
    (case a_strokes_of => k_is)
    (case l_strokes_of => k_is)
    (case c_strokes_of => k_is)
    (case k_strokes_of => k_is)
    (case a_block_ends => k_is)
    (case l_block_ends => k_is)
    (case c_block_ends => k_is)
    (case k_block_ends => k_is)
    (case a_home_index => k_is)
    (case l_home_index => k_is)
    (case c_home_index => k_is)
    (case k_home_index => k_is)
    (case a_fit_blocks => k_is)
    (case l_fit_blocks => k_is)
    (case c_fit_blocks => k_is)
    (case k_fit_blocks => k_is)
    (case a_fits => k_is)
    (case l_fits => k_is)
    (case c_fits => k_is)
    (case k_fits => k_is)
    (case a_fits_by_ticks => k_is)
    (case l_fits_by_ticks => k_is)
    (case c_fits_by_ticks => k_is)
    (case k_fits_by_ticks => k_is)
    (case a_bag => k_is)
    (case l_bag => k_is)
    (case c_bag => k_is)
    (case k_bag => k_is)
    (case a_draw => k_is)
    (case l_draw => k_is)
    (case c_draw => k_is)
    (case k_draw => k_is)
    (case a_number => k_is)
    (case l_number => k_is)
    (case c_number => k_is)
    (case k_number => k_is)
    (case a_row => k_is)
    (case l_row => k_is)
    (case c_row => k_is)
    (case k_row => k_is)
    (case a_wider => k_is)
    (case l_wider => k_is)
    (case c_wider => k_is)
    (case k_wider => k_is)
    (case a_strokes => k_is)
    (case l_strokes => k_is)
    (case c_strokes => k_is)
    (case k_strokes => k_is)
    (case a_spans => k_is)
    (case l_spans => k_is)
    (case c_spans => k_is)
    (case k_spans => k_is)
    (case a_due => k_is)
    (case l_due => k_is)
    (case c_due => k_is)
    (case k_due => k_is)
    (case a_blocks_due => k_is)
    (case l_blocks_due => k_is)
    (case c_blocks_due => k_is)
    (case k_blocks_due => k_is)
    (case a_whole => k_is)
    (case l_whole => k_is)
    (case c_whole => k_is)
    (case k_whole => k_is)
    (case a_pair => k_is)
    (case l_pair => k_is)
    (case c_pair => k_is)
    (case k_pair => k_is)
    (case a_refused => k_is)
    (case l_refused => k_is)
    (case c_refused => k_is)
    (case k_refused => k_is)
    (case a_law => k_is)
    (case l_law => k_is)
    (case c_law => k_is)
    (case k_law => k_is)
    (case pg => k_is)
    (case hd => k_is)
    (case po => k_is)
    (case sa => k_is)
    (case mk => k_is)
    (case kc => k_is)
    (case nO => k_is)
    (case sf => k_is)
    (case e_aX => k_is)
    (case e_xX => k_is)
    (case e_bX => decide +kernel)
    (case e_sX => k_is)
    (case e_gX => k_is)
    (case e_hX => k_is)
    (case e_nX => k_is)
    (case e_iX => k_is)
    (case e_tX => k_is)
    (case e_lX => k_is)
    (case e_cX => k_is)
    (case e_kX => k_is)
    (case e_eX => k_is)
    (case e_tyX => k_is)
    (case e_dX => k_is)
    (case e_scX => first | rfl | k_is)
    (case f1_int => k_is)
    (case f2_int => k_is)
    (case f3_int => k_is)
    (case rcl => k_is)
    (case rcp => first | exact .inl rfl | exact .inr ⟨_, rfl⟩)
    (case n_DIGITS => k_is)
    (case n_MOST_DIGITS => k_is)
    (case n_GREATEST_SUM => k_is)
    (case z_all => k_is)
    (case z_bool => k_is)
    (case z_enumerate => k_is)
    (case z_int => k_is)
    (case z_isinstance => k_is)
    (case z_len => k_is)
    (case z_list => k_is)
    (case z_min => k_is)
    (case z_range => k_is)
    (case z_repr => k_is)
    (case z_set => k_is)
    (case z_sorted => k_is)
    (case z_str => k_is)
    (case z_sum => k_is)
    (case z_tuple => k_is)
