import PyProof.Rows.All
import Wide.All
import OpenK.AllK
import Wide.FinOn
import HandS.ForMost
import HandS.SlotsOwn
import HandS.Wide
import HandS.IsInst
import HandS.Style
import HandS.Zip
import HandS.Walk
import HandS.Exc
import HandS.TryOnly
import HandS.ExcOwn
import HandS.WordsExc
import HandS.ExcIs
import KE.OsGo
import HandS.Codes
import HandS.Text
import KE.IntTextLaws
import KE.KExcIs
import KE.DataEq
import KE.KTupSum
import HandS.Defaults
import HandS.MakeKw
import HandS.MakeKwOnly
import HandS.ClsMeth
import HandS.Strs
import KE.GoesMore
import HandS.TupAny
import HandS.TupMul
import HandS.TryMany
import HandS.ExcCtx
import HandS.TupSets
import HandS.SetFor
import HandS.OwnIter
import HandS.IterVal
import PyProof.P3In
import HandS.GenList
import HandS.Conv
import PyProof.ListStr
import KE.KxField
import HandS.FStr
import HandS.Property
import HandS.TupLe
import PySem.Challenge.RW_wheelchorus_k83_pages_of_books
import HandS.StrMore
import HandS.More
set_option Elab.async false
set_option linter.all false
set_option maxRecDepth 100000
set_option maxHeartbeats 4000000
/-! Numbers as lists of digits, their rows, and where two rows part. -/
namespace Wm
open PySem L2
def codes (ds : List Nat) : List Nat := ds.map (· + 48)
def numS (ds : List Nat) : Str := ⟨(codes ds).toArray⟩
structure Dig (ds : List Nat) : Prop where
  dig : ∀ d ∈ ds, 1 ≤ d ∧ d ≤ 9
structure Num (ds : List Nat) : Prop where
  pos : 1 ≤ ds.length
  len : ds.length ≤ 4
  dig : ∀ d ∈ ds, 1 ≤ d ∧ d ≤ 9
  sum : ds.sum ≤ 24
def blk (d : Nat) : List Int := (List.replicate d [1, 0]).flatten
def rowL : List Nat → List Int
  | [] => [0, 0]
  | d :: ds => blk d ++ ([0, 0] ++ rowL ds)
structure Diff (xs ys : List Int) (k : Nat) (a b : Int) : Prop where
  one : xs[k]? = some a
  two : ys[k]? = some b
  ne : a ≠ b
  eq : ∀ j, j < k → xs[j]? = ys[j]?
theorem Diff.symm {xs ys : List Int} {k : Nat} {a b : Int} (h : Diff xs ys k a b) : Diff ys xs k b a :=
  ⟨h.two, h.one, h.ne.symm, fun j l => (h.eq j l).symm⟩
theorem Diff.cons {xs ys : List Int} {k : Nat} {a b : Int} (z : Int) (h : Diff xs ys k a b) : Diff (z :: xs) (z :: ys) (k + 1) a b := by
  refine ⟨by simpa using h.one, by simpa using h.two, h.ne, fun j l => ?_⟩
  cases j with
  | zero => rfl
  | succ j => simpa using h.eq j (by omega)
theorem Diff.app {xs ys : List Int} {k : Nat} {a b : Int} : ∀ (p : List Int), Diff xs ys k a b → Diff (p ++ xs) (p ++ ys) (p.length + k) a b
  | [], h => by simpa using h
  | z :: p, h => by
    have ih := (Diff.app p h).cons z
    have e : (z :: p).length + k = p.length + k + 1 := by simp only [List.length_cons]; omega
    rw [e]
    exact ih
theorem Diff.uniq {xs ys : List Int} {k l : Nat} {a b c d : Int} (h : Diff xs ys k a b) (g : Diff xs ys l c d) : k = l ∧ a = c ∧ b = d := by
  have e : k = l := by
    rcases Nat.lt_trichotomy k l with x | x | x
    · exact absurd (by have q := g.eq k x; rw [h.one, h.two] at q; exact Option.some.inj q) h.ne
    · exact x
    · exact absurd (by have q := h.eq l x; rw [g.one, g.two] at q; exact Option.some.inj q) g.ne
  subst e
  exact ⟨rfl, Option.some.inj (h.one.symm.trans g.one), Option.some.inj (h.two.symm.trans g.two)⟩
theorem Diff.lt1 {xs ys : List Int} {k : Nat} {a b : Int} (h : Diff xs ys k a b) : k < xs.length := (List.getElem?_eq_some_iff.mp h.one).1
theorem Diff.lt2 {xs ys : List Int} {k : Nat} {a b : Int} (h : Diff xs ys k a b) : k < ys.length := (List.getElem?_eq_some_iff.mp h.two).1
theorem blk_add (d e : Nat) : blk (d + e) = blk d ++ blk e := by
  unfold blk
  rw [← List.replicate_append_replicate, List.flatten_append]
theorem blk_succ (e : Nat) : blk (e + 1) = [1, 0] ++ blk e := by
  rw [Nat.add_comm, blk_add]
  rfl
theorem blk_len (d : Nat) : (blk d).length = 2 * d := by
  induction d with
  | zero => rfl
  | succ d ih => rw [blk_succ, List.length_append, ih]; simp only [List.length_cons, List.length_nil]; omega
theorem row_less (d e : Nat) (ds es : List Nat) (h : d < e) : Diff (rowL (d :: ds)) (rowL (e :: es)) (2 * d) 0 1 := by
  obtain ⟨f, rfl⟩ : ∃ f, e = d + (f + 1) := ⟨e - d - 1, by omega⟩
  have h0 : Diff ([0, 0] ++ rowL ds) ([1, 0] ++ (blk f ++ ([0, 0] ++ rowL es))) 0 0 1 := ⟨rfl, rfl, by decide, fun j l => absurd l (Nat.not_lt_zero _)⟩
  have h1 := h0.app (blk d)
  rw [blk_len, Nat.add_zero] at h1
  have e1 : rowL ((d + (f + 1)) :: es) = blk d ++ ([1, 0] ++ (blk f ++ ([0, 0] ++ rowL es))) := by
    show blk (d + (f + 1)) ++ _ = _
    rw [blk_add, blk_succ, List.append_assoc, List.append_assoc]
  rw [e1]
  exact h1
theorem rows_part : ∀ (ds es : List Nat), (∀ d ∈ ds, 1 ≤ d) → (∀ e ∈ es, 1 ≤ e) →
    ds = es ∨ (∃ k, Diff (rowL ds) (rowL es) k 1 0 ∧ es < ds) ∨ (∃ k, Diff (rowL ds) (rowL es) k 0 1 ∧ ds < es)
  | [], [], _, _ => .inl rfl
  | [], e :: es, _, h => by
    obtain ⟨f, rfl⟩ : ∃ f, e = f + 1 := ⟨e - 1, by have := h e (by simp); omega⟩
    refine .inr (.inr ⟨0, ⟨rfl, ?_, by decide, fun j l => absurd l (Nat.not_lt_zero _)⟩, List.nil_lt_cons _ _⟩)
    show (blk (f + 1) ++ _)[0]? = _
    rw [blk_succ]
    rfl
  | d :: ds, [], h, _ => by
    obtain ⟨f, rfl⟩ : ∃ f, d = f + 1 := ⟨d - 1, by have := h d (by simp); omega⟩
    refine .inr (.inl ⟨0, ⟨?_, rfl, by decide, fun j l => absurd l (Nat.not_lt_zero _)⟩, List.nil_lt_cons _ _⟩)
    show (blk (f + 1) ++ _)[0]? = _
    rw [blk_succ]
    rfl
  | d :: ds, e :: es, h, g => by
    rcases Nat.lt_trichotomy d e with x | x | x
    · exact .inr (.inr ⟨_, row_less d e ds es x, List.cons_lt_cons_iff.mpr (.inl x)⟩)
    · subst x
      rcases rows_part ds es (fun y m => h y (List.mem_cons_of_mem _ m)) (fun y m => g y (List.mem_cons_of_mem _ m)) with q | ⟨k, q, l⟩ | ⟨k, q, l⟩
      · exact .inl (by rw [q])
      · exact .inr (.inl ⟨_, (q.app [0, 0]).app (blk d), List.cons_lt_cons_iff.mpr (.inr ⟨rfl, l⟩)⟩)
      · exact .inr (.inr ⟨_, (q.app [0, 0]).app (blk d), List.cons_lt_cons_iff.mpr (.inr ⟨rfl, l⟩)⟩)
    · exact .inr (.inl ⟨_, (row_less e d es ds x).symm, List.cons_lt_cons_iff.mpr (.inl x)⟩)
theorem codes_lt : ∀ (ds es : List Nat), ds < es → codes ds < codes es
  | [], [], h => absurd h (List.lt_irrefl _)
  | [], _ :: _, _ => List.nil_lt_cons _ _
  | _ :: _, [], h => absurd h (List.not_lt_nil _)
  | d :: ds, e :: es, h => by
    rcases List.cons_lt_cons_iff.mp h with x | ⟨x, y⟩
    · exact List.cons_lt_cons_iff.mpr (.inl (Nat.add_lt_add_right x 48))
    · exact List.cons_lt_cons_iff.mpr (.inr ⟨by rw [x], codes_lt ds es y⟩)
theorem codes_inj : ∀ (ds es : List Nat), codes ds = codes es → ds = es
  | [], [], _ => rfl
  | [], _ :: _, h => by simp [codes] at h
  | _ :: _, [], h => by simp [codes] at h
  | d :: ds, e :: es, h => by
    have h1 : d + 48 = e + 48 := (List.cons.inj h).1
    have h2 : codes ds = codes es := (List.cons.inj h).2
    rw [codes_inj ds es h2, show d = e by omega]
theorem numS_cps (ds : List Nat) : (numS ds).cps.toList = codes ds := rfl
theorem numS_inj {ds es : List Nat} (h : numS ds = numS es) : ds = es := codes_inj _ _ (by rw [← numS_cps, h, numS_cps])
theorem numS_len (ds : List Nat) : (numS ds).length = ds.length := by
  show (codes ds).toArray.size = _
  simp [codes]
theorem lt_asymm' {a b : List Nat} (h : a < b) : ¬ b < a := fun g => List.lt_irrefl _ (List.lt_trans h g)
theorem rowL_le : ∀ ds : List Nat, (∀ d ∈ ds, d ≤ 9) → (rowL ds).length ≤ 20 * ds.length + 2
  | [], _ => by decide
  | d :: ds, h => by
    have ih := rowL_le ds fun y m => h y (List.mem_cons_of_mem _ m)
    have hd := h d (by simp)
    show (blk d ++ ([0, 0] ++ rowL ds)).length ≤ _
    rw [List.length_append, List.length_append, blk_len]
    simp only [List.length_cons, List.length_nil]
    omega
end Wm

/-! Digits as signs, texts of digits cut and joined; what a heap keeps. -/
namespace Wm
open PySem L2
theorem dig_cases {d : Nat} (h : 1 ≤ d ∧ d ≤ 9) : d = 1 ∨ d = 2 ∨ d = 3 ∨ d = 4 ∨ d = 5 ∨ d = 6 ∨ d = 7 ∨ d = 8 ∨ d = 9 := by omega
theorem dig_int {d : Nat} (h : 1 ≤ d ∧ d ≤ 9) : PySem.intText? ⟨#[d + 48]⟩ = some (d : Int) := by
  rcases dig_cases h with e | e | e | e | e | e | e | e | e <;> subst e <;> decide +kernel
theorem dig_in {d : Nat} (h : 1 ≤ d ∧ d ≤ 9) : (d + 48) ∈ ("123456789" : Str).cps.toList := by
  rcases dig_cases h with e | e | e | e | e | e | e | e | e <;> subst e <;> decide +kernel
theorem dig_str {d : Nat} (h : 1 ≤ d ∧ d ≤ 9) : ((toString (d : Int) : String) : Str) = numS [d] := by
  rcases dig_cases h with e | e | e | e | e | e | e | e | e <;> subst e <;> decide +kernel
theorem numS_app (ds es : List Nat) : numS ds ++ numS es = numS (ds ++ es) := by
  refine PyProof.Rows.ext_toList ?_
  show ((numS ds).cps ++ (numS es).cps).toList = _
  rw [Array.toList_append, numS_cps, numS_cps, numS_cps]
  simp [codes]
theorem numS_nil : numS [] = ("" : Str) := by decide +kernel
theorem numS_take (ds : List Nat) (k : Nat) : cutS (numS ds) none (some (k : Int)) = numS (ds.take k) := by
  refine PyProof.Rows.ext_toList ?_
  show ((codes ds).drop 0).take (HT.sIx (numS ds).length (numS ds).length (some (k : Int)) - 0) = codes (ds.take k)
  rw [numS_len, HT.sIx_nat, List.drop_zero, Nat.sub_zero]
  simp only [codes, ← List.map_take]
  congr 1
  rw [List.take_eq_take_iff]
  omega
theorem numS_last (ds : List Nat) : cutS (numS ds) none (some (-1)) = numS ds.dropLast := by
  refine PyProof.Rows.ext_toList ?_
  show ((codes ds).drop 0).take (HT.sIx (numS ds).length (numS ds).length (some (-1)) - 0) = codes ds.dropLast
  rw [numS_len, List.drop_zero, Nat.sub_zero, List.dropLast_eq_take]
  simp only [codes, ← List.map_take]
  have e : HT.sIx ds.length ds.length (some (-1)) = ds.length - 1 := by
    unfold HT.sIx
    simp only [show (-1 : Int) < 0 by decide, if_true]
    omega
  rw [e]
theorem numS_at (ds : List Nat) (i : Nat) (hi : i < ds.length) : (numS ds).cps[i]? = some (ds[i] + 48) := by
  show ((codes ds).toArray)[i]? = _
  simp [codes, hi]
theorem numS_size (ds : List Nat) : (numS ds).cps.size = ds.length := numS_len ds

/-! heaps -/
theorem same_new {H : Hp} {p : Addr} {o : HO} (n : H p = none) : Same H (upd H p o) := fun b u e => by
  rw [upd_ne (ne_of_none e n)]
  exact e
theorem at_old {H : Hp} {p q : Addr} {o u : HO} (h : H p = some o) (n : H q = none) : upd H q u p = some o := by
  rw [upd_ne (ne_of_none h n)]
  exact h
theorem sameT {K : PySem.W.Frag} {H H' : Hp} {a : Addr} {xs : List V} (e : Same H H') (h : SqT K H a xs) : SqT K H' a xs := by
  rcases h with (h | ⟨o, h⟩) | h
  · exact .inl (.inl (e _ _ h))
  · exact .inl (.inr ⟨o, e _ _ h⟩)
  · exact .inr h
/-- what stood stands, but for what H did not know and the object at p, which is new since -/
theorem same_mut {H H' : Hp} {p : Addr} {o : HO} (s : Same H H') (n : H p = none) : Same H (upd H' p o) := fun b u e => by
  rw [upd_ne (ne_of_none e n)]
  exact s b u e
/-- the bag's list at b, its cells at c -/
def Cel (H : Hp) (b c : Addr) : Prop := ∃ x k m z : Int, H b = some (.lst [.int x, .ref c, .int k, .int m, .int z])
structure But (b : Addr) (H H' : Hp) : Prop where
  keep : ∀ p o, p ≠ b → H p = some o → H' p = some o
  cel : ∀ c, Cel H b c → Cel H' b c
instance {b : Addr} {H H' : Hp} : CoeFun (But b H H') (fun _ => ∀ p o, p ≠ b → H p = some o → H' p = some o) := ⟨But.keep⟩
theorem But.refl (b : Addr) (H : Hp) : But b H H := ⟨fun _ _ _ h => h, fun _ h => h⟩
theorem But.trans {b : Addr} {H H1 H2 : Hp} (x : But b H H1) (y : But b H1 H2) : But b H H2 := ⟨fun p o n h => y.keep p o n (x.keep p o n h), fun c h => y.cel c (x.cel c h)⟩
theorem But.of {b : Addr} {H H' : Hp} (s : Same H H') : But b H H' := ⟨fun p o _ h => s p o h, fun _ ⟨x, k, m, z, h⟩ => ⟨x, k, m, z, s _ _ h⟩⟩
theorem But.set {b c : Addr} {H : Hp} {x k m z x' k' m' z' : Int} (hb : H b = some (.lst [.int x, .ref c, .int k, .int m, .int z])) : But b H (upd H b (.lst [.int x', .ref c, .int k', .int m', .int z'])) :=
  ⟨fun p u n h => by
    rw [upd_ne n]
    exact h, fun c2 ⟨a1, a2, a3, a4, h⟩ => by
    rw [hb] at h
    have h := Option.some.inj h
    injection h with h
    injection h with h1 h
    injection h with h2 h
    injection h2 with h2
    subst h2
    exact ⟨x', k', m', z', upd_same⟩⟩
/-- the bag of draws: its cells' list and its four numbers -/
def Bag (H : Hp) (b : Addr) (n : Nat) : Prop :=
  ∃ (c : Addr) (x k m z : Int) (ns : List Int), H b = some (.lst [.int x, .ref c, .int k, .int m, .int z]) ∧ H c = some (.lst (ns.map V.int)) ∧ 0 ≤ k ∧ 0 ≤ m ∧ m ≤ (n : Int)
theorem bag_ne {H : Hp} {b c : Addr} {x k m z : Int} {ns : List Int} (hb : H b = some (.lst [.int x, .ref c, .int k, .int m, .int z])) (hc : H c = some (.lst (ns.map V.int))) : c ≠ b := by
  intro e
  subst e
  rw [hb] at hc
  have q := Option.some.inj hc
  have q2 : ([.int x, .ref c, .int k, .int m, .int z] : List V) = ns.map V.int := by injection q
  cases ns with
  | nil => simp at q2
  | cons u r => cases r with
    | nil => simp at q2
    | cons v r => simp at q2
theorem Bag.mono {H : Hp} {b : Addr} {n m : Nat} (h : Bag H b n) (l : n ≤ m) : Bag H b m := by
  obtain ⟨c, x, k, q, z, ns, h1, h2, h3, h4, h5⟩ := h
  exact ⟨c, x, k, q, z, ns, h1, h2, h3, h4, by omega⟩
theorem Bag.keep {H H' : Hp} {b : Addr} {n : Nat} (h : Bag H b n) (s : Same H H') : Bag H' b n := by
  obtain ⟨c, x, k, q, z, ns, h1, h2, h3, h4, h5⟩ := h
  exact ⟨c, x, k, q, z, ns, s _ _ h1, s _ _ h2, h3, h4, h5⟩
theorem Cel.uniq {H : Hp} {b c d : Addr} (h : Cel H b c) (g : Cel H b d) : c = d := by
  obtain ⟨x, k, m, z, h⟩ := h
  obtain ⟨x', k', m', z', g⟩ := g
  rw [h] at g
  have g := Option.some.inj g
  injection g with g
  injection g with g1 g
  injection g with g2 g
  injection g2
theorem But.put {b D : Addr} {H H' : Hp} {o : HO} (e : But b H H') (n : H D = none) : But b H (upd H' D o) := by
  refine ⟨fun p u pb h => ?_, fun c h => ?_⟩
  · rw [upd_ne (ne_of_none h n)]
    exact e.keep p u pb h
  · have h0 := h
    obtain ⟨x, k, m, z, h⟩ := h
    obtain ⟨x', k', m', z', g⟩ := e.cel c h0
    exact ⟨x', k', m', z', by rw [upd_ne (ne_of_none h n)]; exact g⟩
theorem Bag.put {b D : Addr} {H H' : Hp} {o : HO} {n m : Nat} (bag : Bag H b n) (f : H D = none) (e : But b H H') (bag2 : Bag H' b m) : Bag (upd H' D o) b m := by
  obtain ⟨c, x, k, q, z, ns, h1, h2, h3, h4, h5⟩ := bag
  obtain ⟨c', x', k', q', z', ns', g1, g2, g3, g4, g5⟩ := bag2
  have ec : c = c' := Cel.uniq (e.cel c ⟨x, k, q, z, h1⟩) ⟨x', k', q', z', g1⟩
  subst ec
  exact ⟨c, x', k', q', z', ns', by rw [upd_ne (ne_of_none h1 f)]; exact g1, by rw [upd_ne (ne_of_none h2 f)]; exact g2, g3, g4, g5⟩
end Wm
namespace Wm
open PySem L2
theorem yesT {σ : L2.St} {H : Hp} {A B : Hp → Prop} (h : A H) : tYes σ H (fun b H3 => if b = true then A H3 else B H3) := by
  show (if true = true then A H else B H)
  rw [if_pos rfl]
  exact h
end Wm

/-! row[::2] of a list or a tuple; a loop over a list or a tuple. -/
namespace Hf
open PySem PySem.Spec PyProof.Rows L2
def ev2 {α : Type} : List α → List α
  | [] => []
  | [x] => [x]
  | x :: _ :: r => x :: ev2 r
theorem ev2_le {α : Type} : ∀ xs : List α, (ev2 xs).length ≤ xs.length
  | [] => Nat.le_refl _
  | [_] => Nat.le_refl _
  | x :: y :: r => by
    have ih := ev2_le r
    show (ev2 r).length + 1 ≤ r.length + 2
    omega
theorem ev2_mem {α : Type} {z : α} : ∀ {xs : List α}, z ∈ ev2 xs → z ∈ xs
  | [], h => h
  | [_], h => h
  | x :: y :: r, h => by
    rcases List.mem_cons.mp h with e | e
    · rw [e]; simp
    · exact List.mem_cons_of_mem _ (List.mem_cons_of_mem _ (ev2_mem e))
theorem ev2_map {α β : Type} (f : α → β) : ∀ xs : List α, ev2 (xs.map f) = (ev2 xs).map f
  | [] => rfl
  | [_] => rfl
  | x :: y :: r => by
    show f x :: ev2 (r.map f) = f x :: (ev2 r).map f
    rw [ev2_map f r]
theorem ev2_pick {α : Type} : ∀ xs : List α, (List.range ((xs.length + 1) / 2)).filterMap (fun k => xs[2 * k]?) = ev2 xs
  | [] => by simp [ev2]
  | [x] => by
    rw [show ([x].length + 1) / 2 = 1 by simp, show List.range 1 = [0] by decide]
    simp [ev2]
  | x :: y :: r => by
    have ih := ev2_pick r
    have e : ((x :: y :: r).length + 1) / 2 = (r.length + 1) / 2 + 1 := by
      show (r.length + 1 + 1 + 1) / 2 = _
      omega
    rw [e, List.range_succ_eq_map, List.filterMap_cons]
    show x :: _ = x :: ev2 r
    rw [List.filterMap_map, ← ih]
    rfl
theorem ev2_vals : ∀ {xs : List V} {us : List Value}, Vals xs us → Vals (ev2 xs) (ev2 us)
  | [], _, h => by cases h; exact .nil
  | [x], _, h => by
    cases h with
    | cons a b =>
      cases b
      exact .cons a .nil
  | x :: y :: r, _, h => by
    cases h with
    | cons a b =>
      cases b with
      | cons c d => exact .cons a (ev2_vals d)
theorem pick2 (items : Array Value) : slicePick items none none (some 2) = (ev2 items.toList).toArray := by
  have e := ev2_pick items.toList
  unfold slicePick
  have b : sliceBounds none none (some 2) items.size = (0, (items.size : Int), 2) := by
    first
    | rfl
    | simp [sliceBounds]
  rw [b]
  show ((sliceRange 0 (items.size : Int) 2).filterMap (items[·]?)).toArray = _
  have r : sliceRange 0 (items.size : Int) 2 = (List.range ((items.size + 1) / 2)).map fun k => 2 * k := by
    unfold sliceRange
    have h1 : (2 : Int) > 0 := by decide
    by_cases h : (0 : Int) < (items.size : Int)
    · have e : ((items.size : Int) - 0 + 2 - 1) / 2 = (((items.size + 1) / 2 : Nat) : Int) := by omega
      simp only [h1, if_true, h, e, Int.toNat_natCast]
      apply List.map_congr_left
      intro k _
      omega
    · have e : items.size = 0 := by omega
      simp [e]
  rw [r, List.filterMap_map]
  rw [Array.length_toList] at e
  rw [← e]
  refine congrArg List.toArray (congrArg (fun f => List.filterMap f _) (funext fun k => ?_))
  show items[2 * k]? = _
  rw [Array.getElem?_toList]
section
variable {prog : Program} {w : World} {A : Around} {E : Value → Shared → Prop} {s : Shared}
theorem places2 (n : Nat) : Builtin.Slice.slicePlaces 0 (n : Int) 2 = (n + 1) / 2 := by
  unfold Builtin.Slice.slicePlaces
  have h1 : (2 : Int) > 0 := by omega
  simp only [h1, if_true]
  split <;> omega
theorem adjust2 (n : Nat) : Builtin.Slice.sliceAdjust none none 2 (n : Int) = (0, (n : Int)) := by
  have h1 : ¬ ((2 : Int) < 0) := by omega
  unfold Builtin.Slice.sliceAdjust
  simp only [h1, if_false]
theorem sliceApplied2 {sl : Addr} {t : Tok} {n : Nat} {Q : Int × Int × Nat → Shared → Prop} (hs : s.heap.IsSliceOf sl .none .none (.int 2 t))
    (h : Q (0, 2, (n + 1) / 2) s) : wpAny (model prog w) A (Builtin.Slice.sliceApplied (.ref sl) (pure (n : Int))) Q E s := by
  obtain ⟨os, hos, hcs, hds⟩ := id hs
  unfold Builtin.Slice.sliceApplied Builtin.Slice.sliceFields
  refine wpAny_bind (wpAny_bind (wpAny_field hos hds (x := .none) rfl (wpAny_bind (wpAny_field hos hds (x := .none) rfl (wpAny_bind (wpAny_field hos hds (x := .int 2 t) rfl (wpAny_pure ?_)))))))
  refine wpAny_bind (slicePart_int ?_)
  show wpAny _ _ (if ((2 : Int) == 0) = true then _ else _) _ _ s
  rw [if_neg (by decide)]
  refine wpAny_bind (HT.slicePart_ .none (wpAny_bind (HT.slicePart_ .none (wpAny_bind (wpAny_pure ?_)))))
  show wpAny _ _ (match Builtin.Slice.sliceAdjust none none 2 (n : Int) with | (lo, hi) => pure (lo, (2 : Int), Builtin.Slice.slicePlaces lo hi 2)) _ _ s
  rw [adjust2 n]
  show wpAny _ _ (pure ((0 : Int), (2 : Int), Builtin.Slice.slicePlaces (0 : Int) (n : Int) 2)) _ _ s
  rw [places2]
  exact wpAny_pure h
theorem pick2t (xs : Array Value) : ((List.range ((xs.size + 1) / 2)).filterMap fun (m : Nat) => xs[((0 : Int) + (m : Int) * 2).toNat]?).toArray = (ev2 xs.toList).toArray := by
  have e : (fun (m : Nat) => xs[((0 : Int) + (m : Int) * 2).toNat]?) = fun m => xs.toList[2 * m]? := by
    funext m
    have : ((0 : Int) + (m : Int) * 2).toNat = 2 * m := by omega
    rw [this, Array.getElem?_toList]
  rw [e, ← ev2_pick xs.toList, Array.length_toList]
theorem getItem_tuple_2 {t sl : Addr} {tk : Tok} {items : Array Value} {Q : Value → Shared → Prop} (ht : IsTup s.heap t items) (hs : s.heap.IsSliceOf sl .none .none (.int 2 tk))
    (h : Q (.ref s.heap.objs.size) { s with heap := s.heap.push { cls := .type "tuple", data := .seq (ev2 items.toList).toArray } })
    (hsz : items.size ≤ sizeLine) : wpAny (model prog w) A (getItem (.ref t) (.ref sl)) Q E s := by
  have htake : sizeOk (.seq (ev2 items.toList).toArray) := by
    show (ev2 items.toList).toArray.size ≤ sizeLine
    rw [List.size_toArray]
    exact Nat.le_trans (ev2_le items.toList) (by rw [Array.length_toList]; exact hsz)
  obtain ⟨os, hos, hcs, hds⟩ := id hs
  have hTs : s.TypeIs (.ref sl) "slice" := ⟨os, hos, hcs⟩
  unfold getItem
  try with_reducible refine wpAny_holding ?_
  first | refine wpAny_bind (wpAny_pure ?_) | skip
  refine wpAny_bind (wpAny_sequenceKey ht.typeIs (by decide) ?_)
  refine wpAny_bind (wpAny_callSpecial?_slot (name := Str.ofString "__getitem__") ht.typeIs PyProof.Rows.slot_tuple_getitem
    (wpAny_call_entry PyProof.Rows.slot_tuple_getitem ht.typeIs entry_tuple_getitem ?_ (args_tuple_getitem _ _)))
  show wpAny _ _ (Builtin.Tuple.tupleItemsOf (.ref t) >>= _) _ _ s
  refine wpAny_bind (tupleItemsOf_ ht ?_)
  refine wpAny_bind (wpAny_typeOf hTs ?_)
  rw [if_pos (by decide)]
  refine wpAny_bind (sliceApplied2 hs ?_)
  have hno : ¬ (((0 : Int) == 0 && (2 : Int) == 1 && ((items.size + 1) / 2) == items.size) = true) := by
    intro q
    rw [Bool.and_eq_true, Bool.and_eq_true] at q
    exact absurd q.1.2 (by decide)
  show wpAny _ _ (if ((0 : Int) == 0 && (2 : Int) == 1 && ((items.size + 1) / 2) == items.size) = true then _ else _) _ _ s
  rw [if_neg hno, pick2t]
  first
    | exact wpAny_bind (m := Builtin.Tuple.tupleExact _) (wpAny_newObj_type (wpAny_pure ⟨_, rfl, wpAny_pure h⟩) htake)
    | exact wpAny_bind (m := Builtin.Tuple.tupleExact _) (wpAny_newObj_type (wpAny_bind (wpAny_pure (wpAny_pure ⟨_, rfl, wpAny_pure h⟩))) htake)
    | exact wpAny_bind (wpAny_bind (m := Builtin.Tuple.tupleExact _) (wpAny_newObj_type (wpAny_pure (wpAny_pure ⟨_, rfl, wpAny_pure h⟩)) htake))
    | exact wpAny_bind (wpAny_bind (m := Builtin.Tuple.tupleExact _) (wpAny_newObj_type (wpAny_pure ⟨_, rfl, wpAny_pure h⟩) htake))
end
section
variable {X : Cx}
def tHalf (K : PySem.W.Frag) (te : TE) : TE := fun σ H Q => te σ H fun x H1 => ∃ a xs, x = .ref a ∧ (SqL K H1 a xs ∨ SqT K H1 a xs) ∧
  ∀ p H2, (∀ b o, H1 b = some o → H2 b = some o) → H1 p = none → (SqL K H2 p (ev2 xs) ∨ SqT K H2 p (ev2 xs)) → Q (.ref p) H2
theorem new_same {H : Hp} {p : Addr} {o : HO} (n : H p = none) : ∀ b u, H b = some u → upd H p o b = some u := fun b u e => by
  rw [upd_ne (ne_of_none e n)]
  exact e
theorem pe_half {e : Expr} {te : TE} {k : Nat} {p1 p3 pos : Pos} (he : PE X e te) : PE X (.Subscript e (.Slice none none (some (.Constant (.int 2) k p1)) p3) pos) (tHalf X.K te) := by
  refine ⟨fun pins s σ H Q I h => ?_⟩
  refine Subscript_ (thn (he.run pins s σ H _ I h) fun v s1 ⟨x, H1, I1, r1, q1⟩ => ?_)
  obtain ⟨a, xs, ex, hq, q⟩ := q1
  subst ex
  cases r1
  have hst : PO X (some (.Constant (.int 2) k p1)) (tPart (tC (.int 2))) := po_some pe_int
  refine wpAny_Slice (thn (po_none.run pins s1 σ H1 (fun o H2 => o = none ∧ H2 = H1) I1 ⟨rfl, rfl⟩) fun vl s2 ⟨l, H2, I2, pl, el, e2⟩ => ?_)
  subst el e2
  refine thn (po_none.run pins s2 σ H2 (fun o H3 => o = none ∧ H3 = H2) I2 ⟨rfl, rfl⟩) fun vu s3 ⟨u, H3, I3, pu, eu, e3⟩ => ?_
  subst eu e3
  refine thn (hst.run pins s3 σ H3 (fun o H4 => o = some 2 ∧ H4 = H3) I3 ⟨2, rfl, rfl, rfl⟩) fun vs s4 ⟨o, H4, I4, ps, eo, e4⟩ => ?_
  subst eo e4
  have I5 : Inv X pins σ H4 { s4 with heap := s4.heap.push { cls := .type "slice", data := .fields #[vl, vu, vs] } } := I4.kept (t' := s4.toks) fun b ob q => Heap.get?_push_of_some _ q
  rcases hq with hx | hx
  · obtain ⟨its, r, ht, hz⟩ := I5.list hx
    have hlen := r.length
    show wpAny (model X.prog X.w) X.A (subscriptTail e (.Slice none none (some (.Constant (.int 2) k p1)) p3) (.ref a) (.ref s4.heap.objs.size)) (EP X pins σ Q) X.xe { s4 with heap := s4.heap.push { cls := .type "slice", data := .fields #[vl, vu, vs] } }
    refine tail_any (ops := [.ref a, .ref s4.heap.objs.size]) ht.isList.typeIs (PySem.slot_list_getitem.lookup) ?_ (by with_unfolding_all rfl)
    refine wpAny_getItem_list_slice ht.isList (Heap.IsSliceOf.new _ vl vu vs) pl pu ps (by decide) ?_ (by rw [List.size_toArray]; omega)
    rw [pick2]
    refine ⟨.ref _, _, I5.laid (t' := s4.toks) (o := .lst (ev2 xs)) (fun b ob q => Heap.get?_push_of_some _ q) (Nat.le_refl _) ?_, rfl, q _ _ (new_same (I5.hok.fresh (Nat.le_refl _))) (I5.hok.fresh (Nat.le_refl _)) (.inl (SqL.of upd_same))⟩
    exact ⟨Nat.le_trans (ev2_le xs) hz, _, 0, ev2_vals r, Heap.get?_push_size _ rfl⟩
  · obtain ⟨its, r, ht, hz⟩ := I5.tuple hx
    have hlen := r.length
    cases pl
    cases pu
    cases ps
    show wpAny (model X.prog X.w) X.A (subscriptTail e (.Slice none none (some (.Constant (.int 2) k p1)) p3) (.ref a) (.ref s4.heap.objs.size)) (EP X pins σ Q) X.xe { s4 with heap := s4.heap.push { cls := .type "slice", data := .fields #[Value.none, Value.none, .int 2 _] } }
    refine tail_any (ops := [.ref a, .ref s4.heap.objs.size]) ht.typeIs (PyProof.Rows.slot_tuple_getitem.lookup) ?_ (by with_unfolding_all rfl)
    refine getItem_tuple_2 ht (Heap.IsSliceOf.new _ _ _ _) ?_ (by rw [List.size_toArray]; omega)
    refine ⟨.ref _, _, I5.laid (t' := s4.toks) (o := .tup (ev2 xs)) (fun b ob q => Heap.get?_push_of_some _ q) (Nat.le_refl _) ?_, rfl, q _ _ (new_same (I5.hok.fresh (Nat.le_refl _))) (I5.hok.fresh (Nat.le_refl _)) (.inr (SqT.of upd_same))⟩
    exact ⟨Nat.le_trans (ev2_le xs) hz, _, ev2_vals r, IsTup.new _ _⟩
theorem keepL {K : PySem.W.Frag} {H H' : Hp} {a : Addr} {xs : List V} (e : Same H H') (h : SqL K H a xs) : SqL K H' a xs := by
  rcases h with (h | ⟨o, h⟩) | h
  · exact .inl (.inl (e _ _ h))
  · exact .inl (.inr ⟨o, e _ _ h⟩)
  · exact .inr h
theorem keepT {K : PySem.W.Frag} {H H' : Hp} {a : Addr} {xs : List V} (e : Same H H') (h : SqT K H a xs) : SqT K H' a xs := by
  rcases h with (h | ⟨o, h⟩) | h
  · exact .inl (.inl (e _ _ h))
  · exact .inl (.inr ⟨o, e _ _ h⟩)
  · exact .inr h
def iSeq (K : PySem.W.Frag) (tl : TE) : TI := fun σ H R => tl σ H fun x H1 => ∃ a xs, x = .ref a ∧ (SqL K H1 a xs ∨ SqT K H1 a xs) ∧
  ∀ J G, Walk J xs.length G (YAt xs) → (∀ H', Same H1 H' → G H') → R J H1
theorem pi_seq {tg l : Expr} {tl : TE} (hl : PE X l tl) : PI X tg l (iSeq X.K tl) := by
  refine ⟨fun pins s σ H R I h => ?_⟩
  refine thn (hl.run pins s σ H _ I h) fun v s1 ⟨x, H1, I1, r1, q1⟩ => ?_
  obtain ⟨a, xs, e, hq, q⟩ := q1
  subst e
  cases r1
  rcases hq with hq | hq
  · have q := q _ _ walk_list fun H' s => keepL s hq
    obtain ⟨its, rv, p, hz⟩ := I1.list hq
    refine wpAny_pyIter_list p.isList ?_
    refine ⟨s1.heap.objs.size, [s1.heap.objs.size], _, _, H1, rfl, I1.kept (t' := s1.toks) fun b o e => Heap.get?_push_of_some _ e, turn_list a _, ⟨_, Heap.get?_push_size _ rfl, rfl, rfl⟩, fun b hb => ?_, q⟩
    have e : b = s1.heap.objs.size := by simpa using hb
    subst e
    exact I1.fpOk (Nat.le_refl _) (I1.hok.fresh (Nat.le_refl _))
  · have q := q _ _ walk_tup fun H' s => keepT s hq
    obtain ⟨its, rv, p, hz⟩ := I1.tuple hq
    refine wpAny_pyIter_tuple (show s1.heap.IsTuple a its.toArray from p) ?_
    refine ⟨s1.heap.objs.size, [s1.heap.objs.size], _, _, H1, rfl, I1.kept (t' := s1.toks) fun b o e => Heap.get?_push_of_some _ e, turn_tuple a _, ⟨_, Heap.get?_push_size _ rfl, rfl, rfl⟩, fun b hb => ?_, q⟩
    have e : b = s1.heap.objs.size := by simpa using hb
    subst e
    exact I1.fpOk (Nat.le_refl _) (I1.hok.fresh (Nat.le_refl _))
end
end Hf

/-! Rows read back: strokes, steps, groups. -/
namespace Wm
open PySem L2 TL
/-- the rows of the first digits, without the two ticks at the end -/
def pre : List Nat → List Int
  | [] => []
  | d :: ds => blk d ++ ([0, 0] ++ pre ds)
theorem pre_app : ∀ (ds : List Nat) (d : Nat), pre (ds ++ [d]) = pre ds ++ (blk d ++ [0, 0])
  | [], d => by show blk d ++ ([0, 0] ++ []) = [] ++ _; simp
  | e :: ds, d => by
    show blk e ++ ([0, 0] ++ pre (ds ++ [d])) = (blk e ++ ([0, 0] ++ pre ds)) ++ _
    rw [pre_app ds d]
    simp only [List.append_assoc]
theorem pre_row : ∀ ds : List Nat, pre ds ++ [0, 0] = rowL ds
  | [] => rfl
  | d :: ds => by
    show (blk d ++ ([0, 0] ++ pre ds)) ++ _ = blk d ++ ([0, 0] ++ rowL ds)
    rw [← pre_row ds]
    simp only [List.append_assoc]
theorem blk_V (d : Nat) : (List.replicate d [V.int 1, V.int 0]).flatten = (blk d).map V.int := by
  unfold blk
  rw [List.map_flatten, List.map_replicate]
  rfl
theorem pre_le : ∀ ds : List Nat, (∀ d ∈ ds, d ≤ 9) → (pre ds).length ≤ 20 * ds.length
  | [], _ => by decide
  | d :: ds, h => by
    have ih := pre_le ds fun y m => h y (List.mem_cons_of_mem _ m)
    have hd := h d (by simp)
    show (blk d ++ ([0, 0] ++ pre ds)).length ≤ _
    rw [List.length_append, List.length_append, blk_len]
    simp only [List.length_cons, List.length_nil]
    omega
theorem take_succ_app {α : Type} {l : List α} {i : Nat} {x : α} (h : l[i]? = some x) : l.take (i + 1) = l.take i ++ [x] := by
  rw [List.take_add_one, h]
  rfl
theorem take_succ_map {α β : Type} {l : List α} {i : Nat} {x : α} (f : α → β) (h : l[i]? = some x) : (l.take i).map f ++ [f x] = (l.take (i + 1)).map f := by
  rw [take_succ_app h, List.map_append]
  rfl
theorem row_sum : ∀ ds : List Nat, (rowL ds).length = 2 * (ds.sum + ds.length + 1)
  | [] => rfl
  | d :: ds => by
    have ih := row_sum ds
    show (blk d ++ ([0, 0] ++ rowL ds)).length = _
    rw [List.length_append, List.length_append, blk_len, ih, List.sum_cons]
    simp only [List.length_cons, List.length_nil]
    omega
theorem row_le (ds : List Nat) (N : Num ds) : (rowL ds).length ≤ 100 := by
  have h := rowL_le ds fun d m => (N.dig d m).2
  have l := N.len
  omega
theorem row_bits : ∀ (ds : List Nat) (z : Int), z ∈ rowL ds → z = 0 ∨ z = 1
  | [], z, h => by
    have h : z ∈ [0, 0] := h
    simp only [List.mem_cons, List.not_mem_nil, or_false, or_self] at h
    exact .inl h
  | d :: ds, z, h => by
    have h : z ∈ blk d ++ ([0, 0] ++ rowL ds) := h
    rw [List.mem_append, List.mem_append] at h
    rcases h with h | h | h
    · obtain ⟨l, hl, hz⟩ := List.mem_flatten.mp h
      rw [(List.mem_replicate.mp hl).2] at hz
      simp only [List.mem_cons, List.not_mem_nil, or_false] at hz
      exact hz.symm
    · simp only [List.mem_cons, List.not_mem_nil, or_false, or_self] at h
      exact .inl h
    · exact row_bits ds z h
/-! strokes -/
def ones : Nat → List Int → List Nat
  | _, [] => []
  | o, x :: xs => if x = 1 then o :: ones (o + 1) xs else ones (o + 1) xs
theorem ones_app : ∀ (a : List Int) (o : Nat) (b : List Int), ones o (a ++ b) = ones o a ++ ones (o + a.length) b
  | [], o, b => rfl
  | x :: a, o, b => by
    have ih := ones_app a (o + 1) b
    have e : o + (x :: a).length = o + 1 + a.length := by rw [List.length_cons]; omega
    rw [e]
    show (if x = 1 then o :: ones (o + 1) (a ++ b) else ones (o + 1) (a ++ b)) = (if x = 1 then o :: ones (o + 1) a else ones (o + 1) a) ++ _
    rw [ih]
    by_cases c : x = 1
    · rw [if_pos c, if_pos c]; rfl
    · rw [if_neg c, if_neg c]
theorem ones_mem : ∀ (xs : List Int) (o k : Nat), k ∈ ones o xs ↔ ∃ j, k = o + j ∧ xs[j]? = some 1
  | [], o, k => by simp [ones]
  | x :: xs, o, k => by
    have ih := ones_mem xs (o + 1) k
    show k ∈ (if x = 1 then o :: ones (o + 1) xs else ones (o + 1) xs) ↔ _
    constructor
    · intro h
      by_cases c : x = 1
      · rw [if_pos c] at h
        rcases List.mem_cons.mp h with e | e
        · exact ⟨0, by omega, by rw [c]; rfl⟩
        · obtain ⟨j, e1, e2⟩ := ih.mp e
          exact ⟨j + 1, by omega, by simpa using e2⟩
      · rw [if_neg c] at h
        obtain ⟨j, e1, e2⟩ := ih.mp h
        exact ⟨j + 1, by omega, by simpa using e2⟩
    · rintro ⟨j, e1, e2⟩
      cases j with
      | zero =>
        have c : x = 1 := Option.some.inj e2
        rw [if_pos c]
        exact List.mem_cons.mpr (.inl (by omega))
      | succ j =>
        have m : k ∈ ones (o + 1) xs := ih.mpr ⟨j, by omega, by simpa using e2⟩
        by_cases c : x = 1
        · rw [if_pos c]; exact List.mem_cons_of_mem _ m
        · rw [if_neg c]; exact m
theorem ones_blk (o d : Nat) : ones o (blk (d + 1)) = ones o (blk d) ++ [o + 2 * d] := by
  rw [blk_add, ones_app, blk_len]
  rfl
theorem ones_end (a : List Int) (o : Nat) : ones o (a ++ [0, 0]) = ones o a := by
  rw [ones_app]
  show ones o a ++ [] = _
  rw [List.append_nil]
theorem step2 (s : List Nat) (d : Nat) : ones 0 (pre s ++ blk (d + 1)) = ones 0 (pre s ++ blk d) ++ [(pre s).length + 2 * d] := by
  rw [ones_app, ones_app, ones_blk, List.append_assoc, Nat.zero_add]
theorem step4 (s : List Nat) (d : Nat) : ones 0 (pre (s ++ [d]) ++ blk 1) = ones 0 (pre s ++ blk d) ++ [(pre s).length + 2 * d + 2] := by
  rw [ones_app, pre_app, ← List.append_assoc, ones_end]
  have e : ((pre s ++ blk d) ++ ([0, 0] : List Int)).length = (pre s).length + 2 * d + 2 := by
    rw [List.length_append, List.length_append, blk_len]
    rfl
  rw [e, Nat.zero_add]
  rfl
theorem ones_row (s : List Nat) (d : Nat) : ones 0 (rowL (s ++ [d])) = ones 0 (pre s ++ blk d) := by
  rw [← pre_row, pre_app, ← List.append_assoc, ones_end, ones_end]
theorem ones_inj {ds es : List Nat} (h1 : ∀ d ∈ ds, 1 ≤ d) (h2 : ∀ e ∈ es, 1 ≤ e) (h : ones 0 (rowL ds) = ones 0 (rowL es)) : ds = es := by
  rcases rows_part ds es h1 h2 with q | ⟨k, q, _⟩ | ⟨k, q, _⟩
  · exact q
  · have m : k ∈ ones 0 (rowL ds) := (ones_mem _ _ _).mpr ⟨k, by omega, q.one⟩
    rw [h] at m
    obtain ⟨j, e1, e2⟩ := (ones_mem _ _ _).mp m
    rw [show j = k by omega, q.two] at e2
    cases e2
  · have m : k ∈ ones 0 (rowL es) := (ones_mem _ _ _).mpr ⟨k, by omega, q.two⟩
    rw [← h] at m
    obtain ⟨j, e1, e2⟩ := (ones_mem _ _ _).mp m
    rw [show j = k by omega, q.one] at e2
    cases e2
def St (l : List Nat) : Prop := ∀ (k a b : Nat), l[k]? = some a → l[k + 1]? = some b → b = a + 2 ∨ b = a + 4
theorem St.cons {x : Nat} {l : List Nat} (h : ∀ y, l.head? = some y → y = x + 2 ∨ y = x + 4) (s : St l) : St (x :: l) := by
  intro k a b e1 e2
  cases k with
  | zero =>
    have e : x = a := Option.some.inj e1
    subst e
    refine h b ?_
    rw [List.head?_eq_getElem?]
    exact e2
  | succ k => exact s k a b (by simpa using e1) (by simpa using e2)
theorem steps_blk {l : List Int} (hl : ∀ o, St (ones o l) ∧ ∀ y, (ones o l).head? = some y → y = o) : ∀ (d o : Nat), St (ones o (blk d ++ ([0, 0] ++ l))) ∧ ∀ y, (ones o (blk d ++ ([0, 0] ++ l))).head? = some y → (y = o ∨ y = o + 2)
  | 0, o => by
    have h := hl (o + 2)
    exact ⟨h.1, fun y e => .inr (h.2 y e)⟩
  | d + 1, o => by
    have ih := steps_blk hl d (o + 2)
    have e : ones o (blk (d + 1) ++ ([0, 0] ++ l)) = o :: ones (o + 2) (blk d ++ ([0, 0] ++ l)) := by
      rw [blk_succ]
      rfl
    rw [e]
    refine ⟨ih.1.cons fun y q => ?_, fun y q => .inl (Option.some.inj q).symm⟩
    rcases ih.2 y q with z | z
    · exact .inl z
    · exact .inr (by omega)
theorem steps_row : ∀ (es : List Nat), (∀ d ∈ es, 1 ≤ d) → ∀ o, St (ones o (rowL es)) ∧ ∀ y, (ones o (rowL es)).head? = some y → y = o
  | [], _, o => ⟨fun k a b (e : (none : Option Nat) = some a) => (by cases e), fun y (e : (none : Option Nat) = some y) => by cases e⟩
  | d :: es, h, o => by
    have ih := steps_row es fun y m => h y (List.mem_cons_of_mem _ m)
    obtain ⟨f, rfl⟩ : ∃ f, d = f + 1 := ⟨d - 1, by have := h d (by simp); omega⟩
    have q := steps_blk ih (f + 1) o
    refine ⟨q.1, fun y e => ?_⟩
    have e' : ones o (rowL ((f + 1) :: es)) = o :: ones (o + 2) (blk f ++ ([0, 0] ++ rowL es)) := by
      show ones o (blk (f + 1) ++ _) = _
      rw [blk_succ]
      rfl
    rw [e'] at e
    exact (Option.some.inj e).symm
theorem first_row (d : Nat) (es : List Nat) (h : 1 ≤ d) : (ones 0 (rowL (d :: es)))[0]? = some 0 := by
  obtain ⟨f, rfl⟩ : ∃ f, d = f + 1 := ⟨d - 1, by omega⟩
  show (ones 0 (blk (f + 1) ++ _))[0]? = _
  rw [blk_succ]
  rfl
/-! groups -/
def gaps : List Int → List Nat
  | [] => [0]
  | z :: zs => if z = 1 then (match gaps zs with | [] => [1] | g :: gs => (g + 1) :: gs) else 0 :: gaps zs
theorem gaps_ne : ∀ zs, gaps zs ≠ []
  | [] => by simp [gaps]
  | z :: zs => by
    show (if z = 1 then (match gaps zs with | [] => [1] | g :: gs => (g + 1) :: gs) else 0 :: gaps zs) ≠ []
    by_cases c : z = 1
    · rw [if_pos c]
      split <;> simp
    · rw [if_neg c]; simp
def bits (zs : List Int) : List Nat := zs.map fun z => if z = 1 then 49 else 48
theorem joinL_cons {s : List Nat} {p : List Nat} {ps : List (List Nat)} (h : ps ≠ []) : joinL s (p :: ps) = p ++ (s ++ joinL s ps) := by
  cases ps with
  | nil => exact absurd rfl h
  | cons q r => rfl
theorem joinL_one (s p : List Nat) : joinL s [p] = p := rfl
theorem map_ne {α β : Type} {f : α → β} {l : List α} (h : l ≠ []) : l.map f ≠ [] := fun e => h (List.map_eq_nil_iff.mp e)
theorem gaps_join : ∀ zs, bits zs = joinL [48] ((gaps zs).map fun g => List.replicate g 49)
  | [] => rfl
  | z :: zs => by
    have ih := gaps_join zs
    have ne := gaps_ne zs
    show (if z = 1 then 49 else 48) :: bits zs = joinL [48] ((if z = 1 then (match gaps zs with | [] => [1] | g :: gs => (g + 1) :: gs) else 0 :: gaps zs).map _)
    by_cases c : z = 1
    · rw [if_pos c, if_pos c]
      cases e : gaps zs with
      | nil => exact absurd e ne
      | cons g gs =>
        rw [e] at ih
        rw [ih]
        cases gs with
        | nil => rfl
        | cons g2 gs => rfl
    · rw [if_neg c, if_neg c, List.map_cons, joinL_cons (map_ne ne), ← ih]
      rfl
theorem gaps_sum : ∀ zs, (gaps zs).sum ≤ zs.length ∧ (gaps zs).length ≤ zs.length + 1
  | [] => by decide
  | z :: zs => by
    have ih := gaps_sum zs
    show (if z = 1 then (match gaps zs with | [] => [1] | g :: gs => (g + 1) :: gs) else 0 :: gaps zs).sum ≤ zs.length + 1 ∧ (if z = 1 then (match gaps zs with | [] => [1] | g :: gs => (g + 1) :: gs) else 0 :: gaps zs).length ≤ zs.length + 1 + 1
    by_cases c : z = 1
    · rw [if_pos c]
      cases e : gaps zs with
      | nil => exact absurd e (gaps_ne zs)
      | cons g gs =>
        rw [e, List.sum_cons, List.length_cons] at ih
        show ((g + 1) :: gs).sum ≤ _ ∧ ((g + 1) :: gs).length ≤ _
        rw [List.sum_cons, List.length_cons]
        omega
    · rw [if_neg c, List.sum_cons, List.length_cons]
      omega
theorem mem_sum {g : Nat} : ∀ {l : List Nat}, g ∈ l → g ≤ l.sum
  | a :: l, h => by
    rw [List.sum_cons]
    rcases List.mem_cons.mp h with e | e
    · omega
    · have := mem_sum e
      omega
theorem gaps_le {zs : List Int} {g : Nat} (h : g ∈ gaps zs) : g ≤ zs.length := by
  have h1 := (gaps_sum zs).1
  have h2 : g ≤ (gaps zs).sum := mem_sum h
  omega
theorem ev2_row : ∀ ds, Hf.ev2 (rowL ds) = (match ds with | [] => [0] | d :: r => List.replicate d 1 ++ (0 :: Hf.ev2 (rowL r)))
  | [] => rfl
  | d :: r => by
    show Hf.ev2 (blk d ++ ([0, 0] ++ rowL r)) = List.replicate d 1 ++ (0 :: Hf.ev2 (rowL r))
    induction d with
    | zero => rfl
    | succ d ih =>
      rw [blk_succ, List.replicate_succ]
      show (1 : Int) :: Hf.ev2 (blk d ++ ([0, 0] ++ rowL r)) = _
      rw [ih]
      rfl
theorem gaps_rep (l : List Int) (d : Nat) : gaps (List.replicate d 1 ++ (0 :: l)) = d :: gaps l := by
  induction d with
  | zero => rfl
  | succ d ih =>
    rw [List.replicate_succ]
    show (if (1 : Int) = 1 then (match gaps (List.replicate d 1 ++ (0 :: l)) with | [] => [1] | g :: gs => (g + 1) :: gs) else _) = _
    rw [if_pos rfl, ih]
theorem gaps_row : ∀ ds, gaps (Hf.ev2 (rowL ds)) = ds ++ [0, 0]
  | [] => rfl
  | d :: r => by
    rw [ev2_row]
    show gaps (List.replicate d 1 ++ (0 :: Hf.ev2 (rowL r))) = _
    rw [gaps_rep, gaps_row r]
    rfl
end Wm

/-! Ticks of bent rows as data. -/
namespace Wm
open PySem L2
inductive Tk : PyData → Prop
  | int {i : Int} : i.natAbs < 1000000 → Tk (.int i)
  | bl (b : Bool) : Tk (.bool b)
  | non : Tk .none
  | one : Tk (.str "1")
  | lst : Tk (.list [.int 0])
def Item (K : PySem.W.Frag) (H : Hp) (x : V) : Prop := ∃ d, Dp K H x d ∧ Tk d
theorem sqL_keep {K : PySem.W.Frag} {H H' : Hp} {a : Addr} {xs : List V} (e : Same H H') (h : SqL K H a xs) : SqL K H' a xs := by
  rcases h with (h | ⟨o, h⟩) | h
  · exact .inl (.inl (e _ _ h))
  · exact .inl (.inr ⟨o, e _ _ h⟩)
  · exact .inr h
theorem tk_keep {K : PySem.W.Frag} {H H' : Hp} {x : V} {d : PyData} (e : Same H H') (h : Dp K H x d) (t : Tk d) : Dp K H' x d := by
  cases t with
  | int _ => cases h; exact .int _
  | bl b => cases h; exact .bl _
  | non => cases h; exact .non
  | one => cases h; exact .str _
  | lst =>
    cases h with
    | lst q a =>
      refine .lst (sqL_keep e q) ?_
      cases a with
      | cons b c =>
        cases b
        cases c
        exact .cons (.int _) .nil
theorem Item.keep {K : PySem.W.Frag} {H H' : Hp} {x : V} (e : Same H H') (h : Item K H x) : Item K H' x := let ⟨d, a, b⟩ := h; ⟨d, tk_keep e a b, b⟩
theorem tks_keep {K : PySem.W.Frag} {H H' : Hp} (e : Same H H') : ∀ {xs : List V} {ds : List PyData}, DpAll K H xs ds → (∀ d ∈ ds, Tk d) → DpAll K H' xs ds
  | _, _, .nil, _ => .nil
  | _, _, .cons a b, t => .cons (tk_keep e a (t _ (by simp))) (tks_keep e b fun d m => t d (List.mem_cons_of_mem _ m))
theorem items_data {K : PySem.W.Frag} {H : Hp} : ∀ {xs : List V}, (∀ x ∈ xs, Item K H x) → ∃ ds, DpAll K H xs ds ∧ (∀ d ∈ ds, Tk d) ∧ ds.length = xs.length
  | [], _ => ⟨[], .nil, by simp, rfl⟩
  | x :: xs, h => by
    obtain ⟨d, a, b⟩ := h x (by simp)
    obtain ⟨ds, c1, c2, c3⟩ := items_data (xs := xs) fun y m => h y (List.mem_cons_of_mem _ m)
    refine ⟨d :: ds, .cons a c1, fun y m => ?_, by rw [List.length_cons, List.length_cons, c3]⟩
    rcases List.mem_cons.mp m with q | q
    · rw [q]; exact b
    · exact c2 y q
theorem item_int {K : PySem.W.Frag} {H : Hp} {i : Int} (h : i.natAbs < 1000000) : Item K H (.int i) := ⟨_, .int i, .int h⟩
theorem tk_lay {d : PyData} (t : Tk d) : d.canLay0 = true ∧ d.depth ≤ 1 := by
  cases t with
  | int _ => exact ⟨by simp [PyData.canLay0], by simp [PyData.depth]⟩
  | bl b => exact ⟨by simp [PyData.canLay0], by simp [PyData.depth]⟩
  | non => exact ⟨by simp [PyData.canLay0], by simp [PyData.depth]⟩
  | one => exact ⟨by decide +kernel, by simp [PyData.depth]⟩
  | lst => exact ⟨by simp [PyData.canLay0, PyData.canLayAll0], by simp [PyData.depth, PyData.depthAll]⟩
theorem tks_lay : ∀ {ds : List PyData}, (∀ d ∈ ds, Tk d) → PyData.canLayAll0 ds = true ∧ PyData.depthAll ds ≤ 1
  | [], _ => by simp [PyData.canLayAll0, PyData.depthAll]
  | d :: ds, h => by
    have h1 := tk_lay (h d (by simp))
    have h2 := tks_lay (ds := ds) fun y m => h y (List.mem_cons_of_mem _ m)
    simp only [PyData.canLayAll0, PyData.depthAll, h1.1, h2.1, Bool.and_self, true_and]
    omega
theorem tks_shaped {ds : List PyData} (h : ∀ d ∈ ds, Tk d) : SeqAt.shaped (.list ds) = true := by
  have q := tks_lay h
  have e : decide ((PyData.list ds).depth ≤ 64) = true := decide_eq_true (by simp only [PyData.depth]; omega)
  show ((PyData.list ds).canLay0 && _) = true
  rw [e, Bool.and_true]
  exact q.1
theorem tk_show {d : PyData} (t : Tk d) : d.showable = true ∧ d.hasDict = false ∧ d.leavesShort 13 = true ∧ d.weight ≤ 30 := by
  cases t with
  | @int i h =>
    have hl : i.natAbs.log2 < 20 ∨ i = 0 := by
      by_cases z : i = 0
      · exact .inr z
      · exact .inl ((Nat.log2_lt (by omega)).mpr (by omega))
    refine ⟨decide_eq_true ?_, rfl, decide_eq_true (PyData.shown_int_le (by omega)), ?_⟩
    · rcases hl with z | z
      · omega
      · subst z; decide
    · rcases hl with z | z
      · simp only [PyData.weight]; split <;> omega
      · subst z; decide
  | bl b => exact ⟨rfl, rfl, rfl, by simp [PyData.weight]⟩
  | non => exact ⟨rfl, rfl, rfl, by simp [PyData.weight]⟩
  | one => exact ⟨rfl, rfl, by decide +kernel, by decide +kernel⟩
  | lst => exact ⟨by decide +kernel, rfl, by decide +kernel, by decide +kernel⟩
theorem tks_show : ∀ {ds : List PyData}, (∀ d ∈ ds, Tk d) → PyData.showableAll ds = true ∧ PyData.hasDictAll ds = false ∧ PyData.leavesShortAll 13 ds = true ∧ PyData.weightAll ds ≤ 31 * ds.length
  | [], _ => by simp [PyData.showableAll, PyData.hasDictAll, PyData.leavesShortAll, PyData.weightAll]
  | d :: ds, h => by
    have h1 := tk_show (h d (by simp))
    have h2 := tks_show (ds := ds) fun y m => h y (List.mem_cons_of_mem _ m)
    simp only [PyData.showableAll, PyData.hasDictAll, PyData.leavesShortAll, PyData.weightAll, h1.1, h1.2.1, h1.2.2.1, h2.1, h2.2.1, h2.2.2.1, Bool.and_self, Bool.or_self, true_and, List.length_cons]
    omega
theorem tks_shown {ds : List PyData} (h : ∀ d ∈ ds, Tk d) (l : ds.length ≤ 1000) : (PyData.list ds).shown.length ≤ sizeLine :=
  PyData.shown_fits (B := 13) (by decide) (by decide) (tks_show h).2.2.1 (Nat.le_trans (tks_show h).2.2.2 (by omega))
def isI : V → Bool
  | .int _ => true
  | _ => false
def isBit (x : V) : Bool := decide (x = .int 0) || decide (x = .int 1)
theorem all_ints {xs : List V} (h : ∀ x ∈ xs, isI x = true) : ∃ zs : List Int, xs = zs.map V.int := by
  induction xs with
  | nil => exact ⟨[], rfl⟩
  | cons x xs ih =>
    obtain ⟨zs, e⟩ := ih fun y m => h y (List.mem_cons_of_mem _ m)
    have hx := h x (by simp)
    cases x with
    | int i => exact ⟨i :: zs, by rw [e]; rfl⟩
    | _ => cases hx
theorem all_bits {xs : List V} (h : ∀ x ∈ xs, isBit x = true) : ∃ zs : List Int, xs = zs.map V.int ∧ ∀ z ∈ zs, z = 0 ∨ z = 1 := by
  induction xs with
  | nil => exact ⟨[], rfl, by simp⟩
  | cons x xs ih =>
    obtain ⟨zs, e, b⟩ := ih fun y m => h y (List.mem_cons_of_mem _ m)
    have hx := h x (by simp)
    have hc : x = .int 0 ∨ x = .int 1 := by
      rcases Bool.or_eq_true_iff.mp hx with q | q
      · exact .inl (of_decide_eq_true q)
      · exact .inr (of_decide_eq_true q)
    have : ∃ i : Int, x = .int i ∧ (i = 0 ∨ i = 1) := by
      rcases hc with q | q
      · exact ⟨0, q, .inl rfl⟩
      · exact ⟨1, q, .inr rfl⟩
    obtain ⟨i, rfl, hi⟩ := this
    refine ⟨i :: zs, by rw [e]; rfl, fun z m => ?_⟩
    rcases List.mem_cons.mp m with q | q
    · rw [q]; exact hi
    · exact b z q
/-- what isinstance asks of such a tick -/
theorem tyx_of {K : PySem.W.Frag} {H : Hp} {x : V} (h : Item K H x) : ∃ (n : String) (a b : Bool), TyX K H x (.type n) ∧ PySem.W.kitOne K (.type n) (.type "int") = some a ∧
    PySem.W.kitOne K (.type n) (.type "bool") = some b ∧ (a && !b) = isI x := by
  obtain ⟨d, h, t⟩ := h
  cases t with
  | int _ => cases h; exact ⟨"int", true, false, .base (.int _), kit_ty (by decide +kernel), kit_ty (by decide +kernel), rfl⟩
  | bl b => cases h; exact ⟨"bool", true, true, .base (.bl _), kit_ty (by decide +kernel), kit_ty (by decide +kernel), rfl⟩
  | non => cases h; exact ⟨"NoneType", false, false, .base .non, kit_ty (by decide +kernel), kit_ty (by decide +kernel), rfl⟩
  | one => cases h; exact ⟨"str", false, false, .base (.str _), kit_ty (by decide +kernel), kit_ty (by decide +kernel), rfl⟩
  | lst =>
    cases h with
    | lst q a =>
      rcases q with (q | ⟨o, q⟩) | q
      · exact ⟨"list", false, false, .base (.lst q), kit_ty (by decide +kernel), kit_ty (by decide +kernel), rfl⟩
      · exact ⟨"list", false, false, .base (.frz q), kit_ty (by decide +kernel), kit_ty (by decide +kernel), rfl⟩
      · obtain ⟨o, xs, n, e, c, _⟩ := q
        exact ⟨"list", false, false, .kList e c, kit_ty (by decide +kernel), kit_ty (by decide +kernel), rfl⟩
/-- a list or a tuple -/
def SqA (K : PySem.W.Frag) (H : Hp) (a : Addr) (xs : List V) : Prop := SqL K H a xs ∨ SqT K H a xs
theorem SqA.keep {K : PySem.W.Frag} {H H' : Hp} {a : Addr} {xs : List V} (e : Same H H') (h : SqA K H a xs) : SqA K H' a xs := h.imp (sqL_keep e) (sameT e)
end Wm

/-! Texts of digits: halves, groups, the number they tell. -/
namespace Wm
open PySem L2 TL
def oneS (g : Nat) : Str := ⟨(List.replicate g 49).toArray⟩
def bitS (z : Int) : Str := if z = 1 then "1" else "0"
def decS (g : Nat) : Str := ((toString (g : Int) : String) : Str)
theorem bit_str {z : Int} (h : z = 0 ∨ z = 1) : ((toString z : String) : Str) = bitS z := by
  rcases h with e | e <;> subst e <;> decide +kernel
theorem tl_bit (z : Int) : tl (bitS z) = [if z = 1 then 49 else 48] := by
  unfold bitS
  by_cases c : z = 1
  · rw [if_pos c, if_pos c]; decide +kernel
  · rw [if_neg c, if_neg c]; decide +kernel
theorem joinL_nil : ∀ ps : List (List Nat), joinL [] ps = ps.flatten
  | [] => rfl
  | [p] => by show p = [p].flatten; simp
  | p :: q :: r => by
    show p ++ ([] ++ joinL [] (q :: r)) = _
    rw [joinL_nil (q :: r), List.nil_append]
    rfl
theorem tl_empty : tl ("" : Str) = [] := by decide +kernel
theorem tl_zero : tl ("0" : Str) = [48] := by decide +kernel
theorem tl_join0 (ys : List Str) : tl (Txt.join "" ys) = (ys.map tl).flatten := by
  rw [join_eq, tl_join, tl_empty, joinL_nil]
theorem bits_flat : ∀ zs : List Int, ((zs.map bitS).map tl).flatten = bits zs
  | [] => rfl
  | z :: zs => by
    rw [List.map_cons, List.map_cons, List.flatten_cons, bits_flat zs, tl_bit]
    rfl
theorem halves_eq (zs : List Int) : Txt.join "" (zs.map bitS) = Txt.join "0" ((gaps zs).map oneS) := by
  refine ext_tl ?_
  rw [tl_join0, bits_flat, gaps_join, join_eq, tl_join, tl_zero, List.map_map]
  rfl
theorem groups_eq (zs : List Int) : Txt.split (Txt.join "" (zs.map bitS)) "0" = (gaps zs).map oneS := by
  rw [halves_eq]
  refine split_join (s := 48) (S := []) tl_zero (by decide +kernel) (map_ne (gaps_ne zs)) fun p hp h => ?_
  obtain ⟨g, _, rfl⟩ := List.mem_map.mp hp
  have h : 48 ∈ List.replicate g 49 := h
  exact absurd (List.mem_replicate.mp h).2 (by decide)
theorem oneS_len (g : Nat) : (oneS g).length = g := by
  rw [len_tl]
  show (List.replicate g 49).length = g
  rw [List.length_replicate]
theorem halves_len (zs : List Int) : (Txt.join "" (zs.map bitS)).length = zs.length := by
  rw [len_tl, tl_join0, bits_flat]
  unfold bits
  rw [List.length_map]
theorem len4 : ∀ g : Fin 1001, (decS g.val).length ≤ 4 := by decide +kernel
theorem dec_len {g : Nat} (h : g ≤ 1000) : (decS g).length ≤ 4 := len4 ⟨g, by omega⟩
theorem dec_sum : ∀ {gs : List Nat}, (∀ g ∈ gs, g ≤ 1000) → ((gs.map decS).map (·.length)).sum ≤ 4 * gs.length
  | [], _ => by simp
  | g :: gs, h => by
    have h1 := dec_len (h g (by simp))
    have h2 := dec_sum (gs := gs) fun y m => h y (List.mem_cons_of_mem _ m)
    rw [List.map_cons, List.map_cons, List.sum_cons, List.length_cons]
    omega
theorem join0_len (ys : List Str) : (Txt.join "" ys).length = (ys.map (·.length)).sum := by
  rw [len_tl, tl_join0]
  induction ys with
  | nil => rfl
  | cons y ys ih => rw [List.map_cons, List.flatten_cons, List.length_append, ih, List.map_cons, List.sum_cons, len_tl]
theorem bit_sum (zs : List Int) : ((zs.map bitS).map (·.length)).sum = zs.length := by rw [← join0_len, halves_len]
theorem num_text : ∀ {ds : List Nat}, (∀ d ∈ ds, 1 ≤ d ∧ d ≤ 9) → Txt.join "" (ds.map decS) = numS ds
  | [], _ => by decide +kernel
  | d :: ds, h => by
    have ih := num_text (ds := ds) fun y m => h y (List.mem_cons_of_mem _ m)
    refine ext_tl ?_
    rw [tl_join0, List.map_cons, List.map_cons, List.flatten_cons, ← tl_join0, ih]
    have e : decS d = numS [d] := dig_str (h d (by simp))
    rw [e]
    rfl
/-- the number that a row of bits tells, if it is a row -/
def told (zs : List Int) : Str := Txt.join "" ((gaps (Hf.ev2 zs)).dropLast.dropLast.map decS)
theorem told_row {ds : List Nat} (h : ∀ d ∈ ds, 1 ≤ d ∧ d ≤ 9) : told (rowL ds) = numS ds := by
  unfold told
  rw [gaps_row, ← num_text h]
  congr 2
  show (ds ++ [0, 0]).dropLast.dropLast = ds
  rw [show (ds ++ [0, 0]) = (ds ++ [0]) ++ [0] by simp, List.dropLast_concat, List.dropLast_concat]
theorem digits_codes : ("123456789" : Str).cps.toList = [49, 50, 51, 52, 53, 54, 55, 56, 57] := by decide +kernel
theorem dig_text (t : Str) (h : ∀ c ∈ tl t, c ∈ ("123456789" : Str).cps.toList) : ∃ ds : List Nat, (∀ d ∈ ds, 1 ≤ d ∧ d ≤ 9) ∧ t = numS ds := by
  have h2 : ∀ c ∈ tl t, 49 ≤ c ∧ c ≤ 57 := fun c m => by
    have q := h c m
    rw [digits_codes] at q
    simp only [List.mem_cons, List.not_mem_nil, or_false] at q
    omega
  refine ⟨(tl t).map (· - 48), fun d m => ?_, ?_⟩
  · obtain ⟨c, mc, rfl⟩ := List.mem_map.mp m
    have := h2 c mc
    omega
  · refine ext_tl ?_
    show tl t = ((tl t).map (· - 48)).map (· + 48)
    rw [List.map_map]
    refine (List.map_id _).symm.trans (List.map_congr_left fun c m => ?_)
    have := h2 c m
    show c = c - 48 + 48
    omega
theorem num_codes {ds : List Nat} (h : ∀ d ∈ ds, 1 ≤ d ∧ d ≤ 9) : ∀ c ∈ tl (numS ds), c ∈ ("123456789" : Str).cps.toList := fun c m => by
  have m : c ∈ codes ds := m
  obtain ⟨d, md, rfl⟩ := List.mem_map.mp m
  exact dig_in (h d md)
def IsNum (t : Str) : Prop := ∃ ds, Num ds ∧ t = numS ds
theorem isnum_dig {ds : List Nat} : IsNum (numS ds) ↔ Num ds :=
  ⟨fun ⟨es, N, e⟩ => by rw [numS_inj e]; exact N, fun N => ⟨ds, N, rfl⟩⟩
theorem row_inj {ds es : List Nat} (N : Num ds) (M : Num es) (h : (rowL ds).map V.int = (rowL es).map V.int) : ds = es := by
  have e : rowL ds = rowL es := by
    have q := congrArg (List.map fun v => match v with | V.int i => i | _ => 0) h
    simpa [List.map_map, Function.comp_def] using q
  exact ones_inj (fun d m => (N.dig d m).1) (fun d m => (M.dig d m).1) (by rw [e])
theorem map_int_inj {xs ys : List Int} (h : xs.map V.int = ys.map V.int) : xs = ys := by
  have q := congrArg (List.map fun v => match v with | V.int i => i | _ => 0) h
  simpa [List.map_map, Function.comp_def] using q
/-- what number_of tells of a row -/
def Told (xs : List V) (v : V) : Prop := (∃ ds, Num ds ∧ xs = (rowL ds).map V.int ∧ v = .str (numS ds)) ∨ ((∀ ds, Num ds → xs ≠ (rowL ds).map V.int) ∧ v = .non)
theorem Told.uniq {xs : List V} {v u : V} (a : Told xs v) (b : Told xs u) : v = u := by
  rcases a with ⟨ds, N, e, rfl⟩ | ⟨n, rfl⟩
  · rcases b with ⟨es, M, f, rfl⟩ | ⟨n, _⟩
    · rw [row_inj N M (e.symm.trans f)]
    · exact absurd e (n ds N)
  · rcases b with ⟨es, M, f, rfl⟩ | ⟨_, rfl⟩
    · exact absurd f (n es M)
    · rfl
theorem Told.row {ds : List Nat} {v : V} (N : Num ds) (a : Told ((rowL ds).map V.int) v) : v = .str (numS ds) := a.uniq (.inl ⟨ds, N, rfl, rfl⟩)
end Wm

/-! Things as data: what may be asked whether it is a number. -/
namespace Wm
open PySem L2 TL
structure Tx (t : Str) : Prop where
  len : t.length ≤ 100
  asc : ∀ c ∈ tl t, c < 128
inductive Tg : PyData → Prop
  | int {i : Int} : i.natAbs < 1000000000000000000000 → Tg (.int i)
  | bl (b : Bool) : Tg (.bool b)
  | non : Tg .none
  | str {t : Str} : Tx t → Tg (.str t)
  | lst {ts : List Str} : (∀ t ∈ ts, Tx t) → ts.length ≤ 100 → Tg (.list (ts.map .str))
  | tup {ts : List Str} : (∀ t ∈ ts, Tx t) → ts.length ≤ 100 → Tg (.tuple (ts.map .str))
structure Ob (K : PySem.W.Frag) (H : Hp) (x : V) (d : PyData) : Prop where
  dp : Dp K H x d
  tg : Tg d
theorem dp_strs {K : PySem.W.Frag} {H H' : Hp} : ∀ {xs : List V} {ts : List Str}, DpAll K H xs (ts.map PyData.str) → xs = ts.map V.str ∧ DpAll K H' (ts.map V.str) (ts.map PyData.str)
  | _, [], h => by cases h; exact ⟨rfl, .nil⟩
  | _, t :: ts, h => by
    cases h with
    | cons a b =>
      cases a
      obtain ⟨e, g⟩ := dp_strs (H' := H') (ts := ts) b
      subst e
      exact ⟨rfl, .cons (.str t) g⟩
theorem dp_strs' {K : PySem.W.Frag} {H : Hp} : ∀ ts : List Str, DpAll K H (ts.map V.str) (ts.map PyData.str)
  | [] => .nil
  | t :: ts => .cons (.str t) (dp_strs' ts)
theorem Ob.move {K : PySem.W.Frag} {H H' : Hp} {x : V} {d : PyData} (h : Ob K H x d) (f : ∀ p o, x = .ref p → H p = some o → (∀ ts : List Str, o = .lst (ts.map V.str) → H' p = some o) ∧ (∀ ts : List Str, o = .tup (ts.map V.str) → H' p = some o) ∧ (∀ ob u, o = .frz ob u → H' p = some o)) : Ob K H' x d := by
  obtain ⟨h, t⟩ := h
  cases t with
  | int q => cases h; exact ⟨.int _, .int q⟩
  | bl b => cases h; exact ⟨.bl _, .bl b⟩
  | non => cases h; exact ⟨.non, .non⟩
  | str q => cases h; exact ⟨.str _, .str q⟩
  | lst q l =>
    cases h with
    | lst s a =>
      obtain ⟨e, g⟩ := dp_strs (H' := H') a
      subst e
      refine ⟨.lst ?_ g, .lst q l⟩
      rcases s with (s | ⟨o, s⟩) | s
      · exact .inl (.inl ((f _ _ rfl s).1 _ rfl))
      · exact .inl (.inr ⟨o, (f _ _ rfl s).2.2 _ _ rfl⟩)
      · exact .inr s
  | tup q l =>
    cases h with
    | tup s a =>
      obtain ⟨e, g⟩ := dp_strs (H' := H') a
      subst e
      refine ⟨.tup ?_ g, .tup q l⟩
      rcases s with (s | ⟨o, s⟩) | s
      · exact .inl (.inl ((f _ _ rfl s).2.1 _ rfl))
      · exact .inl (.inr ⟨o, (f _ _ rfl s).2.2 _ _ rfl⟩)
      · exact .inr s
theorem Ob.keep {K : PySem.W.Frag} {H H' : Hp} {x : V} {d : PyData} (e : Same H H') (h : Ob K H x d) : Ob K H' x d :=
  h.move fun p o _ q => ⟨fun _ _ => e _ _ q, fun _ _ => e _ _ q, fun _ _ _ => e _ _ q⟩
theorem Ob.but {K : PySem.W.Frag} {H H' : Hp} {x : V} {d : PyData} {b : Addr} {n : Nat} (bag : Bag H b n) (e : But b H H') (h : Ob K H x d) : Ob K H' x d := by
  obtain ⟨c, i, k, m, z, ns, hb, _⟩ := bag
  refine h.move fun p o _ q => ?_
  by_cases pb : p = b
  · subst pb
    rw [hb] at q
    have q := Option.some.inj q
    subst q
    refine ⟨fun ts f => ?_, fun ts f => (by cases f), fun ob u f => (by cases f)⟩
    cases ts with
    | nil => simp at f
    | cons t ts => simp at f
  · exact ⟨fun _ _ => e _ _ pb q, fun _ _ => e _ _ pb q, fun _ _ _ => e _ _ pb q⟩
theorem tx_lay {t : Str} (h : Tx t) : PyData.leavesShort 13 (.str t) = true ∧ PyData.weight (.str t) ≤ 100 := by
  refine ⟨?_, h.len⟩
  show (t.cps.toList.all fun c => decide (c < 16 ^ 8)) = true
  rw [List.all_eq_true]
  intro c m
  have := h.asc c m
  exact decide_eq_true (by omega)
theorem strs_lay : ∀ {ts : List Str}, (∀ t ∈ ts, Tx t) → PyData.leavesShortAll 13 (ts.map .str) = true ∧ PyData.weightAll (ts.map .str) ≤ 101 * ts.length ∧ PyData.showableAll (ts.map .str) = true ∧ PyData.hasDictAll (ts.map .str) = false ∧ PyData.depthAll (ts.map .str) = 0 ∧ PyData.plainAll (ts.map .str) = true
  | [], _ => by simp [PyData.leavesShortAll, PyData.weightAll, PyData.showableAll, PyData.hasDictAll, PyData.depthAll, PyData.plainAll]
  | t :: ts, h => by
    have h1 := tx_lay (h t (by simp))
    have h2 := strs_lay (ts := ts) fun y m => h y (List.mem_cons_of_mem _ m)
    obtain ⟨a1, a2⟩ := h1
    obtain ⟨b1, b2, b3, b4, b5, b6⟩ := h2
    simp only [List.map_cons, PyData.leavesShortAll, PyData.weightAll, PyData.showableAll, PyData.hasDictAll, PyData.depthAll, PyData.plainAll, a1, b1, b3, b4, b5, b6, PyData.showable, PyData.hasDict, PyData.depth, PyData.plain, Bool.and_self, Bool.or_self, true_and, List.length_cons, and_true, Nat.max_self]
    omega
structure Shows (d : PyData) : Prop where
  sh : d.showable = true
  nd : d.hasDict = false
  dep : d.depth ≤ 60
  fit : d.shown.length ≤ sizeLine
theorem tg_shows {d : PyData} (t : Tg d) : Shows d := by
  cases t with
  | @int i h =>
    have hl : i.natAbs.log2 < 70 ∨ i = 0 := by
      by_cases z : i = 0
      · exact .inr z
      · exact .inl ((Nat.log2_lt (by omega)).mpr (by omega))
    refine ⟨decide_eq_true ?_, rfl, Nat.zero_le _, Nat.le_trans (by rw [show (PyData.int i).shown = Str.ofString (toString i) from rfl, ofString_length]; exact int_text_length_le10 (k := 21) (by decide) h) (by decide)⟩
    rcases hl with z | z
    · omega
    · subst z; decide
  | bl b => exact ⟨rfl, rfl, Nat.zero_le _, by cases b <;> decide +kernel⟩
  | non => exact ⟨rfl, rfl, Nat.zero_le _, by decide +kernel⟩
  | str h =>
    have q := tx_lay h
    exact ⟨rfl, rfl, Nat.zero_le _, PyData.shown_fits (B := 13) (by decide) (by decide) q.1 (Nat.le_trans q.2 (by decide))⟩
  | lst h l =>
    obtain ⟨b1, b2, b3, b4, b5, b6⟩ := strs_lay h
    exact ⟨b3, b4, by simp only [PyData.depth, b5]; decide, PyData.shown_fits (B := 13) (by decide) (by decide) b1 (Nat.le_trans b2 (by omega))⟩
  | tup h l =>
    obtain ⟨b1, b2, b3, b4, b5, b6⟩ := strs_lay h
    exact ⟨b3, b4, by simp only [PyData.depth, b5]; decide, PyData.shown_fits (B := 13) (by decide) (by decide) b1 (Nat.le_trans b2 (by omega))⟩
/-- a number's text -/
def IsN (x : V) : Prop := ∃ ds, Num ds ∧ x = .str (numS ds)
/-- what isinstance asks of a thing: a text, or no text -/
theorem tys_of {K : PySem.W.Frag} {H : Hp} {x : V} {d : PyData} (h : Ob K H x d) : ∃ (n : String) (b : Bool), TyX K H x (.type n) ∧ PySem.W.kitOne K (.type n) (.type "str") = some b ∧ (b = true → ∃ t, x = .str t ∧ d = .str t ∧ Tx t) ∧ (b = false → ¬ IsN x) := by
  obtain ⟨h, t⟩ := h
  cases t with
  | int _ => cases h; exact ⟨"int", false, .base (.int _), kit_ty (by decide +kernel), (fun z => by cases z), fun _ ⟨ds, _, e⟩ => by cases e⟩
  | bl b => cases h; exact ⟨"bool", false, .base (.bl _), kit_ty (by decide +kernel), (fun z => by cases z), fun _ ⟨ds, _, e⟩ => by cases e⟩
  | non => cases h; exact ⟨"NoneType", false, .base .non, kit_ty (by decide +kernel), (fun z => by cases z), fun _ ⟨ds, _, e⟩ => by cases e⟩
  | str q => cases h; exact ⟨"str", true, .base (.str _), kit_ty (by decide +kernel), fun _ => ⟨_, rfl, rfl, q⟩, fun z => by cases z⟩
  | lst _ _ =>
    cases h with
    | lst q a =>
      rcases q with (q | ⟨o, q⟩) | q
      · exact ⟨"list", false, .base (.lst q), kit_ty (by decide +kernel), (fun z => by cases z), fun _ ⟨ds, _, e⟩ => by cases e⟩
      · exact ⟨"list", false, .base (.frz q), kit_ty (by decide +kernel), (fun z => by cases z), fun _ ⟨ds, _, e⟩ => by cases e⟩
      · obtain ⟨o, xs, n, e, c, _⟩ := q
        exact ⟨"list", false, .kList e c, kit_ty (by decide +kernel), (fun z => by cases z), fun _ ⟨ds, _, e⟩ => by cases e⟩
  | tup _ _ =>
    cases h with
    | tup q a =>
      rcases q with (q | ⟨o, q⟩) | q
      · exact ⟨"tuple", false, .base (.tup q), kit_ty (by decide +kernel), (fun z => by cases z), fun _ ⟨ds, _, e⟩ => by cases e⟩
      · exact ⟨"tuple", false, .fTuple q, kit_ty (by decide +kernel), (fun z => by cases z), fun _ ⟨ds, _, e⟩ => by cases e⟩
      · obtain ⟨o, xs, n, e, c, _⟩ := q
        exact ⟨"tuple", false, .kTuple e c, kit_ty (by decide +kernel), (fun z => by cases z), fun _ ⟨ds, _, e⟩ => by cases e⟩
theorem ob_num {K : PySem.W.Frag} {H : Hp} {ds : List Nat} (N : Num ds) : Ob K H (.str (numS ds)) (.str (numS ds)) :=
  ⟨.str _, .str ⟨by rw [numS_len]; have := N.len; omega, fun c m => by
    have m : c ∈ codes ds := m
    obtain ⟨d, md, rfl⟩ := List.mem_map.mp m
    have := (N.dig d md).2
    omega⟩⟩
theorem isN_str {t : Str} : IsN (.str t) ↔ IsNum t := ⟨fun ⟨ds, N, e⟩ => ⟨ds, N, V.str.inj e⟩, fun ⟨ds, N, e⟩ => ⟨ds, N, by rw [e]⟩⟩
theorem fresh_but {b p : Addr} {H H' : Hp} {n : Nat} (bag : Bag H b n) (e : But b H H') (f : H' p = none) : H p = none := by
  cases q : H p with
  | none => rfl
  | some o =>
    by_cases pb : p = b
    · obtain ⟨c, x, k, m, z, ns, h, _⟩ := bag
      obtain ⟨x', k', m', z', g⟩ := e.cel c ⟨x, k, m, z, h⟩
      rw [pb, g] at f
      cases f
    · rw [e.keep p o pb q] at f
      cases f
end Wm

/-! enumerate of a tuple, as a thing that a for walks. -/
namespace Es
open PySem PySem.Spec PyProof.Rows L2
theorem meets_ent (t : Addr) (its : Array Value) (m : Nat) (dd : Option Addr) (slo : Array (Option Value)) :
    Meets (Builtin.«enumerate.__new__» ⟨[.type "enumerate", .ref t], []⟩) (fun _ R s => s.heap.get? t = some { cls := .type "tuple", dict := dd, data := .seq its m, slots := slo } ∧
      R (.ok (.ret (.ref (s.heap.push { cls := .type "tuple_iterator", data := .fields #[.ref t, .int 0 0] }).objs.size))) { s with heap := (s.heap.push { cls := .type "tuple_iterator", data := .fields #[.ref t, .int 0 0] }).push { cls := .type "enumerate", data := .fields #[.none, .bool false, .ref s.heap.objs.size, rawInt 0, .none, .none] } }) :=
  .of_wp fun prog w A R s h => by
    obtain ⟨hp, gn, dr, tk, os⟩ := s
    obtain ⟨ht, h⟩ := h
    have hsub := sub_enumerate
    have hT : Heap.IsTuple (Shared.heap ⟨hp, gn, dr, tk, os⟩) t its := ⟨_, ht, rfl, m, rfl⟩
    wp_walk using AutoSeq1.wpAny_loadPart' ht
    refine wpAny_stack_any fun st => wpAny_pure ?_
    split
    · rename_i c _ _ _ _ _
      cases (c == Value.type "enumerate")
      · wp_walk using AutoSeq1.wpAny_loadPart' ht, wpAny_pyIter_tuple hT
        exact ⟨_, rfl, h⟩
      · wp_walk using AutoSeq1.wpAny_loadPart' ht, wpAny_pyIter_tuple hT
        exact ⟨_, rfl, h⟩
    · wp_walk using AutoSeq1.wpAny_loadPart' ht, wpAny_pyIter_tuple hT
      exact ⟨_, rfl, h⟩
section
variable {prog : Program} {w : World} {A : Around} {E : Value → Shared → Prop} {s : Shared}
theorem call_ent {t : Addr} {its : Array Value} {Q : Value → Shared → Prop} (ht : s.heap.IsTuple t its)
    (q : ∀ g, IsEnum g (s.heap.objs.size + 1) s.heap.objs.size 0 .none → g.IsTupleIter s.heap.objs.size t 0 → (∀ b o, s.heap.get? b = some o → g.get? b = some o) → Q (.ref (s.heap.objs.size + 1)) { s with heap := g }) :
    wpAny (model prog w) A (call (.type "enumerate") [.ref t]) Q E s := by
  obtain ⟨⟨tc, td, tdat, tsl⟩, h0, h1, m, h2⟩ := ht
  simp only at h1 h2
  subst h1 h2
  refine callType_new F.called_enumerate (by decide) (F.typeCall_enumerate_1 _) (F.newCall_enumerate_1 _) (fun ob => F.args_object_init_2 ob _) F.entry_enumerate_new (meets_ent t its m td tsl) ⟨h0, ?_⟩
  have hz : (s.heap.push { cls := .type "tuple_iterator", data := .fields #[.ref t, .int 0 0] }).objs.size = s.heap.objs.size + 1 := Heap.size_push ..
  have er : IsEnum ((s.heap.push { cls := .type "tuple_iterator", data := .fields #[.ref t, .int 0 0] }).push { cls := .type "enumerate", data := .fields #[.none, .bool false, .ref s.heap.objs.size, rawInt 0, .none, .none] }) (s.heap.objs.size + 1) s.heap.objs.size 0 .none := by
    rw [← hz]
    exact Heap.get?_push_size _ rfl
  show _ ∧ _
  rw [hz]
  exact ⟨⟨_, er, rfl⟩, q _ er ⟨_, Heap.get?_push_of_some _ (Heap.get?_push_size _ rfl), rfl, rfl⟩ fun b o x => Heap.get?_push_of_some _ (Heap.get?_push_of_some _ x)⟩
theorem tup_end {e it t : Addr} {i : Nat} {its : Array Value} {old : Value} {k : Int} {Q : Option Value → Shared → Prop} (hh : A.handled = none) (er : IsEnum s.heap e it k old) (ti : s.heap.IsTupleIter it t i) (ht : s.heap.IsTuple t its) (hx : its[i]? = none)
    (q : ∀ g, Heap.ExtBut it s.heap g → Q none { s with heap := g }) : wpAny (model prog w) A (pyNext (.ref e)) Q E s := by
  have te : s.TypeIs (.ref e) "enumerate" := ⟨_, er, rfl⟩
  unfold pyNext
  refine wpAny_bind (wpAny_attempt (wpAny_callSpecial?_slot (name := Str.ofString "__next__") te F.slot_enumerate_next (wpAny_call_entry F.slot_enumerate_next te F.entry_enumerate_next ?_ (F.args_enumerate_next_1 _))))
  show wpAny _ _ (field (.ref e) 2 >>= _) _ _ _
  refine wpAny_bind (wpAny_field er rfl (x := .ref it) rfl ?_)
  refine wpAny_bind (wpAny_nextOf_tuple_end (show A.in1.handled = none from hh) ti ht hx fun g x k1 ⟨o, k2, k3⟩ => ?_)
  refine wpAny_bind (wpAny_isInstance (T := "StopIteration") (b := true) ⟨o, k2, k3⟩ isSubtype_stop ?_)
  exact wpAny_pure (q _ k1)
end
def Iten (K : PySem.W.Frag) (a : Addr) : It :=
  ⟨fun i H => ∃ (xs : List V) (x : V), SqT K H a xs ∧ xs[i]? = some x, fun i H v H' => ∃ T x, v = .ref T ∧ H T = none ∧ H' = upd H T (.tup [.int (i : Nat), x]) ∧ ∀ xs, SqT K H a xs → xs[i]? = some x, fun i H => ∃ xs : List V, SqT K H a xs ∧ xs.length ≤ i⟩
theorem turn_ent {P : Program} {w : World} {K : PySem.W.Frag} {elts : List Expr} {kk : Nat} {tpos : Pos} (a e it : Addr) (nei : e ≠ it) (nea : e ≠ a) (nai : a ≠ it) :
    Turn P w K (.Tuple elts kk tpos) (Iten K a) [e, it] e (fun i h => (∃ old, IsEnum h e it ((i : Nat) : Int) old) ∧ h.IsTupleIter it a i) where
  mem := by simp
  obj := fun i h st b hb => by
    obtain ⟨⟨old, er⟩, o, ho, _, hd⟩ := st
    have hb' : b = e ∨ b = it := by simpa using hb
    rcases hb' with z | z
    · rw [z]
      exact ⟨_, er, fun v q => nomatch q⟩
    · rw [z]
      exact ⟨o, ho, fun v q => by rw [hd] at q; cases q⟩
  keep := fun i h g st k => by
    obtain ⟨⟨old, er⟩, ti⟩ := st
    exact ⟨⟨old, k e (by simp) _ er⟩, ti.at fun o q => k it (by simp) o q⟩
  item := by
    intro X hP hw hK hc i pins s σ H E I hf st hg
    subst hP hw hK
    obtain ⟨⟨old, er⟩, ti⟩ := st
    obtain ⟨xs, x, hq, hx⟩ := hg
    obtain ⟨its, rv, p, _⟩ := I.tuple hq
    obtain ⟨u, hu, ru⟩ := rv.get hx
    have el : e < s.heap.objs.size := Heap.lt_size er
    have il : it < s.heap.objs.size := by
      obtain ⟨_, q, _⟩ := id ti
      exact Heap.lt_size q
    have hlt : i < its.toArray.size := by
      have q := (List.getElem?_eq_some_iff.mp hu).1
      simpa using q
    have hd : X.A.in1.handled = none := I.ok.hd hc
    refine wpAny_pyNext_enum_itemD (Draws.tuple hd it a nai its.toArray) er ⟨ti, p⟩ hlt nei (by simp [nei, nea]) fun y g tk hy eo st2 hT hsz hk => ?_
    have ey : y = u := by
      rw [show its.toArray[i]? = some u by simpa using hu] at hy
      exact (Option.some.inj hy).symm
    subst ey
    refine ⟨_, rfl, wpAny_letOwnedTupleGo_enum (s := { s with heap := g, toks := tk + 1 }) eo fun g2 er2 sb => ?_⟩
    have hT2 : g2.get? s.heap.objs.size = some { cls := .type "tuple", data := .seq #[.int i tk, y] } := (sb.2 _ (Nat.ne_of_gt el)).trans hT
    have new : ObjOk X.prog X.w (upd H s.heap.objs.size (.tup [.int (i : Nat), x])) g2 s.heap.objs.size (.tup [.int (i : Nat), x]) := ⟨by show 2 ≤ sizeLine; decide, [.int i tk, y], .cons ⟨_, rfl⟩ (.cons ru .nil), ⟨_, hT2, rfl, _, rfl⟩⟩
    have I1 : Inv X pins σ (upd H s.heap.objs.size (.tup [.int (i : Nat), x])) { s with heap := g2, toks := tk + 1 } := I.turnedNew (ch := [e, it]) (fun b ob hb q => (sb.2 b (fun z => hb (by simp [z]))).trans (hk b ob (fun z => hb (by simp [z])) (fun z => hb (by simp [z])) q)) hf (Nat.le_refl _) new
    refine ⟨.ref s.heap.objs.size, _, I1, rfl, ⟨_, x, rfl, I.hok.fresh (Nat.le_refl _), rfl, fun ys hy => by rw [I.tuple_inj hy hq]; exact hx⟩, ⟨⟨y, ?_⟩, st2.1.at fun o q => (sb.2 it nei.symm).trans q⟩, fun b hb => ?_⟩
    · rw [show ((i + 1 : Nat) : Int) = (i : Int) + 1 by omega]
      exact er2
    · have lb : b < s.heap.objs.size := by
        have hb' : b = e ∨ b = it := by simpa using hb
        rcases hb' with z | z
        · rw [z]; exact el
        · rw [z]; exact il
      rw [upd_ne (Nat.ne_of_lt lb)]
      exact (hf b hb).1
  done := by
    intro X hP hw hK hc i pins s σ H E I hf st hg
    subst hP hw hK
    obtain ⟨⟨old, er⟩, ti⟩ := st
    obtain ⟨xs, hq, hx⟩ := hg
    obtain ⟨its, rv, p, _⟩ := I.tuple hq
    have hl := rv.length
    exact tup_end (I.ok.hd hc) er ti p (by simp; omega) fun g kg => ⟨rfl, I.turnedL (t' := s.toks) (ch := [e, it]) (fun b o hb q => kg b o (fun z => hb (by simp [z])) q) hf⟩
  self := fun A i s Q E st h => let ⟨⟨_, er⟩, _⟩ := st; wpAny_pyIter_enum er h
def iEnt (K : PySem.W.Frag) (ta : TA) : TI := fun σ H R => ta σ H fun vs H1 => ∃ a xs, vs = [.ref a] ∧ SqT K H1 a xs ∧ R (Iten K a) H1
theorem pi_ent {X : Cx} {e : Expr} {ta : TA} {p pos tpos : Pos} {elts : List Expr} {kk : Nat} (hg : Gl X "enumerate") (hm : X.mg "enumerate" = none) (ha : PA X [e] ta) (hs : starEach [e] X.env = [(false, eval e X.env)] := by rfl) :
    PI X (.Tuple elts kk tpos) (.Call (.Name "enumerate" p) [e] [] pos) (iEnt X.K ta) := by
  refine ⟨fun pins s σ H R I h => ?_⟩
  refine Call_ (ld_blt I hg hm boot_enumerate (PyProof.Rows.callWith_type1 (thn (ha.run pos pins s σ H _ I h) fun us s1 ⟨vs, H1, I1, r1, q1⟩ => ?_) hs rfl))
  obtain ⟨a, xs, ev, hq, q⟩ := q1
  subst ev
  cases r1 with
  | cons r rr =>
    cases rr
    cases r
    obtain ⟨its, rv, pt, _⟩ := I1.tuple hq
    obtain ⟨ot, hot, _⟩ := id pt
    have al : a < s1.heap.objs.size := Heap.lt_size hot
    refine call_ent (show s1.heap.IsTuple a its.toArray from pt) fun g er ti kg => wpAny_pyIter_enum er ?_
    have I2 : Inv X pins σ H1 { s1 with heap := g } := I1.kept (t' := s1.toks) kg
    refine ⟨s1.heap.objs.size + 1, [s1.heap.objs.size + 1, s1.heap.objs.size], _, _, H1, rfl, I2, turn_ent a (s1.heap.objs.size + 1) s1.heap.objs.size (Nat.succ_ne_self _) (Nat.ne_of_gt (Nat.lt_succ_of_lt al)) (Nat.ne_of_lt al), ⟨⟨.none, er⟩, ti⟩, fun b hb => ?_, q⟩
    have hb' : b = s1.heap.objs.size + 1 ∨ b = s1.heap.objs.size := by simpa using hb
    have le : s1.heap.objs.size ≤ b := by
      rcases hb' with z | z
      · rw [z]; exact Nat.le_add_right _ _
      · rw [z]; exact Nat.le_refl _
    exact I1.fpOk le (I1.hok.fresh le)
theorem walk_ent {K : PySem.W.Frag} {a : Addr} {xs : List V} : Walk (Iten K a) xs.length (fun H => SqT K H a xs) (YPair (fun i => some (.int (i : Nat))) (fun i => xs[i]?)) := by
  refine ⟨fun i _ hi q => ⟨xs, xs[i], q, by simp [hi]⟩, fun _ q => ⟨xs, q, Nat.le_refl _⟩, fun i H v H' _ q y => ?_⟩
  obtain ⟨T, x, y1, y2, y3, y4⟩ := y
  exact ⟨T, .int (i : Nat), x, y1, y2, y3, rfl, y4 xs q⟩
end Es

/-! Data of ints, texts and tuples of such; what keeps them. -/
namespace Dv
open PySem L2 Wm
mutual
inductive Dt (K : PySem.W.Frag) (H : Hp) : V → PyData → Prop
  | int (i : Int) : Dt K H (.int i) (.int i)
  | str (x : Str) : Dt K H (.str x) (.str x)
  | tup {a : Addr} {xs : List V} {ds : List PyData} : SqT K H a xs → Dts K H xs ds → Dt K H (.ref a) (.tuple ds)
inductive Dts (K : PySem.W.Frag) (H : Hp) : List V → List PyData → Prop
  | nil : Dts K H [] []
  | cons {v : V} {vs : List V} {d : PyData} {ds : List PyData} : Dt K H v d → Dts K H vs ds → Dts K H (v :: vs) (d :: ds)
end
/-- tuples stand -/
def Kt (K : PySem.W.Frag) (H H' : Hp) : Prop := ∀ a xs, SqT K H a xs → SqT K H' a xs
section
variable {K : PySem.W.Frag} {H H' H2 : Hp}
theorem Kt.refl : Kt K H H := fun _ _ h => h
theorem Kt.trans (a : Kt K H H') (b : Kt K H' H2) : Kt K H H2 := fun p xs h => b p xs (a p xs h)
theorem Kt.same (s : Same H H') : Kt K H H' := fun _ _ h => sameT s h
/-- a store at what is no tuple -/
theorem Kt.set {p : Addr} {o u : HO} (h : H p = some u) (n1 : ∀ xs, u ≠ .tup xs) (n2 : ∀ ob xs, u ≠ .frz ob (.tup xs)) : Kt K H (upd H p o) := fun a xs q => by
  rcases q with (q | ⟨ob, q⟩) | q
  · exact .inl (.inl (by rw [upd_ne (fun e => by subst e; rw [h] at q; exact n1 _ (Option.some.inj q))]; exact q))
  · exact .inl (.inr ⟨ob, by rw [upd_ne (fun e => by subst e; rw [h] at q; exact n2 _ _ (Option.some.inj q))]; exact q⟩)
  · exact .inr q
theorem Kt.lst {p : Addr} {o : HO} {xs : List V} (h : H p = some (.lst xs)) : Kt K H (upd H p o) := Kt.set h (fun _ q => by cases q) (fun _ _ q => by cases q)
theorem Kt.new {p : Addr} {o : HO} (h : H p = none) : Kt K H (upd H p o) := Kt.same (same_new h)
mutual
theorem Dt.keep (k : Kt K H H') : ∀ (d : PyData) (v : V), Dt K H v d → Dt K H' v d
  | .int _, _, h => by cases h; exact .int _
  | .str _, _, h => by cases h; exact .str _
  | .tuple ds, _, h => by
    cases h with
    | tup a b => exact .tup (k _ _ a) (Dts.keep k ds _ b)
  | .none, _, h => by cases h
  | .bool _, _, h => by cases h
  | .list _, _, h => by cases h
  | .dict _, _, h => by cases h
theorem Dts.keep (k : Kt K H H') : ∀ (ds : List PyData) (vs : List V), Dts K H vs ds → Dts K H' vs ds
  | [], _, h => by cases h; exact .nil
  | d :: ds, _, h => by
    cases h with
    | cons a b => exact .cons (Dt.keep k d _ a) (Dts.keep k ds _ b)
end
mutual
theorem Dt.dp : ∀ (d : PyData) (v : V), Dt K H v d → Dp K H v d
  | .int _, _, h => by cases h; exact .int _
  | .str _, _, h => by cases h; exact .str _
  | .tuple ds, _, h => by
    cases h with
    | tup a b => exact .tup a (Dts.dp ds _ b)
  | .none, _, h => by cases h
  | .bool _, _, h => by cases h
  | .list _, _, h => by cases h
  | .dict _, _, h => by cases h
theorem Dts.dp : ∀ (ds : List PyData) (vs : List V), Dts K H vs ds → DpAll K H vs ds
  | [], _, h => by cases h; exact .nil
  | d :: ds, _, h => by
    cases h with
    | cons a b => exact .cons (Dt.dp d _ a) (Dts.dp ds _ b)
end
theorem Dt.k {d : PyData} {v : V} (h : Dt K H v d) (k : Kt K H H') : Dt K H' v d := Dt.keep k _ _ h
theorem Dts.k {ds : List PyData} {vs : List V} (h : Dts K H vs ds) (k : Kt K H H') : Dts K H' vs ds := Dts.keep k _ _ h
theorem Dt.toDp {d : PyData} {v : V} (h : Dt K H v d) : Dp K H v d := Dt.dp _ _ h
theorem Dts.toDp {ds : List PyData} {vs : List V} (h : Dts K H vs ds) : DpAll K H vs ds := Dts.dp _ _ h
theorem Dt.inv {ds : List PyData} {v : V} (h : Dt K H v (.tuple ds)) : ∃ p xs, v = .ref p ∧ SqT K H p xs ∧ Dts K H xs ds := by
  cases h with
  | tup a b => exact ⟨_, _, rfl, a, b⟩
theorem Dt.str_inv {x : Str} {v : V} (h : Dt K H v (.str x)) : v = .str x := by cases h; rfl
theorem Dt.int_inv {i : Int} {v : V} (h : Dt K H v (.int i)) : v = .int i := by cases h; rfl
theorem Dts.len {ds : List PyData} {vs : List V} (h : Dts K H vs ds) : vs.length = ds.length := by
  induction ds generalizing vs with
  | nil => cases h; rfl
  | cons d ds ih =>
    cases h with
    | cons a b => rw [List.length_cons, List.length_cons, ih b]
theorem Dts.at {i : Nat} {ds : List PyData} {vs : List V} {v : V} (h : Dts K H vs ds) (g : vs[i]? = some v) : ∃ d, ds[i]? = some d ∧ Dt K H v d := by
  induction ds generalizing vs i with
  | nil =>
    cases h
    simp at g
  | cons d ds ih =>
    cases h with
    | cons a b =>
      cases i with
      | zero =>
        simp at g
        subst g
        exact ⟨d, rfl, a⟩
      | succ i => exact ih b (by simpa using g)
theorem Dts.get {i : Nat} {ds : List PyData} {vs : List V} {d : PyData} (h : Dts K H vs ds) (g : ds[i]? = some d) : ∃ v, vs[i]? = some v ∧ Dt K H v d := by
  have li := (List.getElem?_eq_some_iff.mp g).1
  obtain ⟨v, e⟩ : ∃ v, vs[i]? = some v := ⟨_, List.getElem?_eq_getElem (by rw [h.len]; exact li)⟩
  obtain ⟨d2, e2, a⟩ := h.at e
  rw [g] at e2
  cases e2
  exact ⟨v, e, a⟩
theorem Dts.app {ds es : List PyData} {vs ws : List V} (h : Dts K H vs ds) (g : Dts K H ws es) : Dts K H (vs ++ ws) (ds ++ es) := by
  induction ds generalizing vs with
  | nil => cases h; exact g
  | cons d ds ih =>
    cases h with
    | cons a b => exact .cons a (ih b)
theorem Dts.snoc {ds : List PyData} {d : PyData} {vs : List V} {v : V} (h : Dts K H vs ds) (g : Dt K H v d) : Dts K H (vs ++ [v]) (ds ++ [d]) := h.app (.cons g .nil)
theorem Dts.take {ds : List PyData} {vs : List V} (h : Dts K H vs ds) : ∀ n, Dts K H (vs.take n) (ds.take n) := by
  induction ds generalizing vs with
  | nil => cases h; intro n; simp; exact .nil
  | cons d ds ih =>
    cases h with
    | cons a b =>
      intro n
      cases n with
      | zero => exact .nil
      | succ n => exact .cons a (ih b n)
theorem Dts.drop {ds : List PyData} {vs : List V} (h : Dts K H vs ds) : ∀ n, Dts K H (vs.drop n) (ds.drop n) := by
  induction ds generalizing vs with
  | nil => cases h; intro n; simp; exact .nil
  | cons d ds ih =>
    cases h with
    | cons a b =>
      intro n
      cases n with
      | zero => exact .cons a b
      | succ n => exact ih b n
theorem dts_str : ∀ ss : List Str, Dts K H (ss.map V.str) (ss.map PyData.str)
  | [] => .nil
  | s :: ss => .cons (.str s) (dts_str ss)
theorem dts_str_inv {ss : List Str} {vs : List V} (h : Dts K H vs (ss.map PyData.str)) : vs = ss.map V.str := by
  induction ss generalizing vs with
  | nil => cases h; rfl
  | cons s ss ih =>
    cases h with
    | cons a b => rw [a.str_inv, ih b]; rfl
theorem dts_int : ∀ ns : List Int, Dts K H (ns.map V.int) (ns.map PyData.int)
  | [] => .nil
  | s :: ss => .cons (.int s) (dts_int ss)
theorem dts_int_inv {ns : List Int} {vs : List V} (h : Dts K H vs (ns.map PyData.int)) : vs = ns.map V.int := by
  induction ns generalizing vs with
  | nil => cases h; rfl
  | cons s ss ih =>
    cases h with
    | cons a b => rw [a.int_inv, ih b]; rfl
theorem dt_tup {p : Addr} {xs : List V} {ds : List PyData} (h : H p = some (.tup xs)) (g : Dts K H xs ds) : Dt K H (.ref p) (.tuple ds) := .tup (SqT.of h) g
end
/-- data that == may be asked of: texts in the line, not deep -/
def Fine (n : Nat) (d : PyData) : Prop := d.canLay0 = true ∧ d.depth ≤ n
theorem fine_int {n : Nat} (i : Int) : Fine n (.int i) := ⟨by simp [PyData.canLay0], by simp [PyData.depth]⟩
theorem fine_tup {n : Nat} {ds : List PyData} (h : ∀ d ∈ ds, Fine n d) : Fine (n + 1) (.tuple ds) := by
  have q : PyData.canLayAll0 ds = true ∧ PyData.depthAll ds ≤ n := by
    induction ds with
    | nil => simp [PyData.canLayAll0, PyData.depthAll]
    | cons d ds ih =>
      have h1 := h d (by simp)
      have h2 := ih fun y m => h y (List.mem_cons_of_mem _ m)
      simp only [PyData.canLayAll0, PyData.depthAll, h1.1, h2.1, Bool.and_self, true_and]
      have := h1.2
      have := h2.2
      omega
  exact ⟨by simp only [PyData.canLay0]; exact q.1, by simp only [PyData.depth]; have := q.2; omega⟩
theorem fine_str {n : Nat} {x : Str} (h : x.cps.all (· < 0x110000) = true) : Fine n (.str x) := ⟨by simp only [PyData.canLay0]; exact h, by simp [PyData.depth]⟩
theorem fine_num {n : Nat} {ds : List Nat} (h : ∀ d ∈ ds, d ≤ 9) : Fine n (.str (numS ds)) := by
  refine fine_str ?_
  rw [← Array.all_toList, List.all_eq_true]
  intro c m
  obtain ⟨d, md, rfl⟩ := List.mem_map.mp (show c ∈ codes ds from m)
  have := h d md
  exact decide_eq_true (by omega)
theorem Fine.shaped {n : Nat} {d : PyData} (h : Fine n d) (l : n ≤ 64) : SeqAt.shaped d = true := by
  have e : decide (d.depth ≤ 64) = true := decide_eq_true (Nat.le_trans h.2 l)
  show (d.canLay0 && _) = true
  rw [e, Bool.and_true]
  exact h.1
theorem Fine.refl {n : Nat} {d : PyData} (h : Fine n d) : PyData.eqv d d = true := SeqAt.eqv_refl d h.1
theorem Fine.mono {n m : Nat} {d : PyData} (h : Fine n d) (l : n ≤ m) : Fine m d := ⟨h.1, Nat.le_trans h.2 l⟩
end Dv

/-! A list or a tuple, told by a letter; loops over it that may write elsewhere. -/
namespace Kd
open PySem PySem.Spec PyProof.Rows L2
/-- the list or (t) the tuple at a -/
def Is (K : PySem.W.Frag) (t : Bool) (H : Hp) (a : Addr) (xs : List V) : Prop := if t = true then SqT K H a xs else SqL K H a xs
theorem Is.keep {K : PySem.W.Frag} {t : Bool} {H H' : Hp} {a : Addr} {xs : List V} (s : Same H H') (h : Is K t H a xs) : Is K t H' a xs := by
  cases t
  · exact Hf.keepL s h
  · exact Hf.keepT s h
theorem Is.sq {K : PySem.W.Frag} {t : Bool} {H : Hp} {a : Addr} {xs : List V} (h : Is K t H a xs) : SqL K H a xs ∨ SqT K H a xs := by
  cases t
  · exact .inl h
  · exact .inr h
theorem Is.tup {K : PySem.W.Frag} {H : Hp} {a : Addr} {xs : List V} (h : SqT K H a xs) : Is K true H a xs := h
theorem Is.lst {K : PySem.W.Frag} {H : Hp} {a : Addr} {xs : List V} (h : SqL K H a xs) : Is K false H a xs := h
section
variable {X : Cx}
def iSeq (K : PySem.W.Frag) (tl : TE) : TI := fun σ H R => tl σ H fun x H1 => ∃ a xs t, x = .ref a ∧ Is K t H1 a xs ∧
  ∀ J G, Walk J xs.length G (YAt xs) → (∀ H', Is K t H' a xs → G H') → R J H1
theorem pi_seq {tg l : Expr} {tl : TE} (hl : PE X l tl) : PI X tg l (iSeq X.K tl) := by
  refine ⟨fun pins s σ H R I h => ?_⟩
  refine thn (hl.run pins s σ H _ I h) fun v s1 ⟨x, H1, I1, r1, q1⟩ => ?_
  obtain ⟨a, xs, t, e, hq, q⟩ := q1
  subst e
  cases r1
  cases t with
  | false =>
    have hq : SqL X.K H1 a xs := hq
    have q := q _ _ walk_list fun H' s => s
    obtain ⟨its, rv, p, hz⟩ := I1.list hq
    refine wpAny_pyIter_list p.isList ?_
    refine ⟨s1.heap.objs.size, [s1.heap.objs.size], _, _, H1, rfl, I1.kept (t' := s1.toks) fun b o e => Heap.get?_push_of_some _ e, turn_list a _, ⟨_, Heap.get?_push_size _ rfl, rfl, rfl⟩, fun b hb => ?_, q⟩
    have e : b = s1.heap.objs.size := by simpa using hb
    subst e
    exact I1.fpOk (Nat.le_refl _) (I1.hok.fresh (Nat.le_refl _))
  | true =>
    have hq : SqT X.K H1 a xs := hq
    have q := q _ _ walk_tup fun H' s => s
    obtain ⟨its, rv, p, hz⟩ := I1.tuple hq
    refine wpAny_pyIter_tuple (show s1.heap.IsTuple a its.toArray from p) ?_
    refine ⟨s1.heap.objs.size, [s1.heap.objs.size], _, _, H1, rfl, I1.kept (t' := s1.toks) fun b o e => Heap.get?_push_of_some _ e, turn_tuple a _, ⟨_, Heap.get?_push_size _ rfl, rfl, rfl⟩, fun b hb => ?_, q⟩
    have e : b = s1.heap.objs.size := by simpa using hb
    subst e
    exact I1.fpOk (Nat.le_refl _) (I1.hok.fresh (Nat.le_refl _))
end
end Kd

/-! Comprehensions whose items are told one by one. -/
namespace Lm
open PySem L2 Wm Dv
theorem list_is {α : Type} {ys zs : List α} (l : ys.length = zs.length) (h : ∀ (i : Nat) y, ys[i]? = some y → zs[i]? = some y) : ys = zs := by
  refine List.ext_getElem? fun i => ?_
  by_cases q : i < ys.length
  · rw [h i _ (List.getElem?_eq_getElem q), List.getElem?_eq_getElem q]
  · rw [List.getElem?_eq_none (by omega), List.getElem?_eq_none (by omega)]
theorem lc_map {K : PySem.W.Frag} {J : It} {n : Nat} {G : Hp → Prop} {xs : List V} (w : Walk J n G (YAt xs)) {g : TG} {te : TE} {vs : List Nat} {σ : L2.St} {H1 : Hp} {D : Addr} {Qd : Hp → Prop} (R : Nat → V → Hp → Prop)
    (mono : ∀ i y H H', R i y H → Kt K H H' → R i y H') (hD : H1 D = none) (hn : n ≤ 1000) (hG : ∀ H', Same H1 H' → G H')
    (hs : ∀ i x H', i < n → xs[i]? = some x → Same H1 H' → ∀ (Q : V → Hp → Prop) (Z : Hp → Prop), (∀ y H4, Same H' H4 → R i y H4 → Q y H4) → g x (wipe σ vs) H' fun σ2 H2 => wipe σ2 vs = wipe σ vs ∧ tYes σ2 H2 fun b H3 => if b = true then te σ2 H3 Q else Z H3)
    (hd : ∀ H ys, Same H1 H → H D = some (.lst ys) → ys.length = n → (∀ (i : Nat) y, ys[i]? = some y → R i y H) → Qd H) :
    ∃ W : Nat → Nat → Hp → Prop, (∃ m, W 0 m (upd H1 D (.lst []))) ∧ ∀ i m H, W i m H →
      (J.stop i H ∧ Qd H) ∨ (J.go i H ∧ ∃ Nx : Hp → Prop, (∀ H', Nx H' → ∃ m', m' < m ∧ W (i + 1) m' H') ∧ ∀ x H', J.yld i H x H' → g x (wipe σ vs) H' fun σ2 H2 => wipe σ2 vs = wipe σ vs ∧ tYes σ2 H2 fun b H3 =>
        if b = true then te σ2 H3 fun y H4 => ∃ acc, H4 D = some (.lst acc) ∧ acc.length < sizeLine ∧ Nx (upd H4 D (.lst (acc ++ [y]))) else Nx H3) := by
  refine lc_it (tt := tYes) w (fun i H => Same H1 H ∧ ∃ ys : List V, ys.length = i ∧ H D = some (.lst ys) ∧ ∀ j y, ys[j]? = some y → R j y H) ⟨same_new hD, [], rfl, upd_same, fun (j : Nat) (y : V) e => by simp at e⟩ (fun i H _ h => hG H h.1) (fun i x H H' hi hP hY => ?_) (fun H hP => ?_)
  · obtain ⟨sm, ys, el, hy, hR⟩ := hP
    obtain ⟨rfl, hx⟩ := hY
    refine hs i x H' hi hx sm _ _ (fun y H4 s4 r4 => ?_)
    · refine ⟨ys, s4 _ _ hy, by rw [el]; exact small1000 (by omega), same_mut (sm.trans s4) hD, ys ++ [y], by rw [List.length_append, el]; rfl, upd_same, fun j z hz => ?_⟩
      have k5 : Kt K H4 (upd H4 D (.lst (ys ++ [y]))) := Kt.lst (s4 _ _ hy)
      by_cases lj : j < ys.length
      · rw [List.getElem?_append_left lj] at hz
        exact mono _ _ _ _ (hR j z hz) ((Kt.same s4).trans k5)
      · rw [List.getElem?_append_right (by omega)] at hz
        have e0 : j - ys.length = 0 := by
          by_cases q : j - ys.length = 0
          · exact q
          · rw [List.getElem?_eq_none (by rw [List.length_singleton]; omega)] at hz
            cases hz
        rw [e0] at hz
        have ez : y = z := by simpa using hz
        have ej : j = i := by omega
        subst ez ej
        exact mono _ _ _ _ r4 k5
  · obtain ⟨sm, ys, el, hy, hR⟩ := hP
    exact hd H ys sm hy el hR
end Lm
namespace Kx
open PySem L2
def rLen (K : PySem.W.Frag) : List V → Hp → VK → Prop := fun xs H Q => ∃ p ys, xs = [.ref p] ∧ (SqL K H p ys ∨ SqT K H p ys) ∧ Q (.int (ys.length : Nat)) H
def rTup (K : PySem.W.Frag) : List V → Hp → VK → Prop := fun xs H Q => ∃ a ys, xs = [.ref a] ∧ SqT K H a ys ∧ Q (.ref a) H
def rTupOf (K : PySem.W.Frag) : List V → Hp → VK → Prop := fun xs H Q => ∃ p ys, xs = [.ref p] ∧ ((SqL K H p ys ∧ ∀ l, H l = none → Q (.ref l) (upd H l (.tup ys))) ∨ (SqT K H p ys ∧ Q (.ref p) H))
end Kx

/-! Comprehensions whose items draw from the bag, told one by one. -/
namespace Lm
open PySem L2 Wm Dv
theorem kt_but {K : PySem.W.Frag} {H H' : Hp} {b : Addr} {n : Nat} (bag : Bag H b n) (e : But b H H') : Kt K H H' := fun a xs q => by
  obtain ⟨c, x, k, m, z, ns, hb, _⟩ := bag
  have ne : ∀ {u : HO}, H a = some u → (∀ y, u ≠ .lst y) → H' a = some u := fun {u} h n => e.keep _ _ (fun z => by subst z; rw [hb] at h; exact n _ (Option.some.inj h).symm) h
  rcases q with (q | ⟨ob, q⟩) | q
  · exact .inl (.inl (ne q fun y z => by cases z))
  · exact .inl (.inr ⟨ob, ne q fun y z => by cases z⟩)
  · exact .inr q
theorem bag_off {H : Hp} {b p : Addr} {n : Nat} (bag : Bag H b n) (h : H p = none) : p ≠ b := fun e => by
  obtain ⟨_, _, _, _, _, _, hb, _⟩ := bag
  rw [e, hb] at h
  cases h
theorem lc_bag {K : PySem.W.Frag} {J : It} {n : Nat} {G : Hp → Prop} {xs : List V} (w : Walk J n G (YAt xs)) {g : TG} {te : TE} {vs : List Nat} {σ : L2.St} {H1 : Hp} {D : Addr} {Qd : Hp → Prop} {b : Addr} {m c : Nat} (R : Nat → V → Hp → Prop)
    (mono : ∀ i y H H', R i y H → Kt K H H' → R i y H') (hD : H1 D = none) (bag : Bag H1 b m) (hn : n ≤ 1000) (hG : ∀ H', But b H1 H' → G H')
    (hs : ∀ i x H', i < n → xs[i]? = some x → But b H1 H' → Bag H' b (m + c * i) → ∀ (Q : V → Hp → Prop) (Z : Hp → Prop), (∀ y H4, But b H' H4 → Bag H4 b (m + c * (i + 1)) → R i y H4 → Q y H4) → g x (wipe σ vs) H' fun σ2 H2 => wipe σ2 vs = wipe σ vs ∧ tYes σ2 H2 fun b H3 => if b = true then te σ2 H3 Q else Z H3)
    (hd : ∀ H ys, But b H1 H → Bag H b (m + c * n) → H D = some (.lst ys) → ys.length = n → (∀ (i : Nat) y, ys[i]? = some y → R i y H) → Qd H) :
    ∃ W : Nat → Nat → Hp → Prop, (∃ m, W 0 m (upd H1 D (.lst []))) ∧ ∀ i m H, W i m H →
      (J.stop i H ∧ Qd H) ∨ (J.go i H ∧ ∃ Nx : Hp → Prop, (∀ H', Nx H' → ∃ m', m' < m ∧ W (i + 1) m' H') ∧ ∀ x H', J.yld i H x H' → g x (wipe σ vs) H' fun σ2 H2 => wipe σ2 vs = wipe σ vs ∧ tYes σ2 H2 fun b H3 =>
        if b = true then te σ2 H3 fun y H4 => ∃ acc, H4 D = some (.lst acc) ∧ acc.length < sizeLine ∧ Nx (upd H4 D (.lst (acc ++ [y]))) else Nx H3) := by
  have db := bag_off bag hD
  refine lc_it (tt := tYes) w (fun i H => But b H1 H ∧ Bag H b (m + c * i) ∧ ∃ ys : List V, ys.length = i ∧ H D = some (.lst ys) ∧ ∀ j y, ys[j]? = some y → R j y H)
    ⟨But.of (same_new hD), (bag.keep (same_new hD)).mono (by omega), [], rfl, upd_same, fun (j : Nat) (y : V) e => by simp at e⟩ (fun i H _ h => hG H h.1) (fun i x H H' hi hP hY => ?_) (fun H hP => ?_)
  · obtain ⟨bt, bg, ys, el, hy, hR⟩ := hP
    obtain ⟨rfl, hx⟩ := hY
    refine hs i x H' hi hx bt bg _ _ (fun y H4 b4 g4 r4 => ?_)
    have hy4 := b4.keep _ _ db hy
    have k5 : Kt K H4 (upd H4 D (.lst (ys ++ [y]))) := Kt.lst hy4
    refine ⟨ys, hy4, by rw [el]; exact small1000 (by omega), (bt.trans b4).put hD, Bag.put bag hD (bt.trans b4) g4, ys ++ [y], by rw [List.length_append, el]; rfl, upd_same, fun j z hz => ?_⟩
    by_cases lj : j < ys.length
    · rw [List.getElem?_append_left lj] at hz
      exact mono _ _ _ _ (hR j z hz) ((kt_but bg b4).trans k5)
    · rw [List.getElem?_append_right (by omega)] at hz
      have e0 : j - ys.length = 0 := by
        by_cases q : j - ys.length = 0
        · exact q
        · rw [List.getElem?_eq_none (by rw [List.length_singleton]; omega)] at hz
          cases hz
      rw [e0] at hz
      have ez : y = z := by simpa using hz
      have ej : j = i := by omega
      subst ez ej
      exact mono _ _ _ _ r4 k5
  · obtain ⟨bt, bg, ys, el, hy, hR⟩ := hP
    exact hd H ys bt bg hy el hR
end Lm

/-! A method with keywords alone; a def that may raise, where it does not. -/
namespace Mk1
open PySem PySem.Spec PyProof.Rows L2
theorem passF {X : Cx} : Passes (L2.CX X.prog X.w) X (fun _ _ _ => False) := by
  intro pins σ H s e s' I h
  obtain ⟨_, _, _, _, _, _, _, _, _, _, _, _, z⟩ := h
  exact z.elim
section
variable {X : Cx} {CX : CXT} {k : Nat} {f C : Addr} {fd : FuncData} {ps ks : List Str} {sp : Sp} {E : XK} {m : Str} {pos apos : Pos} {o : Expr} {kws : List Keyword} {ta : TE} {tk : TA} {g : List Value → List Value → List Value} {gV : List V → List V → List V} {pl : Sem Bool}
def tMethN (C : Addr) (m : Str) (n : Nat) (sp : Sp) (gV : List V → List V → List V) (E : XK) (ta : TE) (tk : TA) : TE := fun σ H Q => ta σ H fun x H1 => ∃ a dx fs, x = .ref a ∧ H1 a = some (.ins C dx fs) ∧ fs.lookup m = none ∧
  tk σ H1 fun zs H2 => zs.length = n ∧ sp (gV [x] zs) H2 Q E
theorem pe_methN (ho : PE X o ta) (c : Cls X.K C) (hm : Meth X.K C m f) (F : FnOk X.prog X.w X.K X.mg X.base CX k f fd ps sp) (hr : Room k X.A) (hb : KBn X.K fd ps 1 ks g gV) (hx : Passes CX X E) (hk : PK X kws tk)
    (h1 : (backToKw pos (keywordEach kws X.env)).all (·.1.isSome) = true := by rfl) (h2 : (backToKw pos (keywordEach kws X.env)).filterMap (·.1) = ks := by rfl)
    (h3 : ((backTo pos (starEach [] X.env)).any (·.1) || (backToKw pos (keywordEach kws X.env)).any (·.1.isNone)) = false := by rfl)
    (h4 : eval (.Call (.Attribute o m apos) [] kws pos) X.env = (do
      let v ← eval o X.env
      standAt apos.atName
      let (a, b) ← holding [v] (getMethod v m pl)
      callWith pos a b (backTo pos (starEach [] X.env)) (backToKw pos (keywordEach kws X.env))) := by rfl) :
    PE X (.Call (.Attribute o m apos) [] kws pos) (tMethN C m ks.length sp gV E ta tk) := by
  constructor
  intro pins s σ H Q I h
  refine PySem.W.methodCall_KW (pl := pl) (thn (ho.run pins s σ H _ I h) fun u s1 w => ?_) h4
  obtain ⟨x, H1, I1, rx, a, dx, fs, ex, ea, l, q⟩ := w
  subst ex
  cases (show u = Value.ref a from rx)
  refine getmeth_ok I1 ea c hm l ?_
  refine PySem.W.callWith_KW0 (first := [.ref a]) (h₀ := X.base) I.ok.mod.kin hm.kp h1 (thn (hk.run pos pins s1 σ H1 _ I1 q) fun ws s2 w2 => ?_) h3
  obtain ⟨zs, H2, I2, rz, l2, q2⟩ := w2
  refine ⟨I2.kIn, ?_⟩
  rw [h2]
  exact run_fnN (us := [.ref a]) (vs := [.ref a]) F hr hb hx I2 (.cons rfl .nil) rz rfl l2 q2
end
end Mk1

/-! Operators of own classes, by values: ==, <, .. by __eq__, __lt__, ..; |, &, - by __or__, ..; in by __contains__; len by __len__. -/
namespace Ow
open PySem PySem.Spec PyProof.Rows L2
section
variable {X : Cx} {CX : CXT} {C g : Addr} {n : Nat} {sp : Sp} {E : XK}
theorem ins_at {pins : List (Addr × Obj)} {σ : L2.St} {H : Hp} {s : Shared} {a C dx : Addr} {fs : List (Str × V)} (I : Inv X pins σ H s) (e : H a = some (.ins C dx fs)) : ∃ ox od, PySem.W.InstAt s.heap a ox C od := by
  obtain ⟨mA, O, _⟩ := ins_get I.hok e
  obtain ⟨od, J, _⟩ := O.look
  exact ⟨_, _, J⟩
/-- x op y by the own def of x's class at C; y's class not below C -/
def rCmp (K : PySem.W.Frag) (C : Addr) (sp : Sp) (E : XK) : R2 := fun x y H Q => ∃ a dx fs t, x = .ref a ∧ H a = some (.ins C dx fs) ∧ TyX K H y t ∧ PySem.W.notFirst K C t = true ∧ sp [x, y] H Q E
theorem op_cmp {op : CmpOp} (hop : ∀ a b, compareOp op a b = richCompare op a b) (hs : PySem.W.findIn X.K (.ref C) (cmpInfo op).2.1 = some (some (.ref g))) (hf : PySem.W.isFn X.K (.ref g) = true) (F : FnR X.prog X.w X.K X.mg X.base CX n g sp)
    (hr : Room n X.A) (hx : Passes CX X E) : OpR X (compareOp op) (rCmp X.K C sp E) := by
  intro pins s σ H x y v u Q I rx ry h
  obtain ⟨a, dx, fs, t, rfl, ha, ty, hn, q⟩ := h
  cases (show v = Value.ref a from rx)
  obtain ⟨ox, od, J⟩ := ins_at I ha
  obtain ⟨P, k, hp, _⟩ := kit_of I ry ty
  obtain ⟨m, hF⟩ := I.fr
  rw [hop]
  refine PySem.W.cmp_K (op := op) (tb := t) hr.units0 hF I.ok.mod.kin J (k.ty _ _ I.kIn hp) hn hs hf ?_
  refine wpAny_mono (wpAny_call (run_fnR (us := [.ref a, u]) (vs := [.ref a, y]) F hr hx I (.cons rfl (.cons ry .nil)) q)) (fun w s' z => ?_) fun _ _ x => x
  obtain ⟨z', H', I', rz, qz⟩ := z
  exact SlX.cmpback rz ⟨z', H', I', rz, qz⟩
/-- x op y, both of the class at C -/
def rBin (C : Addr) (sp : Sp) (E : XK) : R2 := fun x y H Q => ∃ a dx fs b dy gs, x = .ref a ∧ y = .ref b ∧ H a = some (.ins C dx fs) ∧ H b = some (.ins C dy gs) ∧ sp [x, y] H Q E
theorem op_bin {op : Operator} (hc : PySem.W.selfFirst X.K C = true) (hs : PySem.W.findIn X.K (.ref C) (PySem.dunder op.info.2) = some (some (.ref g))) (hf : PySem.W.isFn X.K (.ref g) = true) (F : FnR X.prog X.w X.K X.mg X.base CX n g sp)
    (hr : Room n X.A) (hx : Passes CX X E) : OpR X (binaryOp op) (rBin C sp E) := by
  intro pins s σ H x y v u Q I rx ry h
  obtain ⟨a, dx, fs, b, dy, gs, rfl, rfl, ha, hb, q⟩ := h
  cases (show v = Value.ref a from rx)
  cases (show u = Value.ref b from ry)
  obtain ⟨ox, od, J⟩ := ins_at I ha
  obtain ⟨oy, oe, J'⟩ := ins_at I hb
  obtain ⟨m, hF⟩ := I.fr
  refine PySem.W.binop_K (op := op) hF I.ok.mod.kin J J'.type hc hs hf ?_
  refine wpAny_mono (wpAny_call (run_fnR (us := [.ref a, .ref b]) (vs := [.ref a, .ref b]) F hr hx I (.cons rfl (.cons rfl .nil)) q)) (fun w s' z => ?_) fun _ _ x => x
  obtain ⟨z', H', I', rz, qz⟩ := z
  exact SlX.cmpback rz ⟨z', H', I', rz, qz⟩
/-- y in x, by __contains__ (its answer a bool) -/
def rIn (C : Addr) (sp : Sp) (E : XK) (neg : Bool) : R2 := fun y x H Q => ∃ a dx fs, x = .ref a ∧ H a = some (.ins C dx fs) ∧ sp [x, y] H (fun z H' => ∃ c, z = .bl c ∧ Q (.bl (if neg then !c else c)) H') E
theorem op_in (hs : PySem.W.findIn X.K (.ref C) "__contains__" = some (some (.ref g))) (hf : PySem.W.isFn X.K (.ref g) = true) (F : FnR X.prog X.w X.K X.mg X.base CX n g sp)
    (hr : Room n X.A) (hx : Passes CX X E) : OpR X (compareOp .In) (rIn C sp E false) := by
  intro pins s σ H y x u v Q I ry rx h
  obtain ⟨a, dx, fs, rfl, ha, q⟩ := h
  cases (show v = Value.ref a from rx)
  obtain ⟨ox, od, J⟩ := ins_at I ha
  obtain ⟨m, hF⟩ := I.fr
  refine PySem.W.in_K hF I.ok.mod.kin J hs hf ?_
  refine wpAny_mono (wpAny_call (run_fnR (us := [.ref a, u]) (vs := [.ref a, y]) F hr hx I (.cons rfl (.cons ry .nil)) q)) (fun w s' z => ?_) fun _ _ x => x
  obtain ⟨z', H', I', rz, c, rfl, qz⟩ := z
  cases (show w = Value.bool c from rz)
  exact wpAny_truthy_bool ⟨.bl c, H', I', rfl, qz⟩
theorem op_notIn (hs : PySem.W.findIn X.K (.ref C) "__contains__" = some (some (.ref g))) (hf : PySem.W.isFn X.K (.ref g) = true) (F : FnR X.prog X.w X.K X.mg X.base CX n g sp)
    (hr : Room n X.A) (hx : Passes CX X E) : OpR X (compareOp .NotIn) (rIn C sp E true) := by
  intro pins s σ H y x u v Q I ry rx h
  obtain ⟨a, dx, fs, rfl, ha, q⟩ := h
  cases (show v = Value.ref a from rx)
  obtain ⟨ox, od, J⟩ := ins_at I ha
  obtain ⟨m, hF⟩ := I.fr
  refine PySem.W.notIn_K hF I.ok.mod.kin J hs hf ?_
  refine wpAny_mono (wpAny_call (run_fnR (us := [.ref a, u]) (vs := [.ref a, y]) F hr hx I (.cons rfl (.cons ry .nil)) q)) (fun w s' z => ?_) fun _ _ x => x
  obtain ⟨z', H', I', rz, c, rfl, qz⟩ := z
  cases (show w = Value.bool c from rz)
  exact wpAny_truthy_bool ⟨.bl (!c), H', I', rfl, qz⟩
/-- len(x), by __len__ -/
def rLen (C : Addr) (sp : Sp) (E : XK) : List V → Hp → VK → Prop := fun xs H Q => ∃ a dx fs, xs = [V.ref a] ∧ H a = some (.ins C dx fs) ∧ sp [.ref a] H (fun z H' => ∃ i : Int, z = .int i ∧ 0 ≤ i ∧ i < 2 ^ 63 ∧ Q (.int i) H') E
theorem call_len (hs : PySem.W.findIn X.K (.ref C) "__len__" = some (some (.ref g))) (hf : PySem.W.isFn X.K (.ref g) = true) (F : FnR X.prog X.w X.K X.mg X.base CX n g sp)
    (hr : Room (n + 1) X.A) (hx : Passes CX X E) : CallR X (.builtin "len") (rLen C sp E) := by
  intro pins s σ H xs us Q I r h
  obtain ⟨a, dx, fs, rfl, ha, q⟩ := h
  obtain ⟨u, rfl, ru⟩ := r.one
  cases (show u = Value.ref a from ru)
  obtain ⟨ox, od, J⟩ := ins_at I ha
  obtain ⟨m, hF⟩ := I.fr
  refine PySem.W.len_K hF I.ok.mod.kin J hs hf (wpAny_mono (wpAny_call (SlX.run_at (us := [.ref a]) (ws := [.ref a]) F hr.in1 I.env0.in1 hx I (.cons rfl .nil) q)) (fun w s' z => ?_) fun _ _ x => x)
  obtain ⟨z', H', I', rz, i, rfl, h0, h1, qz⟩ := z
  obtain ⟨t, e⟩ := (show ∃ t, w = Value.int i t from rz)
  cases e
  exact ⟨⟨h0, h1⟩, .int i, H', I'.tok _, ⟨_, rfl⟩, qz⟩
end
end Ow

/-! An own error with one field, BadPage, as the guide's skeleton on own errors gives it. -/
namespace PySem
namespace LowP
open PySem.W PySem.Calls PyProof.Rows PySem.HandSPX
/-! ### the text of __init__ -/
def iA (p1 p2 : Pos) : Arguments := { posonlyargs := [], args := [{ arg := "self", annotation := none, pos := p1 }, { arg := "line", annotation := none, pos := p2 }], vararg := none, kwonlyargs := [], kw_defaults := [], kwarg := none, defaults := [] }
def iB (q1 q2 q3 q4 : Pos) : List Stmt := [.Assign [.Attribute (.Name "self" q1) "line" q2] (.Name "line" q3) q4]
def iS : Scope := { kind := .function, names := [(PySem.Str.ofString "self", .local), (PySem.Str.ofString "line", .local)], isGenerator := false, isCoroutine := false, more := [] }
/-- what the written part says of Low, at C, and of its __init__, at fI -/
structure LowTxt (K : Frag) (mg : Str → Option Value) (C fI : Addr) : Prop where
  gC : mg "BadPage" = some (.ref C)
  cls : ∃ nm q N bs bm sn sub ab col dd k0 k1 k2 k3 k5, K.lookup C = some (excClassObj nm q C N bs bm true sn sub ab col dd k0 k1 k2 k3 k5 "ValueError.__new__") ∧ refsVE bm = true
  sa : findIn K (.ref C) "__setattr__" = some (some (.builtin "object.__setattr__"))
  ga : findIn K (.ref C) "__getattribute__" = some (some (.builtin "BaseException.__getattribute__"))
  gg : findIn K (.ref C) "__getattr__" = some none
  noN : findIn K (.ref C) "line" = some none
  iC : findIn K (.ref C) "__init__" = some (some (.ref fI))
  tC : typeIn K (.ref fI) = some (.type "function")
  kC : keepIn K (.ref C) = true
  exC : subIn K (.ref C) (.type "BaseException") = some true
  tyC : typeIn K (.ref C) = some (.type "type")
  hdC : hasDictIn K C = true
  te : exmOne K (.ref C) (.ref C) = some true
  fn : ∃ (oc : Value) (od : Option Addr) (doc pm : Value) (an : Option Addr) (cdv ct : Value) (osl : Array (Option Value)) (p1 p2 q1 q2 q3 q4 : Pos),
    K.lookup fI = some ⟨oc, od, .func (fnOf "__init__" "BadPage.__init__" (iA p1 p2) (iB q1 q2 q3 q4) iS .none .none doc pm an cdv ct), osl⟩ ∧ codeIn K cdv "BadPage.__init__" = true
theorem one_size (v : Value) : [v].length ≤ sizeLine := by
  rw [sizeLine_eq]
  exact (by decide : 1 ≤ 16777216)
theorem kept_but {K : Frag} {h h' : Heap} {x : Addr} (X : K.In h) (hx : K.lookup x = none) (k : ∀ b o, b ≠ x → h.get? b = some o → h'.get? b = some o) : K.In h' := fun a o e =>
  k a o (fun z => by rw [z, hx] at e; cases e) (X a o e)
theorem ldC {M : Model} {s : Shared} {name : Str} {scope : Scope} {L a : Addr} {cd : Value} {m : Str → Option Value} {x : Str} {pos : Pos} {v : Value} {Q : Value → Shared → Prop} {A : Around} {E : Value → Shared → Prop} (hn : s.heap.Ns L m) (hv : m x = some v) (h : Q v s)
    (hk : scope.kind = .function := by rfl) (hl : (envOfC name scope L a cd).kindOf x = some .local := by rfl) (hd : (x == ("__debug__" : Str)) = false := by decide) :
    wpAny M A (eval (.Name x pos) (envOfC name scope L a cd)) Q E s := wpAny_Name (wpAny_loadName_local hk hl hn hv h) hd
/-- what __init__ leaves of a fresh exception at x -/
structure InitEnd (h h' : Heap) (x C dx t1 : Addr) (v : Value) : Prop where
  keep : ∀ b o, b ≠ x → h.get? b = some o → h'.get? b = some o
  obj : h'.get? x = some { cls := .ref C, dict := some dx, data := .fields #[.ref t1, .none, .none, .none, .bool false, .none] }
  dbig : h.objs.size ≤ dx
  dne : dx ≠ x
  ns : h'.Ns1 dx (fun y => if y = "line" then some v else none)
/-- a made Low -/
structure OwnMade (h h' : Heap) (e C d : Addr) (v : Value) : Prop where
  keep : ∀ b o, h.get? b = some o → h'.get? b = some o
  new : h.objs.size ≤ e
  obj : ∃ oe vs, h'.get? e = some oe ∧ oe.cls = .ref C ∧ oe.dict = some d ∧ oe.data = .fields vs ∧ vs[1]? = some .none
  dbig : h.objs.size ≤ d
  dne : d ≠ e
  ns : h'.Ns1 d (fun y => if y = "line" then some v else none)
section
variable {prog : Program} {w : World} {A : Around} {E : Value → Shared → Prop} {R : Result → Shared → Prop} {s : Shared} {K : Frag} {mg : Str → Option Value} {C fI : Addr}
theorem low_init (T : LowTxt K mg C fI) {x t0 : Addr} {v : Value} (X : K.In s.heap) (hlim : s.heap.NoLimit) (hx : s.heap.get? x = some (excO C t0)) (hnx : K.lookup x = none) (hroom : A.depth < recursionLimit)
    (hq : ∀ h' tk dx, InitEnd s.heap h' x C dx t0 v → R (.ok (.ret .none)) { s with heap := h', toks := tk }) :
    codeAny (model prog w) A (.call (.ref fI) ⟨[.ref x, v], []⟩) R s := by
  obtain ⟨oc, od, doc, pm, an, cdv, ct, osl, p1, p2, q1, q2, q3, q4, ho, hcd⟩ := T.fn
  obtain ⟨nm, q, N, bs, bm, sn, sub, ab, col, dd, k0, k1, k2, k3, k5, hC, hbm⟩ := T.cls
  have hcl : clsIn K C = some { name := nm, bases := bs, mro := .ref C :: bm, ns := N, qualname := q, hasDict := true, slotNames := sn, subclasses := sub, abstract := ab, collection := col, hasDel := false } := by unfold clsIn; rw [hC] <;> rfl
  refine Att.call_fn (binds := [("self", .ref x), ("line", v)]) X hlim ho hcd hroom (BindsTo.of_eq (by first | rfl | with_unfolding_all rfl)) (by first | rfl | decide | with_unfolding_all rfl) (fun s₁ IC => ?_) rfl rfl rfl
  obtain ⟨h₁, tk₁, rfl⟩ := IC.toInCall.same
  have k : ∀ b o, s.heap.get? b = some o → h₁.get? b = some o := IC.toInCall.keep
  have hn := IC.toInCall.ns
  have hxL : s.heap.objs.size ≠ x := Nat.ne_of_gt (Heap.lt_size hx)
  have X₁ : K.In h₁ := X.keeps k
  have hx₁ := k _ _ hx
  -- self.by = by
  show wpAny _ _ (execs _ _) _ _ _
  refine wpAny_execs_cons (plainObj_wpAny_Assign_Attribute ?_)
  refine ldC (v := v) hn (by first | rfl | with_unfolding_all rfl | kernel_rfl) (ldC (v := .ref x) hn (by first | rfl | with_unfolding_all rfl | kernel_rfl) ?_)
  refine set_plain X₁ (ox := excO C t0) (od := none) ⟨hx₁, rfl, rfl, trivial⟩ T.sa ?_
  refine exc_osa X₁ hx₁ hcl (show refsVE (.ref C :: bm) = true from hbm) rfl T.noN (fun h₃ tk₃ dx k₃ dn dne hx₃ hn₃ => ?_)
  show wpAny _ _ (execs _ _) _ _ _
  have z : s.heap.objs.size < h₁.objs.size := hn.lt
  exact wpAny_execs_nil (hq h₃ tk₃ dx ⟨fun b o hb e => k₃ b o hb (k b o e), hx₃, Nat.le_of_lt (Nat.lt_of_lt_of_le z dn), dne, hn₃⟩)
theorem low_made (T : LowTxt K mg C fI) {v : Value} (X : K.In s.heap) (hlim : s.heap.NoLimit) (hroom : A.depth + 1 < recursionLimit)
    (hq : ∀ h' tk e d, OwnMade s.heap h' e C d v → R (.ok (.ret (.ref e))) { s with heap := h', toks := tk }) :
    codeAny (model prog w) A (.call (.ref C) ⟨[v], []⟩) R s := by
  obtain ⟨nm, q, N, bs, bm, sn, sub, ab, col, dd, k0, k1, k2, k3, k5, hC, hbm⟩ := T.cls
  obtain ⟨hp, g, dr, tk, os⟩ := s
  have k : ∀ b o, hp.get? b = some o → ((hp.push (kdv_tup [v])).push (excO C hp.objs.size)).get? b = some o := fun b o e => Heap.get?_push_of_some _ (Heap.get?_push_of_some _ e)
  have hget : ((hp.push (kdv_tup [v])).push (excO C hp.objs.size)).get? (hp.objs.size + 1) = some (excO C hp.objs.size) := by heap_get
  have hnx : K.lookup (hp.objs.size + 1) = none := by
    cases e : K.lookup (hp.objs.size + 1) with
    | none => rfl
    | some o =>
      have z : hp.get? (hp.objs.size + 1) = some o := X _ _ e
      exact absurd (Nat.lt_of_succ_lt (Heap.lt_size z)) (Nat.lt_irrefl _)
  refine call_own F.excBase_ValueError (fun X => refsVE_contains X bm hbm) (X _ _ hC) (looks_findIn X T.iC) (fun self => bind_fn X self T.tC) (one_size v) ?_
  refine low_init (s := ⟨(hp.push (kdv_tup [v])).push (excO C hp.objs.size), g, dr, tk, os⟩) T (X.keeps k) (hlim.keeps k) hget hnx ?_ fun h' tk' dx ⟨k', hx, dn, dne, hns⟩ => ?_
  · show A.depth + 1 < recursionLimit
    exact hroom
  · have old : ∀ b o, hp.get? b = some o → h'.get? b = some o := fun b o e => k' b o (Nat.ne_of_lt (Nat.lt_succ_of_lt (Heap.lt_size e))) (k b o e)
    have z : hp.objs.size + 1 + 1 ≤ dx := by
      first
        | (simpa only [Heap.size_push] using dn)
        | exact dn
        | (have q := dn; rw [Heap.size_push, Heap.size_push] at q; exact q)
    exact ⟨rfl, hq h' tk' (hp.objs.size + 1) dx ⟨old, Nat.le_succ _, ⟨_, _, hx, rfl, rfl, rfl, rfl⟩, Nat.le_trans (Nat.le_trans (Nat.le_succ _) (Nat.le_succ _)) z, dne, hns⟩⟩
end
end LowP
end PySem
namespace L2
open PySem PySem.Spec PyProof.Rows
theorem relO_lowP {v : V} {v' : Value} (r : RelV v v') (f : Str) : RelO (List.lookup f [(("line" : Str), v)]) (if f = "line" then some v' else none) := by
  by_cases hw : f = "line"
  · subst hw
    rw [if_pos rfl]
    have q : List.lookup ("line" : Str) [(("line" : Str), v)] = some v := by simp [List.lookup]
    rw [q]
    exact r
  · rw [if_neg hw]
    have qw : (f == ("line" : Str)) = false := by simpa using hw
    have q2 : List.lookup f [(("line" : Str), v)] = none := by simp [List.lookup, qw]
    rw [q2]
    trivial
section
variable {X : Cx} {C fI : Addr}
/-- Low(e) -/
def tMkLowP (C : Addr) (ta : TA) : St → Hp → XK → Prop := fun σ H Q => ta σ H fun vs H1 => ∃ v, vs = [v] ∧ ∀ d, H1 d = none → Q (.ref C) (some d) (upd H1 d (.xd [(("line" : Str), v)]))
theorem pmk_lowP {a : Expr} {ta : TA} {p pos : Pos} {k : Nat} (T : PySem.LowP.LowTxt X.K X.mg C fI) (hr : Room k X.A) (ha : PA X [a] ta) (hg : Gl X "BadPage" := by rfl)
    (he : starEach (a :: []) X.env = (false, eval a X.env) :: starEach [] X.env := by rfl) (hpl : (backTo pos (starEach [] X.env)).any (·.1) = false := by rfl) :
    PMk X (.Call (.Name "BadPage" p) [a] [] pos) (tMkLowP C ta) := by
  intro pins s σ H Q I h
  refine wpAny_Call_Name_kw (ld_glob I hg T.gC ?_)
  refine PySem.W.callWith_K (h₀ := X.base) I.ok.mod.kin T.kC (thn (ha.run pos pins s σ H _ I h) fun us s1 hh => ?_) he hpl
  obtain ⟨vs, H1, I1, r1, v, ev, q1⟩ := hh
  subst ev
  refine ⟨I1.kIn, ?_⟩
  cases r1 with
  | cons rv rn =>
    rename_i v' us'
    cases rn
    show wpAny _ _ (call (.ref C) [v']) _ _ _
    have hlim := I1.nolimit
    obtain ⟨hp, g, dr, tk, os⟩ := s1
    refine wpAny_call (PySem.LowP.low_made T I1.kIn hlim (by have := hr.dp; omega) fun h' tk' e d M => ?_)
    show MkP X pins σ Q (.ref e) ⟨h', g, dr, tk', os⟩
    obtain ⟨oe, fv, hoe, hc, hd, hdat, h1⟩ := M.obj
    have hns := M.ns
    obtain ⟨G', g1, g2⟩ := restrict h' fun b => decide (b ≠ e)
    have gk : ∀ b, b ≠ e → G'.get? b = h'.get? b := fun b hb => g1 b (decide_eq_true hb)
    have ge : G'.get? e = none := g2 e (by simp)
    have old : ∀ b o, hp.get? b = some o → G'.get? b = some o := fun b o q => (gk b (Nat.ne_of_lt (Nat.lt_of_lt_of_le (Heap.lt_size q) M.new))).trans (M.keep b o q)
    have ob : ObjOk X.prog X.w (upd H1 d (.xd [(("line" : Str), v)])) G' d (.xd [(("line" : Str), v)]) :=
      ⟨_, hns.at (fun o q => (gk d M.dne).trans q), fun f => relO_lowP rv f⟩
    have J : Inv X pins σ (upd H1 d (.xd [(("line" : Str), v)])) ⟨G', g, dr, tk', os⟩ := I1.laid (t' := tk') old M.dbig ob
    refine ⟨e, oe, fv, ⟨G', g, dr, tk', os⟩, _, .ref C, some d, rfl, J, fun b o q => ?_, ge, hoe, ⟨hc, hd⟩, hdat, h1, ?_, rfl, I1.bare, raises_own T.exC T.tyC, q1 d (I1.hok.fresh M.dbig)⟩
    · by_cases hb : b = e
      · have q' : G'.get? b = some o := q
        rw [hb, ge] at q'; cases q'
      · exact (gk b hb).symm.trans q
    · rw [upd_ne (Ne.symm M.dne)]
      exact I1.hok.fresh M.new
/-- raise Low(e) -/
def tRaiseLowP (C : Addr) (W : WX) (ta : TA) : TS := fun _ σ H => tMkLowP C ta σ H fun cls d H' => W cls d σ H'
theorem ps_raiseLowP {a : Expr} {ta : TA} {W : WX} {p pos pos2 : Pos} {k : Nat} (hc : X.calm = true) (T : PySem.LowP.LowTxt X.K X.mg C fI) (hr : Room k X.A) (tk : Takes X W) (ha : PA X [a] ta) (hg : Gl X "BadPage" := by rfl)
    (he : starEach (a :: []) X.env = (false, eval a X.env) :: starEach [] X.env := by rfl) (hpl : (backTo pos (starEach [] X.env)).any (·.1) = false := by rfl) :
    PS X (.Raise (some (.Call (.Name "BadPage" p) [a] [] pos)) none pos2) (tRaiseLowP C W ta) := ps_raise hc tk (pmk_lowP T hr ha hg he hpl)
/-- low.by, low the exception that the suite holds (at a; its class cls, its dict d) -/
def tByLowP (C : Addr) (a : Addr) (cls : Value) (d : Option Addr) (te : TE) : TE := fun σ H Q => te σ H fun x H1 => x = .ref a ∧ cls = .ref C ∧ ∃ (dd : Addr) (v : V), d = some dd ∧ H1 dd = some (.xd [(("line" : Str), v)]) ∧ Q v H1
theorem pe_byLowP {a : Addr} {oe : Obj} {cls : Value} {d : Option Addr} {pn : List (Addr × Obj)} {e : Expr} {te : TE} {pos : Pos} (T : PySem.LowP.LowTxt X.K X.mg C fI) (hz : Zc cls d oe) (hf : ∃ vs, oe.data = .fields vs) (he : PE (X.suite a ((a, oe) :: pn)) e te)
    (hb : attributeBase e "line" X.env (eval e X.env) = eval e X.env := by rfl) :
    PE (X.suite a ((a, oe) :: pn)) (.Attribute e "line" pos) (tByLowP C a cls d te) := by
  refine ⟨fun pins s σ H Q I h => ?_⟩
  refine attr_of hb (thn (he.run pins s σ H _ I h) fun u s1 hh => ?_)
  obtain ⟨x, H1, I1, rx, ex, ec, dd, v, ed, ea, q⟩ := hh
  subst ex
  obtain rfl : u = Value.ref a := rx
  subst ec
  subst ed
  obtain ⟨ha, _⟩ := I1.pin (a, oe) (List.mem_append_left _ List.mem_cons_self)
  obtain ⟨vs, hd⟩ := hf
  have hx : ObjOk X.prog X.w H1 s1.heap dd (.xd [(("line" : Str), v)]) := I1.hok dd _ ea
  obtain ⟨mA, hns, hr⟩ := hx
  obtain ⟨od, ho, hl⟩ := lookIn_ns hns
  have l : List.lookup ("line" : Str) [(("line" : Str), v)] = some v := by simp [List.lookup]
  obtain ⟨u, hu, ru⟩ := RelO.some_of (v := v) (o := mA "line") (by rw [← l]; exact hr "line")
  have J : PySem.W.InstAt s1.heap a oe C (some od) := ⟨ha, hz.1, by unfold PySem.W.notCls; rw [hd] <;> rfl, by rw [hz.2]; exact ho⟩
  exact HandSPX.exc_get I1.kIn J T.ga T.gg T.exC (PySem.W.findObj_own T.hdC T.noN rfl (by rw [hl, hu])) (handed_of ru) ⟨v, H1, I1.tok _, ru, q⟩
end
end L2


/-! iter(tuple) as a value; list(x), x with an __iter__ that gives such a one, and an own __len__. -/
namespace Li
open PySem PySem.Spec PyProof.Rows L2
/-- an iterator of the tuple t, not begun -/
def TiO (t it : Addr) : HO := .ext fun h => h.IsTupleIter it t 0
theorem ti_at {h h' : Heap} {t it : Addr} {i : Nat} (x : h.IsTupleIter it t i) (k : ∀ o, h.get? it = some o → h'.get? it = some o) : h'.IsTupleIter it t i := by
  obtain ⟨o, e, r⟩ := x
  exact ⟨o, k o e, r⟩
theorem ti_ok {P : Program} {w : World} {H : Hp} {h : Heap} {t it : Addr} (x : h.IsTupleIter it t 0) : ObjOk P w H h it (TiO t it) :=
  ⟨x, by obtain ⟨o, e, _⟩ := x; exact ⟨o, e⟩, fun _ _ p k => ti_at p k⟩
/-- iter(t): the iterator is younger than all that is tracked -/
def rIterT (K : PySem.W.Frag) : List V → Hp → VK → Prop := fun xs H Q => ∃ (t : Addr) (zs : List V), xs = [.ref t] ∧ SqT K H t zs ∧ ∀ it, H it = none → (∀ b o, H b = some o → b < it) → Q (.ref it) (upd H it (TiO t it))
section
variable {X : Cx}
theorem call_iterT : CallR X (.builtin "iter") (rIterT X.K) := by
  intro pins s σ H xs us Q I r h
  obtain ⟨t, zs, rfl, hq, q⟩ := h
  obtain ⟨u, rfl, ru⟩ := r.one
  cases (show u = Value.ref t from ru)
  obtain ⟨its, rv, pl, hz⟩ := I.tuple hq
  refine Calls.call_function_entry (by decide +kernel) (by decide +kernel) PySem.W.kdk_entry_iter (PySem.W.kdk_args_iter _) ?_
  unfold Builtin.«iter»
  refine wpAny_bind (m := someArgs "iter" 1 2 _) (wpAny_of_eq (a := [Value.ref t]) (by first | rfl | kernel_rfl!) ?_)
  show wpAny _ _ (pyIter (.ref t) >>= _) _ _ _
  refine wpAny_bind (wpAny_pyIter_tuple (items := its.toArray) pl (wpAny_pure ⟨_, rfl, ?_⟩))
  refine ⟨.ref s.heap.objs.size, _, I.laid (t' := s.toks) (fun b u e => Heap.get?_push_of_some _ e) (Nat.le_refl _) (ti_ok ⟨_, Heap.get?_push_size _ rfl, rfl, rfl⟩), rfl, q _ (I.hok.fresh (Nat.le_refl _)) fun b o e => ?_⟩
  exact (I.hok b o e).lt
end
section
variable {X : Cx} {pins : List (Addr × Obj)} {σ : L2.St} {q it t : Addr} {zs : List V} {A1 : Around} {Rs : Result → Shared → Prop}
/-- the list at q takes what the iterator gives -/
theorem fill (hh : A1.in1.handled = none) (few : zs.length ≤ 1000) : ∀ (k i : Nat) (H : Hp) (s : Shared), zs.length - i = k → i ≤ zs.length → Inv X pins σ H s → H q = some (.lst (zs.take i)) → FpOk X pins H it → s.heap.IsTupleIter it t i → SqT X.K H t zs →
    (∀ s', Inv X pins σ (upd H q (.lst zs)) s' → Rs (.ok (.ret .none)) s') → codeAny (model X.prog X.w) A1 (.builtin "list.extend.loop" ⟨[.ref q, .ref it, .none], []⟩) Rs s := by
  intro k
  have sz := sizeLine_eq
  induction k with
  | zero =>
    intro i H s hk hi I hq fp st ht hd
    have e : i = zs.length := by omega
    subst e
    obtain ⟨its, rv, pl, hz⟩ := I.tuple ht
    have li := rv.length
    obtain ⟨f0, f1, f2, f3, f4, f5⟩ := fp
    refine codeAny_builtin PySem.F.entry_extend_loop ?_
    rw [Around.under_plainId PySem.F.plain_extend_loop _]
    show wpAny _ A1.in1 (pyNext (.ref it) >>= _) _ _ s
    refine wpAny_bind (wpAny_pyNext_tuple_end hh st (items := its.toArray) pl (by rw [List.getElem?_toArray, List.getElem?_eq_none (by omega)]) fun h' ex => ?_)
    have I1 := I.turned (t' := s.toks) (h' := h') (fun b o nb e => ex b o nb e) f0 f1 f3 f4 f5
    rw [List.take_length] at hq
    have e : upd H q (.lst zs) = H := by
      funext b
      by_cases c : b = q
      · rw [c, upd_same, hq]
      · rw [upd_ne c]
    exact wpAny_pure (hd _ (by rw [e]; exact I1))
  | succ k ih =>
    intro i H s hk hi I hq fp st ht hd
    have lt : i < zs.length := by omega
    obtain ⟨its, rv, pl, hz⟩ := I.tuple ht
    obtain ⟨u, hu, ru⟩ := rv.get (List.getElem?_eq_getElem lt)
    obtain ⟨f0, f1, f2, f3, f4, f5⟩ := id fp
    refine codeAny_builtin PySem.F.entry_extend_loop ?_
    rw [Around.under_plainId PySem.F.plain_extend_loop _]
    show wpAny _ A1.in1 (pyNext (.ref it) >>= _) _ _ s
    refine wpAny_bind (wpAny_pyNext_tuple_item st (items := its.toArray) pl (x := u) (by simpa using hu) fun h' st' sb => ?_)
    have I1 := I.turned (t' := s.toks) (h' := h') (fun b o nb e => (sb.2 b nb).trans e) f0 f1 f3 f4 f5
    obtain ⟨z, ls, kk, r2, hl, e⟩ := I1.lstM hq
    have ll := r2.length
    rw [List.length_take] at ll
    show wpAny _ A1.in1 (updateSeq q (·.push u) >>= _) _ _ _
    have nq : it ≠ q := fun c => by rw [← c, f0] at hq; cases hq
    refine wpAny_bind (wpAny_updateSeq e rfl (wpAny_pure ⟨plainId_quiet PySem.F.plain_extend_loop _, ?_⟩) (by rw [List.size_toArray]; omega) (by show (ls.toArray.push u).size ≤ sizeLine + 1; rw [Array.size_push, List.size_toArray]; omega))
    have I2 := I1.lset (f := (·.push u)) (its' := ls ++ [u]) (t' := s.toks) hq e (by simp) (r2.append (.cons ru .nil)) (by rw [List.length_append, List.length_singleton, List.length_take]; omega)
    have tk : zs.take i ++ [zs[i]] = zs.take (i + 1) := by rw [List.take_add_one, List.getElem?_eq_getElem lt]; rfl
    rw [tk] at I2
    refine ih (i + 1) _ _ (by omega) lt I2 upd_same ⟨by rw [upd_ne nq]; exact f0, f1, f2, f3, f4, f5⟩ (ti_at st' fun o e => ?_) ?_ fun s' I' => hd s' (by rw [upd_upd] at I'; exact I')
    · exact (Heap.get?_update_other _ _ (Ne.symm nq)).trans e
    · rcases ht with (w1 | ⟨o, w2⟩) | w3
      · refine .inl (.inl ?_)
        rw [upd_ne fun c => by rw [c, hq] at w1; cases w1]
        exact w1
      · refine .inl (.inr ⟨o, ?_⟩)
        rw [upd_ne fun c => by rw [c, hq] at w2; cases w2]
        exact w2
      · exact .inr w3
end
end Li
namespace Li
open PySem PySem.Spec PyProof.Rows L2 ItX
section
variable {X : Cx} {C fi fl : Addr} {spI spL : Sp} {EI EL : XK} {n : Nat}
/-- a def that never raises, called anywhere within -/
theorem sure_at {A : Around} {Q : VK} {E : XK} {g : Addr} {sp : Sp} {us : List Value} {ws : List V} {pins : List (Addr × Obj)} {σ : L2.St} {H : Hp} {s : Shared} (F : FnR X.prog X.w X.K X.mg X.base CX0 n g sp) (hr : Room n A) (e0 : Env0 X.prog X.w X.K X.mg X.base A X.stack s H) (I : Inv X pins σ H s)
    (r : Vals ws us) (h : sp ws H Q E) : codeAny (model X.prog X.w) A (.call (.ref g) ⟨us, []⟩) (fun r s' => match r with | .ok (.ret v) => EP X pins σ Q v s' | .ok _ => False | .error _ => False) s := by
  refine codeAny_mono (F A X.stack s H us ws Q E hr e0 r h) fun r s' z => ?_
  match r, z with
  | .ok (.ret _), z => exact I.after z
  | .ok .next, z => exact z.elim
  | .ok .brk, z => exact z.elim
  | .ok .cont, z => exact z.elim
  | .error _, z => exact z.elim
/-- list(x): its __iter__ gives an iterator of a tuple, its __len__ a number -/
def rListIt (K : PySem.W.Frag) (C : Addr) (spI spL : Sp) (EI EL : XK) : List V → Hp → VK → Prop := fun xs H Q => ∃ a dx fs, xs = [.ref a] ∧ H a = some (.ins C dx fs) ∧ ∀ q, H q = none → spI [.ref a] (upd H q (.lst []))
  (fun v H1 => ∃ it t zs, v = .ref it ∧ H1 it = some (TiO t it) ∧ q < it ∧ SqT K H1 t zs ∧ zs.length ≤ 1000 ∧ H1 q = some (.lst []) ∧ H1 a = some (.ins C dx fs) ∧
    spL [.ref a] H1 (fun z H2 => ∃ i : Int, z = .int i ∧ 0 ≤ i ∧ i < 1000 ∧ H2 = H1 ∧ Q (.ref q) (upd (dropH H1 it) q (.lst zs))) EL) EI
theorem call_listIt (hs : PySem.W.findIn X.K (.ref C) "__iter__" = some (some (.ref fi))) (hf : PySem.W.isFn X.K (.ref fi) = true) (hl : PySem.W.findIn X.K (.ref C) "__len__" = some (some (.ref fl))) (hlf : PySem.W.isFn X.K (.ref fl) = true)
    (FI : FnR X.prog X.w X.K X.mg X.base CX0 n fi spI) (FL : FnR X.prog X.w X.K X.mg X.base CX0 n fl spL) (hc : X.calm = true) (hr : Room (n + 4) X.A) : CallR X (.type "list") (rListIt X.K C spI spL EI EL) := by
  intro pins s σ H xs us Q I rv h
  obtain ⟨a, dx, fs, rfl, ha, hq⟩ := h
  obtain ⟨u, rfl, ru⟩ := rv.one
  cases (show u = Value.ref a from ru)
  have sb : Sub X (n + 1) X.A.in1.in1.in1 := Sub.in1 (Sub.in1 (Sub.in1 ⟨hr, rfl⟩))
  refine callType_codes (Q₁ := fun obj s₁ => obj = .ref s.heap.objs.size ∧ s₁ = { s with heap := s.heap.push { cls := .type "list", data := .seq #[] } })
    PySem.F.called_list (PySem.F.typeCall_list_1 _) PySem.F.entry_list_init (code_list_new _ ⟨rfl, rfl⟩) fun obj s₁ h₁ => ?_
  obtain ⟨rfl, rfl⟩ := h₁
  have hS : (s.heap.push { cls := .type "list", data := .seq #[] }).get? s.heap.objs.size = some { cls := .type "list", data := .seq #[] } := Heap.get?_push_size _ rfl
  refine ⟨⟨_, hS, rfl⟩, PySem.F.args_list_init_2 _ _, ?_⟩
  have fr : H s.heap.objs.size = none := I.hok.fresh (Nat.le_refl _)
  have hsp := hq _ fr
  have young : X.s_0.heap.objs.size ≤ s.heap.objs.size := I.sz
  have I1 : Inv X pins σ (upd H s.heap.objs.size (.lst [])) { s with heap := s.heap.push { cls := .type "list", data := .seq #[] } } := I.lnew (its := []) (t' := s.toks) .nil (Nat.zero_le _)
  show wpAny _ _ (Builtin.List.listItems (.ref s.heap.objs.size) >>= fun old => Builtin.List.listUpdate (.ref s.heap.objs.size) (fun _ => #[]) >>= fun _ => letGo old.toList.reverse >>= fun _ => Builtin.List.listExtendWith (.ref s.heap.objs.size) (.ref a) .none) _ _ _
  refine wpAny_bind ?_
  unfold Builtin.List.listItems
  refine wpAny_bind (wpAny_seqItems hS rfl (wpAny_pure ?_))
  show wpAny _ _ (updateSeq s.heap.objs.size (fun _ => #[]) >>= fun _ => letGo (#[] : Array Value).toList.reverse >>= fun _ => Builtin.List.listExtendWith (.ref s.heap.objs.size) (.ref a) .none) _ _ _
  refine wpAny_bind (wpAny_updateSeq hS rfl ?_)
  have I2 := I1.lset (f := fun _ => #[]) (its := []) (its' := []) (ys := []) (t' := s.toks) upd_same hS rfl .nil (Nat.zero_le _)
  rw [upd_upd] at I2
  refine wpAny_bind (wpAny_letGo ?_)
  have ha2 : upd H s.heap.objs.size (.lst []) a = some (.ins C dx fs) := by rw [upd_ne (ne_of_none ha fr)]; exact ha
  have nqa : s.heap.objs.size ≠ a := (ne_of_none ha fr).symm
  have low : s.heap.objs.size < ({ s with heap := (s.heap.push { cls := .type "list", data := .seq #[] }).update s.heap.objs.size (Obj.mapSeq fun _ => #[]) } : Shared).heap.objs.size := (I2.hok _ _ upd_same).lt
  generalize hq0 : s.heap.objs.size = q at *
  generalize ({ s with heap := (s.heap.push { cls := .type "list", data := .seq #[] }).update q (Obj.mapSeq fun _ => #[]) } : Shared) = s1 at *
  generalize hH1 : upd H q (.lst []) = H1 at *
  have hq1 : H1 q = some (.lst []) := by rw [← hH1]; exact upd_same
  obtain ⟨ox, od, J⟩ := Ow.ins_at I2 ha2
  obtain ⟨m0, hF⟩ := I2.fr
  unfold Builtin.List.listExtendWith
  refine wpAny_bind (J.type.here ?_)
  have b1 : Builtin.List.listSameRef (.ref q) (.ref a) = false := by simp [Builtin.List.listSameRef, nqa]
  have b2 : (Value.ref C == Value.type "list") = false ∧ (Value.ref C == Value.type "tuple") = false := ⟨rfl, rfl⟩
  simp only [b1, b2.1, b2.2, Bool.or_false, Bool.false_eq_true, if_false]
  refine wpAny_bind (PySem.W.owit_iter hF I2.ok.mod.kin J hs hf ?_)
  have env : ∀ {s2 : Shared} {H2 : Hp}, Inv X pins σ H2 s2 → Env0 X.prog X.w X.K X.mg X.base X.A.in1.in1 X.stack s2 H2 := fun I => by
    have e := I.env0
    exact ⟨e.frames, e.mod, e.bs, e.bsz, e.funs, e.frf, e.hok, e.bare⟩
  have room0 : Room (n + 1) X.A.in1.in1 := (hr.in1.in1).mono (by omega)
  have room1 : Room n X.A.in1.in1 := room0.mono (by omega)
  refine wpAny_mono (wpAny_call (sure_at (us := [.ref a]) (ws := [.ref a]) FI room1 (env I2) I2 (.cons rfl .nil) hsp)) (fun v s3 hv => ?_) fun _ _ x => x.elim
  obtain ⟨v', H3, I3, rv3, it, t, zs, rfl, hit, qlt, ht, few, hq3, ha3, hsp2⟩ := hv
  cases (show v = Value.ref it from rv3)
  have st3 : s3.heap.IsTupleIter it t 0 := (I3.hok it _ hit).1
  unfold PySem.W.OwitIt
  refine wpAny_specialOf (name := Str.ofString "__next__") st3.typeIs PySem.F.slot_tuple_iterator_next.lookup ?_
  refine wpAny_bind (wpAny_holding ?_)
  unfold Builtin.List.listLengthHint
  obtain ⟨ox3, od3, J3⟩ := Ow.ins_at I3 ha3
  obtain ⟨m3, hF3⟩ := I3.fr
  refine wpAny_bind (wpAny_bind (J3.type.here ((PySem.W.looks_findIn I3.kIn hl).here ?_)))
  refine PySem.W.KFB.if_not rfl ?_
  refine wp_if_pos rfl (wpAny_bind (wpAny_rule (wpAny_bind (wpAny_attempt ?_))))
  refine PySem.W.len_K hF3 I3.ok.mod.kin J3 hl hlf (wpAny_mono (wpAny_call (sure_at (us := [.ref a]) (ws := [.ref a]) FL (room0.in1) (env I3).in1 I3 (.cons rfl .nil) hsp2)) (fun w s4 z => ?_) fun _ _ x => x.elim)
  obtain ⟨z', H4, I4, rz, i, rfl, h0, h1, rfl, qz⟩ := z
  obtain ⟨tk, e⟩ := (show ∃ tk, w = Value.int i tk from rz)
  cases e
  refine ⟨⟨h0, by omega⟩, ?_⟩
  dsimp only
  refine wpAny_bind (wpAny_of_eq (a := some i) rfl ?_)
  have sl := sizeLine_eq
  refine wp_if_neg (by unfold Builtin.List.listTooLong; rw [decide_eq_true_eq]; omega) (wpAny_pure ?_)
  have I5 := inv_drop (I4.tok (s4.toks + 1)) hit
  have fp : FpOk X pins (dropH H4 it) it := inv_fp I4 hit (Nat.le_trans young (Nat.le_of_lt qlt))
  have nqi : q ≠ it := Nat.ne_of_lt qlt
  have hq5 : dropH H4 it q = some (.lst []) := (dropH_ne nqi).trans hq3
  have ht5 : SqT X.K (dropH H4 it) t zs := by
    rcases ht with (w1 | ⟨o, w2⟩) | w3
    · refine .inl (.inl ((dropH_ne fun c => ?_).trans w1))
      rw [c, hit] at w1
      cases w1
    · refine .inl (.inr ⟨o, (dropH_ne fun c => ?_).trans w2⟩)
      rw [c, hit] at w2
      cases w2
    · exact .inr w3
  have st5 : s4.heap.IsTupleIter it t 0 := (I4.hok it _ hit).1
  have hh : X.A.in1.in1.handled = none := by simp [I.ok.hd hc]
  have go : ∀ s6 : Shared, Inv X pins σ (dropH H4 it) s6 → s6.heap.IsTupleIter it t 0 → codeAny (model X.prog X.w) X.A.in1 (.builtin "list.extend.loop" ⟨[.ref q, .ref it, .none], []⟩) (wants (fun r s₂ => r = .none ∧ EP X pins σ Q (.ref q) s₂) X.xe) s6 := fun s6 I6 st6 =>
    fill (zs := zs) hh few (zs.length - 0) 0 _ s6 rfl (Nat.zero_le _) I6 hq5 fp st6 ht5 fun s7 I7 => ⟨rfl, ⟨.ref q, _, I7, rfl, qz⟩⟩
  refine wpAny_ite_split (fun _ => ?_) fun _ => wpAny_pure ⟨plainId_quiet PySem.F.plain_extend_loop _, go _ I5 st5⟩
  refine wpAny_bind (wpAny_rule (wpAny_bind ?_))
  obtain ⟨z5, its5, k5, r5, l5, e5⟩ := I5.lstM hq5
  cases r5
  show wpAny _ _ (updateSeq q (·.push Value.none) >>= fun _ => updateSeq q (·.pop)) _ _ _
  refine wpAny_bind (wpAny_updateSeq e5 rfl ?_)
  have I6 := I5.lset (f := (·.push Value.none)) (its' := [Value.none]) (ys := [.non]) (t' := s4.toks + 1) hq5 e5 (by simp) (.cons rfl .nil) (by rw [List.length_singleton, sl]; decide)
  obtain ⟨z6, its6, k6, r6, l6, e6⟩ := I6.lstM upd_same
  obtain ⟨u6, rfl, ru6⟩ := r6.one
  refine wpAny_updateSeq e6 rfl ?_ (by show 1 ≤ sizeLine; rw [sl]; decide) (by show 0 ≤ sizeLine + 1; exact Nat.zero_le _)
  have I7 := I6.lset (f := (·.pop)) (its := [u6]) (its' := []) (ys := []) (t' := s4.toks + 1) upd_same e6 (by rfl) .nil (Nat.zero_le _)
  rw [upd_upd, show upd (dropH H4 it) q (.lst []) = dropH H4 it from funext fun b => by
    by_cases c : b = q
    · rw [c, upd_same, hq5]
    · rw [upd_ne c]] at I7
  refine wpAny_pure ⟨plainId_quiet PySem.F.plain_extend_loop _, go _ I7 (ti_at st5 fun o e => ?_)⟩
  exact (Heap.get?_update_other _ _ nqi).trans ((Heap.get?_update_other _ _ nqi).trans e)
end
end Li
/-! for .. in x, x an instance whose __iter__ gives iter(tuple). -/
namespace Li
open PySem PySem.Spec PyProof.Rows L2 ItX
section
variable {X : Cx} {C fi : Addr} {spI : Nat → Sp} {EI : XK} {n : Nat} {tg : Expr}
/-- a def whose promise knows how many objects there are when it is called -/
def FnA (P : Program) (w : World) (K : PySem.W.Frag) (mg : Str → Option Value) (base : Heap) (n : Nat) (g : Addr) (sp : Nat → Sp) : Prop :=
  ∀ (A : Around) (outer : List Env) (s : Shared) (H : Hp) (us : List Value) (vs : List V) (Q : VK) (E : XK), Room n A → Env0 P w K mg base A outer s H → Vals vs us → sp s.heap.objs.size vs H Q E →
    codeAny (model P w) A (.call (.ref g) ⟨us, []⟩) (CR CX0 outer P w H s Q E) s
theorem fnA_of {P : Program} {w : World} {K : PySem.W.Frag} {mg : Str → Option Value} {base : Heap} {x qual : Str} {st : Stmt} {g : Addr} {fd : FuncData} {N ps : List Str} {k : Nat} {sp : Nat → Sp} (F : Fun K x qual st g fd) (S : FnScope N ps (defScope st)) (B : Binds K fd ps [])
    (len : ∀ n vs H Q E, sp n vs H Q E → vs.length = ps.length)
    (body : ∀ (cdv : Value) (A : Around) (outer : List Env) (s : Shared) (H : Hp) (vs : List V) (Q : VK) (E : XK), Room k (A.deeper (envOfC qual (defScope st) s.heap.objs.size g cdv)) → sp s.heap.objs.size vs H Q E →
      ∃ t, PSs (cxOf CX0 P w K mg base N qual (defScope st) g cdv A outer s H E) (defBody st) t ∧ t { nx := fun _ H' => Q .non H', rt := Q } (start N vs) H) : FnA P w K mg base (k + 1) g sp := by
  obtain ⟨oc, od, kV, doc, pm, an, cdv, ct, osl, rfl, lk, hcd⟩ := F.ex
  intro A outer s H us vs Q E hr e0 r hsp
  have hl := len _ _ _ _ _ hsp
  have KX : K.In s.heap := e0.mod.kin.keeps fun b o e => (e0.bs b o e).1
  have bd := B s us KX (by rw [List.append_nil, ← r.length]; exact hl)
  rw [List.append_nil] at bd
  refine codeAny_call_function hr.depth (KX _ _ lk) rfl S.co S.gen rfl (PySem.W.codeRec_of KX hcd) (bd _ _ _ _ ?_)
  refine wpAny_newFunctionEnv_cells S.kind (fun y hy => ?_) fun env he s1 fresh => ?_
  · rcases S.par y.1 (List.of_mem_zip (show (y.1, y.2) ∈ ps.zip us from hy)).1 with q | q
    · exact .inl q
    · exact .inr ⟨q, PySem.W.cellsFrom_some _ _ _ (.inl q)⟩
  subst he
  refine ⟨(e0.mod.nolimit.keeps fun b o e => (e0.bs b o e).1).keeps fresh.toInCall.keep, codeAny_func ?_⟩
  obtain ⟨t, ht, hq⟩ := body _ A outer s H vs Q E (hr.deeper _) hsp
  refine wpAny_mono (ht.run [] s1 (start N vs) H _ (inv_start S hr.hd e0 hl r fresh) hq) (fun fl s' hs => ?_) fun e s' hs => hs
  match fl, hs with
  | .ret _, ⟨v, _, H', J, rv, q⟩ => exact ⟨v, H', J.os, J.bare, J.base, J.hok, rv, q⟩
  | .next, ⟨_, H', J, q⟩ => exact ⟨V.non, H', J.os, J.bare, J.base, J.hok, rfl, q⟩
  | .brk, ⟨_, _, _, q⟩ => exact q.elim
  | .cont, ⟨_, _, _, q⟩ => exact q.elim
/-- iter(t), n: how many objects there were -/
def rIterN (K : PySem.W.Frag) (n : Nat) : List V → Hp → VK → Prop := fun xs H Q => ∃ (t : Addr) (zs : List V), xs = [.ref t] ∧ SqT K H t zs ∧ ∀ it, H it = none → n ≤ it → Q (.ref it) (upd H it (TiO t it))
theorem call_iterN {X : Cx} : CallR X (.builtin "iter") (rIterN X.K X.s_0.heap.objs.size) := by
  intro pins s σ H xs us Q I r h
  obtain ⟨t, zs, rfl, hq, q⟩ := h
  obtain ⟨u, rfl, ru⟩ := r.one
  cases (show u = Value.ref t from ru)
  obtain ⟨its, rv, pl, hz⟩ := I.tuple hq
  refine Calls.call_function_entry (by decide +kernel) (by decide +kernel) PySem.W.kdk_entry_iter (PySem.W.kdk_args_iter _) ?_
  unfold Builtin.«iter»
  refine wpAny_bind (m := someArgs "iter" 1 2 _) (wpAny_of_eq (a := [Value.ref t]) (by first | rfl | kernel_rfl!) ?_)
  show wpAny _ _ (pyIter (.ref t) >>= _) _ _ _
  refine wpAny_bind (wpAny_pyIter_tuple (items := its.toArray) pl (wpAny_pure ⟨_, rfl, ?_⟩))
  exact ⟨.ref s.heap.objs.size, _, I.laid (t' := s.toks) (fun b u e => Heap.get?_push_of_some _ e) (Nat.le_refl _) (ti_ok ⟨_, Heap.get?_push_size _ rfl, rfl, rfl⟩), rfl, q _ (I.hok.fresh (Nat.le_refl _)) I.sz⟩
/-- such a def, called -/
theorem sure_A {X : Cx} {n : Nat} {A : Around} {Q : VK} {E : XK} {g : Addr} {sp : Nat → Sp} {us : List Value} {ws : List V} {pins : List (Addr × Obj)} {σ : L2.St} {H : Hp} {s : Shared} (F : FnA X.prog X.w X.K X.mg X.base n g sp) (hr : Room n A) (e0 : Env0 X.prog X.w X.K X.mg X.base A X.stack s H) (I : Inv X pins σ H s)
    (r : Vals ws us) (h : sp s.heap.objs.size ws H Q E) : codeAny (model X.prog X.w) A (.call (.ref g) ⟨us, []⟩) (fun r s' => match r with | .ok (.ret v) => EP X pins σ Q v s' | .ok _ => False | .error _ => False) s := by
  refine codeAny_mono (F A X.stack s H us ws Q E hr e0 r h) fun r s' z => ?_
  match r, z with
  | .ok (.ret _), z => exact I.after z
  | .ok .next, z => exact z.elim
  | .ok .brk, z => exact z.elim
  | .ok .cont, z => exact z.elim
  | .error _, z => exact z.elim
def iOwnT (K : PySem.W.Frag) (C : Addr) (spI : Nat → Sp) (EI : XK) (tl : TE) : TI := fun σ H R => tl σ H fun x H1 => ∃ a dx fs, x = .ref a ∧ H1 a = some (.ins C dx fs) ∧
  ∀ m, spI m [.ref a] H1 (fun v H2 => ∃ it t zs, v = .ref it ∧ m ≤ it ∧ H2 it = some (TiO t it) ∧ SqT K H2 t zs ∧ R (Itt K t) (dropH H2 it)) EI
theorem pi_ownT (hs : PySem.W.findIn X.K (.ref C) "__iter__" = some (some (.ref fi))) (hf : PySem.W.isFn X.K (.ref fi) = true) (FI : FnA X.prog X.w X.K X.mg X.base n fi spI) (hr : Room n X.A) {l : Expr} {tl : TE} (hl : PE X l tl) : PI X tg l (iOwnT X.K C spI EI tl) := by
  refine ⟨fun pins s σ H R I h => ?_⟩
  refine thn (hl.run pins s σ H _ I h) fun v s1 ⟨x, H1, I1, r1, q1⟩ => ?_
  obtain ⟨a, dx, fs, e, ha, hsp⟩ := q1
  subst e
  cases r1
  obtain ⟨ox, od, J⟩ := Ow.ins_at I1 ha
  obtain ⟨m0, hF⟩ := I1.fr
  refine PySem.W.owit_iter hF I1.ok.mod.kin J hs hf ?_
  refine wpAny_mono (wpAny_call (sure_A (us := [.ref a]) (ws := [.ref a]) FI hr I1.env0 I1 (.cons rfl .nil) (hsp _))) (fun v s3 hv => ?_) fun _ _ x => x.elim
  obtain ⟨v', H3, I3, rv3, it, t, zs, rfl, yg, hit, ht, q⟩ := hv
  cases (show v = Value.ref it from rv3)
  have st3 : s3.heap.IsTupleIter it t 0 := (I3.hok it _ hit).1
  unfold PySem.W.OwitIt
  refine wpAny_specialOf (name := Str.ofString "__next__") st3.typeIs PySem.F.slot_tuple_iterator_next.lookup ?_
  refine ⟨it, [it], _, _, dropH H3 it, rfl, inv_drop I3 hit, turn_tuple t it, st3, fun b hb => ?_, q⟩
  have e : b = it := by simpa using hb
  rw [e]
  exact inv_fp I3 hit (Nat.le_trans I1.sz yg)
variable {CX : CXT} {k : Nat} {f : Addr} {fd : FuncData} {ps : List Str} {sp : Sp} {e : Expr} {es : List Expr} {t : TA} {x : Str} {p pos : Pos} {ds : List Value} {dvs : List V}
/-- pe_callS of a def with defaults -/
theorem pe_callSD {E : L2.St → XK} (F : FnOk X.prog X.w X.K X.mg X.base CX k f fd ps sp) (hr : Room k X.A) (hg : Gl X x) (hm : X.mg x = some (.ref f)) (hk : PySem.W.keepIn X.K (.ref f) = true) (hb : Binds X.K fd ps ds) (hd : Vals dvs ds) (hx : ∀ σ, PassesAt CX X σ (E σ))
    (ha : PA X (e :: es) t) (hdb : (x == ("__debug__" : Str)) = false := by decide) (he : starEach (e :: es) X.env = (false, eval e X.env) :: starEach es X.env := by rfl) (hpl : (backTo pos (starEach es X.env)).any (·.1) = false := by rfl) :
    PE X (.Call (.Name x p) (e :: es) [] pos) (tCallS (fun vs H Q E => sp (vs ++ dvs) H Q E) E t) := by
  refine ⟨fun pins s σ H Q I h => ?_⟩
  refine wpAny_Call_Name_kw (ld_glob I hg hm ?_ hdb)
  refine PySem.W.callWith_K (h₀ := X.base) I.ok.mod.kin hk (thn (ha.run pos pins s σ H _ I h) fun us s1 ⟨vs, H1, I1, r, q⟩ => ⟨I1.kIn, ?_⟩) he hpl
  refine wpAny_call (codeAny_mono (F.raw hb hd X.A X.stack s1 H1 us vs Q (E σ) hr I1.env0 r q) fun r s' hq => ?_)
  cases r with
  | error e => exact hx σ pins H1 s1 e s' I1 hq
  | ok fl =>
    cases fl with
    | ret u => exact I1.after hq
    | next => exact False.elim hq
    | brk => exact False.elim hq
    | cont => exact False.elim hq
end
end Li

/-! A call by keywords that may raise, its exception's part told by the state at the call. -/
namespace Kw
open PySem PySem.Spec PyProof.Rows L2
section
variable {X : Cx} {CX : CXT} {k n : Nat} {f : Addr} {fd : FuncData} {ps ks : List Str} {sp : Sp} {E : L2.St → XK} {x : Str} {e : Expr} {es : List Expr} {kws : List Keyword} {t tk : TA} {p pos : Pos} {g : List Value → List Value → List Value} {gV : List V → List V → List V}
theorem run_fnNS {pins : List (Addr × Obj)} {σ : L2.St} {H : Hp} {s : Shared} {Q : VK} {us ws : List Value} {vs zs : List V} (F : FnOk X.prog X.w X.K X.mg X.base CX k f fd ps sp) (hr : Room k X.A) (hb : KBn X.K fd ps n ks g gV) (hx : PassesAt CX X σ (E σ))
    (I : Inv X pins σ H s) (r : Vals vs us) (rz : Vals zs ws) (l1 : vs.length = n) (l2 : zs.length = ks.length) (h : sp (gV vs zs) H Q (E σ)) : wpAny (model X.prog X.w) X.A (call (.ref f) us (ks.zip ws)) (EP X pins σ Q) X.xe s := by
  have r2 := hb.rel r rz
  refine wpAny_call (codeAny_mono (F.run X.A X.stack s H ⟨us, ks.zip ws⟩ (g us ws) (gV vs zs) Q (E σ) hr I.env0 (hb.to s us ws I.kIn (r.length.symm.trans l1) (rz.length.symm.trans l2)) r2 h) fun r s' hq => ?_)
  cases r with
  | error e => exact hx pins H s e s' I hq
  | ok fl =>
    cases fl with
    | ret u => exact I.after hq
    | next => exact False.elim hq
    | brk => exact False.elim hq
    | cont => exact False.elim hq
def tCallNS (n m : Nat) (sp : Sp) (gV : List V → List V → List V) (E : L2.St → XK) (t tk : TA) : TE := fun σ H Q => t σ H fun vs H1 => tk σ H1 fun zs H2 => vs.length = n ∧ zs.length = m ∧ sp (gV vs zs) H2 Q (E σ)
theorem pe_callNS (F : FnOk X.prog X.w X.K X.mg X.base CX k f fd ps sp) (hr : Room k X.A) (hg : Gl X x) (hm : X.mg x = some (.ref f)) (hk : PySem.W.keepIn X.K (.ref f) = true) (hb : KBn X.K fd ps n ks g gV) (hx : ∀ σ, PassesAt CX X σ (E σ))
    (ha : PA X (e :: es) t) (hkw : PK X kws tk) (hall : (backToKw pos (keywordEach kws X.env)).all (·.1.isSome) = true := by rfl) (hks : (backToKw pos (keywordEach kws X.env)).filterMap (·.1) = ks := by rfl)
    (hdb : (x == ("__debug__" : Str)) = false := by decide) (he : starEach (e :: es) X.env = (false, eval e X.env) :: starEach es X.env := by rfl)
    (hpl : ((backTo pos (starEach (e :: es) X.env)).any (·.1) || (backToKw pos (keywordEach kws X.env)).any (·.1.isNone)) = false := by rfl) :
    PE X (.Call (.Name x p) (e :: es) kws pos) (tCallNS n ks.length sp gV E t tk) := by
  refine ⟨fun pins s σ H Q I h => ?_⟩
  refine wpAny_Call_Name_kw (ld_glob I hg hm ?_ hdb)
  refine PySem.W.callWith_KW (h₀ := X.base) I.ok.mod.kin hk hall (thn (ha.run pos pins s σ H _ I h) fun us s1 ⟨vs, H1, I1, r, q⟩ => ?_) hpl he
  refine thn (hkw.run pos pins s1 σ H1 _ I1 q) fun ws s2 ⟨zs, H2, I2, rz, l1, l2, q2⟩ => ⟨I2.kIn, ?_⟩
  rw [hks]
  exact run_fnNS F hr hb (hx σ) I2 r rz l1 l2 q2
end
end Kw

/-! x in a list or a tuple of data of any depth. -/
namespace Ind
open PySem PySem.Spec PyProof.Rows L2
def seqD (t : Bool) (ds : List PyData) : PyData := if t = true then .tuple ds else .list ds
def rInS (K : PySem.W.Frag) : R2 := fun x y H Q => ∃ (d : PyData) (ds : List PyData) (t : Bool), Dp K H x d ∧ Dp K H y (seqD t ds) ∧ d.canLay0 = true ∧ d.depth ≤ 60 ∧ PyData.canLayAll0 ds = true ∧ Q (.bl (ds.any fun z => PyData.eqv z d)) H
theorem op_inS {X : Cx} (hu : X.A.units + 65 < cLine) : OpR X (compareOp .In) (rInS X.K) := by
  intro pins s σ H x y v u Q I rx ry h
  obtain ⟨d, ds, t, hd, he, sd, dd, se, q⟩ := h
  obtain ⟨as, r1⟩ := Dp.reads I d x v hd rx
  have room : X.A.units + 1 + min (PyData.depthAll ds) d.depth < cLine := by
    have := Nat.min_le_right (PyData.depthAll ds) d.depth
    omega
  cases t with
  | true =>
    obtain ⟨bs, r2⟩ := Dp.reads I (.tuple ds) y u he ry
    exact SeqAt.in_tuple_reads r2 r1 se sd room ⟨.bl _, H, I, rfl, q⟩
  | false =>
    obtain ⟨bs, r2⟩ := Dp.reads I (.list ds) y u he ry
    exact SeqAt.in_list_reads r2 r1 se sd room ⟨.bl _, H, I, rfl, q⟩
theorem isD {K : PySem.W.Frag} {t : Bool} {H : Hp} {p : Addr} {xs : List V} {ds : List PyData} (h : Kd.Is K t H p xs) (g : DpAll K H xs ds) : Dp K H (.ref p) (seqD t ds) := by
  cases t with
  | true => exact .tup h g
  | false => exact .lst h g
theorem room65 {k : Nat} {A : Around} (r : Room k A) : A.units + 65 < cLine := by have := r.un; omega
end Ind
namespace Ind
open PySem PySem.Spec PyProof.Rows L2
def rNinS (K : PySem.W.Frag) : R2 := fun x y H Q => ∃ (d : PyData) (ds : List PyData) (t : Bool), Dp K H x d ∧ Dp K H y (seqD t ds) ∧ d.canLay0 = true ∧ d.depth ≤ 60 ∧ PyData.canLayAll0 ds = true ∧ Q (.bl (!ds.any fun z => PyData.eqv z d)) H
theorem op_ninS {X : Cx} (hu : X.A.units + 65 < cLine) : OpR X (compareOp .NotIn) (rNinS X.K) := by
  intro pins s σ H x y v u Q I rx ry h
  obtain ⟨d, ds, t, hd, he, sd, dd, se, q⟩ := h
  obtain ⟨as, r1⟩ := Dp.reads I d x v hd rx
  have room : X.A.units + 1 + min (PyData.depthAll ds) d.depth < cLine := by
    have := Nat.min_le_right (PyData.depthAll ds) d.depth
    omega
  cases t with
  | true =>
    obtain ⟨bs, r2⟩ := Dp.reads I (.tuple ds) y u he ry
    exact SeqAt.notIn_tuple_reads r2 r1 se sd room ⟨.bl _, H, I, rfl, q⟩
  | false =>
    obtain ⟨bs, r2⟩ := Dp.reads I (.list ds) y u he ry
    exact SeqAt.notIn_list_reads r2 r1 se sd room ⟨.bl _, H, I, rfl, q⟩
end Ind

/-! One of two readings of what a for walks. -/
namespace L2
open PySem PySem.Spec PyProof.Rows
theorem pi_or {X : Cx} {tg e : Expr} {t u : TI} (h : PI X tg e t) (g : PI X tg e u) : PI X tg e (fun σ H R => t σ H R ∨ u σ H R) :=
  ⟨fun pins s σ H R I z => z.elim (fun z => h.run pins s σ H R I z) fun z => g.run pins s σ H R I z⟩
end L2
/-! a conditional expression as a test: c and what stands for it, each a test. -/
namespace L2
open PySem PySem.Spec PyProof.Rows
def tIfT (tc ta tb : TT) : TT := fun σ H Q => tc σ H fun k H1 => if k = true then ta σ H1 Q else tb σ H1 Q
theorem pt_ifExp {X : Cx} {c a b : Expr} {tc ta tb : TT} {pos : Pos} (hc : PT X c tc) (ha : PT X a ta) (hb : PT X b tb) : PT X (.IfExp c a b pos) (tIfT tc ta tb) := by
  refine ⟨fun pins s σ H Q I h => ?_⟩
  refine PyProof.Rows.isTrue_IfExp (thn (hc.run pins s σ H _ I h) fun d s1 ⟨H1, I1, q1⟩ => ?_)
  cases d with
  | true => exact ha.run pins s1 σ H1 Q I1 q1
  | false => exact hb.run pins s1 σ H1 Q I1 q1
end L2

/-! repr of data, and defs that are called where no repr is under way. -/
namespace Rp
open PySem PySem.Spec PyProof.Rows L2
section
variable {X : Cx}
def rRepr (K : PySem.W.Frag) : List V → Hp → VK → Prop := fun xs H Q => ∃ x d, xs = [x] ∧ Dp K H x d ∧ d.showable = true ∧ d.hasDict = false ∧ d.depth ≤ 60 ∧ d.shown.length ≤ sizeLine ∧ Q (.str d.shown) H
theorem call_reprD (hg : X.A.guards = some []) (hu : X.A.units + 64 < cLine) : CallR X (.builtin "repr") (rRepr X.K) := by
  intro pins s σ H xs us Q I r h
  obtain ⟨x, d, rfl, hd, hs, hn, hz, hl, q⟩ := h
  cases r with
  | cons rx rn =>
    cases rn
    obtain ⟨as, rd⟩ := Dp.reads I d x _ hd rx
    cases rd with
    | none => exact PySem.P.repr_of_none ⟨.str _, H, I.tok _, ⟨_, rfl⟩, q⟩
    | bool b => exact PySem.P.repr_of_bool ⟨.str _, H, I.tok _, ⟨_, rfl⟩, q⟩
    | int i t => exact PySem.P.repr_of_int (of_decide_eq_true hs) ⟨.str _, H, I.tok _, ⟨_, rfl⟩, q⟩
    | str z t => exact PySem.P.repr_of_str (hsz := hl) ⟨.str _, H, I.tok _, ⟨_, rfl⟩, q⟩
    | list h1 h2 h3 h4 =>
      exact PySem.repr_of_reads' (.list h1 h2 h3 h4) hs (fun e => by rw [hn] at e; cases e) hg (by omega) (fun _ _ e => e) (fun g u tk k => ⟨.str _, H, I.kept (t' := tk) k, ⟨_, rfl⟩, q⟩) hl
    | tuple h1 h2 h3 h4 =>
      exact PySem.repr_of_reads' (.tuple h1 h2 h3 h4) hs (fun e => by rw [hn] at e; cases e) hg (by omega) (fun _ _ e => e) (fun g u tk k => ⟨.str _, H, I.kept (t' := tk) k, ⟨_, rfl⟩, q⟩) hl
    | dict => cases hd
end
/-- as FnOk, where no repr is under way -/
structure GOk (P : Program) (w : World) (K : PySem.W.Frag) (mg : Str → Option Value) (base : Heap) (CX : CXT) (k : Nat) (f : Addr) (fd : FuncData) (ps : List Str) (sp : Sp) : Prop where
  len : ∀ vs H Q E, sp vs H Q E → vs.length = ps.length
  run : ∀ (A : Around) (outer : List Env) (s : Shared) (H : Hp) (args : Args) (us : List Value) (vs : List V) (Q : VK) (E : XK), Room k A → A.guards = some [] → Env0 P w K mg base A outer s H → BindsTo s fd args (ps.zip us) → Vals vs us → sp vs H Q E →
    codeAny (model P w) A (.call (.ref f) args) (CR CX outer P w H s Q E) s
section
variable {CX : CXT} {P : Program} {w : World} {K : PySem.W.Frag} {mg : Str → Option Value} {base : Heap} {k : Nat} {f : Addr} {fd : FuncData} {ps : List Str} {sp : Sp}
theorem GOk.of (F : FnOk P w K mg base CX k f fd ps sp) : GOk P w K mg base CX k f fd ps sp := ⟨F.len, fun A outer s H args us vs Q E hr _ => F.run A outer s H args us vs Q E hr⟩
theorem GOk.mono {j : Nat} (F : GOk P w K mg base CX j f fd ps sp) (h : j ≤ k) : GOk P w K mg base CX k f fd ps sp := ⟨F.len, fun A outer s H args us vs Q E hr => F.run A outer s H args us vs Q E (hr.mono h)⟩
theorem gfn_of {name qual : Str} {params : Arguments} {body : List Stmt} {scope : Scope} {dV kV doc pm cdv ct oc : Value} {an od : Option Addr} {osl : Array (Option Value)} {N : List Str}
    (lk : K.lookup f = some ⟨oc, od, .func (PySem.W.fnOf name qual params body scope dV kV doc pm an cdv ct), osl⟩) (hcd : PySem.W.codeIn K cdv qual = true) (S : FnScope N ps scope)
    (len : ∀ vs H Q E, sp vs H Q E → vs.length = ps.length)
    (hbody : ∀ (A : Around) (outer : List Env) (s : Shared) (H : Hp) (vs : List V) (Q : VK) (E : XK), A.guards = some [] → Room k (A.deeper (envOfC qual scope s.heap.objs.size f cdv)) → sp vs H Q E →
      ∃ t, PSs (cxOf CX P w K mg base N qual scope f cdv A outer s H E) body t ∧ t { nx := fun _ H' => Q .non H', rt := Q } (start N vs) H) :
    GOk P w K mg base CX (k + 1) f (PySem.W.fnOf name qual params body scope dV kV doc pm an cdv ct) ps sp := by
  refine ⟨len, fun A outer s H args us vs Q E hr hg e0 hb r hsp => ?_⟩
  have nl := len _ _ _ _ hsp
  have old : ∀ b o, base.get? b = some o → s.heap.get? b = some o := fun b o e => (e0.bs b o e).1
  have KX : K.In s.heap := e0.mod.kin.keeps old
  have lim : s.heap.NoLimit := e0.mod.nolimit.keeps old
  have kinds : ∀ y ∈ ps.zip us, scope.names.lookup y.1 = some .local ∨ (scope.names.lookup y.1 = some .cell ∧ ((cellsFrom (s.heap.objs.size + 1) scope.names []).lookup y.1).isSome = true) := fun ⟨n, v⟩ hy =>
    (S.par n (List.of_mem_zip hy).1).imp id fun q => ⟨q, PySem.W.cellsFrom_some _ _ _ (.inl q)⟩
  refine codeAny_call_function hr.depth (KX _ _ lk) rfl S.co S.gen rfl (PySem.W.codeRec_of KX hcd) (hb _ _ _ _ ?_)
  refine wpAny_newFunctionEnv_cells S.kind kinds fun env ee s1 x => ?_
  subst ee
  refine ⟨lim.keeps x.toInCall.keep, codeAny_func ?_⟩
  obtain ⟨t, ht, hq⟩ := hbody A outer s H vs Q E hg (hr.deeper _) hsp
  have I0 : Inv (cxOf CX P w K mg base N qual scope f cdv A outer s H E) [] (start N vs) H s1 := inv_start S hr.hd e0 nl r x
  refine wpAny_mono (ht.run [] s1 (start N vs) H _ I0 hq) (fun fl s' hs => ?_) fun e s' hs => hs
  cases fl with
  | ret u =>
    obtain ⟨v, σ', H', J, rv, q⟩ := hs
    exact ⟨v, H', J.os, J.bare, J.base, J.hok, rv, q⟩
  | next =>
    obtain ⟨σ', H', J, q⟩ := hs
    exact ⟨V.non, H', J.os, J.bare, J.base, J.hok, rfl, q⟩
  | brk =>
    obtain ⟨_, _, _, q⟩ := hs
    exact q.elim
  | cont =>
    obtain ⟨_, _, _, q⟩ := hs
    exact q.elim
theorem gok {x qual : Str} {st : Stmt} {N : List Str} (F : Fun K x qual st f fd) (S : FnScope N ps (defScope st)) (len : ∀ vs H Q E, sp vs H Q E → vs.length = ps.length)
    (hbody : ∀ (cdv : Value) (A : Around) (outer : List Env) (s : Shared) (H : Hp) (vs : List V) (Q : VK) (E : XK), A.guards = some [] → Room k (A.deeper (envOfC qual (defScope st) s.heap.objs.size f cdv)) → sp vs H Q E →
      ∃ t, PSs (cxOf CX0 P w K mg base N qual (defScope st) f cdv A outer s H E).nox (defBody st) t ∧ t { nx := fun _ H' => Q .non H', rt := Q } (start N vs) H) : GOk P w K mg base CX0 (k + 1) f fd ps sp := by
  obtain ⟨oc, od, kV, doc, pm, an, cdv, ct, osl, rfl, lk, hcd⟩ := F.ex
  refine gfn_of lk hcd S len fun A outer s H vs Q E hg hr hsp => ?_
  obtain ⟨t, h, q⟩ := hbody cdv A outer s H vs Q E hg hr hsp
  exact ⟨t, h.nox, q⟩
end
section
variable {X : Cx} {CX : CXT} {k : Nat} {f : Addr} {fd : FuncData} {ps : List Str} {sp : Sp} {E : XK} {ds : List Value} {dvs : List V} {x : Str} {e : Expr} {es : List Expr} {t : TA} {p pos : Pos}
theorem pe_gcall (F : GOk X.prog X.w X.K X.mg X.base CX k f fd ps sp) (gd : X.A.guards = some []) (hr : Room k X.A) (hg : Gl X x) (hm : X.mg x = some (.ref f)) (hk : PySem.W.keepIn X.K (.ref f) = true) (hb : Binds X.K fd ps ds) (hd : Vals dvs ds) (hx : Passes CX X E)
    (ha : PA X (e :: es) t) (hdb : (x == ("__debug__" : Str)) = false := by decide) (he : starEach (e :: es) X.env = (false, eval e X.env) :: starEach es X.env := by rfl) (hpl : (backTo pos (starEach es X.env)).any (·.1) = false := by rfl) :
    PE X (.Call (.Name x p) (e :: es) [] pos) (tCall sp dvs E t) := by
  refine ⟨fun pins s σ H Q I h => ?_⟩
  refine wpAny_Call_Name_kw (ld_glob I hg hm ?_ hdb)
  refine PySem.W.callWith_K (h₀ := X.base) I.ok.mod.kin hk (thn (ha.run pos pins s σ H _ I h) fun us s1 ⟨vs, H1, I1, r, q⟩ => ⟨I1.kIn, ?_⟩) he hpl
  have r2 : Vals (vs ++ dvs) (us ++ ds) := r.append hd
  have nl : (us ++ ds).length = ps.length := r2.length.symm.trans (F.len _ _ _ _ q)
  refine wpAny_call (codeAny_mono (F.run X.A X.stack s1 H1 ⟨us, []⟩ (us ++ ds) (vs ++ dvs) Q E hr gd I1.env0 (hb s1 us I1.kIn nl) r2 q) fun res s' hq => ?_)
  cases res with
  | error z => exact hx pins σ H1 s1 z s' I1 hq
  | ok fl =>
    cases fl with
    | ret u => exact I1.after hq
    | next => exact hq.elim
    | brk => exact hq.elim
    | cont => exact hq.elim
end
end Rp
/-! The law's own call, of a def that is called where no repr is under way. -/
namespace Rp
open PySem PySem.Spec PyProof.Rows L2
theorem law_gcall {P : Program} {w : World} {K : PySem.W.Frag} {mg mb : Str → Option Value} {CX : CXT} {k : Nat} {fa a : Addr} {fd : FuncData} {x : Str} {sp : Sp} {s1 : Shared} {vs : List Value} {ns : List Int}
    (KX : K.In s1.heap) (hns : s1.heap.Ns mainGlobals mg) (hb : s1.heap.Ns builtinsNs mb) (hbb : ∀ y : Str, y ≠ "__name__" → mb y = bootBuiltins y) (lim : s1.heap.NoLimit) (gens : s1.gens = #[])
    (ha : s1.heap.get? a = some { cls := .type "list", data := .seq vs.toArray }) (hi : IntsAre vs ns) (hl : ns.length ≤ sizeLine) (hr : Room k callerA)
    (F : ∀ base : Heap, K.In base → base.Ns mainGlobals mg → GOk P w K mg base CX k fa fd [x] sp) (hbind : ∀ (s : Shared) (u : Value), BindsTo s fd ⟨[u], []⟩ [(x, u)])
    (hsp : ∀ H : Hp, Only H → SqL K H a (ns.map V.int) → sp [.ref a] H (fun v _ => v = .bl true) fun _ _ _ => False)
    (hCX : ∀ H e t, CX [] H s1 (fun _ _ _ => False) e t → False) :
    codeAny (model P w) callerA (.call (.ref fa) ⟨[.ref a], []⟩) (fun r t => r = .ok (.ret (.bool true)) ∧ OldK s1.heap t.heap ∧ t.os = s1.os ∧ AllBare t.gens) s1 := by
  have rv := vals_ints hi
  have nv := hi.length
  have go : ∀ H : Hp, Only H → SqL K H a (ns.map V.int) → HOk P w H s1.heap → (∀ b, H b ≠ none → b = a) → (H a ≠ none → K.lookup a = none) →
      codeAny (model P w) callerA (.call (.ref fa) ⟨[.ref a], []⟩) (fun r t => r = .ok (.ret (.bool true)) ∧ OldK s1.heap t.heap ∧ t.os = s1.os ∧ AllBare t.gens) s1 := by
    intro H hO hS hok only_a noK
    have hid : ∀ {b : Addr} {o : Obj}, s1.heap.get? b = some o → H b = none → (hidT s1.heap H).get? b = some o := fun e n => hidT_get e n
    have dictFree : ∀ {b : Addr} {o : Obj} {es : Array DictEntry} {ep : Nat}, s1.heap.get? b = some o → o.data = .dict es ep → H b = none := fun {b o es ep} e d => by
      cases q : H b with
      | none => rfl
      | some u =>
        have eb : b = a := only_a b (by rw [q]; simp)
        subst eb
        rw [ha] at e
        cases e
        have d2 : Data.seq vs.toArray _ = Data.dict es ep := d
        cases d2
    have nsOf : ∀ {b : Addr} {m : Str → Option Value}, s1.heap.Ns b m → (hidT s1.heap H).Ns b m := fun {b m} ⟨o, es, ep, e, d, r⟩ => ⟨o, es, ep, hid e (dictFree e d), d, r⟩
    have inB : K.In (hidT s1.heap H) := fun b o e => hid (KX b o e) (by
      cases q : H b with
      | none => rfl
      | some u =>
        have eb : b = a := only_a b (by rw [q]; simp)
        subst eb
        rw [noK (by rw [q]; simp)] at e
        cases e)
    have md : Mod K mg (hidT s1.heap H) := ⟨inB, nsOf hns, ⟨mb, nsOf hb, hbb⟩, let ⟨mc, c1, c2⟩ := lim; ⟨mc, nsOf c1, c2⟩⟩
    have e0 : Env0 P w K mg (hidT s1.heap H) callerA [] s1 H := ⟨rfl, md, fun b o e => of_hidT e, Nat.le_of_eq (hidT_size _ _), trivial, fun b hb => absurd (show b ∈ ([] : List Addr) from hb) (by simp), hok, .of_eq gens⟩
    refine codeAny_mono ((F _ inB (nsOf hns)).run callerA [] s1 H ⟨[.ref a], []⟩ [.ref a] [.ref a] _ _ hr rfl e0 (hbind s1 (.ref a)) (.cons rfl .nil) (hsp H hO hS)) fun r t h => ?_
    cases r with
    | error e => exact (hCX H e t h).elim
    | ok fl =>
      cases fl with
      | next => exact h.elim
      | brk => exact h.elim
      | cont => exact h.elim
      | ret u =>
        obtain ⟨v, H', os, bare, un, hok', r', q⟩ := h
        have q' : v = .bl true := q
        subst q'
        obtain rfl : u = Value.bool true := r'
        refine ⟨rfl, OldK.of_keep fun b o e => ?_, os, bare⟩
        cases q : H b with
        | none => exact un.keep b o e q (by intro z; exact absurd (show b ∈ ([] : List Addr) from z) (by simp)) (by simp)
        | some u =>
          rcases hO b with z | ⟨ob, xs, z⟩
          · rw [q] at z
            cases z
          · have z2 := un.frzs b ob _ z
            obtain ⟨e1, _⟩ := hok b _ z
            obtain ⟨e2, _⟩ := hok' b _ z2
            rw [e] at e1
            cases e1
            exact e2
  cases hk : K.lookup a with
  | some o =>
    have e := KX a o hk
    rw [ha] at e
    cases e
    refine go (fun _ => none) (fun _ => .inl rfl) (.inr ⟨_, vs.toArray, _, hk, rfl, rfl, rfl, by rw [List.size_toArray, nv]; exact hl, by simpa using rv⟩) (fun b u z => by have z' : (none : Option HO) = some u := z; cases z') (fun b z => absurd rfl z) fun z => absurd rfl z
  | none =>
    refine go (fun b => if b = a then some (.frz { cls := .type "list", data := .seq vs.toArray } (.lst (ns.map V.int))) else none) (fun b => ?_) (.inl (.inr ⟨{ cls := .type "list", data := .seq vs.toArray }, if_pos rfl⟩)) (fun b u z => ?_) (fun b z => ?_) fun _ => hk
    · by_cases c : b = a
      · exact .inr ⟨_, _, if_pos c⟩
      · exact .inl (if_neg c)
    · by_cases c : b = a
      · have z' := (if_pos c).symm.trans z
        cases z'
        subst c
        exact ⟨ha, by rw [List.length_map]; exact hl, vs, _, rv, ha⟩
      · have z' := (if_neg c).symm.trans z
        cases z'
    · by_cases c : b = a
      · exact c
      · exact absurd (if_neg c) z
theorem walk_gof {l : PySem.W.OpenLaw} {n k : Nat} {q : Program} {loose : List Str} {XP : (Str → Option Value) → Heap → Prop} {YP : World → Heap → Prop} {d : DefRec} {K : Params → PySem.W.Frag} {CX : World → CXT} {sp : World → Sp} {x : Str}
    (hn : l.most = some n) (hn2 : n ≤ sizeLine) (hdf : d.params.defaults = []) (hr : Room k callerA)
    (hY : ∀ (w : World) (h : Heap), YP w h → (K w.params).In h)
    (F : ∀ (w : World) (mg : Str → Option Value) (fa : Addr) (h : Heap), (K w.params).In h → h.Ns mainGlobals mg → mg d.name = some (.ref fa) →
      ∃ fd : FuncData, (∀ (s : Shared) (u : Value), BindsTo s fd ⟨[u], []⟩ [(x, u)]) ∧
        ∀ base : Heap, (K w.params).In base → base.Ns mainGlobals mg → GOk l.prog w (K w.params) mg base (CX w) k fa fd [x] (sp w))
    (hsp : ∀ (w : World) (H : Hp) (a : Addr) (ns : List Int), ns.length ≤ n → Only H → SqL (K w.params) H a (ns.map V.int) → sp w [.ref a] H (fun v _ => v = .bl true) fun _ _ _ => False)
    (hCX : ∀ (w : World) (H : Hp) (s : Shared) (e : Value) (t : Shared), CX w [] H s (fun _ _ _ => False) e t → False) :
    PySem.W.WalkO q loose XP YP l.row.toRowW d [] (fun f vs => PySem.call f vs) := by
  refine Att.attach_call hn hdf fun w s0 s1 mg mb fa o pm cd doc a vs ns G Y ho hd hcd hmg hobj hints hlen hg => ?_
  have KX := hY w _ Y
  obtain ⟨fd, hb, hF⟩ := F w mg fa _ KX G.T.g hmg
  exact law_gcall KX G.T.g G.T.b G.T.builtins G.T.nolimit hg hobj hints (Nat.le_trans hlen hn2) hr hF hb (fun H hO hS => hsp w H a ns hlen hO hS) fun H e t => hCX w H s1 e t
end Rp

/-! try: .. except A as n: .. except B as m: .. (any number of clauses, each with its name). -/
namespace Ta
open PySem PySem.Spec PyProof.Rows L2
/-- one clause: the class that it names, the slot of its name, what its suite does -/
structure Hd where
  c : Value
  i : Nat
  ts : Addr → Value → Option Addr → TS
/-- behind a suite its name is gone -/
def Off (D : Ends) (i : Nat) : Ends where
  nx σ H := D.nx (σ.set i none) H
  rt := D.rt
  bk σ H := D.bk (σ.set i none) H
  ct σ H := D.ct (σ.set i none) H
/-- what the clauses ask of an exception that comes out of the body -/
def wish (K : PySem.W.Frag) (W : WX) (D : Ends) : List Hd → WX
  | [] => W
  | h :: r => fun cls d σ H => ∃ y, PySem.W.exmOne K cls h.c = some y ∧
      (y = true → ∀ a, H a = none → h.ts a cls d (Off D h.i) (σ.set h.i (some (.ref a))) H) ∧ (y = false → wish K W D r cls d σ H)
inductive Hds (X : Cx) : List ExceptHandler → List Hd → Prop
  | nil : Hds X [] []
  | cons {h : Hd} {x n : Str} {b₀ : Stmt} {rows : List Stmt} {p q : Pos} {hs : List ExceptHandler} {l : List Hd}
      (hi : X.N[h.i]? = some n) (hl : X.env.kindOf n = some .local) (hc : Names X x h.c)
      (hr : ∀ (a : Addr) (oe : Obj) (cls : Value) (d : Option Addr) (pn : List (Addr × Obj)), Zc cls d oe → (∃ vs, oe.data = .fields vs) →
        PSs (X.suite a ((a, oe) :: pn)) (b₀ :: rows) (h.ts a cls d))
      (t : Hds X hs l) : Hds X (.ExceptHandler (some (.Name x p)) (some n) (b₀ :: rows) q :: hs) (h :: l)
section
variable {X : Cx} {body : List Stmt} {hs : List ExceptHandler} {l : List Hd} {pos : Pos} {tb : WX → TS} {W : WX}
/-- how the body's own end is the whole one's -/
theorem calm_end {pins : List (Addr × Obj)} {D : Ends} {xe : Value → Shared → Prop} (ok : X.Ok) {f : Flow} {s : Shared} (h : SP (X.tr (X.pn ++ pins) xe) [] D f s) : SP X pins D f s := by
  cases f with
  | ret u =>
    obtain ⟨v, σ, H, J, r, q⟩ := h
    exact ⟨v, σ, H, J.ofTry ok, r, q⟩
  | next => obtain ⟨σ, H, J, q⟩ := h; exact ⟨σ, H, J.ofTry ok, q⟩
  | brk => obtain ⟨σ, H, J, q⟩ := h; exact ⟨σ, H, J.ofTry ok, q⟩
  | cont => obtain ⟨σ, H, J, q⟩ := h; exact ⟨σ, H, J.ofTry ok, q⟩
/-- an exception has landed at a: the clauses are asked one behind the other -/
theorem asked {pins : List (Addr × Obj)} {D : Ends} {a : Addr} {B h3 : Heap} {sI s' : Shared} {σ : L2.St} {H : Hp} {cls : Value} {d : Option Addr} (stk : X.stack = X.env :: X.outer) (fr : X.env.frame = some X.env.locals) (nd : X.N.Nodup) (tk : Takes X W)
    (J : Inv X pins σ H sI) (nb : ∀ b o, sI.heap.get? b = some o → b ∉ frs X.stack → B.get? b = some o) (up : sI.heap.UpToSlots s'.heap) (up3 : s'.heap.UpToSlots h3) (na : H a = none) (os : s'.os = sI.os) (ag : AllBare s'.gens)
    (fl : HandSPX.FlyingZ B (X.env :: X.outer) a (Zc cls d) h3) : ∀ {hs : List ExceptHandler} {l : List Hd}, Hds X hs l → wish X.K W D l cls d σ H →
    wpAny (model X.prog X.w) X.A (handleBy (.ref a) X.env hs) (SP X pins D) X.xe { s' with heap := h3 } := by
  have free : ∀ {g : Heap} {o : Obj} {vs : Array Value}, HandSPX.FlyingZ B (X.env :: X.outer) a (Zc cls d) g → g.get? a = some o → o.data = .fields vs → a ≠ X.env.locals ∧ a ∉ X.fs := by
    intro g o vs fg eo ed
    have out : a ∉ frs (X.env :: X.outer) := by
      intro m
      obtain ⟨_, o2, e2, no⟩ := fg.2.2.1.mem m
      cases eo.symm.trans e2
      exact no _ ed
    constructor
    · intro z
      exact out (List.mem_filterMap.mpr ⟨X.env, by simp, by rw [fr, z]⟩)
    · intro m
      obtain ⟨e, me, q⟩ := List.mem_filterMap.mp m
      exact out (List.mem_filterMap.mpr ⟨e, by simp [me], q⟩)
  intro hs l hk
  induction hk with
  | nil =>
    intro hW
    obtain ⟨_, _, _, oe, vs, _, _, _, eo, _, ed, e1, _⟩ := id fl
    refine wpAny_handleBy_nil ?_
    have out : wpAny (model X.prog X.w) X.A (setFlight (.ref a) X.env.frame) (fun _ t => wpAny (model X.prog X.w) X.A (throw (.ref a) : Sem Flow) (SP X pins D) X.xe t) X.xe { s' with heap := h3 } := by
      rw [fr]
      refine HandSPX.setFlight_upZ fl fun g hg ug => ?_
      have sky : Sky B X.stack a (Zc cls d) X.env.locals g := by
        rw [stk]
        exact .inr (.inr hg)
      exact wpAny_throw (tk _ _ ⟨a, B, sI, pins, σ, H, cls, d, rfl, J, nb, (up.trans up3).trans ug, sky, na, os, ag, hW⟩)
    unfold PySem.passOn
    refine wpAny_bind (wpAny_field eo ed e1 ?_)
    rw [if_neg (by simp)]
    first
      | exact wpAny_bind out
      | exact wpAny_bind (wpAny_pure (wpAny_bind out))
  | @cons h x n b₀ rows p q hs l hi hl hc hr t ih =>
    rintro ⟨y, ey, yes, no⟩
    obtain ⟨oe, vs, eo, ez, ed⟩ := fl.there
    obtain ⟨n1, n2⟩ := free fl eo ed
    have J3 := J.landed nb fl.1 (s' := { s' with heap := h3 }) (up.trans up3) os ag
    have S3 := J3.suite eo ed na n1 n2
    have kind : PySem.W.Looks (model X.prog X.w) h3 (typeOf (.ref a)) cls := by
      intro A Q E z k q
      refine wpAny_typeOf_ref (k _ _ eo) ?_
      rw [ez.1]
      exact q
    have one := PySem.W.exm_one (M := model X.prog X.w) J3.kIn kind ey
    refine wpAny_handleBy_cons (codeAny_handlers_test ?_) (by intro z; cases z)
    have name : ∀ {Q E : Value → Shared → Prop}, Q h.c { s' with heap := h3 } → wpAny (model X.prog X.w) (X.A.mark (some (.ref a))) (eval (.Name x p) X.env) Q E { s' with heap := h3 } := by
      intro Q E qq
      rcases hc with ⟨g1, g2, g3 | ⟨g3, g4, g5⟩⟩
      · exact ld_glob (X := X.suite a ((a, oe) :: (X.pn ++ pins))) S3 g1 g3 qq g2
      · exact ld_blt (X := X.suite a ((a, oe) :: (X.pn ++ pins))) S3 g1 g3 g4 qq g5 g2
    refine name (one.here ?_)
    cases y with
    | false => exact ih (no rfl)
    | true =>
      refine codeAny_handlers_suite_as ?_
      refine HandSPX.lands_againZ fl fun g fg ug => ?_
      obtain ⟨oe2, vs2, eo2, ez2, ed2⟩ := fg.there
      obtain ⟨m1, m2⟩ := free fg eo2 ed2
      have J4 := J.landed nb fg.1 (s' := { s' with heap := g }) ((up.trans up3).trans ug) os ag
      refine store_ok (X := X.suite a ((a, oe2) :: (X.pn ++ pins))) (v := .ref a) (J4.suite eo2 ed2 na m1 m2) nd hi (.inl hl) rfl (fun s5 S5 => ?_) (.inr hl)
      have body := (hr a oe2 cls d (X.pn ++ pins) ez2 ⟨_, ed2⟩).run [] s5 _ H _ S5 (yes rfl a na)
      refine wpAny_mono body (fun f s6 end6 => ?_) fun _ _ z => z.elim
      have ok := J.ok
      cases f with
      | ret u =>
        obtain ⟨v6, σ6, H6, S6, r6, q6⟩ := end6
        exact gone_ok (S6.unsuite ok) nd hi hl fun s7 J7 => ⟨_, _, _, J7, r6, q6⟩
      | next =>
        obtain ⟨σ6, H6, S6, q6⟩ := end6
        exact gone_ok (S6.unsuite ok) nd hi hl fun s7 J7 => ⟨_, _, J7, q6⟩
      | brk =>
        obtain ⟨σ6, H6, S6, q6⟩ := end6
        exact gone_ok (S6.unsuite ok) nd hi hl fun s7 J7 => ⟨_, _, J7, q6⟩
      | cont =>
        obtain ⟨σ6, H6, S6, q6⟩ := end6
        exact gone_ok (S6.unsuite ok) nd hi hl fun s7 J7 => ⟨_, _, J7, q6⟩
theorem ps_try_ass {h₀ : ExceptHandler} {h1 : Hd} (stk : X.stack = X.env :: X.outer) (fr : X.env.frame = some X.env.locals) (nd : X.N.Nodup) (tk : Takes X W)
    (hb : ∀ (U : WX) (pn : List (Addr × Obj)) (xe : Value → Shared → Prop), Takes (X.tr pn xe) U → PassesOwn (model X.prog X.w) X.A X.env xe → PSs (X.tr pn xe) body (tb U))
    (hh : Hds X (h₀ :: hs) (h1 :: l)) : PS X (.Try body (h₀ :: hs) [] [] pos) (fun D σ H => tb (wish X.K W D (h1 :: l)) D σ H) := by
  constructor
  intro pins s σ H D I go
  have ok := I.ok
  refine wpAny_Try_except ?_
  have run := (hb (wish X.K W D (h1 :: l)) (X.pn ++ pins) (fun e t1 => wpAny (model X.prog X.w) X.A (noteFrame e X.env) (fun _ t2 =>
    wpAny (model X.prog X.w) X.A (setFlight e none) (fun _ t3 => wpAny (model X.prog X.w) X.A (handleBy e X.env (h₀ :: hs)) (SP X pins D) X.xe t3) X.xe t2) X.xe t1) ?_ PassesOwn.looking).run [] s σ H D (I.toTry _) go
  · refine wpAny_mono run (fun f s1 e1 => ?_) fun _ _ z => z
    have e2 := calm_end ok e1
    cases f with
    | next => exact wpAny_execs_nil e2
    | ret u => exact e2
    | brk => exact e2
    | cont => exact e2
  · intro u s' xx
    obtain ⟨a, B, sI, pins2, σ', H', cls, d, rfl, J', nb, up, sky, na, os, ag, hw⟩ := xx
    have sky2 : Sky B (X.env :: X.outer) a (Zc cls d) X.env.locals s'.heap := by
      rw [← stk]
      exact sky
    show wpAny (model X.prog X.w) X.A (noteFrame (.ref a) X.env) _ _ _
    exact Sky.land Zc.steady (by rw [ok.frames, stk]) fr sky2 fun h3 fl up3 => asked stk fr nd tk (J'.ofTry ok) nb up up3 na os ag fl hh hw
end
end Ta

/-! isinstance of a caught error with a dict of its own; == over data without dicts; text * int. -/
namespace Xe
open PySem PySem.Spec PyProof.Rows L2
/-- isinstance(e, c), e the error of the class at C that the suite holds, with its own dict -/
def rIsD (K : PySem.W.Frag) (C a : Addr) (cls : Value) (d : Option Addr) : List V → Hp → VK → Prop := fun xs H Q => ∃ (c : V) (cv : Value) (b : Bool) (dd : Addr) (fs : List (Str × V)), xs = [.ref a, c] ∧ cls = .ref C ∧ d = some dd ∧ H dd = some (.xd fs) ∧ (∀ u, RelV c u → u = cv) ∧
  PySem.W.kitOne K (.ref C) cv = some b ∧ Q (.bl b) H
theorem call_isD {X : Cx} {a C : Addr} {oe : Obj} {cls : Value} {d : Option Addr} {pn : List (Addr × Obj)} (EC : ExcC X.K C) (hcl : (PySem.W.clsIn X.K C).isSome = true) (hz : Zc cls d oe) (hf : ∃ vs, oe.data = .fields vs) : CallR (X.suite a ((a, oe) :: pn)) (.builtin "isinstance") (rIsD X.K C a cls d) := by
  intro pins s σ H xs us Q I r h
  obtain ⟨c, cv, b, dd, fs, rfl, ec, ed, hH, hcv, e, q⟩ := h
  subst ec ed
  cases r with
  | cons rx rr =>
    cases rr with
    | cons rt rr =>
      cases rr
      cases rx
      have ec := hcv _ rt
      subst ec
      obtain ⟨hget, _⟩ := I.pin (a, oe) (List.mem_append.mpr (.inl List.mem_cons_self))
      obtain ⟨vs, hd⟩ := hf
      have hx : ObjOk X.prog X.w H s.heap dd (.xd fs) := I.hok dd _ hH
      obtain ⟨mA, hns, hr⟩ := hx
      obtain ⟨od, ho, hl⟩ := lookIn_ns hns
      have J : PySem.W.InstAt s.heap a oe C (some od) := ⟨hget, hz.1, by unfold PySem.W.notCls; rw [hd] <;> rfl, by rw [hz.2]; exact ho⟩
      exact PySem.W.kia_one (PySem.W.kitx_exc hcl EC.hg EC.hk EC.hs EC.ha EC.hn EC.ht EC.hm) I.kIn J e (fun z => nomatch z) fun tk => ⟨.bl b, H, I.kept (t' := tk) fun _ _ z => z, rfl, q⟩
section
variable {X : Cx}
/-- text * int, the int positive -/
def rMulS : R2 := fun x y H Q => ∃ z n, x = .str z ∧ y = .int (n : Nat) ∧ 1 ≤ n ∧ z.length * n ≤ 1000000 ∧ n ≤ 1000000 ∧ ∀ o : Str, o.cps.toList = (List.replicate n z.cps.toList).flatten → Q (.str o) H
end
end Xe

/-! iter(text) as a value; list(x), x with an __iter__ that gives such a one, and an own __len__; yield from a list. -/
namespace Si2
open PySem PySem.Spec PyProof.Rows L2 ItX
abbrev AIt (h : Heap) (it : Addr) (x : Str) (i : Nat) : Prop := ∃ t, h.IsStrIter it "str_ascii_iterator" x t i
def sgs (x : Str) : List V := x.cps.toList.map fun c => V.str ⟨#[c]⟩
/-- an iterator of the text x, not begun -/
def SiO (x : Str) (it : Addr) : HO := .ext fun h => AIt h it x 0
theorem si_at {h h' : Heap} {it : Addr} {x : Str} {i : Nat} (y : AIt h it x i) (k : ∀ o, h.get? it = some o → h'.get? it = some o) : AIt h' it x i := by
  obtain ⟨t, o, e, r⟩ := y
  exact ⟨t, o, k o e, r⟩
theorem si_ok {P : Program} {w : World} {H : Hp} {h : Heap} {it : Addr} {x : Str} (y : AIt h it x 0) : ObjOk P w H h it (SiO x it) :=
  ⟨y, by obtain ⟨_, o, e, _⟩ := y; exact ⟨o, e⟩, fun _ _ p k => si_at p k⟩
theorem ai_ty {s : Shared} {it : Addr} {x : Str} {i : Nat} (y : AIt s.heap it x i) : s.TypeIs (.ref it) "str_ascii_iterator" := let ⟨_, o, e, c, _⟩ := y; ⟨o, e, c⟩
def rIterS : List V → Hp → VK → Prop := fun xs H Q => ∃ x : Str, xs = [.str x] ∧ x.cps.all (· < 128) = true ∧ ∀ it, H it = none → (∀ b o, H b = some o → b < it) → Q (.ref it) (upd H it (SiO x it))
section
variable {X : Cx}
theorem call_iterS : CallR X (.builtin "iter") rIterS := by
  intro pins s σ H xs us Q I r h
  obtain ⟨x, rfl, ha, q⟩ := h
  obtain ⟨u, rfl, ru⟩ := r.one
  obtain ⟨t, rfl⟩ := ru
  refine Calls.call_function_entry (by decide +kernel) (by decide +kernel) PySem.W.kdk_entry_iter (PySem.W.kdk_args_iter _) ?_
  unfold Builtin.«iter»
  refine wpAny_bind (m := someArgs "iter" 1 2 _) (wpAny_of_eq (a := [Value.str x t]) (by first | rfl | kernel_rfl!) ?_)
  show wpAny _ _ (pyIter (.str x t) >>= _) _ _ _
  refine wpAny_bind (wpAny_pyIter_ascii ha (wpAny_pure ⟨_, rfl, ?_⟩))
  refine ⟨.ref s.heap.objs.size, _, I.laid (t' := s.toks) (fun b u e => Heap.get?_push_of_some _ e) (Nat.le_refl _) (si_ok ⟨t, _, Heap.get?_push_size _ rfl, rfl, rfl⟩), rfl, q _ (I.hok.fresh (Nat.le_refl _)) fun b o e => ?_⟩
  exact (I.hok b o e).lt
end
section
variable {X : Cx} {pins : List (Addr × Obj)} {σ : L2.St} {q it : Addr} {x : Str} {A1 : Around} {Rs : Result → Shared → Prop}
/-- the list at q takes what the iterator gives -/
theorem fill (hh : A1.in1.handled = none) (few : (sgs x).length ≤ 1000) : ∀ (k i : Nat) (H : Hp) (s : Shared), (sgs x).length - i = k → i ≤ (sgs x).length → Inv X pins σ H s → H q = some (.lst ((sgs x).take i)) → FpOk X pins H it → AIt s.heap it x i →
    (∀ s', Inv X pins σ (upd H q (.lst (sgs x))) s' → Rs (.ok (.ret .none)) s') → codeAny (model X.prog X.w) A1 (.builtin "list.extend.loop" ⟨[.ref q, .ref it, .none], []⟩) Rs s := by
  intro k
  have sz := sizeLine_eq
  induction k with
  | zero =>
    intro i H s hk hi I hq fp st hd
    have e : i = (sgs x).length := by omega
    subst e
    obtain ⟨t, st⟩ := st
    obtain ⟨f0, f1, f2, f3, f4, f5⟩ := fp
    refine codeAny_builtin PySem.F.entry_extend_loop ?_
    rw [Around.under_plainId PySem.F.plain_extend_loop _]
    show wpAny _ A1.in1 (pyNext (.ref it) >>= _) _ _ s
    refine wpAny_bind (wpAny_pyNext_ascii_end hh st (Array.getElem?_eq_none (by rw [← Array.length_toList]; show x.cps.toList.length ≤ (sgs x).length; simp [sgs])) fun h' ex => ?_)
    have I1 := I.turned (t' := s.toks) (h' := h') (fun b o nb e => ex b o nb e) f0 f1 f3 f4 f5
    rw [List.take_length] at hq
    have e : upd H q (.lst (sgs x)) = H := by
      funext b
      by_cases c : b = q
      · rw [c, upd_same, hq]
      · rw [upd_ne c]
    exact wpAny_pure (hd _ (by rw [e]; exact I1))
  | succ k ih =>
    intro i H s hk hi I hq fp st hd
    have lt : i < (sgs x).length := by omega
    obtain ⟨t, st⟩ := st
    have lt2 : i < x.cps.size := by rw [← Array.length_toList]; simpa [sgs] using lt
    obtain ⟨f0, f1, f2, f3, f4, f5⟩ := id fp
    refine codeAny_builtin PySem.F.entry_extend_loop ?_
    rw [Around.under_plainId PySem.F.plain_extend_loop _]
    show wpAny _ A1.in1 (pyNext (.ref it) >>= _) _ _ s
    refine wpAny_bind (wpAny_pyNext_ascii_item st (c := x.cps[i]) (Array.getElem?_eq_getElem lt2) fun h' st' sb => ?_)
    have I1 := I.turned (t' := s.toks + 1) (h' := h') (fun b o nb e => (sb.2 b nb).trans e) f0 f1 f3 f4 f5
    obtain ⟨z, ls, kk, r2, hl, e⟩ := I1.lstM hq
    have ll := r2.length
    rw [List.length_take] at ll
    show wpAny _ A1.in1 (updateSeq q (·.push (.str ⟨#[x.cps[i]]⟩ s.toks)) >>= _) _ _ _
    have nq : it ≠ q := fun c => by rw [← c, f0] at hq; cases hq
    refine wpAny_bind (wpAny_updateSeq e rfl (wpAny_pure ⟨plainId_quiet PySem.F.plain_extend_loop _, ?_⟩) (by rw [List.size_toArray]; omega) (by show (ls.toArray.push (.str ⟨#[x.cps[i]]⟩ s.toks)).size ≤ sizeLine + 1; rw [Array.size_push, List.size_toArray]; omega))
    have I2 := I1.lset (f := (·.push (.str ⟨#[x.cps[i]]⟩ s.toks))) (its' := ls ++ [.str ⟨#[x.cps[i]]⟩ s.toks]) (t' := s.toks + 1) hq e (by simp) (ys := (sgs x).take i ++ [V.str ⟨#[x.cps[i]]⟩]) (r2.append (.cons ⟨_, rfl⟩ .nil)) (by rw [List.length_append, List.length_singleton, List.length_take]; omega)
    have tk : (sgs x).take i ++ [V.str ⟨#[x.cps[i]]⟩] = (sgs x).take (i + 1) := by rw [List.take_add_one, List.getElem?_eq_getElem lt]; simp [sgs]
    rw [tk] at I2
    refine ih (i + 1) _ _ (by omega) lt I2 upd_same ⟨by rw [upd_ne nq]; exact f0, f1, f2, f3, f4, f5⟩ (si_at ⟨t, st'⟩ fun o e => (Heap.get?_update_other _ _ (Ne.symm nq)).trans e) fun s' I' => hd s' (by rw [upd_upd] at I'; exact I')
end
section
variable {X : Cx} {C fi fl : Addr} {spI spL : Sp} {EI EL : XK} {n : Nat}
/-- list(x): its __iter__ gives an iterator of a tuple, its __len__ a number -/
def rListItS (K : PySem.W.Frag) (C : Addr) (spI spL : Sp) (EI EL : XK) : List V → Hp → VK → Prop := fun xs H Q => ∃ a dx fs, xs = [.ref a] ∧ H a = some (.ins C dx fs) ∧ ∀ q, H q = none → spI [.ref a] (upd H q (.lst []))
  (fun v H1 => ∃ it x, v = .ref it ∧ H1 it = some (SiO x it) ∧ q < it ∧ (sgs x).length ≤ 1000 ∧ H1 q = some (.lst []) ∧ H1 a = some (.ins C dx fs) ∧
    spL [.ref a] H1 (fun z H2 => ∃ i : Int, z = .int i ∧ 0 ≤ i ∧ i < 1000 ∧ H2 = H1 ∧ Q (.ref q) (upd (dropH H1 it) q (.lst (sgs x)))) EL) EI
theorem call_listItS (hs : PySem.W.findIn X.K (.ref C) "__iter__" = some (some (.ref fi))) (hf : PySem.W.isFn X.K (.ref fi) = true) (hl : PySem.W.findIn X.K (.ref C) "__len__" = some (some (.ref fl))) (hlf : PySem.W.isFn X.K (.ref fl) = true)
    (FI : FnR X.prog X.w X.K X.mg X.base CX0 n fi spI) (FL : FnR X.prog X.w X.K X.mg X.base CX0 n fl spL) (hc : X.calm = true) (hr : Room (n + 4) X.A) : CallR X (.type "list") (rListItS X.K C spI spL EI EL) := by
  intro pins s σ H xs us Q I rv h
  obtain ⟨a, dx, fs, rfl, ha, hq⟩ := h
  obtain ⟨u, rfl, ru⟩ := rv.one
  cases (show u = Value.ref a from ru)
  have sb : Sub X (n + 1) X.A.in1.in1.in1 := Sub.in1 (Sub.in1 (Sub.in1 ⟨hr, rfl⟩))
  refine callType_codes (Q₁ := fun obj s₁ => obj = .ref s.heap.objs.size ∧ s₁ = { s with heap := s.heap.push { cls := .type "list", data := .seq #[] } })
    PySem.F.called_list (PySem.F.typeCall_list_1 _) PySem.F.entry_list_init (code_list_new _ ⟨rfl, rfl⟩) fun obj s₁ h₁ => ?_
  obtain ⟨rfl, rfl⟩ := h₁
  have hS : (s.heap.push { cls := .type "list", data := .seq #[] }).get? s.heap.objs.size = some { cls := .type "list", data := .seq #[] } := Heap.get?_push_size _ rfl
  refine ⟨⟨_, hS, rfl⟩, PySem.F.args_list_init_2 _ _, ?_⟩
  have fr : H s.heap.objs.size = none := I.hok.fresh (Nat.le_refl _)
  have hsp := hq _ fr
  have young : X.s_0.heap.objs.size ≤ s.heap.objs.size := I.sz
  have I1 : Inv X pins σ (upd H s.heap.objs.size (.lst [])) { s with heap := s.heap.push { cls := .type "list", data := .seq #[] } } := I.lnew (its := []) (t' := s.toks) .nil (Nat.zero_le _)
  show wpAny _ _ (Builtin.List.listItems (.ref s.heap.objs.size) >>= fun old => Builtin.List.listUpdate (.ref s.heap.objs.size) (fun _ => #[]) >>= fun _ => letGo old.toList.reverse >>= fun _ => Builtin.List.listExtendWith (.ref s.heap.objs.size) (.ref a) .none) _ _ _
  refine wpAny_bind ?_
  unfold Builtin.List.listItems
  refine wpAny_bind (wpAny_seqItems hS rfl (wpAny_pure ?_))
  show wpAny _ _ (updateSeq s.heap.objs.size (fun _ => #[]) >>= fun _ => letGo (#[] : Array Value).toList.reverse >>= fun _ => Builtin.List.listExtendWith (.ref s.heap.objs.size) (.ref a) .none) _ _ _
  refine wpAny_bind (wpAny_updateSeq hS rfl ?_)
  have I2 := I1.lset (f := fun _ => #[]) (its := []) (its' := []) (ys := []) (t' := s.toks) upd_same hS rfl .nil (Nat.zero_le _)
  rw [upd_upd] at I2
  refine wpAny_bind (wpAny_letGo ?_)
  have ha2 : upd H s.heap.objs.size (.lst []) a = some (.ins C dx fs) := by rw [upd_ne (ne_of_none ha fr)]; exact ha
  have nqa : s.heap.objs.size ≠ a := (ne_of_none ha fr).symm
  have low : s.heap.objs.size < ({ s with heap := (s.heap.push { cls := .type "list", data := .seq #[] }).update s.heap.objs.size (Obj.mapSeq fun _ => #[]) } : Shared).heap.objs.size := (I2.hok _ _ upd_same).lt
  generalize hq0 : s.heap.objs.size = q at *
  generalize ({ s with heap := (s.heap.push { cls := .type "list", data := .seq #[] }).update q (Obj.mapSeq fun _ => #[]) } : Shared) = s1 at *
  generalize hH1 : upd H q (.lst []) = H1 at *
  have hq1 : H1 q = some (.lst []) := by rw [← hH1]; exact upd_same
  obtain ⟨ox, od, J⟩ := Ow.ins_at I2 ha2
  obtain ⟨m0, hF⟩ := I2.fr
  unfold Builtin.List.listExtendWith
  refine wpAny_bind (J.type.here ?_)
  have b1 : Builtin.List.listSameRef (.ref q) (.ref a) = false := by simp [Builtin.List.listSameRef, nqa]
  have b2 : (Value.ref C == Value.type "list") = false ∧ (Value.ref C == Value.type "tuple") = false := ⟨rfl, rfl⟩
  simp only [b1, b2.1, b2.2, Bool.or_false, Bool.false_eq_true, if_false]
  refine wpAny_bind (PySem.W.owit_iter hF I2.ok.mod.kin J hs hf ?_)
  have env : ∀ {s2 : Shared} {H2 : Hp}, Inv X pins σ H2 s2 → Env0 X.prog X.w X.K X.mg X.base X.A.in1.in1 X.stack s2 H2 := fun I => by
    have e := I.env0
    exact ⟨e.frames, e.mod, e.bs, e.bsz, e.funs, e.frf, e.hok, e.bare⟩
  have room0 : Room (n + 1) X.A.in1.in1 := (hr.in1.in1).mono (by omega)
  have room1 : Room n X.A.in1.in1 := room0.mono (by omega)
  refine wpAny_mono (wpAny_call (Li.sure_at (us := [.ref a]) (ws := [.ref a]) FI room1 (env I2) I2 (.cons rfl .nil) hsp)) (fun v s3 hv => ?_) fun _ _ x => x.elim
  obtain ⟨v', H3, I3, rv3, it, x, rfl, hit, qlt, few, hq3, ha3, hsp2⟩ := hv
  cases (show v = Value.ref it from rv3)
  have st3 : AIt s3.heap it x 0 := (I3.hok it _ hit).1
  unfold PySem.W.OwitIt
  refine wpAny_specialOf (name := Str.ofString "__next__") (ai_ty st3) PySem.F.slot_str_ascii_iterator_next.lookup ?_
  refine wpAny_bind (wpAny_holding ?_)
  unfold Builtin.List.listLengthHint
  obtain ⟨ox3, od3, J3⟩ := Ow.ins_at I3 ha3
  obtain ⟨m3, hF3⟩ := I3.fr
  refine wpAny_bind (wpAny_bind (J3.type.here ((PySem.W.looks_findIn I3.kIn hl).here ?_)))
  refine PySem.W.KFB.if_not rfl ?_
  refine wp_if_pos rfl (wpAny_bind (wpAny_rule (wpAny_bind (wpAny_attempt ?_))))
  refine PySem.W.len_K hF3 I3.ok.mod.kin J3 hl hlf (wpAny_mono (wpAny_call (Li.sure_at (us := [.ref a]) (ws := [.ref a]) FL (room0.in1) (env I3).in1 I3 (.cons rfl .nil) hsp2)) (fun w s4 z => ?_) fun _ _ x => x.elim)
  obtain ⟨z', H4, I4, rz, i, rfl, h0, h1, rfl, qz⟩ := z
  obtain ⟨tk, e⟩ := (show ∃ tk, w = Value.int i tk from rz)
  cases e
  refine ⟨⟨h0, by omega⟩, ?_⟩
  dsimp only
  refine wpAny_bind (wpAny_of_eq (a := some i) rfl ?_)
  have sl := sizeLine_eq
  refine wp_if_neg (by unfold Builtin.List.listTooLong; rw [decide_eq_true_eq]; omega) (wpAny_pure ?_)
  have I5 := inv_drop (I4.tok (s4.toks + 1)) hit
  have fp : FpOk X pins (dropH H4 it) it := inv_fp I4 hit (Nat.le_trans young (Nat.le_of_lt qlt))
  have nqi : q ≠ it := Nat.ne_of_lt qlt
  have hq5 : dropH H4 it q = some (.lst []) := (dropH_ne nqi).trans hq3
  have st5 : AIt s4.heap it x 0 := (I4.hok it _ hit).1
  have hh : X.A.in1.in1.handled = none := by simp [I.ok.hd hc]
  have go : ∀ s6 : Shared, Inv X pins σ (dropH H4 it) s6 → AIt s6.heap it x 0 → codeAny (model X.prog X.w) X.A.in1 (.builtin "list.extend.loop" ⟨[.ref q, .ref it, .none], []⟩) (wants (fun r s₂ => r = .none ∧ EP X pins σ Q (.ref q) s₂) X.xe) s6 := fun s6 I6 st6 =>
    fill (x := x) hh few ((sgs x).length - 0) 0 _ s6 rfl (Nat.zero_le _) I6 hq5 fp st6 fun s7 I7 => ⟨rfl, ⟨.ref q, _, I7, rfl, qz⟩⟩
  refine wpAny_ite_split (fun _ => ?_) fun _ => wpAny_pure ⟨plainId_quiet PySem.F.plain_extend_loop _, go _ I5 st5⟩
  refine wpAny_bind (wpAny_rule (wpAny_bind ?_))
  obtain ⟨z5, its5, k5, r5, l5, e5⟩ := I5.lstM hq5
  cases r5
  show wpAny _ _ (updateSeq q (·.push Value.none) >>= fun _ => updateSeq q (·.pop)) _ _ _
  refine wpAny_bind (wpAny_updateSeq e5 rfl ?_)
  have I6 := I5.lset (f := (·.push Value.none)) (its' := [Value.none]) (ys := [.non]) (t' := s4.toks + 1) hq5 e5 (by simp) (.cons rfl .nil) (by rw [List.length_singleton, sl]; decide)
  obtain ⟨z6, its6, k6, r6, l6, e6⟩ := I6.lstM upd_same
  obtain ⟨u6, rfl, ru6⟩ := r6.one
  refine wpAny_updateSeq e6 rfl ?_ (by show 1 ≤ sizeLine; rw [sl]; decide) (by show 0 ≤ sizeLine + 1; exact Nat.zero_le _)
  have I7 := I6.lset (f := (·.pop)) (its := [u6]) (its' := []) (ys := []) (t' := s4.toks + 1) upd_same e6 (by rfl) .nil (Nat.zero_le _)
  rw [upd_upd, show upd (dropH H4 it) q (.lst []) = dropH H4 it from funext fun b => by
    by_cases c : b = q
    · rw [c, upd_same, hq5]
    · rw [upd_ne c]] at I7
  refine wpAny_pure ⟨plainId_quiet PySem.F.plain_extend_loop _, go _ I7 (si_at st5 fun o e => ?_)⟩
  exact (Heap.get?_update_other _ _ nqi).trans ((Heap.get?_update_other _ _ nqi).trans e)
end

section
variable {prog : Program} {w : World} {A : Around} {E : Value → Shared → Prop} {s : Shared}
theorem special_lst_item {it l : Addr} {i : Nat} {items : Array Value} {x : Value} {Q : Option Value → Shared → Prop} (hit : s.heap.IsListIter it l i) (hl : s.heap.IsList l items) (hx : items[i]? = some x)
    (hQ : ∀ h', h'.IsListIter it l (i + 1) → Heap.SameBut it s.heap h' → Q (some x) { s with heap := h' }) : wpAny (model prog w) A (callSpecial? (.ref it) "__next__") Q E s := by
  obtain ⟨o, ho, hc, hd⟩ := id hit
  obtain ⟨ol, hol, _, nl, hdl⟩ := hl
  refine wpAny_callSpecial?_slot (name := Str.ofString "__next__") hit.typeIs slot_listiter_next (wpAny_call_entry slot_listiter_next hit.typeIs entry_listiter_next ?_ (args_listiter_next _))
  show wpAny _ _ (field (.ref it) 0 >>= _) _ _ s
  refine wpAny_bind (wpAny_field ho hd (x := .ref l) rfl ?_)
  show wpAny _ _ (if (Value.ref l == Value.none) = true then _ else _) _ _ s
  rw [if_neg (show ¬ ((Value.ref l == Value.none) = true) from Bool.false_ne_true)]
  show wpAny _ _ (field (.ref it) 1 >>= _) _ _ s
  refine wpAny_bind (wpAny_field ho hd (x := .int i 0) rfl ?_)
  show wpAny _ _ (seqItems? (.ref l) >>= _) _ _ s
  refine wpAny_bind (wpAny_seqItems hol hdl ?_)
  simp only [Int.toNat_natCast, hx]
  refine wpAny_bind (wpAny_setField ho hd (by simp) (wpAny_pure ⟨x, rfl, hQ _ ?_ (Heap.SameBut.update ..)⟩))
  exact ⟨_, Heap.get?_update_self _ ho (Obj.isFreed_of_fields (Obj.data_mapFields hd _)), (Obj.cls_mapFields ..).trans hc, by
    rw [Obj.data_mapFields hd]; simp [rawInt]⟩
theorem special_lst_end {it l : Addr} {i : Nat} {items : Array Value} {Q : Option Value → Shared → Prop} (hh : A.handled = none) (hit : s.heap.IsListIter it l i) (hl : s.heap.IsList l items) (hx : items[i]? = none)
    (hE : ∀ e h', StopX e h' → Heap.ExtBut it s.heap h' → E e { s with heap := h' }) : wpAny (model prog w) A (callSpecial? (.ref it) "__next__") Q E s := by
  obtain ⟨o, ho, hc, hd⟩ := id hit
  obtain ⟨ol, hol, _, nl, hdl⟩ := hl
  refine wpAny_callSpecial?_slot (name := Str.ofString "__next__") hit.typeIs slot_listiter_next (wpAny_call_entry slot_listiter_next hit.typeIs entry_listiter_next ?_ (args_listiter_next _))
  show wpAny _ _ (field (.ref it) 0 >>= _) _ _ s
  refine wpAny_bind (wpAny_field ho hd (x := .ref l) rfl ?_)
  show wpAny _ _ (if (Value.ref l == Value.none) = true then _ else _) _ _ s
  rw [if_neg (show ¬ ((Value.ref l == Value.none) = true) from Bool.false_ne_true)]
  show wpAny _ _ (field (.ref it) 1 >>= _) _ _ s
  refine wpAny_bind (wpAny_field ho hd (x := .int i 0) rfl ?_)
  show wpAny _ _ (seqItems? (.ref l) >>= _) _ _ s
  refine wpAny_bind (wpAny_seqItems hol hdl ?_)
  simp only [Int.toNat_natCast, hx]
  refine wpAny_bind (wpAny_rule (wpAny_bind (wpAny_setField ho hd (by simp) ?_)))
  show wpAny _ _ (newExc (.type "StopIteration") [] >>= _) _ _ _
  refine wpAny_bind ?_
  simp only [newExc, newTuple]
  refine wpAny_bind (wpAny_newObj_type ?_ (by size_fits))
  refine wpAny_bind (m := firstArgMember _ _) (wpAny_of_eq (a := Value.none) (by first | rfl | (simp only [firstArgMember]; rfl)) ?_)
  refine wpAny_newObj_type ?_ (by size_fits)
  simp only [raiseNew]
  refine wpAny_bind (wpAny_handled ?_)
  first | rw [show A.in1.handled = none from hh] | rw [hh]
  refine wpAny_bind (wpAny_pure (wpAny_throw ?_))
  refine hE _ _ ⟨_, _, _, rfl, Heap.get?_push_size _ rfl, rfl, rfl, ?_⟩ (((Heap.SameBut.update ..).extBut.push _).push _)
  first
    | rfl
    | (rw [Array.getElem?_append_left (by decide)]; rfl)
    | kernel_rfl
end
section
variable {X : Cx} {e : Expr} {te : TE}
def tYfLst (te : TE) : TYf := fun σ H Q => te σ H fun x H1 => ∃ a xs, x = .ref a ∧ H1 a = some (.lst xs) ∧ Q xs H1
theorem close_lst : typeLookup (.type "list_iterator") "close" = pure none := by rw [typeLookup_type, builtinLookup_eq_fast]; kernel_rfl
theorem yf_lst (he : PE X e te) : YfE X e (tYfLst te) := by
  refine ⟨fun pins s σ H Q I h => ?_⟩
  refine thn (he.run pins s σ H _ I h) fun v s1 ⟨x, H1, I1, r1, a, xs, ex, ha, hq⟩ => ?_
  subst ex
  obtain rfl : v = Value.ref a := r1
  obtain ⟨its, rits, pl, hlen⟩ := I1.list (SqL.of ha)
  have ht : s1.heap.IsList a its.toArray := pl.isList
  refine ⟨"list", ht.typeIs, by decide, wpAny_pyIter_list ht ?_⟩
  have lta : a < s1.heap.objs.size := let ⟨_, e, _⟩ := ht; Heap.lt_size e
  have ksz : ∀ b o, s1.heap.get? b = some o → b ≠ s1.heap.objs.size := fun b o e => Nat.ne_of_lt (Heap.lt_size e)
  have kp : ∀ b o, s1.heap.get? b = some o → (s1.heap.push { cls := .type "list_iterator", data := .fields #[.ref a, .int 0 0] }).get? b = some o := fun b o e => Heap.get?_push_of_some _ e
  refine ⟨s1.heap.objs.size, H1, xs, fun j h => h.IsListIter s1.heap.objs.size a j ∧ h.IsList a its.toArray, rfl, I1.kept (t' := s1.toks) kp, .inr I1.sz, Nat.ne_of_gt I1.lt, fun y c hy => ?_, I1.hok.fresh (Nat.le_refl _), fun p hp => ?_,
    ⟨⟨_, Heap.get?_push_size _ rfl, rfl, rfl⟩, ht.push _⟩, ⟨⟨"list_iterator", fun j h q => ?_, close_lst, by decide⟩, fun j h h' q hk => ?_, fun A' j x s2 Q' E' hA hx q hQ => ?_, fun A' s2 Q' E' hA q hE => ?_⟩, hq⟩
  · obtain ⟨v, o, ho, _⟩ := I1.cell y c hy
    exact ksz c o ho
  · exact ksz p.1 _ (I1.pin p hp).1
  · obtain ⟨⟨o, ho, hc, _⟩, _⟩ := q
    exact ⟨o, ho, hc⟩
  · obtain ⟨⟨o, ho, r⟩, o2, ho2, r2⟩ := q
    exact ⟨⟨o, hk _ o (.inl rfl) ho, r⟩, o2, hk _ o2 (.inr (by rw [ha]; exact fun z => by cases z)) ho2, r2⟩
  · obtain ⟨q1, q2⟩ := q
    obtain ⟨u, hu, ru⟩ := rits.get hx
    have hne : a ≠ s1.heap.objs.size := Nat.ne_of_lt lta
    exact special_lst_item q1 q2 (x := u) (by simpa using hu) fun h' q1' hs => hQ u h' s2.toks ru ⟨q1', q2.extBut hs.extBut hne⟩ fun b o hb eb => hs.extBut b o hb eb
  · obtain ⟨q1, q2⟩ := q
    have hnone : its.toArray[xs.length]? = none := by
      have e := rits.length
      have e2 : its[xs.length]? = none := List.getElem?_eq_none_iff.mpr (by omega)
      simpa using e2
    exact special_lst_end hA q1 q2 hnone fun e h' hS hk => hE e h' s2.toks hS fun b o hb eb => hk b o hb eb
end
end Si2

/-! list(text); a call that may raise in a try, where no StopIteration comes. -/
namespace St2
open PySem PySem.Spec PyProof.Rows L2
theorem passLN {X : Cx} {W : WX} (n : Nat) (hn : X.N.length = n) (tk : Takes X W) : Passes (L2.CX X.prog X.w) X (fun cls d H => PySem.W.subIn X.K cls (.type "StopIteration") = some false ∧ ∀ σ : L2.St, σ.length = n → W cls d σ H) :=
  fun _ σ _ _ e s' I c => tk e s' (XE.of_call I (fun _ _ _ h => h.2 σ (I.len.trans hn)) c)
theorem pss_two {X : Cx} {a b : Stmt} {t u v : TS} (h : PS X a t) (g : PS X b u) (e : v = tSeq t u) : PSs X [a, b] v := by
  subst e
  exact pss_cons h (pss_one g)
/-- C(e, ..) whose __init__ may raise: what is raised is wished for at the slots as they stand -/
def tMakeS (C : Addr) (sp : Sp) (E : L2.St → XK) (t : TA) : TE := fun σ H Q => t σ H fun vs H1 => ∀ x dx, H1 x = none → H1 dx = none → dx ≠ x →
  sp (.ref x :: vs) (upd (upd H1 dx (.own x)) x (.ins C dx [])) (fun v H2 => v = .non ∧ Q (.ref x) H2) (E σ)
theorem pe_makeS {X : Cx} {CX : CXT} {k : Nat} {f C : Addr} {fd : FuncData} {ps : List Str} {sp : Sp} {E : L2.St → XK} {x : Str} {p pos : Pos} {e : Expr} {es : List Expr} {t : TA} (M : Mk X.K C f) (F : FnOk X.prog X.w X.K X.mg X.base CX k f fd ps sp) (hr : Room (k + 1) X.A) (hg : Gl X x) (hm : X.mg x = some (.ref C)) (hb : Binds X.K fd ps [])
    (hx : ∀ σ, PassesAt CX X σ (E σ)) (ha : PA X (e :: es) t) (hdb : (x == ("__debug__" : Str)) = false := by decide) (he : starEach (e :: es) X.env = (false, eval e X.env) :: starEach es X.env := by rfl) (hpl : (backTo pos (starEach es X.env)).any (·.1) = false := by rfl) :
    PE X (.Call (.Name x p) (e :: es) [] pos) (tMakeS C sp E t) := by
  constructor
  intro pins s σ H Q I h
  refine wpAny_Call_Name_kw (ld_glob I hg hm ?_ hdb)
  refine PySem.W.callWith_K (h₀ := X.base) I.ok.mod.kin M.kp (thn (ha.run pos pins s σ H _ I h) fun us s1 w => ?_) he hpl
  obtain ⟨vs, H1, J, r, q⟩ := w
  refine ⟨J.kIn, ?_⟩
  have free := J.hok.fresh (Nat.le_refl s1.heap.objs.size)
  have go := q (s1.heap.objs.size + 1) _ (J.hok.fresh (Nat.le_succ _)) free (Nat.ne_of_lt (Nat.lt_succ_self _))
  have J2 := Inv.made (C := C) J
  have r2 : Vals (V.ref (s1.heap.objs.size + 1) :: vs) (Value.ref (s1.heap.objs.size + 1) :: us) := .cons rfl r
  have many := (r2.length.symm.trans (F.len _ _ _ _ go)).trans rfl
  have bound := hb _ (Value.ref (s1.heap.objs.size + 1) :: us) J2.kIn (by rw [List.append_nil]; exact many)
  rw [List.append_nil] at bound
  have ran := F.run _ X.stack _ _ _ _ _ _ (E σ) (hr.make C us []) (J2.env0.make C us []) bound r2 go
  refine wpAny_call (make_map (f := f) J.kIn M.makes M.init (beq_iff_eq.mp M.fn) (codeAny_mono ran fun z t2 hz => ?_))
  match z, hz with
  | .error _, hz => exact hx σ pins _ _ _ _ J2 hz
  | .ok (.ret _), hz =>
    obtain ⟨_, _, J3, rv, ev, q3⟩ := J2.after hz
    subst ev
    exact ⟨rv, V.ref (s1.heap.objs.size + 1), _, J3, rfl, q3⟩
  | .ok .next, hz => exact hz.elim
  | .ok .brk, hz => exact hz.elim
  | .ok .cont, hz => exact hz.elim
theorem noStop {K : PySem.W.Frag} {P : Value → Option Addr → Hp → Prop} : NoStop K (fun cls d H => PySem.W.subIn K cls (.type "StopIteration") = some false ∧ P cls d H) := fun _ _ _ h => h.1
theorem vals_signs {x : Str} {acc : Array Value} (h : ItemsOf (SignAt x) acc x.cps.size) : Vals (Si2.sgs x) acc.toList := by
  refine vals_of_at ?_ fun j a u ha hu => ?_
  · rw [show acc.toList.length = x.cps.size from (Array.length_toList).trans h.1]
    simp [Si2.sgs]
  · obtain ⟨c, t, hc, rfl⟩ := h.2 j u (by rw [← hu, Array.getElem?_toList])
    unfold Si2.sgs at ha
    rw [List.getElem?_map, Array.getElem?_toList, hc] at ha
    cases ha
    exact ⟨t, rfl⟩
def rListS : List V → Hp → VK → Prop := fun xs H Q => ∃ x : Str, xs = [.str x] ∧ x.length ≤ sizeLine ∧ ∀ q, H q = none → Q (.ref q) (upd H q (.lst (Si2.sgs x)))
theorem call_listS {X : Cx} (hc : X.calm = true) : CallR X (.type "list") rListS := by
  intro pins s σ H xs us Q I r h
  obtain ⟨x, rfl, hl, q⟩ := h
  obtain ⟨u, rfl, ru⟩ := r.one
  obtain ⟨t, rfl⟩ := ru
  refine call_list_str (I.ok.hd hc) x t (fun h' tk acc c' hk e' hi => ?_) hl
  refine ⟨.ref s.heap.objs.size, upd H s.heap.objs.size (.lst (Si2.sgs x)), I.laid hk (Nat.le_refl _) (show ObjOk X.prog X.w _ _ _ (.lst (Si2.sgs x)) from ⟨?_, acc.toList, c', vals_signs hi, ?_⟩), rfl, q _ (I.hok.fresh (Nat.le_refl _))⟩
  · show (Si2.sgs x).length ≤ sizeLine
    unfold Si2.sgs
    rw [List.length_map, Array.length_toList]
    exact hl
  · rw [Array.toArray_toList]; exact e'
end St2

/-! f'{x:<4}', f'{x:>2}': a text x in a field of so many signs. -/
namespace Fs
open PySem PySem.Spec PyProof.Rows PySem.W L2 Builtin Builtin.Str Builtin.Float
/-- what a written format asks: to the right or to the left, so many signs -/
structure Asks (sp : Str) (r : Bool) (wd : Nat) : Prop where
  ne : (sp.length == 0) = false
  small : sp.length ≤ sizeLine
  asc : ((sp.cps.toList.drop 1).any (· ≥ 128) || (sp.cps.getD 0 0 ≥ 128 && !([60, 62, 61, 94] : List Nat).contains (sp.cps.getD 1 0))) = false
  back : (sp.cps.back? == some 0) = false
  parse : ∀ name, parseFormatSpec sp.cps.toList name 60 = .ok { fill := 32, align := if r then 62 else 60, width := some wd }
  fits : tooLong wd = false
def txt (r : Bool) (x : Str) (wd : Nat) : Str := if r then Txt.rjust x wd else Txt.ljust x wd
def fOf (r : Bool) (wd : Nat) : FormatSpec := { fill := 32, align := if r then 62 else 60, width := some wd }
theorem field_is {x : Str} {r : Bool} {wd : Nat} (name : String) : strField x (fOf r wd) name = .ok (if wd ≤ x.length then none else some (txt r x wd)) := by
  unfold strField
  have e : strSub x 0 x.length = x := by
    unfold strSub
    simp [Str.length]
  by_cases c : wd ≤ x.length
  · rw [if_pos c]
    cases r <;> simp [fOf, c, pure, Except.pure, bind, Except.bind]
  · rw [if_neg c]
    have c2 : ¬ ((wd : Nat) : Int) ≤ ((x.length : Nat) : Int) := by omega
    cases r <;> simp [fOf, c, c2, pure, Except.pure, bind, Except.bind, e, txt, Txt.ljust, Txt.rjust]
theorem meets_str {sp x : Str} {r : Bool} {wd : Nat} {t u : Tok} (S : Asks sp r wd) (hz : (txt r x wd).length ≤ sizeLine) : Meets («str.__format__» ⟨[.str x t, .str sp u], []⟩) (fun _ R s => ∀ t' k, R (.ok (.ret (.str (txt r x wd) t'))) { s with toks := k }) := by
  apply KPc.meets_of
  intro prog w A s Q E h
  unfold Builtin.«str.__format__»
  refine wpAny_bind (wpAny_of_eq (a := (_, _, _)) rfl ?_)
  refine wpAny_bind (wpAny_of_eq (a := some _) rfl ?_)
  show wpAny _ _ (if (sp.length == 0) = true then _ else _) Q E s
  rw [if_neg (by rw [S.ne]; simp)]
  show wpAny _ _ (if ((sp.cps.toList.drop 1).any (· ≥ 128) || (sp.cps.getD 0 0 ≥ 128 && !([60, 62, 61, 94] : List Nat).contains (sp.cps.getD 1 0))) = true then _ else _) Q E s
  rw [if_neg (by rw [S.asc]; simp)]
  refine wpAny_bind (KXf.cut_str ?_)
  have hp : parseFormatSpec sp.cps.toList "str" 60 = .ok (fOf r wd) := S.parse _
  simp only [hp, S.back]
  simp only [bind, Except.bind, Bool.and_false, Bool.false_eq_true, if_false, show (fOf r wd).width.getD 0 = wd from rfl, S.fits, field_is]
  by_cases c : wd ≤ x.length
  · simp only [c, if_true, pure, Except.pure]
    refine wpAny_bind (wpAny_rule ?_)
    refine KXf.ret_same ?_ h
    unfold txt Txt.ljust Txt.rjust
    have c2 : ((wd : Nat) : Int) ≤ ((x.length : Nat) : Int) := by omega
    cases r <;> simp [c2]
  · simp only [c, if_false, pure, Except.pure]
    exact KXf.ret_text rfl hz h
theorem asks {sp : Str} {r : Bool} {wd : Nat} (a : (sp.length == 0) = false) (b : sp.length ≤ sizeLine) (c : ((sp.cps.toList.drop 1).any (· ≥ 128) || (sp.cps.getD 0 0 ≥ 128 && !([60, 62, 61, 94] : List Nat).contains (sp.cps.getD 1 0))) = false)
    (d : (sp.cps.back? == some 0) = false) (e : ∀ name, parseFormatSpec sp.cps.toList name 60 = .ok (fOf r wd)) (f : tooLong wd = false) : Asks sp r wd := ⟨a, b, c, d, e, f⟩
theorem asks_l4 : Asks "<4" false 4 := asks (by decide) (by decide) (by decide) (by decide) (fun _ => rfl) (by decide)
theorem asks_l5 : Asks "<5" false 5 := asks (by decide) (by decide) (by decide) (by decide) (fun _ => rfl) (by decide)
theorem asks_r2 : Asks ">2" true 2 := asks (by decide) (by decide) (by decide) (by decide) (fun _ => rfl) (by decide)
/-- {x:spec}, x a text -/
def tFmtS (te tp : TE) : TE := fun σ H Q => te σ H fun x H1 => tp σ H1 fun z H2 => ∃ (y sp : Str) (r : Bool) (wd : Nat), x = .str y ∧ z = .str sp ∧ Asks sp r wd ∧ (txt r y wd).length ≤ sizeLine ∧ Q (.str (txt r y wd)) H2
theorem pe_fmtS {X : Cx} {e spec : Expr} {te tp : TE} {pos : Pos} (he : PE X e te) (hp : PE X spec tp) : PE X (.FormattedValue e (-1) (some spec) pos) (tFmtS te tp) := by
  refine ⟨fun pins s σ H Q I h => ?_⟩
  refine wpAny_FormattedValue_spec (thn (he.run pins s σ H _ I h) fun v s1 ⟨x, H1, I1, r1, q1⟩ => thn (hp.run pins s1 σ H1 _ I1 q1) fun u s2 ⟨z, H2, I2, r2, q2⟩ => ?_)
  obtain ⟨y, sp, r, wd, rfl, rfl, S, hz, q⟩ := q2
  obtain ⟨t, rfl⟩ := r1
  obtain ⟨t2, rfl⟩ := r2
  refine ⟨sp, t2, rfl, ?_⟩
  exact KXf.field_str rfl rfl S.ne S.small (fun u => meets_str S hz) fun t' k => ⟨.str (txt r y wd), H2, I2.tok _, ⟨_, rfl⟩, q⟩
end Fs

/-! f'{n:>6}': a whole number in a field of six signs, to the right. -/
namespace Fi
open PySem PySem.Spec PyProof.Rows PySem.W L2 Builtin Builtin.Str Builtin.Int Builtin.Float
theorem log_small {a : Nat} (h : a < 10 ^ 10) : ((a : Nat) : Int).natAbs.log2 < 1920 := by
  rw [Int.natAbs_natCast]
  by_cases c : a = 0
  · subst c; decide
  · exact (Nat.log2_lt c).mpr (Nat.lt_trans h (by decide +kernel))
def fOf : FormatSpec := { fill := 32, align := 62, width := some 6 }
theorem parse6 : ∀ n, parseFormatSpec (">6" : PySem.Str).cps.toList n 62 = .ok fOf := fun _ => rfl
theorem text6 (a : Nat) : intField' fOf (decide (((a : Nat) : Int) < 0)) [] ((Nat.toDigits 10 ((a : Nat) : Int).natAbs).map fun c => (if ((100 : Nat) == 88) = true then c.toUpper else c).toNat) [] 3 = Txt.rjust (PySem.Str.ofString (toString ((a : Nat) : Int))) 6 := by
  have e1 : decide (((a : Nat) : Int) < 0) = false := decide_eq_false (by omega)
  have e2 : ((Nat.toDigits 10 ((a : Nat) : Int).natAbs).map fun c => (if ((100 : Nat) == 88) = true then c.toUpper else c).toNat) = TL.numL a := rfl
  rw [e1, e2]
  have tx := TL.tl_num a
  generalize PySem.Str.ofString (toString ((a : Nat) : Int)) = x at tx ⊢
  have lx : x.length = (TL.numL a).length := by rw [← tx]; show x.cps.size = x.cps.toList.length; simp
  have nn := TL.numL_ne a
  generalize TL.numL a = L at tx lx nn ⊢
  cases L with
  | nil => exact absurd rfl nn
  | cons c cs =>
    show (⟨(List.replicate (((6 : Nat) : Int) - ((([] : List Nat).length : Nat) + (([] : List Nat).length : Nat) + (([] : List Nat).length : Nat)) - ((List.replicate (0 - (c :: cs).length) 48 ++ (c :: cs)).length : Nat)).toNat 32 ++ [] ++ [] ++ List.replicate 0 32 ++ (List.replicate (0 - (c :: cs).length) 48 ++ (c :: cs)) ++ [] ++ List.replicate 0 32).toArray⟩ : PySem.Str) = _
    unfold Txt.rjust padded
    have z : 0 - (c :: cs).length = 0 := by omega
    rw [z, lx]
    have ez : ∀ v : PySem.Str, TL.tl v = c :: cs → v = ⟨(c :: cs).toArray⟩ := fun v h => by rw [← h, TL.mk_tl]
    rw [ez x tx]
    have k0 : (((6 : Nat) : Int) - ((([] : List Nat).length : Nat) + (([] : List Nat).length : Nat) + (([] : List Nat).length : Nat)) - ((List.replicate 0 48 ++ (c :: cs)).length : Nat)).toNat = 6 - (c :: cs).length := by
      simp only [List.length_nil, List.replicate_zero, List.nil_append]
      omega
    rw [k0]
    by_cases h : (6 : Int) ≤ ((c :: cs).length : Nat)
    · rw [if_pos h]
      have h2 : 6 - (c :: cs).length = 0 := by omega
      rw [h2]
      simp
    · rw [if_neg h]
      simp
theorem ret_text2 {M : Model} {A : Around} {E : Value → Shared → Prop} {s : Shared} {X T : PySem.Str} {Q : PySem.Fin → Shared → Prop} (e : X = T) (hL : T.length ≤ sizeLine) (h : ∀ t k, Q (.done (.ret (.str T t))) { s with toks := k }) : wpAny M A (retStr X) Q E s := KXf.ret_text e (by rw [e]; exact hL) h
theorem rjust_len (x : PySem.Str) (k : Nat) : (Txt.rjust x (k : Nat)).length = max k x.length := by
  unfold Txt.rjust padded
  by_cases h : ((k : Nat) : Int) ≤ (x.length : Nat)
  · rw [if_pos h]; omega
  · rw [if_neg h]
    show (Array.replicate _ 32 ++ x.cps ++ Array.replicate 0 32).size = _
    have e : x.cps.size = x.length := rfl
    simp only [Array.size_append, Array.size_replicate, e]
    omega
theorem meets_int {a : Nat} {t u : Tok} (hh : a < 10 ^ 10) : Meets («int.__format__» ⟨[.int (a : Nat) t, .str ">6" u], []⟩) (fun _ R s => ∀ t' k, R (.ok (.ret (.str (Txt.rjust (PySem.Str.ofString (toString ((a : Nat) : Int))) 6) t'))) { s with toks := k }) := by
  apply KPc.meets_of
  intro prog w A s Q E h
  unfold Builtin.«int.__format__»
  refine wpAny_bind (wpAny_of_eq (a := (_, _)) rfl ?_)
  refine wpAny_bind (wpAny_of_eq (a := _) rfl ?_)
  kxf_if
  refine wpAny_bind (wpAny_typeNameOf (T := "str") (typeIs_str _ _ _) (by decide) fun _ => ?_)
  refine wpAny_bind (wpAny_of_eq (a := some _) rfl ?_)
  kxf_if
  kxf_if
  refine wpAny_bind (wpAny_typeNameOfCut_int ?_)
  simp only [parse6]
  have hty : fOf.type.getD (if ((PySem.Str.ofString ">6").cps.back? == some 0) = true then 0 else 100) = 100 := by decide
  have hpr : fOf.precision = none := rfl
  have hz : fOf.noNeg0 = false := rfl
  have hal : fOf.alt = false := rfl
  have hw : fOf.width.getD 0 ≤ 100000 := by decide
  rw [hty]
  rw [if_pos (by decide)]
  have hfl : fOf.fill = 32 := rfl
  have hali : fOf.align = 62 := rfl
  have hwd : fOf.width = some 6 := rfl
  have hgr : fOf.grouping = none := rfl
  have hsg : fOf.sign = none := rfl
  generalize hf : fOf = f at hpr hz hal hw hfl hali hwd hgr hsg ⊢
  show wpAny _ _ (if _ then _ else _) _ _ _
  rw [if_neg (by simp [hpr])]
  show wpAny _ _ (if _ then _ else _) _ _ _
  rw [if_neg (by simp [hz])]
  show wpAny _ _ (if _ then _ else _) _ _ _
  rw [if_neg (by decide)]
  show wpAny _ _ (do let r ← Builtin.overDigitLimit? ((a : Nat) : Int); _) _ _ _
  refine wpAny_bind (wpAny_of_eq (PySem.overDigitLimit_small (log_small hh)) ?_)
  show wpAny _ _ (if _ then _ else _) _ _ _
  have hw' : ¬ (f.width.getD 0 > 100000) := by omega
  rw [if_neg (by simpa using hw')]
  show wpAny _ _ (retStr _) _ _ _
  refine ret_text2 (T := Txt.rjust (PySem.Str.ofString (toString ((a : Nat) : Int))) 6) ?_ ?_ h
  · have e0 := text6 a
    rw [hf] at e0
    refine Eq.trans ?_ e0
    conv => lhs; whnf
    conv => rhs; whnf
    simp only [hal, hfl, hali, hwd, hgr, hsg, Bool.false_eq_true, if_false, show ((10 : Nat) == 10) = true by decide, if_true]
  · have e := rjust_len (PySem.Str.ofString (toString ((a : Nat) : Int))) 6
    have e2 : (PySem.Str.ofString (toString ((a : Nat) : Int))).length ≤ 10 := by
      rw [TL.len_tl, TL.tl_num]
      exact TL.numL_len (by decide) hh
    have e : (Txt.rjust (PySem.Str.ofString (toString ((a : Nat) : Int))) 6).length = max 6 (PySem.Str.ofString (toString ((a : Nat) : Int))).length := e
    rw [e]
    have : (16 : Nat) ≤ sizeLine := by decide
    omega
/-- {n:>6}, n a whole number, not below 0 -/
def tFmtI (te tp : TE) : TE := fun σ H Q => te σ H fun x H1 => tp σ H1 fun z H2 => ∃ a : Nat, x = .int (a : Nat) ∧ z = .str ">6" ∧ a < 10 ^ 10 ∧ Q (.str (Txt.rjust (PySem.Str.ofString (toString ((a : Nat) : Int))) 6)) H2
theorem pe_fmtI {X : Cx} {e spec : Expr} {te tp : TE} {pos : Pos} (he : PE X e te) (hp : PE X spec tp) : PE X (.FormattedValue e (-1) (some spec) pos) (tFmtI te tp) := by
  refine ⟨fun pins s σ H Q I h => ?_⟩
  refine wpAny_FormattedValue_spec (thn (he.run pins s σ H _ I h) fun v s1 ⟨x, H1, I1, r1, q1⟩ => thn (hp.run pins s1 σ H1 _ I1 q1) fun u s2 ⟨z, H2, I2, r2, q2⟩ => ?_)
  obtain ⟨a, rfl, rfl, hh, q⟩ := q2
  obtain ⟨t, rfl⟩ := r1
  obtain ⟨t2, rfl⟩ := r2
  refine ⟨">6", t2, rfl, ?_⟩
  exact KXf.field_int rfl (by decide) (by decide) (fun u => meets_int hh) fun t' k => ⟨.str _, H2, I2.tok _, ⟨_, rfl⟩, q⟩
end Fi

namespace K83
open PySem L2
def top (i : Nat) : Stmt := PySem.Challenge.pw_wheelchorus_k83_pages_of_books.main.body.getD i (.Pass ⟨0, 0, 0, 0⟩)
abbrev s_is_whole : Stmt := top 4
abbrev s_is_whole_within : Stmt := top 5
abbrev s_is_sequence : Stmt := top 6
abbrev s_is_digit : Stmt := top 7
abbrev s_is_number : Stmt := top 12
abbrev s_is_station : Stmt := top 19
abbrev s_is_crew : Stmt := top 20
abbrev s_is_move : Stmt := top 21
abbrev s_joined : Stmt := top 22
abbrev s_digits_in : Stmt := top 23
abbrev s_crews_text : Stmt := top 35
abbrev s_pairs_text : Stmt := top 36
abbrev s_row_line : Stmt := top 34
abbrev s_book_page : Stmt := top 33
abbrev s_read_tick : Stmt := top 39
abbrev s_read_grade : Stmt := top 41
abbrev s_read_short : Stmt := top 42
abbrev s_read_crews : Stmt := top 43
abbrev s_read_pairs : Stmt := top 44
abbrev s_read_told : Stmt := top 40
abbrev s_read_row : Stmt := top 38
abbrev s_read_book : Stmt := top 37
abbrev s_bag : Stmt := top 46
abbrev s_take : Stmt := top 47
abbrev s_of : Stmt := top 48
abbrev s_number : Stmt := top 49
abbrev s_crews : Stmt := top 50
abbrev s_row : Stmt := top 51
abbrev s_some : Stmt := top 52
abbrev s_line : Stmt := top 53
abbrev s_digits : Stmt := top 54
abbrev s_list : Stmt := top 55
abbrev s_wis_number : Stmt := top 56
abbrev s_read : Stmt := top 57
abbrev s_bent : Stmt := top 58
abbrev s_told : Stmt := top 59
abbrev s_law : Stmt := top 60
abbrev nm_is_whole : List Str := ["thing"]
theorem sc_is_whole : FnScope nm_is_whole ["thing"] (defScope s_is_whole) :=
  ⟨rfl, rfl, rfl, by decide +kernel, rfl, by decide +kernel, by decide +kernel⟩
abbrev nm_is_whole_within : List Str := ["thing", "low", "high"]
theorem sc_is_whole_within : FnScope nm_is_whole_within ["thing", "low", "high"] (defScope s_is_whole_within) :=
  ⟨rfl, rfl, rfl, by decide +kernel, rfl, by decide +kernel, by decide +kernel⟩
abbrev nm_is_sequence : List Str := ["thing"]
theorem sc_is_sequence : FnScope nm_is_sequence ["thing"] (defScope s_is_sequence) :=
  ⟨rfl, rfl, rfl, by decide +kernel, rfl, by decide +kernel, by decide +kernel⟩
abbrev nm_is_digit : List Str := ["word"]
theorem sc_is_digit : FnScope nm_is_digit ["word"] (defScope s_is_digit) :=
  ⟨rfl, rfl, rfl, by decide +kernel, rfl, by decide +kernel, by decide +kernel⟩
abbrev nm_is_number : List Str := ["thing", "letter"]
theorem sc_is_number : FnScope nm_is_number ["thing"] (defScope s_is_number) :=
  ⟨rfl, rfl, rfl, by decide +kernel, rfl, by decide +kernel, by decide +kernel⟩
abbrev nm_is_station : List Str := ["thing"]
theorem sc_is_station : FnScope nm_is_station ["thing"] (defScope s_is_station) :=
  ⟨rfl, rfl, rfl, by decide +kernel, rfl, by decide +kernel, by decide +kernel⟩
abbrev nm_is_crew : List Str := ["thing"]
theorem sc_is_crew : FnScope nm_is_crew ["thing"] (defScope s_is_crew) :=
  ⟨rfl, rfl, rfl, by decide +kernel, rfl, by decide +kernel, by decide +kernel⟩
abbrev nm_is_move : List Str := ["thing"]
theorem sc_is_move : FnScope nm_is_move ["thing"] (defScope s_is_move) :=
  ⟨rfl, rfl, rfl, by decide +kernel, rfl, by decide +kernel, by decide +kernel⟩
abbrev nm_joined : List Str := ["wholes", "whole"]
theorem sc_joined : FnScope nm_joined ["wholes"] (defScope s_joined) :=
  ⟨rfl, rfl, rfl, by decide +kernel, rfl, by decide +kernel, by decide +kernel⟩
abbrev nm_digits_in : List Str := ["text", "separator", "word"]
theorem sc_digits_in : FnScope nm_digits_in ["text", "separator"] (defScope s_digits_in) :=
  ⟨rfl, rfl, rfl, by decide +kernel, rfl, by decide +kernel, by decide +kernel⟩
abbrev nm_crews_text : List Str := ["crews"]
theorem sc_crews_text : FnScope nm_crews_text ["crews"] (defScope s_crews_text) :=
  ⟨rfl, rfl, rfl, by decide +kernel, rfl, by decide +kernel, by decide +kernel⟩
abbrev nm_pairs_text : List Str := ["pairs", "crew", "station"]
theorem sc_pairs_text : FnScope nm_pairs_text ["pairs"] (defScope s_pairs_text) :=
  ⟨rfl, rfl, rfl, by decide +kernel, rfl, by decide +kernel, by decide +kernel⟩
abbrev nm_row_line : List Str := ["row", "word", "tick", "number", "parts", "crews", "grade", "went", "moved", "short_by"]
theorem sc_row_line : FnScope nm_row_line ["row"] (defScope s_row_line) :=
  ⟨rfl, rfl, rfl, by decide +kernel, rfl, by decide +kernel, by decide +kernel⟩
abbrev nm_book_page : List Str := ["rows", "row"]
theorem sc_book_page : FnScope nm_book_page ["rows"] (defScope s_book_page) :=
  ⟨rfl, rfl, rfl, by decide +kernel, rfl, by decide +kernel, by decide +kernel⟩
abbrev nm_read_tick : List Str := ["text", "letter"]
theorem sc_read_tick : FnScope nm_read_tick ["text"] (defScope s_read_tick) :=
  ⟨rfl, rfl, rfl, by decide +kernel, rfl, by decide +kernel, by decide +kernel⟩
abbrev nm_read_grade : List Str := ["word", "text", "grades"]
theorem sc_read_grade : FnScope nm_read_grade ["word", "text"] (defScope s_read_grade) :=
  ⟨rfl, rfl, rfl, by decide +kernel, rfl, by decide +kernel, by decide +kernel⟩
abbrev nm_read_short : List Str := ["text"]
theorem sc_read_short : FnScope nm_read_short ["text"] (defScope s_read_short) :=
  ⟨rfl, rfl, rfl, by decide +kernel, rfl, by decide +kernel, by decide +kernel⟩
abbrev nm_read_crews : List Str := ["text", "crews", "crew"]
theorem sc_read_crews : FnScope nm_read_crews ["text"] (defScope s_read_crews) :=
  ⟨rfl, rfl, rfl, by decide +kernel, rfl, by decide +kernel, by decide +kernel⟩
abbrev nm_read_pairs : List Str := ["text", "pairs", "piece", "pair"]
theorem sc_read_pairs : FnScope nm_read_pairs ["text"] (defScope s_read_pairs) :=
  ⟨rfl, rfl, rfl, by decide +kernel, rfl, by decide +kernel, by decide +kernel⟩
abbrev nm_read_told : List Str := ["word", "parts", "told"]
theorem sc_read_told : FnScope nm_read_told ["word", "parts"] (defScope s_read_told) :=
  ⟨rfl, rfl, rfl, by decide +kernel, rfl, by decide +kernel, by decide +kernel⟩
abbrev nm_read_row : List Str := ["line", "tick_text", "_", "rest", "tick", "word", "number", "told"]
theorem sc_read_row : FnScope nm_read_row ["line"] (defScope s_read_row) :=
  ⟨rfl, rfl, rfl, by decide +kernel, rfl, by decide +kernel, by decide +kernel⟩
abbrev nm_read_book : List Str := ["lines", "rows", "index", "line", "row"]
theorem sc_read_book : FnScope nm_read_book ["lines"] (defScope s_read_book) :=
  ⟨rfl, rfl, rfl, by decide +kernel, rfl, by decide +kernel, by decide +kernel⟩
abbrev nm_bag : List Str := ["_law_script", "_law_at", "_law_cell", "_law_mixed", "_law_k", "_law_each"]
theorem sc_bag : FnScope nm_bag ["_law_script", "_law_at"] (defScope s_bag) :=
  ⟨rfl, rfl, rfl, by decide +kernel, rfl, by decide +kernel, by decide +kernel⟩
abbrev nm_take : List Str := ["_law_bag_here", "_law_many", "_law_digit"]
theorem sc_take : FnScope nm_take ["_law_bag_here", "_law_many"] (defScope s_take) :=
  ⟨rfl, rfl, rfl, by decide +kernel, rfl, by decide +kernel, by decide +kernel⟩
abbrev nm_of : List Str := ["_law_bag_here", "_law_some_here"]
theorem sc_of : FnScope nm_of ["_law_bag_here", "_law_some_here"] (defScope s_of) :=
  ⟨rfl, rfl, rfl, by decide +kernel, rfl, by decide +kernel, by decide +kernel⟩
abbrev nm_number : List Str := ["_law_bag_here", "_law_text", "_law_left", "_law_turn", "_law_digit"]
theorem sc_number : FnScope nm_number ["_law_bag_here"] (defScope s_number) :=
  ⟨rfl, rfl, rfl, by decide +kernel, rfl, by decide +kernel, by decide +kernel⟩
abbrev nm_crews : List Str := ["_law_bag_here", "_law_k"]
theorem sc_crews : FnScope nm_crews ["_law_bag_here"] (defScope s_crews) :=
  ⟨rfl, rfl, rfl, by decide +kernel, rfl, by decide +kernel, by decide +kernel⟩
abbrev nm_row : List Str := ["_law_bag_here", "_law_tick", "_law_word", "_law_number_here", "_law_grade", "_law_moves", "_law_k"]
theorem sc_row : FnScope nm_row ["_law_bag_here"] (defScope s_row) :=
  ⟨rfl, rfl, rfl, by decide +kernel, rfl, by decide +kernel, by decide +kernel⟩
abbrev nm_some : List Str := ["_law_parts"]
theorem sc_some : FnScope nm_some ["_law_parts"] (defScope s_some) :=
  ⟨rfl, rfl, rfl, by decide +kernel, rfl, by decide +kernel, by decide +kernel⟩
abbrev nm_line : List Str := ["_law_row_here", "_law_crews_here", "_law_crew", "_law_head", "_law_moves", "_law_pair"]
theorem sc_line : FnScope nm_line ["_law_row_here"] (defScope s_line) :=
  ⟨rfl, rfl, rfl, by decide +kernel, rfl, by decide +kernel, by decide +kernel⟩
abbrev nm_digits : List Str := ["_law_text", "_law_low", "_law_high"]
theorem sc_digits : FnScope nm_digits ["_law_text", "_law_low", "_law_high"] (defScope s_digits) :=
  ⟨rfl, rfl, rfl, by decide +kernel, rfl, by decide +kernel, by decide +kernel⟩
abbrev nm_list : List Str := ["_law_text", "_law_is_pairs", "_law_found", "_law_word", "_law_crew", "_law_station"]
theorem sc_list : FnScope nm_list ["_law_text", "_law_is_pairs"] (defScope s_list) :=
  ⟨rfl, rfl, rfl, by decide +kernel, rfl, by decide +kernel, by decide +kernel⟩
abbrev nm_wis_number : List Str := ["_law_text", "_law_sign"]
theorem sc_wis_number : FnScope nm_wis_number ["_law_text"] (defScope s_wis_number) :=
  ⟨rfl, rfl, rfl, by decide +kernel, rfl, by decide +kernel, by decide +kernel⟩
abbrev nm_read : List Str := ["_law_line_here", "_law_words", "_law_word", "_law_tick", "_law_sign", "_law_tail", "_law_parts", "_law_low", "_law_row_here"]
theorem sc_read : FnScope nm_read ["_law_line_here"] (defScope s_read) :=
  ⟨rfl, rfl, rfl, by decide +kernel, rfl, by decide +kernel, by decide +kernel⟩
abbrev nm_bent : List Str := ["_law_bag_here", "_law_line_here", "_law_at", "_law_kind", "_law_sign"]
theorem sc_bent : FnScope nm_bent ["_law_bag_here", "_law_line_here"] (defScope s_bent) :=
  ⟨rfl, rfl, rfl, by decide +kernel, rfl, by decide +kernel, by decide +kernel⟩
abbrev nm_told : List Str := ["_law_lines", "_law_found", "e"]
theorem sc_told : FnScope nm_told ["_law_lines"] (defScope s_told) :=
  ⟨rfl, rfl, rfl, by decide +kernel, rfl, by decide +kernel, by decide +kernel⟩
abbrev nm_law : List Str := ["_law_script", "_law_at", "_law_bag_here", "_law_rows", "_law_k", "_law_due", "_law_row_here", "_law_kept", "_law_turn", "_law_line_here", "_law_given", "_law_place", "_law_back", "_law_wanted", "_law_first"]
theorem sc_law : FnScope nm_law ["_law_script"] (defScope s_law) :=
  ⟨rfl, rfl, rfl, by decide +kernel, rfl, by decide +kernel, by decide +kernel⟩
structure Txt (K : PySem.W.Frag) (mg : Str → Option Value) where
  CP : Addr
  fP : Addr
  lowP : PySem.LowP.LowTxt K mg CP fP
  a_is_whole : Addr
  d_is_whole : FuncData
  F_is_whole : Fun K "is_whole" "is_whole" s_is_whole a_is_whole d_is_whole
  b_is_whole : Binds K d_is_whole ["thing"] []
  g_is_whole : mg "is_whole" = some (.ref a_is_whole)
  a_is_whole_within : Addr
  d_is_whole_within : FuncData
  F_is_whole_within : Fun K "is_whole_within" "is_whole_within" s_is_whole_within a_is_whole_within d_is_whole_within
  b_is_whole_within : Binds K d_is_whole_within ["thing", "low", "high"] []
  g_is_whole_within : mg "is_whole_within" = some (.ref a_is_whole_within)
  a_is_sequence : Addr
  d_is_sequence : FuncData
  F_is_sequence : Fun K "is_sequence" "is_sequence" s_is_sequence a_is_sequence d_is_sequence
  b_is_sequence : Binds K d_is_sequence ["thing"] []
  g_is_sequence : mg "is_sequence" = some (.ref a_is_sequence)
  a_is_digit : Addr
  d_is_digit : FuncData
  F_is_digit : Fun K "is_digit" "is_digit" s_is_digit a_is_digit d_is_digit
  b_is_digit : Binds K d_is_digit ["word"] []
  g_is_digit : mg "is_digit" = some (.ref a_is_digit)
  a_is_number : Addr
  d_is_number : FuncData
  F_is_number : Fun K "is_number" "is_number" s_is_number a_is_number d_is_number
  b_is_number : Binds K d_is_number ["thing"] []
  g_is_number : mg "is_number" = some (.ref a_is_number)
  a_is_station : Addr
  d_is_station : FuncData
  F_is_station : Fun K "is_station" "is_station" s_is_station a_is_station d_is_station
  b_is_station : Binds K d_is_station ["thing"] []
  g_is_station : mg "is_station" = some (.ref a_is_station)
  a_is_crew : Addr
  d_is_crew : FuncData
  F_is_crew : Fun K "is_crew" "is_crew" s_is_crew a_is_crew d_is_crew
  b_is_crew : Binds K d_is_crew ["thing"] []
  g_is_crew : mg "is_crew" = some (.ref a_is_crew)
  a_is_move : Addr
  d_is_move : FuncData
  F_is_move : Fun K "is_move" "is_move" s_is_move a_is_move d_is_move
  b_is_move : Binds K d_is_move ["thing"] []
  g_is_move : mg "is_move" = some (.ref a_is_move)
  a_joined : Addr
  d_joined : FuncData
  F_joined : Fun K "joined" "joined" s_joined a_joined d_joined
  b_joined : Binds K d_joined ["wholes"] []
  g_joined : mg "joined" = some (.ref a_joined)
  a_digits_in : Addr
  d_digits_in : FuncData
  F_digits_in : Fun K "digits_in" "digits_in" s_digits_in a_digits_in d_digits_in
  b_digits_in : Binds K d_digits_in ["text", "separator"] []
  g_digits_in : mg "digits_in" = some (.ref a_digits_in)
  a_crews_text : Addr
  d_crews_text : FuncData
  F_crews_text : Fun K "crews_text" "crews_text" s_crews_text a_crews_text d_crews_text
  b_crews_text : Binds K d_crews_text ["crews"] []
  g_crews_text : mg "crews_text" = some (.ref a_crews_text)
  a_pairs_text : Addr
  d_pairs_text : FuncData
  F_pairs_text : Fun K "pairs_text" "pairs_text" s_pairs_text a_pairs_text d_pairs_text
  b_pairs_text : Binds K d_pairs_text ["pairs"] []
  g_pairs_text : mg "pairs_text" = some (.ref a_pairs_text)
  a_row_line : Addr
  d_row_line : FuncData
  F_row_line : Fun K "row_line" "row_line" s_row_line a_row_line d_row_line
  b_row_line : Binds K d_row_line ["row"] []
  g_row_line : mg "row_line" = some (.ref a_row_line)
  a_book_page : Addr
  d_book_page : FuncData
  F_book_page : Fun K "book_page" "book_page" s_book_page a_book_page d_book_page
  b_book_page : Binds K d_book_page ["rows"] []
  g_book_page : mg "book_page" = some (.ref a_book_page)
  a_read_tick : Addr
  d_read_tick : FuncData
  F_read_tick : Fun K "read_tick" "read_tick" s_read_tick a_read_tick d_read_tick
  b_read_tick : Binds K d_read_tick ["text"] []
  g_read_tick : mg "read_tick" = some (.ref a_read_tick)
  a_read_grade : Addr
  d_read_grade : FuncData
  F_read_grade : Fun K "read_grade" "read_grade" s_read_grade a_read_grade d_read_grade
  b_read_grade : Binds K d_read_grade ["word", "text"] []
  g_read_grade : mg "read_grade" = some (.ref a_read_grade)
  a_read_short : Addr
  d_read_short : FuncData
  F_read_short : Fun K "read_short" "read_short" s_read_short a_read_short d_read_short
  b_read_short : Binds K d_read_short ["text"] []
  g_read_short : mg "read_short" = some (.ref a_read_short)
  a_read_crews : Addr
  d_read_crews : FuncData
  F_read_crews : Fun K "read_crews" "read_crews" s_read_crews a_read_crews d_read_crews
  b_read_crews : Binds K d_read_crews ["text"] []
  g_read_crews : mg "read_crews" = some (.ref a_read_crews)
  a_read_pairs : Addr
  d_read_pairs : FuncData
  F_read_pairs : Fun K "read_pairs" "read_pairs" s_read_pairs a_read_pairs d_read_pairs
  b_read_pairs : Binds K d_read_pairs ["text"] []
  g_read_pairs : mg "read_pairs" = some (.ref a_read_pairs)
  a_read_told : Addr
  d_read_told : FuncData
  F_read_told : Fun K "read_told" "read_told" s_read_told a_read_told d_read_told
  b_read_told : Binds K d_read_told ["word", "parts"] []
  g_read_told : mg "read_told" = some (.ref a_read_told)
  a_read_row : Addr
  d_read_row : FuncData
  F_read_row : Fun K "read_row" "read_row" s_read_row a_read_row d_read_row
  b_read_row : Binds K d_read_row ["line"] []
  g_read_row : mg "read_row" = some (.ref a_read_row)
  a_read_book : Addr
  d_read_book : FuncData
  F_read_book : Fun K "read_book" "read_book" s_read_book a_read_book d_read_book
  b_read_book : Binds K d_read_book ["lines"] []
  g_read_book : mg "read_book" = some (.ref a_read_book)
  a_bag : Addr
  d_bag : FuncData
  F_bag : Fun K "_law_bag" "_law_bag" s_bag a_bag d_bag
  b_bag : Binds K d_bag ["_law_script", "_law_at"] []
  g_bag : mg "_law_bag" = some (.ref a_bag)
  a_take : Addr
  d_take : FuncData
  F_take : Fun K "_law_take" "_law_take" s_take a_take d_take
  b_take : Binds K d_take ["_law_bag_here", "_law_many"] []
  g_take : mg "_law_take" = some (.ref a_take)
  a_of : Addr
  d_of : FuncData
  F_of : Fun K "_law_of" "_law_of" s_of a_of d_of
  b_of : Binds K d_of ["_law_bag_here", "_law_some_here"] []
  g_of : mg "_law_of" = some (.ref a_of)
  a_number : Addr
  d_number : FuncData
  F_number : Fun K "_law_number" "_law_number" s_number a_number d_number
  b_number : Binds K d_number ["_law_bag_here"] []
  g_number : mg "_law_number" = some (.ref a_number)
  a_crews : Addr
  d_crews : FuncData
  F_crews : Fun K "_law_crews" "_law_crews" s_crews a_crews d_crews
  b_crews : Binds K d_crews ["_law_bag_here"] []
  g_crews : mg "_law_crews" = some (.ref a_crews)
  a_row : Addr
  d_row : FuncData
  F_row : Fun K "_law_row" "_law_row" s_row a_row d_row
  b_row : Binds K d_row ["_law_bag_here"] []
  g_row : mg "_law_row" = some (.ref a_row)
  a_some : Addr
  d_some : FuncData
  F_some : Fun K "_law_some" "_law_some" s_some a_some d_some
  b_some : Binds K d_some ["_law_parts"] []
  g_some : mg "_law_some" = some (.ref a_some)
  a_line : Addr
  d_line : FuncData
  F_line : Fun K "_law_line" "_law_line" s_line a_line d_line
  b_line : Binds K d_line ["_law_row_here"] []
  g_line : mg "_law_line" = some (.ref a_line)
  a_digits : Addr
  d_digits : FuncData
  F_digits : Fun K "_law_digits" "_law_digits" s_digits a_digits d_digits
  b_digits : Binds K d_digits ["_law_text", "_law_low", "_law_high"] []
  g_digits : mg "_law_digits" = some (.ref a_digits)
  a_list : Addr
  d_list : FuncData
  F_list : Fun K "_law_list" "_law_list" s_list a_list d_list
  b_list : Binds K d_list ["_law_text", "_law_is_pairs"] []
  g_list : mg "_law_list" = some (.ref a_list)
  a_wis_number : Addr
  d_wis_number : FuncData
  F_wis_number : Fun K "_law_is_number" "_law_is_number" s_wis_number a_wis_number d_wis_number
  b_wis_number : Binds K d_wis_number ["_law_text"] []
  g_wis_number : mg "_law_is_number" = some (.ref a_wis_number)
  a_read : Addr
  d_read : FuncData
  F_read : Fun K "_law_read" "_law_read" s_read a_read d_read
  b_read : Binds K d_read ["_law_line_here"] []
  g_read : mg "_law_read" = some (.ref a_read)
  a_bent : Addr
  d_bent : FuncData
  F_bent : Fun K "_law_bent" "_law_bent" s_bent a_bent d_bent
  b_bent : Binds K d_bent ["_law_bag_here", "_law_line_here"] []
  g_bent : mg "_law_bent" = some (.ref a_bent)
  a_told : Addr
  d_told : FuncData
  F_told : Fun K "_law_told" "_law_told" s_told a_told d_told
  b_told : Binds K d_told ["_law_lines"] []
  g_told : mg "_law_told" = some (.ref a_told)
  a_law : Addr
  d_law : FuncData
  F_law : Fun K "law" "law" s_law a_law d_law
  b_law : Binds K d_law ["_law_script"] []
  g_law : mg "law" = some (.ref a_law)
  t_DIGITS : Tok
  c_DIGITS : mg "DIGITS" = some (.str "123456789" t_DIGITS)
  t_MOST_DIGITS : Tok
  c_MOST_DIGITS : mg "MOST_DIGITS" = some (.int 4 t_MOST_DIGITS)
  t_GREATEST_SUM : Tok
  c_GREATEST_SUM : mg "GREATEST_SUM" = some (.int 24 t_GREATEST_SUM)
  t_MOST_CREWS : Tok
  c_MOST_CREWS : mg "MOST_CREWS" = some (.int 6 t_MOST_CREWS)
  t_LAST_CREW : Tok
  c_LAST_CREW : mg "LAST_CREW" = some (.int 5 t_LAST_CREW)
  t_LAST_STATION : Tok
  c_LAST_STATION : mg "LAST_STATION" = some (.int 8 t_LAST_STATION)
  t_MOST_MOVES : Tok
  c_MOST_MOVES : mg "MOST_MOVES" = some (.int 6 t_MOST_MOVES)
  t_EMPTY : Tok
  c_EMPTY : mg "EMPTY" = some (.str "-" t_EMPTY)
  t_CALL : Tok
  c_CALL : mg "CALL" = some (.str "call" t_CALL)
  t_MORE : Tok
  c_MORE : mg "MORE" = some (.str "more" t_MORE)
  t_BACK : Tok
  c_BACK : mg "BACK" = some (.str "back" t_BACK)
  t_SEPARATOR : Tok
  c_SEPARATOR : mg "SEPARATOR" = some (.str " / " t_SEPARATOR)
  t_WORD_WIDTH : Tok
  c_WORD_WIDTH : mg "WORD_WIDTH" = some (.int 5 t_WORD_WIDTH)
  t_NUMBER_WIDTH : Tok
  c_NUMBER_WIDTH : mg "NUMBER_WIDTH" = some (.int 5 t_NUMBER_WIDTH)
  t_MOST_TICK_DIGITS : Tok
  c_MOST_TICK_DIGITS : mg "MOST_TICK_DIGITS" = some (.int 9 t_MOST_TICK_DIGITS)
  t_MOST_SHORT : Tok
  c_MOST_SHORT : mg "MOST_SHORT" = some (.int 6 t_MOST_SHORT)
  z_abs : mg "abs" = none
  z_all : mg "all" = none
  z_any : mg "any" = none
  z_bool : mg "bool" = none
  z_enumerate : mg "enumerate" = none
  z_int : mg "int" = none
  z_isinstance : mg "isinstance" = none
  z_len : mg "len" = none
  z_list : mg "list" = none
  z_max : mg "max" = none
  z_min : mg "min" = none
  z_range : mg "range" = none
  z_repr : mg "repr" = none
  z_str : mg "str" = none
  z_sum : mg "sum" = none
  z_tuple : mg "tuple" = none
end K83

namespace K83
open PySem L2 Wm TL Dv
/-! ### rows of a book -/
def natS (n : Nat) : Str := ((toString ((n : Nat) : Int) : String) : Str)
inductive Rw
  | back (t : Nat) (n : Str) (a b : List Nat)
  | sent (m : Bool) (t : Nat) (n : Str) (g : Nat) (a : List Nat) (v : List (Nat × Nat)) (s : Nat)
def wordS (m : Bool) : Str := if m then "more" else "call"
structure CwOk (a : List Nat) : Prop where
  len : a.length ≤ 6
  le : ∀ x ∈ a, x ≤ 5
structure MvOk (v : List (Nat × Nat)) : Prop where
  len : v.length ≤ 6
  le : ∀ x ∈ v, x.1 ≤ 5 ∧ x.2 ≤ 8
def RwOk : Rw → Prop
  | .back t n a b => t < 10 ^ 9 ∧ IsNum n ∧ CwOk a ∧ CwOk b
  | .sent m t n g a v s => t < 10 ^ 9 ∧ IsNum n ∧ (m = false → g = 1) ∧ (m = true → g = 2 ∨ g = 3) ∧ CwOk a ∧ MvOk v ∧ s ≤ 6
def iD (ns : List Nat) : PyData := .tuple (ns.map fun (n : Nat) => PyData.int (n : Int))
def mvD (m : List (Nat × Nat)) : PyData := .tuple (m.map fun x => PyData.tuple [.int (x.1 : Nat), .int (x.2 : Nat)])
def rowD : Rw → PyData
  | .back t n a b => .tuple [.str "back", .int (t : Nat), .str n, iD a, iD b]
  | .sent m t n g a v s => .tuple [.str (wordS m), .int (t : Nat), .str n, .int (g : Nat), iD a, mvD v, .int (s : Nat)]
def crT (a : List Nat) : Str := if a = [] then "-" else Txt.join " " (a.map natS)
def pvS (x : Nat × Nat) : Str := natS x.1 ++ ">" ++ natS x.2
def pvT (v : List (Nat × Nat)) : Str := if v = [] then "-" else Txt.join " " (v.map pvS)
def partsT : Rw → List Str
  | .back _ _ a b => [crT a, crT b]
  | .sent _ _ _ g a v s => [natS g, crT a, pvT v, natS s]
def wordR : Rw → Str
  | .back _ _ _ _ => "back"
  | .sent m _ _ _ _ _ _ => wordS m
def tickR : Rw → Nat
  | .back t _ _ _ => t
  | .sent _ t _ _ _ _ _ => t
def numR : Rw → Str
  | .back _ n _ _ => n
  | .sent _ _ n _ _ _ _ => n
def headT (r : Rw) : Str := Txt.rjust (natS (tickR r)) 6 ++ " " ++ Txt.ljust (wordR r) 5 ++ Txt.ljust (numR r) 5
def rend (r : Rw) : Str := headT r ++ Txt.join " / " (partsT r)
/-! ### what is read -/
def dgO (t : Str) : Option Nat := match t.cps.toList with
  | [c] => if 48 ≤ c ∧ c ≤ 57 then some (c - 48) else none
  | _ => none
def oV : Option Nat → V
  | some d => .int (d : Nat)
  | none => .non
def nV (ns : List Nat) : List V := ns.map fun (n : Nat) => V.int (n : Int)
/-- all of them, if each is there and not above k -/
def allO (k : Nat) : List (Option Nat) → Option (List Nat)
  | [] => some []
  | some d :: r => if d ≤ k then (allO k r).map (d :: ·) else none
  | none :: _ => none
def tickF (t : Str) : Option Nat := if 1 ≤ t.length ∧ t.length ≤ 9 ∧ (∀ c ∈ t.cps.toList, 48 ≤ c ∧ c ≤ 57) then some (NumText.digitsVal t.cps.toList) else none
def gradeF (m : Bool) (t : Str) : Option Nat := match dgO t with
  | some d => if (m = false ∧ d = 1) ∨ (m = true ∧ (d = 2 ∨ d = 3)) then some d else none
  | none => none
def shortF (t : Str) : Option Nat := match dgO t with
  | some d => if d ≤ 6 then some d else none
  | none => none
def crewsF (t : Str) : Option (List Nat) := if t = "-" then some [] else if (Txt.split t " ").length ≤ 6 then allO 5 ((Txt.split t " ").map dgO) else none
def mvB (os : List (Option Nat)) : Option (Nat × Nat) := match os with
  | [some a, some b] => if a ≤ 5 ∧ b ≤ 8 then some (a, b) else none
  | _ => none
def allP {α : Type} : List (Option α) → Option (List α)
  | [] => some []
  | some d :: r => (allP r).map (d :: ·)
  | none :: _ => none
def pairF (t : Str) : Option (Nat × Nat) := mvB ((Txt.split t ">").map dgO)
def pairsF (t : Str) : Option (List (Nat × Nat)) := if t = "-" then some [] else if (Txt.split t " ").length ≤ 6 then allP ((Txt.split t " ").map pairF) else none
inductive Tl | back (a b : List Nat) | sent (g : Nat) (a : List Nat) (v : List (Nat × Nat)) (s : Nat)
def tlD : Tl → List PyData
  | .back a b => [iD a, iD b]
  | .sent g a v s => [.int (g : Nat), iD a, mvD v, .int (s : Nat)]
def toldF (w : Str) (ps : List Str) : Option (Bool × Tl) :=
  if w = "back" ∧ ps.length = 2 then
    match crewsF (ps.getD 0 ""), crewsF (ps.getD 1 "") with
    | some a, some b => some (false, .back a b)
    | _, _ => none
  else if (w = "call" ∨ w = "more") ∧ ps.length = 4 then
    match gradeF (decide (w = "more")) (ps.getD 0 ""), crewsF (ps.getD 1 ""), pairsF (ps.getD 2 ""), shortF (ps.getD 3 "") with
    | some g, some a, some v, some s => some (decide (w = "more"), .sent g a v s)
    | _, _, _, _ => none
  else none
def mkRow (t : Nat) (n : Str) : Bool × Tl → Rw
  | (_, .back a b) => .back t n a b
  | (m, .sent g a v s) => .sent m t n g a v s
open Classical in
noncomputable def readF (x : Str) : Option Rw :=
  let p := Txt.partition (Txt.lstripChars x " ") " "
  match tickF p.1, toldF (Txt.rstripChars (cutS p.2.2 none (some 5)) " ") (Txt.split (cutS p.2.2 (some 10) none) " / ") with
  | some t, some tl => if IsNum (Txt.rstripChars (cutS p.2.2 (some 5) (some 10)) " ") then some (mkRow t (Txt.rstripChars (cutS p.2.2 (some 5) (some 10)) " ") tl) else none
  | _, _ => none
/-- what stands for something, or None -/
def OD (K : PySem.W.Frag) (H : Hp) (v : V) : Option PyData → Prop
  | none => v = .non
  | some d => v ≠ .non ∧ Dt K H v d
/-! ### promises -/
def wholeB : V → Bool
  | .int _ => true
  | _ => false
def withB : V → Int → Int → Bool
  | .int i, l, h => decide (l ≤ i) && decide (i ≤ h)
  | _, _, _ => false
def sp_is_whole (K : PySem.W.Frag) : Sp := fun vs H Q _ => ∃ x d, vs = [x] ∧ Ob K H x d ∧ Q (.bl (wholeB x)) H
def sp_is_whole_within (K : PySem.W.Frag) : Sp := fun vs H Q _ => ∃ x d, ∃ l h : Int, vs = [x, .int l, .int h] ∧ Ob K H x d ∧ Q (.bl (withB x l h)) H
def sp_is_sequence (K : PySem.W.Frag) : Sp := fun vs H Q _ => ∃ (p : Addr) (xs : List V) (t : Bool), vs = [.ref p] ∧ Kd.Is K t H p xs ∧ ∀ H', Same H H' → Q (.bl true) H'
def sp_is_number (K : PySem.W.Frag) : Sp := fun vs H Q _ => ∃ t : Str, vs = [.str t] ∧ t.length ≤ 1000 ∧ ∀ H' b, Same H H' → (b = true ↔ IsNum t) → Q (.bl b) H'
def sp_is_digit (K : PySem.W.Frag) : Sp := fun vs H Q _ => ∃ t : Str, vs = [.str t] ∧ t.length ≤ 1000 ∧ Q (.bl (dgO t).isSome) H
def sp_is_station (K : PySem.W.Frag) : Sp := fun vs H Q _ => ∃ x d, vs = [x] ∧ Ob K H x d ∧ Q (.bl (withB x 0 8)) H
def sp_is_crew (K : PySem.W.Frag) : Sp := fun vs H Q _ => ∃ x d, vs = [x] ∧ Ob K H x d ∧ Q (.bl (withB x 0 5)) H
def sp_is_move (K : PySem.W.Frag) : Sp := fun vs H Q _ => ∃ (p : Addr) (os : List (Option Nat)), vs = [.ref p] ∧ SqT K H p (os.map oV) ∧ (∀ d, some d ∈ os → d ≤ 9) ∧ ∀ H', Same H H' → Q (.bl (mvB os).isSome) H'
def sp_joined (K : PySem.W.Frag) : Sp := fun vs H Q _ => ∃ (v : V) (ns : List Nat), vs = [v] ∧ Dt K H v (iD ns) ∧ ns.length ≤ 6 ∧ (∀ n ∈ ns, n ≤ 9) ∧ ∀ H', Same H H' → Q (.str (Txt.join " " (ns.map natS))) H'
def sp_digits_in (K : PySem.W.Frag) : Sp := fun vs H Q _ => ∃ t s : Str, vs = [.str t, .str s] ∧ (s = " " ∨ s = ">") ∧ t.length ≤ 900 ∧ ∀ H' q, Same H H' → H q = none → H' q = some (.lst (((Txt.split t s).map dgO).map oV)) → Q (.ref q) H'
def sp_crews_text (K : PySem.W.Frag) : Sp := fun vs H Q _ => ∃ (v : V) (a : List Nat), vs = [v] ∧ Dt K H v (iD a) ∧ CwOk a ∧ ∀ H', Same H H' → Q (.str (crT a)) H'
def sp_pairs_text (K : PySem.W.Frag) : Sp := fun vs H Q _ => ∃ (v : V) (m : List (Nat × Nat)), vs = [v] ∧ Dt K H v (mvD m) ∧ MvOk m ∧ ∀ H', Same H H' → Q (.str (pvT m)) H'
def sp_row_line (K : PySem.W.Frag) : Sp := fun vs H Q _ => ∃ (v : V) (r : Rw), vs = [v] ∧ Dt K H v (rowD r) ∧ RwOk r ∧ ∀ H', Same H H' → Q (.str (rend r)) H'
def sp_book_page (K : PySem.W.Frag) : Sp := fun vs H Q _ => ∃ (p : Addr) (xs : List V) (t : Bool) (rs : List Rw), vs = [.ref p] ∧ Kd.Is K t H p xs ∧ Dts K H xs (rs.map rowD) ∧ (∀ r ∈ rs, RwOk r) ∧ rs.length ≤ 100 ∧ ∀ H' v, Same H H' → Dt K H' v (.tuple (rs.map fun r => PyData.str (rend r))) → Q v H'
def sp_read_tick (K : PySem.W.Frag) : Sp := fun vs H Q _ => ∃ t : Str, vs = [.str t] ∧ t.length ≤ 1000 ∧ ∀ H', Same H H' → Q (oV (tickF t)) H'
def sp_read_grade (K : PySem.W.Frag) : Sp := fun vs H Q _ => ∃ (m : Bool) (t : Str), vs = [.str (wordS m), .str t] ∧ ∀ H', Same H H' → Q (oV (gradeF m t)) H'
def sp_read_short (K : PySem.W.Frag) : Sp := fun vs H Q _ => ∃ t : Str, vs = [.str t] ∧ t.length ≤ 1000 ∧ Q (oV (shortF t)) H
def sp_read_crews (K : PySem.W.Frag) : Sp := fun vs H Q _ => ∃ t : Str, vs = [.str t] ∧ t.length ≤ 800 ∧ ∀ H' v, Same H H' → OD K H' v ((crewsF t).map iD) → Q v H'
def sp_read_pairs (K : PySem.W.Frag) : Sp := fun vs H Q _ => ∃ t : Str, vs = [.str t] ∧ t.length ≤ 800 ∧ ∀ H' v, Same H H' → OD K H' v ((pairsF t).map mvD) → Q v H'
def sp_read_told (K : PySem.W.Frag) : Sp := fun vs H Q _ => ∃ (w : Str) (q : Addr) (ps : List Str), vs = [.str w, .ref q] ∧ H q = some (.lst (ps.map V.str)) ∧ (∀ p ∈ ps, p.length ≤ 700) ∧ ∀ H' v, Same H H' → OD K H' v ((toldF w ps).map fun x => .tuple (tlD x.2)) → Q v H'
def sp_read_row (K : PySem.W.Frag) : Sp := fun vs H Q _ => ∃ x : Str, vs = [.str x] ∧ x.length ≤ 500 ∧ ∀ H' v, Same H H' → OD K H' v ((readF x).map rowD) → Q v H'
end K83

namespace K83
open PySem L2 Wm TL Dv
section
variable {P : Program} {w : World} {K : PySem.W.Frag} {mg : Str → Option Value} {base : Heap}
theorem dt_ints {H : Hp} {v : V} {ns : List Nat} (h : Dt K H v (iD ns)) : ∃ p, v = .ref p ∧ SqT K H p (nV ns) := by
  obtain ⟨p, xs, e, a, b⟩ := h.inv
  have : (ns.map fun (n : Nat) => PyData.int (n : Int)) = (ns.map fun (n : Nat) => (n : Int)).map PyData.int := by rw [List.map_map]; rfl
  rw [this] at b
  have := dts_int_inv b
  subst this
  refine ⟨p, e, ?_⟩
  have e2 : nV ns = (ns.map fun (n : Nat) => (n : Int)).map V.int := by unfold nV; rw [List.map_map]; rfl
  rw [e2]
  exact a
theorem nV_int (ns : List Nat) : nV ns = (ns.map fun (n : Nat) => (n : Int)).map V.int := by unfold nV; rw [List.map_map]; rfl
theorem dts_nV {H : Hp} (ns : List Nat) : Dts K H (nV ns) (ns.map fun (n : Nat) => PyData.int (n : Int)) := by
  have : (ns.map fun (n : Nat) => PyData.int (n : Int)) = (ns.map fun (n : Nat) => (n : Int)).map PyData.int := by rw [List.map_map]; rfl
  rw [this, nV_int]
  exact dts_int _
theorem dt_iD {H : Hp} {p : Addr} {ns : List Nat} (h : H p = some (.tup (nV ns))) : Dt K H (.ref p) (iD ns) := .tup (SqT.of h) (dts_nV ns)
theorem dt_two {H : Hp} {v : V} {a b : PyData} (h : Dt K H v (.tuple [a, b])) : ∃ p x y, v = .ref p ∧ SqT K H p [x, y] ∧ Dt K H x a ∧ Dt K H y b := by
  obtain ⟨p, xs, e, s, d⟩ := h.inv
  cases d with
  | cons d1 d =>
    cases d with
    | cons d2 d =>
      cases d
      exact ⟨p, _, _, e, s, d1, d2⟩
theorem none_of {H H' : Hp} {b : Addr} (s : Same H H') (h : H' b = none) : H b = none := by
  cases e : H b with
  | none => rfl
  | some o => rw [s _ _ e] at h; cases h
theorem _root_.Dv.Dt.ks {H H' : Hp} {v : V} {d : PyData} (h : Dt K H v d) (s : Same H H') : Dt K H' v d := h.k (Kt.same s)
theorem _root_.Dv.Dts.ks {H H' : Hp} {vs : List V} {ds : List PyData} (h : Dts K H vs ds) (s : Same H H') : Dts K H' vs ds := h.k (Kt.same s)
theorem spl_bound {S : List Nat} : ∀ (l : List Nat) (k : Nat) (acc : List Nat), (spl S k acc l).length ≤ l.length + 1 ∧ ∀ p ∈ spl S k acc l, p.length ≤ acc.length + l.length
  | [], k, acc => by
    rw [spl_nil]
    exact ⟨by simp, fun p m => by rw [List.mem_singleton.mp m]; simp⟩
  | c :: r, 0, acc => by
    by_cases h : pre S (c :: r) = true
    · rw [spl_hit h]
      obtain ⟨a, b⟩ := spl_bound (S := S) r (S.length - 1) []
      refine ⟨by rw [List.length_cons, List.length_cons]; omega, fun p m => ?_⟩
      rcases List.mem_cons.mp m with rfl | m
      · omega
      · have := b p m
        rw [List.length_nil] at this
        rw [List.length_cons]
        omega
    · rw [Bool.not_eq_true] at h
      rw [spl_miss h]
      obtain ⟨a, b⟩ := spl_bound (S := S) r 0 (acc ++ [c])
      refine ⟨by rw [List.length_cons]; omega, fun p m => ?_⟩
      have := b p m
      rw [List.length_append, List.length_singleton] at this
      rw [List.length_cons]
      omega
  | c :: r, k + 1, acc => by
    obtain ⟨a, b⟩ := spl_bound (S := S) r k acc
    refine ⟨by rw [List.length_cons]; exact Nat.le_succ_of_le a, fun p m => ?_⟩
    have := b p m
    rw [List.length_cons]
    omega
structure SepOk (s : Str) : Prop where
  ne : tl s ≠ []
  kd : s.cps.all (· < 256) = true
theorem split_len {t s : Str} (h : SepOk s) : (Txt.split t s).length ≤ t.length + 1 ∧ ∀ p ∈ Txt.split t s, p.length ≤ t.length := by
  have e := split_spl t s h.ne (kind_ok h.kd)
  obtain ⟨a, b⟩ := spl_bound (S := tl s) (tl t) 0 []
  rw [← e] at a b
  rw [List.length_map] at a
  rw [len_tl t]
  refine ⟨a, fun p m => ?_⟩
  have := b _ (List.mem_map.mpr ⟨p, m, rfl⟩)
  rw [List.length_nil] at this
  rw [len_tl p]
  omega
theorem sep_sp : SepOk " " := ⟨by decide +kernel, by decide +kernel⟩
theorem sep_gt : SepOk ">" := ⟨by decide +kernel, by decide +kernel⟩
theorem sep_sl : SepOk " / " := ⟨by decide +kernel, by decide +kernel⟩
theorem small_len {n : Nat} (h : n ≤ 100000) : n ≤ sizeLine := by
  have : (100000 : Nat) ≤ sizeLine := by decide
  omega
theorem sum_cast : ∀ ds : List Nat, (ds.map fun (d : Nat) => (d : Int)).sum = ((ds.sum : Nat) : Int)
  | [] => rfl
  | d :: ds => by
    rw [List.map_cons, List.sum_cons, List.sum_cons, sum_cast ds]
    omega
def letters (t : Str) : List Bool := (tl t).map fun c => decide (c ∈ ("123456789" : Str).cps.toList)
theorem letters_all {t : Str} : (letters t).all id = true ↔ ∀ c ∈ tl t, c ∈ ("123456789" : Str).cps.toList := by
  unfold letters
  rw [List.all_map, List.all_eq_true]
  constructor
  · intro h c m
    exact of_decide_eq_true (h c m)
  · intro h c m
    exact decide_eq_true (h c m)
theorem cps_at {t : Str} {i c : Nat} (h : t.cps[i]? = some c) : (tl t)[i]? = some c := by
  rw [← h]
  exact Array.getElem?_toList ..
theorem tyT {H : Hp} {p : Addr} {xs : List V} (h : SqT K H p xs) : TyX K H (.ref p) (.type "tuple") := by
  rcases h with (h | ⟨o, h⟩) | ⟨o, its, n, e, c, _⟩
  · exact .base (.tup h)
  · exact .fTuple h
  · exact .kTuple e c
theorem tyL {H : Hp} {p : Addr} {xs : List V} (h : SqL K H p xs) : TyX K H (.ref p) (.type "list") := by
  rcases h with (h | ⟨o, h⟩) | ⟨o, its, n, e, c, _⟩
  · exact .base (.lst h)
  · exact .base (.frz h)
  · exact .kList e c
theorem ok_is_whole (T : Txt K mg) : FnOk P w K mg base CX0 1 T.a_is_whole T.d_is_whole ["thing"] (sp_is_whole K) := by
  refine T.F_is_whole.ok sc_is_whole (fun vs H Q E h => ?_) (fun cdv A outer s H vs Q E hr h => ?_)
  · obtain ⟨x, d, rfl, _⟩ := h
    rfl
  · obtain ⟨x, d, rfl, ob, k⟩ := h
    refine ⟨_, (pss_one (ps_ret (pe_and (pe_callB call_isi (by rfl) T.z_isinstance (by decide +kernel) (pa_cons (pv 0) (pa_cons (pe_bltn (v := V.ty "int") (by rfl) T.z_int (by decide +kernel) rfl) pa_nil))) (pe_one (pe_not (pe_callB call_isi (by rfl) T.z_isinstance (by decide +kernel) (pa_cons (pv 0) (pa_cons (pe_bltn (v := V.ty "bool") (by rfl) T.z_bool (by decide +kernel) rfl) pa_nil)))))))), ?_⟩
    obtain ⟨h, t⟩ := ob
    cases t with
    | int q =>
      cases h
      refine ⟨_, rfl, _, _, _, _, true, rfl, .ty "int", .base (.int _), kit_ty (by decide +kernel), true, rfl, iteT ?_⟩
      exact ⟨_, rfl, _, _, _, _, false, rfl, .ty "bool", .base (.int _), kit_ty (by decide +kernel), false, rfl, k⟩
    | bl b =>
      cases h
      refine ⟨_, rfl, _, _, _, _, true, rfl, .ty "int", .base (.bl _), kit_ty (by decide +kernel), true, rfl, iteT ?_⟩
      exact ⟨_, rfl, _, _, _, _, true, rfl, .ty "bool", .base (.bl _), kit_ty (by decide +kernel), true, rfl, k⟩
    | non => cases h; exact ⟨_, rfl, _, _, _, _, false, rfl, .ty "int", .base .non, kit_ty (by decide +kernel), false, rfl, iteF k⟩
    | str q => cases h; exact ⟨_, rfl, _, _, _, _, false, rfl, .ty "int", .base (.str _), kit_ty (by decide +kernel), false, rfl, iteF k⟩
    | lst q l =>
      cases h with
      | lst s a => exact ⟨_, rfl, _, _, _, _, false, rfl, .ty "int", tyL s, kit_ty (by decide +kernel), false, rfl, iteF k⟩
    | tup q l =>
      cases h with
      | tup s a => exact ⟨_, rfl, _, _, _, _, false, rfl, .ty "int", tyT s, kit_ty (by decide +kernel), false, rfl, iteF k⟩
theorem ok_is_whole_within (T : Txt K mg) : FnOk P w K mg base CX0 2 T.a_is_whole_within T.d_is_whole_within ["thing", "low", "high"] (sp_is_whole_within K) := by
  refine T.F_is_whole_within.ok sc_is_whole_within (fun vs H Q E h => ?_) (fun cdv A outer s H vs Q E hr h => ?_)
  · obtain ⟨x, d, l, h, rfl, _⟩ := h
    rfl
  · obtain ⟨x, d, lo, hi, rfl, ob, k⟩ := h
    refine ⟨_, (pss_one (ps_ret (pe_and (pe_call (ok_is_whole T) (hr.mono (by decide)) (by rfl) T.g_is_whole T.F_is_whole.kp T.b_is_whole .nil pass0 (pa_cons (pv 0) pa_nil)) (pe_one (pe_chain op_le op_le (pv 1) (pv 0) (pv 2)))))), ?_⟩
    refine ⟨_, rfl, x, d, rfl, ob, ?_⟩
    by_cases c : ∃ i : Int, x = .int i
    · obtain ⟨i, rfl⟩ := c
      refine ⟨_, rfl, iteT ?_⟩
      refine ⟨_, rfl, _, rfl, _, _, rfl, rfl, _, rfl, ite2 (fun c1 => ?_) (fun c1 => ?_)⟩
      · refine ⟨_, rfl, _, _, rfl, rfl, ?_⟩
        have e : withB (.int i) lo hi = decide (i ≤ hi) := by show (decide (lo ≤ i) && decide (i ≤ hi)) = _; rw [c1, Bool.true_and]
        have k : Q (.bl (withB (.int i) lo hi)) H := k
        rw [e] at k
        exact k
      · have e : withB (.int i) lo hi = false := by show (decide (lo ≤ i) && decide (i ≤ hi)) = _; rw [Bool.eq_false_iff.mpr c1, Bool.false_and]
        rw [e] at k
        exact k
    · have c2 : wholeB x = false ∧ withB x lo hi = false := by cases x <;> first | exact ⟨rfl, rfl⟩ | exact absurd ⟨_, rfl⟩ c
      rw [c2.2] at k
      rw [c2.1]
      exact ⟨_, rfl, iteF k⟩
theorem ok_is_sequence (T : Txt K mg) : FnOk P w K mg base CX0 1 T.a_is_sequence T.d_is_sequence ["thing"] (sp_is_sequence K) := by
  refine T.F_is_sequence.ok sc_is_sequence (fun vs H Q E h => ?_) (fun cdv A outer s H vs Q E hr h => ?_)
  · obtain ⟨p, xs, t, rfl, _⟩ := h
    rfl
  · obtain ⟨p, xs, t, rfl, hx, k⟩ := h
    refine ⟨_, (pss_one (ps_ret (pe_callB call_isiT (by rfl) T.z_isinstance (by decide +kernel) (pa_cons (pv 0) (pa_cons (pe_tup (pa_cons (pe_bltn (v := V.ty "list") (by rfl) T.z_list (by decide +kernel) rfl) (pa_cons (pe_bltn (v := V.ty "tuple") (by rfl) T.z_tuple (by decide +kernel) rfl) pa_nil))) pa_nil))))), ?_⟩
    refine ⟨_, rfl, by show 2 ≤ sizeLine; decide, fun t2 ht => ?_⟩
    have s1 : Same H (upd H t2 (.tup [.ty "list", .ty "tuple"])) := same_new ht
    cases t with
    | true =>
      refine ⟨_, t2, _, _, _, true, rfl, upd_same, .cons (.ty "list") (.cons (.ty "tuple") .nil), tyT (sameT s1 hx), kitAny_cons (b := false) (kit_ty (by decide +kernel)) (fun _ => kitAny_cons (b := true) (kit_ty (by decide +kernel)) (fun z => by cases z) (fun _ => rfl)) (fun z => by cases z), ?_⟩
      exact k _ s1
    | false =>
      refine ⟨_, t2, _, _, _, true, rfl, upd_same, .cons (.ty "list") (.cons (.ty "tuple") .nil), tyL (Hf.keepL s1 hx), kitAny_cons (b := true) (kit_ty (by decide +kernel)) (fun z => by cases z) (fun _ => rfl), ?_⟩
      exact k _ s1
theorem ok_is_number (T : Txt K mg) : FnOk P w K mg base CX0 1 T.a_is_number T.d_is_number ["thing"] (sp_is_number K) := by
  refine T.F_is_number.ok sc_is_number (fun vs H Q E h => ?_) (fun cdv A outer s H vs Q E hr h => ?_)
  · obtain ⟨t, rfl, _⟩ := h
    rfl
  · obtain ⟨t, rfl, hz, k⟩ := h
    refine ⟨_, (pss_cons (ps_if (PW.pt (pw_or (pt_not (pt_val (pe_callB call_isi (by rfl) T.z_isinstance (by decide +kernel) (pa_cons (pv 0) (pa_cons (pe_bltn (v := V.ty "str") (by rfl) T.z_str (by decide +kernel) rfl) pa_nil))))) (pw_or1 (pt_not (pt_chain op_le op_le pe_int (pe_callB call_len_str (by rfl) T.z_len PySem.boot_len (pa_cons (pv 0) pa_nil)) (pe_glob (v := V.int 4) rfl T.c_MOST_DIGITS ⟨_, rfl⟩))))))
        (pss_one (ps_ret pe_bl))
        pss_nil)
      (pss_cons (ps_if (pt_not (pt_val (pe_callB (cr_all rfl) (by rfl) T.z_all (by decide +kernel) (pa_cons (pe_lc (own := [("letter", 1)]) (g := gName 1) (tt := tYes) rfl sc_is_number.nd (pi_str (pv 0)) (blkOk_by (own := [("letter", 1)]) (N := nm_is_number) (sc := (defScope s_is_number)) (by decide +kernel)) (fun _ _ _ _ _ => pg_name (i := 1) sc_is_number.nd rfl (Or.inl rfl)) (fun _ _ _ _ _ => pts_nil) (fun _ _ _ _ _ => (pe_cmpR op_in_sign (pv 1) (pe_glob (v := V.str "123456789") rfl T.c_DIGITS ⟨_, rfl⟩) rfl))) pa_nil))))
        (pss_one (ps_ret pe_bl))
        pss_nil)
      (pss_one (ps_ret (pe_cmpR op_le (pe_callB (cr_sum rfl) (by rfl) T.z_sum (by decide +kernel) (pa_cons (pe_lc (own := [("letter", 1)]) (g := gName 1) (tt := tYes) rfl sc_is_number.nd (pi_str (pv 0)) (blkOk_by (own := [("letter", 1)]) (N := nm_is_number) (sc := (defScope s_is_number)) (by decide +kernel)) (fun _ _ _ _ _ => pg_name (i := 1) sc_is_number.nd rfl (Or.inl rfl)) (fun _ _ _ _ _ => pts_nil) (fun _ _ _ _ _ => (pe_callTy call_int_str (by rfl) T.z_int (by decide +kernel) (pa_cons (pv 1) pa_nil)))) pa_nil)) (pe_glob (v := V.int 24) rfl T.c_GREATEST_SUM ⟨_, rfl⟩) (nomark _)))))), ?_⟩
    refine ⟨_, rfl, _, _, _, _, true, rfl, .ty "str", .base (.str _), kit_ty (by decide +kernel), true, rfl, iteF ?_⟩
    have hz : t.length ≤ 100000 := Nat.le_trans hz (by decide)
    have hl : t.length = (tl t).length := len_tl t
    have numlen : IsNum t → 1 ≤ t.length ∧ t.length ≤ 4 := fun ⟨ds, N, e⟩ => by
      rw [e, numS_len]
      exact ⟨N.pos, N.len⟩
    refine ⟨_, rfl, _, rfl, small_len hz, _, _, rfl, rfl, _, rfl, ?_⟩
    refine ite2 (fun c1 => ?_) (fun c1 => ?_)
    case refine_2 =>
      have c1' : ¬ (1 : Int) ≤ (t.length : Nat) := fun z => c1 (decide_eq_true z)
      refine ⟨false, rfl, iteT ?_⟩
      exact k _ _ (Same.refl _) ⟨fun z => (by cases z), fun z => absurd (numlen z).1 (by omega)⟩
    have c1' : (1 : Int) ≤ (t.length : Nat) := of_decide_eq_true c1
    refine ⟨_, _, rfl, rfl, _, rfl, ?_⟩
    by_cases c2 : ((t.length : Nat) : Int) ≤ 4
    case neg =>
      rw [decide_eq_false c2]
      refine iteT ?_
      exact k _ _ (Same.refl _) ⟨fun z => (by cases z), fun z => absurd (numlen z).2 (by omega)⟩
    rw [decide_eq_true c2]
    refine iteF ?_
    refine ⟨_, rfl, _, rfl, fun D hD => ?_⟩
    have hsz : t.cps.size = (tl t).length := hl
    refine lc_it walk_str (fun i H' => Same H H' ∧ H' D = some (.lst (((letters t).take i).map V.bl))) ⟨same_new hD, upd_same⟩ (fun _ _ _ _ => trivial) (fun i x H1 H' hi hP hY => ?_) (fun H1 hP => ?_)
    · obtain ⟨sm, hL⟩ := hP
      obtain ⟨rfl, c, hc, rfl⟩ := hY
      have hc2 : (letters t)[i]? = some (decide (c ∈ ("123456789" : Str).cps.toList)) := by
        unfold letters
        rw [List.getElem?_map, cps_at hc]
        rfl
      refine ⟨rfl, yesT ?_⟩
      refine ⟨_, rfl, _, _, rfl, rfl, _, hL, by rw [List.length_map, List.length_take]; exact small1000 (by omega), ?_⟩
      refine ⟨same_mut sm hD, ?_⟩
      rw [upd_same, take_succ_map _ hc2]
    · obtain ⟨sm, hL⟩ := hP
      have ell : (letters t).length = t.cps.size := by unfold letters; rw [List.length_map, hsz]
      rw [← ell, List.take_length] at hL
      refine ⟨D, letters t, rfl, SqL.of hL, _, rfl, ?_⟩
      by_cases c3 : (letters t).all id = true
      case neg =>
        rw [Bool.not_eq_true] at c3
        rw [c3]
        refine iteT ?_
        refine k _ _ sm ⟨fun z => (by cases z), fun ⟨ds, N, e⟩ => ?_⟩
        have q := letters_all.mpr (by rw [e]; exact num_codes N.dig : ∀ c ∈ tl t, c ∈ ("123456789" : Str).cps.toList)
        rw [c3] at q
        cases q
      rw [c3]
      refine iteF ?_
      obtain ⟨ds, dig, et⟩ := dig_text t (letters_all.mp c3)
      subst et
      rw [numS_len] at c1' c2
      refine ⟨_, rfl, _, rfl, fun D2 hD2 => ?_⟩
      refine lc_it walk_str (fun i H' => Same H H' ∧ H' D2 = some (.lst ((ds.take i).map fun (d : Nat) => V.int (d : Int)))) ⟨sm.trans (same_new hD2), upd_same⟩ (fun _ _ _ _ => trivial) (fun i x H2 H' hi hP hY => ?_) (fun H2 hP => ?_)
      · obtain ⟨sm2, hl2⟩ := hP
        obtain ⟨rfl, c, hc, rfl⟩ := hY
        rw [numS_size] at hi
        rw [numS_at ds i hi] at hc
        have hc' := (Option.some.inj hc).symm
        subst hc'
        refine ⟨rfl, yesT ?_⟩
        refine ⟨_, rfl, _, _, rfl, dig_int (dig _ (List.getElem_mem hi)), (by show 1 ≤ 640; decide), _, hl2, by rw [List.length_map, List.length_take]; exact small1000 (by omega), ?_⟩
        refine ⟨same_mut sm2 (sm.free hD2), ?_⟩
        rw [upd_same, take_succ_map _ (List.getElem?_eq_getElem hi)]
      · obtain ⟨sm2, hl2⟩ := hP
        rw [numS_size, List.take_length] at hl2
        refine ⟨D2, ds.map fun (d : Nat) => (d : Int), rfl, SqL.of (by rw [hl2, List.map_map]; rfl), _, _, rfl, rfl, ?_⟩
        rw [sum_cast]
        refine k _ _ sm2 ?_
        rw [isnum_dig]
        constructor
        · intro z
          have z' : ((ds.sum : Nat) : Int) ≤ 24 := of_decide_eq_true z
          exact ⟨by omega, by omega, dig, by omega⟩
        · intro N
          exact decide_eq_true (show ((ds.sum : Nat) : Int) ≤ 24 by have := N.sum; omega)
theorem ok_is_station (T : Txt K mg) : FnOk P w K mg base CX0 3 T.a_is_station T.d_is_station ["thing"] (sp_is_station K) := by
  refine T.F_is_station.ok sc_is_station (fun vs H Q E h => ?_) (fun cdv A outer s H vs Q E hr h => ?_)
  · obtain ⟨x, d, rfl, _⟩ := h
    rfl
  · obtain ⟨x, d, rfl, ob, k⟩ := h
    refine ⟨_, (pss_one (ps_ret (pe_call (ok_is_whole_within T) (hr.mono (by decide)) (by rfl) T.g_is_whole_within T.F_is_whole_within.kp T.b_is_whole_within .nil pass0 (pa_cons (pv 0) (pa_cons pe_int (pa_cons (pe_glob (v := V.int 8) rfl T.c_LAST_STATION ⟨_, rfl⟩) pa_nil)))))), ?_⟩
    exact ⟨_, rfl, x, d, 0, 8, rfl, ob, k⟩
theorem ok_is_crew (T : Txt K mg) : FnOk P w K mg base CX0 3 T.a_is_crew T.d_is_crew ["thing"] (sp_is_crew K) := by
  refine T.F_is_crew.ok sc_is_crew (fun vs H Q E h => ?_) (fun cdv A outer s H vs Q E hr h => ?_)
  · obtain ⟨x, d, rfl, _⟩ := h
    rfl
  · obtain ⟨x, d, rfl, ob, k⟩ := h
    refine ⟨_, (pss_one (ps_ret (pe_call (ok_is_whole_within T) (hr.mono (by decide)) (by rfl) T.g_is_whole_within T.F_is_whole_within.kp T.b_is_whole_within .nil pass0 (pa_cons (pv 0) (pa_cons pe_int (pa_cons (pe_glob (v := V.int 5) rfl T.c_LAST_CREW ⟨_, rfl⟩) pa_nil)))))), ?_⟩
    exact ⟨_, rfl, x, d, 0, 5, rfl, ob, k⟩
theorem oV_ob {H : Hp} (o : Option Nat) (h : ∀ d, o = some d → d ≤ 9) : ∃ d, Ob K H (oV o) d := by
  cases o with
  | none => exact ⟨_, .non, .non⟩
  | some d => exact ⟨_, .int _, .int (by have := h d rfl; omega)⟩
theorem withB_o (o : Option Nat) (k : Nat) : withB (oV o) 0 (k : Nat) = (match o with | some d => decide (d ≤ k) | none => false) := by
  cases o with
  | none => rfl
  | some d =>
    show (decide ((0 : Int) ≤ (d : Nat)) && decide (((d : Nat) : Int) ≤ (k : Nat))) = decide (d ≤ k)
    rw [decide_eq_true (by omega : (0 : Int) ≤ (d : Nat)), Bool.true_and]
    by_cases c : d ≤ k
    · rw [decide_eq_true c, decide_eq_true (by omega)]
    · rw [decide_eq_false c, decide_eq_false (by omega)]
theorem ok_is_move (T : Txt K mg) : FnOk P w K mg base CX0 4 T.a_is_move T.d_is_move ["thing"] (sp_is_move K) := by
  refine T.F_is_move.ok sc_is_move (fun vs H Q E h => ?_) (fun cdv A outer s H vs Q E hr h => ?_)
  · obtain ⟨p, os, rfl, _⟩ := h
    rfl
  · obtain ⟨p, os, rfl, hp, h9, k⟩ := h
    refine ⟨_, (pss_one (ps_ret (pe_and (pe_call (ok_is_sequence T) (hr.mono (by decide)) (by rfl) T.g_is_sequence T.F_is_sequence.kp T.b_is_sequence .nil pass0 (pa_cons (pv 0) pa_nil)) (pe_and (pe_cmpR op_eq (pe_callB call_len_seq (by rfl) T.z_len PySem.boot_len (pa_cons (pv 0) pa_nil)) pe_int (nomark _)) (pe_and (pe_call (ok_is_crew T) (hr.mono (by decide)) (by rfl) T.g_is_crew T.F_is_crew.kp T.b_is_crew .nil pass0 (pa_cons (pe_ix ix_tup (pv 0) pe_int (fun _ _ => rfl)) pa_nil)) (pe_one (pe_call (ok_is_station T) (hr.mono (by decide)) (by rfl) T.g_is_station T.F_is_station.kp T.b_is_station .nil pass0 (pa_cons (pe_ix ix_tup (pv 0) pe_int (fun _ _ => rfl)) pa_nil)))))))), ?_⟩
    refine ⟨_, rfl, p, _, true, rfl, hp, fun H1 s1 => ⟨_, rfl, iteT ?_⟩⟩
    have hp1 := sameT s1 hp
    have ne : ∀ os : List (Option Nat), os.length ≠ 2 → (mvB os).isSome = false := fun os h => by
      match os, h with
      | [], _ => rfl
      | [none], _ => rfl
      | [some _], _ => rfl
      | [_, _], h => exact absurd rfl h
      | none :: _ :: _ :: _, _ => rfl
      | some _ :: none :: _ :: _, _ => rfl
      | some _ :: some _ :: _ :: _, _ => rfl
    by_cases c : os.length = 2
    · match os, c, hp1, h9, k with
      | [a, b], _, hp1, h9, k =>
        obtain ⟨da, oa⟩ := oV_ob (K := K) (H := H1) a fun d e => h9 d (by rw [← e]; simp)
        obtain ⟨db, ob⟩ := oV_ob (K := K) (H := H1) b fun d e => h9 d (by rw [← e]; simp)
        refine ⟨_, rfl, p, _, rfl, .inr hp1, rfl, _, rfl, ?_⟩
        refine iteT ?_
        refine ⟨_, rfl, p, _, 0, _, rfl, rfl, hp1, atI_nat (j := 0) rfl, oV a, da, rfl, oa, _, rfl, ?_⟩
        have ea := withB_o a 5
        have ea : withB (oV a) 0 5 = _ := ea
        rw [ea]
        have k := k H1 s1
        cases a with
        | none => exact iteF k
        | some x =>
          refine ite2 (fun c => ?_) (fun c => ?_)
          · refine ⟨_, rfl, p, _, 1, _, rfl, rfl, hp1, atI_nat (j := 1) rfl, oV b, db, rfl, ob, ?_⟩
            have eb := withB_o b 8
            have eb : withB (oV b) 0 8 = _ := eb
            rw [eb]
            have c : x ≤ 5 := of_decide_eq_true c
            cases b with
            | none => exact k
            | some y =>
              have e : (mvB [some x, some y]).isSome = decide (y ≤ 8) := by
                unfold mvB
                by_cases d : y ≤ 8
                · simp [c, d]
                · simp [d]
              rw [e] at k
              exact k
          · have c : ¬ x ≤ 5 := fun z => c (decide_eq_true z)
            have e : (mvB [some x, b]).isSome = false := by cases b <;> simp [mvB, c]
            rw [e] at k
            exact k
    · refine ⟨_, rfl, p, _, rfl, .inr hp1, rfl, _, rfl, ?_⟩
      rw [decide_eq_false (fun z => c (by injection z with z; rw [List.length_map] at z; omega))]
      refine iteF ?_
      have k := k H1 s1
      rw [ne os c] at k
      exact k
theorem digs_mem (x : Nat) : decide (x ∈ ("0123456789" : Str).cps.toList) = decide (48 ≤ x ∧ x ≤ 57) := by
  have e : ("0123456789" : Str).cps.toList = [48, 49, 50, 51, 52, 53, 54, 55, 56, 57] := by decide +kernel
  rw [e]
  apply decide_eq_decide.mpr
  simp only [List.mem_cons, List.not_mem_nil, or_false]
  omega
theorem dg_one {t : Str} {d : Nat} (h : dgO t = some d) : t.cps.toList = [d + 48] ∧ d ≤ 9 := by
  unfold dgO at h
  split at h
  · rename_i c e
    split at h
    · cases h
      rename_i g
      exact ⟨by rw [e]; congr 1; omega, by omega⟩
    · cases h
  · cases h
theorem dg_int {t : Str} {d : Nat} (h : dgO t = some d) : PySem.intText? t = some (d : Int) ∧ t.length = 1 := by
  obtain ⟨e, l⟩ := dg_one h
  have el : t.length = 1 := by rw [len_tl t]; show t.cps.toList.length = 1; rw [e]; rfl
  refine ⟨?_, el⟩
  rw [PySem.intText_digits (by rw [e]; intro c m; rw [List.mem_singleton.mp m]; omega) (by rw [e]; simp) (by omega), e]
  show some (((0 * 10 + (d + 48 - 48) : Nat) : Int)) = _
  congr 2
  omega
theorem ok_is_digit (T : Txt K mg) : FnOk P w K mg base CX0 1 T.a_is_digit T.d_is_digit ["word"] (sp_is_digit K) := by
  refine T.F_is_digit.ok sc_is_digit (fun vs H Q E h => ?_) (fun cdv A outer s H vs Q E hr h => ?_)
  · obtain ⟨t, rfl, _⟩ := h
    rfl
  · obtain ⟨t, rfl, l, k⟩ := h
    refine ⟨_, (pss_one (ps_ret (pe_and (pe_cmpR op_eq (pe_callB call_len_str (by rfl) T.z_len PySem.boot_len (pa_cons (pv 0) pa_nil)) pe_int (nomark _)) (pe_one (pe_cmpR op_in_sign (pv 0) pe_str rfl))))), ?_⟩
    have ll : t.length = t.cps.toList.length := len_tl t
    refine ⟨_, rfl, _, rfl, small_len (by omega), rfl, _, rfl, ?_⟩
    unfold dgO at k
    by_cases c : t.length = 1
    · rw [decide_eq_true (by rw [c]; rfl)]
      refine iteT ?_
      obtain ⟨x, e⟩ : ∃ x, t.cps.toList = [x] := List.length_eq_one_iff.mp (by omega)
      obtain rfl : t = ⟨#[x]⟩ := by
        obtain ⟨z⟩ := t
        congr 1
        exact Array.toList_inj.mp e
      refine ⟨_, rfl, x, _, rfl, rfl, ?_⟩
      rw [digs_mem]
      have k : Q (.bl (match [x] with | [c] => if 48 ≤ c ∧ c ≤ 57 then some (c - 48) else none | _ => none).isSome) H := k
      by_cases d : 48 ≤ x ∧ x ≤ 57
      · rw [decide_eq_true d]
        simpa [d] using k
      · rw [decide_eq_false d]
        simpa [d] using k
    · rw [decide_eq_false (fun z => c (by injection z with z; omega))]
      refine iteF ?_
      match e : t.cps.toList with
      | [x] => rw [e] at ll; exact absurd ll c
      | [] => rw [e] at k; exact k
      | x :: y :: r => rw [e] at k; exact k
theorem ok_digits_in (T : Txt K mg) : FnOk P w K mg base CX0 2 T.a_digits_in T.d_digits_in ["text", "separator"] (sp_digits_in K) := by
  refine T.F_digits_in.ok sc_digits_in (fun vs H Q E h => ?_) (fun cdv A outer s H vs Q E hr h => ?_)
  · obtain ⟨t, s, rfl, _⟩ := h
    rfl
  · obtain ⟨t, s, rfl, hs, l, k⟩ := h
    have so : SepOk s := by
      rcases hs with rfl | rfl
      · exact sep_sp
      · exact sep_gt
    have s0 : (s.length == 0) = false := by rcases hs with rfl | rfl <;> decide +kernel
    have big : (100000 : Nat) ≤ sizeLine := by decide
    obtain ⟨b1, b2⟩ := split_len (t := t) so
    refine ⟨_, (pss_one (ps_ret (pe_lc (own := [("word", 2)]) (g := gName 2) (tt := tYes) rfl sc_digits_in.nd (pi_list (pe_split (pv 0) (pv 1))) (blkOk_by (own := [("word", 2)]) (N := nm_digits_in) (sc := (defScope s_digits_in)) (by decide +kernel)) (fun _ _ _ _ _ => pg_name (i := 2) sc_digits_in.nd rfl (Or.inl rfl)) (fun _ _ _ _ _ => pts_nil) (fun _ _ _ _ _ => (pe_ifExp (pt_val (pe_call (ok_is_digit T) (hr.mono (by decide)) (by rfl) T.g_is_digit T.F_is_digit.kp T.b_is_digit .nil pass0 (pa_cons (pv 2) pa_nil))) (pe_callTy call_int_str (by rfl) T.z_int (by decide +kernel) (pa_cons (pv 2) pa_nil)) pe_non))))), ?_⟩
    refine ⟨_, rfl, ⟨_, rfl⟩, _, rfl, _, _, rfl, rfl, s0, by omega, fun q hq => ⟨q, rfl, ⟨_, SqL.of upd_same⟩, fun D hD => ?_⟩⟩
    have sq := same_new (o := .lst ((Txt.split t s).map V.str)) hq
    have hq1 : upd H q (.lst ((Txt.split t s).map V.str)) q = some (.lst ((Txt.split t s).map V.str)) := upd_same
    generalize upd H q (.lst ((Txt.split t s).map V.str)) = H1 at sq hq1 hD ⊢
    refine Lm.lc_map (K := K) walk_list (xs := (Txt.split t s).map V.str) (fun i y A => ∃ z, (Txt.split t s)[i]? = some z ∧ y = oV (dgO z)) (fun _ _ _ _ h _ => h) hD (by rw [List.length_map]; omega) (fun H' s' => SqL.of (s' _ _ hq1)) (fun i x H' hi hx s' Q' Z hQ => ?_) (fun H3 ys s3 hD3 hly hy => ?_)
    · rw [List.getElem?_map] at hx
      obtain ⟨z, hz, rfl⟩ := Option.map_eq_some_iff.mp hx
      have lz := b2 z (List.mem_of_getElem? hz)
      refine ⟨rfl, yesT ⟨_, rfl, z, rfl, by omega, _, rfl, ?_⟩⟩
      cases e : dgO z with
      | none => exact iteF (hQ _ _ (Same.refl _) ⟨z, hz, by rw [e]; rfl⟩)
      | some d =>
        obtain ⟨d1, d2⟩ := dg_int e
        exact iteT ⟨_, rfl, z, _, rfl, d1, by omega, hQ _ _ (Same.refl _) ⟨z, hz, by rw [e]; rfl⟩⟩
    · have eys : ys = ((Txt.split t s).map dgO).map oV := by
        refine List.ext_getElem? fun i => ?_
        cases e : ys[i]? with
        | none =>
          have := List.getElem?_eq_none_iff.mp e
          rw [List.length_map] at hly
          rw [List.getElem?_eq_none_iff.mpr (by rw [List.length_map, List.length_map]; omega)]
        | some y =>
          obtain ⟨z, hz, rfl⟩ := hy i y e
          rw [List.getElem?_map, List.getElem?_map, hz]
          rfl
      rw [eys] at hD3
      exact k _ _ (sq.trans s3) (none_of sq hD) hD3
theorem nat_le9 {n : Nat} (h : n ≤ 9) : (natS n).length = 1 ∧ tl (natS n) = [n + 48] := by
  have e : tl (natS n) = [n + 48] := by
    have := tl_num n
    rw [numL_lt (by omega), Nat.add_comm] at this
    exact this
  exact ⟨by rw [len_tl, e]; rfl, e⟩
theorem log9 {n : Nat} (h : n ≤ 9) : ((n : Nat) : Int).natAbs.log2 < 1920 := by
  rw [Int.natAbs_natCast]
  by_cases c : n = 0
  · subst c; decide
  · exact (Nat.log2_lt c).mpr (Nat.lt_of_le_of_lt h (by decide +kernel))
theorem sum_ones : ∀ {ns : List Nat}, (∀ n ∈ ns, n ≤ 9) → ((ns.map natS).map (·.length)).sum = ns.length
  | [], _ => rfl
  | n :: ns, h => by
    rw [List.map_cons, List.map_cons, List.sum_cons, sum_ones fun m hm => h m (List.mem_cons_of_mem _ hm), (nat_le9 (h n (List.mem_cons_self ..))).1, List.length_cons]
    omega
theorem strs_list {α : Type} {xs : List α} {f : α → V} {ys : List V} (l : ys.length = xs.length) (h : ∀ (i : Nat) y, ys[i]? = some y → ∃ x, xs[i]? = some x ∧ y = f x) : ys = xs.map f := by
  refine List.ext_getElem? fun i => ?_
  cases e : ys[i]? with
  | none =>
    have := List.getElem?_eq_none_iff.mp e
    rw [List.getElem?_eq_none_iff.mpr (by rw [List.length_map]; omega)]
  | some y =>
    obtain ⟨x, hx, rfl⟩ := h i y e
    rw [List.getElem?_map, hx]
    rfl
theorem ok_joined (T : Txt K mg) : FnOk P w K mg base CX0 1 T.a_joined T.d_joined ["wholes"] (sp_joined K) := by
  refine T.F_joined.ok sc_joined (fun vs H Q E h => ?_) (fun cdv A outer s H vs Q E hr h => ?_)
  · obtain ⟨v, ns, rfl, _⟩ := h
    rfl
  · obtain ⟨v, ns, rfl, hv, l6, h9, k⟩ := h
    obtain ⟨p, rfl, hp⟩ := dt_ints hv
    refine ⟨_, (pss_one (ps_ret (pe_join pe_str (pe_lc (own := [("whole", 1)]) (g := gName 1) (tt := tYes) rfl sc_joined.nd (pi_tup (pv 0)) (blkOk_by (own := [("whole", 1)]) (N := nm_joined) (sc := (defScope s_joined)) (by decide +kernel)) (fun _ _ _ _ _ => pg_name (i := 1) sc_joined.nd rfl (Or.inl rfl)) (fun _ _ _ _ _ => pts_nil) (fun _ _ _ _ _ => (pe_callTy call_str_int (by rfl) T.z_str (by decide +kernel) (pa_cons (pv 1) pa_nil))))))), ?_⟩
    refine ⟨⟨_, rfl⟩, _, rfl, p, rfl, ⟨_, hp⟩, fun D hD => ?_⟩
    refine Lm.lc_map (K := K) walk_tup (xs := nV ns) (fun i y A => ∃ n, ns[i]? = some n ∧ y = .str (natS n)) (fun _ _ _ _ h _ => h) hD (by unfold nV; rw [List.length_map]; omega) (fun H' s' => sameT s' hp) (fun i x H' hi hx s' Q' Z hQ => ?_) (fun H3 ys s3 hD3 hly hy => ?_)
    · unfold nV at hx
      rw [List.getElem?_map] at hx
      obtain ⟨n, hn, rfl⟩ := Option.map_eq_some_iff.mp hx
      have n9 := h9 n (List.mem_of_getElem? hn)
      exact ⟨rfl, yesT ⟨_, rfl, _, rfl, log9 n9, hQ _ _ (Same.refl _) ⟨n, hn, rfl⟩⟩⟩
    · have eys : ys = (ns.map natS).map V.str := by
        rw [List.map_map]
        exact strs_list (by unfold nV at hly; rw [List.length_map] at hly; exact hly) hy
      rw [eys] at hD3
      refine ⟨_, D, _, rfl, rfl, .inl (SqL.of hD3), ?_, k _ s3⟩
      rw [sum_ones h9, List.length_map]
      show ns.length + ns.length * 1 ≤ _
      omega
theorem ok_crews_text (T : Txt K mg) : FnOk P w K mg base CX0 2 T.a_crews_text T.d_crews_text ["crews"] (sp_crews_text K) := by
  refine T.F_crews_text.ok sc_crews_text (fun vs H Q E h => ?_) (fun cdv A outer s H vs Q E hr h => ?_)
  · obtain ⟨v, a, rfl, _⟩ := h
    rfl
  · obtain ⟨v, a, rfl, hv, ok, k⟩ := h
    obtain ⟨p, rfl, hp⟩ := dt_ints hv
    refine ⟨_, (pss_one (ps_ret (pe_ifExp (pt_cmpR op_gt (pe_callB call_len_seq (by rfl) T.z_len PySem.boot_len (pa_cons (pv 0) pa_nil)) pe_int (nomark _)) (pe_call (ok_joined T) (hr.mono (by decide)) (by rfl) T.g_joined T.F_joined.kp T.b_joined .nil pass0 (pa_cons (pv 0) pa_nil)) (pe_glob (v := V.str "-") rfl T.c_EMPTY ⟨_, rfl⟩)))), ?_⟩
    refine ⟨_, rfl, p, _, rfl, .inr hp, _, _, rfl, rfl, _, rfl, ?_⟩
    have la : (nV a).length = a.length := by unfold nV; rw [List.length_map]
    rw [la]
    have k : ∀ H', Same H H' → Q (.str (if a = [] then "-" else Txt.join " " (a.map natS))) H' := k
    by_cases c : a = []
    · subst c
      rw [decide_eq_false (by decide)]
      refine iteF ?_
      have k := k H (Same.refl _)
      rw [if_pos rfl] at k
      exact k
    · have pos := List.length_pos_iff.mpr c
      rw [decide_eq_true (by omega)]
      refine iteT ?_
      rw [if_neg c] at k
      exact ⟨_, rfl, .ref p, a, rfl, hv, ok.len, fun n m => by have := ok.le n m; omega, k⟩
end
end K83

namespace K83
open PySem L2 Wm TL Dv
section
variable {P : Program} {w : World} {K : PySem.W.Frag} {mg : Str → Option Value} {base : Heap}
theorem emp_app (x : Str) : Str.empty ++ x = x := by
  refine ext_tl ?_
  rw [tl_append]
  rfl
theorem app_len (x y : Str) : (x ++ y).length = x.length + y.length := by rw [len_tl, tl_append, List.length_append, ← len_tl, ← len_tl]
theorem joinL_len {S : List Nat} : ∀ {ps : List (List Nat)}, (joinL S ps).length ≤ (ps.map List.length).sum + ps.length * S.length
  | [] => by simp [joinL]
  | [p] => by simp [joinL]
  | p :: q :: r => by
    have ih := joinL_len (S := S) (ps := q :: r)
    have e : (joinL S (p :: q :: r)).length = p.length + (S.length + (joinL S (q :: r)).length) := by
      show (p ++ (S ++ joinL S (q :: r))).length = _
      rw [List.length_append, List.length_append]
    rw [e, List.map_cons, List.sum_cons, List.length_cons (a := p), Nat.succ_mul]
    omega
theorem join_len (y : Str) (ps : List Str) : (Txt.join y ps).length ≤ (ps.map (·.length)).sum + ps.length * y.length := by
  rw [len_tl, join_eq, tl_join, len_tl y]
  refine Nat.le_trans joinL_len ?_
  rw [List.length_map, List.map_map]
  have e : ps.map (List.length ∘ tl) = ps.map (·.length) := List.map_congr_left fun p _ => (len_tl p).symm
  rw [e]
  exact Nat.le_refl _
theorem dts5 {H : Hp} {xs : List V} {a b c d e : PyData} (h : Dts K H xs [a, b, c, d, e]) : ∃ x0 x1 x2 x3 x4, xs = [x0, x1, x2, x3, x4] ∧ Dt K H x0 a ∧ Dt K H x1 b ∧ Dt K H x2 c ∧ Dt K H x3 d ∧ Dt K H x4 e := by
  cases h with | cons h0 h => cases h with | cons h1 h => cases h with | cons h2 h => cases h with | cons h3 h => cases h with | cons h4 h => cases h; exact ⟨_, _, _, _, _, rfl, h0, h1, h2, h3, h4⟩
theorem dts7 {H : Hp} {xs : List V} {a b c d e f g : PyData} (h : Dts K H xs [a, b, c, d, e, f, g]) : ∃ x0 x1 x2 x3 x4 x5 x6, xs = [x0, x1, x2, x3, x4, x5, x6] ∧ Dt K H x0 a ∧ Dt K H x1 b ∧ Dt K H x2 c ∧ Dt K H x3 d ∧ Dt K H x4 e ∧ Dt K H x5 f ∧ Dt K H x6 g := by
  cases h with | cons h0 h => cases h with | cons h1 h => cases h with | cons h2 h => cases h with | cons h3 h => cases h with | cons h4 h => cases h with | cons h5 h => cases h with | cons h6 h => cases h; exact ⟨_, _, _, _, _, _, _, rfl, h0, h1, h2, h3, h4, h5, h6⟩
theorem mv_at {H : Hp} {p : Addr} {xs : List V} {m : List (Nat × Nat)} {i : Nat} {x : V} (d : Dts K H xs (m.map fun x => PyData.tuple [.int (x.1 : Nat), .int (x.2 : Nat)])) (h : xs[i]? = some x) : ∃ a b q, m[i]? = some (a, b) ∧ x = .ref q ∧ SqT K H q [.int (a : Nat), .int (b : Nat)] := by
  obtain ⟨e, he, dx⟩ := d.at h
  rw [List.getElem?_map] at he
  obtain ⟨⟨a, b⟩, hm, rfl⟩ := Option.map_eq_some_iff.mp he
  obtain ⟨q, y, z, rfl, hq, d1, d2⟩ := dt_two dx
  obtain rfl := d1.int_inv
  obtain rfl := d2.int_inv
  exact ⟨a, b, q, hm, rfl, hq⟩
theorem pv_len {x : Nat × Nat} (h : x.1 ≤ 9 ∧ x.2 ≤ 9) : (pvS x).length = 3 ∧ tl (pvS x) = [x.1 + 48, 62, x.2 + 48] := by
  have e : tl (pvS x) = [x.1 + 48, 62, x.2 + 48] := by
    unfold pvS
    rw [tl_append, tl_append, (nat_le9 h.1).2, (nat_le9 h.2).2]
    rfl
  exact ⟨by rw [len_tl, e]; rfl, e⟩
theorem sum_pvs : ∀ {m : List (Nat × Nat)}, (∀ x ∈ m, x.1 ≤ 9 ∧ x.2 ≤ 9) → ((m.map pvS).map (·.length)).sum = 3 * m.length
  | [], _ => rfl
  | x :: m, h => by
    rw [List.map_cons, List.map_cons, List.sum_cons, sum_pvs fun y hm => h y (List.mem_cons_of_mem _ hm), (pv_len (h x (List.mem_cons_self ..))).1, List.length_cons]
    omega
theorem ok_pairs_text (T : Txt K mg) : FnOk P w K mg base CX0 1 T.a_pairs_text T.d_pairs_text ["pairs"] (sp_pairs_text K) := by
  refine T.F_pairs_text.ok sc_pairs_text (fun vs H Q E h => ?_) (fun cdv A outer s H vs Q E hr h => ?_)
  · obtain ⟨v, m, rfl, _⟩ := h
    rfl
  · obtain ⟨v, m, rfl, hv, ok, k⟩ := h
    obtain ⟨p, xs, rfl, hp, hd⟩ := hv.inv
    have lx := hd.len
    rw [List.length_map] at lx
    have m9 : ∀ x ∈ m, x.1 ≤ 9 ∧ x.2 ≤ 9 := fun x hx => by have := ok.le x hx; omega
    have l6 := ok.len
    refine ⟨_, (pss_one (ps_ret (pe_ifExp (pt_cmpR op_gt (pe_callB call_len_seq (by rfl) T.z_len PySem.boot_len (pa_cons (pv 0) pa_nil)) pe_int (nomark _)) (pe_join pe_str (pe_lc (own := [("crew", 1), ("station", 2)]) (g := gTup K 2 (gCons (gName 1) (gCons (gName 2) (gNil)))) (tt := tYes) rfl sc_pairs_text.nd (pi_tup (pv 0)) (blkOk_by (own := [("crew", 1), ("station", 2)]) (N := nm_pairs_text) (sc := (defScope s_pairs_text)) (by decide +kernel)) (fun _ _ _ _ _ => (pg_tup rfl (pgs_cons (pg_name (i := 1) sc_pairs_text.nd rfl (Or.inl rfl)) (pgs_cons (pg_name (i := 2) sc_pairs_text.nd rfl (Or.inl rfl)) pgs_nil)))) (fun _ _ _ _ _ => pts_nil) (fun _ _ _ _ _ => (pe_joined (.cons (pe_fmt (pv 1)) (.cons pe_str (.cons (pe_fmt (pv 2)) .nil))))))) (pe_glob (v := V.str "-") rfl T.c_EMPTY ⟨_, rfl⟩)))), ?_⟩
    refine ⟨_, rfl, p, _, rfl, .inr hp, _, _, rfl, rfl, _, rfl, ?_⟩
    rw [lx]
    have k : ∀ H', Same H H' → Q (.str (if m = [] then "-" else Txt.join " " (m.map pvS))) H' := k
    by_cases c : m = []
    · subst c
      rw [decide_eq_false (by decide)]
      refine iteF ?_
      have k := k H (Same.refl _)
      rw [if_pos rfl] at k
      exact k
    · have pos := List.length_pos_iff.mpr c
      rw [decide_eq_true (by omega)]
      refine iteT ?_
      rw [if_neg c] at k
      refine ⟨⟨_, rfl⟩, _, rfl, p, rfl, ⟨_, hp⟩, fun D hD => ?_⟩
      refine Lm.lc_map (K := K) (te := fun σ H Q => tJs [tFmt (tVar 1), tC (V.str (Str.ofString ">")), tFmt (tVar 2)] Str.empty σ H fun out H1 => Q (V.str out) H1) walk_tup (xs := xs) (fun i y A => ∃ n, m[i]? = some n ∧ y = .str (pvS n)) (fun _ _ _ _ h _ => h) hD (by omega) (fun H' s' => sameT s' hp) (fun i x H' hi hx s' Q' Z hQ => ?_) (fun H3 ys s3 hD3 hly hy => ?_)
      · obtain ⟨a, b, q, hm, rfl, hq⟩ := mv_at (p := p) hd hx
        have ab := m9 _ (List.mem_of_getElem? hm)
        refine ⟨q, _, rfl, sameT s' hq, rfl, _, _, rfl, _, _, rfl, rfl, ?_⟩
        have l1 : (natS a).length = 1 := (nat_le9 ab.1).1
        have l2 : (natS b).length = 1 := (nat_le9 ab.2).1
        have big : (100000 : Nat) ≤ sizeLine := by decide
        have e0 : Str.empty ++ natS a = natS a := emp_app _
        have g1 : (">" : Str).length = 1 := by decide
        refine ⟨rfl, yesT ⟨_, rfl, .inr ⟨_, rfl, log9 ab.1, natS a, rfl, ?_, _, rfl, ?_, _, rfl, .inr ⟨_, rfl, log9 ab.2, natS b, rfl, ?_, ?_⟩⟩⟩⟩
        · rw [e0]; omega
        · rw [e0, app_len]; omega
        · rw [e0, app_len, app_len]; omega
        · show Q' (.str (Str.empty ++ natS a ++ ">" ++ natS b)) H'
          rw [e0]
          exact hQ _ _ (Same.refl _) ⟨(a, b), hm, rfl⟩
      · have eys : ys = (m.map pvS).map V.str := by
          rw [List.map_map]
          exact strs_list (by omega) hy
        rw [eys] at hD3
        refine ⟨_, D, _, rfl, rfl, .inl (SqL.of hD3), ?_, k _ s3⟩
        rw [sum_pvs m9, List.length_map]
        show 3 * m.length + m.length * 1 ≤ _
        omega
theorem cut_tk (xs : List V) {k : Nat} : cutV xs none (some (k : Int)) = xs.take k := by
  unfold cutV
  rw [HT.sIx_none, HT.sIx_nat]
  rw [List.drop_zero, Nat.sub_zero, List.take_eq_take_iff]
  omega
theorem cut_dr (xs : List V) {k : Nat} : cutV xs (some (k : Int)) none = xs.drop k := by
  unfold cutV
  rw [HT.sIx_nat, HT.sIx_none]
  by_cases h : k ≤ xs.length
  · rw [Nat.min_eq_left h, List.take_of_length_le (by rw [List.length_drop]; omega)]
  · rw [Nat.min_eq_right (by omega), Nat.sub_self, List.take_zero, List.drop_eq_nil_of_le (by omega)]
theorem cut_take3 (a b c : V) (rest : List V) : cutV (a :: b :: c :: rest) none (some 3) = [a, b, c] := cut_tk (k := 3) _
theorem cut_drop3 (a b c : V) (rest : List V) : cutV (a :: b :: c :: rest) (some 3) none = rest := cut_dr (k := 3) _
theorem ne_take3 (a b c : V) (rest : List V) (h : 2 ≤ rest.length) : ¬ HT.sIx (a :: b :: c :: rest).length (a :: b :: c :: rest).length (some 3) = (a :: b :: c :: rest).length := by
  have e : HT.sIx (a :: b :: c :: rest).length (a :: b :: c :: rest).length (some 3) = min 3 (a :: b :: c :: rest).length := HT.sIx_nat _ _ 3
  rw [e]
  simp only [List.length_cons]
  omega
theorem ne_drop3 (a b c : V) (rest : List V) : ¬ HT.sIx (a :: b :: c :: rest).length 0 (some 3) = 0 := by
  have e : HT.sIx (a :: b :: c :: rest).length 0 (some 3) = min 3 (a :: b :: c :: rest).length := HT.sIx_nat _ _ 3
  rw [e]
  simp only [List.length_cons]
  omega
def restD : Rw → List PyData
  | .back _ _ a b => [iD a, iD b]
  | .sent _ _ _ g a v s => [.int (g : Nat), iD a, mvD v, .int (s : Nat)]
theorem rowD_eq (r : Rw) : rowD r = .tuple (.str (wordR r) :: .int (tickR r : Nat) :: .str (numR r) :: restD r) := by cases r <;> rfl
theorem num_le {n : Str} (h : IsNum n) : n.length ≤ 4 := by
  obtain ⟨ds, N, rfl⟩ := h
  rw [numS_len]
  exact N.len
theorem rw_facts {r : Rw} (ok : RwOk r) : tickR r < 10 ^ 9 ∧ IsNum (numR r) := by
  cases r with
  | back t n a b => exact ⟨ok.1, ok.2.1⟩
  | sent m t n g a v s => exact ⟨ok.1, ok.2.1⟩
theorem word_ne (m : Bool) : decide (V.str (wordS m) = V.str "back") = false := by cases m <;> decide +kernel
theorem word_len (r : Rw) : (wordR r).length = 4 := by
  cases r with
  | back => show ("back" : Str).length = 4; decide
  | sent m =>
    show (wordS m).length = 4
    cases m <;> decide
theorem ljust_len (x : Str) (k : Nat) : (Txt.ljust x (k : Nat)).length = max k x.length := by
  unfold Txt.ljust PySem.Builtin.Str.padded
  by_cases h : ((k : Nat) : Int) ≤ (x.length : Nat)
  · rw [if_pos h]; omega
  · rw [if_neg h]
    show (Array.replicate 0 32 ++ x.cps ++ Array.replicate _ 32).size = _
    have e : x.cps.size = x.length := rfl
    simp only [Array.size_append, Array.size_replicate, e]
    omega
theorem tick_len {t : Nat} (h : t < 10 ^ 9) : 1 ≤ (natS t).length ∧ (natS t).length ≤ 9 := by
  have e : tl (natS t) = numL t := tl_num t
  rw [len_tl, e]
  exact ⟨List.length_pos_iff.mpr (numL_ne t), numL_len (by decide) h⟩
theorem crT_len {a : List Nat} (ok : CwOk a) : (crT a).length ≤ 12 := by
  unfold crT
  split
  · decide
  · have h := join_len " " (a.map natS)
    rw [sum_ones fun n m => by have := ok.le n m; omega, List.length_map] at h
    have g1 : (" " : Str).length = 1 := by decide
    rw [g1] at h
    have := ok.len
    omega
theorem pvT_len {v : List (Nat × Nat)} (ok : MvOk v) : (pvT v).length ≤ 24 := by
  unfold pvT
  split
  · decide
  · have h := join_len " " (v.map pvS)
    rw [sum_pvs fun n m => by have := ok.le n m; omega, List.length_map] at h
    have g1 : (" " : Str).length = 1 := by decide
    rw [g1] at h
    have := ok.len
    omega
theorem grade_le {m : Bool} {t : Nat} {n : Str} {g : Nat} {a : List Nat} {v : List (Nat × Nat)} {s : Nat} (ok : RwOk (.sent m t n g a v s)) : g ≤ 3 ∧ 1 ≤ g := by
  obtain ⟨_, _, h1, h2, _⟩ := ok
  cases m with
  | false => have := h1 rfl; omega
  | true => rcases h2 rfl with h | h <;> omega
theorem parts_sum {r : Rw} (ok : RwOk r) : ((partsT r).map (·.length)).sum + (partsT r).length * (" / " : Str).length ≤ 60 := by
  have g1 : (" / " : Str).length = 3 := by decide
  rw [g1]
  cases r with
  | back t n a b =>
    have h1 := crT_len ok.2.2.1
    have h2 := crT_len ok.2.2.2
    show (crT a).length + ((crT b).length + 0) + 2 * 3 ≤ 60
    omega
  | sent m t n g a v s =>
    have gl := (nat_le9 (n := g) (by have := (grade_le ok).1; omega)).1
    obtain ⟨_, _, _, _, oa, ov, os⟩ := ok
    have h1 := crT_len oa
    have h2 := pvT_len ov
    have sl := (nat_le9 (n := s) (by omega)).1
    show (natS g).length + ((crT a).length + ((pvT v).length + ((natS s).length + 0))) + 4 * 3 ≤ 60
    omega
theorem head_len {r : Rw} (ok : RwOk r) : (headT r).length ≤ 20 := by
  obtain ⟨t9, nn⟩ := rw_facts ok
  have h1 := tick_len t9
  have h2 := num_le nn
  have h3 := word_len r
  have r1 : (Txt.rjust (natS (tickR r)) 6).length = max 6 (natS (tickR r)).length := Fi.rjust_len _ 6
  have l1 : (Txt.ljust (wordR r) 5).length = max 5 (wordR r).length := ljust_len _ 5
  have l2 : (Txt.ljust (numR r) 5).length = max 5 (numR r).length := ljust_len _ 5
  have g1 : (" " : Str).length = 1 := by decide
  unfold headT
  rw [app_len, app_len, app_len, r1, l1, l2, g1]
  omega
theorem rend_len {r : Rw} (ok : RwOk r) : (rend r).length ≤ 80 := by
  have h1 := head_len ok
  have h2 := parts_sum ok
  have h3 := join_len " / " (partsT r)
  unfold rend
  rw [app_len]
  omega
theorem ok_row_line (T : Txt K mg) : FnOk P w K mg base CX0 3 T.a_row_line T.d_row_line ["row"] (sp_row_line K) := by
  refine T.F_row_line.ok sc_row_line (fun vs H Q E h => ?_) (fun cdv A outer s H vs Q E hr h => ?_)
  · obtain ⟨v, r, rfl, _⟩ := h
    rfl
  · obtain ⟨v, r, rfl, hv, ok, k⟩ := h
    refine ⟨_, (pss_cons (ps_asg (pe_slice sl_tupA (pv 0) po_none (po_some pe_int)) (pg_tup rfl (pgs_cons (pg_name (i := 1) sc_row_line.nd rfl (Or.inl rfl)) (pgs_cons (pg_name (i := 2) sc_row_line.nd rfl (Or.inl rfl)) (pgs_cons (pg_name (i := 3) sc_row_line.nd rfl (Or.inl rfl)) pgs_nil)))))
      (C8.pss_cut (ps_if (pt_cmpR op_eq (pv 1) (pe_glob (v := V.str "back") rfl T.c_BACK ⟨_, rfl⟩) (nomark _))
        (pss_one (ps_setLc (i := 4) (own := [("crews", 5)]) (g := gName 5) (tt := tYes) rfl sc_row_line.nd rfl rfl (sw_true rfl rfl rfl (by decide +kernel)) (pi_tup (pe_slice sl_tupA (pv 0) (po_some pe_int) po_none)) (blkOk_by (own := [("crews", 5)]) (N := nm_row_line) (sc := (defScope s_row_line)) (by decide +kernel)) (fun _ _ _ _ _ => pg_name (i := 5) sc_row_line.nd rfl (Or.inl rfl)) (fun _ _ _ _ _ => pts_nil) (fun _ _ _ _ _ => (pe_call (ok_crews_text T) (hr.mono (by decide)) (by rfl) T.g_crews_text T.F_crews_text.kp T.b_crews_text .nil pass0 (pa_cons (pv 5) pa_nil)))))
        (pss_cons (ps_asg (pe_slice sl_tupA (pv 0) (po_some pe_int) po_none) (pg_tup rfl (pgs_cons (pg_name (i := 6) sc_row_line.nd rfl (Or.inl rfl)) (pgs_cons (pg_name (i := 7) sc_row_line.nd rfl (Or.inl rfl)) (pgs_cons (pg_name (i := 8) sc_row_line.nd rfl (Or.inl rfl)) (pgs_cons (pg_name (i := 9) sc_row_line.nd rfl (Or.inl rfl)) pgs_nil))))))
        (pss_one (ps_set (i := 4) sc_row_line.nd rfl (Or.inl rfl) (pe_lst (pa_cons (pe_callTy call_str_int (by rfl) T.z_str (by decide +kernel) (pa_cons (pv 6) pa_nil)) (pa_cons (pe_call (ok_crews_text T) (hr.mono (by decide)) (by rfl) T.g_crews_text T.F_crews_text.kp T.b_crews_text .nil pass0 (pa_cons (pv 7) pa_nil)) (pa_cons (pe_call (ok_pairs_text T) (hr.mono (by decide)) (by rfl) T.g_pairs_text T.F_pairs_text.kp T.b_pairs_text .nil pass0 (pa_cons (pv 8) pa_nil)) (pa_cons (pe_callTy call_str_int (by rfl) T.z_str (by decide +kernel) (pa_cons (pv 9) pa_nil)) pa_nil)))))))))
      (pss_one (ps_ret (pe_joined (.cons (Fi.pe_fmtI (pv 2) (pe_joined1 pe_str)) (.cons pe_str (.cons (Fs.pe_fmtS (pv 1) (pe_joined1 pe_str)) (.cons (Fs.pe_fmtS (pv 3) (pe_joined1 pe_str)) (.cons (pe_fmt (pe_join (pe_glob (v := V.str " / ") rfl T.c_SEPARATOR ⟨_, rfl⟩) (pv 4))) .nil)))))))))), ?_⟩
    have fin : ∀ (B : Hp) (q4 : Addr), True := fun _ _ => trivial
    obtain ⟨t9, nn⟩ := rw_facts ok
    have ps := parts_sum ok
    rw [rowD_eq] at hv
    obtain ⟨p, xs, rfl, hp, hd⟩ := hv.inv
    obtain ⟨rest, rfl, hrest⟩ : ∃ rest, xs = .str (wordR r) :: .int (tickR r : Nat) :: .str (numR r) :: rest ∧ Dts K H rest (restD r) := by
      cases hd with | cons h0 h => cases h with | cons h1 h => cases h with | cons h2 h =>
      cases h0; cases h1; cases h2
      exact ⟨_, rfl, h⟩
    have hrl : 2 ≤ rest.length := by
      rw [hrest.len]
      cases r <;> (show 2 ≤ _; simp [restD])
    have c3 : cutV (V.str (wordR r) :: .int (tickR r : Nat) :: .str (numR r) :: rest) none (some 3) = [.str (wordR r), .int (tickR r : Nat), .str (numR r)] := cut_take3 _ _ _ _
    have c4 : cutV (V.str (wordR r) :: .int (tickR r : Nat) :: .str (numR r) :: rest) (some 3) none = rest := cut_drop3 _ _ _ _
    refine ⟨_, rfl, _, rfl, p, _, rfl, hp, fun z => absurd z.2 (ne_take3 _ _ _ _ hrl), fun _ q hq => ?_⟩
    rw [c3]
    have sq := same_new (o := .tup [V.str (wordR r), .int (tickR r : Nat), .str (numR r)]) hq
    refine ⟨q, _, rfl, SqT.of upd_same, rfl, _, _, rfl, _, _, rfl, _, _, rfl, rfl, ?_⟩
    generalize upd H q (.tup [V.str (wordR r), .int (tickR r : Nat), .str (numR r)]) = H1 at sq ⊢
    refine ⟨fun σ B => ∃ (q4 : Addr) (v5 v6 v7 v8 v9 : Option V), σ = [some (.ref p), some (.str (wordR r)), some (.int (tickR r : Nat)), some (.str (numR r)), some (.ref q4), v5, v6, v7, v8, v9] ∧ Same H B ∧ B q4 = some (.lst ((partsT r).map V.str)), ?_, ?_⟩
    · refine ⟨_, rfl, rfl, _, rfl, ?_⟩
      cases r with
      | back t n a b =>
        have hw : decide (V.str (wordR (.back t n a b)) = V.str "back") = true := decide_eq_true rfl
        rw [hw]
        refine iteT ?_
        obtain ⟨x3, x4, rfl, d3, d4⟩ : ∃ x3 x4, rest = [x3, x4] ∧ Dt K H x3 (iD a) ∧ Dt K H x4 (iD b) := by
          cases hrest with | cons h3 h => cases h with | cons h4 h => cases h; exact ⟨_, _, rfl, h3, h4⟩
        refine ⟨_, rfl, _, rfl, p, _, rfl, sameT sq hp, fun z => absurd z.1 (ne_drop3 _ _ _ _), fun _ q5 hq5 => ?_⟩
        rw [c4]
        have s5 := same_new (o := .tup [x3, x4]) hq5
        have h5 : upd H1 q5 (.tup [x3, x4]) q5 = some (.tup [x3, x4]) := upd_same
        generalize upd H1 q5 (.tup [x3, x4]) = H2 at s5 h5 ⊢
        refine ⟨q5, rfl, ⟨_, SqT.of h5⟩, fun D hD => ?_⟩
        have s02 := sq.trans s5
        refine Lm.lc_map (K := K) walk_tup (xs := [x3, x4]) (fun i y A => ∃ z, [a, b][i]? = some z ∧ y = .str (crT z)) (fun _ _ _ _ h _ => h) hD (by show 2 ≤ 1000; decide) (fun H' s' => sameT s' (SqT.of h5)) (fun i x H' hi hx s' Q' Z hQ => ?_) (fun H3 ys s3 hD3 hly hy => ?_)
        · have hi : i < 2 := hi
          obtain ⟨z, hz, dz, okz⟩ : ∃ z, [a, b][i]? = some z ∧ Dt K H x (iD z) ∧ CwOk z := by
            match i, hi, hx with
            | 0, _, h => exact ⟨a, rfl, by cases h; exact d3, ok.2.2.1⟩
            | 1, _, h => exact ⟨b, rfl, by cases h; exact d4, ok.2.2.2⟩
          exact ⟨rfl, yesT ⟨_, rfl, x, z, rfl, dz.ks (s02.trans s'), okz, fun H4 s4 => hQ _ _ s4 ⟨z, hz, rfl⟩⟩⟩
        · have eys : ys = [a, b].map fun z => .str (crT z) := strs_list hly hy
          rw [eys] at hD3
          exact ⟨D, _, _, _, _, _, rfl, s02.trans s3, hD3⟩
      | sent m t n g a v s =>
        have hw : decide (V.str (wordR (.sent m t n g a v s)) = V.str "back") = false := word_ne m
        rw [hw]
        refine iteF ?_
        obtain ⟨x3, x4, x5, x6, rfl, d3, d4, d5, d6⟩ : ∃ x3 x4 x5 x6, rest = [x3, x4, x5, x6] ∧ Dt K H x3 (.int (g : Nat)) ∧ Dt K H x4 (iD a) ∧ Dt K H x5 (mvD v) ∧ Dt K H x6 (.int (s : Nat)) := by
          cases hrest with | cons h3 h => cases h with | cons h4 h => cases h with | cons h5 h => cases h with | cons h6 h => cases h; exact ⟨_, _, _, _, rfl, h3, h4, h5, h6⟩
        obtain rfl := d3.int_inv
        obtain rfl := d6.int_inv
        refine ⟨_, rfl, _, rfl, p, _, rfl, sameT sq hp, fun z => absurd z.1 (ne_drop3 _ _ _ _), fun _ q5 hq5 => ?_⟩
        rw [c4]
        have s5 := same_new (o := .tup [.int (g : Nat), x4, x5, .int (s : Nat)]) hq5
        have h5 : upd H1 q5 (.tup [.int (g : Nat), x4, x5, .int (s : Nat)]) q5 = some (.tup [.int (g : Nat), x4, x5, .int (s : Nat)]) := upd_same
        generalize upd H1 q5 (.tup [.int (g : Nat), x4, x5, .int (s : Nat)]) = H2 at s5 h5 ⊢
        have s02 := sq.trans s5
        have g3 := (grade_le ok).1
        obtain ⟨_, _, _, _, oa, ov, os⟩ := ok
        refine ⟨q5, _, rfl, SqT.of h5, rfl, _, _, rfl, _, _, rfl, _, _, rfl, _, _, rfl, rfl, ?_⟩
        refine ⟨_, rfl, _, rfl, log9 (by omega), _, rfl, x4, a, rfl, d4.ks s02, oa, fun H3 s3 => ⟨_, rfl, x5, v, rfl, d5.ks (s02.trans s3), ov, fun H4 s4 => ⟨_, rfl, _, rfl, log9 (by omega), ?_⟩⟩⟩
        refine ⟨by show 4 ≤ sizeLine; decide, fun q6 hq6 => ?_⟩
        exact ⟨q6, _, _, _, _, _, rfl, ((s02.trans s3).trans s4).trans (same_new hq6), upd_same⟩
    · rintro σ B ⟨q4, v5, v6, v7, v8, v9, rfl, sB, h4⟩
      have h1 := tick_len t9
      have h2 := num_le nn
      have h3 := word_len r
      have r1 : (Txt.rjust (natS (tickR r)) 6).length = max 6 (natS (tickR r)).length := Fi.rjust_len _ 6
      have l1 : (Txt.ljust (wordR r) 5).length = max 5 (wordR r).length := ljust_len _ 5
      have l2 : (Txt.ljust (numR r) 5).length = max 5 (numR r).length := ljust_len _ 5
      have g1 : (" " : Str).length = 1 := by decide
      have big : (100000 : Nat) ≤ sizeLine := by decide
      have jl := join_len " / " (partsT r)
      have e1 : Str.empty ++ Txt.rjust (natS (tickR r)) 6 = Txt.rjust (natS (tickR r)) 6 := emp_app _
      refine ⟨_, rfl, tickR r, rfl, rfl, by omega, Txt.rjust (natS (tickR r)) 6, rfl, ?_, _, rfl, ?_, _, rfl, wordR r, _, false, 5, rfl, rfl, Fs.asks_l5, ?_, Txt.ljust (wordR r) 5, rfl, ?_, _, rfl, numR r, _, false, 5, rfl, rfl, Fs.asks_l5, ?_, Txt.ljust (numR r) 5, rfl, ?_, ?_⟩
      · rw [e1]; omega
      · rw [e1, app_len]; omega
      · show (Txt.ljust (wordR r) 5).length ≤ _; omega
      · rw [e1, app_len, app_len]; omega
      · show (Txt.ljust (numR r) 5).length ≤ _; omega
      · rw [e1, app_len, app_len, app_len]; omega
      rw [e1]
      refine ⟨⟨_, rfl⟩, _, rfl, _, q4, _, rfl, rfl, .inl (SqL.of h4), by omega, .inl ⟨_, rfl, by omega, _, rfl, ?_, ?_⟩⟩
      · rw [app_len, app_len, app_len, app_len]; omega
      · exact k _ sB
theorem ok_book_page (T : Txt K mg) : FnOk P w K mg base CX0 4 T.a_book_page T.d_book_page ["rows"] (sp_book_page K) := by
  refine T.F_book_page.ok sc_book_page (fun vs H Q E h => ?_) (fun cdv A outer s H vs Q E hr h => ?_)
  · obtain ⟨p, xs, t, rs, rfl, _⟩ := h
    rfl
  · obtain ⟨p, xs, t, rs, rfl, hx, hd, ok, l, k⟩ := h
    have lx := hd.len
    rw [List.length_map] at lx
    refine ⟨_, (pss_one (ps_ret (pe_callTy call_tuple_of (by rfl) T.z_tuple (by decide +kernel) (pa_cons (pe_lc (own := [("row", 1)]) (g := gName 1) (tt := tYes) rfl sc_book_page.nd (Kd.pi_seq (pv 0)) (blkOk_by (own := [("row", 1)]) (N := nm_book_page) (sc := (defScope s_book_page)) (by decide +kernel)) (fun _ _ _ _ _ => pg_name (i := 1) sc_book_page.nd rfl (Or.inl rfl)) (fun _ _ _ _ _ => pts_nil) (fun _ _ _ _ _ => (pe_call (ok_row_line T) (hr.mono (by decide)) (by rfl) T.g_row_line T.F_row_line.kp T.b_row_line .nil pass0 (pa_cons (pv 1) pa_nil)))) pa_nil)))), ?_⟩
    refine ⟨_, rfl, p, xs, t, rfl, hx, fun J G wk hG D hD => ?_⟩
    refine Lm.lc_map (K := K) wk (fun i y A => ∃ r, rs[i]? = some r ∧ y = .str (rend r)) (fun _ _ _ _ h _ => h) hD (by omega) (fun H' s' => hG _ (hx.keep s')) (fun i x H' hi hxx s' Q' Z hQ => ?_) (fun H3 ys s3 hD3 hly hy => ?_)
    · obtain ⟨e, he, dx⟩ := hd.at hxx
      rw [List.getElem?_map] at he
      obtain ⟨r, hr2, rfl⟩ := Option.map_eq_some_iff.mp he
      exact ⟨rfl, yesT ⟨_, rfl, x, r, rfl, dx.ks s', ok r (List.mem_of_getElem? hr2), fun H4 s4 => hQ _ _ s4 ⟨r, hr2, rfl⟩⟩⟩
    · have eys : ys = rs.map fun r => .str (rend r) := strs_list (by omega) hy
      rw [eys] at hD3
      refine ⟨D, _, rfl, .inl ⟨SqL.of hD3, fun q hq => k _ _ (s3.trans (same_new hq)) (.tup (SqT.of upd_same) ?_)⟩⟩
      have e : (rs.map fun r => V.str (rend r)) = (rs.map rend).map V.str := by rw [List.map_map]; rfl
      have e2 : (rs.map fun r => PyData.str (rend r)) = (rs.map rend).map PyData.str := by rw [List.map_map]; rfl
      rw [e, e2]
      exact dts_str _
end
end K83

namespace K83
open PySem L2 Wm TL Dv
section
variable {P : Program} {w : World} {K : PySem.W.Frag} {mg : Str → Option Value} {base : Heap}
theorem flat_strs (ss : List Str) : (ss.map V.str).all flatV = true := by
  rw [List.all_map]
  exact List.all_eq_true.mpr fun _ _ => rfl
theorem in_strs (x : Str) : ∀ ss : List Str, inV (.str x) (ss.map V.str) = decide (x ∈ ss)
  | [] => rfl
  | s :: ss => by
    have ih := in_strs x ss
    unfold inV at ih ⊢
    rw [List.map_cons, List.any_cons, ih]
    show ((s == x) || decide (x ∈ ss)) = _
    by_cases e : s = x
    · subst e; simp
    · simp [e, Ne.symm e]
theorem dg_eq {t : Str} {d : Nat} (h : d ≤ 9) {u : Str} (hu : u.cps.toList = [d + 48]) : t = u ↔ dgO t = some d := by
  constructor
  · rintro rfl
    unfold dgO
    rw [hu]
    show (if 48 ≤ d + 48 ∧ d + 48 ≤ 57 then some (d + 48 - 48) else none) = some d
    rw [if_pos (by omega)]
    congr 1
  · intro e
    exact ext_tl ((dg_one e).1.trans hu.symm)
theorem is1 {t : Str} : t = "1" ↔ dgO t = some 1 := dg_eq (by decide) (by decide +kernel)
theorem is2 {t : Str} : t = "2" ↔ dgO t = some 2 := dg_eq (by decide) (by decide +kernel)
theorem is3 {t : Str} : t = "3" ↔ dgO t = some 3 := dg_eq (by decide) (by decide +kernel)
theorem dg_ch (c : Nat) : (dgO ⟨#[c]⟩).isSome = decide (48 ≤ c ∧ c ≤ 57) := by
  show (match [c] with | [c] => if 48 ≤ c ∧ c ≤ 57 then some (c - 48) else none | _ => none).isSome = _
  by_cases d : 48 ≤ c ∧ c ≤ 57
  · rw [decide_eq_true d]
    simp [d]
  · rw [decide_eq_false d]
    simp [d]
def digsB (t : Str) : List Bool := (tl t).map fun c => decide (48 ≤ c ∧ c ≤ 57)
theorem digsB_all {t : Str} : (digsB t).all id = true ↔ ∀ c ∈ t.cps.toList, 48 ≤ c ∧ c ≤ 57 := by
  unfold digsB
  rw [List.all_map, List.all_eq_true]
  exact ⟨fun h c m => of_decide_eq_true (h c m), fun h c m => decide_eq_true (h c m)⟩
theorem ok_read_tick (T : Txt K mg) : FnOk P w K mg base CX0 2 T.a_read_tick T.d_read_tick ["text"] (sp_read_tick K) := by
  refine T.F_read_tick.ok sc_read_tick (fun vs H Q E h => ?_) (fun cdv A outer s H vs Q E hr h => ?_)
  · obtain ⟨t, rfl, _⟩ := h
    rfl
  · obtain ⟨t, rfl, l, k⟩ := h
    have hl : t.length = (tl t).length := len_tl t
    have big : (100000 : Nat) ≤ sizeLine := by decide
    refine ⟨_, (pss_cons (ps_if (PW.pt (pw_or (pt_not (pt_chain op_le op_le pe_int (pe_callB call_len_str (by rfl) T.z_len PySem.boot_len (pa_cons (pv 0) pa_nil)) (pe_glob (v := V.int 9) rfl T.c_MOST_TICK_DIGITS ⟨_, rfl⟩))) (pw_or1 (pt_not (pt_val (pe_callB (cr_all rfl) (by rfl) T.z_all (by decide +kernel) (pa_cons (pe_lc (own := [("letter", 1)]) (g := gName 1) (tt := tYes) rfl sc_read_tick.nd (pi_str (pv 0)) (blkOk_by (own := [("letter", 1)]) (N := nm_read_tick) (sc := (defScope s_read_tick)) (by decide +kernel)) (fun _ _ _ _ _ => pg_name (i := 1) sc_read_tick.nd rfl (Or.inl rfl)) (fun _ _ _ _ _ => pts_nil) (fun _ _ _ _ _ => (pe_call (ok_is_digit T) (hr.mono (by decide)) (by rfl) T.g_is_digit T.F_is_digit.kp T.b_is_digit .nil pass0 (pa_cons (pv 1) pa_nil)))) pa_nil)))))))
        (pss_one (ps_ret pe_non))
        pss_nil)
      (pss_one (ps_ret (pe_callTy call_int_str (by rfl) T.z_int (by decide +kernel) (pa_cons (pv 0) pa_nil))))), ?_⟩
    have none_ : ¬ (1 ≤ t.length ∧ t.length ≤ 9 ∧ (∀ c ∈ t.cps.toList, 48 ≤ c ∧ c ≤ 57)) → tickF t = none := fun h => if_neg h
    refine ⟨_, rfl, _, rfl, small_len (by omega), _, _, rfl, rfl, _, rfl, ?_⟩
    refine ite2 (fun c1 => ?_) (fun c1 => ?_)
    case refine_2 =>
      have c1' : ¬ (1 : Int) ≤ (t.length : Nat) := fun z => c1 (decide_eq_true z)
      refine ⟨false, rfl, iteT ?_⟩
      have k := k _ (Same.refl _)
      rw [none_ (fun z => by have := z.1; omega)] at k
      exact k
    have c1' : (1 : Int) ≤ (t.length : Nat) := of_decide_eq_true c1
    refine ⟨_, _, rfl, rfl, _, rfl, ?_⟩
    by_cases c2 : ((t.length : Nat) : Int) ≤ 9
    case neg =>
      rw [decide_eq_false c2]
      refine iteT ?_
      have k := k _ (Same.refl _)
      rw [none_ (fun z => by have := z.2.1; omega)] at k
      exact k
    rw [decide_eq_true c2]
    refine iteF ?_
    have hsz : t.cps.size = (tl t).length := hl
    refine ⟨_, rfl, _, rfl, fun D hD => ?_⟩
    refine lc_it walk_str (fun i H' => Same H H' ∧ H' D = some (.lst (((digsB t).take i).map V.bl))) ⟨same_new hD, upd_same⟩ (fun _ _ _ _ => trivial) (fun i x H1 H' hi hP hY => ?_) (fun H1 hP => ?_)
    · obtain ⟨sm, hL⟩ := hP
      obtain ⟨rfl, c, hc, rfl⟩ := hY
      have hc2 : (digsB t)[i]? = some (decide (48 ≤ c ∧ c ≤ 57)) := by
        unfold digsB
        rw [List.getElem?_map, cps_at hc]
        rfl
      refine ⟨rfl, yesT ⟨_, rfl, ⟨#[c]⟩, rfl, by show 1 ≤ 1000; decide, ?_⟩⟩
      rw [dg_ch]
      refine ⟨_, hL, by rw [List.length_map, List.length_take]; exact small1000 (by omega), ?_⟩
      refine ⟨same_mut sm hD, ?_⟩
      rw [upd_same, take_succ_map _ hc2]
    · obtain ⟨sm, hL⟩ := hP
      have ell : (digsB t).length = t.cps.size := by unfold digsB; rw [List.length_map, hsz]
      rw [← ell, List.take_length] at hL
      refine ⟨D, digsB t, rfl, SqL.of hL, _, rfl, ?_⟩
      by_cases c3 : (digsB t).all id = true
      case neg =>
        have k := k _ sm
        rw [none_ (fun z => c3 (digsB_all.mpr z.2.2))] at k
        rw [Bool.not_eq_true] at c3
        rw [c3]
        exact iteT k
      rw [c3]
      refine iteF ?_
      have dg := digsB_all.mp c3
      have k := k _ sm
      have et : tickF t = some (NumText.digitsVal t.cps.toList) := if_pos ⟨by omega, by omega, dg⟩
      rw [et] at k
      exact ⟨_, rfl, t, _, rfl, PySem.intText_digits dg (fun z => by have : t.length = t.cps.toList.length := hl; rw [z, List.length_nil] at this; omega) (by omega), by omega, k⟩
theorem ok_read_grade (T : Txt K mg) : FnOk P w K mg base CX0 1 T.a_read_grade T.d_read_grade ["word", "text"] (sp_read_grade K) := by
  refine T.F_read_grade.ok sc_read_grade (fun vs H Q E h => ?_) (fun cdv A outer s H vs Q E hr h => ?_)
  · obtain ⟨m, t, rfl, _⟩ := h
    rfl
  · obtain ⟨m, t, rfl, k⟩ := h
    refine ⟨_, (pss_cons (ps_set (i := 2) sc_read_grade.nd rfl (Or.inl rfl) (pe_ifExp (pt_cmpR op_eq (pv 0) (pe_glob (v := V.str "call") rfl T.c_CALL ⟨_, rfl⟩) (nomark _)) (pe_tup (pa_cons pe_str pa_nil)) (pe_tup (pa_cons pe_str (pa_cons pe_str pa_nil)))))
      (pss_one (ps_ret (pe_ifExp (pt_cmpR op_in_seq (pv 1) (pv 2) rfl) (pe_callTy call_int_str (by rfl) T.z_int (by decide +kernel) (pa_cons (pv 1) pa_nil)) pe_non)))), ?_⟩
    refine ⟨_, rfl, rfl, _, rfl, ?_⟩
    cases m with
    | false =>
      refine iteT ?_
      refine ⟨by show 1 ≤ sizeLine; decide, fun q hq => ?_⟩
      have sq := same_new (o := .tup ([("1" : Str)].map V.str)) hq
      refine ⟨_, rfl, _, rfl, q, _, rfl, .inr (SqT.of upd_same), rfl, flat_strs [("1" : Str)], _, rfl, ?_⟩
      have ei : inV (.str t) [V.str "1"] = decide (t ∈ [("1" : Str)]) := in_strs t [("1" : Str)]
      rw [if_neg Bool.false_ne_true, ei]
      have k := k _ sq
      by_cases c : t = "1"
      · have d1 := is1.mp c
        rw [decide_eq_true (by rw [c]; simp)]
        have eg : gradeF false t = some 1 := by unfold gradeF; rw [d1]; rfl
        rw [eg] at k
        exact iteT ⟨_, rfl, t, _, rfl, (dg_int d1).1, by have := (dg_int d1).2; omega, k⟩
      · rw [decide_eq_false (by simpa using c)]
        have eg : gradeF false t = none := by
          unfold gradeF
          split
          · rename_i d e
            refine if_neg fun z => ?_
            rcases z with ⟨_, rfl⟩ | ⟨z, _⟩
            · exact c (is1.mpr e)
            · cases z
          · rfl
        rw [eg] at k
        exact iteF k
    | true =>
      refine iteF ?_
      refine ⟨by show 2 ≤ sizeLine; decide, fun q hq => ?_⟩
      have sq := same_new (o := .tup ([("2" : Str), "3"].map V.str)) hq
      refine ⟨_, rfl, _, rfl, q, _, rfl, .inr (SqT.of upd_same), rfl, flat_strs [("2" : Str), "3"], _, rfl, ?_⟩
      have ei : inV (.str t) [V.str "2", V.str "3"] = decide (t ∈ [("2" : Str), "3"]) := in_strs t [("2" : Str), "3"]
      rw [if_neg Bool.false_ne_true, ei]
      have k := k _ sq
      by_cases c : t = "2" ∨ t = "3"
      · obtain ⟨d, ed, h23⟩ : ∃ d, dgO t = some d ∧ (d = 2 ∨ d = 3) := by
          rcases c with c | c
          · exact ⟨2, is2.mp c, .inl rfl⟩
          · exact ⟨3, is3.mp c, .inr rfl⟩
        rw [decide_eq_true (by simpa using c)]
        have eg : gradeF true t = some d := by unfold gradeF; rw [ed]; exact if_pos (.inr ⟨rfl, h23⟩)
        rw [eg] at k
        exact iteT ⟨_, rfl, t, _, rfl, (dg_int ed).1, by have := (dg_int ed).2; omega, k⟩
      · rw [decide_eq_false (by simpa using c)]
        have eg : gradeF true t = none := by
          unfold gradeF
          split
          · rename_i d e
            refine if_neg fun z => ?_
            rcases z with ⟨z, _⟩ | ⟨_, rfl | rfl⟩
            · cases z
            · exact c (.inl (is2.mpr e))
            · exact c (.inr (is3.mpr e))
          · rfl
        rw [eg] at k
        exact iteF k
theorem ok_read_short (T : Txt K mg) : FnOk P w K mg base CX0 3 T.a_read_short T.d_read_short ["text"] (sp_read_short K) := by
  refine T.F_read_short.ok sc_read_short (fun vs H Q E h => ?_) (fun cdv A outer s H vs Q E hr h => ?_)
  · obtain ⟨t, rfl, _⟩ := h
    rfl
  · obtain ⟨t, rfl, l, k⟩ := h
    refine ⟨_, (pss_one (ps_ret (pe_ifExp (PW.pt (pw_and (pt_val (pe_call (ok_is_digit T) (hr.mono (by decide)) (by rfl) T.g_is_digit T.F_is_digit.kp T.b_is_digit .nil pass0 (pa_cons (pv 0) pa_nil))) (pw_and1 (pt_val (pe_call (ok_is_whole_within T) (hr.mono (by decide)) (by rfl) T.g_is_whole_within T.F_is_whole_within.kp T.b_is_whole_within .nil pass0 (pa_cons (pe_callTy call_int_str (by rfl) T.z_int (by decide +kernel) (pa_cons (pv 0) pa_nil)) (pa_cons pe_int (pa_cons (pe_glob (v := V.int 6) rfl T.c_MOST_SHORT ⟨_, rfl⟩) pa_nil)))))))) (pe_callTy call_int_str (by rfl) T.z_int (by decide +kernel) (pa_cons (pv 0) pa_nil)) pe_non))), ?_⟩
    refine ⟨_, rfl, t, rfl, l, _, rfl, ?_⟩
    cases e : dgO t with
    | none =>
      refine iteF (iteF ?_)
      have : shortF t = none := by unfold shortF; rw [e]
      rw [this] at k
      exact k
    | some d =>
      obtain ⟨d1, d2⟩ := dg_int e
      obtain ⟨_, d9⟩ := dg_one e
      refine iteT ⟨_, rfl, t, _, rfl, d1, by omega, .int (d : Nat), .int (d : Nat), 0, 6, rfl, ⟨.int _, .int (by omega)⟩, _, rfl, ?_⟩
      have ew : withB (.int (d : Nat)) 0 6 = decide (d ≤ 6) := withB_o (some d) 6
      rw [ew]
      by_cases c : d ≤ 6
      · rw [decide_eq_true c]
        have : shortF t = some d := by unfold shortF; rw [e]; exact if_pos c
        rw [this] at k
        exact iteT ⟨_, rfl, t, _, rfl, d1, by omega, k⟩
      · rw [decide_eq_false c]
        have : shortF t = none := by unfold shortF; rw [e]; exact if_neg c
        rw [this] at k
        exact iteF k
theorem str_dec (a b : Str) : decide (V.str a = V.str b) = decide (a = b) := decide_eq_decide.mpr ⟨fun z => V.str.inj z, fun z => by rw [z]⟩
theorem allO_some {k : Nat} : ∀ {os : List (Option Nat)} {ns : List Nat}, allO k os = some ns → os = ns.map some ∧ ∀ n ∈ ns, n ≤ k
  | [], ns, h => by cases h; exact ⟨rfl, fun _ m => by cases m⟩
  | none :: _, ns, h => by cases h
  | some d :: r, ns, h => by
    unfold allO at h
    split at h
    · rename_i c
      obtain ⟨ms, e, rfl⟩ := Option.map_eq_some_iff.mp h
      obtain ⟨a, b⟩ := allO_some e
      refine ⟨by rw [a]; rfl, fun n m => ?_⟩
      rcases List.mem_cons.mp m with rfl | m
      · exact c
      · exact b n m
    · cases h
def okO (k : Nat) (o : Option Nat) : Bool := match o with
  | some d => decide (d ≤ k)
  | none => false
theorem allO_is {k : Nat} : ∀ os : List (Option Nat), ((os.map (okO k)).all id) = (allO k os).isSome
  | [] => rfl
  | none :: _ => rfl
  | some d :: r => by
    have ih := allO_is (k := k) r
    have eo : allO k (some d :: r) = if d ≤ k then (allO k r).map (d :: ·) else none := rfl
    rw [List.map_cons, List.all_cons, ih, eo]
    by_cases c : d ≤ k
    · rw [if_pos c, Option.isSome_map]
      show (id (decide (d ≤ k)) && _) = _
      rw [decide_eq_true c]
      exact Bool.true_and _
    · rw [if_neg c]
      show (id (decide (d ≤ k)) && _) = _
      rw [decide_eq_false c]
      rfl
theorem dg_le9 {t : Str} {s : Str} : ∀ d, some d ∈ (Txt.split t s).map dgO → d ≤ 9 := fun d m => by
  obtain ⟨z, _, e⟩ := List.mem_map.mp m
  exact (dg_one e).2
theorem os_iD {H : Hp} {q : Addr} {ns : List Nat} (h : H q = some (.tup ((ns.map some).map oV))) : Dt K H (.ref q) (iD ns) := by
  refine .tup (SqT.of h) ?_
  have e : (ns.map some).map oV = (ns.map fun (n : Nat) => (n : Int)).map V.int := by rw [List.map_map, List.map_map]; rfl
  have e2 : (ns.map fun (n : Nat) => PyData.int (n : Int)) = (ns.map fun (n : Nat) => (n : Int)).map PyData.int := by rw [List.map_map]; rfl
  rw [e, e2]
  exact dts_int _
theorem ok_read_crews (T : Txt K mg) : FnOk P w K mg base CX0 4 T.a_read_crews T.d_read_crews ["text"] (sp_read_crews K) := by
  refine T.F_read_crews.ok sc_read_crews (fun vs H Q E h => ?_) (fun cdv A outer s H vs Q E hr h => ?_)
  · obtain ⟨t, rfl, _⟩ := h
    rfl
  · obtain ⟨t, rfl, l, k⟩ := h
    obtain ⟨b1, b2⟩ := split_len (t := t) sep_sp
    refine ⟨_, (pss_cons (ps_if (pt_cmpR op_eq (pv 0) (pe_glob (v := V.str "-") rfl T.c_EMPTY ⟨_, rfl⟩) (nomark _))
        (pss_one (ps_ret (pe_tup pa_nil)))
        pss_nil)
      (pss_cons (ps_set (i := 1) sc_read_crews.nd rfl (Or.inl rfl) (pe_callTy call_tuple_of (by rfl) T.z_tuple (by decide +kernel) (pa_cons (pe_call (ok_digits_in T) (hr.mono (by decide)) (by rfl) T.g_digits_in T.F_digits_in.kp T.b_digits_in .nil pass0 (pa_cons (pv 0) (pa_cons pe_str pa_nil))) pa_nil)))
      (pss_one (ps_ret (pe_ifExp (PW.pt (pw_and (pt_cmpR op_le (pe_callB call_len_seq (by rfl) T.z_len PySem.boot_len (pa_cons (pv 1) pa_nil)) (pe_glob (v := V.int 6) rfl T.c_MOST_CREWS ⟨_, rfl⟩) (nomark _)) (pw_and1 (pt_val (pe_callB (cr_all rfl) (by rfl) T.z_all (by decide +kernel) (pa_cons (pe_lc (own := [("crew", 2)]) (g := gName 2) (tt := tYes) rfl sc_read_crews.nd (pi_tup (pv 1)) (blkOk_by (own := [("crew", 2)]) (N := nm_read_crews) (sc := (defScope s_read_crews)) (by decide +kernel)) (fun _ _ _ _ _ => pg_name (i := 2) sc_read_crews.nd rfl (Or.inl rfl)) (fun _ _ _ _ _ => pts_nil) (fun _ _ _ _ _ => (pe_call (ok_is_crew T) (hr.mono (by decide)) (by rfl) T.g_is_crew T.F_is_crew.kp T.b_is_crew .nil pass0 (pa_cons (pv 2) pa_nil)))) pa_nil)))))) (pv 1) pe_non))))), ?_⟩
    refine ⟨_, rfl, rfl, _, rfl, ?_⟩
    rw [str_dec]
    unfold crewsF at k
    by_cases c : t = "-"
    · rw [decide_eq_true c]
      rw [if_pos c] at k
      exact iteT ⟨by show 0 ≤ sizeLine; decide, fun q hq => k _ _ (same_new hq) ⟨(by intro z; cases z), .tup (SqT.of upd_same) .nil⟩⟩
    rw [decide_eq_false c]
    rw [if_neg c] at k
    refine iteF ?_
    refine ⟨_, rfl, t, " ", rfl, .inl rfl, by omega, fun H1 q s1 hq0 hq => ⟨q, _, rfl, .inl ⟨SqL.of hq, fun q2 hq2 => ?_⟩⟩⟩
    have h9 : ∀ d, some d ∈ (Txt.split t " ").map dgO → d ≤ 9 := dg_le9
    have lo : ((Txt.split t " ").map dgO).length = (Txt.split t " ").length := List.length_map _
    generalize (Txt.split t " ").map dgO = os at k hq h9 lo hq2 ⊢
    have s2 := same_new (o := .tup (os.map oV)) hq2
    have h2 : upd H1 q2 (.tup (os.map oV)) q2 = some (.tup (os.map oV)) := upd_same
    have s02 := s1.trans s2
    generalize upd H1 q2 (.tup (os.map oV)) = H2 at s02 h2 ⊢
    clear s2 s1 hq hq0 hq2
    refine ⟨_, rfl, q2, _, rfl, .inr (SqT.of h2), _, _, rfl, rfl, _, rfl, ?_⟩
    rw [List.length_map]
    by_cases c2 : os.length ≤ 6
    · rw [decide_eq_true (by omega)]
      rw [if_pos (by omega)] at k
      refine iteT ?_
      refine ⟨_, rfl, q2, rfl, ⟨_, SqT.of h2⟩, fun D hD => ?_⟩
      refine Lm.lc_map (K := K) walk_tup (xs := os.map oV) (fun i y A => ∃ o, os[i]? = some o ∧ y = .bl (okO 5 o)) (fun _ _ _ _ h _ => h) hD (by rw [List.length_map]; omega) (fun H' s' => SqT.of (s' _ _ h2)) (fun i x H' hi hx s' Q' Z hQ => ?_) (fun H3 ys s3 hD3 hly hy => ?_)
      · rw [List.getElem?_map] at hx
        obtain ⟨o, ho, rfl⟩ := Option.map_eq_some_iff.mp hx
        obtain ⟨d, ob⟩ := oV_ob (K := K) (H := H') o fun d e => h9 d (by rw [← e]; exact List.mem_of_getElem? ho)
        refine ⟨rfl, yesT ⟨_, rfl, oV o, d, rfl, ob, ?_⟩⟩
        have ew : withB (oV o) 0 5 = okO 5 o := withB_o o 5
        rw [ew]
        exact hQ _ _ (Same.refl _) ⟨o, ho, rfl⟩
      · have eys : ys = (os.map (okO 5)).map V.bl := by
          rw [List.map_map]
          exact strs_list (by rw [List.length_map] at hly; exact hly) hy
        rw [eys] at hD3
        refine ⟨D, _, rfl, SqL.of hD3, _, rfl, ?_⟩
        rw [allO_is]
        cases e : allO 5 os with
        | none =>
          rw [e] at k
          exact iteF (k _ _ (s02.trans s3) rfl)
        | some ns =>
          rw [e] at k
          obtain ⟨rfl, _⟩ := allO_some e
          exact iteT ⟨_, rfl, k _ _ (s02.trans s3) ⟨(by intro z; cases z), os_iD (s3 _ _ h2)⟩⟩
    · rw [decide_eq_false (by omega)]
      rw [if_neg (by omega)] at k
      exact iteF (iteF (k _ _ s02 rfl))
theorem allP_is {α : Type} : ∀ os : List (Option α), ((os.map Option.isSome).all id) = (allP os).isSome
  | [] => rfl
  | none :: _ => rfl
  | some d :: r => by
    have ih := allP_is r
    have eo : allP (some d :: r) = (allP r).map (d :: ·) := rfl
    rw [List.map_cons, List.all_cons, ih, eo, Option.isSome_map]
    exact Bool.true_and _
theorem allP_some {α : Type} : ∀ {os : List (Option α)} {ns : List α}, allP os = some ns → os = ns.map some
  | [], ns, h => by cases h; rfl
  | none :: _, ns, h => by cases h
  | some d :: r, ns, h => by
    unfold allP at h
    obtain ⟨ms, e, rfl⟩ := Option.map_eq_some_iff.mp h
    rw [allP_some e]
    rfl
theorem mvB_some {os : List (Option Nat)} {x : Nat × Nat} (h : mvB os = some x) : os = [some x.1, some x.2] ∧ x.1 ≤ 5 ∧ x.2 ≤ 8 := by
  unfold mvB at h
  split at h
  · split at h
    · cases h
      rename_i c
      exact ⟨rfl, c⟩
    · cases h
  · cases h
theorem dts_of {H : Hp} : ∀ {ys : List V} {ds : List PyData}, ys.length = ds.length → (∀ (i : Nat) y, ys[i]? = some y → ∃ d, ds[i]? = some d ∧ Dt K H y d) → Dts K H ys ds
  | [], [], _, _ => .nil
  | [], _ :: _, l, _ => by cases l
  | _ :: _, [], l, _ => by cases l
  | y :: ys, d :: ds, l, h => by
    obtain ⟨d', e, x⟩ := h 0 y rfl
    cases e
    exact .cons x (dts_of (Nat.succ.inj l) fun i y e => h (i + 1) y e)
theorem ok_read_pairs (T : Txt K mg) : FnOk P w K mg base CX0 5 T.a_read_pairs T.d_read_pairs ["text"] (sp_read_pairs K) := by
  refine T.F_read_pairs.ok sc_read_pairs (fun vs H Q E h => ?_) (fun cdv A outer s H vs Q E hr h => ?_)
  · obtain ⟨t, rfl, _⟩ := h
    rfl
  · obtain ⟨t, rfl, l, k⟩ := h
    obtain ⟨b1, b2⟩ := split_len (t := t) sep_sp
    have big : (100000 : Nat) ≤ sizeLine := by decide
    refine ⟨_, (pss_cons (ps_if (pt_cmpR op_eq (pv 0) (pe_glob (v := V.str "-") rfl T.c_EMPTY ⟨_, rfl⟩) (nomark _))
        (pss_one (ps_ret (pe_tup pa_nil)))
        pss_nil)
      (pss_cons (ps_set (i := 1) sc_read_pairs.nd rfl (Or.inl rfl) (pe_callTy call_tuple_of (by rfl) T.z_tuple (by decide +kernel) (pa_cons (pe_lc (own := [("piece", 2)]) (g := gName 2) (tt := tYes) rfl sc_read_pairs.nd (pi_list (pe_split (pv 0) pe_str)) (blkOk_by (own := [("piece", 2)]) (N := nm_read_pairs) (sc := (defScope s_read_pairs)) (by decide +kernel)) (fun _ _ _ _ _ => pg_name (i := 2) sc_read_pairs.nd rfl (Or.inl rfl)) (fun _ _ _ _ _ => pts_nil) (fun _ _ _ _ _ => (pe_callTy (show CallR _ _ (Kx.rTupOf K) from call_tuple_of) (by rfl) T.z_tuple (by decide +kernel) (pa_cons (pe_call (ok_digits_in T) (hr.mono (by decide)) (by rfl) T.g_digits_in T.F_digits_in.kp T.b_digits_in .nil pass0 (pa_cons (pv 2) (pa_cons pe_str pa_nil))) pa_nil)))) pa_nil)))
      (pss_one (ps_ret (pe_ifExp (PW.pt (pw_and (pt_cmpR op_le (pe_callB call_len_seq (by rfl) T.z_len PySem.boot_len (pa_cons (pv 1) pa_nil)) (pe_glob (v := V.int 6) rfl T.c_MOST_MOVES ⟨_, rfl⟩) (nomark _)) (pw_and1 (pt_val (pe_callB (cr_all rfl) (by rfl) T.z_all (by decide +kernel) (pa_cons (pe_lc (own := [("pair", 3)]) (g := gName 3) (tt := tYes) rfl sc_read_pairs.nd (pi_tup (pv 1)) (blkOk_by (own := [("pair", 3)]) (N := nm_read_pairs) (sc := (defScope s_read_pairs)) (by decide +kernel)) (fun _ _ _ _ _ => pg_name (i := 3) sc_read_pairs.nd rfl (Or.inl rfl)) (fun _ _ _ _ _ => pts_nil) (fun _ _ _ _ _ => (pe_call (ok_is_move T) (hr.mono (by decide)) (by rfl) T.g_is_move T.F_is_move.kp T.b_is_move .nil pass0 (pa_cons (pv 3) pa_nil)))) pa_nil)))))) (pv 1) pe_non))))), ?_⟩
    refine ⟨_, rfl, rfl, _, rfl, ?_⟩
    rw [str_dec]
    unfold pairsF at k
    by_cases c : t = "-"
    · rw [decide_eq_true c]
      rw [if_pos c] at k
      exact iteT ⟨by show 0 ≤ sizeLine; decide, fun q hq => k _ _ (same_new hq) ⟨(by intro z; cases z), .tup (SqT.of upd_same) .nil⟩⟩
    rw [decide_eq_false c]
    rw [if_neg c] at k
    refine iteF ?_
    refine ⟨_, rfl, ⟨_, rfl⟩, _, _, rfl, rfl, by decide +kernel, by omega, fun q hq => ⟨q, rfl, ⟨_, SqL.of upd_same⟩, fun D hD => ?_⟩⟩
    generalize Txt.split t " " = zs at k hq hD b1 b2 ⊢
    have sq := same_new (o := .lst (zs.map V.str)) hq
    have hq1 : upd H q (.lst (zs.map V.str)) q = some (.lst (zs.map V.str)) := upd_same
    generalize upd H q (.lst (zs.map V.str)) = H1 at sq hq1 hD ⊢
    refine Lm.lc_map (K := K) walk_list (xs := zs.map V.str) (fun i y A => ∃ z q, zs[i]? = some z ∧ y = .ref q ∧ SqT K A q (((Txt.split z ">").map dgO).map oV)) (fun i y H H' h k => by obtain ⟨z, q, a, b, c⟩ := h; exact ⟨z, q, a, b, k _ _ c⟩) hD (by rw [List.length_map]; omega) (fun H' s' => SqL.of (s' _ _ hq1)) (fun i x H' hi hx s' Q' Z hQ => ?_) (fun H3 ys s3 hD3 hly hy => ?_)
    · rw [List.getElem?_map] at hx
      obtain ⟨z, hz, rfl⟩ := Option.map_eq_some_iff.mp hx
      have lz := b2 z (List.mem_of_getElem? hz)
      refine ⟨rfl, yesT ⟨_, rfl, z, ">", rfl, .inr rfl, by omega, fun H4 q4 s4 hq40 hq4 => ⟨q4, _, rfl, .inl ⟨SqL.of hq4, fun q5 hq5 => ?_⟩⟩⟩⟩
      exact hQ _ _ (s4.trans (same_new hq5)) ⟨z, q5, hz, rfl, SqT.of upd_same⟩
    · rw [List.length_map] at hly
      refine ⟨D, _, rfl, .inl ⟨SqL.of hD3, fun q2 hq2 => ?_⟩⟩
      have s2 := same_new (o := .tup ys) hq2
      have h2 : upd H3 q2 (.tup ys) q2 = some (.tup ys) := upd_same
      have s02 := (sq.trans s3).trans s2
      have hy : ∀ (i : Nat) y, ys[i]? = some y → ∃ z q, zs[i]? = some z ∧ y = .ref q ∧ SqT K (upd H3 q2 (.tup ys)) q (((Txt.split z ">").map dgO).map oV) := fun i y e => by
        obtain ⟨z, q, a, b, c⟩ := hy i y e
        exact ⟨z, q, a, b, sameT s2 c⟩
      generalize upd H3 q2 (.tup ys) = H2 at s02 h2 hy ⊢
      clear s2 hq2 hD3 s3
      refine ⟨_, rfl, q2, _, rfl, .inr (SqT.of h2), _, _, rfl, rfl, _, rfl, ?_⟩
      rw [hly]
      by_cases c2 : zs.length ≤ 6
      · rw [decide_eq_true (by omega)]
        rw [if_pos c2] at k
        refine iteT ?_
        refine ⟨_, rfl, q2, rfl, ⟨_, SqT.of h2⟩, fun D2 hD2 => ?_⟩
        refine Lm.lc_map (K := K) walk_tup (xs := ys) (fun i y A => ∃ z, zs[i]? = some z ∧ y = .bl (pairF z).isSome) (fun _ _ _ _ h _ => h) hD2 (by omega) (fun H' s' => SqT.of (s' _ _ h2)) (fun i x H' hi hx s' Q' Z hQ => ?_) (fun H3 us s3 hD3 hlu hu => ?_)
        · obtain ⟨z, q3, hz, rfl, hq3⟩ := hy i x hx
          exact ⟨rfl, yesT ⟨_, rfl, q3, (Txt.split z ">").map dgO, rfl, sameT s' hq3, dg_le9, fun H4 s4 => hQ _ _ s4 ⟨z, hz, rfl⟩⟩⟩
        · have eus : us = ((zs.map pairF).map Option.isSome).map V.bl := by
            rw [List.map_map, List.map_map]
            exact strs_list (by omega) hu
          rw [eus] at hD3
          refine ⟨D2, _, rfl, SqL.of hD3, _, rfl, ?_⟩
          rw [allP_is]
          cases e : allP (zs.map pairF) with
          | none =>
            rw [e] at k
            exact iteF (k _ _ (s02.trans s3) rfl)
          | some ms =>
            rw [e] at k
            have em := allP_some e
            have lm := congrArg List.length em
            rw [List.length_map, List.length_map] at lm
            refine iteT ⟨_, rfl, k _ _ (s02.trans s3) ⟨(by intro z; cases z), .tup (SqT.of (s3 _ _ h2)) (dts_of (by rw [List.length_map]; omega) fun i y hi => ?_)⟩⟩
            obtain ⟨z, q3, hz, rfl, hq3⟩ := hy i y hi
            have e3 : (zs.map pairF)[i]? = some (pairF z) := by rw [List.getElem?_map, hz]; rfl
            rw [em, List.getElem?_map] at e3
            obtain ⟨x, hx, ex⟩ := Option.map_eq_some_iff.mp e3
            refine ⟨_, by rw [List.getElem?_map, hx]; rfl, ?_⟩
            obtain ⟨eo, _⟩ := mvB_some ex.symm
            rw [eo] at hq3
            exact .tup (sameT s3 hq3) (.cons (.int _) (.cons (.int _) .nil))
      · rw [decide_eq_false (by omega)]
        rw [if_neg c2] at k
        exact iteF (iteF (k _ _ s02 rfl))
structure TW (d : PyData) : Prop where
  fine : Fine 3 d
  nn : PyData.eqv d .none = false
theorem tw_iD (ns : List Nat) : TW (iD ns) := ⟨(fine_tup (n := 0) fun d m => by obtain ⟨i, _, rfl⟩ := List.mem_map.mp m; exact fine_int _).mono (by decide), by simp [iD, PyData.eqv]⟩
theorem tw_mvD (m : List (Nat × Nat)) : TW (mvD m) := ⟨(fine_tup (n := 1) fun d h => by
  obtain ⟨x, _, rfl⟩ := List.mem_map.mp h
  exact fine_tup (n := 0) fun d h => by
    simp only [List.mem_cons, List.not_mem_nil, or_false] at h
    rcases h with rfl | rfl <;> exact fine_int _).mono (by decide), by simp [mvD, PyData.eqv]⟩
theorem tw_int (n : Nat) : TW (.int (n : Nat)) := ⟨fine_int _, by simp [PyData.eqv]⟩
def od (o : Option PyData) : PyData := o.getD .none
inductive ODs (K : PySem.W.Frag) (H : Hp) : List V → List (Option PyData) → Prop
  | nil : ODs K H [] []
  | cons {v : V} {o : Option PyData} {vs : List V} {os : List (Option PyData)} : OD K H v o → (∀ d, o = some d → TW d) → ODs K H vs os → ODs K H (v :: vs) (o :: os)
theorem OD.k {H H' : Hp} {v : V} {o : Option PyData} (h : OD K H v o) (s : Same H H') : OD K H' v o := by
  cases o with
  | none => exact h
  | some d => exact ⟨h.1, h.2.ks s⟩
theorem ODs.k {H H' : Hp} {vs : List V} {os : List (Option PyData)} (h : ODs K H vs os) (s : Same H H') : ODs K H' vs os := by
  induction h with
  | nil => exact .nil
  | cons a b _ ih => exact .cons (a.k s) b ih
theorem OD.dp {H : Hp} {v : V} {o : Option PyData} (h : OD K H v o) : Dp K H v (od o) := by
  cases o with
  | none =>
    have h : v = .non := h
    subst h
    exact .non
  | some d => exact h.2.toDp
theorem ODs.dps {H : Hp} {vs : List V} {os : List (Option PyData)} (h : ODs K H vs os) : DpAll K H vs (os.map od) := by
  induction h with
  | nil => exact .nil
  | cons a _ _ ih => exact .cons a.dp ih
theorem ODs.lay {H : Hp} {vs : List V} {os : List (Option PyData)} (h : ODs K H vs os) : PyData.canLayAll0 (os.map od) = true := by
  induction h with
  | nil => simp [PyData.canLayAll0]
  | @cons v o vs os a b _ ih =>
    rw [List.map_cons]
    have : (od o).canLay0 = true := by
      cases o with
      | none => simp [od, PyData.canLay0]
      | some d => exact (b d rfl).fine.1
    simp [PyData.canLayAll0, this, ih]
theorem ODs.has {H : Hp} {vs : List V} {os : List (Option PyData)} (h : ODs K H vs os) : ((os.map od).any fun z => PyData.eqv z .none) = !(allP os).isSome := by
  induction h with
  | nil => rfl
  | @cons v o vs os a b _ ih =>
    rw [List.map_cons, List.any_cons, ih]
    cases o with
    | none =>
      have : PyData.eqv (od none) .none = true := by simp [od, PyData.eqv]
      rw [this]
      rfl
    | some d =>
      have : PyData.eqv (od (some d)) .none = false := (b d rfl).nn
      have eo : allP (some d :: os) = (allP os).map (d :: ·) := rfl
      rw [this, eo, Option.isSome_map, Bool.false_or]
theorem ODs.dts {H : Hp} {vs : List V} {os : List (Option PyData)} (h : ODs K H vs os) : ∀ {ds : List PyData}, allP os = some ds → Dts K H vs ds := by
  induction h with
  | nil => intro ds e; cases e; exact .nil
  | @cons v o vs os a b _ ih =>
    intro ds e
    cases o with
    | none => cases e
    | some d =>
      have e : (allP os).map (d :: ·) = some ds := e
      obtain ⟨ms, em, rfl⟩ := Option.map_eq_some_iff.mp e
      exact .cons a.2 (ih em)
theorem od_crews (t : Str) : ∀ d, ((crewsF t).map iD) = some d → TW d := fun d h => by
  obtain ⟨ns, _, rfl⟩ := Option.map_eq_some_iff.mp h
  exact tw_iD ns
theorem od_pairs (t : Str) : ∀ d, ((pairsF t).map mvD) = some d → TW d := fun d h => by
  obtain ⟨ns, _, rfl⟩ := Option.map_eq_some_iff.mp h
  exact tw_mvD ns
def intD (n : Nat) : PyData := .int (n : Nat)
theorem od_int (o : Option Nat) : ∀ d, (o.map intD) = some d → TW d := fun d h => by
  obtain ⟨n, _, rfl⟩ := Option.map_eq_some_iff.mp h
  exact tw_int n
theorem oV_od {H : Hp} (o : Option Nat) : OD K H (oV o) (o.map intD) := by
  cases o with
  | none => rfl
  | some n => exact ⟨(by intro z; cases z), .int _⟩
theorem two_ps {ps : List Str} (h : ps.length = 2) : ps = [ps.getD 0 "", ps.getD 1 ""] := by
  match ps, h with
  | [a, b], _ => rfl
theorem four_ps {ps : List Str} (h : ps.length = 4) : ps = [ps.getD 0 "", ps.getD 1 "", ps.getD 2 "", ps.getD 3 ""] := by
  match ps, h with
  | [a, b, c, d], _ => rfl
theorem told_back {ps : List Str} (h : ps.length = 2) : ((toldF "back" ps).map fun x => PyData.tuple (tlD x.2)) = (allP [(crewsF (ps.getD 0 "")).map iD, (crewsF (ps.getD 1 "")).map iD]).map .tuple := by
  unfold toldF
  rw [if_pos ⟨rfl, h⟩]
  cases crewsF (ps.getD 0 "") <;> cases crewsF (ps.getD 1 "") <;> rfl
theorem told_sent {m : Bool} {ps : List Str} (h : ps.length = 4) : ((toldF (wordS m) ps).map fun x => PyData.tuple (tlD x.2)) = (allP [(gradeF m (ps.getD 0 "")).map intD, (crewsF (ps.getD 1 "")).map iD, (pairsF (ps.getD 2 "")).map mvD, (shortF (ps.getD 3 "")).map intD]).map .tuple := by
  have e1 : ¬ (wordS m = "back" ∧ ps.length = 2) := fun z => by have := z.2; omega
  have e2 : wordS m = "call" ∨ wordS m = "more" := by cases m; exact .inl rfl; exact .inr rfl
  have e3 : decide (wordS m = "more") = m := by cases m <;> decide +kernel
  unfold toldF
  rw [if_neg e1, if_pos ⟨e2, h⟩, e3]
  cases gradeF m (ps.getD 0 "") <;> cases crewsF (ps.getD 1 "") <;> cases pairsF (ps.getD 2 "") <;> cases shortF (ps.getD 3 "") <;> rfl
theorem ok_read_told (T : Txt K mg) : FnOk P w K mg base CX0 6 T.a_read_told T.d_read_told ["word", "parts"] (sp_read_told K) := by
  refine T.F_read_told.ok sc_read_told (fun vs H Q E h => ?_) (fun cdv A outer s H vs Q E hr h => ?_)
  · obtain ⟨w, q, ps, rfl, _⟩ := h
    rfl
  · obtain ⟨w, q, ps, rfl, hq, l, k⟩ := h
    refine ⟨_, (C8.pss_cut (ps_if (PW.pt (pw_and (pt_cmpR op_eq (pv 0) (pe_glob (v := V.str "back") rfl T.c_BACK ⟨_, rfl⟩) (nomark _)) (pw_and1 (pt_cmpR op_eq (pe_callB call_len_seq (by rfl) T.z_len PySem.boot_len (pa_cons (pv 1) pa_nil)) pe_int (nomark _)))))
        (pss_one (ps_set (i := 2) sc_read_told.nd rfl (Or.inl rfl) (pe_tup (pa_cons (pe_call (ok_read_crews T) (hr.mono (by decide)) (by rfl) T.g_read_crews T.F_read_crews.kp T.b_read_crews .nil pass0 (pa_cons (pe_ix ix_list (pv 1) pe_int (fun _ _ => rfl)) pa_nil)) (pa_cons (pe_call (ok_read_crews T) (hr.mono (by decide)) (by rfl) T.g_read_crews T.F_read_crews.kp T.b_read_crews .nil pass0 (pa_cons (pe_ix ix_list (pv 1) pe_int (fun _ _ => rfl)) pa_nil)) pa_nil)))))
        (pss_one (ps_if (PW.pt (pw_and (pt_cmpR op_in_seq (pv 0) (pe_tup (pa_cons (pe_glob (v := V.str "call") rfl T.c_CALL ⟨_, rfl⟩) (pa_cons (pe_glob (v := V.str "more") rfl T.c_MORE ⟨_, rfl⟩) pa_nil))) rfl) (pw_and1 (pt_cmpR op_eq (pe_callB call_len_seq (by rfl) T.z_len PySem.boot_len (pa_cons (pv 1) pa_nil)) pe_int (nomark _)))))
          (pss_one (ps_set (i := 2) sc_read_told.nd rfl (Or.inl rfl) (pe_tup (pa_cons (pe_call (ok_read_grade T) (hr.mono (by decide)) (by rfl) T.g_read_grade T.F_read_grade.kp T.b_read_grade .nil pass0 (pa_cons (pv 0) (pa_cons (pe_ix ix_list (pv 1) pe_int (fun _ _ => rfl)) pa_nil))) (pa_cons (pe_call (ok_read_crews T) (hr.mono (by decide)) (by rfl) T.g_read_crews T.F_read_crews.kp T.b_read_crews .nil pass0 (pa_cons (pe_ix ix_list (pv 1) pe_int (fun _ _ => rfl)) pa_nil)) (pa_cons (pe_call (ok_read_pairs T) (hr.mono (by decide)) (by rfl) T.g_read_pairs T.F_read_pairs.kp T.b_read_pairs .nil pass0 (pa_cons (pe_ix ix_list (pv 1) pe_int (fun _ _ => rfl)) pa_nil)) (pa_cons (pe_call (ok_read_short T) (hr.mono (by decide)) (by rfl) T.g_read_short T.F_read_short.kp T.b_read_short .nil pass0 (pa_cons (pe_ix ix_list (pv 1) pe_int (fun _ _ => rfl)) pa_nil)) pa_nil)))))))
          (pss_one (ps_ret pe_non)))))
      (pss_one (ps_ret (pe_ifExp (pt_cmpR (show OpR _ _ (Ind.rInS K) from Ind.op_inS (Ind.room65 hr)) pe_non (pv 2) rfl) pe_non (pv 2))))), ?_⟩
    refine ⟨fun σ B => ∃ q2 xs os, σ = [some (.str w), some (.ref q), some (.ref q2)] ∧ Same H B ∧ B q2 = some (.tup xs) ∧ ODs K B xs os ∧ ((toldF w ps).map fun x => PyData.tuple (tlD x.2)) = (allP os).map .tuple, ?_, ?_⟩
    · refine ⟨_, rfl, rfl, _, rfl, ?_⟩
      rw [str_dec]
      by_cases c : w = "back"
      · subst c
        rw [decide_eq_true rfl]
        refine iteT ?_
        refine ⟨_, rfl, q, _, rfl, .inl (SqL.of hq), rfl, _, rfl, ?_⟩
        by_cases c2 : ps.length = 2
        · rw [decide_eq_true (by rw [List.length_map, c2]; rfl)]
          refine iteT ?_
          have e2 := two_ps c2
          have p0 : (ps.map V.str)[0]? = some (.str (ps.getD 0 "")) := by rw [e2]; rfl
          have p1 : (ps.map V.str)[1]? = some (.str (ps.getD 1 "")) := by rw [e2]; rfl
          have l0 : (ps.getD 0 "").length ≤ 700 := l _ (by rw [e2]; simp)
          have l1 : (ps.getD 1 "").length ≤ 700 := l _ (by rw [e2]; simp)
          refine ⟨_, rfl, q, _, 0, _, rfl, rfl, SqL.of hq, atI_nat (j := 0) p0, _, rfl, by omega, fun H1 v0 s1 o0 => ?_⟩
          refine ⟨_, rfl, q, _, 1, _, rfl, rfl, SqL.of (s1 _ _ hq), atI_nat (j := 1) p1, _, rfl, by omega, fun H2 v1 s2 o1 => ?_⟩
          refine ⟨by show 2 ≤ sizeLine; decide, fun q2 hq2 => ?_⟩
          have s3 := same_new (o := .tup [v0, v1]) hq2
          exact ⟨q2, [v0, v1], _, rfl, (s1.trans s2).trans s3, upd_same, .cons ((o0.k s2).k s3) (od_crews _) (.cons (o1.k s3) (od_crews _) .nil), told_back c2⟩
        · rw [decide_eq_false (fun z => c2 (by injection z with z; rw [List.length_map] at z; omega))]
          refine iteF ?_
          have nb : toldF "back" ps = none := by
            unfold toldF
            rw [if_neg (fun z => c2 z.2), if_neg (fun z => by rcases z.1 with z | z <;> exact absurd z (by decide +kernel))]
          rw [nb] at k
          refine ⟨_, rfl, ⟨by show 2 ≤ sizeLine; decide, fun q3 hq3 => ?_⟩⟩
          have s3 := same_new (o := .tup ([("call" : Str), "more"].map V.str)) hq3
          refine ⟨q3, _, rfl, .inr (SqT.of upd_same), rfl, flat_strs [("call" : Str), "more"], _, rfl, ?_⟩
          have ei : inV (.str "back") [V.str "call", V.str "more"] = decide (("back" : Str) ∈ [("call" : Str), "more"]) := in_strs "back" [("call" : Str), "more"]
          rw [if_neg Bool.false_ne_true, ei, decide_eq_false (by decide +kernel)]
          exact iteF (iteF (k _ _ s3 rfl))
      · rw [decide_eq_false c]
        refine iteF ?_
        refine iteF ?_
        refine ⟨_, rfl, ⟨by show 2 ≤ sizeLine; decide, fun q3 hq3 => ?_⟩⟩
        have s3 := same_new (o := .tup ([("call" : Str), "more"].map V.str)) hq3
        refine ⟨q3, _, rfl, .inr (SqT.of upd_same), rfl, flat_strs [("call" : Str), "more"], _, rfl, ?_⟩
        have ei : inV (.str w) [V.str "call", V.str "more"] = decide (w ∈ [("call" : Str), "more"]) := in_strs w [("call" : Str), "more"]
        rw [if_neg Bool.false_ne_true, ei]
        have s3 : Same H (upd H q3 (.tup [V.str "call", V.str "more"])) := s3
        have hq1 := s3 _ _ hq
        generalize upd H q3 (.tup [V.str "call", V.str "more"]) = H0 at s3 hq1 ⊢
        by_cases c4 : (w = "call" ∨ w = "more") ∧ ps.length = 4
        · obtain ⟨cw, c4⟩ := c4
          rw [decide_eq_true (by simpa using cw)]
          refine iteT ?_
          refine ⟨_, rfl, q, _, rfl, .inl (SqL.of hq1), rfl, _, rfl, ?_⟩
          rw [decide_eq_true (by rw [List.length_map, c4]; rfl)]
          refine iteT ?_
          obtain ⟨m, rfl⟩ : ∃ m : Bool, w = wordS m := by
            rcases cw with rfl | rfl
            · exact ⟨false, rfl⟩
            · exact ⟨true, rfl⟩
          have e4 := four_ps c4
          have p0 : (ps.map V.str)[0]? = some (.str (ps.getD 0 "")) := by rw [e4]; rfl
          have p1 : (ps.map V.str)[1]? = some (.str (ps.getD 1 "")) := by rw [e4]; rfl
          have p2 : (ps.map V.str)[2]? = some (.str (ps.getD 2 "")) := by rw [e4]; rfl
          have p3 : (ps.map V.str)[3]? = some (.str (ps.getD 3 "")) := by rw [e4]; rfl
          have l1 : (ps.getD 1 "").length ≤ 700 := l _ (by rw [e4]; simp)
          have l2 : (ps.getD 2 "").length ≤ 700 := l _ (by rw [e4]; simp)
          have l3 : (ps.getD 3 "").length ≤ 700 := l _ (by rw [e4]; simp)
          refine ⟨_, rfl, _, rfl, q, _, 0, _, rfl, rfl, SqL.of hq1, atI_nat (j := 0) p0, m, _, rfl, fun H1 s1 => ?_⟩
          refine ⟨_, rfl, q, _, 1, _, rfl, rfl, SqL.of (s1 _ _ hq1), atI_nat (j := 1) p1, _, rfl, by omega, fun H2 v1 s2 o1 => ?_⟩
          refine ⟨_, rfl, q, _, 2, _, rfl, rfl, SqL.of (s2 _ _ (s1 _ _ hq1)), atI_nat (j := 2) p2, _, rfl, by omega, fun H3 v2 s4 o2 => ?_⟩
          refine ⟨_, rfl, q, _, 3, _, rfl, rfl, SqL.of (s4 _ _ (s2 _ _ (s1 _ _ hq1))), atI_nat (j := 3) p3, _, rfl, by omega, ?_⟩
          refine ⟨by show 4 ≤ sizeLine; decide, fun q2 hq2 => ?_⟩
          have s5 := same_new (o := .tup [oV (gradeF m (ps.getD 0 "")), v1, v2, oV (shortF (ps.getD 3 ""))]) hq2
          exact ⟨q2, _, _, rfl, (((s3.trans s1).trans s2).trans s4).trans s5, upd_same, .cons (oV_od _) (od_int _) (.cons ((o1.k s4).k s5) (od_crews _) (.cons (o2.k s5) (od_pairs _) (.cons (oV_od _) (od_int _) .nil))), told_sent c4⟩
        · have nb : toldF w ps = none := by
            unfold toldF
            rw [if_neg (fun z => c z.1), if_neg c4]
          rw [nb] at k
          by_cases cw : w = "call" ∨ w = "more"
          · rw [decide_eq_true (by simpa using cw)]
            refine iteT ?_
            refine ⟨_, rfl, q, _, rfl, .inl (SqL.of hq1), rfl, _, rfl, ?_⟩
            rw [decide_eq_false (fun z => c4 ⟨cw, by injection z with z; rw [List.length_map] at z; omega⟩)]
            exact iteF (k _ _ s3 rfl)
          · rw [decide_eq_false (by simpa using cw)]
            exact iteF (iteF (k _ _ s3 rfl))
    · rintro σ B ⟨q2, xs, os, rfl, sB, h2, ho, et⟩
      rw [et] at k
      refine ⟨_, rfl, .none, os.map od, true, .non, .tup (SqT.of h2) ho.dps, by simp [PyData.canLay0], by simp [PyData.depth], ho.lay, _, rfl, ?_⟩
      rw [ho.has]
      cases e : allP os with
      | none =>
        rw [e] at k
        exact iteT (k _ _ sB rfl)
      | some ds =>
        rw [e] at k
        exact iteF ⟨_, rfl, k _ _ sB ⟨(by intro z; cases z), .tup (SqT.of h2) (ho.dts e)⟩⟩
end
end K83

namespace K83
open PySem L2 Wm TL Dv
section
variable {P : Program} {w : World} {K : PySem.W.Frag} {mg : Str → Option Value} {base : Heap}
theorem par_bound {S : List Nat} : ∀ {l acc a b : List Nat}, par S acc l = some (a, b) → a.length ≤ acc.length + l.length ∧ b.length ≤ l.length
  | [], acc, a, b, h => by cases h
  | c :: r, acc, a, b, h => by
    have h : (if pre S (c :: r) = true then some (acc, (c :: r).drop S.length) else par S (acc ++ [c]) r) = some (a, b) := h
    split at h
    · cases h
      exact ⟨by omega, by rw [List.length_drop]; omega⟩
    · obtain ⟨x, y⟩ := par_bound h
      rw [List.length_append, List.length_singleton] at x
      rw [List.length_cons]
      omega
theorem part_len {x y : Str} (h : SepOk y) : (Txt.partition x y).1.length ≤ x.length ∧ (Txt.partition x y).2.2.length ≤ x.length := by
  rw [partition_par _ y h.ne]
  cases e : par (tl y) [] (tl x) with
  | none => exact ⟨Nat.le_refl _, Nat.zero_le _⟩
  | some p =>
    obtain ⟨a, b⟩ := p
    obtain ⟨h1, h2⟩ := par_bound e
    rw [List.length_nil] at h1
    rw [len_tl x]
    show (⟨a.toArray⟩ : Str).length ≤ _ ∧ (⟨b.toArray⟩ : Str).length ≤ _
    rw [len_tl, len_tl]
    exact ⟨by show a.length ≤ _; omega, h2⟩
theorem lstrip_len (x y : Str) : (Txt.lstripChars x y).length ≤ x.length := PyProof.Rows.len_stripBy _ _ _ x
theorem rstrip_len (x y : Str) : (Txt.rstripChars x y).length ≤ x.length := PyProof.Rows.len_stripBy _ _ _ x
theorem cutS_len (x : Str) (a b : Option Int) : (cutS x a b).length ≤ x.length := by
  rw [len_tl x, len_tl]
  show ((x.cps.toList.drop _).take _).length ≤ _
  rw [List.length_take, List.length_drop]
  exact Nat.le_trans (Nat.min_le_right _ _) (Nat.sub_le _ _)
theorem ODt.row {H : Hp} {t : Nat} {n : Str} {tl : Bool × Tl} (q p : Addr) (w : Str) (xs : List V) (hw : w = wordR (mkRow t n tl)) (hp : H p = some (.tup ([V.str w, .int (t : Nat), .str n] ++ xs))) (hx : Dts K H xs (tlD tl.2)) : Dt K H (.ref p) (rowD (mkRow t n tl)) := by
  subst hw
  obtain ⟨m, x⟩ := tl
  cases x with
  | back a b => exact .tup (SqT.of hp) (.cons (.str _) (.cons (.int _) (.cons (.str _) hx)))
  | sent g a v s => exact .tup (SqT.of hp) (.cons (.str _) (.cons (.int _) (.cons (.str _) hx)))
theorem told_word {w : Str} {ps : List Str} {x : Bool × Tl} (h : toldF w ps = some x) (t : Nat) (n : Str) : w = wordR (mkRow t n x) := by
  unfold toldF at h
  split at h
  · rename_i c
    split at h
    · cases h; exact c.1
    · cases h
  · split at h
    · rename_i c
      split at h
      · cases h
        show w = wordS (decide (w = "more"))
        rcases c.1 with rfl | rfl
        · decide +kernel
        · decide +kernel
      · cases h
    · cases h
open Classical in
noncomputable def mixF (a : Option Nat) (b : Option (Bool × Tl)) (n : Str) : Option Rw := match a, b with
  | some t, some tl => if IsNum n then some (mkRow t n tl) else none
  | _, _ => none
theorem ok_read_row (T : Txt K mg) : FnOk P w K mg base CX0 7 T.a_read_row T.d_read_row ["line"] (sp_read_row K) := by
  refine T.F_read_row.ok sc_read_row (fun vs H Q E h => ?_) (fun cdv A outer s H vs Q E hr h => ?_)
  · obtain ⟨x, rfl, _⟩ := h
    rfl
  · obtain ⟨x, rfl, l, k⟩ := h
    refine ⟨_, (pss_cons (ps_asg (pe_partition (pe_bm PySem.F.plainAttrs_str PySem.F.slot_str_lstrip PySem.F.type_str_lstrip mt_lstripChars (pv 0) (pa_cons pe_str pa_nil)) pe_str) (pg_tup rfl (pgs_cons (pg_name (i := 1) sc_read_row.nd rfl (Or.inl rfl)) (pgs_cons (pg_name (i := 2) sc_read_row.nd rfl (Or.inl rfl)) (pgs_cons (pg_name (i := 3) sc_read_row.nd rfl (Or.inl rfl)) pgs_nil)))))
      (pss_cons (ps_set (i := 4) sc_read_row.nd rfl (Or.inl rfl) (pe_call (ok_read_tick T) (hr.mono (by decide)) (by rfl) T.g_read_tick T.F_read_tick.kp T.b_read_tick .nil pass0 (pa_cons (pv 1) pa_nil)))
      (pss_cons (ps_set (i := 5) sc_read_row.nd rfl (Or.inl rfl) (pe_bm PySem.F.plainAttrs_str PySem.F.slot_str_rstrip PySem.F.type_str_rstrip mt_rstripChars (pe_slice sl_str (pv 3) po_none (po_some (pe_glob (v := V.int 5) rfl T.c_WORD_WIDTH ⟨_, rfl⟩))) (pa_cons pe_str pa_nil)))
      (pss_cons (ps_set (i := 6) sc_read_row.nd rfl (Or.inl rfl) (pe_bm PySem.F.plainAttrs_str PySem.F.slot_str_rstrip PySem.F.type_str_rstrip mt_rstripChars (pe_slice sl_str (pv 3) (po_some (pe_glob (v := V.int 5) rfl T.c_WORD_WIDTH ⟨_, rfl⟩)) (po_some (pe_op op_add (pe_glob (v := V.int 5) rfl T.c_WORD_WIDTH ⟨_, rfl⟩) (pe_glob (v := V.int 5) rfl T.c_NUMBER_WIDTH ⟨_, rfl⟩)))) (pa_cons pe_str pa_nil)))
      (pss_cons (ps_set (i := 7) sc_read_row.nd rfl (Or.inl rfl) (pe_call (ok_read_told T) (hr.mono (by decide)) (by rfl) T.g_read_told T.F_read_told.kp T.b_read_told .nil pass0 (pa_cons (pv 5) (pa_cons (pe_split (pe_slice sl_str (pv 3) (po_some (pe_op op_add (pe_glob (v := V.int 5) rfl T.c_WORD_WIDTH ⟨_, rfl⟩) (pe_glob (v := V.int 5) rfl T.c_NUMBER_WIDTH ⟨_, rfl⟩))) po_none) (pe_glob (v := V.str " / ") rfl T.c_SEPARATOR ⟨_, rfl⟩)) pa_nil))))
      (pss_cons (ps_if (PW.pt (pw_or (pt_cmpR op_isN (pv 4) pe_non (nomark _)) (pw_or (pt_not (pt_val (pe_call (ok_is_number T) (hr.mono (by decide)) (by rfl) T.g_is_number T.F_is_number.kp T.b_is_number .nil pass0 (pa_cons (pv 6) pa_nil)))) (pw_or1 (pt_cmpR op_isN (pv 7) pe_non (nomark _))))))
        (pss_one (ps_ret pe_non))
        pss_nil)
      (pss_one (ps_ret (pe_op op_catA (pe_tup (pa_cons (pv 5) (pa_cons (pv 4) (pa_cons (pv 6) pa_nil)))) (pv 7)))))))))), ?_⟩
    have big : (100000 : Nat) ≤ sizeLine := by decide
    have ll := lstrip_len x " "
    obtain ⟨l1, l2⟩ := part_len (x := Txt.lstripChars x " ") sep_sp
    refine ⟨_, rfl, rfl, x, _, rfl, rfl, by omega, ⟨_, rfl⟩, _, _, rfl, rfl, by decide +kernel, by omega, fun p0 hp0 => ?_⟩
    unfold readF at k
    dsimp only at k
    generalize Txt.partition (Txt.lstripChars x " ") " " = pp at k l1 l2 hp0 ⊢
    obtain ⟨pa, pb, pc⟩ := pp
    have l1 : pa.length ≤ 500 := by have : pa.length ≤ _ := l1; omega
    have l2 : pc.length ≤ 500 := by have : pc.length ≤ _ := l2; omega
    have s0 := same_new (o := .tup [V.str pa, .str pb, .str pc]) hp0
    refine ⟨p0, _, rfl, SqT.of upd_same, rfl, _, _, rfl, _, _, rfl, _, _, rfl, rfl, ?_⟩
    have s0 : Same H (upd H p0 (.tup [V.str pa, .str pb, .str pc])) := s0
    refine ⟨_, rfl, pa, rfl, by omega, fun H1 s1 => ?_⟩
    have s01 := s0.trans s1
    have c1 := cutS_len pc none (some 5)
    have c2 := cutS_len pc (some 5) (some (5 + 5))
    have c3 := cutS_len pc (some (5 + 5)) none
    have r1 := rstrip_len (cutS pc none (some 5)) " "
    have r2 := rstrip_len (cutS pc (some 5) (some (5 + 5))) " "
    refine ⟨_, rfl, _, rfl, pc, rfl, by omega, rfl, _, _, rfl, rfl, by omega, ?_⟩
    refine ⟨_, rfl, _, rfl, _, _, rfl, rfl, _, rfl, pc, rfl, by omega, rfl, _, _, rfl, rfl, by omega, ?_⟩
    refine ⟨_, rfl, _, rfl, _, _, rfl, rfl, _, rfl, pc, rfl, by omega, ⟨_, rfl⟩, _, _, rfl, rfl, by decide +kernel, by omega, fun q hq => ?_⟩
    have sq := same_new (o := .lst ((Txt.split (cutS pc (some (5 + 5)) none) " / ").map V.str)) hq
    obtain ⟨b1, b2⟩ := split_len (t := cutS pc (some (5 + 5)) none) sep_sl
    have c3 := cutS_len pc (some (5 + 5)) none
    refine ⟨_, q, _, rfl, upd_same, fun p m => by have := b2 p m; omega, fun H2 v s2 o2 => ?_⟩
    have s02 := (s01.trans sq).trans s2
    have k : ∀ H' v, Same H H' → OD K H' v (Option.map rowD (mixF (tickF pa) (toldF (Txt.rstripChars (cutS pc none (some 5)) " ") (Txt.split (cutS pc (some (5 + 5)) none) " / ")) (Txt.rstripChars (cutS pc (some 5) (some (5 + 5))) " "))) → Q v H' := k
    have ew := @told_word (Txt.rstripChars (cutS pc none (some 5)) " ") (Txt.split (cutS pc (some (5 + 5)) none) " / ")
    generalize Txt.rstripChars (cutS pc none (some 5)) " " = w at k o2 ew ⊢
    generalize Txt.rstripChars (cutS pc (some 5) (some (5 + 5))) " " = nm at k r2 ⊢
    generalize toldF w (Txt.split (cutS pc (some (5 + 5)) none) " / ") = tl at k o2 ew
    clear sq hq b1 b2
    refine ⟨_, rfl, rfl, _, rfl, ?_⟩
    cases e1 : tickF pa with
    | none =>
      rw [e1] at k
      exact iteT (iteT (k _ _ s02 rfl))
    | some tk =>
      rw [e1] at k
      refine iteF ?_
      refine ⟨_, rfl, nm, rfl, by omega, fun H3 b s3 hb => ⟨_, rfl, ?_⟩⟩
      cases b with
      | false =>
        have nn : ¬ IsNum nm := fun z => by have := hb.mpr z; cases this
        have em : mixF (some tk) tl nm = none := by
          cases tl with
          | none => rfl
          | some x => exact if_neg nn
        rw [em] at k
        exact iteT (iteT (k _ _ (s02.trans s3) rfl))
      | true =>
        have nn : IsNum nm := hb.mp rfl
        refine iteF ?_
        refine ⟨_, rfl, rfl, _, rfl, ?_⟩
        cases tl with
        | none =>
          have o2 : v = .non := o2
          rw [decide_eq_true o2]
          exact iteT (k _ _ (s02.trans s3) rfl)
        | some y =>
          obtain ⟨ne, d2⟩ := o2
          rw [decide_eq_false ne]
          refine iteF ?_
          have em : mixF (some tk) (some y) nm = some (mkRow tk nm y) := if_pos nn
          rw [em] at k
          obtain ⟨p2, xs, rfl, hp2, hd2⟩ := d2.inv
          refine ⟨_, rfl, _, rfl, _, rfl, by show 3 ≤ sizeLine; decide, fun q3 hq3 => ?_⟩
          have s4 := same_new (o := .tup [V.str w, oV (some tk), .str nm]) hq3
          have ly : xs.length = (tlD y.2).length := hd2.len
          have l4 : (tlD y.2).length ≤ 4 ∧ xs ≠ [] := by
            obtain ⟨m, z⟩ := y
            refine ⟨by cases z <;> (show _ ≤ 4; simp [tlD]), fun e => ?_⟩
            rw [e] at ly
            cases z <;> simp [tlD] at ly
          have s05 := (s02.trans s3).trans s4
          have h3 : upd H3 q3 (.tup [V.str w, oV (some tk), .str nm]) q3 = some (.tup [V.str w, .int (tk : Nat), .str nm]) := upd_same
          have s34 := s3.trans s4
          generalize upd H3 q3 (.tup [V.str w, oV (some tk), .str nm]) = H5 at s05 h3 s34 ⊢
          have big : (100000 : Nat) ≤ sizeLine := by decide
          refine ⟨_, rfl, q3, p2, _, xs, rfl, rfl, SqT.of h3, sameT s34 hp2, by show 3 + xs.length ≤ _; omega, (fun e => by cases e), (fun _ e => absurd e l4.2), fun _ _ q6 hq6 => ?_⟩
          have s6 := same_new (o := .tup ([V.str w, .int (tk : Nat), .str nm] ++ xs)) hq6
          exact k _ _ (s05.trans s6) ⟨(by intro z; cases z), ODt.row q3 q6 w xs (ew rfl tk nm) upd_same ((hd2.ks s34).ks s6)⟩
end
end K83

namespace K83
open PySem L2 Wm TL Dv
section
variable {P : Program} {w : World} {K : PySem.W.Frag} {mg : Str → Option Value} {base : Heap}
theorem val_lt : ∀ (cs : List Nat) (acc : Nat), (∀ c ∈ cs, 48 ≤ c ∧ c ≤ 57) → cs.foldl (fun acc c => acc * 10 + (c - 48)) acc < (acc + 1) * 10 ^ cs.length
  | [], acc, _ => by simp
  | c :: cs, acc, h => by
    have ih := val_lt cs (acc * 10 + (c - 48)) fun d m => h d (List.mem_cons_of_mem _ m)
    have hc := h c (List.mem_cons_self ..)
    rw [List.foldl_cons, List.length_cons, Nat.pow_succ]
    refine Nat.lt_of_lt_of_le ih ?_
    have : acc * 10 + (c - 48) + 1 ≤ (acc + 1) * 10 := by omega
    calc (acc * 10 + (c - 48) + 1) * 10 ^ cs.length ≤ ((acc + 1) * 10) * 10 ^ cs.length := Nat.mul_le_mul_right _ this
      _ = (acc + 1) * (10 ^ cs.length * 10) := by rw [Nat.mul_assoc, Nat.mul_comm 10]
theorem tickF_ok {t : Str} {k : Nat} (h : tickF t = some k) : k < 10 ^ 9 := by
  unfold tickF at h
  split at h
  · rename_i c
    cases h
    have := val_lt t.cps.toList 0 c.2.2
    have hl : t.length = t.cps.toList.length := len_tl t
    have le : 10 ^ t.cps.toList.length ≤ 10 ^ 9 := Nat.pow_le_pow_right (by decide) (by omega)
    show NumText.digitsVal t.cps.toList < _
    unfold NumText.digitsVal
    omega
  · cases h
theorem crewsF_ok {t : Str} {a : List Nat} (h : crewsF t = some a) : CwOk a := by
  unfold crewsF at h
  split at h
  · cases h
    exact ⟨by decide, fun x m => by cases m⟩
  · split at h
    · rename_i c
      obtain ⟨e, l⟩ := allO_some h
      have := congrArg List.length e
      rw [List.length_map, List.length_map] at this
      exact ⟨by omega, l⟩
    · cases h
theorem pairsF_ok {t : Str} {v : List (Nat × Nat)} (h : pairsF t = some v) : MvOk v := by
  unfold pairsF at h
  split at h
  · cases h
    exact ⟨by decide, fun x m => by cases m⟩
  · split at h
    · rename_i c
      have e := allP_some h
      have := congrArg List.length e
      rw [List.length_map, List.length_map] at this
      refine ⟨by omega, fun x m => ?_⟩
      have hm : some x ∈ (Txt.split t " ").map pairF := by rw [e]; exact List.mem_map.mpr ⟨x, m, rfl⟩
      obtain ⟨z, _, ez⟩ := List.mem_map.mp hm
      exact (mvB_some ez).2
    · cases h
theorem gradeF_ok {m : Bool} {t : Str} {g : Nat} (h : gradeF m t = some g) : (m = false → g = 1) ∧ (m = true → g = 2 ∨ g = 3) := by
  unfold gradeF at h
  split at h
  · split at h
    · rename_i c
      cases h
      rcases c with ⟨rfl, rfl⟩ | ⟨rfl, c⟩
      · exact ⟨fun _ => rfl, (fun z => by cases z)⟩
      · exact ⟨(fun z => by cases z), fun _ => c⟩
    · cases h
  · cases h
theorem shortF_ok {t : Str} {s : Nat} (h : shortF t = some s) : s ≤ 6 := by
  unfold shortF at h
  split at h
  · split at h
    · cases h; assumption
    · cases h
  · cases h
theorem toldF_ok {w : Str} {ps : List Str} {x : Bool × Tl} (h : toldF w ps = some x) {t : Nat} {n : Str} (ht : t < 10 ^ 9) (hn : IsNum n) : RwOk (mkRow t n x) := by
  unfold toldF at h
  split at h
  · split at h
    · rename_i a b ea eb
      cases h
      exact ⟨ht, hn, crewsF_ok ea, crewsF_ok eb⟩
    · cases h
  · split at h
    · split at h
      · rename_i g a v s eg ea ev es
        cases h
        exact ⟨ht, hn, (gradeF_ok eg).1, (gradeF_ok eg).2, crewsF_ok ea, pairsF_ok ev, shortF_ok es⟩
      · cases h
    · cases h
theorem readF_ok {x : Str} {r : Rw} (h : readF x = some r) : RwOk r := by
  have h : mixF (tickF (Txt.partition (Txt.lstripChars x " ") " ").1) (toldF (Txt.rstripChars (cutS (Txt.partition (Txt.lstripChars x " ") " ").2.2 none (some 5)) " ") (Txt.split (cutS (Txt.partition (Txt.lstripChars x " ") " ").2.2 (some 10) none) " / ")) (Txt.rstripChars (cutS (Txt.partition (Txt.lstripChars x " ") " ").2.2 (some 5) (some 10)) " ") = some r := h
  unfold mixF at h
  split at h
  · rename_i t tl et el
    split at h
    · rename_i hn
      cases h
      exact toldF_ok el (tickF_ok et) hn
    · cases h
  · cases h
end
end K83

namespace K83
open PySem L2 Wm TL Dv
section
variable {P : Program} {w : World} {K : PySem.W.Frag} {mg : Str → Option Value} {base : Heap}
open Classical in
noncomputable def accF (x : Str) : Option Rw := match readF x with
  | some r => if rend r = x then some r else none
  | none => none
noncomputable def accV : V → Option Rw
  | .str t => accF t
  | _ => none
def Itm (K : PySem.W.Frag) (H : Hp) (x : V) : Prop := (∃ t : Str, x = .str t ∧ t.length ≤ 500) ∨ ((∀ t : Str, x ≠ .str t) ∧ ∃ d, Ob K H x d)
def FirstN (xs : List V) (i : Nat) : Prop := ∃ x, xs[i]? = some x ∧ accV x = none ∧ ∀ j, j < i → ∃ y, xs[j]? = some y ∧ (accV y).isSome = true
def ErP (CP : Addr) (E : XK) (H : Hp) (x : V) : Prop := ∀ H' d, Same H H' → H' d = some (.xd [(("line" : Str), x)]) → E (.ref CP) (some d) H'
def sp_read_book (K : PySem.W.Frag) (CP : Addr) : Sp := fun vs H Q E => ∃ (p : Addr) (xs : List V) (t : Bool), vs = [.ref p] ∧ Kd.Is K t H p xs ∧ xs.length ≤ 100 ∧ (∀ x ∈ xs, Itm K H x) ∧
  (∀ rs : List Rw, xs.map accV = rs.map some → ∀ H' v, Same H H' → Dt K H' v (.tuple (rs.map rowD)) → Q v H') ∧ (∀ i : Nat, FirstN xs i → ErP CP E H (.int (i : Nat)))
theorem dts_app {H : Hp} : ∀ {xs ys : List V} {ds es : List PyData}, Dts K H xs ds → Dts K H ys es → Dts K H (xs ++ ys) (ds ++ es)
  | _, _, _, _, .nil, h => h
  | _, _, _, _, .cons a b, h => .cons a (dts_app b h)
theorem accF_ok {x : Str} {r : Rw} (h : accF x = some r) : readF x = some r ∧ rend r = x := by
  unfold accF at h
  split at h
  · split at h
    · cases h
      rename_i g
      exact ⟨by assumption, g⟩
    · cases h
  · cases h
theorem ok_read_book (T : Txt K mg) : FnOk P w K mg base (L2.CX P w) 8 T.a_read_book T.d_read_book ["lines"] (sp_read_book K T.CP) := by
  refine T.F_read_book.okX sc_read_book (fun vs H Q E h => ?_) (fun cdv A outer s H vs Q E hr h => ?_)
  · obtain ⟨p, xs, t, rfl, _⟩ := h
    rfl
  · obtain ⟨p, xs, t, rfl, hx, l100, hit, k, kE⟩ := h
    refine ⟨_, (pss_cons (ps_set (i := 1) sc_read_book.nd rfl (Or.inl rfl) (pe_lst pa_nil))
      (pss_cons (ps_for (passes_of rfl) rfl (pi_or (pi_enum (by rfl) T.z_enumerate (pa_cons (pv 0) pa_nil)) (Es.pi_ent (by rfl) T.z_enumerate (pa_cons (pv 0) pa_nil))) (pg_tup rfl (pgs_cons (pg_name (i := 2) sc_read_book.nd rfl (Or.inl rfl)) (pgs_cons (pg_name (i := 3) sc_read_book.nd rfl (Or.inl rfl)) pgs_nil)))
        (pss_cons (ps_set (i := 4) sc_read_book.nd rfl (Or.inl rfl) (pe_ifExp (pt_val (pe_callB call_isi (by rfl) T.z_isinstance (by decide +kernel) (pa_cons (pv 3) (pa_cons (pe_bltn (v := V.ty "str") (by rfl) T.z_str (by decide +kernel) rfl) pa_nil)))) (pe_call (ok_read_row T) (hr.mono (by decide)) (by rfl) T.g_read_row T.F_read_row.kp T.b_read_row .nil pass0 (pa_cons (pv 3) pa_nil)) pe_non))
        (pss_cons (ps_if (PW.pt (pw_or (pt_cmpR op_isN (pv 4) pe_non (nomark _)) (pw_or1 (pt_cmpR op_ne (pe_call (ok_row_line T) (hr.mono (by decide)) (by rfl) T.g_row_line T.F_row_line.kp T.b_row_line .nil pass0 (pa_cons (pv 4) pa_nil)) (pv 3) (nomark _)))))
          (pss_one (ps_raiseLowP rfl T.lowP hr (takes_of rfl rfl rfl rfl) (by exact (pa_cons (pv 2) pa_nil))))
          pss_nil)
        (pss_one (ps_expr (pe_bm PySem.F.plainAttrs_list PySem.F.slot_list_append PySem.F.type_list_append mt_append (pv 1) (pa_cons (pv 4) pa_nil)))))))
      (pss_one (ps_ret (pe_callTy call_tuple_of (by rfl) T.z_tuple (by decide +kernel) (pa_cons (pv 1) pa_nil)))))), ?_⟩
    refine ⟨by show 0 ≤ sizeLine; decide, fun l hl => ?_⟩
    have sl := same_new (o := .lst []) hl
    have hl1 : upd H l (.lst []) l = some (.lst []) := upd_same
    generalize upd H l (.lst []) = H1 at sl hl1 ⊢
    cases t with
    | true =>
    refine .inr ⟨_, rfl, p, _, rfl, hx.keep sl, ?_⟩
    refine for_it Es.walk_ent (fun i σ B => ∃ (rs : List Rw) (us : List V) (v2 v3 v4 : Option V), σ = [some (.ref p), some (.ref l), v2, v3, v4] ∧ Same H B ∧ B l = some (.lst us) ∧ Dts K B us (rs.map rowD) ∧ rs.length = i ∧ (xs.take i).map accV = rs.map some) ⟨[], [], none, none, none, rfl, sl, hl1, .nil, rfl, rfl⟩ (fun i σ B _ hP => by obtain ⟨_, _, _, _, _, _, sB, _⟩ := hP; exact hx.keep sB) (fun i w σ B B' hi hP hY => ?_) (fun σ B hP => ?_)
    · obtain ⟨rs, us, v2, v3, v4, rfl, sB, hB, hd, lr, ea⟩ := hP
      obtain ⟨tp, x1, x2, rfl, htp, rfl, e1, e2⟩ := hY
      cases e1
      have e2 : xs[i]? = some x2 := e2
      have lu := hd.len
      rw [List.length_map] at lu
      have sT := same_new (o := .tup [.int (i : Nat), x2]) htp
      have hB1 := sT _ _ hB
      have hd1 := hd.ks sT
      have sB1 := sB.trans sT
      refine ⟨tp, _, rfl, SqT.of upd_same, rfl, _, _, rfl, _, _, rfl, rfl, ?_⟩
      generalize upd B tp (.tup [.int (i : Nat), x2]) = B1 at hB1 hd1 sB1 ⊢
      clear sT hB hd htp
      have first : accV x2 = none → FirstN xs i := fun h => ⟨x2, e2, h, fun j hj => by
        have : ((xs.take i).map accV)[j]? = (rs.map some)[j]? := by rw [ea]
        rw [List.getElem?_map, List.getElem?_map, List.getElem?_take_of_lt hj, List.getElem?_eq_getElem (by omega)] at this
        have hj2 : j < rs.length := by omega
        rw [List.getElem?_eq_getElem hj2] at this
        have this : some (accV xs[j]) = some (some rs[j]) := this
        exact ⟨_, List.getElem?_eq_getElem (by omega), by rw [Option.some.inj this]; rfl⟩⟩
      rcases hit x2 (List.mem_of_getElem? e2) with ⟨t, rfl, tl5⟩ | ⟨ns, d, ob⟩
      · refine ⟨_, rfl, _, _, _, _, true, rfl, .ty "str", .base (.str _), kit_ty (by decide +kernel), _, rfl, iteT ?_⟩
        refine ⟨_, rfl, t, rfl, tl5, fun H2 u s2 o2 => ?_⟩
        have sB2 := sB1.trans s2
        refine ⟨_, rfl, rfl, _, rfl, ?_⟩
        cases er : readF t with
        | none =>
          rw [er] at o2
          have o2 : u = .non := o2
          rw [decide_eq_true o2]
          refine iteT (iteT ?_)
          have an : accV (.str t) = none := by show accF t = none; unfold accF; rw [er]
          exact ⟨_, rfl, _, rfl, fun dd hdd => kE i (first an) _ dd (sB2.trans (same_new hdd)) upd_same⟩
        | some r =>
          rw [er] at o2
          obtain ⟨un, du⟩ := o2
          rw [decide_eq_false un]
          refine iteF ?_
          refine ⟨_, rfl, u, r, rfl, du, readF_ok er, fun H3 s3 => ⟨_, rfl, rfl, _, rfl, ?_⟩⟩
          have sB3 := sB2.trans s3
          by_cases c : rend r = t
          · rw [decide_eq_true (by rw [c])]
            refine iteF ?_
            have hB3 := s3 _ _ (s2 _ _ hB1)
            refine ⟨_, rfl, .inl ⟨rfl, _, SqL.of hB3⟩, _, rfl, l, us, _, rfl, rfl, hB3, small1000 (by omega), ?_⟩
            refine ⟨rs ++ [r], us ++ [u], _, _, _, rfl, same_mut sB3 hl, upd_same, ?_, by rw [List.length_append, lr]; rfl, ?_⟩
            · rw [List.map_append]
              exact (dts_app ((hd1.ks s2).ks s3) (.cons (du.ks s3) .nil)).k (Kt.lst hB3)
            · rw [take_succ_app e2, List.map_append, List.map_append, ea]
              have an : accV (.str t) = some r := by
                show accF t = some r
                unfold accF
                rw [er]
                exact if_pos c
              show _ ++ [accV (.str t)] = _
              rw [an]
              rfl
          · rw [decide_eq_false (fun z => c (V.str.inj z))]
            refine iteT ?_
            have an : accV (.str t) = none := by
              show accF t = none
              unfold accF
              rw [er]
              exact if_neg c
            exact ⟨_, rfl, _, rfl, fun dd hdd => kE i (first an) _ dd (sB3.trans (same_new hdd)) upd_same⟩
      · have ob1 := ob.keep sB1
        obtain ⟨n, b0, ty, k1, k2, _⟩ := tys_of ob1
        have an : accV x2 = none := by
          cases x2 with
          | str t => exact absurd rfl (ns t)
          | _ => rfl
        cases b0 with
        | true =>
          obtain ⟨t, et, _⟩ := k2 rfl
          exact absurd et (ns t)
        | false =>
          refine ⟨_, rfl, _, _, _, _, false, rfl, .ty "str", ty, k1, _, rfl, iteF ?_⟩
          refine ⟨_, rfl, rfl, _, rfl, ?_⟩
          rw [decide_eq_true rfl]
          refine iteT (iteT ?_)
          exact ⟨_, rfl, _, rfl, fun dd hdd => kE i (first an) _ dd (sB1.trans (same_new hdd)) upd_same⟩
    · obtain ⟨rs, us, v2, v3, v4, rfl, sB, hB, hd, lr, ea⟩ := hP
      rw [List.take_length] at ea
      refine ⟨_, rfl, l, us, rfl, .inl ⟨SqL.of hB, fun q hq => ?_⟩⟩
      have s2 := same_new (o := .tup us) hq
      exact k rs ea _ _ (sB.trans s2) (.tup (SqT.of upd_same) (hd.ks s2))
    | false =>
    refine .inl ⟨_, rfl, p, _, rfl, hx.keep sl, ?_⟩
    refine for_it walk_enum (fun i σ B => ∃ (rs : List Rw) (us : List V) (v2 v3 v4 : Option V), σ = [some (.ref p), some (.ref l), v2, v3, v4] ∧ Same H B ∧ B l = some (.lst us) ∧ Dts K B us (rs.map rowD) ∧ rs.length = i ∧ (xs.take i).map accV = rs.map some) ⟨[], [], none, none, none, rfl, sl, hl1, .nil, rfl, rfl⟩ (fun i σ B _ hP => by obtain ⟨_, _, _, _, _, _, sB, _⟩ := hP; exact hx.keep sB) (fun i w σ B B' hi hP hY => ?_) (fun σ B hP => ?_)
    · obtain ⟨rs, us, v2, v3, v4, rfl, sB, hB, hd, lr, ea⟩ := hP
      obtain ⟨tp, x1, x2, rfl, htp, rfl, e1, e2⟩ := hY
      cases e1
      have e2 : xs[i]? = some x2 := e2
      have lu := hd.len
      rw [List.length_map] at lu
      have sT := same_new (o := .tup [.int (i : Nat), x2]) htp
      have hB1 := sT _ _ hB
      have hd1 := hd.ks sT
      have sB1 := sB.trans sT
      refine ⟨tp, _, rfl, SqT.of upd_same, rfl, _, _, rfl, _, _, rfl, rfl, ?_⟩
      generalize upd B tp (.tup [.int (i : Nat), x2]) = B1 at hB1 hd1 sB1 ⊢
      clear sT hB hd htp
      have first : accV x2 = none → FirstN xs i := fun h => ⟨x2, e2, h, fun j hj => by
        have : ((xs.take i).map accV)[j]? = (rs.map some)[j]? := by rw [ea]
        rw [List.getElem?_map, List.getElem?_map, List.getElem?_take_of_lt hj, List.getElem?_eq_getElem (by omega)] at this
        have hj2 : j < rs.length := by omega
        rw [List.getElem?_eq_getElem hj2] at this
        have this : some (accV xs[j]) = some (some rs[j]) := this
        exact ⟨_, List.getElem?_eq_getElem (by omega), by rw [Option.some.inj this]; rfl⟩⟩
      rcases hit x2 (List.mem_of_getElem? e2) with ⟨t, rfl, tl5⟩ | ⟨ns, d, ob⟩
      · refine ⟨_, rfl, _, _, _, _, true, rfl, .ty "str", .base (.str _), kit_ty (by decide +kernel), _, rfl, iteT ?_⟩
        refine ⟨_, rfl, t, rfl, tl5, fun H2 u s2 o2 => ?_⟩
        have sB2 := sB1.trans s2
        refine ⟨_, rfl, rfl, _, rfl, ?_⟩
        cases er : readF t with
        | none =>
          rw [er] at o2
          have o2 : u = .non := o2
          rw [decide_eq_true o2]
          refine iteT (iteT ?_)
          have an : accV (.str t) = none := by show accF t = none; unfold accF; rw [er]
          exact ⟨_, rfl, _, rfl, fun dd hdd => kE i (first an) _ dd (sB2.trans (same_new hdd)) upd_same⟩
        | some r =>
          rw [er] at o2
          obtain ⟨un, du⟩ := o2
          rw [decide_eq_false un]
          refine iteF ?_
          refine ⟨_, rfl, u, r, rfl, du, readF_ok er, fun H3 s3 => ⟨_, rfl, rfl, _, rfl, ?_⟩⟩
          have sB3 := sB2.trans s3
          by_cases c : rend r = t
          · rw [decide_eq_true (by rw [c])]
            refine iteF ?_
            have hB3 := s3 _ _ (s2 _ _ hB1)
            refine ⟨_, rfl, .inl ⟨rfl, _, SqL.of hB3⟩, _, rfl, l, us, _, rfl, rfl, hB3, small1000 (by omega), ?_⟩
            refine ⟨rs ++ [r], us ++ [u], _, _, _, rfl, same_mut sB3 hl, upd_same, ?_, by rw [List.length_append, lr]; rfl, ?_⟩
            · rw [List.map_append]
              exact (dts_app ((hd1.ks s2).ks s3) (.cons (du.ks s3) .nil)).k (Kt.lst hB3)
            · rw [take_succ_app e2, List.map_append, List.map_append, ea]
              have an : accV (.str t) = some r := by
                show accF t = some r
                unfold accF
                rw [er]
                exact if_pos c
              show _ ++ [accV (.str t)] = _
              rw [an]
              rfl
          · rw [decide_eq_false (fun z => c (V.str.inj z))]
            refine iteT ?_
            have an : accV (.str t) = none := by
              show accF t = none
              unfold accF
              rw [er]
              exact if_neg c
            exact ⟨_, rfl, _, rfl, fun dd hdd => kE i (first an) _ dd (sB3.trans (same_new hdd)) upd_same⟩
      · have ob1 := ob.keep sB1
        obtain ⟨n, b0, ty, k1, k2, _⟩ := tys_of ob1
        have an : accV x2 = none := by
          cases x2 with
          | str t => exact absurd rfl (ns t)
          | _ => rfl
        cases b0 with
        | true =>
          obtain ⟨t, et, _⟩ := k2 rfl
          exact absurd et (ns t)
        | false =>
          refine ⟨_, rfl, _, _, _, _, false, rfl, .ty "str", ty, k1, _, rfl, iteF ?_⟩
          refine ⟨_, rfl, rfl, _, rfl, ?_⟩
          rw [decide_eq_true rfl]
          refine iteT (iteT ?_)
          exact ⟨_, rfl, _, rfl, fun dd hdd => kE i (first an) _ dd (sB1.trans (same_new hdd)) upd_same⟩
    · obtain ⟨rs, us, v2, v3, v4, rfl, sB, hB, hd, lr, ea⟩ := hP
      rw [List.take_length] at ea
      refine ⟨_, rfl, l, us, rfl, .inl ⟨SqL.of hB, fun q hq => ?_⟩⟩
      have s2 := same_new (o := .tup us) hq
      exact k rs ea _ _ (sB.trans s2) (.tup (SqT.of upd_same) (hd.ks s2))
end
end K83

namespace K83
open PySem L2 Wm TL Dv
section
variable {P : Program} {w : World} {K : PySem.W.Frag} {mg : Str → Option Value} {base : Heap}
theorem ite_q {b : Bool} {X Y : VK → Prop} {Q : VK} (R : V → Hp → Prop) (h1 : b = true → ∀ Q' : VK, (∀ v A, R v A → Q' v A) → X Q') (h2 : ¬ b = true → ∀ Q' : VK, (∀ v A, R v A → Q' v A) → Y Q') (k : ∀ v A, R v A → Q v A) : if b = true then X Q else Y Q := ite2 (fun c => h1 c Q k) (fun c => h2 c Q k)
theorem next_q {f : L2.St → Hp → Prop} {a b c} {σ : L2.St} {H : Hp} (h : f σ H) : tNext (Ends.mk f a b c) σ H := h
theorem asg_q {t : TE} {g : TG} {r : L2.TS} {D : Ends} {σ : L2.St} {H : Hp} (R : V → Hp → Prop) (h : ∀ Q' : VK, (∀ v A, R v A → Q' v A) → t σ H Q') (k : ∀ v A, R v A → g v σ A (fun τ B => r D τ B)) : tSeq (tAsg t g) r D σ H := h _ k
theorem gn_q {i : Nat} {v : V} {σ : L2.St} {H : Hp} {k : L2.St → Hp → Prop} (h : k (σ.set i (some v)) H) : gName i v σ H k := h
theorem if_q {c : TT} {t r : L2.TS} {D : Ends} {σ : L2.St} {H : Hp} (R : Hp → Prop) (h : ∀ Q' : Bool → Hp → Prop, (∀ A, R A → Q' false A) → c σ H Q') (k : ∀ A, R A → r D σ A) : tSeq (tIfS c t tNext) r D σ H := h _ fun A hA => by
  show (if false = true then _ else _)
  rw [if_neg Bool.false_ne_true]
  exact k A hA
theorem if1_q {c : TT} {t : L2.TS} {f : L2.St → Hp → Prop} {a b d} {σ : L2.St} {H : Hp} (R : Hp → Prop) (h : ∀ Q' : Bool → Hp → Prop, (∀ A, R A → Q' false A) → c σ H Q') (k : ∀ A, R A → f σ A) : tIfS c t tNext (Ends.mk f a b d) σ H := h _ fun A hA => by
  show (if false = true then _ else _)
  rw [if_neg Bool.false_ne_true]
  exact k A hA
theorem nx_q {f : L2.St → Hp → Prop} {a b c} {σ : L2.St} {H : Hp} (h : f σ H) : (Ends.mk f a b c).nx σ H := h
def Bu (p : Addr) (H H' : Hp) : Prop := ∀ q o, q ≠ p → H q = some o → H' q = some o
def Bk (H : Hp) (b : Addr) : Prop := ∃ x y : Int, H b = some (.lst [.int x, .int y]) ∧ 0 ≤ x ∧ 0 ≤ y ∧ y < 2147483648
theorem Bu.of {p : Addr} {H H' : Hp} (s : Same H H') : Bu p H H' := fun q o _ e => s q o e
theorem Bu.trans {p : Addr} {H H1 H2 : Hp} (a : Bu p H H1) (b : Bu p H1 H2) : Bu p H H2 := fun q o n e => b q o n (a q o n e)
theorem Bu.set {p : Addr} {H : Hp} {o : HO} : Bu p H (upd H p o) := fun q u n e => by rw [upd_ne n]; exact e
theorem Bu.kt {p : Addr} {H H' : Hp} {o : HO} (b : Bu p H H') (h : H p = some o) (n1 : ∀ xs, o ≠ .tup xs) (n2 : ∀ ob xs, o ≠ .frz ob (.tup xs)) : Kt K H H' := fun a xs q => by
  rcases q with (q | ⟨ob, q⟩) | q
  · exact .inl (.inl (b a _ (fun e => by subst e; rw [h] at q; exact n1 _ (Option.some.inj q)) q))
  · exact .inl (.inr ⟨ob, b a _ (fun e => by subst e; rw [h] at q; exact n2 _ _ (Option.some.inj q)) q⟩)
  · exact .inr q
theorem Bk.k {H H' : Hp} {b : Addr} (h : Bk H b) (s : Same H H') : Bk H' b := let ⟨x, y, a, c⟩ := h; ⟨x, y, s _ _ a, c⟩
theorem Bk.kt {H H' : Hp} {b : Addr} (h : Bk H b) (s : Bu b H H') : Kt K H H' := by
  obtain ⟨x, y, e, _⟩ := h
  exact s.kt e (fun _ e => by cases e) (fun _ _ e => by cases e)
theorem Bk.bu {H H' : Hp} {b p : Addr} (h : Bk H b) (s : Bu p H H') (n : b ≠ p) : Bk H' b := let ⟨x, y, a, c⟩ := h; ⟨x, y, s _ _ n a, c⟩
theorem Bu.new {p C : Addr} {A B : Hp} {o : HO} (h : Bu p A B) (f : A C = none) : Bu p A (upd B C o) := fun q u n e => by
  have : q ≠ C := fun z => by subst z; rw [f] at e; cases e
  rw [upd_ne this]
  exact h q u n e
theorem Bu.none {p C : Addr} {A B : Hp} (h : Bu p A B) (n : C ≠ p) (f : B C = none) : A C = none := by
  cases e : A C with
  | none => rfl
  | some o => rw [h _ _ n e] at f; cases f
def sp_bag (K : PySem.W.Frag) : Sp := fun vs H Q _ => ∃ (a : Addr) (ns : List Int) (i : Nat), vs = [.ref a, .int (i : Nat)] ∧ SqL K H a (ns.map V.int) ∧ ns.length ≤ 63 ∧ i ≤ 63 ∧ ∀ H' b, Same H H' → H b = none → Bk H' b → Q (.ref b) H'
def sp_take (K : PySem.W.Frag) : Sp := fun vs H Q _ => ∃ (b : Addr) (m : Nat), vs = [.ref b, .int (m : Nat)] ∧ Bk H b ∧ 0 < m ∧ m ≤ 1000000000 ∧ ∀ H' (d : Nat), d < m → Bu b H H' → Bk H' b → Q (.int (d : Nat)) H'
def sp_of (K : PySem.W.Frag) : Sp := fun vs H Q _ => ∃ (b l : Addr) (xs : List V), vs = [.ref b, .ref l] ∧ Bk H b ∧ l ≠ b ∧ H l = some (.lst xs) ∧ xs ≠ [] ∧ xs.length < 1000 ∧ ∀ H' v, v ∈ xs → Bu b H H' → Bk H' b → Q v H'
def sp_number (K : PySem.W.Frag) : Sp := fun vs H Q _ => ∃ (b : Addr), vs = [.ref b] ∧ Bk H b ∧ ∀ H' (n : Str), IsNum n → Bu b H H' → Bk H' b → Q (.str n) H'
def sp_crews (K : PySem.W.Frag) : Sp := fun vs H Q _ => ∃ (b : Addr), vs = [.ref b] ∧ Bk H b ∧ ∀ H' v a, CwOk a → Dt K H' v (iD a) → Bu b H H' → Bk H' b → Q v H'
def sp_row (K : PySem.W.Frag) : Sp := fun vs H Q _ => ∃ (b : Addr), vs = [.ref b] ∧ Bk H b ∧ ∀ H' v r, RwOk r → Dt K H' v (rowD r) → Bu b H H' → Bk H' b → Q v H'
theorem Bk.off {H : Hp} {b D : Addr} (h : Bk H b) (f : H D = none) : D ≠ b := let ⟨_, _, a, _⟩ := h; (ne_of_none a f).symm
theorem fmod_in {x l : Int} (h : 0 < l) : 0 ≤ x % l ∧ x % l < l := ⟨Int.emod_nonneg x (by omega), Int.emod_lt_of_pos x h⟩
theorem cut_some (ns : List Int) (hi : Option Int) : ∃ m, cutV (ns.map V.int) none hi = (ns.take m).map V.int := by
  refine ⟨HT.sIx (ns.map V.int).length (ns.map V.int).length hi - HT.sIx (ns.map V.int).length 0 none, ?_⟩
  unfold cutV
  rw [HT.sIx_none, List.drop_zero, List.map_take]
theorem ok_bag (T : Txt K mg) : FnOk P w K mg base CX0 1 T.a_bag T.d_bag ["_law_script", "_law_at"] (sp_bag K) := by
  refine T.F_bag.ok sc_bag (fun vs H Q E h => ?_) (fun cdv A outer s H vs Q E hr h => ?_)
  · obtain ⟨a, ns, i, rfl, _⟩ := h
    rfl
  · obtain ⟨a, ns, i, rfl, hS, hlen, hi, k⟩ := h
    refine ⟨_, (C8.pss_cut (ps_set (i := 2) sc_bag.nd rfl (Or.inl rfl) (pe_ifExp (pt_cmpR op_lt (pv 1) (pe_callB call_len_seq (by rfl) T.z_len PySem.boot_len (pa_cons (pv 0) pa_nil)) (nomark _)) (pe_ix ix_list (pv 0) (pv 1) (fun _ _ => rfl)) pe_int))
      (pss_cons (ps_set (i := 3) sc_bag.nd rfl (Or.inl rfl) (pe_op op_add (pe_op op_mul pe_int (pv 1)) pe_int))
      (pss_cons (ps_for PassesOwn.never rfl (pi_enum (by rfl) T.z_enumerate (pa_cons (pe_slice sl_list (pv 0) po_none (po_some pe_int)) pa_nil)) (pg_tup rfl (pgs_cons (pg_name (i := 4) sc_bag.nd rfl (Or.inl rfl)) (pgs_cons (pg_name (i := 5) sc_bag.nd rfl (Or.inl rfl)) pgs_nil)))
        (pss_one (ps_set (i := 3) sc_bag.nd rfl (Or.inl rfl) (pe_op op_mod (pe_callTy call_int1 (by rfl) T.z_int (by decide +kernel) (pa_cons (pe_op op_add (pe_op op_add (pe_op op_mul (pv 3) pe_int) (pe_op op_mod (pe_callTy call_int1 (by rfl) T.z_int (by decide +kernel) (pa_cons (pv 5) pa_nil)) pe_int)) (pe_op op_mul pe_int (pv 4))) pa_nil)) pe_int))))
      (pss_one (ps_ret (pe_lst (pa_cons (pe_ifExp (pt_cmpR op_ge (pe_callB call_abs (by rfl) T.z_abs (by decide +kernel) (pa_cons (pv 2) pa_nil)) (pe_op op_pow pe_int pe_int) (nomark _)) (pe_callB call_abs (by rfl) T.z_abs (by decide +kernel) (pa_cons (pv 2) pa_nil)) pe_int) (pa_cons (pv 3) pa_nil)))))))), ?_⟩
    refine ⟨fun σ A => ∃ z : Int, σ = [some (.ref a), some (.int (i : Nat)), some (.int z), none, none, none] ∧ A = H, ?_, ?_⟩
    · refine ⟨_, rfl, _, rfl, a, _, rfl, .inl hS, _, _, rfl, rfl, _, rfl, ite2 (fun c => ?_) (fun c => ?_)⟩
      · have c := of_decide_eq_true c
        rw [List.length_map] at c
        have hj : i < ns.length := by omega
        have g : (ns.map V.int)[i]? = some (.int ns[i]) := by rw [List.getElem?_map, List.getElem?_eq_getElem hj]; rfl
        exact ⟨_, rfl, _, rfl, a, _, _, _, rfl, rfl, hS, atI_nat g, _, rfl, rfl⟩
      · exact ⟨0, rfl, rfl⟩
    rintro σ A ⟨z, rfl, rfl⟩
    refine ⟨_, rfl, _, _, rfl, rfl, .inl ⟨by decide, by decide⟩, _, _, rfl, rfl, ?_⟩
    refine ⟨_, rfl, _, rfl, a, _, rfl, hS, fun p hp => ?_⟩
    obtain ⟨m, em⟩ := cut_some ns (some 60)
    rw [em]
    have hml : (ns.take m).length ≤ 63 := by rw [List.length_take]; omega
    generalize ns.take m = ms at hml
    have sp := same_new (o := .lst (ms.map V.int)) hp
    have hp1 : upd A p (.lst (ms.map V.int)) p = some (.lst (ms.map V.int)) := upd_same
    generalize upd A p (.lst (ms.map V.int)) = H1 at sp hp1 ⊢
    refine ⟨p, _, rfl, SqL.of hp1, ?_⟩
    have kB : ∀ B, Same H1 B → SqL K B p (ms.map V.int) := fun B q => SqL.of (q _ _ hp1)
    refine for_it walk_enum (fun j σ B => (∃ (x : Int) (v4 v5 : Option V), σ = [some (.ref a), some (.int (i : Nat)), some (.int z), some (.int x), v4, v5] ∧ 0 ≤ x ∧ x < 2147483648) ∧ Same H1 B)
      ⟨⟨_, none, none, rfl, by omega, by omega⟩, fun _ _ e => e⟩ (fun j σ B _ h => kB B h.2) (fun j w σ B B' hj hP hY => ?_) (fun σ B hP => ?_)
    · obtain ⟨⟨x, v4, v5, rfl, x0, x1⟩, sB⟩ := hP
      obtain ⟨tp, y1, y2, rfl, htp, rfl, e1, e2⟩ := hY
      cases e1
      have e2 : (ms.map V.int)[j]? = some y2 := e2
      rw [List.getElem?_map] at e2
      obtain ⟨n, en, rfl⟩ := Option.map_eq_some_iff.mp e2
      have hjm := (List.getElem?_eq_some_iff.mp en).1
      have sC := sB.trans (same_new (o := .tup [.int (j : Nat), .int n]) htp)
      refine ⟨tp, _, rfl, SqT.of upd_same, rfl, _, _, rfl, _, _, rfl, rfl, ?_⟩
      refine ⟨_, rfl, _, _, rfl, rfl, .inr ⟨by decide, by decide⟩, ?_⟩
      refine ⟨_, rfl, .inl ⟨_, rfl, _, _, rfl, rfl, (by decide : (0 : Int) < 2147483587), ?_⟩⟩
      refine ⟨_, _, rfl, rfl, ?_⟩
      refine ⟨_, rfl, _, _, rfl, rfl, .inl ⟨by decide, by decide⟩, ?_⟩
      refine ⟨_, _, rfl, rfl, .inl ⟨_, rfl, _, _, rfl, rfl, (by decide : (0 : Int) < 2147483629), ?_⟩⟩
      have := fmod_in (x := x * 48271 + n % 2147483587 + 613 * (j : Nat)) (l := 2147483629) (by decide)
      exact ⟨⟨_, _, _, rfl, this.1, by omega⟩, sC⟩
    · obtain ⟨⟨x, v4, v5, rfl, x0, x1⟩, sB⟩ := hP
      have c10 : (10 : Int) ^ Int.toNat 18 = 1000000000000000000 := by decide +kernel
      refine ⟨_, rfl, _, rfl, _, _, rfl, rfl, ⟨by decide, by decide, by decide +kernel⟩, _, _, rfl, rfl, _, rfl, ite2 (fun c => ?_) (fun c => ?_)⟩
      · refine ⟨_, rfl, _, rfl, _, rfl, by show 2 ≤ sizeLine; decide, fun b hb => ?_⟩
        exact k _ b ((sp.trans sB).trans (same_new hb)) (none_of ((sp.trans sB)) hb) ⟨_, _, upd_same, by split <;> omega, x0, x1⟩
      · refine ⟨_, rfl, by show 2 ≤ sizeLine; decide, fun b hb => ?_⟩
        exact k _ b ((sp.trans sB).trans (same_new hb)) (none_of ((sp.trans sB)) hb) ⟨_, _, upd_same, by decide, x0, x1⟩
theorem ok_take (T : Txt K mg) : FnOk P w K mg base CX0 1 T.a_take T.d_take ["_law_bag_here", "_law_many"] (sp_take K) := by
  refine T.F_take.ok sc_take (fun vs H Q E h => ?_) (fun cdv A outer s H vs Q E hr h => ?_)
  · obtain ⟨b, m, rfl, _⟩ := h
    rfl
  · obtain ⟨b, m, rfl, ⟨x, y, hb, x0, y0, y1⟩, m0, m1, k⟩ := h
    have l0 : (0 : Int) < (m : Nat) := by omega
    refine ⟨_, (pss_cons (ps_if (pt_cmpR op_gt (pe_ix ix_list (pv 0) pe_int (fun _ _ => rfl)) pe_int (nomark _))
        (pss_cons (ps_set (i := 2) sc_take.nd rfl (Or.inl rfl) (pe_op op_mod (pe_callTy call_int1 (by rfl) T.z_int (by decide +kernel) (pa_cons (pe_ix ix_list (pv 0) pe_int (fun _ _ => rfl)) pa_nil)) (pv 1)))
        (pss_cons (ps_asg (pe_op op_fdivW (pe_ix ix_list (pv 0) pe_int (fun _ _ => rfl)) (pv 1)) (pg_sub (pv 0) pe_int set_list))
        (pss_one (ps_ret (pv 2)))))
        pss_nil)
      (pss_cons (ps_asg (pe_op op_mod (pe_callTy call_int1 (by rfl) T.z_int (by decide +kernel) (pa_cons (pe_op op_add (pe_op op_mul (pe_ix ix_list (pv 0) pe_int (fun _ _ => rfl)) pe_int) pe_int) pa_nil)) pe_int) (pg_sub (pv 0) pe_int set_list))
      (pss_one (ps_ret (pe_op op_mod (pe_op op_fdivW (pe_op op_mod (pe_callTy call_int1 (by rfl) T.z_int (by decide +kernel) (pa_cons (pe_op op_mul (pe_op op_fdivW (pe_ix ix_list (pv 0) pe_int (fun _ _ => rfl)) pe_int) pe_int) pa_nil)) pe_int) pe_int) (pv 1)))))), ?_⟩
    refine ⟨_, rfl, b, _, 0, _, rfl, rfl, SqL.of hb, atI_nat (j := 0) rfl, _, _, rfl, rfl, _, rfl, ite2 (fun c => ?_) (fun c => ?_)⟩
    · refine ⟨_, rfl, b, _, 0, _, rfl, rfl, SqL.of hb, atI_nat (j := 0) rfl, .inl ⟨_, rfl, ?_⟩⟩
      refine ⟨_, rfl, _, _, rfl, rfl, l0, ?_⟩
      refine ⟨_, rfl, b, _, 0, _, rfl, rfl, SqL.of hb, atI_nat (j := 0) rfl, _, rfl, _, _, rfl, rfl, wide_div l0 (b := 100) (by omega) (by decide) (by decide), ?_⟩
      refine ⟨_, rfl, b, _, 0, 0, rfl, rfl, hb, rfl, ?_⟩
      obtain ⟨d, ed⟩ : ∃ d : Nat, x % (m : Nat) = (d : Nat) := ⟨(x % (m : Nat)).toNat, by have := (fmod_in (x := x) l0).1; omega⟩
      have hd := (fmod_in (x := x) l0).2
      refine ⟨_, rfl, ?_⟩
      (try dsimp only)
      rw [ed] at hd ⊢
      exact k _ d (by omega) Bu.set ⟨_, _, upd_same, Int.ediv_nonneg x0 (by omega), y0, y1⟩
    · refine ⟨_, rfl, b, _, 1, _, rfl, rfl, SqL.of hb, atI_nat (j := 1) rfl, _, _, rfl, rfl, .inr ⟨by decide, by decide⟩, _, _, rfl, rfl, .inl ⟨_, rfl, ?_⟩⟩
      refine ⟨_, _, rfl, rfl, (by decide : (0 : Int) < 2147483399), ?_⟩
      refine ⟨_, rfl, b, _, 1, 1, rfl, rfl, hb, rfl, ?_⟩
      have z0 := fmod_in (x := y * 40692 + 70001) (l := 2147483399) (by decide)
      dsimp only
      generalize (y * 40692 + 70001) % 2147483399 = z at z0 ⊢
      refine ⟨_, rfl, b, _, 1, _, rfl, rfl, SqL.of upd_same, atI_nat (j := 1) rfl, _, _, rfl, rfl, wide_div (by decide) (b := 100) (by decide) (by decide) (by decide), ?_⟩
      have q0 : 0 ≤ z / 13 ∧ z / 13 < 2147483648 := ⟨Int.ediv_nonneg z0.1 (by decide), by omega⟩
      refine ⟨_, _, rfl, rfl, .inr ⟨by decide, by decide⟩, ?_⟩
      refine .inl ⟨_, rfl, _, _, rfl, rfl, (by decide : (0 : Int) < 2147483647), ?_⟩
      have r0 := fmod_in (x := z / 13 * 39373) (l := 2147483647) (by decide)
      dsimp only
      generalize z / 13 * 39373 % 2147483647 = u at r0 ⊢
      refine ⟨_, _, rfl, rfl, wide_div (by decide) (b := 100) (by decide) (by decide) (by decide), ?_⟩
      obtain ⟨d, ed⟩ : ∃ d : Nat, u / 32 % (m : Nat) = (d : Nat) := ⟨(u / 32 % (m : Nat)).toNat, by have := (fmod_in (x := u / 32) l0).1; omega⟩
      have hd := (fmod_in (x := u / 32) l0).2
      refine ⟨_, rfl, _, _, rfl, rfl, l0, ?_⟩
      (try dsimp only)
      rw [ed] at hd ⊢
      exact k _ d (by omega) Bu.set ⟨_, _, upd_same, x0, z0.1, by omega⟩
theorem dig_log {d : Nat} (h : 1 ≤ d ∧ d ≤ 9) : ((d : Int)).natAbs.log2 < 1920 := by
  rcases dig_cases h with e | e | e | e | e | e | e | e | e <;> subst e <;> decide +kernel
theorem sum_snoc (ds : List Nat) (d : Nat) : (ds ++ [d]).sum = ds.sum + d := by
  rw [List.sum_append]
  simp
theorem len_snoc (ds : List Nat) (d : Nat) : (ds ++ [d]).length = ds.length + 1 := by simp
theorem dig_snoc {ds : List Nat} {d : Nat} (h : ∀ y ∈ ds, 1 ≤ y ∧ y ≤ 9) (g : 1 ≤ d ∧ d ≤ 9) : ∀ y ∈ ds ++ [d], 1 ≤ y ∧ y ≤ 9 := fun y m => by
  rcases List.mem_append.mp m with m | m
  · exact h y m
  · rw [List.mem_singleton.mp m]
    exact g
theorem ok_of (T : Txt K mg) : FnOk P w K mg base CX0 2 T.a_of T.d_of ["_law_bag_here", "_law_some_here"] (sp_of K) := by
  refine T.F_of.ok sc_of (fun vs H Q E h => ?_) (fun cdv A outer s H vs Q E hr h => ?_)
  · obtain ⟨b, l, xs, rfl, _⟩ := h
    rfl
  · obtain ⟨b, l, xs, rfl, hb, nlb, hl, ne, few, k⟩ := h
    have l0 : 0 < xs.length := by cases xs with | nil => exact absurd rfl ne | cons x t => exact Nat.succ_pos _
    refine ⟨_, (pss_one (ps_ret (pe_ix ix_list (pv 1) (pe_call (ok_take T) (hr.mono (by decide)) (by rfl) T.g_take T.F_take.kp T.b_take .nil pass0 (pa_cons (pv 0) (pa_cons (pe_callB call_len_seq (by rfl) T.z_len PySem.boot_len (pa_cons (pv 1) pa_nil)) pa_nil))) (fun _ _ => rfl)))), ?_⟩
    refine ⟨_, rfl, _, rfl, _, rfl, l, _, rfl, .inl (SqL.of hl), b, xs.length, rfl, hb, l0, by omega, fun H' d hd bu hb' => ?_⟩
    have hl' := bu _ _ nlb hl
    obtain ⟨v, ev⟩ : ∃ v, xs[d]? = some v := ⟨_, List.getElem?_eq_getElem hd⟩
    exact ⟨l, _, _, _, rfl, rfl, SqL.of hl', atI_nat ev, k _ v (List.mem_of_getElem? ev) bu hb'⟩
theorem ok_number (T : Txt K mg) : FnOk P w K mg base CX0 2 T.a_number T.d_number ["_law_bag_here"] (sp_number K) := by
  refine T.F_number.ok sc_number (fun vs H Q E h => ?_) (fun cdv A outer s H vs Q E hr h => ?_)
  · obtain ⟨b, rfl, _⟩ := h
    rfl
  · obtain ⟨b, rfl, hb, k⟩ := h
    refine ⟨_, (pss_cons (ps_asg (pe_tup (pa_cons pe_str (pa_cons pe_int pa_nil))) (pg_tup rfl (pgs_cons (pg_name (i := 1) sc_number.nd rfl (Or.inl rfl)) (pgs_cons (pg_name (i := 2) sc_number.nd rfl (Or.inl rfl)) pgs_nil))))
      (pss_cons (ps_for PassesOwn.never rfl (pi_range1 (by rfl) T.z_range (pa_cons (pe_op op_add pe_int (pe_call (ok_take T) (hr.mono (by decide)) (by rfl) T.g_take T.F_take.kp T.b_take .nil pass0 (pa_cons (pv 0) (pa_cons pe_int pa_nil)))) pa_nil)) (pg_name (i := 3) sc_number.nd rfl (Or.inl rfl))
        (pss_cons (ps_set (i := 4) sc_number.nd rfl (Or.inl rfl) (pe_op op_add pe_int (pe_call (ok_take T) (hr.mono (by decide)) (by rfl) T.g_take T.F_take.kp T.b_take .nil pass0 (pa_cons (pv 0) (pa_cons (pe_callB (call_max2 rfl) (by rfl) T.z_max (by decide +kernel) (pa_cons pe_int (pa_cons (pe_callB (call_min2 rfl) (by rfl) T.z_min (by decide +kernel) (pa_cons pe_int (pa_cons (pe_op op_sub (pv 2) pe_int) pa_nil))) pa_nil))) pa_nil)))))
        (pss_one (ps_par (i := 1) (j := 2) rfl sc_number.nd rfl rfl (by decide) rfl rfl (pa_cons (pe_op op_add_str (pv 1) (pe_callTy call_str_int (by rfl) T.z_str (by decide +kernel) (pa_cons (pv 4) pa_nil))) (pa_cons (pe_op op_sub (pv 2) (pv 4)) pa_nil)) rfl))))
      (pss_one (ps_ret (pv 1))))), ?_⟩
    refine ⟨by show 2 ≤ sizeLine; decide, fun p0 hp0 => ?_⟩
    have s0 := same_new (o := .tup [.str "", .int 24]) hp0
    refine ⟨p0, _, rfl, SqT.of upd_same, rfl, _, _, rfl, _, _, rfl, rfl, ?_⟩
    generalize upd H p0 (.tup [.str "", .int 24]) = H0 at s0 ⊢
    have hb0 := hb.k s0
    refine ⟨_, rfl, b, 4, rfl, hb0, by decide, by decide, fun H1 d0 hd0 bu1 hb1 => ?_⟩
    refine ⟨_, _, rfl, rfl, ?_⟩
    obtain ⟨many, em, m1, m4⟩ : ∃ many : Nat, (1 : Int) + (d0 : Nat) = (many : Nat) ∧ 1 ≤ many ∧ many ≤ 4 := ⟨1 + d0, by omega, by omega, by omega⟩
    refine ⟨_, congrArg (fun z => [V.int z]) em, by omega, by omega, ?_⟩
    rw [Int.toNat_natCast]
    have bu1 := (Bu.of s0).trans bu1
    refine for_range (fun i σ H' => ∃ (ds : List Nat) (v3 v4 : Option V), σ = [some (.ref b), some (.str (numS ds)), some (.int (24 - (ds.sum : Nat))), v3, v4] ∧
      ds.length = i ∧ (∀ d ∈ ds, 1 ≤ d ∧ d ≤ 9) ∧ ds.sum ≤ 20 + ds.length ∧ Bk H' b ∧ Bu b H H')
      ⟨[], none, none, by rw [numS_nil]; rfl, rfl, (fun _ m => absurd m (List.not_mem_nil)), by decide, hb1, bu1⟩ (fun i σ H' hi hP => ?_) (fun σ H' hP => ?_)
    · obtain ⟨ds, v3, v4, rfl, el, hd, hs, hb2, bu2⟩ := hP
      obtain ⟨lim, eq1, l1, l9, ls⟩ : ∃ lim : Nat, (if (if ((24 : Int) - (ds.sum : Nat)) - 4 < 9 then ((24 : Int) - (ds.sum : Nat)) - 4 else 9) > 1 then (if ((24 : Int) - (ds.sum : Nat)) - 4 < 9 then ((24 : Int) - (ds.sum : Nat)) - 4 else 9) else 1) = (lim : Nat) ∧ 1 ≤ lim ∧ lim ≤ 9 ∧ (ds.sum + lim ≤ 20 ∨ lim = 1) := by
        refine ⟨if 20 - ds.sum < 2 then 1 else if 20 - ds.sum < 9 then 20 - ds.sum else 9, ?_, ?_, ?_, ?_⟩
        all_goals repeat' split
        all_goals omega
      refine ⟨_, rfl, _, rfl, _, _, rfl, rfl, _, _, rfl, _, _, rfl, b, lim, congrArg (fun z => [V.ref b, V.int z]) eq1, hb2, by omega, by omega, fun H3 g hg bu3 hb3 => ?_⟩
      refine ⟨_, _, rfl, rfl, ?_⟩
      obtain ⟨d, ed, hd9, hds⟩ : ∃ d : Nat, (1 : Int) + (g : Nat) = (d : Nat) ∧ (1 ≤ d ∧ d ≤ 9) ∧ ds.sum + d ≤ 20 + (ds.length + 1) := ⟨1 + g, by omega, by omega, by omega⟩
      (try dsimp only)
      rw [ed]
      refine ⟨_, rfl, _, rfl, _, rfl, dig_log hd9, _, _, rfl, rfl, ?_, _, rfl, _, rfl, _, _, rfl, rfl, _, _, rfl, ?_⟩
      · rw [dig_str hd9, numS_len, numS_len]
        exact Nat.le_of_lt (small1000 (by show ds.length + 1 ≤ 1000; omega))
      rw [dig_str hd9, numS_app]
      have e3 : (24 : Int) - (ds.sum : Nat) - (d : Nat) = 24 - ((ds ++ [d]).sum : Nat) := by rw [sum_snoc]; omega
      exact ⟨ds ++ [d], some (.int (0 + (i : Nat))), some (.int (d : Nat)), by rw [← e3]; rfl, by rw [len_snoc, el], dig_snoc hd hd9, by rw [sum_snoc, len_snoc]; omega, hb3, bu2.trans bu3⟩
    · obtain ⟨ds, v3, v4, rfl, el, hd, hs, hb2, bu2⟩ := hP
      exact ⟨_, rfl, k _ _ ⟨ds, ⟨by omega, by omega, hd, by omega⟩, rfl⟩ bu2 hb2⟩
theorem ok_crews (T : Txt K mg) : FnOk P w K mg base CX0 3 T.a_crews T.d_crews ["_law_bag_here"] (sp_crews K) := by
  refine T.F_crews.ok sc_crews (fun vs H Q E h => ?_) (fun cdv A outer s H vs Q E hr h => ?_)
  · obtain ⟨b, rfl, _⟩ := h
    rfl
  · obtain ⟨b, rfl, hb, k⟩ := h
    refine ⟨_, (pss_one (ps_ret (pe_callTy call_tuple_of (by rfl) T.z_tuple (by decide +kernel) (pa_cons (pe_lc (own := [("_law_k", 1)]) (g := gName 1) (tt := tYes) rfl sc_crews.nd (pi_range1 (by rfl) T.z_range (pa_cons (pe_call (ok_of T) (hr.mono (by decide)) (by rfl) T.g_of T.F_of.kp T.b_of .nil pass0 (pa_cons (pv 0) (pa_cons (pe_lst (pa_cons pe_int (pa_cons pe_int (pa_cons pe_int (pa_cons pe_int (pa_cons pe_int (pa_cons pe_int pa_nil))))))) pa_nil))) pa_nil)) (blkOk_by (own := [("_law_k", 1)]) (N := nm_crews) (sc := (defScope s_crews)) (by decide +kernel)) (fun _ _ _ _ _ => pg_name (i := 1) sc_crews.nd rfl (Or.inl rfl)) (fun _ _ _ _ _ => pts_nil) (fun _ _ _ _ _ => (pe_call (ok_take T) (hr.mono (by decide)) (by rfl) T.g_take T.F_take.kp T.b_take .nil pass0 (pa_cons (pv 0) (pa_cons pe_int pa_nil))))) pa_nil)))), ?_⟩
    refine ⟨_, rfl, by show 6 ≤ sizeLine; decide, fun L hL => ?_⟩
    have sL := same_new (o := .lst [.int 0, .int 1, .int 1, .int 2, .int 3, .int 6]) hL
    refine ⟨b, L, _, rfl, hb.k sL, hb.off hL, upd_same, List.cons_ne_nil _ _, by decide, fun H1 v mv bu1 hb1 => ?_⟩
    obtain ⟨n, rfl, n6⟩ : ∃ n : Nat, v = .int (n : Nat) ∧ n ≤ 6 := by
      simp only [List.mem_cons, List.not_mem_nil, or_false] at mv
      rcases mv with rfl | rfl | rfl | rfl | rfl | rfl
      · exact ⟨0, rfl, by decide⟩
      · exact ⟨1, rfl, by decide⟩
      · exact ⟨1, rfl, by decide⟩
      · exact ⟨2, rfl, by decide⟩
      · exact ⟨3, rfl, by decide⟩
      · exact ⟨6, rfl, by decide⟩
    have bu1 := (Bu.of sL).trans bu1
    refine ⟨_, rfl, by omega, by omega, fun D hD => ?_⟩
    rw [Int.toNat_natCast]
    have nDb := hb1.off hD
    refine lc_range (fun j B => Bu b H1 B ∧ Bk B b ∧ ∃ a : List Nat, a.length = j ∧ (∀ x ∈ a, x ≤ 5) ∧ B D = some (.lst (nV a))) ⟨(fun _ _ _ e => same_new hD _ _ e), hb1.k (same_new hD), [], rfl, (fun _ m => by cases m), upd_same⟩ (fun j B hj hP => ?_) (fun B hP => ?_)
    · obtain ⟨buB, hbB, a, la, a5, hDB⟩ := hP
      refine ⟨rfl, yesT ⟨_, rfl, b, 6, rfl, hbB, by decide, by decide, fun H2 d hd bu2 hb2 => ?_⟩⟩
      have hD2 := bu2 _ _ nDb hDB
      refine ⟨_, hD2, by unfold nV; rw [List.length_map]; exact small1000 (by omega), (buB.trans bu2).new hD, hb2.bu (Bu.set (p := D)) (fun z => nDb z.symm), a ++ [d], by rw [List.length_append, la]; rfl, fun x mx => ?_, by rw [upd_same]; unfold nV; rw [List.map_append]; rfl⟩
      rcases List.mem_append.mp mx with mx | mx
      · exact a5 x mx
      · rw [List.mem_singleton.mp mx]; omega
    · obtain ⟨buB, hbB, a, la, a5, hDB⟩ := hP
      refine ⟨D, _, rfl, .inl ⟨SqL.of hDB, fun q hq => ?_⟩⟩
      have sq := same_new (o := .tup (nV a)) hq
      exact k _ _ a ⟨by omega, a5⟩ (.tup (SqT.of upd_same) (dts_nV a)) ((bu1.trans buB).trans (Bu.of sq)) (hbB.k sq)
theorem ok_row (T : Txt K mg) : FnOk P w K mg base CX0 4 T.a_row T.d_row ["_law_bag_here"] (sp_row K) := by
  refine T.F_row.ok sc_row (fun vs H Q E h => ?_) (fun cdv A outer s H vs Q E hr h => ?_)
  · obtain ⟨b, rfl, _⟩ := h
    rfl
  · obtain ⟨b, rfl, hb, k⟩ := h
    refine ⟨_, (pss_cons (ps_set (i := 1) sc_row.nd rfl (Or.inl rfl) (pe_call (ok_take T) (hr.mono (by decide)) (by rfl) T.g_take T.F_take.kp T.b_take .nil pass0 (pa_cons (pv 0) (pa_cons (pe_call (ok_of T) (hr.mono (by decide)) (by rfl) T.g_of T.F_of.kp T.b_of .nil pass0 (pa_cons (pv 0) (pa_cons (pe_lst (pa_cons pe_int (pa_cons pe_int (pa_cons pe_int (pa_cons pe_int (pa_cons pe_int (pa_cons pe_int (pa_cons pe_int pa_nil)))))))) pa_nil))) pa_nil))))
      (pss_cons (ps_par (i := 2) (j := 3) rfl sc_row.nd rfl rfl (by decide) rfl rfl (pa_cons (pe_call (ok_of T) (hr.mono (by decide)) (by rfl) T.g_of T.F_of.kp T.b_of .nil pass0 (pa_cons (pv 0) (pa_cons (pe_lst (pa_cons pe_str (pa_cons pe_str (pa_cons pe_str pa_nil)))) pa_nil))) (pa_cons (pe_call (ok_number T) (hr.mono (by decide)) (by rfl) T.g_number T.F_number.kp T.b_number .nil pass0 (pa_cons (pv 0) pa_nil)) pa_nil)) rfl)
      (pss_cons (ps_if (pt_cmpR op_eq (pv 2) pe_str (nomark _))
        (pss_one (ps_ret (pe_tup (pa_cons (pv 2) (pa_cons (pv 1) (pa_cons (pv 3) (pa_cons (pe_call (ok_crews T) (hr.mono (by decide)) (by rfl) T.g_crews T.F_crews.kp T.b_crews .nil pass0 (pa_cons (pv 0) pa_nil)) (pa_cons (pe_call (ok_crews T) (hr.mono (by decide)) (by rfl) T.g_crews T.F_crews.kp T.b_crews .nil pass0 (pa_cons (pv 0) pa_nil)) pa_nil))))))))
        pss_nil)
      (pss_cons (ps_set (i := 4) sc_row.nd rfl (Or.inl rfl) (pe_ifExp (pt_cmpR op_eq (pv 2) pe_str (nomark _)) pe_int (pe_op op_add pe_int (pe_call (ok_take T) (hr.mono (by decide)) (by rfl) T.g_take T.F_take.kp T.b_take .nil pass0 (pa_cons (pv 0) (pa_cons pe_int pa_nil))))))
      (pss_cons (ps_set (i := 5) sc_row.nd rfl (Or.inl rfl) (pe_callTy call_tuple_of (by rfl) T.z_tuple (by decide +kernel) (pa_cons (pe_lc (own := [("_law_k", 6)]) (g := gName 6) (tt := tYes) rfl sc_row.nd (pi_range1 (by rfl) T.z_range (pa_cons (pe_call (ok_of T) (hr.mono (by decide)) (by rfl) T.g_of T.F_of.kp T.b_of .nil pass0 (pa_cons (pv 0) (pa_cons (pe_lst (pa_cons pe_int (pa_cons pe_int (pa_cons pe_int (pa_cons pe_int pa_nil))))) pa_nil))) pa_nil)) (blkOk_by (own := [("_law_k", 6)]) (N := nm_row) (sc := (defScope s_row)) (by decide +kernel)) (fun _ _ _ _ _ => pg_name (i := 6) sc_row.nd rfl (Or.inl rfl)) (fun _ _ _ _ _ => pts_nil) (fun _ _ _ _ _ => (pe_tup (pa_cons (pe_call (ok_take T) (hr.mono (by decide)) (by rfl) T.g_take T.F_take.kp T.b_take .nil pass0 (pa_cons (pv 0) (pa_cons pe_int pa_nil))) (pa_cons (pe_call (ok_take T) (hr.mono (by decide)) (by rfl) T.g_take T.F_take.kp T.b_take .nil pass0 (pa_cons (pv 0) (pa_cons pe_int pa_nil))) pa_nil))))) pa_nil)))
      (pss_one (ps_ret (pe_tup (pa_cons (pv 2) (pa_cons (pv 1) (pa_cons (pv 3) (pa_cons (pv 4) (pa_cons (pe_call (ok_crews T) (hr.mono (by decide)) (by rfl) T.g_crews T.F_crews.kp T.b_crews .nil pass0 (pa_cons (pv 0) pa_nil)) (pa_cons (pv 5) (pa_cons (pe_call (ok_take T) (hr.mono (by decide)) (by rfl) T.g_take T.F_take.kp T.b_take .nil pass0 (pa_cons (pv 0) (pa_cons pe_int pa_nil))) pa_nil))))))))))))))), ?_⟩
    refine ⟨_, rfl, _, rfl, by show 7 ≤ sizeLine; decide, fun L hL => ?_⟩
    have sL := same_new (o := .lst [.int 10, .int 100, .int 1000, .int 100000, .int 1000000, .int 10000000, .int 1000000000]) hL
    refine ⟨b, L, _, rfl, hb.k sL, hb.off hL, upd_same, List.cons_ne_nil _ _, by show 7 < 1000; decide, fun H1 v mv bu1 hb1 => ?_⟩
    obtain ⟨n, rfl, n1, n9⟩ : ∃ n : Nat, v = .int (n : Nat) ∧ 1 ≤ n ∧ n ≤ 1000000000 := by
      simp only [List.mem_cons, List.not_mem_nil, or_false] at mv
      rcases mv with rfl | rfl | rfl | rfl | rfl | rfl | rfl
      · exact ⟨10, rfl, by decide, by decide⟩
      · exact ⟨100, rfl, by decide, by decide⟩
      · exact ⟨1000, rfl, by decide, by decide⟩
      · exact ⟨100000, rfl, by decide, by decide⟩
      · exact ⟨1000000, rfl, by decide, by decide⟩
      · exact ⟨10000000, rfl, by decide, by decide⟩
      · exact ⟨1000000000, rfl, by decide, by decide⟩
    have bu1 := (Bu.of sL).trans bu1
    refine ⟨b, n, rfl, hb1, by omega, n9, fun H2 tk htk bu2 hb2 => ?_⟩
    have bu2 := bu1.trans bu2
    have t9 : tk < 10 ^ 9 := by have : (10 : Nat) ^ 9 = 1000000000 := by decide
                                omega
    clear bu1 hb1 sL mv
    refine ⟨_, rfl, by show 3 ≤ sizeLine; decide, fun L2 hL2 => ?_⟩
    have sL := same_new (o := .lst [.str "call", .str "more", .str "back"]) hL2
    refine ⟨b, L2, _, rfl, hb2.k sL, hb2.off hL2, upd_same, List.cons_ne_nil _ _, by show 3 < 1000; decide, fun H3 v mv bu3 hb3 => ?_⟩
    have bu3 := (bu2.trans (Bu.of sL)).trans bu3
    refine ⟨_, rfl, b, rfl, hb3, fun H4 nm hn bu4 hb4 => ⟨_, _, rfl, ?_⟩⟩
    have bu4 := bu3.trans bu4
    clear bu2 hb2 sL bu3 hb3 hL hL2
    have hv : v = .str "back" ∨ ∃ m : Bool, v = .str (wordS m) := by
      simp only [List.mem_cons, List.not_mem_nil, or_false] at mv
      rcases mv with rfl | rfl | rfl
      · exact .inr ⟨false, rfl⟩
      · exact .inr ⟨true, rfl⟩
      · exact .inl rfl
    rcases hv with rfl | ⟨m, rfl⟩
    · refine ⟨_, rfl, rfl, _, rfl, ?_⟩
      rw [decide_eq_true rfl]
      refine iteT ?_
      refine ⟨_, rfl, _, rfl, _, rfl, _, rfl, b, rfl, hb4, fun H5 v1 a1 ok1 d1 bu5 hb5 => ⟨_, rfl, b, rfl, hb5, fun H6 v2 a2 ok2 d2 bu6 hb6 => ⟨by show 5 ≤ sizeLine; decide, fun q hq => ?_⟩⟩⟩
      have s6 := same_new (o := .tup [.str "back", .int (tk : Nat), .str nm, v1, v2]) hq
      exact k _ _ (.back tk nm a1 a2) ⟨t9, hn, ok1, ok2⟩ (.tup (SqT.of upd_same) (.cons (.str _) (.cons (.int _) (.cons (.str _) (.cons ((d1.k (hb5.kt bu6)).ks s6) (.cons (d2.ks s6) .nil)))))) (((bu4.trans bu5).trans bu6).trans (Bu.of s6)) (hb6.k s6)
    · refine ⟨_, rfl, rfl, _, rfl, ?_⟩
      rw [word_ne m]
      refine iteF ?_
      refine next_q ?_
      refine asg_q (fun v A => ∃ g : Nat, v = .int (g : Nat) ∧ (m = false → g = 1) ∧ (m = true → g = 2 ∨ g = 3) ∧ Bu b H4 A ∧ Bk A b) (fun Q' kq => ?_) (fun v A hv => ?_)
      · refine ⟨_, rfl, rfl, _, rfl, ?_⟩
        cases m with
        | false =>
          have e : decide (V.str (wordS false) = V.str "call") = true := decide_eq_true rfl
          rw [e]
          exact iteT (kq _ _ ⟨1, rfl, fun _ => rfl, (fun z => by cases z), fun _ _ _ e => e, hb4⟩)
        | true =>
          have e : decide (V.str (wordS true) = V.str "call") = false := by decide +kernel
          rw [e]
          refine iteF ⟨_, rfl, b, 2, rfl, hb4, by decide, by decide, fun H5 d hd bu5 hb5 => ⟨_, _, rfl, rfl, ?_⟩⟩
          exact kq _ _ ⟨2 + d, by rw [Int.natCast_add]; rfl, (fun z => by cases z), (fun _ => by omega), bu5, hb5⟩
      obtain ⟨g, rfl, g1, g2, buA, hbA⟩ := hv
      have buA := bu4.trans buA
      refine gn_q ?_
      clear bu4 hb4
      refine ⟨_, rfl, by show 4 ≤ sizeLine; decide, fun L hL => ?_⟩
      have sL := same_new (o := .lst [.int 0, .int 1, .int 2, .int 6]) hL
      refine ⟨b, L, _, rfl, hbA.k sL, hbA.off hL, upd_same, List.cons_ne_nil _ _, by decide, fun H1 v mv bu1 hb1 => ?_⟩
      obtain ⟨n, rfl, n6⟩ : ∃ n : Nat, v = .int (n : Nat) ∧ n ≤ 6 := by
        simp only [List.mem_cons, List.not_mem_nil, or_false] at mv
        rcases mv with rfl | rfl | rfl | rfl
        · exact ⟨0, rfl, by decide⟩
        · exact ⟨1, rfl, by decide⟩
        · exact ⟨2, rfl, by decide⟩
        · exact ⟨6, rfl, by decide⟩
      have bu1 := (buA.trans (Bu.of sL)).trans bu1
      refine ⟨_, rfl, by omega, by omega, fun D hD => ?_⟩
      rw [Int.toNat_natCast]
      have nDb := hb1.off hD
      refine lc_range (fun j B => Bu b H1 B ∧ Bk B b ∧ ∃ (m : List (Nat × Nat)) (us : List V), m.length = j ∧ (∀ x ∈ m, x.1 ≤ 5 ∧ x.2 ≤ 8) ∧ B D = some (.lst us) ∧ Dts K B us (m.map fun x => PyData.tuple [.int (x.1 : Nat), .int (x.2 : Nat)])) ⟨(fun _ _ _ e => same_new hD _ _ e), hb1.k (same_new hD), [], [], rfl, (fun _ m => by cases m), upd_same, .nil⟩ (fun j B hj hP => ?_) (fun B hP => ?_)
      · obtain ⟨buB, hbB, mm, us, lm, m5, hDB, dm⟩ := hP
        have lu := dm.len
        rw [List.length_map] at lu
        refine ⟨rfl, yesT ⟨_, rfl, b, 6, rfl, hbB, by decide, by decide, fun H2 d1 hd1 bu2 hb2 => ⟨_, rfl, b, 9, rfl, hb2, by decide, by decide, fun H3 d2 hd2 bu3 hb3 => ?_⟩⟩⟩
        refine ⟨by show 2 ≤ sizeLine; decide, fun q hq => ?_⟩
        have sq := same_new (o := .tup [.int (d1 : Nat), .int (d2 : Nat)]) hq
        have hD3 := sq _ _ (bu3 _ _ nDb (bu2 _ _ nDb hDB))
        have dm3 := ((dm.k (hbB.kt bu2)).k (hb2.kt bu3)).ks sq
        have hq1 : upd H3 q (.tup [.int (d1 : Nat), .int (d2 : Nat)]) q = some (.tup [.int (d1 : Nat), .int (d2 : Nat)]) := upd_same
        have buq := ((buB.trans bu2).trans bu3).trans (Bu.of sq)
        have hbq := hb3.k sq
        generalize upd H3 q (.tup [.int (d1 : Nat), .int (d2 : Nat)]) = H5 at hD3 dm3 hq1 buq hbq ⊢
        refine ⟨us, hD3, small1000 (by omega), buq.new hD, hbq.bu (Bu.set (p := D)) (fun z => nDb z.symm), mm ++ [(d1, d2)], us ++ [.ref q], by rw [List.length_append, lm]; rfl, fun x mx => ?_, upd_same, ?_⟩
        · rcases List.mem_append.mp mx with mx | mx
          · exact m5 x mx
          · rw [List.mem_singleton.mp mx]; exact ⟨by show d1 ≤ 5; omega, by show d2 ≤ 8; omega⟩
        · rw [List.map_append]
          exact (dts_app dm3 (.cons (.tup (SqT.of hq1) (.cons (.int _) (.cons (.int _) .nil))) .nil)).k (Kt.lst hD3)
      · obtain ⟨buB, hbB, mm, us, lm, m5, hDB, dm⟩ := hP
        refine ⟨D, _, rfl, .inl ⟨SqL.of hDB, fun q hq => ?_⟩⟩
        have sq := same_new (o := .tup us) hq
        have dmv : Dt K (upd B q (.tup us)) (.ref q) (mvD mm) := .tup (SqT.of upd_same) (dm.ks sq)
        have okm : MvOk mm := ⟨by omega, m5⟩
        have buq := (bu1.trans buB).trans (Bu.of sq)
        have hbq := hbB.k sq
        generalize upd B q (.tup us) = H5 at dmv buq hbq ⊢
        refine ⟨_, rfl, _, rfl, _, rfl, _, rfl, _, rfl, b, rfl, hbq, fun H6 v1 a1 ok1 d1 bu6 hb6 => ?_⟩
        refine ⟨_, rfl, _, rfl, b, 7, rfl, hb6, by decide, by decide, fun H7 s7 hs7 bu7 hb7 => ⟨by show 7 ≤ sizeLine; decide, fun q8 hq8 => ?_⟩⟩
        have s8 := same_new (o := .tup [.str (wordS m), .int (tk : Nat), .str nm, .int (g : Nat), v1, .ref q, .int (s7 : Nat)]) hq8
        exact k _ _ (.sent m tk nm g a1 mm s7) ⟨t9, hn, g1, g2, ok1, okm, by omega⟩ (.tup (SqT.of upd_same) (.cons (.str _) (.cons (.int _) (.cons (.str _) (.cons (.int _) (.cons ((d1.k (hb6.kt bu7)).ks s8) (.cons (((dmv.k (hbq.kt bu6)).k (hb6.kt bu7)).ks s8) (.cons (.int _) .nil)))))))) (((buq.trans bu6).trans bu7).trans (Bu.of s8)) (hb7.k s8)
end
end K83

namespace K83
open PySem L2 Wm TL Dv
section
variable {P : Program} {w : World} {K : PySem.W.Frag} {mg : Str → Option Value} {base : Heap}
theorem sum_bound {k : Nat} : ∀ {ls : List Nat}, (∀ x ∈ ls, x ≤ k) → ls.sum ≤ k * ls.length
  | [], _ => by simp
  | x :: ls, h => by
    have h1 := h x (by simp)
    have h2 := sum_bound (ls := ls) fun y m => h y (List.mem_cons_of_mem _ m)
    rw [List.sum_cons, List.length_cons, Nat.mul_succ]
    omega
theorem fine_lst {n : Nat} {ds : List PyData} (h : ∀ d ∈ ds, Fine n d) : Fine (n + 1) (.list ds) := by
  have q : PyData.canLayAll0 ds = true ∧ PyData.depthAll ds ≤ n := by
    induction ds with
    | nil => simp [PyData.canLayAll0, PyData.depthAll]
    | cons d ds ih =>
      have h1 := h d (by simp)
      have h2 := ih fun y m => h y (List.mem_cons_of_mem _ m)
      simp only [PyData.canLayAll0, PyData.depthAll, h1.1, h2.1, Bool.and_self, true_and]
      have := h1.2
      have := h2.2
      omega
  exact ⟨by simp only [PyData.canLay0]; exact q.1, by simp only [PyData.depth]; have := q.2; omega⟩
theorem ne_nilD {H : Hp} {D M : Addr} {zs : List V} {ds : List PyData} {Q : VK} (hD : H D = some (.lst zs)) (dd : Dts K H zs ds) (f : ∀ d ∈ ds, Fine 0 d) (hM : H M = some (.lst [])) (q : Q (.bl (!decide (ds = []))) H) : rNeD K (.ref D) (.ref M) H Q := by
  refine ⟨.list ds, .list [], .lst (SqL.of hD) dd.toDp, .lst (SqL.of hM) .nil, (fine_lst f).shaped (by decide), (fine_lst (n := 0) fun d m => by cases m).shaped (by decide), ?_⟩
  cases ds with
  | nil => simpa [PyData.eqv, PyData.eqvAll] using q
  | cons k ks => simpa [PyData.eqv, PyData.eqvAll] using q
def digF (t : Str) (lo hi : Nat) : Option Nat := match dgO t with
  | some d => if lo ≤ d ∧ d ≤ hi then some d else none
  | none => none
def cwF (w : Str) : Option Nat := match digF (cutS w none (some 1)) 0 5 with
  | some c => if w.length = 1 then some c else none
  | none => none
def pwF (w : Str) : Option (Nat × Nat) := match digF (cutS w none (some 1)) 0 5, digF (cutS w (some 2) none) 0 8 with
  | some c, some s => if cutS w (some 1) (some 2) = ">" then some (c, s) else none
  | _, _ => none
def few {α : Type} (o : Option (List α)) : Option (List α) := match o with
  | some xs => if xs.length < 7 then some xs else none
  | none => none
def listC (t : Str) : Option (List Nat) := if t = "-" then some [] else few (allP ((Txt.split t " ").map cwF))
def listP (t : Str) : Option (List (Nat × Nat)) := if t = "-" then some [] else few (allP ((Txt.split t " ").map pwF))
def sp_some (K : PySem.W.Frag) : Sp := fun vs H Q _ => ∃ (q : Addr) (ps : List Str), vs = [.ref q] ∧ H q = some (.lst (ps.map V.str)) ∧ (∀ p ∈ ps, p.cps.all (· < 0x110000) = true ∧ p.length ≤ 10) ∧ ps.length ≤ 10 ∧ ∀ H', Same H H' → Q (.str (if ps = [] then "-" else Txt.join " " ps)) H'
def sp_line (K : PySem.W.Frag) : Sp := fun vs H Q _ => ∃ (v : V) (r : Rw), vs = [v] ∧ Dt K H v (rowD r) ∧ RwOk r ∧ ∀ H', Same H H' → Q (.str (rend r)) H'
def sp_digits (K : PySem.W.Frag) : Sp := fun vs H Q _ => ∃ (t : Str) (lo hi : Nat), vs = [.str t, .int (lo : Nat), .int (hi : Nat)] ∧ t.length ≤ 1000 ∧ Q (oV (digF t lo hi)) H
def sp_list (K : PySem.W.Frag) : Sp := fun vs H Q _ => ∃ (t : Str) (b : Bool), vs = [.str t, .bl b] ∧ t.length ≤ 500 ∧ ∀ H' v, Same H H' → OD K H' v (if b = true then (listP t).map mvD else (listC t).map iD) → Q v H'
def sp_wis_number (K : PySem.W.Frag) : Sp := fun vs H Q _ => ∃ t : Str, vs = [.str t] ∧ t.length ≤ 500 ∧ ∀ H' b, Same H H' → (b = true ↔ IsNum t) → Q (.bl b) H'
theorem ok_some (T : Txt K mg) : FnOk P w K mg base CX0 1 T.a_some T.d_some ["_law_parts"] (sp_some K) := by
  refine T.F_some.ok sc_some (fun vs H Q E h => ?_) (fun cdv A outer s H vs Q E hr h => ?_)
  · obtain ⟨q, ps, rfl, _⟩ := h
    rfl
  · obtain ⟨q, ps, rfl, hq, fi, l, k⟩ := h
    refine ⟨_, (pss_one (ps_ret (pe_ifExp (pt_cmpR (op_neD hr.units) (pv 0) (pe_lst pa_nil) (nomark _)) (pe_join pe_str (pv 0)) pe_str))), ?_⟩
    refine ⟨_, rfl, by show 0 ≤ sizeLine; decide, fun L hL => ?_⟩
    have sL := same_new (o := .lst []) hL
    have hL1 : upd H L (.lst []) L = some (.lst []) := upd_same
    have hq1 := sL _ _ hq
    generalize upd H L (.lst []) = H1 at sL hL1 hq1 ⊢
    refine ne_nilD hq1 (dts_str _) (fun d m => by
      obtain ⟨x, mx, rfl⟩ := List.mem_map.mp m
      exact fine_str (fi x mx).1) hL1 ⟨_, rfl, ?_⟩
    by_cases c : ps = []
    · have e : decide (ps.map PyData.str = []) = true := decide_eq_true (by rw [c]; rfl)
      rw [e]
      have k := k _ sL
      rw [if_pos c] at k
      exact iteF k
    · have e : decide (ps.map PyData.str = []) = false := decide_eq_false (fun z => c (List.map_eq_nil_iff.mp z))
      rw [e]
      have k := k _ sL
      rw [if_neg c] at k
      refine iteT ⟨⟨_, rfl⟩, _, rfl, _, q, ps, rfl, rfl, .inl (SqL.of hq1), ?_, k⟩
      have g1 : (" " : Str).length = 1 := by decide
      have := sum_bound (k := 10) (ls := ps.map (·.length)) (fun x m => by obtain ⟨y, my, rfl⟩ := List.mem_map.mp m; exact (fi y my).2)
      rw [List.length_map] at this
      rw [g1]
      omega
theorem ok_digits (T : Txt K mg) : FnOk P w K mg base CX0 1 T.a_digits T.d_digits ["_law_text", "_law_low", "_law_high"] (sp_digits K) := by
  refine T.F_digits.ok sc_digits (fun vs H Q E h => ?_) (fun cdv A outer s H vs Q E hr h => ?_)
  · obtain ⟨t, lo, hi, rfl, _⟩ := h
    rfl
  · obtain ⟨t, lo, hi, rfl, l, k⟩ := h
    have big : (100000 : Nat) ≤ sizeLine := by decide
    have ll : t.length = t.cps.toList.length := len_tl t
    refine ⟨_, (pss_one (ps_ret (pe_ifExp (PW.pt (pw_and (pt_cmpR op_eq (pe_callB call_len_str (by rfl) T.z_len PySem.boot_len (pa_cons (pv 0) pa_nil)) pe_int (nomark _)) (pw_and (pt_cmpR op_in_sign (pv 0) pe_str rfl) (pw_and1 (pt_chain op_le op_le (pv 1) (pe_callTy call_int_str (by rfl) T.z_int (by decide +kernel) (pa_cons (pv 0) pa_nil)) (pv 2)))))) (pe_callTy call_int_str (by rfl) T.z_int (by decide +kernel) (pa_cons (pv 0) pa_nil)) pe_non))), ?_⟩
    refine ⟨_, rfl, _, rfl, by omega, rfl, _, rfl, ?_⟩
    unfold digF at k
    by_cases c : t.length = 1
    · rw [decide_eq_true (by rw [c]; rfl)]
      refine iteT ?_
      obtain ⟨x, e⟩ : ∃ x, t.cps.toList = [x] := List.length_eq_one_iff.mp (by omega)
      obtain rfl : t = ⟨#[x]⟩ := by
        obtain ⟨z⟩ := t
        congr 1
        exact Array.toList_inj.mp e
      refine ⟨_, rfl, x, _, rfl, rfl, _, rfl, ?_⟩
      rw [digs_mem]
      have ed := dg_ch x
      cases e2 : dgO ⟨#[x]⟩ with
      | none =>
        rw [e2] at ed k
        rw [← ed]
        exact iteF k
      | some d =>
        rw [e2] at ed k
        rw [← ed]
        refine iteT ?_
        obtain ⟨d1, d2⟩ := dg_int e2
        refine ⟨_, rfl, _, rfl, _, _, rfl, d1, by omega, _, _, rfl, rfl, ?_⟩
        have k : Q (oV (if lo ≤ d ∧ d ≤ hi then some d else none)) H := k
        refine ⟨_, rfl, ite2 (fun c1 => ?_) (fun c1 => ?_)⟩
        · have c1 : ((lo : Nat) : Int) ≤ (d : Nat) := of_decide_eq_true c1
          refine ⟨_, rfl, _, _, rfl, rfl, _, rfl, ?_⟩
          by_cases c2 : d ≤ hi
          · rw [if_pos ⟨by omega, c2⟩] at k
            have e : decide (((d : Nat) : Int) ≤ (hi : Nat)) = true := decide_eq_true (by omega)
            show (if decide (((d : Nat) : Int) ≤ (hi : Nat)) = true then _ else _)
            rw [e]
            exact iteT ⟨_, rfl, _, _, rfl, d1, by omega, k⟩
          · rw [if_neg (fun z => c2 z.2)] at k
            have e : decide (((d : Nat) : Int) ≤ (hi : Nat)) = false := decide_eq_false (by omega)
            show (if decide (((d : Nat) : Int) ≤ (hi : Nat)) = true then _ else _)
            rw [e]
            exact iteF k
        · have c1 : ¬ ((lo : Nat) : Int) ≤ (d : Nat) := fun z => c1 (decide_eq_true z)
          rw [if_neg (fun z => c1 (by have := z.1; omega))] at k
          exact ⟨_, rfl, iteF k⟩
    · rw [decide_eq_false (fun z => c (by injection z with z; omega))]
      refine iteF ?_
      have e2 : dgO t = none := by
        cases e : dgO t with
        | none => rfl
        | some d => exact absurd (dg_int e).2 c
      rw [e2] at k
      exact k
theorem join2 (x y : Str) : Txt.join " / " [x, y] = x ++ " / " ++ y := by rw [join_eq]; rfl
theorem join4 (x y z u : Str) : Txt.join " / " [x, y, z, u] = x ++ " / " ++ y ++ " / " ++ z ++ " / " ++ u := by
  rw [join_eq]
  refine ext_tl ?_
  rw [tl_join]
  simp only [tl_append, List.map_cons, List.map_nil, joinL, List.append_assoc]
theorem app_assoc (x y z : Str) : x ++ y ++ z = x ++ (y ++ z) := by
  refine ext_tl ?_
  simp only [tl_append, List.append_assoc]
theorem crT_some (a : List Nat) : crT a = if a.map natS = [] then ("-" : Str) else Txt.join " " (a.map natS) := by
  unfold crT
  cases a with
  | nil => rfl
  | cons x a => rw [if_neg (by simp), if_neg (by simp)]
theorem pvT_some (v : List (Nat × Nat)) : pvT v = if v.map pvS = [] then ("-" : Str) else Txt.join " " (v.map pvS) := by
  unfold pvT
  cases v with
  | nil => rfl
  | cons x a => rw [if_neg (by simp), if_neg (by simp)]
theorem cps_all {t : Str} (h : ∀ c ∈ tl t, c < 0x110000) : t.cps.all (· < 0x110000) = true := by
  rw [Array.all_eq_true']
  intro c m
  exact decide_eq_true (h c (Array.mem_toList_iff.mpr m))
theorem nat_fi {n : Nat} (h : n ≤ 9) : (natS n).cps.all (· < 0x110000) = true ∧ (natS n).length ≤ 10 := by
  obtain ⟨a, b⟩ := nat_le9 h
  refine ⟨cps_all fun c m => ?_, by omega⟩
  rw [b] at m
  rw [List.mem_singleton.mp m]
  omega
theorem pv_fi {x : Nat × Nat} (h : x.1 ≤ 9 ∧ x.2 ≤ 9) : (pvS x).cps.all (· < 0x110000) = true ∧ (pvS x).length ≤ 10 := by
  obtain ⟨a, b⟩ := pv_len h
  refine ⟨cps_all fun c m => ?_, by omega⟩
  rw [b] at m
  simp only [List.mem_cons, List.not_mem_nil, or_false] at m
  omega
theorem ok_line (T : Txt K mg) : FnOk P w K mg base CX0 2 T.a_line T.d_line ["_law_row_here"] (sp_line K) := by
  refine T.F_line.ok sc_line (fun vs H Q E h => ?_) (fun cdv A outer s H vs Q E hr h => ?_)
  · obtain ⟨v, r, rfl, _⟩ := h
    rfl
  · obtain ⟨v, r, rfl, hv, ok, k⟩ := h
    obtain ⟨t9, nn⟩ := rw_facts ok
    have h1 := tick_len t9
    have h2 := num_le nn
    have h3 := word_len r
    have big : (100000 : Nat) ≤ sizeLine := by decide
    have lg : ((tickR r : Nat) : Int).natAbs.log2 < 1920 := Fi.log_small (Nat.lt_of_lt_of_le t9 (by decide))
    have g1 : (" " : Str).length = 1 := by decide
    have g3 : (" / " : Str).length = 3 := by decide
    have r1 : (Txt.rjust (natS (tickR r)) 6).length = max 6 (natS (tickR r)).length := Fi.rjust_len _ 6
    have l1 : (Txt.ljust (wordR r) 5).length = max 5 (wordR r).length := ljust_len _ 5
    have l2 : (Txt.ljust (numR r) 5).length = max 5 (numR r).length := ljust_len _ 5
    have hl := head_len ok
    refine ⟨_, (pss_cons (ps_set (i := 1) sc_line.nd rfl (Or.inl rfl) (pe_call (ok_some T) (hr.mono (by decide)) (by rfl) T.g_some T.F_some.kp T.b_some .nil pass0 (pa_cons (pe_lc (own := [("_law_crew", 2)]) (g := gName 2) (tt := tYes) rfl sc_line.nd (pi_tup (pe_ix ix_tup (pv 0) (pe_ifExp (pt_cmpR op_eq (pe_ix ix_tup (pv 0) pe_int (fun _ _ => rfl)) pe_str (nomark _)) pe_int pe_int) (fun _ _ => rfl))) (blkOk_by (own := [("_law_crew", 2)]) (N := nm_line) (sc := (defScope s_line)) (by decide +kernel)) (fun _ _ _ _ _ => pg_name (i := 2) sc_line.nd rfl (Or.inl rfl)) (fun _ _ _ _ _ => pts_nil) (fun _ _ _ _ _ => (pe_callTy call_str_int (by rfl) T.z_str (by decide +kernel) (pa_cons (pv 2) pa_nil)))) pa_nil)))
      (pss_cons (ps_set (i := 3) sc_line.nd rfl (Or.inl rfl) (pe_op op_add_str (pe_op op_add_str (pe_op op_add_str (pe_bm PySem.F.plainAttrs_str PySem.F.slot_str_rjust PySem.F.type_str_rjust mt_rjust (pe_callTy call_str_int (by rfl) T.z_str (by decide +kernel) (pa_cons (pe_ix ix_tup (pv 0) pe_int (fun _ _ => rfl)) pa_nil)) (pa_cons pe_int pa_nil)) pe_str) (pe_bm PySem.F.plainAttrs_str PySem.F.slot_str_ljust PySem.F.type_str_ljust mt_ljust (pe_ix ix_tup (pv 0) pe_int (fun _ _ => rfl)) (pa_cons pe_int pa_nil))) (pe_bm PySem.F.plainAttrs_str PySem.F.slot_str_ljust PySem.F.type_str_ljust mt_ljust (pe_ix ix_tup (pv 0) pe_int (fun _ _ => rfl)) (pa_cons pe_int pa_nil))))
      (pss_cons (ps_if (pt_cmpR op_eq (pe_ix ix_tup (pv 0) pe_int (fun _ _ => rfl)) pe_str (nomark _))
        (pss_one (ps_ret (pe_op op_add_str (pe_op op_add_str (pe_op op_add_str (pv 3) (pv 1)) pe_str) (pe_call (ok_some T) (hr.mono (by decide)) (by rfl) T.g_some T.F_some.kp T.b_some .nil pass0 (pa_cons (pe_lc (own := [("_law_crew", 2)]) (g := gName 2) (tt := tYes) rfl sc_line.nd (pi_tup (pe_ix ix_tup (pv 0) pe_int (fun _ _ => rfl))) (blkOk_by (own := [("_law_crew", 2)]) (N := nm_line) (sc := (defScope s_line)) (by decide +kernel)) (fun _ _ _ _ _ => pg_name (i := 2) sc_line.nd rfl (Or.inl rfl)) (fun _ _ _ _ _ => pts_nil) (fun _ _ _ _ _ => (pe_callTy call_str_int (by rfl) T.z_str (by decide +kernel) (pa_cons (pv 2) pa_nil)))) pa_nil)))))
        pss_nil)
      (pss_cons (ps_set (i := 4) sc_line.nd rfl (Or.inl rfl) (pe_call (ok_some T) (hr.mono (by decide)) (by rfl) T.g_some T.F_some.kp T.b_some .nil pass0 (pa_cons (pe_lc (own := [("_law_pair", 5)]) (g := gName 5) (tt := tYes) rfl sc_line.nd (pi_tup (pe_ix ix_tup (pv 0) pe_int (fun _ _ => rfl))) (blkOk_by (own := [("_law_pair", 5)]) (N := nm_line) (sc := (defScope s_line)) (by decide +kernel)) (fun _ _ _ _ _ => pg_name (i := 5) sc_line.nd rfl (Or.inl rfl)) (fun _ _ _ _ _ => pts_nil) (fun _ _ _ _ _ => (pe_op op_add_str (pe_op op_add_str (pe_callTy call_str_int (by rfl) T.z_str (by decide +kernel) (pa_cons (pe_ix (show IxR _ (rIxT K) from ix_tup) (pv 5) pe_int (fun _ _ => rfl)) pa_nil)) pe_str) (pe_callTy call_str_int (by rfl) T.z_str (by decide +kernel) (pa_cons (pe_ix (show IxR _ (rIxT K) from ix_tup) (pv 5) pe_int (fun _ _ => rfl)) pa_nil))))) pa_nil)))
      (pss_one (ps_ret (pe_op op_add_str (pe_op op_add_str (pe_op op_add_str (pe_op op_add_str (pe_op op_add_str (pe_op op_add_str (pe_op op_add_str (pv 3) (pe_callTy call_str_int (by rfl) T.z_str (by decide +kernel) (pa_cons (pe_ix ix_tup (pv 0) pe_int (fun _ _ => rfl)) pa_nil))) pe_str) (pv 1)) pe_str) (pv 4)) pe_str) (pe_callTy call_str_int (by rfl) T.z_str (by decide +kernel) (pa_cons (pe_ix ix_tup (pv 0) pe_int (fun _ _ => rfl)) pa_nil))))))))), ?_⟩
    cases r with
    | back t n a b =>
      obtain ⟨p, xs, rfl, hp, hd⟩ := hv.inv
      obtain ⟨x0, x1, x2, x3, x4, rfl, d0, d1, d2, d3, d4⟩ := dts5 hd
      obtain rfl := d0.str_inv
      obtain rfl := d1.int_inv
      obtain rfl := d2.str_inv
      obtain ⟨p3, rfl, hp3⟩ := dt_ints d3
      obtain ⟨p4, rfl, hp4⟩ := dt_ints d4
      obtain ⟨_, _, oa, ob⟩ := id ok
      refine ⟨_, rfl, _, rfl, p, _, 0, _, rfl, rfl, hp, atI_nat (j := 0) rfl, rfl, _, rfl, ?_⟩
      have hw : decide (V.str "back" = V.str "back") = true := decide_eq_true rfl
      rw [hw]
      refine iteT ?_
      refine ⟨p, _, 3, _, rfl, rfl, hp, atI_nat (j := 3) rfl, p3, rfl, ⟨_, hp3⟩, fun D hD => ?_⟩
      refine Lm.lc_map (K := K) walk_tup (xs := nV a) (fun i y A => ∃ n, a[i]? = some n ∧ y = .str (natS n)) (fun _ _ _ _ h _ => h) hD (by unfold nV; rw [List.length_map]; have := oa.len; omega) (fun H' s' => sameT s' hp3) (fun i x H' hi hx s' Q' Z hQ => ?_) (fun H1 ys sa hD3 hly hy => ?_)
      · unfold nV at hx
        rw [List.getElem?_map] at hx
        obtain ⟨n, hn, rfl⟩ := Option.map_eq_some_iff.mp hx
        have n9 := oa.le n (List.mem_of_getElem? hn)
        exact ⟨rfl, yesT ⟨_, rfl, _, rfl, log9 (by omega), hQ _ _ (Same.refl _) ⟨n, hn, rfl⟩⟩⟩
      have eys : ys = (a.map natS).map V.str := by
        rw [List.map_map]
        exact strs_list (by unfold nV at hly; rw [List.length_map] at hly; exact hly) hy
      rw [eys] at hD3
      refine ⟨D, a.map natS, rfl, hD3, (fun x mx => by
        obtain ⟨n, mn, rfl⟩ := List.mem_map.mp mx
        have := oa.le n mn
        exact nat_fi (by omega)), by rw [List.length_map]; have := oa.len; omega, fun H1' sa' => ?_⟩
      rw [← crT_some]
      have s1 := sa.trans sa'
      clear sa sa' hD3 hD hy hly eys
      have hp1 := sameT s1 hp
      refine gn_q ?_
      refine nx_q ?_
      have h1 : 1 ≤ (natS t).length ∧ (natS t).length ≤ 9 := h1
      have r1 : (Txt.rjust (natS t) 6).length = max 6 (natS t).length := r1
      have l1 : (Txt.ljust ("back" : Str) 5).length = max 5 (("back" : Str)).length := l1
      have l2 : (Txt.ljust n 5).length = max 5 n.length := l2
      have h3 : (("back" : Str)).length = 4 := h3
      have h2 : n.length ≤ 4 := h2
      refine asg_q (fun x A => x = .str (headT (.back t n a b)) ∧ A = H1') (fun Q' kq => ?_) (fun x A hx => ?_)
      · refine ⟨_, rfl, p, _, 1, _, rfl, rfl, hp1, atI_nat (j := 1) rfl, _, rfl, lg, rfl, natS t, 6, rfl, rfl, rfl, _, _, rfl, rfl, ?_, ?_⟩
        · show (Txt.rjust (natS t) 6).length + (" " : Str).length ≤ _
          omega
        refine ⟨_, rfl, p, _, 0, _, rfl, rfl, hp1, atI_nat (j := 0) rfl, rfl, _, _, rfl, rfl, rfl, _, _, rfl, rfl, ?_, ?_⟩
        · show (Txt.rjust (natS t) 6 ++ " ").length + (Txt.ljust ("back" : Str) 5).length ≤ _
          rw [app_len]
          omega
        refine ⟨_, rfl, p, _, 2, _, rfl, rfl, hp1, atI_nat (j := 2) rfl, rfl, _, _, rfl, rfl, rfl, _, _, rfl, rfl, ?_, kq _ _ ⟨rfl, rfl⟩⟩
        show (Txt.rjust (natS t) 6 ++ " " ++ Txt.ljust ("back" : Str) 5).length + (Txt.ljust n 5).length ≤ _
        rw [app_len, app_len]
        omega
      obtain ⟨rfl, rfl⟩ := hx
      refine gn_q ?_
      refine ⟨_, rfl, p, _, 0, _, rfl, rfl, hp1, atI_nat (j := 0) rfl, rfl, _, rfl, ?_⟩
      rw [hw]
      refine iteT ?_
      have la := crT_len oa
      have lb := crT_len ob
      have hl : (headT (.back t n a b)).length ≤ 20 := hl
      refine ⟨_, rfl, _, rfl, _, _, rfl, rfl, by omega, _, _, rfl, rfl, by rw [app_len]; show _ + (" / " : Str).length ≤ _; omega, ?_⟩
      refine ⟨_, rfl, p, _, 4, _, rfl, rfl, hp1, atI_nat (j := 4) rfl, p4, rfl, ⟨_, sameT s1 hp4⟩, fun D hD => ?_⟩
      refine Lm.lc_map (K := K) walk_tup (xs := nV b) (fun i y A => ∃ n, b[i]? = some n ∧ y = .str (natS n)) (fun _ _ _ _ h _ => h) hD (by unfold nV; rw [List.length_map]; have := ob.len; omega) (fun H' s' => sameT s' (sameT s1 hp4)) (fun i x H' hi hx s' Q' Z hQ => ?_) (fun H2 ys sb hD3 hly hy => ?_)
      · unfold nV at hx
        rw [List.getElem?_map] at hx
        obtain ⟨n, hn, rfl⟩ := Option.map_eq_some_iff.mp hx
        have n9 := ob.le n (List.mem_of_getElem? hn)
        exact ⟨rfl, yesT ⟨_, rfl, _, rfl, log9 (by omega), hQ _ _ (Same.refl _) ⟨n, hn, rfl⟩⟩⟩
      have eys : ys = (b.map natS).map V.str := by
        rw [List.map_map]
        exact strs_list (by unfold nV at hly; rw [List.length_map] at hly; exact hly) hy
      rw [eys] at hD3
      refine ⟨D, b.map natS, rfl, hD3, (fun x mx => by
        obtain ⟨n, mn, rfl⟩ := List.mem_map.mp mx
        have := ob.le n mn
        exact nat_fi (by omega)), by rw [List.length_map]; have := ob.len; omega, fun H2' sb' => ?_⟩
      rw [← crT_some]
      have s2 := sb.trans sb'
      clear sb sb' hD3 hD hy hly eys
      refine ⟨_, _, rfl, rfl, by rw [app_len, app_len]; show _ + (" / " : Str).length + _ ≤ _; omega, ?_⟩
      have e : headT (.back t n a b) ++ crT a ++ " / " ++ crT b = rend (.back t n a b) := by
        show _ = headT (.back t n a b) ++ Txt.join " / " [crT a, crT b]
        rw [join2]
        simp only [app_assoc]
      rw [e]
      exact k _ (s1.trans s2)
    | sent m t n g a v s =>
      obtain ⟨p, xs, rfl, hp, hd⟩ := hv.inv
      obtain ⟨x0, x1, x2, x3, x4, x5, x6, rfl, d0, d1, d2, d3, d4, d5, d6⟩ := dts7 hd
      obtain rfl := d0.str_inv
      obtain rfl := d1.int_inv
      obtain rfl := d2.str_inv
      obtain rfl := d3.int_inv
      obtain rfl := d6.int_inv
      obtain ⟨p4, rfl, hp4⟩ := dt_ints d4
      obtain ⟨p5, xs5, rfl, hp5, hd5⟩ := d5.inv
      have g3 := (grade_le ok).1
      obtain ⟨_, _, _, _, oa, ov, os⟩ := id ok
      have m9 : ∀ x ∈ v, x.1 ≤ 9 ∧ x.2 ≤ 9 := fun x hx => by have := ov.le x hx; omega
      have l6 := ov.len
      have lx5 := hd5.len
      rw [List.length_map] at lx5
      refine ⟨_, rfl, _, rfl, p, _, 0, _, rfl, rfl, hp, atI_nat (j := 0) rfl, rfl, _, rfl, ?_⟩
      have hw : decide (V.str (wordS m) = V.str "back") = false := word_ne m
      rw [hw]
      refine iteF ?_
      refine ⟨p, _, 4, _, rfl, rfl, hp, atI_nat (j := 4) rfl, p4, rfl, ⟨_, hp4⟩, fun D hD => ?_⟩
      refine Lm.lc_map (K := K) walk_tup (xs := nV a) (fun i y A => ∃ n, a[i]? = some n ∧ y = .str (natS n)) (fun _ _ _ _ h _ => h) hD (by unfold nV; rw [List.length_map]; have := oa.len; omega) (fun H' s' => sameT s' hp4) (fun i x H' hi hx s' Q' Z hQ => ?_) (fun H1 ys sa hD3 hly hy => ?_)
      · unfold nV at hx
        rw [List.getElem?_map] at hx
        obtain ⟨n, hn, rfl⟩ := Option.map_eq_some_iff.mp hx
        have n9 := oa.le n (List.mem_of_getElem? hn)
        exact ⟨rfl, yesT ⟨_, rfl, _, rfl, log9 (by omega), hQ _ _ (Same.refl _) ⟨n, hn, rfl⟩⟩⟩
      have eys : ys = (a.map natS).map V.str := by
        rw [List.map_map]
        exact strs_list (by unfold nV at hly; rw [List.length_map] at hly; exact hly) hy
      rw [eys] at hD3
      refine ⟨D, a.map natS, rfl, hD3, (fun x mx => by
        obtain ⟨n, mn, rfl⟩ := List.mem_map.mp mx
        have := oa.le n mn
        exact nat_fi (by omega)), by rw [List.length_map]; have := oa.len; omega, fun H1' sa' => ?_⟩
      rw [← crT_some]
      have s1 := sa.trans sa'
      clear sa sa' hD3 hD hy hly eys
      have hp1 := sameT s1 hp
      refine gn_q ?_
      refine nx_q ?_
      have h1 : 1 ≤ (natS t).length ∧ (natS t).length ≤ 9 := h1
      have r1 : (Txt.rjust (natS t) 6).length = max 6 (natS t).length := r1
      have l1 : (Txt.ljust (wordS m) 5).length = max 5 ((wordS m)).length := l1
      have l2 : (Txt.ljust n 5).length = max 5 n.length := l2
      have h3 : ((wordS m)).length = 4 := h3
      have h2 : n.length ≤ 4 := h2
      refine asg_q (fun x A => x = .str (headT (.sent m t n g a v s)) ∧ A = H1') (fun Q' kq => ?_) (fun x A hx => ?_)
      · refine ⟨_, rfl, p, _, 1, _, rfl, rfl, hp1, atI_nat (j := 1) rfl, _, rfl, lg, rfl, natS t, 6, rfl, rfl, rfl, _, _, rfl, rfl, ?_, ?_⟩
        · show (Txt.rjust (natS t) 6).length + (" " : Str).length ≤ _
          omega
        refine ⟨_, rfl, p, _, 0, _, rfl, rfl, hp1, atI_nat (j := 0) rfl, rfl, _, _, rfl, rfl, rfl, _, _, rfl, rfl, ?_, ?_⟩
        · show (Txt.rjust (natS t) 6 ++ " ").length + (Txt.ljust (wordS m) 5).length ≤ _
          rw [app_len]
          omega
        refine ⟨_, rfl, p, _, 2, _, rfl, rfl, hp1, atI_nat (j := 2) rfl, rfl, _, _, rfl, rfl, rfl, _, _, rfl, rfl, ?_, kq _ _ ⟨rfl, rfl⟩⟩
        show (Txt.rjust (natS t) 6 ++ " " ++ Txt.ljust (wordS m) 5).length + (Txt.ljust n 5).length ≤ _
        rw [app_len, app_len]
        omega
      obtain ⟨rfl, rfl⟩ := hx
      refine gn_q ?_
      refine ⟨_, rfl, p, _, 0, _, rfl, rfl, hp1, atI_nat (j := 0) rfl, rfl, _, rfl, ?_⟩
      rw [hw]
      refine iteF ?_
      have la := crT_len oa
      have lv := pvT_len ov
      have hl : (headT (.sent m t n g a v s)).length ≤ 20 := hl
      have lg1 : (natS g).length = 1 := (nat_le9 (by omega)).1
      have ls1 : (natS s).length = 1 := (nat_le9 (by omega)).1
      refine next_q ?_
      refine ⟨_, rfl, p, _, 5, _, rfl, rfl, hp1, atI_nat (j := 5) rfl, p5, rfl, ⟨_, sameT s1 hp5⟩, fun D hD => ?_⟩
      refine Lm.lc_map (K := K) walk_tup (xs := xs5) (fun i y A => ∃ n, v[i]? = some n ∧ y = .str (pvS n)) (fun _ _ _ _ h _ => h) hD (by omega) (fun H' s' => sameT (s1.trans s') hp5) (fun i x H' hi hx s' Q' Z hQ => ?_) (fun H2 ys sb hD3 hly hy => ?_)
      · obtain ⟨c, d, q, hm, rfl, hq⟩ := mv_at (p := p) hd5 hx
        have ab := m9 _ (List.mem_of_getElem? hm)
        have hq := sameT (s1.trans s') hq
        have k1 : (natS c).length = 1 := (nat_le9 ab.1).1
        have k2 : (natS d).length = 1 := (nat_le9 ab.2).1
        have k3 : (">" : Str).length = 1 := by decide
        refine ⟨rfl, yesT ⟨_, rfl, q, _, 0, _, rfl, rfl, hq, atI_nat (j := 0) rfl, _, rfl, log9 ab.1, natS c, _, rfl, rfl, by omega, _, rfl, q, _, 1, _, rfl, rfl, hq, atI_nat (j := 1) rfl, _, rfl, log9 ab.2, _, natS d, rfl, rfl, by rw [app_len]; show _ + (">" : Str).length + _ ≤ _; omega, hQ _ _ (Same.refl _) ⟨(c, d), hm, rfl⟩⟩⟩
      have eys : ys = (v.map pvS).map V.str := by
        rw [List.map_map]
        exact strs_list (by omega) hy
      rw [eys] at hD3
      refine ⟨D, v.map pvS, rfl, hD3, (fun x mx => by
        obtain ⟨z, mz, rfl⟩ := List.mem_map.mp mx
        exact pv_fi (m9 z mz)), by rw [List.length_map]; omega, fun H2' sb' => ?_⟩
      rw [← pvT_some]
      have s2 := sb.trans sb'
      have hp2 := sameT s2 hp1
      refine ⟨_, rfl, _, rfl, p, _, 3, _, rfl, rfl, hp2, atI_nat (j := 3) rfl, _, rfl, log9 (by omega), _, natS g, rfl, rfl, by omega, _, _, rfl, rfl, by rw [app_len]; show _ + (" / " : Str).length ≤ _; omega, ?_⟩
      refine ⟨_, rfl, _, _, rfl, rfl, by rw [app_len, app_len]; show _ + (" / " : Str).length + _ ≤ _; omega, _, _, rfl, rfl, by rw [app_len, app_len, app_len]; show _ + (" / " : Str).length + _ + (" / " : Str).length ≤ _; omega, ?_⟩
      refine ⟨_, rfl, _, _, rfl, rfl, by rw [app_len, app_len, app_len, app_len]; show _ + (" / " : Str).length + _ + (" / " : Str).length + _ ≤ _; omega, _, _, rfl, rfl, by rw [app_len, app_len, app_len, app_len, app_len]; show _ + (" / " : Str).length + _ + (" / " : Str).length + _ + (" / " : Str).length ≤ _; omega, ?_⟩
      refine ⟨_, rfl, p, _, 6, _, rfl, rfl, hp2, atI_nat (j := 6) rfl, _, rfl, log9 (by omega), _, natS s, rfl, rfl, by rw [app_len, app_len, app_len, app_len, app_len, app_len]; show _ + (" / " : Str).length + _ + (" / " : Str).length + _ + (" / " : Str).length + _ ≤ _; omega, ?_⟩
      have e : headT (.sent m t n g a v s) ++ natS g ++ " / " ++ crT a ++ " / " ++ pvT v ++ " / " ++ natS s = rend (.sent m t n g a v s) := by
        show _ = headT (.sent m t n g a v s) ++ Txt.join " / " [natS g, crT a, pvT v, natS s]
        rw [join4]
        simp only [app_assoc]
      rw [e]
      exact k _ (s1.trans s2)
end
end K83

namespace K83
open PySem L2 Wm TL Dv
section
variable {P : Program} {w : World} {K : PySem.W.Frag} {mg : Str → Option Value} {base : Heap}
theorem allP_none {α : Type} : ∀ {os : List (Option α)} {i : Nat}, os[i]? = some none → allP os = none
  | none :: _, _, _ => rfl
  | some d :: r, 0, h => by cases h
  | some d :: r, i + 1, h => by
    have ih := allP_none (os := r) (i := i) h
    show (allP r).map _ = none
    rw [ih]
    rfl
theorem allP_all {α : Type} : ∀ ns : List α, allP (ns.map some) = some ns
  | [] => rfl
  | n :: ns => by
    show (allP (ns.map some)).map _ = _
    rw [allP_all ns]
    rfl
theorem ok_list (T : Txt K mg) : FnOk P w K mg base CX0 2 T.a_list T.d_list ["_law_text", "_law_is_pairs"] (sp_list K) := by
  refine T.F_list.ok sc_list (fun vs H Q E h => ?_) (fun cdv A outer s H vs Q E hr h => ?_)
  · obtain ⟨t, b, rfl, _⟩ := h
    rfl
  · obtain ⟨t, b, rfl, l5, k⟩ := h
    have big : (100000 : Nat) ≤ sizeLine := by decide
    obtain ⟨b1, b2⟩ := split_len (t := t) sep_sp
    refine ⟨_, (pss_cons (ps_if (pt_cmpR op_eq (pv 0) pe_str (nomark _))
        (pss_one (ps_ret (pe_tup pa_nil)))
        pss_nil)
      (pss_cons (ps_set (i := 2) sc_list.nd rfl (Or.inl rfl) (pe_lst pa_nil))
      (pss_cons (ps_for PassesOwn.never rfl (pi_list (pe_split (pv 0) pe_str)) (pg_name (i := 3) sc_list.nd rfl (Or.inl rfl))
        (pss_cons (ps_set (i := 4) sc_list.nd rfl (Or.inl rfl) (pe_call (ok_digits T) (hr.mono (by decide)) (by rfl) T.g_digits T.F_digits.kp T.b_digits .nil pass0 (pa_cons (pe_slice sl_str (pv 3) po_none (po_some pe_int)) (pa_cons pe_int (pa_cons pe_int pa_nil)))))
        (pss_cons (ps_set (i := 5) sc_list.nd rfl (Or.inl rfl) (pe_ifExp (pt_val (pv 1)) (pe_call (ok_digits T) (hr.mono (by decide)) (by rfl) T.g_digits T.F_digits.kp T.b_digits .nil pass0 (pa_cons (pe_slice sl_str (pv 3) (po_some pe_int) po_none) (pa_cons pe_int (pa_cons pe_int pa_nil)))) pe_int))
        (pss_cons (ps_if (PW.pt (pw_or (pt_cmpR op_isN (pv 4) pe_non (nomark _)) (pw_or (pt_cmpR op_isN (pv 5) pe_non (nomark _)) (pw_or1 (pt_ifExp (pt_val (pv 1)) (pt_cmpR op_ne (pe_slice sl_str (pv 3) (po_some pe_int) (po_some pe_int)) pe_str (nomark _)) (pt_cmpR op_ne (pe_callB call_len_str (by rfl) T.z_len PySem.boot_len (pa_cons (pv 3) pa_nil)) pe_int (nomark _)))))))
          (pss_one (ps_ret pe_non))
          pss_nil)
        (pss_one (ps_expr (pe_bm PySem.F.plainAttrs_list PySem.F.slot_list_append PySem.F.type_list_append mt_append (pv 2) (pa_cons (pe_ifExp (pt_val (pv 1)) (pe_tup (pa_cons (pv 4) (pa_cons (pv 5) pa_nil))) (pv 4)) pa_nil))))))))
      (pss_one (ps_ret (pe_ifExp (pt_cmpR op_lt (pe_callB call_len_seq (by rfl) T.z_len PySem.boot_len (pa_cons (pv 2) pa_nil)) pe_int (nomark _)) (pe_callTy call_tuple_of (by rfl) T.z_tuple (by decide +kernel) (pa_cons (pv 2) pa_nil)) pe_non)))))), ?_⟩
    cases b with
    | true =>
      have k : ∀ H' v, Same H H' → OD K H' v ((listP t).map mvD) → Q v H' := k
      refine ⟨_, rfl, rfl, _, rfl, ?_⟩
      rw [str_dec]
      unfold listP at k
      by_cases c : t = "-"
      · rw [decide_eq_true c]
        rw [if_pos c] at k
        exact iteT ⟨by show 0 ≤ sizeLine; decide, fun q hq => k _ _ (same_new hq) ⟨(by intro z; cases z), .tup (SqT.of upd_same) .nil⟩⟩
      rw [decide_eq_false c]
      rw [if_neg c] at k
      refine iteF ?_
      refine ⟨by show 0 ≤ sizeLine; decide, fun l hl => ?_⟩
      have sl := same_new (o := .lst []) hl
      have hl1 : upd H l (.lst []) l = some (.lst []) := upd_same
      generalize upd H l (.lst []) = H1 at sl hl1 ⊢
      refine ⟨_, rfl, ⟨_, rfl⟩, _, _, rfl, rfl, by decide +kernel, by omega, fun q hq => ⟨q, rfl, ⟨_, SqL.of upd_same⟩, ?_⟩⟩
      generalize Txt.split t " " = zs at k hq b1 b2 ⊢
      have sq := sl.trans (same_new (o := .lst (zs.map V.str)) hq)
      have hq1 : upd H1 q (.lst (zs.map V.str)) q = some (.lst (zs.map V.str)) := upd_same
      have hl2 := same_new (o := .lst (zs.map V.str)) hq _ _ hl1
      have nql : q ≠ l := fun e => by rw [e, hl1] at hq; cases hq
      generalize upd H1 q (.lst (zs.map V.str)) = H2 at sq hq1 hl2 ⊢
      refine for_list (xs := zs.map V.str) (fun i σ B => ∃ (ns : List (Nat × Nat)) (us : List V) (v3 v4 v5 : Option V), σ = [some (.str t), some (.bl true), some (.ref l), v3, v4, v5] ∧ Same H B ∧ B q = some (.lst (zs.map V.str)) ∧ B l = some (.lst us) ∧ Dts K B us (ns.map fun x => PyData.tuple [.int (x.1 : Nat), .int (x.2 : Nat)]) ∧ (zs.take i).map pwF = ns.map some) ⟨[], [], none, none, none, rfl, sq, hq1, hl2, .nil, rfl⟩ (fun i σ B _ h => by obtain ⟨_, _, _, _, _, _, _, e, _⟩ := h; exact SqL.of e) (fun i w σ B hw hP => ?_) (fun σ B hP => ?_)
      · obtain ⟨ns, us, v3, v4, v5, rfl, sB, hqB, hlB, dB, ea⟩ := hP
        rw [List.getElem?_map] at hw
        obtain ⟨z, hz, rfl⟩ := Option.map_eq_some_iff.mp hw
        have lz := b2 z (List.mem_of_getElem? hz)
        have iz := (List.getElem?_eq_some_iff.mp hz).1
        have c1 := cutS_len z none (some 1)
        have lns : ns.length = i := by have := congrArg List.length ea; rw [List.length_map, List.length_map, List.length_take] at this; omega
        have lu := dB.len
        rw [List.length_map] at lu
        have bad : pwF z = none → OD K B .non ((few (allP (zs.map pwF))).map mvD) := fun h => by
          have : allP (zs.map pwF) = none := allP_none (i := i) (by rw [List.getElem?_map, hz]; exact congrArg some h)
          rw [this]
          rfl
        refine ⟨_, rfl, _, rfl, z, rfl, by omega, cutS z none (some 1), 0, 5, rfl, by omega, ?_⟩
        have c2 := cutS_len z (some 2) none
        have c3 := cutS_len z (some 1) (some 2)
        refine ⟨_, rfl, _, rfl, ?_⟩
        refine iteT ?_
        refine ⟨_, rfl, _, rfl, z, rfl, by omega, cutS z (some 2) none, 0, 8, rfl, by omega, ?_⟩
        refine ⟨_, rfl, rfl, _, rfl, ?_⟩
        cases e1 : digF (cutS z none (some 1)) 0 5 with
        | none =>
          refine iteT (iteT ?_)
          exact k _ _ sB (bad (by unfold pwF; rw [e1]))
        | some cr =>
        refine iteF ?_
        refine ⟨_, rfl, rfl, _, rfl, ?_⟩
        cases e2 : digF (cutS z (some 2) none) 0 8 with
        | none =>
          refine iteT (iteT ?_)
          exact k _ _ sB (bad (by unfold pwF; rw [e1, e2]))
        | some st =>
        refine iteF ?_
        refine ⟨_, rfl, _, rfl, ?_⟩
        refine iteT ?_
        refine ⟨_, rfl, _, rfl, _, rfl, z, rfl, by omega, rfl, _, rfl, ?_⟩
        rw [str_dec]
        by_cases g : cutS z (some 1) (some 2) = ">"
        · rw [decide_eq_true g]
          refine iteF ?_
          have ef : pwF z = some (cr, st) := by unfold pwF; rw [e1, e2]; exact if_pos g
          refine ⟨_, rfl, .inl ⟨rfl, _, SqL.of hlB⟩, _, rfl, _, rfl, ?_⟩
          refine iteT ⟨_, rfl, _, rfl, by show 2 ≤ sizeLine; decide, fun p hp => ?_⟩
          have sp := same_new (o := .tup [.int (cr : Nat), .int (st : Nat)]) hp
          have hlp := sp _ _ hlB
          have hp1 : upd B p (.tup [.int (cr : Nat), .int (st : Nat)]) p = some (.tup [.int (cr : Nat), .int (st : Nat)]) := upd_same
          have hqp := sp _ _ hqB
          have dp := dB.ks sp
          have sBp := sB.trans sp
          have sp : Same B (upd B p (.tup [oV (some cr), oV (some st)])) := sp
          have hlp : upd B p (.tup [oV (some cr), oV (some st)]) l = _ := hlp
          have hp1 : upd B p (.tup [oV (some cr), oV (some st)]) p = _ := hp1
          have hqp : upd B p (.tup [oV (some cr), oV (some st)]) q = _ := hqp
          have dp : Dts K (upd B p (.tup [oV (some cr), oV (some st)])) us _ := dp
          have sBp : Same H (upd B p (.tup [oV (some cr), oV (some st)])) := sBp
          generalize upd B p (.tup [oV (some cr), oV (some st)]) = B2 at hlp hp1 hqp dp sBp ⊢
          refine ⟨l, us, _, rfl, rfl, hlp, small1000 (by omega), ?_⟩
          refine ⟨ns ++ [(cr, st)], us ++ [.ref p], _, _, _, rfl, same_mut sBp hl, by rw [upd_ne nql]; exact hqp, upd_same, ?_, ?_⟩
          · rw [List.map_append]
            exact (dts_app dp (.cons (.tup (SqT.of hp1) (.cons (.int _) (.cons (.int _) .nil))) .nil)).k (Kt.lst hlp)
          · rw [take_succ_app hz, List.map_append, List.map_append, ea]
            show _ ++ [pwF z] = _
            rw [ef]
            rfl
        · rw [decide_eq_false g]
          refine iteT ?_
          exact k _ _ sB (bad (by unfold pwF; rw [e1, e2]; exact if_neg g))
      · obtain ⟨ns, us, v3, v4, v5, rfl, sB, hqB, hlB, dB, ea⟩ := hP
        rw [List.length_map, List.take_length] at ea
        have en : allP (zs.map pwF) = some ns := by rw [ea]; exact allP_all ns
        rw [en] at k
        have lu := dB.len
        rw [List.length_map] at lu
        refine ⟨_, rfl, l, _, rfl, .inl (SqL.of hlB), _, _, rfl, rfl, _, rfl, ?_⟩
        by_cases g : ns.length < 7
        · rw [decide_eq_true (by omega)]
          have ef : few (some ns) = some ns := if_pos g
          rw [ef] at k
          refine iteT ⟨_, rfl, l, us, rfl, .inl ⟨SqL.of hlB, fun p hp => ?_⟩⟩
          have sp := same_new (o := .tup us) hp
          exact k _ _ (sB.trans sp) ⟨(by intro z; cases z), .tup (SqT.of upd_same) (dB.ks sp)⟩
        · rw [decide_eq_false (by omega)]
          have ef : few (some ns) = none := if_neg g
          rw [ef] at k
          exact iteF (k _ _ sB rfl)
    | false =>
      have k : ∀ H' v, Same H H' → OD K H' v ((listC t).map iD) → Q v H' := k
      refine ⟨_, rfl, rfl, _, rfl, ?_⟩
      rw [str_dec]
      unfold listC at k
      by_cases c : t = "-"
      · rw [decide_eq_true c]
        rw [if_pos c] at k
        exact iteT ⟨by show 0 ≤ sizeLine; decide, fun q hq => k _ _ (same_new hq) ⟨(by intro z; cases z), .tup (SqT.of upd_same) .nil⟩⟩
      rw [decide_eq_false c]
      rw [if_neg c] at k
      refine iteF ?_
      refine ⟨by show 0 ≤ sizeLine; decide, fun l hl => ?_⟩
      have sl := same_new (o := .lst []) hl
      have hl1 : upd H l (.lst []) l = some (.lst []) := upd_same
      generalize upd H l (.lst []) = H1 at sl hl1 ⊢
      refine ⟨_, rfl, ⟨_, rfl⟩, _, _, rfl, rfl, by decide +kernel, by omega, fun q hq => ⟨q, rfl, ⟨_, SqL.of upd_same⟩, ?_⟩⟩
      generalize Txt.split t " " = zs at k hq b1 b2 ⊢
      have sq := sl.trans (same_new (o := .lst (zs.map V.str)) hq)
      have hq1 : upd H1 q (.lst (zs.map V.str)) q = some (.lst (zs.map V.str)) := upd_same
      have hl2 := same_new (o := .lst (zs.map V.str)) hq _ _ hl1
      have nql : q ≠ l := fun e => by rw [e, hl1] at hq; cases hq
      generalize upd H1 q (.lst (zs.map V.str)) = H2 at sq hq1 hl2 ⊢
      refine for_list (xs := zs.map V.str) (fun i σ B => ∃ (ns : List (Nat)) (us : List V) (v3 v4 v5 : Option V), σ = [some (.str t), some (.bl false), some (.ref l), v3, v4, v5] ∧ Same H B ∧ B q = some (.lst (zs.map V.str)) ∧ B l = some (.lst us) ∧ Dts K B us (ns.map fun (n : Nat) => PyData.int (n : Int)) ∧ (zs.take i).map cwF = ns.map some) ⟨[], [], none, none, none, rfl, sq, hq1, hl2, .nil, rfl⟩ (fun i σ B _ h => by obtain ⟨_, _, _, _, _, _, _, e, _⟩ := h; exact SqL.of e) (fun i w σ B hw hP => ?_) (fun σ B hP => ?_)
      · obtain ⟨ns, us, v3, v4, v5, rfl, sB, hqB, hlB, dB, ea⟩ := hP
        rw [List.getElem?_map] at hw
        obtain ⟨z, hz, rfl⟩ := Option.map_eq_some_iff.mp hw
        have lz := b2 z (List.mem_of_getElem? hz)
        have iz := (List.getElem?_eq_some_iff.mp hz).1
        have c1 := cutS_len z none (some 1)
        have lns : ns.length = i := by have := congrArg List.length ea; rw [List.length_map, List.length_map, List.length_take] at this; omega
        have lu := dB.len
        rw [List.length_map] at lu
        have bad : cwF z = none → OD K B .non ((few (allP (zs.map cwF))).map iD) := fun h => by
          have : allP (zs.map cwF) = none := allP_none (i := i) (by rw [List.getElem?_map, hz]; exact congrArg some h)
          rw [this]
          rfl
        refine ⟨_, rfl, _, rfl, z, rfl, by omega, cutS z none (some 1), 0, 5, rfl, by omega, ?_⟩
        refine ⟨_, rfl, _, rfl, ?_⟩
        refine iteF ?_
        refine ⟨_, rfl, rfl, _, rfl, ?_⟩
        cases e1 : digF (cutS z none (some 1)) 0 5 with
        | none =>
          refine iteT (iteT ?_)
          exact k _ _ sB (bad (by unfold cwF; rw [e1]))
        | some cr =>
        refine iteF ?_
        refine ⟨_, rfl, rfl, _, rfl, ?_⟩
        refine iteF ?_
        refine ⟨_, rfl, _, rfl, ?_⟩
        refine iteF ?_
        refine ⟨_, rfl, _, rfl, by omega, rfl, _, rfl, ?_⟩
        by_cases g : z.length = 1
        · rw [decide_eq_true (by rw [g]; rfl)]
          refine iteF ?_
          have ef : cwF z = some cr := by unfold cwF; rw [e1]; exact if_pos g
          refine ⟨_, rfl, .inl ⟨rfl, _, SqL.of hlB⟩, _, rfl, _, rfl, ?_⟩
          refine iteF ⟨_, rfl, ?_⟩
          refine ⟨l, us, _, rfl, rfl, hlB, small1000 (by omega), ?_⟩
          refine ⟨ns ++ [cr], us ++ [.int (cr : Nat)], _, _, _, rfl, same_mut sB hl, by rw [upd_ne nql]; exact hqB, upd_same, ?_, ?_⟩
          · rw [List.map_append]
            exact (dts_app dB (.cons (.int _) .nil)).k (Kt.lst hlB)
          · rw [take_succ_app hz, List.map_append, List.map_append, ea]
            show _ ++ [cwF z] = _
            rw [ef]
            rfl
        · rw [decide_eq_false (fun y => g (by injection y with y; omega))]
          refine iteT ?_
          exact k _ _ sB (bad (by unfold cwF; rw [e1]; exact if_neg g))
      · obtain ⟨ns, us, v3, v4, v5, rfl, sB, hqB, hlB, dB, ea⟩ := hP
        rw [List.length_map, List.take_length] at ea
        have en : allP (zs.map cwF) = some ns := by rw [ea]; exact allP_all ns
        rw [en] at k
        have lu := dB.len
        rw [List.length_map] at lu
        refine ⟨_, rfl, l, _, rfl, .inl (SqL.of hlB), _, _, rfl, rfl, _, rfl, ?_⟩
        by_cases g : ns.length < 7
        · rw [decide_eq_true (by omega)]
          have ef : few (some ns) = some ns := if_pos g
          rw [ef] at k
          refine iteT ⟨_, rfl, l, us, rfl, .inl ⟨SqL.of hlB, fun p hp => ?_⟩⟩
          have sp := same_new (o := .tup us) hp
          exact k _ _ (sB.trans sp) ⟨(by intro z; cases z), .tup (SqT.of upd_same) (dB.ks sp)⟩
        · rw [decide_eq_false (by omega)]
          have ef : few (some ns) = none := if_neg g
          rw [ef] at k
          exact iteF (k _ _ sB rfl)
end
end K83

namespace K83
open PySem L2 Wm TL Dv
section
variable {P : Program} {w : World} {K : PySem.W.Frag} {mg : Str → Option Value} {base : Heap}
def sp_told (K : PySem.W.Frag) : Sp := fun vs H Q _ => ∃ (p : Addr) (xs : List V) (t : Bool), vs = [.ref p] ∧ Kd.Is K t H p xs ∧ xs.length ≤ 100 ∧ (∀ x ∈ xs, Itm K H x) ∧
  (∀ rs : List Rw, xs.map accV = rs.map some → ∀ H' v, Same H H' → Dt K H' v (.tuple (rs.map rowD)) → Q v H') ∧ (∀ i : Nat, FirstN xs i → ∀ H', Same H H' → Q (.int (i : Nat)) H')
def sp_bent (K : PySem.W.Frag) : Sp := fun vs H Q _ => ∃ (b : Addr) (t : Str), vs = [.ref b, .str t] ∧ Bk H b ∧ 1 ≤ t.length ∧ t.length ≤ 100 ∧ ∀ H' (u : Str), u.length ≤ 300 → Bu b H H' → Bk H' b → Q (.str u) H'
theorem ok_told (T : Txt K mg) : FnOk P w K mg base CX0 9 T.a_told T.d_told ["_law_lines"] (sp_told K) := by
  refine T.F_told.ok sc_told (fun vs H Q E h => ?_) (fun cdv A outer s H vs Q E hr h => ?_)
  · obtain ⟨p, xs, t, rfl, _⟩ := h
    rfl
  · obtain ⟨p, xs, t, rfl, hx, l, hi, k, kE⟩ := h
    refine ⟨_, (pss_cons (Ta.ps_try_ass (W := fun _ _ _ _ => False) rfl rfl sc_told.nd takes0 (fun U pn xe tk _ => (pss_one (ps_set (i := 1) sc_told.nd rfl (Or.inl rfl) (pe_callS (ok_read_book T) (hr.mono (by decide)) rfl T.g_read_book T.F_read_book.kp T.b_read_book (fun σ => passAt tk σ) (by exact (pa_cons (pv 0) pa_nil)))))) (Ta.Hds.cons (h := ⟨Value.ref T.CP, 2, _⟩) rfl rfl ⟨rfl, by decide, Or.inl T.lowP.gC⟩ (fun a oe cls d pn hz hf => (pss_one (ps_ret (pe_byLowP T.lowP hz hf (pv 2))))) Ta.Hds.nil))
      (pss_one (ps_ret (pv 1)))), ?_⟩
    refine ⟨_, rfl, p, xs, t, rfl, hx, l, hi, fun rs e H' v s d => ?_, fun i fi H' d s hd => ?_⟩
    · exact ⟨_, rfl, k rs e _ _ s d⟩
    · exact ⟨true, T.lowP.te, fun _ ea hea => ⟨_, rfl, rfl, rfl, _, _, rfl, hd, kE i fi _ s⟩, (fun z => by cases z)⟩
theorem ok_bent (T : Txt K mg) : FnOk P w K mg base CX0 3 T.a_bent T.d_bent ["_law_bag_here", "_law_line_here"] (sp_bent K) := by
  refine T.F_bent.ok sc_bent (fun vs H Q E h => ?_) (fun cdv A outer s H vs Q E hr h => ?_)
  · obtain ⟨b, t, rfl, _⟩ := h
    rfl
  · obtain ⟨b, t, rfl, hb, l1, l2, k⟩ := h
    have big : (100000 : Nat) ≤ sizeLine := by decide
    refine ⟨_, (pss_cons (ps_par (i := 2) (j := 3) rfl sc_bent.nd rfl rfl (by decide) rfl rfl (pa_cons (pe_call (ok_take T) (hr.mono (by decide)) (by rfl) T.g_take T.F_take.kp T.b_take .nil pass0 (pa_cons (pv 0) (pa_cons (pe_callB call_len_str (by rfl) T.z_len PySem.boot_len (pa_cons (pv 1) pa_nil)) pa_nil))) (pa_cons (pe_call (ok_take T) (hr.mono (by decide)) (by rfl) T.g_take T.F_take.kp T.b_take .nil pass0 (pa_cons (pv 0) (pa_cons pe_int pa_nil))) pa_nil)) rfl)
      (pss_cons (ps_set (i := 4) sc_bent.nd rfl (Or.inl rfl) (pe_call (ok_of T) (hr.mono (by decide)) (by rfl) T.g_of T.F_of.kp T.b_of .nil pass0 (pa_cons (pv 0) (pa_cons (pe_callTy (St2.call_listS rfl) (by rfl) T.z_list (by decide +kernel) (pa_cons pe_str pa_nil)) pa_nil))))
      (pss_cons (ps_if (pt_cmpR op_eq (pv 3) pe_int (nomark _))
        (pss_one (ps_ret (pe_op op_add_str (pe_slice sl_str (pv 1) po_none (po_some (pv 2))) (pe_slice sl_str (pv 1) (po_some (pe_op op_add (pv 2) pe_int)) po_none))))
        pss_nil)
      (pss_cons (ps_if (pt_cmpR op_eq (pv 3) pe_int (nomark _))
        (pss_one (ps_ret (pe_op op_add_str (pe_op op_add_str (pe_slice sl_str (pv 1) po_none (po_some (pv 2))) (pe_ix ix_str (pv 1) (pv 2) (fun _ _ => rfl))) (pe_slice sl_str (pv 1) (po_some (pv 2)) po_none))))
        pss_nil)
      (pss_cons (ps_if (pt_cmpR op_eq (pv 3) pe_int (nomark _))
        (pss_one (ps_ret (pe_op op_add_str (pe_op op_add_str (pe_slice sl_str (pv 1) po_none (po_some (pv 2))) (pv 4)) (pe_slice sl_str (pv 1) (po_some (pv 2)) po_none))))
        pss_nil)
      (pss_cons (ps_if (pt_cmpR op_eq (pv 3) pe_int (nomark _))
        (pss_one (ps_ret (pe_op op_add_str (pe_op op_add_str (pe_slice sl_str (pv 1) po_none (po_some (pv 2))) (pv 4)) (pe_slice sl_str (pv 1) (po_some (pe_op op_add (pv 2) pe_int)) po_none))))
        pss_nil)
      (pss_one (ps_ret (pe_slice sl_str (pv 1) po_none (po_some (pv 2))))))))))), ?_⟩
    refine ⟨_, rfl, _, rfl, _, rfl, by omega, b, t.length, rfl, hb, by omega, by omega, fun H1 at_ hat bu1 hb1 => ?_⟩
    refine ⟨_, rfl, b, 5, rfl, hb1, by decide, by decide, fun H2 kd hkd bu2 hb2 => ⟨_, _, rfl, ?_⟩⟩
    have bu2 := bu1.trans bu2
    refine ⟨_, rfl, "0123456789-/> acb.\n", rfl, by decide, fun q hq => ?_⟩
    have sq := same_new (o := .lst (Si2.sgs "0123456789-/> acb.\n")) hq
    refine ⟨b, q, _, rfl, hb2.k sq, hb2.off hq, upd_same, by decide +kernel, by decide +kernel, fun H3 v mv bu3 hb3 => ?_⟩
    have bu3 := (bu2.trans (Bu.of sq)).trans bu3
    obtain ⟨sg, rfl, lsg⟩ : ∃ sg : Str, v = .str sg ∧ sg.length = 1 := by
      obtain ⟨c, _, rfl⟩ := List.mem_map.mp mv
      exact ⟨_, rfl, rfl⟩
    obtain ⟨c0, hc0⟩ : ∃ c, t.cps.toList[at_]? = some c := ⟨_, List.getElem?_eq_getElem (by have : t.length = t.cps.toList.length := len_tl t; omega)⟩
    have x1 := cutS_len t none (some (at_ : Nat))
    have x2 := cutS_len t (some (at_ : Nat)) none
    have x3 := cutS_len t (some ((at_ : Nat) + 1)) none
    have one : (⟨#[c0]⟩ : Str).length = 1 := rfl
    have fin : ∀ u : Str, u.length ≤ 300 → Q (.str u) H3 := fun u hu => k _ u hu bu3 hb3
    clear k
    have nx : ∀ {f : L2.St → Hp → Prop} {a b c} {σ : L2.St} {H : Hp}, f σ H → (Ends.mk f a b c).nx σ H := fun h => h
    refine ⟨_, rfl, rfl, _, rfl, ite2 (fun c1 => ?_) (fun c1 => ?_)⟩
    · refine ⟨_, rfl, _, rfl, _, rfl, t, rfl, by omega, _, rfl, _, rfl, _, _, rfl, rfl, _, rfl, t, rfl, by omega, _, _, rfl, rfl, by omega, fin _ (by rw [app_len]; omega)⟩
    refine ⟨_, rfl, rfl, _, rfl, ite2 (fun c2 => ?_) (fun c2 => ?_)⟩
    · exact ⟨_, rfl, _, rfl, _, rfl, t, rfl, by omega, _, rfl, _, rfl, t, (at_ : Nat), c0, rfl, rfl, by omega, atI_nat hc0, _, _, rfl, rfl, by omega, _, rfl, _, rfl, _, rfl, t, rfl, by omega, _, _, rfl, rfl, by rw [app_len]; omega, fin _ (by rw [app_len, app_len]; omega)⟩
    refine ⟨_, rfl, rfl, _, rfl, ite2 (fun c3 => ?_) (fun c3 => ?_)⟩
    · exact ⟨_, rfl, _, rfl, _, rfl, t, rfl, by omega, _, rfl, _, _, rfl, rfl, by omega, _, rfl, _, rfl, _, rfl, t, rfl, by omega, _, _, rfl, rfl, by rw [app_len]; omega, fin _ (by rw [app_len, app_len]; omega)⟩
    refine ⟨_, rfl, rfl, _, rfl, ite2 (fun c4 => ?_) (fun c4 => ?_)⟩
    · exact ⟨_, rfl, _, rfl, _, rfl, t, rfl, by omega, _, rfl, _, _, rfl, rfl, by omega, _, rfl, _, rfl, _, _, rfl, rfl, _, rfl, t, rfl, by omega, _, _, rfl, rfl, by rw [app_len]; omega, fin _ (by rw [app_len, app_len]; omega)⟩
    exact ⟨_, rfl, _, rfl, _, rfl, t, rfl, by omega, fin _ (by omega)⟩
theorem ok_wis_number (T : Txt K mg) : FnOk P w K mg base CX0 1 T.a_wis_number T.d_wis_number ["_law_text"] (sp_wis_number K) := by
  refine T.F_wis_number.ok sc_wis_number (fun vs H Q E h => ?_) (fun cdv A outer s H vs Q E hr h => ?_)
  · obtain ⟨t, rfl, _⟩ := h
    rfl
  · obtain ⟨t, rfl, hz, k⟩ := h
    have hl : t.length = (tl t).length := len_tl t
    have numlen : IsNum t → 1 ≤ t.length ∧ t.length ≤ 4 := fun ⟨ds, N, e⟩ => by
      rw [e, numS_len]
      exact ⟨N.pos, N.len⟩
    have bad : ∀ H', Same H H' → ¬ IsNum t → Q (.bl false) H' := fun H' s n => k _ _ s ⟨fun z => (by cases z), fun z => absurd z n⟩
    have big : (100000 : Nat) ≤ sizeLine := by decide
    refine ⟨_, (pss_cons (ps_if (PW.pt (pw_or (pt_cmpR op_eq (pv 0) pe_str (nomark _)) (pw_or (pt_cmpR op_gt (pe_callB call_len_str (by rfl) T.z_len PySem.boot_len (pa_cons (pv 0) pa_nil)) pe_int (nomark _)) (pw_or1 (pt_val (pe_callB (cr_any rfl) (by rfl) T.z_any (by decide +kernel) (pa_cons (pe_lc (own := [("_law_sign", 1)]) (g := gName 1) (tt := tYes) rfl sc_wis_number.nd (pi_str (pv 0)) (blkOk_by (own := [("_law_sign", 1)]) (N := nm_wis_number) (sc := (defScope s_wis_number)) (by decide +kernel)) (fun _ _ _ _ _ => pg_name (i := 1) sc_wis_number.nd rfl (Or.inl rfl)) (fun _ _ _ _ _ => pts_nil) (fun _ _ _ _ _ => (pe_cmpR op_notIn_sign (pv 1) pe_str rfl))) pa_nil)))))))
        (pss_one (ps_ret pe_bl))
        pss_nil)
      (pss_one (ps_ret (pe_cmpR op_lt (pe_callB (cr_sum rfl) (by rfl) T.z_sum (by decide +kernel) (pa_cons (pe_lc (own := [("_law_sign", 1)]) (g := gName 1) (tt := tYes) rfl sc_wis_number.nd (pi_str (pv 0)) (blkOk_by (own := [("_law_sign", 1)]) (N := nm_wis_number) (sc := (defScope s_wis_number)) (by decide +kernel)) (fun _ _ _ _ _ => pg_name (i := 1) sc_wis_number.nd rfl (Or.inl rfl)) (fun _ _ _ _ _ => pts_nil) (fun _ _ _ _ _ => (pe_callTy call_int_str (by rfl) T.z_int (by decide +kernel) (pa_cons (pv 1) pa_nil)))) pa_nil)) pe_int (nomark _))))), ?_⟩
    refine ⟨_, rfl, rfl, _, rfl, ?_⟩
    rw [str_dec]
    by_cases c1 : t = ""
    · rw [decide_eq_true c1]
      exact iteT (iteT (bad _ (Same.refl _) (fun z => by have := (numlen z).1; rw [c1] at this; exact absurd this (by decide))))
    rw [decide_eq_false c1]
    refine iteF ?_
    refine ⟨_, rfl, _, rfl, by omega, _, _, rfl, rfl, _, rfl, ?_⟩
    by_cases c2 : t.length ≤ 4
    case neg =>
      rw [decide_eq_true (by omega)]
      exact iteT (iteT (bad _ (Same.refl _) (fun z => c2 (numlen z).2)))
    rw [decide_eq_false (by omega)]
    refine iteF ?_
    refine ⟨_, rfl, _, rfl, fun D hD => ?_⟩
    have hsz : t.cps.size = (tl t).length := hl
    refine lc_it walk_str (fun i H' => Same H H' ∧ H' D = some (.lst ((((letters t).map not).take i).map V.bl))) ⟨same_new hD, upd_same⟩ (fun _ _ _ _ => trivial) (fun i x H1 H' hi hP hY => ?_) (fun H1 hP => ?_)
    · obtain ⟨sm, hL⟩ := hP
      obtain ⟨rfl, c, hc, rfl⟩ := hY
      have hc2 : ((letters t).map not)[i]? = some (!decide (c ∈ ("123456789" : Str).cps.toList)) := by
        unfold letters
        rw [List.getElem?_map, List.getElem?_map, cps_at hc]
        rfl
      refine ⟨rfl, yesT ?_⟩
      refine ⟨_, rfl, _, _, rfl, rfl, _, hL, by rw [List.length_map, List.length_take]; exact small1000 (by omega), ?_⟩
      refine ⟨same_mut sm hD, ?_⟩
      rw [upd_same, take_succ_map _ hc2]
    · obtain ⟨sm, hL⟩ := hP
      have ell : ((letters t).map not).length = t.cps.size := by unfold letters; rw [List.length_map, List.length_map, hsz]
      rw [← ell, List.take_length] at hL
      refine ⟨D, (letters t).map not, rfl, SqL.of hL, _, rfl, ?_⟩
      have ea : ((letters t).map not).any id = !(letters t).all id := by
        induction letters t with
        | nil => rfl
        | cons b bs ih => rw [List.map_cons, List.any_cons, List.all_cons, ih]; cases b <;> rfl
      rw [ea]
      by_cases c3 : (letters t).all id = true
      case neg =>
        rw [Bool.not_eq_true] at c3
        rw [c3]
        refine iteT (bad _ sm fun ⟨ds, N, e⟩ => ?_)
        have q := letters_all.mpr (by rw [e]; exact num_codes N.dig : ∀ c ∈ tl t, c ∈ ("123456789" : Str).cps.toList)
        rw [c3] at q
        cases q
      rw [c3]
      refine iteF ?_
      obtain ⟨ds, dig, et⟩ := dig_text t (letters_all.mp c3)
      subst et
      rw [numS_len] at c2
      have pos : 0 < ds.length := by
        cases ds with
        | nil => exact absurd numS_nil c1
        | cons _ _ => exact Nat.succ_pos _
      refine ⟨_, rfl, _, rfl, fun D2 hD2 => ?_⟩
      refine lc_it walk_str (fun i H' => Same H H' ∧ H' D2 = some (.lst ((ds.take i).map fun (d : Nat) => V.int (d : Int)))) ⟨sm.trans (same_new hD2), upd_same⟩ (fun _ _ _ _ => trivial) (fun i x H2 H' hi hP hY => ?_) (fun H2 hP => ?_)
      · obtain ⟨sm2, hl2⟩ := hP
        obtain ⟨rfl, c, hc, rfl⟩ := hY
        rw [numS_size] at hi
        rw [numS_at ds i hi] at hc
        have hc' := (Option.some.inj hc).symm
        subst hc'
        refine ⟨rfl, yesT ?_⟩
        refine ⟨_, rfl, _, _, rfl, dig_int (dig _ (List.getElem_mem hi)), (by show 1 ≤ 640; decide), _, hl2, by rw [List.length_map, List.length_take]; exact small1000 (by omega), ?_⟩
        refine ⟨same_mut sm2 (sm.free hD2), ?_⟩
        rw [upd_same, take_succ_map _ (List.getElem?_eq_getElem hi)]
      · obtain ⟨sm2, hl2⟩ := hP
        rw [numS_size, List.take_length] at hl2
        refine ⟨D2, ds.map fun (d : Nat) => (d : Int), rfl, SqL.of (by rw [hl2, List.map_map]; rfl), _, _, rfl, rfl, ?_⟩
        rw [sum_cast]
        refine k _ _ sm2 ?_
        rw [isnum_dig]
        constructor
        · intro z
          have z' : ((ds.sum : Nat) : Int) < 25 := of_decide_eq_true z
          exact ⟨by omega, by omega, dig, by omega⟩
        · intro N
          exact decide_eq_true (show ((ds.sum : Nat) : Int) < 25 by have := N.sum; omega)
end
end K83

namespace K83
open PySem L2 Wm TL Dv
section
variable {P : Program} {w : World} {K : PySem.W.Frag} {mg : Str → Option Value} {base : Heap}
theorem tl_cut0 (z : Str) (k : Nat) : tl (cutS z none (some (k : Int))) = (tl z).take k := by
  show ((z.cps.toList.drop (HT.sIx z.length 0 none)).take (HT.sIx z.length z.length (some (k : Int)) - HT.sIx z.length 0 none)) = z.cps.toList.take k
  rw [HT.sIx_none, HT.sIx_nat, List.drop_zero, Nat.sub_zero, List.take_eq_take_iff]
  have : z.length = z.cps.toList.length := len_tl z
  omega
theorem tl_cut1 (z : Str) (k : Nat) : tl (cutS z (some (k : Int)) none) = (tl z).drop k := by
  show ((z.cps.toList.drop (HT.sIx z.length 0 (some (k : Int)))).take (HT.sIx z.length z.length none - HT.sIx z.length 0 (some (k : Int)))) = z.cps.toList.drop k
  rw [HT.sIx_none, HT.sIx_nat]
  have e : z.length = z.cps.toList.length := len_tl z
  by_cases h : k ≤ z.length
  · rw [Nat.min_eq_left h, List.take_of_length_le (by rw [List.length_drop]; omega)]
  · rw [Nat.min_eq_right (by omega), Nat.sub_self, List.take_zero, List.drop_eq_nil_of_le (by omega)]
theorem tl_cut2 (z : Str) (i j : Nat) (h1 : i ≤ j) (h2 : j ≤ z.length) : tl (cutS z (some (i : Int)) (some (j : Int))) = ((tl z).drop i).take (j - i) := by
  show ((z.cps.toList.drop (HT.sIx z.length 0 (some (i : Int)))).take (HT.sIx z.length z.length (some (j : Int)) - HT.sIx z.length 0 (some (i : Int)))) = (z.cps.toList.drop i).take (j - i)
  rw [HT.sIx_nat, HT.sIx_nat, Nat.min_eq_left h2, Nat.min_eq_left (Nat.le_trans h1 h2)]
theorem tl_rjust (x : Str) (k : Nat) : tl (Txt.rjust x (k : Nat)) = List.replicate (k - x.length) 32 ++ tl x := by
  unfold Txt.rjust PySem.Builtin.Str.padded
  by_cases h : ((k : Nat) : Int) ≤ (x.length : Nat)
  · rw [if_pos h, show k - x.length = 0 by omega]
    rfl
  · rw [if_neg h]
    show (Array.replicate _ 32 ++ x.cps ++ Array.replicate 0 32).toList = _
    simp [tl]
theorem tl_ljust (x : Str) (k : Nat) : tl (Txt.ljust x (k : Nat)) = tl x ++ List.replicate (k - x.length) 32 := by
  unfold Txt.ljust PySem.Builtin.Str.padded
  by_cases h : ((k : Nat) : Int) ≤ (x.length : Nat)
  · rw [if_pos h, show k - x.length = 0 by omega]
    simp
  · rw [if_neg h]
    show (Array.replicate 0 32 ++ x.cps ++ Array.replicate _ 32).toList = _
    simp [tl]
theorem tl_sp : tl (" " : Str) = [32] := by decide +kernel
theorem sp_has (c : Nat) : (" " : Str).cps.contains c = decide (c = 32) := by
  have : (" " : Str).cps = #[32] := by decide +kernel
  rw [this]
  by_cases h : c = 32
  · subst h; simp
  · simp [h]
theorem getD_at (x : Str) (j : Nat) : x.cps.getD j 0 = (tl x).getD j 0 := (PyProof.Rows.getD_list x j).symm
theorem tl_lstrip (k : Nat) (L : List Nat) (x : Str) (hx : tl x = List.replicate k 32 ++ L) (hL : ∀ c, L.head? = some c → c ≠ 32) : tl (Txt.lstripChars x " ") = L := by
  unfold Txt.lstripChars
  rw [PyProof.Rows.stripBy_eq]
  obtain ⟨h1, h2, h3⟩ := PyProof.Rows.lo_facts ((" " : Str).cps.contains) x
  generalize PySem.stripLo ((" " : Str).cps.contains) true x = lo at h1 h2 h3 ⊢
  show (PySem.Builtin.Str.strSub x lo x.length).cps.toList = L
  rw [PySem.StrLaws.strSub_toList]
  have lx : x.length = k + L.length := by
    rw [len_tl x, hx]
    simp
  have g1 : ∀ j, j < k → x.cps.getD j 0 = 32 := fun j hj => by
    rw [getD_at, hx]
    simp [List.getD, List.getElem?_append_left, hj]
  have e : lo = k := by
    rcases Nat.lt_trichotomy lo k with h | h | h
    · rcases h3 with h3 | h3
      · omega
      · rw [g1 lo h, sp_has] at h3
        cases h3
    · exact h
    · have a := h2 k h
      have b : x.cps.getD k 0 = L.getD 0 0 := by
        rw [getD_at, hx]
        simp [List.getD, List.getElem?_append_right]
      rw [b, sp_has] at a
      cases L with
      | nil => rw [List.length_nil] at lx; omega
      | cons c r => exact absurd (of_decide_eq_true a) (hL c rfl)
  subst e
  have hx : x.cps.toList = List.replicate lo 32 ++ L := hx
  rw [hx, lx]
  simp
theorem tl_rstrip (k : Nat) (L : List Nat) (x : Str) (hx : tl x = L ++ List.replicate k 32) (hL : ∀ c, L.getLast? = some c → c ≠ 32) : tl (Txt.rstripChars x " ") = L := by
  unfold Txt.rstripChars
  rw [PyProof.Rows.stripBy_eq]
  have e0 : PySem.stripLo ((" " : Str).cps.contains) false x = 0 := rfl
  rw [e0]
  obtain ⟨h0, h1, h2, h3⟩ := PyProof.Rows.hi_facts ((" " : Str).cps.contains) x 0 (Nat.zero_le _)
  generalize PySem.stripHi ((" " : Str).cps.contains) true x 0 = hi at h1 h2 h3 ⊢
  show (PySem.Builtin.Str.strSub x 0 hi).cps.toList = L
  rw [PySem.StrLaws.strSub_toList]
  have lx : x.length = L.length + k := by
    rw [len_tl x, hx]
    simp
  have g1 : ∀ j, L.length ≤ j → j < x.length → x.cps.getD j 0 = 32 := fun j h1 h2 => by
    rw [getD_at, hx]
    simp [List.getD, List.getElem?_append_right h1]
    rw [List.getElem?_replicate, if_pos (by omega)]
    rfl
  have e : hi = L.length := by
    rcases Nat.lt_trichotomy hi L.length with h | h | h
    · have a := h2 (L.length - 1) (by omega) (by omega)
      have b : x.cps.getD (L.length - 1) 0 = L.getD (L.length - 1) 0 := by
        rw [getD_at, hx]
        simp [List.getD, List.getElem?_append_left (show L.length - 1 < L.length by omega)]
      rw [b, sp_has] at a
      have c : L.getLast? = some (L.getD (L.length - 1) 0) := by
        rw [List.getLast?_eq_getElem?, List.getD_eq_getElem?_getD, List.getElem?_eq_getElem (by omega)]
        rfl
      exact absurd (of_decide_eq_true a) (hL _ c)
    · exact h
    · rcases h3 with h3 | h3
      · omega
      · rw [g1 (hi - 1) (by omega) (by omega), sp_has] at h3
        cases h3
  subst e
  have hx : x.cps.toList = L ++ List.replicate k 32 := hx
  rw [hx]
  simp
theorem tl_str {a b : Str} (h : tl a = tl b) : a = b := ext_tl h
theorem tl_nat9 {n : Nat} (h : n ≤ 9) : tl (natS n) = [n + 48] := (nat_le9 h).2
theorem dg_nat {n : Nat} (h : n ≤ 9) : dgO (natS n) = some n := (dg_eq h (tl_nat9 h)).mp rfl
theorem split_one (p : Str) (h : 32 ∉ tl p) : Txt.split p " " = [p] := by
  have := split_join (y := " ") (s := 32) (S := []) tl_sp (by decide +kernel) (parts := [p]) (by simp) (fun q m => by rw [List.mem_singleton.mp m]; exact h)
  exact this
theorem split_nats {a : List Nat} (ne : a ≠ []) (h : ∀ x ∈ a, x ≤ 9) : Txt.split (Txt.join " " (a.map natS)) " " = a.map natS :=
  split_join (y := " ") (s := 32) (S := []) tl_sp (by decide +kernel) (fun e => ne (List.map_eq_nil_iff.mp e)) fun p m => by
    obtain ⟨x, mx, rfl⟩ := List.mem_map.mp m
    rw [tl_nat9 (h x mx)]
    have := h x mx
    intro z
    have := List.mem_singleton.mp z
    omega
theorem split_pvs {v : List (Nat × Nat)} (ne : v ≠ []) (h : ∀ x ∈ v, x.1 ≤ 9 ∧ x.2 ≤ 9) : Txt.split (Txt.join " " (v.map pvS)) " " = v.map pvS :=
  split_join (y := " ") (s := 32) (S := []) tl_sp (by decide +kernel) (fun e => ne (List.map_eq_nil_iff.mp e)) fun p m => by
    obtain ⟨x, mx, rfl⟩ := List.mem_map.mp m
    rw [(pv_len (h x mx)).2]
    intro z
    simp only [List.mem_cons, List.not_mem_nil, or_false] at z
    omega
theorem split_dash : Txt.split "-" " " = [("-" : Str)] := split_one "-" (by decide +kernel)
theorem nats_dash {a : List Nat} (ne : a ≠ []) (h : ∀ x ∈ a, x ≤ 9) : Txt.join " " (a.map natS) ≠ "-" := fun e => by
  have s := split_nats ne h
  rw [e, split_dash] at s
  cases a with
  | nil => exact ne rfl
  | cons x a =>
    injection s with s1 _
    have := congrArg tl s1
    rw [tl_nat9 (h x (List.mem_cons_self ..))] at this
    have t1 : tl ("-" : Str) = [45] := by decide +kernel
    rw [t1] at this
    injection this with this _
    omega
theorem pvs_dash {v : List (Nat × Nat)} (ne : v ≠ []) (h : ∀ x ∈ v, x.1 ≤ 9 ∧ x.2 ≤ 9) : Txt.join " " (v.map pvS) ≠ "-" := fun e => by
  have s := split_pvs ne h
  rw [e, split_dash] at s
  cases v with
  | nil => exact ne rfl
  | cons x a =>
    injection s with s1 _
    have := congrArg tl s1
    rw [(pv_len (h x (List.mem_cons_self ..))).2] at this
    have t1 : tl ("-" : Str) = [45] := by decide +kernel
    rw [t1] at this
    cases this
theorem map_some {α β : Type} {f : α → Option β} {g : β → α} {xs : List β} (h : ∀ x ∈ xs, f (g x) = some x) : (xs.map g).map f = xs.map some := by
  rw [List.map_map]
  exact List.map_congr_left h
theorem allO_all {k : Nat} : ∀ {ns : List Nat}, (∀ n ∈ ns, n ≤ k) → allO k (ns.map some) = some ns
  | [], _ => rfl
  | n :: ns, h => by
    show (if n ≤ k then (allO k (ns.map some)).map (n :: ·) else none) = _
    rw [if_pos (h n (List.mem_cons_self ..)), allO_all fun m hm => h m (List.mem_cons_of_mem _ hm)]
    rfl
theorem crews_back {a : List Nat} (ok : CwOk a) : crewsF (crT a) = some a := by
  unfold crT crewsF
  by_cases c : a = []
  · subst c; rfl
  · have h9 : ∀ x ∈ a, x ≤ 9 := fun x m => by have := ok.le x m; omega
    rw [if_neg c, if_neg (nats_dash c h9), split_nats c h9, List.length_map, if_pos ok.len, map_some (fun x m => dg_nat (h9 x m)), allO_all ok.le]
theorem pair_back {x : Nat × Nat} (h : x.1 ≤ 5 ∧ x.2 ≤ 8) : pairF (pvS x) = some x := by
  have e : pvS x = Txt.join ">" [natS x.1, natS x.2] := by rw [join_eq]; rfl
  have hs : Txt.split (pvS x) ">" = [natS x.1, natS x.2] := by
    rw [e]
    refine split_join (y := ">") (s := 62) (S := []) (by decide +kernel) (by decide +kernel) (by simp) fun p m => ?_
    simp only [List.mem_cons, List.not_mem_nil, or_false] at m
    rcases m with rfl | rfl
    · rw [tl_nat9 (by omega)]; intro z; have := List.mem_singleton.mp z; omega
    · rw [tl_nat9 (by omega)]; intro z; have := List.mem_singleton.mp z; omega
  unfold pairF
  rw [hs]
  show mvB [dgO (natS x.1), dgO (natS x.2)] = some x
  rw [dg_nat (by omega), dg_nat (by omega)]
  show (if x.1 ≤ 5 ∧ x.2 ≤ 8 then some (x.1, x.2) else none) = some x
  rw [if_pos h]
theorem pairs_back {v : List (Nat × Nat)} (ok : MvOk v) : pairsF (pvT v) = some v := by
  unfold pvT pairsF
  by_cases c : v = []
  · subst c; rfl
  · have h9 : ∀ x ∈ v, x.1 ≤ 9 ∧ x.2 ≤ 9 := fun x m => by have := ok.le x m; omega
    rw [if_neg c, if_neg (pvs_dash c h9), split_pvs c h9, List.length_map, if_pos ok.len, map_some (fun x m => pair_back (ok.le x m)), allP_all]
theorem dig_back {n lo hi : Nat} (h : n ≤ 9) (a : lo ≤ n) (b : n ≤ hi) : digF (natS n) lo hi = some n := by
  unfold digF
  rw [dg_nat h]
  exact if_pos ⟨a, b⟩
theorem cw_back {n : Nat} (h : n ≤ 5) : cwF (natS n) = some n := by
  have e : cutS (natS n) none (some 1) = natS n := tl_str (by
    have := tl_cut0 (natS n) 1
    rw [tl_nat9 (by omega)] at this
    rw [tl_nat9 (by omega)]
    exact this)
  unfold cwF
  rw [e, dig_back (by omega) (Nat.zero_le _) h]
  exact if_pos (nat_le9 (by omega)).1
theorem pw_back {x : Nat × Nat} (h : x.1 ≤ 5 ∧ x.2 ≤ 8) : pwF (pvS x) = some x := by
  obtain ⟨l3, et⟩ := pv_len (x := x) (by omega)
  have e1 : cutS (pvS x) none (some 1) = natS x.1 := tl_str (by
    have := tl_cut0 (pvS x) 1
    rw [et] at this
    rw [tl_nat9 (by omega)]
    exact this)
  have e2 : cutS (pvS x) (some 2) none = natS x.2 := tl_str (by
    have := tl_cut1 (pvS x) 2
    rw [et] at this
    rw [tl_nat9 (by omega)]
    exact this)
  have e3 : cutS (pvS x) (some 1) (some 2) = ">" := tl_str (by
    have := tl_cut2 (pvS x) 1 2 (by decide) (by omega)
    rw [et] at this
    have t1 : tl (">" : Str) = [62] := by decide +kernel
    rw [t1]
    exact this)
  unfold pwF
  rw [e1, e2, dig_back (by omega) (Nat.zero_le _) h.1, dig_back (by omega) (Nat.zero_le _) h.2]
  exact if_pos e3
theorem listC_back {a : List Nat} (ok : CwOk a) : listC (crT a) = some a := by
  unfold crT listC
  by_cases c : a = []
  · subst c; rfl
  · have h9 : ∀ x ∈ a, x ≤ 9 := fun x m => by have := ok.le x m; omega
    rw [if_neg c, if_neg (nats_dash c h9), split_nats c h9, map_some (fun x m => cw_back (ok.le x m)), allP_all]
    exact if_pos (by have := ok.len; omega)
theorem listP_back {v : List (Nat × Nat)} (ok : MvOk v) : listP (pvT v) = some v := by
  unfold pvT listP
  by_cases c : v = []
  · subst c; rfl
  · have h9 : ∀ x ∈ v, x.1 ≤ 9 ∧ x.2 ≤ 9 := fun x m => by have := ok.le x m; omega
    rw [if_neg c, if_neg (pvs_dash c h9), split_pvs c h9, map_some (fun x m => pw_back (ok.le x m)), allP_all]
    exact if_pos (by have := ok.len; omega)
end
end K83

namespace K83
open PySem L2 Wm TL Dv
section
variable {P : Program} {w : World} {K : PySem.W.Frag} {mg : Str → Option Value} {base : Heap}
theorem mem_joinL {S : List Nat} {c : Nat} : ∀ {ps : List (List Nat)}, c ∈ joinL S ps → c ∈ S ∨ ∃ p ∈ ps, c ∈ p
  | [], h => by cases h
  | [p], h => .inr ⟨p, by simp, h⟩
  | p :: q :: r, h => by
    have h : c ∈ p ++ (S ++ joinL S (q :: r)) := h
    rcases List.mem_append.mp h with h | h
    · exact .inr ⟨p, by simp, h⟩
    · rcases List.mem_append.mp h with h | h
      · exact .inl h
      · rcases mem_joinL h with h | ⟨x, m, h⟩
        · exact .inl h
        · exact .inr ⟨x, List.mem_cons_of_mem _ m, h⟩
theorem tl_slash : tl (" / " : Str) = [32, 47, 32] := by decide +kernel
theorem pre_47 {p q : List Nat} (h : 47 ∉ p) (hq : q = [] ∨ ∃ r, q = 32 :: r) : ∀ i, i < p.length → pre [32, 47, 32] ((p ++ q).drop i) = false := fun i hi => by
  cases e : pre [32, 47, 32] ((p ++ q).drop i) with
  | false => rfl
  | true =>
    have e : ((p ++ q).drop i).take 3 = [32, 47, 32] := eq_of_beq e
    have g : ((p ++ q).drop i)[1]? = some 47 := by
      have : (((p ++ q).drop i).take 3)[1]? = some 47 := by rw [e]; rfl
      rwa [List.getElem?_take_of_lt (by decide)] at this
    rw [List.getElem?_drop] at g
    by_cases c : i + 1 < p.length
    · rw [List.getElem?_append_left c] at g
      exact absurd (List.mem_of_getElem? g) h
    · rw [List.getElem?_append_right (by omega), show i + 1 - p.length = 0 by omega] at g
      rcases hq with rfl | ⟨r, rfl⟩
      · cases g
      · cases g
theorem spl_slash : ∀ {ps : List (List Nat)}, ps ≠ [] → (∀ p ∈ ps, 47 ∉ p) → spl [32, 47, 32] 0 [] (joinL [32, 47, 32] ps) = ps
  | [], h, _ => absurd rfl h
  | [p], _, hp => by
    show spl [32, 47, 32] 0 [] p = [p]
    have := pre_47 (q := []) (hp p (List.mem_singleton.mpr rfl)) (.inl rfl)
    rw [List.append_nil] at this
    rw [spl_last this, List.nil_append]
  | p :: q :: r, _, hp => by
    show spl [32, 47, 32] 0 [] (p ++ ([32, 47, 32] ++ joinL [32, 47, 32] (q :: r))) = p :: q :: r
    rw [spl_part (by simp) (pre_47 (hp p (List.mem_cons_self ..)) (.inr ⟨_, rfl⟩)), List.nil_append, spl_slash (by simp) fun z hz => hp z (List.mem_cons_of_mem _ hz)]
theorem split_slash {ps : List Str} (ne : ps ≠ []) (h : ∀ p ∈ ps, 47 ∉ tl p) : Txt.split (Txt.join " / " ps) " / " = ps := by
  refine map_tl_inj ?_
  rw [split_spl _ _ sep_sl.ne (kind_ok sep_sl.kd), join_eq, tl_join, tl_slash]
  refine spl_slash (fun e => ne (List.map_eq_nil_iff.mp e)) fun p m => ?_
  obtain ⟨z, hz, rfl⟩ := List.mem_map.mp m
  exact h z hz
theorem nats_free {a : List Nat} (h : ∀ x ∈ a, x ≤ 9) : ∀ c ∈ tl (Txt.join " " (a.map natS)), c = 32 ∨ (48 ≤ c ∧ c ≤ 57) := fun c m => by
  rw [join_eq, tl_join, tl_sp] at m
  rcases mem_joinL m with m | ⟨p, mp, m⟩
  · exact .inl (List.mem_singleton.mp m)
  · rw [List.map_map] at mp
    obtain ⟨x, mx, rfl⟩ := List.mem_map.mp mp
    have m : c ∈ tl (natS x) := m
    rw [tl_nat9 (h x mx)] at m
    have := List.mem_singleton.mp m
    have := h x mx
    omega
theorem pvs_free {v : List (Nat × Nat)} (h : ∀ x ∈ v, x.1 ≤ 9 ∧ x.2 ≤ 9) : ∀ c ∈ tl (Txt.join " " (v.map pvS)), c = 32 ∨ c = 62 ∨ (48 ≤ c ∧ c ≤ 57) := fun c m => by
  rw [join_eq, tl_join, tl_sp] at m
  rcases mem_joinL m with m | ⟨p, mp, m⟩
  · exact .inl (List.mem_singleton.mp m)
  · rw [List.map_map] at mp
    obtain ⟨x, mx, rfl⟩ := List.mem_map.mp mp
    have m : c ∈ tl (pvS x) := m
    rw [(pv_len (h x mx)).2] at m
    simp only [List.mem_cons, List.not_mem_nil, or_false] at m
    have := h x mx
    omega
theorem tl_dash : tl ("-" : Str) = [45] := by decide +kernel
theorem crT_free {a : List Nat} (ok : CwOk a) : ∀ c ∈ tl (crT a), c = 32 ∨ c = 45 ∨ (48 ≤ c ∧ c ≤ 57) := fun c m => by
  unfold crT at m
  split at m
  · rw [tl_dash] at m
    exact .inr (.inl (List.mem_singleton.mp m))
  · have := nats_free (fun x m => by have := ok.le x m; omega) c m
    omega
theorem pvT_free {v : List (Nat × Nat)} (ok : MvOk v) : ∀ c ∈ tl (pvT v), c = 32 ∨ c = 45 ∨ c = 62 ∨ (48 ≤ c ∧ c ≤ 57) := fun c m => by
  unfold pvT at m
  split at m
  · rw [tl_dash] at m
    exact .inr (.inl (List.mem_singleton.mp m))
  · have := pvs_free (fun x m => by have := ok.le x m; omega) c m
    omega
theorem parts_free {r : Rw} (ok : RwOk r) : ∀ p ∈ partsT r, 47 ∉ tl p := fun p m z => by
  cases r with
  | back t n a b =>
    have m : p ∈ [crT a, crT b] := m
    simp only [List.mem_cons, List.not_mem_nil, or_false] at m
    rcases m with rfl | rfl
    · have := crT_free ok.2.2.1 47 z; omega
    · have := crT_free ok.2.2.2 47 z; omega
  | sent mm t n g a v s =>
    have g3 := (grade_le ok).1
    obtain ⟨_, _, _, _, oa, ov, os⟩ := ok
    have m : p ∈ [natS g, crT a, pvT v, natS s] := m
    simp only [List.mem_cons, List.not_mem_nil, or_false] at m
    rcases m with rfl | rfl | rfl | rfl
    · rw [tl_nat9 (by omega)] at z; have := List.mem_singleton.mp z; omega
    · have := crT_free oa 47 z; omega
    · have := pvT_free ov 47 z; omega
    · rw [tl_nat9 (by omega)] at z; have := List.mem_singleton.mp z; omega
theorem parts_back {r : Rw} (ok : RwOk r) : Txt.split (Txt.join " / " (partsT r)) " / " = partsT r := split_slash (by cases r <;> (intro e; cases e)) (parts_free ok)
theorem told_back2 {r : Rw} (ok : RwOk r) : ∃ tl, toldF (wordR r) (partsT r) = some tl ∧ mkRow (tickR r) (numR r) tl = r := by
  cases r with
  | back t n a b =>
    refine ⟨(false, .back a b), ?_, rfl⟩
    unfold toldF
    rw [if_pos ⟨rfl, rfl⟩]
    have e1 : (partsT (.back t n a b)).getD 0 "" = crT a := rfl
    have e2 : (partsT (.back t n a b)).getD 1 "" = crT b := rfl
    rw [e1, e2, crews_back ok.2.2.1, crews_back ok.2.2.2]
  | sent m t n g a v s =>
    have g3 := grade_le ok
    obtain ⟨_, _, h1, h2, oa, ov, os⟩ := ok
    refine ⟨(m, .sent g a v s), ?_, rfl⟩
    have e3 : decide (wordR (.sent m t n g a v s) = "more") = m := by
      show decide (wordS m = "more") = m
      cases m <;> decide +kernel
    unfold toldF
    rw [if_neg (fun z => by cases z.2), if_pos ⟨by show wordS m = "call" ∨ wordS m = "more"; cases m; exact .inl rfl; exact .inr rfl, rfl⟩, e3]
    have e0 : (partsT (.sent m t n g a v s)).getD 0 "" = natS g := rfl
    have e1 : (partsT (.sent m t n g a v s)).getD 1 "" = crT a := rfl
    have e2 : (partsT (.sent m t n g a v s)).getD 2 "" = pvT v := rfl
    have e3 : (partsT (.sent m t n g a v s)).getD 3 "" = natS s := rfl
    have f0 : gradeF m (natS g) = some g := by
      unfold gradeF
      rw [dg_nat (by omega)]
      refine if_pos ?_
      cases m with
      | false => exact .inl ⟨rfl, h1 rfl⟩
      | true => exact .inr ⟨rfl, h2 rfl⟩
    have f3 : shortF (natS s) = some s := by
      unfold shortF
      rw [dg_nat (by omega)]
      exact if_pos os
    rw [e0, e1, e2, e3, f0, crews_back oa, pairs_back ov, f3]
end
end K83

namespace K83
open PySem L2 Wm TL Dv
section
variable {P : Program} {w : World} {K : PySem.W.Frag} {mg : Str → Option Value} {base : Heap}
theorem tl_tick (r : Rw) : tl (natS (tickR r)) = numL (tickR r) := tl_num _
def restT (r : Rw) : Str := Txt.ljust (wordR r) 5 ++ Txt.ljust (numR r) 5 ++ Txt.join " / " (partsT r)
theorem rend_rest (r : Rw) : rend r = Txt.rjust (natS (tickR r)) 6 ++ " " ++ restT r := by
  refine tl_str ?_
  unfold rend headT restT
  simp only [tl_append, List.append_assoc]
theorem numL_head (n : Nat) : ∀ c, (numL n).head? = some c → 48 ≤ c ∧ c ≤ 57 := fun c h => by
  have m : c ∈ numL n := by
    cases e : numL n with
    | nil => rw [e] at h; cases h
    | cons x l => rw [e] at h; cases h; exact List.mem_cons_self ..
  exact numL_digits n c m
theorem lstrip_rend (r : Rw) : Txt.lstripChars (rend r) " " = natS (tickR r) ++ " " ++ restT r := by
  refine tl_str ?_
  have e : tl (rend r) = List.replicate (6 - (natS (tickR r)).length) 32 ++ (numL (tickR r) ++ ([32] ++ tl (restT r))) := by
    have h := tl_rjust (natS (tickR r)) 6
    have h : tl (Txt.rjust (natS (tickR r)) 6) = _ := h
    rw [rend_rest, tl_append, tl_append, h, tl_sp, tl_tick]
    simp only [List.append_assoc]
  rw [tl_lstrip _ _ _ e (fun c h => by
    have h2 : (numL (tickR r)).head? = some c := by
      cases e : numL (tickR r) with
      | nil => exact absurd e (numL_ne _)
      | cons x l => rw [e] at h; exact h
    have := numL_head _ c h2
    omega), tl_append, tl_append, tl_tick, tl_sp]
  simp only [List.append_assoc]
theorem part_rend (r : Rw) : Txt.partition (Txt.lstripChars (rend r) " ") " " = (natS (tickR r), (" " : Str), restT r) := by
  rw [lstrip_rend]
  exact partition_app (y := " ") (s := 32) (S := []) tl_sp (by rw [tl_tick]; exact numL_free (.inl (by decide)))
theorem tick_back {t : Nat} (h : t < 10 ^ 9) : tickF (natS t) = some t := by
  have l := tick_len h
  have e : (natS t).cps.toList = numL t := tl_num t
  unfold tickF
  rw [e, if_pos ⟨l.1, l.2, fun c m => numL_digits t c m⟩, numL_val]
theorem ljW_len (r : Rw) : (Txt.ljust (wordR r) 5).length = 5 := by
  have l1 : (Txt.ljust (wordR r) 5).length = max 5 (wordR r).length := ljust_len _ 5
  rw [l1, word_len]
  rfl
theorem ljN_len {r : Rw} (ok : RwOk r) : (Txt.ljust (numR r) 5).length = 5 := by
  have l1 : (Txt.ljust (numR r) 5).length = max 5 (numR r).length := ljust_len _ 5
  have := num_le (rw_facts ok).2
  omega
theorem rest_tl (r : Rw) : tl (restT r) = tl (Txt.ljust (wordR r) 5) ++ (tl (Txt.ljust (numR r) 5) ++ tl (Txt.join " / " (partsT r))) := by
  unfold restT
  rw [tl_append, tl_append, List.append_assoc]
theorem cut_w (r : Rw) : cutS (restT r) none (some 5) = Txt.ljust (wordR r) 5 := tl_str (by
  have h := tl_cut0 (restT r) 5
  have h : tl (cutS (restT r) none (some 5)) = _ := h
  rw [h, rest_tl, List.take_left' (by rw [← len_tl]; exact ljW_len r)])
theorem cut_n {r : Rw} (ok : RwOk r) : cutS (restT r) (some 5) (some 10) = Txt.ljust (numR r) 5 := tl_str (by
  have hl : 10 ≤ (restT r).length := by
    unfold restT
    rw [app_len, app_len, ljW_len, ljN_len ok]
    omega
  have h := tl_cut2 (restT r) 5 10 (by decide) hl
  have h : tl (cutS (restT r) (some 5) (some 10)) = _ := h
  rw [h, rest_tl, List.drop_left' (by rw [← len_tl]; exact ljW_len r), List.take_left' (by rw [← len_tl]; exact ljN_len ok)])
theorem cut_j {r : Rw} (ok : RwOk r) : cutS (restT r) (some 10) none = Txt.join " / " (partsT r) := tl_str (by
  have h := tl_cut1 (restT r) 10
  have h : tl (cutS (restT r) (some 10) none) = _ := h
  rw [h, rest_tl, ← List.append_assoc, List.drop_left' (by rw [List.length_append, ← len_tl, ← len_tl, ljW_len, ljN_len ok])])
theorem rs_w (r : Rw) : Txt.rstripChars (Txt.ljust (wordR r) 5) " " = wordR r := tl_str (by
  have h : tl (Txt.ljust (wordR r) 5) = _ := tl_ljust (wordR r) 5
  refine tl_rstrip _ _ _ h fun c hc => ?_
  have back : ∀ c, (tl ("back" : Str)).getLast? = some c → c ≠ 32 := by
    have : tl ("back" : Str) = [98, 97, 99, 107] := by decide +kernel
    rw [this]; intro c h; cases h; decide
  have call : ∀ c, (tl ("call" : Str)).getLast? = some c → c ≠ 32 := by
    have : tl ("call" : Str) = [99, 97, 108, 108] := by decide +kernel
    rw [this]; intro c h; cases h; decide
  have more : ∀ c, (tl ("more" : Str)).getLast? = some c → c ≠ 32 := by
    have : tl ("more" : Str) = [109, 111, 114, 101] := by decide +kernel
    rw [this]; intro c h; cases h; decide
  cases r with
  | back t n a b => exact back c hc
  | sent m t n g a v s =>
    cases m with
    | false => exact call c hc
    | true => exact more c hc)
theorem num_codes2 {n : Str} (h : IsNum n) : ∀ c ∈ tl n, 49 ≤ c ∧ c ≤ 57 := fun c m => by
  obtain ⟨ds, N, rfl⟩ := h
  have m : c ∈ codes ds := m
  obtain ⟨d, md, rfl⟩ := List.mem_map.mp m
  have := N.dig d md
  omega
theorem rs_n {r : Rw} (ok : RwOk r) : Txt.rstripChars (Txt.ljust (numR r) 5) " " = numR r := tl_str (by
  have h : tl (Txt.ljust (numR r) 5) = _ := tl_ljust (numR r) 5
  refine tl_rstrip _ _ _ h fun c hc => ?_
  have := num_codes2 (rw_facts ok).2 c (List.mem_of_getLast? hc)
  omega)
theorem read_back {r : Rw} (ok : RwOk r) : readF (rend r) = some r := by
  obtain ⟨t9, nn⟩ := rw_facts ok
  obtain ⟨tl', e1, e2⟩ := told_back2 ok
  show mixF (tickF (Txt.partition (Txt.lstripChars (rend r) " ") " ").1) (toldF (Txt.rstripChars (cutS (Txt.partition (Txt.lstripChars (rend r) " ") " ").2.2 none (some 5)) " ") (Txt.split (cutS (Txt.partition (Txt.lstripChars (rend r) " ") " ").2.2 (some 10) none) " / ")) (Txt.rstripChars (cutS (Txt.partition (Txt.lstripChars (rend r) " ") " ").2.2 (some 5) (some 10)) " ") = some r
  rw [part_rend]
  show mixF (tickF (natS (tickR r))) (toldF (Txt.rstripChars (cutS (restT r) none (some 5)) " ") (Txt.split (cutS (restT r) (some 10) none) " / ")) (Txt.rstripChars (cutS (restT r) (some 5) (some 10)) " ") = some r
  rw [tick_back t9, cut_w, rs_w, cut_j ok, parts_back ok, e1, cut_n ok, rs_n ok]
  have em : mixF (some (tickR r)) (some tl') (numR r) = some (mkRow (tickR r) (numR r) tl') := if_pos nn
  rw [em, e2]
theorem acc_back {r : Rw} (ok : RwOk r) : accF (rend r) = some r := by
  unfold accF
  rw [read_back ok]
  exact if_pos rfl
theorem acc_iff {x : Str} {r : Rw} : accF x = some r ↔ RwOk r ∧ rend r = x := by
  constructor
  · intro h
    obtain ⟨a, b⟩ := accF_ok h
    exact ⟨readF_ok a, b⟩
  · rintro ⟨ok, rfl⟩
    exact acc_back ok
theorem rend_inj {r q : Rw} (a : RwOk r) (b : RwOk q) (e : rend r = rend q) : r = q := by
  have h := acc_back a
  rw [e, acc_back b] at h
  exact (Option.some.inj h).symm
/-! the law's own words -/
def fw (l : List Nat) : List (List Nat) := (spl [32] 0 [] l).filter fun p => decide (p ≠ [])
theorem fw_sp (l : List Nat) : fw (32 :: l) = fw l := by
  unfold fw
  have e : spl [32] 0 [] ([] ++ ([32] ++ l)) = ([] ++ []) :: spl [32] 0 [] l := spl_part1 (s := 32) (S := []) (p := []) (by simp)
  have e : spl [32] 0 [] (32 :: l) = [] :: spl [32] 0 [] l := e
  rw [e]
  rfl
theorem fw_sps (k : Nat) (l : List Nat) : fw (List.replicate k 32 ++ l) = fw l := by
  induction k with
  | zero => rfl
  | succ k ih => rw [List.replicate_succ, List.cons_append, fw_sp, ih]
theorem fw_word {p l : List Nat} (h : 32 ∉ p) (ne : p ≠ []) : fw (p ++ (32 :: l)) = p :: fw l := by
  unfold fw
  have e : spl [32] 0 [] (p ++ ([32] ++ l)) = ([] ++ p) :: spl [32] 0 [] l := spl_part1 (s := 32) (S := []) h
  have e : spl [32] 0 [] (p ++ (32 :: l)) = p :: spl [32] 0 [] l := e
  rw [e]
  simp [ne]
theorem first_sp : ∀ {l : List Nat}, 32 ∈ l → ∃ p q, l = p ++ (32 :: q) ∧ 32 ∉ p
  | [], h => by cases h
  | d :: l, h => by
    by_cases e : d = 32
    · subst e
      exact ⟨[], l, rfl, by simp⟩
    · rcases List.mem_cons.mp h with h | h
      · exact absurd h.symm e
      · obtain ⟨p, q, rfl, hp⟩ := first_sp h
        refine ⟨d :: p, q, rfl, fun z => ?_⟩
        rcases List.mem_cons.mp z with z | z
        · exact e z.symm
        · exact hp z
theorem fw_ne {l : List Nat} {c : Nat} (m : c ∈ l) (hc : c ≠ 32) : fw l ≠ [] := by
  induction l with
  | nil => cases m
  | cons d l ih =>
    by_cases e : d = 32
    · subst e
      rw [fw_sp]
      rcases List.mem_cons.mp m with rfl | m
      · exact absurd rfl hc
      · exact ih m
    · intro z
      by_cases h : 32 ∈ (d :: l)
      · obtain ⟨p, q, e2, hp⟩ := first_sp h
        have ne : p ≠ [] := fun z => by
          rw [z] at e2
          injection e2 with e3 _
          exact e e3
        rw [e2, fw_word hp ne] at z
        cases z
      · have e2 : spl [32] 0 [] (d :: l) = [d :: l] := by
          have := spl_last1 (s := 32) (S := []) (acc := []) h
          exact this
        unfold fw at z
        rw [e2] at z
        simp at z
def wordsT (x : Str) : List Str := (Txt.split x " ").filter fun p => decide (p ≠ "")
theorem words_tl (x : Str) : (wordsT x).map tl = fw (tl x) := by
  have e := split_spl x " " sep_sp.ne (kind_ok sep_sp.kd)
  rw [tl_sp] at e
  unfold wordsT fw
  rw [← e, List.filter_map]
  congr 1
  refine List.filter_congr fun p _ => ?_
  show decide (p ≠ "") = decide (tl p ≠ [])
  refine decide_eq_decide.mpr ⟨fun h z => h (tl_str z), fun h z => h (by rw [z]; rfl)⟩
theorem join_char {r : Rw} (ok : RwOk r) : ∃ c ∈ tl (Txt.join " / " (partsT r)), c ≠ 32 := by
  refine ⟨47, ?_, by decide⟩
  cases r with
  | back t n a b =>
    show 47 ∈ tl (Txt.join " / " [crT a, crT b])
    rw [join2, tl_append, tl_append, tl_slash]
    simp
  | sent m t n g a v s =>
    show 47 ∈ tl (Txt.join " / " [natS g, crT a, pvT v, natS s])
    rw [join4]
    simp only [tl_append, tl_slash]
    simp
theorem word_free (r : Rw) : 32 ∉ tl (wordR r) ∧ tl (wordR r) ≠ [] := by
  have back : 32 ∉ tl ("back" : Str) ∧ tl ("back" : Str) ≠ [] := by decide +kernel
  have call : 32 ∉ tl ("call" : Str) ∧ tl ("call" : Str) ≠ [] := by decide +kernel
  have more : 32 ∉ tl ("more" : Str) ∧ tl ("more" : Str) ≠ [] := by decide +kernel
  cases r with
  | back => exact back
  | sent m => cases m; exact call; exact more
theorem words_back {r : Rw} (ok : RwOk r) : ∃ m, m ≠ [] ∧ wordsT (rend r) = natS (tickR r) :: wordR r :: numR r :: m := by
  obtain ⟨t9, nn⟩ := rw_facts ok
  have n4 := num_le nn
  obtain ⟨wf, wn⟩ := word_free r
  have nf : 32 ∉ tl (numR r) := fun z => by have := num_codes2 nn 32 z; omega
  have nne : tl (numR r) ≠ [] := fun z => by
    obtain ⟨ds, N, e⟩ := nn
    have := N.pos
    have e2 : (numR r).length = ds.length := by rw [e, numS_len]
    rw [len_tl, z, List.length_nil] at e2
    omega
  have ew : tl (Txt.ljust (wordR r) 5) = tl (wordR r) ++ [32] := by
    have h : tl (Txt.ljust (wordR r) 5) = _ := tl_ljust (wordR r) 5
    rw [h, word_len]
    rfl
  have en : tl (Txt.ljust (numR r) 5) = tl (numR r) ++ (32 :: List.replicate (4 - (numR r).length) 32) := by
    have h : tl (Txt.ljust (numR r) 5) = _ := tl_ljust (numR r) 5
    rw [h, show 5 - (numR r).length = (4 - (numR r).length) + 1 by omega, List.replicate_succ]
  have e : fw (tl (rend r)) = numL (tickR r) :: tl (wordR r) :: tl (numR r) :: fw (tl (Txt.join " / " (partsT r))) := by
    have h : tl (Txt.rjust (natS (tickR r)) 6) = _ := tl_rjust (natS (tickR r)) 6
    rw [rend_rest, tl_append, tl_append, h, tl_sp, tl_tick, rest_tl, ew, en]
    simp only [List.append_assoc, List.cons_append, List.nil_append]
    rw [fw_sps, fw_word (numL_free (.inl (by decide))) (numL_ne _), fw_word wf wn, fw_word nf nne, fw_sps]
  have e := (words_tl (rend r)).trans e
  obtain ⟨c, mc, hc⟩ := join_char ok
  have ne := fw_ne mc hc
  match hw : wordsT (rend r) with
  | [] => rw [hw] at e; exact absurd (congrArg List.length e) (by simp)
  | [a] => rw [hw] at e; exact absurd (congrArg List.length e) (by simp)
  | [a, b] => rw [hw] at e; exact absurd (congrArg List.length e) (by simp)
  | a :: b :: d :: m =>
    rw [hw] at e
    injection e with e1 e
    injection e with e2 e
    injection e with e3 e
    refine ⟨m, fun z => ne (by rw [← e, z]; rfl), ?_⟩
    rw [tl_str (e1.trans (tl_tick r).symm), tl_str e2, tl_str e3]
theorem tail_back {r : Rw} (ok : RwOk r) : Txt.split (cutS (rend r) (some ((max 6 (natS (tickR r)).length + 11 : Nat) : Int)) none) " / " = partsT r := by
  have e : cutS (rend r) (some ((max 6 (natS (tickR r)).length + 11 : Nat) : Int)) none = Txt.join " / " (partsT r) := tl_str (by
    rw [tl_cut1]
    have hl : (headT r).length = max 6 (natS (tickR r)).length + 11 := by
      have r1 : (Txt.rjust (natS (tickR r)) 6).length = max 6 (natS (tickR r)).length := Fi.rjust_len _ 6
      have g1 : (" " : Str).length = 1 := by decide
      unfold headT
      rw [app_len, app_len, app_len, r1, ljW_len, ljN_len ok, g1] <;> omega
    unfold rend
    rw [tl_append, List.drop_left' (by rw [← len_tl]; exact hl)])
  rw [e]
  exact parts_back ok
end
end K83

namespace K83
open PySem L2 Wm TL Dv
section
variable {P : Program} {w : World} {K : PySem.W.Frag} {mg : Str → Option Value} {base : Heap}
def sp_read (K : PySem.W.Frag) : Sp := fun vs H Q _ => ∃ x : Str, vs = [.str x] ∧ x.length ≤ 400 ∧ ∀ H' v, Same H H' → OD K H' v ((accF x).map rowD) → Q v H'
theorem acc_none {x : Str} (h : ∀ r, RwOk r → rend r ≠ x) : accF x = none := by
  cases e : accF x with
  | none => rfl
  | some r => exact absurd (acc_iff.mp e).2 (h r (acc_iff.mp e).1)
theorem iD_inj {a b : List Nat} (h : iD a = iD b) : a = b := by
  have h : (a.map fun (n : Nat) => PyData.int (n : Int)) = b.map fun (n : Nat) => PyData.int (n : Int) := PyData.tuple.inj h
  refine List.map_inj_right (fun x y e => ?_) |>.mp h
  exact Int.ofNat_inj.mp (PyData.int.inj e)
theorem mvD_inj {a b : List (Nat × Nat)} (h : mvD a = mvD b) : a = b := by
  have h : (a.map fun x => PyData.tuple [.int (x.1 : Nat), .int (x.2 : Nat)]) = b.map fun x => PyData.tuple [.int (x.1 : Nat), .int (x.2 : Nat)] := PyData.tuple.inj h
  refine List.map_inj_right (fun x y e => ?_) |>.mp h
  have e := PyData.tuple.inj e
  injection e with e1 e
  injection e with e2 _
  exact Prod.ext (Int.ofNat_inj.mp (PyData.int.inj e1)) (Int.ofNat_inj.mp (PyData.int.inj e2))
theorem rest_inj {r q : Rw} (hw : wordR r = wordR q) (ht : tickR r = tickR q) (hn : numR r = numR q) (hr : restD r = restD q) : r = q := by
  have wm : ∀ m : Bool, wordS m ≠ "back" := fun m => by cases m <;> decide +kernel
  have wi : ∀ m n : Bool, wordS m = wordS n → m = n := fun m n h => by
    cases m <;> cases n <;> first | rfl | exact absurd h (by decide +kernel)
  cases r with
  | back t n a b =>
    cases q with
    | back t' n' a' b' =>
      injection hr with h1 h2
      injection h2 with h2 _
      have ht : t = t' := ht
      have hn : n = n' := hn
      rw [ht, hn, iD_inj h1, iD_inj h2]
    | sent m => exact absurd hw.symm (wm m)
  | sent m t n g a v s =>
    cases q with
    | back => exact absurd hw (wm m)
    | sent m' t' n' g' a' v' s' =>
      injection hr with h0 hr
      injection hr with h1 hr
      injection hr with h2 hr
      injection hr with h3 _
      have ht : t = t' := ht
      have hn : n = n' := hn
      rw [ht, hn, wi m m' hw, Int.ofNat_inj.mp (PyData.int.inj h0), iD_inj h1, mvD_inj h2, Int.ofNat_inj.mp (PyData.int.inj h3)]
theorem few_ok {α : Type} {o : Option (List α)} {xs : List α} (h : few o = some xs) : o = some xs ∧ xs.length ≤ 6 := by
  unfold few at h
  split at h
  · split at h
    · cases h; exact ⟨rfl, by omega⟩
    · cases h
  · cases h
theorem digF_ok {t : Str} {lo hi d : Nat} (h : digF t lo hi = some d) : lo ≤ d ∧ d ≤ hi := by
  unfold digF at h
  split at h
  · split at h
    · cases h; assumption
    · cases h
  · cases h
theorem listC_ok {t : Str} {a : List Nat} (h : listC t = some a) : CwOk a := by
  unfold listC at h
  split at h
  · cases h; exact ⟨by decide, fun _ m => by cases m⟩
  · obtain ⟨e, l⟩ := few_ok h
    have e := allP_some e
    refine ⟨l, fun x m => ?_⟩
    have hm : some x ∈ (Txt.split t " ").map cwF := by rw [e]; exact List.mem_map.mpr ⟨x, m, rfl⟩
    obtain ⟨z, _, ez⟩ := List.mem_map.mp hm
    unfold cwF at ez
    split at ez
    · rename_i c hc
      split at ez
      · cases ez; exact (digF_ok hc).2
      · cases ez
    · cases ez
theorem listP_ok {t : Str} {a : List (Nat × Nat)} (h : listP t = some a) : MvOk a := by
  unfold listP at h
  split at h
  · cases h; exact ⟨by decide, fun _ m => by cases m⟩
  · obtain ⟨e, l⟩ := few_ok h
    have e := allP_some e
    refine ⟨l, fun x m => ?_⟩
    have hm : some x ∈ (Txt.split t " ").map pwF := by rw [e]; exact List.mem_map.mpr ⟨x, m, rfl⟩
    obtain ⟨z, _, ez⟩ := List.mem_map.mp hm
    unfold pwF at ez
    split at ez
    · rename_i c s hc hs
      split at ez
      · cases ez; exact ⟨(digF_ok hc).2, (digF_ok hs).2⟩
      · cases ez
    · cases ez
theorem od_listC (t : Str) : ∀ d, ((listC t).map iD) = some d → TW d := fun d h => by
  obtain ⟨ns, _, rfl⟩ := Option.map_eq_some_iff.mp h
  exact tw_iD ns
theorem od_listP (t : Str) : ∀ d, ((listP t).map mvD) = some d → TW d := fun d h => by
  obtain ⟨ns, _, rfl⟩ := Option.map_eq_some_iff.mp h
  exact tw_mvD ns
theorem wmS : ∀ m : Bool, wordS m ≠ "back" := fun m => by cases m <;> decide +kernel
theorem wiS : ∀ m n : Bool, wordS m = wordS n → m = n := fun m n h => by
  cases m <;> cases n <;> first | rfl | exact absurd h (by decide +kernel)
/-- what the law's own parts tell of a row: its rest, if there is one -/
structure PartsOk (x w1 w2 : Str) (n : Nat) (os : List (Option PyData)) : Prop where
  back : ∀ r, RwOk r → rend r = x → allP os = some (restD r)
  ok : ∀ ds, allP os = some ds → ∃ r, RwOk r ∧ wordR r = w1 ∧ tickR r = n ∧ numR r = w2 ∧ ds = restD r
theorem ok_read (T : Txt K mg) : FnOk P w K mg base CX0 3 T.a_read T.d_read ["_law_line_here"] (sp_read K) := by
  refine T.F_read.ok sc_read (fun vs H Q E h => ?_) (fun cdv A outer s H vs Q E hr h => ?_)
  · obtain ⟨x, rfl, _⟩ := h
    rfl
  · obtain ⟨x, rfl, l, k⟩ := h
    have big : (100000 : Nat) ≤ sizeLine := by decide
    obtain ⟨b1, b2⟩ := split_len (t := x) sep_sp
    have none_ : ∀ H', Same H H' → (∀ r, RwOk r → rend r ≠ x) → Q .non H' := fun H' s h => k _ _ s (by rw [acc_none h]; rfl)
    refine ⟨_, (pss_cons (ps_set (i := 1) sc_read.nd rfl (Or.inl rfl) (pe_split (pv 0) pe_str))
      (pss_cons (ps_setLc (i := 1) (own := [("_law_word", 2)]) (g := gName 2) rfl sc_read.nd rfl rfl (sw_true rfl rfl rfl (by decide +kernel)) (pi_list (pv 1)) (blkOk_by (own := [("_law_word", 2)]) (N := nm_read) (sc := (defScope s_read)) (by decide +kernel)) (fun _ _ _ _ _ => pg_name (i := 2) sc_read.nd rfl (Or.inl rfl)) (fun _ _ _ _ _ => (pts_one (pt_cmpR op_ne (pv 2) pe_str (nomark _)))) (fun _ _ _ _ _ => (pv 2)))
      (pss_cons (ps_if (PW.pt (pw_or (pt_cmpR op_lt (pe_callB call_len_seq (by rfl) T.z_len PySem.boot_len (pa_cons (pv 1) pa_nil)) pe_int (nomark _)) (pw_or (pt_cmpR op_notIn_seq (pe_ix ix_list (pv 1) pe_int (fun _ _ => rfl)) (pe_tup (pa_cons pe_str (pa_cons pe_str (pa_cons pe_str pa_nil)))) rfl) (pw_or1 (pt_not (pt_val (pe_call (ok_wis_number T) (hr.mono (by decide)) (by rfl) T.g_wis_number T.F_wis_number.kp T.b_wis_number .nil pass0 (pa_cons (pe_ix ix_list (pv 1) pe_int (fun _ _ => rfl)) pa_nil))))))))
        (pss_one (ps_ret pe_non))
        pss_nil)
      (pss_cons (ps_set (i := 3) sc_read.nd rfl (Or.inl rfl) (pe_ix ix_list (pv 1) pe_int (fun _ _ => rfl)))
      (pss_cons (ps_if (PW.pt (pw_or (pt_cmpR op_gt (pe_callB call_len_str (by rfl) T.z_len PySem.boot_len (pa_cons (pv 3) pa_nil)) pe_int (nomark _)) (pw_or (pt_val (pe_callB (cr_any rfl) (by rfl) T.z_any (by decide +kernel) (pa_cons (pe_lc (own := [("_law_sign", 4)]) (g := gName 4) (tt := tYes) rfl sc_read.nd (pi_str (pv 3)) (blkOk_by (own := [("_law_sign", 4)]) (N := nm_read) (sc := (defScope s_read)) (by decide +kernel)) (fun _ _ _ _ _ => pg_name (i := 4) sc_read.nd rfl (Or.inl rfl)) (fun _ _ _ _ _ => pts_nil) (fun _ _ _ _ _ => (pe_cmpR op_notIn_sign (pv 4) pe_str rfl))) pa_nil))) (pw_or1 (pt_cmpR op_ne (pv 3) (pe_callTy call_str_int (by rfl) T.z_str (by decide +kernel) (pa_cons (pe_callTy call_int_str (by rfl) T.z_int (by decide +kernel) (pa_cons (pv 3) pa_nil)) pa_nil)) (nomark _))))))
        (pss_one (ps_ret pe_non))
        pss_nil)
      (pss_cons (ps_set (i := 5) sc_read.nd rfl (Or.inl rfl) (pe_split (pe_slice sl_str (pv 0) (po_some (pe_op op_add (pe_callB (call_max2 rfl) (by rfl) T.z_max (by decide +kernel) (pa_cons pe_int (pa_cons (pe_callB call_len_str (by rfl) T.z_len PySem.boot_len (pa_cons (pv 3) pa_nil)) pa_nil))) pe_int)) po_none) pe_str))
      (C8.pss_cut (ps_if (pt_cmpR op_eq (pe_ix ix_list (pv 1) pe_int (fun _ _ => rfl)) pe_str (nomark _))
        (pss_one (ps_set (i := 6) sc_read.nd rfl (Or.inl rfl) (pe_ifExp (pt_cmpR op_eq (pe_callB call_len_seq (by rfl) T.z_len PySem.boot_len (pa_cons (pv 5) pa_nil)) pe_int (nomark _)) (pe_lst (pa_cons (pe_call (ok_list T) (hr.mono (by decide)) (by rfl) T.g_list T.F_list.kp T.b_list .nil pass0 (pa_cons (pe_ix ix_list (pv 5) pe_int (fun _ _ => rfl)) (pa_cons pe_bl pa_nil))) (pa_cons (pe_call (ok_list T) (hr.mono (by decide)) (by rfl) T.g_list T.F_list.kp T.b_list .nil pass0 (pa_cons (pe_ix ix_list (pv 5) (pe_un un_neg pe_int) (fun _ _ => rfl)) (pa_cons pe_bl pa_nil))) pa_nil))) (pe_lst (pa_cons pe_non pa_nil)))))
        (pss_one (ps_if (pt_cmpR op_eq (pe_callB call_len_seq (by rfl) T.z_len PySem.boot_len (pa_cons (pv 5) pa_nil)) pe_int (nomark _))
          (pss_cons (ps_set (i := 7) sc_read.nd rfl (Or.inl rfl) (pe_ifExp (pt_cmpR op_eq (pe_ix ix_list (pv 1) pe_int (fun _ _ => rfl)) pe_str (nomark _)) pe_int pe_int))
          (pss_cons (ps_set (i := 6) sc_read.nd rfl (Or.inl rfl) (pe_lst (pa_cons (pe_call (ok_digits T) (hr.mono (by decide)) (by rfl) T.g_digits T.F_digits.kp T.b_digits .nil pass0 (pa_cons (pe_ix ix_list (pv 5) pe_int (fun _ _ => rfl)) (pa_cons (pv 7) (pa_cons (pe_op op_sub (pe_op op_mul pe_int (pv 7)) pe_int) pa_nil)))) (pa_cons (pe_call (ok_list T) (hr.mono (by decide)) (by rfl) T.g_list T.F_list.kp T.b_list .nil pass0 (pa_cons (pe_ix ix_list (pv 5) pe_int (fun _ _ => rfl)) (pa_cons pe_bl pa_nil))) (pa_cons (pe_call (ok_list T) (hr.mono (by decide)) (by rfl) T.g_list T.F_list.kp T.b_list .nil pass0 (pa_cons (pe_ix ix_list (pv 5) pe_int (fun _ _ => rfl)) (pa_cons pe_bl pa_nil))) pa_nil)))))
          (pss_one (ps_expr (pe_bm PySem.F.plainAttrs_list PySem.F.slot_list_append PySem.F.type_list_append mt_append (pv 6) (pa_cons (pe_call (ok_digits T) (hr.mono (by decide)) (by rfl) T.g_digits T.F_digits.kp T.b_digits .nil pass0 (pa_cons (pe_ix ix_list (pv 5) pe_int (fun _ _ => rfl)) (pa_cons pe_int (pa_cons pe_int pa_nil)))) pa_nil))))))
          (pss_one (ps_set (i := 6) sc_read.nd rfl (Or.inl rfl) (pe_lst (pa_cons pe_non pa_nil)))))))
      (pss_cons (ps_if (pt_cmpR (show OpR _ _ (Ind.rInS K) from Ind.op_inS (Ind.room65 hr)) pe_non (pv 6) rfl)
        (pss_one (ps_ret pe_non))
        pss_nil)
      (pss_cons (ps_set (i := 8) sc_read.nd rfl (Or.inl rfl) (pe_op op_catA (pe_tup (pa_cons (pe_ix ix_list (pv 1) pe_int (fun _ _ => rfl)) (pa_cons (pe_callTy call_int_str (by rfl) T.z_int (by decide +kernel) (pa_cons (pv 3) pa_nil)) (pa_cons (pe_ix ix_list (pv 1) pe_int (fun _ _ => rfl)) pa_nil)))) (pe_callTy call_tuple_of (by rfl) T.z_tuple (by decide +kernel) (pa_cons (pv 6) pa_nil))))
      (pss_one (ps_ret (pe_ifExp (pt_cmpR op_eq (pe_call (ok_line T) (hr.mono (by decide)) (by rfl) T.g_line T.F_line.kp T.b_line .nil pass0 (pa_cons (pv 8) pa_nil)) (pv 0) (nomark _)) (pv 8) pe_non)))))))))))), ?_⟩
    refine ⟨_, rfl, ⟨_, rfl⟩, _, _, rfl, rfl, by decide +kernel, by omega, fun q hq => ?_⟩
    have sq := same_new (o := .lst ((Txt.split x " ").map V.str)) hq
    have hq1 : upd H q (.lst ((Txt.split x " ").map V.str)) q = some (.lst ((Txt.split x " ").map V.str)) := upd_same
    generalize upd H q (.lst ((Txt.split x " ").map V.str)) = H1 at sq hq1 ⊢
    refine ⟨_, rfl, q, rfl, ⟨_, SqL.of hq1⟩, fun D hD => ?_⟩
    refine lc_it (walk_list (xs := (Txt.split x " ").map V.str)) (fun i B => Same H1 B ∧ B D = some (.lst ((((Txt.split x " ").take i).filter fun p => decide ((p : Str) ≠ "")).map V.str))) ⟨same_new hD, upd_same⟩ (fun i B _ h => SqL.of (h.1 _ _ hq1)) (fun i y B B' hi hP hY => ?_) (fun B hP => ?_)
    · obtain ⟨sB, hDB⟩ := hP
      obtain ⟨rfl, hx⟩ := hY
      rw [List.getElem?_map] at hx
      obtain ⟨z, hz, rfl⟩ := Option.map_eq_some_iff.mp hx
      rw [List.length_map] at hi
      refine ⟨rfl, ?_⟩
      refine ⟨_, rfl, rfl, _, rfl, ?_⟩
      rw [str_dec]
      have fl : (((Txt.split x " ").take i).filter fun p => decide ((p : Str) ≠ "")).length ≤ i := Nat.le_trans (List.length_filter_le _ _) (by rw [List.length_take]; omega)
      by_cases c : z = ("" : Str)
      · rw [decide_eq_true c]
        refine iteF ⟨sB, ?_⟩
        rw [take_succ_app hz, List.filter_append]
        have : ([z].filter fun p => decide ((p : Str) ≠ "")) = [] := by rw [c]; rfl
        rw [this, List.append_nil]
        exact hDB
      · rw [decide_eq_false c]
        refine iteT ⟨_, rfl, _, hDB, by rw [List.length_map]; exact small1000 (by omega), same_mut sB hD, ?_⟩
        have : ([z].filter fun p => decide ((p : Str) ≠ "")) = [z] := by simp [c]
        rw [upd_same, take_succ_app hz, List.filter_append, this, List.map_append]
        rfl
    obtain ⟨sB, hDB⟩ := hP
    rw [List.length_map, List.take_length] at hDB
    have hDB : B D = some (.lst ((wordsT x).map V.str)) := hDB
    have sB := sq.trans sB
    have wl : ∀ p ∈ wordsT x, p.length ≤ 400 ∧ p ≠ ("" : Str) := fun p m => by
      obtain ⟨a, b⟩ := List.mem_filter.mp m
      exact ⟨by have := b2 p a; omega, of_decide_eq_true b⟩
    have wb := fun r (ok : RwOk r) (e : rend r = x) => (by have := words_back ok; rw [e] at this; exact this : ∃ m, m ≠ [] ∧ wordsT x = natS (tickR r) :: wordR r :: numR r :: m)
    generalize wordsT x = ws at hDB wl wb
    clear hq1 hD hq sq
    refine ⟨_, rfl, D, _, rfl, .inl (SqL.of hDB), _, _, rfl, rfl, _, rfl, ?_⟩
    rw [List.length_map]
    by_cases c1 : ws.length < 4
    · rw [decide_eq_true (by omega)]
      exact iteT (iteT (none_ _ sB fun r ok e => by
        obtain ⟨m, ne, e⟩ := wb r ok e
        have := List.length_pos_iff.mpr ne
        rw [e] at c1
        simp only [List.length_cons] at c1
        omega))
    rw [decide_eq_false (by omega)]
    refine iteF ?_
    obtain ⟨w0, w1, w2, m, rfl⟩ : ∃ w0 w1 w2 m, ws = w0 :: w1 :: w2 :: m := by
      match ws, c1 with
      | w0 :: w1 :: w2 :: m, _ => exact ⟨w0, w1, w2, m, rfl⟩
      | [], c => exact absurd (by show 0 < 4; decide) c
      | [_], c => exact absurd (by show 1 < 4; decide) c
      | [_, _], c => exact absurd (by show 2 < 4; decide) c
    have wb : ∀ r, RwOk r → rend r = x → w0 = natS (tickR r) ∧ w1 = wordR r ∧ w2 = numR r := fun r ok e => by
      obtain ⟨m', _, e⟩ := wb r ok e
      injection e with e1 e
      injection e with e2 e
      injection e with e3 _
      exact ⟨e1, e2, e3⟩
    have l0 := wl w0 (by simp)
    have l2' := wl w2 (by simp)
    refine ⟨_, rfl, D, _, 1, _, rfl, rfl, SqL.of hDB, atI_nat (j := 1) rfl, by show 3 ≤ sizeLine; decide, fun q3 hq3 => ?_⟩
    have s3 := same_new (o := .tup ([("call" : Str), "more", "back"].map V.str)) hq3
    refine ⟨q3, _, rfl, .inr (SqT.of upd_same), rfl, flat_strs [("call" : Str), "more", "back"], _, rfl, ?_⟩
    have ei : inV (.str w1) [V.str "call", V.str "more", V.str "back"] = decide (w1 ∈ [("call" : Str), "more", "back"]) := in_strs w1 [("call" : Str), "more", "back"]
    rw [if_pos rfl, ei]
    have s3 : Same B (upd B q3 (.tup [V.str "call", V.str "more", V.str "back"])) := s3
    have hDB := s3 _ _ hDB
    have sB := sB.trans s3
    generalize upd B q3 (.tup [V.str "call", V.str "more", V.str "back"]) = B1 at hDB sB ⊢
    clear s3 hq3
    by_cases c2 : w1 ∈ [("call" : Str), "more", "back"]
    case neg =>
      rw [decide_eq_false c2]
      refine iteT (iteT (none_ _ sB fun r ok e => c2 ?_))
      rw [(wb r ok e).2.1]
      cases r with
      | back => simp [wordR]
      | sent m => cases m <;> simp [wordR, wordS]
    rw [decide_eq_true c2]
    refine iteF ?_
    refine ⟨_, rfl, D, _, 2, _, rfl, rfl, SqL.of hDB, atI_nat (j := 2) rfl, w2, rfl, by omega, fun B2 b s2 hb => ⟨_, rfl, ?_⟩⟩
    have hDB := s2 _ _ hDB
    have sB := sB.trans s2
    clear s2
    cases b with
    | false =>
      refine iteT (none_ _ sB fun r ok e => ?_)
      have := hb.mpr (by rw [(wb r ok e).2.2]; exact (rw_facts ok).2)
      cases this
    | true =>
    have n2 : IsNum w2 := hb.mp rfl
    refine iteF ?_
    refine ⟨_, rfl, D, _, 0, _, rfl, rfl, SqL.of hDB, atI_nat (j := 0) rfl, ?_⟩
    refine ⟨_, rfl, _, rfl, by omega, _, _, rfl, rfl, _, rfl, ?_⟩
    by_cases c3 : w0.length ≤ 9
    case neg =>
      have e : decide (((w0.length : Nat) : Int) > 9) = true := decide_eq_true (by omega)
      show (if decide (((w0.length : Nat) : Int) > 9) = true then _ else _)
      rw [e]
      refine iteT (iteT (none_ _ sB fun r ok e => c3 ?_))
      rw [(wb r ok e).1]
      exact (tick_len (rw_facts ok).1).2
    have e : decide (((w0.length : Nat) : Int) > 9) = false := decide_eq_false (by omega)
    show (if decide (((w0.length : Nat) : Int) > 9) = true then _ else _)
    rw [e]
    refine iteF ?_
    refine ⟨_, rfl, _, rfl, fun D2 hD2 => ?_⟩
    have hl : w0.length = (tl w0).length := len_tl w0
    have hsz : w0.cps.size = (tl w0).length := hl
    refine lc_it walk_str (fun i H' => Same B2 H' ∧ H' D2 = some (.lst ((((digsB w0).map not).take i).map V.bl))) ⟨same_new hD2, upd_same⟩ (fun _ _ _ _ => trivial) (fun i x H1 H' hi hP hY => ?_) (fun B3 hP => ?_)
    · obtain ⟨sm, hL⟩ := hP
      obtain ⟨rfl, c, hc, rfl⟩ := hY
      have hc2 : ((digsB w0).map not)[i]? = some (!decide (48 ≤ c ∧ c ≤ 57)) := by
        unfold digsB
        rw [List.getElem?_map, List.getElem?_map, cps_at hc]
        rfl
      refine ⟨rfl, yesT ?_⟩
      refine ⟨_, rfl, _, _, rfl, rfl, ?_⟩
      rw [digs_mem]
      refine ⟨_, hL, by rw [List.length_map, List.length_take]; exact small1000 (by omega), ?_⟩
      refine ⟨same_mut sm hD2, ?_⟩
      rw [upd_same, take_succ_map _ hc2]
    obtain ⟨sm, hL⟩ := hP
    have ell : ((digsB w0).map not).length = w0.cps.size := by unfold digsB; rw [List.length_map, List.length_map, hsz]
    rw [← ell, List.take_length] at hL
    have hDB := sm _ _ hDB
    have sB := sB.trans sm
    refine ⟨D2, (digsB w0).map not, rfl, SqL.of hL, _, rfl, ?_⟩
    have ea : ((digsB w0).map not).any id = !(digsB w0).all id := by
      induction digsB w0 with
      | nil => rfl
      | cons b bs ih => rw [List.map_cons, List.any_cons, List.all_cons, ih]; cases b <;> rfl
    rw [ea]
    clear sm hL ell hD2
    by_cases c4 : (digsB w0).all id = true
    case neg =>
      have c4' := c4
      rw [Bool.not_eq_true] at c4
      rw [c4]
      refine iteT (iteT (none_ _ sB fun r ok e => c4' (digsB_all.mpr fun c mc => ?_)))
      rw [(wb r ok e).1] at mc
      have mc : c ∈ tl (natS (tickR r)) := mc
      rw [tl_tick] at mc
      exact numL_digits _ c mc
    rw [c4]
    refine iteF ?_
    have dg := digsB_all.mp c4
    have w0n : w0.cps.toList ≠ [] := fun z => l0.2 (tl_str z)
    have it := PySem.intText_digits dg w0n (by omega)
    have nlt : NumText.digitsVal w0.cps.toList < 10 ^ 9 := tickF_ok (t := w0) (if_pos ⟨by have := List.length_pos_iff.mpr w0n; have e : w0.length = w0.cps.toList.length := hl; omega, c3, dg⟩)
    have nb : ∀ r, RwOk r → rend r = x → NumText.digitsVal w0.cps.toList = tickR r := fun r ok e => by
      rw [(wb r ok e).1]
      have : (natS (tickR r)).cps.toList = numL (tickR r) := tl_tick r
      rw [this, numL_val]
    generalize NumText.digitsVal w0.cps.toList = n at it nlt nb
    refine ⟨_, rfl, _, rfl, _, _, rfl, it, by omega, _, rfl, Fi.log_small (Nat.lt_of_lt_of_le nlt (by decide)), rfl, _, rfl, ?_⟩
    show (if (!decide (V.str w0 = V.str (natS n))) = true then _ else _)
    rw [str_dec]
    by_cases c5 : w0 = natS n
    case neg =>
      rw [decide_eq_false c5]
      refine iteT (none_ _ sB fun r ok e => c5 ?_)
      rw [nb r ok e]
      exact (wb r ok e).1
    rw [decide_eq_true c5]
    refine iteF ?_
    refine ⟨_, rfl, _, rfl, w0, rfl, by omega, _, _, rfl, _, _, rfl, rfl, _, rfl, x, rfl, by omega, ⟨_, rfl⟩, _, _, rfl, rfl, by decide +kernel, by have := cutS_len x (some ((if ((w0.length : Nat) : Int) > 6 then ((w0.length : Nat) : Int) else 6) + 11)) none; omega, fun q5 hq5 => ?_⟩
    have tb : ∀ r, RwOk r → rend r = x → Txt.split (cutS x (some ((if ((w0.length : Nat) : Int) > 6 then ((w0.length : Nat) : Int) else 6) + 11)) none) " / " = partsT r := fun r ok e => by
      have := tail_back ok
      rw [← (wb r ok e).1, e] at this
      rw [← this]
      have : ((if ((w0.length : Nat) : Int) > 6 then ((w0.length : Nat) : Int) else 6) + 11) = ((max 6 w0.length + 11 : Nat) : Int) := by
        split <;> omega
      rw [this]
    obtain ⟨t1, t2⟩ := split_len (t := cutS x (some ((if ((w0.length : Nat) : Int) > 6 then ((w0.length : Nat) : Int) else 6) + 11)) none) sep_sl
    have t3 := cutS_len x (some ((if ((w0.length : Nat) : Int) > 6 then ((w0.length : Nat) : Int) else 6) + 11)) none
    have t2 : ∀ p ∈ Txt.split (cutS x (some ((if ((w0.length : Nat) : Int) > 6 then ((w0.length : Nat) : Int) else 6) + 11)) none) " / ", p.length ≤ 400 := fun p m => by have := t2 p m; omega
    clear t1 t3
    generalize Txt.split (cutS x (some ((if ((w0.length : Nat) : Int) > 6 then ((w0.length : Nat) : Int) else 6) + 11)) none) " / " = ts at tb t2 hq5 ⊢
    have s5 := same_new (o := .lst (ts.map V.str)) hq5
    have hq5 : upd B3 q5 (.lst (ts.map V.str)) q5 = some (.lst (ts.map V.str)) := upd_same
    have hDB := s5 _ _ hDB
    have sB := sB.trans s5
    generalize upd B3 q5 (.lst (ts.map V.str)) = B4 at hq5 hDB sB ⊢
    clear s5
    refine ⟨fun σ B' => ∃ (p : Addr) (us : List V) (os : List (Option PyData)) (o7 : Option V), σ = (((((List.set (L2.start nm_read [V.str x]) 1 (some (V.ref q))).set 1 (some (V.ref D))).set 3 (some (V.str w0))).set 5 (some (.ref q5))).set 6 (some (.ref p))).set 7 o7 ∧ Same H B' ∧ B' D = some (.lst ((w0 :: w1 :: w2 :: m).map V.str)) ∧ B' p = some (.lst us) ∧ ODs K B' us os ∧ us.length ≤ 4 ∧ PartsOk x w1 w2 n os, ?_, ?_⟩
    · refine ⟨_, rfl, D, _, 1, _, rfl, rfl, SqL.of hDB, atI_nat (j := 1) rfl, rfl, _, rfl, ?_⟩
      rw [str_dec]
      have nope : (∀ r, RwOk r → rend r = x → False) → PartsOk x w1 w2 n [none] := fun h => ⟨fun r ok e => (h r ok e).elim, fun ds e => by cases e⟩
      by_cases c6 : w1 = "back"
      · rw [decide_eq_true c6]
        refine iteT ?_
        refine ⟨_, rfl, q5, _, rfl, .inl (SqL.of hq5), rfl, _, rfl, ?_⟩
        by_cases c7 : ts.length = 2
        · rw [decide_eq_true (by rw [List.length_map, c7]; rfl)]
          refine iteT ?_
          obtain ⟨ta, tb2, rfl⟩ : ∃ a b, ts = [a, b] := by
            match ts, c7 with
            | [a, b], _ => exact ⟨a, b, rfl⟩
          refine ⟨_, rfl, q5, _, 0, _, rfl, rfl, SqL.of hq5, atI_nat (j := 0) rfl, ta, false, rfl, by have := t2 ta (by simp); omega, fun H1 v0 s1 o0 => ?_⟩
          refine ⟨_, rfl, _, rfl, q5, _, -1, _, rfl, rfl, SqL.of (s1 _ _ hq5), rfl, tb2, false, rfl, by have := t2 tb2 (by simp); omega, fun H2 v1 s2 o1 => ?_⟩
          refine ⟨by show 2 ≤ sizeLine; decide, fun p hp => ?_⟩
          have s3 := same_new (o := .lst [v0, v1]) hp
          refine ⟨p, _, _, none, rfl, ((sB.trans s1).trans s2).trans s3, s3 _ _ (s2 _ _ (s1 _ _ hDB)), upd_same, .cons ((o0.k s2).k s3) (od_listC _) (.cons (o1.k s3) (od_listC _) .nil), by show 2 ≤ 4; decide, fun r ok e => ?_, fun ds e => ?_⟩
          · have e1 := tb r ok e
            have e2 := (wb r ok e).2.1
            cases r with
            | back t n' a b =>
              injection e1 with e1 e3
              injection e3 with e3 _
              rw [e1, e3, listC_back ok.2.2.1, listC_back ok.2.2.2]
              rfl
            | sent m' => rw [c6] at e2; exact absurd (e2 : ("back" : Str) = wordS m').symm (wmS m')
          · cases ea : listC ta with
            | none => rw [ea] at e; cases e
            | some a =>
              cases eb : listC tb2 with
              | none => rw [ea, eb] at e; cases e
              | some b =>
                rw [ea, eb] at e
                cases e
                exact ⟨.back n w2 a b, ⟨nlt, n2, listC_ok ea, listC_ok eb⟩, c6.symm, rfl, rfl, rfl⟩
        · rw [decide_eq_false (fun z => c7 (by injection z with z; rw [List.length_map] at z; omega))]
          refine iteF ?_
          refine ⟨by show 1 ≤ sizeLine; decide, fun p hp => ?_⟩
          have s3 := same_new (o := .lst [V.non]) hp
          refine ⟨p, _, _, none, rfl, sB.trans s3, s3 _ _ hDB, upd_same, .cons (o := none) rfl (fun d z => by cases z) .nil, by show 1 ≤ 4; decide, nope fun r ok e => c7 ?_⟩
          have e1 := tb r ok e
          have e2 := (wb r ok e).2.1
          cases r with
          | back => rw [e1]; rfl
          | sent m' => rw [c6] at e2; exact absurd (e2 : ("back" : Str) = wordS m').symm (wmS m')
      · rw [decide_eq_false c6]
        refine iteF ?_
        obtain ⟨md, rfl⟩ : ∃ m : Bool, w1 = wordS m := by
          simp only [List.mem_cons, List.not_mem_nil, or_false] at c2
          rcases c2 with rfl | rfl | rfl
          · exact ⟨false, rfl⟩
          · exact ⟨true, rfl⟩
          · exact absurd rfl c6
        have sm : ∀ r, RwOk r → rend r = x → ∃ t n g a v s, r = .sent md t n g a v s := fun r ok e => by
          have e2 := (wb r ok e).2.1
          cases r with
          | back => exact absurd e2 c6
          | sent m' t n g a v s =>
            refine ⟨t, n, g, a, v, s, ?_⟩
            have : md = m' := wiS md m' e2
            rw [this]
        refine ⟨_, rfl, q5, _, rfl, .inl (SqL.of hq5), rfl, _, rfl, ?_⟩
        by_cases c7 : ts.length = 4
        · rw [decide_eq_true (by rw [List.length_map, c7]; rfl)]
          refine iteT ?_
          obtain ⟨ta, tb2, tc, td, rfl⟩ : ∃ a b c d, ts = [a, b, c, d] := by
            match ts, c7 with
            | [a, b, c, d], _ => exact ⟨a, b, c, d, rfl⟩
          refine ⟨_, rfl, D, _, 1, _, rfl, rfl, SqL.of hDB, atI_nat (j := 1) rfl, rfl, _, rfl, ?_⟩
          rw [str_dec]
          cases md with
          | false =>
            rw [show decide (wordS false = "call") = true from by decide +kernel]
            refine iteT ?_
            refine ⟨_, rfl, q5, _, 0, _, rfl, rfl, SqL.of hq5, atI_nat (j := 0) rfl, _, rfl, _, rfl, _, _, rfl, rfl, .inl ⟨by decide, by decide⟩, _, _, rfl, rfl, ta, 1, 1, rfl, by have := t2 ta (by simp); omega, ?_⟩
            refine ⟨_, rfl, q5, _, 1, _, rfl, rfl, SqL.of hq5, atI_nat (j := 1) rfl, tb2, false, rfl, by have := t2 tb2 (by simp); omega, fun H1 v1 s1 o1 => ?_⟩
            refine ⟨_, rfl, q5, _, 2, _, rfl, rfl, SqL.of (s1 _ _ hq5), atI_nat (j := 2) rfl, tc, true, rfl, by have := t2 tc (by simp); omega, fun H2 v2 s2 o2 => ?_⟩
            refine ⟨by show 3 ≤ sizeLine; decide, fun p hp => ?_⟩
            refine ⟨_, rfl, .inl ⟨rfl, _, SqL.of upd_same⟩, ?_⟩
            have s3 : Same H2 (upd (upd H2 p (.lst [oV (digF ta 1 1), v1, v2])) p (.lst [oV (digF ta 1 1), v1, v2, oV (digF td 0 6)])) := same_mut (same_new hp) hp
            refine ⟨_, rfl, q5, _, 3, _, rfl, rfl, SqL.of (same_new hp _ _ (s2 _ _ (s1 _ _ hq5))), atI_nat (j := 3) rfl, td, 0, 6, rfl, by have := t2 td (by simp); omega, p, [oV (digF ta 1 1), v1, v2], _, rfl, rfl, upd_same, by show 3 < sizeLine; decide, ?_⟩
            refine ⟨p, _, _, _, rfl, ((sB.trans s1).trans s2).trans s3, s3 _ _ (s2 _ _ (s1 _ _ hDB)), upd_same, .cons (oV_od _) (od_int _) (.cons ((o1.k s2).k s3) (od_listC _) (.cons (o2.k s3) (od_listP _) (.cons (oV_od _) (od_int _) .nil))), by show 4 ≤ 4; decide, fun r ok e => ?_, fun ds e => ?_⟩
            · have e1 := tb r ok e
              obtain ⟨t, n', g, a, v, s, rfl⟩ := sm r ok e
              have gl := grade_le ok
              obtain ⟨_, _, g1, g2, oa, ov, os⟩ := ok
              injection e1 with ea e1
              injection e1 with eb e1
              injection e1 with ec e1
              injection e1 with ed _
              rw [ea, eb, ec, ed, listC_back oa, listP_back ov, dig_back (n := s) (by omega) (by omega) os, dig_back (n := g) (lo := 1) (hi := 1) (by omega) (by have := g1 rfl; omega) (by have := g1 rfl; omega)]
              rfl
            · cases ea : digF ta 1 1 with
              | none => rw [ea] at e; cases e
              | some g =>
              cases eb : listC tb2 with
              | none => rw [ea, eb] at e; cases e
              | some a =>
              cases ec : listP tc with
              | none => rw [ea, eb, ec] at e; cases e
              | some v =>
              cases ed : digF td 0 6 with
              | none => rw [ea, eb, ec, ed] at e; cases e
              | some s =>
              rw [ea, eb, ec, ed] at e
              cases e
              have dg := digF_ok ea
              exact ⟨.sent false n w2 g a v s, ⟨nlt, n2, (fun _ => by omega), (fun z => by cases z), listC_ok eb, listP_ok ec, (digF_ok ed).2⟩, rfl, rfl, rfl, rfl⟩
          | true =>
            rw [show decide (wordS true = "call") = false from by decide +kernel]
            refine iteF ?_
            refine ⟨_, rfl, q5, _, 0, _, rfl, rfl, SqL.of hq5, atI_nat (j := 0) rfl, _, rfl, _, rfl, _, _, rfl, rfl, .inl ⟨by decide, by decide⟩, _, _, rfl, rfl, ta, 2, 3, rfl, by have := t2 ta (by simp); omega, ?_⟩
            refine ⟨_, rfl, q5, _, 1, _, rfl, rfl, SqL.of hq5, atI_nat (j := 1) rfl, tb2, false, rfl, by have := t2 tb2 (by simp); omega, fun H1 v1 s1 o1 => ?_⟩
            refine ⟨_, rfl, q5, _, 2, _, rfl, rfl, SqL.of (s1 _ _ hq5), atI_nat (j := 2) rfl, tc, true, rfl, by have := t2 tc (by simp); omega, fun H2 v2 s2 o2 => ?_⟩
            refine ⟨by show 3 ≤ sizeLine; decide, fun p hp => ?_⟩
            refine ⟨_, rfl, .inl ⟨rfl, _, SqL.of upd_same⟩, ?_⟩
            have s3 : Same H2 (upd (upd H2 p (.lst [oV (digF ta 2 3), v1, v2])) p (.lst [oV (digF ta 2 3), v1, v2, oV (digF td 0 6)])) := same_mut (same_new hp) hp
            refine ⟨_, rfl, q5, _, 3, _, rfl, rfl, SqL.of (same_new hp _ _ (s2 _ _ (s1 _ _ hq5))), atI_nat (j := 3) rfl, td, 0, 6, rfl, by have := t2 td (by simp); omega, p, [oV (digF ta 2 3), v1, v2], _, rfl, rfl, upd_same, by show 3 < sizeLine; decide, ?_⟩
            refine ⟨p, _, _, _, rfl, ((sB.trans s1).trans s2).trans s3, s3 _ _ (s2 _ _ (s1 _ _ hDB)), upd_same, .cons (oV_od _) (od_int _) (.cons ((o1.k s2).k s3) (od_listC _) (.cons (o2.k s3) (od_listP _) (.cons (oV_od _) (od_int _) .nil))), by show 4 ≤ 4; decide, fun r ok e => ?_, fun ds e => ?_⟩
            · have e1 := tb r ok e
              obtain ⟨t, n', g, a, v, s, rfl⟩ := sm r ok e
              have gl := grade_le ok
              obtain ⟨_, _, g1, g2, oa, ov, os⟩ := ok
              injection e1 with ea e1
              injection e1 with eb e1
              injection e1 with ec e1
              injection e1 with ed _
              rw [ea, eb, ec, ed, listC_back oa, listP_back ov, dig_back (n := s) (by omega) (by omega) os, dig_back (n := g) (lo := 2) (hi := 3) (by omega) (by have := g2 rfl; omega) (by have := g2 rfl; omega)]
              rfl
            · cases ea : digF ta 2 3 with
              | none => rw [ea] at e; cases e
              | some g =>
              cases eb : listC tb2 with
              | none => rw [ea, eb] at e; cases e
              | some a =>
              cases ec : listP tc with
              | none => rw [ea, eb, ec] at e; cases e
              | some v =>
              cases ed : digF td 0 6 with
              | none => rw [ea, eb, ec, ed] at e; cases e
              | some s =>
              rw [ea, eb, ec, ed] at e
              cases e
              have dg := digF_ok ea
              exact ⟨.sent true n w2 g a v s, ⟨nlt, n2, (fun z => by cases z), (fun _ => by omega), listC_ok eb, listP_ok ec, (digF_ok ed).2⟩, rfl, rfl, rfl, rfl⟩
        · rw [decide_eq_false (fun z => c7 (by injection z with z; rw [List.length_map] at z; omega))]
          refine iteF ?_
          refine ⟨by show 1 ≤ sizeLine; decide, fun p hp => ?_⟩
          have s3 := same_new (o := .lst [V.non]) hp
          refine ⟨p, _, _, none, rfl, sB.trans s3, s3 _ _ hDB, upd_same, .cons (o := none) rfl (fun d z => by cases z) .nil, by show 1 ≤ 4; decide, nope fun r ok e => c7 ?_⟩
          have e1 := tb r ok e
          obtain ⟨t, n', g, a, v, s, rfl⟩ := sm r ok e
          rw [e1]
          rfl
    · rintro σ B5 ⟨p, us, os, o7, rfl, sB, hDB, hp, ho, lu, po⟩
      have D := D
      have s0 : (0 : Nat) = 0 := rfl
      refine ⟨_, rfl, .none, os.map od, false, .non, .lst (SqL.of hp) ho.dps, by simp [PyData.canLay0], by simp [PyData.depth], ho.lay, _, rfl, ?_⟩
      rw [ho.has]
      cases he : allP os with
      | none => exact iteT (none_ _ sB fun r ok e => by have := po.back r ok e; rw [he] at this; cases this)
      | some ds =>
        refine iteF ?_
        obtain ⟨r, ok, e1, e2, e3, rfl⟩ := po.ok ds he
        have dd := ho.dts he
        have lr : 0 < us.length := by
          rw [dd.len]
          cases r <;> exact Nat.succ_pos _
        have ne : us ≠ [] := fun z => by rw [z] at lr; cases lr
        refine ⟨_, rfl, _, _, 1, _, rfl, rfl, SqL.of hDB, atI_nat (j := 1) rfl, _, rfl, _, _, rfl, it, by omega, _, rfl, _, _, 2, _, rfl, rfl, SqL.of hDB, atI_nat (j := 2) rfl, by show 3 ≤ sizeLine; decide, fun q7 hq7 => ?_⟩
        have s7 := same_new (o := .tup [V.str w1, .int (n : Nat), .str w2]) hq7
        have h7 : upd B5 q7 (.tup [V.str w1, .int (n : Nat), .str w2]) q7 = some (.tup [V.str w1, .int (n : Nat), .str w2]) := upd_same
        generalize upd B5 q7 (.tup [V.str w1, .int (n : Nat), .str w2]) = B6 at s7 h7 ⊢
        refine ⟨_, rfl, p, us, rfl, .inl ⟨SqL.of (s7 _ _ hp), fun l hl => ?_⟩⟩
        have s8 := same_new (o := .tup us) hl
        have h7 := s8 _ _ h7
        have h8 : upd B6 l (.tup us) l = some (.tup us) := upd_same
        generalize upd B6 l (.tup us) = B7 at s8 h7 h8 ⊢
        refine ⟨q7, l, _, us, rfl, rfl, SqT.of h7, SqT.of h8, by show 3 + us.length ≤ _; omega, (fun e => by cases e), (fun _ e => absurd e ne), fun _ _ q9 hq9 => ?_⟩
        have s9 := same_new (o := .tup ([V.str w1, .int (n : Nat), .str w2] ++ us)) hq9
        have hR : Dt K (upd B7 q9 (.tup ([V.str w1, .int (n : Nat), .str w2] ++ us))) (.ref q9) (rowD r) := by
          rw [rowD_eq r, e1, e2, e3]
          exact .tup (SqT.of upd_same) (.cons (.str _) (.cons (.int _) (.cons (.str _) (((dd.ks s7).ks s8).ks s9))))
        have sA := ((sB.trans s7).trans s8).trans s9
        generalize upd B7 q9 (.tup ([V.str w1, .int (n : Nat), .str w2] ++ us)) = B8 at hR sA ⊢
        refine ⟨_, rfl, _, r, rfl, hR, ok, fun B9 sC => ⟨_, rfl, rfl, _, rfl, ?_⟩⟩
        rw [str_dec]
        by_cases c8 : rend r = x
        · rw [decide_eq_true c8]
          refine iteT ⟨_, rfl, k _ _ (sA.trans sC) ?_⟩
          rw [acc_iff.mpr ⟨ok, c8⟩]
          exact ⟨(by intro z; cases z), hR.ks sC⟩
        · rw [decide_eq_false c8]
          refine iteF (none_ _ (sA.trans sC) fun r' ok' e' => c8 ?_)
          obtain ⟨f1, f2, f3⟩ := wb r' ok' e'
          have f4 := po.back r' ok' e'
          rw [he] at f4
          rw [rest_inj (e1.trans f2) (e2.trans (nb r' ok' e')) (e3.trans f3) (Option.some.inj f4)]
          exact e'
end
end K83

namespace K83
open PySem L2 Wm TL Dv
section
variable {P : Program} {w : World} {K : PySem.W.Frag} {mg : Str → Option Value} {base : Heap}
theorem strs_lay0 : ∀ {ts : List Str}, (∀ t ∈ ts, Tx t) → PyData.canLayAll0 (ts.map .str) = true ∧ PyData.depthAll (ts.map .str) = 0
  | [], _ => by simp [PyData.canLayAll0, PyData.depthAll]
  | t :: ts, h => by
    have ih := strs_lay0 (ts := ts) fun y m => h y (List.mem_cons_of_mem _ m)
    have h1 : PyData.canLay0 (.str t) = true := by
      have e : t.cps.all (· < 0x110000) = true := by
        rw [← Array.all_toList, List.all_eq_true]
        intro c m
        have := (h t (by simp)).asc c m
        exact decide_eq_true (by omega)
      simp only [PyData.canLay0]
      exact e
    simp only [List.map_cons, PyData.canLayAll0, PyData.depthAll, h1, ih.1, ih.2, PyData.depth, Bool.and_self, Nat.max_self, and_self]
theorem tg_fine {d : PyData} (t : Tg d) : Fine 1 d := by
  cases t with
  | int h => exact fine_int _
  | bl b => exact ⟨by simp [PyData.canLay0], by simp [PyData.depth]⟩
  | non => exact ⟨by simp [PyData.canLay0], by simp [PyData.depth]⟩
  | @str t h =>
    have q := strs_lay0 (ts := [t]) fun y m => by rw [List.mem_singleton.mp m]; exact h
    simp only [List.map_cons, List.map_nil, PyData.canLayAll0, Bool.and_true] at q
    exact ⟨q.1, by simp [PyData.depth]⟩
  | lst h l =>
    have q := strs_lay0 h
    exact ⟨by simp only [PyData.canLay0]; exact q.1, by simp only [PyData.depth]; omega⟩
  | tup h l =>
    have q := strs_lay0 h
    exact ⟨by simp only [PyData.canLay0]; exact q.1, by simp only [PyData.depth]; omega⟩
/-- what repr lays: short, small, shallow -/
structure Sh (n w : Nat) (d : PyData) : Prop where
  lay : d.canLay0 = true
  isn : d.intsShort 13 = true
  wt : d.weight ≤ w
  sh : d.showable = true
  nd : d.hasDict = false
  dp : d.depth ≤ n
theorem Sh.mono {n m w v : Nat} {d : PyData} (h : Sh n w d) (a : n ≤ m) (b : w ≤ v) : Sh m v d := ⟨h.lay, h.isn, Nat.le_trans h.wt b, h.sh, h.nd, Nat.le_trans h.dp a⟩
theorem Sh.shows {n w : Nat} {d : PyData} (h : Sh n w d) (a : n ≤ 60) (b : w ≤ 1000000) : Shows d :=
  ⟨h.sh, h.nd, Nat.le_trans h.dp a, PyData.shown_fits (B := 13) (by decide) (by decide) (PyData.leavesShort_of_canLay0 13 d h.lay h.isn) (Nat.le_trans h.wt (by omega))⟩
theorem sh_int {i : Int} (h : i.natAbs < 1000000000) : Sh 0 40 (.int i) := by
  have g := tg_shows (.int (i := i) (by omega))
  refine ⟨by simp [PyData.canLay0], decide_eq_true (PyData.shown_int_le (by omega)), ?_, g.sh, rfl, Nat.zero_le _⟩
  show (if i == 0 then 0 else i.natAbs.log2 + 1) ≤ 40
  split
  · exact Nat.zero_le _
  · rename_i z
    have z : i ≠ 0 := by simpa using z
    exact (Nat.log2_lt (by omega)).mpr (by omega)
theorem sh_bool (b : Bool) : Sh 0 0 (.bool b) := ⟨by simp [PyData.canLay0], rfl, Nat.le_refl _, rfl, rfl, Nat.zero_le _⟩
theorem sh_none : Sh 0 0 .none := ⟨by simp [PyData.canLay0], rfl, Nat.le_refl _, rfl, rfl, Nat.zero_le _⟩
theorem sh_str {t : Str} (h : Tx t) : Sh 0 100 (.str t) := by
  have g := tg_shows (.str h)
  have f := tg_fine (.str h)
  exact ⟨f.1, rfl, h.len, g.sh, rfl, Nat.zero_le _⟩
theorem sh_all {n w : Nat} : ∀ {ds : List PyData}, (∀ d ∈ ds, Sh n w d) → PyData.canLayAll0 ds = true ∧ PyData.intsShortAll 13 ds = true ∧ PyData.weightAll ds ≤ ds.length * (w + 1) ∧ PyData.showableAll ds = true ∧ PyData.hasDictAll ds = false ∧ PyData.depthAll ds ≤ n
  | [], _ => by simp [PyData.canLayAll0, PyData.intsShortAll, PyData.weightAll, PyData.showableAll, PyData.hasDictAll, PyData.depthAll]
  | x :: xs, h => by
    have a := h x (by simp)
    obtain ⟨b1, b2, b3, b4, b5, b6⟩ := sh_all (ds := xs) fun y m => h y (List.mem_cons_of_mem _ m)
    refine ⟨by simp only [PyData.canLayAll0, a.lay, b1, Bool.and_self], by simp only [PyData.intsShortAll, a.isn, b2, Bool.and_self], ?_, by simp only [PyData.showableAll, a.sh, b4, Bool.and_self], by simp only [PyData.hasDictAll, a.nd, b5, Bool.or_self], ?_⟩
    · simp only [PyData.weightAll, List.length_cons, Nat.add_mul, Nat.one_mul]
      have := a.wt
      omega
    · simp only [PyData.depthAll]
      have := a.dp
      omega
theorem sh_tup {n w k : Nat} {ds : List PyData} (h : ∀ d ∈ ds, Sh n w d) (l : ds.length ≤ k) : Sh (n + 1) (k * (w + 1)) (.tuple ds) := by
  obtain ⟨b1, b2, b3, b4, b5, b6⟩ := sh_all h
  have := Nat.mul_le_mul_right (w + 1) l
  exact ⟨by simp only [PyData.canLay0, b1], by simp only [PyData.intsShort, b2], by simp only [PyData.weight]; omega, by simp only [PyData.showable, b4], by simp only [PyData.hasDict, b5], by simp only [PyData.depth]; omega⟩
theorem sh_lst {n w k : Nat} {ds : List PyData} (h : ∀ d ∈ ds, Sh n w d) (l : ds.length ≤ k) : Sh (n + 1) (k * (w + 1)) (.list ds) := by
  obtain ⟨b1, b2, b3, b4, b5, b6⟩ := sh_all h
  have := Nat.mul_le_mul_right (w + 1) l
  exact ⟨by simp only [PyData.canLay0, b1], by simp only [PyData.intsShort, b2], by simp only [PyData.weight]; omega, by simp only [PyData.showable, b4], by simp only [PyData.hasDict, b5], by simp only [PyData.depth]; omega⟩
theorem num_tx {ds : List Nat} (N : Num ds) : Tx (numS ds) := ⟨by rw [numS_len]; have := N.len; omega, fun k m => by
    have m : k ∈ codes ds := m
    obtain ⟨d, md, rfl⟩ := List.mem_map.mp m
    have := (N.dig d md).2
    omega⟩
theorem sh_two {n w : Nat} {a b : PyData} (x : Sh n w a) (y : Sh n w b) : Sh (n + 1) (2 * (w + 1)) (.tuple [a, b]) := sh_tup (fun d m => by
  simp only [List.mem_cons, List.not_mem_nil, or_false] at m
  rcases m with rfl | rfl
  · exact x
  · exact y) (Nat.le_refl 2)
theorem sh_iD {ns : List Nat} {k : Nat} (h : ∀ n ∈ ns, n ≤ 9) (l : ns.length ≤ k) : Sh 1 (k * 41) (iD ns) := by
  unfold iD
  refine sh_tup (fun d m => ?_) (by rw [List.length_map]; exact l)
  obtain ⟨n, mn, rfl⟩ := List.mem_map.mp m
  have := h n mn
  exact sh_int (by omega)
theorem sh_mvD {ms : List (Nat × Nat)} {k : Nat} (h : ∀ x ∈ ms, x.1 ≤ 9 ∧ x.2 ≤ 9) (l : ms.length ≤ k) : Sh 2 (k * 83) (mvD ms) := by
  unfold mvD
  refine sh_tup (fun d m => ?_) (by rw [List.length_map]; exact l)
  obtain ⟨x, mx, rfl⟩ := List.mem_map.mp m
  have := h x mx
  exact sh_two (sh_int (by omega)) (sh_int (by omega))
theorem word_tx (r : Rw) : Tx (wordR r) := by
  cases r with
  | back => exact ⟨by show ("back" : Str).length ≤ 100; decide, by show ∀ c ∈ tl ("back" : Str), c < 128; decide +kernel⟩
  | sent m =>
    cases m with
    | false => exact ⟨by show ("call" : Str).length ≤ 100; decide, by show ∀ c ∈ tl ("call" : Str), c < 128; decide +kernel⟩
    | true => exact ⟨by show ("more" : Str).length ≤ 100; decide, by show ∀ c ∈ tl ("more" : Str), c < 128; decide +kernel⟩
theorem numR_tx {r : Rw} (ok : RwOk r) : Tx (numR r) := by
  obtain ⟨_, ds, N, e⟩ := rw_facts ok
  rw [e]
  exact num_tx N
theorem sh_row {r : Rw} (ok : RwOk r) : Sh 3 10000 (rowD r) := by
  have h1 := (sh_str (word_tx r)).mono (n := 0) (m := 2) (v := 600) (by decide) (by decide)
  have h2 := (sh_int (i := (tickR r : Nat)) (by have := (rw_facts ok).1; omega)).mono (n := 0) (m := 2) (v := 600) (by decide) (by decide)
  have h3 := (sh_str (numR_tx ok)).mono (n := 0) (m := 2) (v := 600) (by decide) (by decide)
  have cw : ∀ {a}, CwOk a → Sh 2 600 (iD a) := fun o => (sh_iD (k := 6) (fun n m => Nat.le_trans (o.le n m) (by decide)) o.len).mono (by decide) (by decide)
  cases r with
  | back t n a b =>
    refine (sh_tup (n := 2) (w := 600) (k := 5) (ds := [.str "back", .int (t : Nat), .str n, iD a, iD b]) (fun d m => ?_) (Nat.le_refl 5)).mono (by decide) (by decide)
    simp only [List.mem_cons, List.not_mem_nil, or_false] at m
    rcases m with rfl | rfl | rfl | rfl | rfl
    · exact h1
    · exact h2
    · exact h3
    · exact cw ok.2.2.1
    · exact cw ok.2.2.2
  | sent m t n g a v s =>
    have gl := grade_le ok
    obtain ⟨_, _, _, _, oa, ov, os⟩ := ok
    refine (sh_tup (n := 2) (w := 600) (k := 7) (ds := [.str (wordS m), .int (t : Nat), .str n, .int (g : Nat), iD a, mvD v, .int (s : Nat)]) (fun d m => ?_) (Nat.le_refl 7)).mono (by decide) (by decide)
    simp only [List.mem_cons, List.not_mem_nil, or_false] at m
    rcases m with rfl | rfl | rfl | rfl | rfl | rfl | rfl
    · exact h1
    · exact h2
    · exact h3
    · exact (sh_int (by omega)).mono (by decide) (by decide)
    · exact cw oa
    · exact (sh_mvD (k := 6) (fun n m => by have := ov.le n m; omega) ov.len).mono (by decide) (by decide)
    · exact (sh_int (by omega)).mono (by decide) (by decide)
theorem Sh.fine {n w : Nat} {d : PyData} (h : Sh n w d) : Fine n d := ⟨h.lay, h.dp⟩
theorem rows_shows {rs : List Rw} (ok : ∀ r ∈ rs, RwOk r) (l : rs.length ≤ 10) : Shows (.list (rs.map rowD)) :=
  (sh_lst (n := 3) (w := 10000) (k := 10) (fun d m => by obtain ⟨r, mr, rfl⟩ := List.mem_map.mp m; exact sh_row (ok r mr)) (by rw [List.length_map]; exact l)).shows (by decide) (by decide)
theorem rows_fine {rs : List Rw} (ok : ∀ r ∈ rs, RwOk r) : Fine 4 (.tuple (rs.map rowD)) := fine_tup fun d m => by
  obtain ⟨r, mr, rfl⟩ := List.mem_map.mp m
  exact (sh_row (ok r mr)).fine
theorem rend_len2 {r : Rw} (ok : RwOk r) : (rend r).length ≤ 90 ∧ 18 ≤ (rend r).length := by
  have r1 : (Txt.rjust (natS (tickR r)) 6).length = max 6 (natS (tickR r)).length := Fi.rjust_len _ 6
  have g1 : (" " : Str).length = 1 := by decide
  have t := (tick_len (rw_facts ok).1).2
  have j := join_len " / " (partsT r)
  have p := parts_sum ok
  obtain ⟨c, mc, _⟩ := join_char ok
  have jp : 0 < (Txt.join " / " (partsT r)).length := by rw [len_tl]; exact List.length_pos_of_mem mc
  unfold rend headT
  rw [app_len, app_len, app_len, app_len, r1, ljW_len, ljN_len ok, g1]
  omega
theorem tk_lt (x : Str) (c : Nat) (h : ∀ c ∈ tl x, c < 128) : ∀ k : Nat, c ∈ tl (Txt.ljust x (k : Nat)) → c < 128 := fun k m => by
  rw [tl_ljust] at m
  rcases List.mem_append.mp m with m | m
  · exact h c m
  · rw [List.eq_of_mem_replicate m]; decide
theorem rend_tx {r : Rw} (ok : RwOk r) : Tx (rend r) := by
  refine ⟨by have := (rend_len2 ok).1; omega, fun c m => ?_⟩
  unfold rend headT at m
  rw [tl_append, tl_append, tl_append, tl_append] at m
  rcases List.mem_append.mp m with m | m
  · rcases List.mem_append.mp m with m | m
    · rcases List.mem_append.mp m with m | m
      · rcases List.mem_append.mp m with m | m
        · have e := tl_rjust (natS (tickR r)) 6
          have m : c ∈ tl (Txt.rjust (natS (tickR r)) ((6 : Nat) : Int)) := m
          rw [e] at m
          rcases List.mem_append.mp m with m | m
          · rw [List.eq_of_mem_replicate m]; decide
          · rw [tl_tick] at m
            have := numL_digits _ c m
            omega
        · rw [tl_sp] at m
          rw [List.mem_singleton.mp m]; decide
      · exact tk_lt _ c (word_tx r).asc 5 m
    · exact tk_lt _ c (numR_tx ok).asc 5 m
  · rw [join_eq, tl_join, tl_slash] at m
    rcases mem_joinL m with m | ⟨p, mp, m⟩
    · simp only [List.mem_cons, List.not_mem_nil, or_false] at m
      omega
    · obtain ⟨q, mq, rfl⟩ := List.mem_map.mp mp
      cases r with
      | back t n a b =>
        have mq : q ∈ [crT a, crT b] := mq
        simp only [List.mem_cons, List.not_mem_nil, or_false] at mq
        rcases mq with rfl | rfl
        · have := crT_free ok.2.2.1 c m; omega
        · have := crT_free ok.2.2.2 c m; omega
      | sent mm t n g a v s =>
        have g3 := (grade_le ok).1
        obtain ⟨_, _, _, _, oa, ov, os⟩ := ok
        have mq : q ∈ [natS g, crT a, pvT v, natS s] := mq
        simp only [List.mem_cons, List.not_mem_nil, or_false] at mq
        rcases mq with rfl | rfl | rfl | rfl
        · rw [tl_nat9 (by omega)] at m; have := List.mem_singleton.mp m; omega
        · have := crT_free oa c m; omega
        · have := pvT_free ov c m; omega
        · rw [tl_nat9 (by omega)] at m; have := List.mem_singleton.mp m; omega
def dueV (rs : List Rw) : List V := rs.map fun r => V.str (rend r)
def dueD (rs : List Rw) : PyData := .tuple (rs.map fun r => PyData.str (rend r))
theorem due_fine {rs : List Rw} (ok : ∀ r ∈ rs, RwOk r) : Fine 1 (dueD rs) := fine_tup fun d m => by
  obtain ⟨r, mr, rfl⟩ := List.mem_map.mp m
  exact (sh_str (rend_tx (ok r mr))).fine
theorem due_dts {H : Hp} : ∀ rs : List Rw, Dts K H (dueV rs) (rs.map fun r => PyData.str (rend r))
  | [] => .nil
  | r :: rs => .cons (.str _) (due_dts rs)
theorem due_acc {rs : List Rw} (ok : ∀ r ∈ rs, RwOk r) : (dueV rs).map accV = rs.map some := by
  unfold dueV
  rw [List.map_map]
  exact List.map_congr_left fun r m => acc_back (ok r m)
theorem ne_same {H : Hp} {x y : V} {d : PyData} {n : Nat} {Q : VK} (hx : Dt K H x d) (hy : Dt K H y d) (f : Fine n d) (l : n ≤ 64) (q : Q (.bl false) H) : rNeD K x y H Q :=
  ⟨d, d, hx.toDp, hy.toDp, f.shaped l, f.shaped l, by rw [f.refl]; exact q⟩
theorem all_not_first {xs : List V} {rs : List Rw} {i : Nat} (h : xs.map accV = rs.map some) (f : FirstN xs i) : False := by
  obtain ⟨x, hx, n, _⟩ := f
  have e : (xs.map accV)[i]? = some (accV x) := by rw [List.getElem?_map, hx]; rfl
  rw [h, List.getElem?_map, n] at e
  obtain ⟨r, _, z⟩ := Option.map_eq_some_iff.mp e
  cases z
theorem first_one {xs : List V} {i j : Nat} (f : FirstN xs i) (g : FirstN xs j) : i = j := by
  obtain ⟨x, hx, nx, bx⟩ := f
  obtain ⟨y, hy, ny, by_⟩ := g
  rcases Nat.lt_trichotomy i j with h | h | h
  · obtain ⟨z, hz, iz⟩ := by_ i h
    rw [hx] at hz; cases hz; rw [nx] at iz; cases iz
  · exact h
  · obtain ⟨z, hz, iz⟩ := bx j h
    rw [hy] at hz; cases hz; rw [ny] at iz; cases iz
theorem acc_inj {rs qs : List Rw} (h : rs.map some = qs.map some) : rs = qs := List.map_inj_right (fun _ _ e => Option.some.inj e) |>.mp h
/-- a line put in -/
def put (xs : List V) (i : Nat) (x : V) : List V := xs.take i ++ [x] ++ xs.drop i
theorem put_len (xs : List V) {i : Nat} (x : V) (h : i ≤ xs.length) : (put xs i x).length = xs.length + 1 := by
  unfold put
  simp only [List.length_append, List.length_take, List.length_drop, List.length_cons, List.length_nil]
  omega
theorem put_mem {xs : List V} {i : Nat} {x y : V} (h : y ∈ put xs i x) : y ∈ xs ∨ y = x := by
  unfold put at h
  rcases List.mem_append.mp h with h | h
  · rcases List.mem_append.mp h with h | h
    · exact .inl (List.mem_of_mem_take h)
    · exact .inr (List.mem_singleton.mp h)
  · exact .inl (List.mem_of_mem_drop h)
theorem put_at {xs : List V} {i : Nat} (x : V) (h : i ≤ xs.length) : (put xs i x)[i]? = some x := by
  unfold put
  rw [List.append_assoc, List.getElem?_append_right (by rw [List.length_take]; omega), List.length_take, Nat.min_eq_left h, Nat.sub_self]
  rfl
theorem put_before {xs : List V} {i j : Nat} (x : V) (h : i ≤ xs.length) (l : j < i) : (put xs i x)[j]? = xs[j]? := by
  unfold put
  rw [List.append_assoc, List.getElem?_append_left (by rw [List.length_take]; omega), List.getElem?_take_of_lt l]
theorem due_at {rs : List Rw} {j : Nat} (h : j < rs.length) : ∃ r, rs[j]? = some r ∧ (dueV rs)[j]? = some (.str (rend r)) :=
  ⟨rs[j], List.getElem?_eq_getElem h, by unfold dueV; rw [List.getElem?_map, List.getElem?_eq_getElem h]; rfl⟩
theorem put_first {rs : List Rw} {i : Nat} {u : Str} (ok : ∀ r ∈ rs, RwOk r) (h : i ≤ rs.length) (n : accF u = none) : FirstN (put (dueV rs) i (.str u)) i := by
  have hl : (dueV rs).length = rs.length := by unfold dueV; rw [List.length_map]
  refine ⟨.str u, put_at _ (by omega), n, fun j hj => ?_⟩
  obtain ⟨r, hr, hd⟩ := due_at (rs := rs) (j := j) (by omega)
  exact ⟨_, (put_before _ (by omega) hj).trans hd, by show (accF (rend r)).isSome = true; rw [acc_back (ok r (List.mem_of_getElem? hr))]; rfl⟩
theorem put_all {rs : List Rw} {i : Nat} {u : Str} {q : Rw} (ok : ∀ r ∈ rs, RwOk r) (e : accF u = some q) : (put (dueV rs) i (.str u)).map accV = (rs.take i ++ [q] ++ rs.drop i).map some := by
  unfold put
  rw [List.map_append, List.map_append, List.map_take, List.map_drop, due_acc ok, List.map_append, List.map_append, List.map_take, List.map_drop]
  show _ ++ [accF u] ++ _ = _
  rw [e]
  rfl
/-- the places whose thing is not taken -/
noncomputable def badN (xs : List V) : Nat → List Nat
  | 0 => []
  | n + 1 => badN xs n ++ (if (accV (xs.getD n .non)).isNone then [n] else [])
theorem badN_mem {xs : List V} : ∀ {n k : Nat}, k ∈ badN xs n ↔ k < n ∧ accV (xs.getD k .non) = none
  | 0, k => by simp [badN]
  | n + 1, k => by
    unfold badN
    rw [List.mem_append, badN_mem]
    constructor
    · rintro (h | h)
      · exact ⟨by omega, h.2⟩
      · split at h
        · rename_i c
          rw [List.mem_singleton.mp h]
          exact ⟨by omega, Option.isNone_iff_eq_none.mp c⟩
        · cases h
    · rintro ⟨h, e⟩
      by_cases c : k < n
      · exact .inl ⟨c, e⟩
      · have : k = n := by omega
        subst this
        rw [e]
        exact .inr (by simp)
theorem badN_first {xs : List V} {m : Nat} (h : m ∈ badN xs xs.length) (l : ∀ y ∈ badN xs xs.length, m ≤ y) : FirstN xs m := by
  obtain ⟨hm, e⟩ := badN_mem.mp h
  have g : ∀ {k}, k < xs.length → xs[k]? = some (xs.getD k .non) := fun h => by rw [List.getD_eq_getElem?_getD, List.getElem?_eq_getElem h]; rfl
  refine ⟨_, g hm, e, fun j hj => ⟨_, g (by omega), ?_⟩⟩
  cases c : accV (xs.getD j .non) with
  | some r => rfl
  | none => have := l j (badN_mem.mpr ⟨by omega, c⟩); omega
theorem short_none {t : Str} (h : t.length < 18) : accF t = none := acc_none fun r ok e => by have := (rend_len2 ok).2; rw [e] at this; omega
/-- what stands through a turn of the law -/
structure Tn (H0 : Hp) (b rA dA : Addr) (rs : List Rw) (H : Hp) : Prop where
  sm : Same H0 H
  b0 : H0 b = none
  bk : Bk H b
  nr : rA ≠ b
  rows : ∃ xs, H rA = some (.lst xs) ∧ Dts K H xs (rs.map rowD)
  due : SqT K H dA (dueV rs)
theorem Tn.bu {H0 : Hp} {b rA dA : Addr} {rs : List Rw} {H H' : Hp} (h : Tn (K := K) H0 b rA dA rs H) (s : Bu b H H') (hb : Bk H' b) : Tn (K := K) H0 b rA dA rs H' := by
  obtain ⟨xs, e, d⟩ := h.rows
  have kt : Kt K H H' := h.bk.kt s
  exact ⟨fun q o e => s q o (ne_of_none e h.b0) (h.sm q o e), h.b0, hb, h.nr, ⟨xs, s _ _ h.nr e, d.k kt⟩, kt _ _ h.due⟩
theorem Tn.same {H0 : Hp} {b rA dA : Addr} {rs : List Rw} {H H' : Hp} (h : Tn (K := K) H0 b rA dA rs H) (s : Same H H') : Tn (K := K) H0 b rA dA rs H' := h.bu (Bu.of s) (h.bk.k s)
theorem Tn.put {H0 : Hp} {b rA dA : Addr} {rs : List Rw} {H : Hp} {g : Addr} {ws zs : List V} (h : Tn (K := K) H0 b rA dA rs H) (hg : H g = some (.lst ws)) (g0 : H0 g = none) (n1 : g ≠ b) (n2 : g ≠ rA) : Tn (K := K) H0 b rA dA rs (upd H g (.lst zs)) := by
  obtain ⟨xs, e, d⟩ := h.rows
  have kt : Kt K H (upd H g (.lst zs)) := Kt.lst hg
  obtain ⟨x, y, hb, c⟩ := h.bk
  exact ⟨same_mut h.sm g0, h.b0, ⟨x, y, by rw [upd_ne n1.symm]; exact hb, c⟩, h.nr, ⟨xs, by rw [upd_ne n2.symm]; exact e, d.k kt⟩, kt _ _ h.due⟩
end
end K83

namespace K83
open PySem L2 Wm TL Dv
section
variable {P : Program} {w : World} {K : PySem.W.Frag} {mg : Str → Option Value} {base : Heap}
def sp_law (K : PySem.W.Frag) : Sp := fun vs H Q _ => ∃ (a : Addr) (ns : List Int), vs = [.ref a] ∧ SqL K H a (ns.map V.int) ∧ ns.length ≤ 63 ∧ ∀ H', Same H H' → Q (.bl true) H'
theorem ok_law (T : Txt K mg) : Rp.GOk P w K mg base CX0 10 T.a_law T.d_law ["_law_script"] (sp_law K) := by
  refine Rp.gok T.F_law sc_law (fun vs H Q E h => ?_) (fun cdv A outer s H vs Q E hg hr h => ?_)
  · obtain ⟨a, ns, rfl, _⟩ := h
    rfl
  · obtain ⟨a, ns, rfl, hS, few, k⟩ := h
    refine ⟨_, (pss_cons (ps_for PassesOwn.never rfl (pi_range1 (by rfl) T.z_range (pa_cons (pe_callB (call_max2 rfl) (by rfl) T.z_max (by decide +kernel) (pa_cons pe_int (pa_cons (pe_callB (call_min2 rfl) (by rfl) T.z_min (by decide +kernel) (pa_cons pe_int (pa_cons (pe_callB call_len_seq (by rfl) T.z_len PySem.boot_len (pa_cons (pv 0) pa_nil)) pa_nil))) pa_nil))) pa_nil)) (pg_name (i := 1) sc_law.nd rfl (Or.inl rfl))
        (pss_cons (ps_set (i := 2) sc_law.nd rfl (Or.inr rfl) (pe_call (ok_bag T) (hr.mono (by decide)) (by rfl) T.g_bag T.F_bag.kp T.b_bag .nil pass0 (pa_cons (pv 0) (pa_cons (pv 1) pa_nil))))
        (pss_cons (ps_setLc (i := 3) (own := [("_law_k", 4)]) (g := gName 4) (tt := tYes) rfl sc_law.nd rfl rfl (sw_true rfl rfl rfl (by decide +kernel)) (pi_range1 (by rfl) T.z_range (pa_cons (pe_call (ok_take T) (hr.mono (by decide)) (by rfl) T.g_take T.F_take.kp T.b_take .nil pass0 (pa_cons (pv 2) (pa_cons pe_int pa_nil))) pa_nil)) (blkOk_by (own := [("_law_k", 4)]) (N := nm_law) (sc := (defScope s_law)) (by decide +kernel)) (fun _ _ _ _ _ => pg_name (i := 4) sc_law.nd rfl (Or.inl rfl)) (fun _ _ _ _ _ => pts_nil) (fun _ _ _ _ _ => (pe_call (ok_row T) (hr.mono (by decide)) (by rfl) T.g_row T.F_row.kp T.b_row .nil pass0 (pa_cons (pv 2) pa_nil))))
        (pss_cons (ps_set (i := 5) sc_law.nd rfl (Or.inl rfl) (pe_callTy call_tuple_of (by rfl) T.z_tuple (by decide +kernel) (pa_cons (pe_lc (own := [("_law_row_here", 6)]) (g := gName 6) (tt := tYes) rfl sc_law.nd (pi_list (pv 3)) (blkOk_by (own := [("_law_row_here", 6)]) (N := nm_law) (sc := (defScope s_law)) (by decide +kernel)) (fun _ _ _ _ _ => pg_name (i := 6) sc_law.nd rfl (Or.inl rfl)) (fun _ _ _ _ _ => pts_nil) (fun _ _ _ _ _ => (pe_call (ok_line T) (hr.mono (by decide)) (by rfl) T.g_line T.F_line.kp T.b_line .nil pass0 (pa_cons (pv 6) pa_nil)))) pa_nil)))
        (pss_cons (ps_set (i := 7) sc_law.nd rfl (Or.inl rfl) (pe_callB (show CallR _ _ (Rp.rRepr K) from Rp.call_reprD hg hr.units) (by rfl) T.z_repr (by decide +kernel) (pa_cons (pv 3) pa_nil)))
        (pss_cons (ps_if (PW.pt (pw_or (pt_cmpR (op_neD hr.units) (pe_call (ok_book_page T) (hr.mono (by decide)) (by rfl) T.g_book_page T.F_book_page.kp T.b_book_page .nil pass0 (pa_cons (pv 3) pa_nil)) (pv 5) (nomark _)) (pw_or (pt_cmpR (op_neD hr.units) (pe_call (ok_book_page T) (hr.mono (by decide)) (by rfl) T.g_book_page T.F_book_page.kp T.b_book_page .nil pass0 (pa_cons (pe_callTy call_tuple_of (by rfl) T.z_tuple (by decide +kernel) (pa_cons (pv 3) pa_nil)) pa_nil)) (pv 5) (nomark _)) (pw_or1 (pt_cmpR op_ne (pe_callB (show CallR _ _ (Rp.rRepr K) from Rp.call_reprD hg hr.units) (by rfl) T.z_repr (by decide +kernel) (pa_cons (pv 3) pa_nil)) (pv 7) (nomark _))))))
          (pss_one (ps_ret pe_bl))
          pss_nil)
        (pss_cons (ps_if (PW.pt (pw_or (pt_cmpR (op_neD hr.units) (pe_call (ok_told T) (hr.mono (by decide)) (by rfl) T.g_told T.F_told.kp T.b_told .nil pass0 (pa_cons (pv 5) pa_nil)) (pe_callTy call_tuple_of (by rfl) T.z_tuple (by decide +kernel) (pa_cons (pv 3) pa_nil)) (nomark _)) (pw_or1 (pt_cmpR (op_neD hr.units) (pe_call (ok_told T) (hr.mono (by decide)) (by rfl) T.g_told T.F_told.kp T.b_told .nil pass0 (pa_cons (pe_callTy call_list_of (by rfl) T.z_list (by decide +kernel) (pa_cons (pv 5) pa_nil)) pa_nil)) (pe_callTy call_tuple_of (by rfl) T.z_tuple (by decide +kernel) (pa_cons (pv 3) pa_nil)) (nomark _)))))
          (pss_one (ps_ret pe_bl))
          pss_nil)
        (pss_cons (ps_for PassesOwn.never rfl (pi_range1 (by rfl) T.z_range (pa_cons pe_int pa_nil)) (pg_name (i := 8) sc_law.nd rfl (Or.inl rfl))
          (pss_cons (ps_set (i := 9) sc_law.nd rfl (Or.inl rfl) (pe_call (ok_bent T) (hr.mono (by decide)) (by rfl) T.g_bent T.F_bent.kp T.b_bent .nil pass0 (pa_cons (pv 2) (pa_cons (pe_call (ok_line T) (hr.mono (by decide)) (by rfl) T.g_line T.F_line.kp T.b_line .nil pass0 (pa_cons (pe_call (ok_row T) (hr.mono (by decide)) (by rfl) T.g_row T.F_row.kp T.b_row .nil pass0 (pa_cons (pv 2) pa_nil)) pa_nil)) pa_nil))))
          (pss_cons (ps_asg (pe_tup (pa_cons (pe_callTy call_list_of (by rfl) T.z_list (by decide +kernel) (pa_cons (pv 5) pa_nil)) (pa_cons (pe_call (ok_take T) (hr.mono (by decide)) (by rfl) T.g_take T.F_take.kp T.b_take .nil pass0 (pa_cons (pv 2) (pa_cons (pe_op op_add (pe_callB call_len_seq (by rfl) T.z_len PySem.boot_len (pa_cons (pv 5) pa_nil)) pe_int) pa_nil))) pa_nil))) (pg_tup rfl (pgs_cons (pg_name (i := 10) sc_law.nd rfl (Or.inr rfl)) (pgs_cons (pg_name (i := 11) sc_law.nd rfl (Or.inl rfl)) pgs_nil))))
          (pss_cons (ps_expr (pe_bm PySem.F.plainAttrs_list PySem.F.slot_list_insert PySem.F.type_list_insert mt_insert (pv 10) (pa_cons (pv 11) (pa_cons (pv 9) pa_nil))))
          (pss_cons (ps_set (i := 12) sc_law.nd rfl (Or.inl rfl) (pe_call (ok_read T) (hr.mono (by decide)) (by rfl) T.g_read T.F_read.kp T.b_read .nil pass0 (pa_cons (pv 9) pa_nil)))
          (pss_cons (ps_set (i := 13) sc_law.nd rfl (Or.inl rfl) (pe_ifExp (pt_cmpR op_isN (pv 12) pe_non (nomark _)) (pv 11) (pe_callTy call_tuple_of (by rfl) T.z_tuple (by decide +kernel) (pa_cons (pe_op op_cat (pe_op op_cat (pe_slice sl_list (pv 3) po_none (po_some (pv 11))) (pe_lst (pa_cons (pv 12) pa_nil))) (pe_slice sl_list (pv 3) (po_some (pv 11)) po_none)) pa_nil))))
          (pss_cons (ps_if (pt_cmpR (op_neD hr.units) (pe_call (ok_told T) (hr.mono (by decide)) (by rfl) T.g_told T.F_told.kp T.b_told .nil pass0 (pa_cons (pv 10) pa_nil)) (pv 13) (nomark _))
            (pss_one (ps_ret pe_bl))
            pss_nil)
          (pss_cons (ps_expr (pe_bm PySem.F.plainAttrs_list PySem.F.slot_list_insert PySem.F.type_list_insert mt_insert (pv 10) (pa_cons (pe_call (ok_take T) (hr.mono (by decide)) (by rfl) T.g_take T.F_take.kp T.b_take .nil pass0 (pa_cons (pv 2) (pa_cons (pe_op op_add (pv 11) pe_int) pa_nil))) (pa_cons (pe_call (ok_of T) (hr.mono (by decide)) (by rfl) T.g_of T.F_of.kp T.b_of .nil pass0 (pa_cons (pv 2) (pa_cons (pe_lst (pa_cons pe_non (pa_cons pe_int (pa_cons pe_str (pa_cons (pe_tup pa_nil) (pa_cons (pe_lst (pa_cons pe_str pa_nil)) (pa_cons (pv 5) (pa_cons pe_str (pa_cons pe_str (pa_cons pe_bl pa_nil)))))))))) pa_nil))) pa_nil))))
          (pss_cons (ps_set (i := 14) sc_law.nd rfl (Or.inl rfl) (pe_callB (cr_min rfl) (by rfl) T.z_min (by decide +kernel) (pa_cons (pe_lc (own := [("_law_k", 4)]) (g := gName 4) rfl sc_law.nd (pi_range1 (by rfl) T.z_range (pa_cons (pe_callB call_len_seq (by rfl) T.z_len PySem.boot_len (pa_cons (pv 10) pa_nil)) pa_nil)) (blkOk_by (own := [("_law_k", 4)]) (N := nm_law) (sc := (defScope s_law)) (by decide +kernel)) (fun _ _ _ _ _ => pg_name (i := 4) sc_law.nd rfl (Or.inl rfl)) (fun _ _ _ _ _ => (pts_one (PW.pt (pw_or (pt_not (pt_val (pe_callB (show CallR _ _ (rIsi K) from call_isi) (by rfl) T.z_isinstance (by decide +kernel) (pa_cons (pe_ix (show IxR _ (rIxL K) from ix_list) (pv 10) (pv 4) (fun _ _ => rfl)) (pa_cons (pe_bltn (v := V.ty "str") (by rfl) T.z_str (by decide +kernel) rfl) pa_nil))))) (pw_or1 (pt_cmpR op_isN (pe_call (ok_read T) (hr.mono (by decide)) (by rfl) T.g_read T.F_read.kp T.b_read .nil pass0 (pa_cons (pe_ix (show IxR _ (rIxL K) from ix_list) (pv 10) (pv 4) (fun _ _ => rfl)) pa_nil)) pe_non (nomark _))))))) (fun _ _ _ _ _ => (pv 4))) pa_nil)))
          (pss_one (ps_if (pt_cmpR (op_neD hr.units) (pe_call (ok_told T) (hr.mono (by decide)) (by rfl) T.g_told T.F_told.kp T.b_told .nil pass0 (pa_cons (pe_callTy call_tuple_of (by rfl) T.z_tuple (by decide +kernel) (pa_cons (pv 10) pa_nil)) pa_nil)) (pv 14) (nomark _))
            (pss_one (ps_ret pe_bl))
            pss_nil)))))))))))
        (pss_one (ps_if (PW.pt (pw_or (pt_cmpR (op_neD hr.units) (pe_call (ok_told T) (hr.mono (by decide)) (by rfl) T.g_told T.F_told.kp T.b_told .nil pass0 (pa_cons (pe_tup pa_nil) pa_nil)) (pe_tup pa_nil) (nomark _)) (pw_or1 (pt_cmpR (op_neD hr.units) (pe_call (ok_book_page T) (hr.mono (by decide)) (by rfl) T.g_book_page T.F_book_page.kp T.b_book_page .nil pass0 (pa_cons (pe_lst pa_nil) pa_nil)) (pe_tup pa_nil) (nomark _)))))
          (pss_one (ps_ret pe_bl))
          pss_nil))))))))))
      (pss_one (ps_ret pe_bl))), ?_⟩
    refine ⟨_, rfl, a, _, rfl, .inl hS, _, _, rfl, _, _, rfl, _, rfl, ?_⟩
    rw [List.length_map]
    obtain ⟨n, en, n1, n4⟩ : ∃ n : Nat, (if (if ((ns.length : Nat) : Int) < 3 then ((ns.length : Nat) : Int) else 3) > 1 then (if ((ns.length : Nat) : Int) < 3 then ((ns.length : Nat) : Int) else 3) else 1) = (n : Nat) ∧ 1 ≤ n ∧ n ≤ 3 := by
      refine ⟨if ns.length < 1 then 1 else if ns.length < 3 then ns.length else 3, ?_, ?_, ?_⟩
      all_goals repeat' split
      all_goals omega
    rw [en]
    refine ⟨by omega, by omega, ?_⟩
    rw [Int.toNat_natCast]
    refine for_range (fun i σ A => (∃ v1 v2 v3 v4 v5 v6 v7 v8 v9 v10 v11 v12 v13 v14 : Option V, σ = [some (.ref a), v1, v2, v3, v4, v5, v6, v7, v8, v9, v10, v11, v12, v13, v14]) ∧ Same H A) ⟨⟨none, none, none, none, none, none, none, none, none, none, none, none, none, none, rfl⟩, Same.refl _⟩ (fun i σ A hi hP => ?_) (fun σ A hP => ?_)
    · obtain ⟨⟨v1, v2, v3, v4, v5, v6, v7, v8, v9, v10, v11, v12, v13, v14, rfl⟩, sA⟩ := hP
      rw [Int.zero_add]
      refine ⟨_, rfl, _, rfl, a, ns, i, rfl, Hf.keepL sA hS, few, by omega, fun H1 b s1 hb0 hb1 => ?_⟩
      refine ⟨_, rfl, b, 9, rfl, hb1, by decide, by decide, fun H2 m hm bu2 hb2 => ?_⟩
      refine ⟨_, rfl, by omega, by omega, fun L hL => ?_⟩
      rw [Int.toNat_natCast]
      have nLb := hb2.off hL
      refine lc_range (fun j B => Bu b H2 B ∧ Bk B b ∧ ∃ (rs : List Rw) (xs : List V), rs.length = j ∧ (∀ r ∈ rs, RwOk r) ∧ B L = some (.lst xs) ∧ Dts K B xs (rs.map rowD)) ⟨(fun _ _ _ e => same_new hL _ _ e), hb2.k (same_new hL), [], [], rfl, (fun _ m => by cases m), upd_same, .nil⟩ (fun j B hj hP => ?_) (fun B hP => ?_)
      · obtain ⟨buB, hbB, rs, xs, lr, ok, hLB, dB⟩ := hP
        refine ⟨rfl, yesT ⟨_, rfl, b, rfl, hbB, fun B2 v r okr dv bu2' hb2' => ?_⟩⟩
        have hL2 := bu2' _ _ nLb hLB
        have d2 := dB.k (hbB.kt bu2')
        refine ⟨_, hL2, by have := dB.len; rw [List.length_map] at this; exact small1000 (by omega), (buB.trans bu2').new hL, hb2'.bu (Bu.set (p := L)) (fun z => nLb z.symm), rs ++ [r], xs ++ [v], by rw [List.length_append, lr]; rfl, fun x mx => ?_, upd_same, ?_⟩
        · rcases List.mem_append.mp mx with mx | mx
          · exact ok x mx
          · rw [List.mem_singleton.mp mx]; exact okr
        · rw [List.map_append]
          exact (dts_app d2 (.cons dv .nil)).k (Kt.lst hL2)
      obtain ⟨buB, hbB, rs, xs, lr, ok, hLB, dB⟩ := hP
      have lx : xs.length = rs.length := by rw [dB.len, List.length_map]
      have bu3 := bu2.trans buB
      have b0 : H b = none := none_of sA hb0
      have sB : Same H B := fun q o e => bu3 q o (ne_of_none e b0) (s1 _ _ (sA _ _ e))
      refine ⟨_, rfl, L, rfl, ⟨_, SqL.of hLB⟩, fun D hD => ?_⟩
      refine lc_it (walk_list (xs := xs)) (fun j C => Same B C ∧ C D = some (.lst ((rs.take j).map fun r => V.str (rend r)))) ⟨same_new hD, upd_same⟩ (fun j C _ h => SqL.of (h.1 _ _ hLB)) (fun j x C C' hj hP hY => ?_) (fun C hP => ?_)
      · obtain ⟨sC, hDC⟩ := hP
        obtain ⟨rfl, hx⟩ := hY
        obtain ⟨d, ed, dd⟩ := dB.at hx
        rw [List.getElem?_map] at ed
        obtain ⟨r, er, rfl⟩ := Option.map_eq_some_iff.mp ed
        refine ⟨rfl, yesT ⟨_, rfl, x, r, rfl, dd.ks sC, ok r (List.mem_of_getElem? er), fun C2 s2 => ?_⟩⟩
        refine ⟨_, s2 _ _ hDC, by rw [List.length_map, List.length_take]; exact small1000 (by omega), same_mut (sC.trans s2) hD, ?_⟩
        rw [upd_same, take_succ_map _ er]
      obtain ⟨sC, hDC⟩ := hP
      rw [lx, List.take_length] at hDC
      have hDC : C D = some (.lst (dueV rs)) := hDC
      refine ⟨D, _, rfl, .inl ⟨SqL.of hDC, fun dA hdA => ?_⟩⟩
      have s4 := same_new (o := .tup (dueV rs)) hdA
      have hT : Tn (K := K) H b L dA rs (upd C dA (.tup (dueV rs))) := ⟨(sB.trans sC).trans s4, b0, (hbB.k sC).k s4, nLb, ⟨xs, s4 _ _ (sC _ _ hLB), (dB.ks sC).ks s4⟩, SqT.of upd_same⟩
      generalize upd C dA (.tup (dueV rs)) = A1 at hT ⊢
      have l8 : rs.length ≤ 8 := by omega
      clear s4 hdA hDC hD sC sB b0 bu3 dB hLB hbB buB lr lx nLb hb2 bu2 hb1 hb0 s1 hL
      have SR := rows_shows ok (by omega)
      refine ⟨_, rfl, _, .list (rs.map rowD), rfl, (by obtain ⟨xs, hx, dx⟩ := hT.rows; exact .lst (SqL.of hx) dx.toDp), SR.sh, SR.nd, SR.dep, SR.fit, ?_⟩
      refine gn_q ?_
      refine next_q ?_
      refine if_q (Tn (K := K) H b L dA rs) (fun Q' kq => ?_) (fun A2 hT => ?_)
      · obtain ⟨xs, hx, dx⟩ := hT.rows
        refine ⟨_, rfl, L, xs, false, rs, rfl, Kd.Is.lst (SqL.of hx), dx, ok, by omega, fun A3 v s1 dv => ?_⟩
        have hT := hT.same s1
        refine ⟨_, rfl, ne_same dv (.tup hT.due (due_dts rs)) (due_fine ok) (by decide) ⟨_, rfl, iteF ?_⟩⟩
        have hx := s1 _ _ hx
        have dx := dx.ks s1
        clear s1 dv
        refine ⟨_, rfl, L, xs, rfl, .inl ⟨SqL.of hx, fun l hl => ?_⟩⟩
        have s2 := same_new (o := .tup xs) hl
        have hT := hT.same s2
        refine ⟨l, xs, true, rs, rfl, Kd.Is.tup (SqT.of upd_same), dx.ks s2, ok, by omega, fun A5 v2 s3 dv2 => ?_⟩
        have hT := hT.same s3
        refine ⟨_, rfl, ne_same dv2 (.tup hT.due (due_dts rs)) (due_fine ok) (by decide) ⟨_, rfl, iteF ?_⟩⟩
        have hx := s3 _ _ (s2 _ _ hx)
        have dx := (dx.ks s2).ks s3
        refine ⟨_, rfl, _, .list (rs.map rowD), rfl, .lst (SqL.of hx) dx.toDp, SR.sh, SR.nd, SR.dep, SR.fit, _, rfl, rfl, _, rfl, ?_⟩
        rw [decide_eq_true rfl]
        exact kq _ hT
      refine if_q (Tn (K := K) H b L dA rs) (fun Q' kq => ?_) (fun A2 hT => ?_)
      · have itm : ∀ {G : Hp}, ∀ x ∈ dueV rs, Itm K G x := fun x m => by
          obtain ⟨r, mr, rfl⟩ := List.mem_map.mp m
          exact .inl ⟨_, rfl, by have := (rend_len2 (ok r mr)).1; omega⟩
        have ld : (dueV rs).length ≤ 100 := by unfold dueV; rw [List.length_map]; omega
        refine ⟨_, rfl, dA, dueV rs, true, rfl, Kd.Is.tup hT.due, ld, itm, fun rs' e A3 v s1 dv => ?_, fun j f => (all_not_first (due_acc ok) f).elim⟩
        rw [due_acc ok] at e
        obtain rfl := acc_inj e
        have hT := hT.same s1
        obtain ⟨xs, hx, dx⟩ := hT.rows
        refine ⟨_, rfl, L, xs, rfl, .inl ⟨SqL.of hx, fun l hl => ?_⟩⟩
        have s2 := same_new (o := .tup xs) hl
        have hT := hT.same s2
        refine ne_same (dv.ks s2) (.tup (SqT.of upd_same) (dx.ks s2)) (rows_fine ok) (by decide) ⟨_, rfl, iteF ?_⟩
        clear s1 dv
        refine ⟨_, rfl, dA, dueV rs, rfl, .inr hT.due, fun g hg => ?_⟩
        have s3 := same_new (o := .lst (dueV rs)) hg
        have hT := hT.same s3
        refine ⟨g, dueV rs, false, rfl, Kd.Is.lst (SqL.of upd_same), ld, itm, fun rs' e A3 v s4 dv => ?_, fun j f => (all_not_first (due_acc ok) f).elim⟩
        rw [due_acc ok] at e
        obtain rfl := acc_inj e
        have hT := hT.same s4
        have hx := s4 _ _ (s3 _ _ (s2 _ _ hx))
        have dx := ((dx.ks s2).ks s3).ks s4
        refine ⟨_, rfl, L, xs, rfl, .inl ⟨SqL.of hx, fun l hl => ?_⟩⟩
        have s5 := same_new (o := .tup xs) hl
        exact ne_same (dv.ks s5) (.tup (SqT.of upd_same) (dx.ks s5)) (rows_fine ok) (by decide) ⟨_, rfl, kq _ (hT.same s5)⟩
      clear SR
      refine ⟨_, rfl, by omega, by omega, ?_⟩
      refine for_range (fun j σ B => (∃ v4 v6 v7 v8 v9 v10 v11 v12 v13 v14 : Option V, σ = [some (.ref a), some (.int (i : Nat)), some (.ref b), some (.ref L), v4, some (.ref dA), v6, v7, v8, v9, v10, v11, v12, v13, v14]) ∧ Tn (K := K) H b L dA rs B) ⟨⟨_, _, _, _, _, _, _, _, _, _, rfl⟩, hT⟩ (fun j σ B hj hP => ?_) (fun σ B hP => ?_)
      · clear hT
        obtain ⟨⟨v4, v6, v7, v8, v9, v10, v11, v12, v13, v14, rfl⟩, hT⟩ := hP
        refine ⟨_, rfl, _, rfl, b, rfl, hT.bk, fun A3 v r okr dv bu3 hb3 => ?_⟩
        have hT := hT.bu bu3 hb3
        refine ⟨v, r, rfl, dv, okr, fun A4 s4 => ?_⟩
        have hT := hT.same s4
        refine ⟨b, rend r, rfl, hT.bk, by have := (rend_len2 okr).2; omega, by have := (rend_len2 okr).1; omega, fun A5 u lu bu5 hb5 => ?_⟩
        have hT := hT.bu bu5 hb5
        clear bu3 hb3 dv s4 bu5 hb5
        have ld : (dueV rs).length = rs.length := by unfold dueV; rw [List.length_map]
        refine ⟨_, rfl, dA, dueV rs, rfl, .inr hT.due, fun g hg => ?_⟩
        have sg := same_new (o := .lst (dueV rs)) hg
        have g0 : H g = none := none_of hT.sm hg
        have gb : g ≠ b := hT.bk.off hg
        have gL : g ≠ L := by obtain ⟨_, e, _⟩ := hT.rows; exact (ne_of_none e hg).symm
        have hT := hT.same sg
        have hg : upd A5 g (.lst (dueV rs)) g = some (.lst (dueV rs)) := upd_same
        generalize upd A5 g (.lst (dueV rs)) = A6 at hT hg ⊢
        clear sg
        refine ⟨_, rfl, _, rfl, dA, dueV rs, rfl, .inr hT.due, _, _, rfl, rfl, b, (dueV rs).length + 1, rfl, hT.bk, by omega, by omega, fun A7 pl hpl bu7 hb7 => ?_⟩
        have hT := hT.bu bu7 hb7
        have hg := bu7 _ _ gb hg
        refine ⟨by show 2 ≤ sizeLine; decide, fun tp htp => ?_⟩
        have sp := same_new (o := .tup [.ref g, .int (pl : Nat)]) htp
        have hT := hT.same sp
        have hg := sp _ _ hg
        refine ⟨tp, _, rfl, SqT.of upd_same, rfl, _, _, rfl, _, _, rfl, rfl, ?_⟩
        have plr : pl ≤ rs.length := by omega
        generalize upd A7 tp (.tup [.ref g, .int (pl : Nat)]) = A8 at hT hg ⊢
        clear sp htp bu7 hb7
        refine ⟨_, rfl, .inl ⟨rfl, _, SqL.of hg⟩, _, rfl, _, rfl, g, dueV rs, (pl : Nat), .str u, rfl, rfl, hg, small1000 (by omega), by omega, by omega, ?_⟩
        have hT := hT.put (zs := put (dueV rs) pl (.str u)) hg g0 gb gL
        have hg : upd A8 g (.lst (put (dueV rs) pl (.str u))) g = some (.lst (put (dueV rs) pl (.str u))) := upd_same
        have ep : upd A8 g (.lst ((dueV rs).take ((pl : Nat) : Int).toNat ++ [.str u] ++ (dueV rs).drop ((pl : Nat) : Int).toNat)) = upd A8 g (.lst (put (dueV rs) pl (.str u))) := rfl
        rw [ep]
        generalize upd A8 g (.lst (put (dueV rs) pl (.str u))) = A9 at hT hg ⊢
        clear ep
        refine ⟨_, rfl, u, rfl, by omega, fun A10 v s10 od => ?_⟩
        have hT := hT.same s10
        have hg := s10 _ _ hg
        clear s10
        refine gn_q ?_
        refine next_q ?_
        refine asg_q (fun v' A' => Tn (K := K) H b L dA rs A' ∧ A' g = some (.lst (put (dueV rs) pl (.str u))) ∧ ((accF u = none ∧ v' = .int (pl : Nat)) ∨ ∃ q, accF u = some q ∧ Dt K A' v' (.tuple ((rs.take pl ++ [q] ++ rs.drop pl).map rowD)))) (fun Q' kq => ?_) (fun wv A11 hR => ?_)
        · refine ⟨_, rfl, rfl, _, rfl, ?_⟩
          cases e : accF u with
          | none =>
            rw [e] at od
            have od : v = .non := od
            rw [decide_eq_true od]
            exact iteT ⟨_, rfl, kq _ _ ⟨hT, hg, .inl ⟨e, rfl⟩⟩⟩
          | some q =>
            rw [e] at od
            obtain ⟨nv, dv⟩ : v ≠ .non ∧ Dt K A10 v (rowD q) := od
            rw [decide_eq_false nv]
            refine iteF ?_
            obtain ⟨xs, hx, dx⟩ := hT.rows
            have lx : xs.length = rs.length := by rw [dx.len, List.length_map]
            refine ⟨_, rfl, _, rfl, _, rfl, L, xs, rfl, SqL.of hx, fun p1 hp1 => ?_⟩
            rw [cut_tk]
            have s1 := same_new (o := .lst (xs.take pl)) hp1
            have h1 : upd A10 p1 (.lst (xs.take pl)) p1 = some (.lst (xs.take pl)) := upd_same
            generalize upd A10 p1 (.lst (xs.take pl)) = B1 at s1 h1 ⊢
            refine ⟨_, rfl, by show 1 ≤ sizeLine; decide, fun p2 hp2 => ?_⟩
            have s2 := same_new (o := .lst [v]) hp2
            have h2 : upd B1 p2 (.lst [v]) p2 = some (.lst [v]) := upd_same
            have h1 := s2 _ _ h1
            have s2 := s1.trans s2
            generalize upd B1 p2 (.lst [v]) = B2 at s2 h1 h2 ⊢
            refine ⟨p1, p2, _, _, rfl, rfl, h1, h2, by rw [List.length_take]; have big : (100000 : Nat) ≤ sizeLine := (by decide); show min pl xs.length + 1 ≤ sizeLine; omega, fun p3 hp3 => ?_⟩
            have s3 := same_new (o := .lst (xs.take pl ++ [v])) hp3
            have h3 : upd B2 p3 (.lst (xs.take pl ++ [v])) p3 = some (.lst (xs.take pl ++ [v])) := upd_same
            have s3 := s2.trans s3
            generalize upd B2 p3 (.lst (xs.take pl ++ [v])) = B3 at s3 h3 ⊢
            refine ⟨_, rfl, _, rfl, _, rfl, L, xs, rfl, SqL.of (s3 _ _ hx), fun p4 hp4 => ?_⟩
            rw [cut_dr]
            have s4 := same_new (o := .lst (xs.drop pl)) hp4
            have h4 : upd B3 p4 (.lst (xs.drop pl)) p4 = some (.lst (xs.drop pl)) := upd_same
            have h3 := s4 _ _ h3
            have s4 := s3.trans s4
            generalize upd B3 p4 (.lst (xs.drop pl)) = B4 at s4 h3 h4 ⊢
            refine ⟨p3, p4, _, _, rfl, rfl, h3, h4, by rw [List.length_append, List.length_take, List.length_drop]; have big : (100000 : Nat) ≤ sizeLine := (by decide); show min pl xs.length + 1 + (xs.length - pl) ≤ sizeLine; omega, fun p5 hp5 => ?_⟩
            have s5 := same_new (o := .lst (xs.take pl ++ [v] ++ xs.drop pl)) hp5
            have h5 : upd B4 p5 (.lst (xs.take pl ++ [v] ++ xs.drop pl)) p5 = some (.lst (xs.take pl ++ [v] ++ xs.drop pl)) := upd_same
            have s5 := s4.trans s5
            generalize upd B4 p5 (.lst (xs.take pl ++ [v] ++ xs.drop pl)) = B5 at s5 h5 ⊢
            refine ⟨p5, _, rfl, .inl ⟨SqL.of h5, fun p6 hp6 => ?_⟩⟩
            have s6 := s5.trans (same_new (o := .tup (xs.take pl ++ [v] ++ xs.drop pl)) hp6)
            refine kq _ _ ⟨hT.same s6, s6 _ _ hg, .inr ⟨q, e, .tup (SqT.of upd_same) ?_⟩⟩
            rw [List.map_append, List.map_append, List.map_take, List.map_drop]
            exact ((((dx.take pl).snoc dv).app (dx.drop pl)).ks s6)
        clear hT hg od
        obtain ⟨hT, hg, hw⟩ := hR
        refine gn_q ?_
        refine if_q (fun A' => Tn (K := K) H b L dA rs A' ∧ A' g = some (.lst (put (dueV rs) pl (.str u)))) (fun Q' kq => ?_) (fun A12 hR => ?_)
        · refine ⟨_, rfl, g, put (dueV rs) pl (.str u), false, rfl, Kd.Is.lst (SqL.of hg), by rw [put_len _ _ (by omega)]; omega, fun x m => ?_, fun rs' e A3 v2 s3 dv => ?_, fun k' f A3 s3 => ?_⟩
          · rcases put_mem m with m | rfl
            · obtain ⟨r', mr, rfl⟩ := List.mem_map.mp m
              exact .inl ⟨_, rfl, by have := (rend_len2 (ok r' mr)).1; omega⟩
            · exact .inl ⟨_, rfl, by omega⟩
          · rcases hw with ⟨en, rfl⟩ | ⟨q, eq, dw⟩
            · exact (all_not_first e (put_first ok plr en)).elim
            · rw [put_all ok eq] at e
              obtain rfl := acc_inj e
              have okq : ∀ r ∈ rs.take pl ++ [q] ++ rs.drop pl, RwOk r := fun r' mr => by
                rcases List.mem_append.mp mr with mr | mr
                · rcases List.mem_append.mp mr with mr | mr
                  · exact ok r' (List.mem_of_mem_take mr)
                  · rw [List.mem_singleton.mp mr]; exact (acc_iff.mp eq).1
                · exact ok r' (List.mem_of_mem_drop mr)
              exact ⟨_, rfl, ne_same dv (dw.ks s3) (rows_fine okq) (by decide) ⟨_, rfl, kq _ ⟨hT.same s3, s3 _ _ hg⟩⟩⟩
          · rcases hw with ⟨en, rfl⟩ | ⟨q, eq, dw⟩
            · rw [first_one f (put_first ok plr en)]
              exact ⟨_, rfl, ne_same (n := 0) (.int _) (.int _) (fine_int _) (by decide) ⟨_, rfl, kq _ ⟨hT.same s3, s3 _ _ hg⟩⟩⟩
            · exact (all_not_first (put_all ok eq) f).elim
        clear hT hg hw
        obtain ⟨hT, hg⟩ := hR
        have gl : (put (dueV rs) pl (.str u)).length = rs.length + 1 := by rw [put_len _ _ (by omega)]; omega
        have gm : ∀ x ∈ put (dueV rs) pl (.str u), ∃ t : Str, x = .str t ∧ t.length ≤ 400 := fun x m => by
          rcases put_mem m with m | rfl
          · obtain ⟨r', mr, rfl⟩ := List.mem_map.mp m
            exact ⟨_, rfl, by have := (rend_len2 (ok r' mr)).1; omega⟩
          · exact ⟨_, rfl, by omega⟩
        generalize put (dueV rs) pl (.str u) = gs at hg gl gm ⊢
        refine ⟨_, rfl, .inl ⟨rfl, _, SqL.of hg⟩, _, rfl, _, rfl, _, _, rfl, rfl, b, pl + 1, rfl, hT.bk, by omega, by omega, fun A13 p2 hp2 bu1 hb1 => ?_⟩
        have hT := hT.bu bu1 hb1
        have hg := bu1 _ _ gb hg
        refine ⟨_, rfl, by show 0 ≤ sizeLine; decide, fun t0 ht0 => ?_⟩
        have s1 := same_new (o := .tup []) ht0
        have h0 : upd A13 t0 (.tup []) t0 = some (.tup []) := upd_same
        have hT := hT.same s1
        have hg := s1 _ _ hg
        generalize upd A13 t0 (.tup []) = A14 at h0 hT hg ⊢
        refine ⟨by show 1 ≤ sizeLine; decide, fun l1 hl1 => ?_⟩
        have lg : l1 ≠ g := (ne_of_none hg hl1).symm
        have s2 := same_new (o := .lst [.str "x"]) hl1
        have h1 : upd A14 l1 (.lst [.str "x"]) l1 = some (.lst [.str "x"]) := upd_same
        have h0 := s2 _ _ h0
        have hT := hT.same s2
        have hg := s2 _ _ hg
        generalize upd A14 l1 (.lst [.str "x"]) = A15 at h0 h1 hT hg ⊢
        refine ⟨_, rfl, by show 9 ≤ sizeLine; decide, fun lo hlo => ?_⟩
        have s3 := same_new (o := .lst [V.non, .int 7, .str "", .ref t0, .ref l1, .ref dA, .str "call", .str "     0", .bl true]) hlo
        have hlb : lo ≠ b := hT.bk.off hlo
        have l1b : l1 ≠ b := fun z => by obtain ⟨x, y, e, _⟩ := hT.bk; rw [← z, h1] at e; cases e
        have t0b : t0 ≠ b := fun z => by obtain ⟨x, y, e, _⟩ := hT.bk; rw [← z, h0] at e; cases e
        have t0g : t0 ≠ g := fun z => by rw [z, hg] at h0; cases h0
        have h0 := s3 _ _ h0
        have h1 := s3 _ _ h1
        have hT := hT.same s3
        have hg := s3 _ _ hg
        refine ⟨b, lo, _, rfl, hT.bk, hlb, upd_same, List.cons_ne_nil _ _, by show 9 < 1000; decide, fun A17 ov mv bu4 hb4 => ?_⟩
        have hT := hT.bu bu4 hb4
        have hg := bu4 _ _ gb hg
        have h0 := bu4 _ _ t0b h0
        have h1 := bu4 _ _ l1b h1
        have od : accV ov = none ∧ (∀ t, ov = .str t → t.length ≤ 400) ∧ ∀ G, Bu g A17 G → Itm K G ov := by
          simp only [List.mem_cons, List.not_mem_nil, or_false] at mv
          rcases mv with rfl | rfl | rfl | rfl | rfl | rfl | rfl | rfl | rfl
          · exact ⟨rfl, (fun t z => by cases z), fun G _ => .inr ⟨(fun t z => by cases z), .none, .non, .non⟩⟩
          · exact ⟨rfl, (fun t z => by cases z), fun G _ => .inr ⟨(fun t z => by cases z), .int 7, .int _, .int (by decide)⟩⟩
          · exact ⟨short_none (by decide), (fun t z => by cases z; decide), fun G _ => .inl ⟨_, rfl, by decide⟩⟩
          · exact ⟨rfl, (fun t z => by cases z), fun G bg => .inr ⟨(fun t z => by cases z), .tuple [], .tup (SqT.of (bg _ _ t0g h0)) .nil, Tg.tup (ts := []) (fun t m => by cases m) (by decide)⟩⟩
          · exact ⟨rfl, (fun t z => by cases z), fun G bg => .inr ⟨(fun t z => by cases z), .list [.str "x"], .lst (SqL.of (bg _ _ lg h1)) (.cons (.str _) .nil), Tg.lst (ts := ["x"]) (fun t m => by rw [List.mem_singleton.mp m]; exact ⟨by decide, by decide +kernel⟩) (by decide)⟩⟩
          · refine ⟨rfl, (fun t z => by cases z), fun G bg => .inr ⟨(fun t z => by cases z), dueD rs, .tup (bg.kt (K := K) hg (fun _ e => by cases e) (fun _ _ e => by cases e) _ _ hT.due) (due_dts rs).toDp, ?_⟩⟩
            have := Tg.tup (ts := rs.map rend) (fun t m => by obtain ⟨r', mr, rfl⟩ := List.mem_map.mp m; exact rend_tx (ok r' mr)) (by rw [List.length_map]; omega)
            rw [List.map_map] at this
            exact this
          · exact ⟨short_none (by decide), (fun t z => by cases z; decide), fun G _ => .inl ⟨_, rfl, by decide⟩⟩
          · exact ⟨short_none (by decide), (fun t z => by cases z; decide), fun G _ => .inl ⟨_, rfl, by decide⟩⟩
          · exact ⟨rfl, (fun t z => by cases z), fun G _ => .inr ⟨(fun t z => by cases z), .bool true, .bl _, .bl _⟩⟩
        obtain ⟨oa, ol, oi⟩ := od
        refine ⟨g, gs, (p2 : Nat), ov, rfl, rfl, hg, small1000 (by omega), by omega, by omega, ?_⟩
        have hT := hT.put (zs := put gs p2 ov) hg g0 gb gL
        have oi : Itm K (upd A17 g (.lst (put gs p2 ov))) ov := oi _ Bu.set
        have hg : upd A17 g (.lst (put gs p2 ov)) g = some (.lst (put gs p2 ov)) := upd_same
        have ep : upd A17 g (.lst (gs.take ((p2 : Nat) : Int).toNat ++ [ov] ++ gs.drop ((p2 : Nat) : Int).toNat)) = upd A17 g (.lst (put gs p2 ov)) := rfl
        rw [ep]
        generalize upd A17 g (.lst (put gs p2 ov)) = A18 at hT hg oi ⊢
        clear ep bu4 hb4 h0 h1 s3 hlb l1b t0b t0g lg s1 s2 bu1 hb1 mv
        have ql : (put gs p2 ov).length = rs.length + 2 := by rw [put_len _ _ (by omega)]; omega
        have qm : ∀ x ∈ put gs p2 ov, (∃ t : Str, x = .str t ∧ t.length ≤ 400) ∨ ((∀ t : Str, x ≠ .str t) ∧ ∃ d, Ob K A18 x d) := fun x m => by
          rcases put_mem m with m | rfl
          · exact .inl (gm x m)
          · rcases oi with ⟨t, rfl, _⟩ | h
            · exact .inl ⟨t, rfl, ol t rfl⟩
            · exact .inr h
        have qb : p2 ∈ badN (put gs p2 ov) (put gs p2 ov).length := badN_mem.mpr ⟨by omega, by rw [List.getD_eq_getElem?_getD, put_at _ (by omega)]; exact oa⟩
        generalize put gs p2 ov = qs at hg ql qm qb ⊢
        refine ⟨_, rfl, g, qs, rfl, .inl (SqL.of hg), _, rfl, by omega, by omega, fun M hM => ?_⟩
        rw [Int.toNat_natCast]
        refine lc_range (fun j B => Same A18 B ∧ B M = some (.lst ((badN qs j).map fun (k : Nat) => V.int (k : Int)))) ⟨same_new hM, upd_same⟩ (fun j B hj hP => ?_) (fun B hP => ?_)
        · obtain ⟨sB, hMB⟩ := hP
          have lb : ∀ j, (badN qs j).length ≤ j := fun j => by
            induction j with
            | zero => exact Nat.le_refl _
            | succ j ih =>
              unfold badN
              rw [List.length_append]
              split
              · show _ + 1 ≤ _; omega
              · show _ + 0 ≤ _; omega
          have bj := lb j
          have hx : qs[j]? = some (qs.getD j .non) := by rw [List.getD_eq_getElem?_getD, List.getElem?_eq_getElem hj]; rfl
          rw [Int.zero_add]
          refine ⟨rfl, ?_⟩
          refine ⟨_, rfl, _, rfl, g, _, j, _, rfl, rfl, SqL.of (sB _ _ hg), atI_nat hx, ?_⟩
          have qx := qm _ (List.mem_of_getElem? hx)
          have eb : badN qs (j + 1) = badN qs j ++ (if (accV (qs.getD j .non)).isNone then [j] else []) := rfl
          generalize qs.getD j .non = x at hx qx eb ⊢
          rcases qx with ⟨t, rfl, lt⟩ | ⟨ns, d, ob⟩
          · refine ⟨_, _, _, _, true, rfl, .ty "str", .base (.str _), kit_ty (by decide +kernel), _, rfl, iteF ?_⟩
            refine ⟨_, rfl, _, rfl, g, _, j, _, rfl, rfl, SqL.of (sB _ _ hg), atI_nat hx, t, rfl, lt, fun B2 v s2 od => ⟨rfl, _, rfl, ?_⟩⟩
            have hM2 := s2 _ _ hMB
            cases e : accF t with
            | none =>
              rw [e] at od
              have od : v = .non := od
              rw [decide_eq_true od]
              refine iteT ⟨_, rfl, _, hM2, by rw [List.length_map]; exact small1000 (by omega), same_mut (sB.trans s2) hM, ?_⟩
              have eb : badN qs (j + 1) = badN qs j ++ [j] := by rw [eb]; show _ ++ (if (accF t).isNone then [j] else []) = _; rw [e]; rfl
              rw [upd_same, eb, List.map_append]
              rfl
            | some q =>
              rw [e] at od
              have od : v ≠ .non ∧ _ := od
              rw [decide_eq_false od.1]
              refine iteF ⟨sB.trans s2, ?_⟩
              have eb : badN qs (j + 1) = badN qs j := by rw [eb]; show _ ++ (if (accF t).isNone then [j] else []) = _; rw [e]; exact List.append_nil _
              rw [eb]
              exact hM2
          · have an : accV x = none := by
              cases x with
              | str t => exact absurd rfl (ns t)
              | _ => rfl
            obtain ⟨n', b0, ty, k1, k2, _⟩ := tys_of (ob.keep sB)
            cases b0 with
            | true =>
              obtain ⟨t, et, _⟩ := k2 rfl
              exact absurd et (ns t)
            | false =>
              refine ⟨_, _, _, _, false, rfl, .ty "str", ty, k1, _, rfl, iteT (iteT ?_)⟩
              refine ⟨_, rfl, _, hMB, by rw [List.length_map]; exact small1000 (by omega), same_mut sB hM, ?_⟩
              have eb : badN qs (j + 1) = badN qs j ++ [j] := by rw [eb, an]; rfl
              rw [upd_same, eb, List.map_append]
              rfl
        obtain ⟨sB, hMB⟩ := hP
        have eM : (badN qs qs.length).map (fun (k : Nat) => V.int (k : Int)) = ((badN qs qs.length).map fun (k : Nat) => (k : Int)).map V.int := by rw [List.map_map]; rfl
        rw [eM] at hMB
        refine ⟨M, _, rfl, SqL.of hMB, by rw [List.length_map]; exact List.length_pos_of_mem qb, fun m mm ml => ?_⟩
        obtain ⟨k0, mk0, rfl⟩ := List.mem_map.mp mm
        have fi : FirstN qs k0 := badN_first mk0 (fun y my => Int.ofNat_le.mp (ml _ (List.mem_map.mpr ⟨y, my, rfl⟩)))
        have hT := hT.same sB
        have hg := sB _ _ hg
        refine gn_q ?_
        refine next_q ?_
        refine if1_q (Tn (K := K) H b L dA rs) (fun Q' kq => ?_) (fun A2 hT => ⟨⟨_, _, _, _, _, _, _, _, _, _, rfl⟩, hT⟩)
        refine ⟨_, rfl, g, qs, rfl, .inl ⟨SqL.of hg, fun tq htq => ?_⟩⟩
        have s1 := same_new (o := .tup qs) htq
        have hT := hT.same s1
        refine ⟨tq, qs, true, rfl, Kd.Is.tup (SqT.of upd_same), by omega, fun x mx => ?_, fun rs' e => (all_not_first e fi).elim, fun k' f A3 s3 => ?_⟩
        · rcases qm x mx with ⟨t, rfl, lt⟩ | ⟨ns, d, ob⟩
          · exact .inl ⟨t, rfl, by omega⟩
          · exact .inr ⟨ns, d, (ob.keep sB).keep s1⟩
        · rw [first_one f fi]
          exact ⟨_, rfl, ne_same (n := 0) (.int _) (.int _) (fine_int _) (by decide) ⟨_, rfl, kq _ (hT.same s3)⟩⟩
      · obtain ⟨⟨v4, v6, v7, v8, v9, v10, v11, v12, v13, v14, rfl⟩, hT⟩ := hP
        refine nx_q ?_
        refine if1_q (Tn (K := K) H b L dA rs) (fun Q' kq => ?_) (fun A2 hT => ⟨⟨_, _, _, _, _, _, _, _, _, _, _, _, _, _, rfl⟩, hT.sm⟩)
        refine ⟨by show 0 ≤ sizeLine; decide, fun e he => ?_⟩
        have s1 := same_new (o := .tup []) he
        have hT := hT.same s1
        refine ⟨e, [], true, rfl, Kd.Is.tup (SqT.of upd_same), Nat.zero_le _, (fun x m => by cases m), fun rs' e' A3 v s2 dv => ?_, fun j f => by obtain ⟨x, hx, _⟩ := f; cases hx⟩
        have : rs' = [] := by cases rs' with
          | nil => rfl
          | cons => cases e'
        subst this
        have hT := hT.same s2
        refine ⟨by show 0 ≤ sizeLine; decide, fun e2 he2 => ?_⟩
        have s3 := same_new (o := .tup []) he2
        have hT := hT.same s3
        refine ne_same (dv.ks s3) (.tup (SqT.of upd_same) .nil) (fine_tup (n := 0) fun d m => by cases m) (by decide) ⟨_, rfl, iteF ?_⟩
        refine ⟨by show 0 ≤ sizeLine; decide, fun l hl => ?_⟩
        have s4 := same_new (o := .lst []) hl
        have hT := hT.same s4
        refine ⟨l, [], false, [], rfl, Kd.Is.lst (SqL.of upd_same), .nil, (fun x m => by cases m), Nat.zero_le _, fun A4 v2 s5 dv2 => ?_⟩
        have hT := hT.same s5
        refine ⟨by show 0 ≤ sizeLine; decide, fun e3 he3 => ?_⟩
        have s6 := same_new (o := .tup []) he3
        exact ne_same (dv2.ks s6) (.tup (SqT.of upd_same) .nil) (fine_tup (n := 0) fun d m => by cases m) (by decide) ⟨_, rfl, kq _ (hT.same s6)⟩
    · obtain ⟨⟨v1, v2, v3, v4, v5, v6, v7, v8, v9, v10, v11, v12, v13, v14, rfl⟩, sA⟩ := hP
      exact k _ sA
end
end K83

namespace K83
open PySem L2 Wm TL Dv PySem.W
theorem all_mk {l : PySem.W.OpenLaw} {w : World} {K : PySem.W.Frag} {h : Heap} {mg : Str → Option Value} {fa : Addr} (X : K.In h) (G : h.Ns mainGlobals mg) (hfa : mg "law" = some (.ref fa))
    {x_is_whole : Addr} {od_is_whole an_is_whole : Option Addr} {sl_is_whole : Array (Option Value)} {oc_is_whole dc_is_whole pm_is_whole cd_is_whole ct_is_whole : Value}
    {kV_is_whole : Value}
    (a_is_whole : PySem.W.nsIn K mainGlobals "is_whole" = some (some (.ref x_is_whole)))
    (l_is_whole : K.lookup x_is_whole = some ⟨oc_is_whole, od_is_whole, .func (PySem.W.fnOf "is_whole" "is_whole" (defArgs s_is_whole) (defBody s_is_whole) (defScope s_is_whole) .none kV_is_whole dc_is_whole pm_is_whole an_is_whole cd_is_whole ct_is_whole), sl_is_whole⟩)
    (c_is_whole : PySem.W.codeIn K cd_is_whole "is_whole" = true)
    (k_is_whole : PySem.W.keepIn K (.ref x_is_whole) = true)
    {x_is_whole_within : Addr} {od_is_whole_within an_is_whole_within : Option Addr} {sl_is_whole_within : Array (Option Value)} {oc_is_whole_within dc_is_whole_within pm_is_whole_within cd_is_whole_within ct_is_whole_within : Value}
    {kV_is_whole_within : Value}
    (a_is_whole_within : PySem.W.nsIn K mainGlobals "is_whole_within" = some (some (.ref x_is_whole_within)))
    (l_is_whole_within : K.lookup x_is_whole_within = some ⟨oc_is_whole_within, od_is_whole_within, .func (PySem.W.fnOf "is_whole_within" "is_whole_within" (defArgs s_is_whole_within) (defBody s_is_whole_within) (defScope s_is_whole_within) .none kV_is_whole_within dc_is_whole_within pm_is_whole_within an_is_whole_within cd_is_whole_within ct_is_whole_within), sl_is_whole_within⟩)
    (c_is_whole_within : PySem.W.codeIn K cd_is_whole_within "is_whole_within" = true)
    (k_is_whole_within : PySem.W.keepIn K (.ref x_is_whole_within) = true)
    {x_is_sequence : Addr} {od_is_sequence an_is_sequence : Option Addr} {sl_is_sequence : Array (Option Value)} {oc_is_sequence dc_is_sequence pm_is_sequence cd_is_sequence ct_is_sequence : Value}
    {kV_is_sequence : Value}
    (a_is_sequence : PySem.W.nsIn K mainGlobals "is_sequence" = some (some (.ref x_is_sequence)))
    (l_is_sequence : K.lookup x_is_sequence = some ⟨oc_is_sequence, od_is_sequence, .func (PySem.W.fnOf "is_sequence" "is_sequence" (defArgs s_is_sequence) (defBody s_is_sequence) (defScope s_is_sequence) .none kV_is_sequence dc_is_sequence pm_is_sequence an_is_sequence cd_is_sequence ct_is_sequence), sl_is_sequence⟩)
    (c_is_sequence : PySem.W.codeIn K cd_is_sequence "is_sequence" = true)
    (k_is_sequence : PySem.W.keepIn K (.ref x_is_sequence) = true)
    {x_is_digit : Addr} {od_is_digit an_is_digit : Option Addr} {sl_is_digit : Array (Option Value)} {oc_is_digit dc_is_digit pm_is_digit cd_is_digit ct_is_digit : Value}
    {kV_is_digit : Value}
    (a_is_digit : PySem.W.nsIn K mainGlobals "is_digit" = some (some (.ref x_is_digit)))
    (l_is_digit : K.lookup x_is_digit = some ⟨oc_is_digit, od_is_digit, .func (PySem.W.fnOf "is_digit" "is_digit" (defArgs s_is_digit) (defBody s_is_digit) (defScope s_is_digit) .none kV_is_digit dc_is_digit pm_is_digit an_is_digit cd_is_digit ct_is_digit), sl_is_digit⟩)
    (c_is_digit : PySem.W.codeIn K cd_is_digit "is_digit" = true)
    (k_is_digit : PySem.W.keepIn K (.ref x_is_digit) = true)
    {x_is_number : Addr} {od_is_number an_is_number : Option Addr} {sl_is_number : Array (Option Value)} {oc_is_number dc_is_number pm_is_number cd_is_number ct_is_number : Value}
    {kV_is_number : Value}
    (a_is_number : PySem.W.nsIn K mainGlobals "is_number" = some (some (.ref x_is_number)))
    (l_is_number : K.lookup x_is_number = some ⟨oc_is_number, od_is_number, .func (PySem.W.fnOf "is_number" "is_number" (defArgs s_is_number) (defBody s_is_number) (defScope s_is_number) .none kV_is_number dc_is_number pm_is_number an_is_number cd_is_number ct_is_number), sl_is_number⟩)
    (c_is_number : PySem.W.codeIn K cd_is_number "is_number" = true)
    (k_is_number : PySem.W.keepIn K (.ref x_is_number) = true)
    {x_is_station : Addr} {od_is_station an_is_station : Option Addr} {sl_is_station : Array (Option Value)} {oc_is_station dc_is_station pm_is_station cd_is_station ct_is_station : Value}
    {kV_is_station : Value}
    (a_is_station : PySem.W.nsIn K mainGlobals "is_station" = some (some (.ref x_is_station)))
    (l_is_station : K.lookup x_is_station = some ⟨oc_is_station, od_is_station, .func (PySem.W.fnOf "is_station" "is_station" (defArgs s_is_station) (defBody s_is_station) (defScope s_is_station) .none kV_is_station dc_is_station pm_is_station an_is_station cd_is_station ct_is_station), sl_is_station⟩)
    (c_is_station : PySem.W.codeIn K cd_is_station "is_station" = true)
    (k_is_station : PySem.W.keepIn K (.ref x_is_station) = true)
    {x_is_crew : Addr} {od_is_crew an_is_crew : Option Addr} {sl_is_crew : Array (Option Value)} {oc_is_crew dc_is_crew pm_is_crew cd_is_crew ct_is_crew : Value}
    {kV_is_crew : Value}
    (a_is_crew : PySem.W.nsIn K mainGlobals "is_crew" = some (some (.ref x_is_crew)))
    (l_is_crew : K.lookup x_is_crew = some ⟨oc_is_crew, od_is_crew, .func (PySem.W.fnOf "is_crew" "is_crew" (defArgs s_is_crew) (defBody s_is_crew) (defScope s_is_crew) .none kV_is_crew dc_is_crew pm_is_crew an_is_crew cd_is_crew ct_is_crew), sl_is_crew⟩)
    (c_is_crew : PySem.W.codeIn K cd_is_crew "is_crew" = true)
    (k_is_crew : PySem.W.keepIn K (.ref x_is_crew) = true)
    {x_is_move : Addr} {od_is_move an_is_move : Option Addr} {sl_is_move : Array (Option Value)} {oc_is_move dc_is_move pm_is_move cd_is_move ct_is_move : Value}
    {kV_is_move : Value}
    (a_is_move : PySem.W.nsIn K mainGlobals "is_move" = some (some (.ref x_is_move)))
    (l_is_move : K.lookup x_is_move = some ⟨oc_is_move, od_is_move, .func (PySem.W.fnOf "is_move" "is_move" (defArgs s_is_move) (defBody s_is_move) (defScope s_is_move) .none kV_is_move dc_is_move pm_is_move an_is_move cd_is_move ct_is_move), sl_is_move⟩)
    (c_is_move : PySem.W.codeIn K cd_is_move "is_move" = true)
    (k_is_move : PySem.W.keepIn K (.ref x_is_move) = true)
    {x_joined : Addr} {od_joined an_joined : Option Addr} {sl_joined : Array (Option Value)} {oc_joined dc_joined pm_joined cd_joined ct_joined : Value}
    {kV_joined : Value}
    (a_joined : PySem.W.nsIn K mainGlobals "joined" = some (some (.ref x_joined)))
    (l_joined : K.lookup x_joined = some ⟨oc_joined, od_joined, .func (PySem.W.fnOf "joined" "joined" (defArgs s_joined) (defBody s_joined) (defScope s_joined) .none kV_joined dc_joined pm_joined an_joined cd_joined ct_joined), sl_joined⟩)
    (c_joined : PySem.W.codeIn K cd_joined "joined" = true)
    (k_joined : PySem.W.keepIn K (.ref x_joined) = true)
    {x_digits_in : Addr} {od_digits_in an_digits_in : Option Addr} {sl_digits_in : Array (Option Value)} {oc_digits_in dc_digits_in pm_digits_in cd_digits_in ct_digits_in : Value}
    {kV_digits_in : Value}
    (a_digits_in : PySem.W.nsIn K mainGlobals "digits_in" = some (some (.ref x_digits_in)))
    (l_digits_in : K.lookup x_digits_in = some ⟨oc_digits_in, od_digits_in, .func (PySem.W.fnOf "digits_in" "digits_in" (defArgs s_digits_in) (defBody s_digits_in) (defScope s_digits_in) .none kV_digits_in dc_digits_in pm_digits_in an_digits_in cd_digits_in ct_digits_in), sl_digits_in⟩)
    (c_digits_in : PySem.W.codeIn K cd_digits_in "digits_in" = true)
    (k_digits_in : PySem.W.keepIn K (.ref x_digits_in) = true)
    {x_crews_text : Addr} {od_crews_text an_crews_text : Option Addr} {sl_crews_text : Array (Option Value)} {oc_crews_text dc_crews_text pm_crews_text cd_crews_text ct_crews_text : Value}
    {kV_crews_text : Value}
    (a_crews_text : PySem.W.nsIn K mainGlobals "crews_text" = some (some (.ref x_crews_text)))
    (l_crews_text : K.lookup x_crews_text = some ⟨oc_crews_text, od_crews_text, .func (PySem.W.fnOf "crews_text" "crews_text" (defArgs s_crews_text) (defBody s_crews_text) (defScope s_crews_text) .none kV_crews_text dc_crews_text pm_crews_text an_crews_text cd_crews_text ct_crews_text), sl_crews_text⟩)
    (c_crews_text : PySem.W.codeIn K cd_crews_text "crews_text" = true)
    (k_crews_text : PySem.W.keepIn K (.ref x_crews_text) = true)
    {x_pairs_text : Addr} {od_pairs_text an_pairs_text : Option Addr} {sl_pairs_text : Array (Option Value)} {oc_pairs_text dc_pairs_text pm_pairs_text cd_pairs_text ct_pairs_text : Value}
    {kV_pairs_text : Value}
    (a_pairs_text : PySem.W.nsIn K mainGlobals "pairs_text" = some (some (.ref x_pairs_text)))
    (l_pairs_text : K.lookup x_pairs_text = some ⟨oc_pairs_text, od_pairs_text, .func (PySem.W.fnOf "pairs_text" "pairs_text" (defArgs s_pairs_text) (defBody s_pairs_text) (defScope s_pairs_text) .none kV_pairs_text dc_pairs_text pm_pairs_text an_pairs_text cd_pairs_text ct_pairs_text), sl_pairs_text⟩)
    (c_pairs_text : PySem.W.codeIn K cd_pairs_text "pairs_text" = true)
    (k_pairs_text : PySem.W.keepIn K (.ref x_pairs_text) = true)
    {x_row_line : Addr} {od_row_line an_row_line : Option Addr} {sl_row_line : Array (Option Value)} {oc_row_line dc_row_line pm_row_line cd_row_line ct_row_line : Value}
    {kV_row_line : Value}
    (a_row_line : PySem.W.nsIn K mainGlobals "row_line" = some (some (.ref x_row_line)))
    (l_row_line : K.lookup x_row_line = some ⟨oc_row_line, od_row_line, .func (PySem.W.fnOf "row_line" "row_line" (defArgs s_row_line) (defBody s_row_line) (defScope s_row_line) .none kV_row_line dc_row_line pm_row_line an_row_line cd_row_line ct_row_line), sl_row_line⟩)
    (c_row_line : PySem.W.codeIn K cd_row_line "row_line" = true)
    (k_row_line : PySem.W.keepIn K (.ref x_row_line) = true)
    {x_book_page : Addr} {od_book_page an_book_page : Option Addr} {sl_book_page : Array (Option Value)} {oc_book_page dc_book_page pm_book_page cd_book_page ct_book_page : Value}
    {kV_book_page : Value}
    (a_book_page : PySem.W.nsIn K mainGlobals "book_page" = some (some (.ref x_book_page)))
    (l_book_page : K.lookup x_book_page = some ⟨oc_book_page, od_book_page, .func (PySem.W.fnOf "book_page" "book_page" (defArgs s_book_page) (defBody s_book_page) (defScope s_book_page) .none kV_book_page dc_book_page pm_book_page an_book_page cd_book_page ct_book_page), sl_book_page⟩)
    (c_book_page : PySem.W.codeIn K cd_book_page "book_page" = true)
    (k_book_page : PySem.W.keepIn K (.ref x_book_page) = true)
    {x_read_tick : Addr} {od_read_tick an_read_tick : Option Addr} {sl_read_tick : Array (Option Value)} {oc_read_tick dc_read_tick pm_read_tick cd_read_tick ct_read_tick : Value}
    {kV_read_tick : Value}
    (a_read_tick : PySem.W.nsIn K mainGlobals "read_tick" = some (some (.ref x_read_tick)))
    (l_read_tick : K.lookup x_read_tick = some ⟨oc_read_tick, od_read_tick, .func (PySem.W.fnOf "read_tick" "read_tick" (defArgs s_read_tick) (defBody s_read_tick) (defScope s_read_tick) .none kV_read_tick dc_read_tick pm_read_tick an_read_tick cd_read_tick ct_read_tick), sl_read_tick⟩)
    (c_read_tick : PySem.W.codeIn K cd_read_tick "read_tick" = true)
    (k_read_tick : PySem.W.keepIn K (.ref x_read_tick) = true)
    {x_read_grade : Addr} {od_read_grade an_read_grade : Option Addr} {sl_read_grade : Array (Option Value)} {oc_read_grade dc_read_grade pm_read_grade cd_read_grade ct_read_grade : Value}
    {kV_read_grade : Value}
    (a_read_grade : PySem.W.nsIn K mainGlobals "read_grade" = some (some (.ref x_read_grade)))
    (l_read_grade : K.lookup x_read_grade = some ⟨oc_read_grade, od_read_grade, .func (PySem.W.fnOf "read_grade" "read_grade" (defArgs s_read_grade) (defBody s_read_grade) (defScope s_read_grade) .none kV_read_grade dc_read_grade pm_read_grade an_read_grade cd_read_grade ct_read_grade), sl_read_grade⟩)
    (c_read_grade : PySem.W.codeIn K cd_read_grade "read_grade" = true)
    (k_read_grade : PySem.W.keepIn K (.ref x_read_grade) = true)
    {x_read_short : Addr} {od_read_short an_read_short : Option Addr} {sl_read_short : Array (Option Value)} {oc_read_short dc_read_short pm_read_short cd_read_short ct_read_short : Value}
    {kV_read_short : Value}
    (a_read_short : PySem.W.nsIn K mainGlobals "read_short" = some (some (.ref x_read_short)))
    (l_read_short : K.lookup x_read_short = some ⟨oc_read_short, od_read_short, .func (PySem.W.fnOf "read_short" "read_short" (defArgs s_read_short) (defBody s_read_short) (defScope s_read_short) .none kV_read_short dc_read_short pm_read_short an_read_short cd_read_short ct_read_short), sl_read_short⟩)
    (c_read_short : PySem.W.codeIn K cd_read_short "read_short" = true)
    (k_read_short : PySem.W.keepIn K (.ref x_read_short) = true)
    {x_read_crews : Addr} {od_read_crews an_read_crews : Option Addr} {sl_read_crews : Array (Option Value)} {oc_read_crews dc_read_crews pm_read_crews cd_read_crews ct_read_crews : Value}
    {kV_read_crews : Value}
    (a_read_crews : PySem.W.nsIn K mainGlobals "read_crews" = some (some (.ref x_read_crews)))
    (l_read_crews : K.lookup x_read_crews = some ⟨oc_read_crews, od_read_crews, .func (PySem.W.fnOf "read_crews" "read_crews" (defArgs s_read_crews) (defBody s_read_crews) (defScope s_read_crews) .none kV_read_crews dc_read_crews pm_read_crews an_read_crews cd_read_crews ct_read_crews), sl_read_crews⟩)
    (c_read_crews : PySem.W.codeIn K cd_read_crews "read_crews" = true)
    (k_read_crews : PySem.W.keepIn K (.ref x_read_crews) = true)
    {x_read_pairs : Addr} {od_read_pairs an_read_pairs : Option Addr} {sl_read_pairs : Array (Option Value)} {oc_read_pairs dc_read_pairs pm_read_pairs cd_read_pairs ct_read_pairs : Value}
    {kV_read_pairs : Value}
    (a_read_pairs : PySem.W.nsIn K mainGlobals "read_pairs" = some (some (.ref x_read_pairs)))
    (l_read_pairs : K.lookup x_read_pairs = some ⟨oc_read_pairs, od_read_pairs, .func (PySem.W.fnOf "read_pairs" "read_pairs" (defArgs s_read_pairs) (defBody s_read_pairs) (defScope s_read_pairs) .none kV_read_pairs dc_read_pairs pm_read_pairs an_read_pairs cd_read_pairs ct_read_pairs), sl_read_pairs⟩)
    (c_read_pairs : PySem.W.codeIn K cd_read_pairs "read_pairs" = true)
    (k_read_pairs : PySem.W.keepIn K (.ref x_read_pairs) = true)
    {x_read_told : Addr} {od_read_told an_read_told : Option Addr} {sl_read_told : Array (Option Value)} {oc_read_told dc_read_told pm_read_told cd_read_told ct_read_told : Value}
    {kV_read_told : Value}
    (a_read_told : PySem.W.nsIn K mainGlobals "read_told" = some (some (.ref x_read_told)))
    (l_read_told : K.lookup x_read_told = some ⟨oc_read_told, od_read_told, .func (PySem.W.fnOf "read_told" "read_told" (defArgs s_read_told) (defBody s_read_told) (defScope s_read_told) .none kV_read_told dc_read_told pm_read_told an_read_told cd_read_told ct_read_told), sl_read_told⟩)
    (c_read_told : PySem.W.codeIn K cd_read_told "read_told" = true)
    (k_read_told : PySem.W.keepIn K (.ref x_read_told) = true)
    {x_read_row : Addr} {od_read_row an_read_row : Option Addr} {sl_read_row : Array (Option Value)} {oc_read_row dc_read_row pm_read_row cd_read_row ct_read_row : Value}
    {kV_read_row : Value}
    (a_read_row : PySem.W.nsIn K mainGlobals "read_row" = some (some (.ref x_read_row)))
    (l_read_row : K.lookup x_read_row = some ⟨oc_read_row, od_read_row, .func (PySem.W.fnOf "read_row" "read_row" (defArgs s_read_row) (defBody s_read_row) (defScope s_read_row) .none kV_read_row dc_read_row pm_read_row an_read_row cd_read_row ct_read_row), sl_read_row⟩)
    (c_read_row : PySem.W.codeIn K cd_read_row "read_row" = true)
    (k_read_row : PySem.W.keepIn K (.ref x_read_row) = true)
    {x_read_book : Addr} {od_read_book an_read_book : Option Addr} {sl_read_book : Array (Option Value)} {oc_read_book dc_read_book pm_read_book cd_read_book ct_read_book : Value}
    {kV_read_book : Value}
    (a_read_book : PySem.W.nsIn K mainGlobals "read_book" = some (some (.ref x_read_book)))
    (l_read_book : K.lookup x_read_book = some ⟨oc_read_book, od_read_book, .func (PySem.W.fnOf "read_book" "read_book" (defArgs s_read_book) (defBody s_read_book) (defScope s_read_book) .none kV_read_book dc_read_book pm_read_book an_read_book cd_read_book ct_read_book), sl_read_book⟩)
    (c_read_book : PySem.W.codeIn K cd_read_book "read_book" = true)
    (k_read_book : PySem.W.keepIn K (.ref x_read_book) = true)
    {x_bag : Addr} {od_bag an_bag : Option Addr} {sl_bag : Array (Option Value)} {oc_bag dc_bag pm_bag cd_bag ct_bag : Value}
    {kV_bag : Value}
    (a_bag : PySem.W.nsIn K mainGlobals "_law_bag" = some (some (.ref x_bag)))
    (l_bag : K.lookup x_bag = some ⟨oc_bag, od_bag, .func (PySem.W.fnOf "_law_bag" "_law_bag" (defArgs s_bag) (defBody s_bag) (defScope s_bag) .none kV_bag dc_bag pm_bag an_bag cd_bag ct_bag), sl_bag⟩)
    (c_bag : PySem.W.codeIn K cd_bag "_law_bag" = true)
    (k_bag : PySem.W.keepIn K (.ref x_bag) = true)
    {x_take : Addr} {od_take an_take : Option Addr} {sl_take : Array (Option Value)} {oc_take dc_take pm_take cd_take ct_take : Value}
    {kV_take : Value}
    (a_take : PySem.W.nsIn K mainGlobals "_law_take" = some (some (.ref x_take)))
    (l_take : K.lookup x_take = some ⟨oc_take, od_take, .func (PySem.W.fnOf "_law_take" "_law_take" (defArgs s_take) (defBody s_take) (defScope s_take) .none kV_take dc_take pm_take an_take cd_take ct_take), sl_take⟩)
    (c_take : PySem.W.codeIn K cd_take "_law_take" = true)
    (k_take : PySem.W.keepIn K (.ref x_take) = true)
    {x_of : Addr} {od_of an_of : Option Addr} {sl_of : Array (Option Value)} {oc_of dc_of pm_of cd_of ct_of : Value}
    {kV_of : Value}
    (a_of : PySem.W.nsIn K mainGlobals "_law_of" = some (some (.ref x_of)))
    (l_of : K.lookup x_of = some ⟨oc_of, od_of, .func (PySem.W.fnOf "_law_of" "_law_of" (defArgs s_of) (defBody s_of) (defScope s_of) .none kV_of dc_of pm_of an_of cd_of ct_of), sl_of⟩)
    (c_of : PySem.W.codeIn K cd_of "_law_of" = true)
    (k_of : PySem.W.keepIn K (.ref x_of) = true)
    {x_number : Addr} {od_number an_number : Option Addr} {sl_number : Array (Option Value)} {oc_number dc_number pm_number cd_number ct_number : Value}
    {kV_number : Value}
    (a_number : PySem.W.nsIn K mainGlobals "_law_number" = some (some (.ref x_number)))
    (l_number : K.lookup x_number = some ⟨oc_number, od_number, .func (PySem.W.fnOf "_law_number" "_law_number" (defArgs s_number) (defBody s_number) (defScope s_number) .none kV_number dc_number pm_number an_number cd_number ct_number), sl_number⟩)
    (c_number : PySem.W.codeIn K cd_number "_law_number" = true)
    (k_number : PySem.W.keepIn K (.ref x_number) = true)
    {x_crews : Addr} {od_crews an_crews : Option Addr} {sl_crews : Array (Option Value)} {oc_crews dc_crews pm_crews cd_crews ct_crews : Value}
    {kV_crews : Value}
    (a_crews : PySem.W.nsIn K mainGlobals "_law_crews" = some (some (.ref x_crews)))
    (l_crews : K.lookup x_crews = some ⟨oc_crews, od_crews, .func (PySem.W.fnOf "_law_crews" "_law_crews" (defArgs s_crews) (defBody s_crews) (defScope s_crews) .none kV_crews dc_crews pm_crews an_crews cd_crews ct_crews), sl_crews⟩)
    (c_crews : PySem.W.codeIn K cd_crews "_law_crews" = true)
    (k_crews : PySem.W.keepIn K (.ref x_crews) = true)
    {x_row : Addr} {od_row an_row : Option Addr} {sl_row : Array (Option Value)} {oc_row dc_row pm_row cd_row ct_row : Value}
    {kV_row : Value}
    (a_row : PySem.W.nsIn K mainGlobals "_law_row" = some (some (.ref x_row)))
    (l_row : K.lookup x_row = some ⟨oc_row, od_row, .func (PySem.W.fnOf "_law_row" "_law_row" (defArgs s_row) (defBody s_row) (defScope s_row) .none kV_row dc_row pm_row an_row cd_row ct_row), sl_row⟩)
    (c_row : PySem.W.codeIn K cd_row "_law_row" = true)
    (k_row : PySem.W.keepIn K (.ref x_row) = true)
    {x_some : Addr} {od_some an_some : Option Addr} {sl_some : Array (Option Value)} {oc_some dc_some pm_some cd_some ct_some : Value}
    {kV_some : Value}
    (a_some : PySem.W.nsIn K mainGlobals "_law_some" = some (some (.ref x_some)))
    (l_some : K.lookup x_some = some ⟨oc_some, od_some, .func (PySem.W.fnOf "_law_some" "_law_some" (defArgs s_some) (defBody s_some) (defScope s_some) .none kV_some dc_some pm_some an_some cd_some ct_some), sl_some⟩)
    (c_some : PySem.W.codeIn K cd_some "_law_some" = true)
    (k_some : PySem.W.keepIn K (.ref x_some) = true)
    {x_line : Addr} {od_line an_line : Option Addr} {sl_line : Array (Option Value)} {oc_line dc_line pm_line cd_line ct_line : Value}
    {kV_line : Value}
    (a_line : PySem.W.nsIn K mainGlobals "_law_line" = some (some (.ref x_line)))
    (l_line : K.lookup x_line = some ⟨oc_line, od_line, .func (PySem.W.fnOf "_law_line" "_law_line" (defArgs s_line) (defBody s_line) (defScope s_line) .none kV_line dc_line pm_line an_line cd_line ct_line), sl_line⟩)
    (c_line : PySem.W.codeIn K cd_line "_law_line" = true)
    (k_line : PySem.W.keepIn K (.ref x_line) = true)
    {x_digits : Addr} {od_digits an_digits : Option Addr} {sl_digits : Array (Option Value)} {oc_digits dc_digits pm_digits cd_digits ct_digits : Value}
    {kV_digits : Value}
    (a_digits : PySem.W.nsIn K mainGlobals "_law_digits" = some (some (.ref x_digits)))
    (l_digits : K.lookup x_digits = some ⟨oc_digits, od_digits, .func (PySem.W.fnOf "_law_digits" "_law_digits" (defArgs s_digits) (defBody s_digits) (defScope s_digits) .none kV_digits dc_digits pm_digits an_digits cd_digits ct_digits), sl_digits⟩)
    (c_digits : PySem.W.codeIn K cd_digits "_law_digits" = true)
    (k_digits : PySem.W.keepIn K (.ref x_digits) = true)
    {x_list : Addr} {od_list an_list : Option Addr} {sl_list : Array (Option Value)} {oc_list dc_list pm_list cd_list ct_list : Value}
    {kV_list : Value}
    (a_list : PySem.W.nsIn K mainGlobals "_law_list" = some (some (.ref x_list)))
    (l_list : K.lookup x_list = some ⟨oc_list, od_list, .func (PySem.W.fnOf "_law_list" "_law_list" (defArgs s_list) (defBody s_list) (defScope s_list) .none kV_list dc_list pm_list an_list cd_list ct_list), sl_list⟩)
    (c_list : PySem.W.codeIn K cd_list "_law_list" = true)
    (k_list : PySem.W.keepIn K (.ref x_list) = true)
    {x_wis_number : Addr} {od_wis_number an_wis_number : Option Addr} {sl_wis_number : Array (Option Value)} {oc_wis_number dc_wis_number pm_wis_number cd_wis_number ct_wis_number : Value}
    {kV_wis_number : Value}
    (a_wis_number : PySem.W.nsIn K mainGlobals "_law_is_number" = some (some (.ref x_wis_number)))
    (l_wis_number : K.lookup x_wis_number = some ⟨oc_wis_number, od_wis_number, .func (PySem.W.fnOf "_law_is_number" "_law_is_number" (defArgs s_wis_number) (defBody s_wis_number) (defScope s_wis_number) .none kV_wis_number dc_wis_number pm_wis_number an_wis_number cd_wis_number ct_wis_number), sl_wis_number⟩)
    (c_wis_number : PySem.W.codeIn K cd_wis_number "_law_is_number" = true)
    (k_wis_number : PySem.W.keepIn K (.ref x_wis_number) = true)
    {x_read : Addr} {od_read an_read : Option Addr} {sl_read : Array (Option Value)} {oc_read dc_read pm_read cd_read ct_read : Value}
    {kV_read : Value}
    (a_read : PySem.W.nsIn K mainGlobals "_law_read" = some (some (.ref x_read)))
    (l_read : K.lookup x_read = some ⟨oc_read, od_read, .func (PySem.W.fnOf "_law_read" "_law_read" (defArgs s_read) (defBody s_read) (defScope s_read) .none kV_read dc_read pm_read an_read cd_read ct_read), sl_read⟩)
    (c_read : PySem.W.codeIn K cd_read "_law_read" = true)
    (k_read : PySem.W.keepIn K (.ref x_read) = true)
    {x_bent : Addr} {od_bent an_bent : Option Addr} {sl_bent : Array (Option Value)} {oc_bent dc_bent pm_bent cd_bent ct_bent : Value}
    {kV_bent : Value}
    (a_bent : PySem.W.nsIn K mainGlobals "_law_bent" = some (some (.ref x_bent)))
    (l_bent : K.lookup x_bent = some ⟨oc_bent, od_bent, .func (PySem.W.fnOf "_law_bent" "_law_bent" (defArgs s_bent) (defBody s_bent) (defScope s_bent) .none kV_bent dc_bent pm_bent an_bent cd_bent ct_bent), sl_bent⟩)
    (c_bent : PySem.W.codeIn K cd_bent "_law_bent" = true)
    (k_bent : PySem.W.keepIn K (.ref x_bent) = true)
    {x_told : Addr} {od_told an_told : Option Addr} {sl_told : Array (Option Value)} {oc_told dc_told pm_told cd_told ct_told : Value}
    {kV_told : Value}
    (a_told : PySem.W.nsIn K mainGlobals "_law_told" = some (some (.ref x_told)))
    (l_told : K.lookup x_told = some ⟨oc_told, od_told, .func (PySem.W.fnOf "_law_told" "_law_told" (defArgs s_told) (defBody s_told) (defScope s_told) .none kV_told dc_told pm_told an_told cd_told ct_told), sl_told⟩)
    (c_told : PySem.W.codeIn K cd_told "_law_told" = true)
    (k_told : PySem.W.keepIn K (.ref x_told) = true)
    {x_law : Addr} {od_law an_law : Option Addr} {sl_law : Array (Option Value)} {oc_law dc_law pm_law cd_law ct_law : Value}
    {kV_law : Value}
    (a_law : PySem.W.nsIn K mainGlobals "law" = some (some (.ref x_law)))
    (l_law : K.lookup x_law = some ⟨oc_law, od_law, .func (PySem.W.fnOf "law" "law" (defArgs s_law) (defBody s_law) (defScope s_law) .none kV_law dc_law pm_law an_law cd_law ct_law), sl_law⟩)
    (c_law : PySem.W.codeIn K cd_law "law" = true)
    (k_law : PySem.W.keepIn K (.ref x_law) = true)
    {eCP eIP : Addr} {enmP eqP : Str} {eNP : Addr} {ebsP ebmP : List Value} {esnP : List Str} {esubP : List Value} {eabP : Bool} {ecolP : Option Bool} {eddP : Option Addr} {em0P em1P em2P em3P em5P : Option Value}
    {eocP edcP epmP ecdP ectP : Value} {eodP eanP : Option Addr} {eslP : Array (Option Value)} {ep1P ep2P eq1P eq2P eq3P eq4P : Pos}
    (e_aP : PySem.W.nsIn K mainGlobals "BadPage" = some (some (.ref eCP)))
    (e_xP : K.lookup eCP = some (excClassObj enmP eqP eCP eNP ebsP ebmP true esnP esubP eabP ecolP eddP em0P em1P em2P em3P em5P "ValueError.__new__"))
    (e_bP : PySem.HandSPX.refsVE ebmP = true)
    (e_sP : PySem.W.findIn K (.ref eCP) "__setattr__" = some (some (.builtin "object.__setattr__"))) (e_gP : PySem.W.findIn K (.ref eCP) "__getattribute__" = some (some (.builtin "BaseException.__getattribute__"))) (e_hP : PySem.W.findIn K (.ref eCP) "__getattr__" = some none) (e_nP : PySem.W.findIn K (.ref eCP) "line" = some none)
    (e_iP : PySem.W.findIn K (.ref eCP) "__init__" = some (some (.ref eIP))) (e_tP : PySem.W.typeIn K (.ref eIP) = some (.type "function"))
    (e_lP : K.lookup eIP = some ⟨eocP, eodP, .func (PySem.W.fnOf "__init__" "BadPage.__init__" (PySem.LowP.iA ep1P ep2P) (PySem.LowP.iB eq1P eq2P eq3P eq4P) PySem.LowP.iS .none .none edcP epmP eanP ecdP ectP), eslP⟩) (e_cP : PySem.W.codeIn K ecdP "BadPage.__init__" = true)
    (e_kP : PySem.W.keepIn K (.ref eCP) = true) (e_eP : PySem.W.subIn K (.ref eCP) (.type "BaseException") = some true) (e_tyP : PySem.W.typeIn K (.ref eCP) = some (.type "type")) (e_dP : PySem.W.hasDictIn K eCP = true) (e_scP : PySem.W.subIn K (.ref eCP) (.ref eCP) = some true)
    {t_DIGITS : Tok}
    (n_DIGITS : PySem.W.nsIn K mainGlobals "DIGITS" = some (some (.str "123456789" t_DIGITS)))
    {t_MOST_DIGITS : Tok}
    (n_MOST_DIGITS : PySem.W.nsIn K mainGlobals "MOST_DIGITS" = some (some (.int 4 t_MOST_DIGITS)))
    {t_GREATEST_SUM : Tok}
    (n_GREATEST_SUM : PySem.W.nsIn K mainGlobals "GREATEST_SUM" = some (some (.int 24 t_GREATEST_SUM)))
    {t_MOST_CREWS : Tok}
    (n_MOST_CREWS : PySem.W.nsIn K mainGlobals "MOST_CREWS" = some (some (.int 6 t_MOST_CREWS)))
    {t_LAST_CREW : Tok}
    (n_LAST_CREW : PySem.W.nsIn K mainGlobals "LAST_CREW" = some (some (.int 5 t_LAST_CREW)))
    {t_LAST_STATION : Tok}
    (n_LAST_STATION : PySem.W.nsIn K mainGlobals "LAST_STATION" = some (some (.int 8 t_LAST_STATION)))
    {t_MOST_MOVES : Tok}
    (n_MOST_MOVES : PySem.W.nsIn K mainGlobals "MOST_MOVES" = some (some (.int 6 t_MOST_MOVES)))
    {t_EMPTY : Tok}
    (n_EMPTY : PySem.W.nsIn K mainGlobals "EMPTY" = some (some (.str "-" t_EMPTY)))
    {t_CALL : Tok}
    (n_CALL : PySem.W.nsIn K mainGlobals "CALL" = some (some (.str "call" t_CALL)))
    {t_MORE : Tok}
    (n_MORE : PySem.W.nsIn K mainGlobals "MORE" = some (some (.str "more" t_MORE)))
    {t_BACK : Tok}
    (n_BACK : PySem.W.nsIn K mainGlobals "BACK" = some (some (.str "back" t_BACK)))
    {t_SEPARATOR : Tok}
    (n_SEPARATOR : PySem.W.nsIn K mainGlobals "SEPARATOR" = some (some (.str " / " t_SEPARATOR)))
    {t_WORD_WIDTH : Tok}
    (n_WORD_WIDTH : PySem.W.nsIn K mainGlobals "WORD_WIDTH" = some (some (.int 5 t_WORD_WIDTH)))
    {t_NUMBER_WIDTH : Tok}
    (n_NUMBER_WIDTH : PySem.W.nsIn K mainGlobals "NUMBER_WIDTH" = some (some (.int 5 t_NUMBER_WIDTH)))
    {t_MOST_TICK_DIGITS : Tok}
    (n_MOST_TICK_DIGITS : PySem.W.nsIn K mainGlobals "MOST_TICK_DIGITS" = some (some (.int 9 t_MOST_TICK_DIGITS)))
    {t_MOST_SHORT : Tok}
    (n_MOST_SHORT : PySem.W.nsIn K mainGlobals "MOST_SHORT" = some (some (.int 6 t_MOST_SHORT)))
    (z_abs : PySem.W.nsIn K mainGlobals "abs" = some none)
    (z_all : PySem.W.nsIn K mainGlobals "all" = some none)
    (z_any : PySem.W.nsIn K mainGlobals "any" = some none)
    (z_bool : PySem.W.nsIn K mainGlobals "bool" = some none)
    (z_enumerate : PySem.W.nsIn K mainGlobals "enumerate" = some none)
    (z_int : PySem.W.nsIn K mainGlobals "int" = some none)
    (z_isinstance : PySem.W.nsIn K mainGlobals "isinstance" = some none)
    (z_len : PySem.W.nsIn K mainGlobals "len" = some none)
    (z_list : PySem.W.nsIn K mainGlobals "list" = some none)
    (z_max : PySem.W.nsIn K mainGlobals "max" = some none)
    (z_min : PySem.W.nsIn K mainGlobals "min" = some none)
    (z_range : PySem.W.nsIn K mainGlobals "range" = some none)
    (z_repr : PySem.W.nsIn K mainGlobals "repr" = some none)
    (z_str : PySem.W.nsIn K mainGlobals "str" = some none)
    (z_sum : PySem.W.nsIn K mainGlobals "sum" = some none)
    (z_tuple : PySem.W.nsIn K mainGlobals "tuple" = some none)
    : ∃ fd : FuncData, (∀ (s : Shared) (v : Value), BindsTo s fd ⟨[v], []⟩ [("_law_script", v)]) ∧ ∀ base : Heap, K.In base → base.Ns mainGlobals mg → Rp.GOk l.prog w K mg base CX0 10 fa fd ["_law_script"] (sp_law K) := by
  have e := hfa.symm.trans (PySem.W.mg_of X G a_law)
  cases e
  have F_is_whole := fun_mk (st := s_is_whole) l_is_whole c_is_whole k_is_whole
  have b_is_whole := F_is_whole.binds (ps := ["thing"]) fun _ _ _ _ _ _ us hl => match us, hl with | [_], _ => rfl
  have F_is_whole_within := fun_mk (st := s_is_whole_within) l_is_whole_within c_is_whole_within k_is_whole_within
  have b_is_whole_within := F_is_whole_within.binds (ps := ["thing", "low", "high"]) fun _ _ _ _ _ _ us hl => match us, hl with | [_, _, _], _ => rfl
  have F_is_sequence := fun_mk (st := s_is_sequence) l_is_sequence c_is_sequence k_is_sequence
  have b_is_sequence := F_is_sequence.binds (ps := ["thing"]) fun _ _ _ _ _ _ us hl => match us, hl with | [_], _ => rfl
  have F_is_digit := fun_mk (st := s_is_digit) l_is_digit c_is_digit k_is_digit
  have b_is_digit := F_is_digit.binds (ps := ["word"]) fun _ _ _ _ _ _ us hl => match us, hl with | [_], _ => rfl
  have F_is_number := fun_mk (st := s_is_number) l_is_number c_is_number k_is_number
  have b_is_number := F_is_number.binds (ps := ["thing"]) fun _ _ _ _ _ _ us hl => match us, hl with | [_], _ => rfl
  have F_is_station := fun_mk (st := s_is_station) l_is_station c_is_station k_is_station
  have b_is_station := F_is_station.binds (ps := ["thing"]) fun _ _ _ _ _ _ us hl => match us, hl with | [_], _ => rfl
  have F_is_crew := fun_mk (st := s_is_crew) l_is_crew c_is_crew k_is_crew
  have b_is_crew := F_is_crew.binds (ps := ["thing"]) fun _ _ _ _ _ _ us hl => match us, hl with | [_], _ => rfl
  have F_is_move := fun_mk (st := s_is_move) l_is_move c_is_move k_is_move
  have b_is_move := F_is_move.binds (ps := ["thing"]) fun _ _ _ _ _ _ us hl => match us, hl with | [_], _ => rfl
  have F_joined := fun_mk (st := s_joined) l_joined c_joined k_joined
  have b_joined := F_joined.binds (ps := ["wholes"]) fun _ _ _ _ _ _ us hl => match us, hl with | [_], _ => rfl
  have F_digits_in := fun_mk (st := s_digits_in) l_digits_in c_digits_in k_digits_in
  have b_digits_in := F_digits_in.binds (ps := ["text", "separator"]) fun _ _ _ _ _ _ us hl => match us, hl with | [_, _], _ => rfl
  have F_crews_text := fun_mk (st := s_crews_text) l_crews_text c_crews_text k_crews_text
  have b_crews_text := F_crews_text.binds (ps := ["crews"]) fun _ _ _ _ _ _ us hl => match us, hl with | [_], _ => rfl
  have F_pairs_text := fun_mk (st := s_pairs_text) l_pairs_text c_pairs_text k_pairs_text
  have b_pairs_text := F_pairs_text.binds (ps := ["pairs"]) fun _ _ _ _ _ _ us hl => match us, hl with | [_], _ => rfl
  have F_row_line := fun_mk (st := s_row_line) l_row_line c_row_line k_row_line
  have b_row_line := F_row_line.binds (ps := ["row"]) fun _ _ _ _ _ _ us hl => match us, hl with | [_], _ => rfl
  have F_book_page := fun_mk (st := s_book_page) l_book_page c_book_page k_book_page
  have b_book_page := F_book_page.binds (ps := ["rows"]) fun _ _ _ _ _ _ us hl => match us, hl with | [_], _ => rfl
  have F_read_tick := fun_mk (st := s_read_tick) l_read_tick c_read_tick k_read_tick
  have b_read_tick := F_read_tick.binds (ps := ["text"]) fun _ _ _ _ _ _ us hl => match us, hl with | [_], _ => rfl
  have F_read_grade := fun_mk (st := s_read_grade) l_read_grade c_read_grade k_read_grade
  have b_read_grade := F_read_grade.binds (ps := ["word", "text"]) fun _ _ _ _ _ _ us hl => match us, hl with | [_, _], _ => rfl
  have F_read_short := fun_mk (st := s_read_short) l_read_short c_read_short k_read_short
  have b_read_short := F_read_short.binds (ps := ["text"]) fun _ _ _ _ _ _ us hl => match us, hl with | [_], _ => rfl
  have F_read_crews := fun_mk (st := s_read_crews) l_read_crews c_read_crews k_read_crews
  have b_read_crews := F_read_crews.binds (ps := ["text"]) fun _ _ _ _ _ _ us hl => match us, hl with | [_], _ => rfl
  have F_read_pairs := fun_mk (st := s_read_pairs) l_read_pairs c_read_pairs k_read_pairs
  have b_read_pairs := F_read_pairs.binds (ps := ["text"]) fun _ _ _ _ _ _ us hl => match us, hl with | [_], _ => rfl
  have F_read_told := fun_mk (st := s_read_told) l_read_told c_read_told k_read_told
  have b_read_told := F_read_told.binds (ps := ["word", "parts"]) fun _ _ _ _ _ _ us hl => match us, hl with | [_, _], _ => rfl
  have F_read_row := fun_mk (st := s_read_row) l_read_row c_read_row k_read_row
  have b_read_row := F_read_row.binds (ps := ["line"]) fun _ _ _ _ _ _ us hl => match us, hl with | [_], _ => rfl
  have F_read_book := fun_mk (st := s_read_book) l_read_book c_read_book k_read_book
  have b_read_book := F_read_book.binds (ps := ["lines"]) fun _ _ _ _ _ _ us hl => match us, hl with | [_], _ => rfl
  have F_bag := fun_mk (st := s_bag) l_bag c_bag k_bag
  have b_bag := F_bag.binds (ps := ["_law_script", "_law_at"]) fun _ _ _ _ _ _ us hl => match us, hl with | [_, _], _ => rfl
  have F_take := fun_mk (st := s_take) l_take c_take k_take
  have b_take := F_take.binds (ps := ["_law_bag_here", "_law_many"]) fun _ _ _ _ _ _ us hl => match us, hl with | [_, _], _ => rfl
  have F_of := fun_mk (st := s_of) l_of c_of k_of
  have b_of := F_of.binds (ps := ["_law_bag_here", "_law_some_here"]) fun _ _ _ _ _ _ us hl => match us, hl with | [_, _], _ => rfl
  have F_number := fun_mk (st := s_number) l_number c_number k_number
  have b_number := F_number.binds (ps := ["_law_bag_here"]) fun _ _ _ _ _ _ us hl => match us, hl with | [_], _ => rfl
  have F_crews := fun_mk (st := s_crews) l_crews c_crews k_crews
  have b_crews := F_crews.binds (ps := ["_law_bag_here"]) fun _ _ _ _ _ _ us hl => match us, hl with | [_], _ => rfl
  have F_row := fun_mk (st := s_row) l_row c_row k_row
  have b_row := F_row.binds (ps := ["_law_bag_here"]) fun _ _ _ _ _ _ us hl => match us, hl with | [_], _ => rfl
  have F_some := fun_mk (st := s_some) l_some c_some k_some
  have b_some := F_some.binds (ps := ["_law_parts"]) fun _ _ _ _ _ _ us hl => match us, hl with | [_], _ => rfl
  have F_line := fun_mk (st := s_line) l_line c_line k_line
  have b_line := F_line.binds (ps := ["_law_row_here"]) fun _ _ _ _ _ _ us hl => match us, hl with | [_], _ => rfl
  have F_digits := fun_mk (st := s_digits) l_digits c_digits k_digits
  have b_digits := F_digits.binds (ps := ["_law_text", "_law_low", "_law_high"]) fun _ _ _ _ _ _ us hl => match us, hl with | [_, _, _], _ => rfl
  have F_list := fun_mk (st := s_list) l_list c_list k_list
  have b_list := F_list.binds (ps := ["_law_text", "_law_is_pairs"]) fun _ _ _ _ _ _ us hl => match us, hl with | [_, _], _ => rfl
  have F_wis_number := fun_mk (st := s_wis_number) l_wis_number c_wis_number k_wis_number
  have b_wis_number := F_wis_number.binds (ps := ["_law_text"]) fun _ _ _ _ _ _ us hl => match us, hl with | [_], _ => rfl
  have F_read := fun_mk (st := s_read) l_read c_read k_read
  have b_read := F_read.binds (ps := ["_law_line_here"]) fun _ _ _ _ _ _ us hl => match us, hl with | [_], _ => rfl
  have F_bent := fun_mk (st := s_bent) l_bent c_bent k_bent
  have b_bent := F_bent.binds (ps := ["_law_bag_here", "_law_line_here"]) fun _ _ _ _ _ _ us hl => match us, hl with | [_, _], _ => rfl
  have F_told := fun_mk (st := s_told) l_told c_told k_told
  have b_told := F_told.binds (ps := ["_law_lines"]) fun _ _ _ _ _ _ us hl => match us, hl with | [_], _ => rfl
  have F_law := fun_mk (st := s_law) l_law c_law k_law
  have b_law := F_law.binds (ps := ["_law_script"]) fun _ _ _ _ _ _ us hl => match us, hl with | [_], _ => rfl
  have lowP : PySem.LowP.LowTxt K mg eCP eIP :=
    { gC := PySem.W.mg_of X G e_aP, cls := ⟨enmP, eqP, eNP, ebsP, _, esnP, esubP, eabP, ecolP, eddP, em0P, em1P, em2P, em3P, em5P, e_xP, e_bP⟩, sa := e_sP, ga := e_gP, gg := e_hP, noN := e_nP, iC := e_iP, tC := e_tP, kC := e_kP, exC := e_eP, tyC := e_tyP, hdC := e_dP, te := PySem.W.exm_ref e_eP e_dP e_tyP e_scP,
      fn := ⟨_, _, _, _, _, _, _, _, _, _, _, _, _, _, e_lP, e_cP⟩ }
  have T : Σ' T : Txt K mg, T.a_law = fa ∧ T.d_law = PySem.W.fnOf "law" "law" (defArgs s_law) (defBody s_law) (defScope s_law) .none kV_law dc_law pm_law an_law cd_law ct_law :=
    ⟨{ CP := _, fP := _, lowP := lowP,
        a_is_whole := _, d_is_whole := _, F_is_whole := F_is_whole, b_is_whole := b_is_whole, g_is_whole := PySem.W.mg_of X G a_is_whole,
        a_is_whole_within := _, d_is_whole_within := _, F_is_whole_within := F_is_whole_within, b_is_whole_within := b_is_whole_within, g_is_whole_within := PySem.W.mg_of X G a_is_whole_within,
        a_is_sequence := _, d_is_sequence := _, F_is_sequence := F_is_sequence, b_is_sequence := b_is_sequence, g_is_sequence := PySem.W.mg_of X G a_is_sequence,
        a_is_digit := _, d_is_digit := _, F_is_digit := F_is_digit, b_is_digit := b_is_digit, g_is_digit := PySem.W.mg_of X G a_is_digit,
        a_is_number := _, d_is_number := _, F_is_number := F_is_number, b_is_number := b_is_number, g_is_number := PySem.W.mg_of X G a_is_number,
        a_is_station := _, d_is_station := _, F_is_station := F_is_station, b_is_station := b_is_station, g_is_station := PySem.W.mg_of X G a_is_station,
        a_is_crew := _, d_is_crew := _, F_is_crew := F_is_crew, b_is_crew := b_is_crew, g_is_crew := PySem.W.mg_of X G a_is_crew,
        a_is_move := _, d_is_move := _, F_is_move := F_is_move, b_is_move := b_is_move, g_is_move := PySem.W.mg_of X G a_is_move,
        a_joined := _, d_joined := _, F_joined := F_joined, b_joined := b_joined, g_joined := PySem.W.mg_of X G a_joined,
        a_digits_in := _, d_digits_in := _, F_digits_in := F_digits_in, b_digits_in := b_digits_in, g_digits_in := PySem.W.mg_of X G a_digits_in,
        a_crews_text := _, d_crews_text := _, F_crews_text := F_crews_text, b_crews_text := b_crews_text, g_crews_text := PySem.W.mg_of X G a_crews_text,
        a_pairs_text := _, d_pairs_text := _, F_pairs_text := F_pairs_text, b_pairs_text := b_pairs_text, g_pairs_text := PySem.W.mg_of X G a_pairs_text,
        a_row_line := _, d_row_line := _, F_row_line := F_row_line, b_row_line := b_row_line, g_row_line := PySem.W.mg_of X G a_row_line,
        a_book_page := _, d_book_page := _, F_book_page := F_book_page, b_book_page := b_book_page, g_book_page := PySem.W.mg_of X G a_book_page,
        a_read_tick := _, d_read_tick := _, F_read_tick := F_read_tick, b_read_tick := b_read_tick, g_read_tick := PySem.W.mg_of X G a_read_tick,
        a_read_grade := _, d_read_grade := _, F_read_grade := F_read_grade, b_read_grade := b_read_grade, g_read_grade := PySem.W.mg_of X G a_read_grade,
        a_read_short := _, d_read_short := _, F_read_short := F_read_short, b_read_short := b_read_short, g_read_short := PySem.W.mg_of X G a_read_short,
        a_read_crews := _, d_read_crews := _, F_read_crews := F_read_crews, b_read_crews := b_read_crews, g_read_crews := PySem.W.mg_of X G a_read_crews,
        a_read_pairs := _, d_read_pairs := _, F_read_pairs := F_read_pairs, b_read_pairs := b_read_pairs, g_read_pairs := PySem.W.mg_of X G a_read_pairs,
        a_read_told := _, d_read_told := _, F_read_told := F_read_told, b_read_told := b_read_told, g_read_told := PySem.W.mg_of X G a_read_told,
        a_read_row := _, d_read_row := _, F_read_row := F_read_row, b_read_row := b_read_row, g_read_row := PySem.W.mg_of X G a_read_row,
        a_read_book := _, d_read_book := _, F_read_book := F_read_book, b_read_book := b_read_book, g_read_book := PySem.W.mg_of X G a_read_book,
        a_bag := _, d_bag := _, F_bag := F_bag, b_bag := b_bag, g_bag := PySem.W.mg_of X G a_bag,
        a_take := _, d_take := _, F_take := F_take, b_take := b_take, g_take := PySem.W.mg_of X G a_take,
        a_of := _, d_of := _, F_of := F_of, b_of := b_of, g_of := PySem.W.mg_of X G a_of,
        a_number := _, d_number := _, F_number := F_number, b_number := b_number, g_number := PySem.W.mg_of X G a_number,
        a_crews := _, d_crews := _, F_crews := F_crews, b_crews := b_crews, g_crews := PySem.W.mg_of X G a_crews,
        a_row := _, d_row := _, F_row := F_row, b_row := b_row, g_row := PySem.W.mg_of X G a_row,
        a_some := _, d_some := _, F_some := F_some, b_some := b_some, g_some := PySem.W.mg_of X G a_some,
        a_line := _, d_line := _, F_line := F_line, b_line := b_line, g_line := PySem.W.mg_of X G a_line,
        a_digits := _, d_digits := _, F_digits := F_digits, b_digits := b_digits, g_digits := PySem.W.mg_of X G a_digits,
        a_list := _, d_list := _, F_list := F_list, b_list := b_list, g_list := PySem.W.mg_of X G a_list,
        a_wis_number := _, d_wis_number := _, F_wis_number := F_wis_number, b_wis_number := b_wis_number, g_wis_number := PySem.W.mg_of X G a_wis_number,
        a_read := _, d_read := _, F_read := F_read, b_read := b_read, g_read := PySem.W.mg_of X G a_read,
        a_bent := _, d_bent := _, F_bent := F_bent, b_bent := b_bent, g_bent := PySem.W.mg_of X G a_bent,
        a_told := _, d_told := _, F_told := F_told, b_told := b_told, g_told := PySem.W.mg_of X G a_told,
        a_law := _, d_law := _, F_law := F_law, b_law := b_law, g_law := PySem.W.mg_of X G a_law,
        t_DIGITS := _, c_DIGITS := PySem.W.mg_of X G n_DIGITS,
        t_MOST_DIGITS := _, c_MOST_DIGITS := PySem.W.mg_of X G n_MOST_DIGITS,
        t_GREATEST_SUM := _, c_GREATEST_SUM := PySem.W.mg_of X G n_GREATEST_SUM,
        t_MOST_CREWS := _, c_MOST_CREWS := PySem.W.mg_of X G n_MOST_CREWS,
        t_LAST_CREW := _, c_LAST_CREW := PySem.W.mg_of X G n_LAST_CREW,
        t_LAST_STATION := _, c_LAST_STATION := PySem.W.mg_of X G n_LAST_STATION,
        t_MOST_MOVES := _, c_MOST_MOVES := PySem.W.mg_of X G n_MOST_MOVES,
        t_EMPTY := _, c_EMPTY := PySem.W.mg_of X G n_EMPTY,
        t_CALL := _, c_CALL := PySem.W.mg_of X G n_CALL,
        t_MORE := _, c_MORE := PySem.W.mg_of X G n_MORE,
        t_BACK := _, c_BACK := PySem.W.mg_of X G n_BACK,
        t_SEPARATOR := _, c_SEPARATOR := PySem.W.mg_of X G n_SEPARATOR,
        t_WORD_WIDTH := _, c_WORD_WIDTH := PySem.W.mg_of X G n_WORD_WIDTH,
        t_NUMBER_WIDTH := _, c_NUMBER_WIDTH := PySem.W.mg_of X G n_NUMBER_WIDTH,
        t_MOST_TICK_DIGITS := _, c_MOST_TICK_DIGITS := PySem.W.mg_of X G n_MOST_TICK_DIGITS,
        t_MOST_SHORT := _, c_MOST_SHORT := PySem.W.mg_of X G n_MOST_SHORT,
        z_abs := PySem.W.mg_none_of X G z_abs,
        z_all := PySem.W.mg_none_of X G z_all,
        z_any := PySem.W.mg_none_of X G z_any,
        z_bool := PySem.W.mg_none_of X G z_bool,
        z_enumerate := PySem.W.mg_none_of X G z_enumerate,
        z_int := PySem.W.mg_none_of X G z_int,
        z_isinstance := PySem.W.mg_none_of X G z_isinstance,
        z_len := PySem.W.mg_none_of X G z_len,
        z_list := PySem.W.mg_none_of X G z_list,
        z_max := PySem.W.mg_none_of X G z_max,
        z_min := PySem.W.mg_none_of X G z_min,
        z_range := PySem.W.mg_none_of X G z_range,
        z_repr := PySem.W.mg_none_of X G z_repr,
        z_str := PySem.W.mg_none_of X G z_str,
        z_sum := PySem.W.mg_none_of X G z_sum,
        z_tuple := PySem.W.mg_none_of X G z_tuple }, rfl, rfl⟩
  obtain ⟨T, e1, e2⟩ := T
  subst e1
  refine ⟨T.d_law, fun s v => by rw [e2]; exact .of_eq rfl, fun base _ _ => ok_law T⟩
theorem walk {l : PySem.W.OpenLaw} {q : Program} {loose : List Str} {XP : (Str → Option Value) → Heap → Prop} {YP : World → Heap → Prop} {d : DefRec} {K : Params → PySem.W.Frag} (hn : l.most = some 63) (hdf : d.params.defaults = [])
    (hY : ∀ (w : World) (h : Heap), YP w h → (K w.params).In h)
    (F : ∀ (w : World) (mg : Str → Option Value) (fa : Addr) (h : Heap), (K w.params).In h → h.Ns mainGlobals mg → mg d.name = some (.ref fa) →
      ∃ fd : FuncData, (∀ (s : Shared) (u : Value), BindsTo s fd ⟨[u], []⟩ [("_law_script", u)]) ∧ ∀ base : Heap, (K w.params).In base → base.Ns mainGlobals mg → Rp.GOk l.prog w (K w.params) mg base CX0 10 fa fd ["_law_script"] (sp_law (K w.params))) :
    PySem.W.WalkO q loose XP YP l.row.toRowW d [] (fun f vs => PySem.call f vs) :=
  Rp.walk_gof (n := 63) (k := 10) (x := "_law_script") (CX := fun _ => CX0) (sp := fun w => sp_law (K w.params)) hn (by decide) hdf ⟨rfl, by decide, by decide⟩ hY F (fun w H a ns hl _ hS => ⟨a, ns, rfl, hS, hl, fun _ _ => rfl⟩) fun _ _ _ _ _ z => z
end K83

open PySem PySem.W PyProof.Rows in
set_option maxRecDepth 100000 in
set_option maxHeartbeats 0 in
theorem PySem.Challenge.cw_wheelchorus_k83_pages_of_books_holds : PySem.Challenge.rw_wheelchorus_k83_pages_of_books.Holds := by
  w_on; o_law; k_head; (case hw => w_witness2)
  k_fill
  refine K83.walk (l := PySem.Challenge.rw_wheelchorus_k83_pages_of_books) rfl rfl (fun w h Y => PySem.W.kIn_of Y) ?F
  case F =>
    intro w mg fa h KX G hmg
    refine' K83.all_mk KX G hmg ?a_is_whole ?l_is_whole ?c_is_whole ?k_is_whole ?a_is_whole_within ?l_is_whole_within ?c_is_whole_within ?k_is_whole_within ?a_is_sequence ?l_is_sequence ?c_is_sequence ?k_is_sequence ?a_is_digit ?l_is_digit ?c_is_digit ?k_is_digit ?a_is_number ?l_is_number ?c_is_number ?k_is_number ?a_is_station ?l_is_station ?c_is_station ?k_is_station ?a_is_crew ?l_is_crew ?c_is_crew ?k_is_crew ?a_is_move ?l_is_move ?c_is_move ?k_is_move ?a_joined ?l_joined ?c_joined ?k_joined ?a_digits_in ?l_digits_in ?c_digits_in ?k_digits_in ?a_crews_text ?l_crews_text ?c_crews_text ?k_crews_text ?a_pairs_text ?l_pairs_text ?c_pairs_text ?k_pairs_text ?a_row_line ?l_row_line ?c_row_line ?k_row_line ?a_book_page ?l_book_page ?c_book_page ?k_book_page ?a_read_tick ?l_read_tick ?c_read_tick ?k_read_tick ?a_read_grade ?l_read_grade ?c_read_grade ?k_read_grade ?a_read_short ?l_read_short ?c_read_short ?k_read_short ?a_read_crews ?l_read_crews ?c_read_crews ?k_read_crews ?a_read_pairs ?l_read_pairs ?c_read_pairs ?k_read_pairs ?a_read_told ?l_read_told ?c_read_told ?k_read_told ?a_read_row ?l_read_row ?c_read_row ?k_read_row ?a_read_book ?l_read_book ?c_read_book ?k_read_book ?a_bag ?l_bag ?c_bag ?k_bag ?a_take ?l_take ?c_take ?k_take ?a_of ?l_of ?c_of ?k_of ?a_number ?l_number ?c_number ?k_number ?a_crews ?l_crews ?c_crews ?k_crews ?a_row ?l_row ?c_row ?k_row ?a_some ?l_some ?c_some ?k_some ?a_line ?l_line ?c_line ?k_line ?a_digits ?l_digits ?c_digits ?k_digits ?a_list ?l_list ?c_list ?k_list ?a_wis_number ?l_wis_number ?c_wis_number ?k_wis_number ?a_read ?l_read ?c_read ?k_read ?a_bent ?l_bent ?c_bent ?k_bent ?a_told ?l_told ?c_told ?k_told ?a_law ?l_law ?c_law ?k_law ?e_aP ?e_xP ?e_bP ?e_sP ?e_gP ?e_hP ?e_nP ?e_iP ?e_tP ?e_lP ?e_cP ?e_kP ?e_eP ?e_tyP ?e_dP ?e_scP ?n_DIGITS ?n_MOST_DIGITS ?n_GREATEST_SUM ?n_MOST_CREWS ?n_LAST_CREW ?n_LAST_STATION ?n_MOST_MOVES ?n_EMPTY ?n_CALL ?n_MORE ?n_BACK ?n_SEPARATOR ?n_WORD_WIDTH ?n_NUMBER_WIDTH ?n_MOST_TICK_DIGITS ?n_MOST_SHORT ?z_abs ?z_all ?z_any ?z_bool ?z_enumerate ?z_int ?z_isinstance ?z_len ?z_list ?z_max ?z_min ?z_range ?z_repr ?z_str ?z_sum ?z_tuple
    (case a_is_whole => k_is)
    (case l_is_whole => k_is)
    (case c_is_whole => k_is)
    (case k_is_whole => k_is)
    (case a_is_whole_within => k_is)
    (case l_is_whole_within => k_is)
    (case c_is_whole_within => k_is)
    (case k_is_whole_within => k_is)
    (case a_is_sequence => k_is)
    (case l_is_sequence => k_is)
    (case c_is_sequence => k_is)
    (case k_is_sequence => k_is)
    (case a_is_digit => k_is)
    (case l_is_digit => k_is)
    (case c_is_digit => k_is)
    (case k_is_digit => k_is)
    (case a_is_number => k_is)
    (case l_is_number => k_is)
    (case c_is_number => k_is)
    (case k_is_number => k_is)
    (case a_is_station => k_is)
    (case l_is_station => k_is)
    (case c_is_station => k_is)
    (case k_is_station => k_is)
    (case a_is_crew => k_is)
    (case l_is_crew => k_is)
    (case c_is_crew => k_is)
    (case k_is_crew => k_is)
    (case a_is_move => k_is)
    (case l_is_move => k_is)
    (case c_is_move => k_is)
    (case k_is_move => k_is)
    (case a_joined => k_is)
    (case l_joined => k_is)
    (case c_joined => k_is)
    (case k_joined => k_is)
    (case a_digits_in => k_is)
    (case l_digits_in => k_is)
    (case c_digits_in => k_is)
    (case k_digits_in => k_is)
    (case a_crews_text => k_is)
    (case l_crews_text => k_is)
    (case c_crews_text => k_is)
    (case k_crews_text => k_is)
    (case a_pairs_text => k_is)
    (case l_pairs_text => k_is)
    (case c_pairs_text => k_is)
    (case k_pairs_text => k_is)
    (case a_row_line => k_is)
    (case l_row_line => k_is)
    (case c_row_line => k_is)
    (case k_row_line => k_is)
    (case a_book_page => k_is)
    (case l_book_page => k_is)
    (case c_book_page => k_is)
    (case k_book_page => k_is)
    (case a_read_tick => k_is)
    (case l_read_tick => k_is)
    (case c_read_tick => k_is)
    (case k_read_tick => k_is)
    (case a_read_grade => k_is)
    (case l_read_grade => k_is)
    (case c_read_grade => k_is)
    (case k_read_grade => k_is)
    (case a_read_short => k_is)
    (case l_read_short => k_is)
    (case c_read_short => k_is)
    (case k_read_short => k_is)
    (case a_read_crews => k_is)
    (case l_read_crews => k_is)
    (case c_read_crews => k_is)
    (case k_read_crews => k_is)
    (case a_read_pairs => k_is)
    (case l_read_pairs => k_is)
    (case c_read_pairs => k_is)
    (case k_read_pairs => k_is)
    (case a_read_told => k_is)
    (case l_read_told => k_is)
    (case c_read_told => k_is)
    (case k_read_told => k_is)
    (case a_read_row => k_is)
    (case l_read_row => k_is)
    (case c_read_row => k_is)
    (case k_read_row => k_is)
    (case a_read_book => k_is)
    (case l_read_book => k_is)
    (case c_read_book => k_is)
    (case k_read_book => k_is)
    (case a_bag => k_is)
    (case l_bag => k_is)
    (case c_bag => k_is)
    (case k_bag => k_is)
    (case a_take => k_is)
    (case l_take => k_is)
    (case c_take => k_is)
    (case k_take => k_is)
    (case a_of => k_is)
    (case l_of => k_is)
    (case c_of => k_is)
    (case k_of => k_is)
    (case a_number => k_is)
    (case l_number => k_is)
    (case c_number => k_is)
    (case k_number => k_is)
    (case a_crews => k_is)
    (case l_crews => k_is)
    (case c_crews => k_is)
    (case k_crews => k_is)
    (case a_row => k_is)
    (case l_row => k_is)
    (case c_row => k_is)
    (case k_row => k_is)
    (case a_some => k_is)
    (case l_some => k_is)
    (case c_some => k_is)
    (case k_some => k_is)
    (case a_line => k_is)
    (case l_line => k_is)
    (case c_line => k_is)
    (case k_line => k_is)
    (case a_digits => k_is)
    (case l_digits => k_is)
    (case c_digits => k_is)
    (case k_digits => k_is)
    (case a_list => k_is)
    (case l_list => k_is)
    (case c_list => k_is)
    (case k_list => k_is)
    (case a_wis_number => k_is)
    (case l_wis_number => k_is)
    (case c_wis_number => k_is)
    (case k_wis_number => k_is)
    (case a_read => k_is)
    (case l_read => k_is)
    (case c_read => k_is)
    (case k_read => k_is)
    (case a_bent => k_is)
    (case l_bent => k_is)
    (case c_bent => k_is)
    (case k_bent => k_is)
    (case a_told => k_is)
    (case l_told => k_is)
    (case c_told => k_is)
    (case k_told => k_is)
    (case a_law => k_is)
    (case l_law => k_is)
    (case c_law => k_is)
    (case k_law => k_is)
    (case e_aP => k_is)
    (case e_xP => k_is)
    (case e_bP => decide +kernel)
    (case e_sP => k_is)
    (case e_gP => k_is)
    (case e_hP => k_is)
    (case e_nP => k_is)
    (case e_iP => k_is)
    (case e_tP => k_is)
    (case e_lP => k_is)
    (case e_cP => k_is)
    (case e_kP => k_is)
    (case e_eP => k_is)
    (case e_tyP => k_is)
    (case e_dP => k_is)
    (case e_scP => first | rfl | k_is)
    (case n_DIGITS => k_is)
    (case n_MOST_DIGITS => k_is)
    (case n_GREATEST_SUM => k_is)
    (case n_MOST_CREWS => k_is)
    (case n_LAST_CREW => k_is)
    (case n_LAST_STATION => k_is)
    (case n_MOST_MOVES => k_is)
    (case n_EMPTY => k_is)
    (case n_CALL => k_is)
    (case n_MORE => k_is)
    (case n_BACK => k_is)
    (case n_SEPARATOR => k_is)
    (case n_WORD_WIDTH => k_is)
    (case n_NUMBER_WIDTH => k_is)
    (case n_MOST_TICK_DIGITS => k_is)
    (case n_MOST_SHORT => k_is)
    (case z_abs => k_is)
    (case z_all => k_is)
    (case z_any => k_is)
    (case z_bool => k_is)
    (case z_enumerate => k_is)
    (case z_int => k_is)
    (case z_isinstance => k_is)
    (case z_len => k_is)
    (case z_list => k_is)
    (case z_max => k_is)
    (case z_min => k_is)
    (case z_range => k_is)
    (case z_repr => k_is)
    (case z_str => k_is)
    (case z_sum => k_is)
    (case z_tuple => k_is)
