import PyProof.Rows.All
import Wide.All
import OpenK.AllK
import Wide.FinOn
import HandS.ForMost
import HandS.SlotsOwn
import HandS.Wide
import HandS.IsInst
import HandS.Style
import HandS.Zip
import HandS.Walk
import HandS.Exc
import HandS.TryOnly
import HandS.ExcOwn
import HandS.WordsExc
import HandS.ExcIs
import KE.OsGo
import HandS.Codes
import HandS.Text
import KE.IntTextLaws
import KE.KExcIs
import KE.DataEq
import KE.KTupSum
import HandS.Defaults
import HandS.MakeKw
import HandS.MakeKwOnly
import HandS.ClsMeth
import HandS.Strs
import KE.GoesMore
import HandS.TupAny
import HandS.TupMul
import HandS.TryMany
import HandS.ExcCtx
import HandS.TupSets
import HandS.SetFor
import HandS.OwnIter
import HandS.IterVal
import PyProof.P3In
import KE.DataFind
import PyProof.ListMulRoad
import PyProof.FactsAll.tuple_2
import KE.KeyNested
import KE.KDictDisplayH
import PyProof.Rows.TupTab
import KE.DataMinMax
import KE.DatumOrd
import KE.KOpsOwn
import HandS.GenList
import HandS.Conv
import PyProof.ListStr
import HandS.Property
import HandS.TupLe
import HandS.Star
import HandS.More
import PySem.Challenge.RW_wheelchorus_k57_whole_orders_are_closed
import HandS.FStr
set_option Elab.async false
set_option linter.all false
set_option maxRecDepth 100000
set_option maxHeartbeats 4000000
/-! Numbers as lists of digits, their rows, and where two rows part. -/
namespace Wm
open PySem L2
def codes (ds : List Nat) : List Nat := ds.map (· + 48)
def numS (ds : List Nat) : Str := ⟨(codes ds).toArray⟩
structure Dig (ds : List Nat) : Prop where
  dig : ∀ d ∈ ds, 1 ≤ d ∧ d ≤ 9
structure Num (ds : List Nat) : Prop where
  pos : 1 ≤ ds.length
  len : ds.length ≤ 4
  dig : ∀ d ∈ ds, 1 ≤ d ∧ d ≤ 9
  sum : ds.sum ≤ 24
def blk (d : Nat) : List Int := (List.replicate d [1, 0]).flatten
def rowL : List Nat → List Int
  | [] => [0, 0]
  | d :: ds => blk d ++ ([0, 0] ++ rowL ds)
structure Diff (xs ys : List Int) (k : Nat) (a b : Int) : Prop where
  one : xs[k]? = some a
  two : ys[k]? = some b
  ne : a ≠ b
  eq : ∀ j, j < k → xs[j]? = ys[j]?
theorem Diff.symm {xs ys : List Int} {k : Nat} {a b : Int} (h : Diff xs ys k a b) : Diff ys xs k b a :=
  ⟨h.two, h.one, h.ne.symm, fun j l => (h.eq j l).symm⟩
theorem Diff.cons {xs ys : List Int} {k : Nat} {a b : Int} (z : Int) (h : Diff xs ys k a b) : Diff (z :: xs) (z :: ys) (k + 1) a b := by
  refine ⟨by simpa using h.one, by simpa using h.two, h.ne, fun j l => ?_⟩
  cases j with
  | zero => rfl
  | succ j => simpa using h.eq j (by omega)
theorem Diff.app {xs ys : List Int} {k : Nat} {a b : Int} : ∀ (p : List Int), Diff xs ys k a b → Diff (p ++ xs) (p ++ ys) (p.length + k) a b
  | [], h => by simpa using h
  | z :: p, h => by
    have ih := (Diff.app p h).cons z
    have e : (z :: p).length + k = p.length + k + 1 := by simp only [List.length_cons]; omega
    rw [e]
    exact ih
theorem Diff.uniq {xs ys : List Int} {k l : Nat} {a b c d : Int} (h : Diff xs ys k a b) (g : Diff xs ys l c d) : k = l ∧ a = c ∧ b = d := by
  have e : k = l := by
    rcases Nat.lt_trichotomy k l with x | x | x
    · exact absurd (by have q := g.eq k x; rw [h.one, h.two] at q; exact Option.some.inj q) h.ne
    · exact x
    · exact absurd (by have q := h.eq l x; rw [g.one, g.two] at q; exact Option.some.inj q) g.ne
  subst e
  exact ⟨rfl, Option.some.inj (h.one.symm.trans g.one), Option.some.inj (h.two.symm.trans g.two)⟩
theorem Diff.lt1 {xs ys : List Int} {k : Nat} {a b : Int} (h : Diff xs ys k a b) : k < xs.length := (List.getElem?_eq_some_iff.mp h.one).1
theorem Diff.lt2 {xs ys : List Int} {k : Nat} {a b : Int} (h : Diff xs ys k a b) : k < ys.length := (List.getElem?_eq_some_iff.mp h.two).1
theorem blk_add (d e : Nat) : blk (d + e) = blk d ++ blk e := by
  unfold blk
  rw [← List.replicate_append_replicate, List.flatten_append]
theorem blk_succ (e : Nat) : blk (e + 1) = [1, 0] ++ blk e := by
  rw [Nat.add_comm, blk_add]
  rfl
theorem blk_len (d : Nat) : (blk d).length = 2 * d := by
  induction d with
  | zero => rfl
  | succ d ih => rw [blk_succ, List.length_append, ih]; simp only [List.length_cons, List.length_nil]; omega
theorem row_less (d e : Nat) (ds es : List Nat) (h : d < e) : Diff (rowL (d :: ds)) (rowL (e :: es)) (2 * d) 0 1 := by
  obtain ⟨f, rfl⟩ : ∃ f, e = d + (f + 1) := ⟨e - d - 1, by omega⟩
  have h0 : Diff ([0, 0] ++ rowL ds) ([1, 0] ++ (blk f ++ ([0, 0] ++ rowL es))) 0 0 1 := ⟨rfl, rfl, by decide, fun j l => absurd l (Nat.not_lt_zero _)⟩
  have h1 := h0.app (blk d)
  rw [blk_len, Nat.add_zero] at h1
  have e1 : rowL ((d + (f + 1)) :: es) = blk d ++ ([1, 0] ++ (blk f ++ ([0, 0] ++ rowL es))) := by
    show blk (d + (f + 1)) ++ _ = _
    rw [blk_add, blk_succ, List.append_assoc, List.append_assoc]
  rw [e1]
  exact h1
theorem rows_part : ∀ (ds es : List Nat), (∀ d ∈ ds, 1 ≤ d) → (∀ e ∈ es, 1 ≤ e) →
    ds = es ∨ (∃ k, Diff (rowL ds) (rowL es) k 1 0 ∧ es < ds) ∨ (∃ k, Diff (rowL ds) (rowL es) k 0 1 ∧ ds < es)
  | [], [], _, _ => .inl rfl
  | [], e :: es, _, h => by
    obtain ⟨f, rfl⟩ : ∃ f, e = f + 1 := ⟨e - 1, by have := h e (by simp); omega⟩
    refine .inr (.inr ⟨0, ⟨rfl, ?_, by decide, fun j l => absurd l (Nat.not_lt_zero _)⟩, List.nil_lt_cons _ _⟩)
    show (blk (f + 1) ++ _)[0]? = _
    rw [blk_succ]
    rfl
  | d :: ds, [], h, _ => by
    obtain ⟨f, rfl⟩ : ∃ f, d = f + 1 := ⟨d - 1, by have := h d (by simp); omega⟩
    refine .inr (.inl ⟨0, ⟨?_, rfl, by decide, fun j l => absurd l (Nat.not_lt_zero _)⟩, List.nil_lt_cons _ _⟩)
    show (blk (f + 1) ++ _)[0]? = _
    rw [blk_succ]
    rfl
  | d :: ds, e :: es, h, g => by
    rcases Nat.lt_trichotomy d e with x | x | x
    · exact .inr (.inr ⟨_, row_less d e ds es x, List.cons_lt_cons_iff.mpr (.inl x)⟩)
    · subst x
      rcases rows_part ds es (fun y m => h y (List.mem_cons_of_mem _ m)) (fun y m => g y (List.mem_cons_of_mem _ m)) with q | ⟨k, q, l⟩ | ⟨k, q, l⟩
      · exact .inl (by rw [q])
      · exact .inr (.inl ⟨_, (q.app [0, 0]).app (blk d), List.cons_lt_cons_iff.mpr (.inr ⟨rfl, l⟩)⟩)
      · exact .inr (.inr ⟨_, (q.app [0, 0]).app (blk d), List.cons_lt_cons_iff.mpr (.inr ⟨rfl, l⟩)⟩)
    · exact .inr (.inl ⟨_, (row_less e d es ds x).symm, List.cons_lt_cons_iff.mpr (.inl x)⟩)
theorem codes_lt : ∀ (ds es : List Nat), ds < es → codes ds < codes es
  | [], [], h => absurd h (List.lt_irrefl _)
  | [], _ :: _, _ => List.nil_lt_cons _ _
  | _ :: _, [], h => absurd h (List.not_lt_nil _)
  | d :: ds, e :: es, h => by
    rcases List.cons_lt_cons_iff.mp h with x | ⟨x, y⟩
    · exact List.cons_lt_cons_iff.mpr (.inl (Nat.add_lt_add_right x 48))
    · exact List.cons_lt_cons_iff.mpr (.inr ⟨by rw [x], codes_lt ds es y⟩)
theorem codes_inj : ∀ (ds es : List Nat), codes ds = codes es → ds = es
  | [], [], _ => rfl
  | [], _ :: _, h => by simp [codes] at h
  | _ :: _, [], h => by simp [codes] at h
  | d :: ds, e :: es, h => by
    have h1 : d + 48 = e + 48 := (List.cons.inj h).1
    have h2 : codes ds = codes es := (List.cons.inj h).2
    rw [codes_inj ds es h2, show d = e by omega]
theorem numS_cps (ds : List Nat) : (numS ds).cps.toList = codes ds := rfl
theorem numS_inj {ds es : List Nat} (h : numS ds = numS es) : ds = es := codes_inj _ _ (by rw [← numS_cps, h, numS_cps])
theorem numS_len (ds : List Nat) : (numS ds).length = ds.length := by
  show (codes ds).toArray.size = _
  simp [codes]
theorem lt_asymm' {a b : List Nat} (h : a < b) : ¬ b < a := fun g => List.lt_irrefl _ (List.lt_trans h g)
theorem rowL_le : ∀ ds : List Nat, (∀ d ∈ ds, d ≤ 9) → (rowL ds).length ≤ 20 * ds.length + 2
  | [], _ => by decide
  | d :: ds, h => by
    have ih := rowL_le ds fun y m => h y (List.mem_cons_of_mem _ m)
    have hd := h d (by simp)
    show (blk d ++ ([0, 0] ++ rowL ds)).length ≤ _
    rw [List.length_append, List.length_append, blk_len]
    simp only [List.length_cons, List.length_nil]
    omega
end Wm

/-! Digits as signs, texts of digits cut and joined; what a heap keeps. -/
namespace Wm
open PySem L2
theorem dig_cases {d : Nat} (h : 1 ≤ d ∧ d ≤ 9) : d = 1 ∨ d = 2 ∨ d = 3 ∨ d = 4 ∨ d = 5 ∨ d = 6 ∨ d = 7 ∨ d = 8 ∨ d = 9 := by omega
theorem dig_int {d : Nat} (h : 1 ≤ d ∧ d ≤ 9) : PySem.intText? ⟨#[d + 48]⟩ = some (d : Int) := by
  rcases dig_cases h with e | e | e | e | e | e | e | e | e <;> subst e <;> decide +kernel
theorem dig_in {d : Nat} (h : 1 ≤ d ∧ d ≤ 9) : (d + 48) ∈ ("123456789" : Str).cps.toList := by
  rcases dig_cases h with e | e | e | e | e | e | e | e | e <;> subst e <;> decide +kernel
theorem dig_str {d : Nat} (h : 1 ≤ d ∧ d ≤ 9) : ((toString (d : Int) : String) : Str) = numS [d] := by
  rcases dig_cases h with e | e | e | e | e | e | e | e | e <;> subst e <;> decide +kernel
theorem numS_app (ds es : List Nat) : numS ds ++ numS es = numS (ds ++ es) := by
  refine PyProof.Rows.ext_toList ?_
  show ((numS ds).cps ++ (numS es).cps).toList = _
  rw [Array.toList_append, numS_cps, numS_cps, numS_cps]
  simp [codes]
theorem numS_nil : numS [] = ("" : Str) := by decide +kernel
theorem numS_take (ds : List Nat) (k : Nat) : cutS (numS ds) none (some (k : Int)) = numS (ds.take k) := by
  refine PyProof.Rows.ext_toList ?_
  show ((codes ds).drop 0).take (HT.sIx (numS ds).length (numS ds).length (some (k : Int)) - 0) = codes (ds.take k)
  rw [numS_len, HT.sIx_nat, List.drop_zero, Nat.sub_zero]
  simp only [codes, ← List.map_take]
  congr 1
  rw [List.take_eq_take_iff]
  omega
theorem numS_last (ds : List Nat) : cutS (numS ds) none (some (-1)) = numS ds.dropLast := by
  refine PyProof.Rows.ext_toList ?_
  show ((codes ds).drop 0).take (HT.sIx (numS ds).length (numS ds).length (some (-1)) - 0) = codes ds.dropLast
  rw [numS_len, List.drop_zero, Nat.sub_zero, List.dropLast_eq_take]
  simp only [codes, ← List.map_take]
  have e : HT.sIx ds.length ds.length (some (-1)) = ds.length - 1 := by
    unfold HT.sIx
    simp only [show (-1 : Int) < 0 by decide, if_true]
    omega
  rw [e]
theorem numS_at (ds : List Nat) (i : Nat) (hi : i < ds.length) : (numS ds).cps[i]? = some (ds[i] + 48) := by
  show ((codes ds).toArray)[i]? = _
  simp [codes, hi]
theorem numS_size (ds : List Nat) : (numS ds).cps.size = ds.length := numS_len ds

/-! heaps -/
theorem same_new {H : Hp} {p : Addr} {o : HO} (n : H p = none) : Same H (upd H p o) := fun b u e => by
  rw [upd_ne (ne_of_none e n)]
  exact e
theorem at_old {H : Hp} {p q : Addr} {o u : HO} (h : H p = some o) (n : H q = none) : upd H q u p = some o := by
  rw [upd_ne (ne_of_none h n)]
  exact h
theorem sameT {K : PySem.W.Frag} {H H' : Hp} {a : Addr} {xs : List V} (e : Same H H') (h : SqT K H a xs) : SqT K H' a xs := by
  rcases h with (h | ⟨o, h⟩) | h
  · exact .inl (.inl (e _ _ h))
  · exact .inl (.inr ⟨o, e _ _ h⟩)
  · exact .inr h
/-- what stood stands, but for what H did not know and the object at p, which is new since -/
theorem same_mut {H H' : Hp} {p : Addr} {o : HO} (s : Same H H') (n : H p = none) : Same H (upd H' p o) := fun b u e => by
  rw [upd_ne (ne_of_none e n)]
  exact s b u e
/-- the bag's list at b, its cells at c -/
def Cel (H : Hp) (b c : Addr) : Prop := ∃ x k m z : Int, H b = some (.lst [.int x, .ref c, .int k, .int m, .int z])
structure But (b : Addr) (H H' : Hp) : Prop where
  keep : ∀ p o, p ≠ b → H p = some o → H' p = some o
  cel : ∀ c, Cel H b c → Cel H' b c
instance {b : Addr} {H H' : Hp} : CoeFun (But b H H') (fun _ => ∀ p o, p ≠ b → H p = some o → H' p = some o) := ⟨But.keep⟩
theorem But.refl (b : Addr) (H : Hp) : But b H H := ⟨fun _ _ _ h => h, fun _ h => h⟩
theorem But.trans {b : Addr} {H H1 H2 : Hp} (x : But b H H1) (y : But b H1 H2) : But b H H2 := ⟨fun p o n h => y.keep p o n (x.keep p o n h), fun c h => y.cel c (x.cel c h)⟩
theorem But.of {b : Addr} {H H' : Hp} (s : Same H H') : But b H H' := ⟨fun p o _ h => s p o h, fun _ ⟨x, k, m, z, h⟩ => ⟨x, k, m, z, s _ _ h⟩⟩
theorem But.set {b c : Addr} {H : Hp} {x k m z x' k' m' z' : Int} (hb : H b = some (.lst [.int x, .ref c, .int k, .int m, .int z])) : But b H (upd H b (.lst [.int x', .ref c, .int k', .int m', .int z'])) :=
  ⟨fun p u n h => by
    rw [upd_ne n]
    exact h, fun c2 ⟨a1, a2, a3, a4, h⟩ => by
    rw [hb] at h
    have h := Option.some.inj h
    injection h with h
    injection h with h1 h
    injection h with h2 h
    injection h2 with h2
    subst h2
    exact ⟨x', k', m', z', upd_same⟩⟩
/-- the bag of draws: its cells' list and its four numbers -/
def Bag (H : Hp) (b : Addr) (n : Nat) : Prop :=
  ∃ (c : Addr) (x k m z : Int) (ns : List Int), H b = some (.lst [.int x, .ref c, .int k, .int m, .int z]) ∧ H c = some (.lst (ns.map V.int)) ∧ 0 ≤ k ∧ 0 ≤ m ∧ m ≤ (n : Int)
theorem bag_ne {H : Hp} {b c : Addr} {x k m z : Int} {ns : List Int} (hb : H b = some (.lst [.int x, .ref c, .int k, .int m, .int z])) (hc : H c = some (.lst (ns.map V.int))) : c ≠ b := by
  intro e
  subst e
  rw [hb] at hc
  have q := Option.some.inj hc
  have q2 : ([.int x, .ref c, .int k, .int m, .int z] : List V) = ns.map V.int := by injection q
  cases ns with
  | nil => simp at q2
  | cons u r => cases r with
    | nil => simp at q2
    | cons v r => simp at q2
theorem Bag.mono {H : Hp} {b : Addr} {n m : Nat} (h : Bag H b n) (l : n ≤ m) : Bag H b m := by
  obtain ⟨c, x, k, q, z, ns, h1, h2, h3, h4, h5⟩ := h
  exact ⟨c, x, k, q, z, ns, h1, h2, h3, h4, by omega⟩
theorem Bag.keep {H H' : Hp} {b : Addr} {n : Nat} (h : Bag H b n) (s : Same H H') : Bag H' b n := by
  obtain ⟨c, x, k, q, z, ns, h1, h2, h3, h4, h5⟩ := h
  exact ⟨c, x, k, q, z, ns, s _ _ h1, s _ _ h2, h3, h4, h5⟩
theorem Cel.uniq {H : Hp} {b c d : Addr} (h : Cel H b c) (g : Cel H b d) : c = d := by
  obtain ⟨x, k, m, z, h⟩ := h
  obtain ⟨x', k', m', z', g⟩ := g
  rw [h] at g
  have g := Option.some.inj g
  injection g with g
  injection g with g1 g
  injection g with g2 g
  injection g2
theorem But.put {b D : Addr} {H H' : Hp} {o : HO} (e : But b H H') (n : H D = none) : But b H (upd H' D o) := by
  refine ⟨fun p u pb h => ?_, fun c h => ?_⟩
  · rw [upd_ne (ne_of_none h n)]
    exact e.keep p u pb h
  · have h0 := h
    obtain ⟨x, k, m, z, h⟩ := h
    obtain ⟨x', k', m', z', g⟩ := e.cel c h0
    exact ⟨x', k', m', z', by rw [upd_ne (ne_of_none h n)]; exact g⟩
theorem Bag.put {b D : Addr} {H H' : Hp} {o : HO} {n m : Nat} (bag : Bag H b n) (f : H D = none) (e : But b H H') (bag2 : Bag H' b m) : Bag (upd H' D o) b m := by
  obtain ⟨c, x, k, q, z, ns, h1, h2, h3, h4, h5⟩ := bag
  obtain ⟨c', x', k', q', z', ns', g1, g2, g3, g4, g5⟩ := bag2
  have ec : c = c' := Cel.uniq (e.cel c ⟨x, k, q, z, h1⟩) ⟨x', k', q', z', g1⟩
  subst ec
  exact ⟨c, x', k', q', z', ns', by rw [upd_ne (ne_of_none h1 f)]; exact g1, by rw [upd_ne (ne_of_none h2 f)]; exact g2, g3, g4, g5⟩
end Wm
namespace Wm
open PySem L2
theorem yesT {σ : L2.St} {H : Hp} {A B : Hp → Prop} (h : A H) : tYes σ H (fun b H3 => if b = true then A H3 else B H3) := by
  show (if true = true then A H else B H)
  rw [if_pos rfl]
  exact h
end Wm

/-! row[::2] of a list or a tuple; a loop over a list or a tuple. -/
namespace Hf
open PySem PySem.Spec PyProof.Rows L2
def ev2 {α : Type} : List α → List α
  | [] => []
  | [x] => [x]
  | x :: _ :: r => x :: ev2 r
theorem ev2_le {α : Type} : ∀ xs : List α, (ev2 xs).length ≤ xs.length
  | [] => Nat.le_refl _
  | [_] => Nat.le_refl _
  | x :: y :: r => by
    have ih := ev2_le r
    show (ev2 r).length + 1 ≤ r.length + 2
    omega
theorem ev2_mem {α : Type} {z : α} : ∀ {xs : List α}, z ∈ ev2 xs → z ∈ xs
  | [], h => h
  | [_], h => h
  | x :: y :: r, h => by
    rcases List.mem_cons.mp h with e | e
    · rw [e]; simp
    · exact List.mem_cons_of_mem _ (List.mem_cons_of_mem _ (ev2_mem e))
theorem ev2_map {α β : Type} (f : α → β) : ∀ xs : List α, ev2 (xs.map f) = (ev2 xs).map f
  | [] => rfl
  | [_] => rfl
  | x :: y :: r => by
    show f x :: ev2 (r.map f) = f x :: (ev2 r).map f
    rw [ev2_map f r]
theorem ev2_pick {α : Type} : ∀ xs : List α, (List.range ((xs.length + 1) / 2)).filterMap (fun k => xs[2 * k]?) = ev2 xs
  | [] => by simp [ev2]
  | [x] => by
    rw [show ([x].length + 1) / 2 = 1 by simp, show List.range 1 = [0] by decide]
    simp [ev2]
  | x :: y :: r => by
    have ih := ev2_pick r
    have e : ((x :: y :: r).length + 1) / 2 = (r.length + 1) / 2 + 1 := by
      show (r.length + 1 + 1 + 1) / 2 = _
      omega
    rw [e, List.range_succ_eq_map, List.filterMap_cons]
    show x :: _ = x :: ev2 r
    rw [List.filterMap_map, ← ih]
    rfl
theorem ev2_vals : ∀ {xs : List V} {us : List Value}, Vals xs us → Vals (ev2 xs) (ev2 us)
  | [], _, h => by cases h; exact .nil
  | [x], _, h => by
    cases h with
    | cons a b =>
      cases b
      exact .cons a .nil
  | x :: y :: r, _, h => by
    cases h with
    | cons a b =>
      cases b with
      | cons c d => exact .cons a (ev2_vals d)
theorem pick2 (items : Array Value) : slicePick items none none (some 2) = (ev2 items.toList).toArray := by
  have e := ev2_pick items.toList
  unfold slicePick
  have b : sliceBounds none none (some 2) items.size = (0, (items.size : Int), 2) := by
    first
    | rfl
    | simp [sliceBounds]
  rw [b]
  show ((sliceRange 0 (items.size : Int) 2).filterMap (items[·]?)).toArray = _
  have r : sliceRange 0 (items.size : Int) 2 = (List.range ((items.size + 1) / 2)).map fun k => 2 * k := by
    unfold sliceRange
    have h1 : (2 : Int) > 0 := by decide
    by_cases h : (0 : Int) < (items.size : Int)
    · have e : ((items.size : Int) - 0 + 2 - 1) / 2 = (((items.size + 1) / 2 : Nat) : Int) := by omega
      simp only [h1, if_true, h, e, Int.toNat_natCast]
      apply List.map_congr_left
      intro k _
      omega
    · have e : items.size = 0 := by omega
      simp [e]
  rw [r, List.filterMap_map]
  rw [Array.length_toList] at e
  rw [← e]
  refine congrArg List.toArray (congrArg (fun f => List.filterMap f _) (funext fun k => ?_))
  show items[2 * k]? = _
  rw [Array.getElem?_toList]
section
variable {prog : Program} {w : World} {A : Around} {E : Value → Shared → Prop} {s : Shared}
theorem places2 (n : Nat) : Builtin.Slice.slicePlaces 0 (n : Int) 2 = (n + 1) / 2 := by
  unfold Builtin.Slice.slicePlaces
  have h1 : (2 : Int) > 0 := by omega
  simp only [h1, if_true]
  split <;> omega
theorem adjust2 (n : Nat) : Builtin.Slice.sliceAdjust none none 2 (n : Int) = (0, (n : Int)) := by
  have h1 : ¬ ((2 : Int) < 0) := by omega
  unfold Builtin.Slice.sliceAdjust
  simp only [h1, if_false]
theorem sliceApplied2 {sl : Addr} {t : Tok} {n : Nat} {Q : Int × Int × Nat → Shared → Prop} (hs : s.heap.IsSliceOf sl .none .none (.int 2 t))
    (h : Q (0, 2, (n + 1) / 2) s) : wpAny (model prog w) A (Builtin.Slice.sliceApplied (.ref sl) (pure (n : Int))) Q E s := by
  obtain ⟨os, hos, hcs, hds⟩ := id hs
  unfold Builtin.Slice.sliceApplied Builtin.Slice.sliceFields
  refine wpAny_bind (wpAny_bind (wpAny_field hos hds (x := .none) rfl (wpAny_bind (wpAny_field hos hds (x := .none) rfl (wpAny_bind (wpAny_field hos hds (x := .int 2 t) rfl (wpAny_pure ?_)))))))
  refine wpAny_bind (slicePart_int ?_)
  show wpAny _ _ (if ((2 : Int) == 0) = true then _ else _) _ _ s
  rw [if_neg (by decide)]
  refine wpAny_bind (HT.slicePart_ .none (wpAny_bind (HT.slicePart_ .none (wpAny_bind (wpAny_pure ?_)))))
  show wpAny _ _ (match Builtin.Slice.sliceAdjust none none 2 (n : Int) with | (lo, hi) => pure (lo, (2 : Int), Builtin.Slice.slicePlaces lo hi 2)) _ _ s
  rw [adjust2 n]
  show wpAny _ _ (pure ((0 : Int), (2 : Int), Builtin.Slice.slicePlaces (0 : Int) (n : Int) 2)) _ _ s
  rw [places2]
  exact wpAny_pure h
theorem pick2t (xs : Array Value) : ((List.range ((xs.size + 1) / 2)).filterMap fun (m : Nat) => xs[((0 : Int) + (m : Int) * 2).toNat]?).toArray = (ev2 xs.toList).toArray := by
  have e : (fun (m : Nat) => xs[((0 : Int) + (m : Int) * 2).toNat]?) = fun m => xs.toList[2 * m]? := by
    funext m
    have : ((0 : Int) + (m : Int) * 2).toNat = 2 * m := by omega
    rw [this, Array.getElem?_toList]
  rw [e, ← ev2_pick xs.toList, Array.length_toList]
theorem getItem_tuple_2 {t sl : Addr} {tk : Tok} {items : Array Value} {Q : Value → Shared → Prop} (ht : IsTup s.heap t items) (hs : s.heap.IsSliceOf sl .none .none (.int 2 tk))
    (h : Q (.ref s.heap.objs.size) { s with heap := s.heap.push { cls := .type "tuple", data := .seq (ev2 items.toList).toArray } })
    (hsz : items.size ≤ sizeLine) : wpAny (model prog w) A (getItem (.ref t) (.ref sl)) Q E s := by
  have htake : sizeOk (.seq (ev2 items.toList).toArray) := by
    show (ev2 items.toList).toArray.size ≤ sizeLine
    rw [List.size_toArray]
    exact Nat.le_trans (ev2_le items.toList) (by rw [Array.length_toList]; exact hsz)
  obtain ⟨os, hos, hcs, hds⟩ := id hs
  have hTs : s.TypeIs (.ref sl) "slice" := ⟨os, hos, hcs⟩
  unfold getItem
  try with_reducible refine wpAny_holding ?_
  first | refine wpAny_bind (wpAny_pure ?_) | skip
  refine wpAny_bind (wpAny_sequenceKey ht.typeIs (by decide) ?_)
  refine wpAny_bind (wpAny_callSpecial?_slot (name := Str.ofString "__getitem__") ht.typeIs PyProof.Rows.slot_tuple_getitem
    (wpAny_call_entry PyProof.Rows.slot_tuple_getitem ht.typeIs entry_tuple_getitem ?_ (args_tuple_getitem _ _)))
  show wpAny _ _ (Builtin.Tuple.tupleItemsOf (.ref t) >>= _) _ _ s
  refine wpAny_bind (tupleItemsOf_ ht ?_)
  refine wpAny_bind (wpAny_typeOf hTs ?_)
  rw [if_pos (by decide)]
  refine wpAny_bind (sliceApplied2 hs ?_)
  have hno : ¬ (((0 : Int) == 0 && (2 : Int) == 1 && ((items.size + 1) / 2) == items.size) = true) := by
    intro q
    rw [Bool.and_eq_true, Bool.and_eq_true] at q
    exact absurd q.1.2 (by decide)
  show wpAny _ _ (if ((0 : Int) == 0 && (2 : Int) == 1 && ((items.size + 1) / 2) == items.size) = true then _ else _) _ _ s
  rw [if_neg hno, pick2t]
  first
    | exact wpAny_bind (m := Builtin.Tuple.tupleExact _) (wpAny_newObj_type (wpAny_pure ⟨_, rfl, wpAny_pure h⟩) htake)
    | exact wpAny_bind (m := Builtin.Tuple.tupleExact _) (wpAny_newObj_type (wpAny_bind (wpAny_pure (wpAny_pure ⟨_, rfl, wpAny_pure h⟩))) htake)
    | exact wpAny_bind (wpAny_bind (m := Builtin.Tuple.tupleExact _) (wpAny_newObj_type (wpAny_pure (wpAny_pure ⟨_, rfl, wpAny_pure h⟩)) htake))
    | exact wpAny_bind (wpAny_bind (m := Builtin.Tuple.tupleExact _) (wpAny_newObj_type (wpAny_pure ⟨_, rfl, wpAny_pure h⟩) htake))
end
section
variable {X : Cx}
def tHalf (K : PySem.W.Frag) (te : TE) : TE := fun σ H Q => te σ H fun x H1 => ∃ a xs, x = .ref a ∧ (SqL K H1 a xs ∨ SqT K H1 a xs) ∧
  ∀ p H2, (∀ b o, H1 b = some o → H2 b = some o) → H1 p = none → (SqL K H2 p (ev2 xs) ∨ SqT K H2 p (ev2 xs)) → Q (.ref p) H2
theorem new_same {H : Hp} {p : Addr} {o : HO} (n : H p = none) : ∀ b u, H b = some u → upd H p o b = some u := fun b u e => by
  rw [upd_ne (ne_of_none e n)]
  exact e
theorem pe_half {e : Expr} {te : TE} {k : Nat} {p1 p3 pos : Pos} (he : PE X e te) : PE X (.Subscript e (.Slice none none (some (.Constant (.int 2) k p1)) p3) pos) (tHalf X.K te) := by
  refine ⟨fun pins s σ H Q I h => ?_⟩
  refine Subscript_ (thn (he.run pins s σ H _ I h) fun v s1 ⟨x, H1, I1, r1, q1⟩ => ?_)
  obtain ⟨a, xs, ex, hq, q⟩ := q1
  subst ex
  cases r1
  have hst : PO X (some (.Constant (.int 2) k p1)) (tPart (tC (.int 2))) := po_some pe_int
  refine wpAny_Slice (thn (po_none.run pins s1 σ H1 (fun o H2 => o = none ∧ H2 = H1) I1 ⟨rfl, rfl⟩) fun vl s2 ⟨l, H2, I2, pl, el, e2⟩ => ?_)
  subst el e2
  refine thn (po_none.run pins s2 σ H2 (fun o H3 => o = none ∧ H3 = H2) I2 ⟨rfl, rfl⟩) fun vu s3 ⟨u, H3, I3, pu, eu, e3⟩ => ?_
  subst eu e3
  refine thn (hst.run pins s3 σ H3 (fun o H4 => o = some 2 ∧ H4 = H3) I3 ⟨2, rfl, rfl, rfl⟩) fun vs s4 ⟨o, H4, I4, ps, eo, e4⟩ => ?_
  subst eo e4
  have I5 : Inv X pins σ H4 { s4 with heap := s4.heap.push { cls := .type "slice", data := .fields #[vl, vu, vs] } } := I4.kept (t' := s4.toks) fun b ob q => Heap.get?_push_of_some _ q
  rcases hq with hx | hx
  · obtain ⟨its, r, ht, hz⟩ := I5.list hx
    have hlen := r.length
    show wpAny (model X.prog X.w) X.A (subscriptTail e (.Slice none none (some (.Constant (.int 2) k p1)) p3) (.ref a) (.ref s4.heap.objs.size)) (EP X pins σ Q) X.xe { s4 with heap := s4.heap.push { cls := .type "slice", data := .fields #[vl, vu, vs] } }
    refine tail_any (ops := [.ref a, .ref s4.heap.objs.size]) ht.isList.typeIs (PySem.slot_list_getitem.lookup) ?_ (by with_unfolding_all rfl)
    refine wpAny_getItem_list_slice ht.isList (Heap.IsSliceOf.new _ vl vu vs) pl pu ps (by decide) ?_ (by rw [List.size_toArray]; omega)
    rw [pick2]
    refine ⟨.ref _, _, I5.laid (t' := s4.toks) (o := .lst (ev2 xs)) (fun b ob q => Heap.get?_push_of_some _ q) (Nat.le_refl _) ?_, rfl, q _ _ (new_same (I5.hok.fresh (Nat.le_refl _))) (I5.hok.fresh (Nat.le_refl _)) (.inl (SqL.of upd_same))⟩
    exact ⟨Nat.le_trans (ev2_le xs) hz, _, 0, ev2_vals r, Heap.get?_push_size _ rfl⟩
  · obtain ⟨its, r, ht, hz⟩ := I5.tuple hx
    have hlen := r.length
    cases pl
    cases pu
    cases ps
    show wpAny (model X.prog X.w) X.A (subscriptTail e (.Slice none none (some (.Constant (.int 2) k p1)) p3) (.ref a) (.ref s4.heap.objs.size)) (EP X pins σ Q) X.xe { s4 with heap := s4.heap.push { cls := .type "slice", data := .fields #[Value.none, Value.none, .int 2 _] } }
    refine tail_any (ops := [.ref a, .ref s4.heap.objs.size]) ht.typeIs (PyProof.Rows.slot_tuple_getitem.lookup) ?_ (by with_unfolding_all rfl)
    refine getItem_tuple_2 ht (Heap.IsSliceOf.new _ _ _ _) ?_ (by rw [List.size_toArray]; omega)
    refine ⟨.ref _, _, I5.laid (t' := s4.toks) (o := .tup (ev2 xs)) (fun b ob q => Heap.get?_push_of_some _ q) (Nat.le_refl _) ?_, rfl, q _ _ (new_same (I5.hok.fresh (Nat.le_refl _))) (I5.hok.fresh (Nat.le_refl _)) (.inr (SqT.of upd_same))⟩
    exact ⟨Nat.le_trans (ev2_le xs) hz, _, ev2_vals r, IsTup.new _ _⟩
theorem keepL {K : PySem.W.Frag} {H H' : Hp} {a : Addr} {xs : List V} (e : Same H H') (h : SqL K H a xs) : SqL K H' a xs := by
  rcases h with (h | ⟨o, h⟩) | h
  · exact .inl (.inl (e _ _ h))
  · exact .inl (.inr ⟨o, e _ _ h⟩)
  · exact .inr h
theorem keepT {K : PySem.W.Frag} {H H' : Hp} {a : Addr} {xs : List V} (e : Same H H') (h : SqT K H a xs) : SqT K H' a xs := by
  rcases h with (h | ⟨o, h⟩) | h
  · exact .inl (.inl (e _ _ h))
  · exact .inl (.inr ⟨o, e _ _ h⟩)
  · exact .inr h
def iSeq (K : PySem.W.Frag) (tl : TE) : TI := fun σ H R => tl σ H fun x H1 => ∃ a xs, x = .ref a ∧ (SqL K H1 a xs ∨ SqT K H1 a xs) ∧
  ∀ J G, Walk J xs.length G (YAt xs) → (∀ H', Same H1 H' → G H') → R J H1
theorem pi_seq {tg l : Expr} {tl : TE} (hl : PE X l tl) : PI X tg l (iSeq X.K tl) := by
  refine ⟨fun pins s σ H R I h => ?_⟩
  refine thn (hl.run pins s σ H _ I h) fun v s1 ⟨x, H1, I1, r1, q1⟩ => ?_
  obtain ⟨a, xs, e, hq, q⟩ := q1
  subst e
  cases r1
  rcases hq with hq | hq
  · have q := q _ _ walk_list fun H' s => keepL s hq
    obtain ⟨its, rv, p, hz⟩ := I1.list hq
    refine wpAny_pyIter_list p.isList ?_
    refine ⟨s1.heap.objs.size, [s1.heap.objs.size], _, _, H1, rfl, I1.kept (t' := s1.toks) fun b o e => Heap.get?_push_of_some _ e, turn_list a _, ⟨_, Heap.get?_push_size _ rfl, rfl, rfl⟩, fun b hb => ?_, q⟩
    have e : b = s1.heap.objs.size := by simpa using hb
    subst e
    exact I1.fpOk (Nat.le_refl _) (I1.hok.fresh (Nat.le_refl _))
  · have q := q _ _ walk_tup fun H' s => keepT s hq
    obtain ⟨its, rv, p, hz⟩ := I1.tuple hq
    refine wpAny_pyIter_tuple (show s1.heap.IsTuple a its.toArray from p) ?_
    refine ⟨s1.heap.objs.size, [s1.heap.objs.size], _, _, H1, rfl, I1.kept (t' := s1.toks) fun b o e => Heap.get?_push_of_some _ e, turn_tuple a _, ⟨_, Heap.get?_push_size _ rfl, rfl, rfl⟩, fun b hb => ?_, q⟩
    have e : b = s1.heap.objs.size := by simpa using hb
    subst e
    exact I1.fpOk (Nat.le_refl _) (I1.hok.fresh (Nat.le_refl _))
end
end Hf

/-! Rows read back: strokes, steps, groups. -/
namespace Wm
open PySem L2 TL
/-- the rows of the first digits, without the two ticks at the end -/
def pre : List Nat → List Int
  | [] => []
  | d :: ds => blk d ++ ([0, 0] ++ pre ds)
theorem pre_app : ∀ (ds : List Nat) (d : Nat), pre (ds ++ [d]) = pre ds ++ (blk d ++ [0, 0])
  | [], d => by show blk d ++ ([0, 0] ++ []) = [] ++ _; simp
  | e :: ds, d => by
    show blk e ++ ([0, 0] ++ pre (ds ++ [d])) = (blk e ++ ([0, 0] ++ pre ds)) ++ _
    rw [pre_app ds d]
    simp only [List.append_assoc]
theorem pre_row : ∀ ds : List Nat, pre ds ++ [0, 0] = rowL ds
  | [] => rfl
  | d :: ds => by
    show (blk d ++ ([0, 0] ++ pre ds)) ++ _ = blk d ++ ([0, 0] ++ rowL ds)
    rw [← pre_row ds]
    simp only [List.append_assoc]
theorem blk_V (d : Nat) : (List.replicate d [V.int 1, V.int 0]).flatten = (blk d).map V.int := by
  unfold blk
  rw [List.map_flatten, List.map_replicate]
  rfl
theorem pre_le : ∀ ds : List Nat, (∀ d ∈ ds, d ≤ 9) → (pre ds).length ≤ 20 * ds.length
  | [], _ => by decide
  | d :: ds, h => by
    have ih := pre_le ds fun y m => h y (List.mem_cons_of_mem _ m)
    have hd := h d (by simp)
    show (blk d ++ ([0, 0] ++ pre ds)).length ≤ _
    rw [List.length_append, List.length_append, blk_len]
    simp only [List.length_cons, List.length_nil]
    omega
theorem take_succ_app {α : Type} {l : List α} {i : Nat} {x : α} (h : l[i]? = some x) : l.take (i + 1) = l.take i ++ [x] := by
  rw [List.take_add_one, h]
  rfl
theorem take_succ_map {α β : Type} {l : List α} {i : Nat} {x : α} (f : α → β) (h : l[i]? = some x) : (l.take i).map f ++ [f x] = (l.take (i + 1)).map f := by
  rw [take_succ_app h, List.map_append]
  rfl
theorem row_sum : ∀ ds : List Nat, (rowL ds).length = 2 * (ds.sum + ds.length + 1)
  | [] => rfl
  | d :: ds => by
    have ih := row_sum ds
    show (blk d ++ ([0, 0] ++ rowL ds)).length = _
    rw [List.length_append, List.length_append, blk_len, ih, List.sum_cons]
    simp only [List.length_cons, List.length_nil]
    omega
theorem row_le (ds : List Nat) (N : Num ds) : (rowL ds).length ≤ 100 := by
  have h := rowL_le ds fun d m => (N.dig d m).2
  have l := N.len
  omega
theorem row_bits : ∀ (ds : List Nat) (z : Int), z ∈ rowL ds → z = 0 ∨ z = 1
  | [], z, h => by
    have h : z ∈ [0, 0] := h
    simp only [List.mem_cons, List.not_mem_nil, or_false, or_self] at h
    exact .inl h
  | d :: ds, z, h => by
    have h : z ∈ blk d ++ ([0, 0] ++ rowL ds) := h
    rw [List.mem_append, List.mem_append] at h
    rcases h with h | h | h
    · obtain ⟨l, hl, hz⟩ := List.mem_flatten.mp h
      rw [(List.mem_replicate.mp hl).2] at hz
      simp only [List.mem_cons, List.not_mem_nil, or_false] at hz
      exact hz.symm
    · simp only [List.mem_cons, List.not_mem_nil, or_false, or_self] at h
      exact .inl h
    · exact row_bits ds z h
/-! strokes -/
def ones : Nat → List Int → List Nat
  | _, [] => []
  | o, x :: xs => if x = 1 then o :: ones (o + 1) xs else ones (o + 1) xs
theorem ones_app : ∀ (a : List Int) (o : Nat) (b : List Int), ones o (a ++ b) = ones o a ++ ones (o + a.length) b
  | [], o, b => rfl
  | x :: a, o, b => by
    have ih := ones_app a (o + 1) b
    have e : o + (x :: a).length = o + 1 + a.length := by rw [List.length_cons]; omega
    rw [e]
    show (if x = 1 then o :: ones (o + 1) (a ++ b) else ones (o + 1) (a ++ b)) = (if x = 1 then o :: ones (o + 1) a else ones (o + 1) a) ++ _
    rw [ih]
    by_cases c : x = 1
    · rw [if_pos c, if_pos c]; rfl
    · rw [if_neg c, if_neg c]
theorem ones_mem : ∀ (xs : List Int) (o k : Nat), k ∈ ones o xs ↔ ∃ j, k = o + j ∧ xs[j]? = some 1
  | [], o, k => by simp [ones]
  | x :: xs, o, k => by
    have ih := ones_mem xs (o + 1) k
    show k ∈ (if x = 1 then o :: ones (o + 1) xs else ones (o + 1) xs) ↔ _
    constructor
    · intro h
      by_cases c : x = 1
      · rw [if_pos c] at h
        rcases List.mem_cons.mp h with e | e
        · exact ⟨0, by omega, by rw [c]; rfl⟩
        · obtain ⟨j, e1, e2⟩ := ih.mp e
          exact ⟨j + 1, by omega, by simpa using e2⟩
      · rw [if_neg c] at h
        obtain ⟨j, e1, e2⟩ := ih.mp h
        exact ⟨j + 1, by omega, by simpa using e2⟩
    · rintro ⟨j, e1, e2⟩
      cases j with
      | zero =>
        have c : x = 1 := Option.some.inj e2
        rw [if_pos c]
        exact List.mem_cons.mpr (.inl (by omega))
      | succ j =>
        have m : k ∈ ones (o + 1) xs := ih.mpr ⟨j, by omega, by simpa using e2⟩
        by_cases c : x = 1
        · rw [if_pos c]; exact List.mem_cons_of_mem _ m
        · rw [if_neg c]; exact m
theorem ones_blk (o d : Nat) : ones o (blk (d + 1)) = ones o (blk d) ++ [o + 2 * d] := by
  rw [blk_add, ones_app, blk_len]
  rfl
theorem ones_end (a : List Int) (o : Nat) : ones o (a ++ [0, 0]) = ones o a := by
  rw [ones_app]
  show ones o a ++ [] = _
  rw [List.append_nil]
theorem step2 (s : List Nat) (d : Nat) : ones 0 (pre s ++ blk (d + 1)) = ones 0 (pre s ++ blk d) ++ [(pre s).length + 2 * d] := by
  rw [ones_app, ones_app, ones_blk, List.append_assoc, Nat.zero_add]
theorem step4 (s : List Nat) (d : Nat) : ones 0 (pre (s ++ [d]) ++ blk 1) = ones 0 (pre s ++ blk d) ++ [(pre s).length + 2 * d + 2] := by
  rw [ones_app, pre_app, ← List.append_assoc, ones_end]
  have e : ((pre s ++ blk d) ++ ([0, 0] : List Int)).length = (pre s).length + 2 * d + 2 := by
    rw [List.length_append, List.length_append, blk_len]
    rfl
  rw [e, Nat.zero_add]
  rfl
theorem ones_row (s : List Nat) (d : Nat) : ones 0 (rowL (s ++ [d])) = ones 0 (pre s ++ blk d) := by
  rw [← pre_row, pre_app, ← List.append_assoc, ones_end, ones_end]
theorem ones_inj {ds es : List Nat} (h1 : ∀ d ∈ ds, 1 ≤ d) (h2 : ∀ e ∈ es, 1 ≤ e) (h : ones 0 (rowL ds) = ones 0 (rowL es)) : ds = es := by
  rcases rows_part ds es h1 h2 with q | ⟨k, q, _⟩ | ⟨k, q, _⟩
  · exact q
  · have m : k ∈ ones 0 (rowL ds) := (ones_mem _ _ _).mpr ⟨k, by omega, q.one⟩
    rw [h] at m
    obtain ⟨j, e1, e2⟩ := (ones_mem _ _ _).mp m
    rw [show j = k by omega, q.two] at e2
    cases e2
  · have m : k ∈ ones 0 (rowL es) := (ones_mem _ _ _).mpr ⟨k, by omega, q.two⟩
    rw [← h] at m
    obtain ⟨j, e1, e2⟩ := (ones_mem _ _ _).mp m
    rw [show j = k by omega, q.one] at e2
    cases e2
def St (l : List Nat) : Prop := ∀ (k a b : Nat), l[k]? = some a → l[k + 1]? = some b → b = a + 2 ∨ b = a + 4
theorem St.cons {x : Nat} {l : List Nat} (h : ∀ y, l.head? = some y → y = x + 2 ∨ y = x + 4) (s : St l) : St (x :: l) := by
  intro k a b e1 e2
  cases k with
  | zero =>
    have e : x = a := Option.some.inj e1
    subst e
    refine h b ?_
    rw [List.head?_eq_getElem?]
    exact e2
  | succ k => exact s k a b (by simpa using e1) (by simpa using e2)
theorem steps_blk {l : List Int} (hl : ∀ o, St (ones o l) ∧ ∀ y, (ones o l).head? = some y → y = o) : ∀ (d o : Nat), St (ones o (blk d ++ ([0, 0] ++ l))) ∧ ∀ y, (ones o (blk d ++ ([0, 0] ++ l))).head? = some y → (y = o ∨ y = o + 2)
  | 0, o => by
    have h := hl (o + 2)
    exact ⟨h.1, fun y e => .inr (h.2 y e)⟩
  | d + 1, o => by
    have ih := steps_blk hl d (o + 2)
    have e : ones o (blk (d + 1) ++ ([0, 0] ++ l)) = o :: ones (o + 2) (blk d ++ ([0, 0] ++ l)) := by
      rw [blk_succ]
      rfl
    rw [e]
    refine ⟨ih.1.cons fun y q => ?_, fun y q => .inl (Option.some.inj q).symm⟩
    rcases ih.2 y q with z | z
    · exact .inl z
    · exact .inr (by omega)
theorem steps_row : ∀ (es : List Nat), (∀ d ∈ es, 1 ≤ d) → ∀ o, St (ones o (rowL es)) ∧ ∀ y, (ones o (rowL es)).head? = some y → y = o
  | [], _, o => ⟨fun k a b (e : (none : Option Nat) = some a) => (by cases e), fun y (e : (none : Option Nat) = some y) => by cases e⟩
  | d :: es, h, o => by
    have ih := steps_row es fun y m => h y (List.mem_cons_of_mem _ m)
    obtain ⟨f, rfl⟩ : ∃ f, d = f + 1 := ⟨d - 1, by have := h d (by simp); omega⟩
    have q := steps_blk ih (f + 1) o
    refine ⟨q.1, fun y e => ?_⟩
    have e' : ones o (rowL ((f + 1) :: es)) = o :: ones (o + 2) (blk f ++ ([0, 0] ++ rowL es)) := by
      show ones o (blk (f + 1) ++ _) = _
      rw [blk_succ]
      rfl
    rw [e'] at e
    exact (Option.some.inj e).symm
theorem first_row (d : Nat) (es : List Nat) (h : 1 ≤ d) : (ones 0 (rowL (d :: es)))[0]? = some 0 := by
  obtain ⟨f, rfl⟩ : ∃ f, d = f + 1 := ⟨d - 1, by omega⟩
  show (ones 0 (blk (f + 1) ++ _))[0]? = _
  rw [blk_succ]
  rfl
/-! groups -/
def gaps : List Int → List Nat
  | [] => [0]
  | z :: zs => if z = 1 then (match gaps zs with | [] => [1] | g :: gs => (g + 1) :: gs) else 0 :: gaps zs
theorem gaps_ne : ∀ zs, gaps zs ≠ []
  | [] => by simp [gaps]
  | z :: zs => by
    show (if z = 1 then (match gaps zs with | [] => [1] | g :: gs => (g + 1) :: gs) else 0 :: gaps zs) ≠ []
    by_cases c : z = 1
    · rw [if_pos c]
      split <;> simp
    · rw [if_neg c]; simp
def bits (zs : List Int) : List Nat := zs.map fun z => if z = 1 then 49 else 48
theorem joinL_cons {s : List Nat} {p : List Nat} {ps : List (List Nat)} (h : ps ≠ []) : joinL s (p :: ps) = p ++ (s ++ joinL s ps) := by
  cases ps with
  | nil => exact absurd rfl h
  | cons q r => rfl
theorem joinL_one (s p : List Nat) : joinL s [p] = p := rfl
theorem map_ne {α β : Type} {f : α → β} {l : List α} (h : l ≠ []) : l.map f ≠ [] := fun e => h (List.map_eq_nil_iff.mp e)
theorem gaps_join : ∀ zs, bits zs = joinL [48] ((gaps zs).map fun g => List.replicate g 49)
  | [] => rfl
  | z :: zs => by
    have ih := gaps_join zs
    have ne := gaps_ne zs
    show (if z = 1 then 49 else 48) :: bits zs = joinL [48] ((if z = 1 then (match gaps zs with | [] => [1] | g :: gs => (g + 1) :: gs) else 0 :: gaps zs).map _)
    by_cases c : z = 1
    · rw [if_pos c, if_pos c]
      cases e : gaps zs with
      | nil => exact absurd e ne
      | cons g gs =>
        rw [e] at ih
        rw [ih]
        cases gs with
        | nil => rfl
        | cons g2 gs => rfl
    · rw [if_neg c, if_neg c, List.map_cons, joinL_cons (map_ne ne), ← ih]
      rfl
theorem gaps_sum : ∀ zs, (gaps zs).sum ≤ zs.length ∧ (gaps zs).length ≤ zs.length + 1
  | [] => by decide
  | z :: zs => by
    have ih := gaps_sum zs
    show (if z = 1 then (match gaps zs with | [] => [1] | g :: gs => (g + 1) :: gs) else 0 :: gaps zs).sum ≤ zs.length + 1 ∧ (if z = 1 then (match gaps zs with | [] => [1] | g :: gs => (g + 1) :: gs) else 0 :: gaps zs).length ≤ zs.length + 1 + 1
    by_cases c : z = 1
    · rw [if_pos c]
      cases e : gaps zs with
      | nil => exact absurd e (gaps_ne zs)
      | cons g gs =>
        rw [e, List.sum_cons, List.length_cons] at ih
        show ((g + 1) :: gs).sum ≤ _ ∧ ((g + 1) :: gs).length ≤ _
        rw [List.sum_cons, List.length_cons]
        omega
    · rw [if_neg c, List.sum_cons, List.length_cons]
      omega
theorem mem_sum {g : Nat} : ∀ {l : List Nat}, g ∈ l → g ≤ l.sum
  | a :: l, h => by
    rw [List.sum_cons]
    rcases List.mem_cons.mp h with e | e
    · omega
    · have := mem_sum e
      omega
theorem gaps_le {zs : List Int} {g : Nat} (h : g ∈ gaps zs) : g ≤ zs.length := by
  have h1 := (gaps_sum zs).1
  have h2 : g ≤ (gaps zs).sum := mem_sum h
  omega
theorem ev2_row : ∀ ds, Hf.ev2 (rowL ds) = (match ds with | [] => [0] | d :: r => List.replicate d 1 ++ (0 :: Hf.ev2 (rowL r)))
  | [] => rfl
  | d :: r => by
    show Hf.ev2 (blk d ++ ([0, 0] ++ rowL r)) = List.replicate d 1 ++ (0 :: Hf.ev2 (rowL r))
    induction d with
    | zero => rfl
    | succ d ih =>
      rw [blk_succ, List.replicate_succ]
      show (1 : Int) :: Hf.ev2 (blk d ++ ([0, 0] ++ rowL r)) = _
      rw [ih]
      rfl
theorem gaps_rep (l : List Int) (d : Nat) : gaps (List.replicate d 1 ++ (0 :: l)) = d :: gaps l := by
  induction d with
  | zero => rfl
  | succ d ih =>
    rw [List.replicate_succ]
    show (if (1 : Int) = 1 then (match gaps (List.replicate d 1 ++ (0 :: l)) with | [] => [1] | g :: gs => (g + 1) :: gs) else _) = _
    rw [if_pos rfl, ih]
theorem gaps_row : ∀ ds, gaps (Hf.ev2 (rowL ds)) = ds ++ [0, 0]
  | [] => rfl
  | d :: r => by
    rw [ev2_row]
    show gaps (List.replicate d 1 ++ (0 :: Hf.ev2 (rowL r))) = _
    rw [gaps_rep, gaps_row r]
    rfl
end Wm

/-! Ticks of bent rows as data. -/
namespace Wm
open PySem L2
inductive Tk : PyData → Prop
  | int {i : Int} : i.natAbs < 1000000 → Tk (.int i)
  | bl (b : Bool) : Tk (.bool b)
  | non : Tk .none
  | one : Tk (.str "1")
  | lst : Tk (.list [.int 0])
def Item (K : PySem.W.Frag) (H : Hp) (x : V) : Prop := ∃ d, Dp K H x d ∧ Tk d
theorem sqL_keep {K : PySem.W.Frag} {H H' : Hp} {a : Addr} {xs : List V} (e : Same H H') (h : SqL K H a xs) : SqL K H' a xs := by
  rcases h with (h | ⟨o, h⟩) | h
  · exact .inl (.inl (e _ _ h))
  · exact .inl (.inr ⟨o, e _ _ h⟩)
  · exact .inr h
theorem tk_keep {K : PySem.W.Frag} {H H' : Hp} {x : V} {d : PyData} (e : Same H H') (h : Dp K H x d) (t : Tk d) : Dp K H' x d := by
  cases t with
  | int _ => cases h; exact .int _
  | bl b => cases h; exact .bl _
  | non => cases h; exact .non
  | one => cases h; exact .str _
  | lst =>
    cases h with
    | lst q a =>
      refine .lst (sqL_keep e q) ?_
      cases a with
      | cons b c =>
        cases b
        cases c
        exact .cons (.int _) .nil
theorem Item.keep {K : PySem.W.Frag} {H H' : Hp} {x : V} (e : Same H H') (h : Item K H x) : Item K H' x := let ⟨d, a, b⟩ := h; ⟨d, tk_keep e a b, b⟩
theorem tks_keep {K : PySem.W.Frag} {H H' : Hp} (e : Same H H') : ∀ {xs : List V} {ds : List PyData}, DpAll K H xs ds → (∀ d ∈ ds, Tk d) → DpAll K H' xs ds
  | _, _, .nil, _ => .nil
  | _, _, .cons a b, t => .cons (tk_keep e a (t _ (by simp))) (tks_keep e b fun d m => t d (List.mem_cons_of_mem _ m))
theorem items_data {K : PySem.W.Frag} {H : Hp} : ∀ {xs : List V}, (∀ x ∈ xs, Item K H x) → ∃ ds, DpAll K H xs ds ∧ (∀ d ∈ ds, Tk d) ∧ ds.length = xs.length
  | [], _ => ⟨[], .nil, by simp, rfl⟩
  | x :: xs, h => by
    obtain ⟨d, a, b⟩ := h x (by simp)
    obtain ⟨ds, c1, c2, c3⟩ := items_data (xs := xs) fun y m => h y (List.mem_cons_of_mem _ m)
    refine ⟨d :: ds, .cons a c1, fun y m => ?_, by rw [List.length_cons, List.length_cons, c3]⟩
    rcases List.mem_cons.mp m with q | q
    · rw [q]; exact b
    · exact c2 y q
theorem item_int {K : PySem.W.Frag} {H : Hp} {i : Int} (h : i.natAbs < 1000000) : Item K H (.int i) := ⟨_, .int i, .int h⟩
theorem tk_lay {d : PyData} (t : Tk d) : d.canLay0 = true ∧ d.depth ≤ 1 := by
  cases t with
  | int _ => exact ⟨by simp [PyData.canLay0], by simp [PyData.depth]⟩
  | bl b => exact ⟨by simp [PyData.canLay0], by simp [PyData.depth]⟩
  | non => exact ⟨by simp [PyData.canLay0], by simp [PyData.depth]⟩
  | one => exact ⟨by decide +kernel, by simp [PyData.depth]⟩
  | lst => exact ⟨by simp [PyData.canLay0, PyData.canLayAll0], by simp [PyData.depth, PyData.depthAll]⟩
theorem tks_lay : ∀ {ds : List PyData}, (∀ d ∈ ds, Tk d) → PyData.canLayAll0 ds = true ∧ PyData.depthAll ds ≤ 1
  | [], _ => by simp [PyData.canLayAll0, PyData.depthAll]
  | d :: ds, h => by
    have h1 := tk_lay (h d (by simp))
    have h2 := tks_lay (ds := ds) fun y m => h y (List.mem_cons_of_mem _ m)
    simp only [PyData.canLayAll0, PyData.depthAll, h1.1, h2.1, Bool.and_self, true_and]
    omega
theorem tks_shaped {ds : List PyData} (h : ∀ d ∈ ds, Tk d) : SeqAt.shaped (.list ds) = true := by
  have q := tks_lay h
  have e : decide ((PyData.list ds).depth ≤ 64) = true := decide_eq_true (by simp only [PyData.depth]; omega)
  show ((PyData.list ds).canLay0 && _) = true
  rw [e, Bool.and_true]
  exact q.1
theorem tk_show {d : PyData} (t : Tk d) : d.showable = true ∧ d.hasDict = false ∧ d.leavesShort 13 = true ∧ d.weight ≤ 30 := by
  cases t with
  | @int i h =>
    have hl : i.natAbs.log2 < 20 ∨ i = 0 := by
      by_cases z : i = 0
      · exact .inr z
      · exact .inl ((Nat.log2_lt (by omega)).mpr (by omega))
    refine ⟨decide_eq_true ?_, rfl, decide_eq_true (PyData.shown_int_le (by omega)), ?_⟩
    · rcases hl with z | z
      · omega
      · subst z; decide
    · rcases hl with z | z
      · simp only [PyData.weight]; split <;> omega
      · subst z; decide
  | bl b => exact ⟨rfl, rfl, rfl, by simp [PyData.weight]⟩
  | non => exact ⟨rfl, rfl, rfl, by simp [PyData.weight]⟩
  | one => exact ⟨rfl, rfl, by decide +kernel, by decide +kernel⟩
  | lst => exact ⟨by decide +kernel, rfl, by decide +kernel, by decide +kernel⟩
theorem tks_show : ∀ {ds : List PyData}, (∀ d ∈ ds, Tk d) → PyData.showableAll ds = true ∧ PyData.hasDictAll ds = false ∧ PyData.leavesShortAll 13 ds = true ∧ PyData.weightAll ds ≤ 31 * ds.length
  | [], _ => by simp [PyData.showableAll, PyData.hasDictAll, PyData.leavesShortAll, PyData.weightAll]
  | d :: ds, h => by
    have h1 := tk_show (h d (by simp))
    have h2 := tks_show (ds := ds) fun y m => h y (List.mem_cons_of_mem _ m)
    simp only [PyData.showableAll, PyData.hasDictAll, PyData.leavesShortAll, PyData.weightAll, h1.1, h1.2.1, h1.2.2.1, h2.1, h2.2.1, h2.2.2.1, Bool.and_self, Bool.or_self, true_and, List.length_cons]
    omega
theorem tks_shown {ds : List PyData} (h : ∀ d ∈ ds, Tk d) (l : ds.length ≤ 1000) : (PyData.list ds).shown.length ≤ sizeLine :=
  PyData.shown_fits (B := 13) (by decide) (by decide) (tks_show h).2.2.1 (Nat.le_trans (tks_show h).2.2.2 (by omega))
def isI : V → Bool
  | .int _ => true
  | _ => false
def isBit (x : V) : Bool := decide (x = .int 0) || decide (x = .int 1)
theorem all_ints {xs : List V} (h : ∀ x ∈ xs, isI x = true) : ∃ zs : List Int, xs = zs.map V.int := by
  induction xs with
  | nil => exact ⟨[], rfl⟩
  | cons x xs ih =>
    obtain ⟨zs, e⟩ := ih fun y m => h y (List.mem_cons_of_mem _ m)
    have hx := h x (by simp)
    cases x with
    | int i => exact ⟨i :: zs, by rw [e]; rfl⟩
    | _ => cases hx
theorem all_bits {xs : List V} (h : ∀ x ∈ xs, isBit x = true) : ∃ zs : List Int, xs = zs.map V.int ∧ ∀ z ∈ zs, z = 0 ∨ z = 1 := by
  induction xs with
  | nil => exact ⟨[], rfl, by simp⟩
  | cons x xs ih =>
    obtain ⟨zs, e, b⟩ := ih fun y m => h y (List.mem_cons_of_mem _ m)
    have hx := h x (by simp)
    have hc : x = .int 0 ∨ x = .int 1 := by
      rcases Bool.or_eq_true_iff.mp hx with q | q
      · exact .inl (of_decide_eq_true q)
      · exact .inr (of_decide_eq_true q)
    have : ∃ i : Int, x = .int i ∧ (i = 0 ∨ i = 1) := by
      rcases hc with q | q
      · exact ⟨0, q, .inl rfl⟩
      · exact ⟨1, q, .inr rfl⟩
    obtain ⟨i, rfl, hi⟩ := this
    refine ⟨i :: zs, by rw [e]; rfl, fun z m => ?_⟩
    rcases List.mem_cons.mp m with q | q
    · rw [q]; exact hi
    · exact b z q
/-- what isinstance asks of such a tick -/
theorem tyx_of {K : PySem.W.Frag} {H : Hp} {x : V} (h : Item K H x) : ∃ (n : String) (a b : Bool), TyX K H x (.type n) ∧ PySem.W.kitOne K (.type n) (.type "int") = some a ∧
    PySem.W.kitOne K (.type n) (.type "bool") = some b ∧ (a && !b) = isI x := by
  obtain ⟨d, h, t⟩ := h
  cases t with
  | int _ => cases h; exact ⟨"int", true, false, .base (.int _), kit_ty (by decide +kernel), kit_ty (by decide +kernel), rfl⟩
  | bl b => cases h; exact ⟨"bool", true, true, .base (.bl _), kit_ty (by decide +kernel), kit_ty (by decide +kernel), rfl⟩
  | non => cases h; exact ⟨"NoneType", false, false, .base .non, kit_ty (by decide +kernel), kit_ty (by decide +kernel), rfl⟩
  | one => cases h; exact ⟨"str", false, false, .base (.str _), kit_ty (by decide +kernel), kit_ty (by decide +kernel), rfl⟩
  | lst =>
    cases h with
    | lst q a =>
      rcases q with (q | ⟨o, q⟩) | q
      · exact ⟨"list", false, false, .base (.lst q), kit_ty (by decide +kernel), kit_ty (by decide +kernel), rfl⟩
      · exact ⟨"list", false, false, .base (.frz q), kit_ty (by decide +kernel), kit_ty (by decide +kernel), rfl⟩
      · obtain ⟨o, xs, n, e, c, _⟩ := q
        exact ⟨"list", false, false, .kList e c, kit_ty (by decide +kernel), kit_ty (by decide +kernel), rfl⟩
/-- a list or a tuple -/
def SqA (K : PySem.W.Frag) (H : Hp) (a : Addr) (xs : List V) : Prop := SqL K H a xs ∨ SqT K H a xs
theorem SqA.keep {K : PySem.W.Frag} {H H' : Hp} {a : Addr} {xs : List V} (e : Same H H') (h : SqA K H a xs) : SqA K H' a xs := h.imp (sqL_keep e) (sameT e)
end Wm

/-! Texts of digits: halves, groups, the number they tell. -/
namespace Wm
open PySem L2 TL
def oneS (g : Nat) : Str := ⟨(List.replicate g 49).toArray⟩
def bitS (z : Int) : Str := if z = 1 then "1" else "0"
def decS (g : Nat) : Str := ((toString (g : Int) : String) : Str)
theorem bit_str {z : Int} (h : z = 0 ∨ z = 1) : ((toString z : String) : Str) = bitS z := by
  rcases h with e | e <;> subst e <;> decide +kernel
theorem tl_bit (z : Int) : tl (bitS z) = [if z = 1 then 49 else 48] := by
  unfold bitS
  by_cases c : z = 1
  · rw [if_pos c, if_pos c]; decide +kernel
  · rw [if_neg c, if_neg c]; decide +kernel
theorem joinL_nil : ∀ ps : List (List Nat), joinL [] ps = ps.flatten
  | [] => rfl
  | [p] => by show p = [p].flatten; simp
  | p :: q :: r => by
    show p ++ ([] ++ joinL [] (q :: r)) = _
    rw [joinL_nil (q :: r), List.nil_append]
    rfl
theorem tl_empty : tl ("" : Str) = [] := by decide +kernel
theorem tl_zero : tl ("0" : Str) = [48] := by decide +kernel
theorem tl_join0 (ys : List Str) : tl (Txt.join "" ys) = (ys.map tl).flatten := by
  rw [join_eq, tl_join, tl_empty, joinL_nil]
theorem bits_flat : ∀ zs : List Int, ((zs.map bitS).map tl).flatten = bits zs
  | [] => rfl
  | z :: zs => by
    rw [List.map_cons, List.map_cons, List.flatten_cons, bits_flat zs, tl_bit]
    rfl
theorem halves_eq (zs : List Int) : Txt.join "" (zs.map bitS) = Txt.join "0" ((gaps zs).map oneS) := by
  refine ext_tl ?_
  rw [tl_join0, bits_flat, gaps_join, join_eq, tl_join, tl_zero, List.map_map]
  rfl
theorem groups_eq (zs : List Int) : Txt.split (Txt.join "" (zs.map bitS)) "0" = (gaps zs).map oneS := by
  rw [halves_eq]
  refine split_join (s := 48) (S := []) tl_zero (by decide +kernel) (map_ne (gaps_ne zs)) fun p hp h => ?_
  obtain ⟨g, _, rfl⟩ := List.mem_map.mp hp
  have h : 48 ∈ List.replicate g 49 := h
  exact absurd (List.mem_replicate.mp h).2 (by decide)
theorem oneS_len (g : Nat) : (oneS g).length = g := by
  rw [len_tl]
  show (List.replicate g 49).length = g
  rw [List.length_replicate]
theorem halves_len (zs : List Int) : (Txt.join "" (zs.map bitS)).length = zs.length := by
  rw [len_tl, tl_join0, bits_flat]
  unfold bits
  rw [List.length_map]
theorem len4 : ∀ g : Fin 1001, (decS g.val).length ≤ 4 := by decide +kernel
theorem dec_len {g : Nat} (h : g ≤ 1000) : (decS g).length ≤ 4 := len4 ⟨g, by omega⟩
theorem dec_sum : ∀ {gs : List Nat}, (∀ g ∈ gs, g ≤ 1000) → ((gs.map decS).map (·.length)).sum ≤ 4 * gs.length
  | [], _ => by simp
  | g :: gs, h => by
    have h1 := dec_len (h g (by simp))
    have h2 := dec_sum (gs := gs) fun y m => h y (List.mem_cons_of_mem _ m)
    rw [List.map_cons, List.map_cons, List.sum_cons, List.length_cons]
    omega
theorem join0_len (ys : List Str) : (Txt.join "" ys).length = (ys.map (·.length)).sum := by
  rw [len_tl, tl_join0]
  induction ys with
  | nil => rfl
  | cons y ys ih => rw [List.map_cons, List.flatten_cons, List.length_append, ih, List.map_cons, List.sum_cons, len_tl]
theorem bit_sum (zs : List Int) : ((zs.map bitS).map (·.length)).sum = zs.length := by rw [← join0_len, halves_len]
theorem num_text : ∀ {ds : List Nat}, (∀ d ∈ ds, 1 ≤ d ∧ d ≤ 9) → Txt.join "" (ds.map decS) = numS ds
  | [], _ => by decide +kernel
  | d :: ds, h => by
    have ih := num_text (ds := ds) fun y m => h y (List.mem_cons_of_mem _ m)
    refine ext_tl ?_
    rw [tl_join0, List.map_cons, List.map_cons, List.flatten_cons, ← tl_join0, ih]
    have e : decS d = numS [d] := dig_str (h d (by simp))
    rw [e]
    rfl
/-- the number that a row of bits tells, if it is a row -/
def told (zs : List Int) : Str := Txt.join "" ((gaps (Hf.ev2 zs)).dropLast.dropLast.map decS)
theorem told_row {ds : List Nat} (h : ∀ d ∈ ds, 1 ≤ d ∧ d ≤ 9) : told (rowL ds) = numS ds := by
  unfold told
  rw [gaps_row, ← num_text h]
  congr 2
  show (ds ++ [0, 0]).dropLast.dropLast = ds
  rw [show (ds ++ [0, 0]) = (ds ++ [0]) ++ [0] by simp, List.dropLast_concat, List.dropLast_concat]
theorem digits_codes : ("123456789" : Str).cps.toList = [49, 50, 51, 52, 53, 54, 55, 56, 57] := by decide +kernel
theorem dig_text (t : Str) (h : ∀ c ∈ tl t, c ∈ ("123456789" : Str).cps.toList) : ∃ ds : List Nat, (∀ d ∈ ds, 1 ≤ d ∧ d ≤ 9) ∧ t = numS ds := by
  have h2 : ∀ c ∈ tl t, 49 ≤ c ∧ c ≤ 57 := fun c m => by
    have q := h c m
    rw [digits_codes] at q
    simp only [List.mem_cons, List.not_mem_nil, or_false] at q
    omega
  refine ⟨(tl t).map (· - 48), fun d m => ?_, ?_⟩
  · obtain ⟨c, mc, rfl⟩ := List.mem_map.mp m
    have := h2 c mc
    omega
  · refine ext_tl ?_
    show tl t = ((tl t).map (· - 48)).map (· + 48)
    rw [List.map_map]
    refine (List.map_id _).symm.trans (List.map_congr_left fun c m => ?_)
    have := h2 c m
    show c = c - 48 + 48
    omega
theorem num_codes {ds : List Nat} (h : ∀ d ∈ ds, 1 ≤ d ∧ d ≤ 9) : ∀ c ∈ tl (numS ds), c ∈ ("123456789" : Str).cps.toList := fun c m => by
  have m : c ∈ codes ds := m
  obtain ⟨d, md, rfl⟩ := List.mem_map.mp m
  exact dig_in (h d md)
def IsNum (t : Str) : Prop := ∃ ds, Num ds ∧ t = numS ds
theorem isnum_dig {ds : List Nat} : IsNum (numS ds) ↔ Num ds :=
  ⟨fun ⟨es, N, e⟩ => by rw [numS_inj e]; exact N, fun N => ⟨ds, N, rfl⟩⟩
theorem row_inj {ds es : List Nat} (N : Num ds) (M : Num es) (h : (rowL ds).map V.int = (rowL es).map V.int) : ds = es := by
  have e : rowL ds = rowL es := by
    have q := congrArg (List.map fun v => match v with | V.int i => i | _ => 0) h
    simpa [List.map_map, Function.comp_def] using q
  exact ones_inj (fun d m => (N.dig d m).1) (fun d m => (M.dig d m).1) (by rw [e])
theorem map_int_inj {xs ys : List Int} (h : xs.map V.int = ys.map V.int) : xs = ys := by
  have q := congrArg (List.map fun v => match v with | V.int i => i | _ => 0) h
  simpa [List.map_map, Function.comp_def] using q
/-- what number_of tells of a row -/
def Told (xs : List V) (v : V) : Prop := (∃ ds, Num ds ∧ xs = (rowL ds).map V.int ∧ v = .str (numS ds)) ∨ ((∀ ds, Num ds → xs ≠ (rowL ds).map V.int) ∧ v = .non)
theorem Told.uniq {xs : List V} {v u : V} (a : Told xs v) (b : Told xs u) : v = u := by
  rcases a with ⟨ds, N, e, rfl⟩ | ⟨n, rfl⟩
  · rcases b with ⟨es, M, f, rfl⟩ | ⟨n, _⟩
    · rw [row_inj N M (e.symm.trans f)]
    · exact absurd e (n ds N)
  · rcases b with ⟨es, M, f, rfl⟩ | ⟨_, rfl⟩
    · exact absurd f (n es M)
    · rfl
theorem Told.row {ds : List Nat} {v : V} (N : Num ds) (a : Told ((rowL ds).map V.int) v) : v = .str (numS ds) := a.uniq (.inl ⟨ds, N, rfl, rfl⟩)
end Wm

/-! Things as data: what may be asked whether it is a number. -/
namespace Wm
open PySem L2 TL
structure Tx (t : Str) : Prop where
  len : t.length ≤ 100
  asc : ∀ c ∈ tl t, c < 128
inductive Tg : PyData → Prop
  | int {i : Int} : i.natAbs < 1000000000000000000000 → Tg (.int i)
  | bl (b : Bool) : Tg (.bool b)
  | non : Tg .none
  | str {t : Str} : Tx t → Tg (.str t)
  | lst {ts : List Str} : (∀ t ∈ ts, Tx t) → ts.length ≤ 100 → Tg (.list (ts.map .str))
  | tup {ts : List Str} : (∀ t ∈ ts, Tx t) → ts.length ≤ 100 → Tg (.tuple (ts.map .str))
structure Ob (K : PySem.W.Frag) (H : Hp) (x : V) (d : PyData) : Prop where
  dp : Dp K H x d
  tg : Tg d
theorem dp_strs {K : PySem.W.Frag} {H H' : Hp} : ∀ {xs : List V} {ts : List Str}, DpAll K H xs (ts.map PyData.str) → xs = ts.map V.str ∧ DpAll K H' (ts.map V.str) (ts.map PyData.str)
  | _, [], h => by cases h; exact ⟨rfl, .nil⟩
  | _, t :: ts, h => by
    cases h with
    | cons a b =>
      cases a
      obtain ⟨e, g⟩ := dp_strs (H' := H') (ts := ts) b
      subst e
      exact ⟨rfl, .cons (.str t) g⟩
theorem dp_strs' {K : PySem.W.Frag} {H : Hp} : ∀ ts : List Str, DpAll K H (ts.map V.str) (ts.map PyData.str)
  | [] => .nil
  | t :: ts => .cons (.str t) (dp_strs' ts)
theorem Ob.move {K : PySem.W.Frag} {H H' : Hp} {x : V} {d : PyData} (h : Ob K H x d) (f : ∀ p o, x = .ref p → H p = some o → (∀ ts : List Str, o = .lst (ts.map V.str) → H' p = some o) ∧ (∀ ts : List Str, o = .tup (ts.map V.str) → H' p = some o) ∧ (∀ ob u, o = .frz ob u → H' p = some o)) : Ob K H' x d := by
  obtain ⟨h, t⟩ := h
  cases t with
  | int q => cases h; exact ⟨.int _, .int q⟩
  | bl b => cases h; exact ⟨.bl _, .bl b⟩
  | non => cases h; exact ⟨.non, .non⟩
  | str q => cases h; exact ⟨.str _, .str q⟩
  | lst q l =>
    cases h with
    | lst s a =>
      obtain ⟨e, g⟩ := dp_strs (H' := H') a
      subst e
      refine ⟨.lst ?_ g, .lst q l⟩
      rcases s with (s | ⟨o, s⟩) | s
      · exact .inl (.inl ((f _ _ rfl s).1 _ rfl))
      · exact .inl (.inr ⟨o, (f _ _ rfl s).2.2 _ _ rfl⟩)
      · exact .inr s
  | tup q l =>
    cases h with
    | tup s a =>
      obtain ⟨e, g⟩ := dp_strs (H' := H') a
      subst e
      refine ⟨.tup ?_ g, .tup q l⟩
      rcases s with (s | ⟨o, s⟩) | s
      · exact .inl (.inl ((f _ _ rfl s).2.1 _ rfl))
      · exact .inl (.inr ⟨o, (f _ _ rfl s).2.2 _ _ rfl⟩)
      · exact .inr s
theorem Ob.keep {K : PySem.W.Frag} {H H' : Hp} {x : V} {d : PyData} (e : Same H H') (h : Ob K H x d) : Ob K H' x d :=
  h.move fun p o _ q => ⟨fun _ _ => e _ _ q, fun _ _ => e _ _ q, fun _ _ _ => e _ _ q⟩
theorem Ob.but {K : PySem.W.Frag} {H H' : Hp} {x : V} {d : PyData} {b : Addr} {n : Nat} (bag : Bag H b n) (e : But b H H') (h : Ob K H x d) : Ob K H' x d := by
  obtain ⟨c, i, k, m, z, ns, hb, _⟩ := bag
  refine h.move fun p o _ q => ?_
  by_cases pb : p = b
  · subst pb
    rw [hb] at q
    have q := Option.some.inj q
    subst q
    refine ⟨fun ts f => ?_, fun ts f => (by cases f), fun ob u f => (by cases f)⟩
    cases ts with
    | nil => simp at f
    | cons t ts => simp at f
  · exact ⟨fun _ _ => e _ _ pb q, fun _ _ => e _ _ pb q, fun _ _ _ => e _ _ pb q⟩
theorem tx_lay {t : Str} (h : Tx t) : PyData.leavesShort 13 (.str t) = true ∧ PyData.weight (.str t) ≤ 100 := by
  refine ⟨?_, h.len⟩
  show (t.cps.toList.all fun c => decide (c < 16 ^ 8)) = true
  rw [List.all_eq_true]
  intro c m
  have := h.asc c m
  exact decide_eq_true (by omega)
theorem strs_lay : ∀ {ts : List Str}, (∀ t ∈ ts, Tx t) → PyData.leavesShortAll 13 (ts.map .str) = true ∧ PyData.weightAll (ts.map .str) ≤ 101 * ts.length ∧ PyData.showableAll (ts.map .str) = true ∧ PyData.hasDictAll (ts.map .str) = false ∧ PyData.depthAll (ts.map .str) = 0 ∧ PyData.plainAll (ts.map .str) = true
  | [], _ => by simp [PyData.leavesShortAll, PyData.weightAll, PyData.showableAll, PyData.hasDictAll, PyData.depthAll, PyData.plainAll]
  | t :: ts, h => by
    have h1 := tx_lay (h t (by simp))
    have h2 := strs_lay (ts := ts) fun y m => h y (List.mem_cons_of_mem _ m)
    obtain ⟨a1, a2⟩ := h1
    obtain ⟨b1, b2, b3, b4, b5, b6⟩ := h2
    simp only [List.map_cons, PyData.leavesShortAll, PyData.weightAll, PyData.showableAll, PyData.hasDictAll, PyData.depthAll, PyData.plainAll, a1, b1, b3, b4, b5, b6, PyData.showable, PyData.hasDict, PyData.depth, PyData.plain, Bool.and_self, Bool.or_self, true_and, List.length_cons, and_true, Nat.max_self]
    omega
structure Shows (d : PyData) : Prop where
  sh : d.showable = true
  nd : d.hasDict = false
  dep : d.depth ≤ 60
  fit : d.shown.length ≤ sizeLine
theorem tg_shows {d : PyData} (t : Tg d) : Shows d := by
  cases t with
  | @int i h =>
    have hl : i.natAbs.log2 < 70 ∨ i = 0 := by
      by_cases z : i = 0
      · exact .inr z
      · exact .inl ((Nat.log2_lt (by omega)).mpr (by omega))
    refine ⟨decide_eq_true ?_, rfl, Nat.zero_le _, Nat.le_trans (by rw [show (PyData.int i).shown = Str.ofString (toString i) from rfl, ofString_length]; exact int_text_length_le10 (k := 21) (by decide) h) (by decide)⟩
    rcases hl with z | z
    · omega
    · subst z; decide
  | bl b => exact ⟨rfl, rfl, Nat.zero_le _, by cases b <;> decide +kernel⟩
  | non => exact ⟨rfl, rfl, Nat.zero_le _, by decide +kernel⟩
  | str h =>
    have q := tx_lay h
    exact ⟨rfl, rfl, Nat.zero_le _, PyData.shown_fits (B := 13) (by decide) (by decide) q.1 (Nat.le_trans q.2 (by decide))⟩
  | lst h l =>
    obtain ⟨b1, b2, b3, b4, b5, b6⟩ := strs_lay h
    exact ⟨b3, b4, by simp only [PyData.depth, b5]; decide, PyData.shown_fits (B := 13) (by decide) (by decide) b1 (Nat.le_trans b2 (by omega))⟩
  | tup h l =>
    obtain ⟨b1, b2, b3, b4, b5, b6⟩ := strs_lay h
    exact ⟨b3, b4, by simp only [PyData.depth, b5]; decide, PyData.shown_fits (B := 13) (by decide) (by decide) b1 (Nat.le_trans b2 (by omega))⟩
/-- a number's text -/
def IsN (x : V) : Prop := ∃ ds, Num ds ∧ x = .str (numS ds)
/-- what isinstance asks of a thing: a text, or no text -/
theorem tys_of {K : PySem.W.Frag} {H : Hp} {x : V} {d : PyData} (h : Ob K H x d) : ∃ (n : String) (b : Bool), TyX K H x (.type n) ∧ PySem.W.kitOne K (.type n) (.type "str") = some b ∧ (b = true → ∃ t, x = .str t ∧ d = .str t ∧ Tx t) ∧ (b = false → ¬ IsN x) := by
  obtain ⟨h, t⟩ := h
  cases t with
  | int _ => cases h; exact ⟨"int", false, .base (.int _), kit_ty (by decide +kernel), (fun z => by cases z), fun _ ⟨ds, _, e⟩ => by cases e⟩
  | bl b => cases h; exact ⟨"bool", false, .base (.bl _), kit_ty (by decide +kernel), (fun z => by cases z), fun _ ⟨ds, _, e⟩ => by cases e⟩
  | non => cases h; exact ⟨"NoneType", false, .base .non, kit_ty (by decide +kernel), (fun z => by cases z), fun _ ⟨ds, _, e⟩ => by cases e⟩
  | str q => cases h; exact ⟨"str", true, .base (.str _), kit_ty (by decide +kernel), fun _ => ⟨_, rfl, rfl, q⟩, fun z => by cases z⟩
  | lst _ _ =>
    cases h with
    | lst q a =>
      rcases q with (q | ⟨o, q⟩) | q
      · exact ⟨"list", false, .base (.lst q), kit_ty (by decide +kernel), (fun z => by cases z), fun _ ⟨ds, _, e⟩ => by cases e⟩
      · exact ⟨"list", false, .base (.frz q), kit_ty (by decide +kernel), (fun z => by cases z), fun _ ⟨ds, _, e⟩ => by cases e⟩
      · obtain ⟨o, xs, n, e, c, _⟩ := q
        exact ⟨"list", false, .kList e c, kit_ty (by decide +kernel), (fun z => by cases z), fun _ ⟨ds, _, e⟩ => by cases e⟩
  | tup _ _ =>
    cases h with
    | tup q a =>
      rcases q with (q | ⟨o, q⟩) | q
      · exact ⟨"tuple", false, .base (.tup q), kit_ty (by decide +kernel), (fun z => by cases z), fun _ ⟨ds, _, e⟩ => by cases e⟩
      · exact ⟨"tuple", false, .fTuple q, kit_ty (by decide +kernel), (fun z => by cases z), fun _ ⟨ds, _, e⟩ => by cases e⟩
      · obtain ⟨o, xs, n, e, c, _⟩ := q
        exact ⟨"tuple", false, .kTuple e c, kit_ty (by decide +kernel), (fun z => by cases z), fun _ ⟨ds, _, e⟩ => by cases e⟩
theorem ob_num {K : PySem.W.Frag} {H : Hp} {ds : List Nat} (N : Num ds) : Ob K H (.str (numS ds)) (.str (numS ds)) :=
  ⟨.str _, .str ⟨by rw [numS_len]; have := N.len; omega, fun c m => by
    have m : c ∈ codes ds := m
    obtain ⟨d, md, rfl⟩ := List.mem_map.mp m
    have := (N.dig d md).2
    omega⟩⟩
theorem isN_str {t : Str} : IsN (.str t) ↔ IsNum t := ⟨fun ⟨ds, N, e⟩ => ⟨ds, N, V.str.inj e⟩, fun ⟨ds, N, e⟩ => ⟨ds, N, by rw [e]⟩⟩
theorem fresh_but {b p : Addr} {H H' : Hp} {n : Nat} (bag : Bag H b n) (e : But b H H') (f : H' p = none) : H p = none := by
  cases q : H p with
  | none => rfl
  | some o =>
    by_cases pb : p = b
    · obtain ⟨c, x, k, m, z, ns, h, _⟩ := bag
      obtain ⟨x', k', m', z', g⟩ := e.cel c ⟨x, k, m, z, h⟩
      rw [pb, g] at f
      cases f
    · rw [e.keep p o pb q] at f
      cases f
end Wm

/-! sum of a tuple of ints. -/
namespace Hf
open PySem PySem.Spec PyProof.Rows L2
section
variable {prog : Program} {w : World} {A : Around} {E : Value → Shared → Prop} {s : Shared} {l : Addr} {its : List Value} {ns : List Int} {Q : Value → Shared → Prop}
theorem sum_rawT (hh : A.handled = none) (hl : s.heap.IsTuple l its.toArray) (hi : IntsAre its ns)
    (h : ∀ h' tk t', (∀ b o, s.heap.get? b = some o → h'.get? b = some o) → Q (.int ns.sum t') { s with heap := h', toks := tk }) : wpAny (model prog w) A (call (.builtin "sum") [.ref l]) Q E s := by
  obtain ⟨xs, e⟩ := hi.allInts.items
  have hn : numsOf (intItems xs).toList = ns := by rw [← e]; exact hi.numsOf
  rw [nums_intItems] at hn
  rw [e] at hl
  refine PySem.W.ktm_sumG hh hl fun h' tk t' hk => ?_
  have := h h' tk t' hk
  rw [preSum_eq, List.take_of_length_le (by simp), hn]; exact this
end
section
variable {X : Cx}
def rSumA (K : PySem.W.Frag) : List V → Hp → VK → Prop := fun vs H Q => ∃ (a : Addr) (ns : List Int), vs = [V.ref a] ∧ (SqL K H a (ns.map V.int) ∨ SqT K H a (ns.map V.int)) ∧ Q (.int ns.sum) H
theorem cr_sumA (hc : X.calm = true) : CallR X (.builtin "sum") (rSumA X.K) := by
  intro pins s σ H vs us Q I r h
  obtain ⟨a, ns, rfl, hs, q⟩ := h
  rcases hs with hs | hs
  · obtain ⟨its, rv, hl, _⟩ := I.list hs
    rw [Vals.ref1 r]
    exact sum_raw (I.ok.hd hc) hl.isList rv.ints fun h' tk t' hk => ⟨.int _, H, I.kept hk, ⟨_, rfl⟩, q⟩
  · obtain ⟨its, rv, hl, _⟩ := I.tuple hs
    rw [Vals.ref1 r]
    exact sum_rawT (I.ok.hd hc) (show s.heap.IsTuple a its.toArray from hl) rv.ints fun h' tk t' hk => ⟨.int _, H, I.kept hk, ⟨_, rfl⟩, q⟩
end
end Hf

/-! enumerate of a tuple, as a thing that a for walks. -/
namespace Es
open PySem PySem.Spec PyProof.Rows L2
theorem meets_ent (t : Addr) (its : Array Value) (m : Nat) (dd : Option Addr) (slo : Array (Option Value)) :
    Meets (Builtin.«enumerate.__new__» ⟨[.type "enumerate", .ref t], []⟩) (fun _ R s => s.heap.get? t = some { cls := .type "tuple", dict := dd, data := .seq its m, slots := slo } ∧
      R (.ok (.ret (.ref (s.heap.push { cls := .type "tuple_iterator", data := .fields #[.ref t, .int 0 0] }).objs.size))) { s with heap := (s.heap.push { cls := .type "tuple_iterator", data := .fields #[.ref t, .int 0 0] }).push { cls := .type "enumerate", data := .fields #[.none, .bool false, .ref s.heap.objs.size, rawInt 0, .none, .none] } }) :=
  .of_wp fun prog w A R s h => by
    obtain ⟨hp, gn, dr, tk, os⟩ := s
    obtain ⟨ht, h⟩ := h
    have hsub := sub_enumerate
    have hT : Heap.IsTuple (Shared.heap ⟨hp, gn, dr, tk, os⟩) t its := ⟨_, ht, rfl, m, rfl⟩
    wp_walk using AutoSeq1.wpAny_loadPart' ht
    refine wpAny_stack_any fun st => wpAny_pure ?_
    split
    · rename_i c _ _ _ _ _
      cases (c == Value.type "enumerate")
      · wp_walk using AutoSeq1.wpAny_loadPart' ht, wpAny_pyIter_tuple hT
        exact ⟨_, rfl, h⟩
      · wp_walk using AutoSeq1.wpAny_loadPart' ht, wpAny_pyIter_tuple hT
        exact ⟨_, rfl, h⟩
    · wp_walk using AutoSeq1.wpAny_loadPart' ht, wpAny_pyIter_tuple hT
      exact ⟨_, rfl, h⟩
section
variable {prog : Program} {w : World} {A : Around} {E : Value → Shared → Prop} {s : Shared}
theorem call_ent {t : Addr} {its : Array Value} {Q : Value → Shared → Prop} (ht : s.heap.IsTuple t its)
    (q : ∀ g, IsEnum g (s.heap.objs.size + 1) s.heap.objs.size 0 .none → g.IsTupleIter s.heap.objs.size t 0 → (∀ b o, s.heap.get? b = some o → g.get? b = some o) → Q (.ref (s.heap.objs.size + 1)) { s with heap := g }) :
    wpAny (model prog w) A (call (.type "enumerate") [.ref t]) Q E s := by
  obtain ⟨⟨tc, td, tdat, tsl⟩, h0, h1, m, h2⟩ := ht
  simp only at h1 h2
  subst h1 h2
  refine callType_new F.called_enumerate (by decide) (F.typeCall_enumerate_1 _) (F.newCall_enumerate_1 _) (fun ob => F.args_object_init_2 ob _) F.entry_enumerate_new (meets_ent t its m td tsl) ⟨h0, ?_⟩
  have hz : (s.heap.push { cls := .type "tuple_iterator", data := .fields #[.ref t, .int 0 0] }).objs.size = s.heap.objs.size + 1 := Heap.size_push ..
  have er : IsEnum ((s.heap.push { cls := .type "tuple_iterator", data := .fields #[.ref t, .int 0 0] }).push { cls := .type "enumerate", data := .fields #[.none, .bool false, .ref s.heap.objs.size, rawInt 0, .none, .none] }) (s.heap.objs.size + 1) s.heap.objs.size 0 .none := by
    rw [← hz]
    exact Heap.get?_push_size _ rfl
  show _ ∧ _
  rw [hz]
  exact ⟨⟨_, er, rfl⟩, q _ er ⟨_, Heap.get?_push_of_some _ (Heap.get?_push_size _ rfl), rfl, rfl⟩ fun b o x => Heap.get?_push_of_some _ (Heap.get?_push_of_some _ x)⟩
theorem tup_end {e it t : Addr} {i : Nat} {its : Array Value} {old : Value} {k : Int} {Q : Option Value → Shared → Prop} (hh : A.handled = none) (er : IsEnum s.heap e it k old) (ti : s.heap.IsTupleIter it t i) (ht : s.heap.IsTuple t its) (hx : its[i]? = none)
    (q : ∀ g, Heap.ExtBut it s.heap g → Q none { s with heap := g }) : wpAny (model prog w) A (pyNext (.ref e)) Q E s := by
  have te : s.TypeIs (.ref e) "enumerate" := ⟨_, er, rfl⟩
  unfold pyNext
  refine wpAny_bind (wpAny_attempt (wpAny_callSpecial?_slot (name := Str.ofString "__next__") te F.slot_enumerate_next (wpAny_call_entry F.slot_enumerate_next te F.entry_enumerate_next ?_ (F.args_enumerate_next_1 _))))
  show wpAny _ _ (field (.ref e) 2 >>= _) _ _ _
  refine wpAny_bind (wpAny_field er rfl (x := .ref it) rfl ?_)
  refine wpAny_bind (wpAny_nextOf_tuple_end (show A.in1.handled = none from hh) ti ht hx fun g x k1 ⟨o, k2, k3⟩ => ?_)
  refine wpAny_bind (wpAny_isInstance (T := "StopIteration") (b := true) ⟨o, k2, k3⟩ isSubtype_stop ?_)
  exact wpAny_pure (q _ k1)
end
def Iten (K : PySem.W.Frag) (a : Addr) : It :=
  ⟨fun i H => ∃ (xs : List V) (x : V), SqT K H a xs ∧ xs[i]? = some x, fun i H v H' => ∃ T x, v = .ref T ∧ H T = none ∧ H' = upd H T (.tup [.int (i : Nat), x]) ∧ ∀ xs, SqT K H a xs → xs[i]? = some x, fun i H => ∃ xs : List V, SqT K H a xs ∧ xs.length ≤ i⟩
theorem turn_ent {P : Program} {w : World} {K : PySem.W.Frag} {elts : List Expr} {kk : Nat} {tpos : Pos} (a e it : Addr) (nei : e ≠ it) (nea : e ≠ a) (nai : a ≠ it) :
    Turn P w K (.Tuple elts kk tpos) (Iten K a) [e, it] e (fun i h => (∃ old, IsEnum h e it ((i : Nat) : Int) old) ∧ h.IsTupleIter it a i) where
  mem := by simp
  obj := fun i h st b hb => by
    obtain ⟨⟨old, er⟩, o, ho, _, hd⟩ := st
    have hb' : b = e ∨ b = it := by simpa using hb
    rcases hb' with z | z
    · rw [z]
      exact ⟨_, er, fun v q => nomatch q⟩
    · rw [z]
      exact ⟨o, ho, fun v q => by rw [hd] at q; cases q⟩
  keep := fun i h g st k => by
    obtain ⟨⟨old, er⟩, ti⟩ := st
    exact ⟨⟨old, k e (by simp) _ er⟩, ti.at fun o q => k it (by simp) o q⟩
  item := by
    intro X hP hw hK hc i pins s σ H E I hf st hg
    subst hP hw hK
    obtain ⟨⟨old, er⟩, ti⟩ := st
    obtain ⟨xs, x, hq, hx⟩ := hg
    obtain ⟨its, rv, p, _⟩ := I.tuple hq
    obtain ⟨u, hu, ru⟩ := rv.get hx
    have el : e < s.heap.objs.size := Heap.lt_size er
    have il : it < s.heap.objs.size := by
      obtain ⟨_, q, _⟩ := id ti
      exact Heap.lt_size q
    have hlt : i < its.toArray.size := by
      have q := (List.getElem?_eq_some_iff.mp hu).1
      simpa using q
    have hd : X.A.in1.handled = none := I.ok.hd hc
    refine wpAny_pyNext_enum_itemD (Draws.tuple hd it a nai its.toArray) er ⟨ti, p⟩ hlt nei (by simp [nei, nea]) fun y g tk hy eo st2 hT hsz hk => ?_
    have ey : y = u := by
      rw [show its.toArray[i]? = some u by simpa using hu] at hy
      exact (Option.some.inj hy).symm
    subst ey
    refine ⟨_, rfl, wpAny_letOwnedTupleGo_enum (s := { s with heap := g, toks := tk + 1 }) eo fun g2 er2 sb => ?_⟩
    have hT2 : g2.get? s.heap.objs.size = some { cls := .type "tuple", data := .seq #[.int i tk, y] } := (sb.2 _ (Nat.ne_of_gt el)).trans hT
    have new : ObjOk X.prog X.w (upd H s.heap.objs.size (.tup [.int (i : Nat), x])) g2 s.heap.objs.size (.tup [.int (i : Nat), x]) := ⟨by show 2 ≤ sizeLine; decide, [.int i tk, y], .cons ⟨_, rfl⟩ (.cons ru .nil), ⟨_, hT2, rfl, _, rfl⟩⟩
    have I1 : Inv X pins σ (upd H s.heap.objs.size (.tup [.int (i : Nat), x])) { s with heap := g2, toks := tk + 1 } := I.turnedNew (ch := [e, it]) (fun b ob hb q => (sb.2 b (fun z => hb (by simp [z]))).trans (hk b ob (fun z => hb (by simp [z])) (fun z => hb (by simp [z])) q)) hf (Nat.le_refl _) new
    refine ⟨.ref s.heap.objs.size, _, I1, rfl, ⟨_, x, rfl, I.hok.fresh (Nat.le_refl _), rfl, fun ys hy => by rw [I.tuple_inj hy hq]; exact hx⟩, ⟨⟨y, ?_⟩, st2.1.at fun o q => (sb.2 it nei.symm).trans q⟩, fun b hb => ?_⟩
    · rw [show ((i + 1 : Nat) : Int) = (i : Int) + 1 by omega]
      exact er2
    · have lb : b < s.heap.objs.size := by
        have hb' : b = e ∨ b = it := by simpa using hb
        rcases hb' with z | z
        · rw [z]; exact el
        · rw [z]; exact il
      rw [upd_ne (Nat.ne_of_lt lb)]
      exact (hf b hb).1
  done := by
    intro X hP hw hK hc i pins s σ H E I hf st hg
    subst hP hw hK
    obtain ⟨⟨old, er⟩, ti⟩ := st
    obtain ⟨xs, hq, hx⟩ := hg
    obtain ⟨its, rv, p, _⟩ := I.tuple hq
    have hl := rv.length
    exact tup_end (I.ok.hd hc) er ti p (by simp; omega) fun g kg => ⟨rfl, I.turnedL (t' := s.toks) (ch := [e, it]) (fun b o hb q => kg b o (fun z => hb (by simp [z])) q) hf⟩
  self := fun A i s Q E st h => let ⟨⟨_, er⟩, _⟩ := st; wpAny_pyIter_enum er h
def iEnt (K : PySem.W.Frag) (ta : TA) : TI := fun σ H R => ta σ H fun vs H1 => ∃ a xs, vs = [.ref a] ∧ SqT K H1 a xs ∧ R (Iten K a) H1
theorem pi_ent {X : Cx} {e : Expr} {ta : TA} {p pos tpos : Pos} {elts : List Expr} {kk : Nat} (hg : Gl X "enumerate") (hm : X.mg "enumerate" = none) (ha : PA X [e] ta) (hs : starEach [e] X.env = [(false, eval e X.env)] := by rfl) :
    PI X (.Tuple elts kk tpos) (.Call (.Name "enumerate" p) [e] [] pos) (iEnt X.K ta) := by
  refine ⟨fun pins s σ H R I h => ?_⟩
  refine Call_ (ld_blt I hg hm boot_enumerate (PyProof.Rows.callWith_type1 (thn (ha.run pos pins s σ H _ I h) fun us s1 ⟨vs, H1, I1, r1, q1⟩ => ?_) hs rfl))
  obtain ⟨a, xs, ev, hq, q⟩ := q1
  subst ev
  cases r1 with
  | cons r rr =>
    cases rr
    cases r
    obtain ⟨its, rv, pt, _⟩ := I1.tuple hq
    obtain ⟨ot, hot, _⟩ := id pt
    have al : a < s1.heap.objs.size := Heap.lt_size hot
    refine call_ent (show s1.heap.IsTuple a its.toArray from pt) fun g er ti kg => wpAny_pyIter_enum er ?_
    have I2 : Inv X pins σ H1 { s1 with heap := g } := I1.kept (t' := s1.toks) kg
    refine ⟨s1.heap.objs.size + 1, [s1.heap.objs.size + 1, s1.heap.objs.size], _, _, H1, rfl, I2, turn_ent a (s1.heap.objs.size + 1) s1.heap.objs.size (Nat.succ_ne_self _) (Nat.ne_of_gt (Nat.lt_succ_of_lt al)) (Nat.ne_of_lt al), ⟨⟨.none, er⟩, ti⟩, fun b hb => ?_, q⟩
    have hb' : b = s1.heap.objs.size + 1 ∨ b = s1.heap.objs.size := by simpa using hb
    have le : s1.heap.objs.size ≤ b := by
      rcases hb' with z | z
      · rw [z]; exact Nat.le_add_right _ _
      · rw [z]; exact Nat.le_refl _
    exact I1.fpOk le (I1.hok.fresh le)
theorem walk_ent {K : PySem.W.Frag} {a : Addr} {xs : List V} : Walk (Iten K a) xs.length (fun H => SqT K H a xs) (YPair (fun i => some (.int (i : Nat))) (fun i => xs[i]?)) := by
  refine ⟨fun i _ hi q => ⟨xs, xs[i], q, by simp [hi]⟩, fun _ q => ⟨xs, q, Nat.le_refl _⟩, fun i H v H' _ q y => ?_⟩
  obtain ⟨T, x, y1, y2, y3, y4⟩ := y
  exact ⟨T, .int (i : Nat), x, y1, y2, y3, rfl, y4 xs q⟩
end Es

/-! xs.extend(t), t a tuple; comprehensions of two clauses by walks. -/
namespace Et
open PySem PySem.Spec PyProof.Rows L2
theorem ext_meets (l : Addr) (us : Array Value) (n : Nat) (b : Addr) (vs : Array Value) (m : Nat) (dd : Option Addr) (sl : Array (Option Value)) (h0 : ¬(!us.isEmpty && Builtin.List.listTooLong (us.size + vs.size)) = true) (h1 : us.size ≤ sizeLine) (h2 : us.size + vs.size ≤ sizeLine + 1) :
    Meets (Builtin.«list.extend» ⟨[.ref l, .ref b], []⟩) (fun _ R s => s.heap.get? l = some { cls := .type "list", dict := none, data := .seq us n, slots := #[] } ∧ s.heap.get? b = some { cls := .type "tuple", dict := dd, data := .seq vs m, slots := sl } ∧ R (.ok (.ret Value.none)) { s with heap := s.heap.update l (Obj.mapSeq fun x => x ++ vs), toks := s.toks }) :=
  .of_wp fun prog w A R s h => by
    obtain ⟨hp, g, d, tk, os⟩ := s
    obtain ⟨hl, hb, h⟩ := h
    have f1 := AutoSeq1.idx_int
    have f2 := AutoSeq1.sub_tuple_tuple
    have f3 := AutoSeq1.sub_list_list
    have f4 := AutoSeq1.sub_tuple_list
    have f5 := AutoSeq1.sub_list_tuple
    have hz' : (us ++ vs).size ≤ sizeLine + 1 := by
      rw [Array.size_append]
      exact h2
    wp_walk using (wpAny_updateSeq hl rfl (hz := h1) (_hz' := hz')), AutoSeq1.wpAny_loadPart' hl, AutoSeq1.wpAny_loadPart' hb
    exact ⟨_, rfl, h⟩
section
variable {X : Cx}
def rExtT (K : PySem.W.Frag) : V → List V → Hp → VK → Prop := fun x vs H Q => ∃ l b xs zs, x = .ref l ∧ vs = [.ref b] ∧ H l = some (.lst xs) ∧ SqT K H b zs ∧ xs.length + zs.length ≤ sizeLine ∧ Q .non (upd H l (.lst (xs ++ zs)))
theorem mt_extT : MtM X "list.extend" (rExtT X.K) := by
  intro pins s σ H x vs v us Q I rx rv h
  obtain ⟨l, b, xs, zs, rfl, rfl, hH, hB, hz, q⟩ := h
  cases rx
  obtain ⟨u, rfl, ru⟩ := rv.one
  cases ru
  obtain ⟨z, its, n, r, hl, e⟩ := I.lstM hH
  obtain ⟨its2, r2, p2, _⟩ := I.tuple hB
  obtain ⟨⟨c2, d2, a2, s2⟩, e2, k1, m, k2⟩ := p2
  simp only at k1 k2
  subst k1 k2
  have hl2 := r2.length
  have hsz : its.toArray.size + its2.toArray.size ≤ sizeLine := by
    rw [List.size_toArray, List.size_toArray]
    omega
  have hlong : ¬ (!its.toArray.isEmpty && Builtin.List.listTooLong (its.toArray.size + its2.toArray.size)) = true := by
    rw [notLongL hsz, Bool.and_false]
    exact Bool.false_ne_true
  refine call_meets F.slot_list_extend ⟨_, e, rfl⟩ F.entry_list_extend (F.args_list_extend_2 _ _) (ext_meets l its.toArray n b its2.toArray m d2 s2 hlong (by rw [List.size_toArray]; omega) (by omega)) ⟨e, e2, ?_⟩
  refine ⟨.non, _, I.lset (its' := its ++ its2) hH e (by simp) (r.append r2) ?_, rfl, q⟩
  rw [List.length_append]
  omega
end
/-- the outer clause of a comprehension of two -/
theorem out_it {J : It} {n : Nat} {G : Hp → Prop} {Y : Nat → Hp → V → Hp → Prop} (w : Walk J n G Y) {g : TG} {tt : TT} {B : (Hp → Prop) → L2.St → Hp → Prop} {vs : List Nat} {σ : L2.St} {H1 : Hp} {D : Addr} {Qd : Hp → Prop} (Pv : Nat → Hp → Prop) (h0 : Pv 0 (upd H1 D (.lst []))) (hG : ∀ i H, i ≤ n → Pv i H → G H)
    (hs : ∀ i x H H', i < n → Pv i H → Y i H x H' → g x (wipe σ vs) H' fun σ2 H2 => wipe σ2 vs = wipe σ vs ∧ tt σ2 H2 fun b H3 => if b = true then B (Pv (i + 1)) σ2 H3 else Pv (i + 1) H3) (hd : ∀ H, Pv n H → Qd H) :
    ∃ W : Nat → Nat → Hp → Prop, (∃ m, W 0 m (upd H1 D (.lst []))) ∧ ∀ i m H, W i m H →
      (J.stop i H ∧ Qd H) ∨ (J.go i H ∧ ∃ Nx : Hp → Prop, (∀ H', Nx H' → ∃ m', m' < m ∧ W (i + 1) m' H') ∧ ∀ x H', J.yld i H x H' → g x (wipe σ vs) H' fun σ2 H2 => wipe σ2 vs = wipe σ vs ∧ tt σ2 H2 fun b H3 => if b = true then B Nx σ2 H3 else Nx H3) := by
  refine ⟨fun i m H => m = n - i ∧ i ≤ n ∧ Pv i H, ⟨n, by simp, Nat.zero_le _, h0⟩, ?_⟩
  rintro i m H ⟨rfl, hi, p⟩
  have q := hG i H hi p
  by_cases lt : i < n
  · exact .inr ⟨w.goes i H lt q, Pv (i + 1), fun H' p' => ⟨n - (i + 1), by omega, rfl, lt, p'⟩, fun x H' y => hs i x H H' lt p (w.yields i H x H' lt q y)⟩
  · have e : i = n := by omega
    subst e
    exact .inl ⟨w.stops H q, hd H p⟩
/-- the inner clause -/
theorem in_it {J : It} {n : Nat} {G : Hp → Prop} {Y : Nat → Hp → V → Hp → Prop} (w : Walk J n G Y) {g : TG} {tt : TT} {te : TE} {vs : List Nat} {σ : L2.St} {H1 : Hp} {D : Addr} {Qd : Hp → Prop} (Pv : Nat → Hp → Prop) (h0 : Pv 0 H1) (hG : ∀ i H, i ≤ n → Pv i H → G H)
    (hs : ∀ i x H H', i < n → Pv i H → Y i H x H' → g x (wipe σ vs) H' fun σ2 H2 => wipe σ2 vs = wipe σ vs ∧ tt σ2 H2 fun b H3 =>
      if b = true then te σ2 H3 fun y H4 => ∃ acc, H4 D = some (.lst acc) ∧ acc.length < sizeLine ∧ Pv (i + 1) (upd H4 D (.lst (acc ++ [y]))) else Pv (i + 1) H3) (hd : ∀ H, Pv n H → Qd H) :
    ∃ W : Nat → Nat → Hp → Prop, (∃ m, W 0 m H1) ∧ ∀ i m H, W i m H →
      (J.stop i H ∧ Qd H) ∨ (J.go i H ∧ ∃ Nx : Hp → Prop, (∀ H', Nx H' → ∃ m', m' < m ∧ W (i + 1) m' H') ∧ ∀ x H', J.yld i H x H' → g x (wipe σ vs) H' fun σ2 H2 => wipe σ2 vs = wipe σ vs ∧ tt σ2 H2 fun b H3 =>
        if b = true then te σ2 H3 fun y H4 => ∃ acc, H4 D = some (.lst acc) ∧ acc.length < sizeLine ∧ Nx (upd H4 D (.lst (acc ++ [y]))) else Nx H3) := by
  refine ⟨fun i m H => m = n - i ∧ i ≤ n ∧ Pv i H, ⟨n, by simp, Nat.zero_le _, h0⟩, ?_⟩
  rintro i m H ⟨rfl, hi, p⟩
  have q := hG i H hi p
  by_cases lt : i < n
  · refine .inr ⟨w.goes i H lt q, Pv (i + 1), fun H' p' => ⟨n - (i + 1), by omega, rfl, lt, p'⟩, fun x H' y => hs i x H H' lt p (w.yields i H x H' lt q y)⟩
  · have e : i = n := by omega
    subst e
    exact .inl ⟨w.stops H q, hd H p⟩
end Et

/-! Data of ints, texts and tuples of such; what keeps them. -/
namespace Dv
open PySem L2 Wm
mutual
inductive Dt (K : PySem.W.Frag) (H : Hp) : V → PyData → Prop
  | int (i : Int) : Dt K H (.int i) (.int i)
  | str (x : Str) : Dt K H (.str x) (.str x)
  | tup {a : Addr} {xs : List V} {ds : List PyData} : SqT K H a xs → Dts K H xs ds → Dt K H (.ref a) (.tuple ds)
inductive Dts (K : PySem.W.Frag) (H : Hp) : List V → List PyData → Prop
  | nil : Dts K H [] []
  | cons {v : V} {vs : List V} {d : PyData} {ds : List PyData} : Dt K H v d → Dts K H vs ds → Dts K H (v :: vs) (d :: ds)
end
/-- tuples stand -/
def Kt (K : PySem.W.Frag) (H H' : Hp) : Prop := ∀ a xs, SqT K H a xs → SqT K H' a xs
section
variable {K : PySem.W.Frag} {H H' H2 : Hp}
theorem Kt.refl : Kt K H H := fun _ _ h => h
theorem Kt.trans (a : Kt K H H') (b : Kt K H' H2) : Kt K H H2 := fun p xs h => b p xs (a p xs h)
theorem Kt.same (s : Same H H') : Kt K H H' := fun _ _ h => sameT s h
/-- a store at what is no tuple -/
theorem Kt.set {p : Addr} {o u : HO} (h : H p = some u) (n1 : ∀ xs, u ≠ .tup xs) (n2 : ∀ ob xs, u ≠ .frz ob (.tup xs)) : Kt K H (upd H p o) := fun a xs q => by
  rcases q with (q | ⟨ob, q⟩) | q
  · exact .inl (.inl (by rw [upd_ne (fun e => by subst e; rw [h] at q; exact n1 _ (Option.some.inj q))]; exact q))
  · exact .inl (.inr ⟨ob, by rw [upd_ne (fun e => by subst e; rw [h] at q; exact n2 _ _ (Option.some.inj q))]; exact q⟩)
  · exact .inr q
theorem Kt.lst {p : Addr} {o : HO} {xs : List V} (h : H p = some (.lst xs)) : Kt K H (upd H p o) := Kt.set h (fun _ q => by cases q) (fun _ _ q => by cases q)
theorem Kt.new {p : Addr} {o : HO} (h : H p = none) : Kt K H (upd H p o) := Kt.same (same_new h)
mutual
theorem Dt.keep (k : Kt K H H') : ∀ (d : PyData) (v : V), Dt K H v d → Dt K H' v d
  | .int _, _, h => by cases h; exact .int _
  | .str _, _, h => by cases h; exact .str _
  | .tuple ds, _, h => by
    cases h with
    | tup a b => exact .tup (k _ _ a) (Dts.keep k ds _ b)
  | .none, _, h => by cases h
  | .bool _, _, h => by cases h
  | .list _, _, h => by cases h
  | .dict _, _, h => by cases h
theorem Dts.keep (k : Kt K H H') : ∀ (ds : List PyData) (vs : List V), Dts K H vs ds → Dts K H' vs ds
  | [], _, h => by cases h; exact .nil
  | d :: ds, _, h => by
    cases h with
    | cons a b => exact .cons (Dt.keep k d _ a) (Dts.keep k ds _ b)
end
mutual
theorem Dt.dp : ∀ (d : PyData) (v : V), Dt K H v d → Dp K H v d
  | .int _, _, h => by cases h; exact .int _
  | .str _, _, h => by cases h; exact .str _
  | .tuple ds, _, h => by
    cases h with
    | tup a b => exact .tup a (Dts.dp ds _ b)
  | .none, _, h => by cases h
  | .bool _, _, h => by cases h
  | .list _, _, h => by cases h
  | .dict _, _, h => by cases h
theorem Dts.dp : ∀ (ds : List PyData) (vs : List V), Dts K H vs ds → DpAll K H vs ds
  | [], _, h => by cases h; exact .nil
  | d :: ds, _, h => by
    cases h with
    | cons a b => exact .cons (Dt.dp d _ a) (Dts.dp ds _ b)
end
theorem Dt.k {d : PyData} {v : V} (h : Dt K H v d) (k : Kt K H H') : Dt K H' v d := Dt.keep k _ _ h
theorem Dts.k {ds : List PyData} {vs : List V} (h : Dts K H vs ds) (k : Kt K H H') : Dts K H' vs ds := Dts.keep k _ _ h
theorem Dt.toDp {d : PyData} {v : V} (h : Dt K H v d) : Dp K H v d := Dt.dp _ _ h
theorem Dts.toDp {ds : List PyData} {vs : List V} (h : Dts K H vs ds) : DpAll K H vs ds := Dts.dp _ _ h
theorem Dt.inv {ds : List PyData} {v : V} (h : Dt K H v (.tuple ds)) : ∃ p xs, v = .ref p ∧ SqT K H p xs ∧ Dts K H xs ds := by
  cases h with
  | tup a b => exact ⟨_, _, rfl, a, b⟩
theorem Dt.str_inv {x : Str} {v : V} (h : Dt K H v (.str x)) : v = .str x := by cases h; rfl
theorem Dt.int_inv {i : Int} {v : V} (h : Dt K H v (.int i)) : v = .int i := by cases h; rfl
theorem Dts.len {ds : List PyData} {vs : List V} (h : Dts K H vs ds) : vs.length = ds.length := by
  induction ds generalizing vs with
  | nil => cases h; rfl
  | cons d ds ih =>
    cases h with
    | cons a b => rw [List.length_cons, List.length_cons, ih b]
theorem Dts.at {i : Nat} {ds : List PyData} {vs : List V} {v : V} (h : Dts K H vs ds) (g : vs[i]? = some v) : ∃ d, ds[i]? = some d ∧ Dt K H v d := by
  induction ds generalizing vs i with
  | nil =>
    cases h
    simp at g
  | cons d ds ih =>
    cases h with
    | cons a b =>
      cases i with
      | zero =>
        simp at g
        subst g
        exact ⟨d, rfl, a⟩
      | succ i => exact ih b (by simpa using g)
theorem Dts.get {i : Nat} {ds : List PyData} {vs : List V} {d : PyData} (h : Dts K H vs ds) (g : ds[i]? = some d) : ∃ v, vs[i]? = some v ∧ Dt K H v d := by
  have li := (List.getElem?_eq_some_iff.mp g).1
  obtain ⟨v, e⟩ : ∃ v, vs[i]? = some v := ⟨_, List.getElem?_eq_getElem (by rw [h.len]; exact li)⟩
  obtain ⟨d2, e2, a⟩ := h.at e
  rw [g] at e2
  cases e2
  exact ⟨v, e, a⟩
theorem Dts.app {ds es : List PyData} {vs ws : List V} (h : Dts K H vs ds) (g : Dts K H ws es) : Dts K H (vs ++ ws) (ds ++ es) := by
  induction ds generalizing vs with
  | nil => cases h; exact g
  | cons d ds ih =>
    cases h with
    | cons a b => exact .cons a (ih b)
theorem Dts.snoc {ds : List PyData} {d : PyData} {vs : List V} {v : V} (h : Dts K H vs ds) (g : Dt K H v d) : Dts K H (vs ++ [v]) (ds ++ [d]) := h.app (.cons g .nil)
theorem Dts.take {ds : List PyData} {vs : List V} (h : Dts K H vs ds) : ∀ n, Dts K H (vs.take n) (ds.take n) := by
  induction ds generalizing vs with
  | nil => cases h; intro n; simp; exact .nil
  | cons d ds ih =>
    cases h with
    | cons a b =>
      intro n
      cases n with
      | zero => exact .nil
      | succ n => exact .cons a (ih b n)
theorem Dts.drop {ds : List PyData} {vs : List V} (h : Dts K H vs ds) : ∀ n, Dts K H (vs.drop n) (ds.drop n) := by
  induction ds generalizing vs with
  | nil => cases h; intro n; simp; exact .nil
  | cons d ds ih =>
    cases h with
    | cons a b =>
      intro n
      cases n with
      | zero => exact .cons a b
      | succ n => exact ih b n
theorem dts_str : ∀ ss : List Str, Dts K H (ss.map V.str) (ss.map PyData.str)
  | [] => .nil
  | s :: ss => .cons (.str s) (dts_str ss)
theorem dts_str_inv {ss : List Str} {vs : List V} (h : Dts K H vs (ss.map PyData.str)) : vs = ss.map V.str := by
  induction ss generalizing vs with
  | nil => cases h; rfl
  | cons s ss ih =>
    cases h with
    | cons a b => rw [a.str_inv, ih b]; rfl
theorem dts_int : ∀ ns : List Int, Dts K H (ns.map V.int) (ns.map PyData.int)
  | [] => .nil
  | s :: ss => .cons (.int s) (dts_int ss)
theorem dts_int_inv {ns : List Int} {vs : List V} (h : Dts K H vs (ns.map PyData.int)) : vs = ns.map V.int := by
  induction ns generalizing vs with
  | nil => cases h; rfl
  | cons s ss ih =>
    cases h with
    | cons a b => rw [a.int_inv, ih b]; rfl
theorem dt_tup {p : Addr} {xs : List V} {ds : List PyData} (h : H p = some (.tup xs)) (g : Dts K H xs ds) : Dt K H (.ref p) (.tuple ds) := .tup (SqT.of h) g
end
/-- data that == may be asked of: texts in the line, not deep -/
def Fine (n : Nat) (d : PyData) : Prop := d.canLay0 = true ∧ d.depth ≤ n
theorem fine_int {n : Nat} (i : Int) : Fine n (.int i) := ⟨by simp [PyData.canLay0], by simp [PyData.depth]⟩
theorem fine_tup {n : Nat} {ds : List PyData} (h : ∀ d ∈ ds, Fine n d) : Fine (n + 1) (.tuple ds) := by
  have q : PyData.canLayAll0 ds = true ∧ PyData.depthAll ds ≤ n := by
    induction ds with
    | nil => simp [PyData.canLayAll0, PyData.depthAll]
    | cons d ds ih =>
      have h1 := h d (by simp)
      have h2 := ih fun y m => h y (List.mem_cons_of_mem _ m)
      simp only [PyData.canLayAll0, PyData.depthAll, h1.1, h2.1, Bool.and_self, true_and]
      have := h1.2
      have := h2.2
      omega
  exact ⟨by simp only [PyData.canLay0]; exact q.1, by simp only [PyData.depth]; have := q.2; omega⟩
theorem fine_str {n : Nat} {x : Str} (h : x.cps.all (· < 0x110000) = true) : Fine n (.str x) := ⟨by simp only [PyData.canLay0]; exact h, by simp [PyData.depth]⟩
theorem fine_num {n : Nat} {ds : List Nat} (h : ∀ d ∈ ds, d ≤ 9) : Fine n (.str (numS ds)) := by
  refine fine_str ?_
  rw [← Array.all_toList, List.all_eq_true]
  intro c m
  obtain ⟨d, md, rfl⟩ := List.mem_map.mp (show c ∈ codes ds from m)
  have := h d md
  exact decide_eq_true (by omega)
theorem Fine.shaped {n : Nat} {d : PyData} (h : Fine n d) (l : n ≤ 64) : SeqAt.shaped d = true := by
  have e : decide (d.depth ≤ 64) = true := decide_eq_true (Nat.le_trans h.2 l)
  show (d.canLay0 && _) = true
  rw [e, Bool.and_true]
  exact h.1
theorem Fine.refl {n : Nat} {d : PyData} (h : Fine n d) : PyData.eqv d d = true := SeqAt.eqv_refl d h.1
theorem Fine.mono {n m : Nat} {d : PyData} (h : Fine n d) (l : n ≤ m) : Fine m d := ⟨h.1, Nat.le_trans h.2 l⟩
end Dv

/-! A list or a tuple, told by a letter; loops over it that may write elsewhere. -/
namespace Kd
open PySem PySem.Spec PyProof.Rows L2
/-- the list or (t) the tuple at a -/
def Is (K : PySem.W.Frag) (t : Bool) (H : Hp) (a : Addr) (xs : List V) : Prop := if t = true then SqT K H a xs else SqL K H a xs
theorem Is.keep {K : PySem.W.Frag} {t : Bool} {H H' : Hp} {a : Addr} {xs : List V} (s : Same H H') (h : Is K t H a xs) : Is K t H' a xs := by
  cases t
  · exact Hf.keepL s h
  · exact Hf.keepT s h
theorem Is.sq {K : PySem.W.Frag} {t : Bool} {H : Hp} {a : Addr} {xs : List V} (h : Is K t H a xs) : SqL K H a xs ∨ SqT K H a xs := by
  cases t
  · exact .inl h
  · exact .inr h
theorem Is.tup {K : PySem.W.Frag} {H : Hp} {a : Addr} {xs : List V} (h : SqT K H a xs) : Is K true H a xs := h
theorem Is.lst {K : PySem.W.Frag} {H : Hp} {a : Addr} {xs : List V} (h : SqL K H a xs) : Is K false H a xs := h
section
variable {X : Cx}
def iSeq (K : PySem.W.Frag) (tl : TE) : TI := fun σ H R => tl σ H fun x H1 => ∃ a xs t, x = .ref a ∧ Is K t H1 a xs ∧
  ∀ J G, Walk J xs.length G (YAt xs) → (∀ H', Is K t H' a xs → G H') → R J H1
theorem pi_seq {tg l : Expr} {tl : TE} (hl : PE X l tl) : PI X tg l (iSeq X.K tl) := by
  refine ⟨fun pins s σ H R I h => ?_⟩
  refine thn (hl.run pins s σ H _ I h) fun v s1 ⟨x, H1, I1, r1, q1⟩ => ?_
  obtain ⟨a, xs, t, e, hq, q⟩ := q1
  subst e
  cases r1
  cases t with
  | false =>
    have hq : SqL X.K H1 a xs := hq
    have q := q _ _ walk_list fun H' s => s
    obtain ⟨its, rv, p, hz⟩ := I1.list hq
    refine wpAny_pyIter_list p.isList ?_
    refine ⟨s1.heap.objs.size, [s1.heap.objs.size], _, _, H1, rfl, I1.kept (t' := s1.toks) fun b o e => Heap.get?_push_of_some _ e, turn_list a _, ⟨_, Heap.get?_push_size _ rfl, rfl, rfl⟩, fun b hb => ?_, q⟩
    have e : b = s1.heap.objs.size := by simpa using hb
    subst e
    exact I1.fpOk (Nat.le_refl _) (I1.hok.fresh (Nat.le_refl _))
  | true =>
    have hq : SqT X.K H1 a xs := hq
    have q := q _ _ walk_tup fun H' s => s
    obtain ⟨its, rv, p, hz⟩ := I1.tuple hq
    refine wpAny_pyIter_tuple (show s1.heap.IsTuple a its.toArray from p) ?_
    refine ⟨s1.heap.objs.size, [s1.heap.objs.size], _, _, H1, rfl, I1.kept (t' := s1.toks) fun b o e => Heap.get?_push_of_some _ e, turn_tuple a _, ⟨_, Heap.get?_push_size _ rfl, rfl, rfl⟩, fun b hb => ?_, q⟩
    have e : b = s1.heap.objs.size := by simpa using hb
    subst e
    exact I1.fpOk (Nat.le_refl _) (I1.hok.fresh (Nat.le_refl _))
end
end Kd

/-! Comprehensions whose items are told one by one. -/
namespace Lm
open PySem L2 Wm Dv
theorem list_is {α : Type} {ys zs : List α} (l : ys.length = zs.length) (h : ∀ (i : Nat) y, ys[i]? = some y → zs[i]? = some y) : ys = zs := by
  refine List.ext_getElem? fun i => ?_
  by_cases q : i < ys.length
  · rw [h i _ (List.getElem?_eq_getElem q), List.getElem?_eq_getElem q]
  · rw [List.getElem?_eq_none (by omega), List.getElem?_eq_none (by omega)]
theorem lc_map {K : PySem.W.Frag} {J : It} {n : Nat} {G : Hp → Prop} {xs : List V} (w : Walk J n G (YAt xs)) {g : TG} {te : TE} {vs : List Nat} {σ : L2.St} {H1 : Hp} {D : Addr} {Qd : Hp → Prop} (R : Nat → V → Hp → Prop)
    (mono : ∀ i y H H', R i y H → Kt K H H' → R i y H') (hD : H1 D = none) (hn : n ≤ 1000) (hG : ∀ H', Same H1 H' → G H')
    (hs : ∀ i x H', i < n → xs[i]? = some x → Same H1 H' → ∀ (Q : V → Hp → Prop) (Z : Hp → Prop), (∀ y H4, Same H' H4 → R i y H4 → Q y H4) → g x (wipe σ vs) H' fun σ2 H2 => wipe σ2 vs = wipe σ vs ∧ tYes σ2 H2 fun b H3 => if b = true then te σ2 H3 Q else Z H3)
    (hd : ∀ H ys, Same H1 H → H D = some (.lst ys) → ys.length = n → (∀ (i : Nat) y, ys[i]? = some y → R i y H) → Qd H) :
    ∃ W : Nat → Nat → Hp → Prop, (∃ m, W 0 m (upd H1 D (.lst []))) ∧ ∀ i m H, W i m H →
      (J.stop i H ∧ Qd H) ∨ (J.go i H ∧ ∃ Nx : Hp → Prop, (∀ H', Nx H' → ∃ m', m' < m ∧ W (i + 1) m' H') ∧ ∀ x H', J.yld i H x H' → g x (wipe σ vs) H' fun σ2 H2 => wipe σ2 vs = wipe σ vs ∧ tYes σ2 H2 fun b H3 =>
        if b = true then te σ2 H3 fun y H4 => ∃ acc, H4 D = some (.lst acc) ∧ acc.length < sizeLine ∧ Nx (upd H4 D (.lst (acc ++ [y]))) else Nx H3) := by
  refine lc_it (tt := tYes) w (fun i H => Same H1 H ∧ ∃ ys : List V, ys.length = i ∧ H D = some (.lst ys) ∧ ∀ j y, ys[j]? = some y → R j y H) ⟨same_new hD, [], rfl, upd_same, fun (j : Nat) (y : V) e => by simp at e⟩ (fun i H _ h => hG H h.1) (fun i x H H' hi hP hY => ?_) (fun H hP => ?_)
  · obtain ⟨sm, ys, el, hy, hR⟩ := hP
    obtain ⟨rfl, hx⟩ := hY
    refine hs i x H' hi hx sm _ _ (fun y H4 s4 r4 => ?_)
    · refine ⟨ys, s4 _ _ hy, by rw [el]; exact small1000 (by omega), same_mut (sm.trans s4) hD, ys ++ [y], by rw [List.length_append, el]; rfl, upd_same, fun j z hz => ?_⟩
      have k5 : Kt K H4 (upd H4 D (.lst (ys ++ [y]))) := Kt.lst (s4 _ _ hy)
      by_cases lj : j < ys.length
      · rw [List.getElem?_append_left lj] at hz
        exact mono _ _ _ _ (hR j z hz) ((Kt.same s4).trans k5)
      · rw [List.getElem?_append_right (by omega)] at hz
        have e0 : j - ys.length = 0 := by
          by_cases q : j - ys.length = 0
          · exact q
          · rw [List.getElem?_eq_none (by rw [List.length_singleton]; omega)] at hz
            cases hz
        rw [e0] at hz
        have ez : y = z := by simpa using hz
        have ej : j = i := by omega
        subst ez ej
        exact mono _ _ _ _ r4 k5
  · obtain ⟨sm, ys, el, hy, hR⟩ := hP
    exact hd H ys sm hy el hR
end Lm
namespace Kx
open PySem L2
def rLen (K : PySem.W.Frag) : List V → Hp → VK → Prop := fun xs H Q => ∃ p ys, xs = [.ref p] ∧ (SqL K H p ys ∨ SqT K H p ys) ∧ Q (.int (ys.length : Nat)) H
def rTup (K : PySem.W.Frag) : List V → Hp → VK → Prop := fun xs H Q => ∃ a ys, xs = [.ref a] ∧ SqT K H a ys ∧ Q (.ref a) H
def rTupOf (K : PySem.W.Frag) : List V → Hp → VK → Prop := fun xs H Q => ∃ p ys, xs = [.ref p] ∧ ((SqL K H p ys ∧ ∀ l, H l = none → Q (.ref l) (upd H l (.tup ys))) ∨ (SqT K H p ys ∧ Q (.ref p) H))
end Kx

/-! Comprehensions whose items draw from the bag, told one by one. -/
namespace Lm
open PySem L2 Wm Dv
theorem kt_but {K : PySem.W.Frag} {H H' : Hp} {b : Addr} {n : Nat} (bag : Bag H b n) (e : But b H H') : Kt K H H' := fun a xs q => by
  obtain ⟨c, x, k, m, z, ns, hb, _⟩ := bag
  have ne : ∀ {u : HO}, H a = some u → (∀ y, u ≠ .lst y) → H' a = some u := fun {u} h n => e.keep _ _ (fun z => by subst z; rw [hb] at h; exact n _ (Option.some.inj h).symm) h
  rcases q with (q | ⟨ob, q⟩) | q
  · exact .inl (.inl (ne q fun y z => by cases z))
  · exact .inl (.inr ⟨ob, ne q fun y z => by cases z⟩)
  · exact .inr q
theorem bag_off {H : Hp} {b p : Addr} {n : Nat} (bag : Bag H b n) (h : H p = none) : p ≠ b := fun e => by
  obtain ⟨_, _, _, _, _, _, hb, _⟩ := bag
  rw [e, hb] at h
  cases h
theorem lc_bag {K : PySem.W.Frag} {J : It} {n : Nat} {G : Hp → Prop} {xs : List V} (w : Walk J n G (YAt xs)) {g : TG} {te : TE} {vs : List Nat} {σ : L2.St} {H1 : Hp} {D : Addr} {Qd : Hp → Prop} {b : Addr} {m c : Nat} (R : Nat → V → Hp → Prop)
    (mono : ∀ i y H H', R i y H → Kt K H H' → R i y H') (hD : H1 D = none) (bag : Bag H1 b m) (hn : n ≤ 1000) (hG : ∀ H', But b H1 H' → G H')
    (hs : ∀ i x H', i < n → xs[i]? = some x → But b H1 H' → Bag H' b (m + c * i) → ∀ (Q : V → Hp → Prop) (Z : Hp → Prop), (∀ y H4, But b H' H4 → Bag H4 b (m + c * (i + 1)) → R i y H4 → Q y H4) → g x (wipe σ vs) H' fun σ2 H2 => wipe σ2 vs = wipe σ vs ∧ tYes σ2 H2 fun b H3 => if b = true then te σ2 H3 Q else Z H3)
    (hd : ∀ H ys, But b H1 H → Bag H b (m + c * n) → H D = some (.lst ys) → ys.length = n → (∀ (i : Nat) y, ys[i]? = some y → R i y H) → Qd H) :
    ∃ W : Nat → Nat → Hp → Prop, (∃ m, W 0 m (upd H1 D (.lst []))) ∧ ∀ i m H, W i m H →
      (J.stop i H ∧ Qd H) ∨ (J.go i H ∧ ∃ Nx : Hp → Prop, (∀ H', Nx H' → ∃ m', m' < m ∧ W (i + 1) m' H') ∧ ∀ x H', J.yld i H x H' → g x (wipe σ vs) H' fun σ2 H2 => wipe σ2 vs = wipe σ vs ∧ tYes σ2 H2 fun b H3 =>
        if b = true then te σ2 H3 fun y H4 => ∃ acc, H4 D = some (.lst acc) ∧ acc.length < sizeLine ∧ Nx (upd H4 D (.lst (acc ++ [y]))) else Nx H3) := by
  have db := bag_off bag hD
  refine lc_it (tt := tYes) w (fun i H => But b H1 H ∧ Bag H b (m + c * i) ∧ ∃ ys : List V, ys.length = i ∧ H D = some (.lst ys) ∧ ∀ j y, ys[j]? = some y → R j y H)
    ⟨But.of (same_new hD), (bag.keep (same_new hD)).mono (by omega), [], rfl, upd_same, fun (j : Nat) (y : V) e => by simp at e⟩ (fun i H _ h => hG H h.1) (fun i x H H' hi hP hY => ?_) (fun H hP => ?_)
  · obtain ⟨bt, bg, ys, el, hy, hR⟩ := hP
    obtain ⟨rfl, hx⟩ := hY
    refine hs i x H' hi hx bt bg _ _ (fun y H4 b4 g4 r4 => ?_)
    have hy4 := b4.keep _ _ db hy
    have k5 : Kt K H4 (upd H4 D (.lst (ys ++ [y]))) := Kt.lst hy4
    refine ⟨ys, hy4, by rw [el]; exact small1000 (by omega), (bt.trans b4).put hD, Bag.put bag hD (bt.trans b4) g4, ys ++ [y], by rw [List.length_append, el]; rfl, upd_same, fun j z hz => ?_⟩
    by_cases lj : j < ys.length
    · rw [List.getElem?_append_left lj] at hz
      exact mono _ _ _ _ (hR j z hz) ((kt_but bg b4).trans k5)
    · rw [List.getElem?_append_right (by omega)] at hz
      have e0 : j - ys.length = 0 := by
        by_cases q : j - ys.length = 0
        · exact q
        · rw [List.getElem?_eq_none (by rw [List.length_singleton]; omega)] at hz
          cases hz
      rw [e0] at hz
      have ez : y = z := by simpa using hz
      have ej : j = i := by omega
      subst ez ej
      exact mono _ _ _ _ r4 k5
  · obtain ⟨bt, bg, ys, el, hy, hR⟩ := hP
    exact hd H ys bt bg hy el hR
end Lm

/-! A method with keywords alone; a def that may raise, where it does not. -/
namespace Mk1
open PySem PySem.Spec PyProof.Rows L2
theorem passF {X : Cx} : Passes (L2.CX X.prog X.w) X (fun _ _ _ => False) := by
  intro pins σ H s e s' I h
  obtain ⟨_, _, _, _, _, _, _, _, _, _, _, _, z⟩ := h
  exact z.elim
section
variable {X : Cx} {CX : CXT} {k : Nat} {f C : Addr} {fd : FuncData} {ps ks : List Str} {sp : Sp} {E : XK} {m : Str} {pos apos : Pos} {o : Expr} {kws : List Keyword} {ta : TE} {tk : TA} {g : List Value → List Value → List Value} {gV : List V → List V → List V} {pl : Sem Bool}
def tMethN (C : Addr) (m : Str) (n : Nat) (sp : Sp) (gV : List V → List V → List V) (E : XK) (ta : TE) (tk : TA) : TE := fun σ H Q => ta σ H fun x H1 => ∃ a dx fs, x = .ref a ∧ H1 a = some (.ins C dx fs) ∧ fs.lookup m = none ∧
  tk σ H1 fun zs H2 => zs.length = n ∧ sp (gV [x] zs) H2 Q E
theorem pe_methN (ho : PE X o ta) (c : Cls X.K C) (hm : Meth X.K C m f) (F : FnOk X.prog X.w X.K X.mg X.base CX k f fd ps sp) (hr : Room k X.A) (hb : KBn X.K fd ps 1 ks g gV) (hx : Passes CX X E) (hk : PK X kws tk)
    (h1 : (backToKw pos (keywordEach kws X.env)).all (·.1.isSome) = true := by rfl) (h2 : (backToKw pos (keywordEach kws X.env)).filterMap (·.1) = ks := by rfl)
    (h3 : ((backTo pos (starEach [] X.env)).any (·.1) || (backToKw pos (keywordEach kws X.env)).any (·.1.isNone)) = false := by rfl)
    (h4 : eval (.Call (.Attribute o m apos) [] kws pos) X.env = (do
      let v ← eval o X.env
      standAt apos.atName
      let (a, b) ← holding [v] (getMethod v m pl)
      callWith pos a b (backTo pos (starEach [] X.env)) (backToKw pos (keywordEach kws X.env))) := by rfl) :
    PE X (.Call (.Attribute o m apos) [] kws pos) (tMethN C m ks.length sp gV E ta tk) := by
  constructor
  intro pins s σ H Q I h
  refine PySem.W.methodCall_KW (pl := pl) (thn (ho.run pins s σ H _ I h) fun u s1 w => ?_) h4
  obtain ⟨x, H1, I1, rx, a, dx, fs, ex, ea, l, q⟩ := w
  subst ex
  cases (show u = Value.ref a from rx)
  refine getmeth_ok I1 ea c hm l ?_
  refine PySem.W.callWith_KW0 (first := [.ref a]) (h₀ := X.base) I.ok.mod.kin hm.kp h1 (thn (hk.run pos pins s1 σ H1 _ I1 q) fun ws s2 w2 => ?_) h3
  obtain ⟨zs, H2, I2, rz, l2, q2⟩ := w2
  refine ⟨I2.kIn, ?_⟩
  rw [h2]
  exact run_fnN (us := [.ref a]) (vs := [.ref a]) F hr hb hx I2 (.cons rfl .nil) rz rfl l2 q2
end
end Mk1

/-! Operators of own classes, by values: ==, <, .. by __eq__, __lt__, ..; |, &, - by __or__, ..; in by __contains__; len by __len__. -/
namespace Ow
open PySem PySem.Spec PyProof.Rows L2
section
variable {X : Cx} {CX : CXT} {C g : Addr} {n : Nat} {sp : Sp} {E : XK}
theorem ins_at {pins : List (Addr × Obj)} {σ : L2.St} {H : Hp} {s : Shared} {a C dx : Addr} {fs : List (Str × V)} (I : Inv X pins σ H s) (e : H a = some (.ins C dx fs)) : ∃ ox od, PySem.W.InstAt s.heap a ox C od := by
  obtain ⟨mA, O, _⟩ := ins_get I.hok e
  obtain ⟨od, J, _⟩ := O.look
  exact ⟨_, _, J⟩
/-- x op y by the own def of x's class at C; y's class not below C -/
def rCmp (K : PySem.W.Frag) (C : Addr) (sp : Sp) (E : XK) : R2 := fun x y H Q => ∃ a dx fs t, x = .ref a ∧ H a = some (.ins C dx fs) ∧ TyX K H y t ∧ PySem.W.notFirst K C t = true ∧ sp [x, y] H Q E
theorem op_cmp {op : CmpOp} (hop : ∀ a b, compareOp op a b = richCompare op a b) (hs : PySem.W.findIn X.K (.ref C) (cmpInfo op).2.1 = some (some (.ref g))) (hf : PySem.W.isFn X.K (.ref g) = true) (F : FnR X.prog X.w X.K X.mg X.base CX n g sp)
    (hr : Room n X.A) (hx : Passes CX X E) : OpR X (compareOp op) (rCmp X.K C sp E) := by
  intro pins s σ H x y v u Q I rx ry h
  obtain ⟨a, dx, fs, t, rfl, ha, ty, hn, q⟩ := h
  cases (show v = Value.ref a from rx)
  obtain ⟨ox, od, J⟩ := ins_at I ha
  obtain ⟨P, k, hp, _⟩ := kit_of I ry ty
  obtain ⟨m, hF⟩ := I.fr
  rw [hop]
  refine PySem.W.cmp_K (op := op) (tb := t) hr.units0 hF I.ok.mod.kin J (k.ty _ _ I.kIn hp) hn hs hf ?_
  refine wpAny_mono (wpAny_call (run_fnR (us := [.ref a, u]) (vs := [.ref a, y]) F hr hx I (.cons rfl (.cons ry .nil)) q)) (fun w s' z => ?_) fun _ _ x => x
  obtain ⟨z', H', I', rz, qz⟩ := z
  exact SlX.cmpback rz ⟨z', H', I', rz, qz⟩
/-- x op y, both of the class at C -/
def rBin (C : Addr) (sp : Sp) (E : XK) : R2 := fun x y H Q => ∃ a dx fs b dy gs, x = .ref a ∧ y = .ref b ∧ H a = some (.ins C dx fs) ∧ H b = some (.ins C dy gs) ∧ sp [x, y] H Q E
theorem op_bin {op : Operator} (hc : PySem.W.selfFirst X.K C = true) (hs : PySem.W.findIn X.K (.ref C) (PySem.dunder op.info.2) = some (some (.ref g))) (hf : PySem.W.isFn X.K (.ref g) = true) (F : FnR X.prog X.w X.K X.mg X.base CX n g sp)
    (hr : Room n X.A) (hx : Passes CX X E) : OpR X (binaryOp op) (rBin C sp E) := by
  intro pins s σ H x y v u Q I rx ry h
  obtain ⟨a, dx, fs, b, dy, gs, rfl, rfl, ha, hb, q⟩ := h
  cases (show v = Value.ref a from rx)
  cases (show u = Value.ref b from ry)
  obtain ⟨ox, od, J⟩ := ins_at I ha
  obtain ⟨oy, oe, J'⟩ := ins_at I hb
  obtain ⟨m, hF⟩ := I.fr
  refine PySem.W.binop_K (op := op) hF I.ok.mod.kin J J'.type hc hs hf ?_
  refine wpAny_mono (wpAny_call (run_fnR (us := [.ref a, .ref b]) (vs := [.ref a, .ref b]) F hr hx I (.cons rfl (.cons rfl .nil)) q)) (fun w s' z => ?_) fun _ _ x => x
  obtain ⟨z', H', I', rz, qz⟩ := z
  exact SlX.cmpback rz ⟨z', H', I', rz, qz⟩
/-- y in x, by __contains__ (its answer a bool) -/
def rIn (C : Addr) (sp : Sp) (E : XK) (neg : Bool) : R2 := fun y x H Q => ∃ a dx fs, x = .ref a ∧ H a = some (.ins C dx fs) ∧ sp [x, y] H (fun z H' => ∃ c, z = .bl c ∧ Q (.bl (if neg then !c else c)) H') E
theorem op_in (hs : PySem.W.findIn X.K (.ref C) "__contains__" = some (some (.ref g))) (hf : PySem.W.isFn X.K (.ref g) = true) (F : FnR X.prog X.w X.K X.mg X.base CX n g sp)
    (hr : Room n X.A) (hx : Passes CX X E) : OpR X (compareOp .In) (rIn C sp E false) := by
  intro pins s σ H y x u v Q I ry rx h
  obtain ⟨a, dx, fs, rfl, ha, q⟩ := h
  cases (show v = Value.ref a from rx)
  obtain ⟨ox, od, J⟩ := ins_at I ha
  obtain ⟨m, hF⟩ := I.fr
  refine PySem.W.in_K hF I.ok.mod.kin J hs hf ?_
  refine wpAny_mono (wpAny_call (run_fnR (us := [.ref a, u]) (vs := [.ref a, y]) F hr hx I (.cons rfl (.cons ry .nil)) q)) (fun w s' z => ?_) fun _ _ x => x
  obtain ⟨z', H', I', rz, c, rfl, qz⟩ := z
  cases (show w = Value.bool c from rz)
  exact wpAny_truthy_bool ⟨.bl c, H', I', rfl, qz⟩
theorem op_notIn (hs : PySem.W.findIn X.K (.ref C) "__contains__" = some (some (.ref g))) (hf : PySem.W.isFn X.K (.ref g) = true) (F : FnR X.prog X.w X.K X.mg X.base CX n g sp)
    (hr : Room n X.A) (hx : Passes CX X E) : OpR X (compareOp .NotIn) (rIn C sp E true) := by
  intro pins s σ H y x u v Q I ry rx h
  obtain ⟨a, dx, fs, rfl, ha, q⟩ := h
  cases (show v = Value.ref a from rx)
  obtain ⟨ox, od, J⟩ := ins_at I ha
  obtain ⟨m, hF⟩ := I.fr
  refine PySem.W.notIn_K hF I.ok.mod.kin J hs hf ?_
  refine wpAny_mono (wpAny_call (run_fnR (us := [.ref a, u]) (vs := [.ref a, y]) F hr hx I (.cons rfl (.cons ry .nil)) q)) (fun w s' z => ?_) fun _ _ x => x
  obtain ⟨z', H', I', rz, c, rfl, qz⟩ := z
  cases (show w = Value.bool c from rz)
  exact wpAny_truthy_bool ⟨.bl (!c), H', I', rfl, qz⟩
/-- len(x), by __len__ -/
def rLen (C : Addr) (sp : Sp) (E : XK) : List V → Hp → VK → Prop := fun xs H Q => ∃ a dx fs, xs = [V.ref a] ∧ H a = some (.ins C dx fs) ∧ sp [.ref a] H (fun z H' => ∃ i : Int, z = .int i ∧ 0 ≤ i ∧ i < 2 ^ 63 ∧ Q (.int i) H') E
theorem call_len (hs : PySem.W.findIn X.K (.ref C) "__len__" = some (some (.ref g))) (hf : PySem.W.isFn X.K (.ref g) = true) (F : FnR X.prog X.w X.K X.mg X.base CX n g sp)
    (hr : Room (n + 1) X.A) (hx : Passes CX X E) : CallR X (.builtin "len") (rLen C sp E) := by
  intro pins s σ H xs us Q I r h
  obtain ⟨a, dx, fs, rfl, ha, q⟩ := h
  obtain ⟨u, rfl, ru⟩ := r.one
  cases (show u = Value.ref a from ru)
  obtain ⟨ox, od, J⟩ := ins_at I ha
  obtain ⟨m, hF⟩ := I.fr
  refine PySem.W.len_K hF I.ok.mod.kin J hs hf (wpAny_mono (wpAny_call (SlX.run_at (us := [.ref a]) (ws := [.ref a]) F hr.in1 I.env0.in1 hx I (.cons rfl .nil) q)) (fun w s' z => ?_) fun _ _ x => x)
  obtain ⟨z', H', I', rz, i, rfl, h0, h1, qz⟩ := z
  obtain ⟨t, e⟩ := (show ∃ t, w = Value.int i t from rz)
  cases e
  exact ⟨⟨h0, h1⟩, .int i, H', I'.tok _, ⟨_, rfl⟩, qz⟩
end
end Ow

/-! set(xs) of a list or a tuple of ints, as a set object. -/
namespace Si
open PySem PySem.Spec PyProof.Rows
section
variable {prog : Program} {w : World} {A : Around} {E : Value → Shared → Prop} {s : Shared}
theorem code_led1 (a : Value) {Q₁ : Value → Shared → Prop}
    (h : Q₁ (.ref s.heap.objs.size) { s with heap := s.heap.push { cls := .type "set", dict := none, data := .set #[] 0 (.fresh 0 0 (!w.params.followText "set-order")) } }) :
    codeAny (model prog w) A (.call (.builtin "set.__new__") ⟨[.type "set", a], []⟩) (wants Q₁ E) s := by
  refine codeAny_of_tree ?_
  show wpAny _ A.in1 (do checkBuiltinCall "set.__new__" ⟨[.type "set", a], []⟩; again (.builtin "set.__new__" ⟨[.type "set", a], []⟩)) _ _ s
  refine wpAny_bind (wpAny_of_eq (F.newCall_set_1 a) (wpAny_pure ⟨plainId_quiet F.plain_set_new _, codeAny_builtin F.entry_set_new ?_⟩))
  rw [Around.under_plainId F.plain_set_new _]
  unfold Builtin.«set.__new__» Builtin.Frozenset.newClass
  have hsub := sub_set_self
  obtain ⟨hp, g, d, tk, os⟩ := s
  dsimp only
  wp_walk
  refine wpAny_askSetting (wpAny_pure ?_)
  dsimp only
  simp only [newObj]
  refine wpAny_bind (wpAny_alloc (wpAny_pure ?_))
  exact wpAny_pure h
theorem ints_len : ∀ {vs : List Value} {xs : List Int}, IntsAre vs xs → vs.length = xs.length
  | _, _, .nil => rfl
  | _, _, .cons _ _ h => by rw [List.length_cons, List.length_cons, ints_len h]
theorem ints_at : ∀ {vs : List Value} {xs : List Int}, IntsAre vs xs → ∀ (i : Nat) v, vs[i]? = some v → ∃ x t, xs[i]? = some x ∧ v = .int x t
  | _, _, .nil, i, v, e => by simp at e
  | _, _, .cons x t h, 0, v, e => ⟨x, t, rfl, by simpa using e.symm⟩
  | _, _, .cons _ _ h, i + 1, v, e => by
    obtain ⟨x, t, e1, e2⟩ := ints_at h i v (by simpa using e)
    exact ⟨x, t, by simpa using e1, e2⟩
abbrev so (led : Bool) : Obj := { cls := .type "set", dict := none, data := .set #[] 0 (.fresh 0 0 led) }
theorem fill {R : Result → Shared → Prop} {I : Addr} {fp wr : List Addr} {G : Array GenState → Array GenState → Prop} {n : Nat} {P : Nat → Value → Prop} {St : Nat → Shared → Prop}
    (W : WalksS prog w A.in1 I fp wr G n P St) (S : Addr) (hSf : S ∉ fp) (xs : List Int) (hsz : xs.length = n) (hb : n + 1 < scanBound) (hval : ∀ i v, P i v → ∃ x t, xs[i]? = some x ∧ v = .int x t) :
    ∀ (k i : Nat) (s : Shared), n - i = k → i ≤ n → St i s → (∃ c, c ≤ i ∧ L2.SetR w s.heap S (fun y => decide (y ∈ xs.take i)) c) →
      (∀ s' c, Moved (S :: wr) G s s' → c ≤ n → L2.SetR w s'.heap S (fun y => decide (y ∈ xs.take n)) c → R (.ok (.ret .none)) s') →
      codeAny (model prog w) A (.builtin "set.update.loop" ⟨[.ref S, .ref I], []⟩) R s := by
  have nw : S ∉ wr := fun h => hSf (W.sub _ h)
  have more : ∀ b ∈ wr, b ∈ S :: wr := fun b hb => List.mem_cons_of_mem _ hb
  intro k
  induction k with
  | zero =>
    intro i s hk hi st ⟨c, hc, hS⟩ hR
    have e : i = n := by omega
    subst e
    refine codeAny_builtin PyProof.Rows.F.entry_set_update_loop ?_
    rw [Around.under_plainId PyProof.Rows.F.plain_set_update_loop _]
    show wpAny _ A.in1 (pyNext (.ref I) >>= _) _ _ s
    refine wpAny_bind (W.done s _ _ st fun s' hm => ?_)
    show wpAny _ A.in1 (ret Value.none) _ _ s'
    exact wpAny_pure (hR s' c (hm.mono more) hc (L2.SetR.at hS fun o e => hm.heap S o nw e))
  | succ k ih =>
    intro i s hk hi st ⟨c, hc, hS⟩ hR
    have lt : i < n := by omega
    refine codeAny_builtin PyProof.Rows.F.entry_set_update_loop ?_
    rw [Around.under_plainId PyProof.Rows.F.plain_set_update_loop _]
    show wpAny _ A.in1 (pyNext (.ref I) >>= _) _ _ s
    refine wpAny_bind (W.item i s _ _ lt st fun v s' hP st' hm => ?_)
    obtain ⟨x, t, hx, rfl⟩ := hval i v hP
    have hS1 := L2.SetR.at (h' := s'.heap) hS fun o e => hm.heap S o nw e
    show wpAny _ A.in1 (holding [Value.int x t] (setAdd S (.int x t)) >>= _) _ _ s'
    refine wpAny_bind (wpAny_holding ?_)
    unfold setAdd
    refine wpAny_holding ?_
    refine wpAny_bind ((PySem.intKind prog w).pyHash (k := x) (intKind_is _ _ _ _) ?_)
    refine L2.setR_add_hashed (s := { s' with toks := s'.toks + 1 }) hS1 (by omega) fun g same hS2 => ?_
    have hS3 := L2.SetR.congr (S' := fun y => decide (y ∈ xs.take (i + 1))) hS2 (fun y => by
      rw [List.take_add_one, hx]
      simp [List.mem_append])
    refine wpAny_pure ⟨plainId_quiet PyProof.Rows.F.plain_set_update_loop _, ih (i + 1) _ (by omega) lt (W.frame _ s' _ _ st' (Nat.le_succ _) fun b hb o e => ?_) ⟨_, (by split <;> omega), hS3⟩ fun s2 c2 m2 hc2 hS4 => ?_⟩
    · rw [same.2 b (fun h : b = S => hSf (by rw [← h]; exact hb))]
      exact e
    · refine hR s2 c2 (Moved.trans W.gtrans ((hm.mono more).then_heap (Nat.le_succ _) fun b o hb e => ?_) m2) hc2 hS4
      rw [same.2 b (fun h : b = S => hb (by rw [h]; exact List.mem_cons_self))]
      exact e
set_option maxHeartbeats 3200000 in
theorem set_ints {l : Addr} {its : Array Value} {xs : List Int} {Q : Value → Shared → Prop} (hh : A.handled = none) (hl : s.heap.IsList l its) (hi : PyProof.Rows.IntsAre its.toList xs) (hb : xs.length + 1 < scanBound)
    (q : ∀ (g : Heap) (tk c : Nat), c ≤ xs.length → L2.SetR w g s.heap.objs.size (fun y => decide (y ∈ xs)) c → (∀ b o, b < s.heap.objs.size → s.heap.get? b = some o → g.get? b = some o) → Q (.ref s.heap.objs.size) { s with heap := g, toks := tk }) :
    wpAny (model prog w) A (call (.type "set") [.ref l]) Q E s := by
  obtain ⟨c0, tl0, m0⟩ := PySem.F.called_set.mro
  have a1 := PySem.F.called_set.made
  have a2 := PySem.F.called_set.sub
  refine wpAny_call (codeAny_of_tree ?_)
  show wpAny _ _ (callAny (.type "set") _) _ _ _
  refine wpAny_pure ⟨Code.quiet_builtin _ (by decide +kernel), codeAny_builtin PySem.F.entry_type_call ?_⟩
  rw [Around.under_plain (weight_type_call_type "set" [.ref l] []) rfl]
  have a3 := PySem.F.called_set.notType
  have a4 := PySem.F.called_set.canCreate
  have a5 := PySem.F.typeCall_set_1 (.ref l)
  repeat (any_goals (first | assumption | wp_step))
  refine codeAny_mono (code_led1 (.ref l) (E := E) (Q₁ := fun ob s₁ => ob = .ref s.heap.objs.size ∧ s₁ = { s with heap := s.heap.push { cls := .type "set", dict := none, data := .set #[] 0 (.fresh 0 0 (!w.params.followText "set-order")) } }) ⟨rfl, rfl⟩) fun r s₁ hr => ?_
  cases r with
  | error e => exact hr
  | ok fl =>
    cases fl with
    | ret ob =>
      obtain ⟨rfl, rfl⟩ := hr
      generalize hso : ({ cls := .type "set", dict := none, data := .set #[] 0 (.fresh 0 0 (!w.params.followText "set-order")) } : Obj) = so
      have hfr : so.isFreed = false := by rw [← hso]; rfl
      have b1 : (s.heap.push so).get? s.heap.objs.size = some so := Heap.get?_push_size _ hfr
      have b2 : Shared.TypeIs { s with heap := s.heap.push so } (.ref s.heap.objs.size) "set" := ⟨_, b1, by rw [← hso]⟩
      have b3 := PySem.F.called_set.init.lookup
      have b4 := PySem.F.called_set.init.bind (.ref s.heap.objs.size)
      repeat (any_goals (first | assumption | wp_step))
      refine codeAny_mono (codeAny_call_builtin (R := wants (fun r s₂ => r = .none ∧ ∃ g tk c, s₂ = { s with heap := g, toks := tk } ∧ c ≤ xs.length ∧ L2.SetR w g s.heap.objs.size (fun y => decide (y ∈ xs)) c ∧
          (∀ b o, b < s.heap.objs.size → s.heap.get? b = some o → g.get? b = some o)) E) PySem.F.called_set.init.plain PySem.F.entry_set_init (check_set_init_1 b2 ?_)) fun r₂ s₂ hr₂ => ?_
      · obtain ⟨ol, hol, hcl, nl, hdl⟩ := hl
        obtain ⟨ocls, odict, odata, oslots⟩ := ol
        simp only at hcl hdl
        subst hcl hdl
        have hol' : (s.heap.push so).get? l = some { cls := .type "list", dict := odict, data := .seq its nl, slots := oslots } := Heap.get?_push_of_some _ hol
        have c1 := PySem.F.sub_list_set
        have c2 := PySem.F.sub_list_frozenset
        have c3 : (Value.type "list" == Value.type "dict") = false := by decide
        have hl1 : (s.heap.push so).IsList l its := ⟨_, hol', rfl, nl, rfl⟩
        unfold Builtin.«set.__init__» noKeywords Builtin.Frozenset.updateFrom
        generalize hPI : pyIter = PI
        have ll : l < s.heap.objs.size := Heap.lt_size hol
        have nI : ∀ ob : Obj, l ≠ (s.heap.push ob).objs.size := fun ob => by
          rw [Heap.size_push]
          exact Nat.ne_of_lt (Nat.lt_succ_of_lt ll)
        have nS : ∀ ob : Obj, s.heap.objs.size ∉ [(s.heap.push ob).objs.size, l] := fun ob => by
          rw [Heap.size_push]
          simp only [List.mem_cons, List.mem_singleton, List.not_mem_nil, or_false, not_or]
          exact ⟨Nat.ne_of_lt (Nat.lt_succ_self _), Nat.ne_of_gt ll⟩
        have nB : ∀ (ob : Obj) (b : Addr), b < s.heap.objs.size → b ≠ (s.heap.push ob).objs.size := fun ob b lb => by
          rw [Heap.size_push]
          exact Nat.ne_of_lt (Nat.lt_succ_of_lt lb)
        subst hso
        wp_walk
        subst hPI
        refine wpAny_pyIter_list hl1 ?_
        refine wpAny_bind (wpAny_runValue ?_)
        have hh3 : A.in1.in1.in1.handled = none := by simp [hh]
        have sz : xs.length = its.size := by rw [← ints_len hi, Array.length_toList]
        have hval : ∀ (i : Nat) (v : Value), its[i]? = some v → ∃ x t, xs[i]? = some x ∧ v = .int x t := fun i v hv => ints_at hi i v (by rw [Array.getElem?_toList]; exact hv)
        refine fill ((Walks.list hh3 _ l (nI (so (!w.params.followText "set-order"))) its).toS) s.heap.objs.size (nS (so (!w.params.followText "set-order"))) xs sz (by rw [← sz]; exact hb) hval (its.size - 0) 0 _ (by omega) (Nat.zero_le _)
          ⟨⟨_, Heap.get?_push_size _ rfl, rfl, rfl⟩, (hl1.push _)⟩ ?hS0 ?hR
        case hS0 =>
          exact ⟨0, Nat.le_refl _, L2.SetR.congr (L2.SetR.at (L2.setR_fresh w) fun o e => Heap.get?_push_of_some _ e) (fun _ => by simp)⟩
        case hR =>
          intro s' c' hm hc' hS'
          obtain ⟨g, g', d', tk', os'⟩ := s'
          have eg : g' = s.gens := hm.gens
          have ed : d' = s.drawn := hm.drawn
          have eo : os' = s.os := hm.os
          subst eg ed eo
          show wpAny _ _ _ _ _ _
          refine wpAny_pure ?_
          show wpAny _ _ (ret Value.none) _ _ _
          rw [← sz, List.take_length] at hS'
          rw [← sz] at hc'
          refine wpAny_pure ⟨rfl, g, tk', c', rfl, hc', hS', fun b o lb e => ?_⟩
          have n1 : b ≠ s.heap.objs.size := Nat.ne_of_lt lb
          have n2 := nB (so (!w.params.followText "set-order")) b lb
          exact hm.heap b o (by simp only [List.mem_cons, List.mem_singleton, List.not_mem_nil, or_false, not_or]; exact ⟨n1, n2⟩) (Heap.get?_push_of_some _ (Heap.get?_push_of_some _ e))
      · cases r₂ with
        | error e => exact hr₂
        | ok fl₂ =>
          cases fl₂ with
          | ret r =>
            obtain ⟨rfl, g, tk, c', rfl, hc', hS', hk'⟩ := hr₂
            repeat (any_goals (first | assumption | wp_step))
            exact q _ _ _ hc' hS' hk'
          | _ => exact hr₂.elim
    | _ => exact hr.elim
set_option maxHeartbeats 3200000 in
theorem set_intsT {l : Addr} {its : Array Value} {xs : List Int} {Q : Value → Shared → Prop} (hh : A.handled = none) (hl : s.heap.IsTuple l its) (hi : PyProof.Rows.IntsAre its.toList xs) (hb : xs.length + 1 < scanBound)
    (q : ∀ (g : Heap) (tk c : Nat), c ≤ xs.length → L2.SetR w g s.heap.objs.size (fun y => decide (y ∈ xs)) c → (∀ b o, b < s.heap.objs.size → s.heap.get? b = some o → g.get? b = some o) → Q (.ref s.heap.objs.size) { s with heap := g, toks := tk }) :
    wpAny (model prog w) A (call (.type "set") [.ref l]) Q E s := by
  obtain ⟨c0, tl0, m0⟩ := PySem.F.called_set.mro
  have a1 := PySem.F.called_set.made
  have a2 := PySem.F.called_set.sub
  refine wpAny_call (codeAny_of_tree ?_)
  show wpAny _ _ (callAny (.type "set") _) _ _ _
  refine wpAny_pure ⟨Code.quiet_builtin _ (by decide +kernel), codeAny_builtin PySem.F.entry_type_call ?_⟩
  rw [Around.under_plain (weight_type_call_type "set" [.ref l] []) rfl]
  have a3 := PySem.F.called_set.notType
  have a4 := PySem.F.called_set.canCreate
  have a5 := PySem.F.typeCall_set_1 (.ref l)
  repeat (any_goals (first | assumption | wp_step))
  refine codeAny_mono (code_led1 (.ref l) (E := E) (Q₁ := fun ob s₁ => ob = .ref s.heap.objs.size ∧ s₁ = { s with heap := s.heap.push { cls := .type "set", dict := none, data := .set #[] 0 (.fresh 0 0 (!w.params.followText "set-order")) } }) ⟨rfl, rfl⟩) fun r s₁ hr => ?_
  cases r with
  | error e => exact hr
  | ok fl =>
    cases fl with
    | ret ob =>
      obtain ⟨rfl, rfl⟩ := hr
      generalize hso : ({ cls := .type "set", dict := none, data := .set #[] 0 (.fresh 0 0 (!w.params.followText "set-order")) } : Obj) = so
      have hfr : so.isFreed = false := by rw [← hso]; rfl
      have b1 : (s.heap.push so).get? s.heap.objs.size = some so := Heap.get?_push_size _ hfr
      have b2 : Shared.TypeIs { s with heap := s.heap.push so } (.ref s.heap.objs.size) "set" := ⟨_, b1, by rw [← hso]⟩
      have b3 := PySem.F.called_set.init.lookup
      have b4 := PySem.F.called_set.init.bind (.ref s.heap.objs.size)
      repeat (any_goals (first | assumption | wp_step))
      refine codeAny_mono (codeAny_call_builtin (R := wants (fun r s₂ => r = .none ∧ ∃ g tk c, s₂ = { s with heap := g, toks := tk } ∧ c ≤ xs.length ∧ L2.SetR w g s.heap.objs.size (fun y => decide (y ∈ xs)) c ∧
          (∀ b o, b < s.heap.objs.size → s.heap.get? b = some o → g.get? b = some o)) E) PySem.F.called_set.init.plain PySem.F.entry_set_init (check_set_init_1 b2 ?_)) fun r₂ s₂ hr₂ => ?_
      · obtain ⟨ol, hol, hcl, nl, hdl⟩ := hl
        obtain ⟨ocls, odict, odata, oslots⟩ := ol
        simp only at hcl hdl
        subst hcl hdl
        have hol' : (s.heap.push so).get? l = some { cls := .type "tuple", dict := odict, data := .seq its nl, slots := oslots } := Heap.get?_push_of_some _ hol
        have c1 := PySem.F.sub_tuple_set
        have c2 := PySem.F.sub_tuple_frozenset
        have c3 : (Value.type "tuple" == Value.type "dict") = false := by decide
        have hl1 : (s.heap.push so).IsTuple l its := ⟨_, hol', rfl, nl, rfl⟩
        unfold Builtin.«set.__init__» noKeywords Builtin.Frozenset.updateFrom
        generalize hPI : pyIter = PI
        have ll : l < s.heap.objs.size := Heap.lt_size hol
        have nI : ∀ ob : Obj, l ≠ (s.heap.push ob).objs.size := fun ob => by
          rw [Heap.size_push]
          exact Nat.ne_of_lt (Nat.lt_succ_of_lt ll)
        have nS : ∀ ob : Obj, s.heap.objs.size ∉ [(s.heap.push ob).objs.size, l] := fun ob => by
          rw [Heap.size_push]
          simp only [List.mem_cons, List.mem_singleton, List.not_mem_nil, or_false, not_or]
          exact ⟨Nat.ne_of_lt (Nat.lt_succ_self _), Nat.ne_of_gt ll⟩
        have nB : ∀ (ob : Obj) (b : Addr), b < s.heap.objs.size → b ≠ (s.heap.push ob).objs.size := fun ob b lb => by
          rw [Heap.size_push]
          exact Nat.ne_of_lt (Nat.lt_succ_of_lt lb)
        subst hso
        wp_walk
        subst hPI
        refine wpAny_pyIter_tuple hl1 ?_
        refine wpAny_bind (wpAny_runValue ?_)
        have hh3 : A.in1.in1.in1.handled = none := by simp [hh]
        have sz : xs.length = its.size := by rw [← ints_len hi, Array.length_toList]
        have hval : ∀ (i : Nat) (v : Value), its[i]? = some v → ∃ x t, xs[i]? = some x ∧ v = .int x t := fun i v hv => ints_at hi i v (by rw [Array.getElem?_toList]; exact hv)
        refine fill ((Walks.tuple hh3 _ l (nI (so (!w.params.followText "set-order"))) its).toS) s.heap.objs.size (nS (so (!w.params.followText "set-order"))) xs sz (by rw [← sz]; exact hb) hval (its.size - 0) 0 _ (by omega) (Nat.zero_le _)
          ⟨⟨_, Heap.get?_push_size _ rfl, rfl, rfl⟩, (hl1.push _)⟩ ?hS0 ?hR
        case hS0 =>
          exact ⟨0, Nat.le_refl _, L2.SetR.congr (L2.SetR.at (L2.setR_fresh w) fun o e => Heap.get?_push_of_some _ e) (fun _ => by simp)⟩
        case hR =>
          intro s' c' hm hc' hS'
          obtain ⟨g, g', d', tk', os'⟩ := s'
          have eg : g' = s.gens := hm.gens
          have ed : d' = s.drawn := hm.drawn
          have eo : os' = s.os := hm.os
          subst eg ed eo
          show wpAny _ _ _ _ _ _
          refine wpAny_pure ?_
          show wpAny _ _ (ret Value.none) _ _ _
          rw [← sz, List.take_length] at hS'
          rw [← sz] at hc'
          refine wpAny_pure ⟨rfl, g, tk', c', rfl, hc', hS', fun b o lb e => ?_⟩
          have n1 : b ≠ s.heap.objs.size := Nat.ne_of_lt lb
          have n2 := nB (so (!w.params.followText "set-order")) b lb
          exact hm.heap b o (by simp only [List.mem_cons, List.mem_singleton, List.not_mem_nil, or_false, not_or]; exact ⟨n1, n2⟩) (Heap.get?_push_of_some _ (Heap.get?_push_of_some _ e))
      · cases r₂ with
        | error e => exact hr₂
        | ok fl₂ =>
          cases fl₂ with
          | ret r =>
            obtain ⟨rfl, g, tk, c', rfl, hc', hS', hk'⟩ := hr₂
            repeat (any_goals (first | assumption | wp_step))
            exact q _ _ _ hc' hS' hk'
          | _ => exact hr₂.elim
    | _ => exact hr.elim
end
end Si
namespace Si
open PySem PySem.Spec PyProof.Rows L2
section
variable {X : Cx}
theorem intsAre : ∀ {ns : List Int} {us : List Value}, Vals (ns.map V.int) us → IntsAre us ns
  | [], _, .nil => .nil
  | n :: ns, _, .cons r rt => by
    obtain ⟨t, rfl⟩ := r
    exact .cons n t (intsAre rt)
/-- set(xs), xs a list or a tuple of ints -/
def rSet (K : PySem.W.Frag) (w : World) : List V → Hp → VK → Prop := fun xs H Q => ∃ (p : Addr) (ns : List Int), xs = [.ref p] ∧ (SqL K H p (ns.map V.int) ∨ SqT K H p (ns.map V.int)) ∧ ns.length ≤ 4000 ∧
  ∀ S c, c ≤ ns.length → H S = none → Q (.ref S) (upd H S (SetO w S (fun y => decide (y ∈ ns)) c))
theorem call_set (hc : X.calm = true) : CallR X (.type "set") (rSet X.K X.w) := by
  intro pins s σ H xs us Q I r h
  obtain ⟨p, ns, rfl, hq, hl, k⟩ := h
  obtain ⟨u, rfl, ru⟩ := r.one
  cases (show u = Value.ref p from ru)
  rcases hq with hq | hq
  · obtain ⟨its, r, pl, hz⟩ := I.list hq
    refine set_ints (I.ok.hd hc) pl.isList (by simpa using intsAre r) (by unfold scanBound; omega) fun g tk c hcn hS hk => ?_
    exact ⟨.ref _, _, I.laid (t' := tk) (fun b u e => hk b u (Heap.lt_size e) e) (Nat.le_refl _) (setO_new hS), rfl, k _ c hcn (I.hok.fresh (Nat.le_refl _))⟩
  · obtain ⟨its, r, pl, hz⟩ := I.tuple hq
    refine set_intsT (I.ok.hd hc) pl (by simpa using intsAre r) (by unfold scanBound; omega) fun g tk c hcn hS hk => ?_
    exact ⟨.ref _, _, I.laid (t' := tk) (fun b u e => hk b u (Heap.lt_size e) e) (Nat.le_refl _) (setO_new hS), rfl, k _ c hcn (I.hok.fresh (Nat.le_refl _))⟩
end
end Si

/-! iter(tuple) as a value; list(x), x with an __iter__ that gives such a one, and an own __len__. -/
namespace Li
open PySem PySem.Spec PyProof.Rows L2
/-- an iterator of the tuple t, not begun -/
def TiO (t it : Addr) : HO := .ext fun h => h.IsTupleIter it t 0
theorem ti_at {h h' : Heap} {t it : Addr} {i : Nat} (x : h.IsTupleIter it t i) (k : ∀ o, h.get? it = some o → h'.get? it = some o) : h'.IsTupleIter it t i := by
  obtain ⟨o, e, r⟩ := x
  exact ⟨o, k o e, r⟩
theorem ti_ok {P : Program} {w : World} {H : Hp} {h : Heap} {t it : Addr} (x : h.IsTupleIter it t 0) : ObjOk P w H h it (TiO t it) :=
  ⟨x, by obtain ⟨o, e, _⟩ := x; exact ⟨o, e⟩, fun _ _ p k => ti_at p k⟩
/-- iter(t): the iterator is younger than all that is tracked -/
def rIterT (K : PySem.W.Frag) : List V → Hp → VK → Prop := fun xs H Q => ∃ (t : Addr) (zs : List V), xs = [.ref t] ∧ SqT K H t zs ∧ ∀ it, H it = none → (∀ b o, H b = some o → b < it) → Q (.ref it) (upd H it (TiO t it))
section
variable {X : Cx}
theorem call_iterT : CallR X (.builtin "iter") (rIterT X.K) := by
  intro pins s σ H xs us Q I r h
  obtain ⟨t, zs, rfl, hq, q⟩ := h
  obtain ⟨u, rfl, ru⟩ := r.one
  cases (show u = Value.ref t from ru)
  obtain ⟨its, rv, pl, hz⟩ := I.tuple hq
  refine Calls.call_function_entry (by decide +kernel) (by decide +kernel) PySem.W.kdk_entry_iter (PySem.W.kdk_args_iter _) ?_
  unfold Builtin.«iter»
  refine wpAny_bind (m := someArgs "iter" 1 2 _) (wpAny_of_eq (a := [Value.ref t]) (by first | rfl | kernel_rfl!) ?_)
  show wpAny _ _ (pyIter (.ref t) >>= _) _ _ _
  refine wpAny_bind (wpAny_pyIter_tuple (items := its.toArray) pl (wpAny_pure ⟨_, rfl, ?_⟩))
  refine ⟨.ref s.heap.objs.size, _, I.laid (t' := s.toks) (fun b u e => Heap.get?_push_of_some _ e) (Nat.le_refl _) (ti_ok ⟨_, Heap.get?_push_size _ rfl, rfl, rfl⟩), rfl, q _ (I.hok.fresh (Nat.le_refl _)) fun b o e => ?_⟩
  exact (I.hok b o e).lt
end
section
variable {X : Cx} {pins : List (Addr × Obj)} {σ : L2.St} {q it t : Addr} {zs : List V} {A1 : Around} {Rs : Result → Shared → Prop}
/-- the list at q takes what the iterator gives -/
theorem fill (hh : A1.in1.handled = none) (few : zs.length ≤ 1000) : ∀ (k i : Nat) (H : Hp) (s : Shared), zs.length - i = k → i ≤ zs.length → Inv X pins σ H s → H q = some (.lst (zs.take i)) → FpOk X pins H it → s.heap.IsTupleIter it t i → SqT X.K H t zs →
    (∀ s', Inv X pins σ (upd H q (.lst zs)) s' → Rs (.ok (.ret .none)) s') → codeAny (model X.prog X.w) A1 (.builtin "list.extend.loop" ⟨[.ref q, .ref it, .none], []⟩) Rs s := by
  intro k
  have sz := sizeLine_eq
  induction k with
  | zero =>
    intro i H s hk hi I hq fp st ht hd
    have e : i = zs.length := by omega
    subst e
    obtain ⟨its, rv, pl, hz⟩ := I.tuple ht
    have li := rv.length
    obtain ⟨f0, f1, f2, f3, f4, f5⟩ := fp
    refine codeAny_builtin PySem.F.entry_extend_loop ?_
    rw [Around.under_plainId PySem.F.plain_extend_loop _]
    show wpAny _ A1.in1 (pyNext (.ref it) >>= _) _ _ s
    refine wpAny_bind (wpAny_pyNext_tuple_end hh st (items := its.toArray) pl (by rw [List.getElem?_toArray, List.getElem?_eq_none (by omega)]) fun h' ex => ?_)
    have I1 := I.turned (t' := s.toks) (h' := h') (fun b o nb e => ex b o nb e) f0 f1 f3 f4 f5
    rw [List.take_length] at hq
    have e : upd H q (.lst zs) = H := by
      funext b
      by_cases c : b = q
      · rw [c, upd_same, hq]
      · rw [upd_ne c]
    exact wpAny_pure (hd _ (by rw [e]; exact I1))
  | succ k ih =>
    intro i H s hk hi I hq fp st ht hd
    have lt : i < zs.length := by omega
    obtain ⟨its, rv, pl, hz⟩ := I.tuple ht
    obtain ⟨u, hu, ru⟩ := rv.get (List.getElem?_eq_getElem lt)
    obtain ⟨f0, f1, f2, f3, f4, f5⟩ := id fp
    refine codeAny_builtin PySem.F.entry_extend_loop ?_
    rw [Around.under_plainId PySem.F.plain_extend_loop _]
    show wpAny _ A1.in1 (pyNext (.ref it) >>= _) _ _ s
    refine wpAny_bind (wpAny_pyNext_tuple_item st (items := its.toArray) pl (x := u) (by simpa using hu) fun h' st' sb => ?_)
    have I1 := I.turned (t' := s.toks) (h' := h') (fun b o nb e => (sb.2 b nb).trans e) f0 f1 f3 f4 f5
    obtain ⟨z, ls, kk, r2, hl, e⟩ := I1.lstM hq
    have ll := r2.length
    rw [List.length_take] at ll
    show wpAny _ A1.in1 (updateSeq q (·.push u) >>= _) _ _ _
    have nq : it ≠ q := fun c => by rw [← c, f0] at hq; cases hq
    refine wpAny_bind (wpAny_updateSeq e rfl (wpAny_pure ⟨plainId_quiet PySem.F.plain_extend_loop _, ?_⟩) (by rw [List.size_toArray]; omega) (by show (ls.toArray.push u).size ≤ sizeLine + 1; rw [Array.size_push, List.size_toArray]; omega))
    have I2 := I1.lset (f := (·.push u)) (its' := ls ++ [u]) (t' := s.toks) hq e (by simp) (r2.append (.cons ru .nil)) (by rw [List.length_append, List.length_singleton, List.length_take]; omega)
    have tk : zs.take i ++ [zs[i]] = zs.take (i + 1) := by rw [List.take_add_one, List.getElem?_eq_getElem lt]; rfl
    rw [tk] at I2
    refine ih (i + 1) _ _ (by omega) lt I2 upd_same ⟨by rw [upd_ne nq]; exact f0, f1, f2, f3, f4, f5⟩ (ti_at st' fun o e => ?_) ?_ fun s' I' => hd s' (by rw [upd_upd] at I'; exact I')
    · exact (Heap.get?_update_other _ _ (Ne.symm nq)).trans e
    · rcases ht with (w1 | ⟨o, w2⟩) | w3
      · refine .inl (.inl ?_)
        rw [upd_ne fun c => by rw [c, hq] at w1; cases w1]
        exact w1
      · refine .inl (.inr ⟨o, ?_⟩)
        rw [upd_ne fun c => by rw [c, hq] at w2; cases w2]
        exact w2
      · exact .inr w3
end
end Li
namespace Li
open PySem PySem.Spec PyProof.Rows L2 ItX
section
variable {X : Cx} {C fi fl : Addr} {spI spL : Sp} {EI EL : XK} {n : Nat}
/-- a def that never raises, called anywhere within -/
theorem sure_at {A : Around} {Q : VK} {E : XK} {g : Addr} {sp : Sp} {us : List Value} {ws : List V} {pins : List (Addr × Obj)} {σ : L2.St} {H : Hp} {s : Shared} (F : FnR X.prog X.w X.K X.mg X.base CX0 n g sp) (hr : Room n A) (e0 : Env0 X.prog X.w X.K X.mg X.base A X.stack s H) (I : Inv X pins σ H s)
    (r : Vals ws us) (h : sp ws H Q E) : codeAny (model X.prog X.w) A (.call (.ref g) ⟨us, []⟩) (fun r s' => match r with | .ok (.ret v) => EP X pins σ Q v s' | .ok _ => False | .error _ => False) s := by
  refine codeAny_mono (F A X.stack s H us ws Q E hr e0 r h) fun r s' z => ?_
  match r, z with
  | .ok (.ret _), z => exact I.after z
  | .ok .next, z => exact z.elim
  | .ok .brk, z => exact z.elim
  | .ok .cont, z => exact z.elim
  | .error _, z => exact z.elim
/-- list(x): its __iter__ gives an iterator of a tuple, its __len__ a number -/
def rListIt (K : PySem.W.Frag) (C : Addr) (spI spL : Sp) (EI EL : XK) : List V → Hp → VK → Prop := fun xs H Q => ∃ a dx fs, xs = [.ref a] ∧ H a = some (.ins C dx fs) ∧ ∀ q, H q = none → spI [.ref a] (upd H q (.lst []))
  (fun v H1 => ∃ it t zs, v = .ref it ∧ H1 it = some (TiO t it) ∧ q < it ∧ SqT K H1 t zs ∧ zs.length ≤ 1000 ∧ H1 q = some (.lst []) ∧ H1 a = some (.ins C dx fs) ∧
    spL [.ref a] H1 (fun z H2 => ∃ i : Int, z = .int i ∧ 0 ≤ i ∧ i < 1000 ∧ H2 = H1 ∧ Q (.ref q) (upd (dropH H1 it) q (.lst zs))) EL) EI
theorem call_listIt (hs : PySem.W.findIn X.K (.ref C) "__iter__" = some (some (.ref fi))) (hf : PySem.W.isFn X.K (.ref fi) = true) (hl : PySem.W.findIn X.K (.ref C) "__len__" = some (some (.ref fl))) (hlf : PySem.W.isFn X.K (.ref fl) = true)
    (FI : FnR X.prog X.w X.K X.mg X.base CX0 n fi spI) (FL : FnR X.prog X.w X.K X.mg X.base CX0 n fl spL) (hc : X.calm = true) (hr : Room (n + 4) X.A) : CallR X (.type "list") (rListIt X.K C spI spL EI EL) := by
  intro pins s σ H xs us Q I rv h
  obtain ⟨a, dx, fs, rfl, ha, hq⟩ := h
  obtain ⟨u, rfl, ru⟩ := rv.one
  cases (show u = Value.ref a from ru)
  have sb : Sub X (n + 1) X.A.in1.in1.in1 := Sub.in1 (Sub.in1 (Sub.in1 ⟨hr, rfl⟩))
  refine callType_codes (Q₁ := fun obj s₁ => obj = .ref s.heap.objs.size ∧ s₁ = { s with heap := s.heap.push { cls := .type "list", data := .seq #[] } })
    PySem.F.called_list (PySem.F.typeCall_list_1 _) PySem.F.entry_list_init (code_list_new _ ⟨rfl, rfl⟩) fun obj s₁ h₁ => ?_
  obtain ⟨rfl, rfl⟩ := h₁
  have hS : (s.heap.push { cls := .type "list", data := .seq #[] }).get? s.heap.objs.size = some { cls := .type "list", data := .seq #[] } := Heap.get?_push_size _ rfl
  refine ⟨⟨_, hS, rfl⟩, PySem.F.args_list_init_2 _ _, ?_⟩
  have fr : H s.heap.objs.size = none := I.hok.fresh (Nat.le_refl _)
  have hsp := hq _ fr
  have young : X.s_0.heap.objs.size ≤ s.heap.objs.size := I.sz
  have I1 : Inv X pins σ (upd H s.heap.objs.size (.lst [])) { s with heap := s.heap.push { cls := .type "list", data := .seq #[] } } := I.lnew (its := []) (t' := s.toks) .nil (Nat.zero_le _)
  show wpAny _ _ (Builtin.List.listItems (.ref s.heap.objs.size) >>= fun old => Builtin.List.listUpdate (.ref s.heap.objs.size) (fun _ => #[]) >>= fun _ => letGo old.toList.reverse >>= fun _ => Builtin.List.listExtendWith (.ref s.heap.objs.size) (.ref a) .none) _ _ _
  refine wpAny_bind ?_
  unfold Builtin.List.listItems
  refine wpAny_bind (wpAny_seqItems hS rfl (wpAny_pure ?_))
  show wpAny _ _ (updateSeq s.heap.objs.size (fun _ => #[]) >>= fun _ => letGo (#[] : Array Value).toList.reverse >>= fun _ => Builtin.List.listExtendWith (.ref s.heap.objs.size) (.ref a) .none) _ _ _
  refine wpAny_bind (wpAny_updateSeq hS rfl ?_)
  have I2 := I1.lset (f := fun _ => #[]) (its := []) (its' := []) (ys := []) (t' := s.toks) upd_same hS rfl .nil (Nat.zero_le _)
  rw [upd_upd] at I2
  refine wpAny_bind (wpAny_letGo ?_)
  have ha2 : upd H s.heap.objs.size (.lst []) a = some (.ins C dx fs) := by rw [upd_ne (ne_of_none ha fr)]; exact ha
  have nqa : s.heap.objs.size ≠ a := (ne_of_none ha fr).symm
  have low : s.heap.objs.size < ({ s with heap := (s.heap.push { cls := .type "list", data := .seq #[] }).update s.heap.objs.size (Obj.mapSeq fun _ => #[]) } : Shared).heap.objs.size := (I2.hok _ _ upd_same).lt
  generalize hq0 : s.heap.objs.size = q at *
  generalize ({ s with heap := (s.heap.push { cls := .type "list", data := .seq #[] }).update q (Obj.mapSeq fun _ => #[]) } : Shared) = s1 at *
  generalize hH1 : upd H q (.lst []) = H1 at *
  have hq1 : H1 q = some (.lst []) := by rw [← hH1]; exact upd_same
  obtain ⟨ox, od, J⟩ := Ow.ins_at I2 ha2
  obtain ⟨m0, hF⟩ := I2.fr
  unfold Builtin.List.listExtendWith
  refine wpAny_bind (J.type.here ?_)
  have b1 : Builtin.List.listSameRef (.ref q) (.ref a) = false := by simp [Builtin.List.listSameRef, nqa]
  have b2 : (Value.ref C == Value.type "list") = false ∧ (Value.ref C == Value.type "tuple") = false := ⟨rfl, rfl⟩
  simp only [b1, b2.1, b2.2, Bool.or_false, Bool.false_eq_true, if_false]
  refine wpAny_bind (PySem.W.owit_iter hF I2.ok.mod.kin J hs hf ?_)
  have env : ∀ {s2 : Shared} {H2 : Hp}, Inv X pins σ H2 s2 → Env0 X.prog X.w X.K X.mg X.base X.A.in1.in1 X.stack s2 H2 := fun I => by
    have e := I.env0
    exact ⟨e.frames, e.mod, e.bs, e.bsz, e.funs, e.frf, e.hok, e.bare⟩
  have room0 : Room (n + 1) X.A.in1.in1 := (hr.in1.in1).mono (by omega)
  have room1 : Room n X.A.in1.in1 := room0.mono (by omega)
  refine wpAny_mono (wpAny_call (sure_at (us := [.ref a]) (ws := [.ref a]) FI room1 (env I2) I2 (.cons rfl .nil) hsp)) (fun v s3 hv => ?_) fun _ _ x => x.elim
  obtain ⟨v', H3, I3, rv3, it, t, zs, rfl, hit, qlt, ht, few, hq3, ha3, hsp2⟩ := hv
  cases (show v = Value.ref it from rv3)
  have st3 : s3.heap.IsTupleIter it t 0 := (I3.hok it _ hit).1
  unfold PySem.W.OwitIt
  refine wpAny_specialOf (name := Str.ofString "__next__") st3.typeIs PySem.F.slot_tuple_iterator_next.lookup ?_
  refine wpAny_bind (wpAny_holding ?_)
  unfold Builtin.List.listLengthHint
  obtain ⟨ox3, od3, J3⟩ := Ow.ins_at I3 ha3
  obtain ⟨m3, hF3⟩ := I3.fr
  refine wpAny_bind (wpAny_bind (J3.type.here ((PySem.W.looks_findIn I3.kIn hl).here ?_)))
  refine PySem.W.KFB.if_not rfl ?_
  refine wp_if_pos rfl (wpAny_bind (wpAny_rule (wpAny_bind (wpAny_attempt ?_))))
  refine PySem.W.len_K hF3 I3.ok.mod.kin J3 hl hlf (wpAny_mono (wpAny_call (sure_at (us := [.ref a]) (ws := [.ref a]) FL (room0.in1) (env I3).in1 I3 (.cons rfl .nil) hsp2)) (fun w s4 z => ?_) fun _ _ x => x.elim)
  obtain ⟨z', H4, I4, rz, i, rfl, h0, h1, rfl, qz⟩ := z
  obtain ⟨tk, e⟩ := (show ∃ tk, w = Value.int i tk from rz)
  cases e
  refine ⟨⟨h0, by omega⟩, ?_⟩
  dsimp only
  refine wpAny_bind (wpAny_of_eq (a := some i) rfl ?_)
  have sl := sizeLine_eq
  refine wp_if_neg (by unfold Builtin.List.listTooLong; rw [decide_eq_true_eq]; omega) (wpAny_pure ?_)
  have I5 := inv_drop (I4.tok (s4.toks + 1)) hit
  have fp : FpOk X pins (dropH H4 it) it := inv_fp I4 hit (Nat.le_trans young (Nat.le_of_lt qlt))
  have nqi : q ≠ it := Nat.ne_of_lt qlt
  have hq5 : dropH H4 it q = some (.lst []) := (dropH_ne nqi).trans hq3
  have ht5 : SqT X.K (dropH H4 it) t zs := by
    rcases ht with (w1 | ⟨o, w2⟩) | w3
    · refine .inl (.inl ((dropH_ne fun c => ?_).trans w1))
      rw [c, hit] at w1
      cases w1
    · refine .inl (.inr ⟨o, (dropH_ne fun c => ?_).trans w2⟩)
      rw [c, hit] at w2
      cases w2
    · exact .inr w3
  have st5 : s4.heap.IsTupleIter it t 0 := (I4.hok it _ hit).1
  have hh : X.A.in1.in1.handled = none := by simp [I.ok.hd hc]
  have go : ∀ s6 : Shared, Inv X pins σ (dropH H4 it) s6 → s6.heap.IsTupleIter it t 0 → codeAny (model X.prog X.w) X.A.in1 (.builtin "list.extend.loop" ⟨[.ref q, .ref it, .none], []⟩) (wants (fun r s₂ => r = .none ∧ EP X pins σ Q (.ref q) s₂) X.xe) s6 := fun s6 I6 st6 =>
    fill (zs := zs) hh few (zs.length - 0) 0 _ s6 rfl (Nat.zero_le _) I6 hq5 fp st6 ht5 fun s7 I7 => ⟨rfl, ⟨.ref q, _, I7, rfl, qz⟩⟩
  refine wpAny_ite_split (fun _ => ?_) fun _ => wpAny_pure ⟨plainId_quiet PySem.F.plain_extend_loop _, go _ I5 st5⟩
  refine wpAny_bind (wpAny_rule (wpAny_bind ?_))
  obtain ⟨z5, its5, k5, r5, l5, e5⟩ := I5.lstM hq5
  cases r5
  show wpAny _ _ (updateSeq q (·.push Value.none) >>= fun _ => updateSeq q (·.pop)) _ _ _
  refine wpAny_bind (wpAny_updateSeq e5 rfl ?_)
  have I6 := I5.lset (f := (·.push Value.none)) (its' := [Value.none]) (ys := [.non]) (t' := s4.toks + 1) hq5 e5 (by simp) (.cons rfl .nil) (by rw [List.length_singleton, sl]; decide)
  obtain ⟨z6, its6, k6, r6, l6, e6⟩ := I6.lstM upd_same
  obtain ⟨u6, rfl, ru6⟩ := r6.one
  refine wpAny_updateSeq e6 rfl ?_ (by show 1 ≤ sizeLine; rw [sl]; decide) (by show 0 ≤ sizeLine + 1; exact Nat.zero_le _)
  have I7 := I6.lset (f := (·.pop)) (its := [u6]) (its' := []) (ys := []) (t' := s4.toks + 1) upd_same e6 (by rfl) .nil (Nat.zero_le _)
  rw [upd_upd, show upd (dropH H4 it) q (.lst []) = dropH H4 it from funext fun b => by
    by_cases c : b = q
    · rw [c, upd_same, hq5]
    · rw [upd_ne c]] at I7
  refine wpAny_pure ⟨plainId_quiet PySem.F.plain_extend_loop _, go _ I7 (ti_at st5 fun o e => ?_)⟩
  exact (Heap.get?_update_other _ _ nqi).trans ((Heap.get?_update_other _ _ nqi).trans e)
end
end Li
/-! for .. in x, x an instance whose __iter__ gives iter(tuple). -/
namespace Li
open PySem PySem.Spec PyProof.Rows L2 ItX
section
variable {X : Cx} {C fi : Addr} {spI : Nat → Sp} {EI : XK} {n : Nat} {tg : Expr}
/-- a def whose promise knows how many objects there are when it is called -/
def FnA (P : Program) (w : World) (K : PySem.W.Frag) (mg : Str → Option Value) (base : Heap) (n : Nat) (g : Addr) (sp : Nat → Sp) : Prop :=
  ∀ (A : Around) (outer : List Env) (s : Shared) (H : Hp) (us : List Value) (vs : List V) (Q : VK) (E : XK), Room n A → Env0 P w K mg base A outer s H → Vals vs us → sp s.heap.objs.size vs H Q E →
    codeAny (model P w) A (.call (.ref g) ⟨us, []⟩) (CR CX0 outer P w H s Q E) s
theorem fnA_of {P : Program} {w : World} {K : PySem.W.Frag} {mg : Str → Option Value} {base : Heap} {x qual : Str} {st : Stmt} {g : Addr} {fd : FuncData} {N ps : List Str} {k : Nat} {sp : Nat → Sp} (F : Fun K x qual st g fd) (S : FnScope N ps (defScope st)) (B : Binds K fd ps [])
    (len : ∀ n vs H Q E, sp n vs H Q E → vs.length = ps.length)
    (body : ∀ (cdv : Value) (A : Around) (outer : List Env) (s : Shared) (H : Hp) (vs : List V) (Q : VK) (E : XK), Room k (A.deeper (envOfC qual (defScope st) s.heap.objs.size g cdv)) → sp s.heap.objs.size vs H Q E →
      ∃ t, PSs (cxOf CX0 P w K mg base N qual (defScope st) g cdv A outer s H E) (defBody st) t ∧ t { nx := fun _ H' => Q .non H', rt := Q } (start N vs) H) : FnA P w K mg base (k + 1) g sp := by
  obtain ⟨oc, od, kV, doc, pm, an, cdv, ct, osl, rfl, lk, hcd⟩ := F.ex
  intro A outer s H us vs Q E hr e0 r hsp
  have hl := len _ _ _ _ _ hsp
  have KX : K.In s.heap := e0.mod.kin.keeps fun b o e => (e0.bs b o e).1
  have bd := B s us KX (by rw [List.append_nil, ← r.length]; exact hl)
  rw [List.append_nil] at bd
  refine codeAny_call_function hr.depth (KX _ _ lk) rfl S.co S.gen rfl (PySem.W.codeRec_of KX hcd) (bd _ _ _ _ ?_)
  refine wpAny_newFunctionEnv_cells S.kind (fun y hy => ?_) fun env he s1 fresh => ?_
  · rcases S.par y.1 (List.of_mem_zip (show (y.1, y.2) ∈ ps.zip us from hy)).1 with q | q
    · exact .inl q
    · exact .inr ⟨q, PySem.W.cellsFrom_some _ _ _ (.inl q)⟩
  subst he
  refine ⟨(e0.mod.nolimit.keeps fun b o e => (e0.bs b o e).1).keeps fresh.toInCall.keep, codeAny_func ?_⟩
  obtain ⟨t, ht, hq⟩ := body _ A outer s H vs Q E (hr.deeper _) hsp
  refine wpAny_mono (ht.run [] s1 (start N vs) H _ (inv_start S hr.hd e0 hl r fresh) hq) (fun fl s' hs => ?_) fun e s' hs => hs
  match fl, hs with
  | .ret _, ⟨v, _, H', J, rv, q⟩ => exact ⟨v, H', J.os, J.bare, J.base, J.hok, rv, q⟩
  | .next, ⟨_, H', J, q⟩ => exact ⟨V.non, H', J.os, J.bare, J.base, J.hok, rfl, q⟩
  | .brk, ⟨_, _, _, q⟩ => exact q.elim
  | .cont, ⟨_, _, _, q⟩ => exact q.elim
/-- iter(t), n: how many objects there were -/
def rIterN (K : PySem.W.Frag) (n : Nat) : List V → Hp → VK → Prop := fun xs H Q => ∃ (t : Addr) (zs : List V), xs = [.ref t] ∧ SqT K H t zs ∧ ∀ it, H it = none → n ≤ it → Q (.ref it) (upd H it (TiO t it))
theorem call_iterN {X : Cx} : CallR X (.builtin "iter") (rIterN X.K X.s_0.heap.objs.size) := by
  intro pins s σ H xs us Q I r h
  obtain ⟨t, zs, rfl, hq, q⟩ := h
  obtain ⟨u, rfl, ru⟩ := r.one
  cases (show u = Value.ref t from ru)
  obtain ⟨its, rv, pl, hz⟩ := I.tuple hq
  refine Calls.call_function_entry (by decide +kernel) (by decide +kernel) PySem.W.kdk_entry_iter (PySem.W.kdk_args_iter _) ?_
  unfold Builtin.«iter»
  refine wpAny_bind (m := someArgs "iter" 1 2 _) (wpAny_of_eq (a := [Value.ref t]) (by first | rfl | kernel_rfl!) ?_)
  show wpAny _ _ (pyIter (.ref t) >>= _) _ _ _
  refine wpAny_bind (wpAny_pyIter_tuple (items := its.toArray) pl (wpAny_pure ⟨_, rfl, ?_⟩))
  exact ⟨.ref s.heap.objs.size, _, I.laid (t' := s.toks) (fun b u e => Heap.get?_push_of_some _ e) (Nat.le_refl _) (ti_ok ⟨_, Heap.get?_push_size _ rfl, rfl, rfl⟩), rfl, q _ (I.hok.fresh (Nat.le_refl _)) I.sz⟩
/-- such a def, called -/
theorem sure_A {X : Cx} {n : Nat} {A : Around} {Q : VK} {E : XK} {g : Addr} {sp : Nat → Sp} {us : List Value} {ws : List V} {pins : List (Addr × Obj)} {σ : L2.St} {H : Hp} {s : Shared} (F : FnA X.prog X.w X.K X.mg X.base n g sp) (hr : Room n A) (e0 : Env0 X.prog X.w X.K X.mg X.base A X.stack s H) (I : Inv X pins σ H s)
    (r : Vals ws us) (h : sp s.heap.objs.size ws H Q E) : codeAny (model X.prog X.w) A (.call (.ref g) ⟨us, []⟩) (fun r s' => match r with | .ok (.ret v) => EP X pins σ Q v s' | .ok _ => False | .error _ => False) s := by
  refine codeAny_mono (F A X.stack s H us ws Q E hr e0 r h) fun r s' z => ?_
  match r, z with
  | .ok (.ret _), z => exact I.after z
  | .ok .next, z => exact z.elim
  | .ok .brk, z => exact z.elim
  | .ok .cont, z => exact z.elim
  | .error _, z => exact z.elim
def iOwnT (K : PySem.W.Frag) (C : Addr) (spI : Nat → Sp) (EI : XK) (tl : TE) : TI := fun σ H R => tl σ H fun x H1 => ∃ a dx fs, x = .ref a ∧ H1 a = some (.ins C dx fs) ∧
  ∀ m, spI m [.ref a] H1 (fun v H2 => ∃ it t zs, v = .ref it ∧ m ≤ it ∧ H2 it = some (TiO t it) ∧ SqT K H2 t zs ∧ R (Itt K t) (dropH H2 it)) EI
theorem pi_ownT (hs : PySem.W.findIn X.K (.ref C) "__iter__" = some (some (.ref fi))) (hf : PySem.W.isFn X.K (.ref fi) = true) (FI : FnA X.prog X.w X.K X.mg X.base n fi spI) (hr : Room n X.A) {l : Expr} {tl : TE} (hl : PE X l tl) : PI X tg l (iOwnT X.K C spI EI tl) := by
  refine ⟨fun pins s σ H R I h => ?_⟩
  refine thn (hl.run pins s σ H _ I h) fun v s1 ⟨x, H1, I1, r1, q1⟩ => ?_
  obtain ⟨a, dx, fs, e, ha, hsp⟩ := q1
  subst e
  cases r1
  obtain ⟨ox, od, J⟩ := Ow.ins_at I1 ha
  obtain ⟨m0, hF⟩ := I1.fr
  refine PySem.W.owit_iter hF I1.ok.mod.kin J hs hf ?_
  refine wpAny_mono (wpAny_call (sure_A (us := [.ref a]) (ws := [.ref a]) FI hr I1.env0 I1 (.cons rfl .nil) (hsp _))) (fun v s3 hv => ?_) fun _ _ x => x.elim
  obtain ⟨v', H3, I3, rv3, it, t, zs, rfl, yg, hit, ht, q⟩ := hv
  cases (show v = Value.ref it from rv3)
  have st3 : s3.heap.IsTupleIter it t 0 := (I3.hok it _ hit).1
  unfold PySem.W.OwitIt
  refine wpAny_specialOf (name := Str.ofString "__next__") st3.typeIs PySem.F.slot_tuple_iterator_next.lookup ?_
  refine ⟨it, [it], _, _, dropH H3 it, rfl, inv_drop I3 hit, turn_tuple t it, st3, fun b hb => ?_, q⟩
  have e : b = it := by simpa using hb
  rw [e]
  exact inv_fp I3 hit (Nat.le_trans I1.sz yg)
variable {CX : CXT} {k : Nat} {f : Addr} {fd : FuncData} {ps : List Str} {sp : Sp} {e : Expr} {es : List Expr} {t : TA} {x : Str} {p pos : Pos} {ds : List Value} {dvs : List V}
/-- pe_callS of a def with defaults -/
theorem pe_callSD {E : L2.St → XK} (F : FnOk X.prog X.w X.K X.mg X.base CX k f fd ps sp) (hr : Room k X.A) (hg : Gl X x) (hm : X.mg x = some (.ref f)) (hk : PySem.W.keepIn X.K (.ref f) = true) (hb : Binds X.K fd ps ds) (hd : Vals dvs ds) (hx : ∀ σ, PassesAt CX X σ (E σ))
    (ha : PA X (e :: es) t) (hdb : (x == ("__debug__" : Str)) = false := by decide) (he : starEach (e :: es) X.env = (false, eval e X.env) :: starEach es X.env := by rfl) (hpl : (backTo pos (starEach es X.env)).any (·.1) = false := by rfl) :
    PE X (.Call (.Name x p) (e :: es) [] pos) (tCallS (fun vs H Q E => sp (vs ++ dvs) H Q E) E t) := by
  refine ⟨fun pins s σ H Q I h => ?_⟩
  refine wpAny_Call_Name_kw (ld_glob I hg hm ?_ hdb)
  refine PySem.W.callWith_K (h₀ := X.base) I.ok.mod.kin hk (thn (ha.run pos pins s σ H _ I h) fun us s1 ⟨vs, H1, I1, r, q⟩ => ⟨I1.kIn, ?_⟩) he hpl
  refine wpAny_call (codeAny_mono (F.raw hb hd X.A X.stack s1 H1 us vs Q (E σ) hr I1.env0 r q) fun r s' hq => ?_)
  cases r with
  | error e => exact hx σ pins H1 s1 e s' I1 hq
  | ok fl =>
    cases fl with
    | ret u => exact I1.after hq
    | next => exact False.elim hq
    | brk => exact False.elim hq
    | cont => exact False.elim hq
end
end Li

/-! A call by keywords that may raise, its exception's part told by the state at the call. -/
namespace Kw
open PySem PySem.Spec PyProof.Rows L2
section
variable {X : Cx} {CX : CXT} {k n : Nat} {f : Addr} {fd : FuncData} {ps ks : List Str} {sp : Sp} {E : L2.St → XK} {x : Str} {e : Expr} {es : List Expr} {kws : List Keyword} {t tk : TA} {p pos : Pos} {g : List Value → List Value → List Value} {gV : List V → List V → List V}
theorem run_fnNS {pins : List (Addr × Obj)} {σ : L2.St} {H : Hp} {s : Shared} {Q : VK} {us ws : List Value} {vs zs : List V} (F : FnOk X.prog X.w X.K X.mg X.base CX k f fd ps sp) (hr : Room k X.A) (hb : KBn X.K fd ps n ks g gV) (hx : PassesAt CX X σ (E σ))
    (I : Inv X pins σ H s) (r : Vals vs us) (rz : Vals zs ws) (l1 : vs.length = n) (l2 : zs.length = ks.length) (h : sp (gV vs zs) H Q (E σ)) : wpAny (model X.prog X.w) X.A (call (.ref f) us (ks.zip ws)) (EP X pins σ Q) X.xe s := by
  have r2 := hb.rel r rz
  refine wpAny_call (codeAny_mono (F.run X.A X.stack s H ⟨us, ks.zip ws⟩ (g us ws) (gV vs zs) Q (E σ) hr I.env0 (hb.to s us ws I.kIn (r.length.symm.trans l1) (rz.length.symm.trans l2)) r2 h) fun r s' hq => ?_)
  cases r with
  | error e => exact hx pins H s e s' I hq
  | ok fl =>
    cases fl with
    | ret u => exact I.after hq
    | next => exact False.elim hq
    | brk => exact False.elim hq
    | cont => exact False.elim hq
def tCallNS (n m : Nat) (sp : Sp) (gV : List V → List V → List V) (E : L2.St → XK) (t tk : TA) : TE := fun σ H Q => t σ H fun vs H1 => tk σ H1 fun zs H2 => vs.length = n ∧ zs.length = m ∧ sp (gV vs zs) H2 Q (E σ)
theorem pe_callNS (F : FnOk X.prog X.w X.K X.mg X.base CX k f fd ps sp) (hr : Room k X.A) (hg : Gl X x) (hm : X.mg x = some (.ref f)) (hk : PySem.W.keepIn X.K (.ref f) = true) (hb : KBn X.K fd ps n ks g gV) (hx : ∀ σ, PassesAt CX X σ (E σ))
    (ha : PA X (e :: es) t) (hkw : PK X kws tk) (hall : (backToKw pos (keywordEach kws X.env)).all (·.1.isSome) = true := by rfl) (hks : (backToKw pos (keywordEach kws X.env)).filterMap (·.1) = ks := by rfl)
    (hdb : (x == ("__debug__" : Str)) = false := by decide) (he : starEach (e :: es) X.env = (false, eval e X.env) :: starEach es X.env := by rfl)
    (hpl : ((backTo pos (starEach (e :: es) X.env)).any (·.1) || (backToKw pos (keywordEach kws X.env)).any (·.1.isNone)) = false := by rfl) :
    PE X (.Call (.Name x p) (e :: es) kws pos) (tCallNS n ks.length sp gV E t tk) := by
  refine ⟨fun pins s σ H Q I h => ?_⟩
  refine wpAny_Call_Name_kw (ld_glob I hg hm ?_ hdb)
  refine PySem.W.callWith_KW (h₀ := X.base) I.ok.mod.kin hk hall (thn (ha.run pos pins s σ H _ I h) fun us s1 ⟨vs, H1, I1, r, q⟩ => ?_) hpl he
  refine thn (hkw.run pos pins s1 σ H1 _ I1 q) fun ws s2 ⟨zs, H2, I2, rz, l1, l2, q2⟩ => ⟨I2.kIn, ?_⟩
  rw [hks]
  exact run_fnNS F hr hb (hx σ) I2 r rz l1 l2 q2
end
end Kw

/-! x in a list or a tuple of data of any depth. -/
namespace Ind
open PySem PySem.Spec PyProof.Rows L2
def seqD (t : Bool) (ds : List PyData) : PyData := if t = true then .tuple ds else .list ds
def rInS (K : PySem.W.Frag) : R2 := fun x y H Q => ∃ (d : PyData) (ds : List PyData) (t : Bool), Dp K H x d ∧ Dp K H y (seqD t ds) ∧ d.canLay0 = true ∧ d.depth ≤ 60 ∧ PyData.canLayAll0 ds = true ∧ Q (.bl (ds.any fun z => PyData.eqv z d)) H
theorem op_inS {X : Cx} (hu : X.A.units + 65 < cLine) : OpR X (compareOp .In) (rInS X.K) := by
  intro pins s σ H x y v u Q I rx ry h
  obtain ⟨d, ds, t, hd, he, sd, dd, se, q⟩ := h
  obtain ⟨as, r1⟩ := Dp.reads I d x v hd rx
  have room : X.A.units + 1 + min (PyData.depthAll ds) d.depth < cLine := by
    have := Nat.min_le_right (PyData.depthAll ds) d.depth
    omega
  cases t with
  | true =>
    obtain ⟨bs, r2⟩ := Dp.reads I (.tuple ds) y u he ry
    exact SeqAt.in_tuple_reads r2 r1 se sd room ⟨.bl _, H, I, rfl, q⟩
  | false =>
    obtain ⟨bs, r2⟩ := Dp.reads I (.list ds) y u he ry
    exact SeqAt.in_list_reads r2 r1 se sd room ⟨.bl _, H, I, rfl, q⟩
theorem isD {K : PySem.W.Frag} {t : Bool} {H : Hp} {p : Addr} {xs : List V} {ds : List PyData} (h : Kd.Is K t H p xs) (g : DpAll K H xs ds) : Dp K H (.ref p) (seqD t ds) := by
  cases t with
  | true => exact .tup h g
  | false => exact .lst h g
theorem room65 {k : Nat} {A : Around} (r : Room k A) : A.units + 65 < cLine := by have := r.un; omega
end Ind
namespace Ind
open PySem PySem.Spec PyProof.Rows L2
def rNinS (K : PySem.W.Frag) : R2 := fun x y H Q => ∃ (d : PyData) (ds : List PyData) (t : Bool), Dp K H x d ∧ Dp K H y (seqD t ds) ∧ d.canLay0 = true ∧ d.depth ≤ 60 ∧ PyData.canLayAll0 ds = true ∧ Q (.bl (!ds.any fun z => PyData.eqv z d)) H
theorem op_ninS {X : Cx} (hu : X.A.units + 65 < cLine) : OpR X (compareOp .NotIn) (rNinS X.K) := by
  intro pins s σ H x y v u Q I rx ry h
  obtain ⟨d, ds, t, hd, he, sd, dd, se, q⟩ := h
  obtain ⟨as, r1⟩ := Dp.reads I d x v hd rx
  have room : X.A.units + 1 + min (PyData.depthAll ds) d.depth < cLine := by
    have := Nat.min_le_right (PyData.depthAll ds) d.depth
    omega
  cases t with
  | true =>
    obtain ⟨bs, r2⟩ := Dp.reads I (.tuple ds) y u he ry
    exact SeqAt.notIn_tuple_reads r2 r1 se sd room ⟨.bl _, H, I, rfl, q⟩
  | false =>
    obtain ⟨bs, r2⟩ := Dp.reads I (.list ds) y u he ry
    exact SeqAt.notIn_list_reads r2 r1 se sd room ⟨.bl _, H, I, rfl, q⟩
end Ind

/-! l.count(x), x in l told of data. -/
namespace L2
open PySem PySem.Spec PyProof.Rows
section
variable {X : Cx}
def rCntD (K : PySem.W.Frag) : V → List V → Hp → VK → Prop := fun x xs H Q => ∃ (a : Addr) (y : V) (d : PyData) (ds : List PyData), x = V.ref a ∧ xs = [y] ∧ Dp K H (V.ref a) (.list ds) ∧ Dp K H y d ∧
  PyData.plainAll ds = true ∧ d.plain = true ∧ d.depth ≤ 60 ∧ Q (.int (ds.countP fun z => PyData.eqv z d : Nat)) H
theorem mt_countD (hu : X.A.units + 65 < cLine) : MtR X "list.count" (rCntD X.K) := by
  intro pins s σ H x xs v us Q I rx rxs h
  obtain ⟨a, y, d, ds, rfl, rfl, hl, hy, sl, sd, dd, q⟩ := h
  cases hl with
  | lst hs hd =>
    cases rx
    obtain ⟨u, rfl, ru⟩ := rxs.one
    obtain ⟨its, rv, hl, hz⟩ := I.list hs
    obtain ⟨as, r1⟩ := Dp.readsAll I ds _ its hd rv
    obtain ⟨bs, r2⟩ := Dp.reads I d y u hy ru
    refine PySem.SeqAt.count_list_data hl.isList r1 r2 sl sd ?_ ⟨.int _, H, I.tok _, ⟨_, rfl⟩, q⟩
    have := Nat.min_le_right (PyData.depthAll ds) d.depth
    omega
end
end L2
/-! One of two readings of what a for walks. -/
namespace L2
open PySem PySem.Spec PyProof.Rows
theorem pi_or {X : Cx} {tg e : Expr} {t u : TI} (h : PI X tg e t) (g : PI X tg e u) : PI X tg e (fun σ H R => t σ H R ∨ u σ H R) :=
  ⟨fun pins s σ H R I z => z.elim (fun z => h.run pins s σ H R I z) fun z => g.run pins s σ H R I z⟩
end L2
/-! tuple * 0, tuple * 1; tuple * n. -/
namespace L2
open PySem PySem.Spec PyProof.Rows
theorem tuple_mul0 (l : Addr) (items : Array Value) (n : Nat) (dd : Option Addr) (sl : Array (Option Value)) (u : Tok) (c1 : items.isEmpty = false) :
    Meets (Builtin.«tuple.__mul__» ⟨[.ref l, .int 0 u], []⟩) (fun _ R s => s.heap.get? l = some { cls := .type "tuple", dict := dd, data := .seq items n, slots := sl } ∧
      R (.ok (.ret (Value.ref s.heap.objs.size))) { s with heap := s.heap.push { cls := Value.type "tuple", data := Data.seq #[] }, toks := s.toks }) :=
  .of_wp fun prog w A R s h => by
    obtain ⟨hp, g, d, tk, os⟩ := s
    obtain ⟨hl, h⟩ := h
    have f1 := AutoSeq1.idx_int
    have c2 : (items.isEmpty || (0 : Int) == 1) = false := by rw [c1]; rfl
    wp_walk using wpAny_loadPart' hl
    repeat (first
      | (refine wpAny_ite_false (decide_eq_false (by rw [c2]; exact Bool.false_ne_true)) ?_; wp_walk using wpAny_loadPart' hl)
      | (refine wpAny_ite_true (by simp) ?_; wp_walk using wpAny_loadPart' hl))
    exact ⟨_, rfl, h⟩
theorem tuple_mul1 (l : Addr) (items : Array Value) (n : Nat) (dd : Option Addr) (sl : Array (Option Value)) (u : Tok) :
    Meets (Builtin.«tuple.__mul__» ⟨[.ref l, .int 1 u], []⟩) (fun _ R s => s.heap.get? l = some { cls := .type "tuple", dict := dd, data := .seq items n, slots := sl } ∧
      R (.ok (.ret (Value.ref l))) s) :=
  .of_wp fun prog w A R s h => by
    obtain ⟨hp, g, d, tk, os⟩ := s
    obtain ⟨hl, h⟩ := h
    have f1 := AutoSeq1.idx_int
    wp_walk using wpAny_loadPart' hl
    repeat (first
      | (refine wpAny_ite_true (by simp) ?_; wp_walk using wpAny_loadPart' hl)
      | (refine wpAny_ite_false (by simp) ?_; wp_walk using wpAny_loadPart' hl))
    exact ⟨_, rfl, h⟩
def rRepTA (K : PySem.W.Frag) : R2 := fun x y H Q => ∃ l k xs, x = .ref l ∧ y = .int k ∧ SqT K H l xs ∧ xs ≠ [] ∧ 0 ≤ k ∧ k ≤ 1000 ∧ xs.length ≤ 1000 ∧ (k = 1 → Q (.ref l) H) ∧ (k ≠ 1 → ∀ p, H p = none → Q (.ref p) (upd H p (.tup (List.replicate k.toNat xs).flatten)))
section
variable {X : Cx}
theorem op_repTA : OpR X (binaryOp .Mult) (rRepTA X.K) := by
  intro pins s σ H x y v u Q I rx ry h
  obtain ⟨l, k, xs, rfl, rfl, hT, hne, h1, h2, hz, q1, q2⟩ := h
  by_cases k2 : 2 ≤ k
  · exact op_repT pins s σ H _ _ v u Q I rx ry ⟨l, k, xs, rfl, rfl, hT, hne, k2, h2, hz, q2 (by omega)⟩
  cases rx
  obtain ⟨t, rfl⟩ := ry
  obtain ⟨its, r, ⟨⟨cls, dd, data, sl⟩, ho, hc, n, hd⟩, hs⟩ := I.tuple hT
  simp only at hc hd
  subst hc hd
  have hle : its.length = xs.length := r.length.symm
  have hn : its ≠ [] := fun e => hne (by
    rw [e] at hle
    exact List.eq_nil_of_length_eq_zero hle.symm)
  have hi : its.toArray.isEmpty = false := by
    cases its with
    | nil => exact absurd rfl hn
    | cons a b => rfl
  have kk : k = 0 ∨ k = 1 := by omega
  rcases kk with rfl | rfl
  · refine wpAny_binaryOp_repeat_ref (T := "tuple") (U := "int") (by decide) ⟨_, ho, rfl⟩ (fun s' => typeIs_int s' 0 t) noFill_tuple_mul F.fills_int_mul F.slot_int_rmul repeat_tuple F.slot_int_index.lookup
      (call_meets F.slot_int_rmul (typeIs_int s 0 t) F.entry_int_rmul (F.args_int_rmul_2 _ _) (int_rmul_tuple 0 t l its.toArray n dd sl)
        ⟨ho, rfl, ⟨_, ho, rfl⟩, call_meets F.slot_tuple_mul ⟨_, ho, rfl⟩ F.entry_tuple_mul (F.args_tuple_mul_2 _ _) (tuple_mul0 l its.toArray n dd sl t hi) ⟨ho, ?_⟩⟩)
    refine ⟨.ref s.heap.objs.size, _, I.laid (t' := s.toks) (o := .tup []) (fun b ob q => Heap.get?_push_of_some _ q) (Nat.le_refl _) ?_, rfl, q2 (by decide) _ (I.hok.fresh (Nat.le_refl _))⟩
    exact ⟨by rw [sizeLine_eq]; exact Nat.zero_le _, _, .nil, IsTup.new _ _⟩
  · refine wpAny_binaryOp_repeat_ref (T := "tuple") (U := "int") (by decide) ⟨_, ho, rfl⟩ (fun s' => typeIs_int s' 1 t) noFill_tuple_mul F.fills_int_mul F.slot_int_rmul repeat_tuple F.slot_int_index.lookup
      (call_meets F.slot_int_rmul (typeIs_int s 1 t) F.entry_int_rmul (F.args_int_rmul_2 _ _) (int_rmul_tuple 1 t l its.toArray n dd sl)
        ⟨ho, rfl, ⟨_, ho, rfl⟩, call_meets F.slot_tuple_mul ⟨_, ho, rfl⟩ F.entry_tuple_mul (F.args_tuple_mul_2 _ _) (tuple_mul1 l its.toArray n dd sl t) ⟨ho, ?_⟩⟩)
    exact ⟨.ref l, H, I.tok _, rfl, q1 rfl⟩
end
end L2
/-! An attribute as one target of several: self.f, x = a pair. -/
namespace L2
open PySem PySem.Spec PyProof.Rows
section
variable {X : Cx} {pos : Pos}
def gFld (K : PySem.W.Frag) (ta : TE) (f : Str) : TG := fun v σ H Q => ta σ H fun x H1 => ∃ a C dx fs, x = .ref a ∧ H1 a = some (.ins C dx fs) ∧ Cls K C ∧ NoAttr K C f ∧ fs.length < 1000 ∧ Q σ (upd H1 a (.ins C dx (putF f v fs)))
theorem pg_fld {o : Expr} {f : Str} {ta : TE} (ha : PE X o ta) : PG X (.Attribute o f pos) (gFld X.K ta f) := by
  refine ⟨fun pins s σ H v u Q I r h => ?_⟩
  have run : wpAny (model X.prog X.w) X.A (eval o X.env) (fun ov s₂ => wpAny (model X.prog X.w) X.A (setAttr ov f u) (fun _ s' => ∃ σ' H', Inv X pins σ' H' s' ∧ Q σ' H') X.xe s₂) X.xe s := thn (ha.run pins s σ H _ I h) fun ov s2 ⟨x, H2, I2, rx, a, C, dx, fs, ex, ea, c, n, l, q2⟩ => by
    subst ex
    obtain rfl : ov = Value.ref a := rx
    exact setattr_ok I2 ea c n l r fun s3 I3 => ⟨σ, _, I3, q2⟩
  intro Γ p hΓ
  simp only [assign_Attribute, Sem.wp_bind', Sem.wp_holding, Sem.wp_cmd_standAt, Sem.wp_release, Sem.wp_pure']
  exact Sem.wp_mono _ Γ _ (fun ov p2 s₂ h₂ => Sem.wp_mono _ Γ _ (fun _ _ _ h' => h') (fun _ _ _ h' => h') _ _ (h₂ Γ _ hΓ)) (fun _ _ _ h' => h') _ _ (run Γ _ hΓ)
end
end L2

/-! len of a set of ints whose members are told by a list. -/
namespace Lns
open PySem PySem.Spec PyProof.Rows L2
theorem nodup_le : ∀ {l m : List Int}, l.Nodup → (∀ k ∈ l, k ∈ m) → l.length ≤ m.length
  | [], m, _, _ => Nat.zero_le _
  | x :: l, m, nd, h => by
    rw [List.nodup_cons] at nd
    have mx := h x List.mem_cons_self
    have ih := nodup_le (m := m.erase x) nd.2 fun k hk => (List.mem_erase_of_ne (by intro e; rw [e] at hk; exact nd.1 hk)).mpr (h k (List.mem_cons_of_mem _ hk))
    rw [List.length_erase_of_mem mx] at ih
    have := List.length_pos_of_mem mx
    rw [List.length_cons]
    omega
def rLenN (w : World) : List V → Hp → VK → Prop := fun xs H Q => ∃ a S n, ∃ L : List Int, xs = [V.ref a] ∧ H a = some (SetO w a S n) ∧ n ≤ 4000 ∧ L.Nodup ∧ (∀ k, S k = true ↔ k ∈ L) ∧ Q (.int (L.length : Nat)) H
theorem call_lenN {X : Cx} : CallR X (.builtin "len") (rLenN X.w) := by
  intro pins s σ H xs us Q I r h
  obtain ⟨a, S, n, L, rfl, ha, hn, nd, hS, k⟩ := h
  obtain ⟨u, rfl, ru⟩ := r.one
  cases (show u = Value.ref a from ru)
  obtain ⟨o, es, ep, t, ho, hx, hd, g, knd, mem, bd, fit, num, _⟩ := setO_get I ha
  have el : es.size = L.length := by
    have e1 : (es.toList.map keyOf).length = es.size := by rw [List.length_map, Array.length_toList]
    have a1 := nodup_le (m := L) knd fun k hk => (hS k).mp ((mem k).mpr hk)
    have a2 := nodup_le (m := es.toList.map keyOf) nd fun k hk => (mem k).mp ((hS k).mpr hk)
    omega
  refine call_len_set ho hx hd fit (by omega) ?_
  rw [el]
  exact ⟨.int L.length, H, (I.tok _).tok _, ⟨_, rfl⟩, k⟩
end Lns

/-! repr of data, and defs that are called where no repr is under way. -/
namespace Rp
open PySem PySem.Spec PyProof.Rows L2
section
variable {X : Cx}
def rRepr (K : PySem.W.Frag) : List V → Hp → VK → Prop := fun xs H Q => ∃ x d, xs = [x] ∧ Dp K H x d ∧ d.showable = true ∧ d.hasDict = false ∧ d.depth ≤ 60 ∧ d.shown.length ≤ sizeLine ∧ Q (.str d.shown) H
theorem call_reprD (hg : X.A.guards = some []) (hu : X.A.units + 64 < cLine) : CallR X (.builtin "repr") (rRepr X.K) := by
  intro pins s σ H xs us Q I r h
  obtain ⟨x, d, rfl, hd, hs, hn, hz, hl, q⟩ := h
  cases r with
  | cons rx rn =>
    cases rn
    obtain ⟨as, rd⟩ := Dp.reads I d x _ hd rx
    cases rd with
    | none => exact PySem.P.repr_of_none ⟨.str _, H, I.tok _, ⟨_, rfl⟩, q⟩
    | bool b => exact PySem.P.repr_of_bool ⟨.str _, H, I.tok _, ⟨_, rfl⟩, q⟩
    | int i t => exact PySem.P.repr_of_int (of_decide_eq_true hs) ⟨.str _, H, I.tok _, ⟨_, rfl⟩, q⟩
    | str z t => exact PySem.P.repr_of_str (hsz := hl) ⟨.str _, H, I.tok _, ⟨_, rfl⟩, q⟩
    | list h1 h2 h3 h4 =>
      exact PySem.repr_of_reads' (.list h1 h2 h3 h4) hs (fun e => by rw [hn] at e; cases e) hg (by omega) (fun _ _ e => e) (fun g u tk k => ⟨.str _, H, I.kept (t' := tk) k, ⟨_, rfl⟩, q⟩) hl
    | tuple h1 h2 h3 h4 =>
      exact PySem.repr_of_reads' (.tuple h1 h2 h3 h4) hs (fun e => by rw [hn] at e; cases e) hg (by omega) (fun _ _ e => e) (fun g u tk k => ⟨.str _, H, I.kept (t' := tk) k, ⟨_, rfl⟩, q⟩) hl
    | dict => cases hd
end
/-- as FnOk, where no repr is under way -/
structure GOk (P : Program) (w : World) (K : PySem.W.Frag) (mg : Str → Option Value) (base : Heap) (CX : CXT) (k : Nat) (f : Addr) (fd : FuncData) (ps : List Str) (sp : Sp) : Prop where
  len : ∀ vs H Q E, sp vs H Q E → vs.length = ps.length
  run : ∀ (A : Around) (outer : List Env) (s : Shared) (H : Hp) (args : Args) (us : List Value) (vs : List V) (Q : VK) (E : XK), Room k A → A.guards = some [] → Env0 P w K mg base A outer s H → BindsTo s fd args (ps.zip us) → Vals vs us → sp vs H Q E →
    codeAny (model P w) A (.call (.ref f) args) (CR CX outer P w H s Q E) s
section
variable {CX : CXT} {P : Program} {w : World} {K : PySem.W.Frag} {mg : Str → Option Value} {base : Heap} {k : Nat} {f : Addr} {fd : FuncData} {ps : List Str} {sp : Sp}
theorem GOk.of (F : FnOk P w K mg base CX k f fd ps sp) : GOk P w K mg base CX k f fd ps sp := ⟨F.len, fun A outer s H args us vs Q E hr _ => F.run A outer s H args us vs Q E hr⟩
theorem GOk.mono {j : Nat} (F : GOk P w K mg base CX j f fd ps sp) (h : j ≤ k) : GOk P w K mg base CX k f fd ps sp := ⟨F.len, fun A outer s H args us vs Q E hr => F.run A outer s H args us vs Q E (hr.mono h)⟩
theorem gfn_of {name qual : Str} {params : Arguments} {body : List Stmt} {scope : Scope} {dV kV doc pm cdv ct oc : Value} {an od : Option Addr} {osl : Array (Option Value)} {N : List Str}
    (lk : K.lookup f = some ⟨oc, od, .func (PySem.W.fnOf name qual params body scope dV kV doc pm an cdv ct), osl⟩) (hcd : PySem.W.codeIn K cdv qual = true) (S : FnScope N ps scope)
    (len : ∀ vs H Q E, sp vs H Q E → vs.length = ps.length)
    (hbody : ∀ (A : Around) (outer : List Env) (s : Shared) (H : Hp) (vs : List V) (Q : VK) (E : XK), A.guards = some [] → Room k (A.deeper (envOfC qual scope s.heap.objs.size f cdv)) → sp vs H Q E →
      ∃ t, PSs (cxOf CX P w K mg base N qual scope f cdv A outer s H E) body t ∧ t { nx := fun _ H' => Q .non H', rt := Q } (start N vs) H) :
    GOk P w K mg base CX (k + 1) f (PySem.W.fnOf name qual params body scope dV kV doc pm an cdv ct) ps sp := by
  refine ⟨len, fun A outer s H args us vs Q E hr hg e0 hb r hsp => ?_⟩
  have nl := len _ _ _ _ hsp
  have old : ∀ b o, base.get? b = some o → s.heap.get? b = some o := fun b o e => (e0.bs b o e).1
  have KX : K.In s.heap := e0.mod.kin.keeps old
  have lim : s.heap.NoLimit := e0.mod.nolimit.keeps old
  have kinds : ∀ y ∈ ps.zip us, scope.names.lookup y.1 = some .local ∨ (scope.names.lookup y.1 = some .cell ∧ ((cellsFrom (s.heap.objs.size + 1) scope.names []).lookup y.1).isSome = true) := fun ⟨n, v⟩ hy =>
    (S.par n (List.of_mem_zip hy).1).imp id fun q => ⟨q, PySem.W.cellsFrom_some _ _ _ (.inl q)⟩
  refine codeAny_call_function hr.depth (KX _ _ lk) rfl S.co S.gen rfl (PySem.W.codeRec_of KX hcd) (hb _ _ _ _ ?_)
  refine wpAny_newFunctionEnv_cells S.kind kinds fun env ee s1 x => ?_
  subst ee
  refine ⟨lim.keeps x.toInCall.keep, codeAny_func ?_⟩
  obtain ⟨t, ht, hq⟩ := hbody A outer s H vs Q E hg (hr.deeper _) hsp
  have I0 : Inv (cxOf CX P w K mg base N qual scope f cdv A outer s H E) [] (start N vs) H s1 := inv_start S hr.hd e0 nl r x
  refine wpAny_mono (ht.run [] s1 (start N vs) H _ I0 hq) (fun fl s' hs => ?_) fun e s' hs => hs
  cases fl with
  | ret u =>
    obtain ⟨v, σ', H', J, rv, q⟩ := hs
    exact ⟨v, H', J.os, J.bare, J.base, J.hok, rv, q⟩
  | next =>
    obtain ⟨σ', H', J, q⟩ := hs
    exact ⟨V.non, H', J.os, J.bare, J.base, J.hok, rfl, q⟩
  | brk =>
    obtain ⟨_, _, _, q⟩ := hs
    exact q.elim
  | cont =>
    obtain ⟨_, _, _, q⟩ := hs
    exact q.elim
theorem gok {x qual : Str} {st : Stmt} {N : List Str} (F : Fun K x qual st f fd) (S : FnScope N ps (defScope st)) (len : ∀ vs H Q E, sp vs H Q E → vs.length = ps.length)
    (hbody : ∀ (cdv : Value) (A : Around) (outer : List Env) (s : Shared) (H : Hp) (vs : List V) (Q : VK) (E : XK), A.guards = some [] → Room k (A.deeper (envOfC qual (defScope st) s.heap.objs.size f cdv)) → sp vs H Q E →
      ∃ t, PSs (cxOf CX0 P w K mg base N qual (defScope st) f cdv A outer s H E).nox (defBody st) t ∧ t { nx := fun _ H' => Q .non H', rt := Q } (start N vs) H) : GOk P w K mg base CX0 (k + 1) f fd ps sp := by
  obtain ⟨oc, od, kV, doc, pm, an, cdv, ct, osl, rfl, lk, hcd⟩ := F.ex
  refine gfn_of lk hcd S len fun A outer s H vs Q E hg hr hsp => ?_
  obtain ⟨t, h, q⟩ := hbody cdv A outer s H vs Q E hg hr hsp
  exact ⟨t, h.nox, q⟩
end
section
variable {X : Cx} {CX : CXT} {k : Nat} {f : Addr} {fd : FuncData} {ps : List Str} {sp : Sp} {E : XK} {ds : List Value} {dvs : List V} {x : Str} {e : Expr} {es : List Expr} {t : TA} {p pos : Pos}
theorem pe_gcall (F : GOk X.prog X.w X.K X.mg X.base CX k f fd ps sp) (gd : X.A.guards = some []) (hr : Room k X.A) (hg : Gl X x) (hm : X.mg x = some (.ref f)) (hk : PySem.W.keepIn X.K (.ref f) = true) (hb : Binds X.K fd ps ds) (hd : Vals dvs ds) (hx : Passes CX X E)
    (ha : PA X (e :: es) t) (hdb : (x == ("__debug__" : Str)) = false := by decide) (he : starEach (e :: es) X.env = (false, eval e X.env) :: starEach es X.env := by rfl) (hpl : (backTo pos (starEach es X.env)).any (·.1) = false := by rfl) :
    PE X (.Call (.Name x p) (e :: es) [] pos) (tCall sp dvs E t) := by
  refine ⟨fun pins s σ H Q I h => ?_⟩
  refine wpAny_Call_Name_kw (ld_glob I hg hm ?_ hdb)
  refine PySem.W.callWith_K (h₀ := X.base) I.ok.mod.kin hk (thn (ha.run pos pins s σ H _ I h) fun us s1 ⟨vs, H1, I1, r, q⟩ => ⟨I1.kIn, ?_⟩) he hpl
  have r2 : Vals (vs ++ dvs) (us ++ ds) := r.append hd
  have nl : (us ++ ds).length = ps.length := r2.length.symm.trans (F.len _ _ _ _ q)
  refine wpAny_call (codeAny_mono (F.run X.A X.stack s1 H1 ⟨us, []⟩ (us ++ ds) (vs ++ dvs) Q E hr gd I1.env0 (hb s1 us I1.kIn nl) r2 q) fun res s' hq => ?_)
  cases res with
  | error z => exact hx pins σ H1 s1 z s' I1 hq
  | ok fl =>
    cases fl with
    | ret u => exact I1.after hq
    | next => exact hq.elim
    | brk => exact hq.elim
    | cont => exact hq.elim
end
end Rp
/-! The law's own call, of a def that is called where no repr is under way. -/
namespace Rp
open PySem PySem.Spec PyProof.Rows L2
theorem law_gcall {P : Program} {w : World} {K : PySem.W.Frag} {mg mb : Str → Option Value} {CX : CXT} {k : Nat} {fa a : Addr} {fd : FuncData} {x : Str} {sp : Sp} {s1 : Shared} {vs : List Value} {ns : List Int}
    (KX : K.In s1.heap) (hns : s1.heap.Ns mainGlobals mg) (hb : s1.heap.Ns builtinsNs mb) (hbb : ∀ y : Str, y ≠ "__name__" → mb y = bootBuiltins y) (lim : s1.heap.NoLimit) (gens : s1.gens = #[])
    (ha : s1.heap.get? a = some { cls := .type "list", data := .seq vs.toArray }) (hi : IntsAre vs ns) (hl : ns.length ≤ sizeLine) (hr : Room k callerA)
    (F : ∀ base : Heap, K.In base → base.Ns mainGlobals mg → GOk P w K mg base CX k fa fd [x] sp) (hbind : ∀ (s : Shared) (u : Value), BindsTo s fd ⟨[u], []⟩ [(x, u)])
    (hsp : ∀ H : Hp, Only H → SqL K H a (ns.map V.int) → sp [.ref a] H (fun v _ => v = .bl true) fun _ _ _ => False)
    (hCX : ∀ H e t, CX [] H s1 (fun _ _ _ => False) e t → False) :
    codeAny (model P w) callerA (.call (.ref fa) ⟨[.ref a], []⟩) (fun r t => r = .ok (.ret (.bool true)) ∧ OldK s1.heap t.heap ∧ t.os = s1.os ∧ AllBare t.gens) s1 := by
  have rv := vals_ints hi
  have nv := hi.length
  have go : ∀ H : Hp, Only H → SqL K H a (ns.map V.int) → HOk P w H s1.heap → (∀ b, H b ≠ none → b = a) → (H a ≠ none → K.lookup a = none) →
      codeAny (model P w) callerA (.call (.ref fa) ⟨[.ref a], []⟩) (fun r t => r = .ok (.ret (.bool true)) ∧ OldK s1.heap t.heap ∧ t.os = s1.os ∧ AllBare t.gens) s1 := by
    intro H hO hS hok only_a noK
    have hid : ∀ {b : Addr} {o : Obj}, s1.heap.get? b = some o → H b = none → (hidT s1.heap H).get? b = some o := fun e n => hidT_get e n
    have dictFree : ∀ {b : Addr} {o : Obj} {es : Array DictEntry} {ep : Nat}, s1.heap.get? b = some o → o.data = .dict es ep → H b = none := fun {b o es ep} e d => by
      cases q : H b with
      | none => rfl
      | some u =>
        have eb : b = a := only_a b (by rw [q]; simp)
        subst eb
        rw [ha] at e
        cases e
        have d2 : Data.seq vs.toArray _ = Data.dict es ep := d
        cases d2
    have nsOf : ∀ {b : Addr} {m : Str → Option Value}, s1.heap.Ns b m → (hidT s1.heap H).Ns b m := fun {b m} ⟨o, es, ep, e, d, r⟩ => ⟨o, es, ep, hid e (dictFree e d), d, r⟩
    have inB : K.In (hidT s1.heap H) := fun b o e => hid (KX b o e) (by
      cases q : H b with
      | none => rfl
      | some u =>
        have eb : b = a := only_a b (by rw [q]; simp)
        subst eb
        rw [noK (by rw [q]; simp)] at e
        cases e)
    have md : Mod K mg (hidT s1.heap H) := ⟨inB, nsOf hns, ⟨mb, nsOf hb, hbb⟩, let ⟨mc, c1, c2⟩ := lim; ⟨mc, nsOf c1, c2⟩⟩
    have e0 : Env0 P w K mg (hidT s1.heap H) callerA [] s1 H := ⟨rfl, md, fun b o e => of_hidT e, Nat.le_of_eq (hidT_size _ _), trivial, fun b hb => absurd (show b ∈ ([] : List Addr) from hb) (by simp), hok, .of_eq gens⟩
    refine codeAny_mono ((F _ inB (nsOf hns)).run callerA [] s1 H ⟨[.ref a], []⟩ [.ref a] [.ref a] _ _ hr rfl e0 (hbind s1 (.ref a)) (.cons rfl .nil) (hsp H hO hS)) fun r t h => ?_
    cases r with
    | error e => exact (hCX H e t h).elim
    | ok fl =>
      cases fl with
      | next => exact h.elim
      | brk => exact h.elim
      | cont => exact h.elim
      | ret u =>
        obtain ⟨v, H', os, bare, un, hok', r', q⟩ := h
        have q' : v = .bl true := q
        subst q'
        obtain rfl : u = Value.bool true := r'
        refine ⟨rfl, OldK.of_keep fun b o e => ?_, os, bare⟩
        cases q : H b with
        | none => exact un.keep b o e q (by intro z; exact absurd (show b ∈ ([] : List Addr) from z) (by simp)) (by simp)
        | some u =>
          rcases hO b with z | ⟨ob, xs, z⟩
          · rw [q] at z
            cases z
          · have z2 := un.frzs b ob _ z
            obtain ⟨e1, _⟩ := hok b _ z
            obtain ⟨e2, _⟩ := hok' b _ z2
            rw [e] at e1
            cases e1
            exact e2
  cases hk : K.lookup a with
  | some o =>
    have e := KX a o hk
    rw [ha] at e
    cases e
    refine go (fun _ => none) (fun _ => .inl rfl) (.inr ⟨_, vs.toArray, _, hk, rfl, rfl, rfl, by rw [List.size_toArray, nv]; exact hl, by simpa using rv⟩) (fun b u z => by have z' : (none : Option HO) = some u := z; cases z') (fun b z => absurd rfl z) fun z => absurd rfl z
  | none =>
    refine go (fun b => if b = a then some (.frz { cls := .type "list", data := .seq vs.toArray } (.lst (ns.map V.int))) else none) (fun b => ?_) (.inl (.inr ⟨{ cls := .type "list", data := .seq vs.toArray }, if_pos rfl⟩)) (fun b u z => ?_) (fun b z => ?_) fun _ => hk
    · by_cases c : b = a
      · exact .inr ⟨_, _, if_pos c⟩
      · exact .inl (if_neg c)
    · by_cases c : b = a
      · have z' := (if_pos c).symm.trans z
        cases z'
        subst c
        exact ⟨ha, by rw [List.length_map]; exact hl, vs, _, rv, ha⟩
      · have z' := (if_neg c).symm.trans z
        cases z'
    · by_cases c : b = a
      · exact c
      · exact absurd (if_neg c) z
theorem walk_gof {l : PySem.W.OpenLaw} {n k : Nat} {q : Program} {loose : List Str} {XP : (Str → Option Value) → Heap → Prop} {YP : World → Heap → Prop} {d : DefRec} {K : Params → PySem.W.Frag} {CX : World → CXT} {sp : World → Sp} {x : Str}
    (hn : l.most = some n) (hn2 : n ≤ sizeLine) (hdf : d.params.defaults = []) (hr : Room k callerA)
    (hY : ∀ (w : World) (h : Heap), YP w h → (K w.params).In h)
    (F : ∀ (w : World) (mg : Str → Option Value) (fa : Addr) (h : Heap), (K w.params).In h → h.Ns mainGlobals mg → mg d.name = some (.ref fa) →
      ∃ fd : FuncData, (∀ (s : Shared) (u : Value), BindsTo s fd ⟨[u], []⟩ [(x, u)]) ∧
        ∀ base : Heap, (K w.params).In base → base.Ns mainGlobals mg → GOk l.prog w (K w.params) mg base (CX w) k fa fd [x] (sp w))
    (hsp : ∀ (w : World) (H : Hp) (a : Addr) (ns : List Int), ns.length ≤ n → Only H → SqL (K w.params) H a (ns.map V.int) → sp w [.ref a] H (fun v _ => v = .bl true) fun _ _ _ => False)
    (hCX : ∀ (w : World) (H : Hp) (s : Shared) (e : Value) (t : Shared), CX w [] H s (fun _ _ _ => False) e t → False) :
    PySem.W.WalkO q loose XP YP l.row.toRowW d [] (fun f vs => PySem.call f vs) := by
  refine Att.attach_call hn hdf fun w s0 s1 mg mb fa o pm cd doc a vs ns G Y ho hd hcd hmg hobj hints hlen hg => ?_
  have KX := hY w _ Y
  obtain ⟨fd, hb, hF⟩ := F w mg fa _ KX G.T.g hmg
  exact law_gcall KX G.T.g G.T.b G.T.builtins G.T.nolimit hg hobj hints (Nat.le_trans hlen hn2) hr hF hb (fun H hO hS => hsp w H a ns hlen hO hS) fun H e t => hCX w H s1 e t
end Rp

/-! tuple(list) with its own object told; methods of such a tuple (t.index). -/
namespace Tf
open PySem PySem.Spec PyProof.Rows L2
/-- a tuple whose own object is known: it has no dict -/
def TF (H : Hp) (p : Addr) (xs : List V) : Prop := ∃ ob, H p = some (.frz ob (.tup xs)) ∧ ob.dict = none
theorem TF.sq {K : PySem.W.Frag} {H : Hp} {p : Addr} {xs : List V} (h : TF H p xs) : SqT K H p xs := let ⟨ob, e, _⟩ := h; .inl (.inr ⟨ob, e⟩)
theorem TF.k {H H' : Hp} {p : Addr} {xs : List V} (h : TF H p xs) (s : Same H H') : TF H' p xs := let ⟨ob, e, d⟩ := h; ⟨ob, s _ _ e, d⟩
section
variable {X : Cx}
def rTupF (K : PySem.W.Frag) : List V → Hp → VK → Prop := fun vs H Q => ∃ p ys, vs = [.ref p] ∧ SqL K H p ys ∧ ∀ l ob, H l = none → ob.dict = none → Q (.ref l) (upd H l (.frz ob (.tup ys)))
theorem call_tupF : CallR X (.type "tuple") (rTupF X.K) := by
  intro pins s σ H xs us Q I r h
  obtain ⟨p, ys, rfl, hq, q⟩ := h
  obtain ⟨u, rfl, rx⟩ := r.one
  cases rx
  obtain ⟨its, r', pl, hz⟩ := I.list hq
  have hlen := r'.length
  refine call_tuple_list pl.isList (fun h' kp => ?_) (by simp only [List.size_toArray] <;> omega)
  have I1 : Inv X pins σ H { s with heap := h' } := I.kept (t' := s.toks) kp
  have I2 : Inv X pins σ (upd H h'.objs.size (.frz { cls := .type "tuple", data := .seq its.toArray } (.tup ys))) { s with heap := h'.push { cls := .type "tuple", data := .seq its.toArray } } :=
    I1.laid (t' := s.toks) (fun b o e => Heap.get?_push_of_some _ e) (Nat.le_refl _) (show ObjOk X.prog X.w _ _ _ (.frz _ (.tup ys)) from ⟨Heap.get?_push_size _ rfl, hz, its, r', IsTup.new _ _⟩)
  exact ⟨.ref h'.objs.size, _, I2, rfl, q _ _ (I1.hok.fresh (Nat.le_refl _)) rfl⟩
variable {T id : String} {name : Str} {o e : Expr} {es : List Expr} {apos cpos : Pos} {r : V → List V → Hp → VK → Prop} {to : TE} {t : TA}
def tBMF (r : V → List V → Hp → VK → Prop) (to : TE) (t : TA) : TE := fun σ H Q => to σ H fun x H1 => (∃ p xs, x = .ref p ∧ TF H1 p xs) ∧ t σ H1 fun vs H2 => r x vs H2 Q
theorem pe_bmF (pa : PlainAttrs "tuple") (slot : Slot "tuple" name id) (hty : typeOf (.builtin id) = pure (.type "method_descriptor")) (hm : MtR X id r) (ho : PE X o to) (ha : PA X (e :: es) t)
    (hbase : attributeBase o name X.env (eval o X.env) = eval o X.env := by rfl)
    (hfew : ((backTo cpos (starEach (e :: es) X.env)).all (fun x => !x.1) && (backToKw cpos (keywordEach [] X.env)).all (fun x => x.1.isSome)
      && decide ((e :: es).length + ([] : List Keyword).length + (if ([] : List Keyword).isEmpty then 0 else 1) < 30)) = true := by rfl)
    (hline : (apos.endLine == cpos.line) = true := by rfl) (hs : starEach (e :: es) X.env = (false, eval e X.env) :: starEach es X.env := by rfl) (hplain : (backTo cpos (starEach es X.env)).any (·.1) = false := by rfl) :
    PE X (.Call (.Attribute o name apos) (e :: es) [] cpos) (tBMF r to t) := by
  refine ⟨fun pins s σ H Q I h => ?_⟩
  refine wpAny_Call_method_late hbase hfew hline rfl (thn (ho.run pins s σ H _ I h) fun v s1 ⟨x, H1, I1, r1, ty, q1⟩ => ?_)
  obtain ⟨p, xs, rfl, ob, hp, hd⟩ := ty
  cases r1
  obtain ⟨hg, hok⟩ := I1.hok p _ hp
  obtain ⟨_, its, _, o2, ho2, hc2, _⟩ := hok
  rw [hg] at ho2
  cases ho2
  refine ⟨"tuple", id, pa, slot, hty, ⟨ob, hg, hc2⟩, fun a e => by cases e; exact ⟨ob, hg, hd⟩, ?_⟩
  have hA := ha.run cpos pins s1 σ H1 _ I1 q1
  rw [hs] at hA ⊢
  refine Calls.callWith_builtin (by show (false || (backTo cpos (starEach es X.env)).any (·.1)) = false; rw [hplain] <;> rfl) (Calls.evalArgs_plain ?_)
  exact thn hA fun us s2 ⟨vs, H2, I2, r2, q2⟩ => hm pins s2 σ H2 (V.ref p) vs _ us Q I2 rfl r2 q2
end
end Tf

/-! Dicts whose keys are tuples of any depth (of ints and texts): in, not in, d[k], d[k] = v, {k: v}. -/
namespace Nd
open PySem PySem.Spec PyProof.Rows L2 Dv
mutual
def toKey : PyData → NestedKey
  | .int i => .num i
  | .str x => .text x
  | .tuple ds => .tup (toKeys ds)
  | .none => .none
  | .bool _ => .none
  | .list _ => .none
  | .dict _ => .none
def toKeys : List PyData → List NestedKey
  | [] => []
  | d :: ds => toKey d :: toKeys ds
end
mutual
theorem depth_le : ∀ d : PyData, (toKey d).depth ≤ d.depth
  | .int _ => by simp [toKey, NestedKey.depth]
  | .str _ => by simp [toKey, NestedKey.depth]
  | .none => by simp [toKey, NestedKey.depth]
  | .bool _ => by simp [toKey, NestedKey.depth]
  | .list _ => by simp [toKey, NestedKey.depth]
  | .dict _ => by simp [toKey, NestedKey.depth]
  | .tuple ds => by
    have := depths_le ds
    simp only [toKey, NestedKey.depth, PyData.depth]
    omega
theorem depths_le : ∀ ds : List PyData, NestedKey.depthAll (toKeys ds) ≤ PyData.depthAll ds
  | [] => by simp [toKeys, NestedKey.depthAll]
  | d :: ds => by
    have a := depth_le d
    have b := depths_le ds
    simp only [toKeys, NestedKey.depthAll, PyData.depthAll]
    omega
end
section
variable {K : PySem.W.Frag} {H H2 : Hp}
mutual
theorem key_inj : ∀ (d e : PyData) (v u : V), Dt K H v d → Dt K H2 u e → toKey d = toKey e → d = e
  | .int i, e, _, _, _, he, q => by
    cases he with
    | int j => simp only [toKey, NestedKey.num.injEq] at q; rw [q]
    | str y => simp [toKey] at q
    | tup a b => simp [toKey] at q
  | .str x, e, _, _, _, he, q => by
    cases he with
    | int j => simp [toKey] at q
    | str y => simp only [toKey, NestedKey.text.injEq] at q; rw [q]
    | tup a b => simp [toKey] at q
  | .tuple ds, e, _, _, hd, he, q => by
    cases he with
    | int j => simp [toKey] at q
    | str y => simp [toKey] at q
    | tup a b =>
      cases hd with
      | tup a2 b2 =>
        simp only [toKey, NestedKey.tup.injEq] at q
        rw [keys_inj ds _ _ _ b2 b q]
  | .none, _, _, _, hd, _, _ => by cases hd
  | .bool _, _, _, _, hd, _, _ => by cases hd
  | .list _, _, _, _, hd, _, _ => by cases hd
  | .dict _, _, _, _, hd, _, _ => by cases hd
theorem keys_inj : ∀ (ds es : List PyData) (vs us : List V), Dts K H vs ds → Dts K H2 us es → toKeys ds = toKeys es → ds = es
  | [], es, _, _, _, _, q => by
    cases es with
    | nil => rfl
    | cons e es => simp [toKeys] at q
  | d :: ds, es, _, _, hd, he, q => by
    cases es with
    | nil => simp [toKeys] at q
    | cons e es =>
      cases hd with
      | cons a b =>
        cases he with
        | cons a2 b2 =>
          simp only [toKeys, List.cons.injEq] at q
          rw [key_inj d e _ _ a a2 q.1, keys_inj ds es _ _ b b2 q.2]
end
/-- the value v is the key k, read where nothing is written -/
def Nk (K : PySem.W.Frag) (H : Hp) (v : V) (k : NestedKey) : Prop := ∃ ds, Dt K H v (.tuple ds) ∧ toKey (.tuple ds) = k ∧ (PyData.tuple ds).depth ≤ 8
theorem Nk.kt {v : V} {k : NestedKey} (h : Nk K H v k) (s : Kt K H H2) : Nk K H2 v k := by
  obtain ⟨ds, a, b, c⟩ := h
  exact ⟨ds, a.k s, b, c⟩
theorem Nk.ref {v : V} {k : NestedKey} (h : Nk K H v k) : ∃ a, v = .ref a := by
  obtain ⟨ds, a, _⟩ := h
  obtain ⟨p, xs, e, _⟩ := a.inv
  exact ⟨p, e⟩
end
section
variable {X : Cx} {pins : List (Addr × Obj)} {σ : L2.St} {H : Hp} {s : Shared}
mutual
theorem is_key (I : Inv X pins σ H s) : ∀ (d : PyData) (v : V) (u : Value), Dt X.K H v d → RelV v u → NestedIs s.heap (toKey d) u
  | .int i, _, _, h, r => by
    cases h
    obtain ⟨t, e⟩ := r
    rw [e]
    exact .int i t
  | .str x, _, _, h, r => by
    cases h
    obtain ⟨t, e⟩ := r
    rw [e]
    exact .text x t
  | .tuple ds, _, _, h, r => by
    cases h with
    | tup a b =>
      cases r
      obtain ⟨its, rv, ⟨o, ho, hc, n, hd⟩, _⟩ := I.tuple a
      exact .tup ho hc hd (by simpa using are_keys I ds _ its b rv)
  | .none, _, _, h, _ => by cases h
  | .bool _, _, _, h, _ => by cases h
  | .list _, _, _, h, _ => by cases h
  | .dict _, _, _, h, _ => by cases h
theorem are_keys (I : Inv X pins σ H s) : ∀ (ds : List PyData) (vs : List V) (us : List Value), Dts X.K H vs ds → Vals vs us → NestedAll s.heap (toKeys ds) us
  | [], _, _, h, r => by
    cases h
    cases r
    exact .nil
  | d :: ds, _, _, h, r => by
    cases h with
    | cons a b =>
      cases r with
      | cons ra rb => exact .cons (is_key I d _ _ a ra) (are_keys I ds _ _ b rb)
end
theorem Nk.is {a : Addr} {k : NestedKey} (I : Inv X pins σ H s) (h : Nk X.K H (.ref a) k) : (nestedKind X.prog X.w).is s.heap k a := by
  obtain ⟨ds, x, e, l⟩ := h
  have q := is_key I _ _ (.ref a) x rfl
  rw [e] at q
  exact ⟨q, by rw [← e]; exact Nat.le_trans (depth_le _) l⟩
end
abbrev Ent := NestedKey × Addr × V
def Eq2 (p : Ent) (q : NestedKey × Addr × Value) : Prop := p.1 = q.1 ∧ p.2.1 = q.2.1 ∧ RelV p.2.2 q.2.2
/-- the dict's own object -/
def NDo (P : Program) (w : World) (a : Addr) (kas : List Ent) : HO := .ext fun h => kas.length ≤ sizeLine ∧ (a == sysModules) = false ∧ ∃ o es ep xs, h.get? a = some o ∧ o.ExactDict ∧ o.data = .dict es ep ∧ es.toList = xs.map (entryOfKey (nestedKind P w)) ∧ Paired Eq2 kas xs
structure At (K : PySem.W.Frag) (P : Program) (w : World) (H : Hp) (a : Addr) (kas : List Ent) : Prop where
  h : H a = some (NDo P w a kas)
  keys : ∀ e ∈ kas, Nk K H (.ref e.2.1) e.1
  nd : (kas.map (·.1)).Nodup
def look (kas : List Ent) (k : NestedKey) : Option V := (kas.find? fun e => decide (e.1 = k)).map (·.2.2)
def put (kas : List Ent) (k : NestedKey) (a : Addr) (v : V) : List Ent := if (look kas k).isSome then kas.map fun e => if e.1 = k then (e.1, e.2.1, v) else e else kas ++ [(k, a, v)]
theorem look_rel {kas : List Ent} {xs : List (NestedKey × Addr × Value)} (r : Paired Eq2 kas xs) (k : NestedKey) : RelO (look kas k) ((atKey xs k).map (·.2)) := by
  induction r with
  | nil => trivial
  | @cons p q ps qs h t ih =>
    unfold look atKey at ih ⊢
    rw [List.find?_cons, List.find?_cons, h.1]
    by_cases e : q.1 = k
    · rw [decide_eq_true e]
      exact h.2.2
    · rw [decide_eq_false e]
      exact ih
theorem put_rel {kas : List Ent} {xs : List (NestedKey × Addr × Value)} (r : Paired Eq2 kas xs) (k : NestedKey) (a : Addr) {v : V} {u : Value} (rv : RelV v u) : Paired Eq2 (put kas k a v) (storedH xs k a u) := by
  have e : (look kas k).isSome = (atKey xs k).isSome := by
    have := (look_rel r k).isSome_eq
    rw [Option.isSome_map] at this
    exact this
  unfold put storedH
  rw [e]
  have mp : ∀ {kas : List Ent} {xs : List (NestedKey × Addr × Value)}, Paired Eq2 kas xs → Paired Eq2 (kas.map fun e => if e.1 = k then (e.1, e.2.1, v) else e) (xs.map (putAt k u)) := fun r => by
    induction r with
    | nil => exact .nil
    | @cons p q ps qs h t ih =>
      refine .cons ?_ ih
      show Eq2 (if p.1 = k then (p.1, p.2.1, v) else p) (putAt k u q)
      unfold putAt
      rw [h.1]
      split
      · exact ⟨rfl, h.2.1, rv⟩
      · exact h
  split
  · exact mp r
  · exact Paired.snoc r ⟨rfl, rfl, rv⟩
theorem put_len (kas : List Ent) (k : NestedKey) (a : Addr) (v : V) : (put kas k a v).length ≤ kas.length + 1 := by
  unfold put
  split
  · rw [List.length_map]; omega
  · rw [List.length_append, List.length_singleton]; omega
section
variable {X : Cx} {pins : List (Addr × Obj)} {σ : L2.St} {H : Hp} {s : Shared} {a b : Addr} {kas : List Ent} {k : NestedKey}
theorem all_is (I : Inv X pins σ H s) {kas : List Ent} {xs : List (NestedKey × Addr × Value)} (r : Paired Eq2 kas xs) : (∀ e ∈ kas, Nk X.K H (.ref e.2.1) e.1) → ∀ x ∈ xs, (nestedKind X.prog X.w).is s.heap x.1 x.2.1 := by
  induction r with
  | nil => intro _ x hx; cases hx
  | @cons p q ps qs h t ih =>
    intro ky x hx
    rcases List.mem_cons.mp hx with e | hx
    · rw [e]
      have y := (ky p List.mem_cons_self).is I
      rw [h.1, h.2.1] at y
      exact y
    · exact ih (fun e he => ky e (List.mem_cons_of_mem _ he)) x hx
theorem keys_eq {kas : List Ent} {xs : List (NestedKey × Addr × Value)} (r : Paired Eq2 kas xs) : xs.map (·.1) = kas.map (·.1) := by
  induction r with
  | nil => rfl
  | cons h t ih => rw [List.map_cons, List.map_cons, h.1, ih]
theorem At.ofH (I : Inv X pins σ H s) (A : At X.K X.prog X.w H a kas) : kas.length ≤ sizeLine ∧ (a == sysModules) = false ∧ ∃ xs, Paired Eq2 kas xs ∧ s.heap.DictOfH (nestedKind X.prog X.w) a xs := by
  obtain ⟨⟨z, hd, o, es, ep, xs, h1, h2, h3, h4, r⟩, _⟩ := I.hok a _ A.h
  exact ⟨z, hd, xs, r, o, es, ep, h1, h2, h3, h4, all_is I r A.keys, by rw [keys_eq r]; exact A.nd⟩
theorem At.lt (A : At X.K X.prog X.w H a kas) (I : Inv X pins σ H s) : s.TypeIs (.ref a) "dict" := by
  obtain ⟨_, _, xs, _, d⟩ := A.ofH I
  exact d.typeIs
theorem room8 {A : Around} (hu : A.units + 64 < cLine) (P : Program) (w : World) : (nestedKind P w).room A.in1 := by
  show A.units + 1 + 8 < cLine
  omega
/-! in, not in -/
def rInN (K : PySem.W.Frag) (P : Program) (w : World) (neg : Bool) : R2 := fun x y H Q => ∃ a kas k, y = .ref a ∧ At K P w H a kas ∧ Nk K H x k ∧ Q (.bl (neg != (look kas k).isSome)) H
theorem op_inN (hu : X.A.units + 64 < cLine) : OpR X (compareOp .In) (rInN X.K X.prog X.w false) := by
  intro pins s σ H x y v u Q I rx ry h
  obtain ⟨a, kas, k, rfl, A, n, q⟩ := h
  obtain ⟨b, rfl⟩ := n.ref
  cases rx
  cases ry
  obtain ⟨z, hd, xs, r, d⟩ := A.ofH I
  refine wpAny_in_heap (room8 hu _ _) (n.is I) hd d ⟨.bl _, H, I.tok _, rfl, ?_⟩
  have e := (look_rel r k).isSome_eq
  rw [Option.isSome_map] at e
  rw [e, Bool.false_bne] at q
  exact q
theorem op_ninN (hu : X.A.units + 64 < cLine) : OpR X (compareOp .NotIn) (rInN X.K X.prog X.w true) := by
  intro pins s σ H x y v u Q I rx ry h
  obtain ⟨a, kas, k, rfl, A, n, q⟩ := h
  obtain ⟨b, rfl⟩ := n.ref
  cases rx
  cases ry
  obtain ⟨z, hd, xs, r, d⟩ := A.ofH I
  refine wpAny_notIn_heap (room8 hu _ _) (n.is I) hd d ⟨.bl _, H, I.tok _, rfl, ?_⟩
  have e := (look_rel r k).isSome_eq
  rw [Option.isSome_map] at e
  rw [e, Bool.true_bne] at q
  exact q
/-! d[k] -/
def tGetN (K : PySem.W.Frag) (P : Program) (w : World) (td ty : TE) : TE := fun σ H Q => td σ H fun x H1 => ty σ H1 fun y H2 => ∃ a kas k v, x = .ref a ∧ At K P w H2 a kas ∧ Nk K H2 y k ∧ look kas k = some v ∧ Q v H2
theorem pe_getN {o i : Expr} {pos : Pos} {td ty : TE} (hu : X.A.units + 64 < cLine) (ho : PE X o td) (hi : PE X i ty) (hs : NoSl i) : PE X (.Subscript o i pos) (tGetN X.K X.prog X.w td ty) := by
  refine ⟨fun pins s σ H Q I h => ?_⟩
  refine subD_of PySem.F.slot_dict_getitem.lookup hs (thn (ho.run pins s σ H _ I h) fun u s1 ⟨x, H1, I1, rx, q1⟩ => thn (hi.run pins s1 σ H1 _ I1 q1) fun iv s2 ⟨y, H2, I2, ry, a, kas, k, v, ex, A, n, l, q2⟩ => ?_)
  subst ex
  obtain rfl : u = Value.ref a := rx
  obtain ⟨b, rfl⟩ := n.ref
  obtain rfl : iv = Value.ref b := ry
  obtain ⟨z, hd, xs, r, d⟩ := A.ofH I2
  obtain ⟨w', hw, rw'⟩ := RelO.some_of (v := v) (o := (atKey xs k).map (·.2)) (by rw [← l]; exact look_rel r k)
  obtain ⟨p, hp, hp2⟩ := Option.map_eq_some_iff.mp hw
  refine ⟨d.typeIs, wpAny_getItem_heap (room8 hu _ _) (n.is I2) d hp ?_⟩
  rw [hp2]
  exact ⟨v, H2, I2.tok _, rw', q2⟩
/-! d[k] = v -/
theorem At.put (A : At X.K X.prog X.w H a kas) {v : V} {P : Program} {w : World} (n : Nk X.K H (.ref b) k) (kt : ∀ o, Kt X.K H (upd H a o)) : ∀ e ∈ put kas k b v, Nk X.K (upd H a (NDo P w a (Nd.put kas k b v))) (.ref e.2.1) e.1 := fun e he => by
  refine Nk.kt ?_ (kt _)
  unfold Nd.put at he
  split at he
  · obtain ⟨e0, h0, h1⟩ := List.mem_map.mp he
    split at h1
    · rw [← h1]; exact A.keys e0 h0
    · rw [← h1]; exact A.keys e0 h0
  · rcases List.mem_append.mp he with he | he
    · exact A.keys e he
    · rw [List.mem_singleton.mp he]; exact n
theorem put_nodup {v : V} (h : (kas.map (·.1)).Nodup) : ((put kas k b v).map (·.1)).Nodup := by
  unfold put
  split
  · rename_i c
    have e : (kas.map fun e => if e.1 = k then (e.1, e.2.1, v) else e).map (·.1) = kas.map (·.1) := by
      rw [List.map_map]
      refine List.map_congr_left fun e _ => ?_
      show (if e.1 = k then (e.1, e.2.1, v) else e).1 = e.1
      split <;> rfl
    rw [e]
    exact h
  · rename_i c
    rw [List.map_append]
    refine List.nodup_append.mpr ⟨h, List.nodup_cons.mpr ⟨List.not_mem_nil, List.nodup_nil⟩, fun x hx y hy => ?_⟩
    rw [List.map_singleton, List.mem_singleton] at hy
    obtain ⟨e, he, e1⟩ := List.mem_map.mp hx
    rintro rfl
    refine c ?_
    unfold look
    rw [Option.isSome_map, List.find?_isSome]
    exact ⟨e, he, decide_eq_true (by rw [e1, hy])⟩
theorem nd_kt {K : PySem.W.Frag} {P : Program} {w : World} (h : H a = some (NDo P w a kas)) (o : HO) : Kt K H (upd H a o) := Kt.set h (fun _ q => by cases q) (fun _ _ q => by cases q)
def tPutN (K : PySem.W.Frag) (P : Program) (w : World) (td ty tv : TE) : TS := fun D σ H => tv σ H fun v H1 => td σ H1 fun x H2 => ty σ H2 fun y H3 => ∃ a b kas k, x = .ref a ∧ y = .ref b ∧ At K P w H3 a kas ∧ Nk K H3 y k ∧ kas.length < sizeLine ∧
  (∀ H4, H4 = upd H3 a (NDo P w a (put kas k b v)) → At K P w H4 a (put kas k b v) → D.nx σ H4)
theorem ps_putN {o i value : Expr} {pos pos' : Pos} {td ty tv : TE} (hu : X.A.units + 64 < cLine) (ho : PE X o td) (hi : PE X i ty) (hv : PE X value tv) (hs : swapsWith value (some (.Subscript o i pos')) pos.line X.env = pure false) :
    PS X (.Assign [.Subscript o i pos'] value pos) (tPutN X.K X.prog X.w td ty tv) := by
  refine ⟨fun pins s σ H D I h => ?_⟩
  refine wpAny_Assign_Subscript (thn (hv.run pins s σ H _ I h) fun r s1 ⟨v, H1, I1, rv, q1⟩ => thn (ho.run pins s1 σ H1 _ I1 q1) fun u s2 ⟨x, H2, I2, rx, q2⟩ => thn (hi.run pins s2 σ H2 _ I2 q2) fun iv s3 ⟨y, H3, I3, ry, a, b, kas, k, ex, ey, A, n, l, q3⟩ => ?_) hs
  subst ex ey
  obtain rfl : u = Value.ref a := rx
  obtain rfl : iv = Value.ref b := ry
  obtain ⟨z, hd, xs, rel, d⟩ := A.ofH I3
  have hz : xs.length ≤ sizeLine := by rw [← Paired.length rel]; exact z
  refine wpAny_setItem_heap (hsz := hz) (room8 hu _ _) (n.is I3) d fun h' dd' hs' => ?_
  obtain ⟨q, es, ep, hq, h2, h3, h4, _, _⟩ := dd'
  have A4 : At X.K X.prog X.w (upd H3 a (NDo X.prog X.w a (put kas k b v))) a (put kas k b v) := ⟨upd_same, A.put n (nd_kt A.h), put_nodup A.nd⟩
  refine ⟨σ, _, d_write I3 (by rw [A.h]; exact True.intro) hs' ⟨q, hq⟩ ?_, q3 _ rfl A4⟩
  have hl : (put kas k b v).length ≤ sizeLine := by have := put_len kas k b v; omega
  exact ⟨⟨hl, hd, q, es, ep, _, hq, h2, h3, h4, put_rel rel k b rv⟩, ⟨q, hq⟩, fun h1 h2 ⟨a1, a2, o, es, ep, xs, a3, a4⟩ kp => ⟨a1, a2, o, es, ep, xs, kp _ a3, a4⟩⟩
/-! {k: v} -/
def tNd1 (K : PySem.W.Frag) (P : Program) (w : World) (tk tv : TE) : TE := fun σ H Q => ∀ p, H p = none → tPairs [(tk, tv)] σ (upd H p (NDo P w p [])) fun ps H2 => ∃ b k v, ps = [(.ref b, v)] ∧ H2 p = some (NDo P w p []) ∧ Nk K H2 (.ref b) k ∧
  ∀ H3, H3 = upd H2 p (NDo P w p [(k, b, v)]) → At K P w H3 p [(k, b, v)] → Q (.ref p) H3
theorem nd_stay {P : Program} {w : World} {a : Addr} {kas : List Ent} {h : Heap} {H' : Hp} (x : kas.length ≤ sizeLine ∧ (a == sysModules) = false ∧ ∃ o es ep xs, h.get? a = some o ∧ o.ExactDict ∧ o.data = .dict es ep ∧ es.toList = xs.map (entryOfKey (nestedKind P w)) ∧ Paired Eq2 kas xs) : ObjOk P w H' h a (NDo P w a kas) := by
  obtain ⟨a1, a2, o, es, ep, xs, a3, a4⟩ := x
  exact ⟨⟨a1, a2, o, es, ep, xs, a3, a4⟩, ⟨o, a3⟩, fun h1 h2 ⟨b1, b2, o, es, ep, xs, b3, b4⟩ kp => ⟨b1, b2, o, es, ep, xs, kp _ b3, b4⟩⟩
theorem nd_empty {P : Program} {w : World} {H' : Hp} (h : Heap) (hb : sysModules < h.objs.size) : ObjOk P w H' (h.push { cls := .type "dict", data := .dict #[] }) h.objs.size (NDo P w h.objs.size []) :=
  nd_stay ⟨Nat.zero_le _, beq_eq_false_iff_ne.mpr (Ne.symm (Nat.ne_of_lt hb)), _, #[], 0, [], Heap.get?_push_size _ rfl, ⟨rfl, rfl, rfl⟩, rfl, rfl, .nil⟩
/-- {}, to be such a dict -/
def tNd0 (P : Program) (w : World) : TE := fun _ H Q => ∀ p, H p = none → Q (.ref p) (upd H p (NDo P w p []))
theorem pe_nd0 {pos : Pos} : PE X (.Dict [] [] pos) (tNd0 X.prog X.w) := ⟨fun pins s σ H Q I h =>
  wpAny_Dict_empty ⟨.ref s.heap.objs.size, _, I.laid (a := s.heap.objs.size) (o := NDo X.prog X.w s.heap.objs.size []) (t' := s.toks) (fun _ _ q => Heap.get?_push_of_some _ q) (Nat.le_refl _) (nd_empty s.heap I.big), rfl, h _ (I.hok.fresh (Nat.le_refl _))⟩⟩
theorem At.new {K : PySem.W.Frag} {P : Program} {w : World} : At K P w (upd H a (NDo P w a [])) a [] := ⟨upd_same, (fun e he => absurd he List.not_mem_nil), List.nodup_nil⟩
theorem pe_nd1 {ke ve : Expr} {pos : Pos} {tk tv : TE} (hu : X.A.units + 64 < cLine) (hk : PE X ke tk) (hv : PE X ve tv) : PE X (.Dict [some ke] [ve] pos) (tNd1 X.K X.prog X.w tk tv) := by
  refine ⟨fun pins s σ H Q I q => ?_⟩
  have hn := I.hok.fresh (Nat.le_refl s.heap.objs.size)
  have I1 := I.laid (a := s.heap.objs.size) (o := NDo X.prog X.w s.heap.objs.size []) (h' := s.heap.push { cls := .type "dict", data := .dict #[] }) (t' := s.toks) (fun _ _ q => Heap.get?_push_of_some _ q) (Nat.le_refl _) (nd_empty s.heap I.big)
  have hz := zip_pairTrees [some ke] [ve] X.env pos rfl rfl
  have hln := pairTrees_length [some ke] [ve] X.env pos rfl rfl
  have run := (pps_cons hk hv pps_nil : PPs X pos [some ke] [ve] [(tk, tv)]).run pins _ σ _ (fun ps H2 => ∃ b k v, ps = [(.ref b, v)] ∧ H2 s.heap.objs.size = some (NDo X.prog X.w s.heap.objs.size []) ∧ Nk X.K H2 (.ref b) k ∧ ∀ H3, H3 = upd H2 s.heap.objs.size (NDo X.prog X.w s.heap.objs.size [(k, b, v)]) → At X.K X.prog X.w H3 s.heap.objs.size [(k, b, v)] → Q (.ref s.heap.objs.size) H3) I1 ?_
  · rw [arm_eval_Dict, hz, dictDisplay_pairs _ (fun e => by rw [e] at hln; cases hln) (by rw [hln]; show 1 < 17; decide)]
    refine wpAny_bind (wpAny_standAt (wpAny_bind (wpAny_subDictH (knd := nestedKind X.prog X.w) (Q := fun d s' => wpAny (model X.prog X.w) X.A (pure (Value.ref d)) (EP X pins σ Q) X.xe s') (by show X.A.units + 8 < cLine; omega) (by rw [hln]; show 1 ≤ 15; decide)
      (wpAny_mono run (fun vs s1 h1 => ?_) fun _ _ e => e))))
    obtain ⟨ps, H2, I2, rel, b, k, v, rfl, hp, n, q2⟩ := h1
    cases rel with
    | @cons p r as bs hd tl =>
      cases tl
      obtain ⟨kv, w2⟩ := r
      obtain ⟨r1, r2⟩ := hd
      obtain rfl : kv = Value.ref b := r1
      have A0 : At X.K X.prog X.w H2 s.heap.objs.size [] := ⟨hp, (fun e he => absurd he List.not_mem_nil), List.nodup_nil⟩
      obtain ⟨_, hd, xs, rl, d⟩ := A0.ofH I2
      cases rl
      refine ⟨[(k, b, w2)], ⟨rfl, rfl, n.is I2, trivial⟩, d, fun h' tk dd' hs' => wpAny_pure ?_⟩
      obtain ⟨qo, es, ep, hq, h2, h3, h4, _, _⟩ := dd'
      refine ⟨.ref s.heap.objs.size, _, d_write I2 (by rw [hp]; exact True.intro) hs' ⟨qo, hq⟩ (nd_stay (kas := [(k, b, v)]) ⟨by show 1 ≤ sizeLine; decide, hd, qo, es, ep, _, hq, h2, h3, h4, ?_⟩), rfl, q2 _ rfl ⟨upd_same, fun e he => ?_, by simp⟩⟩
      · show Paired Eq2 [(k, b, v)] [(k, b, w2)]
        exact .cons ⟨rfl, rfl, r2⟩ .nil
      · rw [List.mem_singleton.mp he]
        exact n.kt (nd_kt hp _)
  · exact q _ hn
end
end Nd

/-! max of a tuple of ints. -/
namespace Mt
open PySem PySem.Spec PyProof.Rows L2 PySem.W
def rMaxT (K : PySem.W.Frag) : List V → Hp → VK → Prop := fun vs H Q => ∃ (a : Addr) (ns : List Int), vs = [V.ref a] ∧ SqT K H a (ns.map V.int) ∧ 0 < ns.length ∧ ∀ m, m ∈ ns → (∀ y, y ∈ ns → y ≤ m) → Q (.int m) H
theorem spec_int : ∀ (ps : List Int) (p : Int), ∃ m, m ∈ p :: ps ∧ maxD (.int p) (ps.map PyData.int) = .int m ∧ ∀ q ∈ p :: ps, q ≤ m
  | [], p => ⟨p, List.mem_cons_self, rfl, fun q m => by rw [List.mem_singleton.mp m]; exact Int.le_refl _⟩
  | q :: ps, p => by
    have e : maxD (.int p) ((q :: ps).map PyData.int) = maxD (if dataLt (.int p) (.int q) then .int q else .int p) (ps.map PyData.int) := rfl
    by_cases c : p < q
    · obtain ⟨m, mm, me, ml⟩ := spec_int ps q
      refine ⟨m, List.mem_cons_of_mem _ mm, by rw [e, if_pos (by rw [dataLt_int]; exact decide_eq_true c), me], fun x mx => ?_⟩
      rcases List.mem_cons.mp mx with rfl | mx
      · have := ml q List.mem_cons_self; omega
      · exact ml x mx
    · obtain ⟨m, mm, me, ml⟩ := spec_int ps p
      refine ⟨m, ?_, by rw [e, if_neg (by rw [dataLt_int]; simpa using c), me], fun x mx => ?_⟩
      · rcases List.mem_cons.mp mm with z | z
        · rw [z]; exact List.mem_cons_self
        · exact List.mem_cons_of_mem _ (List.mem_cons_of_mem _ z)
      · rcases List.mem_cons.mp mx with rfl | mx
        · exact ml x List.mem_cons_self
        · rcases List.mem_cons.mp mx with rfl | mx
          · have := ml p List.mem_cons_self; omega
          · exact ml x (List.mem_cons_of_mem _ mx)
theorem int_deep : ∀ ps : List Int, PyData.depthAll (ps.map PyData.int) ≤ 3
  | [] => by show PyData.depthAll [] ≤ 3; decide
  | p :: ps => by
    have h : PyData.depthAll (PyData.int p :: ps.map PyData.int) = max (PyData.depth (PyData.int p)) (PyData.depthAll (ps.map PyData.int)) := rfl
    rw [List.map_cons, h]
    exact Nat.max_le.mpr ⟨by simp [PyData.depth], int_deep ps⟩
theorem int_alike (ps : List Int) : AlikeAll (ps.map PyData.int) := by
  refine ⟨fun x mx y my => ?_, fun x mx => ?_⟩
  · obtain ⟨p, _, rfl⟩ := List.mem_map.mp mx
    obtain ⟨q, _, rfl⟩ := List.mem_map.mp my
    simp [alike]
  · obtain ⟨p, _, rfl⟩ := List.mem_map.mp mx
    intro e
    cases e
theorem int_dp {K : PySem.W.Frag} {H : Hp} : ∀ ns : List Int, DpAll K H (ns.map V.int) (ns.map PyData.int)
  | [] => .nil
  | n :: ns => .cons (.int n) (int_dp ns)
theorem cr_maxT {X : Cx} (hc : X.calm = true) (hu : X.A.units + 64 < cLine) : CallR X (.builtin "max") (rMaxT X.K) := by
  intro pins s σ H vs us Q I r h
  obtain ⟨a, ns, rfl, hs, hne, q⟩ := h
  obtain ⟨its, rv, ⟨o, ho, hcl, hnn, hdd⟩, _⟩ := I.tuple hs
  rw [Vals.ref1 r]
  match ns, hne, rv, q with
  | p :: ps, _, rv, q =>
  obtain ⟨as, hr⟩ := Dp.readsAll I _ _ its (int_dp (p :: ps)) rv
  have hr2 : ReadsAll s.heap its.toArray.toList (PyData.int p :: ps.map PyData.int) as := by simpa using hr
  have hu' := int_deep (p :: ps)
  rw [List.map_cons] at hu'
  refine max_tuple_data (I.ok.hd hc) ⟨o, ho, hcl, hnn, hdd⟩ hr2 (int_alike (p :: ps)) (by omega) fun i v h' tk bs hv hR hk => ?_
  obtain ⟨cs, r1, i1, _, _⟩ := readsAll_atA hr2 i v hv
  obtain ⟨e, _⟩ := PyProof.Rows.reads_det (fun _ _ e _ => e) (reads_keeps hk r1) hR
  have hv2 : its[i]? = some v := by simpa using hv
  have il2 : i < (p :: ps).length := by simpa using i1
  have hp : (p :: ps)[i]? = some (p :: ps)[i] := List.getElem?_eq_getElem il2
  obtain ⟨u, hu2, ru⟩ := rv.get (i := i) (x := .int (p :: ps)[i]) (by rw [List.getElem?_map, hp]; rfl)
  have eu : u = v := Option.some.inj (hu2.symm.trans hv2)
  subst eu
  obtain ⟨m, _, me, ml⟩ := spec_int ps p
  have e3 : (PyData.int p :: ps.map PyData.int).getD i .none = .int (p :: ps)[i] := by
    have : (PyData.int p :: ps.map PyData.int)[i]? = some (.int (p :: ps)[i]) := by
      rw [← List.map_cons, List.getElem?_map, hp]
      rfl
    rw [List.getD_eq_getElem?_getD, this]
    rfl
  have e4 : (p :: ps)[i] = m := by
    have : PyData.int (p :: ps)[i] = PyData.int m := by rw [← e3, ← e, me]
    exact PyData.int.inj this
  exact ⟨_, H, I.kept hk, ru, q _ (List.mem_of_getElem? hp) (by rw [e4]; exact ml)⟩
end Mt

/-! x op y by the own def of x's class, y of a built-in type; a call that may raise in a try whose suite asks only its own name. -/
namespace Po
open PySem PySem.Spec PyProof.Rows L2
theorem passL {X : Cx} {W : WX} (n : Nat) (hn : X.N.length = n) (tk : Takes X W) : Passes (L2.CX X.prog X.w) X (fun cls d H => ∀ σ : L2.St, σ.length = n → W cls d σ H) :=
  fun _ σ _ _ e s' I c => tk e s' (XE.of_call I (fun _ _ _ h => h σ (I.len.trans hn)) c)
/-- what is asked of the type T on the right -/
structure RT (K : PySem.W.Frag) (op : Operator) (C : Addr) (T : String) : Prop where
  ex : ∃ fo ro : Option Value, PySem.W.findIn K (.type T) (PySem.dunder op.info.2) = some fo ∧ PySem.W.findIn K (.type T) (dunderR op.info.2) = some ro
  sub : PySem.W.subIn K (.type T) (.ref C) = some false
/-- and of the class on the left -/
structure LT (K : PySem.W.Frag) (op : Operator) (C : Addr) : Prop where
  rc : ∃ rc : Option Value, PySem.W.findIn K (.ref C) (dunderR op.info.2) = some rc ∧ (rc = none ∨ ∃ g : Addr, rc = some (.ref g))
  sf : PySem.W.selfFirst K C = true
section
open PySem.W
variable {prog : Program} {w : World} {A : Around} {E : Value → Shared → Prop} {s : Shared} {K : Frag} {x C L f : Addr} {h₀ : Heap} {m : Str → Option Value} {ox : Obj} {od : Option Obj} {T : String}
theorem bin_at {op : Operator} {b : Value} {Q : Value → Shared → Prop} (F : Fr h₀ L s.heap m) (kin : K.In h₀) (I : InstAt s.heap x ox C od) (hb : Looks (model prog w) s.heap (typeOf b) (.type T)) (lt : LT K op C)
    (own : findIn K (.ref C) (PySem.dunder op.info.2) = some (some (.ref f))) (fn : isFn K (.ref f) = true) (rt : RT K op C T)
    (go : wpAny (model prog w) A (call (.ref f) [.ref x, b]) (PySem.W.CmpBack Q) E s) : wpAny (model prog w) A (binaryOp op (.ref x) b) Q E s := by
  have kn := kin.keeps F.keep
  obtain ⟨⟨fo, ro, t1, t2⟩, apart⟩ := rt
  obtain ⟨⟨rc, back, bk⟩, first⟩ := lt
  obtain ⟨cd, rest, ecd, emro⟩ := ksp_first first
  rcases hop : op.info with ⟨sg, nm⟩
  rw [hop] at own back t1 t2
  dsimp only at own back t1 t2
  have tried := ksp_try kn I own fn go
  obtain ⟨hp, gn, dr, tks, oss⟩ := s
  have k1 : Looks (model prog w) hp (typeOf (Value.ref x)) (Value.ref C) := I.type
  have k2 : Looks (model prog w) hp (typeOf b) (Value.type T) := hb
  have k3 : Looks (model prog w) hp (fillsNumberSlot (Value.ref C) nm) true := fills_K kn ecd emro own
  have k4 := ksp_fillsT (M := model prog w) kn t1 t2
  have k5 : Looks (model prog w) hp (isSubtype (Value.type T) (Value.ref C)) false := looks_subIn kn apart
  have k6 : Looks (model prog w) hp (numberSlotInPython (Value.ref C) nm) true := ksp_inPy kn own back bk
  have k7 : Looks (model prog w) hp (numberSlotInPython (Value.type T) nm) false := Looks.of_pure rfl
  have k8 : Looks (model prog w) hp (typeLookup (Value.type T) (dunderR nm)) ro := looks_findIn kn t2
  revert k4
  generalize ((fo.isSome && !isSeqSlot fo) || (ro.isSome && !isSeqSlot ro)) = rgt
  intro k4
  have apart2 : (Value.ref C == Value.type T) = false := by
    cases q : (Value.ref C == Value.type T) with
    | false => rfl
    | true => cases beq_iff_eq.mp q
  simp only [binaryOp, hop]
  apply wpAny_holding
  apply wpAny_bind
  unfold binaryOp1
  refine wpAny_bind (k1.at ?_)
  refine wpAny_bind (k2.at ?_)
  refine wpAny_bind (k3.at ?_)
  simp only [apart2, Bool.false_eq_true, if_false]
  cases rgt <;>
    (ksp_lk
     refine wpAny_mono tried (fun r s' z => ?_) fun _ _ e => e
     obtain ⟨v, rfl, hq⟩ := z
     ksp_lk
     exact hq)
end
section
variable {X : Cx} {CX : CXT} {C g : Addr} {n : Nat} {sp : Sp} {E : XK}
/-- x op y by the own def of x's class at C; y of a built-in type -/
def rBinT (K : PySem.W.Frag) (op : Operator) (C : Addr) (sp : Sp) (E : XK) : R2 := fun x y H Q => ∃ a dx fs T, x = .ref a ∧ H a = some (.ins C dx fs) ∧ TyX K H y (.type T) ∧ RT K op C T ∧ sp [x, y] H Q E
theorem op_binI {op : Operator} (lt : LT X.K op C) (hs : PySem.W.findIn X.K (.ref C) (PySem.dunder op.info.2) = some (some (.ref g))) (hf : PySem.W.isFn X.K (.ref g) = true) (F : FnR X.prog X.w X.K X.mg X.base CX n g sp)
    (hr : Room n X.A) (hx : Passes CX X E) : OpR X (binaryOp op) (rBinT X.K op C sp E) := by
  intro pins s σ H x y v u Q I rx ry h
  obtain ⟨a, dx, fs, T, rfl, ha, ty, rt, q⟩ := h
  cases (show v = Value.ref a from rx)
  obtain ⟨ox, od, J⟩ := Ow.ins_at I ha
  obtain ⟨P, k, hp, _⟩ := kit_of I ry ty
  obtain ⟨m, hF⟩ := I.fr
  refine bin_at hF I.ok.mod.kin J (k.ty _ _ I.kIn hp) lt hs hf rt ?_
  refine wpAny_mono (wpAny_call (run_fnR (us := [.ref a, u]) (vs := [.ref a, y]) F hr hx I (.cons rfl (.cons ry .nil)) q)) (fun w s' z => ?_) fun _ _ x => x
  obtain ⟨z', H', I', rz, qz⟩ := z
  exact SlX.cmpback rz ⟨z', H', I', rz, qz⟩
end
end Po

/-! iter(text) as a value; list(x), x with an __iter__ that gives such a one, and an own __len__; yield from a list. -/
namespace Si2
open PySem PySem.Spec PyProof.Rows L2 ItX
abbrev AIt (h : Heap) (it : Addr) (x : Str) (i : Nat) : Prop := ∃ t, h.IsStrIter it "str_ascii_iterator" x t i
def sgs (x : Str) : List V := x.cps.toList.map fun c => V.str ⟨#[c]⟩
/-- an iterator of the text x, not begun -/
def SiO (x : Str) (it : Addr) : HO := .ext fun h => AIt h it x 0
theorem si_at {h h' : Heap} {it : Addr} {x : Str} {i : Nat} (y : AIt h it x i) (k : ∀ o, h.get? it = some o → h'.get? it = some o) : AIt h' it x i := by
  obtain ⟨t, o, e, r⟩ := y
  exact ⟨t, o, k o e, r⟩
theorem si_ok {P : Program} {w : World} {H : Hp} {h : Heap} {it : Addr} {x : Str} (y : AIt h it x 0) : ObjOk P w H h it (SiO x it) :=
  ⟨y, by obtain ⟨_, o, e, _⟩ := y; exact ⟨o, e⟩, fun _ _ p k => si_at p k⟩
theorem ai_ty {s : Shared} {it : Addr} {x : Str} {i : Nat} (y : AIt s.heap it x i) : s.TypeIs (.ref it) "str_ascii_iterator" := let ⟨_, o, e, c, _⟩ := y; ⟨o, e, c⟩
def rIterS : List V → Hp → VK → Prop := fun xs H Q => ∃ x : Str, xs = [.str x] ∧ x.cps.all (· < 128) = true ∧ ∀ it, H it = none → (∀ b o, H b = some o → b < it) → Q (.ref it) (upd H it (SiO x it))
section
variable {X : Cx}
theorem call_iterS : CallR X (.builtin "iter") rIterS := by
  intro pins s σ H xs us Q I r h
  obtain ⟨x, rfl, ha, q⟩ := h
  obtain ⟨u, rfl, ru⟩ := r.one
  obtain ⟨t, rfl⟩ := ru
  refine Calls.call_function_entry (by decide +kernel) (by decide +kernel) PySem.W.kdk_entry_iter (PySem.W.kdk_args_iter _) ?_
  unfold Builtin.«iter»
  refine wpAny_bind (m := someArgs "iter" 1 2 _) (wpAny_of_eq (a := [Value.str x t]) (by first | rfl | kernel_rfl!) ?_)
  show wpAny _ _ (pyIter (.str x t) >>= _) _ _ _
  refine wpAny_bind (wpAny_pyIter_ascii ha (wpAny_pure ⟨_, rfl, ?_⟩))
  refine ⟨.ref s.heap.objs.size, _, I.laid (t' := s.toks) (fun b u e => Heap.get?_push_of_some _ e) (Nat.le_refl _) (si_ok ⟨t, _, Heap.get?_push_size _ rfl, rfl, rfl⟩), rfl, q _ (I.hok.fresh (Nat.le_refl _)) fun b o e => ?_⟩
  exact (I.hok b o e).lt
end
section
variable {X : Cx} {pins : List (Addr × Obj)} {σ : L2.St} {q it : Addr} {x : Str} {A1 : Around} {Rs : Result → Shared → Prop}
/-- the list at q takes what the iterator gives -/
theorem fill (hh : A1.in1.handled = none) (few : (sgs x).length ≤ 1000) : ∀ (k i : Nat) (H : Hp) (s : Shared), (sgs x).length - i = k → i ≤ (sgs x).length → Inv X pins σ H s → H q = some (.lst ((sgs x).take i)) → FpOk X pins H it → AIt s.heap it x i →
    (∀ s', Inv X pins σ (upd H q (.lst (sgs x))) s' → Rs (.ok (.ret .none)) s') → codeAny (model X.prog X.w) A1 (.builtin "list.extend.loop" ⟨[.ref q, .ref it, .none], []⟩) Rs s := by
  intro k
  have sz := sizeLine_eq
  induction k with
  | zero =>
    intro i H s hk hi I hq fp st hd
    have e : i = (sgs x).length := by omega
    subst e
    obtain ⟨t, st⟩ := st
    obtain ⟨f0, f1, f2, f3, f4, f5⟩ := fp
    refine codeAny_builtin PySem.F.entry_extend_loop ?_
    rw [Around.under_plainId PySem.F.plain_extend_loop _]
    show wpAny _ A1.in1 (pyNext (.ref it) >>= _) _ _ s
    refine wpAny_bind (wpAny_pyNext_ascii_end hh st (Array.getElem?_eq_none (by rw [← Array.length_toList]; show x.cps.toList.length ≤ (sgs x).length; simp [sgs])) fun h' ex => ?_)
    have I1 := I.turned (t' := s.toks) (h' := h') (fun b o nb e => ex b o nb e) f0 f1 f3 f4 f5
    rw [List.take_length] at hq
    have e : upd H q (.lst (sgs x)) = H := by
      funext b
      by_cases c : b = q
      · rw [c, upd_same, hq]
      · rw [upd_ne c]
    exact wpAny_pure (hd _ (by rw [e]; exact I1))
  | succ k ih =>
    intro i H s hk hi I hq fp st hd
    have lt : i < (sgs x).length := by omega
    obtain ⟨t, st⟩ := st
    have lt2 : i < x.cps.size := by rw [← Array.length_toList]; simpa [sgs] using lt
    obtain ⟨f0, f1, f2, f3, f4, f5⟩ := id fp
    refine codeAny_builtin PySem.F.entry_extend_loop ?_
    rw [Around.under_plainId PySem.F.plain_extend_loop _]
    show wpAny _ A1.in1 (pyNext (.ref it) >>= _) _ _ s
    refine wpAny_bind (wpAny_pyNext_ascii_item st (c := x.cps[i]) (Array.getElem?_eq_getElem lt2) fun h' st' sb => ?_)
    have I1 := I.turned (t' := s.toks + 1) (h' := h') (fun b o nb e => (sb.2 b nb).trans e) f0 f1 f3 f4 f5
    obtain ⟨z, ls, kk, r2, hl, e⟩ := I1.lstM hq
    have ll := r2.length
    rw [List.length_take] at ll
    show wpAny _ A1.in1 (updateSeq q (·.push (.str ⟨#[x.cps[i]]⟩ s.toks)) >>= _) _ _ _
    have nq : it ≠ q := fun c => by rw [← c, f0] at hq; cases hq
    refine wpAny_bind (wpAny_updateSeq e rfl (wpAny_pure ⟨plainId_quiet PySem.F.plain_extend_loop _, ?_⟩) (by rw [List.size_toArray]; omega) (by show (ls.toArray.push (.str ⟨#[x.cps[i]]⟩ s.toks)).size ≤ sizeLine + 1; rw [Array.size_push, List.size_toArray]; omega))
    have I2 := I1.lset (f := (·.push (.str ⟨#[x.cps[i]]⟩ s.toks))) (its' := ls ++ [.str ⟨#[x.cps[i]]⟩ s.toks]) (t' := s.toks + 1) hq e (by simp) (ys := (sgs x).take i ++ [V.str ⟨#[x.cps[i]]⟩]) (r2.append (.cons ⟨_, rfl⟩ .nil)) (by rw [List.length_append, List.length_singleton, List.length_take]; omega)
    have tk : (sgs x).take i ++ [V.str ⟨#[x.cps[i]]⟩] = (sgs x).take (i + 1) := by rw [List.take_add_one, List.getElem?_eq_getElem lt]; simp [sgs]
    rw [tk] at I2
    refine ih (i + 1) _ _ (by omega) lt I2 upd_same ⟨by rw [upd_ne nq]; exact f0, f1, f2, f3, f4, f5⟩ (si_at ⟨t, st'⟩ fun o e => (Heap.get?_update_other _ _ (Ne.symm nq)).trans e) fun s' I' => hd s' (by rw [upd_upd] at I'; exact I')
end
section
variable {X : Cx} {C fi fl : Addr} {spI spL : Sp} {EI EL : XK} {n : Nat}
/-- list(x): its __iter__ gives an iterator of a tuple, its __len__ a number -/
def rListItS (K : PySem.W.Frag) (C : Addr) (spI spL : Sp) (EI EL : XK) : List V → Hp → VK → Prop := fun xs H Q => ∃ a dx fs, xs = [.ref a] ∧ H a = some (.ins C dx fs) ∧ ∀ q, H q = none → spI [.ref a] (upd H q (.lst []))
  (fun v H1 => ∃ it x, v = .ref it ∧ H1 it = some (SiO x it) ∧ q < it ∧ (sgs x).length ≤ 1000 ∧ H1 q = some (.lst []) ∧ H1 a = some (.ins C dx fs) ∧
    spL [.ref a] H1 (fun z H2 => ∃ i : Int, z = .int i ∧ 0 ≤ i ∧ i < 1000 ∧ H2 = H1 ∧ Q (.ref q) (upd (dropH H1 it) q (.lst (sgs x)))) EL) EI
theorem call_listItS (hs : PySem.W.findIn X.K (.ref C) "__iter__" = some (some (.ref fi))) (hf : PySem.W.isFn X.K (.ref fi) = true) (hl : PySem.W.findIn X.K (.ref C) "__len__" = some (some (.ref fl))) (hlf : PySem.W.isFn X.K (.ref fl) = true)
    (FI : FnR X.prog X.w X.K X.mg X.base CX0 n fi spI) (FL : FnR X.prog X.w X.K X.mg X.base CX0 n fl spL) (hc : X.calm = true) (hr : Room (n + 4) X.A) : CallR X (.type "list") (rListItS X.K C spI spL EI EL) := by
  intro pins s σ H xs us Q I rv h
  obtain ⟨a, dx, fs, rfl, ha, hq⟩ := h
  obtain ⟨u, rfl, ru⟩ := rv.one
  cases (show u = Value.ref a from ru)
  have sb : Sub X (n + 1) X.A.in1.in1.in1 := Sub.in1 (Sub.in1 (Sub.in1 ⟨hr, rfl⟩))
  refine callType_codes (Q₁ := fun obj s₁ => obj = .ref s.heap.objs.size ∧ s₁ = { s with heap := s.heap.push { cls := .type "list", data := .seq #[] } })
    PySem.F.called_list (PySem.F.typeCall_list_1 _) PySem.F.entry_list_init (code_list_new _ ⟨rfl, rfl⟩) fun obj s₁ h₁ => ?_
  obtain ⟨rfl, rfl⟩ := h₁
  have hS : (s.heap.push { cls := .type "list", data := .seq #[] }).get? s.heap.objs.size = some { cls := .type "list", data := .seq #[] } := Heap.get?_push_size _ rfl
  refine ⟨⟨_, hS, rfl⟩, PySem.F.args_list_init_2 _ _, ?_⟩
  have fr : H s.heap.objs.size = none := I.hok.fresh (Nat.le_refl _)
  have hsp := hq _ fr
  have young : X.s_0.heap.objs.size ≤ s.heap.objs.size := I.sz
  have I1 : Inv X pins σ (upd H s.heap.objs.size (.lst [])) { s with heap := s.heap.push { cls := .type "list", data := .seq #[] } } := I.lnew (its := []) (t' := s.toks) .nil (Nat.zero_le _)
  show wpAny _ _ (Builtin.List.listItems (.ref s.heap.objs.size) >>= fun old => Builtin.List.listUpdate (.ref s.heap.objs.size) (fun _ => #[]) >>= fun _ => letGo old.toList.reverse >>= fun _ => Builtin.List.listExtendWith (.ref s.heap.objs.size) (.ref a) .none) _ _ _
  refine wpAny_bind ?_
  unfold Builtin.List.listItems
  refine wpAny_bind (wpAny_seqItems hS rfl (wpAny_pure ?_))
  show wpAny _ _ (updateSeq s.heap.objs.size (fun _ => #[]) >>= fun _ => letGo (#[] : Array Value).toList.reverse >>= fun _ => Builtin.List.listExtendWith (.ref s.heap.objs.size) (.ref a) .none) _ _ _
  refine wpAny_bind (wpAny_updateSeq hS rfl ?_)
  have I2 := I1.lset (f := fun _ => #[]) (its := []) (its' := []) (ys := []) (t' := s.toks) upd_same hS rfl .nil (Nat.zero_le _)
  rw [upd_upd] at I2
  refine wpAny_bind (wpAny_letGo ?_)
  have ha2 : upd H s.heap.objs.size (.lst []) a = some (.ins C dx fs) := by rw [upd_ne (ne_of_none ha fr)]; exact ha
  have nqa : s.heap.objs.size ≠ a := (ne_of_none ha fr).symm
  have low : s.heap.objs.size < ({ s with heap := (s.heap.push { cls := .type "list", data := .seq #[] }).update s.heap.objs.size (Obj.mapSeq fun _ => #[]) } : Shared).heap.objs.size := (I2.hok _ _ upd_same).lt
  generalize hq0 : s.heap.objs.size = q at *
  generalize ({ s with heap := (s.heap.push { cls := .type "list", data := .seq #[] }).update q (Obj.mapSeq fun _ => #[]) } : Shared) = s1 at *
  generalize hH1 : upd H q (.lst []) = H1 at *
  have hq1 : H1 q = some (.lst []) := by rw [← hH1]; exact upd_same
  obtain ⟨ox, od, J⟩ := Ow.ins_at I2 ha2
  obtain ⟨m0, hF⟩ := I2.fr
  unfold Builtin.List.listExtendWith
  refine wpAny_bind (J.type.here ?_)
  have b1 : Builtin.List.listSameRef (.ref q) (.ref a) = false := by simp [Builtin.List.listSameRef, nqa]
  have b2 : (Value.ref C == Value.type "list") = false ∧ (Value.ref C == Value.type "tuple") = false := ⟨rfl, rfl⟩
  simp only [b1, b2.1, b2.2, Bool.or_false, Bool.false_eq_true, if_false]
  refine wpAny_bind (PySem.W.owit_iter hF I2.ok.mod.kin J hs hf ?_)
  have env : ∀ {s2 : Shared} {H2 : Hp}, Inv X pins σ H2 s2 → Env0 X.prog X.w X.K X.mg X.base X.A.in1.in1 X.stack s2 H2 := fun I => by
    have e := I.env0
    exact ⟨e.frames, e.mod, e.bs, e.bsz, e.funs, e.frf, e.hok, e.bare⟩
  have room0 : Room (n + 1) X.A.in1.in1 := (hr.in1.in1).mono (by omega)
  have room1 : Room n X.A.in1.in1 := room0.mono (by omega)
  refine wpAny_mono (wpAny_call (Li.sure_at (us := [.ref a]) (ws := [.ref a]) FI room1 (env I2) I2 (.cons rfl .nil) hsp)) (fun v s3 hv => ?_) fun _ _ x => x.elim
  obtain ⟨v', H3, I3, rv3, it, x, rfl, hit, qlt, few, hq3, ha3, hsp2⟩ := hv
  cases (show v = Value.ref it from rv3)
  have st3 : AIt s3.heap it x 0 := (I3.hok it _ hit).1
  unfold PySem.W.OwitIt
  refine wpAny_specialOf (name := Str.ofString "__next__") (ai_ty st3) PySem.F.slot_str_ascii_iterator_next.lookup ?_
  refine wpAny_bind (wpAny_holding ?_)
  unfold Builtin.List.listLengthHint
  obtain ⟨ox3, od3, J3⟩ := Ow.ins_at I3 ha3
  obtain ⟨m3, hF3⟩ := I3.fr
  refine wpAny_bind (wpAny_bind (J3.type.here ((PySem.W.looks_findIn I3.kIn hl).here ?_)))
  refine PySem.W.KFB.if_not rfl ?_
  refine wp_if_pos rfl (wpAny_bind (wpAny_rule (wpAny_bind (wpAny_attempt ?_))))
  refine PySem.W.len_K hF3 I3.ok.mod.kin J3 hl hlf (wpAny_mono (wpAny_call (Li.sure_at (us := [.ref a]) (ws := [.ref a]) FL (room0.in1) (env I3).in1 I3 (.cons rfl .nil) hsp2)) (fun w s4 z => ?_) fun _ _ x => x.elim)
  obtain ⟨z', H4, I4, rz, i, rfl, h0, h1, rfl, qz⟩ := z
  obtain ⟨tk, e⟩ := (show ∃ tk, w = Value.int i tk from rz)
  cases e
  refine ⟨⟨h0, by omega⟩, ?_⟩
  dsimp only
  refine wpAny_bind (wpAny_of_eq (a := some i) rfl ?_)
  have sl := sizeLine_eq
  refine wp_if_neg (by unfold Builtin.List.listTooLong; rw [decide_eq_true_eq]; omega) (wpAny_pure ?_)
  have I5 := inv_drop (I4.tok (s4.toks + 1)) hit
  have fp : FpOk X pins (dropH H4 it) it := inv_fp I4 hit (Nat.le_trans young (Nat.le_of_lt qlt))
  have nqi : q ≠ it := Nat.ne_of_lt qlt
  have hq5 : dropH H4 it q = some (.lst []) := (dropH_ne nqi).trans hq3
  have st5 : AIt s4.heap it x 0 := (I4.hok it _ hit).1
  have hh : X.A.in1.in1.handled = none := by simp [I.ok.hd hc]
  have go : ∀ s6 : Shared, Inv X pins σ (dropH H4 it) s6 → AIt s6.heap it x 0 → codeAny (model X.prog X.w) X.A.in1 (.builtin "list.extend.loop" ⟨[.ref q, .ref it, .none], []⟩) (wants (fun r s₂ => r = .none ∧ EP X pins σ Q (.ref q) s₂) X.xe) s6 := fun s6 I6 st6 =>
    fill (x := x) hh few ((sgs x).length - 0) 0 _ s6 rfl (Nat.zero_le _) I6 hq5 fp st6 fun s7 I7 => ⟨rfl, ⟨.ref q, _, I7, rfl, qz⟩⟩
  refine wpAny_ite_split (fun _ => ?_) fun _ => wpAny_pure ⟨plainId_quiet PySem.F.plain_extend_loop _, go _ I5 st5⟩
  refine wpAny_bind (wpAny_rule (wpAny_bind ?_))
  obtain ⟨z5, its5, k5, r5, l5, e5⟩ := I5.lstM hq5
  cases r5
  show wpAny _ _ (updateSeq q (·.push Value.none) >>= fun _ => updateSeq q (·.pop)) _ _ _
  refine wpAny_bind (wpAny_updateSeq e5 rfl ?_)
  have I6 := I5.lset (f := (·.push Value.none)) (its' := [Value.none]) (ys := [.non]) (t' := s4.toks + 1) hq5 e5 (by simp) (.cons rfl .nil) (by rw [List.length_singleton, sl]; decide)
  obtain ⟨z6, its6, k6, r6, l6, e6⟩ := I6.lstM upd_same
  obtain ⟨u6, rfl, ru6⟩ := r6.one
  refine wpAny_updateSeq e6 rfl ?_ (by show 1 ≤ sizeLine; rw [sl]; decide) (by show 0 ≤ sizeLine + 1; exact Nat.zero_le _)
  have I7 := I6.lset (f := (·.pop)) (its := [u6]) (its' := []) (ys := []) (t' := s4.toks + 1) upd_same e6 (by rfl) .nil (Nat.zero_le _)
  rw [upd_upd, show upd (dropH H4 it) q (.lst []) = dropH H4 it from funext fun b => by
    by_cases c : b = q
    · rw [c, upd_same, hq5]
    · rw [upd_ne c]] at I7
  refine wpAny_pure ⟨plainId_quiet PySem.F.plain_extend_loop _, go _ I7 (si_at st5 fun o e => ?_)⟩
  exact (Heap.get?_update_other _ _ nqi).trans ((Heap.get?_update_other _ _ nqi).trans e)
end

section
variable {prog : Program} {w : World} {A : Around} {E : Value → Shared → Prop} {s : Shared}
theorem special_lst_item {it l : Addr} {i : Nat} {items : Array Value} {x : Value} {Q : Option Value → Shared → Prop} (hit : s.heap.IsListIter it l i) (hl : s.heap.IsList l items) (hx : items[i]? = some x)
    (hQ : ∀ h', h'.IsListIter it l (i + 1) → Heap.SameBut it s.heap h' → Q (some x) { s with heap := h' }) : wpAny (model prog w) A (callSpecial? (.ref it) "__next__") Q E s := by
  obtain ⟨o, ho, hc, hd⟩ := id hit
  obtain ⟨ol, hol, _, nl, hdl⟩ := hl
  refine wpAny_callSpecial?_slot (name := Str.ofString "__next__") hit.typeIs slot_listiter_next (wpAny_call_entry slot_listiter_next hit.typeIs entry_listiter_next ?_ (args_listiter_next _))
  show wpAny _ _ (field (.ref it) 0 >>= _) _ _ s
  refine wpAny_bind (wpAny_field ho hd (x := .ref l) rfl ?_)
  show wpAny _ _ (if (Value.ref l == Value.none) = true then _ else _) _ _ s
  rw [if_neg (show ¬ ((Value.ref l == Value.none) = true) from Bool.false_ne_true)]
  show wpAny _ _ (field (.ref it) 1 >>= _) _ _ s
  refine wpAny_bind (wpAny_field ho hd (x := .int i 0) rfl ?_)
  show wpAny _ _ (seqItems? (.ref l) >>= _) _ _ s
  refine wpAny_bind (wpAny_seqItems hol hdl ?_)
  simp only [Int.toNat_natCast, hx]
  refine wpAny_bind (wpAny_setField ho hd (by simp) (wpAny_pure ⟨x, rfl, hQ _ ?_ (Heap.SameBut.update ..)⟩))
  exact ⟨_, Heap.get?_update_self _ ho (Obj.isFreed_of_fields (Obj.data_mapFields hd _)), (Obj.cls_mapFields ..).trans hc, by
    rw [Obj.data_mapFields hd]; simp [rawInt]⟩
theorem special_lst_end {it l : Addr} {i : Nat} {items : Array Value} {Q : Option Value → Shared → Prop} (hh : A.handled = none) (hit : s.heap.IsListIter it l i) (hl : s.heap.IsList l items) (hx : items[i]? = none)
    (hE : ∀ e h', StopX e h' → Heap.ExtBut it s.heap h' → E e { s with heap := h' }) : wpAny (model prog w) A (callSpecial? (.ref it) "__next__") Q E s := by
  obtain ⟨o, ho, hc, hd⟩ := id hit
  obtain ⟨ol, hol, _, nl, hdl⟩ := hl
  refine wpAny_callSpecial?_slot (name := Str.ofString "__next__") hit.typeIs slot_listiter_next (wpAny_call_entry slot_listiter_next hit.typeIs entry_listiter_next ?_ (args_listiter_next _))
  show wpAny _ _ (field (.ref it) 0 >>= _) _ _ s
  refine wpAny_bind (wpAny_field ho hd (x := .ref l) rfl ?_)
  show wpAny _ _ (if (Value.ref l == Value.none) = true then _ else _) _ _ s
  rw [if_neg (show ¬ ((Value.ref l == Value.none) = true) from Bool.false_ne_true)]
  show wpAny _ _ (field (.ref it) 1 >>= _) _ _ s
  refine wpAny_bind (wpAny_field ho hd (x := .int i 0) rfl ?_)
  show wpAny _ _ (seqItems? (.ref l) >>= _) _ _ s
  refine wpAny_bind (wpAny_seqItems hol hdl ?_)
  simp only [Int.toNat_natCast, hx]
  refine wpAny_bind (wpAny_rule (wpAny_bind (wpAny_setField ho hd (by simp) ?_)))
  show wpAny _ _ (newExc (.type "StopIteration") [] >>= _) _ _ _
  refine wpAny_bind ?_
  simp only [newExc, newTuple]
  refine wpAny_bind (wpAny_newObj_type ?_ (by size_fits))
  refine wpAny_bind (m := firstArgMember _ _) (wpAny_of_eq (a := Value.none) (by first | rfl | (simp only [firstArgMember]; rfl)) ?_)
  refine wpAny_newObj_type ?_ (by size_fits)
  simp only [raiseNew]
  refine wpAny_bind (wpAny_handled ?_)
  first | rw [show A.in1.handled = none from hh] | rw [hh]
  refine wpAny_bind (wpAny_pure (wpAny_throw ?_))
  refine hE _ _ ⟨_, _, _, rfl, Heap.get?_push_size _ rfl, rfl, rfl, ?_⟩ (((Heap.SameBut.update ..).extBut.push _).push _)
  first
    | rfl
    | (rw [Array.getElem?_append_left (by decide)]; rfl)
    | kernel_rfl
end
section
variable {X : Cx} {e : Expr} {te : TE}
def tYfLst (te : TE) : TYf := fun σ H Q => te σ H fun x H1 => ∃ a xs, x = .ref a ∧ H1 a = some (.lst xs) ∧ Q xs H1
theorem close_lst : typeLookup (.type "list_iterator") "close" = pure none := by rw [typeLookup_type, builtinLookup_eq_fast]; kernel_rfl
theorem yf_lst (he : PE X e te) : YfE X e (tYfLst te) := by
  refine ⟨fun pins s σ H Q I h => ?_⟩
  refine thn (he.run pins s σ H _ I h) fun v s1 ⟨x, H1, I1, r1, a, xs, ex, ha, hq⟩ => ?_
  subst ex
  obtain rfl : v = Value.ref a := r1
  obtain ⟨its, rits, pl, hlen⟩ := I1.list (SqL.of ha)
  have ht : s1.heap.IsList a its.toArray := pl.isList
  refine ⟨"list", ht.typeIs, by decide, wpAny_pyIter_list ht ?_⟩
  have lta : a < s1.heap.objs.size := let ⟨_, e, _⟩ := ht; Heap.lt_size e
  have ksz : ∀ b o, s1.heap.get? b = some o → b ≠ s1.heap.objs.size := fun b o e => Nat.ne_of_lt (Heap.lt_size e)
  have kp : ∀ b o, s1.heap.get? b = some o → (s1.heap.push { cls := .type "list_iterator", data := .fields #[.ref a, .int 0 0] }).get? b = some o := fun b o e => Heap.get?_push_of_some _ e
  refine ⟨s1.heap.objs.size, H1, xs, fun j h => h.IsListIter s1.heap.objs.size a j ∧ h.IsList a its.toArray, rfl, I1.kept (t' := s1.toks) kp, .inr I1.sz, Nat.ne_of_gt I1.lt, fun y c hy => ?_, I1.hok.fresh (Nat.le_refl _), fun p hp => ?_,
    ⟨⟨_, Heap.get?_push_size _ rfl, rfl, rfl⟩, ht.push _⟩, ⟨⟨"list_iterator", fun j h q => ?_, close_lst, by decide⟩, fun j h h' q hk => ?_, fun A' j x s2 Q' E' hA hx q hQ => ?_, fun A' s2 Q' E' hA q hE => ?_⟩, hq⟩
  · obtain ⟨v, o, ho, _⟩ := I1.cell y c hy
    exact ksz c o ho
  · exact ksz p.1 _ (I1.pin p hp).1
  · obtain ⟨⟨o, ho, hc, _⟩, _⟩ := q
    exact ⟨o, ho, hc⟩
  · obtain ⟨⟨o, ho, r⟩, o2, ho2, r2⟩ := q
    exact ⟨⟨o, hk _ o (.inl rfl) ho, r⟩, o2, hk _ o2 (.inr (by rw [ha]; exact fun z => by cases z)) ho2, r2⟩
  · obtain ⟨q1, q2⟩ := q
    obtain ⟨u, hu, ru⟩ := rits.get hx
    have hne : a ≠ s1.heap.objs.size := Nat.ne_of_lt lta
    exact special_lst_item q1 q2 (x := u) (by simpa using hu) fun h' q1' hs => hQ u h' s2.toks ru ⟨q1', q2.extBut hs.extBut hne⟩ fun b o hb eb => hs.extBut b o hb eb
  · obtain ⟨q1, q2⟩ := q
    have hnone : its.toArray[xs.length]? = none := by
      have e := rits.length
      have e2 : its[xs.length]? = none := List.getElem?_eq_none_iff.mpr (by omega)
      simpa using e2
    exact special_lst_end hA q1 q2 hnone fun e h' hS hk => hE e h' s2.toks hS fun b o hb eb => hk b o hb eb
end
end Si2

/-! list(text); a call that may raise in a try, where no StopIteration comes. -/
namespace St2
open PySem PySem.Spec PyProof.Rows L2
theorem passLN {X : Cx} {W : WX} (n : Nat) (hn : X.N.length = n) (tk : Takes X W) : Passes (L2.CX X.prog X.w) X (fun cls d H => PySem.W.subIn X.K cls (.type "StopIteration") = some false ∧ ∀ σ : L2.St, σ.length = n → W cls d σ H) :=
  fun _ σ _ _ e s' I c => tk e s' (XE.of_call I (fun _ _ _ h => h.2 σ (I.len.trans hn)) c)
theorem pss_two {X : Cx} {a b : Stmt} {t u v : TS} (h : PS X a t) (g : PS X b u) (e : v = tSeq t u) : PSs X [a, b] v := by
  subst e
  exact pss_cons h (pss_one g)
/-- C(e, ..) whose __init__ may raise: what is raised is wished for at the slots as they stand -/
def tMakeS (C : Addr) (sp : Sp) (E : L2.St → XK) (t : TA) : TE := fun σ H Q => t σ H fun vs H1 => ∀ x dx, H1 x = none → H1 dx = none → dx ≠ x →
  sp (.ref x :: vs) (upd (upd H1 dx (.own x)) x (.ins C dx [])) (fun v H2 => v = .non ∧ Q (.ref x) H2) (E σ)
theorem pe_makeS {X : Cx} {CX : CXT} {k : Nat} {f C : Addr} {fd : FuncData} {ps : List Str} {sp : Sp} {E : L2.St → XK} {x : Str} {p pos : Pos} {e : Expr} {es : List Expr} {t : TA} (M : Mk X.K C f) (F : FnOk X.prog X.w X.K X.mg X.base CX k f fd ps sp) (hr : Room (k + 1) X.A) (hg : Gl X x) (hm : X.mg x = some (.ref C)) (hb : Binds X.K fd ps [])
    (hx : ∀ σ, PassesAt CX X σ (E σ)) (ha : PA X (e :: es) t) (hdb : (x == ("__debug__" : Str)) = false := by decide) (he : starEach (e :: es) X.env = (false, eval e X.env) :: starEach es X.env := by rfl) (hpl : (backTo pos (starEach es X.env)).any (·.1) = false := by rfl) :
    PE X (.Call (.Name x p) (e :: es) [] pos) (tMakeS C sp E t) := by
  constructor
  intro pins s σ H Q I h
  refine wpAny_Call_Name_kw (ld_glob I hg hm ?_ hdb)
  refine PySem.W.callWith_K (h₀ := X.base) I.ok.mod.kin M.kp (thn (ha.run pos pins s σ H _ I h) fun us s1 w => ?_) he hpl
  obtain ⟨vs, H1, J, r, q⟩ := w
  refine ⟨J.kIn, ?_⟩
  have free := J.hok.fresh (Nat.le_refl s1.heap.objs.size)
  have go := q (s1.heap.objs.size + 1) _ (J.hok.fresh (Nat.le_succ _)) free (Nat.ne_of_lt (Nat.lt_succ_self _))
  have J2 := Inv.made (C := C) J
  have r2 : Vals (V.ref (s1.heap.objs.size + 1) :: vs) (Value.ref (s1.heap.objs.size + 1) :: us) := .cons rfl r
  have many := (r2.length.symm.trans (F.len _ _ _ _ go)).trans rfl
  have bound := hb _ (Value.ref (s1.heap.objs.size + 1) :: us) J2.kIn (by rw [List.append_nil]; exact many)
  rw [List.append_nil] at bound
  have ran := F.run _ X.stack _ _ _ _ _ _ (E σ) (hr.make C us []) (J2.env0.make C us []) bound r2 go
  refine wpAny_call (make_map (f := f) J.kIn M.makes M.init (beq_iff_eq.mp M.fn) (codeAny_mono ran fun z t2 hz => ?_))
  match z, hz with
  | .error _, hz => exact hx σ pins _ _ _ _ J2 hz
  | .ok (.ret _), hz =>
    obtain ⟨_, _, J3, rv, ev, q3⟩ := J2.after hz
    subst ev
    exact ⟨rv, V.ref (s1.heap.objs.size + 1), _, J3, rfl, q3⟩
  | .ok .next, hz => exact hz.elim
  | .ok .brk, hz => exact hz.elim
  | .ok .cont, hz => exact hz.elim
theorem noStop {K : PySem.W.Frag} {P : Value → Option Addr → Hp → Prop} : NoStop K (fun cls d H => PySem.W.subIn K cls (.type "StopIteration") = some false ∧ P cls d H) := fun _ _ _ h => h.1
theorem vals_signs {x : Str} {acc : Array Value} (h : ItemsOf (SignAt x) acc x.cps.size) : Vals (Si2.sgs x) acc.toList := by
  refine vals_of_at ?_ fun j a u ha hu => ?_
  · rw [show acc.toList.length = x.cps.size from (Array.length_toList).trans h.1]
    simp [Si2.sgs]
  · obtain ⟨c, t, hc, rfl⟩ := h.2 j u (by rw [← hu, Array.getElem?_toList])
    unfold Si2.sgs at ha
    rw [List.getElem?_map, Array.getElem?_toList, hc] at ha
    cases ha
    exact ⟨t, rfl⟩
def rListS : List V → Hp → VK → Prop := fun xs H Q => ∃ x : Str, xs = [.str x] ∧ x.length ≤ sizeLine ∧ ∀ q, H q = none → Q (.ref q) (upd H q (.lst (Si2.sgs x)))
theorem call_listS {X : Cx} (hc : X.calm = true) : CallR X (.type "list") rListS := by
  intro pins s σ H xs us Q I r h
  obtain ⟨x, rfl, hl, q⟩ := h
  obtain ⟨u, rfl, ru⟩ := r.one
  obtain ⟨t, rfl⟩ := ru
  refine call_list_str (I.ok.hd hc) x t (fun h' tk acc c' hk e' hi => ?_) hl
  refine ⟨.ref s.heap.objs.size, upd H s.heap.objs.size (.lst (Si2.sgs x)), I.laid hk (Nat.le_refl _) (show ObjOk X.prog X.w _ _ _ (.lst (Si2.sgs x)) from ⟨?_, acc.toList, c', vals_signs hi, ?_⟩), rfl, q _ (I.hok.fresh (Nat.le_refl _))⟩
  · show (Si2.sgs x).length ≤ sizeLine
    unfold Si2.sgs
    rw [List.length_map, Array.length_toList]
    exact hl
  · rw [Array.toArray_toList]; exact e'
end St2

namespace K57
open PySem L2
def top (i : Nat) : Stmt := PySem.Challenge.pw_wheelchorus_k57_whole_orders_are_closed.main.body.getD i (.Pass ⟨0, 0, 0, 0⟩)
abbrev s_is_whole : Stmt := top 14
abbrev s_is_whole_within : Stmt := top 15
abbrev s_is_sequence : Stmt := top 16
abbrev s_is_number : Stmt := top 21
abbrev s_is_station : Stmt := top 29
abbrev s_is_crew : Stmt := top 30
abbrev s_is_stations : Stmt := top 28
abbrev s_is_order : Stmt := top 31
abbrev s_are_counts : Stmt := top 32
abbrev s_is_move : Stmt := top 34
abbrev s_are_moves : Stmt := top 33
abbrev s_cinit : Stmt := inClass (top 27) 1
abbrev s_check_crew : Stmt := top 43
abbrev s_check_card : Stmt := top 42
abbrev s_rinit : Stmt := inClass (top 41) 0
abbrev s_rstart : Stmt := inClass (top 41) 1
abbrev s_card_index : Stmt := inClass (top 41) 3
abbrev s_card_of : Stmt := inClass (top 41) 2
abbrev s_grade_in : Stmt := inClass (top 41) 4
abbrev s_open_count : Stmt := top 46
abbrev s_rallowed : Stmt := inClass (top 41) 5
abbrev s_crews_at : Stmt := top 44
abbrev s_can_move : Stmt := top 45
abbrev s_with_grade : Stmt := inClass (top 41) 9
abbrev s_can_go_home : Stmt := inClass (top 41) 10
abbrev s_close : Stmt := inClass (top 41) 8
abbrev s_lift : Stmt := inClass (top 41) 7
abbrev s_rstep : Stmt := inClass (top 41) 6
abbrev s_oinit : Stmt := inClass (top 49) 0
abbrev s_hinit : Stmt := inClass (top 50) 0
abbrev s_steps_from : Stmt := inClass (top 50) 1
abbrev s_meet : Stmt := inClass (top 50) 2
abbrev s_row_to : Stmt := inClass (top 50) 3
abbrev s_makes_short : Stmt := top 51
abbrev s_judge_orders : Stmt := top 52
abbrev s_is_safe : Stmt := inClass (top 49) 1
abbrev s_winit : Stmt := inClass (top 54) 0
abbrev s_wstanding : Stmt := inClass (top 54) 1
abbrev s_wgrade : Stmt := inClass (top 54) 2
abbrev s_do_event : Stmt := inClass (top 54) 10
abbrev s_wcall : Stmt := inClass (top 54) 5
abbrev s_check_open : Stmt := inClass (top 54) 9
abbrev s_wmore : Stmt := inClass (top 54) 7
abbrev s_wback : Stmt := inClass (top 54) 8
abbrev s_bag : Stmt := top 56
abbrev s_take : Stmt := top 57
abbrev s_of : Stmt := top 58
abbrev s_number : Stmt := top 59
abbrev s_numbers : Stmt := top 60
abbrev s_cards : Stmt := top 61
abbrev s_sent : Stmt := top 62
abbrev s_back : Stmt := top 63
abbrev s_step : Stmt := top 64
abbrev s_start : Stmt := top 65
abbrev s_allowed : Stmt := top 66
abbrev s_made : Stmt := top 67
abbrev s_room : Stmt := top 68
abbrev s_played : Stmt := top 69
abbrev s_row_stands : Stmt := top 70
abbrev s_table_stands : Stmt := top 71
abbrev s_stays : Stmt := top 72
abbrev s_law : Stmt := top 73
abbrev nm_is_whole : List Str := ["thing"]
theorem sc_is_whole : FnScope nm_is_whole ["thing"] (defScope s_is_whole) :=
  ⟨rfl, rfl, rfl, by decide +kernel, rfl, by decide +kernel, by decide +kernel⟩
abbrev nm_is_whole_within : List Str := ["thing", "low", "high"]
theorem sc_is_whole_within : FnScope nm_is_whole_within ["thing", "low", "high"] (defScope s_is_whole_within) :=
  ⟨rfl, rfl, rfl, by decide +kernel, rfl, by decide +kernel, by decide +kernel⟩
abbrev nm_is_sequence : List Str := ["thing"]
theorem sc_is_sequence : FnScope nm_is_sequence ["thing"] (defScope s_is_sequence) :=
  ⟨rfl, rfl, rfl, by decide +kernel, rfl, by decide +kernel, by decide +kernel⟩
abbrev nm_is_number : List Str := ["thing", "letter"]
theorem sc_is_number : FnScope nm_is_number ["thing"] (defScope s_is_number) :=
  ⟨rfl, rfl, rfl, by decide +kernel, rfl, by decide +kernel, by decide +kernel⟩
abbrev nm_is_station : List Str := ["thing"]
theorem sc_is_station : FnScope nm_is_station ["thing"] (defScope s_is_station) :=
  ⟨rfl, rfl, rfl, by decide +kernel, rfl, by decide +kernel, by decide +kernel⟩
abbrev nm_is_crew : List Str := ["thing"]
theorem sc_is_crew : FnScope nm_is_crew ["thing"] (defScope s_is_crew) :=
  ⟨rfl, rfl, rfl, by decide +kernel, rfl, by decide +kernel, by decide +kernel⟩
abbrev nm_is_stations : List Str := ["thing", "station"]
theorem sc_is_stations : FnScope nm_is_stations ["thing"] (defScope s_is_stations) :=
  ⟨rfl, rfl, rfl, by decide +kernel, rfl, by decide +kernel, by decide +kernel⟩
abbrev nm_is_order : List Str := ["thing", "crew"]
theorem sc_is_order : FnScope nm_is_order ["thing"] (defScope s_is_order) :=
  ⟨rfl, rfl, rfl, by decide +kernel, rfl, by decide +kernel, by decide +kernel⟩
abbrev nm_are_counts : List Str := ["thing", "count"]
theorem sc_are_counts : FnScope nm_are_counts ["thing"] (defScope s_are_counts) :=
  ⟨rfl, rfl, rfl, by decide +kernel, rfl, by decide +kernel, by decide +kernel⟩
abbrev nm_is_move : List Str := ["thing"]
theorem sc_is_move : FnScope nm_is_move ["thing"] (defScope s_is_move) :=
  ⟨rfl, rfl, rfl, by decide +kernel, rfl, by decide +kernel, by decide +kernel⟩
abbrev nm_are_moves : List Str := ["thing", "move"]
theorem sc_are_moves : FnScope nm_are_moves ["thing"] (defScope s_are_moves) :=
  ⟨rfl, rfl, rfl, by decide +kernel, rfl, by decide +kernel, by decide +kernel⟩
abbrev nm_cinit : List Str := ["self", "number", "order", "counts", "owed", "moves", "move"]
theorem sc_cinit : FnScope nm_cinit ["self", "number", "order", "counts", "owed", "moves"] (defScope s_cinit) :=
  ⟨rfl, rfl, rfl, by decide +kernel, rfl, by decide +kernel, by decide +kernel⟩
abbrev nm_check_crew : List Str := ["card", "crew", "stations"]
theorem sc_check_crew : FnScope nm_check_crew ["card", "crew", "stations"] (defScope s_check_crew) :=
  ⟨rfl, rfl, rfl, by decide +kernel, rfl, by decide +kernel, by decide +kernel⟩
abbrev nm_check_card : List Str := ["card", "stations", "crew", "station"]
theorem sc_check_card : FnScope nm_check_card ["card", "stations"] (defScope s_check_card) :=
  ⟨rfl, rfl, rfl, by decide +kernel, rfl, by decide +kernel, by decide +kernel⟩
abbrev nm_rinit : List Str := ["self", "stations", "cards", "card", "index", "number"]
theorem sc_rinit : FnScope nm_rinit ["self", "stations", "cards"] (defScope s_rinit) :=
  ⟨rfl, rfl, rfl, by decide +kernel, rfl, by decide +kernel, by decide +kernel⟩
abbrev nm_rstart : List Str := ["self", "station"]
theorem sc_rstart : FnScope nm_rstart ["self"] (defScope s_rstart) :=
  ⟨rfl, rfl, rfl, by decide +kernel, rfl, by decide +kernel, by decide +kernel⟩
abbrev nm_card_index : List Str := ["self", "number"]
theorem sc_card_index : FnScope nm_card_index ["self", "number"] (defScope s_card_index) :=
  ⟨rfl, rfl, rfl, by decide +kernel, rfl, by decide +kernel, by decide +kernel⟩
abbrev nm_card_of : List Str := ["self", "number"]
theorem sc_card_of : FnScope nm_card_of ["self", "number"] (defScope s_card_of) :=
  ⟨rfl, rfl, rfl, by decide +kernel, rfl, by decide +kernel, by decide +kernel⟩
abbrev nm_grade_in : List Str := ["self", "standing", "number", "_", "grades"]
theorem sc_grade_in : FnScope nm_grade_in ["self", "standing", "number"] (defScope s_grade_in) :=
  ⟨rfl, rfl, rfl, by decide +kernel, rfl, by decide +kernel, by decide +kernel⟩
abbrev nm_open_count : List Str := ["grades", "grade"]
theorem sc_open_count : FnScope nm_open_count ["grades"] (defScope s_open_count) :=
  ⟨rfl, rfl, rfl, by decide +kernel, rfl, by decide +kernel, by decide +kernel⟩
abbrev nm_rallowed : List Str := ["self", "standing", "most_open", "_", "grades", "events", "number", "grade"]
theorem sc_rallowed : FnScope nm_rallowed ["self", "standing", "most_open"] (defScope s_rallowed) :=
  ⟨rfl, rfl, rfl, by decide +kernel, rfl, by decide +kernel, by decide +kernel⟩
abbrev nm_crews_at : List Str := ["places", "wanted", "crew", "place"]
theorem sc_crews_at : FnScope nm_crews_at ["places", "wanted"] (defScope s_crews_at) :=
  ⟨rfl, rfl, rfl, by decide +kernel, rfl, by decide +kernel, by decide +kernel⟩
abbrev nm_can_move : List Str := ["places", "crew", "station"]
theorem sc_can_move : FnScope nm_can_move ["places", "crew", "station"] (defScope s_can_move) :=
  ⟨rfl, rfl, rfl, by decide +kernel, rfl, by decide +kernel, by decide +kernel⟩
abbrev nm_with_grade : List Str := ["self", "standing", "places", "number", "grade", "grades"]
theorem sc_with_grade : FnScope nm_with_grade ["self", "standing", "places", "number", "grade"] (defScope s_with_grade) :=
  ⟨rfl, rfl, rfl, by decide +kernel, rfl, by decide +kernel, by decide +kernel⟩
abbrev nm_can_go_home : List Str := ["self", "places", "crew", "word", "station", "other"]
theorem sc_can_go_home : FnScope nm_can_go_home ["self", "places", "crew"] (defScope s_can_go_home) :=
  ⟨rfl, rfl, rfl, by decide +kernel, rfl, by decide +kernel, by decide +kernel⟩
abbrev nm_close : List Str := ["self", "standing", "number", "places", "returned", "crew", "home", "station"]
theorem sc_close : FnScope nm_close ["self", "standing", "number"] (defScope s_close) :=
  ⟨rfl, rfl, rfl, by decide +kernel, rfl, by decide +kernel, by decide +kernel⟩
abbrev nm_lift : List Str := ["self", "standing", "number", "grade", "card", "places", "free", "crew", "went", "moved", "station", "short_by", "told"]
theorem sc_lift : FnScope nm_lift ["self", "standing", "number", "grade"] (defScope s_lift) :=
  ⟨rfl, rfl, rfl, by decide +kernel, rfl, by decide +kernel, by decide +kernel⟩
abbrev nm_rstep : List Str := ["self", "standing", "event", "word", "number", "grade"]
theorem sc_rstep : FnScope nm_rstep ["self", "standing", "event"] (defScope s_rstep) :=
  ⟨rfl, rfl, rfl, by decide +kernel, rfl, by decide +kernel, by decide +kernel⟩
abbrev nm_oinit : List Str := ["self", "table", "events"]
theorem sc_oinit : FnScope nm_oinit ["self", "table", "events"] (defScope s_oinit) :=
  ⟨rfl, rfl, rfl, by decide +kernel, rfl, by decide +kernel, by decide +kernel⟩
abbrev nm_hinit : List Str := ["self", "room", "most_open"]
theorem sc_hinit : FnScope nm_hinit ["self", "room", "most_open"] (defScope s_hinit) :=
  ⟨rfl, rfl, rfl, by decide +kernel, rfl, by decide +kernel, by decide +kernel⟩
abbrev nm_steps_from : List Str := ["self", "standing", "events", "event"]
theorem sc_steps_from : FnScope nm_steps_from ["self", "standing"] (defScope s_steps_from) :=
  ⟨rfl, rfl, rfl, by decide +kernel, rfl, by decide +kernel, by decide +kernel⟩
abbrev nm_meet : List Str := ["self", "standing", "event", "after"]
theorem sc_meet : FnScope nm_meet ["self", "standing", "event", "after"] (defScope s_meet) :=
  ⟨rfl, rfl, rfl, by decide +kernel, rfl, by decide +kernel, by decide +kernel⟩
abbrev nm_row_to : List Str := ["self", "standing", "events", "source", "before", "event"]
theorem sc_row_to : FnScope nm_row_to ["self", "standing"] (defScope s_row_to) :=
  ⟨rfl, rfl, rfl, by decide +kernel, rfl, by decide +kernel, by decide +kernel⟩
abbrev nm_makes_short : List Str := ["event", "told"]
theorem sc_makes_short : FnScope nm_makes_short ["event", "told"] (defScope s_makes_short) :=
  ⟨rfl, rfl, rfl, by decide +kernel, rfl, by decide +kernel, by decide +kernel⟩
abbrev nm_judge_orders : List Str := ["room", "most_open", "reach", "at", "standing", "event", "after", "told"]
theorem sc_judge_orders : FnScope nm_judge_orders ["room", "most_open"] (defScope s_judge_orders) :=
  ⟨rfl, rfl, rfl, by decide +kernel, rfl, by decide +kernel, by decide +kernel⟩
abbrev nm_is_safe : List Str := ["self"]
theorem sc_is_safe : FnScope nm_is_safe ["self"] (defScope s_is_safe) :=
  ⟨rfl, rfl, rfl, by decide +kernel, rfl, by decide +kernel, by decide +kernel⟩
abbrev nm_winit : List Str := ["self", "room"]
theorem sc_winit : FnScope nm_winit ["self", "room"] (defScope s_winit) :=
  ⟨rfl, rfl, rfl, by decide +kernel, rfl, by decide +kernel, by decide +kernel⟩
abbrev nm_wstanding : List Str := ["self"]
theorem sc_wstanding : FnScope nm_wstanding ["self"] (defScope s_wstanding) :=
  ⟨rfl, rfl, rfl, by decide +kernel, rfl, by decide +kernel, by decide +kernel⟩
abbrev nm_wgrade : List Str := ["self", "number"]
theorem sc_wgrade : FnScope nm_wgrade ["self", "number"] (defScope s_wgrade) :=
  ⟨rfl, rfl, rfl, by decide +kernel, rfl, by decide +kernel, by decide +kernel⟩
abbrev nm_do_event : List Str := ["self", "word", "number", "told"]
theorem sc_do_event : FnScope nm_do_event ["self", "word", "number"] (defScope s_do_event) :=
  ⟨rfl, rfl, rfl, by decide +kernel, rfl, by decide +kernel, by decide +kernel⟩
abbrev nm_wcall : List Str := ["self", "number"]
theorem sc_wcall : FnScope nm_wcall ["self", "number"] (defScope s_wcall) :=
  ⟨rfl, rfl, rfl, by decide +kernel, rfl, by decide +kernel, by decide +kernel⟩
abbrev nm_check_open : List Str := ["self", "number"]
theorem sc_check_open : FnScope nm_check_open ["self", "number"] (defScope s_check_open) :=
  ⟨rfl, rfl, rfl, by decide +kernel, rfl, by decide +kernel, by decide +kernel⟩
abbrev nm_wmore : List Str := ["self", "number"]
theorem sc_wmore : FnScope nm_wmore ["self", "number"] (defScope s_wmore) :=
  ⟨rfl, rfl, rfl, by decide +kernel, rfl, by decide +kernel, by decide +kernel⟩
abbrev nm_wback : List Str := ["self", "number"]
theorem sc_wback : FnScope nm_wback ["self", "number"] (defScope s_wback) :=
  ⟨rfl, rfl, rfl, by decide +kernel, rfl, by decide +kernel, by decide +kernel⟩
abbrev nm_bag : List Str := ["_law_script", "_law_at", "_law_cell", "_law_mixed", "_law_k", "_law_each"]
theorem sc_bag : FnScope nm_bag ["_law_script", "_law_at"] (defScope s_bag) :=
  ⟨rfl, rfl, rfl, by decide +kernel, rfl, by decide +kernel, by decide +kernel⟩
abbrev nm_take : List Str := ["_law_bag_here", "_law_many", "_law_digit"]
theorem sc_take : FnScope nm_take ["_law_bag_here", "_law_many"] (defScope s_take) :=
  ⟨rfl, rfl, rfl, by decide +kernel, rfl, by decide +kernel, by decide +kernel⟩
abbrev nm_of : List Str := ["_law_bag_here", "_law_some"]
theorem sc_of : FnScope nm_of ["_law_bag_here", "_law_some"] (defScope s_of) :=
  ⟨rfl, rfl, rfl, by decide +kernel, rfl, by decide +kernel, by decide +kernel⟩
abbrev nm_number : List Str := ["_law_bag_here", "_law_many", "_law_total", "_law_text", "_law_at", "_law_figure"]
theorem sc_number : FnScope nm_number ["_law_bag_here"] (defScope s_number) :=
  ⟨rfl, rfl, rfl, by decide +kernel, rfl, by decide +kernel, by decide +kernel⟩
abbrev nm_numbers : List Str := ["_law_bag_here", "_law_many", "_law_found", "_law_turn", "_law_number_here"]
theorem sc_numbers : FnScope nm_numbers ["_law_bag_here", "_law_many"] (defScope s_numbers) :=
  ⟨rfl, rfl, rfl, by decide +kernel, rfl, by decide +kernel, by decide +kernel⟩
abbrev nm_cards : List Str := ["_law_bag_here", "_law_numbers_here", "_law_stations", "_law_most_moves", "_law_way", "_law_cards_here", "_law_left", "_law_number_here", "_law_crews", "_law_order", "_law_turn", "_law_counts", "_law_grade", "_law_owed", "_law_lone", "_law_moves"]
theorem sc_cards : FnScope nm_cards ["_law_bag_here", "_law_numbers_here", "_law_stations", "_law_most_moves", "_law_way"] (defScope s_cards) :=
  ⟨rfl, rfl, rfl, by decide +kernel, rfl, by decide +kernel, by decide +kernel⟩
abbrev nm_sent : List Str := ["_law_places", "_law_card", "_law_grade", "_law_number_here", "_law_order", "_law_counts", "_law_owed", "_law_moves", "_law_went", "_law_moved", "_law_crew", "_law_station", "_law_others", "_law_k", "_law_is_bare"]
theorem sc_sent : FnScope nm_sent ["_law_places", "_law_card", "_law_grade"] (defScope s_sent) :=
  ⟨rfl, rfl, rfl, by decide +kernel, rfl, by decide +kernel, by decide +kernel⟩
abbrev nm_back : List Str := ["_law_places", "_law_stations", "_law_number_here", "_law_returned", "_law_home", "_law_crew", "_law_station", "_law_k"]
theorem sc_back : FnScope nm_back ["_law_places", "_law_stations", "_law_number_here"] (defScope s_back) :=
  ⟨rfl, rfl, rfl, by decide +kernel, rfl, by decide +kernel, by decide +kernel⟩
abbrev nm_step : List Str := ["_law_stations", "_law_cards_here", "_law_standing", "_law_event", "_law_places", "_law_grades", "_law_told", "_law_is_short", "_law_at", "_law_card"]
theorem sc_step : FnScope nm_step ["_law_stations", "_law_cards_here", "_law_standing", "_law_event"] (defScope s_step) :=
  ⟨rfl, rfl, rfl, by decide +kernel, rfl, by decide +kernel, by decide +kernel⟩
abbrev nm_start : List Str := ["_law_stations", "_law_cards_here", "_law_station", "_law_card"]
theorem sc_start : FnScope nm_start ["_law_stations", "_law_cards_here"] (defScope s_start) :=
  ⟨rfl, rfl, rfl, by decide +kernel, rfl, by decide +kernel, by decide +kernel⟩
abbrev nm_allowed : List Str := ["_law_cards_here", "_law_standing", "_law_most_open", "_law_events", "_law_is_free", "_law_grade", "_law_at", "_law_card"]
theorem sc_allowed : FnScope nm_allowed ["_law_cards_here", "_law_standing", "_law_most_open"] (defScope s_allowed) :=
  ⟨rfl, rfl, rfl, by decide +kernel, rfl, by decide +kernel, by decide +kernel⟩
abbrev nm_made : List Str := ["_law_card"]
theorem sc_made : FnScope nm_made ["_law_card"] (defScope s_made) :=
  ⟨rfl, rfl, rfl, by decide +kernel, rfl, by decide +kernel, by decide +kernel⟩
abbrev nm_room : List Str := ["_law_bag_here", "_law_many", "_law_numbers_here", "_law_stations", "_law_crew", "_law_cards_here"]
theorem sc_room : FnScope nm_room ["_law_bag_here"] (defScope s_room) :=
  ⟨rfl, rfl, rfl, by decide +kernel, rfl, by decide +kernel, by decide +kernel⟩
abbrev nm_played : List Str := ["_law_watch", "_law_event", "_law_told"]
theorem sc_played : FnScope nm_played ["_law_watch", "_law_event"] (defScope s_played) :=
  ⟨rfl, rfl, rfl, by decide +kernel, rfl, by decide +kernel, by decide +kernel⟩
abbrev nm_row_stands : List Str := ["_law_room_here", "_law_stations", "_law_cards_here", "_law_most_open", "_law_events", "_law_watch", "_law_standing", "_law_at", "_law_event", "_law_told", "_law_is_short", "_law_missing"]
theorem sc_row_stands : FnScope nm_row_stands ["_law_room_here", "_law_stations", "_law_cards_here", "_law_most_open", "_law_events"] (defScope s_row_stands) :=
  ⟨rfl, rfl, rfl, by decide +kernel, rfl, by decide +kernel, by decide +kernel⟩
abbrev nm_table_stands : List Str := ["_law_stations", "_law_cards_here", "_law_most_open", "_law_table", "_law_known", "_law_start_here", "_law_standing", "_law_event", "_law_after", "_law_told", "_law_is_short"]
theorem sc_table_stands : FnScope nm_table_stands ["_law_stations", "_law_cards_here", "_law_most_open", "_law_table"] (defScope s_table_stands) :=
  ⟨rfl, rfl, rfl, by decide +kernel, rfl, by decide +kernel, by decide +kernel⟩
abbrev nm_stays : List Str := ["_law_bag_here", "_law_room_here", "_law_stations", "_law_cards_here", "_law_most_open", "_law_table", "_law_watch", "_law_standing", "_law_turn", "_law_events", "_law_event"]
theorem sc_stays : FnScope nm_stays ["_law_bag_here", "_law_room_here", "_law_stations", "_law_cards_here", "_law_most_open", "_law_table"] (defScope s_stays) :=
  ⟨rfl, rfl, rfl, by decide +kernel, rfl, by decide +kernel, by decide +kernel⟩
abbrev nm_law : List Str := ["_law_script", "_law_at", "_law_bag_here", "_law_stations", "_law_cards_here", "_law_most_open", "_law_room_here", "_law_card", "_law_orders", "_law_turn"]
theorem sc_law : FnScope nm_law ["_law_script"] (defScope s_law) :=
  ⟨rfl, rfl, rfl, by decide +kernel, rfl, by decide +kernel, by decide +kernel⟩
structure Txt (K : PySem.W.Frag) (mg : Str → Option Value) where
  CC : Addr
  RC : Addr
  HC : Addr
  OC : Addr
  WC : Addr
  gCC : mg "Card" = some (.ref CC)
  clCC : Cls K CC
  nNu : NoAttr K CC "number"
  nOr : NoAttr K CC "order"
  nCo : NoAttr K CC "counts"
  nOw : NoAttr K CC "owed"
  nMo : NoAttr K CC "moves"
  mcC : Value
  rdC : ClX.CRead K CC mcC
  uG : Value
  vG : ClX.CVal K CC mcC "GRADES" (.int 3) uG
  gRC : mg "Room" = some (.ref RC)
  clRC : Cls K RC
  nSt : NoAttr K RC "stations"
  nCa : NoAttr K RC "cards"
  nNs : NoAttr K RC "numbers"
  gHC : mg "Reach" = some (.ref HC)
  clHC : Cls K HC
  nHr : NoAttr K HC "room"
  nHo : NoAttr K HC "most_open"
  nHm : NoAttr K HC "met"
  nHs : NoAttr K HC "sources"
  gOC : mg "Orders" = some (.ref OC)
  clOC : Cls K OC
  nTa : NoAttr K OC "table"
  nEv : NoAttr K OC "events"
  gWC : mg "Watch" = some (.ref WC)
  clWC : Cls K WC
  nRo : NoAttr K WC "_room"
  nNw : NoAttr K WC "_now"
  tO : Addr
  tM : Addr
  a_is_whole : Addr
  d_is_whole : FuncData
  F_is_whole : Fun K "is_whole" "is_whole" s_is_whole a_is_whole d_is_whole
  b_is_whole : Binds K d_is_whole ["thing"] []
  g_is_whole : mg "is_whole" = some (.ref a_is_whole)
  a_is_whole_within : Addr
  d_is_whole_within : FuncData
  F_is_whole_within : Fun K "is_whole_within" "is_whole_within" s_is_whole_within a_is_whole_within d_is_whole_within
  b_is_whole_within : Binds K d_is_whole_within ["thing", "low", "high"] []
  g_is_whole_within : mg "is_whole_within" = some (.ref a_is_whole_within)
  a_is_sequence : Addr
  d_is_sequence : FuncData
  F_is_sequence : Fun K "is_sequence" "is_sequence" s_is_sequence a_is_sequence d_is_sequence
  b_is_sequence : Binds K d_is_sequence ["thing"] []
  g_is_sequence : mg "is_sequence" = some (.ref a_is_sequence)
  a_is_number : Addr
  d_is_number : FuncData
  F_is_number : Fun K "is_number" "is_number" s_is_number a_is_number d_is_number
  b_is_number : Binds K d_is_number ["thing"] []
  g_is_number : mg "is_number" = some (.ref a_is_number)
  a_is_station : Addr
  d_is_station : FuncData
  F_is_station : Fun K "is_station" "is_station" s_is_station a_is_station d_is_station
  b_is_station : Binds K d_is_station ["thing"] []
  g_is_station : mg "is_station" = some (.ref a_is_station)
  a_is_crew : Addr
  d_is_crew : FuncData
  F_is_crew : Fun K "is_crew" "is_crew" s_is_crew a_is_crew d_is_crew
  b_is_crew : Binds K d_is_crew ["thing"] []
  g_is_crew : mg "is_crew" = some (.ref a_is_crew)
  a_is_stations : Addr
  d_is_stations : FuncData
  F_is_stations : Fun K "is_stations" "is_stations" s_is_stations a_is_stations d_is_stations
  b_is_stations : Binds K d_is_stations ["thing"] []
  g_is_stations : mg "is_stations" = some (.ref a_is_stations)
  a_is_order : Addr
  d_is_order : FuncData
  F_is_order : Fun K "is_order" "is_order" s_is_order a_is_order d_is_order
  b_is_order : Binds K d_is_order ["thing"] []
  g_is_order : mg "is_order" = some (.ref a_is_order)
  a_are_counts : Addr
  d_are_counts : FuncData
  F_are_counts : Fun K "are_counts" "are_counts" s_are_counts a_are_counts d_are_counts
  b_are_counts : Binds K d_are_counts ["thing"] []
  g_are_counts : mg "are_counts" = some (.ref a_are_counts)
  a_is_move : Addr
  d_is_move : FuncData
  F_is_move : Fun K "is_move" "is_move" s_is_move a_is_move d_is_move
  b_is_move : Binds K d_is_move ["thing"] []
  g_is_move : mg "is_move" = some (.ref a_is_move)
  a_are_moves : Addr
  d_are_moves : FuncData
  F_are_moves : Fun K "are_moves" "are_moves" s_are_moves a_are_moves d_are_moves
  b_are_moves : Binds K d_are_moves ["thing"] []
  g_are_moves : mg "are_moves" = some (.ref a_are_moves)
  a_cinit : Addr
  d_cinit : FuncData
  F_cinit : FunD K "__init__" "Card.__init__" (defArgs s_cinit) (defBody s_cinit) (defScope s_cinit) [] [("owed", V.ref tO), ("moves", V.ref tM)] a_cinit d_cinit
  mk_cinit : Mk K CC a_cinit
  a_check_crew : Addr
  d_check_crew : FuncData
  F_check_crew : Fun K "check_crew" "check_crew" s_check_crew a_check_crew d_check_crew
  b_check_crew : Binds K d_check_crew ["card", "crew", "stations"] []
  g_check_crew : mg "check_crew" = some (.ref a_check_crew)
  a_check_card : Addr
  d_check_card : FuncData
  F_check_card : Fun K "check_card" "check_card" s_check_card a_check_card d_check_card
  b_check_card : Binds K d_check_card ["card", "stations"] []
  g_check_card : mg "check_card" = some (.ref a_check_card)
  a_rinit : Addr
  d_rinit : FuncData
  F_rinit : Fun K "__init__" "Room.__init__" s_rinit a_rinit d_rinit
  b_rinit : Binds K d_rinit ["self", "stations", "cards"] []
  mk_rinit : Mk K RC a_rinit
  a_rstart : Addr
  d_rstart : FuncData
  F_rstart : Fun K "start" "Room.start" s_rstart a_rstart d_rstart
  b_rstart : Binds K d_rstart ["self"] []
  m_rstart : Meth K RC "start" a_rstart
  a_card_index : Addr
  d_card_index : FuncData
  F_card_index : Fun K "card_index" "Room.card_index" s_card_index a_card_index d_card_index
  b_card_index : Binds K d_card_index ["self", "number"] []
  m_card_index : Meth K RC "card_index" a_card_index
  a_card_of : Addr
  d_card_of : FuncData
  F_card_of : Fun K "card_of" "Room.card_of" s_card_of a_card_of d_card_of
  b_card_of : Binds K d_card_of ["self", "number"] []
  m_card_of : Meth K RC "card_of" a_card_of
  a_grade_in : Addr
  d_grade_in : FuncData
  F_grade_in : Fun K "grade_in" "Room.grade_in" s_grade_in a_grade_in d_grade_in
  b_grade_in : Binds K d_grade_in ["self", "standing", "number"] []
  m_grade_in : Meth K RC "grade_in" a_grade_in
  a_open_count : Addr
  d_open_count : FuncData
  F_open_count : Fun K "open_count" "open_count" s_open_count a_open_count d_open_count
  b_open_count : Binds K d_open_count ["grades"] []
  g_open_count : mg "open_count" = some (.ref a_open_count)
  a_rallowed : Addr
  d_rallowed : FuncData
  F_rallowed : Fun K "allowed" "Room.allowed" s_rallowed a_rallowed d_rallowed
  b_rallowed : Binds K d_rallowed ["self", "standing", "most_open"] []
  m_rallowed : Meth K RC "allowed" a_rallowed
  a_crews_at : Addr
  d_crews_at : FuncData
  F_crews_at : Fun K "crews_at" "crews_at" s_crews_at a_crews_at d_crews_at
  b_crews_at : Binds K d_crews_at ["places", "wanted"] []
  g_crews_at : mg "crews_at" = some (.ref a_crews_at)
  a_can_move : Addr
  d_can_move : FuncData
  F_can_move : Fun K "can_move" "can_move" s_can_move a_can_move d_can_move
  b_can_move : Binds K d_can_move ["places", "crew", "station"] []
  g_can_move : mg "can_move" = some (.ref a_can_move)
  a_with_grade : Addr
  d_with_grade : FuncData
  F_with_grade : Fun K "with_grade" "Room.with_grade" s_with_grade a_with_grade d_with_grade
  b_with_grade : Binds K d_with_grade ["self", "standing", "places", "number", "grade"] []
  m_with_grade : Meth K RC "with_grade" a_with_grade
  a_can_go_home : Addr
  d_can_go_home : FuncData
  F_can_go_home : Fun K "can_go_home" "Room.can_go_home" s_can_go_home a_can_go_home d_can_go_home
  b_can_go_home : Binds K d_can_go_home ["self", "places", "crew"] []
  m_can_go_home : Meth K RC "can_go_home" a_can_go_home
  a_close : Addr
  d_close : FuncData
  F_close : Fun K "close" "Room.close" s_close a_close d_close
  b_close : Binds K d_close ["self", "standing", "number"] []
  m_close : Meth K RC "close" a_close
  a_lift : Addr
  d_lift : FuncData
  F_lift : Fun K "lift" "Room.lift" s_lift a_lift d_lift
  b_lift : Binds K d_lift ["self", "standing", "number", "grade"] []
  m_lift : Meth K RC "lift" a_lift
  a_rstep : Addr
  d_rstep : FuncData
  F_rstep : Fun K "step" "Room.step" s_rstep a_rstep d_rstep
  b_rstep : Binds K d_rstep ["self", "standing", "event"] []
  m_rstep : Meth K RC "step" a_rstep
  a_oinit : Addr
  d_oinit : FuncData
  F_oinit : Fun K "__init__" "Orders.__init__" s_oinit a_oinit d_oinit
  b_oinit : Binds K d_oinit ["self", "table", "events"] []
  mk_oinit : Mk K OC a_oinit
  a_hinit : Addr
  d_hinit : FuncData
  F_hinit : Fun K "__init__" "Reach.__init__" s_hinit a_hinit d_hinit
  b_hinit : Binds K d_hinit ["self", "room", "most_open"] []
  mk_hinit : Mk K HC a_hinit
  a_steps_from : Addr
  d_steps_from : FuncData
  F_steps_from : Fun K "steps_from" "Reach.steps_from" s_steps_from a_steps_from d_steps_from
  b_steps_from : Binds K d_steps_from ["self", "standing"] []
  m_steps_from : Meth K HC "steps_from" a_steps_from
  a_meet : Addr
  d_meet : FuncData
  F_meet : Fun K "meet" "Reach.meet" s_meet a_meet d_meet
  b_meet : Binds K d_meet ["self", "standing", "event", "after"] []
  m_meet : Meth K HC "meet" a_meet
  a_row_to : Addr
  d_row_to : FuncData
  F_row_to : Fun K "row_to" "Reach.row_to" s_row_to a_row_to d_row_to
  b_row_to : Binds K d_row_to ["self", "standing"] []
  m_row_to : Meth K HC "row_to" a_row_to
  a_makes_short : Addr
  d_makes_short : FuncData
  F_makes_short : Fun K "makes_short" "makes_short" s_makes_short a_makes_short d_makes_short
  b_makes_short : Binds K d_makes_short ["event", "told"] []
  g_makes_short : mg "makes_short" = some (.ref a_makes_short)
  a_judge_orders : Addr
  d_judge_orders : FuncData
  F_judge_orders : Fun K "judge_orders" "judge_orders" s_judge_orders a_judge_orders d_judge_orders
  g_judge_orders : mg "judge_orders" = some (.ref a_judge_orders)
  a_is_safe : Addr
  d_is_safe : FuncData
  F_is_safe : Fun K "is_safe" "Orders.is_safe" s_is_safe a_is_safe d_is_safe
  b_is_safe : Binds K d_is_safe ["self"] []
  a_winit : Addr
  d_winit : FuncData
  F_winit : Fun K "__init__" "Watch.__init__" s_winit a_winit d_winit
  b_winit : Binds K d_winit ["self", "room"] []
  mk_winit : Mk K WC a_winit
  a_wstanding : Addr
  d_wstanding : FuncData
  F_wstanding : Fun K "standing" "Watch.standing" s_wstanding a_wstanding d_wstanding
  b_wstanding : Binds K d_wstanding ["self"] []
  a_wgrade : Addr
  d_wgrade : FuncData
  F_wgrade : Fun K "grade" "Watch.grade" s_wgrade a_wgrade d_wgrade
  b_wgrade : Binds K d_wgrade ["self", "number"] []
  m_wgrade : Meth K WC "grade" a_wgrade
  a_do_event : Addr
  d_do_event : FuncData
  F_do_event : Fun K "do_event" "Watch.do_event" s_do_event a_do_event d_do_event
  b_do_event : Binds K d_do_event ["self", "word", "number"] []
  m_do_event : Meth K WC "do_event" a_do_event
  a_wcall : Addr
  d_wcall : FuncData
  F_wcall : Fun K "call" "Watch.call" s_wcall a_wcall d_wcall
  b_wcall : Binds K d_wcall ["self", "number"] []
  m_wcall : Meth K WC "call" a_wcall
  a_check_open : Addr
  d_check_open : FuncData
  F_check_open : Fun K "check_open" "Watch.check_open" s_check_open a_check_open d_check_open
  b_check_open : Binds K d_check_open ["self", "number"] []
  m_check_open : Meth K WC "check_open" a_check_open
  a_wmore : Addr
  d_wmore : FuncData
  F_wmore : Fun K "more" "Watch.more" s_wmore a_wmore d_wmore
  b_wmore : Binds K d_wmore ["self", "number"] []
  m_wmore : Meth K WC "more" a_wmore
  a_wback : Addr
  d_wback : FuncData
  F_wback : Fun K "back" "Watch.back" s_wback a_wback d_wback
  b_wback : Binds K d_wback ["self", "number"] []
  m_wback : Meth K WC "back" a_wback
  a_bag : Addr
  d_bag : FuncData
  F_bag : Fun K "_law_bag" "_law_bag" s_bag a_bag d_bag
  b_bag : Binds K d_bag ["_law_script", "_law_at"] []
  g_bag : mg "_law_bag" = some (.ref a_bag)
  a_take : Addr
  d_take : FuncData
  F_take : Fun K "_law_take" "_law_take" s_take a_take d_take
  b_take : Binds K d_take ["_law_bag_here", "_law_many"] []
  g_take : mg "_law_take" = some (.ref a_take)
  a_of : Addr
  d_of : FuncData
  F_of : Fun K "_law_of" "_law_of" s_of a_of d_of
  b_of : Binds K d_of ["_law_bag_here", "_law_some"] []
  g_of : mg "_law_of" = some (.ref a_of)
  a_number : Addr
  d_number : FuncData
  F_number : Fun K "_law_number" "_law_number" s_number a_number d_number
  b_number : Binds K d_number ["_law_bag_here"] []
  g_number : mg "_law_number" = some (.ref a_number)
  a_numbers : Addr
  d_numbers : FuncData
  F_numbers : Fun K "_law_numbers" "_law_numbers" s_numbers a_numbers d_numbers
  b_numbers : Binds K d_numbers ["_law_bag_here", "_law_many"] []
  g_numbers : mg "_law_numbers" = some (.ref a_numbers)
  a_cards : Addr
  d_cards : FuncData
  F_cards : Fun K "_law_cards" "_law_cards" s_cards a_cards d_cards
  b_cards : Binds K d_cards ["_law_bag_here", "_law_numbers_here", "_law_stations", "_law_most_moves", "_law_way"] []
  g_cards : mg "_law_cards" = some (.ref a_cards)
  a_sent : Addr
  d_sent : FuncData
  F_sent : Fun K "_law_sent" "_law_sent" s_sent a_sent d_sent
  b_sent : Binds K d_sent ["_law_places", "_law_card", "_law_grade"] []
  g_sent : mg "_law_sent" = some (.ref a_sent)
  a_back : Addr
  d_back : FuncData
  F_back : Fun K "_law_back" "_law_back" s_back a_back d_back
  b_back : Binds K d_back ["_law_places", "_law_stations", "_law_number_here"] []
  g_back : mg "_law_back" = some (.ref a_back)
  a_step : Addr
  d_step : FuncData
  F_step : Fun K "_law_step" "_law_step" s_step a_step d_step
  b_step : Binds K d_step ["_law_stations", "_law_cards_here", "_law_standing", "_law_event"] []
  g_step : mg "_law_step" = some (.ref a_step)
  a_start : Addr
  d_start : FuncData
  F_start : Fun K "_law_start" "_law_start" s_start a_start d_start
  b_start : Binds K d_start ["_law_stations", "_law_cards_here"] []
  g_start : mg "_law_start" = some (.ref a_start)
  a_allowed : Addr
  d_allowed : FuncData
  F_allowed : Fun K "_law_allowed" "_law_allowed" s_allowed a_allowed d_allowed
  b_allowed : Binds K d_allowed ["_law_cards_here", "_law_standing", "_law_most_open"] []
  g_allowed : mg "_law_allowed" = some (.ref a_allowed)
  a_made : Addr
  d_made : FuncData
  F_made : Fun K "_law_made" "_law_made" s_made a_made d_made
  b_made : Binds K d_made ["_law_card"] []
  g_made : mg "_law_made" = some (.ref a_made)
  a_room : Addr
  d_room : FuncData
  F_room : Fun K "_law_room" "_law_room" s_room a_room d_room
  b_room : Binds K d_room ["_law_bag_here"] []
  g_room : mg "_law_room" = some (.ref a_room)
  a_played : Addr
  d_played : FuncData
  F_played : Fun K "_law_played" "_law_played" s_played a_played d_played
  b_played : Binds K d_played ["_law_watch", "_law_event"] []
  g_played : mg "_law_played" = some (.ref a_played)
  a_row_stands : Addr
  d_row_stands : FuncData
  F_row_stands : Fun K "_law_row_stands" "_law_row_stands" s_row_stands a_row_stands d_row_stands
  b_row_stands : Binds K d_row_stands ["_law_room_here", "_law_stations", "_law_cards_here", "_law_most_open", "_law_events"] []
  g_row_stands : mg "_law_row_stands" = some (.ref a_row_stands)
  a_table_stands : Addr
  d_table_stands : FuncData
  F_table_stands : Fun K "_law_table_stands" "_law_table_stands" s_table_stands a_table_stands d_table_stands
  b_table_stands : Binds K d_table_stands ["_law_stations", "_law_cards_here", "_law_most_open", "_law_table"] []
  g_table_stands : mg "_law_table_stands" = some (.ref a_table_stands)
  a_stays : Addr
  d_stays : FuncData
  F_stays : Fun K "_law_stays" "_law_stays" s_stays a_stays d_stays
  b_stays : Binds K d_stays ["_law_bag_here", "_law_room_here", "_law_stations", "_law_cards_here", "_law_most_open", "_law_table"] []
  g_stays : mg "_law_stays" = some (.ref a_stays)
  a_law : Addr
  d_law : FuncData
  F_law : Fun K "law" "law" s_law a_law d_law
  b_law : Binds K d_law ["_law_script"] []
  g_law : mg "law" = some (.ref a_law)
  t_DIGITS : Tok
  c_DIGITS : mg "DIGITS" = some (.str "123456789" t_DIGITS)
  t_MOST_DIGITS : Tok
  c_MOST_DIGITS : mg "MOST_DIGITS" = some (.int 4 t_MOST_DIGITS)
  t_GREATEST_SUM : Tok
  c_GREATEST_SUM : mg "GREATEST_SUM" = some (.int 24 t_GREATEST_SUM)
  t_MOST_CREWS : Tok
  c_MOST_CREWS : mg "MOST_CREWS" = some (.int 6 t_MOST_CREWS)
  t_LAST_CREW : Tok
  c_LAST_CREW : mg "LAST_CREW" = some (.int 5 t_LAST_CREW)
  t_LAST_STATION : Tok
  c_LAST_STATION : mg "LAST_STATION" = some (.int 8 t_LAST_STATION)
  t_MOST_MOVES : Tok
  c_MOST_MOVES : mg "MOST_MOVES" = some (.int 6 t_MOST_MOVES)
  t_IN : Tok
  c_IN : mg "IN" = some (.str "in" t_IN)
  t_OUT : Tok
  c_OUT : mg "OUT" = some (.str "out" t_OUT)
  t_CALL : Tok
  c_CALL : mg "CALL" = some (.str "call" t_CALL)
  t_MORE : Tok
  c_MORE : mg "MORE" = some (.str "more" t_MORE)
  t_BACK : Tok
  c_BACK : mg "BACK" = some (.str "back" t_BACK)
  t_MOST_STANDINGS : Tok
  c_MOST_STANDINGS : mg "MOST_STANDINGS" = some (.int 3000 t_MOST_STANDINGS)
  z_abs : mg "abs" = none
  z_all : mg "all" = none
  z_any : mg "any" = none
  z_bool : mg "bool" = none
  z_enumerate : mg "enumerate" = none
  z_int : mg "int" = none
  z_isinstance : mg "isinstance" = none
  z_len : mg "len" = none
  z_list : mg "list" = none
  z_max : mg "max" = none
  z_min : mg "min" = none
  z_range : mg "range" = none
  z_repr : mg "repr" = none
  z_set : mg "set" = none
  z_str : mg "str" = none
  z_sum : mg "sum" = none
  z_tuple : mg "tuple" = none
  z_zip : mg "zip" = none
  kb_cinit : KBn K d_cinit ["self", "number", "order", "counts", "owed", "moves"] 3 ["counts", "owed", "moves"] (fun us ws => us ++ ws) (fun vs zs => vs ++ zs)
  kb_judge_orders : KBn K d_judge_orders ["room", "most_open"] 1 ["most_open"] (fun us ws => us ++ ws) (fun vs zs => vs ++ zs)
  pL : Addr
  pr : PropOf K WC "standing" pL a_wstanding
  pS : Addr
  prS : PropOf K OC "is_safe" pS a_is_safe
  isiO : SlX.SIsi K OC
  kSO : PySem.W.kitOne K (.ref OC) (.ref OC) = some true
end K57

namespace K57
open PySem L2 Wm TL Dv
/-- pairwise -/
inductive All2 {α β : Type} (R : α → β → Prop) : List α → List β → Prop
  | nil : All2 R [] []
  | cons {a : α} {b : β} {as : List α} {bs : List β} : R a b → All2 R as bs → All2 R (a :: as) (b :: bs)
/-- all but what stands at one address -/
def Bu (p : Addr) (H H' : Hp) : Prop := ∀ q o, q ≠ p → H q = some o → H' q = some o
/-- the source of draws -/
def Bk (H : Hp) (b : Addr) : Prop := ∃ x y : Int, H b = some (.lst [.int x, .int y]) ∧ 0 ≤ x ∧ 0 ≤ y ∧ y < 2147483648
/-- where a crew is -/
inductive Pl | ins (s : Nat) | out (n : List Nat)
  deriving DecidableEq
def plD : Pl → PyData
  | .ins s => .tuple [.str "in", .int (s : Nat)]
  | .out n => .tuple [.str "out", .str (numS n)]
structure Cd where
  ds : List Nat
  order : List Nat
  counts : List Nat
  owed : List Nat
  moves : List (Nat × Nat)
structure Sd where
  pl : List Pl
  gr : List Nat
structure Rm where
  st : List Nat
  cs : List Cd
def iD (ns : List Nat) : PyData := .tuple (ns.map fun (n : Nat) => PyData.int (n : Int))
def mvD (m : List (Nat × Nat)) : PyData := .tuple (m.map fun x => PyData.tuple [.int (x.1 : Nat), .int (x.2 : Nat)])
def sdD (s : Sd) : PyData := .tuple [.tuple (s.pl.map plD), iD s.gr]
def cdD (c : Cd) : PyData := .tuple [.str (numS c.ds), iD c.order, iD c.counts, iD c.owed, mvD c.moves]
/-- what a step tells -/
inductive Td | non | sent (g : Nat) (went : List Nat) (moved : List (Nat × Nat)) (short : Nat) | back (r h : List Nat)
def tdD : Td → PyData
  | .non => .none
  | .sent g w m s => .tuple [.int (g : Nat), iD w, mvD m, .int (s : Nat)]
  | .back r h => .tuple [iD r, iD h]
def TdAt (K : PySem.W.Frag) (H : Hp) (v : V) (t : Td) : Prop := (t = .non ∧ v = .non) ∨ (t ≠ .non ∧ Dt K H v (tdD t))
structure CdOk (st : List Nat) (c : Cd) : Prop where
  num : Num c.ds
  ord : ∀ k ∈ c.order, k < st.length
  nd : c.order.Nodup
  c3 : c.counts.length = 3
  c6 : ∀ k ∈ c.counts, k ≤ 6
  o3 : c.owed.length = 3
  o6 : ∀ k ∈ c.owed, k ≤ 6
  m6 : c.moves.length ≤ 6
  mv : ∀ x ∈ c.moves, x.1 < st.length ∧ x.2 ∈ st
structure RmOk (r : Rm) : Prop where
  st1 : 1 ≤ r.st.length
  st6 : r.st.length ≤ 6
  st8 : ∀ s ∈ r.st, s ≤ 8
  cs6 : r.cs.length ≤ 6
  ok : ∀ c ∈ r.cs, CdOk r.st c
  nd : (r.cs.map fun c => c.ds).Nodup
def plOk : Pl → Prop
  | .ins s => s ≤ 8
  | .out ds => Num ds
structure SdOk (r : Rm) (s : Sd) : Prop where
  pl : s.pl.length = r.st.length
  gr : s.gr.length = r.cs.length
  g3 : ∀ g ∈ s.gr, g ≤ 3
  ok : ∀ p ∈ s.pl, plOk p
def CardAt (K : PySem.W.Frag) (CC : Addr) (H : Hp) (v : V) (c : Cd) : Prop := ∃ p dx fs o1 o2 o3 o4, v = .ref p ∧ H p = some (.ins CC dx fs) ∧ fs.lookup ("number" : Str) = some (.str (numS c.ds)) ∧
  fs.lookup ("order" : Str) = some o1 ∧ Dt K H o1 (iD c.order) ∧ fs.lookup ("counts" : Str) = some o2 ∧ Dt K H o2 (iD c.counts) ∧ fs.lookup ("owed" : Str) = some o3 ∧ Dt K H o3 (iD c.owed) ∧ fs.lookup ("moves" : Str) = some o4 ∧ Dt K H o4 (mvD c.moves) ∧ fs.lookup ("_room" : Str) = none
def RoomAt (K : PySem.W.Frag) (RC CC : Addr) (H : Hp) (p : Addr) (r : Rm) : Prop := ∃ dx fs s q n cvs, H p = some (.ins RC dx fs) ∧ fs.lookup ("stations" : Str) = some s ∧ Dt K H s (iD r.st) ∧ fs.lookup ("cards" : Str) = some (.ref q) ∧ SqT K H q cvs ∧ All2 (CardAt K CC H) cvs r.cs ∧
  fs.lookup ("numbers" : Str) = some (.ref n) ∧ Tf.TF H n ((r.cs.map fun c => numS c.ds).map V.str) ∧ ∀ m : Str, m ≠ "stations" → m ≠ "cards" → m ≠ "numbers" → fs.lookup m = none
def WatchAt (K : PySem.W.Frag) (WC : Addr) (H : Hp) (p rp : Addr) (s : Sd) : Prop := ∃ dx fs v, H p = some (.ins WC dx fs) ∧ fs.length ≤ 2 ∧ fs.lookup ("_room" : Str) = some (.ref rp) ∧ fs.lookup ("_now" : Str) = some v ∧ Dt K H v (sdD s) ∧ ∀ m : Str, m ≠ "_room" → m ≠ "_now" → fs.lookup m = none
/-! ### steps -/
def atL (pl : List Pl) (p : Pl) : List Nat := (List.range pl.length).filter fun i => decide (pl[i]? = some p)
def isIn (pl : List Pl) (i : Nat) : Bool := match pl[i]? with
  | some (.ins _) => true
  | _ => false
def goL (pl : List Pl) (order : List Nat) (k : Nat) : List Nat := (order.filter (isIn pl)).take k
def outP (ds : List Nat) (pl : List Pl) (went : List Nat) : List Pl := went.foldl (fun p i => p.set i (.out ds)) pl
def canB (pl : List Pl) (c s : Nat) : Bool := decide (atL pl (.ins s) = []) && (isIn pl c && decide (1 < (match pl[c]? with
  | some p => (atL pl p).length
  | none => 0)))
def mvS (x : List Pl × List (Nat × Nat)) (m : Nat × Nat) : List Pl × List (Nat × Nat) := if canB x.1 m.1 m.2 = true then (x.1.set m.1 (.ins m.2), x.2 ++ [m]) else x
def mvF (pl : List Pl) (ms : List (Nat × Nat)) : List Pl × List (Nat × Nat) := ms.foldl mvS (pl, [])
def wentF (c : Cd) (pl : List Pl) (g : Nat) : List Nat := goL pl c.order (c.counts.getD (g - 1) 0)
def liftP (c : Cd) (pl : List Pl) (g : Nat) : List Pl × List (Nat × Nat) := mvF (outP c.ds pl (wentF c pl g)) c.moves
def liftT (c : Cd) (pl : List Pl) (g : Nat) : Td := .sent g (wentF c pl g) (liftP c pl g).2 (c.owed.getD (g - 1) 0 - (atL (liftP c pl g).1 (.out c.ds)).length)
def inP (st : List Nat) (pl : List Pl) (rs : List Nat) : List Pl := rs.foldl (fun p i => p.set i (.ins (st.getD i 0))) pl
def homeB (st : List Nat) (pl : List Pl) (i : Nat) : Bool := match pl[i]? with
  | some (.ins s) => decide (s ≠ st.getD i 0) && (atL pl (.ins s)).any fun o => decide (st.getD o 0 = s)
  | _ => false
def homeS (st : List Nat) (x : List Pl × List Nat) (i : Nat) : List Pl × List Nat := if homeB st x.1 i = true then (x.1.set i (.ins (st.getD i 0)), x.2 ++ [i]) else x
def homeF (st : List Nat) (pl : List Pl) (n : Nat) : List Pl × List Nat := (List.range n).foldl (homeS st) (pl, [])
def backP (st ds : List Nat) (pl : List Pl) : List Pl × List Nat := homeF st (inP st pl (atL pl (.out ds))) st.length
def backT (st ds : List Nat) (pl : List Pl) : Td := .back (atL pl (.out ds)) (backP st ds pl).2
inductive Wd | call | more | back
  deriving DecidableEq
def wdS : Wd → Str
  | .call => "call"
  | .more => "more"
  | .back => "back"
def stepS (r : Rm) (s : Sd) (w : Wd) (i : Nat) : Sd := match r.cs[i]? with
  | none => s
  | some c => match w with
    | .back => ⟨(backP r.st c.ds s.pl).1, s.gr.set i 0⟩
    | .call => if 0 < s.gr.getD i 0 then s else ⟨(liftP c s.pl 1).1, s.gr.set i 1⟩
    | .more => ⟨(liftP c s.pl (s.gr.getD i 0 + 1)).1, s.gr.set i (s.gr.getD i 0 + 1)⟩
def stepT (r : Rm) (s : Sd) (w : Wd) (i : Nat) : Td := match r.cs[i]? with
  | none => .non
  | some c => match w with
    | .back => backT r.st c.ds s.pl
    | .call => if 0 < s.gr.getD i 0 then .non else liftT c s.pl 1
    | .more => liftT c s.pl (s.gr.getD i 0 + 1)
def openN (gr : List Nat) : Nat := (gr.filter fun g => decide (0 < g)).length
abbrev Ev := Wd × List Nat
def evD (e : Ev) : PyData := .tuple [.str (wdS e.1), .str (numS e.2)]
def alI (gr : List Nat) (m : Nat) (x : List Nat × Nat) : List Ev := (if x.2 = 0 ∧ openN gr < m then [(.call, x.1)] else []) ++ ((if 0 < x.2 ∧ x.2 < 3 then [(.more, x.1)] else []) ++ (if 0 < x.2 then [(.back, x.1)] else []))
def alF (r : Rm) (gr : List Nat) (m : Nat) : List Ev := ((r.cs.map fun c => c.ds).zip gr).flatMap (alI gr m)
/-- a thing that is asked for: its card's place, if it has one -/
def AskAt (r : Rm) (x : V) (o : Option Nat) : Prop := match o with
  | some i => ∃ c, r.cs[i]? = some c ∧ x = .str (numS c.ds)
  | none => ∀ c ∈ r.cs, x ≠ .str (numS c.ds)
def grOf (s : Sd) (o : Option Nat) : Nat := match o with
  | some i => s.gr.getD i 0
  | none => 0
/-! ### promises -/
def wholeB : V → Bool
  | .int _ => true
  | _ => false
def withB : V → Int → Int → Bool
  | .int i, l, h => decide (l ≤ i) && decide (i ≤ h)
  | _, _, _ => false
def sp_is_whole (K : PySem.W.Frag) : Sp := fun vs H Q _ => ∃ x d, vs = [x] ∧ Ob K H x d ∧ Q (.bl (wholeB x)) H
def sp_is_whole_within (K : PySem.W.Frag) : Sp := fun vs H Q _ => ∃ x d, ∃ l h : Int, vs = [x, .int l, .int h] ∧ Ob K H x d ∧ Q (.bl (withB x l h)) H
def sp_is_sequence (K : PySem.W.Frag) : Sp := fun vs H Q _ => ∃ (p : Addr) (xs : List V) (t : Bool), vs = [.ref p] ∧ Kd.Is K t H p xs ∧ ∀ H', Same H H' → Q (.bl true) H'
def sp_is_number (K : PySem.W.Frag) : Sp := fun vs H Q _ => ∃ x d, vs = [x] ∧ Ob K H x d ∧ ∀ H' b, Same H H' → (b = true ↔ IsN x) → Q (.bl b) H'
def sp_is_station (K : PySem.W.Frag) : Sp := fun vs H Q _ => ∃ n : Nat, vs = [.int (n : Nat)] ∧ n ≤ 8 ∧ Q (.bl true) H
def sp_is_crew (K : PySem.W.Frag) : Sp := fun vs H Q _ => ∃ n : Nat, vs = [.int (n : Nat)] ∧ n ≤ 5 ∧ Q (.bl true) H
def nV (ns : List Nat) : List V := ns.map fun (n : Nat) => V.int (n : Int)
def sp_is_stations (K : PySem.W.Frag) : Sp := fun vs H Q _ => ∃ (p : Addr) (ns : List Nat), vs = [.ref p] ∧ H p = some (.lst (nV ns)) ∧ 1 ≤ ns.length ∧ ns.length ≤ 6 ∧ (∀ n ∈ ns, n ≤ 8) ∧ ∀ H', Same H H' → Q (.bl true) H'
def sp_is_order (K : PySem.W.Frag) : Sp := fun vs H Q _ => ∃ (p : Addr) (ns : List Nat), vs = [.ref p] ∧ SqT K H p (nV ns) ∧ ns.Nodup ∧ (∀ n ∈ ns, n ≤ 5) ∧ ∀ H', Same H H' → Q (.bl true) H'
def sp_are_counts (K : PySem.W.Frag) : Sp := fun vs H Q _ => ∃ (p : Addr) (ns : List Nat), vs = [.ref p] ∧ SqT K H p (nV ns) ∧ ns.length = 3 ∧ (∀ n ∈ ns, n ≤ 6) ∧ ∀ H', Same H H' → Q (.bl true) H'
def sp_is_move (K : PySem.W.Frag) : Sp := fun vs H Q _ => ∃ (v : V) (a b : Nat), vs = [v] ∧ Dt K H v (.tuple [.int (a : Nat), .int (b : Nat)]) ∧ a ≤ 5 ∧ b ≤ 8 ∧ ∀ H', Same H H' → Q (.bl true) H'
def sp_are_moves (K : PySem.W.Frag) : Sp := fun vs H Q _ => ∃ (v : V) (ms : List (Nat × Nat)), vs = [v] ∧ Dt K H v (mvD ms) ∧ ms.length ≤ 6 ∧ (∀ m ∈ ms, m.1 ≤ 5 ∧ m.2 ≤ 8) ∧ ∀ H', Same H H' → Q (.bl true) H'
def sp_cinit (K : PySem.W.Frag) (CC : Addr) : Sp := fun vs H Q _ => ∃ (p dx : Addr) (st : List Nat) (c : Cd) (v1 v2 v3 v4 : V), vs = [.ref p, .str (numS c.ds), v1, v2, v3, v4] ∧ H p = some (.ins CC dx []) ∧ st.length ≤ 6 ∧ (∀ s ∈ st, s ≤ 8) ∧ CdOk st c ∧ Dt K H v1 (iD c.order) ∧ Dt K H v2 (iD c.counts) ∧ Dt K H v3 (iD c.owed) ∧ Dt K H v4 (mvD c.moves) ∧
  ∀ H', Bu p H H' → CardAt K CC H' (.ref p) c → Q .non H'
def sp_check_crew (K : PySem.W.Frag) : Sp := fun vs H Q _ => ∃ (v : V) (n : Nat) (p : Addr) (st : List Nat), vs = [v, .int (n : Nat), .ref p] ∧ H p = some (.lst (nV st)) ∧ n < st.length ∧ st.length ≤ 6 ∧ Q .non H
def sp_check_card (K : PySem.W.Frag) (CC : Addr) : Sp := fun vs H Q _ => ∃ (v : V) (c : Cd) (p : Addr) (st : List Nat), vs = [v, .ref p] ∧ CardAt K CC H v c ∧ H p = some (.lst (nV st)) ∧ st.length ≤ 6 ∧ CdOk st c ∧ ∀ H', Same H H' → Q .non H'
def sp_rinit (K : PySem.W.Frag) (CC RC : Addr) : Sp := fun vs H Q _ => ∃ (p dx a b : Addr) (r : Rm) (cvs : List V), vs = [.ref p, .ref a, .ref b] ∧ H p = some (.ins RC dx []) ∧ a ≠ p ∧ b ≠ p ∧ H a = some (.lst (nV r.st)) ∧ H b = some (.lst cvs) ∧ All2 (CardAt K CC H) cvs r.cs ∧ RmOk r ∧
  ∀ H', Bu p H H' → RoomAt K RC CC H' p r → Q .non H'
def startS (r : Rm) : Sd := ⟨r.st.map .ins, r.cs.map fun _ => 0⟩
def sp_rstart (K : PySem.W.Frag) (CC RC : Addr) : Sp := fun vs H Q _ => ∃ (p : Addr) (r : Rm), vs = [.ref p] ∧ RoomAt K RC CC H p r ∧ RmOk r ∧ ∀ H' v, Same H H' → Dt K H' v (sdD (startS r)) → Q v H'
def sp_card_index (K : PySem.W.Frag) (CC RC : Addr) : Sp := fun vs H Q _ => ∃ (p : Addr) (r : Rm) (i : Nat) (c : Cd), vs = [.ref p, .str (numS c.ds)] ∧ RoomAt K RC CC H p r ∧ RmOk r ∧ r.cs[i]? = some c ∧ Q (.int (i : Nat)) H
def sp_card_of (K : PySem.W.Frag) (CC RC : Addr) : Sp := fun vs H Q _ => ∃ (p : Addr) (r : Rm) (i : Nat) (c : Cd), vs = [.ref p, .str (numS c.ds)] ∧ RoomAt K RC CC H p r ∧ RmOk r ∧ r.cs[i]? = some c ∧ ∀ v, CardAt K CC H v c → Q v H
def sp_grade_in (K : PySem.W.Frag) (CC RC : Addr) : Sp := fun vs H Q _ => ∃ (p : Addr) (r : Rm) (i : Nat) (c : Cd) (v : V) (s : Sd), vs = [.ref p, v, .str (numS c.ds)] ∧ RoomAt K RC CC H p r ∧ RmOk r ∧ r.cs[i]? = some c ∧ Dt K H v (sdD s) ∧ SdOk r s ∧ ∀ H', Same H H' → Q (.int (s.gr.getD i 0 : Nat)) H'
def sp_open_count (K : PySem.W.Frag) : Sp := fun vs H Q _ => ∃ (v : V) (gr : List Nat), vs = [v] ∧ Dt K H v (iD gr) ∧ gr.length ≤ 6 ∧ ∀ H', Same H H' → Q (.int (openN gr : Nat)) H'
def sp_rallowed (K : PySem.W.Frag) (CC RC : Addr) : Sp := fun vs H Q _ => ∃ (p : Addr) (r : Rm) (v : V) (s : Sd) (m : Nat), vs = [.ref p, v, .int (m : Nat)] ∧ RoomAt K RC CC H p r ∧ RmOk r ∧ Dt K H v (sdD s) ∧ SdOk r s ∧ ∀ H' u, Same H H' → Dt K H' u (.tuple ((alF r s.gr m).map evD)) → Q u H'
def sp_crews_at (K : PySem.W.Frag) : Sp := fun vs H Q _ => ∃ (a : Addr) (x : V) (t : Bool) (xs : List V) (pl : List Pl) (p : Pl), vs = [.ref a, x] ∧ Kd.Is K t H a xs ∧ Dts K H xs (pl.map plD) ∧ Dt K H x (plD p) ∧ (∀ p ∈ pl, plOk p) ∧ plOk p ∧ pl.length ≤ 6 ∧
  ∀ H' q, Same H H' → H q = none → H' q = some (.lst (nV (atL pl p))) → Q (.ref q) H'
def sp_can_move (K : PySem.W.Frag) : Sp := fun vs H Q _ => ∃ (a : Addr) (xs : List V) (pl : List Pl) (c s : Nat), vs = [.ref a, .int (c : Nat), .int (s : Nat)] ∧ H a = some (.lst xs) ∧ Dts K H xs (pl.map plD) ∧ (∀ p ∈ pl, plOk p) ∧ pl.length ≤ 6 ∧ c < pl.length ∧ s ≤ 8 ∧
  ∀ H', Same H H' → Q (.bl (canB pl c s)) H'
def sp_with_grade (K : PySem.W.Frag) (CC RC : Addr) : Sp := fun vs H Q _ => ∃ (p : Addr) (r : Rm) (i : Nat) (c : Cd) (v : V) (s : Sd) (a : Addr) (xs : List V) (pl : List Pl) (g : Nat), vs = [.ref p, v, .ref a, .str (numS c.ds), .int (g : Nat)] ∧ RoomAt K RC CC H p r ∧ RmOk r ∧ r.cs[i]? = some c ∧ Dt K H v (sdD s) ∧ SdOk r s ∧
  H a = some (.lst xs) ∧ Dts K H xs (pl.map plD) ∧ pl.length ≤ 6 ∧ ∀ H' u, Same H H' → Dt K H' u (sdD ⟨pl, s.gr.set i g⟩) → Q u H'
def sp_can_go_home (K : PySem.W.Frag) (CC RC : Addr) : Sp := fun vs H Q _ => ∃ (p : Addr) (r : Rm) (a : Addr) (xs : List V) (pl : List Pl) (i : Nat), vs = [.ref p, .ref a, .int (i : Nat)] ∧ RoomAt K RC CC H p r ∧ RmOk r ∧ H a = some (.lst xs) ∧ Dts K H xs (pl.map plD) ∧ (∀ p ∈ pl, plOk p) ∧ pl.length = r.st.length ∧ i < pl.length ∧
  ∀ H', Same H H' → Q (.bl (homeB r.st pl i)) H'
/-- a pair: a standing and what is told -/
def StAt (K : PySem.W.Frag) (H : Hp) (v : V) (s : Sd) (t : Td) : Prop := ∃ q v1 v2, v = .ref q ∧ H q = some (.tup [v1, v2]) ∧ Dt K H v1 (sdD s) ∧ TdAt K H v2 t
def sp_close (K : PySem.W.Frag) (CC RC : Addr) : Sp := fun vs H Q _ => ∃ (p : Addr) (r : Rm) (i : Nat) (c : Cd) (v : V) (s : Sd), vs = [.ref p, v, .str (numS c.ds)] ∧ RoomAt K RC CC H p r ∧ RmOk r ∧ r.cs[i]? = some c ∧ Dt K H v (sdD s) ∧ SdOk r s ∧
  ∀ H' u, Same H H' → StAt K H' u ⟨(backP r.st c.ds s.pl).1, s.gr.set i 0⟩ (backT r.st c.ds s.pl) → Q u H'
def sp_lift (K : PySem.W.Frag) (CC RC : Addr) : Sp := fun vs H Q _ => ∃ (p : Addr) (r : Rm) (i : Nat) (c : Cd) (v : V) (s : Sd) (g : Nat), vs = [.ref p, v, .str (numS c.ds), .int (g : Nat)] ∧ RoomAt K RC CC H p r ∧ RmOk r ∧ r.cs[i]? = some c ∧ Dt K H v (sdD s) ∧ SdOk r s ∧ 1 ≤ g ∧ g ≤ 3 ∧
  ∀ H' u, Same H H' → StAt K H' u ⟨(liftP c s.pl g).1, s.gr.set i g⟩ (liftT c s.pl g) → Q u H'
def sp_rstep (K : PySem.W.Frag) (CC RC : Addr) : Sp := fun vs H Q _ => ∃ (p : Addr) (r : Rm) (i : Nat) (c : Cd) (v : V) (s : Sd) (w : Wd) (e : V), vs = [.ref p, v, e] ∧ RoomAt K RC CC H p r ∧ RmOk r ∧ r.cs[i]? = some c ∧ Dt K H v (sdD s) ∧ SdOk r s ∧ Dt K H e (evD (w, c.ds)) ∧ (w = .more → s.gr.getD i 0 < 3) ∧
  ∀ H' u, Same H H' → StAt K H' u (stepS r s w i) (stepT r s w i) → Q u H'
end K57

namespace K57
open PySem L2 Wm TL Dv
section
variable {P : Program} {w : World} {K : PySem.W.Frag} {mg : Str → Option Value} {base : Heap}
theorem All2.len {α β : Type} {R : α → β → Prop} {as : List α} {bs : List β} (h : All2 R as bs) : as.length = bs.length := by
  induction h with
  | nil => rfl
  | cons _ _ ih => rw [List.length_cons, List.length_cons, ih]
theorem All2.mono {α β : Type} {R S : α → β → Prop} {as : List α} {bs : List β} (h : All2 R as bs) (f : ∀ a b, R a b → S a b) : All2 S as bs := by
  induction h with
  | nil => exact .nil
  | cons a _ ih => exact .cons (f _ _ a) ih
theorem All2.at {α β : Type} {R : α → β → Prop} {as : List α} {bs : List β} (h : All2 R as bs) : ∀ {i : Nat} {a : α}, as[i]? = some a → ∃ b, bs[i]? = some b ∧ R a b := by
  induction h with
  | nil => intro i a e; cases e
  | cons x _ ih =>
    intro i a e
    cases i with
    | zero => cases e; exact ⟨_, rfl, x⟩
    | succ i => exact ih (i := i) e
theorem All2.get {α β : Type} {R : α → β → Prop} {as : List α} {bs : List β} (h : All2 R as bs) : ∀ {i : Nat} {b : β}, bs[i]? = some b → ∃ a, as[i]? = some a ∧ R a b := by
  induction h with
  | nil => intro i a e; cases e
  | cons x _ ih =>
    intro i a e
    cases i with
    | zero => cases e; exact ⟨_, rfl, x⟩
    | succ i => exact ih (i := i) e
theorem All2.snoc {α β : Type} {R : α → β → Prop} {as : List α} {bs : List β} {a : α} {b : β} (h : All2 R as bs) (g : R a b) : All2 R (as ++ [a]) (bs ++ [b]) := by
  induction h with
  | nil => exact .cons g .nil
  | cons x _ ih => exact .cons x ih
theorem Bu.of {p : Addr} {H H' : Hp} (s : Same H H') : Bu p H H' := fun q o _ e => s q o e
theorem Bu.trans {p : Addr} {H H1 H2 : Hp} (a : Bu p H H1) (b : Bu p H1 H2) : Bu p H H2 := fun q o n e => b q o n (a q o n e)
theorem Bu.set {p : Addr} {H : Hp} {o : HO} : Bu p H (upd H p o) := fun q u n e => by rw [upd_ne n]; exact e
/-- what is no tuple may change, the tuples stand -/
theorem Bu.kt {p : Addr} {H H' : Hp} {o : HO} (b : Bu p H H') (h : H p = some o) (n1 : ∀ xs, o ≠ .tup xs) (n2 : ∀ ob xs, o ≠ .frz ob (.tup xs)) : Kt K H H' := fun a xs q => by
  rcases q with (q | ⟨ob, q⟩) | q
  · exact .inl (.inl (b a _ (fun e => by subst e; rw [h] at q; exact n1 _ (Option.some.inj q)) q))
  · exact .inl (.inr ⟨ob, b a _ (fun e => by subst e; rw [h] at q; exact n2 _ _ (Option.some.inj q)) q⟩)
  · exact .inr q
theorem CardAt.kb {CC : Addr} {H H' : Hp} {v : V} {c : Cd} (h : CardAt K CC H v c) (k : Kt K H H') (f : ∀ p dx fs, H p = some (.ins CC dx fs) → fs.lookup ("_room" : Str) = none → fs ≠ [] → H' p = some (.ins CC dx fs)) : CardAt K CC H' v c := by
  obtain ⟨p, dx, fs, o1, o2, o3, o4, rfl, hp, a, b, b', d, d', e, e', g, g', l⟩ := h
  exact ⟨p, dx, fs, o1, o2, o3, o4, rfl, f _ _ _ hp l (fun z => by subst z; cases a), a, b, b'.k k, d, d'.k k, e, e'.k k, g, g'.k k, l⟩
theorem CardAt.k {CC : Addr} {H H' : Hp} {v : V} {c : Cd} (h : CardAt K CC H v c) (s : Same H H') : CardAt K CC H' v c := h.kb (Kt.same s) fun _ _ _ e _ _ => s _ _ e
theorem Bu.tf {p : Addr} {H H' : Hp} {o : HO} {q : Addr} {xs : List V} (b : Bu p H H') (h : H p = some o) (n : ∀ ob u, o ≠ .frz ob u) (t : Tf.TF H q xs) : Tf.TF H' q xs := let ⟨ob, e, d⟩ := t; ⟨ob, b q _ (fun z => by subst z; rw [h] at e; exact n _ _ (Option.some.inj e)) e, d⟩
theorem RoomAt.kb {RC CC : Addr} {H H' : Hp} {p : Addr} {r : Rm} (h : RoomAt K RC CC H p r) (k : Kt K H H') (kf : ∀ q xs, Tf.TF H q xs → Tf.TF H' q xs) (f : ∀ (C p dx : Addr) fs, H p = some (.ins C dx fs) → fs.lookup ("_room" : Str) = none → fs ≠ [] → H' p = some (.ins C dx fs)) : RoomAt K RC CC H' p r := by
  obtain ⟨dx, fs, s, q, n, cvs, hp, a, a', b, b', c, d, d', l⟩ := h
  exact ⟨dx, fs, s, q, n, cvs, f _ _ _ _ hp (l _ (by decide +kernel) (by decide +kernel) (by decide +kernel)) (fun z => by subst z; cases a), a, a'.k k, b, k _ _ b', c.mono fun _ _ x => x.kb k (f CC), d, kf _ _ d', l⟩
theorem RoomAt.k {RC CC : Addr} {H H' : Hp} {p : Addr} {r : Rm} (h : RoomAt K RC CC H p r) (s : Same H H') : RoomAt K RC CC H' p r := h.kb (Kt.same s) (fun _ _ t => t.k s) fun _ _ _ _ e _ _ => s _ _ e
/-- a list changes -/
theorem RoomAt.lst {RC CC : Addr} {H H' : Hp} {p b : Addr} {r : Rm} {xs : List V} (h : RoomAt K RC CC H p r) (hb : H b = some (.lst xs)) (s : Bu b H H') : RoomAt K RC CC H' p r :=
  h.kb (s.kt hb (fun _ e => by cases e) (fun _ _ e => by cases e)) (fun _ _ t => s.tf hb (fun _ _ e => by cases e) t) fun C q dx fs e _ _ => s q _ (fun z => by subst z; rw [hb] at e; cases e) e
theorem WatchAt.k {WC : Addr} {H H' : Hp} {p rp : Addr} {s : Sd} (h : WatchAt K WC H p rp s) (z : Same H H') : WatchAt K WC H' p rp s := by
  obtain ⟨dx, fs, v, a, b, c, d, e, f⟩ := h
  exact ⟨dx, fs, v, z _ _ a, b, c, d, e.k (Kt.same z), f⟩
theorem TdAt.kb {H H' : Hp} {v : V} {t : Td} (h : TdAt K H v t) (k : Kt K H H') : TdAt K H' v t := h.imp id fun h => ⟨h.1, h.2.k k⟩
theorem TdAt.k {H H' : Hp} {v : V} {t : Td} (h : TdAt K H v t) (z : Same H H') : TdAt K H' v t := h.kb (Kt.same z)
theorem StAt.k {H H' : Hp} {v : V} {s : Sd} {t : Td} (h : StAt K H v s t) (z : Same H H') : StAt K H' v s t := by
  obtain ⟨q, v1, v2, e, a, b, c⟩ := h
  exact ⟨q, v1, v2, e, z _ _ a, b.k (Kt.same z), c.k z⟩
theorem Bk.k {H H' : Hp} {b : Addr} (h : Bk H b) (s : Same H H') : Bk H' b := let ⟨x, y, a, c⟩ := h; ⟨x, y, s _ _ a, c⟩
theorem _root_.Dv.Dt.ks {H H' : Hp} {v : V} {d : PyData} (h : Dt K H v d) (s : Same H H') : Dt K H' v d := h.k (Kt.same s)
theorem _root_.Dv.Dts.ks {H H' : Hp} {vs : List V} {ds : List PyData} (h : Dts K H vs ds) (s : Same H H') : Dts K H' vs ds := h.k (Kt.same s)
/-- the parts of a tuple -/
theorem dt_ints {H : Hp} {v : V} {ns : List Nat} (h : Dt K H v (iD ns)) : ∃ p, v = .ref p ∧ SqT K H p (nV ns) := by
  obtain ⟨p, xs, e, a, b⟩ := h.inv
  have : (ns.map fun (n : Nat) => PyData.int (n : Int)) = (ns.map fun (n : Nat) => (n : Int)).map PyData.int := by rw [List.map_map]; rfl
  rw [this] at b
  have := dts_int_inv b
  subst this
  refine ⟨p, e, ?_⟩
  have e2 : nV ns = (ns.map fun (n : Nat) => (n : Int)).map V.int := by unfold nV; rw [List.map_map]; rfl
  rw [e2]
  exact a
theorem nV_int (ns : List Nat) : nV ns = (ns.map fun (n : Nat) => (n : Int)).map V.int := by unfold nV; rw [List.map_map]; rfl
theorem dts_nV {H : Hp} (ns : List Nat) : Dts K H (nV ns) (ns.map fun (n : Nat) => PyData.int (n : Int)) := by
  have : (ns.map fun (n : Nat) => PyData.int (n : Int)) = (ns.map fun (n : Nat) => (n : Int)).map PyData.int := by rw [List.map_map]; rfl
  rw [this, nV_int]
  exact dts_int _
theorem dt_iD {H : Hp} {p : Addr} {ns : List Nat} (h : H p = some (.tup (nV ns))) : Dt K H (.ref p) (iD ns) := .tup (SqT.of h) (dts_nV ns)
theorem dt_two {H : Hp} {v : V} {a b : PyData} (h : Dt K H v (.tuple [a, b])) : ∃ p x y, v = .ref p ∧ SqT K H p [x, y] ∧ Dt K H x a ∧ Dt K H y b := by
  obtain ⟨p, xs, e, s, d⟩ := h.inv
  cases d with
  | cons d1 d =>
    cases d with
    | cons d2 d =>
      cases d
      exact ⟨p, _, _, e, s, d1, d2⟩
theorem nV_at {ns : List Nat} {i n : Nat} (h : ns[i]? = some n) : (nV ns)[i]? = some (.int (n : Nat)) := by unfold nV; rw [List.getElem?_map, h]; rfl
theorem nV_inv {ns : List Nat} {i : Nat} {v : V} (h : (nV ns)[i]? = some v) : ∃ n : Nat, ns[i]? = some n ∧ v = .int (n : Nat) := by
  unfold nV at h
  rw [List.getElem?_map] at h
  obtain ⟨n, e, f⟩ := Option.map_eq_some_iff.mp h
  exact ⟨n, e, f.symm⟩
theorem nV_len (ns : List Nat) : (nV ns).length = ns.length := by unfold nV; rw [List.length_map]
theorem tk_succ' {α : Type} {xs : List α} {i : Nat} {x : α} (h : xs[i]? = some x) : xs.take (i + 1) = xs.take i ++ [x] := by
  rw [List.take_add_one, h]; rfl
theorem tyT {H : Hp} {p : Addr} {xs : List V} (h : SqT K H p xs) : TyX K H (.ref p) (.type "tuple") := by
  rcases h with (h | ⟨o, h⟩) | ⟨o, its, n, e, c, _⟩
  · exact .base (.tup h)
  · exact .fTuple h
  · exact .kTuple e c
theorem tyL {H : Hp} {p : Addr} {xs : List V} (h : SqL K H p xs) : TyX K H (.ref p) (.type "list") := by
  rcases h with (h | ⟨o, h⟩) | ⟨o, its, n, e, c, _⟩
  · exact .base (.lst h)
  · exact .base (.frz h)
  · exact .kList e c
theorem iteN {c : Bool} {A B : Prop} (e : c = false) (h : B) : if c = true then A else B := by
  rw [e]
  exact iteF h
theorem flat_ints (ns : List Int) : (ns.map V.int).all flatV = true := by
  rw [List.all_map]
  exact List.all_eq_true.mpr fun _ _ => rfl
theorem in_ints (x : Int) : ∀ ns : List Int, inV (.int x) (ns.map V.int) = decide (x ∈ ns)
  | [] => rfl
  | n :: ns => by
    have ih := in_ints x ns
    unfold inV at ih ⊢
    rw [List.map_cons, List.any_cons, ih]
    show ((n == x) || decide (x ∈ ns)) = _
    by_cases e : n = x
    · subst e; simp
    · simp [e, Ne.symm e]
end
end K57

namespace K57
open PySem L2 Wm TL Dv
section
variable {P : Program} {w : World} {K : PySem.W.Frag} {mg : Str → Option Value} {base : Heap}
theorem ok_is_whole (T : Txt K mg) : FnOk P w K mg base CX0 1 T.a_is_whole T.d_is_whole ["thing"] (sp_is_whole K) := by
  refine T.F_is_whole.ok sc_is_whole (fun vs H Q E h => ?_) (fun cdv A outer s H vs Q E hr h => ?_)
  · obtain ⟨x, d, rfl, _⟩ := h
    rfl
  · obtain ⟨x, d, rfl, ob, k⟩ := h
    refine ⟨_, (pss_one (ps_ret (pe_and (pe_callB call_isi (by rfl) T.z_isinstance (by decide +kernel) (pa_cons (pv 0) (pa_cons (pe_bltn (v := V.ty "int") (by rfl) T.z_int (by decide +kernel) rfl) pa_nil))) (pe_one (pe_not (pe_callB call_isi (by rfl) T.z_isinstance (by decide +kernel) (pa_cons (pv 0) (pa_cons (pe_bltn (v := V.ty "bool") (by rfl) T.z_bool (by decide +kernel) rfl) pa_nil)))))))), ?_⟩
    obtain ⟨h, t⟩ := ob
    cases t with
    | int q =>
      cases h
      refine ⟨_, rfl, _, _, _, _, true, rfl, .ty "int", .base (.int _), kit_ty (by decide +kernel), true, rfl, iteT ?_⟩
      exact ⟨_, rfl, _, _, _, _, false, rfl, .ty "bool", .base (.int _), kit_ty (by decide +kernel), false, rfl, k⟩
    | bl b =>
      cases h
      refine ⟨_, rfl, _, _, _, _, true, rfl, .ty "int", .base (.bl _), kit_ty (by decide +kernel), true, rfl, iteT ?_⟩
      exact ⟨_, rfl, _, _, _, _, true, rfl, .ty "bool", .base (.bl _), kit_ty (by decide +kernel), true, rfl, k⟩
    | non => cases h; exact ⟨_, rfl, _, _, _, _, false, rfl, .ty "int", .base .non, kit_ty (by decide +kernel), false, rfl, iteF k⟩
    | str q => cases h; exact ⟨_, rfl, _, _, _, _, false, rfl, .ty "int", .base (.str _), kit_ty (by decide +kernel), false, rfl, iteF k⟩
    | lst q l =>
      cases h with
      | lst s a => exact ⟨_, rfl, _, _, _, _, false, rfl, .ty "int", tyL s, kit_ty (by decide +kernel), false, rfl, iteF k⟩
    | tup q l =>
      cases h with
      | tup s a => exact ⟨_, rfl, _, _, _, _, false, rfl, .ty "int", tyT s, kit_ty (by decide +kernel), false, rfl, iteF k⟩
theorem ok_is_whole_within (T : Txt K mg) : FnOk P w K mg base CX0 2 T.a_is_whole_within T.d_is_whole_within ["thing", "low", "high"] (sp_is_whole_within K) := by
  refine T.F_is_whole_within.ok sc_is_whole_within (fun vs H Q E h => ?_) (fun cdv A outer s H vs Q E hr h => ?_)
  · obtain ⟨x, d, l, h, rfl, _⟩ := h
    rfl
  · obtain ⟨x, d, lo, hi, rfl, ob, k⟩ := h
    refine ⟨_, (pss_one (ps_ret (pe_and (pe_call (ok_is_whole T) (hr.mono (by decide)) (by rfl) T.g_is_whole T.F_is_whole.kp T.b_is_whole .nil pass0 (pa_cons (pv 0) pa_nil)) (pe_one (pe_chain op_le op_le (pv 1) (pv 0) (pv 2)))))), ?_⟩
    refine ⟨_, rfl, x, d, rfl, ob, ?_⟩
    by_cases c : ∃ i : Int, x = .int i
    · obtain ⟨i, rfl⟩ := c
      refine ⟨_, rfl, iteT ?_⟩
      refine ⟨_, rfl, _, rfl, _, _, rfl, rfl, _, rfl, ite2 (fun c1 => ?_) (fun c1 => ?_)⟩
      · refine ⟨_, rfl, _, _, rfl, rfl, ?_⟩
        have e : withB (.int i) lo hi = decide (i ≤ hi) := by show (decide (lo ≤ i) && decide (i ≤ hi)) = _; rw [c1, Bool.true_and]
        have k : Q (.bl (withB (.int i) lo hi)) H := k
        rw [e] at k
        exact k
      · have e : withB (.int i) lo hi = false := by show (decide (lo ≤ i) && decide (i ≤ hi)) = _; rw [Bool.eq_false_iff.mpr c1, Bool.false_and]
        rw [e] at k
        exact k
    · have c2 : wholeB x = false ∧ withB x lo hi = false := by cases x <;> first | exact ⟨rfl, rfl⟩ | exact absurd ⟨_, rfl⟩ c
      rw [c2.2] at k
      rw [c2.1]
      exact ⟨_, rfl, iteF k⟩
theorem ok_is_sequence (T : Txt K mg) : FnOk P w K mg base CX0 1 T.a_is_sequence T.d_is_sequence ["thing"] (sp_is_sequence K) := by
  refine T.F_is_sequence.ok sc_is_sequence (fun vs H Q E h => ?_) (fun cdv A outer s H vs Q E hr h => ?_)
  · obtain ⟨p, xs, t, rfl, _⟩ := h
    rfl
  · obtain ⟨p, xs, t, rfl, hx, k⟩ := h
    refine ⟨_, (pss_one (ps_ret (pe_callB call_isiT (by rfl) T.z_isinstance (by decide +kernel) (pa_cons (pv 0) (pa_cons (pe_tup (pa_cons (pe_bltn (v := V.ty "list") (by rfl) T.z_list (by decide +kernel) rfl) (pa_cons (pe_bltn (v := V.ty "tuple") (by rfl) T.z_tuple (by decide +kernel) rfl) pa_nil))) pa_nil))))), ?_⟩
    refine ⟨_, rfl, by show 2 ≤ sizeLine; decide, fun t2 ht => ?_⟩
    have s1 : Same H (upd H t2 (.tup [.ty "list", .ty "tuple"])) := same_new ht
    cases t with
    | true =>
      refine ⟨_, t2, _, _, _, true, rfl, upd_same, .cons (.ty "list") (.cons (.ty "tuple") .nil), tyT (sameT s1 hx), kitAny_cons (b := false) (kit_ty (by decide +kernel)) (fun _ => kitAny_cons (b := true) (kit_ty (by decide +kernel)) (fun z => by cases z) (fun _ => rfl)) (fun z => by cases z), ?_⟩
      exact k _ s1
    | false =>
      refine ⟨_, t2, _, _, _, true, rfl, upd_same, .cons (.ty "list") (.cons (.ty "tuple") .nil), tyL (Hf.keepL s1 hx), kitAny_cons (b := true) (kit_ty (by decide +kernel)) (fun z => by cases z) (fun _ => rfl), ?_⟩
      exact k _ s1
theorem ok_is_station (T : Txt K mg) : FnOk P w K mg base CX0 3 T.a_is_station T.d_is_station ["thing"] (sp_is_station K) := by
  refine T.F_is_station.ok sc_is_station (fun vs H Q E h => ?_) (fun cdv A outer s H vs Q E hr h => ?_)
  · obtain ⟨n, rfl, _⟩ := h
    rfl
  · obtain ⟨n, rfl, h8, k⟩ := h
    refine ⟨_, (pss_one (ps_ret (pe_call (ok_is_whole_within T) (hr.mono (by decide)) (by rfl) T.g_is_whole_within T.F_is_whole_within.kp T.b_is_whole_within .nil pass0 (pa_cons (pv 0) (pa_cons pe_int (pa_cons (pe_glob (v := V.int 8) rfl T.c_LAST_STATION ⟨_, rfl⟩) pa_nil)))))), ?_⟩
    refine ⟨_, rfl, .int (n : Nat), .int (n : Nat), 0, 8, rfl, ⟨.int _, .int (by omega)⟩, ?_⟩
    have e : withB (.int (n : Nat)) 0 8 = true := by show (decide ((0 : Int) ≤ (n : Nat)) && decide (((n : Nat) : Int) ≤ 8)) = true; rw [decide_eq_true (by omega), decide_eq_true (by omega)]; rfl
    rw [e]
    exact k
theorem ok_is_crew (T : Txt K mg) : FnOk P w K mg base CX0 3 T.a_is_crew T.d_is_crew ["thing"] (sp_is_crew K) := by
  refine T.F_is_crew.ok sc_is_crew (fun vs H Q E h => ?_) (fun cdv A outer s H vs Q E hr h => ?_)
  · obtain ⟨n, rfl, _⟩ := h
    rfl
  · obtain ⟨n, rfl, h8, k⟩ := h
    refine ⟨_, (pss_one (ps_ret (pe_call (ok_is_whole_within T) (hr.mono (by decide)) (by rfl) T.g_is_whole_within T.F_is_whole_within.kp T.b_is_whole_within .nil pass0 (pa_cons (pv 0) (pa_cons pe_int (pa_cons (pe_glob (v := V.int 5) rfl T.c_LAST_CREW ⟨_, rfl⟩) pa_nil)))))), ?_⟩
    refine ⟨_, rfl, .int (n : Nat), .int (n : Nat), 0, 5, rfl, ⟨.int _, .int (by omega)⟩, ?_⟩
    have e : withB (.int (n : Nat)) 0 5 = true := by show (decide ((0 : Int) ≤ (n : Nat)) && decide (((n : Nat) : Int) ≤ 5)) = true; rw [decide_eq_true (by omega), decide_eq_true (by omega)]; rfl
    rw [e]
    exact k
theorem trues : ∀ {ys : List V} {n : Nat}, ys.length = n → (∀ (i : Nat) y, ys[i]? = some y → y = .bl true) → ys = (List.replicate n true).map V.bl
  | [], n, l, _ => by subst l; rfl
  | y :: ys, n, l, h => by
    subst l
    have h0 := h 0 y rfl
    have ih := trues (n := ys.length) rfl fun i z e => h (i + 1) z e
    rw [List.length_cons, List.replicate_succ, List.map_cons, ← ih, h0]
theorem all_rep (n : Nat) : (List.replicate n true).all id = true := by
  rw [List.all_eq_true]
  intro b m
  rw [(List.mem_replicate.mp m).2]
  rfl
theorem ok_is_stations (T : Txt K mg) : FnOk P w K mg base CX0 4 T.a_is_stations T.d_is_stations ["thing"] (sp_is_stations K) := by
  refine T.F_is_stations.ok sc_is_stations (fun vs H Q E h => ?_) (fun cdv A outer s H vs Q E hr h => ?_)
  · obtain ⟨p, ns, rfl, _⟩ := h
    rfl
  · obtain ⟨p, ns, rfl, hp, l1, l6, h8, k⟩ := h
    refine ⟨_, (pss_cons (ps_if (PW.pt (pw_or (pt_not (pt_val (pe_call (ok_is_sequence T) (hr.mono (by decide)) (by rfl) T.g_is_sequence T.F_is_sequence.kp T.b_is_sequence .nil pass0 (pa_cons (pv 0) pa_nil)))) (pw_or1 (pt_not (pt_chain op_le op_le pe_int (pe_callB call_len_seq (by rfl) T.z_len PySem.boot_len (pa_cons (pv 0) pa_nil)) (pe_glob (v := V.int 6) rfl T.c_MOST_CREWS ⟨_, rfl⟩))))))
        (pss_one (ps_ret pe_bl))
        pss_nil)
      (pss_one (ps_ret (pe_callB (cr_all rfl) (by rfl) T.z_all (by decide +kernel) (pa_cons (pe_lc (own := [("station", 1)]) (g := gName 1) (tt := tYes) rfl sc_is_stations.nd (pi_list (pv 0)) (blkOk_by (own := [("station", 1)]) (N := nm_is_stations) (sc := (defScope s_is_stations)) (by decide +kernel)) (fun _ _ _ _ _ => pg_name (i := 1) sc_is_stations.nd rfl (Or.inl rfl)) (fun _ _ _ _ _ => pts_nil) (fun _ _ _ _ _ => (pe_call (ok_is_station T) (hr.mono (by decide)) (by rfl) T.g_is_station T.F_is_station.kp T.b_is_station .nil pass0 (pa_cons (pv 1) pa_nil)))) pa_nil))))), ?_⟩
    refine ⟨_, rfl, p, _, false, rfl, SqL.of hp, fun H1 s1 => ⟨_, rfl, iteF ?_⟩⟩
    refine ⟨_, rfl, p, _, rfl, .inl (SqL.of (s1 _ _ hp)), _, _, rfl, rfl, ?_⟩
    refine ⟨_, rfl, ?_⟩
    rw [nV_len, decide_eq_true (by omega)]
    refine iteT ⟨_, _, rfl, rfl, _, rfl, ?_⟩
    rw [decide_eq_true (by omega)]
    refine iteF ?_
    refine ⟨_, rfl, p, rfl, ⟨_, SqL.of (s1 _ _ hp)⟩, fun D hD => ?_⟩
    refine Lm.lc_map (K := K) walk_list (xs := nV ns) (fun _ y _ => y = .bl true) (fun _ _ _ _ h _ => h) hD (by rw [nV_len]; omega) (fun H' s' => SqL.of (s' _ _ (s1 _ _ hp))) (fun i x H' hi hx s' Q' Z hQ => ?_) (fun H2 ys s2 hD2 hl hy => ?_)
    · obtain ⟨n, hn, rfl⟩ := nV_inv hx
      exact ⟨rfl, yesT ⟨_, rfl, n, rfl, h8 n (List.mem_of_getElem? hn), hQ _ _ (Same.refl _) rfl⟩⟩
    · rw [trues hl hy] at hD2
      refine ⟨D, _, rfl, SqL.of hD2, ?_⟩
      rw [all_rep]
      exact k _ (s1.trans s2)
theorem ok_is_order (T : Txt K mg) : FnOk P w K mg base CX0 4 T.a_is_order T.d_is_order ["thing"] (sp_is_order K) := by
  refine T.F_is_order.ok sc_is_order (fun vs H Q E h => ?_) (fun cdv A outer s H vs Q E hr h => ?_)
  · obtain ⟨p, ns, rfl, _⟩ := h
    rfl
  · obtain ⟨p, ns, rfl, hp, nd, h5, k⟩ := h
    have l6 : ns.length ≤ 6 := by
      have := Lns.nodup_le (l := ns.map fun (n : Nat) => (n : Int)) (m := (List.range 6).map fun (n : Nat) => (n : Int)) (nd.map _ fun a b h e => h (Int.ofNat_inj.mp e)) (fun k hk => by
        obtain ⟨n, hn, rfl⟩ := List.mem_map.mp hk
        exact List.mem_map.mpr ⟨n, List.mem_range.mpr (by have := h5 n hn; omega), rfl⟩)
      simpa using this
    refine ⟨_, (pss_cons (ps_if (PW.pt (pw_or (pt_not (pt_val (pe_call (ok_is_sequence T) (hr.mono (by decide)) (by rfl) T.g_is_sequence T.F_is_sequence.kp T.b_is_sequence .nil pass0 (pa_cons (pv 0) pa_nil)))) (pw_or1 (pt_not (pt_val (pe_callB (cr_all rfl) (by rfl) T.z_all (by decide +kernel) (pa_cons (pe_lc (own := [("crew", 1)]) (g := gName 1) (tt := tYes) rfl sc_is_order.nd (pi_tup (pv 0)) (blkOk_by (own := [("crew", 1)]) (N := nm_is_order) (sc := (defScope s_is_order)) (by decide +kernel)) (fun _ _ _ _ _ => pg_name (i := 1) sc_is_order.nd rfl (Or.inl rfl)) (fun _ _ _ _ _ => pts_nil) (fun _ _ _ _ _ => (pe_call (ok_is_crew T) (hr.mono (by decide)) (by rfl) T.g_is_crew T.F_is_crew.kp T.b_is_crew .nil pass0 (pa_cons (pv 1) pa_nil)))) pa_nil)))))))
        (pss_one (ps_ret pe_bl))
        pss_nil)
      (pss_one (ps_ret (pe_cmpR op_eq (pe_callB Lns.call_lenN (by rfl) T.z_len (by decide +kernel) (pa_cons (pe_callTy (Si.call_set (by rfl)) (by rfl) T.z_set (by decide +kernel) (pa_cons (pv 0) pa_nil)) pa_nil)) (pe_callB call_len_seq (by rfl) T.z_len PySem.boot_len (pa_cons (pv 0) pa_nil)) (nomark _))))), ?_⟩
    refine ⟨_, rfl, p, _, true, rfl, hp, fun H1 s1 => ⟨_, rfl, iteF ?_⟩⟩
    have hp1 := sameT s1 hp
    refine ⟨_, rfl, p, rfl, ⟨_, hp1⟩, fun D hD => ?_⟩
    refine Lm.lc_map (K := K) walk_tup (xs := nV ns) (fun _ y _ => y = .bl true) (fun _ _ _ _ h _ => h) hD (by rw [nV_len]; omega) (fun H' s' => sameT s' hp1) (fun i x H' hi hx s' Q' Z hQ => ?_) (fun H2 ys s2 hD2 hl hy => ?_)
    · obtain ⟨n, hn, rfl⟩ := nV_inv hx
      exact ⟨rfl, yesT ⟨_, rfl, n, rfl, h5 n (List.mem_of_getElem? hn), hQ _ _ (Same.refl _) rfl⟩⟩
    · rw [trues hl hy] at hD2
      refine ⟨D, _, rfl, SqL.of hD2, ?_⟩
      rw [all_rep]
      refine ⟨_, rfl, iteF ?_⟩
      have hp2 := sameT s2 hp1
      have hp3 := hp2
      rw [nV_int] at hp3
      refine ⟨_, rfl, p, _, rfl, .inr hp3, by rw [List.length_map]; omega, fun S c hc hS => ?_⟩
      rw [List.length_map] at hc
      refine ⟨S, _, c, ns.map fun (n : Nat) => (n : Int), rfl, upd_same, by omega, nd.map _ fun a b h e => h (Int.ofNat_inj.mp e), fun k => decide_eq_true_iff, ?_⟩
      generalize SetO _ S _ c = so
      have s3 := same_new (o := so) hS
      refine ⟨_, rfl, p, _, rfl, .inr (sameT s3 hp2), rfl, ?_⟩
      rw [nV_len, List.length_map, decide_eq_true rfl]
      exact k _ ((s1.trans s2).trans s3)
theorem ok_are_counts (T : Txt K mg) : FnOk P w K mg base CX0 3 T.a_are_counts T.d_are_counts ["thing"] (sp_are_counts K) := by
  refine T.F_are_counts.ok sc_are_counts (fun vs H Q E h => ?_) (fun cdv A outer s H vs Q E hr h => ?_)
  · obtain ⟨p, ns, rfl, _⟩ := h
    rfl
  · obtain ⟨p, ns, rfl, hp, l3, h6, k⟩ := h
    refine ⟨_, (pss_cons (ps_if (PW.pt (pw_or (pt_not (pt_val (pe_call (ok_is_sequence T) (hr.mono (by decide)) (by rfl) T.g_is_sequence T.F_is_sequence.kp T.b_is_sequence .nil pass0 (pa_cons (pv 0) pa_nil)))) (pw_or1 (pt_cmpR op_ne (pe_callB call_len_seq (by rfl) T.z_len PySem.boot_len (pa_cons (pv 0) pa_nil)) (ClX.pe_cval (pe_glob (v := V.ref T.CC) rfl T.gCC rfl)) (nomark _)))))
        (pss_one (ps_ret pe_bl))
        pss_nil)
      (pss_one (ps_ret (pe_callB (cr_all rfl) (by rfl) T.z_all (by decide +kernel) (pa_cons (pe_lc (own := [("count", 1)]) (g := gName 1) (tt := tYes) rfl sc_are_counts.nd (pi_tup (pv 0)) (blkOk_by (own := [("count", 1)]) (N := nm_are_counts) (sc := (defScope s_are_counts)) (by decide +kernel)) (fun _ _ _ _ _ => pg_name (i := 1) sc_are_counts.nd rfl (Or.inl rfl)) (fun _ _ _ _ _ => pts_nil) (fun _ _ _ _ _ => (pe_call (ok_is_whole_within T) (hr.mono (by decide)) (by rfl) T.g_is_whole_within T.F_is_whole_within.kp T.b_is_whole_within .nil pass0 (pa_cons (pv 1) (pa_cons pe_int (pa_cons (pe_glob (v := V.int 6) rfl T.c_MOST_CREWS ⟨_, rfl⟩) pa_nil)))))) pa_nil))))), ?_⟩
    refine ⟨_, rfl, p, _, true, rfl, hp, fun H1 s1 => ⟨_, rfl, iteF ?_⟩⟩
    have hp1 := sameT s1 hp
    refine ⟨_, rfl, p, _, rfl, .inr hp1, T.CC, T.mcC, _, _, rfl, T.rdC, T.vG, rfl, _, rfl, ?_⟩
    rw [nV_len, l3]
    rw [show (!decide (V.int ((3 : Nat) : Int) = V.int 3)) = false from by decide +kernel]
    refine iteF ?_
    refine ⟨_, rfl, p, rfl, ⟨_, hp1⟩, fun D hD => ?_⟩
    refine Lm.lc_map (K := K) walk_tup (xs := nV ns) (fun _ y _ => y = .bl true) (fun _ _ _ _ h _ => h) hD (by rw [nV_len]; omega) (fun H' s' => sameT s' hp1) (fun i x H' hi hx s' Q' Z hQ => ?_) (fun H2 ys s2 hD2 hl hy => ?_)
    · obtain ⟨n, hn, rfl⟩ := nV_inv hx
      have n6 := h6 n (List.mem_of_getElem? hn)
      have e : withB (.int (n : Nat)) 0 6 = true := by show (decide ((0 : Int) ≤ (n : Nat)) && decide (((n : Nat) : Int) ≤ 6)) = true; rw [decide_eq_true (by omega), decide_eq_true (by omega)]; rfl
      refine ⟨rfl, yesT ⟨_, rfl, .int (n : Nat), .int (n : Nat), 0, 6, rfl, ⟨.int _, .int (by omega)⟩, ?_⟩⟩
      rw [e]
      exact hQ _ _ (Same.refl _) rfl
    · rw [trues hl hy] at hD2
      refine ⟨D, _, rfl, SqL.of hD2, ?_⟩
      rw [all_rep]
      exact k _ (s1.trans s2)
theorem ok_is_move (T : Txt K mg) : FnOk P w K mg base CX0 4 T.a_is_move T.d_is_move ["thing"] (sp_is_move K) := by
  refine T.F_is_move.ok sc_is_move (fun vs H Q E h => ?_) (fun cdv A outer s H vs Q E hr h => ?_)
  · obtain ⟨v, a, b, rfl, _⟩ := h
    rfl
  · obtain ⟨v, a, b, rfl, hv, a5, b8, k⟩ := h
    obtain ⟨p, x, y, rfl, hp, hx, hy⟩ := dt_two hv
    obtain rfl := hx.int_inv
    obtain rfl := hy.int_inv
    refine ⟨_, (pss_one (ps_ret (pe_and (pe_call (ok_is_sequence T) (hr.mono (by decide)) (by rfl) T.g_is_sequence T.F_is_sequence.kp T.b_is_sequence .nil pass0 (pa_cons (pv 0) pa_nil)) (pe_and (pe_cmpR op_eq (pe_callB call_len_seq (by rfl) T.z_len PySem.boot_len (pa_cons (pv 0) pa_nil)) pe_int (nomark _)) (pe_and (pe_call (ok_is_crew T) (hr.mono (by decide)) (by rfl) T.g_is_crew T.F_is_crew.kp T.b_is_crew .nil pass0 (pa_cons (pe_ix ix_tup (pv 0) pe_int (fun _ _ => rfl)) pa_nil)) (pe_one (pe_call (ok_is_station T) (hr.mono (by decide)) (by rfl) T.g_is_station T.F_is_station.kp T.b_is_station .nil pass0 (pa_cons (pe_ix ix_tup (pv 0) pe_int (fun _ _ => rfl)) pa_nil)))))))), ?_⟩
    refine ⟨_, rfl, p, _, true, rfl, hp, fun H1 s1 => ⟨_, rfl, iteT ?_⟩⟩
    have hp1 := sameT s1 hp
    refine ⟨_, rfl, p, _, rfl, .inr hp1, rfl, _, rfl, iteT ?_⟩
    refine ⟨_, rfl, p, _, 0, _, rfl, rfl, hp1, atI_nat (j := 0) rfl, a, rfl, a5, _, rfl, iteT ?_⟩
    exact ⟨_, rfl, p, _, 1, _, rfl, rfl, hp1, atI_nat (j := 1) rfl, b, rfl, b8, k _ s1⟩
theorem ok_are_moves (T : Txt K mg) : FnOk P w K mg base CX0 5 T.a_are_moves T.d_are_moves ["thing"] (sp_are_moves K) := by
  refine T.F_are_moves.ok sc_are_moves (fun vs H Q E h => ?_) (fun cdv A outer s H vs Q E hr h => ?_)
  · obtain ⟨v, ms, rfl, _⟩ := h
    rfl
  · obtain ⟨v, ms, rfl, hv, l6, hm, k⟩ := h
    obtain ⟨p, xs, rfl, hp, hd⟩ := hv.inv
    have lx := hd.len
    rw [List.length_map] at lx
    refine ⟨_, (pss_cons (ps_if (PW.pt (pw_or (pt_not (pt_val (pe_call (ok_is_sequence T) (hr.mono (by decide)) (by rfl) T.g_is_sequence T.F_is_sequence.kp T.b_is_sequence .nil pass0 (pa_cons (pv 0) pa_nil)))) (pw_or1 (pt_cmpR op_gt (pe_callB call_len_seq (by rfl) T.z_len PySem.boot_len (pa_cons (pv 0) pa_nil)) (pe_glob (v := V.int 6) rfl T.c_MOST_MOVES ⟨_, rfl⟩) (nomark _)))))
        (pss_one (ps_ret pe_bl))
        pss_nil)
      (pss_one (ps_ret (pe_callB (cr_all rfl) (by rfl) T.z_all (by decide +kernel) (pa_cons (pe_lc (own := [("move", 1)]) (g := gName 1) (tt := tYes) rfl sc_are_moves.nd (pi_tup (pv 0)) (blkOk_by (own := [("move", 1)]) (N := nm_are_moves) (sc := (defScope s_are_moves)) (by decide +kernel)) (fun _ _ _ _ _ => pg_name (i := 1) sc_are_moves.nd rfl (Or.inl rfl)) (fun _ _ _ _ _ => pts_nil) (fun _ _ _ _ _ => (pe_call (ok_is_move T) (hr.mono (by decide)) (by rfl) T.g_is_move T.F_is_move.kp T.b_is_move .nil pass0 (pa_cons (pv 1) pa_nil)))) pa_nil))))), ?_⟩
    refine ⟨_, rfl, p, _, true, rfl, hp, fun H1 s1 => ⟨_, rfl, iteF ?_⟩⟩
    have hp1 := sameT s1 hp
    refine ⟨_, rfl, p, _, rfl, .inr hp1, _, _, rfl, rfl, _, rfl, ?_⟩
    rw [decide_eq_false (by omega)]
    refine iteF ?_
    refine ⟨_, rfl, p, rfl, ⟨_, hp1⟩, fun D hD => ?_⟩
    refine Lm.lc_map (K := K) walk_tup (xs := xs) (fun _ y _ => y = .bl true) (fun _ _ _ _ h _ => h) hD (by omega) (fun H' s' => sameT s' hp1) (fun i x H' hi hx s' Q' Z hQ => ?_) (fun H2 ys s2 hD2 hl hy => ?_)
    · obtain ⟨d, ed, hx2⟩ := hd.at hx
      rw [List.getElem?_map] at ed
      obtain ⟨m, em, rfl⟩ := Option.map_eq_some_iff.mp ed
      have h1 := hm m (List.mem_of_getElem? em)
      exact ⟨rfl, yesT ⟨_, rfl, x, m.1, m.2, rfl, hx2.ks (s1.trans s'), h1.1, h1.2, fun H3 s3 => hQ _ _ s3 rfl⟩⟩
    · rw [trues hl hy] at hD2
      refine ⟨D, _, rfl, SqL.of hD2, ?_⟩
      rw [all_rep]
      exact k _ (s1.trans s2)
end
end K57

namespace K57
open PySem L2 Wm TL Dv
section
variable {P : Program} {w : World} {K : PySem.W.Frag} {mg : Str → Option Value} {base : Heap}
theorem small_len {n : Nat} (h : n ≤ 100000) : n ≤ sizeLine := by
  have : (100000 : Nat) ≤ sizeLine := by decide
  omega
theorem sum_cast : ∀ ds : List Nat, (ds.map fun (d : Nat) => (d : Int)).sum = ((ds.sum : Nat) : Int)
  | [] => rfl
  | d :: ds => by
    rw [List.map_cons, List.sum_cons, List.sum_cons, sum_cast ds]
    omega
def letters (t : Str) : List Bool := (tl t).map fun c => decide (c ∈ ("123456789" : Str).cps.toList)
theorem letters_all {t : Str} : (letters t).all id = true ↔ ∀ c ∈ tl t, c ∈ ("123456789" : Str).cps.toList := by
  unfold letters
  rw [List.all_map, List.all_eq_true]
  constructor
  · intro h c m
    exact of_decide_eq_true (h c m)
  · intro h c m
    exact decide_eq_true (h c m)
theorem cps_at {t : Str} {i c : Nat} (h : t.cps[i]? = some c) : (tl t)[i]? = some c := by
  rw [← h]
  exact Array.getElem?_toList ..
theorem ok_is_number (T : Txt K mg) : FnOk P w K mg base CX0 1 T.a_is_number T.d_is_number ["thing"] (sp_is_number K) := by
  refine T.F_is_number.ok sc_is_number (fun vs H Q E h => ?_) (fun cdv A outer s H vs Q E hr h => ?_)
  · obtain ⟨x, d, rfl, _⟩ := h
    rfl
  · obtain ⟨x, d, rfl, ob, kx⟩ := h
    obtain ⟨n, b0, ty, k1, k2, k3⟩ := tys_of ob
    refine ⟨_, (pss_cons (ps_if (PW.pt (pw_or (pt_not (pt_val (pe_callB call_isi (by rfl) T.z_isinstance (by decide +kernel) (pa_cons (pv 0) (pa_cons (pe_bltn (v := V.ty "str") (by rfl) T.z_str (by decide +kernel) rfl) pa_nil))))) (pw_or1 (pt_not (pt_chain op_le op_le pe_int (pe_callB call_len_str (by rfl) T.z_len PySem.boot_len (pa_cons (pv 0) pa_nil)) (pe_glob (v := V.int 4) rfl T.c_MOST_DIGITS ⟨_, rfl⟩))))))
        (pss_one (ps_ret pe_bl))
        pss_nil)
      (pss_cons (ps_if (pt_not (pt_val (pe_callB (cr_all rfl) (by rfl) T.z_all (by decide +kernel) (pa_cons (pe_lc (own := [("letter", 1)]) (g := gName 1) (tt := tYes) rfl sc_is_number.nd (pi_str (pv 0)) (blkOk_by (own := [("letter", 1)]) (N := nm_is_number) (sc := (defScope s_is_number)) (by decide +kernel)) (fun _ _ _ _ _ => pg_name (i := 1) sc_is_number.nd rfl (Or.inl rfl)) (fun _ _ _ _ _ => pts_nil) (fun _ _ _ _ _ => (pe_cmpR op_in_sign (pv 1) (pe_glob (v := V.str "123456789") rfl T.c_DIGITS ⟨_, rfl⟩) rfl))) pa_nil))))
        (pss_one (ps_ret pe_bl))
        pss_nil)
      (pss_one (ps_ret (pe_cmpR op_le (pe_callB (cr_sum rfl) (by rfl) T.z_sum (by decide +kernel) (pa_cons (pe_lc (own := [("letter", 1)]) (g := gName 1) (tt := tYes) rfl sc_is_number.nd (pi_str (pv 0)) (blkOk_by (own := [("letter", 1)]) (N := nm_is_number) (sc := (defScope s_is_number)) (by decide +kernel)) (fun _ _ _ _ _ => pg_name (i := 1) sc_is_number.nd rfl (Or.inl rfl)) (fun _ _ _ _ _ => pts_nil) (fun _ _ _ _ _ => (pe_callTy call_int_str (by rfl) T.z_int (by decide +kernel) (pa_cons (pv 1) pa_nil)))) pa_nil)) (pe_glob (v := V.int 24) rfl T.c_GREATEST_SUM ⟨_, rfl⟩) (nomark _)))))), ?_⟩
    refine ⟨_, rfl, _, _, _, _, b0, rfl, .ty "str", ty, k1, b0, rfl, ?_⟩
    cases b0 with
    | false =>
      refine iteT ?_
      refine iteT ?_
      exact kx _ _ (Same.refl _) ⟨fun z => (by cases z), fun z => absurd z (k3 rfl)⟩
    | true =>
    refine iteF ?_
    obtain ⟨t, rfl, _, tx⟩ := k2 rfl
    have hz : t.length ≤ 100000 := Nat.le_trans tx.len (by decide)
    have k : ∀ H' b, Same H H' → (b = true ↔ IsNum t) → Q (.bl b) H' := fun H' b s e => kx H' b s (e.trans isN_str.symm)
    have hl : t.length = (tl t).length := len_tl t
    have numlen : IsNum t → 1 ≤ t.length ∧ t.length ≤ 4 := fun ⟨ds, N, e⟩ => by
      rw [e, numS_len]
      exact ⟨N.pos, N.len⟩
    refine ⟨_, rfl, _, rfl, small_len hz, _, _, rfl, rfl, _, rfl, ?_⟩
    refine ite2 (fun c1 => ?_) (fun c1 => ?_)
    case refine_2 =>
      have c1' : ¬ (1 : Int) ≤ (t.length : Nat) := fun z => c1 (decide_eq_true z)
      refine ⟨false, rfl, iteT ?_⟩
      exact k _ _ (Same.refl _) ⟨fun z => (by cases z), fun z => absurd (numlen z).1 (by omega)⟩
    have c1' : (1 : Int) ≤ (t.length : Nat) := of_decide_eq_true c1
    refine ⟨_, _, rfl, rfl, _, rfl, ?_⟩
    by_cases c2 : ((t.length : Nat) : Int) ≤ 4
    case neg =>
      rw [decide_eq_false c2]
      refine iteT ?_
      exact k _ _ (Same.refl _) ⟨fun z => (by cases z), fun z => absurd (numlen z).2 (by omega)⟩
    rw [decide_eq_true c2]
    refine iteF ?_
    refine ⟨_, rfl, _, rfl, fun D hD => ?_⟩
    have hsz : t.cps.size = (tl t).length := hl
    refine lc_it walk_str (fun i H' => Same H H' ∧ H' D = some (.lst (((letters t).take i).map V.bl))) ⟨same_new hD, upd_same⟩ (fun _ _ _ _ => trivial) (fun i x H1 H' hi hP hY => ?_) (fun H1 hP => ?_)
    · obtain ⟨sm, hL⟩ := hP
      obtain ⟨rfl, c, hc, rfl⟩ := hY
      have hc2 : (letters t)[i]? = some (decide (c ∈ ("123456789" : Str).cps.toList)) := by
        unfold letters
        rw [List.getElem?_map, cps_at hc]
        rfl
      refine ⟨rfl, yesT ?_⟩
      refine ⟨_, rfl, _, _, rfl, rfl, _, hL, by rw [List.length_map, List.length_take]; exact small1000 (by omega), ?_⟩
      refine ⟨same_mut sm hD, ?_⟩
      rw [upd_same, take_succ_map _ hc2]
    · obtain ⟨sm, hL⟩ := hP
      have ell : (letters t).length = t.cps.size := by unfold letters; rw [List.length_map, hsz]
      rw [← ell, List.take_length] at hL
      refine ⟨D, letters t, rfl, SqL.of hL, _, rfl, ?_⟩
      by_cases c3 : (letters t).all id = true
      case neg =>
        rw [Bool.not_eq_true] at c3
        rw [c3]
        refine iteT ?_
        refine k _ _ sm ⟨fun z => (by cases z), fun ⟨ds, N, e⟩ => ?_⟩
        have q := letters_all.mpr (by rw [e]; exact num_codes N.dig : ∀ c ∈ tl t, c ∈ ("123456789" : Str).cps.toList)
        rw [c3] at q
        cases q
      rw [c3]
      refine iteF ?_
      obtain ⟨ds, dig, et⟩ := dig_text t (letters_all.mp c3)
      subst et
      rw [numS_len] at c1' c2
      refine ⟨_, rfl, _, rfl, fun D2 hD2 => ?_⟩
      refine lc_it walk_str (fun i H' => Same H H' ∧ H' D2 = some (.lst ((ds.take i).map fun (d : Nat) => V.int (d : Int)))) ⟨sm.trans (same_new hD2), upd_same⟩ (fun _ _ _ _ => trivial) (fun i x H2 H' hi hP hY => ?_) (fun H2 hP => ?_)
      · obtain ⟨sm2, hl2⟩ := hP
        obtain ⟨rfl, c, hc, rfl⟩ := hY
        rw [numS_size] at hi
        rw [numS_at ds i hi] at hc
        have hc' := (Option.some.inj hc).symm
        subst hc'
        refine ⟨rfl, yesT ?_⟩
        refine ⟨_, rfl, _, _, rfl, dig_int (dig _ (List.getElem_mem hi)), (by show 1 ≤ 640; decide), _, hl2, by rw [List.length_map, List.length_take]; exact small1000 (by omega), ?_⟩
        refine ⟨same_mut sm2 (sm.free hD2), ?_⟩
        rw [upd_same, take_succ_map _ (List.getElem?_eq_getElem hi)]
      · obtain ⟨sm2, hl2⟩ := hP
        rw [numS_size, List.take_length] at hl2
        refine ⟨D2, ds.map fun (d : Nat) => (d : Int), rfl, SqL.of (by rw [hl2, List.map_map]; rfl), _, _, rfl, rfl, ?_⟩
        rw [sum_cast]
        refine k _ _ sm2 ?_
        rw [isnum_dig]
        constructor
        · intro z
          have z' : ((ds.sum : Nat) : Int) ≤ 24 := of_decide_eq_true z
          exact ⟨by omega, by omega, dig, by omega⟩
        · intro N
          exact decide_eq_true (show ((ds.sum : Nat) : Int) ≤ 24 by have := N.sum; omega)
end
end K57

namespace K57
open PySem L2 Wm TL Dv
section
variable {P : Program} {w : World} {K : PySem.W.Frag} {mg : Str → Option Value} {base : Heap}
theorem Bu.ts {p : Addr} {H H' : Hp} {q : Addr} {xs : List V} {C dx : Addr} {fs : List (Str × V)} (b : Bu p H H') (hp : H p = some (.ins C dx fs)) (h : SqT K H q xs) : SqT K H' q xs := b.kt hp (fun _ e => by cases e) (fun _ _ e => by cases e) _ _ h
theorem Bu.dt {p : Addr} {H H' : Hp} {v : V} {d : PyData} {C dx : Addr} {fs : List (Str × V)} (b : Bu p H H') (hp : H p = some (.ins C dx fs)) (h : Dt K H v d) : Dt K H' v d := h.k (b.kt hp (fun _ e => by cases e) (fun _ _ e => by cases e))
theorem putF_ex (f : Str) (v : V) (fs : List (Str × V)) : ∃ fs', putF f v fs = fs' ∧ (∀ g, fs'.lookup g = if g = f then some v else fs.lookup g) ∧ fs'.length ≤ fs.length + 1 := ⟨_, rfl, fun g => lookup_putF f g v fs, length_putF f v fs⟩
theorem crew5 {st : List Nat} {c : Cd} (l6 : st.length ≤ 6) (ok : CdOk st c) : ∀ k ∈ c.order, k ≤ 5 := fun k m => by have := ok.ord k m; omega
theorem ok_cinit (T : Txt K mg) : FnOk P w K mg base CX0 6 T.a_cinit T.d_cinit ["self", "number", "order", "counts", "owed", "moves"] (sp_cinit K T.CC) := by
  refine T.F_cinit.ok sc_cinit (fun vs H Q E h => ?_) (fun cdv A outer s H vs Q E hr h => ?_)
  · obtain ⟨p, dx, st, c, v1, v2, v3, v4, rfl, _⟩ := h
    rfl
  · obtain ⟨p, dx, st, c, v1, v2, v3, v4, rfl, hp, l6, s8, ok, d1, d2, d3, d4, k⟩ := h
    obtain ⟨q1, rfl, h1⟩ := dt_ints d1
    obtain ⟨q2, rfl, h2⟩ := dt_ints d2
    obtain ⟨q3, rfl, h3⟩ := dt_ints d3
    have d4' := d4
    obtain ⟨q4, ms, rfl, h4, hm⟩ := d4'.inv
    have lm := hm.len
    rw [List.length_map] at lm
    have m6 := ok.m6
    refine ⟨_, (pss_cons (ps_if (pt_not (pt_val (pe_call (ok_is_number T) (hr.mono (by decide)) (by rfl) T.g_is_number T.F_is_number.kp T.b_is_number .nil pass0 (pa_cons (pv 1) pa_nil))))
        (pss_one ps_never)
        pss_nil)
      (pss_cons (ps_if (pt_not (pt_val (pe_call (ok_is_order T) (hr.mono (by decide)) (by rfl) T.g_is_order T.F_is_order.kp T.b_is_order .nil pass0 (pa_cons (pv 2) pa_nil))))
        (pss_one ps_never)
        pss_nil)
      (pss_cons (ps_if (pt_not (pt_val (pe_call (ok_are_counts T) (hr.mono (by decide)) (by rfl) T.g_are_counts T.F_are_counts.kp T.b_are_counts .nil pass0 (pa_cons (pv 3) pa_nil))))
        (pss_one ps_never)
        pss_nil)
      (pss_cons (ps_if (pt_not (pt_val (pe_call (ok_are_counts T) (hr.mono (by decide)) (by rfl) T.g_are_counts T.F_are_counts.kp T.b_are_counts .nil pass0 (pa_cons (pv 4) pa_nil))))
        (pss_one ps_never)
        pss_nil)
      (pss_cons (ps_if (pt_not (pt_val (pe_call (ok_are_moves T) (hr.mono (by decide)) (by rfl) T.g_are_moves T.F_are_moves.kp T.b_are_moves .nil pass0 (pa_cons (pv 5) pa_nil))))
        (pss_one ps_never)
        pss_nil)
      (pss_cons (ps_fld (pv 0) (pv 1) rfl)
      (pss_cons (ps_fld (pv 0) (pe_callTy call_tuple_of (by rfl) T.z_tuple (by decide +kernel) (pa_cons (pv 2) pa_nil)) rfl)
      (pss_cons (ps_fld (pv 0) (pe_callTy call_tuple_of (by rfl) T.z_tuple (by decide +kernel) (pa_cons (pv 3) pa_nil)) rfl)
      (pss_cons (ps_fld (pv 0) (pe_callTy call_tuple_of (by rfl) T.z_tuple (by decide +kernel) (pa_cons (pv 4) pa_nil)) rfl)
      (pss_one (ps_fld (pv 0) (pe_callTy call_tuple_of (by rfl) T.z_tuple (by decide +kernel) (pa_cons (pe_lc (own := [("move", 6)]) (g := gName 6) (tt := tYes) rfl sc_cinit.nd (pi_tup (pv 5)) (blkOk_by (own := [("move", 6)]) (N := nm_cinit) (sc := (defScope s_cinit)) (by decide +kernel)) (fun _ _ _ _ _ => pg_name (i := 6) sc_cinit.nd rfl (Or.inl rfl)) (fun _ _ _ _ _ => pts_nil) (fun _ _ _ _ _ => (pe_callTy (show CallR _ _ (Kx.rTupOf K) from call_tuple_of) (by rfl) T.z_tuple (by decide +kernel) (pa_cons (pv 6) pa_nil)))) pa_nil)) rfl))))))))))), ?_⟩
    refine ⟨_, rfl, _, _, rfl, ob_num ok.num, fun H1 b s1 hb => ?_⟩
    rw [hb.mpr ⟨_, ok.num, rfl⟩]
    refine ⟨_, rfl, iteF ?_⟩
    refine ⟨_, rfl, q1, c.order, rfl, sameT s1 h1, ok.nd, crew5 l6 ok, fun H2 s2 => ⟨_, rfl, iteF ?_⟩⟩
    have s2 := s1.trans s2
    refine ⟨_, rfl, q2, c.counts, rfl, sameT s2 h2, ok.c3, ok.c6, fun H3 s3 => ⟨_, rfl, iteF ?_⟩⟩
    have s3 := s2.trans s3
    refine ⟨_, rfl, q3, c.owed, rfl, sameT s3 h3, ok.o3, ok.o6, fun H4 s4 => ⟨_, rfl, iteF ?_⟩⟩
    have s4 := s3.trans s4
    refine ⟨_, rfl, .ref q4, c.moves, rfl, d4.ks s4, ok.m6, fun m mm => ⟨by have := (ok.mv m mm).1; omega, s8 _ (ok.mv m mm).2⟩, fun H5 s5 => ⟨_, rfl, iteF ?_⟩⟩
    have s5 := s4.trans s5
    have hp5 := s5 _ _ hp
    have b5 : Bu p H H5 := Bu.of s5
    have st0 : ∀ g : Str, ([] : List (Str × V)).lookup g = none := fun _ => rfl
    refine ⟨_, rfl, _, rfl, p, T.CC, dx, [], rfl, hp5, T.clCC, T.nNu, by show 0 < 1000; decide, ?_⟩
    obtain ⟨f1, e1, g1, n1⟩ := putF_ex "number" (.str (numS c.ds)) []
    have n1 : f1.length ≤ 1 := n1
    rw [e1]
    have b6 : Bu p H (upd H5 p (.ins T.CC dx f1)) := b5.trans Bu.set
    have hp6 : upd H5 p (.ins T.CC dx f1) p = some (.ins T.CC dx f1) := upd_same
    generalize upd H5 p (.ins T.CC dx f1) = H6 at b6 hp6 ⊢
    refine ⟨_, rfl, q1, _, rfl, .inr ⟨b6.ts hp h1, ?_⟩⟩
    refine ⟨_, rfl, p, T.CC, dx, _, rfl, hp6, T.clCC, T.nOr, by omega, ?_⟩
    obtain ⟨f2, e2, g2, n2⟩ := putF_ex "order" (.ref q1) f1
    rw [e2]
    have b7 : Bu p H (upd H6 p (.ins T.CC dx f2)) := b6.trans Bu.set
    have hp7 : upd H6 p (.ins T.CC dx f2) p = some (.ins T.CC dx f2) := upd_same
    generalize upd H6 p (.ins T.CC dx f2) = H7 at b7 hp7 ⊢
    refine ⟨_, rfl, q2, _, rfl, .inr ⟨b7.ts hp h2, ?_⟩⟩
    refine ⟨_, rfl, p, T.CC, dx, _, rfl, hp7, T.clCC, T.nCo, by omega, ?_⟩
    obtain ⟨f3, e3, g3, n3⟩ := putF_ex "counts" (.ref q2) f2
    rw [e3]
    have b8 : Bu p H (upd H7 p (.ins T.CC dx f3)) := b7.trans Bu.set
    have hp8 : upd H7 p (.ins T.CC dx f3) p = some (.ins T.CC dx f3) := upd_same
    generalize upd H7 p (.ins T.CC dx f3) = H8 at b8 hp8 ⊢
    refine ⟨_, rfl, q3, _, rfl, .inr ⟨b8.ts hp h3, ?_⟩⟩
    refine ⟨_, rfl, p, T.CC, dx, _, rfl, hp8, T.clCC, T.nOw, by omega, ?_⟩
    obtain ⟨f4, e4, g4, n4⟩ := putF_ex "owed" (.ref q3) f3
    rw [e4]
    have b9 : Bu p H (upd H8 p (.ins T.CC dx f4)) := b8.trans Bu.set
    have hp9 : upd H8 p (.ins T.CC dx f4) p = some (.ins T.CC dx f4) := upd_same
    generalize upd H8 p (.ins T.CC dx f4) = H9 at b9 hp9 ⊢
    have h49 := b9.ts hp h4
    have hm9 : Dts K H9 ms (c.moves.map fun x => PyData.tuple [.int (x.1 : Nat), .int (x.2 : Nat)]) := hm.k (b9.kt hp (fun _ e => by cases e) (fun _ _ e => by cases e))
    refine ⟨_, rfl, q4, rfl, ⟨_, h49⟩, fun D hD => ?_⟩
    refine Lm.lc_map (K := K) walk_tup (xs := ms) (fun i y _ => ms[i]? = some y) (fun _ _ _ _ h _ => h) hD (by omega) (fun H' s' => sameT s' h49) (fun i x H' hi hx s' Q' Z hQ => ?_) (fun H2 ys s2 hD2 hl hy => ?_)
    · obtain ⟨d, ed, hx2⟩ := hm9.at hx
      rw [List.getElem?_map] at ed
      obtain ⟨m, em, rfl⟩ := Option.map_eq_some_iff.mp ed
      obtain ⟨p2, xs2, rfl, hp2, _⟩ := hx2.inv
      exact ⟨rfl, yesT ⟨_, rfl, p2, _, rfl, .inr ⟨sameT s' hp2, hQ _ _ (Same.refl _) hx⟩⟩⟩
    · have ey : ys = ms := List.ext_getElem? fun i => by
        by_cases c1 : i < ys.length
        · rw [List.getElem?_eq_getElem c1, hy i _ (List.getElem?_eq_getElem c1)]
        · rw [List.getElem?_eq_none (by omega), List.getElem?_eq_none (by omega)]
      subst ey
      refine ⟨D, _, rfl, .inl ⟨SqL.of hD2, fun t ht => ?_⟩⟩
      have s3 := s2.trans (same_new (o := .tup ys) ht)
      have hpt := s3 _ _ hp9
      have ht2 : upd H2 t (.tup ys) t = some (.tup ys) := upd_same
      have b10 : Bu p H (upd H2 t (.tup ys)) := b9.trans (Bu.of s3)
      have nt : t ≠ p := fun e => by subst e; rw [s2 _ _ hp9] at ht; cases ht
      have hmt := hm9.ks s3
      generalize upd H2 t (.tup ys) = HA at hpt ht2 b10 hmt ⊢
      refine ⟨_, rfl, p, T.CC, dx, _, rfl, hpt, T.clCC, T.nMo, by omega, ?_⟩
      obtain ⟨f5, e5, g5, n5⟩ := putF_ex "moves" (.ref t) f4
      rw [e5]
      have b11 : Bu p H (upd HA p (.ins T.CC dx f5)) := b10.trans Bu.set
      have hpz : upd HA p (.ins T.CC dx f5) p = some (.ins T.CC dx f5) := upd_same
      have bz : Bu p HA (upd HA p (.ins T.CC dx f5)) := Bu.set
      have kz : Kt K HA (upd HA p (.ins T.CC dx f5)) := bz.kt hpt (fun _ e => by cases e) (fun _ _ e => by cases e)
      refine k _ b11 ⟨p, dx, f5, .ref q1, .ref q2, .ref q3, .ref t, rfl, hpz, ?_, ?_, b11.dt hp d1, ?_, b11.dt hp d2, ?_, b11.dt hp d3, ?_, .tup (kz _ _ (SqT.of ht2)) (hmt.k kz), ?_⟩
      all_goals first
        | (rw [g5, if_pos rfl])
        | (rw [g5, if_neg (by decide +kernel), g4, if_pos rfl])
        | (rw [g5, if_neg (by decide +kernel), g4, if_neg (by decide +kernel), g3, if_pos rfl])
        | (rw [g5, if_neg (by decide +kernel), g4, if_neg (by decide +kernel), g3, if_neg (by decide +kernel), g2, if_pos rfl])
        | (rw [g5, if_neg (by decide +kernel), g4, if_neg (by decide +kernel), g3, if_neg (by decide +kernel), g2, if_neg (by decide +kernel), g1, if_pos rfl])
        | (rw [g5, if_neg (by decide +kernel), g4, if_neg (by decide +kernel), g3, if_neg (by decide +kernel), g2, if_neg (by decide +kernel), g1, if_neg (by decide +kernel)]; rfl)
theorem ok_check_crew (T : Txt K mg) : FnOk P w K mg base CX0 1 T.a_check_crew T.d_check_crew ["card", "crew", "stations"] (sp_check_crew K) := by
  refine T.F_check_crew.ok sc_check_crew (fun vs H Q E h => ?_) (fun cdv A outer s H vs Q E hr h => ?_)
  · obtain ⟨v, n, p, st, rfl, _⟩ := h
    rfl
  · obtain ⟨v, n, p, st, rfl, hp, hn, l6, k⟩ := h
    refine ⟨_, (pss_one (ps_if (pt_cmpR op_ge (pv 1) (pe_callB call_len_seq (by rfl) T.z_len PySem.boot_len (pa_cons (pv 2) pa_nil)) (nomark _))
        (pss_one ps_never)
        pss_nil)), ?_⟩
    refine ⟨_, rfl, _, rfl, p, _, rfl, .inl (SqL.of hp), _, _, rfl, rfl, _, rfl, ?_⟩
    rw [nV_len, decide_eq_false (by omega)]
    exact iteF k
theorem ok_check_card (T : Txt K mg) : FnOk P w K mg base CX0 2 T.a_check_card T.d_check_card ["card", "stations"] (sp_check_card K T.CC) := by
  refine T.F_check_card.ok sc_check_card (fun vs H Q E h => ?_) (fun cdv A outer s H vs Q E hr h => ?_)
  · obtain ⟨v, c, p, st, rfl, _⟩ := h
    rfl
  · obtain ⟨v, c, p, st, rfl, hc, hp, l6, ok, k⟩ := h
    have hc0 := hc
    obtain ⟨x, dx, fs, o1, o2, o3, o4, rfl, hx, i1, i2, d2, i3, d3, i4, d4, i5, d5, i6⟩ := hc
    obtain ⟨q1, rfl, h1⟩ := dt_ints d2
    obtain ⟨q4, ms, rfl, h4, hm⟩ := d5.inv
    refine ⟨_, (pss_cons (ps_for PassesOwn.never rfl (pi_tup (pe_fld (pv 0) rfl)) (pg_name (i := 2) sc_check_card.nd rfl (Or.inl rfl))
        (pss_one (ps_expr (pe_call (ok_check_crew T) (hr.mono (by decide)) (by rfl) T.g_check_crew T.F_check_crew.kp T.b_check_crew .nil pass0 (pa_cons (pv 0) (pa_cons (pv 2) (pa_cons (pv 1) pa_nil)))))))
      (pss_one (ps_for PassesOwn.never rfl (pi_tup (pe_fld (pv 0) rfl)) (pg_tup rfl (pgs_cons (pg_name (i := 2) sc_check_card.nd rfl (Or.inl rfl)) (pgs_cons (pg_name (i := 3) sc_check_card.nd rfl (Or.inl rfl)) pgs_nil)))
        (pss_cons (ps_expr (pe_call (ok_check_crew T) (hr.mono (by decide)) (by rfl) T.g_check_crew T.F_check_crew.kp T.b_check_crew .nil pass0 (pa_cons (pv 0) (pa_cons (pv 2) (pa_cons (pv 1) pa_nil)))))
        (pss_one (ps_if (pt_cmpR op_notIn_seq (pv 3) (pv 1) rfl)
          (pss_one ps_never)
          pss_nil)))))), ?_⟩
    refine ⟨_, rfl, x, T.CC, dx, fs, _, rfl, hx, T.clCC, T.nOr, i2, q1, rfl, ⟨_, h1⟩, ?_⟩
    refine for_tup (xs := nV c.order) (fun i σ A => ∃ v2, σ = [some (.ref x), some (.ref p), v2, none] ∧ H = A) ⟨none, rfl, rfl⟩ (fun i σ A _ h => by obtain ⟨_, _, rfl⟩ := h; exact h1) (fun i v σ A hv hP => ?_) (fun σ A hP => ?_)
    · obtain ⟨v2, rfl, rfl⟩ := hP
      obtain ⟨n, hn, rfl⟩ := nV_inv hv
      exact ⟨_, rfl, _, rfl, _, rfl, .ref x, n, p, st, rfl, hp, ok.ord n (List.mem_of_getElem? hn), l6, _, rfl, rfl⟩
    · obtain ⟨v2, rfl, rfl⟩ := hP
      refine ⟨_, rfl, x, T.CC, dx, fs, _, rfl, hx, T.clCC, T.nMo, i5, q4, rfl, ⟨_, h4⟩, ?_⟩
      refine for_tup (xs := ms) (fun i σ A => ∃ v2 v3, σ = [some (.ref x), some (.ref p), v2, v3] ∧ H = A) ⟨v2, none, rfl, rfl⟩ (fun i σ A _ h => by obtain ⟨_, _, _, rfl⟩ := h; exact h4) (fun i v σ A hv hP => ?_) (fun σ A hP => ?_)
      · obtain ⟨v2, v3, rfl, rfl⟩ := hP
        obtain ⟨d, ed, hx2⟩ := hm.at hv
        rw [List.getElem?_map] at ed
        obtain ⟨m, em, rfl⟩ := Option.map_eq_some_iff.mp ed
        obtain ⟨p2, a, b, rfl, hp2, ha, hb⟩ := dt_two hx2
        obtain rfl := ha.int_inv
        obtain rfl := hb.int_inv
        have mv := ok.mv m (List.mem_of_getElem? em)
        refine ⟨p2, _, rfl, hp2, rfl, _, _, rfl, _, _, rfl, rfl, ?_⟩
        refine ⟨_, rfl, _, rfl, _, rfl, .ref x, m.1, p, st, rfl, hp, mv.1, l6, ?_⟩
        have hpi := hp
        rw [nV_int] at hpi
        refine ⟨_, rfl, _, rfl, p, _, rfl, .inl (SqL.of hpi), rfl, flat_ints _, ?_⟩
        rw [if_pos rfl, in_ints, decide_eq_true (List.mem_map.mpr ⟨m.2, mv.2, rfl⟩)]
        exact ⟨_, rfl, iteF ⟨_, _, rfl, rfl⟩⟩
      · obtain ⟨v2, v3, rfl, rfl⟩ := hP
        exact k _ (Same.refl _)
end
end K57

namespace K57
open PySem L2 Wm TL Dv
section
variable {P : Program} {w : World} {K : PySem.W.Frag} {mg : Str → Option Value} {base : Heap}
theorem CardAt.num {CC : Addr} {H : Hp} {v : V} {c : Cd} (h : CardAt K CC H v c) : ∃ p dx fs, v = .ref p ∧ H p = some (.ins CC dx fs) ∧ fs.lookup ("number" : Str) = some (.str (numS c.ds)) := by
  obtain ⟨p, dx, fs, _, _, _, _, e, a, b, _⟩ := h
  exact ⟨p, dx, fs, e, a, b⟩
theorem numS_ne {a b : List Nat} (h : a ≠ b) : V.str (numS a) ≠ V.str (numS b) := fun e => h (numS_inj (V.str.inj e))
theorem flat_strs (ss : List Str) : (ss.map V.str).all flatV = true := by
  rw [List.all_map]
  exact List.all_eq_true.mpr fun _ _ => rfl
theorem in_strs (x : Str) : ∀ ss : List Str, inV (.str x) (ss.map V.str) = decide (x ∈ ss)
  | [] => rfl
  | s :: ss => by
    have ih := in_strs x ss
    unfold inV at ih ⊢
    rw [List.map_cons, List.any_cons, ih]
    show ((s == x) || decide (x ∈ ss)) = _
    by_cases e : s = x
    · subst e; simp
    · simp [e, Ne.symm e]
theorem nums_nodup {cs : List Cd} (h : (cs.map fun c => c.ds).Nodup) : (cs.map fun c => numS c.ds).Nodup := by
  have : (cs.map fun c => numS c.ds) = (cs.map fun c => c.ds).map numS := by rw [List.map_map]; rfl
  rw [this]
  exact h.map _ fun a b ne e => ne (numS_inj e)
theorem not_before {α : Type} [DecidableEq α] {xs : List α} (nd : xs.Nodup) {i : Nat} {x : α} (h : xs[i]? = some x) : x ∉ xs.take i := fun m => by
  obtain ⟨j, hj, e⟩ := List.mem_iff_getElem.mp m
  rw [List.length_take] at hj
  rw [List.getElem_take] at e
  obtain ⟨hi1, hi2⟩ := List.getElem?_eq_some_iff.mp h
  exact List.pairwise_iff_getElem.mp nd j i (by omega) hi1 (by omega) (e.trans hi2.symm)
theorem cut_tk (xs : List V) {k : Nat} : cutV xs none (some (k : Int)) = xs.take k := by
  unfold cutV
  rw [HT.sIx_none, HT.sIx_nat]
  rw [List.drop_zero, Nat.sub_zero, List.take_eq_take_iff]
  omega
theorem dts_of {H : Hp} : ∀ {ys : List V} {ds : List PyData}, ys.length = ds.length → (∀ (i : Nat) y, ys[i]? = some y → ∃ d, ds[i]? = some d ∧ Dt K H y d) → Dts K H ys ds
  | [], [], _, _ => .nil
  | [], _ :: _, l, _ => by cases l
  | _ :: _, [], l, _ => by cases l
  | y :: ys, d :: ds, l, h => by
    obtain ⟨d', e, g⟩ := h 0 y rfl
    cases e
    exact .cons g (dts_of (Nat.succ.inj l) fun i z e => h (i + 1) z e)
theorem ok_rinit (T : Txt K mg) : FnOk P w K mg base CX0 5 T.a_rinit T.d_rinit ["self", "stations", "cards"] (sp_rinit K T.CC T.RC) := by
  refine T.F_rinit.ok sc_rinit (fun vs H Q E h => ?_) (fun cdv A outer s H vs Q E hr h => ?_)
  · obtain ⟨p, dx, a, b, r, cvs, rfl, _⟩ := h
    rfl
  · obtain ⟨p, dx, a, b, r, cvs, rfl, hp, na, nb, ha, hb, hc, ok, k⟩ := h
    have lc := hc.len
    have c6 := ok.cs6
    have l6 := ok.st6
    refine ⟨_, (pss_cons (ps_if (pt_not (pt_val (pe_call (ok_is_stations T) (hr.mono (by decide)) (by rfl) T.g_is_stations T.F_is_stations.kp T.b_is_stations .nil pass0 (pa_cons (pv 1) pa_nil))))
        (pss_one ps_never)
        pss_nil)
      (pss_cons (ps_for PassesOwn.never rfl (pi_list (pv 2)) (pg_name (i := 3) sc_rinit.nd rfl (Or.inl rfl))
        (pss_one (ps_expr (pe_call (ok_check_card T) (hr.mono (by decide)) (by rfl) T.g_check_card T.F_check_card.kp T.b_check_card .nil pass0 (pa_cons (pv 3) (pa_cons (pv 1) pa_nil))))))
      (pss_cons (ps_fld (pv 0) (pe_callTy call_tuple_of (by rfl) T.z_tuple (by decide +kernel) (pa_cons (pv 1) pa_nil)) rfl)
      (pss_cons (ps_fld (pv 0) (pe_callTy call_tuple_of (by rfl) T.z_tuple (by decide +kernel) (pa_cons (pv 2) pa_nil)) rfl)
      (pss_cons (ps_fld (pv 0) (pe_callTy Tf.call_tupF (by rfl) T.z_tuple (by decide +kernel) (pa_cons (pe_lc (own := [("card", 3)]) (g := gName 3) (tt := tYes) rfl sc_rinit.nd (pi_list (pv 2)) (blkOk_by (own := [("card", 3)]) (N := nm_rinit) (sc := (defScope s_rinit)) (by decide +kernel)) (fun _ _ _ _ _ => pg_name (i := 3) sc_rinit.nd rfl (Or.inl rfl)) (fun _ _ _ _ _ => pts_nil) (fun _ _ _ _ _ => (show PE _ _ (tFld K (tVar 3) "number") from by exact pe_fld (pv 3) rfl))) pa_nil)) rfl)
      (pss_one (ps_for PassesOwn.never rfl (Es.pi_ent (by rfl) T.z_enumerate (pa_cons (pe_fld (pv 0) rfl) pa_nil)) (pg_tup rfl (pgs_cons (pg_name (i := 4) sc_rinit.nd rfl (Or.inl rfl)) (pgs_cons (pg_name (i := 5) sc_rinit.nd rfl (Or.inl rfl)) pgs_nil)))
        (pss_one (ps_if (pt_cmpR op_in_seq (pv 5) (pe_slice sl_tupA (pe_fld (pv 0) rfl) po_none (po_some (pv 4))) rfl)
          (pss_one ps_never)
          pss_nil))))))))), ?_⟩
    refine ⟨_, rfl, a, r.st, rfl, ha, ok.st1, ok.st6, ok.st8, fun H1 s1 => ⟨_, rfl, iteF ?_⟩⟩
    have hb1 := s1 _ _ hb
    have ha1 := s1 _ _ ha
    refine ⟨_, rfl, b, rfl, ⟨_, SqL.of hb1⟩, ?_⟩
    refine for_list (xs := cvs) (fun i σ A => ∃ v3, σ = [some (.ref p), some (.ref a), some (.ref b), v3, none, none] ∧ Same H1 A) ⟨none, rfl, Same.refl _⟩ (fun i σ A _ h => by obtain ⟨_, _, sA⟩ := h; exact SqL.of (sA _ _ hb1)) (fun i v σ A hv hP => ?_) (fun σ A hP => ?_)
    · obtain ⟨v3, rfl, sA⟩ := hP
      obtain ⟨c, ec, hcv⟩ := hc.at hv
      exact ⟨_, rfl, _, rfl, v, c, a, r.st, rfl, hcv.k (s1.trans sA), sA _ _ ha1, l6, ok.ok c (List.mem_of_getElem? ec), fun H' s' => ⟨_, rfl, sA.trans s'⟩⟩
    · obtain ⟨v3, rfl, sA⟩ := hP
      have s2 := s1.trans sA
      refine ⟨_, rfl, a, _, rfl, .inl ⟨SqL.of (s2 _ _ ha), fun t ht => ?_⟩⟩
      have s3 := s2.trans (same_new (o := .tup (nV r.st)) ht)
      have ht3 : upd A t (.tup (nV r.st)) t = some (.tup (nV r.st)) := upd_same
      generalize upd A t (.tup (nV r.st)) = H3 at s3 ht3 ⊢
      have hp3 := s3 _ _ hp
      refine ⟨_, rfl, p, T.RC, dx, [], rfl, hp3, T.clRC, T.nSt, by show 0 < 1000; decide, ?_⟩
      obtain ⟨f1, e1, g1, n1⟩ := putF_ex "stations" (.ref t) []
      have n1 : f1.length ≤ 1 := n1
      rw [e1]
      have b4 : Bu p H3 (upd H3 p (.ins T.RC dx f1)) := Bu.set
      have hp4 : upd H3 p (.ins T.RC dx f1) p = some (.ins T.RC dx f1) := upd_same
      generalize upd H3 p (.ins T.RC dx f1) = H4 at b4 hp4 ⊢
      have b04 : Bu p H H4 := (Bu.of s3).trans b4
      have hb4 := b04 _ _ nb hb
      refine ⟨_, rfl, b, _, rfl, .inl ⟨SqL.of hb4, fun t2 ht2 => ?_⟩⟩
      have s5 := same_new (o := .tup cvs) ht2
      have ht5 : upd H4 t2 (.tup cvs) t2 = some (.tup cvs) := upd_same
      generalize upd H4 t2 (.tup cvs) = H5 at s5 ht5 ⊢
      have hp5 := s5 _ _ hp4
      refine ⟨_, rfl, p, T.RC, dx, f1, rfl, hp5, T.clRC, T.nCa, by omega, ?_⟩
      obtain ⟨f2, e2, g2, n2⟩ := putF_ex "cards" (.ref t2) f1
      rw [e2]
      have b6 : Bu p H5 (upd H5 p (.ins T.RC dx f2)) := Bu.set
      have hp6 : upd H5 p (.ins T.RC dx f2) p = some (.ins T.RC dx f2) := upd_same
      generalize upd H5 p (.ins T.RC dx f2) = H6 at b6 hp6 ⊢
      have b06 := (b04.trans (Bu.of s5)).trans b6
      have hb6 := b06 _ _ nb hb
      have hc6 : All2 (CardAt K T.CC H6) cvs r.cs := hc.mono fun v c x => x.kb (b06.kt hp (fun _ e => by cases e) (fun _ _ e => by cases e)) fun q dq fs e _ ne => b06 q _ (fun z => by
        subst z
        rw [hp] at e
        have e := Option.some.inj e
        injection e with e1 e2 e3
        exact ne e3.symm) e
      refine ⟨_, rfl, b, rfl, ⟨_, SqL.of hb6⟩, fun D hD => ?_⟩
      refine Lm.lc_map (K := K) walk_list (xs := cvs) (fun i y _ => ∃ c, r.cs[i]? = some c ∧ y = .str (numS c.ds)) (fun _ _ _ _ h _ => h) hD (by omega) (fun H' s' => SqL.of (s' _ _ hb6)) (fun i x H' hi hx s' Q' Z hQ => ?_) (fun H7 ys s7 hD7 hl hy => ?_)
      · obtain ⟨c, ec, hcv⟩ := (hc6.mono fun _ _ x => x.k s').at hx
        obtain ⟨p2, dx2, fs2, rfl, hp2, l2⟩ := hcv.num
        exact ⟨rfl, yesT ⟨_, rfl, p2, T.CC, dx2, fs2, _, rfl, hp2, T.clCC, T.nNu, l2, hQ _ _ (Same.refl _) ⟨c, ec, rfl⟩⟩⟩
      have ey : ys = (r.cs.map fun c => numS c.ds).map V.str := by
        refine List.ext_getElem? fun i => ?_
        rw [List.getElem?_map, List.getElem?_map]
        by_cases c1 : i < ys.length
        · obtain ⟨c, ec, e⟩ := hy i _ (List.getElem?_eq_getElem c1)
          rw [List.getElem?_eq_getElem c1, ec, e]
          rfl
        · rw [List.getElem?_eq_none (by omega), List.getElem?_eq_none (by omega)]
          rfl
      subst ey
      refine ⟨D, _, rfl, SqL.of hD7, fun t3 ob ht3' hob => ?_⟩
      have s8 := s7.trans (same_new (o := .frz ob (.tup ((r.cs.map fun c => numS c.ds).map V.str))) ht3')
      have ht8 : upd H7 t3 (.frz ob (.tup ((r.cs.map fun c => numS c.ds).map V.str))) t3 = some (.frz ob (.tup ((r.cs.map fun c => numS c.ds).map V.str))) := upd_same
      generalize upd H7 t3 (.frz ob (.tup ((r.cs.map fun c => numS c.ds).map V.str))) = H8 at s8 ht8 ⊢
      have hp8 := s8 _ _ hp6
      refine ⟨_, rfl, p, T.RC, dx, f2, rfl, hp8, T.clRC, T.nNs, by omega, ?_⟩
      obtain ⟨f3, e3, g3, n3⟩ := putF_ex "numbers" (.ref t3) f2
      rw [e3]
      have b9 : Bu p H8 (upd H8 p (.ins T.RC dx f3)) := Bu.set
      have hp9 : upd H8 p (.ins T.RC dx f3) p = some (.ins T.RC dx f3) := upd_same
      generalize upd H8 p (.ins T.RC dx f3) = H9 at b9 hp9 ⊢
      have nt3 : t3 ≠ p := fun z => by subst z; rw [hp8] at ht8; cases ht8
      have ht9 := b9 _ _ nt3 ht8
      have l3 : f3.lookup ("numbers" : Str) = some (.ref t3) := by rw [g3, if_pos rfl]
      have l2 : f3.lookup ("cards" : Str) = some (.ref t2) := by rw [g3, if_neg (by decide +kernel), g2, if_pos rfl]
      have l1 : f3.lookup ("stations" : Str) = some (.ref t) := by rw [g3, if_neg (by decide +kernel), g2, if_neg (by decide +kernel), g1, if_pos rfl]
      have lo : ∀ m : Str, m ≠ "stations" → m ≠ "cards" → m ≠ "numbers" → f3.lookup m = none := fun m h1 h2 h3 => by rw [g3, if_neg h3, g2, if_neg h2, g1, if_neg h1]; rfl
      have b09 := (b06.trans (Bu.of s8)).trans b9
      have hcZ : All2 (CardAt K T.CC H9) cvs r.cs := hc.mono fun v c x => x.kb (b09.kt hp (fun _ e => by cases e) (fun _ _ e => by cases e)) fun q dq fs e _ ne => b09 q _ (fun z => by
        subst z
        rw [hp] at e
        have e := Option.some.inj e
        injection e with e1 e2 e3
        exact ne e3.symm) e
      have nt : t ≠ p := fun z => by subst z; rw [hp3] at ht3; cases ht3
      have nt2 : t2 ≠ p := fun z => by subst z; rw [hp5] at ht5; cases ht5
      have htZ := b9 _ _ nt (s8 _ _ (b6 _ _ nt (s5 _ _ (b4 _ _ nt ht3))))
      have ht2Z := b9 _ _ nt2 (s8 _ _ (b6 _ _ nt2 ht5))
      have hTF : Tf.TF H9 t3 ((r.cs.map fun c => numS c.ds).map V.str) := ⟨ob, ht9, hob⟩
      have hR : RoomAt K T.RC T.CC H9 p r := ⟨dx, f3, .ref t, t2, t3, cvs, hp9, l1, dt_iD htZ, l2, SqT.of ht2Z, hcZ, l3, hTF, lo⟩
      refine ⟨_, rfl, p, T.RC, dx, f3, _, rfl, hp9, T.clRC, T.nNs, l3, t3, _, rfl, hTF.sq, ?_⟩
      refine for_it Es.walk_ent (fun i σ A => ∃ v4 v5, σ = [some (.ref p), some (.ref a), some (.ref b), v3, v4, v5] ∧ Same H9 A) ⟨none, none, rfl, Same.refl _⟩ (fun i σ A _ h => by obtain ⟨_, _, _, sA⟩ := h; exact (hTF.k sA).sq) (fun i x σ A A' hi hP hY => ?_) (fun σ A hP => ?_)
      · obtain ⟨v4, v5, rfl, sA⟩ := hP
        obtain ⟨tp, x1, x2, rfl, htp, rfl, e1, e2⟩ := hY
        cases e1
        have e2 : ((r.cs.map fun c => numS c.ds).map V.str)[i]? = some x2 := e2
        rw [List.getElem?_map] at e2
        obtain ⟨n, en, rfl⟩ := Option.map_eq_some_iff.mp e2
        have en2 := en
        rw [List.getElem?_map] at en2
        obtain ⟨c, ec, rfl⟩ := Option.map_eq_some_iff.mp en2
        have sB := sA.trans (same_new (o := .tup [.int (i : Nat), .str (numS c.ds)]) htp)
        refine ⟨tp, _, rfl, SqT.of upd_same, rfl, _, _, rfl, _, _, rfl, rfl, ?_⟩
        generalize upd A tp (.tup [.int (i : Nat), .str (numS c.ds)]) = B at sB ⊢
        have hi2 : i < r.cs.length := (List.getElem?_eq_some_iff.mp ec).1
        refine ⟨_, rfl, _, rfl, p, T.RC, dx, f3, _, rfl, sB _ _ hp9, T.clRC, T.nNs, l3, _, rfl, _, rfl, t3, _, rfl, (hTF.k sB).sq, fun w => ?_, fun _ u hu => ?_⟩
        · exfalso
          have w2 := w.2
          rw [HT.sIx_nat, List.length_map, List.length_map] at w2
          omega
        · rw [cut_tk, ← List.map_take]
          have sC := sB.trans (same_new (o := .tup (((r.cs.map fun c => numS c.ds).take i).map V.str)) hu)
          refine ⟨u, _, rfl, .inr (SqT.of upd_same), rfl, flat_strs _, ?_⟩
          rw [if_neg (by decide), in_strs, decide_eq_false (not_before (nums_nodup ok.nd) en)]
          exact ⟨_, rfl, iteF ⟨_, _, rfl, sC⟩⟩
      · obtain ⟨v4, v5, rfl, sA⟩ := hP
        exact k _ (b09.trans (Bu.of sA)) (hR.k sA)
theorem ok_rstart (T : Txt K mg) : FnOk P w K mg base CX0 1 T.a_rstart T.d_rstart ["self"] (sp_rstart K T.CC T.RC) := by
  refine T.F_rstart.ok sc_rstart (fun vs H Q E h => ?_) (fun cdv A outer s H vs Q E hr h => ?_)
  · obtain ⟨p, r, rfl, _⟩ := h
    rfl
  · obtain ⟨p, r, rfl, hR, ok, k⟩ := h
    obtain ⟨dx, fs, s, q, n, cvs, hp, l1, d1, l2, hq, hc, l3, d3, lo⟩ := id hR
    obtain ⟨t1, rfl, h1⟩ := dt_ints d1
    have lc := hc.len
    have c6 := ok.cs6
    have l6 := ok.st6
    refine ⟨_, (pss_one (ps_ret (pe_tup (pa_cons (pe_callTy call_tuple_of (by rfl) T.z_tuple (by decide +kernel) (pa_cons (pe_lc (own := [("station", 1)]) (g := gName 1) (tt := tYes) rfl sc_rstart.nd (pi_tup (pe_fld (pv 0) rfl)) (blkOk_by (own := [("station", 1)]) (N := nm_rstart) (sc := (defScope s_rstart)) (by decide +kernel)) (fun _ _ _ _ _ => pg_name (i := 1) sc_rstart.nd rfl (Or.inl rfl)) (fun _ _ _ _ _ => pts_nil) (fun _ _ _ _ _ => (pe_tup (pa_cons (pe_glob (v := V.str "in") rfl T.c_IN ⟨_, rfl⟩) (pa_cons (pv 1) pa_nil))))) pa_nil)) (pa_cons (pe_op op_repTA (pe_tup (pa_cons pe_int pa_nil)) (pe_callB call_len_seq (by rfl) T.z_len PySem.boot_len (pa_cons (pe_fld (pv 0) rfl) pa_nil))) pa_nil))))), ?_⟩
    refine ⟨_, rfl, p, T.RC, dx, fs, _, rfl, hp, T.clRC, T.nSt, l1, t1, rfl, ⟨_, h1⟩, fun D hD => ?_⟩
    refine Lm.lc_map (K := K) walk_tup (xs := nV r.st) (fun i y A => ∃ n, r.st[i]? = some n ∧ Dt K A y (plD (.ins n))) (fun _ _ _ _ h kt => let ⟨n, e, d⟩ := h; ⟨n, e, d.k kt⟩) hD (by rw [nV_len]; omega) (fun H' s' => sameT s' h1) (fun i x H' hi hx s' Q' Z hQ => ?_) (fun H2 ys s2 hD2 hl hy => ?_)
    · obtain ⟨n, hn, rfl⟩ := nV_inv hx
      refine ⟨rfl, yesT ⟨_, rfl, by show 2 ≤ sizeLine; decide, fun u hu => hQ _ _ (same_new hu) ⟨n, hn, dt_tup upd_same (.cons (.str _) (.cons (.int _) .nil))⟩⟩⟩
    · rw [nV_len] at hl
      refine ⟨D, _, rfl, .inl ⟨SqL.of hD2, fun t ht => ?_⟩⟩
      have s3 := s2.trans (same_new (o := .tup ys) ht)
      have ht3 : upd H2 t (.tup ys) t = some (.tup ys) := upd_same
      have hy3 : ∀ (i : Nat) y, ys[i]? = some y → ∃ n, r.st[i]? = some n ∧ Dt K (upd H2 t (.tup ys)) y (plD (.ins n)) := fun i y e => let ⟨n, a, b⟩ := hy i y e; ⟨n, a, b.k (Kt.new ht)⟩
      generalize upd H2 t (.tup ys) = H3 at s3 ht3 hy3 ⊢
      have hds : Dts K H3 ys ((r.st.map Pl.ins).map plD) := dts_of (by rw [List.length_map, List.length_map]; exact hl) fun i y e => by
        obtain ⟨n, a, b⟩ := hy3 i y e
        exact ⟨_, by rw [List.getElem?_map, List.getElem?_map, a]; rfl, b⟩
      have hp3 := s3 _ _ hp
      have hq3 := sameT s3 hq
      refine ⟨by show 1 ≤ sizeLine; decide, fun z hz => ?_⟩
      have s4 := same_new (o := .tup [.int 0]) hz
      have hz4 : upd H3 z (.tup [.int 0]) z = some (.tup [.int 0]) := upd_same
      generalize upd H3 z (.tup [.int 0]) = H4 at s4 hz4 ⊢
      have fin : ∀ (H5 : Hp) (g : Addr), Same H4 H5 → SqT K H5 g (nV (r.cs.map fun _ => 0)) → ∀ u, H5 u = none → Q (.ref u) (upd H5 u (.tup [.ref t, .ref g])) := fun H5 g s5 hg u hu => by
        have s6 := same_new (o := .tup [.ref t, .ref g]) hu
        exact k _ _ (((s3.trans s4).trans s5).trans s6) (dt_tup upd_same (.cons ((Dt.tup (SqT.of ht3) hds).ks ((s4.trans s5).trans s6)) (.cons ((Dt.tup hg (dts_nV _)).ks s6) .nil)))
      refine ⟨_, rfl, p, T.RC, dx, fs, _, rfl, s4 _ _ hp3, T.clRC, T.nCa, l2, q, cvs, rfl, .inr (sameT s4 hq3), z, _, _, rfl, rfl, SqT.of hz4, List.cons_ne_nil _ _, by omega, by omega, by decide, fun e => ?_, fun ne u hu => ?_⟩
      · refine ⟨by show 2 ≤ sizeLine; decide, fun u hu => fin H4 z (Same.refl _) ?_ u hu⟩
        have : r.cs.length = 1 := by omega
        have e2 : nV (r.cs.map fun _ => 0) = [.int 0] := by
          cases hcs : r.cs with
          | nil => rw [hcs] at this; cases this
          | cons c cs =>
            rw [hcs] at this
            cases cs with
            | nil => rfl
            | cons _ _ => simp at this
        rw [e2]
        exact SqT.of hz4
      · refine ⟨by show 2 ≤ sizeLine; decide, fun u2 hu2 => fin _ u (same_new hu) ?_ u2 hu2⟩
        have e2 : (List.replicate ((cvs.length : Nat) : Int).toNat [V.int 0]).flatten = nV (r.cs.map fun _ => 0) := by
          rw [Int.toNat_natCast, lc]
          generalize r.cs = cs
          induction cs with
          | nil => rfl
          | cons c cs ih =>
            rw [List.length_cons, List.replicate_succ, List.flatten_cons, ih]
            rfl
        rw [e2]
        exact SqT.of upd_same
theorem ok_card_index (T : Txt K mg) : FnOk P w K mg base CX0 1 T.a_card_index T.d_card_index ["self", "number"] (sp_card_index K T.CC T.RC) := by
  refine T.F_card_index.ok sc_card_index (fun vs H Q E h => ?_) (fun cdv A outer s H vs Q E hr h => ?_)
  · obtain ⟨p, r, i, c, rfl, _⟩ := h
    rfl
  · obtain ⟨p, r, i, c, rfl, hR, ok, hc, k⟩ := h
    obtain ⟨dx, fs, s, q, n, cvs, hp, l1, d1, l2, hq, hcs, l3, d3, lo⟩ := id hR
    have h3 : SqT K H n ((r.cs.map fun c => numS c.ds).map V.str) := d3.sq
    have en : (r.cs.map fun c => numS c.ds)[i]? = some (numS c.ds) := by rw [List.getElem?_map, hc]; rfl
    refine ⟨_, (pss_cons (ps_if (pt_cmpR op_notIn_seq (pv 1) (pe_fld (pv 0) rfl) rfl)
        (pss_one ps_never)
        pss_nil)
      (pss_one (ps_ret (Tf.pe_bmF PySem.F.plainAttrs_tuple PySem.F.slot_tuple_index PySem.F.type_tuple_index mt_tup_index (pe_fld (pv 0) rfl) (pa_cons (pv 1) pa_nil))))), ?_⟩
    refine ⟨_, rfl, _, rfl, p, T.RC, dx, fs, _, rfl, hp, T.clRC, T.nNs, l3, n, _, rfl, .inr h3, rfl, flat_strs _, ?_⟩
    rw [if_pos rfl, in_strs, decide_eq_true (List.mem_of_getElem? en)]
    refine ⟨_, rfl, iteF ?_⟩
    refine ⟨_, rfl, p, T.RC, dx, fs, _, rfl, hp, T.clRC, T.nNs, l3, ⟨n, _, rfl, d3⟩, _, rfl, n, _, _, i, rfl, rfl, h3, en, fun m hm e => ?_, k⟩
    exact not_before (nums_nodup ok.nd) en (List.mem_of_getElem? (by rw [List.getElem?_take, if_pos hm]; exact e))
theorem ok_card_of (T : Txt K mg) : FnOk P w K mg base CX0 2 T.a_card_of T.d_card_of ["self", "number"] (sp_card_of K T.CC T.RC) := by
  refine T.F_card_of.ok sc_card_of (fun vs H Q E h => ?_) (fun cdv A outer s H vs Q E hr h => ?_)
  · obtain ⟨p, r, i, c, rfl, _⟩ := h
    rfl
  · obtain ⟨p, r, i, c, rfl, hR, ok, hc, k⟩ := h
    obtain ⟨dx, fs, s, q, n, cvs, hp, l1, d1, l2, hq, hcs, l3, d3, lo⟩ := id hR
    obtain ⟨v, hv, hcv⟩ := hcs.get hc
    refine ⟨_, (pss_one (ps_ret (pe_ix ix_tup (pe_fld (pv 0) rfl) (pe_meth (pv 0) T.clRC T.m_card_index (ok_card_index T) (hr.mono (by decide)) T.b_card_index .nil pass0 (pa_cons (pv 1) pa_nil)) (fun _ _ => rfl)))), ?_⟩
    refine ⟨_, rfl, p, T.RC, dx, fs, _, rfl, hp, T.clRC, T.nCa, l2, _, rfl, p, dx, fs, rfl, hp, lo _ (by decide +kernel) (by decide +kernel) (by decide +kernel), _, rfl, p, r, i, c, rfl, hR, ok, hc, ?_⟩
    exact ⟨q, _, _, _, rfl, rfl, hq, atI_nat hv, k v hcv⟩
theorem ok_grade_in (T : Txt K mg) : FnOk P w K mg base CX0 2 T.a_grade_in T.d_grade_in ["self", "standing", "number"] (sp_grade_in K T.CC T.RC) := by
  refine T.F_grade_in.ok sc_grade_in (fun vs H Q E h => ?_) (fun cdv A outer s H vs Q E hr h => ?_)
  · obtain ⟨p, r, i, c, v, s, rfl, _⟩ := h
    rfl
  · obtain ⟨p, r, i, c, v, s, rfl, hR, ok, hc, dv, so, k⟩ := h
    obtain ⟨dx, fs, _, q, n, cvs, hp, l1, d1, l2, hq, hcs, l3, d3, lo⟩ := id hR
    obtain ⟨t, x, y, rfl, ht, d5, d6⟩ := dt_two dv
    obtain ⟨g, rfl, hg⟩ := dt_ints d6
    refine ⟨_, (pss_cons (ps_asg (pv 1) (pg_tup rfl (pgs_cons (pg_name (i := 3) sc_grade_in.nd rfl (Or.inl rfl)) (pgs_cons (pg_name (i := 4) sc_grade_in.nd rfl (Or.inl rfl)) pgs_nil))))
      (pss_one (ps_ret (pe_ix ix_tup (pv 4) (pe_meth (pv 0) T.clRC T.m_card_index (ok_card_index T) (hr.mono (by decide)) T.b_card_index .nil pass0 (pa_cons (pv 2) pa_nil)) (fun _ _ => rfl))))), ?_⟩
    refine ⟨_, rfl, t, _, rfl, ht, rfl, _, _, rfl, _, _, rfl, rfl, ?_⟩
    refine ⟨_, rfl, _, rfl, p, dx, fs, rfl, hp, lo _ (by decide +kernel) (by decide +kernel) (by decide +kernel), _, rfl, p, r, i, c, rfl, hR, ok, hc, ?_⟩
    have hi : i < s.gr.length := by rw [so.gr]; exact (List.getElem?_eq_some_iff.mp hc).1
    have hg2 : s.gr[i]? = some (s.gr.getD i 0) := by rw [List.getD_eq_getElem?_getD, List.getElem?_eq_getElem hi]; rfl
    exact ⟨g, _, _, _, rfl, rfl, hg, atI_nat (nV_at hg2), k _ (Same.refl _)⟩
theorem ok_open_count (T : Txt K mg) : FnOk P w K mg base CX0 1 T.a_open_count T.d_open_count ["grades"] (sp_open_count K) := by
  refine T.F_open_count.ok sc_open_count (fun vs H Q E h => ?_) (fun cdv A outer s H vs Q E hr h => ?_)
  · obtain ⟨v, gr, rfl, _⟩ := h
    rfl
  · obtain ⟨v, gr, rfl, dv, l6, k⟩ := h
    obtain ⟨g, rfl, hg⟩ := dt_ints dv
    refine ⟨_, (pss_one (ps_ret (pe_callB call_len_seq (by rfl) T.z_len PySem.boot_len (pa_cons (pe_lc (own := [("grade", 1)]) (g := gName 1) rfl sc_open_count.nd (pi_tup (pv 0)) (blkOk_by (own := [("grade", 1)]) (N := nm_open_count) (sc := (defScope s_open_count)) (by decide +kernel)) (fun _ _ _ _ _ => pg_name (i := 1) sc_open_count.nd rfl (Or.inl rfl)) (fun _ _ _ _ _ => (pts_one (pt_cmpR op_gt (pv 1) pe_int (nomark _)))) (fun _ _ _ _ _ => (pv 1))) pa_nil)))), ?_⟩
    refine ⟨_, rfl, g, rfl, ⟨_, hg⟩, fun D hD => ?_⟩
    refine lc_it walk_tup (fun j B => Same H B ∧ B D = some (.lst (nV ((gr.take j).filter fun g => decide (0 < g))))) ⟨same_new hD, upd_same⟩ (fun j B _ h => sameT h.1 hg) (fun j v B B' hj hP hY => ?_) (fun B hP => ?_)
    · obtain ⟨sB, hB⟩ := hP
      obtain ⟨rfl, hv⟩ := hY
      obtain ⟨n, hn, rfl⟩ := nV_inv hv
      have fl : ((gr.take j).filter fun g => decide (0 < g)).length ≤ 6 := Nat.le_trans (List.length_filter_le _ _) (by rw [List.length_take]; omega)
      refine ⟨rfl, _, rfl, _, _, rfl, rfl, _, rfl, ite2 (fun c => ?_) (fun c => ?_)⟩
      · have c : (0 : Int) < (n : Nat) := of_decide_eq_true c
        refine ⟨_, rfl, _, hB, by rw [nV_len]; exact small1000 (by omega), same_mut sB hD, ?_⟩
        rw [upd_same, tk_succ' hn, List.filter_append, List.filter_cons, if_pos (decide_eq_true (by omega))]
        unfold nV
        rw [List.map_append]
        rfl
      · have c : ¬ (0 : Int) < (n : Nat) := fun z => c (decide_eq_true z)
        refine ⟨sB, ?_⟩
        rw [tk_succ' hn, List.filter_append, List.filter_cons, if_neg (by simp; omega), List.filter_nil, List.append_nil]
        exact hB
    · obtain ⟨sB, hB⟩ := hP
      rw [nV_len, List.take_length] at hB
      refine ⟨D, _, rfl, .inl (SqL.of hB), ?_⟩
      rw [nV_len]
      exact k _ sB
end
end K57

namespace K57
open PySem L2 Wm TL Dv
section
variable {P : Program} {w : World} {K : PySem.W.Frag} {mg : Str → Option Value} {base : Heap}
theorem eqv_pl (p q : Pl) : PyData.eqv (plD p) (plD q) = decide (p = q) := by
  cases p with
  | ins a =>
    cases q with
    | ins b =>
      by_cases e : a = b
      · subst e; simp [plD, PyData.eqv, PyData.eqvAll]
      · have e2 : ((a : Nat) : Int) ≠ (b : Nat) := by omega
        simp [plD, PyData.eqv, PyData.eqvAll, e, e2]
    | out b => simp [plD, PyData.eqv, PyData.eqvAll]
  | out a =>
    cases q with
    | ins b => simp [plD, PyData.eqv, PyData.eqvAll]
    | out b =>
      by_cases e : a = b
      · subst e; simp [plD, PyData.eqv, PyData.eqvAll]
      · have e2 : numS a ≠ numS b := fun z => e (numS_inj z)
        simp [plD, PyData.eqv, PyData.eqvAll, e, e2]
theorem fine_pl {p : Pl} (h : plOk p) : Fine 1 (plD p) := by
  cases p with
  | ins s =>
    refine fine_tup (n := 0) fun d m => ?_
    simp only [List.mem_cons, List.not_mem_nil, or_false] at m
    rcases m with rfl | rfl
    · exact fine_str (by decide +kernel)
    · exact fine_int _
  | out ds =>
    have h : Num ds := h
    refine fine_tup (n := 0) fun d m => ?_
    simp only [List.mem_cons, List.not_mem_nil, or_false] at m
    rcases m with rfl | rfl
    · exact fine_str (by decide +kernel)
    · exact fine_num fun d md => (h.dig d md).2
theorem ok_crews_at (T : Txt K mg) : FnOk P w K mg base CX0 1 T.a_crews_at T.d_crews_at ["places", "wanted"] (sp_crews_at K) := by
  refine T.F_crews_at.ok sc_crews_at (fun vs H Q E h => ?_) (fun cdv A outer s H vs Q E hr h => ?_)
  · obtain ⟨a, v, t, xs, pl, p, rfl, _⟩ := h
    rfl
  · obtain ⟨a, v, t, xs, pl, p, rfl, hx, hd, hv, okp, okq, l6, k⟩ := h
    have lx := hd.len
    rw [List.length_map] at lx
    refine ⟨_, (pss_one (ps_ret (pe_lc (own := [("crew", 2), ("place", 3)]) (g := gTup K 2 (gCons (gName 2) (gCons (gName 3) (gNil)))) rfl sc_crews_at.nd (pi_or (pi_enum (by rfl) T.z_enumerate (pa_cons (pv 0) pa_nil)) (Es.pi_ent (by rfl) T.z_enumerate (pa_cons (pv 0) pa_nil))) (blkOk_by (own := [("crew", 2), ("place", 3)]) (N := nm_crews_at) (sc := (defScope s_crews_at)) (by decide +kernel)) (fun _ _ _ _ _ => (pg_tup rfl (pgs_cons (pg_name (i := 2) sc_crews_at.nd rfl (Or.inl rfl)) (pgs_cons (pg_name (i := 3) sc_crews_at.nd rfl (Or.inl rfl)) pgs_nil)))) (fun _ _ _ _ _ => (pts_one (pt_cmpR (show OpR _ _ (rEqD K) from op_eqD hr.units) (pv 3) (pv 1) (nomark _)))) (fun _ _ _ _ _ => (pv 2))))), ?_⟩
    cases t with
    | false =>
      have hx : SqL K H a xs := hx
      refine .inl ⟨_, rfl, a, xs, rfl, hx, fun D hD => ?_⟩
      refine lc_it walk_enum (fun j B => Same H B ∧ B D = some (.lst (nV ((List.range j).filter fun i => decide (pl[i]? = some p))))) ⟨same_new hD, upd_same⟩ (fun j B _ h => Hf.keepL h.1 hx) (fun j v B B' hj hP hY => ?_) (fun B hP => ?_)
      · obtain ⟨sB, hB⟩ := hP
        obtain ⟨tp, x1, x2, rfl, htp, rfl, e1, e2⟩ := hY
        cases e1
        have e2 : xs[j]? = some x2 := e2
        obtain ⟨d, ed, hx2⟩ := hd.at e2
        rw [List.getElem?_map] at ed
        obtain ⟨p2, ep, rfl⟩ := Option.map_eq_some_iff.mp ed
        have sC := sB.trans (same_new (o := .tup [.int (j : Nat), x2]) htp)
        have hB := (same_new (o := .tup [.int (j : Nat), x2]) htp) _ _ hB
        refine ⟨tp, _, rfl, SqT.of upd_same, rfl, _, _, rfl, _, _, rfl, rfl, rfl, ?_⟩
        generalize upd B tp (.tup [.int (j : Nat), x2]) = B2 at sC hB ⊢
        have fl : (((List.range j).filter fun i => decide (pl[i]? = some p))).length ≤ j := by
          have := List.length_filter_le (fun i => decide (pl[i]? = some p)) (List.range j)
          rw [List.length_range] at this
          exact this
        refine ⟨_, rfl, _, rfl, _, _, (hx2.ks sC).toDp, (hv.ks sC).toDp, (fine_pl (okp p2 (List.mem_of_getElem? ep))).shaped (by decide), (fine_pl okq).shaped (by decide), _, rfl, ?_⟩
        rw [eqv_pl]
        refine ite2 (fun c => ?_) (fun c => ?_)
        · have c : p2 = p := of_decide_eq_true c
          subst c
          refine ⟨_, rfl, _, hB, by rw [nV_len]; exact small1000 (by omega), same_mut sC hD, ?_⟩
          rw [upd_same, List.range_succ, List.filter_append, List.filter_cons, if_pos (decide_eq_true ep)]
          unfold nV
          rw [List.map_append]
          rfl
        · refine ⟨sC, ?_⟩
          have c : ¬ p2 = p := fun z => c (decide_eq_true z)
          rw [List.range_succ, List.filter_append, List.filter_cons, if_neg (by rw [ep]; simp [c]), List.filter_nil, List.append_nil]
          exact hB
      · obtain ⟨sB, hB⟩ := hP
        refine k _ D sB hD ?_
        rw [hB, lx]
        rfl
    | true =>
      have hx : SqT K H a xs := hx
      refine .inr ⟨_, rfl, a, xs, rfl, hx, fun D hD => ?_⟩
      refine lc_it Es.walk_ent (fun j B => Same H B ∧ B D = some (.lst (nV ((List.range j).filter fun i => decide (pl[i]? = some p))))) ⟨same_new hD, upd_same⟩ (fun j B _ h => sameT h.1 hx) (fun j v B B' hj hP hY => ?_) (fun B hP => ?_)
      · obtain ⟨sB, hB⟩ := hP
        obtain ⟨tp, x1, x2, rfl, htp, rfl, e1, e2⟩ := hY
        cases e1
        have e2 : xs[j]? = some x2 := e2
        obtain ⟨d, ed, hx2⟩ := hd.at e2
        rw [List.getElem?_map] at ed
        obtain ⟨p2, ep, rfl⟩ := Option.map_eq_some_iff.mp ed
        have sC := sB.trans (same_new (o := .tup [.int (j : Nat), x2]) htp)
        have hB := (same_new (o := .tup [.int (j : Nat), x2]) htp) _ _ hB
        refine ⟨tp, _, rfl, SqT.of upd_same, rfl, _, _, rfl, _, _, rfl, rfl, rfl, ?_⟩
        generalize upd B tp (.tup [.int (j : Nat), x2]) = B2 at sC hB ⊢
        have fl : (((List.range j).filter fun i => decide (pl[i]? = some p))).length ≤ j := by
          have := List.length_filter_le (fun i => decide (pl[i]? = some p)) (List.range j)
          rw [List.length_range] at this
          exact this
        refine ⟨_, rfl, _, rfl, _, _, (hx2.ks sC).toDp, (hv.ks sC).toDp, (fine_pl (okp p2 (List.mem_of_getElem? ep))).shaped (by decide), (fine_pl okq).shaped (by decide), _, rfl, ?_⟩
        rw [eqv_pl]
        refine ite2 (fun c => ?_) (fun c => ?_)
        · have c : p2 = p := of_decide_eq_true c
          subst c
          refine ⟨_, rfl, _, hB, by rw [nV_len]; exact small1000 (by omega), same_mut sC hD, ?_⟩
          rw [upd_same, List.range_succ, List.filter_append, List.filter_cons, if_pos (decide_eq_true ep)]
          unfold nV
          rw [List.map_append]
          rfl
        · refine ⟨sC, ?_⟩
          have c : ¬ p2 = p := fun z => c (decide_eq_true z)
          rw [List.range_succ, List.filter_append, List.filter_cons, if_neg (by rw [ep]; simp [c]), List.filter_nil, List.append_nil]
          exact hB
      · obtain ⟨sB, hB⟩ := hP
        refine k _ D sB hD ?_
        rw [hB, lx]
        rfl
def plW : Pl → Str
  | .ins _ => "in"
  | .out _ => "out"
def plY : Pl → V
  | .ins s => .int (s : Nat)
  | .out n => .str (numS n)
def isI : Pl → Bool
  | .ins _ => true
  | .out _ => false
theorem pl_two {H : Hp} {v : V} {p : Pl} (h : Dt K H v (plD p)) : ∃ q, v = .ref q ∧ SqT K H q [.str (plW p), plY p] := by
  cases p with
  | ins s =>
    obtain ⟨q, x, y, e, a, b, c⟩ := dt_two h
    obtain rfl := b.str_inv
    obtain rfl := c.int_inv
    exact ⟨q, e, a⟩
  | out s =>
    obtain ⟨q, x, y, e, a, b, c⟩ := dt_two h
    obtain rfl := b.str_inv
    obtain rfl := c.str_inv
    exact ⟨q, e, a⟩
theorem dt_pl {H : Hp} {q : Addr} {p : Pl} (h : H q = some (.tup [.str (plW p), plY p])) : Dt K H (.ref q) (plD p) := by
  cases p with
  | ins s => exact dt_tup h (.cons (.str _) (.cons (.int _) .nil))
  | out s => exact dt_tup h (.cons (.str _) (.cons (.str _) .nil))
theorem ne_in (p : Pl) : (!decide (V.str (plW p) = V.str "in")) = !isI p := by
  cases p with
  | ins s => show (!decide (V.str "in" = V.str "in")) = !true; decide +kernel
  | out s => show (!decide (V.str "out" = V.str "in")) = !false; decide +kernel
theorem eq_in (p : Pl) : decide (V.str (plW p) = V.str "in") = isI p := by
  cases p with
  | ins s => show decide (V.str "in" = V.str "in") = true; decide +kernel
  | out s => show decide (V.str "out" = V.str "in") = false; decide +kernel
theorem isIn_at {pl : List Pl} {i : Nat} {p : Pl} (h : pl[i]? = some p) : isIn pl i = isI p := by
  unfold isIn
  rw [h]
  cases p <;> rfl
theorem pls_at {H : Hp} {xs : List V} {pl : List Pl} {i : Nat} {v : V} (h : Dts K H xs (pl.map plD)) (e : xs[i]? = some v) : ∃ p, pl[i]? = some p ∧ Dt K H v (plD p) := by
  obtain ⟨d, ed, g⟩ := h.at e
  rw [List.getElem?_map] at ed
  obtain ⟨p, ep, rfl⟩ := Option.map_eq_some_iff.mp ed
  exact ⟨p, ep, g⟩
theorem pls_get {H : Hp} {xs : List V} {pl : List Pl} {i : Nat} {p : Pl} (h : Dts K H xs (pl.map plD)) (e : pl[i]? = some p) : ∃ v, xs[i]? = some v ∧ Dt K H v (plD p) := h.get (by rw [List.getElem?_map, e]; rfl)
theorem ok_can_move (T : Txt K mg) : FnOk P w K mg base CX0 2 T.a_can_move T.d_can_move ["places", "crew", "station"] (sp_can_move K) := by
  refine T.F_can_move.ok sc_can_move (fun vs H Q E h => ?_) (fun cdv A outer s H vs Q E hr h => ?_)
  · obtain ⟨a, xs, pl, c, s, rfl, _⟩ := h
    rfl
  · obtain ⟨a, xs, pl, c, s, rfl, ha, hd, okp, l6, hc, s8, k⟩ := h
    have lx := hd.len
    rw [List.length_map] at lx
    have hp := List.getElem?_eq_getElem hc
    generalize pl[c] = p at hp
    obtain ⟨v, hv, dv⟩ := pls_get hd hp
    have okq := okp p (List.mem_of_getElem? hp)
    refine ⟨_, (pss_cons (ps_if (PW.pt (pw_or (pt_cmpR op_gt (pe_callB call_len_seq (by rfl) T.z_len PySem.boot_len (pa_cons (pe_call (ok_crews_at T) (hr.mono (by decide)) (by rfl) T.g_crews_at T.F_crews_at.kp T.b_crews_at .nil pass0 (pa_cons (pv 0) (pa_cons (pe_tup (pa_cons (pe_glob (v := V.str "in") rfl T.c_IN ⟨_, rfl⟩) (pa_cons (pv 2) pa_nil))) pa_nil))) pa_nil)) pe_int (nomark _)) (pw_or1 (pt_cmpR op_ne (pe_ix ix_tup (pe_ix ix_list (pv 0) (pv 1) (fun _ _ => rfl)) pe_int (fun _ _ => rfl)) (pe_glob (v := V.str "in") rfl T.c_IN ⟨_, rfl⟩) (nomark _)))))
        (pss_one (ps_ret pe_bl))
        pss_nil)
      (pss_one (ps_ret (pe_cmpR op_gt (pe_callB call_len_seq (by rfl) T.z_len PySem.boot_len (pa_cons (pe_call (ok_crews_at T) (hr.mono (by decide)) (by rfl) T.g_crews_at T.F_crews_at.kp T.b_crews_at .nil pass0 (pa_cons (pv 0) (pa_cons (pe_ix ix_list (pv 0) (pv 1) (fun _ _ => rfl)) pa_nil))) pa_nil)) pe_int (nomark _))))), ?_⟩
    refine ⟨_, rfl, _, rfl, by show 2 ≤ sizeLine; decide, fun u hu => ?_⟩
    have s1 := same_new (o := .tup [.str "in", .int (s : Nat)]) hu
    refine ⟨a, .ref u, false, xs, pl, .ins s, rfl, SqL.of (s1 _ _ ha), hd.ks s1, dt_pl (p := .ins s) upd_same, okp, s8, l6, fun H2 q s2 _ hq => ?_⟩
    have s2 := s1.trans s2
    refine ⟨q, _, rfl, .inl (SqL.of hq), _, _, rfl, rfl, _, rfl, ite2 (fun c1 => ?_) (fun c1 => ?_)⟩
    · rw [nV_len] at c1
      have e : canB pl c s = false := by
        unfold canB
        rw [decide_eq_false (fun z => by rw [z] at c1; exact absurd (of_decide_eq_true c1) (by decide)), Bool.false_and]
      rw [e] at k
      exact k _ s2
    · rw [nV_len] at c1
      have e0 : atL pl (.ins s) = [] := List.eq_nil_of_length_eq_zero (by
        have n0 : ¬ ((0 : Int) < ((atL pl (.ins s)).length : Nat)) := fun z => c1 (decide_eq_true z)
        omega)
      obtain ⟨p3, rfl, h3⟩ := pl_two (dv.ks s2)
      refine ⟨_, rfl, _, rfl, a, _, _, _, rfl, rfl, SqL.of (s2 _ _ ha), atI_nat hv, p3, _, 0, _, rfl, rfl, h3, atI_nat (j := 0) rfl, rfl, _, rfl, ?_⟩
      rw [ne_in]
      refine ite2 (fun c2 => ?_) (fun c2 => ?_)
      · have e : canB pl c s = false := by
          unfold canB
          rw [isIn_at hp, show isI p = false by simpa using c2, Bool.false_and, Bool.and_false]
        rw [e] at k
        exact k _ s2
      · refine ⟨_, rfl, _, rfl, _, rfl, a, _, _, _, rfl, rfl, SqL.of (s2 _ _ ha), atI_nat hv, ?_⟩
        refine ⟨a, .ref p3, false, xs, pl, p, rfl, SqL.of (s2 _ _ ha), hd.ks s2, dv.ks s2, okp, okq, l6, fun H3 q2 s3 _ hq2 => ?_⟩
        refine ⟨q2, _, rfl, .inl (SqL.of hq2), _, _, rfl, rfl, ?_⟩
        rw [nV_len]
        have e : canB pl c s = decide (1 < (atL pl p).length) := by
          unfold canB
          rw [isIn_at hp, show isI p = true by simpa using c2, decide_eq_true e0, hp, Bool.true_and, Bool.true_and]
        have e2 : decide (((1 : Nat) : Int) < (((atL pl p).length : Nat) : Int)) = decide (1 < (atL pl p).length) := decide_eq_decide.mpr (by omega)
        have k := k _ (s2.trans s3)
        rw [e, ← e2] at k
        exact k
theorem ixN_nat {n i : Nat} (h : i < n) : ixN n ((i : Nat) : Int) = some i := by
  unfold ixN
  rw [if_pos (by omega), if_pos (by omega)]
  rfl
theorem ok_with_grade (T : Txt K mg) : FnOk P w K mg base CX0 2 T.a_with_grade T.d_with_grade ["self", "standing", "places", "number", "grade"] (sp_with_grade K T.CC T.RC) := by
  refine T.F_with_grade.ok sc_with_grade (fun vs H Q E h => ?_) (fun cdv A outer s H vs Q E hr h => ?_)
  · obtain ⟨p, r, i, c, v, s, a, xs, pl, g, rfl, _⟩ := h
    rfl
  · obtain ⟨p, r, i, c, v, s, a, xs, pl, g, rfl, hR, ok, hc, dv, so, ha, hd, l6, k⟩ := h
    obtain ⟨dx, fs, _, q, n, cvs, hp, l1, d1, l2, hq, hcs, l3, d3, lo⟩ := id hR
    obtain ⟨t, x, y, rfl, ht, d5, d6⟩ := dt_two dv
    obtain ⟨gr, rfl, hg⟩ := dt_ints d6
    have hi : i < s.gr.length := by rw [so.gr]; exact (List.getElem?_eq_some_iff.mp hc).1
    have g6 : s.gr.length ≤ 6 := by rw [so.gr]; exact ok.cs6
    refine ⟨_, (pss_cons (ps_set (i := 5) sc_with_grade.nd rfl (Or.inl rfl) (pe_callTy call_list_of (by rfl) T.z_list (by decide +kernel) (pa_cons (pe_ix ix_tup (pv 1) pe_int (fun _ _ => rfl)) pa_nil)))
      (pss_cons (ps_asg (pv 4) (pg_sub (pv 5) (pe_meth (pv 0) T.clRC T.m_card_index (ok_card_index T) (hr.mono (by decide)) T.b_card_index .nil pass0 (pa_cons (pv 3) pa_nil)) set_list))
      (pss_one (ps_ret (pe_tup (pa_cons (pe_callTy call_tuple_of (by rfl) T.z_tuple (by decide +kernel) (pa_cons (pv 2) pa_nil)) (pa_cons (pe_callTy call_tuple_of (by rfl) T.z_tuple (by decide +kernel) (pa_cons (pv 5) pa_nil)) pa_nil))))))), ?_⟩
    refine ⟨_, rfl, t, _, 1, _, rfl, rfl, ht, atI_nat (j := 1) rfl, gr, _, rfl, .inr hg, fun l hl => ?_⟩
    have s1 := same_new (o := .lst (nV s.gr)) hl
    have hl1 : upd H l (.lst (nV s.gr)) l = some (.lst (nV s.gr)) := upd_same
    generalize upd H l (.lst (nV s.gr)) = H1 at s1 hl1 ⊢
    refine ⟨_, rfl, _, rfl, _, rfl, p, dx, fs, rfl, s1 _ _ hp, lo _ (by decide +kernel) (by decide +kernel) (by decide +kernel), _, rfl, p, r, i, c, rfl, hR.k s1, ok, hc, ?_⟩
    have ix : ixN (nV s.gr).length ((i : Nat) : Int) = some i := by
      rw [nV_len]
      exact ixN_nat hi
    refine ⟨l, _, _, i, rfl, rfl, hl1, ix, ?_⟩
    have el : (nV s.gr).set i (.int (g : Nat)) = nV (s.gr.set i g) := by unfold nV; rw [List.map_set]
    rw [el]
    have s2 : Same H (upd H1 l (.lst (nV (s.gr.set i g)))) := same_mut s1 hl
    have hl2 : upd H1 l (.lst (nV (s.gr.set i g))) l = some (.lst (nV (s.gr.set i g))) := upd_same
    generalize upd H1 l (.lst (nV (s.gr.set i g))) = H2 at s2 hl2 ⊢
    refine ⟨_, rfl, a, xs, rfl, .inl ⟨SqL.of (s2 _ _ ha), fun t1 ht1 => ?_⟩⟩
    have s3 := same_new (o := .tup xs) ht1
    have h3 : upd H2 t1 (.tup xs) t1 = some (.tup xs) := upd_same
    generalize upd H2 t1 (.tup xs) = H3 at s3 h3 ⊢
    refine ⟨_, rfl, l, _, rfl, .inl ⟨SqL.of (s3 _ _ hl2), fun t2 ht2 => ?_⟩⟩
    have s4 := same_new (o := .tup (nV (s.gr.set i g))) ht2
    have h4 : upd H3 t2 (.tup (nV (s.gr.set i g))) t2 = some (.tup (nV (s.gr.set i g))) := upd_same
    generalize upd H3 t2 (.tup (nV (s.gr.set i g))) = H4 at s4 h4 ⊢
    refine ⟨by show 2 ≤ sizeLine; decide, fun t3 ht3 => ?_⟩
    have s5 := same_new (o := .tup [.ref t1, .ref t2]) ht3
    have sA := ((s2.trans s3).trans s4)
    refine k _ _ (sA.trans s5) (dt_tup upd_same (.cons ((Dt.tup (SqT.of (s4 _ _ h3)) (hd.ks sA)).ks s5) (.cons ((dt_iD h4).ks s5) .nil)))
theorem atL_lt {pl : List Pl} {p : Pl} {n : Nat} (h : n ∈ atL pl p) : n < pl.length := by
  obtain ⟨m, _⟩ := List.mem_filter.mp h
  exact List.mem_range.mp m
theorem atL_len (pl : List Pl) (p : Pl) : (atL pl p).length ≤ pl.length := by
  have := List.length_filter_le (fun i => decide (pl[i]? = some p)) (List.range pl.length)
  rw [List.length_range] at this
  exact this
theorem getD_at {xs : List Nat} {i : Nat} (h : i < xs.length) : xs[i]? = some (xs.getD i 0) := by rw [List.getD_eq_getElem?_getD, List.getElem?_eq_getElem h]; rfl
theorem ok_can_go_home (T : Txt K mg) : FnOk P w K mg base CX0 2 T.a_can_go_home T.d_can_go_home ["self", "places", "crew"] (sp_can_go_home K T.CC T.RC) := by
  refine T.F_can_go_home.ok sc_can_go_home (fun vs H Q E h => ?_) (fun cdv A outer s H vs Q E hr h => ?_)
  · obtain ⟨p, r, a, xs, pl, i, rfl, _⟩ := h
    rfl
  · obtain ⟨p, r, a, xs, pl, i, rfl, hR, ok, ha, hd, okp, lp, hi, k⟩ := h
    obtain ⟨dx, fs, _, q, n, cvs, hp, l1, d1, l2, hq, hcs, l3, d3, lo⟩ := id hR
    obtain ⟨t1, rfl, h1⟩ := dt_ints d1
    have l6 := ok.st6
    have lx := hd.len
    rw [List.length_map] at lx
    have hz := List.getElem?_eq_getElem hi
    generalize pl[i] = z at hz
    obtain ⟨v, hv, dv⟩ := pls_get hd hz
    have okz := okp z (List.mem_of_getElem? hz)
    obtain ⟨q3, rfl, h3⟩ := pl_two dv
    have hst := getD_at (xs := r.st) (i := i) (by omega)
    refine ⟨_, (pss_cons (ps_asg (pe_ix ix_list (pv 1) (pv 2) (fun _ _ => rfl)) (pg_tup rfl (pgs_cons (pg_name (i := 3) sc_can_go_home.nd rfl (Or.inl rfl)) (pgs_cons (pg_name (i := 4) sc_can_go_home.nd rfl (Or.inr rfl)) pgs_nil))))
      (pss_cons (ps_if (PW.pt (pw_or (pt_cmpR op_ne (pv 3) (pe_glob (v := V.str "in") rfl T.c_IN ⟨_, rfl⟩) (nomark _)) (pw_or1 (pt_cmpR op_eq (pv 4) (pe_ix ix_tup (pe_fld (pv 0) rfl) (pv 2) (fun _ _ => rfl)) (nomark _)))))
        (pss_one (ps_ret pe_bl))
        pss_nil)
      (pss_one (ps_ret (pe_callB (cr_any rfl) (by rfl) T.z_any (by decide +kernel) (pa_cons (pe_lc (own := [("other", 5)]) (g := gName 5) (tt := tYes) rfl sc_can_go_home.nd (pi_list (pe_call (ok_crews_at T) (hr.mono (by decide)) (by rfl) T.g_crews_at T.F_crews_at.kp T.b_crews_at .nil pass0 (pa_cons (pv 1) (pa_cons (pe_tup (pa_cons (pe_glob (v := V.str "in") rfl T.c_IN ⟨_, rfl⟩) (pa_cons (pv 4) pa_nil))) pa_nil)))) (blkOk_by (own := [("other", 5)]) (N := nm_can_go_home) (sc := (defScope s_can_go_home)) (by decide +kernel)) (fun _ _ _ _ _ => pg_name (i := 5) sc_can_go_home.nd rfl (Or.inl rfl)) (fun _ _ _ _ _ => pts_nil) (fun _ _ _ _ _ => (pe_cmpR op_eq (pe_ix (show IxR _ (rIxT K) from ix_tup) (show PE _ _ (tFld K (tVar 0) "stations") from by exact pe_fld (pv 0) rfl) (pv 5) (fun _ _ => rfl)) (pv 4) (nomark _)))) pa_nil)))))), ?_⟩
    refine ⟨_, rfl, _, rfl, a, _, _, _, rfl, rfl, SqL.of ha, atI_nat hv, q3, _, rfl, h3, rfl, _, _, rfl, _, _, rfl, rfl, ?_⟩
    refine ⟨_, rfl, rfl, _, rfl, ?_⟩
    rw [ne_in]
    refine ite2 (fun c2 => ?_) (fun c2 => ?_)
    · have e : homeB r.st pl i = false := by
        unfold homeB
        rw [hz]
        cases z with
        | ins s => simp [isI] at c2
        | out s => rfl
      have k := k H (Same.refl _)
      rw [e] at k
      exact k
    obtain ⟨s, rfl⟩ : ∃ s, z = .ins s := by
      cases z with
      | ins s => exact ⟨s, rfl⟩
      | out s => exact absurd rfl c2
    have okz : s ≤ 8 := okz
    refine ⟨_, rfl, _, rfl, p, T.RC, dx, fs, _, rfl, hp, T.clRC, T.nSt, l1, _, rfl, t1, _, _, _, rfl, rfl, h1, atI_nat (nV_at hst), rfl, _, rfl, ite2 (fun c3 => ?_) (fun c3 => ?_)⟩
    · have c3 : s = r.st.getD i 0 := by
        have := V.int.inj (of_decide_eq_true c3)
        omega
      have e : homeB r.st pl i = false := by
        unfold homeB
        rw [hz]
        show (decide (s ≠ r.st.getD i 0) && _) = false
        rw [decide_eq_false (fun z => z c3), Bool.false_and]
      have k := k H (Same.refl _)
      rw [e] at k
      exact k
    have c3 : s ≠ r.st.getD i 0 := fun z => c3 (decide_eq_true (by show V.int (s : Nat) = _; rw [z]))
    refine ⟨_, rfl, _, rfl, by show 2 ≤ sizeLine; decide, fun u hu => ?_⟩
    have s1 := same_new (o := .tup [.str "in", .int (s : Nat)]) hu
    refine ⟨a, .ref u, false, xs, pl, .ins s, rfl, SqL.of (s1 _ _ ha), hd.ks s1, dt_pl (p := .ins s) upd_same, okp, okz, by omega, fun H2 g s2 _ hg => ?_⟩
    have s2 := s1.trans s2
    have al := atL_len pl (.ins s)
    refine ⟨g, rfl, ⟨_, SqL.of hg⟩, fun D hD => ?_⟩
    refine Lm.lc_map (K := K) walk_list (xs := nV (atL pl (.ins s))) (fun i y _ => ∃ m, (atL pl (.ins s))[i]? = some m ∧ y = .bl (decide (r.st.getD m 0 = s))) (fun _ _ _ _ h _ => h) hD (by rw [nV_len]; omega) (fun H' s' => SqL.of (s' _ _ hg)) (fun i x H' hi hx s' Q' Z hQ => ?_) (fun H3 ys s3 hD3 hl hy => ?_)
    · obtain ⟨m, hm, rfl⟩ := nV_inv hx
      have ml := atL_lt (List.mem_of_getElem? hm)
      have hst2 := getD_at (xs := r.st) (i := m) (by omega)
      have sZ := s2.trans s'
      refine ⟨rfl, yesT ⟨_, rfl, p, T.RC, dx, fs, _, rfl, sZ _ _ hp, T.clRC, T.nSt, l1, _, rfl, t1, _, _, _, rfl, rfl, sameT sZ h1, atI_nat (nV_at hst2), _, rfl, rfl, hQ _ _ (Same.refl _) ⟨m, hm, ?_⟩⟩⟩
      exact congrArg V.bl (decide_eq_decide.mpr ⟨fun z => by have := V.int.inj z; omega, fun z => by show V.int _ = V.int (s : Nat); rw [z]⟩)
    · have ey : ys = ((atL pl (.ins s)).map fun m => decide (r.st.getD m 0 = s)).map V.bl := by
        rw [nV_len] at hl
        refine List.ext_getElem? fun j => ?_
        rw [List.getElem?_map, List.getElem?_map]
        by_cases c1 : j < ys.length
        · obtain ⟨m, em, e⟩ := hy j _ (List.getElem?_eq_getElem c1)
          rw [List.getElem?_eq_getElem c1, em, e]
          rfl
        · rw [List.getElem?_eq_none (by omega), List.getElem?_eq_none (by omega)]
          rfl
      subst ey
      refine ⟨D, _, rfl, SqL.of hD3, ?_⟩
      have e : homeB r.st pl i = ((atL pl (.ins s)).map fun m => decide (r.st.getD m 0 = s)).any id := by
        unfold homeB
        rw [hz]
        show (decide (s ≠ r.st.getD i 0) && _) = _
        rw [decide_eq_true c3, Bool.true_and, List.any_map]
        rfl
      have k := k _ (s2.trans s3)
      rw [e] at k
      exact k
theorem wd_D (w : Wd) (ds : List Nat) {H : Hp} {q : Addr} (h : H q = some (.tup [.str (wdS w), .str (numS ds)])) : Dt K H (.ref q) (evD (w, ds)) := dt_tup h (.cons (.str _) (.cons (.str _) .nil))
theorem alI_len (gr : List Nat) (m : Nat) (x : List Nat × Nat) : (alI gr m x).length ≤ 3 := by
  unfold alI
  rw [List.length_append, List.length_append]
  split <;> split <;> split <;> simp
theorem ok_rallowed (T : Txt K mg) : FnOk P w K mg base CX0 2 T.a_rallowed T.d_rallowed ["self", "standing", "most_open"] (sp_rallowed K T.CC T.RC) := by
  refine T.F_rallowed.ok sc_rallowed (fun vs H Q E h => ?_) (fun cdv A outer s H vs Q E hr h => ?_)
  · obtain ⟨p, r, v, s, m, rfl, _⟩ := h
    rfl
  · obtain ⟨p, r, v, s, m, rfl, hR, ok, dv, so, k⟩ := h
    obtain ⟨dx, fs, _, q, n, cvs, hp, l1, d1, l2, hq, hcs, l3, d3, lo⟩ := id hR
    obtain ⟨t, x, y, rfl, ht, d5, d6⟩ := dt_two dv
    obtain ⟨gr, rfl, hg⟩ := dt_ints d6
    have c6 := ok.cs6
    have lg := so.gr
    refine ⟨_, (pss_cons (ps_asg (pv 1) (pg_tup rfl (pgs_cons (pg_name (i := 3) sc_rallowed.nd rfl (Or.inl rfl)) (pgs_cons (pg_name (i := 4) sc_rallowed.nd rfl (Or.inl rfl)) pgs_nil))))
      (pss_cons (ps_set (i := 5) sc_rallowed.nd rfl (Or.inl rfl) (pe_lst pa_nil))
      (pss_cons (ps_for PassesOwn.never rfl (RZ.pi_zipA (by rfl) T.z_zip (pa_cons (pe_fld (pv 0) rfl) (pa_cons (pv 4) pa_nil))) (pg_tup rfl (pgs_cons (pg_name (i := 6) sc_rallowed.nd rfl (Or.inl rfl)) (pgs_cons (pg_name (i := 7) sc_rallowed.nd rfl (Or.inl rfl)) pgs_nil)))
        (C8.pss_cut (ps_if (PW.pt (pw_and (pt_cmpR op_eq (pv 7) pe_int (nomark _)) (pw_and1 (pt_cmpR op_lt (pe_call (ok_open_count T) (hr.mono (by decide)) (by rfl) T.g_open_count T.F_open_count.kp T.b_open_count .nil pass0 (pa_cons (pv 4) pa_nil)) (pv 2) (nomark _)))))
          (pss_one (ps_expr (pe_bm PySem.F.plainAttrs_list PySem.F.slot_list_append PySem.F.type_list_append mt_append (pv 5) (pa_cons (pe_tup (pa_cons (pe_glob (v := V.str "call") rfl T.c_CALL ⟨_, rfl⟩) (pa_cons (pv 6) pa_nil))) pa_nil))))
          pss_nil)
        (C8.pss_cut (ps_if (pt_chain op_lt op_lt pe_int (pv 7) (ClX.pe_cval (pe_glob (v := V.ref T.CC) rfl T.gCC rfl)))
          (pss_one (ps_expr (pe_bm PySem.F.plainAttrs_list PySem.F.slot_list_append PySem.F.type_list_append mt_append (pv 5) (pa_cons (pe_tup (pa_cons (pe_glob (v := V.str "more") rfl T.c_MORE ⟨_, rfl⟩) (pa_cons (pv 6) pa_nil))) pa_nil))))
          pss_nil)
        (pss_one (ps_if (pt_cmpR op_gt (pv 7) pe_int (nomark _))
          (pss_one (ps_expr (pe_bm PySem.F.plainAttrs_list PySem.F.slot_list_append PySem.F.type_list_append mt_append (pv 5) (pa_cons (pe_tup (pa_cons (pe_glob (v := V.str "back") rfl T.c_BACK ⟨_, rfl⟩) (pa_cons (pv 6) pa_nil))) pa_nil))))
          pss_nil)))))
      (pss_one (ps_ret (pe_callTy call_tuple_of (by rfl) T.z_tuple (by decide +kernel) (pa_cons (pv 5) pa_nil))))))), ?_⟩
    refine ⟨_, rfl, t, _, rfl, ht, rfl, _, _, rfl, _, _, rfl, rfl, ?_⟩
    refine ⟨by show 0 ≤ sizeLine; decide, fun L hL => ?_⟩
    have s1 := same_new (o := .lst []) hL
    have hL1 : upd H L (.lst []) L = some (.lst []) := upd_same
    generalize upd H L (.lst []) = H1 at s1 hL1 ⊢
    have hz : ((r.cs.map fun c => c.ds).zip s.gr).length = r.cs.length := by rw [List.length_zip, List.length_map, lg, Nat.min_self]
    refine ⟨_, rfl, p, T.RC, dx, fs, _, rfl, s1 _ _ hp, T.clRC, T.nNs, l3, _, rfl, n, gr, _, _, rfl, .inr ⟨(d3.k s1).sq, sameT s1 hg, ?_⟩⟩
    refine RZ.for_zipT (xs := (r.cs.map fun c => numS c.ds).map V.str) (ys := nV s.gr) (by rw [nV_len, List.length_map, List.length_map, lg]) (fun i σ A => (∃ v6 v7, σ = [some (.ref p), some (.ref t), some (.int (m : Nat)), some x, some (.ref gr), some (.ref L), v6, v7]) ∧ Same H A ∧ ∃ zs, A L = some (.lst zs) ∧ Dts K A zs ((((r.cs.map fun c => c.ds).zip s.gr).take i).flatMap (alI s.gr m) |>.map evD) ∧ zs.length ≤ 3 * i)
      ⟨⟨none, none, rfl⟩, s1, [], hL1, .nil, Nat.le_refl _⟩ (fun i σ A h => ⟨((d3.k h.2.1)).sq, sameT h.2.1 hg⟩) (fun i x1 y1 tp σ A hx hy hP htp => ?_) (fun σ A hP => ?_)
    · obtain ⟨⟨v6, v7, rfl⟩, sA, zs, hA, dz, lz⟩ := hP
      rw [List.getElem?_map] at hx
      obtain ⟨w1, ew, rfl⟩ := Option.map_eq_some_iff.mp hx
      rw [List.getElem?_map] at ew
      obtain ⟨c, ec, rfl⟩ := Option.map_eq_some_iff.mp ew
      obtain ⟨g, eg, rfl⟩ := nV_inv hy
      have i6 : i < r.cs.length := (List.getElem?_eq_some_iff.mp ec).1
      have ezz : ((r.cs.map fun c => c.ds).zip s.gr)[i]? = some (c.ds, g) := by
        rw [List.getElem?_zip_eq_some, List.getElem?_map, ec]
        exact ⟨rfl, eg⟩
      have etk : ((((r.cs.map fun c => c.ds).zip s.gr).take (i + 1)).flatMap (alI s.gr m)) = (((r.cs.map fun c => c.ds).zip s.gr).take i).flatMap (alI s.gr m) ++ alI s.gr m (c.ds, g) := by
        rw [tk_succ' ezz, List.flatMap_append, List.flatMap_singleton]
      generalize (((r.cs.map fun c => c.ds).zip s.gr).take i).flatMap (alI s.gr m) = acc at dz etk
      rw [etk]
      have sT := same_new (o := .tup [.str (numS c.ds), .int (g : Nat)]) htp
      refine ⟨tp, _, rfl, SqT.of upd_same, rfl, _, _, rfl, _, _, rfl, rfl, ?_⟩
      have sB := sA.trans sT
      have hB := sT _ _ hA
      have dB := dz.ks sT
      generalize upd A tp (.tup [.str (numS c.ds), .int (g : Nat)]) = B at sB hB dB ⊢
      have step : ∀ (w : Wd) (B : Hp) (zs : List V) (ac : List Ev), Same H B → B L = some (.lst zs) → Dts K B zs (ac.map evD) → ∀ u, B u = none → ∀ C, C = upd B u (.tup [.str (wdS w), .str (numS c.ds)]) → Same H (upd C L (.lst (zs ++ [.ref u]))) ∧ C L = some (.lst zs) ∧ upd C L (.lst (zs ++ [.ref u])) L = some (.lst (zs ++ [.ref u])) ∧ Dts K (upd C L (.lst (zs ++ [.ref u]))) (zs ++ [.ref u]) ((ac ++ [(w, c.ds)]).map evD) := fun w B zs ac sB hB dB u hu C eC => by
        subst eC
        have sU := same_new (o := .tup [.str (wdS w), .str (numS c.ds)]) hu
        have hU := sU _ _ hB
        refine ⟨same_mut (sB.trans sU) hL, hU, upd_same, ?_⟩
        rw [List.map_append]
        exact ((dB.ks sU).snoc (wd_D w c.ds upd_same)).k (Kt.lst hU)
      refine ⟨fun σ B => σ = [some (.ref p), some (.ref t), some (.int (m : Nat)), some x, some (.ref gr), some (.ref L), some (.str (numS c.ds)), some (.int (g : Nat))] ∧ Same H B ∧ ∃ zs, B L = some (.lst zs) ∧ Dts K B zs ((acc ++ if g = 0 ∧ openN s.gr < m then [(Wd.call, c.ds)] else []).map evD) ∧ zs.length ≤ 3 * i + 1, ?_, ?_⟩
      · refine ⟨_, rfl, rfl, _, rfl, ite2 (fun c1 => ?_) (fun c1 => ?_)⟩
        · have g0 : g = 0 := by have := V.int.inj (of_decide_eq_true c1); omega
          refine ⟨_, rfl, .ref gr, s.gr, rfl, .tup (sameT sB hg) (dts_nV _), by omega, fun B1 sB1 => ?_⟩
          refine ⟨_, rfl, _, _, rfl, rfl, _, rfl, ite2 (fun c2 => ?_) (fun c2 => ?_)⟩
          · have c2 : openN s.gr < m := by have := of_decide_eq_true c2; omega
            refine ⟨_, rfl, .inl ⟨rfl, _, SqL.of (sB1 _ _ hB)⟩, _, rfl, by show 2 ≤ sizeLine; decide, fun u hu => ?_⟩
            obtain ⟨a1, a2, a3, a4⟩ := step .call B1 zs acc (sB.trans sB1) (sB1 _ _ hB) (dB.ks sB1) u hu _ rfl
            refine ⟨L, zs, _, rfl, rfl, a2, small1000 (by omega), rfl, a1, _, a3, ?_, by rw [List.length_append]; show zs.length + 1 ≤ _; omega⟩
            rw [if_pos ⟨g0, c2⟩]
            exact a4
          · have c2 : ¬ openN s.gr < m := fun z => c2 (decide_eq_true (by omega))
            refine ⟨rfl, sB.trans sB1, zs, sB1 _ _ hB, ?_, by omega⟩
            rw [if_neg fun z => c2 z.2, List.append_nil]
            exact dB.ks sB1
        · have g0 : ¬ g = 0 := fun z => c1 (decide_eq_true (by rw [z]; rfl))
          refine ⟨rfl, sB, zs, hB, ?_, by omega⟩
          rw [if_neg fun z => g0 z.1, List.append_nil]
          exact dB
      · rintro σ B2 ⟨rfl, sB2, zs2, hB2, dB2, lz2⟩
        generalize ha2 : (acc ++ if g = 0 ∧ openN s.gr < m then [(Wd.call, c.ds)] else []) = acc2 at dB2
        refine ⟨fun σ B => σ = [some (.ref p), some (.ref t), some (.int (m : Nat)), some x, some (.ref gr), some (.ref L), some (.str (numS c.ds)), some (.int (g : Nat))] ∧ Same H B ∧ ∃ zs, B L = some (.lst zs) ∧ Dts K B zs ((acc2 ++ if 0 < g ∧ g < 3 then [(Wd.more, c.ds)] else []).map evD) ∧ zs.length ≤ 3 * i + 2, ?_, ?_⟩
        · have no : ¬ (0 < g ∧ g < 3) → _ := fun (cn : ¬ (0 < g ∧ g < 3)) => (⟨rfl, sB2, zs2, hB2, by rw [if_neg cn, List.append_nil]; exact dB2, by omega⟩ : ([some (.ref p), some (.ref t), some (.int (m : Nat)), some x, some (.ref gr), some (.ref L), some (.str (numS c.ds)), some (.int (g : Nat))] : St) = [some (.ref p), some (.ref t), some (.int (m : Nat)), some x, some (.ref gr), some (.ref L), some (.str (numS c.ds)), some (.int (g : Nat))] ∧ Same H B2 ∧ ∃ zs, B2 L = some (.lst zs) ∧ Dts K B2 zs ((acc2 ++ if 0 < g ∧ g < 3 then [(Wd.more, c.ds)] else []).map evD) ∧ zs.length ≤ 3 * i + 2)
          refine ⟨_, rfl, _, _, rfl, rfl, _, rfl, ite2 (fun c1 => ?_) (fun c1 => ?_)⟩
          · have c1 : 0 < g := by have := of_decide_eq_true c1; omega
            refine ⟨T.CC, T.mcC, _, _, rfl, T.rdC, T.vG, _, _, rfl, rfl, _, rfl, ite2 (fun c2 => ?_) (fun c2 => ?_)⟩
            · have c2 : g < 3 := by have := of_decide_eq_true c2; omega
              refine ⟨_, rfl, .inl ⟨rfl, _, SqL.of hB2⟩, _, rfl, by show 2 ≤ sizeLine; decide, fun u hu => ?_⟩
              obtain ⟨a1, a2, a3, a4⟩ := step .more B2 zs2 acc2 sB2 hB2 dB2 u hu _ rfl
              refine ⟨L, zs2, _, rfl, rfl, a2, small1000 (by omega), rfl, a1, _, a3, ?_, by rw [List.length_append]; show zs2.length + 1 ≤ _; omega⟩
              rw [if_pos ⟨c1, c2⟩]
              exact a4
            · exact no fun z => c2 (decide_eq_true (by have := z.2; omega))
          · exact ⟨_, rfl, iteF (no fun z => c1 (decide_eq_true (by have := z.1; omega)))⟩
        · rintro σ B3 ⟨rfl, sB3, zs3, hB3, dB3, lz3⟩
          have ea : acc ++ alI s.gr m (c.ds, g) = (acc2 ++ if 0 < g ∧ g < 3 then [(Wd.more, c.ds)] else []) ++ (if 0 < g then [(Wd.back, c.ds)] else []) := by
            rw [← ha2]
            unfold alI
            simp only [List.append_assoc]
          rw [ea]
          refine ⟨_, rfl, _, _, rfl, rfl, _, rfl, ite2 (fun c1 => ?_) (fun c1 => ?_)⟩
          · have c1 : 0 < g := by have := of_decide_eq_true c1; omega
            refine ⟨_, rfl, .inl ⟨rfl, _, SqL.of hB3⟩, _, rfl, by show 2 ≤ sizeLine; decide, fun u hu => ?_⟩
            obtain ⟨a1, a2, a3, a4⟩ := step .back B3 zs3 _ sB3 hB3 dB3 u hu _ rfl
            refine ⟨L, zs3, _, rfl, rfl, a2, small1000 (by omega), ⟨_, _, rfl⟩, a1, _, a3, ?_, by rw [List.length_append]; show zs3.length + 1 ≤ _; omega⟩
            rw [if_pos c1]
            exact a4
          · have c1 : ¬ 0 < g := fun z => c1 (decide_eq_true (by omega))
            refine ⟨⟨_, _, rfl⟩, sB3, zs3, hB3, ?_, by omega⟩
            rw [if_neg c1, List.append_nil]
            exact dB3
    · obtain ⟨⟨v6, v7, rfl⟩, sA, zs, hA, dz, lz⟩ := hP
      rw [List.length_map, List.length_map, ← hz, List.take_length] at dz
      refine ⟨_, rfl, L, _, rfl, .inl ⟨SqL.of hA, fun u hu => ?_⟩⟩
      have sU := same_new (o := .tup zs) hu
      exact k _ _ (sA.trans sU) (dt_tup upd_same (dz.ks sU))
end
end K57

namespace K57
open PySem L2 Wm TL Dv
section
variable {P : Program} {w : World} {K : PySem.W.Frag} {mg : Str → Option Value} {base : Heap}
theorem dts_set {H : Hp} {xs : List V} {pl : List Pl} {i : Nat} {v : V} {p : Pl} (h : Dts K H xs (pl.map plD)) (d : Dt K H v (plD p)) : Dts K H (xs.set i v) ((pl.set i p).map plD) := by
  have lx := h.len
  rw [List.length_map] at lx
  refine dts_of (by rw [List.length_map, List.length_set, List.length_set, lx]) fun j y e => ?_
  rw [List.getElem?_map]
  rw [List.getElem?_set] at e ⊢
  by_cases c : i = j
  · rw [if_pos c] at e ⊢
    by_cases c2 : i < xs.length
    · rw [if_pos c2] at e
      cases e
      rw [if_pos (by omega)]
      exact ⟨_, rfl, d⟩
    · rw [if_neg c2] at e
      cases e
  · rw [if_neg c] at e ⊢
    obtain ⟨q, eq, g⟩ := pls_at h e
    rw [eq]
    exact ⟨_, rfl, g⟩
theorem ok_set {pl : List Pl} {i : Nat} {p : Pl} (h : ∀ q ∈ pl, plOk q) (g : plOk p) : ∀ q ∈ pl.set i p, plOk q := fun q m => by
  rcases List.mem_or_eq_of_mem_set m with m | m
  · exact h q m
  · rw [m]; exact g
/-- a place of the list at l is written -/
theorem put_pl {H A : Hp} {l u : Addr} {xs : List V} {pl : List Pl} {i : Nat} {p : Pl} (sA : Same H A) (hl : H l = none) (hA : A l = some (.lst xs)) (d : Dts K A xs (pl.map plD)) (hu : A u = none) :
    Same H (upd (upd A u (.tup [.str (plW p), plY p])) l (.lst (xs.set i (.ref u)))) ∧ (upd A u (.tup [.str (plW p), plY p])) l = some (.lst xs) ∧ (upd (upd A u (.tup [.str (plW p), plY p])) l (.lst (xs.set i (.ref u)))) l = some (.lst (xs.set i (.ref u))) ∧
      Dts K (upd (upd A u (.tup [.str (plW p), plY p])) l (.lst (xs.set i (.ref u)))) (xs.set i (.ref u)) ((pl.set i p).map plD) ∧ (∀ q o, q ≠ l → A q = some o → (upd (upd A u (.tup [.str (plW p), plY p])) l (.lst (xs.set i (.ref u)))) q = some o) := by
  have sU := same_new (o := .tup [.str (plW p), plY p]) hu
  have hU := sU _ _ hA
  refine ⟨same_mut (sA.trans sU) hl, hU, upd_same, ?_, fun q o n e => by rw [upd_ne n]; exact sU _ _ e⟩
  exact (dts_set (d.ks sU) (dt_pl upd_same)).k (Kt.lst hU)
theorem inP_succ {st : List Nat} {pl : List Pl} {rs : List Nat} {i n : Nat} (h : rs[i]? = some n) : inP st pl (rs.take (i + 1)) = (inP st pl (rs.take i)).set n (.ins (st.getD n 0)) := by
  unfold inP
  rw [tk_succ' h, List.foldl_append]
  rfl
theorem inP_len (st : List Nat) (rs : List Nat) : ∀ pl : List Pl, (inP st pl rs).length = pl.length := by
  induction rs with
  | nil => intro pl; rfl
  | cons r rs ih => intro pl; show (inP st (pl.set r _) rs).length = _; rw [ih, List.length_set]
theorem homeF_succ (st : List Nat) (pl : List Pl) (i : Nat) : homeF st pl (i + 1) = homeS st (homeF st pl i) i := by
  unfold homeF
  rw [List.range_succ, List.foldl_append]
  rfl
theorem homeF_len (st : List Nat) (pl : List Pl) : ∀ i, (homeF st pl i).1.length = pl.length ∧ (homeF st pl i).2.length ≤ i
  | 0 => ⟨rfl, Nat.le_refl _⟩
  | i + 1 => by
    have ih := homeF_len st pl i
    rw [homeF_succ]
    unfold homeS
    split
    · exact ⟨by rw [List.length_set]; exact ih.1, by rw [List.length_append]; show _ + 1 ≤ _; omega⟩
    · exact ⟨ih.1, by omega⟩
theorem ok_close (T : Txt K mg) : FnOk P w K mg base CX0 3 T.a_close T.d_close ["self", "standing", "number"] (sp_close K T.CC T.RC) := by
  refine T.F_close.ok sc_close (fun vs H Q E h => ?_) (fun cdv A outer s H vs Q E hr h => ?_)
  · obtain ⟨p, r, i, c, v, s, rfl, _⟩ := h
    rfl
  · obtain ⟨p, r, i, c, v, s, rfl, hR, ok, hc, dv, so, k⟩ := h
    obtain ⟨dx, fs, _, q, n, cvs, hp, l1, d1, l2, hq, hcs, l3, d3, lo⟩ := id hR
    obtain ⟨t1, rfl, h1⟩ := dt_ints d1
    have dv0 := dv
    obtain ⟨t, x, y, rfl, ht, d5, d6⟩ := dt_two dv
    obtain ⟨pp, xs, rfl, hpp, dp⟩ := d5.inv
    have lp := so.pl
    have l6 := ok.st6
    have lx := dp.len
    rw [List.length_map] at lx
    have oc : plOk (.out c.ds) := (ok.ok c (List.mem_of_getElem? hc)).num
    have so3 : ∀ n, n < r.st.length → r.st.getD n 0 ≤ 8 := fun n hn => ok.st8 _ (List.mem_of_getElem? (getD_at hn))
    refine ⟨_, (pss_cons (ps_set (i := 3) sc_close.nd rfl (Or.inl rfl) (pe_callTy call_list_of (by rfl) T.z_list (by decide +kernel) (pa_cons (pe_ix ix_tup (pv 1) pe_int (fun _ _ => rfl)) pa_nil)))
      (pss_cons (ps_set (i := 4) sc_close.nd rfl (Or.inl rfl) (pe_call (ok_crews_at T) (hr.mono (by decide)) (by rfl) T.g_crews_at T.F_crews_at.kp T.b_crews_at .nil pass0 (pa_cons (pv 3) (pa_cons (pe_tup (pa_cons (pe_glob (v := V.str "out") rfl T.c_OUT ⟨_, rfl⟩) (pa_cons (pv 2) pa_nil))) pa_nil))))
      (pss_cons (ps_for PassesOwn.never rfl (pi_list (pv 4)) (pg_name (i := 5) sc_close.nd rfl (Or.inl rfl))
        (pss_one (ps_asg (pe_tup (pa_cons (pe_glob (v := V.str "in") rfl T.c_IN ⟨_, rfl⟩) (pa_cons (pe_ix ix_tup (pe_fld (pv 0) rfl) (pv 5) (fun _ _ => rfl)) pa_nil))) (pg_sub (pv 3) (pv 5) set_list))))
      (pss_cons (ps_set (i := 6) sc_close.nd rfl (Or.inl rfl) (pe_lst pa_nil))
      (pss_cons (ps_for PassesOwn.never rfl (Es.pi_ent (by rfl) T.z_enumerate (pa_cons (pe_fld (pv 0) rfl) pa_nil)) (pg_tup rfl (pgs_cons (pg_name (i := 5) sc_close.nd rfl (Or.inl rfl)) (pgs_cons (pg_name (i := 7) sc_close.nd rfl (Or.inl rfl)) pgs_nil)))
        (pss_one (ps_if (pt_val (pe_meth (pv 0) T.clRC T.m_can_go_home (ok_can_go_home T) (hr.mono (by decide)) T.b_can_go_home .nil pass0 (pa_cons (pv 3) (pa_cons (pv 5) pa_nil))))
          (pss_cons (ps_asg (pe_tup (pa_cons (pe_glob (v := V.str "in") rfl T.c_IN ⟨_, rfl⟩) (pa_cons (pv 7) pa_nil))) (pg_sub (pv 3) (pv 5) set_list))
          (pss_one (ps_expr (pe_bm PySem.F.plainAttrs_list PySem.F.slot_list_append PySem.F.type_list_append mt_append (pv 6) (pa_cons (pv 5) pa_nil)))))
          pss_nil)))
      (pss_one (ps_ret (pe_tup (pa_cons (pe_meth (pv 0) T.clRC T.m_with_grade (ok_with_grade T) (hr.mono (by decide)) T.b_with_grade .nil pass0 (pa_cons (pv 1) (pa_cons (pv 3) (pa_cons (pv 2) (pa_cons pe_int pa_nil))))) (pa_cons (pe_tup (pa_cons (pe_callTy call_tuple_of (by rfl) T.z_tuple (by decide +kernel) (pa_cons (pv 4) pa_nil)) (pa_cons (pe_callTy call_tuple_of (by rfl) T.z_tuple (by decide +kernel) (pa_cons (pv 6) pa_nil)) pa_nil))) pa_nil)))))))))), ?_⟩
    refine ⟨_, rfl, t, _, 0, _, rfl, rfl, ht, atI_nat (j := 0) rfl, pp, xs, rfl, .inr hpp, fun l hl => ?_⟩
    have s1 := same_new (o := .lst xs) hl
    have hl1 : upd H l (.lst xs) l = some (.lst xs) := upd_same
    generalize upd H l (.lst xs) = H1 at s1 hl1 ⊢
    refine ⟨_, rfl, _, rfl, by show 2 ≤ sizeLine; decide, fun u hu => ?_⟩
    have s2 := s1.trans (same_new (o := .tup [.str "out", .str (numS c.ds)]) hu)
    have hl2 := same_new (o := .tup [.str "out", .str (numS c.ds)]) hu _ _ hl1
    have hu2 : upd H1 u (.tup [.str "out", .str (numS c.ds)]) u = some (.tup [.str "out", .str (numS c.ds)]) := upd_same
    generalize upd H1 u (.tup [.str "out", .str (numS c.ds)]) = H2 at s2 hl2 hu2 ⊢
    refine ⟨l, .ref u, false, xs, s.pl, .out c.ds, rfl, SqL.of hl2, dp.ks s2, dt_pl (p := .out c.ds) hu2, so.ok, oc, by omega, fun H3 g s3 g0 hg => ?_⟩
    have hl3 := s3 _ _ hl2
    have s3 := s2.trans s3
    have nlg : l ≠ g := fun e => by subst e; rw [hl2] at g0; cases g0
    have rl := atL_len s.pl (.out c.ds)
    refine ⟨_, rfl, g, rfl, ⟨_, SqL.of hg⟩, ?_⟩
    refine for_list (xs := nV (atL s.pl (.out c.ds))) (fun i σ A => (∃ v5, σ = [some (.ref p), some (.ref t), some (.str (numS c.ds)), some (.ref l), some (.ref g), v5, none, none]) ∧ Same H A ∧ A g = some (.lst (nV (atL s.pl (.out c.ds)))) ∧ (∀ q ∈ inP r.st s.pl ((atL s.pl (.out c.ds)).take i), plOk q) ∧ ∃ zs, A l = some (.lst zs) ∧ Dts K A zs ((inP r.st s.pl ((atL s.pl (.out c.ds)).take i)).map plD))
      ⟨⟨none, rfl⟩, s3, hg, so.ok, xs, hl3, dp.ks s3⟩ (fun i σ A _ h => SqL.of h.2.2.1) (fun i w σ A hw hP => ?_) (fun σ A hP => ?_)
    · obtain ⟨⟨v5, rfl⟩, sA, hgA, okA, zs, hlA, dA⟩ := hP
      obtain ⟨m, hm, rfl⟩ := nV_inv hw
      have ml := atL_lt (List.mem_of_getElem? hm)
      have lz := dA.len
      rw [List.length_map, inP_len] at lz
      refine ⟨_, rfl, p, T.RC, dx, fs, _, rfl, sA _ _ hp, T.clRC, T.nSt, l1, _, rfl, t1, _, _, _, rfl, rfl, sameT sA h1, atI_nat (nV_at (getD_at (xs := r.st) (i := m) (by omega))), by show 2 ≤ sizeLine; decide, fun u2 hu2 => ?_⟩
      obtain ⟨a1, a2, a3, a4, a5⟩ := put_pl (i := m) (p := .ins (r.st.getD m 0)) sA hl hlA dA hu2
      refine ⟨_, rfl, _, rfl, l, _, _, m, rfl, rfl, a2, ixN_nat (by omega), ?_⟩
      rw [inP_succ hm]
      exact ⟨⟨_, rfl⟩, a1, a5 _ _ nlg.symm hgA, ok_set okA (so3 m (by omega)), _, a3, a4⟩
    · obtain ⟨⟨v5, rfl⟩, sA, hgA, okA, zs, hlA, dA⟩ := hP
      rw [nV_len, List.take_length] at okA dA
      have e1 : backP r.st c.ds s.pl = homeF r.st (inP r.st s.pl (atL s.pl (.out c.ds))) r.st.length := rfl
      have e2 : backT r.st c.ds s.pl = .back (atL s.pl (.out c.ds)) (backP r.st c.ds s.pl).2 := rfl
      rw [e2, e1] at k
      have lq := inP_len r.st (atL s.pl (.out c.ds)) s.pl
      generalize inP r.st s.pl (atL s.pl (.out c.ds)) = pl1 at okA dA k lq
      generalize atL s.pl (.out c.ds) = rs at hgA k rl
      refine ⟨by show 0 ≤ sizeLine; decide, fun D hD => ?_⟩
      have nlD : l ≠ D := fun e => by subst e; rw [hD] at hlA; cases hlA
      have ngD : g ≠ D := fun e => by subst e; rw [hD] at hgA; cases hgA
      have sD := same_new (o := .lst []) hD
      have sB := sA.trans sD
      have hgB := sD _ _ hgA
      have hlB := sD _ _ hlA
      have dB := dA.ks sD
      have hDB : upd A D (.lst []) D = some (.lst []) := upd_same
      have hDH : H D = none := by
        cases e : H D with
        | none => rfl
        | some o => rw [sA _ _ e] at hD; cases hD
      generalize upd A D (.lst []) = B at sB hgB hlB dB hDB ⊢
      refine ⟨_, rfl, p, T.RC, dx, fs, _, rfl, sB _ _ hp, T.clRC, T.nSt, l1, t1, _, rfl, sameT sB h1, ?_⟩
      refine for_it Es.walk_ent (fun i σ A => (∃ v5 v7, σ = [some (.ref p), some (.ref t), some (.str (numS c.ds)), some (.ref l), some (.ref g), v5, some (.ref D), v7]) ∧ Same H A ∧ A g = some (.lst (nV rs)) ∧ A D = some (.lst (nV (homeF r.st pl1 i).2)) ∧ (∀ q ∈ (homeF r.st pl1 i).1, plOk q) ∧ ∃ zs, A l = some (.lst zs) ∧ Dts K A zs ((homeF r.st pl1 i).1.map plD))
        ⟨⟨v5, none, rfl⟩, sB, hgB, hDB, okA, zs, hlB, dB⟩ (fun i σ A _ h => sameT h.2.1 h1) (fun i w σ A A' hi hP hY => ?_) (fun σ A hP => ?_)
      · obtain ⟨⟨v5, v7, rfl⟩, sA, hgA, hDA, okA, zs, hlA, dA⟩ := hP
        obtain ⟨tp, x1, x2, rfl, htp, rfl, y1, y2⟩ := hY
        cases y1
        obtain ⟨m, hm, rfl⟩ := nV_inv y2
        rw [nV_len] at hi
        have hl0 := homeF_len r.st pl1 i
        have lz := dA.len
        rw [List.length_map] at lz
        have sT := same_new (o := .tup [.int (i : Nat), .int (m : Nat)]) htp
        have sC := sA.trans sT
        have hgC := sT _ _ hgA
        have hDC := sT _ _ hDA
        have hlC := sT _ _ hlA
        have dC := dA.ks sT
        refine ⟨tp, _, rfl, SqT.of upd_same, rfl, _, _, rfl, _, _, rfl, rfl, ?_⟩
        generalize upd A tp (.tup [.int (i : Nat), .int (m : Nat)]) = C at sC hgC hDC hlC dC ⊢
        refine ⟨_, rfl, p, dx, fs, rfl, sC _ _ hp, lo _ (by decide +kernel) (by decide +kernel) (by decide +kernel), _, rfl, _, rfl, p, r, l, zs, (homeF r.st pl1 i).1, i, rfl, hR.k sC, ok, hlC, dC, okA, by rw [hl0.1, lq, lp], by rw [hl0.1, lq, lp]; exact hi, fun C1 sC1 => ?_⟩
        have em : r.st.getD i 0 = m := by rw [List.getD_eq_getElem?_getD, hm]; rfl
        refine ⟨_, rfl, ite2 (fun cc => ?_) (fun cc => ?_)⟩
        · refine ⟨_, rfl, by show 2 ≤ sizeLine; decide, fun u2 hu2 => ?_⟩
          obtain ⟨a1, a2, a3, a4, a5⟩ := put_pl (i := i) (p := .ins m) (sC.trans sC1) hl (sC1 _ _ hlC) (dC.ks sC1) hu2
          refine ⟨_, rfl, _, rfl, l, _, _, i, rfl, rfl, a2, ixN_nat (by rw [lz, hl0.1, lq, lp]; exact hi), ?_⟩
          have hDZ := a5 _ _ nlD.symm (sC1 _ _ hDC)
          have hgZ := a5 _ _ nlg.symm (sC1 _ _ hgC)
          refine ⟨_, rfl, .inl ⟨rfl, _, SqL.of hDZ⟩, _, rfl, D, _, _, rfl, rfl, hDZ, by rw [nV_len]; exact small1000 (by omega), ?_⟩
          rw [homeF_succ]
          unfold homeS
          rw [if_pos cc, em]
          have en : nV (homeF r.st pl1 i).2 ++ [V.int ((i : Nat) : Int)] = nV ((homeF r.st pl1 i).2 ++ [i]) := by unfold nV; rw [List.map_append]; rfl
          rw [en]
          refine ⟨⟨_, _, rfl⟩, same_mut a1 hDH, by rw [upd_ne ngD]; exact hgZ, upd_same, ok_set okA (by have := so3 i hi; rw [em] at this; exact this), _, by rw [upd_ne nlD]; exact a3, a4.k (Kt.lst hDZ)⟩
        · rw [homeF_succ]
          unfold homeS
          rw [if_neg cc]
          exact ⟨⟨_, _, rfl⟩, sC.trans sC1, sC1 _ _ hgC, sC1 _ _ hDC, okA, _, sC1 _ _ hlC, dC.ks sC1⟩
      · obtain ⟨⟨v5, v7, rfl⟩, sA, hgA, hDA, okA, zs, hlA, dA⟩ := hP
        rw [nV_len] at hDA okA dA
        have hl0 := homeF_len r.st pl1 r.st.length
        refine ⟨_, rfl, p, dx, fs, rfl, sA _ _ hp, lo _ (by decide +kernel) (by decide +kernel) (by decide +kernel), _, rfl, _, rfl, _, rfl, p, r, i, c, .ref t, s, l, zs, (homeF r.st pl1 r.st.length).1, 0, rfl, hR.k sA, ok, hc, dv0.ks sA, so, hlA, dA, by rw [hl0.1, lq, lp]; omega, fun A1 w sA1 dw => ?_⟩
        refine ⟨_, rfl, g, _, rfl, .inl ⟨SqL.of (sA1 _ _ hgA), fun u1 hu1 => ?_⟩⟩
        have sU1 := same_new (o := .tup (nV rs)) hu1
        refine ⟨_, rfl, D, _, rfl, .inl ⟨SqL.of (sU1 _ _ (sA1 _ _ hDA)), fun u2 hu2 => ?_⟩⟩
        have sU2 := same_new (o := .tup (nV (homeF r.st pl1 r.st.length).2)) hu2
        have hu22 : upd (upd A1 u1 (.tup (nV rs))) u2 (.tup (nV (homeF r.st pl1 r.st.length).2)) u2 = some (.tup (nV (homeF r.st pl1 r.st.length).2)) := upd_same
        have hu12 := sU2 u1 (.tup (nV rs)) upd_same
        have sU := sU1.trans sU2
        generalize upd (upd A1 u1 (.tup (nV rs))) u2 (.tup (nV (homeF r.st pl1 r.st.length).2)) = A3 at hu22 hu12 sU ⊢
        refine ⟨by show 2 ≤ sizeLine; decide, fun u3 hu3 => ?_⟩
        have sU3 := same_new (o := .tup [.ref u1, .ref u2]) hu3
        have hu33 : upd A3 u3 (.tup [.ref u1, .ref u2]) u3 = some (.tup [.ref u1, .ref u2]) := upd_same
        have d12 : Dt K (upd A3 u3 (.tup [.ref u1, .ref u2])) (.ref u3) (tdD (.back rs (homeF r.st pl1 r.st.length).2)) := dt_tup hu33 (.cons ((dt_iD hu12).ks sU3) (.cons ((dt_iD hu22).ks sU3) .nil))
        have sZ := sU.trans sU3
        generalize upd A3 u3 (.tup [.ref u1, .ref u2]) = A4 at d12 sZ ⊢
        refine ⟨by show 2 ≤ sizeLine; decide, fun u4 hu4 => ?_⟩
        have sU4 := same_new (o := .tup [w, .ref u3]) hu4
        exact k _ _ (((sA.trans sA1).trans sZ).trans sU4) ⟨u4, w, .ref u3, rfl, upd_same, (dw.ks sZ).ks sU4, .inr ⟨fun e => (by cases e), d12.ks sU4⟩⟩
end
end K57

namespace K57
open PySem L2 Wm TL Dv
section
variable {P : Program} {w : World} {K : PySem.W.Frag} {mg : Str → Option Value} {base : Heap}
theorem outP_succ {ds : List Nat} {pl : List Pl} {rs : List Nat} {i n : Nat} (h : rs[i]? = some n) : outP ds pl (rs.take (i + 1)) = (outP ds pl (rs.take i)).set n (.out ds) := by
  unfold outP
  rw [tk_succ' h, List.foldl_append]
  rfl
theorem outP_len (ds : List Nat) (rs : List Nat) : ∀ pl : List Pl, (outP ds pl rs).length = pl.length := by
  induction rs with
  | nil => intro pl; rfl
  | cons r rs ih => intro pl; show (outP ds (pl.set r _) rs).length = _; rw [ih, List.length_set]
theorem mvF_succ {pl : List Pl} {ms : List (Nat × Nat)} {i : Nat} {m : Nat × Nat} (h : ms[i]? = some m) : mvF pl (ms.take (i + 1)) = mvS (mvF pl (ms.take i)) m := by
  unfold mvF
  rw [tk_succ' h, List.foldl_append]
  rfl
theorem mvF_len (ms : List (Nat × Nat)) : ∀ (x : List Pl × List (Nat × Nat)), (ms.foldl mvS x).1.length = x.1.length ∧ (ms.foldl mvS x).2.length ≤ x.2.length + ms.length := by
  induction ms with
  | nil => intro x; exact ⟨rfl, Nat.le_refl _⟩
  | cons m ms ih =>
    intro x
    have h := ih (mvS x m)
    have h2 : (mvS x m).1.length = x.1.length ∧ (mvS x m).2.length ≤ x.2.length + 1 := by
      unfold mvS
      split
      · exact ⟨by rw [List.length_set], by rw [List.length_append]; exact Nat.le_refl _⟩
      · exact ⟨rfl, Nat.le_add_right _ _⟩
    rw [List.foldl_cons, List.length_cons]
    exact ⟨h.1.trans h2.1, by omega⟩
abbrev mD (x : Nat × Nat) : PyData := .tuple [.int (x.1 : Nat), .int (x.2 : Nat)]
theorem cardTake {cs : List Nat} (hc : ∀ x ∈ cs, x ≤ 6) (i : Nat) : cs.getD i 0 ≤ 6 := by
  rw [List.getD_eq_getElem?_getD]
  cases e : cs[i]? with
  | none => exact Nat.zero_le _
  | some x => exact hc x (List.mem_of_getElem? e)
theorem ok_lift (T : Txt K mg) : FnOk P w K mg base CX0 3 T.a_lift T.d_lift ["self", "standing", "number", "grade"] (sp_lift K T.CC T.RC) := by
  refine T.F_lift.ok sc_lift (fun vs H Q E h => ?_) (fun cdv A outer s H vs Q E hr h => ?_)
  · obtain ⟨p, r, i, c, v, s, g, rfl, _⟩ := h
    rfl
  · obtain ⟨p, r, i, c, v, s, g, rfl, hR, ok, hc, dv, so, g1, g3, k⟩ := h
    obtain ⟨dx, fs, _, q, n, cvs, hp, l1, d1, l2, hq, hcs, l3, d3, lo⟩ := id hR
    have cok := ok.ok c (List.mem_of_getElem? hc)
    have dv0 := dv
    obtain ⟨t, x, y, rfl, ht, d5, d6⟩ := dt_two dv
    obtain ⟨pp, xs, rfl, hpp, dp⟩ := d5.inv
    have lp := so.pl
    have l6 := ok.st6
    have lx := dp.len
    rw [List.length_map] at lx
    have oc : plOk (.out c.ds) := cok.num
    refine ⟨_, (pss_cons (ps_set (i := 4) sc_lift.nd rfl (Or.inl rfl) (pe_meth (pv 0) T.clRC T.m_card_of (ok_card_of T) (hr.mono (by decide)) T.b_card_of .nil pass0 (pa_cons (pv 2) pa_nil)))
      (pss_cons (ps_set (i := 5) sc_lift.nd rfl (Or.inr rfl) (pe_callTy call_list_of (by rfl) T.z_list (by decide +kernel) (pa_cons (pe_ix ix_tup (pv 1) pe_int (fun _ _ => rfl)) pa_nil)))
      (pss_cons (ps_setLc (i := 6) (own := [("crew", 7)]) (g := gName 7) rfl sc_lift.nd rfl rfl (sw_true rfl rfl rfl (by decide +kernel)) (pi_tup (pe_fld (pv 4) rfl)) (blkOk_by (own := [("crew", 7)]) (N := nm_lift) (sc := (defScope s_lift)) (by decide +kernel)) (fun _ _ _ _ _ => pg_name (i := 7) sc_lift.nd rfl (Or.inl rfl)) (fun _ _ _ _ _ => (pts_one (pt_cmpR op_eq (pe_ix (show IxR _ (rIxT K) from ix_tup) (pe_ix (show IxR _ (rIxL K) from ix_list) (pv 5) (pv 7) (fun _ _ => rfl)) pe_int (fun _ _ => rfl)) (pe_glob (v := V.str "in") rfl T.c_IN ⟨_, rfl⟩) (nomark _)))) (fun _ _ _ _ _ => (pv 7)))
      (pss_cons (ps_set (i := 8) sc_lift.nd rfl (Or.inl rfl) (pe_slice sl_list (pv 6) po_none (po_some (pe_ix ix_tup (pe_fld (pv 4) rfl) (pe_op op_sub (pv 3) pe_int) (fun _ _ => rfl)))))
      (pss_cons (ps_for PassesOwn.never rfl (pi_list (pv 8)) (pg_name (i := 7) sc_lift.nd rfl (Or.inl rfl))
        (pss_one (ps_asg (pe_tup (pa_cons (pe_glob (v := V.str "out") rfl T.c_OUT ⟨_, rfl⟩) (pa_cons (pv 2) pa_nil))) (pg_sub (pv 5) (pv 7) set_list))))
      (pss_cons (ps_set (i := 9) sc_lift.nd rfl (Or.inl rfl) (pe_lst pa_nil))
      (pss_cons (ps_for PassesOwn.never rfl (pi_tup (pe_fld (pv 4) rfl)) (pg_tup rfl (pgs_cons (pg_name (i := 7) sc_lift.nd rfl (Or.inl rfl)) (pgs_cons (pg_name (i := 10) sc_lift.nd rfl (Or.inl rfl)) pgs_nil)))
        (pss_one (ps_if (pt_val (pe_call (ok_can_move T) (hr.mono (by decide)) (by rfl) T.g_can_move T.F_can_move.kp T.b_can_move .nil pass0 (pa_cons (pv 5) (pa_cons (pv 7) (pa_cons (pv 10) pa_nil)))))
          (pss_cons (ps_asg (pe_tup (pa_cons (pe_glob (v := V.str "in") rfl T.c_IN ⟨_, rfl⟩) (pa_cons (pv 10) pa_nil))) (pg_sub (pv 5) (pv 7) set_list))
          (pss_one (ps_expr (pe_bm PySem.F.plainAttrs_list PySem.F.slot_list_append PySem.F.type_list_append mt_append (pv 9) (pa_cons (pe_tup (pa_cons (pv 7) (pa_cons (pv 10) pa_nil))) pa_nil)))))
          pss_nil)))
      (pss_cons (ps_set (i := 11) sc_lift.nd rfl (Or.inl rfl) (pe_callB (call_max2 rfl) (by rfl) T.z_max (by decide +kernel) (pa_cons pe_int (pa_cons (pe_op op_sub (pe_ix ix_tup (pe_fld (pv 4) rfl) (pe_op op_sub (pv 3) pe_int) (fun _ _ => rfl)) (pe_callB call_len_seq (by rfl) T.z_len PySem.boot_len (pa_cons (pe_call (ok_crews_at T) (hr.mono (by decide)) (by rfl) T.g_crews_at T.F_crews_at.kp T.b_crews_at .nil pass0 (pa_cons (pv 5) (pa_cons (pe_tup (pa_cons (pe_glob (v := V.str "out") rfl T.c_OUT ⟨_, rfl⟩) (pa_cons (pv 2) pa_nil))) pa_nil))) pa_nil))) pa_nil))))
      (pss_cons (ps_set (i := 12) sc_lift.nd rfl (Or.inl rfl) (pe_tup (pa_cons (pv 3) (pa_cons (pe_callTy call_tuple_of (by rfl) T.z_tuple (by decide +kernel) (pa_cons (pv 8) pa_nil)) (pa_cons (pe_callTy call_tuple_of (by rfl) T.z_tuple (by decide +kernel) (pa_cons (pv 9) pa_nil)) (pa_cons (pv 11) pa_nil))))))
      (pss_one (ps_ret (pe_tup (pa_cons (pe_meth (pv 0) T.clRC T.m_with_grade (ok_with_grade T) (hr.mono (by decide)) T.b_with_grade .nil pass0 (pa_cons (pv 1) (pa_cons (pv 5) (pa_cons (pv 2) (pa_cons (pv 3) pa_nil))))) (pa_cons (pv 12) pa_nil)))))))))))))), ?_⟩
    refine ⟨_, rfl, p, dx, fs, rfl, hp, lo _ (by decide +kernel) (by decide +kernel) (by decide +kernel), _, rfl, p, r, i, c, rfl, hR, ok, hc, fun cv hcv => ?_⟩
    obtain ⟨cp, dxc, fsc, o1, o2, o3, o4, rfl, hcp, i1, i2, e2, i3, e3, i4, e4, i5, e5, i6⟩ := hcv
    obtain ⟨q1, rfl, h1⟩ := dt_ints e2
    obtain ⟨q2, rfl, h2⟩ := dt_ints e3
    obtain ⟨q3, rfl, h3⟩ := dt_ints e4
    obtain ⟨q4, ms, rfl, h4, hm⟩ := e5.inv
    refine ⟨_, rfl, t, _, 0, _, rfl, rfl, ht, atI_nat (j := 0) rfl, pp, xs, rfl, .inr hpp, fun l hl => ?_⟩
    have s1 := same_new (o := .lst xs) hl
    have hl1 : upd H l (.lst xs) l = some (.lst xs) := upd_same
    generalize upd H l (.lst xs) = H1 at s1 hl1 ⊢
    refine ⟨_, rfl, cp, T.CC, dxc, fsc, _, rfl, s1 _ _ hcp, T.clCC, T.nOr, i2, q1, rfl, ⟨_, sameT s1 h1⟩, fun D hD => ?_⟩
    have nlD : l ≠ D := fun e => by subst e; rw [hD] at hl1; cases hl1
    have oln : c.order.length ≤ 6 := by
      have := Lns.nodup_le (l := c.order.map fun (n : Nat) => (n : Int)) (m := (List.range 6).map fun (n : Nat) => (n : Int)) (cok.nd.map _ fun a b h e => h (Int.ofNat_inj.mp e)) (fun k hk => by
        obtain ⟨n, hn, rfl⟩ := List.mem_map.mp hk
        exact List.mem_map.mpr ⟨n, List.mem_range.mpr (by have := cok.ord n hn; omega), rfl⟩)
      simpa using this
    refine lc_it walk_tup (fun j B => Same H1 B ∧ B D = some (.lst (nV ((c.order.take j).filter (isIn s.pl))))) ⟨same_new hD, upd_same⟩ (fun j B _ h => sameT (s1.trans h.1) h1) (fun j w B B' hj hP hY => ?_) (fun B hP => ?_)
    · obtain ⟨sB, hB⟩ := hP
      obtain ⟨rfl, hw⟩ := hY
      obtain ⟨m, em, rfl⟩ := nV_inv hw
      have ml := cok.ord m (List.mem_of_getElem? em)
      have hz := List.getElem?_eq_getElem (l := s.pl) (i := m) (by omega)
      generalize s.pl[m]'(by omega) = z at hz
      obtain ⟨zv, hzv, dz⟩ := pls_get dp hz
      obtain ⟨z3, rfl, hz3⟩ := pl_two (dz.ks (s1.trans sB))
      have fl : ((c.order.take j).filter (isIn s.pl)).length ≤ 6 := Nat.le_trans (List.length_filter_le _ _) (by rw [List.length_take]; omega)
      refine ⟨rfl, _, rfl, _, rfl, l, _, _, _, rfl, rfl, SqL.of (sB _ _ hl1), atI_nat hzv, z3, _, 0, _, rfl, rfl, hz3, atI_nat (j := 0) rfl, rfl, _, rfl, ?_⟩
      rw [eq_in]
      refine ite2 (fun c1 => ?_) (fun c1 => ?_)
      · refine ⟨_, rfl, _, hB, by rw [nV_len]; exact small1000 (by omega), same_mut sB hD, ?_⟩
        rw [upd_same, tk_succ' em, List.filter_append, List.filter_cons, if_pos (by rw [isIn_at hz]; exact c1)]
        unfold nV
        rw [List.map_append]
        rfl
      · refine ⟨sB, ?_⟩
        rw [tk_succ' em, List.filter_append, List.filter_cons, if_neg (by rw [isIn_at hz]; exact c1), List.filter_nil, List.append_nil]
        exact hB
    obtain ⟨sB, hB⟩ := hP
    rw [nV_len, List.take_length] at hB
    have hlB := sB _ _ hl1
    have sB := s1.trans sB
    have eg : (((g : Nat) : Int) - 1) = ((g - 1 : Nat) : Int) := by omega
    have hcg := getD_at (xs := c.counts) (i := g - 1) (by rw [cok.c3]; omega)
    refine ⟨_, rfl, _, rfl, cp, T.CC, dxc, fsc, _, rfl, sB _ _ hcp, T.clCC, T.nCo, i3, _, rfl, _, _, rfl, rfl, q2, _, _, _, rfl, rfl, sameT sB h2, by rw [eg]; exact atI_nat (nV_at hcg), _, rfl, D, _, rfl, SqL.of hB, fun W hW => ?_⟩
    have ew : cutV (nV (c.order.filter (isIn s.pl))) none (some ((c.counts.getD (g - 1) 0 : Nat) : Int)) = nV (wentF c s.pl g) := by
      rw [cut_tk]
      unfold nV wentF goL
      rw [List.map_take]
    rw [ew]
    have ewl : ∀ m ∈ wentF c s.pl g, m < r.st.length := fun m mm => cok.ord m ((List.mem_filter.mp (List.mem_of_mem_take mm)).1)
    have ewn : (wentF c s.pl g).length ≤ 6 := by
      unfold wentF goL
      have := List.length_filter_le (isIn s.pl) c.order
      rw [List.length_take]
      omega
    have sW := same_new (o := .lst (nV (wentF c s.pl g))) hW
    have hWW : upd B W (.lst (nV (wentF c s.pl g))) W = some (.lst (nV (wentF c s.pl g))) := upd_same
    have nlW : l ≠ W := fun e => by subst e; rw [hW] at hlB; cases hlB
    have hlW := sW _ _ hlB
    have sH2 := sB.trans sW
    generalize upd B W (.lst (nV (wentF c s.pl g))) = H2 at sH2 hWW hlW ⊢
    have eT : liftT c s.pl g = .sent g (wentF c s.pl g) (liftP c s.pl g).2 (c.owed.getD (g - 1) 0 - (atL (liftP c s.pl g).1 (.out c.ds)).length) := rfl
    have eP : liftP c s.pl g = mvF (outP c.ds s.pl (wentF c s.pl g)) c.moves := rfl
    rw [eT, eP] at k
    generalize wentF c s.pl g = wl at ewl ewn hWW k
    refine ⟨_, rfl, W, rfl, ⟨_, SqL.of hWW⟩, ?_⟩
    refine for_list (xs := nV wl) (fun i σ A => (∃ v7, σ = [some (.ref p), some (.ref t), some (.str (numS c.ds)), some (.int (g : Nat)), some (.ref cp), some (.ref l), some (.ref D), v7, some (.ref W), none, none, none, none]) ∧ Same H A ∧ A W = some (.lst (nV wl)) ∧ (∀ q ∈ outP c.ds s.pl (wl.take i), plOk q) ∧ ∃ zs, A l = some (.lst zs) ∧ Dts K A zs ((outP c.ds s.pl (wl.take i)).map plD))
      ⟨⟨none, rfl⟩, sH2, hWW, so.ok, xs, hlW, dp.ks sH2⟩ (fun i σ A _ h => SqL.of h.2.2.1) (fun i w σ A hw hP => ?_) (fun σ A hP => ?_)
    · obtain ⟨⟨v7, rfl⟩, sA, hWA, okA, zs, hlA, dA⟩ := hP
      obtain ⟨m, em, rfl⟩ := nV_inv hw
      have ml := ewl m (List.mem_of_getElem? em)
      have lz := dA.len
      rw [List.length_map, outP_len] at lz
      refine ⟨_, rfl, by show 2 ≤ sizeLine; decide, fun u2 hu2 => ?_⟩
      obtain ⟨a1, a2, a3, a4, a5⟩ := put_pl (i := m) (p := .out c.ds) sA hl hlA dA hu2
      refine ⟨_, rfl, _, rfl, l, _, _, m, rfl, rfl, a2, ixN_nat (by omega), ?_⟩
      rw [outP_succ em]
      exact ⟨⟨_, rfl⟩, a1, a5 _ _ nlW.symm hWA, ok_set okA oc, _, a3, a4⟩
    obtain ⟨⟨v7, rfl⟩, sA, hWA, okA, zs, hlA, dA⟩ := hP
    rw [nV_len, List.take_length] at okA dA
    have lq := outP_len c.ds wl s.pl
    generalize outP c.ds s.pl wl = pl1 at okA dA k lq
    refine ⟨by show 0 ≤ sizeLine; decide, fun M hM => ?_⟩
    have nlM : l ≠ M := fun e => by subst e; rw [hM] at hlA; cases hlA
    have nWM : W ≠ M := fun e => by subst e; rw [hM] at hWA; cases hWA
    have sM := same_new (o := .lst []) hM
    have hWB := sM _ _ hWA
    have hlB2 := sM _ _ hlA
    have dB := dA.ks sM
    have hMB : upd A M (.lst []) M = some (.lst []) := upd_same
    have hMH : H M = none := by
      cases e : H M with
      | none => rfl
      | some o => rw [sA _ _ e] at hM; cases hM
    have sA2 := sA.trans sM
    generalize upd A M (.lst []) = B2 at sA2 hWB hlB2 dB hMB ⊢
    have m6 := cok.m6
    have lm := hm.len
    rw [List.length_map] at lm
    refine ⟨_, rfl, cp, T.CC, dxc, fsc, _, rfl, sA2 _ _ hcp, T.clCC, T.nMo, i5, q4, rfl, ⟨_, sameT sA2 h4⟩, ?_⟩
    refine for_tup (xs := ms) (fun i σ A => (∃ v7 v10, σ = [some (.ref p), some (.ref t), some (.str (numS c.ds)), some (.int (g : Nat)), some (.ref cp), some (.ref l), some (.ref D), v7, some (.ref W), some (.ref M), v10, none, none]) ∧ Same H A ∧ A W = some (.lst (nV wl)) ∧ (∀ q ∈ (mvF pl1 (c.moves.take i)).1, plOk q) ∧ (∃ zs, A l = some (.lst zs) ∧ Dts K A zs ((mvF pl1 (c.moves.take i)).1.map plD)) ∧ ∃ us, A M = some (.lst us) ∧ Dts K A us ((mvF pl1 (c.moves.take i)).2.map mD))
      ⟨⟨v7, none, rfl⟩, sA2, hWB, okA, ⟨zs, hlB2, dB⟩, [], hMB, .nil⟩ (fun i σ A _ h => sameT h.2.1 h4) (fun j w σ A hw hP => ?_) (fun σ A hP => ?_)
    · obtain ⟨⟨v7, v10, rfl⟩, sA, hWA, okA, ⟨zs, hlA, dA⟩, us, hMA, dM⟩ := hP
      obtain ⟨d, ed, hx2⟩ := hm.at hw
      rw [List.getElem?_map] at ed
      obtain ⟨m, em, rfl⟩ := Option.map_eq_some_iff.mp ed
      obtain ⟨p2, a, b, rfl, hp2, ha, hb⟩ := dt_two hx2
      obtain rfl := ha.int_inv
      obtain rfl := hb.int_inv
      have mv := cok.mv m (List.mem_of_getElem? em)
      have m8 : m.2 ≤ 8 := ok.st8 _ mv.2
      have jl : j < c.moves.length := (List.getElem?_eq_some_iff.mp em).1
      have hl0 := mvF_len (c.moves.take j) (pl1, [])
      have lz := dA.len
      have lu := dM.len
      rw [List.length_map] at lz lu
      have hl1 : (mvF pl1 (c.moves.take j)).1.length = pl1.length := hl0.1
      have hl2 : (mvF pl1 (c.moves.take j)).2.length ≤ 0 + (c.moves.take j).length := hl0.2
      rw [List.length_take] at hl2
      refine ⟨p2, _, rfl, sameT sA hp2, rfl, _, _, rfl, _, _, rfl, rfl, ?_⟩
      refine ⟨_, rfl, _, rfl, _, rfl, l, zs, (mvF pl1 (c.moves.take j)).1, m.1, m.2, rfl, hlA, dA, okA, by rw [hl1, lq, lp]; exact l6, by rw [hl1, lq, lp]; exact mv.1, m8, fun C1 sC1 => ?_⟩
      refine ⟨_, rfl, ite2 (fun cc => ?_) (fun cc => ?_)⟩
      · refine ⟨_, rfl, by show 2 ≤ sizeLine; decide, fun u2 hu2 => ?_⟩
        obtain ⟨a1, a2, a3, a4, a5⟩ := put_pl (i := m.1) (p := .ins m.2) (sA.trans sC1) hl (sC1 _ _ hlA) (dA.ks sC1) hu2
        refine ⟨_, rfl, _, rfl, l, _, _, m.1, rfl, rfl, a2, ixN_nat (by rw [lz, hl1, lq, lp]; exact mv.1), ?_⟩
        have hMZ := a5 _ _ nlM.symm (sC1 _ _ hMA)
        have hWZ := a5 _ _ nlW.symm (sC1 _ _ hWA)
        have dMZ : Dts K (upd (upd C1 u2 (.tup [.str (plW (.ins m.2)), plY (.ins m.2)])) l (.lst (zs.set m.1 (.ref u2)))) us ((mvF pl1 (c.moves.take j)).2.map mD) := ((dM.ks sC1).k (Kt.new hu2)).k (Kt.lst a2)
        obtain ⟨Z, hZ⟩ : ∃ Z, Z = upd (upd C1 u2 (.tup [.str "in", .int (m.2 : Nat)])) l (.lst (zs.set m.1 (.ref u2))) := ⟨_, rfl⟩
        have a1 : Same H Z := by rw [hZ]; exact a1
        have a3 : Z l = some (.lst (zs.set m.1 (.ref u2))) := by rw [hZ]; exact a3
        have a4 : Dts K Z (zs.set m.1 (.ref u2)) (((mvF pl1 (c.moves.take j)).1.set m.1 (.ins m.2)).map plD) := by rw [hZ]; exact a4
        have hMZ : Z M = some (.lst us) := by rw [hZ]; exact hMZ
        have hWZ : Z W = some (.lst (nV wl)) := by rw [hZ]; exact hWZ
        have dMZ : Dts K Z us ((mvF pl1 (c.moves.take j)).2.map mD) := by rw [hZ]; exact dMZ
        rw [← hZ]
        refine ⟨_, rfl, .inl ⟨rfl, _, SqL.of hMZ⟩, _, rfl, _, rfl, by show 2 ≤ sizeLine; decide, fun u3 hu3 => ?_⟩
        have sU := same_new (o := .tup [.int (m.1 : Nat), .int (m.2 : Nat)]) hu3
        have hMU := sU _ _ hMZ
        refine ⟨M, us, _, rfl, rfl, hMU, small1000 (by omega), ?_⟩
        rw [mvF_succ em]
        unfold mvS
        rw [if_pos cc]
        have dnew : Dts K (upd Z u3 (.tup [.int (m.1 : Nat), .int (m.2 : Nat)])) (us ++ [.ref u3]) (((mvF pl1 (c.moves.take j)).2 ++ [m]).map mD) := by
          rw [List.map_append]
          exact (dMZ.ks sU).snoc (dt_tup upd_same (.cons (.int _) (.cons (.int _) .nil)))
        refine ⟨⟨_, _, rfl⟩, same_mut (a1.trans sU) hMH, by rw [upd_ne nWM]; exact sU _ _ hWZ, ok_set okA m8, ⟨_, by rw [upd_ne nlM]; exact sU _ _ a3, (a4.ks sU).k (Kt.lst hMU)⟩, _, upd_same, dnew.k (Kt.lst hMU)⟩
      · rw [mvF_succ em]
        unfold mvS
        rw [if_neg cc]
        exact ⟨⟨_, _, rfl⟩, sA.trans sC1, sC1 _ _ hWA, okA, ⟨_, sC1 _ _ hlA, dA.ks sC1⟩, _, sC1 _ _ hMA, dM.ks sC1⟩
    obtain ⟨⟨v7, v10, rfl⟩, sA, hWA, okA, ⟨zs, hlA, dA⟩, us, hMA, dM⟩ := hP
    have hl0 := mvF_len c.moves (pl1, [])
    rw [lm, List.take_length] at okA dA dM
    have hl1 : (mvF pl1 c.moves).1.length = pl1.length := hl0.1
    have hl2 : (mvF pl1 c.moves).2.length ≤ 0 + c.moves.length := hl0.2
    generalize (mvF pl1 c.moves).1 = pl2 at okA dA k hl1
    generalize (mvF pl1 c.moves).2 = mv2 at dM k hl2
    have hog := getD_at (xs := c.owed) (i := g - 1) (by rw [cok.o3]; omega)
    refine ⟨_, rfl, cp, T.CC, dxc, fsc, _, rfl, sA _ _ hcp, T.clCC, T.nOw, i4, _, rfl, _, _, rfl, rfl, q3, _, _, _, rfl, rfl, sameT sA h3, by rw [eg]; exact atI_nat (nV_at hog), ?_⟩
    refine ⟨_, rfl, _, rfl, by show 2 ≤ sizeLine; decide, fun u hu => ?_⟩
    have sU := same_new (o := .tup [.str "out", .str (numS c.ds)]) hu
    have hu2 : upd A u (.tup [.str "out", .str (numS c.ds)]) u = some (.tup [.str "out", .str (numS c.ds)]) := upd_same
    have hWU := sU _ _ hWA
    have hlU := sU _ _ hlA
    have hMU := sU _ _ hMA
    have dU := dA.ks sU
    have dMU := dM.ks sU
    have sHU := sA.trans sU
    generalize upd A u (.tup [.str "out", .str (numS c.ds)]) = A1 at hu2 hWU hlU hMU dU dMU sHU ⊢
    refine ⟨l, .ref u, false, zs, pl2, .out c.ds, rfl, SqL.of hlU, dU, dt_pl (p := .out c.ds) hu2, okA, oc, by rw [hl1, lq, lp]; exact l6, fun A2 g2 s2 _ hg2 => ?_⟩
    refine ⟨g2, _, rfl, .inl (SqL.of hg2), _, _, rfl, rfl, _, _, rfl, ?_⟩
    rw [nV_len]
    have esh : (if (((c.owed.getD (g - 1) 0 : Nat) : Int) - ((atL pl2 (.out c.ds)).length : Nat)) > 0 then (((c.owed.getD (g - 1) 0 : Nat) : Int) - ((atL pl2 (.out c.ds)).length : Nat)) else 0) = ((c.owed.getD (g - 1) 0 - (atL pl2 (.out c.ds)).length : Nat) : Int) := by
      split <;> omega
    rw [esh]
    generalize c.owed.getD (g - 1) 0 - (atL pl2 (.out c.ds)).length = sh at k
    have sA2 := sHU.trans s2
    refine ⟨_, rfl, _, rfl, W, _, rfl, .inl ⟨SqL.of (s2 _ _ hWU), fun u3 hu3 => ?_⟩⟩
    have s3 := same_new (o := .tup (nV wl)) hu3
    have h33 : upd A2 u3 (.tup (nV wl)) u3 = some (.tup (nV wl)) := upd_same
    generalize upd A2 u3 (.tup (nV wl)) = A3 at s3 h33 ⊢
    refine ⟨_, rfl, M, us, rfl, .inl ⟨SqL.of (s3 _ _ (s2 _ _ hMU)), fun u4 hu4 => ?_⟩⟩
    have s4 := same_new (o := .tup us) hu4
    have h44 : upd A3 u4 (.tup us) u4 = some (.tup us) := upd_same
    generalize upd A3 u4 (.tup us) = A4 at s4 h44 ⊢
    refine ⟨_, rfl, by show 4 ≤ sizeLine; decide, fun u5 hu5 => ?_⟩
    have s5 := same_new (o := .tup [.int (g : Nat), .ref u3, .ref u4, .int (sh : Nat)]) hu5
    have h55 : upd A4 u5 (.tup [.int (g : Nat), .ref u3, .ref u4, .int (sh : Nat)]) u5 = some (.tup [.int (g : Nat), .ref u3, .ref u4, .int (sh : Nat)]) := upd_same
    generalize upd A4 u5 (.tup [.int (g : Nat), .ref u3, .ref u4, .int (sh : Nat)]) = A5 at s5 h55 ⊢
    have s25 := (s3.trans s4).trans s5
    have dT : Dt K A5 (.ref u5) (tdD (.sent g wl mv2 sh)) := dt_tup h55 (.cons (.int _) (.cons (dt_iD ((s4.trans s5) _ _ h33)) (.cons (.tup (SqT.of (s5 _ _ h44)) ((dMU.ks s2).ks s25)) (.cons (.int _) .nil))))
    have sA5 := sA2.trans s25
    have hl5 := s25 _ _ (s2 _ _ hlU)
    have d5 := (dU.ks s2).ks s25
    refine ⟨_, rfl, p, dx, fs, rfl, sA5 _ _ hp, lo _ (by decide +kernel) (by decide +kernel) (by decide +kernel), _, rfl, _, rfl, _, rfl, _, rfl, p, r, i, c, .ref t, s, l, zs, pl2, g, rfl, hR.k sA5, ok, hc, dv0.ks sA5, so, hl5, d5, by rw [hl1, lq, lp]; exact l6, fun A6 w s6 dw => ?_⟩
    refine ⟨_, rfl, by show 2 ≤ sizeLine; decide, fun u7 hu7 => ?_⟩
    have s7 := same_new (o := .tup [w, .ref u5]) hu7
    exact k _ _ ((sA5.trans s6).trans s7) ⟨u7, w, .ref u5, rfl, upd_same, dw.ks s7, .inr ⟨fun e => (by cases e), (dT.ks s6).ks s7⟩⟩
end
end K57

namespace K57
open PySem L2 Wm TL Dv
section
variable {P : Program} {w : World} {K : PySem.W.Frag} {mg : Str → Option Value} {base : Heap}
theorem wd_back (w : Wd) : decide (V.str (wdS w) = V.str "back") = decide (w = .back) := by cases w <;> decide +kernel
theorem wd_call (w : Wd) : decide (V.str (wdS w) = V.str "call") = decide (w = .call) := by cases w <;> decide +kernel
theorem ok_rstep (T : Txt K mg) : FnOk P w K mg base CX0 4 T.a_rstep T.d_rstep ["self", "standing", "event"] (sp_rstep K T.CC T.RC) := by
  refine T.F_rstep.ok sc_rstep (fun vs H Q E h => ?_) (fun cdv A outer s H vs Q E hr h => ?_)
  · obtain ⟨p, r, i, c, v, s, w, e, rfl, _⟩ := h
    rfl
  · obtain ⟨p, r, i, c, v, s, w, e, rfl, hR, ok, hc, dv, so, de, hm, k⟩ := h
    obtain ⟨dx, fs, _, q, n, cvs, hp, l1, d1, l2, hq, hcs, l3, d3, lo⟩ := id hR
    obtain ⟨t, x, y, rfl, ht, d5, d6⟩ := dt_two de
    obtain rfl := d5.str_inv
    obtain rfl := d6.str_inv
    have g3 : s.gr.getD i 0 ≤ 3 := by
      have hi : i < s.gr.length := by rw [so.gr]; exact (List.getElem?_eq_some_iff.mp hc).1
      exact so.g3 _ (List.mem_of_getElem? (getD_at hi))
    refine ⟨_, (pss_cons (ps_asg (pv 2) (pg_tup rfl (pgs_cons (pg_name (i := 3) sc_rstep.nd rfl (Or.inl rfl)) (pgs_cons (pg_name (i := 4) sc_rstep.nd rfl (Or.inl rfl)) pgs_nil))))
      (pss_cons (ps_if (pt_cmpR op_eq (pv 3) (pe_glob (v := V.str "back") rfl T.c_BACK ⟨_, rfl⟩) (nomark _))
        (pss_one (ps_ret (pe_meth (pv 0) T.clRC T.m_close (ok_close T) (hr.mono (by decide)) T.b_close .nil pass0 (pa_cons (pv 1) (pa_cons (pv 4) pa_nil)))))
        pss_nil)
      (pss_cons (ps_set (i := 5) sc_rstep.nd rfl (Or.inl rfl) (pe_meth (pv 0) T.clRC T.m_grade_in (ok_grade_in T) (hr.mono (by decide)) T.b_grade_in .nil pass0 (pa_cons (pv 1) (pa_cons (pv 4) pa_nil))))
      (pss_cons (ps_if (PW.pt (pw_and (pt_cmpR op_eq (pv 3) (pe_glob (v := V.str "call") rfl T.c_CALL ⟨_, rfl⟩) (nomark _)) (pw_and1 (pt_cmpR op_gt (pv 5) pe_int (nomark _)))))
        (pss_one (ps_ret (pe_tup (pa_cons (pv 1) (pa_cons pe_non pa_nil)))))
        pss_nil)
      (pss_one (ps_ret (pe_meth (pv 0) T.clRC T.m_lift (ok_lift T) (hr.mono (by decide)) T.b_lift .nil pass0 (pa_cons (pv 1) (pa_cons (pv 4) (pa_cons (pe_op op_add (pv 5) pe_int) pa_nil)))))))))), ?_⟩
    refine ⟨_, rfl, t, _, rfl, ht, rfl, _, _, rfl, _, _, rfl, rfl, ?_⟩
    refine ⟨_, rfl, rfl, _, rfl, ?_⟩
    rw [wd_back]
    refine ite2 (fun c1 => ?_) (fun c1 => ?_)
    · have c1 : w = .back := of_decide_eq_true c1
      subst c1
      refine ⟨_, rfl, p, dx, fs, rfl, hp, lo _ (by decide +kernel) (by decide +kernel) (by decide +kernel), _, rfl, _, rfl, p, r, i, c, v, s, rfl, hR, ok, hc, dv, so, fun H' u s' hs => ?_⟩
      refine k H' u s' ?_
      have e1 : stepS r s .back i = ⟨(backP r.st c.ds s.pl).1, s.gr.set i 0⟩ := by unfold stepS; rw [hc]
      have e2 : stepT r s .back i = backT r.st c.ds s.pl := by unfold stepT; rw [hc]
      rw [e1, e2]
      exact hs
    have c1 : w ≠ .back := fun z => c1 (decide_eq_true z)
    refine ⟨_, rfl, p, dx, fs, rfl, hp, lo _ (by decide +kernel) (by decide +kernel) (by decide +kernel), _, rfl, _, rfl, p, r, i, c, v, s, rfl, hR, ok, hc, dv, so, fun H1 s1 => ?_⟩
    have hp1 := s1 _ _ hp
    have go : w = .more ∨ (w = .call ∧ ¬ 0 < s.gr.getD i 0) → s.gr.getD i 0 + 1 ≤ 3 ∧ ∀ H' u, Same H H' → StAt K H' u ⟨(liftP c s.pl (s.gr.getD i 0 + 1)).1, s.gr.set i (s.gr.getD i 0 + 1)⟩ (liftT c s.pl (s.gr.getD i 0 + 1)) → Q u H' := fun z => by
      rcases z with rfl | ⟨rfl, z⟩
      · refine ⟨hm rfl, fun H' u s' hs => k H' u s' ?_⟩
        have e1 : stepS r s .more i = ⟨(liftP c s.pl (s.gr.getD i 0 + 1)).1, s.gr.set i (s.gr.getD i 0 + 1)⟩ := by unfold stepS; rw [hc]
        have e2 : stepT r s .more i = liftT c s.pl (s.gr.getD i 0 + 1) := by unfold stepT; rw [hc]
        rw [e1, e2]
        exact hs
      · have z0 : s.gr.getD i 0 = 0 := by omega
        refine ⟨by omega, fun H' u s' hs => k H' u s' ?_⟩
        have e1 : stepS r s .call i = ⟨(liftP c s.pl 1).1, s.gr.set i 1⟩ := by unfold stepS; rw [hc]; exact if_neg z
        have e2 : stepT r s .call i = liftT c s.pl 1 := by unfold stepT; rw [hc]; exact if_neg z
        rw [e1, e2]
        rw [z0] at hs
        exact hs
    refine ⟨_, rfl, rfl, _, rfl, ?_⟩
    rw [wd_call]
    refine ite2 (fun c2 => ?_) (fun c2 => ?_)
    · have c2 : w = .call := of_decide_eq_true c2
      subst c2
      refine ⟨_, rfl, _, _, rfl, rfl, _, rfl, ite2 (fun c3 => ?_) (fun c3 => ?_)⟩
      · have c3 : 0 < s.gr.getD i 0 := by have := of_decide_eq_true c3; omega
        refine ⟨_, rfl, by show 2 ≤ sizeLine; decide, fun u hu => ?_⟩
        have s2 := same_new (o := .tup [v, .non]) hu
        have e1 : stepS r s .call i = s := by unfold stepS; rw [hc]; exact if_pos c3
        have e2 : stepT r s .call i = .non := by unfold stepT; rw [hc]; exact if_pos c3
        rw [e1, e2] at k
        exact k _ _ (s1.trans s2) ⟨u, v, .non, rfl, upd_same, (dv.ks s1).ks s2, .inl ⟨rfl, rfl⟩⟩
      · have c3 : ¬ 0 < s.gr.getD i 0 := fun z => c3 (decide_eq_true (by omega))
        have G := go (.inr ⟨rfl, c3⟩)
        refine ⟨_, rfl, p, dx, fs, rfl, hp1, lo _ (by decide +kernel) (by decide +kernel) (by decide +kernel), _, rfl, _, rfl, _, rfl, _, _, rfl, rfl, p, r, i, c, v, s, s.gr.getD i 0 + 1, (by show [V.ref p, v, V.str (numS c.ds), V.int (((s.gr.getD i 0 : Nat) : Int) + 1)] = _; rw [Int.natCast_add]; rfl), hR.k s1, ok, hc, dv.ks s1, so, by omega, G.1, fun H' u s' hs => G.2 H' u (s1.trans s') hs⟩
    · have c2 : w = .more := by cases w <;> first | rfl | exact absurd rfl c1 | exact absurd (decide_eq_true rfl) c2
      have G := go (.inl c2)
      refine iteF ?_
      refine ⟨_, rfl, p, dx, fs, rfl, hp1, lo _ (by decide +kernel) (by decide +kernel) (by decide +kernel), _, rfl, _, rfl, _, rfl, _, _, rfl, rfl, p, r, i, c, v, s, s.gr.getD i 0 + 1, (by show [V.ref p, v, V.str (numS c.ds), V.int (((s.gr.getD i 0 : Nat) : Int) + 1)] = _; rw [Int.natCast_add]; rfl), hR.k s1, ok, hc, dv.ks s1, so, by omega, G.1, fun H' u s' hs => G.2 H' u (s1.trans s') hs⟩
end
end K57

namespace K57
open PySem L2 Wm TL Dv
section
variable {P : Program} {w : World} {K : PySem.W.Frag} {mg : Str → Option Value} {base : Heap}
/-! ### the mathematics of all orders -/
def ixOf (r : Rm) (ds : List Nat) : Option Nat := (List.range r.cs.length).find? fun i => decide ((r.cs[i]?).map (·.ds) = some ds)
def stepE (r : Rm) (s : Sd) (e : Ev) : Sd := match ixOf r e.2 with
  | some i => stepS r s e.1 i
  | none => s
def tellE (r : Rm) (s : Sd) (e : Ev) : Td := match ixOf r e.2 with
  | some i => stepT r s e.1 i
  | none => .non
def shN : Td → Nat
  | .sent _ _ _ n => n
  | _ => 0
def shortE (r : Rm) (s : Sd) (e : Ev) : Bool := decide (0 < shN (tellE r s e))
theorem ds_inj {r : Rm} (ok : RmOk r) {i j : Nat} {c d : Cd} (hi : r.cs[i]? = some c) (hj : r.cs[j]? = some d) (e : c.ds = d.ds) : i = j := by
  have h1 : (r.cs.map fun c => c.ds)[i]? = some c.ds := by rw [List.getElem?_map, hi]; rfl
  have h2 : (r.cs.map fun c => c.ds)[j]? = some c.ds := by rw [List.getElem?_map, hj, e]; rfl
  have li := (List.getElem?_eq_some_iff.mp h1).1
  exact (List.getElem?_inj li ok.nd).mp (h1.trans h2.symm)
theorem ixOf_eq {r : Rm} (ok : RmOk r) {i : Nat} {c : Cd} (hi : r.cs[i]? = some c) : ixOf r c.ds = some i := by
  have li := (List.getElem?_eq_some_iff.mp hi).1
  unfold ixOf
  cases h : (List.range r.cs.length).find? fun i => decide ((r.cs[i]?).map (·.ds) = some c.ds) with
  | none =>
    have := List.find?_eq_none.mp h i (List.mem_range.mpr li)
    exact absurd (decide_eq_true (by rw [hi]; rfl)) this
  | some j =>
    have h1 := List.find?_some h
    have h1 := of_decide_eq_true h1
    have hj := List.mem_range.mp (List.mem_of_find?_eq_some h)
    have ej := List.getElem?_eq_getElem hj
    rw [ej] at h1
    have h1 : r.cs[j].ds = c.ds := Option.some.inj h1
    rw [ds_inj ok ej hi h1]
/-- what an allowed event is -/
structure AlE (r : Rm) (s : Sd) (m : Nat) (e : Ev) (i : Nat) (c : Cd) : Prop where
  hc : r.cs[i]? = some c
  ds : e.2 = c.ds
  ix : ixOf r e.2 = some i
  cl : e.1 = .call → s.gr.getD i 0 = 0 ∧ openN s.gr < m
  mo : e.1 = .more → 0 < s.gr.getD i 0 ∧ s.gr.getD i 0 < 3
  bk : e.1 = .back → 0 < s.gr.getD i 0
theorem al_mem {r : Rm} {s : Sd} {m : Nat} {e : Ev} (ok : RmOk r) (so : SdOk r s) (h : e ∈ alF r s.gr m) : ∃ i c, AlE r s m e i c := by
  unfold alF at h
  obtain ⟨x, hx, he⟩ := List.mem_flatMap.mp h
  obtain ⟨i, hi⟩ := List.mem_iff_getElem?.mp hx
  rw [List.getElem?_zip_eq_some] at hi
  obtain ⟨h1, h2⟩ := hi
  rw [List.getElem?_map] at h1
  obtain ⟨c, hc, e1⟩ := Option.map_eq_some_iff.mp h1
  have g : s.gr.getD i 0 = x.2 := by rw [List.getD_eq_getElem?_getD, h2]; rfl
  unfold alI at he
  rcases List.mem_append.mp he with he | he
  · split at he
    · rename_i q
      rw [List.mem_singleton.mp he]
      exact ⟨i, c, hc, e1.symm, by rw [← e1]; exact ixOf_eq ok hc, fun _ => ⟨g.trans q.1, q.2⟩, (fun z => by cases z), (fun z => by cases z)⟩
    · cases he
  · rcases List.mem_append.mp he with he | he
    · split at he
      · rename_i q
        rw [List.mem_singleton.mp he]
        exact ⟨i, c, hc, e1.symm, by rw [← e1]; exact ixOf_eq ok hc, (fun z => by cases z), fun _ => by rw [g]; exact q, (fun z => by cases z)⟩
      · cases he
    · split at he
      · rename_i q
        rw [List.mem_singleton.mp he]
        exact ⟨i, c, hc, e1.symm, by rw [← e1]; exact ixOf_eq ok hc, (fun z => by cases z), (fun z => by cases z), fun _ => by rw [g]; exact q⟩
      · cases he
theorem AlE.step {r : Rm} {s : Sd} {m : Nat} {e : Ev} {i : Nat} {c : Cd} (a : AlE r s m e i c) : stepE r s e = stepS r s e.1 i ∧ tellE r s e = stepT r s e.1 i := by
  unfold stepE tellE
  rw [a.ix]
  exact ⟨rfl, rfl⟩
theorem AlE.less {r : Rm} {s : Sd} {m : Nat} {e : Ev} {i : Nat} {c : Cd} (a : AlE r s m e i c) : e.1 = .more → s.gr.getD i 0 < 3 := fun z => (a.mo z).2
/-- never empty -/
theorem al_ne {r : Rm} {s : Sd} {m : Nat} (so : SdOk r s) (h : r.cs ≠ []) (m1 : 1 ≤ m) : alF r s.gr m ≠ [] := by
  intro e
  unfold alF at e
  have hl : ((r.cs.map fun c => c.ds).zip s.gr).length = r.cs.length := by rw [List.length_zip, List.length_map, so.gr]; omega
  have all : ∀ x ∈ (r.cs.map fun c => c.ds).zip s.gr, alI s.gr m x = [] := fun x hx => by
    have := List.flatMap_eq_nil_iff.mp e x hx
    exact this
  have z0 : ∀ x ∈ (r.cs.map fun c => c.ds).zip s.gr, x.2 = 0 := fun x hx => by
    have q := all x hx
    unfold alI at q
    have q := (List.append_eq_nil_iff.mp q).2
    have q := (List.append_eq_nil_iff.mp q).2
    split at q
    · cases q
    · omega
  have gz : ∀ g ∈ s.gr, g = 0 := fun g hg => by
    obtain ⟨i, hi⟩ := List.mem_iff_getElem?.mp hg
    have li := (List.getElem?_eq_some_iff.mp hi).1
    have hi2 : (r.cs.map fun c => c.ds)[i]? = some ((r.cs.map fun c => c.ds)[i]'(by rw [List.length_map, ← so.gr]; exact li)) := List.getElem?_eq_getElem _
    exact z0 (_, g) (List.mem_of_getElem? (List.getElem?_zip_eq_some.mpr ⟨hi2, hi⟩))
  have o0 : openN s.gr = 0 := by
    unfold openN
    rw [List.length_eq_zero_iff, List.filter_eq_nil_iff]
    intro g hg
    rw [gz g hg]
    decide
  have pos : 0 < r.cs.length := List.length_pos_iff.mpr h
  cases hz : (r.cs.map fun c => c.ds).zip s.gr with
  | nil => rw [hz] at hl; simp at hl; omega
  | cons x xs =>
    have q := all x (by rw [hz]; exact List.mem_cons_self)
    have x0 := z0 x (by rw [hz]; exact List.mem_cons_self)
    unfold alI at q
    rw [if_pos ⟨x0, by omega⟩] at q
    cases q
/-- a row of allowed events in which nothing is short leads there -/
def okRow (r : Rm) (m : Nat) : Sd → List Ev → Option Sd
  | s, [] => some s
  | s, e :: es => if e ∈ alF r s.gr m ∧ shortE r s e = false then okRow r m (stepE r s e) es else none
theorem okRow_app {r : Rm} {m : Nat} : ∀ {es fs : List Ev} {s t : Sd}, okRow r m s es = some t → okRow r m s (es ++ fs) = okRow r m t fs
  | [], _, _, _, h => by cases h; rfl
  | e :: es, fs, s, t, h => by
    unfold okRow at h
    rw [List.cons_append]
    show (if e ∈ alF r s.gr m ∧ shortE r s e = false then okRow r m (stepE r s e) (es ++ fs) else none) = _
    split at h
    · rename_i c
      rw [if_pos c]
      exact okRow_app h
    · cases h
/-! #### the first fault of a row -/
def earD (i : Nat) : PyData := .tuple [.str "early", .int (i : Nat)]
def evtD (i : Nat) : PyData := .tuple [.str "event", .int (i : Nat)]
def nsD : PyData := .tuple [.str "not short"]
def findE (r : Rm) (s : Sd) (m : Nat) (d : PyData) : Option Ev := (alF r s.gr m).find? fun e => PyData.eqv (evD e) d
def fauD (r : Rm) (m : Nat) : Nat → Sd → Bool → List PyData → PyData
  | _, _, sh, [] => if sh = true then .none else nsD
  | i, s, _, d :: ds => match findE r s m d with
    | none => evtD i
    | some e => if shortE r s e = true ∧ ds ≠ [] then earD i else fauD r m (i + 1) (stepE r s e) (shortE r s e) ds
theorem eqv_sl {x : Str} {d : PyData} (h : PyData.eqv (.str x) d = true) : d = .str x := by
  cases d <;> simp [PyData.eqv] at h
  rw [h]
theorem eqv_evD {e : Ev} {d : PyData} (h : PyData.eqv (evD e) d = true) : d = evD e := by
  unfold evD at h ⊢
  cases d with
  | tuple ds =>
    cases ds with
    | nil => exact absurd (show false = true from h) (by decide)
    | cons a ds =>
      cases ds with
      | nil =>
        have h : (PyData.eqv (.str (wdS e.1)) a && false) = true := h
        rw [Bool.and_false] at h
        cases h
      | cons b ds =>
        cases ds with
        | nil =>
          have h : (PyData.eqv (.str (wdS e.1)) a && (PyData.eqv (.str (numS e.2)) b && true)) = true := h
          rw [Bool.and_true, Bool.and_eq_true] at h
          rw [eqv_sl h.1, eqv_sl h.2]
        | cons _ _ =>
          have h : (PyData.eqv (.str (wdS e.1)) a && (PyData.eqv (.str (numS e.2)) b && false)) = true := h
          rw [Bool.and_false, Bool.and_false] at h
          cases h
  | _ => exact absurd (show false = true from h) (by decide)
theorem find_sp {r : Rm} {s : Sd} {m : Nat} {d : PyData} {e : Ev} (h : findE r s m d = some e) : e ∈ alF r s.gr m ∧ d = evD e := by
  have q := List.find?_some h
  exact ⟨List.mem_of_find?_eq_some h, eqv_evD q⟩
theorem find_any {r : Rm} {s : Sd} {m : Nat} {d : PyData} : (((alF r s.gr m).map evD).any fun z => PyData.eqv z d) = (findE r s m d).isSome := by
  unfold findE
  rw [List.any_map]
  induction alF r s.gr m with
  | nil => rfl
  | cons x xs ih =>
    rw [List.any_cons, List.find?_cons, ih]
    show (PyData.eqv (evD x) d || _) = _
    cases PyData.eqv (evD x) d <;> rfl
theorem wdS_inj {a b : Wd} (h : wdS a = wdS b) : a = b := by
  cases a <;> cases b <;> first | rfl | (exfalso; revert h; decide +kernel)
theorem evD_inj {e f : Ev} (h : evD e = evD f) : e = f := by
  unfold evD at h
  simp only [PyData.tuple.injEq, List.cons.injEq, PyData.str.injEq, and_true] at h
  exact Prod.ext (wdS_inj h.1) (numS_inj h.2)
theorem find_al {r : Rm} {s : Sd} {m : Nat} {e : Ev} (h : e ∈ alF r s.gr m) : findE r s m (evD e) = some e := by
  have a : PyData.eqv (evD e) (evD e) = true := by unfold evD; simp [PyData.eqv, PyData.eqvAll]
  cases q : findE r s m (evD e) with
  | none =>
    have := List.find?_eq_none.mp q e h
    exact absurd a this
  | some f => rw [evD_inj (find_sp q).2]
/-- a row that leads somewhere, and what comes behind it -/
theorem fau_row {r : Rm} {m : Nat} : ∀ {es : List Ev} {s t : Sd} {i : Nat} {b : Bool} {ds : List PyData}, okRow r m s es = some t → fauD r m i s b (es.map evD ++ ds) = fauD r m (i + es.length) t (if es = [] then b else false) ds
  | [], _, _, _, _, _, h => by cases h; rfl
  | e :: es, s, t, i, b, ds, h => by
    unfold okRow at h
    split at h
    · rename_i c
      rw [List.map_cons, List.cons_append]
      show (match findE r s m (evD e) with | none => evtD i | some e => if shortE r s e = true ∧ (es.map evD ++ ds) ≠ [] then earD i else fauD r m (i + 1) (stepE r s e) (shortE r s e) (es.map evD ++ ds)) = _
      rw [find_al c.1]
      show (if shortE r s e = true ∧ (es.map evD ++ ds) ≠ [] then earD i else fauD r m (i + 1) (stepE r s e) (shortE r s e) (es.map evD ++ ds)) = _
      rw [c.2, if_neg (fun z => by cases z.1), fau_row h, List.length_cons, if_neg (List.cons_ne_nil _ _), ite_self]
      congr 1
      omega
    · cases h
theorem fau_take {r : Rm} {m : Nat} {es : List Ev} {s t : Sd} (h : okRow r m s es = some t) : fauD r m 0 s false (es.map evD) = nsD := by
  have := fau_row (i := 0) (b := false) (ds := []) h
  rw [List.append_nil] at this
  rw [this]
  show (if (if es = [] then false else false) = true then PyData.none else nsD) = nsD
  split <;> simp
theorem fau_told {r : Rm} {m : Nat} {es : List Ev} {s t : Sd} {e : Ev} (h : okRow r m s es = some t) (a : e ∈ alF r t.gr m) (sh : shortE r t e = true) : fauD r m 0 s false ((es ++ [e]).map evD) = .none := by
  rw [List.map_append, fau_row h]
  show (match findE r t m (evD e) with | none => evtD _ | some e => if shortE r t e = true ∧ ([] : List PyData) ≠ [] then earD _ else fauD r m _ (stepE r t e) (shortE r t e) []) = _
  rw [find_al a]
  show (if shortE r t e = true ∧ ([] : List PyData) ≠ [] then earD _ else fauD r m _ (stepE r t e) (shortE r t e) []) = _
  rw [if_neg (fun z => z.2 rfl), sh]
  rfl
theorem okRow_take {r : Rm} {m : Nat} : ∀ {es : List Ev} {s t : Sd} (k : Nat), okRow r m s es = some t → ∃ u, okRow r m s (es.take k) = some u
  | [], s, _, k, _ => ⟨s, by rw [List.take_nil]; rfl⟩
  | e :: es, s, t, 0, _ => ⟨s, rfl⟩
  | e :: es, s, t, k + 1, h => by
    unfold okRow at h
    split at h
    · rename_i c
      obtain ⟨u, hu⟩ := okRow_take k h
      refine ⟨u, ?_⟩
      show (if e ∈ alF r s.gr m ∧ shortE r s e = false then okRow r m (stepE r s e) (es.take k) else none) = _
      rw [if_pos c]
      exact hu
    · cases h
end
end K57

namespace K57
open PySem L2 Wm TL Dv
section
variable {P : Program} {w : World} {K : PySem.W.Frag} {mg : Str → Option Value} {base : Heap}
/-! ### how many standings there are -/
def vecs (b : Nat) : Nat → List (List Nat)
  | 0 => [[]]
  | n + 1 => (List.range b).flatMap fun x => (vecs b n).map (x :: ·)
theorem mem_vecs {b : Nat} : ∀ {l : List Nat}, (∀ x ∈ l, x < b) → l ∈ vecs b l.length
  | [], _ => List.mem_singleton.mpr rfl
  | x :: l, h => List.mem_flatMap.mpr ⟨x, List.mem_range.mpr (h x List.mem_cons_self), List.mem_map.mpr ⟨l, mem_vecs fun y m => h y (List.mem_cons_of_mem _ m), rfl⟩⟩
def prodL {α : Type} : List (List α) → List (List α)
  | [] => [[]]
  | os :: rest => os.flatMap fun x => (prodL rest).map (x :: ·)
def mulL : List Nat → Nat
  | [] => 1
  | n :: ns => n * mulL ns
theorem len_flat {α β : Type} (f : α → List β) (n : Nat) : ∀ l : List α, (∀ x ∈ l, (f x).length = n) → (l.flatMap f).length = l.length * n
  | [], _ => by simp
  | x :: l, h => by
    rw [List.flatMap_cons, List.length_append, h x List.mem_cons_self, len_flat f n l fun y m => h y (List.mem_cons_of_mem _ m), List.length_cons, Nat.add_mul, Nat.one_mul, Nat.add_comm]
theorem prodL_len {α : Type} : ∀ os : List (List α), (prodL os).length = mulL (os.map (·.length))
  | [] => rfl
  | o :: os => by
    show (o.flatMap fun x => (prodL os).map (x :: ·)).length = o.length * mulL (os.map (·.length))
    rw [len_flat _ (prodL os).length o fun x _ => List.length_map _, prodL_len os]
theorem mem_prodL {α : Type} : ∀ {os : List (List α)} {l : List α}, All2 (fun x o => x ∈ o) l os → l ∈ prodL os
  | [], _, .nil => List.mem_singleton.mpr rfl
  | _ :: _, _, .cons h t => List.mem_flatMap.mpr ⟨_, h, List.mem_map.mpr ⟨_, mem_prodL t, rfl⟩⟩
def opts (r : Rm) (gr : List Nat) (i : Nat) : List Pl := .ins (r.st.getD i 0) :: ((((r.cs.flatMap fun c => c.moves).filter fun x => decide (x.1 = i)).map fun x => Pl.ins x.2) ++ (((r.cs.map fun c => c.ds).zip gr).filter fun x => decide (0 < x.2)).map fun x => Pl.out x.1)
/-- how often a crew is named by moves -/
def mvN (r : Rm) (i : Nat) : Nat := ((r.cs.flatMap fun c => c.moves).filter fun x => decide (x.1 = i)).length
theorem zip_open : ∀ (ds : List (List Nat)) (gr : List Nat), ds.length = gr.length → ((ds.zip gr).filter fun x => decide (0 < x.2)).length = openN gr
  | [], [], _ => rfl
  | [], _ :: _, h => by cases h
  | _ :: _, [], h => by cases h
  | d :: ds, g :: gr, h => by
    have ih := zip_open ds gr (by simpa using h)
    unfold openN at ih ⊢
    rw [List.zip_cons_cons, List.filter_cons, List.filter_cons]
    by_cases c : 0 < g
    · rw [if_pos (decide_eq_true c), if_pos (decide_eq_true c), List.length_cons, List.length_cons, ih]
    · rw [if_neg (by simpa using c), if_neg (by simpa using c), ih]
theorem opts_len {r : Rm} {gr : List Nat} (h : gr.length = r.cs.length) (i : Nat) : (opts r gr i).length = mvN r i + openN gr + 1 := by
  unfold opts mvN
  rw [List.length_cons, List.length_append, List.length_map, List.length_map, zip_open _ _ (by rw [List.length_map, h])]
theorem cnt_sum {l : List (Nat × Nat)} : ∀ n, ((List.range n).map fun i => (l.filter fun x => decide (x.1 = i)).length).sum ≤ l.length := fun n => by
  have h : ∀ n, ((List.range n).map fun i => (l.filter fun x => decide (x.1 = i)).length).sum = (l.filter fun x => decide (x.1 < n)).length := fun n => by
    induction n with
    | zero =>
      symm
      rw [List.range_zero, List.map_nil, List.sum_nil, List.length_eq_zero_iff, List.filter_eq_nil_iff]
      intro a _
      simp
    | succ n ih =>
      rw [List.range_succ, List.map_append, List.sum_append, ih]
      show _ + ((l.filter fun x => decide (x.1 = n)).length + 0) = _
      rw [Nat.add_zero]
      clear ih
      induction l with
      | nil => rfl
      | cons x l ih =>
        simp only [List.filter_cons, decide_eq_true_eq]
        by_cases a : x.1 < n
        · rw [if_pos a, if_neg (by omega), if_pos (by omega), List.length_cons, List.length_cons]; omega
        · by_cases b : x.1 = n
          · rw [if_neg a, if_pos b, if_pos (by omega), List.length_cons, List.length_cons]; omega
          · rw [if_neg a, if_neg b, if_neg (by omega)]; omega
  rw [h n]
  exact List.length_filter_le _ _
def bnd (n k : Nat) : Nat := if n ≤ 3 then (if k = 0 then 4 else if k = 1 then 18 else 48) else (if k = 0 then 4 else if k = 1 then 36 else 144)
theorem bnd_ok : ∀ n ∈ List.range 5, ∀ ms ∈ vecs 3 n, ms.sum ≤ 2 → ∀ k ∈ List.range 3, mulL (ms.map fun m => m + k + 1) ≤ bnd n k := by decide +kernel
theorem tot_ok : (∀ n ∈ List.range 3, (((vecs 4 n).filter fun g => decide (openN g ≤ 2)).map fun g => bnd 4 (openN g)).sum ≤ 3000) ∧ (∀ n ∈ List.range 4, (((vecs 4 n).filter fun g => decide (openN g ≤ 2)).map fun g => bnd 3 (openN g)).sum ≤ 3000) := by decide +kernel
/-- the rooms that are drawn -/
structure Small (r : Rm) : Prop where
  sz : (r.cs.length ≤ 2 ∧ r.st.length ≤ 4) ∨ (r.cs.length ≤ 3 ∧ r.st.length ≤ 3)
  mv : (r.cs.flatMap fun c => c.moves).length ≤ 2
  ne : r.cs ≠ []
/-- each crew is home, moved, or out to an open number -/
structure InR (r : Rm) (m : Nat) (s : Sd) : Prop where
  ok : SdOk r s
  op : openN s.gr ≤ m
  pl : ∀ i p, s.pl[i]? = some p → p ∈ opts r s.gr i
def univ (r : Rm) : List (List Pl × List Nat) := ((vecs 4 r.cs.length).filter fun g => decide (openN g ≤ 2)).flatMap fun g => (prodL ((List.range r.st.length).map (opts r g))).map fun p => (p, g)
theorem vecs_len {b : Nat} : ∀ {n : Nat} {l : List Nat}, l ∈ vecs b n → l.length = n
  | 0, l, h => by rw [List.mem_singleton.mp h]; rfl
  | n + 1, l, h => by
    obtain ⟨x, _, h⟩ := List.mem_flatMap.mp h
    obtain ⟨y, hy, rfl⟩ := List.mem_map.mp h
    rw [List.length_cons, vecs_len hy]
theorem len_flat_le {α β : Type} (f : α → List β) (g : α → Nat) : ∀ l : List α, (∀ x ∈ l, (f x).length ≤ g x) → (l.flatMap f).length ≤ (l.map g).sum
  | [], _ => Nat.le_refl _
  | x :: l, h => by
    rw [List.flatMap_cons, List.length_append, List.map_cons, List.sum_cons]
    exact Nat.add_le_add (h x List.mem_cons_self) (len_flat_le f g l fun y m => h y (List.mem_cons_of_mem _ m))
theorem univ_len {r : Rm} (sm : Small r) : (univ r).length ≤ 3000 := by
  have key : ∀ n0, r.st.length ≤ n0 → n0 ≤ 4 → (n0 = 3 ∨ n0 = 4) → (univ r).length ≤ (((vecs 4 r.cs.length).filter fun g => decide (openN g ≤ 2)).map fun g => bnd n0 (openN g)).sum := fun n0 h0 h4 h34 => by
    refine len_flat_le _ _ _ fun g hg => ?_
    obtain ⟨hg, ho⟩ := List.mem_filter.mp hg
    have ho := of_decide_eq_true ho
    rw [List.length_map, prodL_len, List.map_map]
    have e : ((List.range r.st.length).map ((fun x => x.length) ∘ opts r g)) = ((List.range r.st.length).map (mvN r)).map fun m => m + openN g + 1 := by
      rw [List.map_map]
      exact List.map_congr_left fun i _ => opts_len (vecs_len hg) i
    rw [e]
    have hs : ((List.range r.st.length).map (mvN r)).sum ≤ 2 := Nat.le_trans (cnt_sum _) sm.mv
    have hl : ∀ x ∈ (List.range r.st.length).map (mvN r), x < 3 := fun x hx => by
      have : x ≤ ((List.range r.st.length).map (mvN r)).sum := by
        generalize (List.range r.st.length).map (mvN r) = l at hx
        induction l with
        | nil => cases hx
        | cons y l ih =>
          rw [List.sum_cons]
          rcases List.mem_cons.mp hx with rfl | hx
          · omega
          · have := ih hx
            omega
      omega
    have := mem_vecs hl
    rw [List.length_map, List.length_range] at this
    have b1 := bnd_ok r.st.length (List.mem_range.mpr (by omega)) _ this hs (openN g) (List.mem_range.mpr (by omega))
    refine Nat.le_trans b1 ?_
    unfold bnd
    rcases h34 with rfl | rfl
    · rw [if_pos h0, if_pos (Nat.le_refl 3)]; exact Nat.le_refl _
    · rw [if_neg (by decide : ¬ (4 : Nat) ≤ 3)]
      split <;> split <;> (try split) <;> omega
  rcases sm.sz with ⟨a, b⟩ | ⟨a, b⟩
  · exact Nat.le_trans (key 4 b (by decide) (.inr rfl)) (tot_ok.1 _ (List.mem_range.mpr (by omega)))
  · exact Nat.le_trans (key 3 b (by decide) (.inl rfl)) (tot_ok.2 _ (List.mem_range.mpr (by omega)))
theorem all2_of {α β : Type} {R : α → β → Prop} : ∀ {as : List α} {bs : List β}, as.length = bs.length → (∀ (i : Nat) (a : α) (b : β), as[i]? = some a → bs[i]? = some b → R a b) → All2 R as bs
  | [], [], _, _ => .nil
  | [], _ :: _, h, _ => by cases h
  | _ :: _, [], h, _ => by cases h
  | a :: as, b :: bs, h, f => .cons (f 0 a b rfl rfl) (all2_of (by simpa using h) fun i x y hx hy => f (i + 1) x y (by simpa using hx) (by simpa using hy))
theorem in_univ {r : Rm} {m : Nat} (m2 : m ≤ 2) {s : Sd} (h : InR r m s) : (s.pl, s.gr) ∈ univ r := by
  have hv := mem_vecs (b := 4) fun x hx => by have := h.ok.g3 x hx; omega
  rw [h.ok.gr] at hv
  have ho := h.op
  refine List.mem_flatMap.mpr ⟨s.gr, List.mem_filter.mpr ⟨hv, decide_eq_true (by omega)⟩, List.mem_map.mpr ⟨s.pl, mem_prodL (all2_of (by rw [List.length_map, List.length_range, h.ok.pl]) fun i p o hp hb => ?_), rfl⟩⟩
  rw [List.getElem?_map] at hb
  obtain ⟨j, hj, rfl⟩ := Option.map_eq_some_iff.mp hb
  have e : j = i := by
    have := (List.getElem?_eq_some_iff.mp hj).2
    rw [List.getElem_range] at this
    exact this.symm
  subst e
  exact h.pl _ p hp
theorem nodupLe {α : Type} [DecidableEq α] : ∀ {l m : List α}, l.Nodup → (∀ k ∈ l, k ∈ m) → l.length ≤ m.length
  | [], m, _, _ => Nat.zero_le _
  | x :: l, m, nd, h => by
    rw [List.nodup_cons] at nd
    have mx := h x List.mem_cons_self
    have ih := nodupLe (m := m.erase x) nd.2 fun k hk => (List.mem_erase_of_ne (fun e => nd.1 (by rw [← e]; exact hk))).mpr (h k (List.mem_cons_of_mem _ hk))
    rw [List.length_erase_of_mem mx] at ih
    have := List.length_pos_of_mem mx
    rw [List.length_cons]
    omega
theorem met_few {r : Rm} {m : Nat} (m2 : m ≤ 2) (sm : Small r) {met : List Sd} (nd : met.Nodup) (h : ∀ s ∈ met, InR r m s) : met.length ≤ 3000 := by
  have := nodupLe (l := met.map fun s => (s.pl, s.gr)) (m := univ r) (nd.map _ fun a b n e => n (by cases a; cases b; simp only [Prod.mk.injEq] at e; rw [e.1, e.2])) fun k hk => by
    obtain ⟨s, hs, rfl⟩ := List.mem_map.mp hk
    exact in_univ m2 (h s hs)
  rw [List.length_map] at this
  exact Nat.le_trans this (univ_len sm)
end
end K57

namespace K57
open PySem L2 Wm TL Dv
section
variable {P : Program} {w : World} {K : PySem.W.Frag} {mg : Str → Option Value} {base : Heap}
def sp_bag (K : PySem.W.Frag) : Sp := fun vs H Q _ => ∃ (a : Addr) (ns : List Int) (i : Nat), vs = [.ref a, .int (i : Nat)] ∧ SqL K H a (ns.map V.int) ∧ ns.length ≤ 63 ∧ i ≤ 63 ∧ ∀ H' b, Same H H' → H b = none → Bk H' b → Q (.ref b) H'
def sp_take (K : PySem.W.Frag) : Sp := fun vs H Q _ => ∃ (b : Addr) (m : Nat), vs = [.ref b, .int (m : Nat)] ∧ Bk H b ∧ 0 < m ∧ m < 1000000 ∧ ∀ H' (d : Nat), d < m → Bu b H H' → Bk H' b → Q (.int (d : Nat)) H'
def sp_of (K : PySem.W.Frag) : Sp := fun vs H Q _ => ∃ (b l : Addr) (xs : List V), vs = [.ref b, .ref l] ∧ Bk H b ∧ l ≠ b ∧ H l = some (.lst xs) ∧ xs ≠ [] ∧ xs.length < 1000 ∧ ∀ H' v, v ∈ xs → Bu b H H' → Bk H' b → Q v H'
def sp_number (K : PySem.W.Frag) : Sp := fun vs H Q _ => ∃ (b : Addr), vs = [.ref b] ∧ Bk H b ∧ ∀ H' (ds : List Nat), Num ds → Bu b H H' → Bk H' b → Q (.str (numS ds)) H'
def sp_numbers (K : PySem.W.Frag) : Sp := fun vs H Q _ => ∃ (b : Addr) (m : Nat), vs = [.ref b, .int (m : Nat)] ∧ Bk H b ∧ m ≤ 6 ∧ ∀ H' l (dss : List (List Nat)), (∀ ds ∈ dss, Num ds) → dss.Nodup → dss.length ≤ m → (0 < m → dss ≠ []) → H l = none → H' l = some (.lst ((dss.map numS).map V.str)) → Bu b H H' → Bk H' b → Q (.ref l) H'
theorem Bk.bu {H H' : Hp} {b p : Addr} (h : Bk H b) (s : Bu p H H') (n : b ≠ p) : Bk H' b := let ⟨x, y, a, c⟩ := h; ⟨x, y, s _ _ n a, c⟩
theorem none_of {H H' : Hp} {b : Addr} (s : Same H H') (h : H' b = none) : H b = none := by
  cases e : H b with
  | none => rfl
  | some o => rw [s _ _ e] at h; cases h
theorem Bk.off {H : Hp} {b D : Addr} (h : Bk H b) (f : H D = none) : D ≠ b := let ⟨_, _, a, _⟩ := h; (ne_of_none a f).symm
theorem fmod_in {x l : Int} (h : 0 < l) : 0 ≤ x % l ∧ x % l < l := ⟨Int.emod_nonneg x (by omega), Int.emod_lt_of_pos x h⟩
theorem cut_some (ns : List Int) (hi : Option Int) : ∃ m, cutV (ns.map V.int) none hi = (ns.take m).map V.int := by
  refine ⟨HT.sIx (ns.map V.int).length (ns.map V.int).length hi - HT.sIx (ns.map V.int).length 0 none, ?_⟩
  unfold cutV
  rw [HT.sIx_none, List.drop_zero, List.map_take]
theorem ok_bag (T : Txt K mg) : FnOk P w K mg base CX0 1 T.a_bag T.d_bag ["_law_script", "_law_at"] (sp_bag K) := by
  refine T.F_bag.ok sc_bag (fun vs H Q E h => ?_) (fun cdv A outer s H vs Q E hr h => ?_)
  · obtain ⟨a, ns, i, rfl, _⟩ := h
    rfl
  · obtain ⟨a, ns, i, rfl, hS, hlen, hi, k⟩ := h
    refine ⟨_, (C8.pss_cut (ps_set (i := 2) sc_bag.nd rfl (Or.inl rfl) (pe_ifExp (pt_cmpR op_lt (pv 1) (pe_callB call_len_seq (by rfl) T.z_len PySem.boot_len (pa_cons (pv 0) pa_nil)) (nomark _)) (pe_ix ix_list (pv 0) (pv 1) (fun _ _ => rfl)) pe_int))
      (pss_cons (ps_set (i := 3) sc_bag.nd rfl (Or.inl rfl) (pe_op op_add (pe_op op_mul pe_int (pv 1)) pe_int))
      (pss_cons (ps_for PassesOwn.never rfl (pi_enum (by rfl) T.z_enumerate (pa_cons (pe_slice sl_list (pv 0) po_none (po_some pe_int)) pa_nil)) (pg_tup rfl (pgs_cons (pg_name (i := 4) sc_bag.nd rfl (Or.inl rfl)) (pgs_cons (pg_name (i := 5) sc_bag.nd rfl (Or.inl rfl)) pgs_nil)))
        (pss_one (ps_set (i := 3) sc_bag.nd rfl (Or.inl rfl) (pe_op op_mod (pe_callTy call_int1 (by rfl) T.z_int (by decide +kernel) (pa_cons (pe_op op_add (pe_op op_add (pe_op op_mul (pv 3) pe_int) (pe_op op_mod (pe_callTy call_int1 (by rfl) T.z_int (by decide +kernel) (pa_cons (pv 5) pa_nil)) pe_int)) (pe_op op_mul pe_int (pv 4))) pa_nil)) pe_int))))
      (pss_one (ps_ret (pe_lst (pa_cons (pe_ifExp (pt_cmpR op_ge (pe_callB call_abs (by rfl) T.z_abs (by decide +kernel) (pa_cons (pv 2) pa_nil)) (pe_op op_pow pe_int pe_int) (nomark _)) (pe_callB call_abs (by rfl) T.z_abs (by decide +kernel) (pa_cons (pv 2) pa_nil)) pe_int) (pa_cons (pv 3) pa_nil)))))))), ?_⟩
    refine ⟨fun σ A => ∃ z : Int, σ = [some (.ref a), some (.int (i : Nat)), some (.int z), none, none, none] ∧ A = H, ?_, ?_⟩
    · refine ⟨_, rfl, _, rfl, a, _, rfl, .inl hS, _, _, rfl, rfl, _, rfl, ite2 (fun c => ?_) (fun c => ?_)⟩
      · have c := of_decide_eq_true c
        rw [List.length_map] at c
        have hj : i < ns.length := by omega
        have g : (ns.map V.int)[i]? = some (.int ns[i]) := by rw [List.getElem?_map, List.getElem?_eq_getElem hj]; rfl
        exact ⟨_, rfl, _, rfl, a, _, _, _, rfl, rfl, hS, atI_nat g, _, rfl, rfl⟩
      · exact ⟨0, rfl, rfl⟩
    rintro σ A ⟨z, rfl, rfl⟩
    refine ⟨_, rfl, _, _, rfl, rfl, .inl ⟨by decide, by decide⟩, _, _, rfl, rfl, ?_⟩
    refine ⟨_, rfl, _, rfl, a, _, rfl, hS, fun p hp => ?_⟩
    obtain ⟨m, em⟩ := cut_some ns (some 63)
    rw [em]
    have hml : (ns.take m).length ≤ 63 := by rw [List.length_take]; omega
    generalize ns.take m = ms at hml
    have sp := same_new (o := .lst (ms.map V.int)) hp
    have hp1 : upd A p (.lst (ms.map V.int)) p = some (.lst (ms.map V.int)) := upd_same
    generalize upd A p (.lst (ms.map V.int)) = H1 at sp hp1 ⊢
    refine ⟨p, _, rfl, SqL.of hp1, ?_⟩
    have kB : ∀ B, Same H1 B → SqL K B p (ms.map V.int) := fun B q => SqL.of (q _ _ hp1)
    refine for_it walk_enum (fun j σ B => (∃ (x : Int) (v4 v5 : Option V), σ = [some (.ref a), some (.int (i : Nat)), some (.int z), some (.int x), v4, v5] ∧ 0 ≤ x ∧ x < 2147483648) ∧ Same H1 B)
      ⟨⟨_, none, none, rfl, by omega, by omega⟩, fun _ _ e => e⟩ (fun j σ B _ h => kB B h.2) (fun j w σ B B' hj hP hY => ?_) (fun σ B hP => ?_)
    · obtain ⟨⟨x, v4, v5, rfl, x0, x1⟩, sB⟩ := hP
      obtain ⟨tp, y1, y2, rfl, htp, rfl, e1, e2⟩ := hY
      cases e1
      have e2 : (ms.map V.int)[j]? = some y2 := e2
      rw [List.getElem?_map] at e2
      obtain ⟨n, en, rfl⟩ := Option.map_eq_some_iff.mp e2
      have hjm := (List.getElem?_eq_some_iff.mp en).1
      have sC := sB.trans (same_new (o := .tup [.int (j : Nat), .int n]) htp)
      refine ⟨tp, _, rfl, SqT.of upd_same, rfl, _, _, rfl, _, _, rfl, rfl, ?_⟩
      refine ⟨_, rfl, _, _, rfl, rfl, .inr ⟨by decide, by decide⟩, ?_⟩
      refine ⟨_, rfl, .inl ⟨_, rfl, _, _, rfl, rfl, (by decide : (0 : Int) < 2147483549), ?_⟩⟩
      refine ⟨_, _, rfl, rfl, ?_⟩
      refine ⟨_, rfl, _, _, rfl, rfl, .inl ⟨by decide, by decide⟩, ?_⟩
      refine ⟨_, _, rfl, rfl, .inl ⟨_, rfl, _, _, rfl, rfl, (by decide : (0 : Int) < 2147483587), ?_⟩⟩
      have := fmod_in (x := x * 48271 + n % 2147483549 + 613 * (j : Nat)) (l := 2147483587) (by decide)
      exact ⟨⟨_, _, _, rfl, this.1, by omega⟩, sC⟩
    · obtain ⟨⟨x, v4, v5, rfl, x0, x1⟩, sB⟩ := hP
      have c10 : (10 : Int) ^ Int.toNat 18 = 1000000000000000000 := by decide +kernel
      refine ⟨_, rfl, _, rfl, _, _, rfl, rfl, ⟨by decide, by decide, by decide +kernel⟩, _, _, rfl, rfl, _, rfl, ite2 (fun c => ?_) (fun c => ?_)⟩
      · refine ⟨_, rfl, _, rfl, _, rfl, by show 2 ≤ sizeLine; decide, fun b hb => ?_⟩
        exact k _ b ((sp.trans sB).trans (same_new hb)) (none_of ((sp.trans sB)) hb) ⟨_, _, upd_same, by split <;> omega, x0, x1⟩
      · refine ⟨_, rfl, by show 2 ≤ sizeLine; decide, fun b hb => ?_⟩
        exact k _ b ((sp.trans sB).trans (same_new hb)) (none_of ((sp.trans sB)) hb) ⟨_, _, upd_same, by decide, x0, x1⟩
theorem ok_take (T : Txt K mg) : FnOk P w K mg base CX0 1 T.a_take T.d_take ["_law_bag_here", "_law_many"] (sp_take K) := by
  refine T.F_take.ok sc_take (fun vs H Q E h => ?_) (fun cdv A outer s H vs Q E hr h => ?_)
  · obtain ⟨b, m, rfl, _⟩ := h
    rfl
  · obtain ⟨b, m, rfl, ⟨x, y, hb, x0, y0, y1⟩, m0, m1, k⟩ := h
    have l0 : (0 : Int) < (m : Nat) := by omega
    refine ⟨_, (pss_cons (ps_if (pt_cmpR op_gt (pe_ix ix_list (pv 0) pe_int (fun _ _ => rfl)) pe_int (nomark _))
        (pss_cons (ps_set (i := 2) sc_take.nd rfl (Or.inl rfl) (pe_op op_mod (pe_callTy call_int1 (by rfl) T.z_int (by decide +kernel) (pa_cons (pe_ix ix_list (pv 0) pe_int (fun _ _ => rfl)) pa_nil)) (pv 1)))
        (pss_cons (ps_asg (pe_op op_fdivW (pe_ix ix_list (pv 0) pe_int (fun _ _ => rfl)) (pv 1)) (pg_sub (pv 0) pe_int set_list))
        (pss_one (ps_ret (pv 2)))))
        pss_nil)
      (pss_cons (ps_asg (pe_op op_mod (pe_callTy call_int1 (by rfl) T.z_int (by decide +kernel) (pa_cons (pe_op op_add (pe_op op_mul (pe_ix ix_list (pv 0) pe_int (fun _ _ => rfl)) pe_int) pe_int) pa_nil)) pe_int) (pg_sub (pv 0) pe_int set_list))
      (pss_one (ps_ret (pe_op op_mod (pe_op op_fdivW (pe_op op_mod (pe_callTy call_int1 (by rfl) T.z_int (by decide +kernel) (pa_cons (pe_op op_mul (pe_op op_fdivW (pe_ix ix_list (pv 0) pe_int (fun _ _ => rfl)) pe_int) pe_int) pa_nil)) pe_int) pe_int) (pv 1)))))), ?_⟩
    refine ⟨_, rfl, b, _, 0, _, rfl, rfl, SqL.of hb, atI_nat (j := 0) rfl, _, _, rfl, rfl, _, rfl, ite2 (fun c => ?_) (fun c => ?_)⟩
    · refine ⟨_, rfl, b, _, 0, _, rfl, rfl, SqL.of hb, atI_nat (j := 0) rfl, .inl ⟨_, rfl, ?_⟩⟩
      refine ⟨_, rfl, _, _, rfl, rfl, l0, ?_⟩
      refine ⟨_, rfl, b, _, 0, _, rfl, rfl, SqL.of hb, atI_nat (j := 0) rfl, _, rfl, _, _, rfl, rfl, wide_div l0 (b := 100) (by omega) (by decide) (by decide), ?_⟩
      refine ⟨_, rfl, b, _, 0, 0, rfl, rfl, hb, rfl, ?_⟩
      obtain ⟨d, ed⟩ : ∃ d : Nat, x % (m : Nat) = (d : Nat) := ⟨(x % (m : Nat)).toNat, by have := (fmod_in (x := x) l0).1; omega⟩
      have hd := (fmod_in (x := x) l0).2
      refine ⟨_, rfl, ?_⟩
      (try dsimp only)
      rw [ed] at hd ⊢
      exact k _ d (by omega) Bu.set ⟨_, _, upd_same, Int.ediv_nonneg x0 (by omega), y0, y1⟩
    · refine ⟨_, rfl, b, _, 1, _, rfl, rfl, SqL.of hb, atI_nat (j := 1) rfl, _, _, rfl, rfl, .inr ⟨by decide, by decide⟩, _, _, rfl, rfl, .inl ⟨_, rfl, ?_⟩⟩
      refine ⟨_, _, rfl, rfl, (by decide : (0 : Int) < 2147483647), ?_⟩
      refine ⟨_, rfl, b, _, 1, 1, rfl, rfl, hb, rfl, ?_⟩
      have z0 := fmod_in (x := y * 69621 + 77003) (l := 2147483647) (by decide)
      dsimp only
      generalize (y * 69621 + 77003) % 2147483647 = z at z0 ⊢
      refine ⟨_, rfl, b, _, 1, _, rfl, rfl, SqL.of upd_same, atI_nat (j := 1) rfl, _, _, rfl, rfl, wide_div (by decide) (b := 100) (by decide) (by decide) (by decide), ?_⟩
      have q0 : 0 ≤ z / 13 ∧ z / 13 < 2147483648 := ⟨Int.ediv_nonneg z0.1 (by decide), by omega⟩
      refine ⟨_, _, rfl, rfl, .inr ⟨by decide, by decide⟩, ?_⟩
      refine .inl ⟨_, rfl, _, _, rfl, rfl, (by decide : (0 : Int) < 2147483399), ?_⟩
      have r0 := fmod_in (x := z / 13 * 40692) (l := 2147483399) (by decide)
      dsimp only
      generalize z / 13 * 40692 % 2147483399 = u at r0 ⊢
      refine ⟨_, _, rfl, rfl, wide_div (by decide) (b := 100) (by decide) (by decide) (by decide), ?_⟩
      obtain ⟨d, ed⟩ : ∃ d : Nat, u / 32 % (m : Nat) = (d : Nat) := ⟨(u / 32 % (m : Nat)).toNat, by have := (fmod_in (x := u / 32) l0).1; omega⟩
      have hd := (fmod_in (x := u / 32) l0).2
      refine ⟨_, rfl, _, _, rfl, rfl, l0, ?_⟩
      (try dsimp only)
      rw [ed] at hd ⊢
      exact k _ d (by omega) Bu.set ⟨_, _, upd_same, x0, z0.1, by omega⟩
      skip
end
end K57

namespace K57
open PySem L2 Wm TL Dv
section
variable {P : Program} {w : World} {K : PySem.W.Frag} {mg : Str → Option Value} {base : Heap}
theorem dig_log {d : Nat} (h : 1 ≤ d ∧ d ≤ 9) : ((d : Int)).natAbs.log2 < 1920 := by
  rcases dig_cases h with e | e | e | e | e | e | e | e | e <;> subst e <;> decide +kernel
theorem sum_snoc (ds : List Nat) (d : Nat) : (ds ++ [d]).sum = ds.sum + d := by
  rw [List.sum_append]
  simp
theorem len_snoc (ds : List Nat) (d : Nat) : (ds ++ [d]).length = ds.length + 1 := by simp
theorem dig_snoc {ds : List Nat} {d : Nat} (h : ∀ y ∈ ds, 1 ≤ y ∧ y ≤ 9) (g : 1 ≤ d ∧ d ≤ 9) : ∀ y ∈ ds ++ [d], 1 ≤ y ∧ y ≤ 9 := fun y m => by
  rcases List.mem_append.mp m with m | m
  · exact h y m
  · rw [List.mem_singleton.mp m]
    exact g
theorem ok_of (T : Txt K mg) : FnOk P w K mg base CX0 2 T.a_of T.d_of ["_law_bag_here", "_law_some"] (sp_of K) := by
  refine T.F_of.ok sc_of (fun vs H Q E h => ?_) (fun cdv A outer s H vs Q E hr h => ?_)
  · obtain ⟨b, l, xs, rfl, _⟩ := h
    rfl
  · obtain ⟨b, l, xs, rfl, hb, nlb, hl, ne, few, k⟩ := h
    have l0 : 0 < xs.length := by cases xs with | nil => exact absurd rfl ne | cons x t => exact Nat.succ_pos _
    refine ⟨_, (pss_one (ps_ret (pe_ix ix_list (pv 1) (pe_call (ok_take T) (hr.mono (by decide)) (by rfl) T.g_take T.F_take.kp T.b_take .nil pass0 (pa_cons (pv 0) (pa_cons (pe_callB call_len_seq (by rfl) T.z_len PySem.boot_len (pa_cons (pv 1) pa_nil)) pa_nil))) (fun _ _ => rfl)))), ?_⟩
    refine ⟨_, rfl, _, rfl, _, rfl, l, _, rfl, .inl (SqL.of hl), b, xs.length, rfl, hb, l0, by omega, fun H' d hd bu hb' => ?_⟩
    have hl' := bu _ _ nlb hl
    obtain ⟨v, ev⟩ : ∃ v, xs[d]? = some v := ⟨_, List.getElem?_eq_getElem hd⟩
    exact ⟨l, _, _, _, rfl, rfl, SqL.of hl', atI_nat ev, k _ v (List.mem_of_getElem? ev) bu hb'⟩
theorem ok_number (T : Txt K mg) : FnOk P w K mg base CX0 2 T.a_number T.d_number ["_law_bag_here"] (sp_number K) := by
  refine T.F_number.ok sc_number (fun vs H Q E h => ?_) (fun cdv A outer s H vs Q E hr h => ?_)
  · obtain ⟨b, rfl, _⟩ := h
    rfl
  · obtain ⟨b, rfl, hb, k⟩ := h
    refine ⟨_, (pss_cons (ps_par3 (i := 1) (j := 2) (l := 3) rfl sc_number.nd rfl rfl rfl (by decide) (by decide) (by decide) rfl rfl rfl (pa_cons (pe_op op_add pe_int (pe_call (ok_take T) (hr.mono (by decide)) (by rfl) T.g_take T.F_take.kp T.b_take .nil pass0 (pa_cons (pv 0) (pa_cons pe_int pa_nil)))) (pa_cons pe_int (pa_cons pe_str pa_nil))) rfl)
      (pss_cons (ps_for PassesOwn.never rfl (pi_range1 (by rfl) T.z_range (pa_cons (pv 1) pa_nil)) (pg_name (i := 4) sc_number.nd rfl (Or.inl rfl))
        (pss_cons (ps_set (i := 5) sc_number.nd rfl (Or.inl rfl) (pe_op op_add pe_int (pe_call (ok_take T) (hr.mono (by decide)) (by rfl) T.g_take T.F_take.kp T.b_take .nil pass0 (pa_cons (pv 0) (pa_cons (pe_callB (call_min2 rfl) (by rfl) T.z_min (by decide +kernel) (pa_cons pe_int (pa_cons (pe_op op_sub (pe_op op_sub pe_int (pv 2)) (pe_op op_sub (pe_op op_sub (pv 1) (pv 4)) pe_int)) pa_nil))) pa_nil)))))
        (pss_cons (ps_set (i := 2) sc_number.nd rfl (Or.inl rfl) (pe_op op_add (pv 2) (pv 5)))
        (pss_one (ps_set (i := 3) sc_number.nd rfl (Or.inl rfl) (pe_op op_add_str (pv 3) (pe_callTy call_str_int (by rfl) T.z_str (by decide +kernel) (pa_cons (pv 5) pa_nil))))))))
      (pss_one (ps_ret (pv 3))))), ?_⟩
    refine ⟨_, rfl, b, 4, rfl, hb, by decide, by decide, fun H1 d0 hd0 bu1 hb1 => ?_⟩
    refine ⟨_, _, rfl, rfl, _, _, _, rfl, ?_⟩
    obtain ⟨many, em, m1, m4⟩ : ∃ many : Nat, (1 : Int) + (d0 : Nat) = (many : Nat) ∧ 1 ≤ many ∧ many ≤ 4 := ⟨1 + d0, by omega, by omega, by omega⟩
    try dsimp only
    rw [em]
    refine ⟨_, rfl, _, rfl, by omega, by omega, ?_⟩
    rw [Int.toNat_natCast]
    refine for_range (fun i σ H' => ∃ (ds : List Nat) (v4 v5 : Option V), σ = [some (.ref b), some (.int (many : Nat)), some (.int (ds.sum : Nat)), some (.str (numS ds)), v4, v5] ∧
      ds.length = i ∧ (∀ d ∈ ds, 1 ≤ d ∧ d ≤ 9) ∧ ds.sum + (many - i) ≤ 24 ∧ Bk H' b ∧ Bu b H H')
      ⟨[], none, none, by rw [numS_nil]; rfl, rfl, fun _ m => absurd m (List.not_mem_nil), by show 0 + (many - 0) ≤ 24; omega, hb1, bu1⟩ (fun i σ H' hi hP => ?_) (fun σ H' hP => ?_)
    · obtain ⟨ds, v4, v5, rfl, el, hd, hs, hb2, bu2⟩ := hP
      refine ⟨_, rfl, _, rfl, _, _, rfl, rfl, _, rfl, _, rfl, _, _, rfl, rfl, _, _, rfl, rfl, _, _, rfl, rfl, _, _, rfl, ?_⟩
      (try dsimp only)
      obtain ⟨lim, el2, l1, l9, ls⟩ : ∃ lim : Nat, (if (24 : Int) - (ds.sum : Nat) - ((many : Nat) - (0 + (i : Nat)) - 1) < 9 then (24 : Int) - (ds.sum : Nat) - ((many : Nat) - (0 + (i : Nat)) - 1) else 9) = (lim : Nat) ∧ 1 ≤ lim ∧ lim ≤ 9 ∧ lim ≤ 24 - ds.sum - (many - i - 1) := by
        split
        · exact ⟨24 - ds.sum - (many - i - 1), by omega, by omega, by omega, Nat.le_refl _⟩
        · exact ⟨9, rfl, by omega, by omega, by omega⟩
      rw [el2]
      refine ⟨b, lim, rfl, hb2, by omega, by omega, fun H3 g hg bu3 hb3 => ?_⟩
      refine ⟨_, _, rfl, rfl, ?_⟩
      obtain ⟨d, ed, hd9, hds⟩ : ∃ d : Nat, (1 : Int) + (g : Nat) = (d : Nat) ∧ (1 ≤ d ∧ d ≤ 9) ∧ ds.sum + d + (many - i - 1) ≤ 24 := ⟨1 + g, by omega, by omega, by omega⟩
      (try dsimp only)
      rw [ed]
      refine ⟨_, rfl, _, rfl, _, _, rfl, rfl, ?_⟩
      refine ⟨_, rfl, _, rfl, _, rfl, dig_log hd9, _, _, rfl, rfl, ?_, ?_⟩
      · rw [dig_str hd9, numS_len, numS_len]
        exact Nat.le_of_lt (small1000 (by show ds.length + 1 ≤ 1000; omega))
      rw [dig_str hd9, numS_app]
      have e3 : ((ds.sum : Nat) : Int) + (d : Nat) = ((ds ++ [d]).sum : Nat) := by rw [sum_snoc]; omega
      (try dsimp only)
      rw [e3]
      exact ⟨ds ++ [d], _, _, rfl, by rw [len_snoc, el], dig_snoc hd hd9, by rw [sum_snoc]; omega, hb3, bu2.trans bu3⟩
    · obtain ⟨ds, v4, v5, rfl, el, hd, hs, hb2, bu2⟩ := hP
      exact ⟨_, rfl, k _ ds ⟨by omega, by omega, hd, by omega⟩ bu2 hb2⟩
theorem ok_numbers (T : Txt K mg) : FnOk P w K mg base CX0 3 T.a_numbers T.d_numbers ["_law_bag_here", "_law_many"] (sp_numbers K) := by
  refine T.F_numbers.ok sc_numbers (fun vs H Q E h => ?_) (fun cdv A outer s H vs Q E hr h => ?_)
  · obtain ⟨b, m, rfl, _⟩ := h
    rfl
  · obtain ⟨b, m, rfl, hb, m6, k⟩ := h
    refine ⟨_, (pss_cons (ps_set (i := 2) sc_numbers.nd rfl (Or.inl rfl) (pe_lst pa_nil))
      (pss_cons (ps_for PassesOwn.never rfl (pi_range1 (by rfl) T.z_range (pa_cons (pv 1) pa_nil)) (pg_name (i := 3) sc_numbers.nd rfl (Or.inl rfl))
        (pss_cons (ps_set (i := 4) sc_numbers.nd rfl (Or.inl rfl) (pe_call (ok_number T) (hr.mono (by decide)) (by rfl) T.g_number T.F_number.kp T.b_number .nil pass0 (pa_cons (pv 0) pa_nil)))
        (pss_one (ps_if (pt_cmpR op_notIn_seq (pv 4) (pv 2) rfl)
          (pss_one (ps_expr (pe_bm PySem.F.plainAttrs_list PySem.F.slot_list_append PySem.F.type_list_append mt_append (pv 2) (pa_cons (pv 4) pa_nil))))
          pss_nil))))
      (pss_one (ps_ret (pv 2))))), ?_⟩
    refine ⟨by show 0 ≤ sizeLine; decide, fun l hl => ⟨_, rfl, _, rfl, by omega, by omega, ?_⟩⟩
    rw [Int.toNat_natCast]
    have nlb : l ≠ b := hb.off hl
    refine for_range (fun i σ H' => ∃ (dss : List (List Nat)) (v3 v4 : Option V), σ = [some (.ref b), some (.int (m : Nat)), some (.ref l), v3, v4] ∧
      dss.length ≤ i ∧ (0 < i → dss ≠ []) ∧ (∀ ds ∈ dss, Num ds) ∧ dss.Nodup ∧ H' l = some (.lst ((dss.map numS).map V.str)) ∧ Bk H' b ∧ (∀ q o, q ≠ b → q ≠ l → H q = some o → H' q = some o))
      ⟨[], none, none, rfl, Nat.le_refl _, (fun z => absurd z (Nat.lt_irrefl _)), fun _ m => absurd m (List.not_mem_nil), .nil, upd_same, hb.k (same_new hl), fun q o _ n e => by rw [upd_ne n]; exact e⟩ (fun i σ H' hi hP => ?_) (fun σ H' hP => ?_)
    · obtain ⟨dss, v3, v4, rfl, el, en, hd, nd, hl1, hb1, bu1⟩ := hP
      refine ⟨_, rfl, b, rfl, hb1, fun H2 ds N bu2 hb2 => ?_⟩
      have hl2 := bu2 _ _ nlb hl1
      have bu3 : ∀ q o, q ≠ b → q ≠ l → H q = some o → H2 q = some o := fun q o n1 n2 e => bu2 q o n1 (bu1 q o n1 n2 e)
      refine ⟨_, rfl, _, rfl, l, _, rfl, .inl (SqL.of hl2), rfl, flat_strs _, _, rfl, ?_⟩
      rw [if_pos rfl, in_strs]
      refine ite2 (fun c => ?_) (fun c => ?_)
      · have nin : ds ∉ dss := fun m => by
          have : numS ds ∈ dss.map numS := List.mem_map.mpr ⟨ds, m, rfl⟩
          rw [decide_eq_true this] at c
          cases c
        refine ⟨_, rfl, .inl ⟨rfl, _, SqL.of hl2⟩, _, rfl, l, _, _, rfl, rfl, hl2, small1000 (by rw [List.length_map, List.length_map]; omega), ?_⟩
        refine ⟨dss ++ [ds], _, _, rfl, by rw [List.length_append]; exact Nat.succ_le_succ el, (fun _ z => by have := congrArg List.length z; rw [List.length_append] at this; simp at this), fun x m => ?_, ?_, ?_, hb2.bu Bu.set (fun z => nlb z.symm), fun q o n1 n2 e => ?_⟩
        · rcases List.mem_append.mp m with m | m
          · exact hd x m
          · rw [List.mem_singleton.mp m]; exact N
        · rw [List.nodup_append]
          exact ⟨nd, by simp, fun x mx y my => by rw [List.mem_singleton.mp my]; intro e; subst e; exact nin mx⟩
        · rw [upd_same, List.map_append, List.map_append]; rfl
        · rw [upd_ne n2]; exact bu3 q o n1 n2 e
      · refine ⟨dss, _, _, rfl, by omega, (fun _ z => ?_), hd, nd, hl2, hb2, bu3⟩
        rw [z] at c
        exact c (by simp)
    · obtain ⟨dss, v3, v4, rfl, el, en, hd, nd, hl1, hb1, bu1⟩ := hP
      exact ⟨_, rfl, k _ l dss hd nd el en hl hl1 (fun q o n e => bu1 q o n (fun z => by subst z; rw [hl] at e; cases e) e) hb1⟩
end
end K57

namespace K57
open PySem L2 Wm TL Dv
section
variable {P : Program} {w : World} {K : PySem.W.Frag} {mg : Str → Option Value} {base : Heap}
/-- the law's own cards -/
def LC (K : PySem.W.Frag) (H : Hp) (l : Addr) (cs : List Cd) : Prop := ∃ cvs, H l = some (.lst cvs) ∧ Dts K H cvs (cs.map cdD)
def sp_start (K : PySem.W.Frag) : Sp := fun vs H Q _ => ∃ (a l : Addr) (r : Rm), vs = [.ref a, .ref l] ∧ H a = some (.lst (nV r.st)) ∧ LC K H l r.cs ∧ RmOk r ∧ ∀ H' v, Same H H' → Dt K H' v (sdD (startS r)) → Q v H'
def sp_allowed (K : PySem.W.Frag) : Sp := fun vs H Q _ => ∃ (l : Addr) (v : V) (r : Rm) (s : Sd) (m : Nat), vs = [.ref l, v, .int (m : Nat)] ∧ LC K H l r.cs ∧ Dt K H v (sdD s) ∧ RmOk r ∧ SdOk r s ∧ ∀ H' q us, Same H H' → H' q = some (.lst us) → Dts K H' us ((alF r s.gr m).map evD) → us.length ≤ 18 → Q (.ref q) H'
def sp_made (K : PySem.W.Frag) (CC : Addr) : Sp := fun vs H Q _ => ∃ (v : V) (c : Cd) (st : List Nat), vs = [v] ∧ Dt K H v (cdD c) ∧ st.length ≤ 6 ∧ (∀ s ∈ st, s ≤ 8) ∧ CdOk st c ∧ ∀ H' u, Same H H' → CardAt K CC H' u c → Q u H'
theorem cd_five {H : Hp} {v : V} {c : Cd} (h : Dt K H v (cdD c)) : ∃ q v1 v2 v3 v4, v = .ref q ∧ SqT K H q [.str (numS c.ds), v1, v2, v3, v4] ∧ Dt K H v1 (iD c.order) ∧ Dt K H v2 (iD c.counts) ∧ Dt K H v3 (iD c.owed) ∧ Dt K H v4 (mvD c.moves) := by
  unfold cdD at h
  cases h with
  | tup hq hs =>
    cases hs with
    | cons a hs =>
      cases a
      cases hs with
      | cons b hs =>
        cases hs with
        | cons c hs =>
          cases hs with
          | cons d hs =>
            cases hs with
            | cons e hs =>
              cases hs
              exact ⟨_, _, _, _, _, rfl, hq, b, c, d, e⟩
theorem ok_start (T : Txt K mg) : FnOk P w K mg base CX0 1 T.a_start T.d_start ["_law_stations", "_law_cards_here"] (sp_start K) := by
  refine T.F_start.ok sc_start (fun vs H Q E h => ?_) (fun cdv A outer s H vs Q E hr h => ?_)
  · obtain ⟨a, l, r, rfl, _⟩ := h
    rfl
  · obtain ⟨a, l, r, rfl, ha, ⟨cvs, hl, hd⟩, ok, k⟩ := h
    have l6 := ok.st6
    have c6 := ok.cs6
    have lx := hd.len
    rw [List.length_map] at lx
    refine ⟨_, (pss_one (ps_ret (pe_tup (pa_cons (pe_callTy call_tuple_of (by rfl) T.z_tuple (by decide +kernel) (pa_cons (pe_lc (own := [("_law_station", 2)]) (g := gName 2) (tt := tYes) rfl sc_start.nd (pi_list (pv 0)) (blkOk_by (own := [("_law_station", 2)]) (N := nm_start) (sc := (defScope s_start)) (by decide +kernel)) (fun _ _ _ _ _ => pg_name (i := 2) sc_start.nd rfl (Or.inl rfl)) (fun _ _ _ _ _ => pts_nil) (fun _ _ _ _ _ => (pe_tup (pa_cons pe_str (pa_cons (pv 2) pa_nil))))) pa_nil)) (pa_cons (pe_callTy call_tuple_of (by rfl) T.z_tuple (by decide +kernel) (pa_cons (pe_lc (own := [("_law_card", 3)]) (g := gName 3) (tt := tYes) rfl sc_start.nd (pi_list (pv 1)) (blkOk_by (own := [("_law_card", 3)]) (N := nm_start) (sc := (defScope s_start)) (by decide +kernel)) (fun _ _ _ _ _ => pg_name (i := 3) sc_start.nd rfl (Or.inl rfl)) (fun _ _ _ _ _ => pts_nil) (fun _ _ _ _ _ => pe_int)) pa_nil)) pa_nil))))), ?_⟩
    refine ⟨_, rfl, a, rfl, ⟨_, SqL.of ha⟩, fun D hD => ?_⟩
    refine Lm.lc_map (K := K) walk_list (xs := nV r.st) (fun i y A => ∃ n, r.st[i]? = some n ∧ Dt K A y (plD (.ins n))) (fun _ _ _ _ h kt => let ⟨n, e, d⟩ := h; ⟨n, e, d.k kt⟩) hD (by rw [nV_len]; omega) (fun H' s' => SqL.of (s' _ _ ha)) (fun i x H' hi hx s' Q' Z hQ => ?_) (fun H2 ys s2 hD2 hl2 hy => ?_)
    · obtain ⟨n, hn, rfl⟩ := nV_inv hx
      refine ⟨rfl, yesT ⟨_, rfl, by show 2 ≤ sizeLine; decide, fun u hu => hQ _ _ (same_new hu) ⟨n, hn, dt_tup upd_same (.cons (.str _) (.cons (.int _) .nil))⟩⟩⟩
    · rw [nV_len] at hl2
      refine ⟨D, _, rfl, .inl ⟨SqL.of hD2, fun t ht => ?_⟩⟩
      have s3 := s2.trans (same_new (o := .tup ys) ht)
      have ht3 : upd H2 t (.tup ys) t = some (.tup ys) := upd_same
      have hy3 : ∀ (i : Nat) y, ys[i]? = some y → ∃ n, r.st[i]? = some n ∧ Dt K (upd H2 t (.tup ys)) y (plD (.ins n)) := fun i y e => let ⟨n, a, b⟩ := hy i y e; ⟨n, a, b.k (Kt.new ht)⟩
      generalize upd H2 t (.tup ys) = H3 at s3 ht3 hy3 ⊢
      have hds : Dts K H3 ys ((r.st.map Pl.ins).map plD) := dts_of (by rw [List.length_map, List.length_map]; exact hl2) fun i y e => by
        obtain ⟨n, a, b⟩ := hy3 i y e
        exact ⟨_, by rw [List.getElem?_map, List.getElem?_map, a]; rfl, b⟩
      refine ⟨_, rfl, l, rfl, ⟨_, SqL.of (s3 _ _ hl)⟩, fun D2 hD2 => ?_⟩
      refine Lm.lc_map (K := K) walk_list (xs := cvs) (fun i y A => y = .int 0) (fun _ _ _ _ h _ => h) hD2 (by omega) (fun H' s' => SqL.of (s' _ _ (s3 _ _ hl))) (fun i x H' hi hx s' Q' Z hQ => ?_) (fun H4 zs s4 hD4 hl4 hz => ?_)
      · exact ⟨rfl, yesT (hQ _ _ (Same.refl _) rfl)⟩
      · refine ⟨D2, _, rfl, .inl ⟨SqL.of hD4, fun g hg => ?_⟩⟩
        have ez : zs = nV (r.cs.map fun _ => 0) := by
          refine List.ext_getElem? fun i => ?_
          cases e : zs[i]? with
          | none =>
            have := List.getElem?_eq_none_iff.mp e
            unfold nV
            rw [List.getElem?_eq_none_iff.mpr (by rw [List.length_map, List.length_map]; omega)]
          | some z =>
            have hi := (List.getElem?_eq_some_iff.mp e).1
            rw [hz i z e]
            exact (nV_at (by rw [List.getElem?_map, List.getElem?_eq_getElem (by omega)]; rfl)).symm
        subst ez
        have s5 := same_new (o := .tup (nV (r.cs.map fun _ => 0))) hg
        have hg5 : upd H4 g (.tup (nV (r.cs.map fun _ => 0))) g = some (.tup (nV (r.cs.map fun _ => 0))) := upd_same
        generalize upd H4 g (.tup (nV (r.cs.map fun _ => 0))) = H5 at s5 hg5 ⊢
        refine ⟨by show 2 ≤ sizeLine; decide, fun u hu => ?_⟩
        have s6 := same_new (o := .tup [.ref t, .ref g]) hu
        exact k _ _ (((s3.trans s4).trans s5).trans s6) (dt_tup upd_same (.cons ((Dt.tup (SqT.of ht3) hds).ks ((s4.trans s5).trans s6)) (.cons ((Dt.tup (SqT.of hg5) (dts_nV _)).ks s6) .nil)))
theorem ok_allowed (T : Txt K mg) : FnOk P w K mg base CX0 1 T.a_allowed T.d_allowed ["_law_cards_here", "_law_standing", "_law_most_open"] (sp_allowed K) := by
  refine T.F_allowed.ok sc_allowed (fun vs H Q E h => ?_) (fun cdv A outer s H vs Q E hr h => ?_)
  · obtain ⟨l, v, r, s, m, rfl, _⟩ := h
    rfl
  · obtain ⟨l, v, r, s, m, rfl, ⟨cvs, hl, hd⟩, dv, ok, so, k⟩ := h
    obtain ⟨t, x, y, rfl, ht, d5, d6⟩ := dt_two dv
    obtain ⟨gr, rfl, hg⟩ := dt_ints d6
    have c6 := ok.cs6
    have lg := so.gr
    have lx := hd.len
    rw [List.length_map] at lx
    refine ⟨_, (pss_cons (ps_par (i := 3) (j := 4) rfl sc_allowed.nd rfl rfl (by decide) rfl rfl (pa_cons (pe_lst pa_nil) (pa_cons (pe_cmpR op_lt (pe_callB call_len_seq (by rfl) T.z_len PySem.boot_len (pa_cons (pe_lc (own := [("_law_grade", 5)]) (g := gName 5) rfl sc_allowed.nd (pi_tup (pe_ix ix_tup (pv 1) pe_int (fun _ _ => rfl))) (blkOk_by (own := [("_law_grade", 5)]) (N := nm_allowed) (sc := (defScope s_allowed)) (by decide +kernel)) (fun _ _ _ _ _ => pg_name (i := 5) sc_allowed.nd rfl (Or.inl rfl)) (fun _ _ _ _ _ => (pts_one (pt_cmpR op_gt (pv 5) pe_int (nomark _)))) (fun _ _ _ _ _ => (pv 5))) pa_nil)) (pv 2) (nomark _)) pa_nil)) rfl)
      (pss_cons (ps_for PassesOwn.never rfl (pi_enum (by rfl) T.z_enumerate (pa_cons (pv 0) pa_nil)) (pg_tup rfl (pgs_cons (pg_name (i := 6) sc_allowed.nd rfl (Or.inl rfl)) (pgs_cons (pg_name (i := 7) sc_allowed.nd rfl (Or.inl rfl)) pgs_nil)))
        (pss_cons (ps_set (i := 5) sc_allowed.nd rfl (Or.inl rfl) (pe_ix ix_tup (pe_ix ix_tup (pv 1) pe_int (fun _ _ => rfl)) (pv 6) (fun _ _ => rfl)))
        (C8.pss_cut (ps_if (PW.pt (pw_and (pt_cmpR op_eq (pv 5) pe_int (nomark _)) (pw_and1 (pt_val (pv 4)))))
          (pss_one (ps_expr (pe_bm PySem.F.plainAttrs_list PySem.F.slot_list_append PySem.F.type_list_append mt_append (pv 3) (pa_cons (pe_tup (pa_cons pe_str (pa_cons (pe_ix ix_tup (pv 7) pe_int (fun _ _ => rfl)) pa_nil))) pa_nil))))
          pss_nil)
        (C8.pss_cut (ps_if (PW.pt (pw_or (pt_cmpR op_eq (pv 5) pe_int (nomark _)) (pw_or1 (pt_cmpR op_eq (pv 5) pe_int (nomark _)))))
          (pss_one (ps_expr (pe_bm PySem.F.plainAttrs_list PySem.F.slot_list_append PySem.F.type_list_append mt_append (pv 3) (pa_cons (pe_tup (pa_cons pe_str (pa_cons (pe_ix ix_tup (pv 7) pe_int (fun _ _ => rfl)) pa_nil))) pa_nil))))
          pss_nil)
        (pss_one (ps_if (pt_cmpR op_gt (pv 5) pe_int (nomark _))
          (pss_one (ps_expr (pe_bm PySem.F.plainAttrs_list PySem.F.slot_list_append PySem.F.type_list_append mt_append (pv 3) (pa_cons (pe_tup (pa_cons pe_str (pa_cons (pe_ix ix_tup (pv 7) pe_int (fun _ _ => rfl)) pa_nil))) pa_nil))))
          pss_nil))))))
      (pss_one (ps_ret (pv 3))))), ?_⟩
    refine ⟨by show 0 ≤ sizeLine; decide, fun L hL => ?_⟩
    have s1 := same_new (o := .lst []) hL
    have hL1 : upd H L (.lst []) L = some (.lst []) := upd_same
    generalize upd H L (.lst []) = H1 at s1 hL1 ⊢
    refine ⟨_, rfl, t, _, 1, _, rfl, rfl, sameT s1 ht, atI_nat (j := 1) rfl, gr, rfl, ⟨_, sameT s1 hg⟩, fun D hD => ?_⟩
    refine lc_it walk_tup (fun j B => Same H1 B ∧ B D = some (.lst (nV ((s.gr.take j).filter fun g => decide (0 < g))))) ⟨same_new hD, upd_same⟩ (fun j B _ h => sameT (s1.trans h.1) hg) (fun j v B B' hj hP hY => ?_) (fun B hP => ?_)
    · obtain ⟨sB, hB⟩ := hP
      obtain ⟨rfl, hv⟩ := hY
      obtain ⟨n, hn, rfl⟩ := nV_inv hv
      have fl : ((s.gr.take j).filter fun g => decide (0 < g)).length ≤ 6 := Nat.le_trans (List.length_filter_le _ _) (by rw [List.length_take]; omega)
      refine ⟨rfl, _, rfl, _, _, rfl, rfl, _, rfl, ite2 (fun c => ?_) (fun c => ?_)⟩
      · have c : (0 : Int) < (n : Nat) := of_decide_eq_true c
        refine ⟨_, rfl, _, hB, by rw [nV_len]; exact small1000 (by omega), same_mut sB hD, ?_⟩
        rw [upd_same, tk_succ' hn, List.filter_append, List.filter_cons, if_pos (decide_eq_true (by omega))]
        unfold nV
        rw [List.map_append]
        rfl
      · have c : ¬ (0 : Int) < (n : Nat) := fun z => c (decide_eq_true z)
        refine ⟨sB, ?_⟩
        rw [tk_succ' hn, List.filter_append, List.filter_cons, if_neg (by simp; omega), List.filter_nil, List.append_nil]
        exact hB
    obtain ⟨sB, hB⟩ := hP
    rw [nV_len, List.take_length] at hB
    refine ⟨D, _, rfl, .inl (SqL.of hB), ?_⟩
    rw [nV_len]
    refine ⟨_, rfl, _, _, rfl, rfl, _, _, rfl, ?_⟩
    obtain ⟨fr, hfr, efr⟩ : ∃ fr : Bool, (decide (((s.gr.filter fun g => decide (0 < g)).length : Int) < (m : Nat)) = fr) ∧ (fr = true ↔ openN s.gr < m) := ⟨_, rfl, by rw [decide_eq_true_iff]; unfold openN; omega⟩
    (try dsimp only)
    rw [hfr]
    have s2 := s1.trans sB
    have hL2 := sB _ _ hL1
    clear hB sB hL1 s1 hfr
    have hz : ((r.cs.map fun c => c.ds).zip s.gr).length = r.cs.length := by rw [List.length_zip, List.length_map, lg, Nat.min_self]
    refine ⟨_, rfl, l, _, rfl, SqL.of (s2 _ _ hl), ?_⟩
    refine for_it walk_enum (fun i σ A => (∃ v5 v6 v7, σ = [some (.ref l), some (.ref t), some (.int (m : Nat)), some (.ref L), some (.bl fr), v5, v6, v7]) ∧ Same H A ∧ ∃ zs, A L = some (.lst zs) ∧ Dts K A zs (((((r.cs.map fun c => c.ds).zip s.gr).take i).flatMap (alI s.gr m)).map evD) ∧ zs.length ≤ 3 * i)
      ⟨⟨none, none, none, rfl⟩, s2, [], hL2, .nil, Nat.le_refl _⟩ (fun i σ A _ h => SqL.of (h.2.1 _ _ hl)) (fun i y' σ A A' hi hP hY => ?_) (fun σ A hP => ?_)
    · obtain ⟨⟨v5, v6, v7, rfl⟩, sA, zs, hA, dz, lz⟩ := hP
      obtain ⟨tp, y1, y2, rfl, htp, rfl, e1, e2⟩ := hY
      cases e1
      have e2 : cvs[i]? = some y2 := e2
      obtain ⟨d, ed, dy⟩ := hd.at e2
      rw [List.getElem?_map] at ed
      obtain ⟨c, ec, rfl⟩ := Option.map_eq_some_iff.mp ed
      have i6 : i < r.cs.length := (List.getElem?_eq_some_iff.mp ec).1
      have eg := getD_at (xs := s.gr) (i := i) (by omega)
      generalize s.gr.getD i 0 = g at eg
      obtain ⟨q, v1, v2, v3, v4, rfl, hq, _⟩ := cd_five dy
      have ezz : ((r.cs.map fun c => c.ds).zip s.gr)[i]? = some (c.ds, g) := by
        rw [List.getElem?_zip_eq_some, List.getElem?_map, ec]
        exact ⟨rfl, eg⟩
      have etk : ((((r.cs.map fun c => c.ds).zip s.gr).take (i + 1)).flatMap (alI s.gr m)) = (((r.cs.map fun c => c.ds).zip s.gr).take i).flatMap (alI s.gr m) ++ alI s.gr m (c.ds, g) := by
        rw [tk_succ' ezz, List.flatMap_append, List.flatMap_singleton]
      generalize (((r.cs.map fun c => c.ds).zip s.gr).take i).flatMap (alI s.gr m) = acc at dz etk
      rw [etk]
      have sT := same_new (o := .tup [.int (i : Nat), .ref q]) htp
      refine ⟨tp, _, rfl, SqT.of upd_same, rfl, _, _, rfl, _, _, rfl, rfl, ?_⟩
      have sB := sA.trans sT
      have hB := sT _ _ hA
      have dB := dz.ks sT
      generalize upd A tp (.tup [.int (i : Nat), .ref q]) = B at sB hB dB ⊢
      refine ⟨_, rfl, t, _, 1, _, rfl, rfl, sameT sB ht, atI_nat (j := 1) rfl, _, rfl, gr, _, i, _, rfl, rfl, sameT sB hg, atI_nat (nV_at eg), ?_⟩
      have put : ∀ (w : Wd) (B : Hp) (zs : List V) (ac : List Ev), Same H B → B L = some (.lst zs) → Dts K B zs (ac.map evD) → ∀ u, B u = none → ∀ C, C = upd B u (.tup [.str (wdS w), .str (numS c.ds)]) → Same H (upd C L (.lst (zs ++ [.ref u]))) ∧ C L = some (.lst zs) ∧ upd C L (.lst (zs ++ [.ref u])) L = some (.lst (zs ++ [.ref u])) ∧ Dts K (upd C L (.lst (zs ++ [.ref u]))) (zs ++ [.ref u]) ((ac ++ [(w, c.ds)]).map evD) := fun w B zs ac sB hB dB u hu C eC => by
        subst eC
        have sU := same_new (o := .tup [.str (wdS w), .str (numS c.ds)]) hu
        have hU := sU _ _ hB
        refine ⟨same_mut (sB.trans sU) hL, hU, upd_same, ?_⟩
        rw [List.map_append]
        exact ((dB.ks sU).snoc (wd_D w c.ds upd_same)).k (Kt.lst hU)
      refine ⟨fun σ B => σ = [some (.ref l), some (.ref t), some (.int (m : Nat)), some (.ref L), some (.bl fr), some (.int (g : Nat)), some (.int (i : Nat)), some (.ref q)] ∧ Same H B ∧ ∃ zs, B L = some (.lst zs) ∧ Dts K B zs ((acc ++ if g = 0 ∧ openN s.gr < m then [(Wd.call, c.ds)] else []).map evD) ∧ zs.length ≤ 3 * i + 1, ?_, ?_⟩
      · refine ⟨_, rfl, rfl, _, rfl, ite2 (fun c1 => ?_) (fun c1 => ?_)⟩
        · have g0 : g = 0 := by have := V.int.inj (of_decide_eq_true c1); omega
          refine ⟨_, rfl, _, rfl, ite2 (fun c2 => ?_) (fun c2 => ?_)⟩
          · have c2 := efr.mp c2
            refine ⟨_, rfl, .inl ⟨rfl, _, SqL.of hB⟩, _, rfl, q, _, 0, _, rfl, rfl, sameT sB hq, atI_nat (j := 0) rfl, by show 2 ≤ sizeLine; decide, fun u hu => ?_⟩
            obtain ⟨a1, a2, a3, a4⟩ := put .call B zs acc sB hB dB u hu _ rfl
            refine ⟨L, zs, _, rfl, rfl, a2, small1000 (by omega), rfl, a1, _, a3, ?_, by rw [List.length_append]; show zs.length + 1 ≤ _; omega⟩
            rw [if_pos ⟨g0, c2⟩]
            exact a4
          · refine ⟨rfl, sB, zs, hB, ?_, by omega⟩
            rw [if_neg fun z => c2 (efr.mpr z.2), List.append_nil]
            exact dB
        · have g0 : ¬ g = 0 := fun z => c1 (decide_eq_true (by rw [z]; rfl))
          refine ⟨rfl, sB, zs, hB, ?_, by omega⟩
          rw [if_neg fun z => g0 z.1, List.append_nil]
          exact dB
      · rintro σ B2 ⟨rfl, sB2, zs2, hB2, dB2, lz2⟩
        generalize ha2 : (acc ++ if g = 0 ∧ openN s.gr < m then [(Wd.call, c.ds)] else []) = acc2 at dB2
        refine ⟨fun σ B => σ = [some (.ref l), some (.ref t), some (.int (m : Nat)), some (.ref L), some (.bl fr), some (.int (g : Nat)), some (.int (i : Nat)), some (.ref q)] ∧ Same H B ∧ ∃ zs, B L = some (.lst zs) ∧ Dts K B zs ((acc2 ++ if 0 < g ∧ g < 3 then [(Wd.more, c.ds)] else []).map evD) ∧ zs.length ≤ 3 * i + 2, ?_, ?_⟩
        · refine ⟨_, rfl, rfl, _, rfl, ite2 (fun c1 => ?_) (fun c1 => ⟨_, rfl, rfl, _, rfl, ite2 (fun c2 => ?_) (fun c2 => ?_)⟩)⟩
          · have cn : 0 < g ∧ g < 3 := by have := V.int.inj (of_decide_eq_true c1); omega
            refine ⟨_, rfl, .inl ⟨rfl, _, SqL.of hB2⟩, _, rfl, q, _, 0, _, rfl, rfl, sameT sB2 hq, atI_nat (j := 0) rfl, by show 2 ≤ sizeLine; decide, fun u hu => ?_⟩
            obtain ⟨a1, a2, a3, a4⟩ := put .more B2 zs2 acc2 sB2 hB2 dB2 u hu _ rfl
            refine ⟨L, zs2, _, rfl, rfl, a2, small1000 (by omega), rfl, a1, _, a3, ?_, by rw [List.length_append]; show zs2.length + 1 ≤ _; omega⟩
            rw [if_pos cn]
            exact a4
          · have cn : 0 < g ∧ g < 3 := by have := V.int.inj (of_decide_eq_true c2); omega
            refine ⟨_, rfl, .inl ⟨rfl, _, SqL.of hB2⟩, _, rfl, q, _, 0, _, rfl, rfl, sameT sB2 hq, atI_nat (j := 0) rfl, by show 2 ≤ sizeLine; decide, fun u hu => ?_⟩
            obtain ⟨a1, a2, a3, a4⟩ := put .more B2 zs2 acc2 sB2 hB2 dB2 u hu _ rfl
            refine ⟨L, zs2, _, rfl, rfl, a2, small1000 (by omega), rfl, a1, _, a3, ?_, by rw [List.length_append]; show zs2.length + 1 ≤ _; omega⟩
            rw [if_pos cn]
            exact a4
          · have n1 : ¬ g = 1 := fun z => c1 (decide_eq_true (by rw [z]; rfl))
            have n2 : ¬ g = 2 := fun z => c2 (decide_eq_true (by rw [z]; rfl))
            refine ⟨rfl, sB2, zs2, hB2, ?_, by omega⟩
            rw [if_neg (by omega), List.append_nil]
            exact dB2
        · rintro σ B3 ⟨rfl, sB3, zs3, hB3, dB3, lz3⟩
          have ea : acc ++ alI s.gr m (c.ds, g) = (acc2 ++ if 0 < g ∧ g < 3 then [(Wd.more, c.ds)] else []) ++ (if 0 < g then [(Wd.back, c.ds)] else []) := by
            rw [← ha2]
            unfold alI
            simp only [List.append_assoc]
          rw [ea]
          refine ⟨_, rfl, _, _, rfl, rfl, _, rfl, ite2 (fun c1 => ?_) (fun c1 => ?_)⟩
          · have c1 : 0 < g := by have := of_decide_eq_true c1; omega
            refine ⟨_, rfl, .inl ⟨rfl, _, SqL.of hB3⟩, _, rfl, q, _, 0, _, rfl, rfl, sameT sB3 hq, atI_nat (j := 0) rfl, by show 2 ≤ sizeLine; decide, fun u hu => ?_⟩
            obtain ⟨a1, a2, a3, a4⟩ := put .back B3 zs3 _ sB3 hB3 dB3 u hu _ rfl
            refine ⟨L, zs3, _, rfl, rfl, a2, small1000 (by omega), ⟨_, _, _, rfl⟩, a1, _, a3, ?_, by rw [List.length_append]; show zs3.length + 1 ≤ _; omega⟩
            rw [if_pos c1]
            exact a4
          · have c1 : ¬ 0 < g := fun z => c1 (decide_eq_true (by omega))
            refine ⟨⟨_, _, _, rfl⟩, sB3, zs3, hB3, ?_, by omega⟩
            rw [if_neg c1, List.append_nil]
            exact dB3
    · obtain ⟨⟨v5, v6, v7, rfl⟩, sA, zs, hA, dz, lz⟩ := hP
      rw [lx, ← hz, List.take_length] at dz
      exact ⟨_, rfl, k _ L zs sA hA dz (by omega)⟩
theorem ok_made (T : Txt K mg) : FnOk P w K mg base CX0 8 T.a_made T.d_made ["_law_card"] (sp_made K T.CC) := by
  refine T.F_made.ok sc_made (fun vs H Q E h => ?_) (fun cdv A outer s H vs Q E hr h => ?_)
  · obtain ⟨v, c, st, rfl, _⟩ := h
    rfl
  · obtain ⟨v, c, st, rfl, dv, l6, s8, ok, k⟩ := h
    obtain ⟨q, v1, v2, v3, v4, rfl, hq, d1, d2, d3, d4⟩ := cd_five dv
    refine ⟨_, (pss_one (ps_ret (pe_makeK T.mk_cinit (ok_cinit T) (hr.mono (by decide)) (by rfl) T.gCC T.kb_cinit pass0 (pa_cons (pe_ix ix_tup (pv 0) pe_int (fun _ _ => rfl)) (pa_cons (pe_ix ix_tup (pv 0) pe_int (fun _ _ => rfl)) pa_nil)) (pk_cons (pe_ix ix_tup (pv 0) pe_int (fun _ _ => rfl)) (pk_cons (pe_ix ix_tup (pv 0) pe_int (fun _ _ => rfl)) (pk_cons (pe_ix ix_tup (pv 0) pe_int (fun _ _ => rfl)) pk_nil)))))), ?_⟩
    refine ⟨_, rfl, q, _, 0, _, rfl, rfl, hq, atI_nat (j := 0) rfl, _, rfl, q, _, 1, _, rfl, rfl, hq, atI_nat (j := 1) rfl, ?_⟩
    refine ⟨_, rfl, q, _, 2, _, rfl, rfl, hq, atI_nat (j := 2) rfl, _, rfl, q, _, 3, _, rfl, rfl, hq, atI_nat (j := 3) rfl, _, rfl, q, _, 4, _, rfl, rfl, hq, atI_nat (j := 4) rfl, ?_⟩
    refine ⟨rfl, rfl, fun x dx hx hdx ne => ?_⟩
    have s2 : Same H (upd (upd H dx (.own x)) x (.ins T.CC dx [])) := (same_new hdx).trans (same_new (by rw [upd_ne ne.symm]; exact hx))
    refine ⟨x, dx, st, c, v1, v2, v3, v4, rfl, upd_same, l6, s8, ok, d1.ks s2, d2.ks s2, d3.ks s2, d4.ks s2, fun H' bu hc => ⟨rfl, k _ _ (fun p o e => ?_) hc⟩⟩
    exact bu _ _ (fun z => by subst z; rw [hx] at e; cases e) (s2 _ _ e)
end
end K57

namespace K57
open PySem L2 Wm TL Dv
section
variable {P : Program} {w : World} {K : PySem.W.Frag} {mg : Str → Option Value} {base : Heap}
def sp_back (K : PySem.W.Frag) : Sp := fun vs H Q _ => ∃ (a b : Addr) (xs : List V) (pl : List Pl) (st ds : List Nat), vs = [.ref a, .ref b, .str (numS ds)] ∧ H a = some (.lst xs) ∧ Dts K H xs (pl.map plD) ∧ (∀ p ∈ pl, plOk p) ∧ H b = some (.lst (nV st)) ∧ pl.length = st.length ∧ st.length ≤ 6 ∧ (∀ s ∈ st, s ≤ 8) ∧ Num ds ∧
  ∀ H' q l t zs, Same H H' → H' q = some (.tup [.ref l, t]) → H' l = some (.lst zs) → Dts K H' zs ((backP st ds pl).1.map plD) → (∀ p ∈ (backP st ds pl).1, plOk p) → (backP st ds pl).1.length = st.length → Dt K H' t (tdD (backT st ds pl)) → Q (.ref q) H'
def sp_sent (K : PySem.W.Frag) : Sp := fun vs H Q _ => ∃ (a : Addr) (v : V) (g : Nat) (xs : List V) (pl : List Pl) (st : List Nat) (c : Cd), vs = [.ref a, v, .int (g : Nat)] ∧ H a = some (.lst xs) ∧ Dts K H xs (pl.map plD) ∧ (∀ p ∈ pl, plOk p) ∧ Dt K H v (cdD c) ∧ CdOk st c ∧ pl.length = st.length ∧ st.length ≤ 6 ∧ (∀ s ∈ st, s ≤ 8) ∧ 1 ≤ g ∧ g ≤ 3 ∧
  ∀ H' q l t zs, Same H H' → H' q = some (.tup [.ref l, t]) → H' l = some (.lst zs) → Dts K H' zs ((liftP c pl g).1.map plD) → (∀ p ∈ (liftP c pl g).1, plOk p) → (liftP c pl g).1.length = st.length → Dt K H' t (tdD (liftT c pl g)) → Q (.ref q) H'
theorem fine_lst {n : Nat} {ds : List PyData} (h : ∀ d ∈ ds, Fine n d) : Fine (n + 1) (.list ds) := by
  have q : PyData.canLayAll0 ds = true ∧ PyData.depthAll ds ≤ n := by
    induction ds with
    | nil => simp [PyData.canLayAll0, PyData.depthAll]
    | cons d ds ih =>
      have h1 := h d (by simp)
      have h2 := ih fun y m => h y (List.mem_cons_of_mem _ m)
      simp only [PyData.canLayAll0, PyData.depthAll, h1.1, h2.1, Bool.and_self, true_and]
      have := h1.2
      have := h2.2
      omega
  exact ⟨by simp only [PyData.canLay0]; exact q.1, by simp only [PyData.depth]; have := q.2; omega⟩
theorem ne_nil {H : Hp} {D M : Addr} {ks : List Nat} {Q : VK} (hD : H D = some (.lst (nV ks))) (hM : H M = some (.lst [])) (q : Q (.bl (!decide (ks = []))) H) : rNeD K (.ref D) (.ref M) H Q := by
  refine ⟨_, .list [], .lst (SqL.of hD) (dts_nV ks).toDp, .lst (SqL.of hM) .nil, (fine_lst (n := 0) fun d m => ?_).shaped (by decide), (fine_lst (n := 0) fun d m => by cases m).shaped (by decide), ?_⟩
  · obtain ⟨x, _, rfl⟩ := List.mem_map.mp m
    exact fine_int _
  · cases ks with
    | nil => simpa [PyData.eqv, PyData.eqvAll] using q
    | cons k ks => simpa [PyData.eqv, PyData.eqvAll] using q
theorem any_filter (p q : Nat → Bool) : ∀ xs : List Nat, (xs.filter p).any q = !decide (xs.filter (fun k => p k && q k) = [])
  | [] => rfl
  | x :: xs => by
    have ih := any_filter p q xs
    rw [List.filter_cons, List.filter_cons]
    cases hp : p x with
    | false => simpa using ih
    | true =>
      cases hq : q x with
      | false => simpa [hq] using ih
      | true => simp [hq]
def outI (pl : List Pl) (p : Pl) (n : Nat) : List Nat := (List.range n).filter fun i => decide (pl[i]? = some p)
theorem outI_lt {pl : List Pl} {p : Pl} {n i : Nat} (h : i ∈ outI pl p n) : i < n := List.mem_range.mp (List.mem_filter.mp h).1
theorem outI_len (pl : List Pl) (p : Pl) (n : Nat) : (outI pl p n).length ≤ n := by
  have := List.length_filter_le (fun i => decide (pl[i]? = some p)) (List.range n)
  rw [List.length_range] at this
  exact this
theorem outI_yes {pl : List Pl} {p : Pl} {n : Nat} (h : pl[n]? = some p) : outI pl p (n + 1) = outI pl p n ++ [n] := by
  unfold outI
  rw [List.range_succ, List.filter_append, List.filter_cons, if_pos (decide_eq_true h)]
  rfl
theorem outI_no {pl : List Pl} {p : Pl} {n : Nat} (h : pl[n]? ≠ some p) : outI pl p (n + 1) = outI pl p n := by
  unfold outI
  rw [List.range_succ, List.filter_append, List.filter_cons, if_neg (by simpa using h), List.filter_nil, List.append_nil]
theorem inP_snoc (st : List Nat) (pl : List Pl) (rs : List Nat) (n : Nat) : inP st pl (rs ++ [n]) = (inP st pl rs).set n (.ins (st.getD n 0)) := by
  unfold inP
  rw [List.foldl_append]
  rfl
theorem inP_keep {st : List Nat} {i : Nat} : ∀ {rs : List Nat} {pl : List Pl}, i ∉ rs → (inP st pl rs)[i]? = pl[i]?
  | [], _, _ => rfl
  | r :: rs, pl, h => by
    have h1 : i ≠ r := fun e => h (by rw [e]; exact List.mem_cons_self ..)
    have h2 : i ∉ rs := fun m => h (List.mem_cons_of_mem _ m)
    show (inP st (pl.set r _) rs)[i]? = _
    rw [inP_keep h2, List.getElem?_set_ne (fun e => h1 e.symm)]
theorem ok_back (T : Txt K mg) : FnOk P w K mg base CX0 1 T.a_back T.d_back ["_law_places", "_law_stations", "_law_number_here"] (sp_back K) := by
  refine T.F_back.ok sc_back (fun vs H Q E h => ?_) (fun cdv A outer s H vs Q E hr h => ?_)
  · obtain ⟨a, b, xs, pl, st, ds, rfl, _⟩ := h
    rfl
  · obtain ⟨a, b, xs, pl, st, ds, rfl, ha, hd, okp, hb, lp, l6, s8, N, k⟩ := h
    have lx := hd.len
    rw [List.length_map] at lx
    have okO : plOk (.out ds) := N
    have so3 : ∀ n, n < st.length → st.getD n 0 ≤ 8 := fun n hn => s8 _ (List.mem_of_getElem? (getD_at hn))
    refine ⟨_, (pss_cons (ps_asg (pe_tup (pa_cons (pe_callTy call_list_of (by rfl) T.z_list (by decide +kernel) (pa_cons (pv 0) pa_nil)) (pa_cons (pe_lst pa_nil) (pa_cons (pe_lst pa_nil) pa_nil)))) (pg_tup rfl (pgs_cons (pg_name (i := 0) sc_back.nd rfl (Or.inr rfl)) (pgs_cons (pg_name (i := 3) sc_back.nd rfl (Or.inl rfl)) (pgs_cons (pg_name (i := 4) sc_back.nd rfl (Or.inl rfl)) pgs_nil)))))
      (pss_cons (ps_for PassesOwn.never rfl (pi_range1 (by rfl) T.z_range (pa_cons (pe_callB call_len_seq (by rfl) T.z_len PySem.boot_len (pa_cons (pv 0) pa_nil)) pa_nil)) (pg_name (i := 5) sc_back.nd rfl (Or.inl rfl))
        (pss_one (ps_if (pt_cmpR (op_eqD hr.units) (pe_ix ix_list (pv 0) (pv 5) (fun _ _ => rfl)) (pe_tup (pa_cons pe_str (pa_cons (pv 2) pa_nil))) (nomark _))
          (pss_cons (ps_asg (pe_tup (pa_cons pe_str (pa_cons (pe_ix ix_list (pv 1) (pv 5) (fun _ _ => rfl)) pa_nil))) (pg_sub (pv 0) (pv 5) set_list))
          (pss_one (ps_expr (pe_bm PySem.F.plainAttrs_list PySem.F.slot_list_append PySem.F.type_list_append mt_append (pv 3) (pa_cons (pv 5) pa_nil)))))
          pss_nil)))
      (pss_cons (ps_for PassesOwn.never rfl (pi_range1 (by rfl) T.z_range (pa_cons (pe_callB call_len_seq (by rfl) T.z_len PySem.boot_len (pa_cons (pv 0) pa_nil)) pa_nil)) (pg_name (i := 5) sc_back.nd rfl (Or.inl rfl))
        (pss_one (ps_if (PW.pt (pw_and (pt_cmpR op_eq (pe_ix ix_tup (pe_ix ix_list (pv 0) (pv 5) (fun _ _ => rfl)) pe_int (fun _ _ => rfl)) pe_str (nomark _)) (pw_and1 (pt_cmpR op_ne (pe_ix ix_tup (pe_ix ix_list (pv 0) (pv 5) (fun _ _ => rfl)) pe_int (fun _ _ => rfl)) (pe_ix ix_list (pv 1) (pv 5) (fun _ _ => rfl)) (nomark _)))))
          (pss_cons (ps_set (i := 6) sc_back.nd rfl (Or.inr rfl) (pe_ix ix_tup (pe_ix ix_list (pv 0) (pv 5) (fun _ _ => rfl)) pe_int (fun _ _ => rfl)))
          (pss_one (ps_if (pt_cmpR (op_neD hr.units) (pe_lc (own := [("_law_k", 7)]) (g := gName 7) rfl sc_back.nd (pi_range1 (by rfl) T.z_range (pa_cons (pe_callB call_len_seq (by rfl) T.z_len PySem.boot_len (pa_cons (pv 0) pa_nil)) pa_nil)) (blkOk_by (own := [("_law_k", 7)]) (N := nm_back) (sc := (defScope s_back)) (by decide +kernel)) (fun _ _ _ _ _ => pg_name (i := 7) sc_back.nd rfl (Or.inl rfl)) (fun _ _ _ _ _ => (pts_one (PW.pt (pw_and (pt_cmpR (show OpR _ _ (rEqD K) from op_eqD hr.units) (pe_ix (show IxR _ (rIxL K) from ix_list) (pv 0) (pv 7) (fun _ _ => rfl)) (pe_tup (pa_cons pe_str (pa_cons (pv 6) pa_nil))) (nomark _)) (pw_and1 (pt_cmpR op_eq (pe_ix (show IxR _ (rIxL K) from ix_list) (pv 1) (pv 7) (fun _ _ => rfl)) (pv 6) (nomark _))))))) (fun _ _ _ _ _ => (pv 7))) (pe_lst pa_nil) (nomark _))
            (pss_cons (ps_asg (pe_tup (pa_cons pe_str (pa_cons (pe_ix ix_list (pv 1) (pv 5) (fun _ _ => rfl)) pa_nil))) (pg_sub (pv 0) (pv 5) set_list))
            (pss_one (ps_expr (pe_bm PySem.F.plainAttrs_list PySem.F.slot_list_append PySem.F.type_list_append mt_append (pv 4) (pa_cons (pv 5) pa_nil)))))
            pss_nil)))
          pss_nil)))
      (pss_one (ps_ret (pe_tup (pa_cons (pv 0) (pa_cons (pe_tup (pa_cons (pe_callTy call_tuple_of (by rfl) T.z_tuple (by decide +kernel) (pa_cons (pv 3) pa_nil)) (pa_cons (pe_callTy call_tuple_of (by rfl) T.z_tuple (by decide +kernel) (pa_cons (pv 4) pa_nil)) pa_nil))) pa_nil)))))))), ?_⟩
    refine ⟨_, rfl, a, xs, rfl, .inl (SqL.of ha), fun l hl => ?_⟩
    have s1 := same_new (o := .lst xs) hl
    have hl1 : upd H l (.lst xs) l = some (.lst xs) := upd_same
    generalize upd H l (.lst xs) = H1 at s1 hl1 ⊢
    refine ⟨by show 0 ≤ sizeLine; decide, fun R hR => ?_⟩
    have s2 := same_new (o := .lst []) hR
    have hR2 : upd H1 R (.lst []) R = some (.lst []) := upd_same
    have nlR : l ≠ R := fun e => by subst e; rw [hR] at hl1; cases hl1
    have hRH := none_of s1 hR
    generalize upd H1 R (.lst []) = H2 at s2 hR2 ⊢
    refine ⟨by show 0 ≤ sizeLine; decide, fun M hM => ?_⟩
    have s3 := same_new (o := .lst []) hM
    have hM3 : upd H2 M (.lst []) M = some (.lst []) := upd_same
    have nRM : R ≠ M := fun e => by subst e; rw [hM] at hR2; cases hR2
    have nlM : l ≠ M := fun e => by subst e; rw [s2 _ _ hl1] at hM; cases hM
    have hMH := none_of (s1.trans s2) hM
    generalize upd H2 M (.lst []) = H3 at s3 hM3 ⊢
    refine ⟨by show 3 ≤ sizeLine; decide, fun u hu => ?_⟩
    have s4 := same_new (o := .tup [.ref l, .ref R, .ref M]) hu
    refine ⟨u, _, rfl, SqT.of upd_same, rfl, _, _, rfl, _, _, rfl, _, _, rfl, rfl, ?_⟩
    have hl4 := s4 _ _ (s3 _ _ (s2 _ _ hl1))
    have hR4 := s4 _ _ (s3 _ _ hR2)
    have hM4 := s4 _ _ hM3
    have sA := (s1.trans s2).trans (s3.trans s4)
    generalize upd H3 u (.tup [.ref l, .ref R, .ref M]) = H4 at sA hl4 hR4 hM4 ⊢
    clear s1 hl1 s2 hR2 hR hM3 s3 s4 hu hM
    refine ⟨_, rfl, l, _, rfl, .inl (SqL.of hl4), _, rfl, by omega, by omega, ?_⟩
    rw [Int.toNat_natCast]
    refine for_range (fun i σ A => (∃ v5 v6 v7, σ = [some (.ref l), some (.ref b), some (.str (numS ds)), some (.ref R), some (.ref M), v5, v6, v7]) ∧ Same H A ∧ A M = some (.lst []) ∧ A R = some (.lst (nV (outI pl (.out ds) i))) ∧ (∀ q ∈ inP st pl (outI pl (.out ds) i), plOk q) ∧ ∃ zs, A l = some (.lst zs) ∧ Dts K A zs ((inP st pl (outI pl (.out ds) i)).map plD))
      ⟨⟨none, none, none, rfl⟩, sA, hM4, hR4, okp, xs, hl4, hd.ks sA⟩ (fun i σ A hi hP => ?_) (fun σ A hP => ?_)
    · obtain ⟨⟨v5, v6, v7, rfl⟩, sA, hMA, hRA, okA, zs, hlA, dA⟩ := hP
      rw [Int.zero_add]
      have hz := List.getElem?_eq_getElem (l := pl) (i := i) (by omega)
      generalize pl[i]'(by omega) = z at hz
      have hzi : (inP st pl (outI pl (.out ds) i))[i]? = some z := by rw [inP_keep (fun m => absurd (outI_lt m) (by omega))]; exact hz
      obtain ⟨zv, hzv, dz⟩ := pls_get dA hzi
      have lz := dA.len
      rw [List.length_map, inP_len] at lz
      refine ⟨_, rfl, _, rfl, l, _, _, _, rfl, rfl, SqL.of hlA, atI_nat hzv, _, rfl, by show 2 ≤ sizeLine; decide, fun u hu => ?_⟩
      have sU := same_new (o := .tup [.str "out", .str (numS ds)]) hu
      refine ⟨_, _, (dz.ks sU).toDp, (dt_pl (p := .out ds) upd_same).toDp, (fine_pl (okA z (List.mem_of_getElem? hzi))).shaped (by decide), (fine_pl okO).shaped (by decide), _, rfl, ?_⟩
      have sB := sA.trans sU
      have hMB := sU _ _ hMA
      have hRB := sU _ _ hRA
      have hlB := sU _ _ hlA
      have dB := dA.ks sU
      generalize upd A u (.tup [.str "out", .str (numS ds)]) = B at sB hMB hRB hlB dB ⊢
      have ol := outI_len pl (.out ds) i
      rw [eqv_pl]
      refine ite2 (fun c => ?_) (fun c => ?_)
      · have c : z = .out ds := of_decide_eq_true c
        subst c
        refine ⟨_, rfl, _, rfl, b, _, _, _, rfl, rfl, SqL.of (sB _ _ hb), atI_nat (nV_at (getD_at (xs := st) (i := i) (by omega))), by show 2 ≤ sizeLine; decide, fun u2 hu2 => ?_⟩
        obtain ⟨a1, a2, a3, a4, a5⟩ := put_pl (i := i) (p := .ins (st.getD i 0)) sB hl hlB dB hu2
        refine ⟨_, rfl, _, rfl, l, _, _, i, rfl, rfl, a2, ixN_nat (by omega), ?_⟩
        have hRZ := a5 _ _ nlR.symm hRB
        have hMZ := a5 _ _ nlM.symm hMB
        refine ⟨_, rfl, .inl ⟨rfl, _, SqL.of hRZ⟩, _, rfl, R, _, _, rfl, rfl, hRZ, by rw [nV_len]; exact small1000 (by omega), ?_⟩
        rw [outI_yes hz, inP_snoc]
        have en : nV (outI pl (.out ds) i) ++ [V.int ((i : Nat) : Int)] = nV (outI pl (.out ds) i ++ [i]) := by unfold nV; rw [List.map_append]; rfl
        rw [en]
        exact ⟨⟨_, _, _, rfl⟩, same_mut a1 hRH, by rw [upd_ne nRM.symm]; exact hMZ, upd_same, ok_set okA (so3 i (by omega)), _, by rw [upd_ne nlR]; exact a3, a4.k (Kt.lst hRZ)⟩
      · have c : ¬ z = .out ds := fun e => c (decide_eq_true e)
        rw [outI_no (by rw [hz]; exact fun e => c (Option.some.inj e))]
        exact ⟨⟨_, _, _, rfl⟩, sB, hMB, hRB, okA, _, hlB, dB⟩
    · obtain ⟨⟨v5, v6, v7, rfl⟩, sA, hMA, hRA, okA, zs, hlA, dA⟩ := hP
      have e1 : backP st ds pl = homeF st (inP st pl (atL pl (.out ds))) st.length := rfl
      have e2 : backT st ds pl = .back (atL pl (.out ds)) (backP st ds pl).2 := rfl
      have e3 : outI pl (.out ds) xs.length = atL pl (.out ds) := by rw [lx]; rfl
      rw [e2, e1] at k
      rw [e3] at hRA okA dA
      have rl := atL_len pl (.out ds)
      have lq := inP_len st (atL pl (.out ds)) pl
      generalize inP st pl (atL pl (.out ds)) = pl1 at okA dA k lq
      generalize atL pl (.out ds) = rs at hRA k rl
      have lz := dA.len
      rw [List.length_map] at lz
      refine ⟨_, rfl, l, _, rfl, .inl (SqL.of hlA), _, rfl, by omega, by omega, ?_⟩
      rw [Int.toNat_natCast]
      refine for_range (fun i σ A => (∃ v5 v6 v7, σ = [some (.ref l), some (.ref b), some (.str (numS ds)), some (.ref R), some (.ref M), v5, v6, v7]) ∧ Same H A ∧ A R = some (.lst (nV rs)) ∧ A M = some (.lst (nV (homeF st pl1 i).2)) ∧ (∀ q ∈ (homeF st pl1 i).1, plOk q) ∧ ∃ zs, A l = some (.lst zs) ∧ Dts K A zs ((homeF st pl1 i).1.map plD))
        ⟨⟨v5, v6, v7, rfl⟩, sA, hRA, hMA, okA, zs, hlA, dA⟩ (fun i σ A hi hP => ?_) (fun σ A hP => ?_)
      · obtain ⟨⟨v5, v6, v7, rfl⟩, sA, hRA, hMA, okA, zs, hlA, dA⟩ := hP
        rw [Int.zero_add]
        have hl0 := homeF_len st pl1 i
        rw [homeF_succ]
        unfold homeS
        generalize homeF st pl1 i = x at hl0 hMA okA dA ⊢
        obtain ⟨px, hx⟩ := x
        have hl1 : px.length = pl1.length := hl0.1
        have hl2 : hx.length ≤ i := hl0.2
        have okA : ∀ q ∈ px, plOk q := okA
        have dA : Dts K A zs (px.map plD) := dA
        have hMA : A M = some (.lst (nV hx)) := hMA
        have lz := dA.len
        rw [List.length_map] at lz
        have hz := List.getElem?_eq_getElem (l := px) (i := i) (by omega)
        generalize px[i]'(by omega) = z at hz
        obtain ⟨zv, hzv, dz⟩ := pls_get dA hz
        obtain ⟨z3, rfl, hz3⟩ := pl_two dz
        refine ⟨_, rfl, _, rfl, l, _, _, _, rfl, rfl, SqL.of hlA, atI_nat hzv, z3, _, 0, _, rfl, rfl, hz3, atI_nat (j := 0) rfl, rfl, _, rfl, ?_⟩
        rw [eq_in]
        have no : homeB st px i = false → (∀ v5 v6 v7 : Option V, (∃ v5' v6' v7', ([some (.ref l), some (.ref b), some (.str (numS ds)), some (.ref R), some (.ref M), v5, v6, v7] : L2.St) = [some (.ref l), some (.ref b), some (.str (numS ds)), some (.ref R), some (.ref M), v5', v6', v7'])) := fun _ _ _ _ => ⟨_, _, _, rfl⟩
        refine ite2 (fun c => ?_) (fun c => ?_)
        · cases z with
          | out o => cases c
          | ins m =>
            have m8 : m ≤ 8 := okA _ (List.mem_of_getElem? hz)
            have hz3 : SqT K A z3 [.str "in", .int (m : Nat)] := hz3
            have eg := getD_at (xs := st) (i := i) (by omega)
            have eB : homeB st px i = (!decide (m = st.getD i 0) && !decide (((List.range px.length).filter fun k => decide (px[k]? = some (.ins m)) && decide (st.getD k 0 = m)) = [])) := by
              unfold homeB
              rw [hz]
              show (decide (m ≠ _) && (atL px (.ins m)).any _) = _
              unfold atL
              rw [any_filter]
              congr 1
              by_cases e : m = st.getD i 0 <;> simp [e]
            refine ⟨_, rfl, _, rfl, l, _, _, _, rfl, rfl, SqL.of hlA, atI_nat hzv, z3, _, 1, _, rfl, rfl, hz3, atI_nat (j := 1) rfl, _, rfl, _, rfl, b, _, _, _, rfl, rfl, SqL.of (sA _ _ hb), atI_nat (nV_at eg), rfl, _, rfl, ?_⟩
            have ed : (!decide (V.int ((m : Nat) : Int) = V.int ((st.getD i 0 : Nat) : Int))) = !decide (m = st.getD i 0) := by
              congr 1
              exact decide_eq_decide.mpr ⟨fun e => by have := V.int.inj e; omega, fun e => by rw [e]⟩
            show if (!decide (V.int ((m : Nat) : Int) = V.int ((st.getD i 0 : Nat) : Int))) = true then _ else _
            rw [ed]
            refine ite2 (fun c2 => ?_) (fun c2 => ?_)
            · rw [c2, Bool.true_and] at eB
              refine ⟨_, rfl, _, rfl, l, _, _, _, rfl, rfl, SqL.of hlA, atI_nat hzv, z3, _, 1, _, rfl, rfl, hz3, atI_nat (j := 1) rfl, ?_⟩
              refine ⟨_, rfl, l, _, rfl, .inl (SqL.of hlA), _, rfl, by omega, by omega, fun D hD => ?_⟩
              rw [Int.toNat_natCast]
              refine lc_range (fun j B => Same A B ∧ B D = some (.lst (nV ((List.range j).filter fun k => decide (px[k]? = some (.ins m)) && decide (st.getD k 0 = m))))) ⟨same_new hD, upd_same⟩ (fun j B hj hP => ?_) (fun B hP => ?_)
              · obtain ⟨sB, hB⟩ := hP
                rw [Int.zero_add]
                have hw := List.getElem?_eq_getElem (l := px) (i := j) (by omega)
                generalize px[j]'(by omega) = w at hw
                obtain ⟨wv, hwv, dw⟩ := pls_get dA hw
                have ej := getD_at (xs := st) (i := j) (by omega)
                have fl : ((List.range j).filter fun k => decide (px[k]? = some (.ins m)) && decide (st.getD k 0 = m)).length ≤ j := by
                  have := List.length_filter_le (fun k => decide (px[k]? = some (.ins m)) && decide (st.getD k 0 = m)) (List.range j)
                  rw [List.length_range] at this
                  exact this
                refine ⟨rfl, _, rfl, _, rfl, l, _, _, _, rfl, rfl, SqL.of (sB _ _ hlA), atI_nat hwv, _, rfl, by show 2 ≤ sizeLine; decide, fun u hu => ?_⟩
                have sU := same_new (o := .tup [.str "in", .int (m : Nat)]) hu
                have dI : Dt K (upd B u (.tup [.str "in", .int (m : Nat)])) (.ref u) (plD (.ins m)) := dt_pl (p := .ins m) upd_same
                refine ⟨_, _, ((dw.ks sB).ks sU).toDp, dI.toDp, (fine_pl (okA w (List.mem_of_getElem? hw))).shaped (by decide), (fine_pl (p := .ins m) m8).shaped (by decide), _, rfl, ?_⟩
                have sC := sB.trans sU
                have hC := sU _ _ hB
                generalize upd B u (.tup [.str "in", .int (m : Nat)]) = C at sC hC ⊢
                rw [eqv_pl, List.range_succ, List.filter_append, List.filter_cons, List.filter_nil, hw]
                have noj : (decide (some w = some (Pl.ins m)) && decide (st.getD j 0 = m)) = false → C D = some (.lst (nV (((List.range j).filter fun k => decide (px[k]? = some (.ins m)) && decide (st.getD k 0 = m)) ++ if (decide (some w = some (Pl.ins m)) && decide (st.getD j 0 = m)) = true then [j] else []))) := fun e => by
                  rw [e, if_neg (by decide), List.append_nil]
                  exact hC
                refine ite2 (fun c3 => ?_) (fun c3 => ?_)
                · have c3 : w = .ins m := of_decide_eq_true c3
                  subst c3
                  refine ⟨_, rfl, _, rfl, b, _, _, _, rfl, rfl, SqL.of (sC _ _ (sA _ _ hb)), atI_nat (nV_at ej), _, rfl, rfl, _, rfl, ite2 (fun c4 => ?_) (fun c4 => ?_)⟩
                  · have c4 : st.getD j 0 = m := by have := V.int.inj (of_decide_eq_true c4); omega
                    refine ⟨_, rfl, _, hC, by rw [nV_len]; exact small1000 (by omega), same_mut sC hD, ?_⟩
                    rw [upd_same, if_pos (by rw [c4]; simp)]
                    unfold nV
                    rw [List.map_append]
                    rfl
                  · have c4 : ¬ st.getD j 0 = m := fun z => c4 (decide_eq_true (by rw [z]))
                    exact ⟨sC, noj (by rw [decide_eq_false c4, Bool.and_false])⟩
                · have c3 : ¬ w = .ins m := fun z => c3 (decide_eq_true z)
                  exact ⟨sC, noj (by rw [decide_eq_false (fun z => c3 (Option.some.inj z)), Bool.false_and])⟩
              · obtain ⟨sB, hB⟩ := hP
                rw [lz] at hB
                refine ⟨by show 0 ≤ sizeLine; decide, fun F hF => ?_⟩
                have sF := same_new (o := .lst []) hF
                refine ne_nil (sF _ _ hB) upd_same ⟨_, rfl, ?_⟩
                have sC := sB.trans sF
                generalize upd B F (.lst []) = C at sC ⊢
                rw [← eB]
                have sHC := sA.trans sC
                have hlC := sC _ _ hlA
                have hMC := sC _ _ hMA
                have hRC := sC _ _ hRA
                have dC := dA.ks sC
                refine ite2 (fun c5 => ?_) (fun c5 => ?_)
                · rw [if_pos c5]
                  refine ⟨_, rfl, _, rfl, b, _, _, _, rfl, rfl, SqL.of (sHC _ _ hb), atI_nat (nV_at eg), by show 2 ≤ sizeLine; decide, fun u2 hu2 => ?_⟩
                  obtain ⟨a1, a2, a3, a4, a5⟩ := put_pl (i := i) (p := .ins (st.getD i 0)) sHC hl hlC dC hu2
                  refine ⟨_, rfl, _, rfl, l, _, _, i, rfl, rfl, a2, ixN_nat (by omega), ?_⟩
                  have hRZ := a5 _ _ nlR.symm hRC
                  have hMZ := a5 _ _ nlM.symm hMC
                  refine ⟨_, rfl, .inl ⟨rfl, _, SqL.of hMZ⟩, _, rfl, M, _, _, rfl, rfl, hMZ, by rw [nV_len]; exact small1000 (by omega), ?_⟩
                  have en : nV hx ++ [V.int ((i : Nat) : Int)] = nV (hx ++ [i]) := by unfold nV; rw [List.map_append]; rfl
                  rw [en]
                  exact ⟨⟨_, _, _, rfl⟩, same_mut a1 hMH, by rw [upd_ne nRM]; exact hRZ, upd_same, ok_set okA (so3 i (by omega)), _, by rw [upd_ne nlM]; exact a3, a4.k (Kt.lst hMZ)⟩
                · rw [if_neg c5]
                  exact ⟨⟨_, _, _, rfl⟩, sHC, hRC, hMC, okA, _, hlC, dC⟩
            · have eB : homeB st px i = false := by rw [eB, show (!decide (m = st.getD i 0)) = false by simpa using c2, Bool.false_and]
              rw [eB]
              exact ⟨⟨_, _, _, rfl⟩, sA, hRA, hMA, okA, _, hlA, dA⟩
        · cases z with
          | ins m => exact absurd rfl c
          | out o =>
            have eB : homeB st px i = false := by unfold homeB; rw [hz]
            rw [eB]
            exact ⟨⟨_, _, _, rfl⟩, sA, hRA, hMA, okA, _, hlA, dA⟩
      · obtain ⟨⟨v5, v6, v7, rfl⟩, sA, hRA, hMA, okA, zs2, hlA, dA⟩ := hP
        have en : zs.length = st.length := by omega
        rw [en] at hMA okA dA
        have hl0 := homeF_len st pl1 st.length
        generalize homeF st pl1 st.length = x at hMA okA dA k hl0
        obtain ⟨px, hx⟩ := x
        have hl1 : px.length = pl1.length := hl0.1
        refine ⟨_, rfl, _, rfl, R, _, rfl, .inl ⟨SqL.of hRA, fun u1 hu1 => ?_⟩⟩
        have sU1 := same_new (o := .tup (nV rs)) hu1
        refine ⟨_, rfl, M, _, rfl, .inl ⟨SqL.of (sU1 _ _ hMA), fun u2 hu2 => ?_⟩⟩
        have sU2 := same_new (o := .tup (nV hx)) hu2
        have hu22 : upd (upd A u1 (.tup (nV rs))) u2 (.tup (nV hx)) u2 = some (.tup (nV hx)) := upd_same
        have hu12 := sU2 u1 (.tup (nV rs)) upd_same
        have sU := sU1.trans sU2
        generalize upd (upd A u1 (.tup (nV rs))) u2 (.tup (nV hx)) = A3 at hu22 hu12 sU ⊢
        refine ⟨by show 2 ≤ sizeLine; decide, fun u3 hu3 => ?_⟩
        have sU3 := same_new (o := .tup [.ref u1, .ref u2]) hu3
        have hu33 : upd A3 u3 (.tup [.ref u1, .ref u2]) u3 = some (.tup [.ref u1, .ref u2]) := upd_same
        have d12 : Dt K (upd A3 u3 (.tup [.ref u1, .ref u2])) (.ref u3) (tdD (.back rs hx)) := dt_tup hu33 (.cons ((dt_iD hu12).ks sU3) (.cons ((dt_iD hu22).ks sU3) .nil))
        have sZ := sU.trans sU3
        generalize upd A3 u3 (.tup [.ref u1, .ref u2]) = A4 at d12 sZ ⊢
        refine ⟨by show 2 ≤ sizeLine; decide, fun u4 hu4 => ?_⟩
        have sU4 := same_new (o := .tup [.ref l, .ref u3]) hu4
        exact k _ _ l (.ref u3) zs2 ((sA.trans sZ).trans sU4) upd_same (sU4 _ _ (sZ _ _ hlA)) ((dA.ks sZ).ks sU4) okA (by show px.length = _; omega) (d12.ks sU4)
end
end K57

namespace K57
open PySem L2 Wm TL Dv
section
variable {P : Program} {w : World} {K : PySem.W.Frag} {mg : Str → Option Value} {base : Heap}
theorem others_nil {px : List Pl} {c : Nat} {z : Pl} (h : px[c]? = some z) : decide (((List.range px.length).filter fun k => !decide (k = c) && decide (px[k]? = some z)) = []) = !decide (1 < (atL px z).length) := by
  have hc : c < px.length := (List.getElem?_eq_some_iff.mp h).1
  have e1 : ((List.range px.length).filter fun k => !decide (k = c) && decide (px[k]? = some z)) = (atL px z).filter fun k => !decide (k = c) := by
    unfold atL
    rw [List.filter_filter]
  have nd : (atL px z).Nodup := (List.nodup_range).filter _
  have mc : c ∈ atL px z := List.mem_filter.mpr ⟨List.mem_range.mpr hc, decide_eq_true h⟩
  have e2 : ((atL px z).filter fun k => !decide (k = c)) = (atL px z).erase c := by
    rw [nd.erase_eq_filter]
    refine List.filter_congr fun k _ => ?_
    by_cases e : k = c <;> simp [e, bne]
  rw [e1, e2]
  have le := List.length_erase_of_mem mc
  have : (atL px z).erase c = [] ↔ ¬ 1 < (atL px z).length := by
    rw [← List.length_eq_zero_iff, le]
    have := List.length_pos_of_mem mc
    omega
  by_cases e : 1 < (atL px z).length
  · rw [decide_eq_true e, decide_eq_false (fun z => (this.mp z) e)]
    rfl
  · rw [decide_eq_false e, decide_eq_true (this.mpr e)]
    rfl
theorem any_pl (px : List Pl) (p : Pl) : (!(px.map plD).any fun z => PyData.eqv z (plD p)) = decide (atL px p = []) := by
  have e : ((px.map plD).any fun z => PyData.eqv z (plD p)) = decide (p ∈ px) := by
    induction px with
    | nil => simp
    | cons q px ih =>
      rw [List.map_cons, List.any_cons, ih, eqv_pl]
      by_cases e : q = p
      · subst e; simp
      · have : ¬ p = q := fun z => e z.symm
        simp [e, this]
  rw [e]
  have : atL px p = [] ↔ p ∉ px := by
    unfold atL
    rw [List.filter_eq_nil_iff]
    constructor
    · intro h m
      obtain ⟨i, hi, e⟩ := List.getElem_of_mem m
      exact h i (List.mem_range.mpr hi) (decide_eq_true (by rw [List.getElem?_eq_getElem hi, e]))
    · intro h i _ e
      exact h (List.mem_of_getElem? (of_decide_eq_true e))
  by_cases c : p ∈ px
  · rw [decide_eq_true c, decide_eq_false (fun z => this.mp z c)]; rfl
  · rw [decide_eq_false c, decide_eq_true (this.mpr c)]; rfl
theorem plain_pl (p : Pl) : (plD p).plain = true := by cases p <;> simp [plD, PyData.plain, PyData.plainAll]
theorem plain_pls (px : List Pl) : PyData.plainAll (px.map plD) = true := by
  induction px with
  | nil => simp [PyData.plainAll]
  | cons q px ih =>
    rw [List.map_cons]
    simp only [PyData.plainAll, plain_pl, ih, Bool.and_self]
theorem count_range (p : Pl) : ∀ (px : List Pl) (n : Nat), (px.countP fun q => decide (q = p)) = ((List.range' n px.length).filter fun i => decide (px[i - n]? = some p)).length
  | [], _ => rfl
  | q :: px, n => by
    have ih := count_range p px (n + 1)
    rw [List.length_cons, List.range'_succ, List.filter_cons, List.countP_cons, ih, Nat.sub_self]
    have e : ((List.range' (n + 1) px.length).filter fun i => decide ((q :: px)[i - n]? = some p)) = ((List.range' (n + 1) px.length).filter fun i => decide (px[i - (n + 1)]? = some p)) := by
      refine List.filter_congr fun i m => ?_
      have := (List.mem_range'_1.mp m).1
      rw [show i - n = (i - (n + 1)) + 1 by omega, List.getElem?_cons_succ]
    rw [e]
    by_cases c : q = p
    · subst c; simp
    · simp [c]
theorem count_pl (px : List Pl) (p : Pl) : ((px.map plD).countP fun z => PyData.eqv z (plD p)) = (atL px p).length := by
  rw [List.countP_map]
  have e : ((fun z => PyData.eqv z (plD p)) ∘ plD) = fun q => decide (q = p) := funext fun q => eqv_pl q p
  rw [e, count_range p px 0]
  unfold atL
  rw [List.range_eq_range']
  rfl
theorem lay_pls {px : List Pl} (h : ∀ p ∈ px, plOk p) : PyData.canLayAll0 (px.map plD) = true := by
  induction px with
  | nil => simp [PyData.canLayAll0]
  | cons q px ih =>
    have h1 := (fine_pl (h q (List.mem_cons_self ..))).1
    have h2 := ih fun p m => h p (List.mem_cons_of_mem _ m)
    rw [List.map_cons]
    simp only [PyData.canLayAll0, h1, h2, Bool.and_self]
theorem goL_yes {pl : List Pl} {order : List Nat} {k i n : Nat} (h : order[i]? = some n) (a : isIn pl n = true) (l : (goL pl (order.take i) k).length < k) : goL pl (order.take (i + 1)) k = goL pl (order.take i) k ++ [n] := by
  unfold goL at *
  rw [tk_succ' h, List.filter_append, List.filter_cons, if_pos a, List.filter_nil]
  generalize (order.take i).filter (isIn pl) = xs at l ⊢
  rw [List.length_take] at l
  rw [List.take_of_length_le (by rw [List.length_append]; show xs.length + 1 ≤ k; omega), List.take_of_length_le (by omega)]
theorem goL_no {pl : List Pl} {order : List Nat} {k i n : Nat} (h : order[i]? = some n) (a : isIn pl n = false ∨ ¬ (goL pl (order.take i) k).length < k) : goL pl (order.take (i + 1)) k = goL pl (order.take i) k := by
  unfold goL at *
  rw [tk_succ' h, List.filter_append, List.filter_cons, List.filter_nil]
  generalize (order.take i).filter (isIn pl) = xs at a ⊢
  rw [List.length_take] at a
  cases e : isIn pl n with
  | false => rw [if_neg (by decide), List.append_nil]
  | true =>
    rw [e] at a
    have : k ≤ xs.length := by
      rcases a with a | a
      · cases a
      · omega
    rw [if_pos rfl, List.take_append_of_le_length this]
theorem goL_len (pl : List Pl) (order : List Nat) (k : Nat) : (goL pl order k).length ≤ order.length := by
  unfold goL
  have := List.length_filter_le (isIn pl) order
  rw [List.length_take]
  omega
theorem ok_sent (T : Txt K mg) : FnOk P w K mg base CX0 1 T.a_sent T.d_sent ["_law_places", "_law_card", "_law_grade"] (sp_sent K) := by
  refine T.F_sent.ok sc_sent (fun vs H Q E h => ?_) (fun cdv A outer s H vs Q E hr h => ?_)
  · obtain ⟨a, v, g, xs, pl, st, c, rfl, _⟩ := h
    rfl
  · obtain ⟨a, v, g, xs, pl, st, c, rfl, ha, hd, okp, dv, cok, lp, l6, s8, g1, g3, k⟩ := h
    have lx := hd.len
    rw [List.length_map] at lx
    obtain ⟨cq, v1, v2, v3, v4, rfl, hcq, e1, e2, e3, e4⟩ := cd_five dv
    obtain ⟨q1, rfl, h1⟩ := dt_ints e1
    obtain ⟨q2, rfl, h2⟩ := dt_ints e2
    obtain ⟨q3, rfl, h3⟩ := dt_ints e3
    obtain ⟨q4, ms, rfl, h4, hm⟩ := e4.inv
    have oc : plOk (.out c.ds) := cok.num
    refine ⟨_, (pss_cons (ps_asg (pv 1) (pg_tup rfl (pgs_cons (pg_name (i := 3) sc_sent.nd rfl (Or.inl rfl)) (pgs_cons (pg_name (i := 4) sc_sent.nd rfl (Or.inl rfl)) (pgs_cons (pg_name (i := 5) sc_sent.nd rfl (Or.inl rfl)) (pgs_cons (pg_name (i := 6) sc_sent.nd rfl (Or.inl rfl)) (pgs_cons (pg_name (i := 7) sc_sent.nd rfl (Or.inl rfl)) pgs_nil)))))))
      (pss_cons (ps_asg (pe_tup (pa_cons (pe_callTy call_list_of (by rfl) T.z_list (by decide +kernel) (pa_cons (pv 0) pa_nil)) (pa_cons (pe_lst pa_nil) (pa_cons (pe_lst pa_nil) pa_nil)))) (pg_tup rfl (pgs_cons (pg_name (i := 0) sc_sent.nd rfl (Or.inr rfl)) (pgs_cons (pg_name (i := 8) sc_sent.nd rfl (Or.inl rfl)) (pgs_cons (pg_name (i := 9) sc_sent.nd rfl (Or.inl rfl)) pgs_nil)))))
      (pss_cons (ps_for PassesOwn.never rfl (pi_tup (pv 4)) (pg_name (i := 10) sc_sent.nd rfl (Or.inr rfl))
        (pss_one (ps_if (PW.pt (pw_and (pt_cmpR op_eq (pe_ix ix_tup (pe_ix ix_list (pv 0) (pv 10) (fun _ _ => rfl)) pe_int (fun _ _ => rfl)) pe_str (nomark _)) (pw_and1 (pt_cmpR op_lt (pe_callB call_len_seq (by rfl) T.z_len PySem.boot_len (pa_cons (pv 8) pa_nil)) (pe_ix ix_tup (pv 5) (pe_op op_sub (pv 2) pe_int) (fun _ _ => rfl)) (nomark _)))))
          (pss_one (ps_expr (pe_bm PySem.F.plainAttrs_list PySem.F.slot_list_append PySem.F.type_list_append mt_append (pv 8) (pa_cons (pv 10) pa_nil))))
          pss_nil)))
      (pss_cons (ps_for PassesOwn.never rfl (pi_list (pv 8)) (pg_name (i := 10) sc_sent.nd rfl (Or.inr rfl))
        (pss_one (ps_asg (pe_tup (pa_cons pe_str (pa_cons (pv 3) pa_nil))) (pg_sub (pv 0) (pv 10) set_list))))
      (pss_cons (ps_for PassesOwn.never rfl (pi_tup (pv 7)) (pg_tup rfl (pgs_cons (pg_name (i := 10) sc_sent.nd rfl (Or.inr rfl)) (pgs_cons (pg_name (i := 11) sc_sent.nd rfl (Or.inl rfl)) pgs_nil)))
        (pss_cons (ps_setLc (i := 12) (own := [("_law_k", 13)]) (g := gName 13) rfl sc_sent.nd rfl rfl (sw_true rfl rfl rfl (by decide +kernel)) (pi_range1 (by rfl) T.z_range (pa_cons (pe_callB call_len_seq (by rfl) T.z_len PySem.boot_len (pa_cons (pv 0) pa_nil)) pa_nil)) (blkOk_by (own := [("_law_k", 13)]) (N := nm_sent) (sc := (defScope s_sent)) (by decide +kernel)) (fun _ _ _ _ _ => pg_name (i := 13) sc_sent.nd rfl (Or.inl rfl)) (fun _ _ _ _ _ => (pts_one (PW.pt (pw_and (pt_cmpR op_ne (pv 13) (pv 10) (nomark _)) (pw_and1 (pt_cmpR (show OpR _ _ (rEqD K) from op_eqD hr.units) (pe_ix (show IxR _ (rIxL K) from ix_list) (pv 0) (pv 13) (fun _ _ => rfl)) (pe_ix (show IxR _ (rIxL K) from ix_list) (pv 0) (pv 10) (fun _ _ => rfl)) (nomark _))))))) (fun _ _ _ _ _ => (pv 13)))
        (pss_cons (ps_set (i := 14) sc_sent.nd rfl (Or.inl rfl) (pe_cmpR (show OpR _ _ (Ind.rNinS K) from Ind.op_ninS (Ind.room65 hr)) (pe_tup (pa_cons pe_str (pa_cons (pv 11) pa_nil))) (pv 0) rfl))
        (pss_one (ps_if (PW.pt (pw_and (pt_val (pv 14)) (pw_and (pt_cmpR op_eq (pe_ix ix_tup (pe_ix ix_list (pv 0) (pv 10) (fun _ _ => rfl)) pe_int (fun _ _ => rfl)) pe_str (nomark _)) (pw_and1 (pt_cmpR (op_neD hr.units) (pv 12) (pe_lst pa_nil) (nomark _))))))
          (pss_cons (ps_asg (pe_tup (pa_cons pe_str (pa_cons (pv 11) pa_nil))) (pg_sub (pv 0) (pv 10) set_list))
          (pss_one (ps_expr (pe_bm PySem.F.plainAttrs_list PySem.F.slot_list_append PySem.F.type_list_append mt_append (pv 9) (pa_cons (pe_tup (pa_cons (pv 10) (pa_cons (pv 11) pa_nil))) pa_nil)))))
          pss_nil)))))
      (pss_one (ps_ret (pe_tup (pa_cons (pv 0) (pa_cons (pe_tup (pa_cons (pv 2) (pa_cons (pe_callTy call_tuple_of (by rfl) T.z_tuple (by decide +kernel) (pa_cons (pv 8) pa_nil)) (pa_cons (pe_callTy call_tuple_of (by rfl) T.z_tuple (by decide +kernel) (pa_cons (pv 9) pa_nil)) (pa_cons (pe_callB (call_max2 rfl) (by rfl) T.z_max (by decide +kernel) (pa_cons pe_int (pa_cons (pe_op op_sub (pe_ix ix_tup (pv 6) (pe_op op_sub (pv 2) pe_int) (fun _ _ => rfl)) (pe_bm PySem.F.plainAttrs_list PySem.F.slot_list_count PySem.F.type_list_count (mt_countD (Ind.room65 hr)) (pv 0) (pa_cons (pe_tup (pa_cons pe_str (pa_cons (pv 3) pa_nil))) pa_nil))) pa_nil))) pa_nil))))) pa_nil)))))))))), ?_⟩
    refine ⟨_, rfl, cq, _, rfl, hcq, rfl, _, _, rfl, _, _, rfl, _, _, rfl, _, _, rfl, _, _, rfl, rfl, ?_⟩
    refine ⟨_, rfl, a, xs, rfl, .inl (SqL.of ha), fun l hl => ?_⟩
    have s1 := same_new (o := .lst xs) hl
    have hl1 : upd H l (.lst xs) l = some (.lst xs) := upd_same
    generalize upd H l (.lst xs) = H1 at s1 hl1 ⊢
    refine ⟨by show 0 ≤ sizeLine; decide, fun R hR => ?_⟩
    have s2 := same_new (o := .lst []) hR
    have hR2 : upd H1 R (.lst []) R = some (.lst []) := upd_same
    have nlR : l ≠ R := fun e => by subst e; rw [hR] at hl1; cases hl1
    have hRH := none_of s1 hR
    generalize upd H1 R (.lst []) = H2 at s2 hR2 ⊢
    refine ⟨by show 0 ≤ sizeLine; decide, fun M hM => ?_⟩
    have s3 := same_new (o := .lst []) hM
    have hM3 : upd H2 M (.lst []) M = some (.lst []) := upd_same
    have nRM : R ≠ M := fun e => by subst e; rw [hM] at hR2; cases hR2
    have nlM : l ≠ M := fun e => by subst e; rw [s2 _ _ hl1] at hM; cases hM
    have hMH := none_of (s1.trans s2) hM
    generalize upd H2 M (.lst []) = H3 at s3 hM3 ⊢
    refine ⟨by show 3 ≤ sizeLine; decide, fun u hu => ?_⟩
    have s4 := same_new (o := .tup [.ref l, .ref R, .ref M]) hu
    refine ⟨u, _, rfl, SqT.of upd_same, rfl, _, _, rfl, _, _, rfl, _, _, rfl, rfl, ?_⟩
    have hl4 := s4 _ _ (s3 _ _ (s2 _ _ hl1))
    have hR4 := s4 _ _ (s3 _ _ hR2)
    have hM4 := s4 _ _ hM3
    have sA := (s1.trans s2).trans (s3.trans s4)
    generalize upd H3 u (.tup [.ref l, .ref R, .ref M]) = H4 at sA hl4 hR4 hM4 ⊢
    clear s1 hl1 s2 hR2 hR hM3 s3 s4 hu hM
    have oln : c.order.length ≤ 6 := by
      have := Lns.nodup_le (l := c.order.map fun (n : Nat) => (n : Int)) (m := (List.range 6).map fun (n : Nat) => (n : Int)) (cok.nd.map _ fun a b h e => h (Int.ofNat_inj.mp e)) (fun k hk => by
        obtain ⟨n, hn, rfl⟩ := List.mem_map.mp hk
        exact List.mem_map.mpr ⟨n, List.mem_range.mpr (by have := cok.ord n hn; omega), rfl⟩)
      simpa using this
    have eg : (((g : Nat) : Int) - 1) = ((g - 1 : Nat) : Int) := by omega
    have hcg := getD_at (xs := c.counts) (i := g - 1) (by rw [cok.c3]; omega)
    have ew : wentF c pl g = goL pl c.order (c.counts.getD (g - 1) 0) := rfl
    generalize c.counts.getD (g - 1) 0 = kk at hcg ew
    let S (v10 v11 v12 v13 v14 : Option V) : L2.St := [some (.ref l), some (.ref cq), some (.int (g : Nat)), some (.str (numS c.ds)), some (.ref q1), some (.ref q2), some (.ref q3), some (.ref q4), some (.ref R), some (.ref M), v10, v11, v12, v13, v14]
    refine ⟨_, rfl, q1, rfl, ⟨_, sameT sA h1⟩, ?_⟩
    refine for_tup (xs := nV c.order) (fun i σ A => (∃ v10 v11 v12 v13 v14, σ = S v10 v11 v12 v13 v14) ∧ Same H A ∧ A M = some (.lst []) ∧ A l = some (.lst xs) ∧ A R = some (.lst (nV (goL pl (c.order.take i) kk))))
      ⟨⟨none, none, none, none, none, rfl⟩, sA, hM4, hl4, by rw [List.take_zero]; unfold goL; rw [List.filter_nil, List.take_nil]; exact hR4⟩ (fun i σ A _ h => sameT h.2.1 h1) (fun i w σ A hw hP => ?_) (fun σ A hP => ?_)
    · obtain ⟨⟨v10, v11, v12, v13, v14, rfl⟩, sA, hMA, hlA, hRA⟩ := hP
      obtain ⟨m, em, rfl⟩ := nV_inv hw
      have ml := cok.ord m (List.mem_of_getElem? em)
      have hz := List.getElem?_eq_getElem (l := pl) (i := m) (by omega)
      generalize pl[m]'(by omega) = z at hz
      obtain ⟨zv, hzv, dz⟩ := pls_get hd hz
      obtain ⟨z3, rfl, hz3⟩ := pl_two (dz.ks sA)
      refine ⟨_, rfl, _, rfl, l, _, _, _, rfl, rfl, SqL.of hlA, atI_nat hzv, z3, _, 0, _, rfl, rfl, hz3, atI_nat (j := 0) rfl, rfl, _, rfl, ?_⟩
      rw [eq_in]
      have gl := goL_len pl (c.order.take i) kk
      rw [List.length_take] at gl
      refine ite2 (fun c1 => ?_) (fun c1 => ?_)
      · refine ⟨_, rfl, R, _, rfl, .inl (SqL.of hRA), _, rfl, _, rfl, _, _, rfl, rfl, q2, _, _, _, rfl, rfl, sameT sA h2, by rw [eg]; exact atI_nat (nV_at hcg), _, _, rfl, rfl, _, rfl, ite2 (fun c2 => ?_) (fun c2 => ?_)⟩
        · have c2 : (goL pl (c.order.take i) kk).length < kk := by have := of_decide_eq_true c2; rw [nV_len] at this; omega
          refine ⟨_, rfl, .inl ⟨rfl, _, SqL.of hRA⟩, _, rfl, R, _, _, rfl, rfl, hRA, by rw [nV_len]; exact small1000 (by omega), ?_⟩
          rw [goL_yes em (by rw [isIn_at hz]; exact c1) c2]
          have en : nV (goL pl (c.order.take i) kk) ++ [V.int ((m : Nat) : Int)] = nV (goL pl (c.order.take i) kk ++ [m]) := by unfold nV; rw [List.map_append]; rfl
          rw [en]
          exact ⟨⟨_, _, _, _, _, rfl⟩, same_mut sA hRH, by rw [upd_ne nRM.symm]; exact hMA, by rw [upd_ne nlR]; exact hlA, upd_same⟩
        · have c2 : ¬ (goL pl (c.order.take i) kk).length < kk := fun z => c2 (decide_eq_true (by rw [nV_len]; omega))
          rw [goL_no em (.inr c2)]
          exact ⟨⟨_, _, _, _, _, rfl⟩, sA, hMA, hlA, hRA⟩
      · rw [goL_no em (.inl (by rw [isIn_at hz]; simpa using c1))]
        exact ⟨⟨_, _, _, _, _, rfl⟩, sA, hMA, hlA, hRA⟩
    obtain ⟨⟨v10, v11, v12, v13, v14, rfl⟩, sA, hMA, hlA, hRA⟩ := hP
    rw [nV_len, List.take_length, ← ew] at hRA
    have ewl : ∀ m ∈ wentF c pl g, m < st.length := fun m mm => cok.ord m ((List.mem_filter.mp (List.mem_of_mem_take mm)).1)
    have ewn : (wentF c pl g).length ≤ 6 := by
      rw [ew]
      have := goL_len pl c.order kk
      omega
    have eT : liftT c pl g = .sent g (wentF c pl g) (liftP c pl g).2 (c.owed.getD (g - 1) 0 - (atL (liftP c pl g).1 (.out c.ds)).length) := rfl
    have eP : liftP c pl g = mvF (outP c.ds pl (wentF c pl g)) c.moves := rfl
    rw [eT, eP] at k
    generalize wentF c pl g = wl at ewl ewn hRA k
    refine ⟨_, rfl, R, rfl, ⟨_, SqL.of hRA⟩, ?_⟩
    refine for_list (xs := nV wl) (fun i σ A => (∃ v10 v11 v12 v13 v14, σ = S v10 v11 v12 v13 v14) ∧ Same H A ∧ A R = some (.lst (nV wl)) ∧ A M = some (.lst []) ∧ (∀ q ∈ outP c.ds pl (wl.take i), plOk q) ∧ ∃ zs, A l = some (.lst zs) ∧ Dts K A zs ((outP c.ds pl (wl.take i)).map plD))
      ⟨⟨_, _, _, _, _, rfl⟩, sA, hRA, hMA, okp, xs, hlA, hd.ks sA⟩ (fun i σ A _ h => SqL.of h.2.2.1) (fun i w σ A hw hP => ?_) (fun σ A hP => ?_)
    · obtain ⟨⟨v10, v11, v12, v13, v14, rfl⟩, sA, hRA, hMA, okA, zs, hlA, dA⟩ := hP
      obtain ⟨m, em, rfl⟩ := nV_inv hw
      have ml := ewl m (List.mem_of_getElem? em)
      have lz := dA.len
      rw [List.length_map, outP_len] at lz
      refine ⟨_, rfl, by show 2 ≤ sizeLine; decide, fun u2 hu2 => ?_⟩
      obtain ⟨a1, a2, a3, a4, a5⟩ := put_pl (i := m) (p := .out c.ds) sA hl hlA dA hu2
      refine ⟨_, rfl, _, rfl, l, _, _, m, rfl, rfl, a2, ixN_nat (by omega), ?_⟩
      rw [outP_succ em]
      exact ⟨⟨_, _, _, _, _, rfl⟩, a1, a5 _ _ nlR.symm hRA, a5 _ _ nlM.symm hMA, ok_set okA oc, _, a3, a4⟩
    obtain ⟨⟨v10, v11, v12, v13, v14, rfl⟩, sA, hRA, hMA, okA, zs, hlA, dA⟩ := hP
    rw [nV_len, List.take_length] at okA dA
    have lq := outP_len c.ds wl pl
    generalize outP c.ds pl wl = pl1 at okA dA k lq
    have m6 := cok.m6
    have lm := hm.len
    rw [List.length_map] at lm
    refine ⟨_, rfl, q4, rfl, ⟨_, sameT sA h4⟩, ?_⟩
    refine for_tup (xs := ms) (fun i σ A => (∃ v10 v11 v12 v13 v14, σ = S v10 v11 v12 v13 v14) ∧ Same H A ∧ A R = some (.lst (nV wl)) ∧ (∀ q ∈ (mvF pl1 (c.moves.take i)).1, plOk q) ∧ (∃ zs, A l = some (.lst zs) ∧ Dts K A zs ((mvF pl1 (c.moves.take i)).1.map plD)) ∧ ∃ us, A M = some (.lst us) ∧ Dts K A us ((mvF pl1 (c.moves.take i)).2.map mD))
      ⟨⟨_, _, _, _, _, rfl⟩, sA, hRA, okA, ⟨zs, hlA, dA⟩, [], hMA, .nil⟩ (fun i σ A _ h => sameT h.2.1 h4) (fun j w σ A hw hP => ?_) (fun σ A hP => ?_)
    · obtain ⟨⟨v10, v11, v12, v13, v14, rfl⟩, sA, hRA, okA, ⟨zs, hlA, dA⟩, us, hMA, dM⟩ := hP
      obtain ⟨d, ed, hx2⟩ := hm.at hw
      rw [List.getElem?_map] at ed
      obtain ⟨m, em, rfl⟩ := Option.map_eq_some_iff.mp ed
      obtain ⟨p2, a', b', rfl, hp2, ha', hb'⟩ := dt_two hx2
      obtain rfl := ha'.int_inv
      obtain rfl := hb'.int_inv
      have mv := cok.mv m (List.mem_of_getElem? em)
      have m8 : m.2 ≤ 8 := s8 _ mv.2
      have jl : j < c.moves.length := (List.getElem?_eq_some_iff.mp em).1
      have hl0 := mvF_len (c.moves.take j) (pl1, [])
      rw [mvF_succ em]
      unfold mvS
      have hl0 : (mvF pl1 (c.moves.take j)).1.length = pl1.length ∧ (mvF pl1 (c.moves.take j)).2.length ≤ 0 + (c.moves.take j).length := hl0
      rw [List.length_take] at hl0
      generalize mvF pl1 (c.moves.take j) = x at hl0 okA dA dM ⊢
      obtain ⟨px, hx⟩ := x
      have hl1 : px.length = pl1.length := hl0.1
      have hl2 : hx.length ≤ 0 + min j c.moves.length := hl0.2
      have okA : ∀ q ∈ px, plOk q := okA
      have dA : Dts K A zs (px.map plD) := dA
      have dM : Dts K A us (hx.map mD) := dM
      have lz := dA.len
      have lu := dM.len
      rw [List.length_map] at lz lu
      refine ⟨p2, _, rfl, sameT sA hp2, rfl, _, _, rfl, _, _, rfl, rfl, ?_⟩
      have hz := List.getElem?_eq_getElem (l := px) (i := m.1) (by omega)
      generalize px[m.1]'(by omega) = z at hz
      obtain ⟨zv, hzv, dz⟩ := pls_get dA hz
      have okz := okA z (List.mem_of_getElem? hz)
      refine ⟨_, rfl, l, _, rfl, .inl (SqL.of hlA), _, rfl, by omega, by omega, fun D hD => ?_⟩
      rw [Int.toNat_natCast]
      refine lc_range (fun j B => Same A B ∧ B D = some (.lst (nV ((List.range j).filter fun k => !decide (k = m.1) && decide (px[k]? = some z))))) ⟨same_new hD, upd_same⟩ (fun j B hj hP => ?_) (fun B hP => ?_)
      · obtain ⟨sB, hB⟩ := hP
        rw [Int.zero_add]
        have hw := List.getElem?_eq_getElem (l := px) (i := j) (by omega)
        generalize px[j]'(by omega) = w at hw
        obtain ⟨wv, hwv, dw⟩ := pls_get dA hw
        have fl : ((List.range j).filter fun k => !decide (k = m.1) && decide (px[k]? = some z)).length ≤ j := by
          have := List.length_filter_le (fun k => !decide (k = m.1) && decide (px[k]? = some z)) (List.range j)
          rw [List.length_range] at this
          exact this
        have noj : (!decide (j = m.1) && decide (px[j]? = some z)) = false → B D = some (.lst (nV ((List.range (j + 1)).filter fun k => !decide (k = m.1) && decide (px[k]? = some z)))) := fun e => by
          rw [List.range_succ, List.filter_append, List.filter_cons, List.filter_nil, e, if_neg (by decide), List.append_nil]
          exact hB
        refine ⟨rfl, _, rfl, _, rfl, rfl, _, rfl, ite2 (fun c3 => ?_) (fun c3 => ?_)⟩
        · have c3 : ¬ j = m.1 := fun e => by subst e; simp at c3
          refine ⟨_, rfl, _, rfl, l, _, _, _, rfl, rfl, SqL.of (sB _ _ hlA), atI_nat hwv, _, rfl, _, rfl, l, _, _, _, rfl, rfl, SqL.of (sB _ _ hlA), atI_nat hzv, _, _, (dw.ks sB).toDp, (dz.ks sB).toDp, (fine_pl (okA w (List.mem_of_getElem? hw))).shaped (by decide), (fine_pl okz).shaped (by decide), _, rfl, ?_⟩
          rw [eqv_pl]
          refine ite2 (fun c4 => ?_) (fun c4 => ?_)
          · have c4 : w = z := of_decide_eq_true c4
            subst c4
            refine ⟨_, rfl, _, hB, by rw [nV_len]; exact small1000 (by omega), same_mut sB hD, ?_⟩
            rw [upd_same, List.range_succ, List.filter_append, List.filter_cons, if_pos (by rw [hw, decide_eq_false c3]; simp)]
            unfold nV
            rw [List.map_append]
            rfl
          · have c4 : ¬ w = z := fun e => c4 (decide_eq_true e)
            exact ⟨sB, noj (by rw [hw, decide_eq_false (fun e => c4 (Option.some.inj e)), Bool.and_false])⟩
        · have c3 : j = m.1 := by
            by_cases e : j = m.1
            · exact e
            · exact absurd (by rw [decide_eq_false (fun z => e (by have := V.int.inj z; omega))]; rfl) c3
          exact ⟨sB, noj (by rw [decide_eq_true c3]; rfl)⟩
      obtain ⟨sB, hB⟩ := hP
      rw [lz] at hB
      refine ⟨_, rfl, by show 2 ≤ sizeLine; decide, fun u hu => ?_⟩
      have sU := same_new (o := .tup [.str "in", .int (m.2 : Nat)]) hu
      have dI : Dt K (upd B u (.tup [.str "in", .int (m.2 : Nat)])) (.ref u) (plD (.ins m.2)) := dt_pl (p := .ins m.2) upd_same
      refine ⟨_, rfl, _, _, false, dI.toDp, .lst (SqL.of (sU _ _ (sB _ _ hlA))) ((dA.ks sB).ks sU).toDp, (fine_pl (p := .ins m.2) m8).1, Nat.le_trans (fine_pl (p := .ins m.2) m8).2 (by decide), lay_pls okA, ?_⟩
      rw [any_pl]
      have sC := sB.trans sU
      have hDC := sU _ _ hB
      generalize upd B u (.tup [.str "in", .int (m.2 : Nat)]) = C at sC hDC ⊢
      have eB : canB px m.1 m.2 = (decide (atL px (.ins m.2) = []) && (isI z && !decide (((List.range px.length).filter fun k => !decide (k = m.1) && decide (px[k]? = some z)) = []))) := by
        unfold canB
        rw [isIn_at hz, hz, others_nil hz, Bool.not_not]
      have sHC := sA.trans sC
      have hlC := sC _ _ hlA
      have hMC := sC _ _ hMA
      have hRC := sC _ _ hRA
      have dC := dA.ks sC
      have dMC := dM.ks sC
      have no : ∀ B, Same C B → canB px m.1 m.2 = false → Same H B ∧ B R = some (.lst (nV wl)) ∧ (∀ q ∈ (if canB px m.1 m.2 = true then (px.set m.1 (.ins m.2), hx ++ [m]) else (px, hx)).1, plOk q) ∧ (∃ zs, B l = some (.lst zs) ∧ Dts K B zs ((if canB px m.1 m.2 = true then (px.set m.1 (.ins m.2), hx ++ [m]) else (px, hx)).1.map plD)) ∧ ∃ us, B M = some (.lst us) ∧ Dts K B us ((if canB px m.1 m.2 = true then (px.set m.1 (.ins m.2), hx ++ [m]) else (px, hx)).2.map mD) := fun B s e => by
        rw [if_neg (by rw [e]; decide)]
        exact ⟨sHC.trans s, s _ _ hRC, okA, ⟨_, s _ _ hlC, dC.ks s⟩, _, s _ _ hMC, dMC.ks s⟩
      refine ⟨_, rfl, _, rfl, ite2 (fun c1 => ?_) (fun c1 => ?_)⟩
      · obtain ⟨z3, rfl, hz3⟩ := pl_two (dz.ks sC)
        refine ⟨_, rfl, _, rfl, l, _, _, _, rfl, rfl, SqL.of hlC, atI_nat hzv, z3, _, 0, _, rfl, rfl, hz3, atI_nat (j := 0) rfl, rfl, _, rfl, ?_⟩
        rw [eq_in]
        refine ite2 (fun c2 => ?_) (fun c2 => ?_)
        · refine ⟨_, rfl, by show 0 ≤ sizeLine; decide, fun F hF => ?_⟩
          have sF := same_new (o := .lst []) hF
          refine ne_nil (sF _ _ hDC) upd_same ⟨_, rfl, ?_⟩
          generalize upd C F (.lst []) = C1 at sF ⊢
          refine ite2 (fun c3 => ?_) (fun c3 => ?_)
          · have cc : canB px m.1 m.2 = true := by rw [eB, c1, c2, c3]; rfl
            rw [if_pos cc]
            refine ⟨_, rfl, by show 2 ≤ sizeLine; decide, fun u2 hu2 => ?_⟩
            obtain ⟨a1, a2, a3, a4, a5⟩ := put_pl (i := m.1) (p := .ins m.2) (sHC.trans sF) hl (sF _ _ hlC) (dC.ks sF) hu2
            refine ⟨_, rfl, _, rfl, l, _, _, m.1, rfl, rfl, a2, ixN_nat (by omega), ?_⟩
            have hMZ := a5 _ _ nlM.symm (sF _ _ hMC)
            have hRZ := a5 _ _ nlR.symm (sF _ _ hRC)
            have dMZ : Dts K (upd (upd C1 u2 (.tup [.str (plW (.ins m.2)), plY (.ins m.2)])) l (.lst (zs.set m.1 (.ref u2)))) us (hx.map mD) := ((dMC.ks sF).k (Kt.new hu2)).k (Kt.lst a2)
            obtain ⟨Z, hZ⟩ : ∃ Z, Z = upd (upd C1 u2 (.tup [.str "in", .int (m.2 : Nat)])) l (.lst (zs.set m.1 (.ref u2))) := ⟨_, rfl⟩
            have a1 : Same H Z := by rw [hZ]; exact a1
            have a3 : Z l = some (.lst (zs.set m.1 (.ref u2))) := by rw [hZ]; exact a3
            have a4 : Dts K Z (zs.set m.1 (.ref u2)) ((px.set m.1 (.ins m.2)).map plD) := by rw [hZ]; exact a4
            have hMZ : Z M = some (.lst us) := by rw [hZ]; exact hMZ
            have hRZ : Z R = some (.lst (nV wl)) := by rw [hZ]; exact hRZ
            have dMZ : Dts K Z us (hx.map mD) := by rw [hZ]; exact dMZ
            rw [← hZ]
            refine ⟨_, rfl, .inl ⟨rfl, _, SqL.of hMZ⟩, _, rfl, _, rfl, by show 2 ≤ sizeLine; decide, fun u3 hu3 => ?_⟩
            have sU3 := same_new (o := .tup [.int (m.1 : Nat), .int (m.2 : Nat)]) hu3
            have hMU := sU3 _ _ hMZ
            refine ⟨M, us, _, rfl, rfl, hMU, small1000 (by omega), ?_⟩
            have dnew : Dts K (upd Z u3 (.tup [.int (m.1 : Nat), .int (m.2 : Nat)])) (us ++ [.ref u3]) ((hx ++ [m]).map mD) := by
              rw [List.map_append]
              exact (dMZ.ks sU3).snoc (dt_tup upd_same (.cons (.int _) (.cons (.int _) .nil)))
            refine ⟨⟨_, _, _, _, _, rfl⟩, same_mut (a1.trans sU3) hMH, by rw [upd_ne nRM]; exact sU3 _ _ hRZ, ok_set okA m8, ⟨_, by rw [upd_ne nlM]; exact sU3 _ _ a3, (a4.ks sU3).k (Kt.lst hMU)⟩, _, upd_same, dnew.k (Kt.lst hMU)⟩
          · exact ⟨⟨_, _, _, _, _, rfl⟩, no _ sF (by rw [eB, show (!decide (((List.range px.length).filter fun k => !decide (k = m.1) && decide (px[k]? = some z)) = [])) = false by simpa using c3, Bool.and_false, Bool.and_false])⟩
        · exact ⟨⟨_, _, _, _, _, rfl⟩, no _ (fun _ _ e => e) (by rw [eB, show isI z = false by simpa using c2, Bool.false_and, Bool.and_false])⟩
      · exact ⟨⟨_, _, _, _, _, rfl⟩, no _ (fun _ _ e => e) (by rw [eB, show decide (atL px (.ins m.2) = []) = false by simpa using c1, Bool.false_and])⟩
    obtain ⟨⟨v10, v11, v12, v13, v14, rfl⟩, sA, hRA, okA, ⟨zs, hlA, dA⟩, us, hMA, dM⟩ := hP
    have hl0 := mvF_len c.moves (pl1, [])
    rw [lm, List.take_length] at okA dA dM
    have hl1 : (mvF pl1 c.moves).1.length = pl1.length := hl0.1
    have hl2 : (mvF pl1 c.moves).2.length ≤ 0 + c.moves.length := hl0.2
    generalize (mvF pl1 c.moves).1 = pl2 at okA dA k hl1
    generalize (mvF pl1 c.moves).2 = mv2 at dM k hl2
    have hog := getD_at (xs := c.owed) (i := g - 1) (by rw [cok.o3]; omega)
    refine ⟨_, rfl, _, rfl, _, rfl, R, _, rfl, .inl ⟨SqL.of hRA, fun u3 hu3 => ?_⟩⟩
    have s3 := same_new (o := .tup (nV wl)) hu3
    have h33 : upd A u3 (.tup (nV wl)) u3 = some (.tup (nV wl)) := upd_same
    generalize upd A u3 (.tup (nV wl)) = A3 at s3 h33 ⊢
    refine ⟨_, rfl, M, us, rfl, .inl ⟨SqL.of (s3 _ _ hMA), fun u4 hu4 => ?_⟩⟩
    have s4 := same_new (o := .tup us) hu4
    have h44 : upd A3 u4 (.tup us) u4 = some (.tup us) := upd_same
    generalize upd A3 u4 (.tup us) = A4 at s4 h44 ⊢
    have s34 := s3.trans s4
    refine ⟨_, rfl, _, rfl, _, _, rfl, rfl, q3, _, _, _, rfl, rfl, sameT (sA.trans s34) h3, by rw [eg]; exact atI_nat (nV_at hog), ?_⟩
    refine ⟨_, rfl, .inl ⟨rfl, _, SqL.of (s34 _ _ hlA)⟩, _, rfl, by show 2 ≤ sizeLine; decide, fun u hu => ?_⟩
    have s5 := same_new (o := .tup [.str "out", .str (numS c.ds)]) hu
    have dO : Dt K (upd A4 u (.tup [.str "out", .str (numS c.ds)])) (.ref u) (plD (.out c.ds)) := dt_pl (p := .out c.ds) upd_same
    have s35 := s34.trans s5
    refine ⟨l, _, _, _, rfl, rfl, .lst (SqL.of (s35 _ _ hlA)) (dA.ks s35).toDp, dO.toDp, plain_pls _, plain_pl _, Nat.le_trans (fine_pl oc).2 (by decide), ?_⟩
    rw [count_pl]
    refine ⟨_, _, rfl, rfl, _, _, rfl, ?_⟩
    have esh : (if (((c.owed.getD (g - 1) 0 : Nat) : Int) - ((atL pl2 (.out c.ds)).length : Nat)) > 0 then (((c.owed.getD (g - 1) 0 : Nat) : Int) - ((atL pl2 (.out c.ds)).length : Nat)) else 0) = ((c.owed.getD (g - 1) 0 - (atL pl2 (.out c.ds)).length : Nat) : Int) := by
      split <;> omega
    rw [esh]
    generalize c.owed.getD (g - 1) 0 - (atL pl2 (.out c.ds)).length = sh at k
    have h35 := s4 _ _ h33
    have h35 := s5 _ _ h35
    have h45 := s5 _ _ h44
    generalize upd A4 u (.tup [.str "out", .str (numS c.ds)]) = A5 at s35 h35 h45 ⊢
    refine ⟨by show 4 ≤ sizeLine; decide, fun u5 hu5 => ?_⟩
    have s6 := same_new (o := .tup [.int (g : Nat), .ref u3, .ref u4, .int (sh : Nat)]) hu5
    have h66 : upd A5 u5 (.tup [.int (g : Nat), .ref u3, .ref u4, .int (sh : Nat)]) u5 = some (.tup [.int (g : Nat), .ref u3, .ref u4, .int (sh : Nat)]) := upd_same
    generalize upd A5 u5 (.tup [.int (g : Nat), .ref u3, .ref u4, .int (sh : Nat)]) = A6 at s6 h66 ⊢
    have s36 := s35.trans s6
    have dT : Dt K A6 (.ref u5) (tdD (.sent g wl mv2 sh)) := dt_tup h66 (.cons (.int _) (.cons (dt_iD (s6 _ _ h35)) (.cons (.tup (SqT.of (s6 _ _ h45)) (dM.ks s36)) (.cons (.int _) .nil))))
    refine ⟨by show 2 ≤ sizeLine; decide, fun u7 hu7 => ?_⟩
    have s7 := same_new (o := .tup [.ref l, .ref u5]) hu7
    have s37 := s36.trans s7
    exact k _ _ l (.ref u5) zs (sA.trans s37) upd_same (s37 _ _ hlA) (dA.ks s37) okA (by omega) (dT.ks s7)
end
end K57

namespace K57
open PySem L2 Wm TL Dv
section
variable {P : Program} {w : World} {K : PySem.W.Frag} {mg : Str → Option Value} {base : Heap}
theorem inP_ok {st : List Nat} (h8 : ∀ i, st.getD i 0 ≤ 8) : ∀ {rs : List Nat} {pl : List Pl}, (∀ q ∈ pl, plOk q) → ∀ q ∈ inP st pl rs, plOk q
  | [], _, h => h
  | r :: rs, pl, h => by
    show ∀ q ∈ inP st (pl.set r (.ins (st.getD r 0))) rs, plOk q
    exact inP_ok h8 (ok_set h (h8 r))
theorem outP_ok {ds : List Nat} (N : Num ds) : ∀ {rs : List Nat} {pl : List Pl}, (∀ q ∈ pl, plOk q) → ∀ q ∈ outP ds pl rs, plOk q
  | [], _, h => h
  | r :: rs, pl, h => by
    show ∀ q ∈ outP ds (pl.set r (.out ds)) rs, plOk q
    exact outP_ok N (ok_set h N)
theorem homeF_ok {st : List Nat} (h8 : ∀ i, st.getD i 0 ≤ 8) {pl : List Pl} (h : ∀ q ∈ pl, plOk q) : ∀ n, ∀ q ∈ (homeF st pl n).1, plOk q
  | 0 => h
  | n + 1 => by
    have ih := homeF_ok h8 h n
    rw [homeF_succ]
    unfold homeS
    split
    · exact ok_set ih (h8 n)
    · exact ih
theorem mvS_ok : ∀ {ms : List (Nat × Nat)} {x : List Pl × List (Nat × Nat)}, (∀ m ∈ ms, m.2 ≤ 8) → (∀ q ∈ x.1, plOk q) → ∀ q ∈ (ms.foldl mvS x).1, plOk q
  | [], _, _, h => h
  | m :: ms, x, h8, h => by
    rw [List.foldl_cons]
    refine mvS_ok (fun y my => h8 y (List.mem_cons_of_mem _ my)) ?_
    unfold mvS
    split
    · exact ok_set h (h8 m (List.mem_cons_self ..))
    · exact h
theorem g_set {gr : List Nat} {i g : Nat} (h : ∀ x ∈ gr, x ≤ 3) (k : g ≤ 3) : ∀ x ∈ gr.set i g, x ≤ 3 := fun x m => by
  rcases List.mem_or_eq_of_mem_set m with m | m
  · exact h x m
  · rw [m]; exact k
theorem st_le {r : Rm} (ok : RmOk r) (i : Nat) : r.st.getD i 0 ≤ 8 := by
  rw [List.getD_eq_getElem?_getD]
  cases e : r.st[i]? with
  | none => exact Nat.zero_le _
  | some x => exact ok.st8 x (List.mem_of_getElem? e)
theorem back_ok {r : Rm} {s : Sd} (ok : RmOk r) (so : SdOk r s) (ds : List Nat) (i : Nat) : SdOk r ⟨(backP r.st ds s.pl).1, s.gr.set i 0⟩ :=
  ⟨by show (homeF r.st (inP r.st s.pl (atL s.pl (.out ds))) r.st.length).1.length = _; rw [(homeF_len _ _ _).1, inP_len]; exact so.pl,
   by show (s.gr.set i 0).length = _; rw [List.length_set]; exact so.gr, g_set so.g3 (by decide), homeF_ok (st_le ok) (inP_ok (st_le ok) so.ok) _⟩
theorem lift_ok {r : Rm} {s : Sd} {c : Cd} (ok : RmOk r) (so : SdOk r s) (mc : c ∈ r.cs) {g : Nat} (k : g ≤ 3) (i : Nat) : SdOk r ⟨(liftP c s.pl g).1, s.gr.set i g⟩ := by
  have cok := ok.ok c mc
  refine ⟨?_, by show (s.gr.set i g).length = _; rw [List.length_set]; exact so.gr, g_set so.g3 k, ?_⟩
  · show (mvF (outP c.ds s.pl (wentF c s.pl g)) c.moves).1.length = _
    have := (mvF_len c.moves (outP c.ds s.pl (wentF c s.pl g), [])).1
    exact this.trans ((outP_len _ _ _).trans so.pl)
  · exact mvS_ok (x := (outP c.ds s.pl (wentF c s.pl g), [])) (fun m mm => ok.st8 _ (cok.mv m mm).2) (outP_ok cok.num so.ok)
end
end K57

namespace K57
open PySem L2 Wm TL Dv
section
variable {P : Program} {w : World} {K : PySem.W.Frag} {mg : Str → Option Value} {base : Heap}
theorem strs_lay0 : ∀ {ts : List Str}, (∀ t ∈ ts, Tx t) → PyData.canLayAll0 (ts.map .str) = true ∧ PyData.depthAll (ts.map .str) = 0
  | [], _ => by simp [PyData.canLayAll0, PyData.depthAll]
  | t :: ts, h => by
    have ih := strs_lay0 (ts := ts) fun y m => h y (List.mem_cons_of_mem _ m)
    have h1 : PyData.canLay0 (.str t) = true := by
      have e : t.cps.all (· < 0x110000) = true := by
        rw [← Array.all_toList, List.all_eq_true]
        intro c m
        have := (h t (by simp)).asc c m
        exact decide_eq_true (by omega)
      simp only [PyData.canLay0]
      exact e
    simp only [List.map_cons, PyData.canLayAll0, PyData.depthAll, h1, ih.1, ih.2, PyData.depth, Bool.and_self, Nat.max_self, and_self]
theorem tg_fine {d : PyData} (t : Tg d) : Fine 1 d := by
  cases t with
  | int h => exact fine_int _
  | bl b => exact ⟨by simp [PyData.canLay0], by simp [PyData.depth]⟩
  | non => exact ⟨by simp [PyData.canLay0], by simp [PyData.depth]⟩
  | @str t h =>
    have q := strs_lay0 (ts := [t]) fun y m => by rw [List.mem_singleton.mp m]; exact h
    simp only [List.map_cons, List.map_nil, PyData.canLayAll0, Bool.and_true] at q
    exact ⟨q.1, by simp [PyData.depth]⟩
  | lst h l =>
    have q := strs_lay0 h
    exact ⟨by simp only [PyData.canLay0]; exact q.1, by simp only [PyData.depth]; omega⟩
  | tup h l =>
    have q := strs_lay0 h
    exact ⟨by simp only [PyData.canLay0]; exact q.1, by simp only [PyData.depth]; omega⟩
theorem eqv_ob {H : Hp} {x : V} {d : PyData} (ob : Ob K H x d) (t : Str) : PyData.eqv (.str t) d = decide (x = .str t) := by
  obtain ⟨h, g⟩ := ob
  cases g with
  | int h2 => cases h; simp [PyData.eqv]
  | bl b => cases h; simp [PyData.eqv]
  | non => cases h; simp [PyData.eqv]
  | @str u h2 =>
    cases h
    by_cases e : t = u
    · subst e; simp [PyData.eqv]
    · have e2 : ¬ u = t := fun z => e z.symm
      simp [PyData.eqv, e, e2]
  | lst h2 l => cases h; simp [PyData.eqv]
  | tup h2 l => cases h; simp [PyData.eqv]
def stepSO (r : Rm) (s : Sd) (w : Wd) : Option Nat → Sd
  | some i => stepS r s w i
  | none => s
def stepTO (r : Rm) (s : Sd) (w : Wd) : Option Nat → Td
  | some i => stepT r s w i
  | none => .non
end
end K57

namespace K57
open PySem L2 Wm TL Dv
section
variable {P : Program} {w : World} {K : PySem.W.Frag} {mg : Str → Option Value} {base : Heap}
/-- what repr lays: short, small, shallow -/
structure Sh (n w : Nat) (d : PyData) : Prop where
  lay : d.canLay0 = true
  isn : d.intsShort 13 = true
  wt : d.weight ≤ w
  sh : d.showable = true
  nd : d.hasDict = false
  dp : d.depth ≤ n
theorem Sh.mono {n m w v : Nat} {d : PyData} (h : Sh n w d) (a : n ≤ m) (b : w ≤ v) : Sh m v d := ⟨h.lay, h.isn, Nat.le_trans h.wt b, h.sh, h.nd, Nat.le_trans h.dp a⟩
theorem Sh.shows {n w : Nat} {d : PyData} (h : Sh n w d) (a : n ≤ 60) (b : w ≤ 1000000) : Shows d :=
  ⟨h.sh, h.nd, Nat.le_trans h.dp a, PyData.shown_fits (B := 13) (by decide) (by decide) (PyData.leavesShort_of_canLay0 13 d h.lay h.isn) (Nat.le_trans h.wt (by omega))⟩
theorem sh_int {i : Int} (h : i.natAbs < 1000000) : Sh 0 20 (.int i) := by
  have g := tg_shows (.int (i := i) (by omega))
  refine ⟨by simp [PyData.canLay0], decide_eq_true (PyData.shown_int_le (by omega)), ?_, g.sh, rfl, Nat.zero_le _⟩
  show (if i == 0 then 0 else i.natAbs.log2 + 1) ≤ 20
  split
  · exact Nat.zero_le _
  · rename_i z
    have z : i ≠ 0 := by simpa using z
    exact (Nat.log2_lt (by omega)).mpr (by omega)
theorem sh_bool (b : Bool) : Sh 0 0 (.bool b) := ⟨by simp [PyData.canLay0], rfl, Nat.le_refl _, rfl, rfl, Nat.zero_le _⟩
theorem sh_none : Sh 0 0 .none := ⟨by simp [PyData.canLay0], rfl, Nat.le_refl _, rfl, rfl, Nat.zero_le _⟩
theorem sh_str {t : Str} (h : Tx t) : Sh 0 100 (.str t) := by
  have g := tg_shows (.str h)
  have f := tg_fine (.str h)
  exact ⟨f.1, rfl, h.len, g.sh, rfl, Nat.zero_le _⟩
theorem sh_all {n w : Nat} : ∀ {ds : List PyData}, (∀ d ∈ ds, Sh n w d) → PyData.canLayAll0 ds = true ∧ PyData.intsShortAll 13 ds = true ∧ PyData.weightAll ds ≤ ds.length * (w + 1) ∧ PyData.showableAll ds = true ∧ PyData.hasDictAll ds = false ∧ PyData.depthAll ds ≤ n
  | [], _ => by simp [PyData.canLayAll0, PyData.intsShortAll, PyData.weightAll, PyData.showableAll, PyData.hasDictAll, PyData.depthAll]
  | x :: xs, h => by
    have a := h x (by simp)
    obtain ⟨b1, b2, b3, b4, b5, b6⟩ := sh_all (ds := xs) fun y m => h y (List.mem_cons_of_mem _ m)
    refine ⟨by simp only [PyData.canLayAll0, a.lay, b1, Bool.and_self], by simp only [PyData.intsShortAll, a.isn, b2, Bool.and_self], ?_, by simp only [PyData.showableAll, a.sh, b4, Bool.and_self], by simp only [PyData.hasDictAll, a.nd, b5, Bool.or_self], ?_⟩
    · simp only [PyData.weightAll, List.length_cons, Nat.add_mul, Nat.one_mul]
      have := a.wt
      omega
    · simp only [PyData.depthAll]
      have := a.dp
      omega
theorem sh_tup {n w k : Nat} {ds : List PyData} (h : ∀ d ∈ ds, Sh n w d) (l : ds.length ≤ k) : Sh (n + 1) (k * (w + 1)) (.tuple ds) := by
  obtain ⟨b1, b2, b3, b4, b5, b6⟩ := sh_all h
  have := Nat.mul_le_mul_right (w + 1) l
  exact ⟨by simp only [PyData.canLay0, b1], by simp only [PyData.intsShort, b2], by simp only [PyData.weight]; omega, by simp only [PyData.showable, b4], by simp only [PyData.hasDict, b5], by simp only [PyData.depth]; omega⟩
theorem sh_lst {n w k : Nat} {ds : List PyData} (h : ∀ d ∈ ds, Sh n w d) (l : ds.length ≤ k) : Sh (n + 1) (k * (w + 1)) (.list ds) := by
  obtain ⟨b1, b2, b3, b4, b5, b6⟩ := sh_all h
  have := Nat.mul_le_mul_right (w + 1) l
  exact ⟨by simp only [PyData.canLay0, b1], by simp only [PyData.intsShort, b2], by simp only [PyData.weight]; omega, by simp only [PyData.showable, b4], by simp only [PyData.hasDict, b5], by simp only [PyData.depth]; omega⟩
theorem num_tx {ds : List Nat} (N : Num ds) : Tx (numS ds) := ⟨by rw [numS_len]; have := N.len; omega, fun k m => by
    have m : k ∈ codes ds := m
    obtain ⟨d, md, rfl⟩ := List.mem_map.mp m
    have := (N.dig d md).2
    omega⟩
theorem sh_two {n w : Nat} {a b : PyData} (x : Sh n w a) (y : Sh n w b) : Sh (n + 1) (2 * (w + 1)) (.tuple [a, b]) := sh_tup (fun d m => by
  simp only [List.mem_cons, List.not_mem_nil, or_false] at m
  rcases m with rfl | rfl
  · exact x
  · exact y) (Nat.le_refl 2)
theorem sh_pl {p : Pl} (h : plOk p) : Sh 1 202 (plD p) := by
  cases p with
  | ins s =>
    have h : s ≤ 8 := h
    exact sh_two (sh_str ⟨by decide +kernel, by decide +kernel⟩) ((sh_int (by omega)).mono (by decide) (by decide))
  | out ds => exact sh_two (sh_str ⟨by decide +kernel, by decide +kernel⟩) (sh_str (num_tx h))
theorem sh_iD {ns : List Nat} {k : Nat} (h : ∀ n ∈ ns, n ≤ 9) (l : ns.length ≤ k) : Sh 1 (k * 21) (iD ns) := by
  unfold iD
  refine sh_tup (fun d m => ?_) (by rw [List.length_map]; exact l)
  obtain ⟨n, mn, rfl⟩ := List.mem_map.mp m
  have := h n mn
  exact sh_int (by omega)
theorem sh_mvD {ms : List (Nat × Nat)} {k : Nat} (h : ∀ x ∈ ms, x.1 ≤ 9 ∧ x.2 ≤ 9) (l : ms.length ≤ k) : Sh 2 (k * 43) (mvD ms) := by
  unfold mvD
  refine sh_tup (fun d m => ?_) (by rw [List.length_map]; exact l)
  obtain ⟨x, mx, rfl⟩ := List.mem_map.mp m
  have := h x mx
  exact sh_two (sh_int (by omega)) (sh_int (by omega))
theorem sh_sd {r : Rm} {s : Sd} (ok : RmOk r) (so : SdOk r s) : Sh 3 5000 (sdD s) := by
  have l6 := ok.st6
  have c6 := ok.cs6
  have pl := so.pl
  have gr := so.gr
  refine (sh_two (n := 2) (w := 1218) ((sh_tup (n := 1) (w := 202) (k := 6) (fun d m => ?_) (by rw [List.length_map]; omega)).mono (by decide) (by decide)) ((sh_iD (k := 6) (fun n m => Nat.le_trans (so.g3 n m) (by decide)) (by omega)).mono (by decide) (by decide))).mono (by decide) (by decide)
  obtain ⟨p, mp, rfl⟩ := List.mem_map.mp m
  exact sh_pl (so.ok p mp)
theorem sh_ev (e : Ev) (N : Num e.2) : Sh 1 202 (evD e) := sh_two (sh_str (by cases e.1 <;> exact ⟨by decide +kernel, by decide +kernel⟩)) (sh_str (num_tx N))
theorem sh_nil : Sh 1 0 (.list []) := ⟨by simp [PyData.canLay0, PyData.canLayAll0], by simp [PyData.intsShort, PyData.intsShortAll], by simp [PyData.weight, PyData.weightAll], by simp [PyData.showable, PyData.showableAll], by simp [PyData.hasDict, PyData.hasDictAll], by simp [PyData.depth, PyData.depthAll]⟩
end
end K57

namespace K57
open PySem L2 Wm TL Dv
section
variable {P : Program} {w : World} {K : PySem.W.Frag} {mg : Str → Option Value} {base : Heap}
theorem mem_out {r : Rm} {gr : List Nat} {i : Nat} {ds : List Nat} : Pl.out ds ∈ opts r gr i ↔ ∃ (j : Nat) (c : Cd) (g : Nat), r.cs[j]? = some c ∧ c.ds = ds ∧ gr[j]? = some g ∧ 0 < g := by
  unfold opts
  constructor
  · intro h
    rcases List.mem_cons.mp h with h | h
    · cases h
    rcases List.mem_append.mp h with h | h
    · obtain ⟨x, _, e⟩ := List.mem_map.mp h
      cases e
    · obtain ⟨x, hx, e⟩ := List.mem_map.mp h
      obtain ⟨hx, h0⟩ := List.mem_filter.mp hx
      obtain ⟨j, hj⟩ := List.mem_iff_getElem?.mp hx
      rw [List.getElem?_zip_eq_some, List.getElem?_map] at hj
      obtain ⟨c, hc, e1⟩ := Option.map_eq_some_iff.mp hj.1
      exact ⟨j, c, x.2, hc, e1.trans (Pl.out.inj e), hj.2, of_decide_eq_true h0⟩
  · rintro ⟨j, c, g, hc, rfl, hg, h0⟩
    refine List.mem_cons_of_mem _ (List.mem_append_right _ (List.mem_map.mpr ⟨(c.ds, g), List.mem_filter.mpr ⟨?_, decide_eq_true h0⟩, rfl⟩))
    refine List.mem_of_getElem? (i := j) (List.getElem?_zip_eq_some.mpr ⟨?_, hg⟩)
    rw [List.getElem?_map, hc]
    rfl
theorem mem_home {r : Rm} {gr : List Nat} {i : Nat} : Pl.ins (r.st.getD i 0) ∈ opts r gr i := List.mem_cons_self
theorem mem_mv {r : Rm} {gr : List Nat} {c : Cd} {x : Nat × Nat} (hc : c ∈ r.cs) (hx : x ∈ c.moves) : Pl.ins x.2 ∈ opts r gr x.1 := by
  unfold opts
  refine List.mem_cons_of_mem _ (List.mem_append_left _ (List.mem_map.mpr ⟨x, List.mem_filter.mpr ⟨List.mem_flatMap.mpr ⟨c, hc, hx⟩, decide_eq_true rfl⟩, rfl⟩))
theorem mem_ins {r : Rm} {gr gr' : List Nat} {i : Nat} {s : Nat} (h : Pl.ins s ∈ opts r gr i) : Pl.ins s ∈ opts r gr' i := by
  unfold opts at h ⊢
  rcases List.mem_cons.mp h with h | h
  · rw [h]; exact List.mem_cons_self
  rcases List.mem_append.mp h with h | h
  · exact List.mem_cons_of_mem _ (List.mem_append_left _ h)
  · obtain ⟨x, _, e⟩ := List.mem_map.mp h
    cases e
def PlIn (O : Nat → List Pl) (pl : List Pl) : Prop := ∀ (i : Nat) (p : Pl), pl[i]? = some p → p ∈ O i
theorem PlIn.set {O : Nat → List Pl} {pl : List Pl} (h : PlIn O pl) {k : Nat} {q : Pl} (hq : q ∈ O k) : PlIn O (pl.set k q) := fun i p e => by
  rw [List.getElem?_set] at e
  split at e
  · rename_i z
    subst z
    split at e
    · cases e; exact hq
    · cases e
  · exact h i p e
theorem PlIn.outP {O : Nat → List Pl} {ds : List Nat} (hq : ∀ k, Pl.out ds ∈ O k) : ∀ {rs : List Nat} {pl : List Pl}, PlIn O pl → PlIn O (outP ds pl rs)
  | [], _, h => h
  | r :: rs, pl, h => by
    show PlIn O (K57.outP ds (pl.set r (.out ds)) rs)
    exact PlIn.outP hq (h.set (hq r))
theorem PlIn.mvF {O : Nat → List Pl} : ∀ {ms : List (Nat × Nat)} {x : List Pl × List (Nat × Nat)}, (∀ m ∈ ms, Pl.ins m.2 ∈ O m.1) → PlIn O x.1 → PlIn O (ms.foldl mvS x).1
  | [], _, _, h => h
  | m :: ms, x, hm, h => by
    rw [List.foldl_cons]
    refine PlIn.mvF (fun y my => hm y (List.mem_cons_of_mem _ my)) ?_
    unfold mvS
    split
    · exact h.set (hm m List.mem_cons_self)
    · exact h
theorem PlIn.inP {O : Nat → List Pl} {st : List Nat} (hq : ∀ k, Pl.ins (st.getD k 0) ∈ O k) : ∀ {rs : List Nat} {pl : List Pl}, (∀ (i : Nat) (p : Pl), pl[i]? = some p → p ∈ O i ∨ i ∈ rs) → PlIn O (inP st pl rs)
  | [], _, h => fun i p e => (h i p e).elim id (fun z => by cases z)
  | r :: rs, pl, h => by
    show PlIn O (K57.inP st (pl.set r (.ins (st.getD r 0))) rs)
    refine PlIn.inP hq fun i p e => ?_
    rw [List.getElem?_set] at e
    split at e
    · rename_i z
      subst z
      split at e
      · cases e; exact .inl (hq _)
      · cases e
    · rename_i z
      rcases h i p e with a | a
      · exact .inl a
      · rcases List.mem_cons.mp a with a | a
        · exact absurd a.symm z
        · exact .inr a
theorem PlIn.homeF {O : Nat → List Pl} {st : List Nat} (hq : ∀ k, Pl.ins (st.getD k 0) ∈ O k) {pl : List Pl} (h : PlIn O pl) (n : Nat) : PlIn O (homeF st pl n).1 := by
  have key : ∀ (l : List Nat) (x : List Pl × List Nat), PlIn O x.1 → PlIn O (l.foldl (homeS st) x).1 := fun l => by
    induction l with
    | nil => exact fun _ h => h
    | cons a l ih =>
      intro x h
      rw [List.foldl_cons]
      refine ih _ ?_
      unfold homeS
      split
      · exact h.set (hq a)
      · exact h
  exact key _ _ h
theorem openN_cons (g : Nat) (gr : List Nat) : openN (g :: gr) = (if 0 < g then 1 else 0) + openN gr := by
  unfold openN
  rw [List.filter_cons]
  by_cases c : 0 < g
  · rw [if_pos (decide_eq_true c), if_pos c, List.length_cons, Nat.add_comm]
  · rw [if_neg (by simpa using c), if_neg c, Nat.zero_add]
theorem openN_set : ∀ (gr : List Nat) (i g : Nat), openN (gr.set i g) ≤ openN gr + 1 ∧ (0 < gr.getD i 0 → openN (gr.set i g) ≤ openN gr)
  | [], _, _ => ⟨by simp, fun h => by simp at h⟩
  | x :: gr, 0, g => by
    rw [List.set_cons_zero, openN_cons, openN_cons]
    refine ⟨by split <;> split <;> omega, fun h => ?_⟩
    have h : 0 < x := h
    rw [if_pos h]
    split <;> omega
  | x :: gr, i + 1, g => by
    have ih := openN_set gr i g
    rw [List.set_cons_succ, openN_cons, openN_cons]
    exact ⟨by have := ih.1; omega, fun h => by have := ih.2 (by simpa using h); omega⟩
theorem grow {r : Rm} {gr : List Nat} {j g : Nat} (hg : 0 < g) {i : Nat} {p : Pl} (h : p ∈ opts r gr i) : p ∈ opts r (gr.set j g) i := by
  cases p with
  | ins s => exact mem_ins h
  | out ds =>
    obtain ⟨k, c, x, hc, e, hx, h0⟩ := mem_out.mp h
    refine mem_out.mpr ?_
    by_cases z : j = k
    · subst z
      exact ⟨j, c, g, hc, e, by rw [List.getElem?_set, if_pos rfl, if_pos (List.getElem?_eq_some_iff.mp hx).1], hg⟩
    · exact ⟨k, c, x, hc, e, by rw [List.getElem?_set, if_neg z]; exact hx, h0⟩
theorem InR.step {r : Rm} {m : Nat} {s : Sd} {e : Ev} (ok : RmOk r) (h : InR r m s) (a : e ∈ alF r s.gr m) : InR r m (stepE r s e) := by
  obtain ⟨i, c, A⟩ := al_mem ok h.ok a
  rw [A.step.1]
  have mc := List.mem_of_getElem? A.hc
  have li : i < s.gr.length := by rw [h.ok.gr]; exact (List.getElem?_eq_some_iff.mp A.hc).1
  have lift : ∀ g, 0 < g → g ≤ 3 → openN (s.gr.set i g) ≤ m → InR r m ⟨(liftP c s.pl g).1, s.gr.set i g⟩ := fun g g0 g3 o => by
    refine ⟨lift_ok ok h.ok mc g3 i, o, ?_⟩
    have hq : ∀ k, Pl.out c.ds ∈ opts r (s.gr.set i g) k := fun k => mem_out.mpr ⟨i, c, g, A.hc, rfl, by rw [List.getElem?_set, if_pos rfl, if_pos li], g0⟩
    exact PlIn.mvF (O := opts r (s.gr.set i g)) (x := (outP c.ds s.pl (wentF c s.pl g), [])) (fun x hx => mem_mv mc hx) (PlIn.outP hq fun k p e => grow g0 (h.pl k p e))
  unfold stepS
  rw [A.hc]
  cases w : e.1 with
  | back =>
    have b := A.bk w
    refine ⟨back_ok ok h.ok c.ds i, Nat.le_trans ((openN_set _ _ _).2 b) h.op, ?_⟩
    have hq : ∀ k, Pl.ins (r.st.getD k 0) ∈ opts r (s.gr.set i 0) k := fun k => mem_home
    refine PlIn.homeF hq (PlIn.inP hq fun k p e => ?_) _
    have hp := h.pl k p e
    cases p with
    | ins t => exact .inl (mem_ins hp)
    | out ds =>
      by_cases z : ds = c.ds
      · refine .inr ?_
        unfold atL
        rw [← z]
        exact List.mem_filter.mpr ⟨List.mem_range.mpr (List.getElem?_eq_some_iff.mp e).1, decide_eq_true e⟩
      · obtain ⟨j, d, x, hd, rfl, hx, h0⟩ := mem_out.mp hp
        refine .inl (mem_out.mpr ⟨j, d, x, hd, rfl, ?_, h0⟩)
        rw [List.getElem?_set, if_neg (fun q => by subst q; rw [A.hc] at hd; exact z (congrArg Cd.ds (Option.some.inj hd).symm))]
        exact hx
  | call =>
    have b := A.cl w
    show InR r m (if 0 < s.gr.getD i 0 then s else ⟨(liftP c s.pl 1).1, s.gr.set i 1⟩)
    rw [if_neg (by omega)]
    exact lift 1 (by decide) (by decide) (by have := (openN_set s.gr i 1).1; omega)
  | more =>
    have b := A.mo w
    exact lift _ (by omega) (by omega) (Nat.le_trans ((openN_set _ _ _).2 b.1) h.op)
theorem start_ok {r : Rm} (ok : RmOk r) : SdOk r (startS r) := ⟨by show (r.st.map Pl.ins).length = _; rw [List.length_map], by show (r.cs.map fun _ => 0).length = _; rw [List.length_map], fun g hg => by
    obtain ⟨_, _, rfl⟩ := List.mem_map.mp (show g ∈ r.cs.map fun _ => 0 from hg)
    decide, fun p hp => by
    obtain ⟨x, hx, rfl⟩ := List.mem_map.mp (show p ∈ r.st.map Pl.ins from hp)
    exact ok.st8 x hx⟩
theorem InR.start {r : Rm} (ok : RmOk r) (m : Nat) : InR r m (startS r) := by
  refine ⟨start_ok ok, ?_, fun i p e => ?_⟩
  · have : openN (startS r).gr = 0 := by
      show openN (r.cs.map fun _ => 0) = 0
      unfold openN
      rw [List.length_eq_zero_iff, List.filter_eq_nil_iff]
      intro g hg
      obtain ⟨_, _, rfl⟩ := List.mem_map.mp hg
      decide
    omega
  · have e : (r.st.map Pl.ins)[i]? = some p := e
    rw [List.getElem?_map] at e
    obtain ⟨x, hx, rfl⟩ := Option.map_eq_some_iff.mp e
    have : x = r.st.getD i 0 := by rw [List.getD_eq_getElem?_getD, hx]; rfl
    rw [this]
    exact mem_home
end
end K57

namespace K57
open PySem L2 Wm TL Dv
section
variable {P : Program} {w : World} {K : PySem.W.Frag} {mg : Str → Option Value} {base : Heap}
/-! ### what the program promises of all orders -/
def sp_makes_short (K : PySem.W.Frag) : Sp := fun vs H Q _ => ∃ (x y : V) (e : Ev) (t : Td), vs = [x, y] ∧ Dt K H x (evD e) ∧ Dt K H y (tdD t) ∧ (e.1 ≠ .back → ∃ g w m n, t = .sent g w m n) ∧ Q (.bl (!decide (e.1 = .back) && decide (0 < shN t))) H
def sp_oinit (K : PySem.W.Frag) (OC : Addr) : Sp := fun vs H Q _ => ∃ (p dx : Addr) (a b : V), vs = [.ref p, a, b] ∧ H p = some (.ins OC dx []) ∧ ∀ H' fs, Bu p H H' → H' p = some (.ins OC dx fs) → fs.lookup ("table" : Str) = some a → fs.lookup ("events" : Str) = some b → Q .non H'
/-- where a standing was met from -/
def SrcV (K : PySem.W.Frag) (H : Hp) (met : List Sd) (v : V) : Option (Nat × Ev) → Prop
  | none => v = .non
  | some (j, e) => ∃ q x y s, v = .ref q ∧ SqT K H q [x, y] ∧ met[j]? = some s ∧ Dt K H x (sdD s) ∧ Dt K H y (evD e)
/-- the fields of a Reach -/
def RchF (HC : Addr) (H : Hp) (p rp : Addr) (m : Nat) (L D : Addr) : Prop := ∃ dx fs, H p = some (.ins HC dx fs) ∧ fs.lookup ("room" : Str) = some (.ref rp) ∧ fs.lookup ("most_open" : Str) = some (.int (m : Nat)) ∧ fs.lookup ("met" : Str) = some (.ref L) ∧ fs.lookup ("sources" : Str) = some (.ref D) ∧ ∀ n : Str, n ≠ "room" → n ≠ "most_open" → n ≠ "met" → n ≠ "sources" → fs.lookup n = none
structure RchAt (K : PySem.W.Frag) (HC : Addr) (P : Program) (w : World) (H : Hp) (p rp : Addr) (m : Nat) (L D : Addr) (met : List Sd) (src : List (Option (Nat × Ev))) (vs : List V) (kas : List Nd.Ent) : Prop where
  f : RchF HC H p rp m L D
  l : H L = some (.lst vs)
  dl : Dts K H vs (met.map sdD)
  d : Nd.At K P w H D kas
  ks : kas.map (·.1) = met.map fun s => Nd.toKey (sdD s)
  sr : All2 (SrcV K H met) (kas.map (·.2.2)) src
def sp_hinit (K : PySem.W.Frag) (CC RC HC : Addr) (P : Program) (w : World) : Sp := fun vs H Q _ => ∃ (p dx rp : Addr) (r : Rm) (m : Nat), vs = [.ref p, .ref rp, .int (m : Nat)] ∧ H p = some (.ins HC dx []) ∧ RoomAt K RC CC H rp r ∧ RmOk r ∧
  ∀ H' L D vs kas, Bu p H H' → RchAt K HC P w H' p rp m L D [startS r] [none] vs kas → H L = none → H D = none → L ≠ D → Q .non H'
/-- a step's row: the event, the standing behind it, what it tells -/
def TrAt (K : PySem.W.Frag) (r : Rm) (s : Sd) (H : Hp) (v : V) (e : Ev) : Prop := ∃ q x y z, v = .ref q ∧ SqT K H q [x, y, z] ∧ Dt K H x (evD e) ∧ Dt K H y (sdD (stepE r s e)) ∧ Dt K H z (tdD (tellE r s e))
def sp_steps_from (K : PySem.W.Frag) (CC RC HC : Addr) : Sp := fun vs H Q _ => ∃ (p rp : Addr) (r : Rm) (m : Nat) (L D : Addr) (v : V) (s : Sd), vs = [.ref p, v] ∧ RchF HC H p rp m L D ∧ RoomAt K RC CC H rp r ∧ RmOk r ∧ Dt K H v (sdD s) ∧ SdOk r s ∧
  ∀ H' q us, Same H H' → H q = none → H' q = some (.lst us) → All2 (TrAt K r s H') us (alF r s.gr m) → Q (.ref q) H'
theorem two_ds {H : Hp} {v : V} {a b : PyData} {t : Addr} {x y : V} (h : Dt K H v (.tuple [a, b])) (e : v = .ref t) (ht : SqT K H t [x, y]) : True := trivial
theorem last_sent {H : Hp} {v : V} {g : Nat} {wl : List Nat} {m : List (Nat × Nat)} {sh : Nat} (h : Dt K H v (tdD (.sent g wl m sh))) : ∃ p x y, v = .ref p ∧ SqT K H p [.int (g : Nat), x, y, .int (sh : Nat)] := by
  unfold tdD at h
  cases h with
  | tup hq hs =>
    cases hs with
    | cons a hs =>
      cases a
      cases hs with
      | cons b hs =>
        cases hs with
        | cons c hs =>
          cases hs with
          | cons d hs =>
            cases d
            cases hs
            exact ⟨_, _, _, rfl, hq⟩
theorem ok_makes_short (T : Txt K mg) : FnOk P w K mg base CX0 1 T.a_makes_short T.d_makes_short ["event", "told"] (sp_makes_short K) := by
  refine T.F_makes_short.ok sc_makes_short (fun vs H Q E h => ?_) (fun cdv A outer s H vs Q E hr h => ?_)
  · obtain ⟨x, y, e, t, rfl, _⟩ := h
    rfl
  · obtain ⟨x, y, e, t, rfl, dx, dy, hm, k⟩ := h
    obtain ⟨q, a, b, rfl, hq, d1, d2⟩ := dt_two dx
    obtain rfl := d1.str_inv
    refine ⟨_, (pss_one (ps_ret (pe_and (pe_cmpR op_ne (pe_ix ix_tup (pv 0) pe_int (fun _ _ => rfl)) (pe_glob (v := V.str "back") rfl T.c_BACK ⟨_, rfl⟩) (nomark _)) (pe_one (pe_cmpR op_gt (pe_ix ix_tup (pv 1) (pe_un un_neg pe_int) (fun _ _ => rfl)) pe_int (nomark _)))))), ?_⟩
    refine ⟨_, rfl, q, _, 0, _, rfl, rfl, hq, atI_nat (j := 0) rfl, rfl, _, rfl, ?_⟩
    rw [wd_back]
    by_cases c : e.1 = .back
    · rw [decide_eq_true c] at k ⊢
      exact iteF k
    · rw [decide_eq_false c] at k ⊢
      refine iteT ?_
      obtain ⟨g, wl, m, n, rfl⟩ := hm c
      obtain ⟨p, u, z, rfl, hp⟩ := last_sent dy
      refine ⟨_, rfl, _, rfl, p, _, -1, _, rfl, rfl, hp, rfl, _, _, rfl, rfl, ?_⟩
      have e1 : decide (((n : Nat) : Int) > 0) = decide (0 < n) := by
        by_cases c : 0 < n
        · rw [decide_eq_true c, decide_eq_true (by omega)]
        · rw [decide_eq_false c, decide_eq_false (by omega)]
      (try dsimp only)
      show Q (.bl (decide (0 < ((n : Nat) : Int)))) H
      rw [show decide (0 < ((n : Nat) : Int)) = decide (0 < n) from e1]
      exact k
theorem ok_oinit (T : Txt K mg) : FnOk P w K mg base CX0 1 T.a_oinit T.d_oinit ["self", "table", "events"] (sp_oinit K T.OC) := by
  refine T.F_oinit.ok sc_oinit (fun vs H Q E h => ?_) (fun cdv A outer s H vs Q E hr h => ?_)
  · obtain ⟨p, dx, a, b, rfl, _⟩ := h
    rfl
  · obtain ⟨p, dx, a, b, rfl, hp, k⟩ := h
    refine ⟨_, (pss_cons (ps_fld (pv 0) (pv 1) rfl)
      (pss_one (ps_fld (pv 0) (pv 2) rfl))), ?_⟩
    refine ⟨_, rfl, _, rfl, p, T.OC, dx, [], rfl, hp, T.clOC, T.nTa, by decide, ?_⟩
    obtain ⟨f1, e1, g1, n1⟩ := putF_ex "table" a []
    rw [e1]
    refine ⟨_, rfl, _, rfl, p, T.OC, dx, f1, rfl, upd_same, T.clOC, T.nEv, (by have : ([] : List (Str × V)).length = 0 := rfl; omega), ?_⟩
    obtain ⟨f2, e2, g2, n2⟩ := putF_ex "events" b f1
    rw [e2]
    refine k _ f2 (Bu.set.trans Bu.set) upd_same ?_ ?_
    · rw [g2, if_neg (by decide +kernel), g1, if_pos rfl]
    · rw [g2, if_pos rfl]
end
end K57

namespace K57
open PySem L2 Wm TL Dv
section
variable {P : Program} {w : World} {K : PySem.W.Frag} {mg : Str → Option Value} {base : Heap}
theorem all_le {n : Nat} : ∀ {ds : List PyData}, (∀ d ∈ ds, d.depth ≤ n) → PyData.depthAll ds ≤ n
  | [], _ => Nat.zero_le _
  | d :: ds, h => by
    have a := h d List.mem_cons_self
    have b := all_le (ds := ds) fun y m => h y (List.mem_cons_of_mem _ m)
    simp only [PyData.depthAll]
    omega
theorem tup_le {n : Nat} {ds : List PyData} (h : ∀ d ∈ ds, d.depth ≤ n) : (PyData.tuple ds).depth ≤ n + 1 := by
  simp only [PyData.depth]
  have := all_le h
  omega
theorem sd_depth (s : Sd) : (sdD s).depth ≤ 3 := by
  unfold sdD
  refine tup_le (n := 2) fun d m => ?_
  simp only [List.mem_cons, List.not_mem_nil, or_false] at m
  rcases m with rfl | rfl
  · refine tup_le (n := 1) fun d m => ?_
    obtain ⟨p, _, rfl⟩ := List.mem_map.mp m
    cases p <;> simp [plD, PyData.depth, PyData.depthAll]
  · unfold iD
    refine Nat.le_succ_of_le (tup_le (n := 0) fun d m => ?_)
    obtain ⟨p, _, rfl⟩ := List.mem_map.mp m
    simp [PyData.depth]
theorem sd_nk {H : Hp} {v : V} {s : Sd} (h : Dt K H v (sdD s)) : Nd.Nk K H v (Nd.toKey (sdD s)) := ⟨_, h, rfl, Nat.le_trans (sd_depth s) (by decide)⟩
theorem plD_inj {p q : Pl} (h : plD p = plD q) : p = q := by
  cases p with
  | ins a =>
    cases q with
    | ins b =>
      simp only [plD, PyData.tuple.injEq, List.cons.injEq, PyData.int.injEq, and_true, true_and] at h
      rw [Int.ofNat_inj.mp h]
    | out b =>
      exfalso
      simp only [plD, PyData.tuple.injEq, List.cons.injEq, PyData.str.injEq] at h
      revert h
      intro h
      exact absurd h.1 (by decide +kernel)
  | out a =>
    cases q with
    | ins b =>
      exfalso
      simp only [plD, PyData.tuple.injEq, List.cons.injEq, PyData.str.injEq] at h
      exact absurd h.1 (by decide +kernel)
    | out b =>
      simp only [plD, PyData.tuple.injEq, List.cons.injEq, PyData.str.injEq, and_true, true_and] at h
      rw [numS_inj h]
theorem map_inj {α β : Type} {f : α → β} (hf : ∀ a b, f a = f b → a = b) : ∀ {l m : List α}, l.map f = m.map f → l = m
  | [], [], _ => rfl
  | [], _ :: _, h => by cases h
  | _ :: _, [], h => by cases h
  | a :: l, b :: m, h => by
    simp only [List.map_cons, List.cons.injEq] at h
    rw [hf _ _ h.1, map_inj hf h.2]
theorem sdD_inj {s t : Sd} (h : sdD s = sdD t) : s = t := by
  cases s with
  | mk a b =>
    cases t with
    | mk c d =>
      simp only [sdD, iD, PyData.tuple.injEq, List.cons.injEq, and_true] at h
      rw [map_inj (fun _ _ => plD_inj) h.1, map_inj (fun x y e => by simp only [PyData.int.injEq] at e; exact Int.ofNat_inj.mp e) h.2]
theorem roomBu {HC RC CC p dx rp : Addr} {H H' : Hp} {r : Rm} (hp : H p = some (.ins HC dx [])) (b : Bu p H H') (h : RoomAt K RC CC H rp r) : RoomAt K RC CC H' rp r :=
  h.kb (b.kt hp (fun _ e => by cases e) (fun _ _ e => by cases e)) (fun _ _ t => b.tf hp (fun _ _ e => by cases e) t) fun C q dx fs e _ ne => b q _ (fun z => by subst z; rw [hp] at e; cases e; exact ne rfl) e
theorem RchF.k {HC : Addr} {H H' : Hp} {p rp : Addr} {m : Nat} {L D : Addr} (h : RchF HC H p rp m L D) (s : Same H H') : RchF HC H' p rp m L D := let ⟨dx, fs, a, b⟩ := h; ⟨dx, fs, s _ _ a, b⟩
theorem TrAt.k {r : Rm} {s : Sd} {H H' : Hp} {v : V} {e : Ev} (h : TrAt K r s H v e) (z : Same H H') : TrAt K r s H' v e := let ⟨q, x, y, t, e, a, b, c, d⟩ := h; ⟨q, x, y, t, e, sameT z a, b.ks z, c.ks z, d.ks z⟩
theorem TrAt.kk {r : Rm} {s : Sd} {H H' : Hp} {v : V} {e : Ev} (h : TrAt K r s H v e) (z : Kt K H H') : TrAt K r s H' v e := let ⟨q, x, y, t, e, a, b, c, d⟩ := h; ⟨q, x, y, t, e, z _ _ a, b.k z, c.k z, d.k z⟩
theorem ok_hinit (T : Txt K mg) : FnOk P w K mg base CX0 2 T.a_hinit T.d_hinit ["self", "room", "most_open"] (sp_hinit K T.CC T.RC T.HC P w) := by
  refine T.F_hinit.ok sc_hinit (fun vs H Q E h => ?_) (fun cdv A outer s H vs Q E hr h => ?_)
  · obtain ⟨p, dx, rp, r, m, rfl, _⟩ := h
    rfl
  · obtain ⟨p, dx, rp, r, m, rfl, hp, hR, ok, k⟩ := h
    obtain ⟨dxr, fsr, _, _, _, _, hrp, _, _, _, _, _, _, _, lo⟩ := id hR
    refine ⟨_, (pss_cons (ps_fld (pv 0) (pv 1) rfl)
      (pss_cons (ps_fld (pv 0) (pv 2) rfl)
      (pss_cons (ps_fld (pv 0) (pe_lst (pa_cons (pe_meth0 (pv 1) T.clRC T.m_rstart (ok_rstart T) (hr.mono (by decide)) T.b_rstart .nil pass0) pa_nil)) rfl)
      (pss_one (ps_fld (pv 0) (Nd.pe_nd1 hr.units (pe_meth0 (pv 1) T.clRC T.m_rstart (ok_rstart T) (hr.mono (by decide)) T.b_rstart .nil pass0) pe_non) rfl))))), ?_⟩
    refine ⟨_, rfl, _, rfl, p, T.HC, dx, [], rfl, hp, T.clHC, T.nHr, by decide, ?_⟩
    obtain ⟨f1, e1, g1, n1⟩ := putF_ex "room" (.ref rp) []
    rw [e1]
    refine ⟨_, rfl, _, rfl, p, T.HC, dx, f1, rfl, upd_same, T.clHC, T.nHo, (by have : ([] : List (Str × V)).length = 0 := rfl; omega), ?_⟩
    obtain ⟨f2, e2, g2, n2⟩ := putF_ex "most_open" (.int (m : Nat)) f1
    rw [e2]
    have n0 : ([] : List (Str × V)).length = 0 := rfl
    have b2 : Bu p H (upd (upd H p (.ins T.HC dx f1)) p (.ins T.HC dx f2)) := Bu.set.trans Bu.set
    have hp2 : upd (upd H p (.ins T.HC dx f1)) p (.ins T.HC dx f2) p = some (.ins T.HC dx f2) := upd_same
    have hR2 := roomBu hp b2 hR
    generalize upd (upd H p (.ins T.HC dx f1)) p (.ins T.HC dx f2) = H2 at b2 hp2 hR2 ⊢
    have nf : ∀ {A : Hp} {q : Addr}, A p = some (.ins T.HC dx f2) → A q = none → q ≠ p := fun a b e => by subst e; rw [a] at b; cases b
    obtain ⟨dxs, fss, _, _, _, _, hrp2, _, _, _, _, _, _, _, lo2⟩ := id hR2
    refine ⟨_, rfl, rp, dxs, fss, rfl, hrp2, lo2 _ (by decide +kernel) (by decide +kernel) (by decide +kernel), rp, r, rfl, hR2, ok, fun H3 v s3 dv => ?_⟩
    refine ⟨by show 1 ≤ sizeLine; decide, fun L hL => ?_⟩
    have hp3 := s3 _ _ hp2
    have nLp := nf hp3 hL
    have s4 := same_new (o := .lst [v]) hL
    have hL4 : upd H3 L (.lst [v]) L = some (.lst [v]) := upd_same
    have hp4 := s4 _ _ hp3
    have b4 := b2.trans (Bu.of (s3.trans s4) (p := p))
    have dv4 := dv.ks s4
    have hLH : H L = none := by
      cases e : H L with
      | none => rfl
      | some o => rw [(b2.trans (Bu.of s3)) _ _ nLp e] at hL; cases hL
    generalize upd H3 L (.lst [v]) = H4 at hL4 hp4 b4 dv4 ⊢
    refine ⟨_, rfl, p, T.HC, dx, f2, rfl, hp4, T.clHC, T.nHm, by omega, ?_⟩
    obtain ⟨f3, e3, g3, n3⟩ := putF_ex "met" (.ref L) f2
    rw [e3]
    have b5 := b4.trans (Bu.set (p := p) (o := .ins T.HC dx f3))
    have hp5 : upd H4 p (.ins T.HC dx f3) p = some (.ins T.HC dx f3) := upd_same
    have hL5 : upd H4 p (.ins T.HC dx f3) L = some (.lst [v]) := by rw [upd_ne nLp]; exact hL4
    have dv5 : Dt K (upd H4 p (.ins T.HC dx f3)) v (sdD (startS r)) := dv4.k ((Bu.set (p := p)).kt hp4 (fun _ e => by cases e) (fun _ _ e => by cases e))
    have hR5 := roomBu hp b5 hR
    generalize upd H4 p (.ins T.HC dx f3) = H5 at b5 hp5 hL5 dv5 hR5 ⊢
    intro D hD
    have nDp : D ≠ p := fun e => by subst e; rw [hp5] at hD; cases hD
    have nLD : L ≠ D := fun e => by subst e; rw [hL5] at hD; cases hD
    have hDH : H D = none := by
      cases e : H D with
      | none => rfl
      | some o => rw [b5 _ _ nDp e] at hD; cases hD
    have s6 := same_new (o := Nd.NDo P w D []) hD
    have hD6 : upd H5 D (Nd.NDo P w D []) D = some (Nd.NDo P w D []) := upd_same
    have hR6 := hR5.k s6
    have hp6 := s6 _ _ hp5
    have hL6 := s6 _ _ hL5
    have dv6 := dv5.ks s6
    have b6 := b5.trans (Bu.of s6 (p := p))
    obtain ⟨dxs, fss, _, _, _, _, hrp6, _, _, _, _, _, _, _, lo6⟩ := id hR6
    refine ⟨_, rfl, rp, dxs, fss, rfl, hrp6, lo6 _ (by decide +kernel) (by decide +kernel) (by decide +kernel), rp, r, rfl, hR6, ok, fun H7 u s7 du => ?_⟩
    obtain ⟨bu, _, rfl, _⟩ := du.inv
    refine ⟨bu, Nd.toKey (sdD (startS r)), .non, rfl, s7 _ _ hD6, sd_nk du, fun H8 e8 A8 => ?_⟩
    have b78 : Bu D H7 H8 := by rw [e8]; exact Bu.set
    have hp8 := b78 _ _ (fun e => nDp e.symm) (s7 _ _ hp6)
    have hL8 := b78 _ _ nLD (s7 _ _ hL6)
    have dv8 := (dv6.ks s7).k (b78.kt (s7 _ _ hD6) (fun _ e => by cases e) (fun _ _ e => by cases e))
    refine ⟨_, rfl, p, T.HC, dx, f3, rfl, hp8, T.clHC, T.nHs, by omega, ?_⟩
    obtain ⟨f4, e4, g4, n4⟩ := putF_ex "sources" (.ref D) f3
    rw [e4]
    have b9 : Bu p H8 (upd H8 p (.ins T.HC dx f4)) := Bu.set
    have k9 : Kt K H8 (upd H8 p (.ins T.HC dx f4)) := b9.kt hp8 (fun _ e => by cases e) (fun _ _ e => by cases e)
    have ba : Bu p H (upd H8 p (.ins T.HC dx f4)) := fun q o n e => by
      have nD : q ≠ D := fun z => by subst z; rw [hDH] at e; cases e
      exact b9 _ _ n (b78 _ _ nD (s7 _ _ (b6 _ _ n e)))
    refine k _ L D [v] [(Nd.toKey (sdD (startS r)), bu, .non)] ba ⟨⟨dx, f4, upd_same, ?_, ?_, ?_, ?_, fun n h1 h2 h3 h4 => ?_⟩, b9 _ _ nLp hL8, .cons (dv8.k k9) .nil, ⟨b9 _ _ nDp A8.h, fun e he => (A8.keys e he).kt k9, A8.nd⟩, rfl, .cons rfl .nil⟩ hLH hDH nLD
    · rw [g4, if_neg (by decide +kernel), g3, if_neg (by decide +kernel), g2, if_neg (by decide +kernel), g1, if_pos rfl]
    · rw [g4, if_neg (by decide +kernel), g3, if_neg (by decide +kernel), g2, if_pos rfl]
    · rw [g4, if_neg (by decide +kernel), g3, if_pos rfl]
    · rw [g4, if_pos rfl]
    · rw [g4, if_neg h4, g3, if_neg h3, g2, if_neg h2, g1, if_neg h1]; rfl
theorem sent_of {r : Rm} {s : Sd} {m : Nat} {e : Ev} {i : Nat} {c : Cd} (a : AlE r s m e i c) : (e.1 ≠ .back → ∃ g w m n, tellE r s e = .sent g w m n) ∧ (tellE r s e ≠ .non) := by
  rw [a.step.2]
  unfold stepT
  rw [a.hc]
  cases w : e.1 with
  | back => exact ⟨fun z => absurd rfl z, fun z => by cases z⟩
  | call =>
    have b := a.cl w
    show ((Wd.call ≠ .back → ∃ g w m n, (if 0 < s.gr.getD i 0 then Td.non else liftT c s.pl 1) = .sent g w m n) ∧ (if 0 < s.gr.getD i 0 then Td.non else liftT c s.pl 1) ≠ .non)
    rw [if_neg (by omega)]
    exact ⟨fun _ => ⟨_, _, _, _, rfl⟩, fun z => by cases z⟩
  | more => exact ⟨fun _ => ⟨_, _, _, _, rfl⟩, fun z => by cases z⟩
theorem All2.mono2 {α β : Type} {R S : α → β → Prop} {as : List α} {bs : List β} (h : All2 R as bs) (f : ∀ a b, R a b → S a b) : All2 S as bs := h.mono f
theorem alF_len {r : Rm} {gr : List Nat} {m : Nat} (ok : RmOk r) : (alF r gr m).length ≤ 18 := by
  have h : ∀ l : List (List Nat × Nat), (l.flatMap (alI gr m)).length ≤ 3 * l.length := fun l => by
    induction l with
    | nil => simp
    | cons x l ih =>
      rw [List.flatMap_cons, List.length_append, List.length_cons]
      have := alI_len gr m x
      omega
  have h1 := h ((r.cs.map fun c => c.ds).zip gr)
  have h2 : ((r.cs.map fun c => c.ds).zip gr).length ≤ r.cs.length := by rw [List.length_zip, List.length_map]; omega
  have := ok.cs6
  unfold alF
  omega
theorem ok_steps_from (T : Txt K mg) : FnOk P w K mg base CX0 5 T.a_steps_from T.d_steps_from ["self", "standing"] (sp_steps_from K T.CC T.RC T.HC) := by
  refine T.F_steps_from.ok sc_steps_from (fun vs H Q E h => ?_) (fun cdv A outer s H vs Q E hr h => ?_)
  · obtain ⟨p, rp, r, m, L, D, v, s, rfl, _⟩ := h
    rfl
  · obtain ⟨p, rp, r, m, L, D, v, s, rfl, hF, hR, ok, dv, so, k⟩ := h
    obtain ⟨dx, fs, hp, l1, l2, l3, l4, lo⟩ := id hF
    obtain ⟨dxr, fsr, _, _, _, _, hrp, _, _, _, _, _, _, _, lor⟩ := id hR
    refine ⟨_, (pss_cons (ps_set (i := 2) sc_steps_from.nd rfl (Or.inl rfl) (pe_meth (pe_fld (pv 0) rfl) T.clRC T.m_rallowed (ok_rallowed T) (hr.mono (by decide)) T.b_rallowed .nil pass0 (pa_cons (pv 1) (pa_cons (pe_fld (pv 0) rfl) pa_nil))))
      (pss_one (ps_ret (pe_lc (own := [("event", 3)]) (g := gName 3) (tt := tYes) rfl sc_steps_from.nd (pi_tup (pv 2)) (blkOk_by (own := [("event", 3)]) (N := nm_steps_from) (sc := (defScope s_steps_from)) (by decide +kernel)) (fun _ _ _ _ _ => pg_name (i := 3) sc_steps_from.nd rfl (Or.inl rfl)) (fun _ _ _ _ _ => pts_nil) (fun _ _ _ _ _ => (pe_op (show OpR _ _ (rCatA K) from op_catA) (pe_tup (pa_cons (pv 3) pa_nil)) (pe_meth (show PE _ _ (tFld K (tVar 0) "room") from by exact pe_fld (pv 0) rfl) T.clRC T.m_rstep (ok_rstep T) (hr.mono (by decide)) T.b_rstep .nil pass0 (pa_cons (pv 1) (pa_cons (pv 3) pa_nil))))))))), ?_⟩
    refine ⟨_, rfl, p, T.HC, dx, fs, _, rfl, hp, T.clHC, T.nHr, l1, rp, dxr, fsr, rfl, hrp, lor _ (by decide +kernel) (by decide +kernel) (by decide +kernel), _, rfl, _, rfl, p, T.HC, dx, fs, _, rfl, hp, T.clHC, T.nHo, l2, ?_⟩
    refine ⟨rp, r, v, s, m, rfl, hR, ok, dv, so, fun H1 u s1 du => ?_⟩
    obtain ⟨a, xs, rfl, ha, da⟩ := du.inv
    refine ⟨_, rfl, a, rfl, ⟨_, ha⟩, fun q hq => ?_⟩
    have lx := da.len
    rw [List.length_map] at lx
    have l18 := alF_len (gr := s.gr) (m := m) ok
    refine Lm.lc_map (K := K) walk_tup (xs := xs) (fun i y A => ∃ e, (alF r s.gr m)[i]? = some e ∧ TrAt K r s A y e) (fun _ _ _ _ h kt => let ⟨e, a, b⟩ := h; ⟨e, a, b.kk kt⟩) hq (by omega) (fun H' s' => sameT s' ha) (fun i x H' hi hx s' Q' Z hQ => ?_) (fun H2 ys s2 hD2 hl hy => ?_)
    · obtain ⟨d, ed, de⟩ := da.at hx
      rw [List.getElem?_map] at ed
      obtain ⟨e, ee, rfl⟩ := Option.map_eq_some_iff.mp ed
      obtain ⟨i2, c, A⟩ := al_mem ok so (List.mem_of_getElem? ee)
      have s1' := s1.trans s'
      refine ⟨rfl, yesT ⟨_, rfl, by show 1 ≤ sizeLine; decide, fun t ht => ?_⟩⟩
      have s3 := same_new (o := .tup [x]) ht
      have sA := s1'.trans s3
      have ht3 : upd H' t (.tup [x]) t = some (.tup [x]) := upd_same
      have dx3 := (de.ks s').ks s3
      generalize upd H' t (.tup [x]) = H3 at s3 sA ht3 dx3 ⊢
      refine ⟨_, rfl, p, T.HC, dx, fs, _, rfl, sA _ _ hp, T.clHC, T.nHr, l1, rp, dxr, fsr, rfl, sA _ _ hrp, lor _ (by decide +kernel) (by decide +kernel) (by decide +kernel), _, rfl, _, rfl, rp, r, i2, c, v, s, e.1, x, rfl, hR.k sA, ok, A.hc, dv.ks sA, so, ?_, A.less, fun H4 u s4 hst => ?_⟩
      · have : evD (e.1, c.ds) = evD e := by unfold evD; rw [A.ds]
        rw [this]
        exact dx3
      · obtain ⟨q2, v1, v2, rfl, hq2, d1, d2⟩ := hst
        refine ⟨t, q2, _, _, rfl, rfl, SqT.of (s4 _ _ ht3), SqT.of hq2, by show 1 + 2 ≤ sizeLine; decide, (fun z => by cases z), (fun _ z => by cases z), fun _ _ g hg => ?_⟩
        have s5 := same_new (o := .tup ([x] ++ [v1, v2])) hg
        refine hQ _ _ ((s3.trans s4).trans s5) ⟨e, ee, g, x, v1, v2, rfl, SqT.of upd_same, (dx3.ks s4).ks s5, ?_, ?_⟩
        · rw [A.step.1]; exact d1.ks s5
        · rw [A.step.2]
          rcases d2 with ⟨z, _⟩ | ⟨_, d2⟩
          · rw [← A.step.2] at z; exact absurd z (sent_of A).2
          · exact d2.ks s5
    · refine k H2 q ys (s1.trans s2) (none_of s1 hq) hD2 (all2_of (by rw [hl, lx]) fun i y e hy1 he => ?_)
      obtain ⟨e2, h2, h3⟩ := hy i y hy1
      rw [he] at h2
      cases h2
      exact h3
end
end K57

namespace K57
open PySem L2 Wm TL Dv
section
variable {P : Program} {w : World} {K : PySem.W.Frag} {mg : Str → Option Value} {base : Heap}
/-- all but two -/
def Bu2 (L D : Addr) (H H' : Hp) : Prop := ∀ q o, q ≠ L → q ≠ D → H q = some o → H' q = some o
def sp_meet (K : PySem.W.Frag) (HC : Addr) (P : Program) (w : World) : Sp := fun vs H Q _ => ∃ (p rp : Addr) (m : Nat) (L D : Addr) (met : List Sd) (src : List (Option (Nat × Ev))) (us : List V) (kas : List Nd.Ent) (x y z : V) (s s' : Sd) (e : Ev) (j : Nat), vs = [.ref p, x, y, z] ∧ RchAt K HC P w H p rp m L D met src us kas ∧ met[j]? = some s ∧ Dt K H x (sdD s) ∧ Dt K H y (evD e) ∧ Dt K H z (sdD s') ∧ met.length ≤ 3000 ∧ (s' ∉ met → met.length < 3000) ∧
  (s' ∈ met → Q .non H) ∧ (s' ∉ met → ∀ H' us' kas', Bu2 L D H H' → Kt K H H' → RchAt K HC P w H' p rp m L D (met ++ [s']) (src ++ [some (j, e)]) us' kas' → Q .non H')
/-- what has been met -/
structure Good (r : Rm) (m : Nat) (met : List Sd) (src : List (Option (Nat × Ev))) : Prop where
  s0 : met[0]? = some (startS r)
  z : src[0]? = some none
  ln : src.length = met.length
  up : ∀ i, 0 < i → i < met.length → ∃ j e s s', src[i]? = some (some (j, e)) ∧ j < i ∧ met[j]? = some s ∧ met[i]? = some s' ∧ e ∈ alF r s.gr m ∧ shortE r s e = false ∧ stepE r s e = s'
  inr : ∀ s ∈ met, InR r m s
def sp_row_to (K : PySem.W.Frag) (HC : Addr) (P : Program) (w : World) : Sp := fun vs H Q _ => ∃ (p rp : Addr) (r : Rm) (m : Nat) (L D : Addr) (met : List Sd) (src : List (Option (Nat × Ev))) (us : List V) (kas : List Nd.Ent) (v : V) (s : Sd) (i : Nat), vs = [.ref p, v] ∧ RchAt K HC P w H p rp m L D met src us kas ∧ Good r m met src ∧ met.length ≤ 3000 ∧ met[i]? = some s ∧ Dt K H v (sdD s) ∧
  ∀ H' u es, Same H H' → Dt K H' u (.tuple (es.map evD)) → okRow r m (startS r) es = some s → es.length ≤ i → Q u H'
theorem look_mem {kas : List Nd.Ent} {k : NestedKey} : (Nd.look kas k).isSome = true ↔ k ∈ kas.map (·.1) := by
  unfold Nd.look
  rw [Option.isSome_map, List.find?_isSome, List.mem_map]
  constructor
  · rintro ⟨e, he, h⟩
    exact ⟨e, he, of_decide_eq_true h⟩
  · rintro ⟨e, he, h⟩
    exact ⟨e, he, decide_eq_true h⟩
theorem look_at : ∀ {kas : List Nd.Ent} {i : Nat} {e : Nd.Ent}, (kas.map (·.1)).Nodup → kas[i]? = some e → Nd.look kas e.1 = some e.2.2
  | [], _, _, _, h => by cases h
  | x :: kas, 0, e, _, h => by
    cases h
    unfold Nd.look
    rw [List.find?_cons, decide_eq_true rfl]
    rfl
  | x :: kas, i + 1, e, nd, h => by
    rw [List.map_cons, List.nodup_cons] at nd
    have h : kas[i]? = some e := by simpa using h
    have ih := look_at nd.2 h
    unfold Nd.look at ih ⊢
    rw [List.find?_cons, decide_eq_false (fun z => nd.1 (by rw [z]; exact List.mem_map.mpr ⟨e, List.mem_of_getElem? h, rfl⟩))]
    exact ih
theorem key_met {H : Hp} {us : List V} {met : List Sd} (h : Dts K H us (met.map sdD)) {z : V} {s : Sd} (hz : Dt K H z (sdD s)) : Nd.toKey (sdD s) ∈ (met.map fun s => Nd.toKey (sdD s)) ↔ s ∈ met := by
  rw [List.mem_map]
  constructor
  · rintro ⟨t, ht, e⟩
    obtain ⟨i, hi⟩ := List.mem_iff_getElem?.mp ht
    obtain ⟨v, _, dv⟩ := h.get (i := i) (d := sdD t) (by rw [List.getElem?_map, hi]; rfl)
    have := Nd.key_inj _ _ _ _ dv hz e
    rw [← sdD_inj this]
    exact ht
  · exact fun h => ⟨s, h, rfl⟩
theorem SrcV.kk {H H' : Hp} {met met' : List Sd} {v : V} {o : Option (Nat × Ev)} (h : SrcV K H met v o) (k : Kt K H H') (hm : ∀ (j : Nat) s, met[j]? = some s → met'[j]? = some s) : SrcV K H' met' v o := by
  cases o with
  | none => exact h
  | some x =>
    obtain ⟨q, x1, y1, s, e, a, b, c, d⟩ := h
    exact ⟨q, x1, y1, s, e, k _ _ a, hm _ _ b, c.k k, d.k k⟩
theorem nd_of {α β : Type} {f : α → β} : ∀ {l : List α}, (l.map f).Nodup → l.Nodup
  | [], _ => List.nodup_nil
  | x :: l, h => by
    rw [List.map_cons, List.nodup_cons] at h
    exact List.nodup_cons.mpr ⟨fun m => h.1 (List.mem_map.mpr ⟨x, m, rfl⟩), nd_of h.2⟩
theorem RchAt.nd {HC p rp L D : Addr} {P : Program} {w : World} {H : Hp} {m : Nat} {met : List Sd} {src : List (Option (Nat × Ev))} {us : List V} {kas : List Nd.Ent} (h : RchAt K HC P w H p rp m L D met src us kas) : met.Nodup := by
  have := h.d.nd
  rw [h.ks] at this
  exact nd_of this
theorem RchAt.k {HC p rp L D : Addr} {P : Program} {w : World} {H H' : Hp} {m : Nat} {met : List Sd} {src : List (Option (Nat × Ev))} {us : List V} {kas : List Nd.Ent} (h : RchAt K HC P w H p rp m L D met src us kas) (s : Same H H') : RchAt K HC P w H' p rp m L D met src us kas :=
  ⟨h.f.k s, s _ _ h.l, h.dl.ks s, ⟨s _ _ h.d.h, fun e he => (h.d.keys e he).kt (Kt.same s), h.d.nd⟩, h.ks, h.sr.mono fun _ _ x => x.kk (Kt.same s) fun _ _ e => e⟩
theorem ok_meet (T : Txt K mg) : FnOk P w K mg base CX0 1 T.a_meet T.d_meet ["self", "standing", "event", "after"] (sp_meet K T.HC P w) := by
  refine T.F_meet.ok sc_meet (fun vs H Q E h => ?_) (fun cdv A outer s H vs Q E hr h => ?_)
  · obtain ⟨p, rp, m, L, D, met, src, us, kas, x, y, z, s, s', e, j, rfl, _⟩ := h
    rfl
  · obtain ⟨p, rp, m, L, D, met, src, us, kas, x, y, z, s, s', e, j, rfl, R, hj, dx, dy, dz, lm, lt, k1, k2⟩ := h
    obtain ⟨dx0, fs, hp, l1, l2, l3, l4, lo⟩ := R.f
    have lu := R.dl.len
    rw [List.length_map] at lu
    have lk : kas.length = met.length := by have := congrArg List.length R.ks; rwa [List.length_map, List.length_map] at this
    have hmem : (Nd.look kas (Nd.toKey (sdD s'))).isSome = true ↔ s' ∈ met := by rw [look_mem, R.ks]; exact key_met R.dl dz
    obtain ⟨bz, _, rfl, _⟩ := dz.inv
    refine ⟨_, (pss_cons (ps_if (pt_cmpR (Nd.op_inN hr.units) (pv 3) (pe_fld (pv 0) rfl) rfl)
        (pss_one ps_retN)
        pss_nil)
      (pss_cons (ps_if (pt_cmpR op_eq (pe_callB call_len_seq (by rfl) T.z_len PySem.boot_len (pa_cons (pe_fld (pv 0) rfl) pa_nil)) (pe_glob (v := V.int 3000) rfl T.c_MOST_STANDINGS ⟨_, rfl⟩) (nomark _))
        (pss_one ps_never)
        pss_nil)
      (pss_cons (ps_expr (pe_bm PySem.F.plainAttrs_list PySem.F.slot_list_append PySem.F.type_list_append mt_append (pe_fld (pv 0) rfl) (pa_cons (pv 3) pa_nil)))
      (pss_one (Nd.ps_putN hr.units (pe_fld (pv 0) rfl) (pv 3) (pe_tup (pa_cons (pv 1) (pa_cons (pv 2) pa_nil))) rfl))))), ?_⟩
    refine ⟨_, rfl, _, rfl, p, T.HC, dx0, fs, _, rfl, hp, T.clHC, T.nHs, l4, D, kas, _, rfl, R.d, sd_nk dz, _, rfl, ite2 (fun c => ?_) (fun c => ?_)⟩
    · rw [Bool.false_bne] at c
      exact k1 (hmem.mp c)
    rw [Bool.false_bne] at c
    have ns : s' ∉ met := fun z => c (hmem.mpr z)
    have k2 := k2 ns
    have lt := lt ns
    clear k1
    refine ⟨_, rfl, p, T.HC, dx0, fs, _, rfl, hp, T.clHC, T.nHm, l3, L, us, rfl, .inl (SqL.of R.l), rfl, _, rfl, iteN ?_ ?_⟩
    · exact decide_eq_false (by intro z; have z := V.int.inj z; omega)
    refine ⟨_, rfl, p, T.HC, dx0, fs, _, rfl, hp, T.clHC, T.nHm, l3, .inl ⟨rfl, _, SqL.of R.l⟩, _, rfl, L, us, _, rfl, rfl, R.l, Nat.lt_of_lt_of_le (m := 3001) (by omega) (by decide), ?_⟩
    have hL1 : upd H L (.lst (us ++ [.ref bz])) L = some (.lst (us ++ [.ref bz])) := upd_same
    have b1 : Bu L H (upd H L (.lst (us ++ [.ref bz]))) := Bu.set
    have k1 : Kt K H (upd H L (.lst (us ++ [.ref bz]))) := Kt.lst R.l
    generalize upd H L (.lst (us ++ [.ref bz])) = H1 at hL1 b1 k1 ⊢
    have nLp : p ≠ L := fun z => by have a := R.l; rw [← z, hp] at a; cases a
    have nLD : D ≠ L := fun z => by have a := R.l; have b := R.d.h; rw [z, a] at b; cases b
    have nDp : p ≠ D := fun z => by have b := R.d.h; rw [← z, hp] at b; cases b
    refine ⟨_, rfl, _, rfl, by show 2 ≤ sizeLine; decide, fun u hu => ?_⟩
    have s2 := same_new (o := .tup [x, y]) hu
    have hu2 : upd H1 u (.tup [x, y]) u = some (.tup [x, y]) := upd_same
    have hL2 := s2 _ _ hL1
    have b2 := b1.trans (Bu.of s2 (p := L))
    have k2' := k1.trans (Kt.same s2)
    generalize upd H1 u (.tup [x, y]) = H2 at s2 hu2 hL2 b2 k2' ⊢
    have hp2 := b2 _ _ nLp hp
    have A2 : Nd.At K P w H2 D kas := ⟨b2 _ _ nLD R.d.h, fun e he => (R.d.keys e he).kt k2', R.d.nd⟩
    refine ⟨_, rfl, p, T.HC, dx0, fs, _, rfl, hp2, T.clHC, T.nHs, l4, _, rfl, D, bz, kas, Nd.toKey (sdD s'), rfl, rfl, A2, (sd_nk dz).kt k2', Nat.lt_of_lt_of_le (m := 3001) (by omega) (by decide), fun H3 e3 A3 => ?_⟩
    have b3 : Bu D H2 H3 := by rw [e3]; exact Bu.set
    have k3 : Kt K H2 H3 := b3.kt A2.h (fun _ e => by cases e) (fun _ _ e => by cases e)
    have kk := k2'.trans k3
    have ep : Nd.put kas (Nd.toKey (sdD s')) bz (.ref u) = kas ++ [(Nd.toKey (sdD s'), bz, .ref u)] := by
      unfold Nd.put
      rw [if_neg c]
    rw [ep] at A3
    refine k2 H3 (us ++ [.ref bz]) _ (fun q o n1 n2 e => b3 _ _ n2 (b2 _ _ n1 e)) kk ⟨⟨dx0, fs, b3 _ _ nDp hp2, l1, l2, l3, l4, lo⟩, b3 _ _ (fun z => nLD z.symm) hL2, ?_, A3, ?_, ?_⟩
    · rw [List.map_append]
      exact (R.dl.k kk).snoc (dz.k kk)
    · rw [List.map_append, List.map_append, R.ks]
      rfl
    · rw [List.map_append]
      refine All2.snoc (R.sr.mono fun _ _ x => x.kk kk fun i t h => ?_) ?_
      · rw [List.getElem?_append_left (List.getElem?_eq_some_iff.mp h).1]
        exact h
      · exact ⟨u, x, y, s, rfl, k3 _ _ (SqT.of hu2), by rw [List.getElem?_append_left (List.getElem?_eq_some_iff.mp hj).1]; exact hj, dx.k kk, dy.k kk⟩
theorem iteY {c : Bool} {A B : Prop} (e : c = true) (h : A) : if c = true then A else B := by
  rw [e]
  exact iteT h
theorem dts_rev {H : Hp} : ∀ {vs : List V} {ds : List PyData}, Dts K H vs ds → Dts K H vs.reverse ds.reverse
  | [], [], _ => .nil
  | [], _ :: _, h => by cases h
  | _ :: _, [], h => by cases h
  | v :: vs, d :: ds, h => by
    cases h with
    | cons a b =>
      rw [List.reverse_cons, List.reverse_cons]
      exact (dts_rev b).snoc a
theorem ok_row_to (T : Txt K mg) : FnOk P w K mg base CX0 1 T.a_row_to T.d_row_to ["self", "standing"] (sp_row_to K T.HC P w) := by
  refine T.F_row_to.ok sc_row_to (fun vs H Q E h => ?_) (fun cdv A outer s H vs Q E hr h => ?_)
  · obtain ⟨p, rp, r, m, L, D, met, src, us, kas, v, s, i, rfl, _⟩ := h
    rfl
  · obtain ⟨p, rp, r, m, L, D, met, src, us, kas, v, s, i, rfl, R, G, l3k, hi, dv, k⟩ := h
    obtain ⟨dx0, fs, hp, l1, l2, l3, l4, lo⟩ := R.f
    have lk : kas.length = met.length := by have := congrArg List.length R.ks; rwa [List.length_map, List.length_map] at this
    have lu := R.dl.len
    rw [List.length_map] at lu
    have il := (List.getElem?_eq_some_iff.mp hi).1
    obtain ⟨bv, _, rfl, _⟩ := dv.inv
    have get : ∀ (n : Nat) (t : Sd), met[n]? = some t → ∃ (vv : V) (o : Option (Nat × Ev)), Nd.look kas (Nd.toKey (sdD t)) = some vv ∧ src[n]? = some o ∧ SrcV K H met vv o := fun n t hn => by
      have ln := (List.getElem?_eq_some_iff.mp hn).1
      have ek := List.getElem?_eq_getElem (l := kas) (i := n) (by omega)
      have e1 : (kas.map (·.1))[n]? = some kas[n].1 := by rw [List.getElem?_map, ek]; rfl
      rw [R.ks, List.getElem?_map, hn] at e1
      have e1 : Nd.toKey (sdD t) = kas[n].1 := Option.some.inj e1
      obtain ⟨o, ho, hs⟩ := R.sr.at (i := n) (a := kas[n].2.2) (by rw [List.getElem?_map, ek]; rfl)
      exact ⟨_, o, by rw [e1]; exact look_at R.d.nd ek, ho, hs⟩
    refine ⟨_, (pss_cons (ps_set (i := 2) sc_row_to.nd rfl (Or.inl rfl) (pe_lst pa_nil))
      (pss_cons (ps_set (i := 3) sc_row_to.nd rfl (Or.inl rfl) (Nd.pe_getN hr.units (pe_fld (pv 0) rfl) (pv 1) (fun _ _ => rfl)))
      (C8.pss_cut (ps_while PassesOwn.never (pt_cmpR op_notN (pv 3) pe_non (nomark _))
        (pss_cons (ps_asg (pv 3) (pg_tup rfl (pgs_cons (pg_name (i := 4) sc_row_to.nd rfl (Or.inl rfl)) (pgs_cons (pg_name (i := 5) sc_row_to.nd rfl (Or.inl rfl)) pgs_nil))))
        (pss_cons (ps_expr (pe_bm PySem.F.plainAttrs_list PySem.F.slot_list_append PySem.F.type_list_append mt_append (pv 2) (pa_cons (pv 5) pa_nil)))
        (pss_one (ps_set (i := 3) sc_row_to.nd rfl (Or.inl rfl) (Nd.pe_getN hr.units (pe_fld (pv 0) rfl) (pv 4) (fun _ _ => rfl)))))))
      (pss_one (ps_ret (pe_callTy call_tuple_of (by rfl) T.z_tuple (by decide +kernel) (pa_cons (pe_revL (pv 2)) pa_nil))))))), ?_⟩
    refine ⟨by show 0 ≤ sizeLine; decide, fun q hq => ?_⟩
    have s0 : Same H H := Same.refl H
    have s1 := same_new (o := .lst []) hq
    have hq1 : upd H q (.lst []) q = some (.lst []) := upd_same
    generalize upd H q (.lst []) = H1 at s1 hq1 ⊢
    obtain ⟨v0, o0, g1, g2, g3⟩ := get i s hi
    have A1 := (R.k s1).d
    refine ⟨_, rfl, p, T.HC, dx0, fs, _, rfl, s1 _ _ hp, T.clHC, T.nHs, l4, _, rfl, D, kas, _, v0, rfl, A1, sd_nk (dv.ks s1), g1, ?_⟩
    refine ⟨fun σ A => ∃ (evs : List Ev) (zs : List V) (sv v4 v5 : Option V), σ = [some (.ref p), some (.ref bv), some (.ref q), sv, v4, v5] ∧ Same H A ∧ A q = some (.lst zs) ∧ Dts K A zs (evs.map evD) ∧ okRow r m (startS r) evs.reverse = some s ∧ evs.length ≤ i, ?_, ?_⟩
    · refine ⟨fun n σ A => ∃ (t : Sd) (evs : List Ev) (zs : List V) (sv : V) (v4 v5 : Option V) (o : Option (Nat × Ev)), σ = [some (.ref p), some (.ref bv), some (.ref q), some sv, v4, v5] ∧ Same H A ∧ A q = some (.lst zs) ∧ Dts K A zs (evs.map evD) ∧ met[n]? = some t ∧ src[n]? = some o ∧ SrcV K H met sv o ∧ okRow r m t evs.reverse = some s ∧ evs.length + n ≤ i, ⟨i, s, [], [], v0, none, none, o0, rfl, s1, hq1, .nil, hi, g2, g3, rfl, by show 0 + i ≤ i; omega⟩, fun n σ A hW => ?_⟩
      obtain ⟨t, evs, zs, sv, v4, v5, o, rfl, sA, hqA, dA, ht, ho, hS, hrow, le⟩ := hW
      have lz := dA.len
      rw [List.length_map] at lz
      have ln := (List.getElem?_eq_some_iff.mp ht).1
      cases n with
      | zero =>
        rw [G.z] at ho
        cases ho
        have hS : sv = .non := hS
        subst hS
        rw [G.s0] at ht
        cases ht
        exact ⟨_, rfl, rfl, _, rfl, iteN (by simp) ⟨evs, zs, _, _, _, rfl, sA, hqA, dA, hrow, le⟩⟩
      | succ n =>
        obtain ⟨j, e, sj, s', u1, u2, u3, u4, u5, u6, u7⟩ := G.up (n + 1) (by omega) ln
        rw [ho] at u1
        cases u1
        obtain ⟨q2, x, y, s2, rfl, hq2, h2, dx, dy⟩ := hS
        rw [u3] at h2
        cases h2
        rw [ht] at u4
        cases u4
        refine ⟨_, rfl, rfl, _, rfl, iteY (by simp) ⟨_, fun σ' H' h => h, ?_⟩⟩
        refine ⟨_, rfl, q2, _, rfl, sameT sA hq2, rfl, _, _, rfl, _, _, rfl, rfl, ?_⟩
        refine ⟨_, rfl, .inl ⟨rfl, _, SqL.of hqA⟩, _, rfl, q, zs, _, rfl, rfl, hqA, Nat.lt_of_lt_of_le (m := 3001) (by omega) (by decide), ?_⟩
        have sB : Same H (upd A q (.lst (zs ++ [y]))) := same_mut sA (none_of s0 hq)
        have hqB : upd A q (.lst (zs ++ [y])) q = some (.lst (zs ++ [y])) := upd_same
        have kB : Kt K A (upd A q (.lst (zs ++ [y]))) := Kt.lst hqA
        generalize upd A q (.lst (zs ++ [y])) = B at sB hqB kB ⊢
        obtain ⟨v1, o1, g1, g2, g3⟩ := get j sj u3
        have dxB := dx.ks sB
        obtain ⟨bx, _, rfl, _⟩ := dxB.inv
        refine ⟨_, rfl, p, T.HC, dx0, fs, _, rfl, sB _ _ hp, T.clHC, T.nHs, l4, _, rfl, D, kas, _, v1, rfl, (R.k sB).d, sd_nk dxB, g1, ?_⟩
        refine ⟨j, u2, sj, evs ++ [e], zs ++ [y], v1, _, _, o1, rfl, sB, hqB, ?_, u3, g2, g3, ?_, by rw [List.length_append, List.length_singleton]; omega⟩
        · rw [List.map_append]
          exact (dA.k kB).snoc (dy.ks sB)
        · rw [List.reverse_append]
          show (if e ∈ alF r sj.gr m ∧ shortE r sj e = false then okRow r m (stepE r sj e) evs.reverse else none) = _
          rw [if_pos ⟨u5, u6⟩, u7]
          exact hrow
    rintro σ A ⟨evs, zs, sv, v4, v5, rfl, sA, hqA, dA, hrow, le⟩
    refine ⟨_, rfl, q, zs, rfl, SqL.of hqA, fun g hg => ?_⟩
    have s2 := same_new (o := .lst zs.reverse) hg
    have hg2 : upd A g (.lst zs.reverse) g = some (.lst zs.reverse) := upd_same
    have dA2 := dA.ks s2
    generalize upd A g (.lst zs.reverse) = A2 at s2 hg2 dA2 ⊢
    refine ⟨g, zs.reverse, rfl, .inl ⟨SqL.of hg2, fun u hu => ?_⟩⟩
    have s3 := same_new (o := .tup zs.reverse) hu
    refine k _ _ evs.reverse ((sA.trans s2).trans s3) (dt_tup upd_same ?_) hrow (by rw [List.length_reverse]; exact le)
    rw [List.map_reverse]
    exact dts_rev (dA2.ks s3)
end
end K57

namespace K57
open PySem L2 Wm TL Dv
section
variable {P : Program} {w : World} {K : PySem.W.Frag} {mg : Str → Option Value} {base : Heap}
theorem new2 {H : Hp} {x dx C : Addr} (hx : H x = none) (hdx : H dx = none) (ne : dx ≠ x) : Same H (upd (upd H dx (.own x)) x (.ins C dx [])) := (same_new hdx).trans (same_new (by rw [upd_ne ne.symm]; exact hx))
theorem made_same {H H' : Hp} {x dx C : Addr} (hx : H x = none) (hdx : H dx = none) (ne : dx ≠ x) (bu : Bu x (upd (upd H dx (.own x)) x (.ins C dx [])) H') : Same H H' := fun p o e => bu _ _ (fun z => by subst z; rw [hx] at e; cases e) (new2 hx hdx ne _ _ e)
theorem ne_new {H : Hp} {p x : Addr} {o : HO} (h : H p = some o) (f : H x = none) : p ≠ x := fun z => by subst z; rw [f] at h; cases h
theorem short_eq {r : Rm} {s : Sd} {m : Nat} {e : Ev} {i : Nat} {c : Cd} (a : AlE r s m e i c) : (!decide (e.1 = .back) && decide (0 < shN (tellE r s e))) = shortE r s e := by
  unfold shortE
  by_cases b : e.1 = .back
  · rw [decide_eq_true b, a.step.2]
    unfold stepT
    rw [a.hc, b]
    rfl
  · rw [decide_eq_false b]
    rfl
def OrdAt (OC : Addr) (H : Hp) (p : Addr) (a b : V) : Prop := ∃ dx fs, H p = some (.ins OC dx fs) ∧ fs.lookup ("table" : Str) = some a ∧ fs.lookup ("events" : Str) = some b
def Closed (r : Rm) (m : Nat) (met : List Sd) (k : Nat) : Prop := ∀ n s, n < k → met[n]? = some s → ∀ e ∈ alF r s.gr m, shortE r s e = false ∧ stepE r s e ∈ met
def JudgeOk (K : PySem.W.Frag) (r : Rm) (m : Nat) (H : Hp) (a b : V) : Prop := (b = .non ∧ ∃ met src, Dt K H a (.tuple (met.map sdD)) ∧ met.Nodup ∧ Good r m met src ∧ Closed r m met met.length ∧ met.length ≤ 3000) ∨ (a = .non ∧ ∃ es e t, Dt K H b (.tuple ((es ++ [e]).map evD)) ∧ okRow r m (startS r) es = some t ∧ e ∈ alF r t.gr m ∧ shortE r t e = true ∧ es.length ≤ 3000)
def sp_judge_orders (K : PySem.W.Frag) (CC RC OC : Addr) (P : Program) (w : World) : Sp := fun vs H Q _ => ∃ (rp : Addr) (r : Rm) (m : Nat), vs = [.ref rp, .int (m : Nat)] ∧ RoomAt K RC CC H rp r ∧ RmOk r ∧ Small r ∧ m ≤ 2 ∧ ∀ H' p a b, Same H H' → OrdAt OC H' p a b → JudgeOk K r m H' a b → Q (.ref p) H'
theorem Good.one {r : Rm} {m : Nat} (ok : RmOk r) : Good r m [startS r] [none] := ⟨rfl, rfl, rfl, fun i h l => by simp at l; omega, fun s hs => by rw [List.mem_singleton.mp hs]; exact InR.start ok m⟩
theorem Good.more {r : Rm} {m : Nat} {met : List Sd} {src : List (Option (Nat × Ev))} (g : Good r m met src) (ok : RmOk r) {j : Nat} {s : Sd} {e : Ev} (hj : met[j]? = some s) (he : e ∈ alF r s.gr m) (sh : shortE r s e = false) : Good r m (met ++ [stepE r s e]) (src ++ [some (j, e)]) := by
  have lj := (List.getElem?_eq_some_iff.mp hj).1
  have ln := g.ln
  have up : ∀ {n : Nat} {t : Sd}, met[n]? = some t → (met ++ [stepE r s e])[n]? = some t := fun {n t} h => by rw [List.getElem?_append_left (List.getElem?_eq_some_iff.mp h).1]; exact h
  have up2 : ∀ {n : Nat} {t : Option (Nat × Ev)}, src[n]? = some t → (src ++ [some (j, e)])[n]? = some t := fun {n t} h => by rw [List.getElem?_append_left (List.getElem?_eq_some_iff.mp h).1]; exact h
  refine ⟨up g.s0, up2 g.z, by rw [List.length_append, List.length_append, ln]; rfl, fun i i0 il => ?_, fun t ht => ?_⟩
  · rw [List.length_append, List.length_singleton] at il
    by_cases c : i < met.length
    · obtain ⟨j, e, s, s', a, b, c, d, f⟩ := g.up i i0 c
      exact ⟨j, e, s, s', up2 a, b, up c, up d, f⟩
    · have e1 : i = met.length := by omega
      subst e1
      exact ⟨j, e, s, _, by rw [← ln, List.getElem?_append_right (Nat.le_refl _), Nat.sub_self]; rfl, lj, up hj, by rw [List.getElem?_append_right (Nat.le_refl _), Nat.sub_self]; rfl, he, sh, rfl⟩
  · rcases List.mem_append.mp ht with ht | ht
    · exact g.inr t ht
    · rw [List.mem_singleton.mp ht]
      exact (g.inr s (List.mem_of_getElem? hj)).step ok he
theorem Closed.up {r : Rm} {m : Nat} {met : List Sd} {k : Nat} {x : Sd} (c : Closed r m met k) (l : k ≤ met.length) : Closed r m (met ++ [x]) k := fun n s h hs e he => by
  rw [List.getElem?_append_left (by omega)] at hs
  exact ⟨(c n s h hs e he).1, List.mem_append_left _ (c n s h hs e he).2⟩
theorem Bu2.same {H A B : Hp} {L D : Addr} (b : Bu2 L D A B) (s : Same H A) (hL : H L = none) (hD : H D = none) : Same H B := fun q o e => b q o (fun z => by subst z; rw [hL] at e; cases e) (fun z => by subst z; rw [hD] at e; cases e) (s q o e)
theorem ok_judge_orders (T : Txt K mg) : FnOk P w K mg base CX0 6 T.a_judge_orders T.d_judge_orders ["room", "most_open"] (sp_judge_orders K T.CC T.RC T.OC P w) := by
  refine T.F_judge_orders.ok sc_judge_orders (fun vs H Q E h => ?_) (fun cdv A outer s H vs Q E hr h => ?_)
  · obtain ⟨rp, r, m, rfl, _⟩ := h
    rfl
  · obtain ⟨rp, r, m, rfl, hR, ok, sm, m2, k⟩ := h
    refine ⟨_, (pss_cons (ps_set (i := 2) sc_judge_orders.nd rfl (Or.inl rfl) (pe_make T.mk_hinit (ok_hinit T) (hr.mono (by decide)) (by rfl) T.gHC T.b_hinit .nil pass0 (pa_cons (pv 0) (pa_cons (pv 1) pa_nil))))
      (pss_cons (ps_set (i := 3) sc_judge_orders.nd rfl (Or.inl rfl) pe_int)
      (C8.pss_cut (ps_while PassesOwn.never (pt_cmpR op_lt (pv 3) (pe_callB call_len_seq (by rfl) T.z_len PySem.boot_len (pa_cons (pe_fld (pv 2) rfl) pa_nil)) (nomark _))
        (pss_cons (ps_set (i := 4) sc_judge_orders.nd rfl (Or.inl rfl) (pe_ix ix_list (pe_fld (pv 2) rfl) (pv 3) (fun _ _ => rfl)))
        (pss_cons (ps_for PassesOwn.never rfl (pi_list (pe_meth (pv 2) T.clHC T.m_steps_from (ok_steps_from T) (hr.mono (by decide)) T.b_steps_from .nil pass0 (pa_cons (pv 4) pa_nil))) (pg_tup rfl (pgs_cons (pg_name (i := 5) sc_judge_orders.nd rfl (Or.inl rfl)) (pgs_cons (pg_name (i := 6) sc_judge_orders.nd rfl (Or.inl rfl)) (pgs_cons (pg_name (i := 7) sc_judge_orders.nd rfl (Or.inl rfl)) pgs_nil))))
          (pss_cons (ps_if (pt_val (pe_call (ok_makes_short T) (hr.mono (by decide)) (by rfl) T.g_makes_short T.F_makes_short.kp T.b_makes_short .nil pass0 (pa_cons (pv 5) (pa_cons (pv 7) pa_nil))))
            (pss_one (ps_ret (pe_make T.mk_oinit (ok_oinit T) (hr.mono (by decide)) (by rfl) T.gOC T.b_oinit .nil pass0 (pa_cons pe_non (pa_cons (pe_tup (StX.pa_star (pe_meth (pv 2) T.clHC T.m_row_to (ok_row_to T) (hr.mono (by decide)) T.b_row_to .nil pass0 (pa_cons (pv 4) pa_nil)) (pa_cons (pv 5) pa_nil))) pa_nil)))))
            pss_nil)
          (pss_one (ps_expr (pe_meth (pv 2) T.clHC T.m_meet (ok_meet T) (hr.mono (by decide)) T.b_meet .nil pass0 (pa_cons (pv 4) (pa_cons (pv 5) (pa_cons (pv 6) pa_nil))))))))
        (pss_one (ps_aug (i := 3) sc_judge_orders.nd rfl (Or.inl rfl) pe_int ip_add)))))
      (pss_one (ps_ret (pe_make T.mk_oinit (ok_oinit T) (hr.mono (by decide)) (by rfl) T.gOC T.b_oinit .nil pass0 (pa_cons (pe_callTy call_tuple_of (by rfl) T.z_tuple (by decide +kernel) (pa_cons (pe_fld (pv 2) rfl) pa_nil)) (pa_cons pe_non pa_nil)))))))), ?_⟩
    refine ⟨_, rfl, _, rfl, fun x dx hx hdx ne => ?_⟩
    have s0 := new2 (C := T.HC) hx hdx ne
    refine ⟨x, dx, rp, r, m, rfl, upd_same, hR.k s0, ok, fun H1 L D us kas b1 R hL hD nLD => ⟨rfl, ?_⟩⟩
    have s1 := made_same hx hdx ne b1
    have hLH := none_of s0 hL
    have hDH := none_of s0 hD
    clear s0 hL hD b1
    refine ⟨fun σ A => ∃ (met : List Sd) (src : List (Option (Nat × Ev))) (us : List V) (kas : List Nd.Ent) (a v4 v5 v6 v7 : Option V), σ = [some (.ref rp), some (.int (m : Nat)), some (.ref x), a, v4, v5, v6, v7] ∧ Same H A ∧ RchAt K T.HC P w A x rp m L D met src us kas ∧ Good r m met src ∧ Closed r m met met.length ∧ met.length ≤ 3000, ?_, ?_⟩
    · refine ⟨fun n σ A => ∃ (at' : Nat) (met : List Sd) (src : List (Option (Nat × Ev))) (us : List V) (kas : List Nd.Ent) (v4 v5 v6 v7 : Option V), n + at' = 3001 ∧ at' ≤ met.length ∧ σ = [some (.ref rp), some (.int (m : Nat)), some (.ref x), some (.int (at' : Nat)), v4, v5, v6, v7] ∧ Same H A ∧ RchAt K T.HC P w A x rp m L D met src us kas ∧ Good r m met src ∧ Closed r m met at' ∧ met.length ≤ 3000,
        ⟨3001, 0, [startS r], [none], us, kas, none, none, none, none, rfl, Nat.zero_le _, rfl, s1, R, Good.one ok, (fun n s h => absurd h (Nat.not_lt_zero _)), (by show 1 ≤ 3000; decide)⟩, fun n σ A hW => ?_⟩
      obtain ⟨at', met, src, us, kas, v4, v5, v6, v7, en, la, rfl, sA, R, G, C, l3⟩ := hW
      obtain ⟨dx0, fs, hp, l1, l2, l3', l4, lo⟩ := R.f
      have lu := R.dl.len
      rw [List.length_map] at lu
      refine ⟨_, rfl, _, rfl, x, T.HC, dx0, fs, _, rfl, hp, T.clHC, T.nHm, l3', L, us, rfl, .inl (SqL.of R.l), _, _, rfl, rfl, _, rfl, ?_⟩
      by_cases c : at' < met.length
      · have ec := List.getElem?_eq_getElem c
        generalize met[at'] = s at ec
        obtain ⟨v, ev, dv⟩ := R.dl.get (i := at') (d := sdD s) (by rw [List.getElem?_map, ec]; rfl)
        refine iteY (decide_eq_true (by omega)) ⟨_, fun σ' H' h => h, ?_⟩
        refine ⟨_, rfl, x, T.HC, dx0, fs, _, rfl, hp, T.clHC, T.nHm, l3', _, rfl, L, us, at', v, rfl, rfl, SqL.of R.l, atI_nat ev, ?_⟩
        refine ⟨_, rfl, x, dx0, fs, rfl, hp, lo _ (by decide +kernel) (by decide +kernel) (by decide +kernel) (by decide +kernel), _, rfl, x, rp, r, m, L, D, v, s, rfl, R.f, hR.k sA, ok, dv, (G.inr s (List.mem_of_getElem? ec)).ok, fun B q ts sB hq hqB tr => ?_⟩
        have so := (G.inr s (List.mem_of_getElem? ec)).ok
        have nqL : q ≠ L := fun z => by rw [z, R.l] at hq; cases hq
        have nqD : q ≠ D := fun z => by rw [z, R.d.h] at hq; cases hq
        have ltr := tr.len
        refine ⟨q, rfl, ⟨_, SqL.of hqB⟩, ?_⟩
        refine for_list (xs := ts) (fun i σ A' => ∃ (met' : List Sd) (src' : List (Option (Nat × Ev))) (us' : List V) (kas' : List Nd.Ent) (v5 v6 v7 : Option V), σ = [some (.ref rp), some (.int (m : Nat)), some (.ref x), some (.int (at' : Nat)), some v, v5, v6, v7] ∧ Same H A' ∧ Bu2 L D B A' ∧ Kt K B A' ∧ RchAt K T.HC P w A' x rp m L D met' src' us' kas' ∧ Good r m met' src' ∧ Closed r m met' at' ∧ met'.length ≤ 3000 ∧ (∀ (n : Nat) t, met[n]? = some t → met'[n]? = some t) ∧ ∀ (n : Nat) e, n < i → (alF r s.gr m)[n]? = some e → shortE r s e = false ∧ stepE r s e ∈ met')
          ⟨met, src, us, kas, _, _, _, rfl, sA.trans sB, (fun q o _ _ e => e), Kt.refl, R.k sB, G, C, l3, (fun _ _ e => e), fun n e h => absurd h (Nat.not_lt_zero _)⟩ (fun i σ A' _ hP => ?_) (fun i y σ A' hy hP => ?_) (fun σ A' hP => ?_)
        · obtain ⟨_, _, _, _, _, _, _, _, _, b2, _⟩ := hP
          exact SqL.of (b2 _ _ nqL nqD hqB)
        · obtain ⟨met', src', us', kas', v5, v6, v7, rfl, sA', b2, kt, R', G', C', l3', mono, done⟩ := hP
          obtain ⟨dx1, fs1, hp1, m1, m2', m3, m4, lo1⟩ := R'.f
          obtain ⟨e, he, tr1⟩ := tr.at hy
          obtain ⟨g, x1, y1, z1, rfl, hg, de, ds, dt⟩ := tr1.kk kt
          have mem := List.mem_of_getElem? he
          obtain ⟨i2, cd, AE⟩ := al_mem ok so mem
          have es' := mono _ _ ec
          have dv' := (dv.ks sB).k kt
          refine ⟨g, _, rfl, hg, rfl, _, _, rfl, _, _, rfl, _, _, rfl, rfl, ?_⟩
          refine ⟨_, rfl, _, rfl, x1, z1, e, tellE r s e, rfl, de, dt, (sent_of AE).1, _, rfl, ?_⟩
          rw [short_eq AE]
          refine ite2 (fun sh => ?_) (fun sh => ?_)
          · refine ⟨_, rfl, x, dx1, fs1, rfl, hp1, lo1 _ (by decide +kernel) (by decide +kernel) (by decide +kernel) (by decide +kernel), _, rfl, x, rp, r, m, L, D, met', src', us', kas', v, s, at', rfl, R', G', l3', es', dv', fun H2 u es sH du hrow hl => ?_⟩
            obtain ⟨pu, xs, rfl, hpu, dxs⟩ := du.inv
            have lxs := dxs.len
            rw [List.length_map] at lxs
            have la' := (List.getElem?_eq_some_iff.mp es').1
            refine ⟨pu, xs, rfl, .inl hpu, _, rfl, Nat.le_trans (m := 3001) (by rw [List.length_append]; show xs.length + 1 ≤ 3001; omega) (by decide), fun g2 hg2 => ?_⟩
            have s3 := same_new (o := .tup (xs ++ [x1])) hg2
            have dN : Dt K (upd H2 g2 (.tup (xs ++ [x1]))) (.ref g2) (.tuple ((es ++ [e]).map evD)) := dt_tup upd_same (by rw [List.map_append]; exact (dxs.ks s3).snoc ((de.ks sH).ks s3))
            generalize upd H2 g2 (.tup (xs ++ [x1])) = A2 at s3 dN ⊢
            refine fun x dx hx hdx ne => ?_
            have s4 := new2 (C := T.OC) hx hdx ne
            refine ⟨x, dx, _, _, rfl, upd_same, fun H1 fs b1 hx1 t1 t2 => ⟨rfl, ?_⟩⟩
            have s5 := made_same hx hdx ne b1
            exact k H1 x _ _ (((sA'.trans sH).trans s3).trans s5) ⟨dx, fs, hx1, t1, t2⟩ (.inr ⟨rfl, es, e, s, dN.ks s5, hrow, mem, sh, by omega⟩)
          · have sh : shortE r s e = false := by cases q : shortE r s e with
              | false => rfl
              | true => exact absurd q sh
            have Gn := G'.more ok es' mem sh
            have la' := (List.getElem?_eq_some_iff.mp es').1
            have fin : ∀ {met2 : List Sd}, (∀ t ∈ met', t ∈ met2) → stepE r s e ∈ met2 → ∀ (n : Nat) e', n < i + 1 → (alF r s.gr m)[n]? = some e' → shortE r s e' = false ∧ stepE r s e' ∈ met2 := fun sub hs n e' hn he' => by
              by_cases z : n < i
              · exact ⟨(done n e' z he').1, sub _ (done n e' z he').2⟩
              · have : n = i := by omega
                subst this
                rw [he] at he'
                cases he'
                exact ⟨sh, hs⟩
            refine ⟨_, rfl, x, dx1, fs1, rfl, hp1, lo1 _ (by decide +kernel) (by decide +kernel) (by decide +kernel) (by decide +kernel), _, rfl, _, rfl, _, rfl, x, rp, m, L, D, met', src', us', kas', v, x1, y1, s, stepE r s e, e, at', rfl, R', es', dv', de, ds, l3', fun ns => ?_, fun hs => ?_, fun ns H3 us3 kas3 b3 kt3 R3 => ?_⟩
            · have := met_few m2 sm (met := met' ++ [stepE r s e]) (List.nodup_append.mpr ⟨R'.nd, List.nodup_cons.mpr ⟨List.not_mem_nil, List.nodup_nil⟩, fun a ha b hb => by rw [List.mem_singleton.mp hb]; intro z; rw [z] at ha; exact ns ha⟩) Gn.inr
              rw [List.length_append, List.length_singleton] at this
              omega
            · exact ⟨met', src', us', kas', _, _, _, rfl, sA', b2, kt, R', G', C', l3', mono, fin (fun _ h => h) hs⟩
            · refine ⟨_, _, us3, kas3, _, _, _, rfl, b3.same sA' hLH hDH, (fun q o n1 n2 e => b3 _ _ n1 n2 (b2 _ _ n1 n2 e)), kt.trans kt3, R3, Gn, C'.up (by omega), ?_, (fun n t h => by rw [List.getElem?_append_left (List.getElem?_eq_some_iff.mp (mono n t h)).1]; exact mono n t h), fin (fun _ h => List.mem_append_left _ h) (List.mem_append_right _ (List.mem_singleton.mpr rfl))⟩
              exact met_few m2 sm R3.nd Gn.inr
        · obtain ⟨met', src', us', kas', v5, v6, v7, rfl, sA', b2, kt, R', G', C', l3', mono, done⟩ := hP
          have es' := mono _ _ ec
          have la' := (List.getElem?_eq_some_iff.mp es').1
          have e1 : ((at' : Nat) : Int) + 1 = ((at' + 1 : Nat) : Int) := by omega
          refine ⟨_, rfl, _, _, rfl, rfl, n - 1, by omega, at' + 1, met', src', us', kas', _, _, _, _, by omega, by omega, by rw [← e1]; rfl, sA', R', G', fun n t hn ht e he => ?_, l3'⟩
          by_cases z : n < at'
          · exact C' n t z ht e he
          · have : n = at' := by omega
            subst this
            rw [es'] at ht
            cases ht
            obtain ⟨i, hi⟩ := List.mem_iff_getElem?.mp he
            exact done i e (by rw [ltr]; exact (List.getElem?_eq_some_iff.mp hi).1) hi
      · refine iteN (decide_eq_false (by omega)) ⟨met, src, us, kas, _, _, _, _, _, rfl, sA, R, G, ?_, l3⟩
        have : at' = met.length := by omega
        rw [← this]
        exact C
    rintro σ A ⟨met, src, us, kas, a, v4, v5, v6, v7, rfl, sA, R, G, C, l3⟩
    obtain ⟨dx0, fs, hp, l1, l2, l3', l4, lo⟩ := R.f
    refine ⟨_, rfl, x, T.HC, dx0, fs, _, rfl, hp, T.clHC, T.nHm, l3', L, us, rfl, .inl ⟨SqL.of R.l, fun u hu => ?_⟩⟩
    have s2 := same_new (o := .tup us) hu
    have du : Dt K (upd A u (.tup us)) (.ref u) (.tuple (met.map sdD)) := dt_tup upd_same (R.dl.ks s2)
    generalize upd A u (.tup us) = A2 at s2 du ⊢
    refine fun x dx hx hdx ne => ?_
    have s3 := new2 (C := T.OC) hx hdx ne
    refine ⟨x, dx, _, _, rfl, upd_same, fun H1 fs b1 hx1 t1 t2 => ⟨rfl, ?_⟩⟩
    have s4 := made_same hx hdx ne b1
    exact k H1 x _ _ ((sA.trans s2).trans s4) ⟨dx, fs, hx1, t1, t2⟩ (.inl ⟨rfl, met, src, du.ks s4, R.nd, G, C, l3⟩)
end
end K57

namespace K57
open PySem L2 Wm TL Dv
section
variable {P : Program} {w : World} {K : PySem.W.Frag} {mg : Str → Option Value} {base : Heap}
mutual
theorem dp_same {H H' : Hp} (s : Same H H') : ∀ (d : PyData) (v : V), Dp K H v d → Dp K H' v d
  | .none, _, h => by cases h; exact .non
  | .bool _, _, h => by cases h; exact .bl _
  | .int _, _, h => by cases h; exact .int _
  | .str _, _, h => by cases h; exact .str _
  | .list ds, _, h => by
    cases h with
    | lst a b => exact .lst (Hf.keepL s a) (dps_same s ds _ b)
  | .tuple ds, _, h => by
    cases h with
    | tup a b => exact .tup (sameT s a) (dps_same s ds _ b)
  | .dict _, _, h => by cases h
theorem dps_same {H H' : Hp} (s : Same H H') : ∀ (ds : List PyData) (vs : List V), DpAll K H vs ds → DpAll K H' vs ds
  | [], _, h => by cases h; exact .nil
  | d :: ds, _, h => by
    cases h with
    | cons a b => exact .cons (dp_same s d _ a) (dps_same s ds _ b)
end
theorem DpAll_at {H : Hp} : ∀ {vs : List V} {ds : List PyData} {i : Nat} {v : V}, DpAll K H vs ds → vs[i]? = some v → ∃ d, ds[i]? = some d ∧ Dp K H v d
  | [], _, _, _, _, h => by cases h
  | x :: vs, [], _, _, h, _ => by cases h
  | x :: vs, d :: ds, 0, v, h, e => by
    cases h with
    | cons a b => cases e; exact ⟨d, rfl, a⟩
  | x :: vs, d :: ds, i + 1, v, h, e => by
    cases h with
    | cons a b =>
      obtain ⟨d2, h1, h2⟩ := DpAll_at (i := i) b (by simpa using e)
      exact ⟨d2, by simpa using h1, h2⟩
theorem DpAll_len {H : Hp} : ∀ {vs : List V} {ds : List PyData}, DpAll K H vs ds → vs.length = ds.length
  | [], _, h => by cases h; rfl
  | _ :: _, [], h => by cases h
  | x :: vs, d :: ds, h => by
    cases h with
    | cons a b => rw [List.length_cons, List.length_cons, DpAll_len b]
theorem ev_dt {H : Hp} {v : V} {e : Ev} (h : Dp K H v (evD e)) : Dt K H v (evD e) := by
  unfold evD at h ⊢
  cases h with
  | tup a b =>
    cases b with
    | cons b1 b =>
      cases b with
      | cons b2 b =>
        cases b
        cases b1
        cases b2
        exact .tup a (.cons (.str _) (.cons (.str _) .nil))
/-- data that may be asked whether they are in a row -/
def Okd (d : PyData) : Prop := d.canLay0 = true ∧ d.depth ≤ 60
def sp_row_fault (K : PySem.W.Frag) (CC RC : Addr) : Sp := fun vs H Q _ => ∃ (rp : Addr) (r : Rm) (m : Nat) (a : Addr) (t : Bool) (xs : List V) (ds : List PyData), vs = [.ref rp, .ref a, .int (m : Nat)] ∧ RoomAt K RC CC H rp r ∧ RmOk r ∧ Kd.Is K t H a xs ∧ DpAll K H xs ds ∧ (∀ d ∈ ds, Okd d) ∧ ∀ H' u, Same H H' → Dp K H' u (fauD r m 0 (startS r) false ds) → Q u H'
theorem canall {m : Nat} {r : Rm} {s : Sd} (ok : RmOk r) (so : SdOk r s) : PyData.canLayAll0 ((alF r s.gr m).map evD) = true := by
  have h : ∀ l : List Ev, (∀ e ∈ l, Num e.2) → PyData.canLayAll0 (l.map evD) = true := fun l => by
    induction l with
    | nil => intro _; rfl
    | cons e l ih =>
      intro h
      rw [List.map_cons]
      have a : (evD e).canLay0 = true := by
        refine (fine_tup (n := 0) fun d m => ?_ : Fine 1 (evD e)).1
        simp only [List.mem_cons, List.not_mem_nil, or_false] at m
        rcases m with rfl | rfl
        · exact fine_str (by cases e.1 <;> decide +kernel)
        · exact fine_num fun d md => ((h e List.mem_cons_self).dig d md).2
      have b := ih fun x hx => h x (List.mem_cons_of_mem _ hx)
      show ((evD e).canLay0 && PyData.canLayAll0 (l.map evD)) = true
      rw [a, b]
      rfl
  refine h _ fun e he => ?_
  obtain ⟨i, c, A⟩ := al_mem ok so he
  rw [A.ds]
  exact (ok.ok c (List.mem_of_getElem? A.hc)).num
theorem drop_at {α : Type} {l : List α} {i : Nat} {x : α} (h : l[i]? = some x) : l.drop i = x :: l.drop (i + 1) := by
  have li := (List.getElem?_eq_some_iff.mp h).1
  rw [List.drop_eq_getElem_cons li]
  rw [(List.getElem?_eq_some_iff.mp h).2]
theorem fau_at {r : Rm} {m i : Nat} {s : Sd} {b : Bool} {ds : List PyData} {d : PyData} (h : ds[i]? = some d) : fauD r m i s b (ds.drop i) = match findE r s m d with
    | none => evtD i
    | some e => if shortE r s e = true ∧ ds.drop (i + 1) ≠ [] then earD i else fauD r m (i + 1) (stepE r s e) (shortE r s e) (ds.drop (i + 1)) := by
  rw [drop_at h]
  rfl
theorem tup_dp {H : Hp} {q : Addr} {xs : List V} {ds : List PyData} (h : H q = some (.tup xs)) (g : DpAll K H xs ds) : Dp K H (.ref q) (.tuple ds) := .tup (SqT.of h) g
end
end K57

namespace K57
open PySem L2 Wm TL Dv
section
variable {P : Program} {w : World} {K : PySem.W.Frag} {mg : Str → Option Value} {base : Heap}
def sp_cards (K : PySem.W.Frag) : Sp := fun vs H Q _ => ∃ (b n a : Addr) (dss : List (List Nat)) (st : List Nat) (way : Nat), vs = [.ref b, .ref n, .ref a, .int 2, .int (way : Nat)] ∧ way < 3 ∧ Bk H b ∧ n ≠ b ∧ a ≠ b ∧ H n = some (.lst ((dss.map numS).map V.str)) ∧ H a = some (.lst (nV st)) ∧ 1 ≤ st.length ∧ st.length ≤ 6 ∧ (∀ s ∈ st, s ≤ 8) ∧ dss.length ≤ 6 ∧ (∀ ds ∈ dss, Num ds) ∧
  ∀ H' l cs, Bu b H H' → Bk H' b → l ≠ b → LC K H' l cs → (cs.map fun c => c.ds) = dss → (∀ c ∈ cs, CdOk st c) → (cs.flatMap fun c => c.moves).length ≤ 2 → Q (.ref l) H'
theorem sum_take_le : ∀ (ns : List Nat) (cm : Nat), 0 ≤ ((ns.map fun (n : Nat) => (n : Int)).take cm).sum := fun ns cm => by
  rw [← List.map_take]
  generalize ns.take cm = l
  induction l with
  | nil => simp
  | cons x l ih => rw [List.map_cons, List.sum_cons]; omega
theorem Bu.new {p C : Addr} {A B : Hp} {o : HO} (h : Bu p A B) (f : A C = none) : Bu p A (upd B C o) := fun q u n e => by
  have : q ≠ C := fun z => by subst z; rw [f] at e; cases e
  rw [upd_ne this]
  exact h q u n e
theorem Bu.none {p C : Addr} {A B : Hp} (h : Bu p A B) (n : C ≠ p) (f : B C = none) : A C = none := by
  cases e : A C with
  | none => rfl
  | some o => rw [h _ _ n e] at f; cases f
theorem nV_erase : ∀ (ns : List Nat) (d : Nat), (nV ns).eraseIdx d = nV (ns.eraseIdx d)
  | [], _ => rfl
  | _ :: _, 0 => rfl
  | n :: ns, d + 1 => by
    show V.int (n : Nat) :: (nV ns).eraseIdx d = V.int (n : Nat) :: nV (ns.eraseIdx d)
    rw [nV_erase ns d]
theorem nV_snoc (ns : List Nat) (d : Nat) : nV ns ++ [V.int ((d : Nat) : Int)] = nV (ns ++ [d]) := by unfold nV; rw [List.map_append]; rfl
theorem erase_perm {x : Nat} : ∀ {cr : List Nat} {d : Nat}, cr[d]? = some x → (x :: cr.eraseIdx d).Perm cr
  | [], _, h => by simp at h
  | y :: ys, 0, h => by
    have h : y = x := by simpa using h
    subst h
    exact List.Perm.refl _
  | y :: ys, d + 1, h => by
    have ih := erase_perm (cr := ys) (d := d) (x := x) (by simpa using h)
    show (x :: y :: ys.eraseIdx d).Perm (y :: ys)
    exact (List.Perm.swap y x _).trans (ih.cons y)
theorem pop_perm {cr od xs : List Nat} {d x : Nat} (h : (cr ++ od).Perm xs) (hd : cr[d]? = some x) : (cr.eraseIdx d ++ (od ++ [x])).Perm xs := by
  refine List.Perm.trans ?_ h
  have p2 : (cr.eraseIdx d ++ (od ++ [x])).Perm (x :: (cr.eraseIdx d ++ od)) := by
    rw [← List.append_assoc]
    exact List.perm_append_comm
  exact p2.trans ((erase_perm hd).append_right od)
theorem rg_nV (m : Nat) : rgV 0 (m : Nat) = nV (List.range m) := by
  unfold rgV nV
  rw [show ((m : Int) - 0).toNat = m by omega]
  exact List.map_congr_left fun i _ => by rw [Int.zero_add]
theorem ok_cards (T : Txt K mg) : FnOk P w K mg base CX0 3 T.a_cards T.d_cards ["_law_bag_here", "_law_numbers_here", "_law_stations", "_law_most_moves", "_law_way"] (sp_cards K) := by
  refine T.F_cards.ok sc_cards (fun vs H Q E h => ?_) (fun cdv A outer s H vs Q E hr h => ?_)
  · obtain ⟨b, n, a, dss, st, way, rfl, _⟩ := h
    rfl
  · obtain ⟨b, n, a, dss, st, way, rfl, hw3, hb, nnb, nab, hn, ha, st1, st6, st8, d6, dN, k⟩ := h
    refine ⟨_, (pss_cons (ps_par (i := 5) (j := 6) rfl sc_cards.nd rfl rfl (by decide) rfl rfl (pa_cons (pe_lst pa_nil) (pa_cons (pv 3) pa_nil)) rfl)
      (pss_cons (ps_for PassesOwn.never rfl (pi_list (pv 1)) (pg_name (i := 7) sc_cards.nd rfl (Or.inl rfl))
        (pss_cons (ps_par (i := 8) (j := 9) rfl sc_cards.nd rfl rfl (by decide) rfl rfl (pa_cons (pe_listRg rfl (by rfl) T.z_list (prg_1 (by rfl) T.z_range (pe_callB call_len_seq (by rfl) T.z_len PySem.boot_len (pa_cons (pv 2) pa_nil)))) (pa_cons (pe_lst pa_nil) pa_nil)) rfl)
        (pss_cons (ps_for PassesOwn.never rfl (pi_range1 (by rfl) T.z_range (pa_cons (pe_call (ok_take T) (hr.mono (by decide)) (by rfl) T.g_take T.F_take.kp T.b_take .nil pass0 (pa_cons (pv 0) (pa_cons (pe_op op_add (pe_callB call_len_seq (by rfl) T.z_len PySem.boot_len (pa_cons (pv 2) pa_nil)) pe_int) pa_nil))) pa_nil)) (pg_name (i := 10) sc_cards.nd rfl (Or.inl rfl))
          (pss_one (ps_expr (pe_bm PySem.F.plainAttrs_list PySem.F.slot_list_append PySem.F.type_list_append mt_append (pv 9) (pa_cons (pe_bm PySem.F.plainAttrs_list PySem.F.slot_list_pop PySem.F.type_list_pop mt_popAt (pv 8) (pa_cons (pe_call (ok_take T) (hr.mono (by decide)) (by rfl) T.g_take T.F_take.kp T.b_take .nil pass0 (pa_cons (pv 0) (pa_cons (pe_callB call_len_seq (by rfl) T.z_len PySem.boot_len (pa_cons (pv 8) pa_nil)) pa_nil))) pa_nil)) pa_nil)))))
        (pss_cons (ps_setLc (i := 11) (own := [("_law_grade", 12)]) (g := gName 12) (tt := tYes) rfl sc_cards.nd rfl rfl (sw_true rfl rfl rfl (by decide +kernel)) (pi_range1 (by rfl) T.z_range (pa_cons pe_int pa_nil)) (blkOk_by (own := [("_law_grade", 12)]) (N := nm_cards) (sc := (defScope s_cards)) (by decide +kernel)) (fun _ _ _ _ _ => pg_name (i := 12) sc_cards.nd rfl (Or.inl rfl)) (fun _ _ _ _ _ => pts_nil) (fun _ _ _ _ _ => (pe_call (ok_of T) (hr.mono (by decide)) (by rfl) T.g_of T.F_of.kp T.b_of .nil pass0 (pa_cons (pv 0) (pa_cons (pe_lst (pa_cons pe_int (pa_cons pe_int (pa_cons pe_int (pa_cons pe_int (pa_cons pe_int (pa_cons pe_int pa_nil))))))) pa_nil)))))
        (pss_cons (ps_set (i := 13) sc_cards.nd rfl (Or.inl rfl) (pe_lst (pa_cons pe_int (pa_cons pe_int (pa_cons pe_int pa_nil)))))
        (pss_cons (ps_for PassesOwn.never rfl (pi_range1 (by rfl) T.z_range (pa_cons pe_int pa_nil)) (pg_name (i := 12) sc_cards.nd rfl (Or.inl rfl))
          (pss_cons (ps_set (i := 14) sc_cards.nd rfl (Or.inl rfl) (pe_callB (call_min2 rfl) (by rfl) T.z_min (by decide +kernel) (pa_cons (pe_callB call_len_seq (by rfl) T.z_len PySem.boot_len (pa_cons (pv 9) pa_nil)) (pa_cons (pe_callB (cr_sum rfl) (by rfl) T.z_sum (by decide +kernel) (pa_cons (pe_slice sl_list (pv 11) po_none (po_some (pe_op op_add (pv 12) pe_int))) pa_nil)) pa_nil))))
          (pss_one (ps_asg (pe_ix ix_list (pe_lst (pa_cons pe_int (pa_cons (pv 14) (pa_cons (pe_call (ok_of T) (hr.mono (by decide)) (by rfl) T.g_of T.F_of.kp T.b_of .nil pass0 (pa_cons (pv 0) (pa_cons (pe_lst (pa_cons pe_int (pa_cons pe_int (pa_cons pe_int (pa_cons pe_int (pa_cons pe_int (pa_cons pe_int pa_nil))))))) pa_nil))) pa_nil)))) (pv 4) (fun _ _ => rfl)) (pg_sub (pv 13) (pv 12) set_list)))))
        (pss_cons (ps_set (i := 15) sc_cards.nd rfl (Or.inl rfl) (pe_lst pa_nil))
        (pss_cons (ps_for PassesOwn.never rfl (pi_range1 (by rfl) T.z_range (pa_cons (pe_call (ok_take T) (hr.mono (by decide)) (by rfl) T.g_take T.F_take.kp T.b_take .nil pass0 (pa_cons (pv 0) (pa_cons (pe_op op_add (pe_callB (call_min2 rfl) (by rfl) T.z_min (by decide +kernel) (pa_cons pe_int (pa_cons (pv 6) pa_nil))) pe_int) pa_nil))) pa_nil)) (pg_name (i := 10) sc_cards.nd rfl (Or.inl rfl))
          (pss_cons (ps_expr (pe_bm PySem.F.plainAttrs_list PySem.F.slot_list_append PySem.F.type_list_append mt_append (pv 15) (pa_cons (pe_tup (pa_cons (pe_call (ok_take T) (hr.mono (by decide)) (by rfl) T.g_take T.F_take.kp T.b_take .nil pass0 (pa_cons (pv 0) (pa_cons (pe_callB call_len_seq (by rfl) T.z_len PySem.boot_len (pa_cons (pv 2) pa_nil)) pa_nil))) (pa_cons (pe_call (ok_of T) (hr.mono (by decide)) (by rfl) T.g_of T.F_of.kp T.b_of .nil pass0 (pa_cons (pv 0) (pa_cons (pv 2) pa_nil))) pa_nil))) pa_nil)))
          (pss_one (ps_set (i := 6) sc_cards.nd rfl (Or.inl rfl) (pe_op op_sub (pv 6) pe_int)))))
        (pss_one (ps_expr (pe_bm PySem.F.plainAttrs_list PySem.F.slot_list_append PySem.F.type_list_append mt_append (pv 5) (pa_cons (pe_tup (pa_cons (pv 7) (pa_cons (pe_callTy call_tuple_of (by rfl) T.z_tuple (by decide +kernel) (pa_cons (pv 9) pa_nil)) (pa_cons (pe_callTy call_tuple_of (by rfl) T.z_tuple (by decide +kernel) (pa_cons (pv 11) pa_nil)) (pa_cons (pe_callTy call_tuple_of (by rfl) T.z_tuple (by decide +kernel) (pa_cons (pv 13) pa_nil)) (pa_cons (pe_callTy call_tuple_of (by rfl) T.z_tuple (by decide +kernel) (pa_cons (pv 15) pa_nil)) pa_nil)))))) pa_nil))))))))))))
      (pss_one (ps_ret (pv 5))))), ?_⟩
    refine ⟨by show 0 ≤ sizeLine; decide, fun L hL => ⟨_, rfl, _, _, rfl, ?_⟩⟩
    have nLb := hb.off hL
    have sL := same_new (o := .lst []) hL
    have hL1 : upd H L (.lst []) L = some (.lst []) := upd_same
    have bu1 := Bu.of sL (p := b)
    have hb1 := hb.k sL
    generalize upd H L (.lst []) = H1 at hL1 bu1 hb1 ⊢
    refine ⟨_, rfl, n, rfl, ⟨_, SqL.of (bu1 _ _ nnb hn)⟩, ?_⟩
    refine for_list (xs := (dss.map numS).map V.str) (fun i σ A => ∃ left : Nat, (∃ (v7 v8 v9 v10 v11 v12 v13 v14 v15 : Option V), σ = [some (.ref b), some (.ref n), some (.ref a), some (.int 2), some (.int (way : Nat)), some (.ref L), some (.int (left : Nat)), v7, v8, v9, v10, v11, v12, v13, v14, v15]) ∧ Bu b H A ∧ Bk A b ∧ ∃ (cs : List Cd) (zs : List V), A L = some (.lst zs) ∧ Dts K A zs (cs.map cdD) ∧ (cs.map fun c => c.ds) = dss.take i ∧ (∀ c ∈ cs, CdOk st c) ∧ (cs.flatMap fun c => c.moves).length + left = 2)
      ⟨2, ⟨none, none, none, none, none, none, none, none, none, rfl⟩, bu1, hb1, [], [], hL1, .nil, rfl, (fun _ m => by cases m), rfl⟩ (fun i σ A _ h => by obtain ⟨_, _, h, _⟩ := h; exact SqL.of (h _ _ nnb hn)) (fun i w σ A hw hP => ?_) (fun σ A hP => ?_)
    · obtain ⟨left, ⟨v7, v8, v9, v10, v11, v12, v13, v14, v15, rfl⟩, buA, hbA, cs, zs, hLA, dA, ecs, okc, emv⟩ := hP
      rw [List.getElem?_map] at hw
      obtain ⟨y, ey, rfl⟩ := Option.map_eq_some_iff.mp hw
      rw [List.getElem?_map] at ey
      obtain ⟨ds, eds, rfl⟩ := Option.map_eq_some_iff.mp ey
      have il := (List.getElem?_eq_some_iff.mp eds).1
      have lcs : cs.length = i := by
        have := congrArg List.length ecs
        rw [List.length_map, List.length_take] at this
        omega
      have lzs := dA.len
      rw [List.length_map] at lzs
      have haA := buA _ _ nab ha
      obtain ⟨bx, by', hbx, _⟩ := id hbA
      have keep : ∀ B, Bu b A B → Kt K A B := fun B u => u.kt hbx (fun _ e => by cases e) (fun _ _ e => by cases e)
      refine ⟨_, rfl, a, _, rfl, .inl (SqL.of haA), _, rfl, ?_⟩
      rw [nV_len]
      refine ⟨RgOk.of_le (by decide) (by omega) (by decide) (by omega), fun C hC => ?_⟩
      rw [rg_nV]
      have s1 := same_new (o := .lst (nV (List.range st.length))) hC
      have hC1 : upd A C (.lst (nV (List.range st.length))) C = some (.lst (nV (List.range st.length))) := upd_same
      have nCb := hbA.off hC
      generalize upd A C (.lst (nV (List.range st.length))) = A1 at s1 hC1 ⊢
      refine ⟨by show 0 ≤ sizeLine; decide, fun O hO => ⟨_, _, rfl, ?_⟩⟩
      have s2 := same_new (o := .lst []) hO
      have hO2 : upd A1 O (.lst []) O = some (.lst []) := upd_same
      have nOC : O ≠ C := fun e => by subst e; rw [hC1] at hO; cases hO
      have hC2 := s2 _ _ hC1
      have hOA := none_of s1 hO
      have nOb := hbA.off hOA
      have s12 := s1.trans s2
      have hb2 := hbA.k s12
      have bu2 := Bu.of s12 (p := b)
      generalize upd A1 O (.lst []) = A2 at hO2 hC2 hb2 bu2 ⊢
      clear s1 s2 s12 hC1 hO
      refine ⟨_, rfl, _, rfl, a, _, rfl, .inl (SqL.of (bu2 _ _ nab haA)), _, _, rfl, rfl, ?_⟩
      rw [nV_len]
      refine ⟨b, st.length + 1, rfl, hb2, by omega, by omega, fun A3 kk hk bu3 hb3 => ?_⟩
      refine ⟨_, rfl, by omega, by omega, ?_⟩
      rw [Int.toNat_natCast]
      have hC3 := bu3 _ _ nCb hC2
      have hO3 := bu3 _ _ nOb hO2
      have bu3 := bu2.trans bu3
      refine for_range (fun j σ B => (∃ v10, σ = [some (.ref b), some (.ref n), some (.ref a), some (.int 2), some (.int (way : Nat)), some (.ref L), some (.int (left : Nat)), some (.str (numS ds)), some (.ref C), some (.ref O), v10, v11, v12, v13, v14, v15]) ∧ Bu b A B ∧ Bk B b ∧ ∃ cr od : List Nat, B C = some (.lst (nV cr)) ∧ B O = some (.lst (nV od)) ∧ cr.length + j = st.length ∧ (cr ++ od).Perm (List.range st.length))
        ⟨⟨v10, rfl⟩, bu3, hb3, List.range st.length, [], hC3, hO3, by simp, by rw [List.append_nil]⟩ (fun j σ B hj hP => ?_) (fun σ B hP => ?_)
      · obtain ⟨⟨v10, rfl⟩, buB, hbB, cr, od, hCB, hOB, lcr, pe⟩ := hP
        have lod := pe.length_eq
        rw [List.length_append, List.length_range] at lod
        refine ⟨_, rfl, .inl ⟨rfl, _, SqL.of hOB⟩, _, rfl, .inl ⟨rfl, _, SqL.of hCB⟩, _, rfl, _, rfl, C, _, rfl, .inl (SqL.of hCB), ?_⟩
        rw [nV_len]
        refine ⟨b, cr.length, rfl, hbB, by omega, by omega, fun B2 d hd bu4 hb4 => ?_⟩
        have hC4 := bu4 _ _ nCb hCB
        have hO4 := bu4 _ _ nOb hOB
        have bu4 := buB.trans bu4
        have hx := List.getElem?_eq_getElem hd
        generalize cr[d] = x at hx
        refine ⟨C, _, _, d, .int (x : Nat), rfl, rfl, hC4, by omega, by omega, by rw [nV_len]; exact seqIndex_of (by omega) (by omega), nV_at hx, ?_⟩
        rw [nV_erase]
        have bu5 := bu4.new (C := C) (o := .lst (nV (cr.eraseIdx d))) hC
        have hb5 := hb4.bu (p := C) (Bu.set (o := .lst (nV (cr.eraseIdx d)))) (fun z => nCb z.symm)
        have hC5 : upd B2 C (.lst (nV (cr.eraseIdx d))) C = some (.lst (nV (cr.eraseIdx d))) := upd_same
        have hO5 : upd B2 C (.lst (nV (cr.eraseIdx d))) O = some (.lst (nV od)) := by rw [upd_ne nOC]; exact hO4
        generalize upd B2 C (.lst (nV (cr.eraseIdx d))) = B5 at bu5 hb5 hC5 hO5 ⊢
        refine ⟨O, _, _, rfl, rfl, hO5, by rw [nV_len]; exact small1000 (by omega), ?_⟩
        rw [nV_snoc]
        refine ⟨⟨_, rfl⟩, bu5.new hOA, hb5.bu (Bu.set (p := O)) (fun z => nOb z.symm), cr.eraseIdx d, od ++ [x], by rw [upd_ne (fun z => nOC z.symm)]; exact hC5, upd_same, ?_, pop_perm pe hx⟩
        rw [List.length_eraseIdx_of_lt hd]
        omega
      obtain ⟨⟨v10, rfl⟩, buB, hbB, cr, od, hCB, hOB, lcr, pe⟩ := hP
      have lod := pe.length_eq
      rw [List.length_append, List.length_range] at lod
      have odn : od.Nodup := (List.nodup_append.mp (pe.nodup_iff.mpr List.nodup_range)).2.1
      have odl : ∀ x ∈ od, x < st.length := fun x m => List.mem_range.mp (pe.mem_iff.mp (List.mem_append_right _ m))
      clear hCB pe
      refine ⟨_, rfl, by decide, by decide, fun D hD => ?_⟩
      have nDb := hbB.off hD
      have hDA := buB.none nDb hD
      refine lc_range (fun j B' => Bu b A B' ∧ Bk B' b ∧ B' O = some (.lst (nV od)) ∧ ∃ ns : List Nat, ns.length = j ∧ (∀ k ∈ ns, k ≤ 6) ∧ B' D = some (.lst (nV ns)))
        ⟨buB.new hDA, hbB.k (same_new hD), same_new hD _ _ hOB, [], rfl, (fun _ m => by cases m), upd_same⟩ (fun j B' hj hP => ?_) (fun B' hP => ?_)
      · obtain ⟨bu', hb', hO', ns, ln, n6, hD'⟩ := hP
        have nOD : O ≠ D := fun e => by subst e; rw [hOB] at hD; cases hD
        refine ⟨rfl, yesT ⟨_, rfl, by show 6 ≤ sizeLine; decide, fun F hF => ?_⟩⟩
        have sF := same_new (o := .lst [.int 0, .int 1, .int 1, .int 2, .int 3, .int 6]) hF
        refine ⟨b, F, _, rfl, hb'.k sF, hb'.off hF, upd_same, List.cons_ne_nil _ _, by decide, fun B2 v mv bu2' hb2' => ?_⟩
        obtain ⟨m, rfl, m6⟩ : ∃ m : Nat, v = .int (m : Nat) ∧ m ≤ 6 := by
          simp only [List.mem_cons, List.not_mem_nil, or_false] at mv
          rcases mv with rfl | rfl | rfl | rfl | rfl | rfl
          · exact ⟨0, rfl, by decide⟩
          · exact ⟨1, rfl, by decide⟩
          · exact ⟨1, rfl, by decide⟩
          · exact ⟨2, rfl, by decide⟩
          · exact ⟨3, rfl, by decide⟩
          · exact ⟨6, rfl, by decide⟩
        have hj : j < 3 := hj
        have hD2 := bu2' _ _ nDb (sF _ _ hD')
        have hO2' := bu2' _ _ nOb (sF _ _ hO')
        refine ⟨_, hD2, by rw [nV_len]; exact small1000 (by omega), ((bu'.trans (Bu.of sF)).trans bu2').new hDA, hb2'.bu (Bu.set (p := D)) (fun z => nDb z.symm), by rw [upd_ne nOD]; exact hO2', ns ++ [m], by rw [List.length_append, ln]; rfl, fun x mx => ?_, by rw [upd_same, nV_snoc]⟩
        rcases List.mem_append.mp mx with mx | mx
        · exact n6 x mx
        · rw [List.mem_singleton.mp mx]; exact m6
      obtain ⟨buB, hbB, hOB, ns, ln, n6, hDB⟩ := hP
      have ln : ns.length = 3 := ln
      refine ⟨by show 3 ≤ sizeLine; decide, fun W hW => ?_⟩
      have nWb := hbB.off hW
      have hWA := buB.none nWb hW
      have nDW : D ≠ W := fun e => by subst e; rw [hDB] at hW; cases hW
      have nOW : O ≠ W := fun e => by subst e; rw [hOB] at hW; cases hW
      have sW := same_new (o := .lst [.int 0, .int 0, .int 0]) hW
      have hW1 : upd B' W (.lst [.int 0, .int 0, .int 0]) W = some (.lst (nV [0, 0, 0])) := upd_same
      have hDB := sW _ _ hDB
      have hOB := sW _ _ hOB
      have hbB := hbB.k sW
      have buB := buB.trans (Bu.of sW)
      generalize upd B' W (.lst [.int 0, .int 0, .int 0]) = B1 at hW1 hDB hOB hbB buB ⊢
      refine ⟨_, rfl, by decide, by decide, ?_⟩
      refine for_range (fun j σ B => (∃ v12 v14, σ = [some (.ref b), some (.ref n), some (.ref a), some (.int 2), some (.int (way : Nat)), some (.ref L), some (.int (left : Nat)), some (.str (numS ds)), some (.ref C), some (.ref O), v10, some (.ref D), v12, some (.ref W), v14, v15]) ∧ Bu b A B ∧ Bk B b ∧ B O = some (.lst (nV od)) ∧ B D = some (.lst (nV ns)) ∧ ∃ ws : List Nat, ws.length = 3 ∧ (∀ k ∈ ws, k ≤ 6) ∧ B W = some (.lst (nV ws)))
        ⟨⟨_, _, rfl⟩, buB, hbB, hOB, hDB, [0, 0, 0], rfl, by decide, hW1⟩ (fun j σ B hj hP => ?_) (fun σ B hP => ?_)
      · obtain ⟨⟨v12, v14, rfl⟩, buB, hbB, hOB, hDB, ws, lw, w6, hWB⟩ := hP
        have hj : j < 3 := hj
        rw [Int.zero_add]
        refine ⟨_, rfl, O, _, rfl, .inl (SqL.of hOB), _, rfl, _, rfl, _, _, rfl, rfl, _, rfl, D, _, rfl, SqL.of hDB, fun S hS => ?_⟩
        obtain ⟨cm, ecm⟩ := cut_some (ns.map fun (n : Nat) => (n : Int)) (some (((j : Nat) : Int) + 1))
        rw [nV_int ns, ecm]
        have sS := same_new (o := .lst (((ns.map fun (n : Nat) => (n : Int)).take cm).map V.int)) hS
        refine ⟨S, _, rfl, SqL.of upd_same, _, _, rfl, ?_⟩
        rw [← nV_int ns] at *
        have hOB := sS _ _ hOB
        have hDB := sS _ _ hDB
        have hWB := sS _ _ hWB
        have hbB := hbB.k sS
        have buB := buB.trans (Bu.of sS)
        generalize upd B S (.lst (((ns.map fun (n : Nat) => (n : Int)).take cm).map V.int)) = B3 at hOB hDB hWB hbB buB ⊢
        refine ⟨_, rfl, _, rfl, by show 6 ≤ sizeLine; decide, fun F hF => ?_⟩
        have sF := same_new (o := .lst [.int 0, .int 0, .int 1, .int 1, .int 2, .int 6]) hF
        refine ⟨b, F, _, rfl, hbB.k sF, hbB.off hF, upd_same, List.cons_ne_nil _ _, by decide, fun B2 v mv bu2' hb2' => ?_⟩
        obtain ⟨m, rfl, m6⟩ : ∃ m : Nat, v = .int (m : Nat) ∧ m ≤ 6 := by
          simp only [List.mem_cons, List.not_mem_nil, or_false] at mv
          rcases mv with rfl | rfl | rfl | rfl | rfl | rfl
          · exact ⟨0, rfl, by decide⟩
          · exact ⟨0, rfl, by decide⟩
          · exact ⟨1, rfl, by decide⟩
          · exact ⟨1, rfl, by decide⟩
          · exact ⟨2, rfl, by decide⟩
          · exact ⟨6, rfl, by decide⟩
        refine ⟨by show 3 ≤ sizeLine; decide, fun G hG => ?_⟩
        have lod : ((nV od).length : Nat) ≤ 6 := by rw [nV_len]; omega
        have s0 := sum_take_le ns cm
        obtain ⟨ln1, eln, ln6⟩ : ∃ ln1 : Nat, (if (List.take cm (List.map (fun (n : Nat) => (n : Int)) ns)).sum < ((nV od).length : Nat) then (List.take cm (List.map (fun (n : Nat) => (n : Int)) ns)).sum else ((nV od).length : Nat)) = (ln1 : Nat) ∧ ln1 ≤ 6 := by
          split
          · exact ⟨(List.take cm (List.map (fun (n : Nat) => (n : Int)) ns)).sum.toNat, by omega, by omega⟩
          · exact ⟨(nV od).length, rfl, lod⟩
        rw [eln]
        obtain ⟨wv, ewv, w06⟩ : ∃ wv : Nat, ([.int 0, .int (ln1 : Nat), .int (m : Nat)] : List V)[way]? = some (.int (wv : Nat)) ∧ wv ≤ 6 := by
          rcases (show way = 0 ∨ way = 1 ∨ way = 2 by omega) with rfl | rfl | rfl
          · exact ⟨0, rfl, by decide⟩
          · exact ⟨ln1, rfl, ln6⟩
          · exact ⟨m, rfl, m6⟩
        have sG := same_new (o := .lst [.int 0, .int (ln1 : Nat), .int (m : Nat)]) hG
        have buG := ((buB.trans (Bu.of sF)).trans bu2').trans (Bu.of sG)
        have hbG := hb2'.k sG
        have hWG := sG _ _ (bu2' _ _ nWb (sF _ _ hWB))
        have hOG := sG _ _ (bu2' _ _ nOb (sF _ _ hOB))
        have hDG := sG _ _ (bu2' _ _ nDb (sF _ _ hDB))
        refine ⟨_, rfl, G, _, (way : Nat), _, rfl, rfl, SqL.of upd_same, atI_nat ewv, ?_⟩
        generalize upd B2 G (.lst [.int 0, .int (ln1 : Nat), .int (m : Nat)]) = B5 at buG hbG hWG hOG hDG ⊢
        refine ⟨_, rfl, _, rfl, W, _, _, j, rfl, rfl, hWG, ixN_nat (by rw [nV_len]; omega), ?_⟩
        have ew : (nV ws).set j (.int (wv : Nat)) = nV (ws.set j wv) := by unfold nV; rw [List.map_set]
        rw [ew]
        refine ⟨⟨_, _, rfl⟩, buG.new hWA, hbG.bu (Bu.set (p := W)) (fun z => nWb z.symm), by rw [upd_ne nOW]; exact hOG, by rw [upd_ne nDW]; exact hDG, ws.set j wv, by rw [List.length_set, lw], fun x mx => ?_, upd_same⟩
        rcases List.mem_or_eq_of_mem_set mx with mx | mx
        · exact w6 x mx
        · rw [mx]; exact w06
      obtain ⟨⟨v12, v14, rfl⟩, buB, hbB, hOB, hDB, ws, lw, w6, hWB⟩ := hP
      refine ⟨by show 0 ≤ sizeLine; decide, fun M hM => ?_⟩
      have nMb := hbB.off hM
      have hMA := buB.none nMb hM
      have nOM : O ≠ M := fun e => by subst e; rw [hOB] at hM; cases hM
      have nDM : D ≠ M := fun e => by subst e; rw [hDB] at hM; cases hM
      have nWM : W ≠ M := fun e => by subst e; rw [hWB] at hM; cases hM
      have sM := same_new (o := .lst []) hM
      have hM1 : upd B M (.lst []) M = some (.lst []) := upd_same
      have hOB := sM _ _ hOB
      have hDB := sM _ _ hDB
      have hWB := sM _ _ hWB
      have hbB := hbB.k sM
      have buB := buB.trans (Bu.of sM)
      generalize upd B M (.lst []) = B1 at hM1 hOB hDB hWB hbB buB ⊢
      refine ⟨_, rfl, _, rfl, _, _, rfl, _, _, rfl, rfl, ?_⟩
      obtain ⟨mm, emm, m0, m3, mle⟩ : ∃ mm : Nat, (if ((left : Nat) : Int) < 2 then ((left : Nat) : Int) else 2) + 1 = (mm : Nat) ∧ 0 < mm ∧ mm ≤ 3 ∧ mm ≤ left + 1 := by
        split
        · exact ⟨left + 1, by omega, by omega, by omega, by omega⟩
        · exact ⟨3, rfl, by decide, by decide, by omega⟩
      refine ⟨b, mm, congrArg (fun z => [V.ref b, V.int z]) emm, hbB, m0, by omega, fun B2 kq hkq bu2' hb2' => ?_⟩
      have hM2 := bu2' _ _ nMb hM1
      have hO2 := bu2' _ _ nOb hOB
      have hD2 := bu2' _ _ nDb hDB
      have hW2 := bu2' _ _ nWb hWB
      have buB := buB.trans bu2'
      refine ⟨_, rfl, by omega, by omega, ?_⟩
      rw [Int.toNat_natCast]
      refine for_range (fun j σ B => (∃ (lf : Nat) (v10 : Option V), lf + j = left ∧ σ = [some (.ref b), some (.ref n), some (.ref a), some (.int 2), some (.int (way : Nat)), some (.ref L), some (.int (lf : Nat)), some (.str (numS ds)), some (.ref C), some (.ref O), v10, some (.ref D), v12, some (.ref W), v14, some (.ref M)]) ∧ Bu b A B ∧ Bk B b ∧ B O = some (.lst (nV od)) ∧ B D = some (.lst (nV ns)) ∧ B W = some (.lst (nV ws)) ∧ ∃ (mv : List (Nat × Nat)) (us : List V), B M = some (.lst us) ∧ Dts K B us (mv.map mD) ∧ mv.length = j ∧ ∀ x ∈ mv, x.1 < st.length ∧ x.2 ∈ st)
        ⟨⟨left, _, rfl, rfl⟩, buB, hb2', hO2, hD2, hW2, [], [], hM2, .nil, rfl, fun _ m => by cases m⟩ (fun j σ B hj hP => ?_) (fun σ B hP => ?_)
      · obtain ⟨⟨lf, v10, elf, rfl⟩, buB, hbB, hOB, hDB, hWB, mv, us, hMB, dM, lmv, okm⟩ := hP
        have lus := dM.len
        rw [List.length_map] at lus
        have haB := buB _ _ nab haA
        refine ⟨_, rfl, .inl ⟨rfl, _, SqL.of hMB⟩, _, rfl, _, rfl, a, _, rfl, .inl (SqL.of haB), ?_⟩
        rw [nV_len]
        refine ⟨b, st.length, rfl, hbB, by omega, by omega, fun B3 d hd bu3' hb3' => ?_⟩
        have haB3 := bu3' _ _ nab haB
        refine ⟨_, rfl, _, rfl, b, a, _, rfl, hb3', nab, haB3, (fun z => by rw [← List.length_eq_zero_iff, nV_len] at z; omega), by rw [nV_len]; omega, fun B4 v mv' bu4' hb4' => ?_⟩
        obtain ⟨s0, ms0, rfl⟩ := List.mem_map.mp mv'
        have bu34 := bu3'.trans bu4'
        refine ⟨by show 2 ≤ sizeLine; decide, fun u hu => ?_⟩
        have sU := same_new (o := .tup [.int (d : Nat), .int (s0 : Nat)]) hu
        have hMU := sU _ _ (bu34 _ _ nMb hMB)
        refine ⟨M, us, _, rfl, rfl, hMU, small1000 (by omega), ?_⟩
        obtain ⟨bx2, by2, hbx2, _⟩ := id hbB
        have dM2 := (dM.k (bu34.kt hbx2 (fun _ e => by cases e) (fun _ _ e => by cases e))).ks sU
        have dnew : Dts K (upd B4 u (.tup [.int (d : Nat), .int (s0 : Nat)])) (us ++ [.ref u]) ((mv ++ [(d, s0)]).map mD) := by
          rw [List.map_append]
          exact dM2.snoc (dt_tup upd_same (.cons (.int _) (.cons (.int _) .nil)))
        have dnew := dnew.k (Kt.lst (o := .lst (us ++ [.ref u])) hMU)
        refine ⟨_, rfl, _, _, rfl, rfl, ?_⟩
        have el : ((lf : Nat) : Int) - 1 = ((lf - 1 : Nat) : Int) := by omega
        (try dsimp only)
        rw [el]
        refine ⟨⟨lf - 1, _, by omega, rfl⟩, ((buB.trans bu34).trans (Bu.of sU)).new hMA, (hb4'.k sU).bu (Bu.set (p := M)) (fun z => nMb z.symm), by rw [upd_ne nOM]; exact sU _ _ (bu34 _ _ nOb hOB), by rw [upd_ne nDM]; exact sU _ _ (bu34 _ _ nDb hDB), by rw [upd_ne nWM]; exact sU _ _ (bu34 _ _ nWb hWB), mv ++ [(d, s0)], _, upd_same, dnew, by rw [List.length_append, lmv]; rfl, fun x mx => ?_⟩
        rcases List.mem_append.mp mx with mx | mx
        · exact okm x mx
        · rw [List.mem_singleton.mp mx]; exact ⟨hd, ms0⟩
      obtain ⟨⟨lf, v10, elf, rfl⟩, buB, hbB, hOB, hDB, hWB, mv, us, hMB, dM, lmv, okm⟩ := hP
      have hLB := buB _ _ nLb hLA
      have dB := dA.k (keep _ buB)
      refine ⟨_, rfl, .inl ⟨rfl, _, SqL.of hLB⟩, _, rfl, _, rfl, O, _, rfl, .inl ⟨SqL.of hOB, fun t1 ht1 => ?_⟩⟩
      have s1 := same_new (o := .tup (nV od)) ht1
      have h11 : upd B t1 (.tup (nV od)) t1 = some (.tup (nV od)) := upd_same
      generalize upd B t1 (.tup (nV od)) = B3 at s1 h11 ⊢
      refine ⟨_, rfl, D, _, rfl, .inl ⟨SqL.of (s1 _ _ hDB), fun t2 ht2 => ?_⟩⟩
      have s2 := same_new (o := .tup (nV ns)) ht2
      have h22 : upd B3 t2 (.tup (nV ns)) t2 = some (.tup (nV ns)) := upd_same
      generalize upd B3 t2 (.tup (nV ns)) = B4 at s2 h22 ⊢
      refine ⟨_, rfl, W, _, rfl, .inl ⟨SqL.of (s2 _ _ (s1 _ _ hWB)), fun t3 ht3 => ?_⟩⟩
      have s3 := same_new (o := .tup (nV ws)) ht3
      have h33 : upd B4 t3 (.tup (nV ws)) t3 = some (.tup (nV ws)) := upd_same
      generalize upd B4 t3 (.tup (nV ws)) = B5 at s3 h33 ⊢
      refine ⟨_, rfl, M, us, rfl, .inl ⟨SqL.of (s3 _ _ (s2 _ _ (s1 _ _ hMB))), fun t4 ht4 => ?_⟩⟩
      have s4 := same_new (o := .tup us) ht4
      have h44 : upd B5 t4 (.tup us) t4 = some (.tup us) := upd_same
      generalize upd B5 t4 (.tup us) = B6 at s4 h44 ⊢
      refine ⟨by show 5 ≤ sizeLine; decide, fun u hu => ?_⟩
      have s5 := same_new (o := .tup [.str (numS ds), .ref t1, .ref t2, .ref t3, .ref t4]) hu
      have h55 : upd B6 u (.tup [.str (numS ds), .ref t1, .ref t2, .ref t3, .ref t4]) u = some (.tup [.str (numS ds), .ref t1, .ref t2, .ref t3, .ref t4]) := upd_same
      generalize upd B6 u (.tup [.str (numS ds), .ref t1, .ref t2, .ref t3, .ref t4]) = B7 at s5 h55 ⊢
      have s25 := ((s2.trans s3).trans s4).trans s5
      have sAll := s1.trans s25
      have dC : Dt K B7 (.ref u) (cdD ⟨ds, od, ns, ws, mv⟩) := dt_tup h55 (.cons (.str _) (.cons (dt_iD (s25 _ _ h11)) (.cons (dt_iD (((s3.trans s4).trans s5) _ _ h22)) (.cons (dt_iD ((s4.trans s5) _ _ h33)) (.cons (.tup (SqT.of (s5 _ _ h44)) (dM.ks sAll)) .nil)))))
      have hL7 := sAll _ _ hLB
      refine ⟨L, zs, _, rfl, rfl, hL7, small1000 (by omega), ?_⟩
      have dnew : Dts K B7 (zs ++ [.ref u]) ((cs ++ [(⟨ds, od, ns, ws, mv⟩ : Cd)]).map cdD) := by
        rw [List.map_append]
        exact (dB.ks sAll).snoc dC
      have bu7 := buB.trans (Bu.of sAll)
      refine ⟨lf, ⟨_, _, _, _, _, _, _, _, _, rfl⟩, ?_, (hbB.k sAll).bu (Bu.set (p := L)) (fun z => nLb z.symm), cs ++ [(⟨ds, od, ns, ws, mv⟩ : Cd)], zs ++ [.ref u], upd_same, dnew.k (Kt.lst (o := .lst (zs ++ [.ref u])) hL7), ?_, fun c mc => ?_, ?_⟩
      · exact (buA.trans bu7).new hL
      · rw [List.map_append, ecs, tk_succ' eds]; rfl
      · rcases List.mem_append.mp mc with mc | mc
        · exact okc c mc
        · rw [List.mem_singleton.mp mc]
          exact CdOk.mk (dN ds (List.mem_of_getElem? eds)) odl odn ln n6 lw w6 (by show mv.length ≤ 6; omega) okm
      · rw [List.flatMap_append, List.length_append]
        show _ + ((mv ++ []).length) + lf = 2
        rw [List.append_nil]
        omega
    · obtain ⟨left, ⟨v7, v8, v9, v10, v11, v12, v13, v14, v15, rfl⟩, buA, hbA, cs, zs, hLA, dA, ecs, okc, emv⟩ := hP
      rw [List.length_map, List.length_map, List.take_length] at ecs
      exact ⟨_, rfl, k _ L cs buA hbA nLb ⟨zs, hLA, dA⟩ ecs okc (by omega)⟩
end
end K57

namespace K57
open PySem L2 Wm TL Dv
section
variable {P : Program} {w : World} {K : PySem.W.Frag} {mg : Str → Option Value} {base : Heap}
def sp_room (K : PySem.W.Frag) : Sp := fun vs H Q _ => ∃ (b : Addr), vs = [.ref b] ∧ Bk H b ∧ ∀ H' q a l (r : Rm) (m : Nat), Bu b H H' → Bk H' b → H' q = some (.tup [.ref a, .ref l, .int (m : Nat)]) → H' a = some (.lst (nV r.st)) → LC K H' l r.cs → RmOk r → Small r → 1 ≤ m → m ≤ 2 → a ≠ b → l ≠ b → Q (.ref q) H'
theorem small_in {ns : List Nat} {v : V} (h : v ∈ nV ns) : ∃ m : Nat, v = .int (m : Nat) ∧ m ∈ ns := by
  obtain ⟨m, hm, e⟩ := List.mem_map.mp h
  exact ⟨m, e.symm, hm⟩
theorem if_tC {c : Bool} {u v : V} {σ : L2.St} {H : Hp} {Q : VK} (h : Q (if c = true then u else v) H) : if c = true then tC u σ H Q else tC v σ H Q := by
  cases c
  · exact h
  · exact h
theorem ok_room (T : Txt K mg) : FnOk P w K mg base CX0 4 T.a_room T.d_room ["_law_bag_here"] (sp_room K) := by
  refine T.F_room.ok sc_room (fun vs H Q E h => ?_) (fun cdv A outer s H vs Q E hr h => ?_)
  · obtain ⟨b, rfl, _⟩ := h
    rfl
  · obtain ⟨b, rfl, hb, k⟩ := h
    refine ⟨_, (pss_cons (ps_set (i := 1) sc_room.nd rfl (Or.inl rfl) (pe_call (ok_of T) (hr.mono (by decide)) (by rfl) T.g_of T.F_of.kp T.b_of .nil pass0 (pa_cons (pv 0) (pa_cons (pe_lst (pa_cons pe_int (pa_cons pe_int (pa_cons pe_int (pa_cons pe_int (pa_cons pe_int (pa_cons pe_int pa_nil))))))) pa_nil))))
      (pss_cons (ps_set (i := 2) sc_room.nd rfl (Or.inl rfl) (pe_call (ok_numbers T) (hr.mono (by decide)) (by rfl) T.g_numbers T.F_numbers.kp T.b_numbers .nil pass0 (pa_cons (pv 0) (pa_cons (pv 1) pa_nil))))
      (pss_cons (ps_setLc (i := 3) (own := [("_law_crew", 4)]) (g := gName 4) (tt := tYes) rfl sc_room.nd rfl rfl (sw_true rfl rfl rfl (by decide +kernel)) (pi_range1 (by rfl) T.z_range (pa_cons (pe_op op_add pe_int (pe_call (ok_take T) (hr.mono (by decide)) (by rfl) T.g_take T.F_take.kp T.b_take .nil pass0 (pa_cons (pv 0) (pa_cons (pe_ifExp (pt_cmpR op_lt (pv 1) pe_int (nomark _)) pe_int pe_int) pa_nil)))) pa_nil)) (blkOk_by (own := [("_law_crew", 4)]) (N := nm_room) (sc := (defScope s_room)) (by decide +kernel)) (fun _ _ _ _ _ => pg_name (i := 4) sc_room.nd rfl (Or.inl rfl)) (fun _ _ _ _ _ => pts_nil) (fun _ _ _ _ _ => (pe_call (ok_of T) (hr.mono (by decide)) (by rfl) T.g_of T.F_of.kp T.b_of .nil pass0 (pa_cons (pv 0) (pa_cons (pe_lst (pa_cons pe_int (pa_cons pe_int (pa_cons pe_int pa_nil)))) pa_nil)))))
      (pss_cons (ps_set (i := 5) sc_room.nd rfl (Or.inl rfl) (pe_call (ok_cards T) (hr.mono (by decide)) (by rfl) T.g_cards T.F_cards.kp T.b_cards .nil pass0 (pa_cons (pv 0) (pa_cons (pv 2) (pa_cons (pv 3) (pa_cons pe_int (pa_cons (pe_call (ok_of T) (hr.mono (by decide)) (by rfl) T.g_of T.F_of.kp T.b_of .nil pass0 (pa_cons (pv 0) (pa_cons (pe_lst (pa_cons pe_int (pa_cons pe_int (pa_cons pe_int (pa_cons pe_int pa_nil))))) pa_nil))) pa_nil)))))))
      (pss_one (ps_ret (pe_tup (pa_cons (pv 3) (pa_cons (pv 5) (pa_cons (pe_op op_add pe_int (pe_call (ok_take T) (hr.mono (by decide)) (by rfl) T.g_take T.F_take.kp T.b_take .nil pass0 (pa_cons (pv 0) (pa_cons pe_int pa_nil)))) pa_nil)))))))))), ?_⟩
    refine ⟨_, rfl, by show 6 ≤ sizeLine; decide, fun F hF => ?_⟩
    have sF := same_new (o := .lst [.int 1, .int 2, .int 2, .int 2, .int 2, .int 3]) hF
    refine ⟨b, F, _, rfl, hb.k sF, hb.off hF, upd_same, List.cons_ne_nil _ _, by decide, fun H1 v mv bu1 hb1 => ?_⟩
    obtain ⟨many, rfl, mm⟩ := small_in (ns := [1, 2, 2, 2, 2, 3]) mv
    have m13 : 1 ≤ many ∧ many ≤ 3 := by
      simp only [List.mem_cons, List.not_mem_nil, or_false] at mm
      omega
    have bu1 := (Bu.of sF (p := b)).trans bu1
    refine ⟨_, rfl, _, rfl, b, many, rfl, hb1, by omega, fun H2 nl dss dN dnd dl dne hnl0 hnl bu2 hb2 => ?_⟩
    have nnb := hb1.off hnl0
    have dne := dne (by omega)
    obtain ⟨lim, elim, l0, l4⟩ : ∃ lim : Nat, (if decide (((many : Nat) : Int) < 3) = true then V.int 4 else V.int 3) = V.int (lim : Nat) ∧ 0 < lim ∧ ((many ≤ 2 ∧ lim = 4) ∨ lim = 3) := by
      by_cases c : many < 3
      · exact ⟨4, by rw [if_pos (decide_eq_true (by omega))]; rfl, by decide, .inl ⟨by omega, rfl⟩⟩
      · exact ⟨3, by rw [if_neg (by rw [decide_eq_true_iff]; omega)]; rfl, by decide, .inr rfl⟩
    refine ⟨_, rfl, _, rfl, _, _, rfl, rfl, _, rfl, if_tC ?_⟩
    rw [elim]
    refine ⟨b, lim, rfl, hb2, l0, by omega, fun H5 q hq bu5 hb5 => ?_⟩
    refine ⟨_, _, rfl, rfl, ?_⟩
    have hn5 := bu5 _ _ nnb hnl
    have bu5 := (bu1.trans bu2).trans bu5
    obtain ⟨q1, eq1, q1a, q1b⟩ : ∃ q1 : Nat, (1 : Int) + (q : Nat) = (q1 : Nat) ∧ 1 ≤ q1 ∧ q1 ≤ lim := ⟨1 + q, by omega, by omega, by omega⟩
    refine ⟨_, congrArg (fun z => [V.int z]) eq1, by omega, by omega, fun S hS0 => ?_⟩
    rw [Int.toNat_natCast]
    have nSb := hb5.off hS0
    refine lc_range (fun j B => Bu b H5 B ∧ Bk B b ∧ ∃ st : List Nat, st.length = j ∧ (∀ x ∈ st, x ≤ 8) ∧ B S = some (.lst (nV st))) ⟨(fun _ _ _ e => same_new hS0 _ _ e), hb5.k (same_new hS0), [], rfl, (fun _ m => by cases m), upd_same⟩ (fun j B hj hP => ?_) (fun B hP => ?_)
    · obtain ⟨buB, hbB, st, lst', st8, hSB⟩ := hP
      refine ⟨rfl, yesT ⟨_, rfl, by show 3 ≤ sizeLine; decide, fun F hF => ?_⟩⟩
      have sF := same_new (o := .lst [.int 0, .int 1, .int 8]) hF
      refine ⟨b, F, _, rfl, hbB.k sF, hbB.off hF, upd_same, List.cons_ne_nil _ _, by decide, fun B2 v mv bu2' hb2' => ?_⟩
      obtain ⟨m, rfl, mm⟩ := small_in (ns := [0, 1, 8]) mv
      have m8 : m ≤ 8 := by
        simp only [List.mem_cons, List.not_mem_nil, or_false] at mm
        omega
      have hS2 := bu2' _ _ nSb (sF _ _ hSB)
      refine ⟨_, hS2, by rw [nV_len]; exact small1000 (by omega), ((buB.trans (Bu.of sF)).trans bu2').new hS0, hb2'.bu (Bu.set (p := S)) (fun z => nSb z.symm), st ++ [m], by rw [List.length_append, lst']; rfl, fun x mx => ?_, by rw [upd_same, nV_snoc]⟩
      rcases List.mem_append.mp mx with mx | mx
      · exact st8 x mx
      · rw [List.mem_singleton.mp mx]; exact m8
    obtain ⟨buB, hbB, st, lst', st8, hSB⟩ := hP
    have hnB := buB _ _ nnb hn5
    have bu6 := bu5.trans buB
    refine ⟨_, rfl, _, rfl, _, rfl, _, rfl, by show 4 ≤ sizeLine; decide, fun F hF => ?_⟩
    have sF := same_new (o := .lst [.int 0, .int 1, .int 1, .int 2]) hF
    refine ⟨b, F, _, rfl, hbB.k sF, hbB.off hF, upd_same, List.cons_ne_nil _ _, by decide, fun B2 v mv bu2' hb2' => ?_⟩
    obtain ⟨way, rfl, mw⟩ := small_in (ns := [0, 1, 1, 2]) mv
    have w3 : way < 3 := by
      simp only [List.mem_cons, List.not_mem_nil, or_false] at mw
      omega
    have buC := (Bu.of sF (p := b)).trans bu2'
    have hS2 := buC _ _ nSb hSB
    have hn2 := buC _ _ nnb hnB
    have bu7 := bu6.trans buC
    refine ⟨b, nl, S, dss, st, way, rfl, w3, hb2', nnb, nSb, hn2, hS2, by omega, by omega, st8, by omega, dN, fun H7 l cs bu8 hb7 nlb hlc ecs okc mvl => ?_⟩
    have hS7 := bu8 _ _ nSb hS2
    have bu8 := bu7.trans bu8
    refine ⟨_, rfl, _, rfl, _, rfl, b, 2, rfl, hb7, by decide, by decide, fun H8 q hq bu9 hb8 => ?_⟩
    refine ⟨_, _, rfl, rfl, by show 3 ≤ sizeLine; decide, fun u hu => ?_⟩
    have e1 : (1 : Int) + (q : Nat) = ((1 + q : Nat) : Int) := by omega
    have lcs : cs.length = dss.length := by rw [← ecs, List.length_map]
    show Q (.ref u) (upd H8 u (.tup [.ref S, .ref l, .int ((1 : Int) + (q : Nat))]))
    rw [e1]
    have s9 := same_new (o := .tup [.ref S, .ref l, .int ((1 + q : Nat) : Int)]) hu
    have keep : Bu b H7 (upd H8 u (.tup [.ref S, .ref l, .int ((1 + q : Nat) : Int)])) := bu9.trans (Bu.of s9)
    obtain ⟨cvs, hl7, hd7⟩ := hlc
    obtain ⟨x0, y0, hbx, _⟩ := id hb7
    refine k _ u S l ⟨st, cs⟩ (1 + q) (bu8.trans keep) (hb8.k s9) upd_same (keep _ _ nSb hS7) ⟨cvs, keep _ _ nlb hl7, hd7.k (keep.kt hbx (fun _ e => by cases e) (fun _ _ e => by cases e))⟩ ?_ ?_ (by omega) (by omega) nSb nlb
    · exact ⟨by show 1 ≤ st.length; omega, by show st.length ≤ 6; omega, st8, by show cs.length ≤ 6; omega, okc, by rw [show (Rm.mk st cs).cs = cs from rfl, ecs]; exact dnd⟩
    · refine ⟨?_, mvl, fun z => dne (by have z : cs = [] := z; rw [← ecs, z]; rfl)⟩
      show (cs.length ≤ 2 ∧ st.length ≤ 4) ∨ (cs.length ≤ 3 ∧ st.length ≤ 3)
      by_cases c : many ≤ 2
      · exact .inl ⟨by omega, by omega⟩
      · refine .inr ⟨by omega, ?_⟩
        have : lim = 3 := by
          rcases Classical.em (((many : Nat) : Int) < 3) with z | z
          · omega
          · rw [if_neg (by rw [decide_eq_true_iff]; exact z)] at elim
            have := V.int.inj elim
            omega
        omega
end
end K57

namespace K57
open PySem L2 Wm TL Dv
section
variable {P : Program} {w : World} {K : PySem.W.Frag} {mg : Str → Option Value} {base : Heap}
def curS (r : Rm) (s : Sd) (w : Wd) (o : Option Nat) (i : Nat) : Sd := match o with
  | some j => if j < i then stepS r s w j else s
  | none => s
def curT (r : Rm) (s : Sd) (w : Wd) (o : Option Nat) (i : Nat) : Td := match o with
  | some j => if j < i then stepT r s w j else .non
  | none => .non
def sp_step (K : PySem.W.Frag) : Sp := fun vs H Q _ => ∃ (a l : Addr) (v x : V) (e : Addr) (r : Rm) (s : Sd) (w : Wd) (d : PyData) (o : Option Nat), vs = [.ref a, .ref l, v, .ref e] ∧ H a = some (.lst (nV r.st)) ∧ LC K H l r.cs ∧ RmOk r ∧ Dt K H v (sdD s) ∧ SdOk r s ∧ SqT K H e [.str (wdS w), x] ∧ Ob K H x d ∧ AskAt r x o ∧ (w = .more → grOf s o < 3) ∧
  ∀ H' q t1 t sh, Same H H' → H' q = some (.tup [t1, t, .bl sh]) → Dt K H' t1 (sdD (stepSO r s w o)) → TdAt K H' t (stepTO r s w o) → sh = decide (0 < shN (stepTO r s w o)) → Q (.ref q) H'
theorem cur_yes {r : Rm} {s : Sd} {w : Wd} {i : Nat} : curS r s w (some i) (i + 1) = stepS r s w i ∧ curT r s w (some i) (i + 1) = stepT r s w i ∧ curS r s w (some i) i = s ∧ curT r s w (some i) i = .non := by
  unfold curS curT
  refine ⟨if_pos (Nat.lt_succ_self i), if_pos (Nat.lt_succ_self i), if_neg (Nat.lt_irrefl i), if_neg (Nat.lt_irrefl i)⟩
theorem cur_no {r : Rm} {s : Sd} {w : Wd} {o : Option Nat} {i : Nat} (h : o ≠ some i) : curS r s w o (i + 1) = curS r s w o i ∧ curT r s w o (i + 1) = curT r s w o i := by
  cases o with
  | none => exact ⟨rfl, rfl⟩
  | some j =>
    have h : j ≠ i := fun e => h (by rw [e])
    unfold curS curT
    by_cases c : j < i
    · exact ⟨by show (if j < i + 1 then _ else _) = (if j < i then _ else _); rw [if_pos c, if_pos (by omega)], by show (if j < i + 1 then _ else _) = (if j < i then _ else _); rw [if_pos c, if_pos (by omega)]⟩
    · exact ⟨by show (if j < i + 1 then _ else _) = (if j < i then _ else _); rw [if_neg c, if_neg (by omega)], by show (if j < i + 1 then _ else _) = (if j < i then _ else _); rw [if_neg c, if_neg (by omega)]⟩
theorem cur_end {r : Rm} {s : Sd} {w : Wd} {x : V} {o : Option Nat} (a : AskAt r x o) : curS r s w o r.cs.length = stepSO r s w o ∧ curT r s w o r.cs.length = stepTO r s w o := by
  cases o with
  | none => exact ⟨rfl, rfl⟩
  | some j =>
    obtain ⟨c, hc, _⟩ := a
    have := (List.getElem?_eq_some_iff.mp hc).1
    exact ⟨if_pos this, if_pos this⟩
theorem ask_at {r : Rm} (ok : RmOk r) {x : V} {o : Option Nat} (a : AskAt r x o) {i : Nat} {c : Cd} (hc : r.cs[i]? = some c) : decide (x = .str (numS c.ds)) = decide (o = some i) := by
  cases o with
  | none =>
    have a : ∀ c ∈ r.cs, x ≠ .str (numS c.ds) := a
    rw [decide_eq_false (a c (List.mem_of_getElem? hc)), decide_eq_false (by intro e; cases e)]
  | some j =>
    obtain ⟨c2, hc2, rfl⟩ := a
    by_cases e : j = i
    · subst e
      rw [hc] at hc2
      obtain rfl := Option.some.inj hc2
      rw [decide_eq_true rfl, decide_eq_true rfl]
    · rw [decide_eq_false (p := some j = some i) (fun z => e (Option.some.inj z)), decide_eq_false]
      intro z
      have z := numS_inj (V.str.inj z)
      have nd := ok.nd
      have h1 : (r.cs.map fun c => c.ds)[i]? = some c.ds := by rw [List.getElem?_map, hc]; rfl
      have h2 : (r.cs.map fun c => c.ds)[j]? = some c.ds := by rw [List.getElem?_map, hc2, ← z]; rfl
      have hi := (List.getElem?_eq_some_iff.mp h1).1
      exact e ((List.getElem?_inj hi nd).mp (h1.trans h2.symm)).symm
theorem wd_more (w : Wd) : decide (V.str (wdS w) = V.str "more") = decide (w = .more) := by cases w <;> decide +kernel
theorem sent_four {H : Hp} {v : V} {g : Nat} {wl : List Nat} {m : List (Nat × Nat)} {sh : Nat} (h : Dt K H v (tdD (.sent g wl m sh))) : ∃ p x y, v = .ref p ∧ SqT K H p [.int (g : Nat), x, y, .int (sh : Nat)] := by
  unfold tdD at h
  cases h with
  | tup hq hs =>
    cases hs with
    | cons a hs =>
      cases a
      cases hs with
      | cons b hs =>
        cases hs with
        | cons c hs =>
          cases hs with
          | cons d hs =>
            cases d
            cases hs
            exact ⟨_, _, _, rfl, hq⟩
theorem ne_lg {A : Hp} {lp lg : Addr} {zs : List V} {pl : List Pl} {ns : List Nat} (h : A lp = some (.lst zs)) (d : Dts K A zs (pl.map plD)) (l : 0 < pl.length) (g : A lg = some (.lst (nV ns))) : lp ≠ lg := fun e => by
  subst e
  rw [h] at g
  have g : zs = nV ns := by injection Option.some.inj g
  obtain ⟨v, hv, dv⟩ := pls_get d (List.getElem?_eq_getElem l)
  obtain ⟨q, rfl, _⟩ := pl_two dv
  rw [g] at hv
  obtain ⟨n, _, z⟩ := nV_inv hv
  cases z
theorem dec_cast (n : Nat) : decide ((0 : Int) < ((n : Nat) : Int)) = decide (0 < n) := by
  by_cases c : 0 < n
  · rw [decide_eq_true c, decide_eq_true (by omega)]
  · rw [decide_eq_false c, decide_eq_false (by omega)]
theorem ok_step (T : Txt K mg) : FnOk P w K mg base CX0 2 T.a_step T.d_step ["_law_stations", "_law_cards_here", "_law_standing", "_law_event"] (sp_step K) := by
  refine T.F_step.ok sc_step (fun vs H Q E h => ?_) (fun cdv A outer s H vs Q E hr h => ?_)
  · obtain ⟨a, l, v, x, e, r, s, w, d, o, rfl, _⟩ := h
    rfl
  · obtain ⟨a, l, v, x, e, r, sd, w, d, o, rfl, ha, ⟨cvs, hl, hd⟩, ok, dv, so, he, ob, ask, g3, k⟩ := h
    obtain ⟨t, y1, y2, rfl, ht, d5, d6⟩ := dt_two dv
    obtain ⟨gr, rfl, hg⟩ := dt_ints d6
    obtain ⟨pp, xs, rfl, hpp, dp⟩ := d5.inv
    have lx := hd.len
    rw [List.length_map] at lx
    have pl0 := so.pl
    have gr0 := so.gr
    have st1 := ok.st1
    have st6 := ok.st6
    have cs6 := ok.cs6
    have fd := tg_fine ob.tg
    refine ⟨_, (pss_cons (ps_asg (pe_tup (pa_cons (pe_callTy call_list_of (by rfl) T.z_list (by decide +kernel) (pa_cons (pe_ix ix_tup (pv 2) pe_int (fun _ _ => rfl)) pa_nil)) (pa_cons (pe_callTy call_list_of (by rfl) T.z_list (by decide +kernel) (pa_cons (pe_ix ix_tup (pv 2) pe_int (fun _ _ => rfl)) pa_nil)) (pa_cons pe_non (pa_cons pe_bl pa_nil))))) (pg_tup rfl (pgs_cons (pg_name (i := 4) sc_step.nd rfl (Or.inl rfl)) (pgs_cons (pg_name (i := 5) sc_step.nd rfl (Or.inl rfl)) (pgs_cons (pg_name (i := 6) sc_step.nd rfl (Or.inl rfl)) (pgs_cons (pg_name (i := 7) sc_step.nd rfl (Or.inl rfl)) pgs_nil))))))
      (pss_cons (ps_for PassesOwn.never rfl (pi_enum (by rfl) T.z_enumerate (pa_cons (pv 1) pa_nil)) (pg_tup rfl (pgs_cons (pg_name (i := 8) sc_step.nd rfl (Or.inl rfl)) (pgs_cons (pg_name (i := 9) sc_step.nd rfl (Or.inl rfl)) pgs_nil)))
        (pss_one (ps_if (PW.pt (pw_and (pt_cmpR (op_eqD hr.units) (pe_ix ix_tup (pv 9) pe_int (fun _ _ => rfl)) (pe_ix ix_tup (pv 3) pe_int (fun _ _ => rfl)) (nomark _)) (pw_and1 (pt_cmpR op_eq (pe_ix ix_tup (pv 3) pe_int (fun _ _ => rfl)) pe_str (nomark _)))))
          (pss_cons (ps_asg (pe_call (ok_back T) (hr.mono (by decide)) (by rfl) T.g_back T.F_back.kp T.b_back .nil pass0 (pa_cons (pv 4) (pa_cons (pv 0) (pa_cons (pe_ix ix_tup (pv 9) pe_int (fun _ _ => rfl)) pa_nil)))) (pg_tup rfl (pgs_cons (pg_name (i := 4) sc_step.nd rfl (Or.inl rfl)) (pgs_cons (pg_name (i := 6) sc_step.nd rfl (Or.inl rfl)) pgs_nil))))
          (pss_one (ps_asg pe_int (pg_sub (pv 5) (pv 8) set_list))))
          (pss_one (ps_if (PW.pt (pw_and (pt_cmpR (op_eqD hr.units) (pe_ix ix_tup (pv 9) pe_int (fun _ _ => rfl)) (pe_ix ix_tup (pv 3) pe_int (fun _ _ => rfl)) (nomark _)) (pw_and1 (PW.pt (pw_or (pt_cmpR op_eq (pe_ix ix_tup (pv 3) pe_int (fun _ _ => rfl)) pe_str (nomark _)) (pw_or1 (pt_cmpR op_eq (pe_ix ix_list (pv 5) (pv 8) (fun _ _ => rfl)) pe_int (nomark _))))))))
            (pss_cons (ps_asg (pe_op op_add (pe_ix ix_list (pv 5) (pv 8) (fun _ _ => rfl)) pe_int) (pg_sub (pv 5) (pv 8) set_list))
            (pss_cons (ps_asg (pe_call (ok_sent T) (hr.mono (by decide)) (by rfl) T.g_sent T.F_sent.kp T.b_sent .nil pass0 (pa_cons (pv 4) (pa_cons (pv 9) (pa_cons (pe_ix ix_list (pv 5) (pv 8) (fun _ _ => rfl)) pa_nil)))) (pg_tup rfl (pgs_cons (pg_name (i := 4) sc_step.nd rfl (Or.inl rfl)) (pgs_cons (pg_name (i := 6) sc_step.nd rfl (Or.inl rfl)) pgs_nil))))
            (pss_one (ps_set (i := 7) sc_step.nd rfl (Or.inl rfl) (pe_cmpR op_gt (pe_ix ix_tup (pv 6) pe_int (fun _ _ => rfl)) pe_int (nomark _))))))
            pss_nil)))))
      (pss_one (ps_ret (pe_tup (pa_cons (pe_tup (pa_cons (pe_callTy call_tuple_of (by rfl) T.z_tuple (by decide +kernel) (pa_cons (pv 4) pa_nil)) (pa_cons (pe_callTy call_tuple_of (by rfl) T.z_tuple (by decide +kernel) (pa_cons (pv 5) pa_nil)) pa_nil))) (pa_cons (pv 6) (pa_cons (pv 7) pa_nil)))))))), ?_⟩
    refine ⟨_, rfl, t, _, 0, _, rfl, rfl, ht, atI_nat (j := 0) rfl, pp, xs, rfl, .inr hpp, fun lp hlp => ?_⟩
    have s1 := same_new (o := .lst xs) hlp
    have hlp1 : upd H lp (.lst xs) lp = some (.lst xs) := upd_same
    generalize upd H lp (.lst xs) = H1 at s1 hlp1 ⊢
    refine ⟨_, rfl, t, _, 1, _, rfl, rfl, sameT s1 ht, atI_nat (j := 1) rfl, gr, _, rfl, .inr (sameT s1 hg), fun lg hlg => ?_⟩
    have s2 := same_new (o := .lst (nV sd.gr)) hlg
    have hlg2 : upd H1 lg (.lst (nV sd.gr)) lg = some (.lst (nV sd.gr)) := upd_same
    have hgH := none_of s1 hlg
    generalize upd H1 lg (.lst (nV sd.gr)) = H2 at s2 hlg2 ⊢
    refine ⟨by show 4 ≤ sizeLine; decide, fun u hu => ?_⟩
    have s3 := same_new (o := .tup [.ref lp, .ref lg, .non, .bl false]) hu
    refine ⟨u, _, rfl, SqT.of upd_same, rfl, _, _, rfl, _, _, rfl, _, _, rfl, _, _, rfl, rfl, ?_⟩
    have hlp3 := s3 _ _ (s2 _ _ hlp1)
    have hlg3 := s3 _ _ hlg2
    have sA := (s1.trans s2).trans s3
    generalize upd H2 u (.tup [.ref lp, .ref lg, .non, .bl false]) = H3 at sA hlp3 hlg3 ⊢
    refine ⟨_, rfl, l, _, rfl, SqL.of (sA _ _ hl), ?_⟩
    refine for_it walk_enum (fun i σ A => ∃ lp tv sh v8 v9, σ = [some (.ref a), some (.ref l), some (.ref t), some (.ref e), some (.ref lp), some (.ref lg), some tv, some (.bl sh), v8, v9] ∧ Same H A ∧ A lg = some (.lst (nV (curS r sd w o i).gr)) ∧ (∃ zs, A lp = some (.lst zs) ∧ Dts K A zs ((curS r sd w o i).pl.map plD)) ∧ TdAt K A tv (curT r sd w o i) ∧ (curS r sd w o i).pl.length = r.st.length ∧ sh = decide (0 < shN (curT r sd w o i)))
      (by
        have e0 : curS r sd w o 0 = sd ∧ curT r sd w o 0 = .non := by cases o <;> exact ⟨rfl, rfl⟩
        rw [e0.1, e0.2]
        exact ⟨lp, .non, false, none, none, rfl, sA, hlg3, ⟨xs, hlp3, dp.ks sA⟩, .inl ⟨rfl, rfl⟩, pl0, (decide_eq_false (Nat.lt_irrefl 0)).symm⟩) (fun i σ A _ h => by obtain ⟨_, _, _, _, _, _, s, _⟩ := h; exact SqL.of (s _ _ hl)) (fun i y σ A A' hi hP hY => ?_) (fun σ A hP => ?_)
    · obtain ⟨lp, tv, sh, v8, v9, rfl, sA, hgA, ⟨zs, hpA, dA⟩, tA, len, esh⟩ := hP
      obtain ⟨tp, x1, x2, rfl, htp, rfl, e1, e2⟩ := hY
      cases e1
      have e2 : cvs[i]? = some x2 := e2
      obtain ⟨cd, ed, dc⟩ := hd.at e2
      rw [List.getElem?_map] at ed
      obtain ⟨c, ec, rfl⟩ := Option.map_eq_some_iff.mp ed
      have ci : i < r.cs.length := (List.getElem?_eq_some_iff.mp ec).1
      have cok := ok.ok c (List.mem_of_getElem? ec)
      obtain ⟨cq, w1, w2, w3, w4, rfl, hcq, _⟩ := cd_five dc
      have sT := same_new (o := .tup [.int (i : Nat), .ref cq]) htp
      refine ⟨tp, _, rfl, SqT.of upd_same, rfl, _, _, rfl, _, _, rfl, rfl, ?_⟩
      have sB := sA.trans sT
      have hgB := sT _ _ hgA
      have hpB := sT _ _ hpA
      have dB := dA.ks sT
      have tB := tA.k sT
      generalize upd A tp (.tup [.int (i : Nat), .ref cq]) = B at sB hgB hpB dB tB ⊢
      have ea := ask_at ok ask ec
      have nsh : SeqAt.shaped (.str (numS c.ds)) = true := (fine_num (n := 0) fun d m => (cok.num.dig d m).2).shaped (by decide)
      refine ⟨_, rfl, cq, _, 0, _, rfl, rfl, sameT sB hcq, atI_nat (j := 0) rfl, _, rfl, e, _, 1, _, rfl, rfl, sameT sB he, atI_nat (j := 1) rfl, _, _, .str _, (ob.keep sB).dp, nsh, fd.shaped (by decide), _, rfl, ?_⟩
      rw [eqv_ob ob, ea]
      by_cases oi : o = some i
      · subst oi
        have cy := cur_yes (r := r) (s := sd) (w := w) (i := i)
        rw [cy.2.2.1] at hgB dB len
        rw [cy.2.2.2] at tB esh
        rw [cy.1, cy.2.1]
        have eg := getD_at (xs := sd.gr) (i := i) (by omega)
        have eS : ∀ w, stepS r sd w i = match w with
            | .back => ⟨(backP r.st c.ds sd.pl).1, sd.gr.set i 0⟩
            | .call => if 0 < sd.gr.getD i 0 then sd else ⟨(liftP c sd.pl 1).1, sd.gr.set i 1⟩
            | .more => ⟨(liftP c sd.pl (sd.gr.getD i 0 + 1)).1, sd.gr.set i (sd.gr.getD i 0 + 1)⟩ := fun w => by unfold stepS; rw [ec] <;> cases w <;> rfl
        have eT : ∀ w, stepT r sd w i = match w with
            | .back => backT r.st c.ds sd.pl
            | .call => if 0 < sd.gr.getD i 0 then .non else liftT c sd.pl 1
            | .more => liftT c sd.pl (sd.gr.getD i 0 + 1) := fun w => by unfold stepT; rw [ec] <;> cases w <;> rfl
        have g3 : w = .more → sd.gr.getD i 0 < 3 := g3
        rw [decide_eq_true rfl]
        generalize sd.gr.getD i 0 = g at eg eS eT g3
        refine iteT ?_
        refine ⟨_, rfl, e, _, 0, _, rfl, rfl, sameT sB he, atI_nat (j := 0) rfl, rfl, _, rfl, ?_⟩
        rw [wd_back]
        have again : ∀ (Z : Bool → Hp → Prop), Z true B → (tTest (tOp (rEqD K) (tOp (rIxT K) (tVar 9) (tC (V.int 0))) (tOp (rIxT K) (tVar 3) (tC (V.int 1)))) [some (.ref a), some (.ref l), some (.ref t), some (.ref e), some (.ref lp), some (.ref lg), some tv, some (.bl sh), some (.int (i : Nat)), some (.ref cq)] B Z) := fun Z q => by
          refine ⟨_, rfl, cq, _, 0, _, rfl, rfl, sameT sB hcq, atI_nat (j := 0) rfl, _, rfl, e, _, 1, _, rfl, rfl, sameT sB he, atI_nat (j := 1) rfl, _, _, .str _, (ob.keep sB).dp, nsh, fd.shaped (by decide), _, rfl, ?_⟩
          rw [eqv_ob ob, ea, decide_eq_true rfl]
          exact q
        cases w with
        | back =>
          refine iteT ?_
          refine ⟨_, rfl, _, rfl, _, rfl, cq, _, 0, _, rfl, rfl, sameT sB hcq, atI_nat (j := 0) rfl, ?_⟩
          refine ⟨lp, a, zs, sd.pl, r.st, c.ds, rfl, hpB, dB, so.ok, sB _ _ ha, pl0, st6, ok.st8, cok.num, fun H4 q l4 t4 zs4 s4 hq4 hl4 d4 ok4 len4 dt4 => ?_⟩
          refine ⟨q, _, rfl, SqT.of hq4, rfl, _, _, rfl, _, _, rfl, rfl, ?_⟩
          have hg4 := s4 _ _ hgB
          have nlg := ne_lg hl4 d4 (by omega) hg4
          refine ⟨_, rfl, _, rfl, lg, _, _, i, rfl, rfl, hg4, ixN_nat (by rw [nV_len]; omega), ?_⟩
          have el : (nV sd.gr).set i (V.int 0) = nV (sd.gr.set i 0) := by unfold nV; rw [List.map_set]; rfl
          rw [el]
          have kt : Kt K H4 (upd H4 lg (.lst (nV (sd.gr.set i 0)))) := Kt.lst hg4
          refine ⟨l4, t4, sh, _, _, rfl, same_mut (sB.trans s4) hgH, ?_, ⟨zs4, by rw [upd_ne nlg]; exact hl4, ?_⟩, .inr ⟨?_, ?_⟩, ?_, ?_⟩
          · rw [eS]; exact upd_same
          · rw [eS]; exact d4.k kt
          · rw [eT]; intro z; cases z
          · rw [eT]; exact dt4.k kt
          · rw [eS]; exact len4
          · rw [eT]; exact esh
        | more =>
          have eS1 : stepS r sd .more i = ⟨(liftP c sd.pl (g + 1)).1, sd.gr.set i (g + 1)⟩ := eS .more
          have eT1 : stepT r sd .more i = liftT c sd.pl (g + 1) := eT .more
          have g3 := g3 rfl
          refine iteF (again _ (iteT ?_))
          refine ⟨_, rfl, e, _, 0, _, rfl, rfl, sameT sB he, atI_nat (j := 0) rfl, rfl, _, rfl, ?_⟩
          rw [wd_more]
          refine iteT (iteT ?_)
          have e1g : ((g : Nat) : Int) + 1 = ((g + 1 : Nat) : Int) := by omega
          have hgs : g < sd.gr.length + 1000 := by have := so.g3 g (List.mem_of_getElem? eg); omega
          have g4 := so.g3 g (List.mem_of_getElem? eg)
          refine ⟨_, rfl, _, rfl, lg, _, _, _, rfl, rfl, SqL.of hgB, atI_nat (nV_at eg), _, _, rfl, rfl, ?_⟩
          refine ⟨_, rfl, _, rfl, lg, _, _, i, rfl, rfl, hgB, ixN_nat (by rw [nV_len]; omega), ?_⟩
          have el : (nV sd.gr).set i (V.int (((g : Nat) : Int) + 1)) = nV (sd.gr.set i (g + 1)) := by rw [e1g]; unfold nV; rw [List.map_set]
          (try dsimp only)
          rw [el]
          have nlg := ne_lg hpB dB (by omega) hgB
          have sC : Same H (upd B lg (.lst (nV (sd.gr.set i (g + 1))))) := same_mut sB hgH
          have hgC : upd B lg (.lst (nV (sd.gr.set i (g + 1)))) lg = some (.lst (nV (sd.gr.set i (g + 1)))) := upd_same
          have hpC : upd B lg (.lst (nV (sd.gr.set i (g + 1)))) lp = some (.lst zs) := by rw [upd_ne nlg]; exact hpB
          have dC : Dts K (upd B lg (.lst (nV (sd.gr.set i (g + 1))))) zs (sd.pl.map plD) := dB.k (Kt.lst hgB)
          generalize upd B lg (.lst (nV (sd.gr.set i (g + 1)))) = C at sC hgC hpC dC ⊢
          refine ⟨_, rfl, _, rfl, _, rfl, _, rfl, lg, _, _, _, rfl, rfl, SqL.of hgC, atI_nat (nV_at (ns := sd.gr.set i (g + 1)) (i := i) (n := g + 1) (by rw [List.getElem?_set_self (by omega)])), ?_⟩
          refine ⟨lp, .ref cq, g + 1, zs, sd.pl, r.st, c, rfl, hpC, dC, so.ok, dc.ks sC, cok, pl0, st6, ok.st8, by omega, by omega, fun H4 q l4 t4 zs4 s4 hq4 hl4 d4 ok4 len4 dt4 => ?_⟩
          obtain ⟨t4, x4, y4, rfl, ht4⟩ := sent_four dt4
          refine ⟨q, _, rfl, SqT.of hq4, rfl, _, _, rfl, _, _, rfl, rfl, ?_⟩
          refine ⟨_, rfl, t4, _, 3, _, rfl, rfl, ht4, atI_nat (j := 3) rfl, _, _, rfl, rfl, ?_⟩
          refine ⟨l4, .ref t4, _, _, _, rfl, sC.trans s4, ?_, ⟨zs4, hl4, ?_⟩, .inr ⟨?_, ?_⟩, ?_, ?_⟩
          · rw [eS1]; exact s4 _ _ hgC
          · rw [eS1]; exact d4
          · rw [eT1]; intro z; cases z
          · rw [eT1]; exact dt4
          · rw [eS1]; exact len4
          · rw [eT1]; exact dec_cast _
        | call =>
          refine iteF (again _ (iteT ?_))
          refine ⟨_, rfl, e, _, 0, _, rfl, rfl, sameT sB he, atI_nat (j := 0) rfl, rfl, _, rfl, ?_⟩
          rw [wd_more]
          refine iteF ?_
          refine ⟨_, rfl, _, rfl, lg, _, _, _, rfl, rfl, SqL.of hgB, atI_nat (nV_at eg), rfl, _, rfl, ite2 (fun c1 => ?_) (fun c1 => ?_)⟩
          · have g0 : g = 0 := by have := V.int.inj (of_decide_eq_true c1); omega
            have eS1 : stepS r sd .call i = ⟨(liftP c sd.pl (g + 1)).1, sd.gr.set i (g + 1)⟩ := by rw [eS .call, g0]; rfl
            have eT1 : stepT r sd .call i = liftT c sd.pl (g + 1) := by rw [eT .call, g0]; rfl
            have e1g : ((g : Nat) : Int) + 1 = ((g + 1 : Nat) : Int) := by omega
            have hgs : g < sd.gr.length + 1000 := by have := so.g3 g (List.mem_of_getElem? eg); omega
            have g4 := so.g3 g (List.mem_of_getElem? eg)
            refine ⟨_, rfl, _, rfl, lg, _, _, _, rfl, rfl, SqL.of hgB, atI_nat (nV_at eg), _, _, rfl, rfl, ?_⟩
            refine ⟨_, rfl, _, rfl, lg, _, _, i, rfl, rfl, hgB, ixN_nat (by rw [nV_len]; omega), ?_⟩
            have el : (nV sd.gr).set i (V.int (((g : Nat) : Int) + 1)) = nV (sd.gr.set i (g + 1)) := by rw [e1g]; unfold nV; rw [List.map_set]
            (try dsimp only)
            rw [el]
            have nlg := ne_lg hpB dB (by omega) hgB
            have sC : Same H (upd B lg (.lst (nV (sd.gr.set i (g + 1))))) := same_mut sB hgH
            have hgC : upd B lg (.lst (nV (sd.gr.set i (g + 1)))) lg = some (.lst (nV (sd.gr.set i (g + 1)))) := upd_same
            have hpC : upd B lg (.lst (nV (sd.gr.set i (g + 1)))) lp = some (.lst zs) := by rw [upd_ne nlg]; exact hpB
            have dC : Dts K (upd B lg (.lst (nV (sd.gr.set i (g + 1))))) zs (sd.pl.map plD) := dB.k (Kt.lst hgB)
            generalize upd B lg (.lst (nV (sd.gr.set i (g + 1)))) = C at sC hgC hpC dC ⊢
            refine ⟨_, rfl, _, rfl, _, rfl, _, rfl, lg, _, _, _, rfl, rfl, SqL.of hgC, atI_nat (nV_at (ns := sd.gr.set i (g + 1)) (i := i) (n := g + 1) (by rw [List.getElem?_set_self (by omega)])), ?_⟩
            refine ⟨lp, .ref cq, g + 1, zs, sd.pl, r.st, c, rfl, hpC, dC, so.ok, dc.ks sC, cok, pl0, st6, ok.st8, by omega, by omega, fun H4 q l4 t4 zs4 s4 hq4 hl4 d4 ok4 len4 dt4 => ?_⟩
            obtain ⟨t4, x4, y4, rfl, ht4⟩ := sent_four dt4
            refine ⟨q, _, rfl, SqT.of hq4, rfl, _, _, rfl, _, _, rfl, rfl, ?_⟩
            refine ⟨_, rfl, t4, _, 3, _, rfl, rfl, ht4, atI_nat (j := 3) rfl, _, _, rfl, rfl, ?_⟩
            refine ⟨l4, .ref t4, _, _, _, rfl, sC.trans s4, ?_, ⟨zs4, hl4, ?_⟩, .inr ⟨?_, ?_⟩, ?_, ?_⟩
            · rw [eS1]; exact s4 _ _ hgC
            · rw [eS1]; exact d4
            · rw [eT1]; intro z; cases z
            · rw [eT1]; exact dt4
            · rw [eS1]; exact len4
            · rw [eT1]; exact dec_cast _
          · have g0 : 0 < g := by
              by_cases z : g = 0
              · exact absurd (decide_eq_true (by rw [z]; rfl)) c1
              · omega
            have eS1 : stepS r sd .call i = sd := (eS .call).trans (if_pos g0)
            have eT1 : stepT r sd .call i = .non := (eT .call).trans (if_pos g0)
            rw [eS1, eT1]
            exact ⟨lp, tv, sh, _, _, rfl, sB, hgB, ⟨zs, hpB, dB⟩, tB, len, esh⟩
      · have cn := cur_no (r := r) (s := sd) (w := w) oi
        rw [cn.1, cn.2, decide_eq_false oi]
        refine iteF ?_
        refine ⟨_, rfl, cq, _, 0, _, rfl, rfl, sameT sB hcq, atI_nat (j := 0) rfl, _, rfl, e, _, 1, _, rfl, rfl, sameT sB he, atI_nat (j := 1) rfl, _, _, .str _, (ob.keep sB).dp, nsh, fd.shaped (by decide), _, rfl, ?_⟩
        rw [eqv_ob ob, ea, decide_eq_false oi]
        refine iteF ?_
        exact ⟨lp, tv, sh, _, _, rfl, sB, hgB, ⟨zs, hpB, dB⟩, tB, len, esh⟩
    · obtain ⟨lp, tv, sh, v8, v9, rfl, sA, hgA, ⟨zs, hpA, dA⟩, tA, len, esh⟩ := hP
      rw [lx, (cur_end ask).1] at hgA dA len
      rw [lx, (cur_end ask).2] at tA esh
      refine ⟨_, rfl, lp, zs, rfl, .inl ⟨SqL.of hpA, fun t1 ht1 => ?_⟩⟩
      have s3 := same_new (o := .tup zs) ht1
      have h3 : upd A t1 (.tup zs) t1 = some (.tup zs) := upd_same
      generalize upd A t1 (.tup zs) = H3 at s3 h3 ⊢
      refine ⟨_, rfl, lg, _, rfl, .inl ⟨SqL.of (s3 _ _ hgA), fun t2 ht2 => ?_⟩⟩
      have s4 := same_new (o := .tup (nV (stepSO r sd w o).gr)) ht2
      have h4 : upd H3 t2 (.tup (nV (stepSO r sd w o).gr)) t2 = some (.tup (nV (stepSO r sd w o).gr)) := upd_same
      generalize upd H3 t2 (.tup (nV (stepSO r sd w o).gr)) = H4 at s4 h4 ⊢
      refine ⟨by show 2 ≤ sizeLine; decide, fun t3 ht3 => ?_⟩
      have s5 := same_new (o := .tup [.ref t1, .ref t2]) ht3
      have h5 : upd H4 t3 (.tup [.ref t1, .ref t2]) t3 = some (.tup [.ref t1, .ref t2]) := upd_same
      have dS : Dt K (upd H4 t3 (.tup [.ref t1, .ref t2])) (.ref t3) (sdD (stepSO r sd w o)) := dt_tup h5 (.cons ((Dt.tup (SqT.of (s4 _ _ h3)) (dA.ks (s3.trans s4))).ks s5) (.cons ((dt_iD h4).ks s5) .nil))
      generalize upd H4 t3 (.tup [.ref t1, .ref t2]) = H5 at s5 h5 dS ⊢
      refine ⟨_, rfl, _, rfl, by show 3 ≤ sizeLine; decide, fun t6 ht6 => ?_⟩
      have s6 := same_new (o := .tup [.ref t3, tv, .bl sh]) ht6
      exact k _ _ (.ref t3) tv sh (sA.trans (((s3.trans s4).trans s5).trans s6)) upd_same (dS.ks s6) (tA.k (((s3.trans s4).trans s5).trans s6)) esh
end
end K57

namespace K57
open PySem L2 Wm TL Dv
section
variable {P : Program} {w : World} {K : PySem.W.Frag} {mg : Str → Option Value} {base : Heap}
/-! ### the law's events -/
inductive At1 : V → PyData → Prop
  | non : At1 .non .none
  | int {n : Nat} : n ≤ 9 → At1 (.int (n : Nat)) (.int (n : Nat))
  | str {t : Str} : Tx t → At1 (.str t) (.str t)
inductive Ats : List V → List PyData → Prop
  | nil : Ats [] []
  | cons {v : V} {d : PyData} {vs : List V} {ds : List PyData} : At1 v d → Ats vs ds → Ats (v :: vs) (d :: ds)
/-- what may be in a row, right or odd; b and l are what may change -/
inductive Ox (K : PySem.W.Frag) (b l : Addr) (H : Hp) : V → PyData → Prop
  | at1 {v : V} {d : PyData} : At1 v d → Ox K b l H v d
  | tup {p : Addr} {xs : List V} {ds : List PyData} : SqT K H p xs → Ats xs ds → ds.length ≤ 3 → Ox K b l H (.ref p) (.tuple ds)
  | lst {p : Addr} {xs : List V} {ds : List PyData} : H p = some (.lst xs) → p ≠ b → p ≠ l → Ats xs ds → ds.length ≤ 3 → Ox K b l H (.ref p) (.list ds)
theorem Ats.dp {H : Hp} {vs : List V} {ds : List PyData} (h : Ats vs ds) : DpAll K H vs ds := by
  induction h with
  | nil => exact .nil
  | cons a _ ih =>
    refine .cons ?_ ih
    cases a with
    | non => exact .non
    | int _ => exact .int _
    | str _ => exact .str _
theorem Ox.dp {b l : Addr} {H : Hp} {v : V} {d : PyData} (h : Ox K b l H v d) : Dp K H v d := by
  cases h with
  | at1 a =>
    cases a with
    | non => exact .non
    | int _ => exact .int _
    | str _ => exact .str _
  | tup a b _ => exact .tup a b.dp
  | lst a _ _ b _ => exact .lst (SqL.of a) b.dp
theorem Ox.keep {b l : Addr} {H H' : Hp} {v : V} {d : PyData} (h : Ox K b l H v d) (k : Kt K H H') (s : Bu2 b l H H') : Ox K b l H' v d := by
  cases h with
  | at1 a => exact .at1 a
  | tup a b c => exact .tup (k _ _ a) b c
  | lst a n1 n2 b c => exact .lst (s _ _ n1 n2 a) n1 n2 b c
theorem at_sh {v : V} {d : PyData} (h : At1 v d) : Sh 0 100 d := by
  cases h with
  | non => exact sh_none.mono (by decide) (by decide)
  | int h => exact (sh_int (by omega)).mono (by decide) (by decide)
  | str h => exact sh_str h
theorem ats_sh {vs : List V} {ds : List PyData} (h : Ats vs ds) : ∀ d ∈ ds, Sh 0 100 d := by
  induction h with
  | nil => intro d m; cases m
  | cons a _ ih =>
    intro d m
    rcases List.mem_cons.mp m with rfl | m
    · exact at_sh a
    · exact ih d m
theorem ox_sh {b l : Addr} {H : Hp} {v : V} {d : PyData} (h : Ox K b l H v d) : Sh 1 303 d := by
  cases h with
  | at1 a => exact (at_sh a).mono (by decide) (by decide)
  | tup _ a c => exact (sh_tup (ats_sh a) c).mono (by decide) (by decide)
  | lst _ _ _ a c => exact (sh_lst (ats_sh a) c).mono (by decide) (by decide)
theorem Sh.okd {w : Nat} {d : PyData} (h : Sh 1 w d) : Okd d := ⟨h.lay, Nat.le_trans h.dp (by decide)⟩
/-- the row of events in the list l -/
structure EvL (K : PySem.W.Frag) (b l : Addr) (H : Hp) (vs : List V) (ds : List PyData) : Prop where
  h : H l = some (.lst vs)
  all : All2 (Ox K b l H) vs ds
theorem All2.dp {b l : Addr} {H : Hp} {vs : List V} {ds : List PyData} (h : All2 (Ox K b l H) vs ds) : DpAll K H vs ds := by
  induction h with
  | nil => exact .nil
  | cons a _ ih => exact .cons a.dp ih
theorem All2.sh {b l : Addr} {H : Hp} {vs : List V} {ds : List PyData} (h : All2 (Ox K b l H) vs ds) : ∀ d ∈ ds, Sh 1 303 d := by
  induction h with
  | nil => intro d m; cases m
  | cons a _ ih =>
    intro d m
    rcases List.mem_cons.mp m with rfl | m
    · exact ox_sh a
    · exact ih d m
theorem ev_ats {e : Ev} (N : Num e.2) : Ats [.str (wdS e.1), .str (numS e.2)] [.str (wdS e.1), .str (numS e.2)] := .cons (.str (by cases e.1 <;> exact ⟨by decide +kernel, by decide +kernel⟩)) (.cons (.str (num_tx N)) .nil)
theorem ev_ox {b l : Addr} {H : Hp} {v : V} {e : Ev} (N : Num e.2) (h : Dt K H v (evD e)) : Ox K b l H v (evD e) := by
  obtain ⟨p, x, y, rfl, hp, d1, d2⟩ := dt_two h
  obtain rfl := d1.str_inv
  obtain rfl := d2.str_inv
  exact .tup hp (ev_ats N) (by show 2 ≤ 3; decide)
/-- its type: a tuple or not -/
theorem ox_ty {b l : Addr} {H : Hp} {v : V} {d : PyData} (h : Ox K b l H v d) : ∃ (n : String) (t : Bool), TyX K H v (.type n) ∧ PySem.W.kitOne K (.type n) (.type "tuple") = some t ∧ (t = true ∨ ∀ ds, d ≠ .tuple ds) := by
  cases h with
  | at1 a =>
    cases a with
    | non => exact ⟨"NoneType", false, .base .non, kit_ty (by decide +kernel), .inr fun _ z => by cases z⟩
    | int _ => exact ⟨"int", false, .base (.int _), kit_ty (by decide +kernel), .inr fun _ z => by cases z⟩
    | str _ => exact ⟨"str", false, .base (.str _), kit_ty (by decide +kernel), .inr fun _ z => by cases z⟩
  | tup a _ _ => exact ⟨"tuple", true, tyT a, kit_ty (by decide +kernel), .inl rfl⟩
  | lst a _ _ _ _ => exact ⟨"list", false, tyL (SqL.of a), kit_ty (by decide +kernel), .inr fun _ z => by cases z⟩
theorem EvL.keep {b l : Addr} {H H' : Hp} {vs : List V} {ds : List PyData} (h : EvL K b l H vs ds) (k : Same H H') : EvL K b l H' vs ds := ⟨k _ _ h.h, h.all.mono fun _ _ x => x.keep (Kt.same k) fun q o _ _ e => k q o e⟩
def sp_due (K : PySem.W.Frag) : Sp := fun vs H Q _ => ∃ (a l el : Addr) (b : Addr) (r : Rm) (m : Nat) (xs : List V) (ds : List PyData), vs = [.ref a, .ref l, .ref el, .int (m : Nat)] ∧ H a = some (.lst (nV r.st)) ∧ LC K H l r.cs ∧ RmOk r ∧ EvL K b el H xs ds ∧ ∀ H' u, Same H H' → Dp K H' u (fauD r m 0 (startS r) false ds) → Q u H'
/-- the step of the law at an allowed event -/
theorem stepO {r : Rm} {s : Sd} {m : Nat} {e : Ev} {i : Nat} {c : Cd} (a : AlE r s m e i c) : AskAt r (.str (numS e.2)) (some i) ∧ stepSO r s e.1 (some i) = stepE r s e ∧ stepTO r s e.1 (some i) = tellE r s e ∧ (e.1 = .more → grOf s (some i) < 3) :=
  ⟨⟨c, a.hc, by rw [a.ds]⟩, a.step.1.symm, a.step.2.symm, a.less⟩
theorem LC.k {H H' : Hp} {l : Addr} {cs : List Cd} (h : LC K H l cs) (s : Same H H') : LC K H' l cs := let ⟨cvs, a, b⟩ := h; ⟨cvs, s _ _ a, b.ks s⟩
theorem al_num {r : Rm} {s : Sd} {m : Nat} {e : Ev} {i : Nat} {c : Cd} (ok : RmOk r) (a : AlE r s m e i c) : Num e.2 := by
  rw [a.ds]
  exact (ok.ok c (List.mem_of_getElem? a.hc)).num
end
end K57

namespace K57
open PySem L2 Wm TL Dv
section
variable {P : Program} {w : World} {K : PySem.W.Frag} {mg : Str → Option Value} {base : Heap}
def sp_drawn (K : PySem.W.Frag) : Sp := fun vs H Q _ => ∃ (b a l : Addr) (r : Rm) (m : Nat), vs = [.ref b, .ref a, .ref l, .int (m : Nat)] ∧ Bk H b ∧ a ≠ b ∧ l ≠ b ∧ H a = some (.lst (nV r.st)) ∧ LC K H l r.cs ∧ RmOk r ∧ r.cs ≠ [] ∧ 1 ≤ m ∧
  ∀ H' q (xs : List V) (es : List Ev), Bu b H H' → Bk H' b → H q = none → H' q = some (.lst xs) → Dts K H' xs (es.map evD) → (∀ e ∈ es, Num e.2) → es.length ≤ 14 → Q (.ref q) H'
theorem LC.bu {H H' : Hp} {b l : Addr} {cs : List Cd} (h : LC K H l cs) (k : Kt K H H') (s : Bu b H H') (n : l ≠ b) : LC K H' l cs := let ⟨cvs, a, d⟩ := h; ⟨cvs, s _ _ n a, d.k k⟩
theorem Bk.kt {H H' : Hp} {b : Addr} (h : Bk H b) (s : Bu b H H') : Kt K H H' := let ⟨_, _, a, _⟩ := h; s.kt a (fun _ e => by cases e) (fun _ _ e => by cases e)
theorem ref_ne {H : Hp} {q b : Addr} {us : List V} {es : List Ev} (h : H q = some (.lst us)) (d : Dts K H us (es.map evD)) (hb : Bk H b) : q ≠ b := fun z => by
  obtain ⟨x, y, e, _⟩ := hb
  rw [← z, h] at e
  have e : us = [.int x, .int y] := by injection Option.some.inj e
  subst e
  cases es with
  | nil => cases d
  | cons f es =>
    cases d with
    | cons a _ =>
      have a : Dt K H (.int x) (.tuple [.str (wdS f.1), .str (numS f.2)]) := a
      obtain ⟨p, _, z, _⟩ := a.inv
      cases z
end
end K57

namespace K57
open PySem L2 Wm TL Dv
section
variable {P : Program} {w : World} {K : PySem.W.Frag} {mg : Str → Option Value} {base : Heap}
/-! ### what repr shows of a standing tells it -/
def cpsOf (x : Str) : List Nat := x.cps.toList
theorem cps_app (a b : Str) : cpsOf (a ++ b) = cpsOf a ++ cpsOf b := by
  show (a.cps ++ b.cps).toList = _
  rw [Array.toList_append]
  rfl
def plC : Pl → List Nat
  | .ins s => [40, 39, 105, 110, 39, 44, 32, 48 + s, 41]
  | .out ds => [40, 39, 111, 117, 116, 39, 44, 32, 39] ++ codes ds ++ [39, 41]
theorem fold_plain (f : Nat → List Nat) : ∀ (l : List Nat) (acc : Array Nat), (∀ c ∈ l, f c = [c]) → (l.foldl (fun out c => out ++ (f c).toArray) acc).toList = acc.toList ++ l
  | [], acc, _ => by simp
  | c :: l, acc, h => by
    rw [List.foldl_cons, fold_plain f l _ fun x m => h x (List.mem_cons_of_mem _ m), h c List.mem_cons_self]
    simp
theorem rc_dig {q c : Nat} (hq : q = 39) (h : 49 ≤ c ∧ c ≤ 57) : PySem.Builtin.Str.reprChar q c = [c] := by
  subst hq
  rcases (show c = 49 ∨ c = 50 ∨ c = 51 ∨ c = 52 ∨ c = 53 ∨ c = 54 ∨ c = 55 ∨ c = 56 ∨ c = 57 by omega) with e | e | e | e | e | e | e | e | e <;> subst e <;> decide +kernel
theorem code_dig {ds : List Nat} (N : Num ds) : ∀ c ∈ codes ds, 49 ≤ c ∧ c ≤ 57 := fun c m => by
  obtain ⟨d, md, rfl⟩ := List.mem_map.mp m
  have := N.dig d md
  omega
theorem num_shown {ds : List Nat} (N : Num ds) : cpsOf (PyData.shown (.str (numS ds))) = [39] ++ codes ds ++ [39] := by
  have hq : reprQuote (numS ds) = 39 := by
    have : (numS ds).cps.contains 39 = false := by
      rw [Bool.eq_false_iff]
      intro z
      have z : 39 ∈ (codes ds).toArray := by
        have := Array.contains_iff_mem.mp z
        exact this
      have := code_dig N 39 (by simpa using z)
      omega
    unfold reprQuote
    rw [this]
    rfl
  show (reprText (numS ds)).cps.toList = _
  unfold reprText
  show (((numS ds).cps.foldl (fun out c => out ++ (PySem.Builtin.Str.reprChar (reprQuote (numS ds)) c).toArray) #[reprQuote (numS ds)]).push (reprQuote (numS ds))).toList = _
  rw [Array.toList_push, ← Array.foldl_toList, hq]
  have e : (numS ds).cps.toList = codes ds := numS_cps ds
  rw [e, fold_plain (fun c => PySem.Builtin.Str.reprChar 39 c) (codes ds) _ fun c m => rc_dig rfl (code_dig N c m)]
def jn : List (List Nat) → List Nat
  | [] => []
  | [x] => x
  | x :: y :: r => x ++ [44, 32] ++ jn (y :: r)
theorem jn_cps : ∀ ts : List Str, cpsOf (Str.join ", " ts) = jn (ts.map cpsOf)
  | [] => rfl
  | [x] => rfl
  | x :: y :: r => by
    show cpsOf (x ++ ", " ++ Str.join ", " (y :: r)) = _
    rw [cps_app, cps_app, jn_cps (y :: r)]
    rfl
def tc (xs : List (List Nat)) : List Nat := [40] ++ jn xs ++ (if xs.length = 1 then [44, 41] else [41])
theorem tc_cps (ts : List Str) : cpsOf (tupleText ts) = tc (ts.map cpsOf) := by
  unfold tupleText tc
  rw [cps_app, cps_app, jn_cps, List.length_map]
  by_cases c : ts.length = 1
  · rw [if_pos (beq_iff_eq.mpr c), if_pos c]; rfl
  · rw [if_neg (fun z => c (beq_iff_eq.mp z)), if_neg c]; rfl
theorem shown_all : ∀ ds : List PyData, PyData.shownAll ds = ds.map PyData.shown
  | [] => by simp [PyData.shownAll]
  | d :: ds => by rw [PyData.shownAll, shown_all ds]; rfl
theorem tup_shown (ds : List PyData) : cpsOf (PyData.shown (.tuple ds)) = tc (ds.map fun d => cpsOf (PyData.shown d)) := by
  rw [PyData.shown, tc_cps, shown_all, List.map_map]
  rfl
theorem pl_shown {p : Pl} (h : plOk p) : cpsOf (PyData.shown (plD p)) = plC p := by
  cases p with
  | ins s =>
    have h : s ≤ 8 := h
    rcases (show s = 0 ∨ s = 1 ∨ s = 2 ∨ s = 3 ∨ s = 4 ∨ s = 5 ∨ s = 6 ∨ s = 7 ∨ s = 8 by omega) with e | e | e | e | e | e | e | e | e <;> subst e <;> decide +kernel
  | out ds =>
    have h : Num ds := h
    show cpsOf (PyData.shown (.tuple [.str "out", .str (numS ds)])) = _
    rw [tup_shown]
    show [40] ++ (cpsOf (PyData.shown (.str "out")) ++ [44, 32] ++ cpsOf (PyData.shown (.str (numS ds)))) ++ [41] = _
    rw [num_shown h]
    have e : cpsOf (PyData.shown (.str "out")) = [39, 111, 117, 116, 39] := by decide +kernel
    rw [e]
    show _ = [40, 39, 111, 117, 116, 39, 44, 32, 39] ++ codes ds ++ [39, 41]
    simp
theorem gr_shown {g : Nat} (h : g ≤ 3) : cpsOf (PyData.shown (.int (g : Nat))) = [48 + g] := by
  rcases (show g = 0 ∨ g = 1 ∨ g = 2 ∨ g = 3 by omega) with e | e | e | e <;> subst e <;> decide +kernel
def PF {α : Type} (ok : α → Prop) (c : α → List Nat) : Prop := ∀ p q X Y, ok p → ok q → c p ++ X = c q ++ Y → p = q ∧ X = Y
theorem codes_pf : ∀ {ds es X Y : List Nat}, (∀ d ∈ ds, 1 ≤ d ∧ d ≤ 9) → (∀ d ∈ es, 1 ≤ d ∧ d ≤ 9) → codes ds ++ 39 :: X = codes es ++ 39 :: Y → ds = es ∧ X = Y
  | [], [], _, _, _, _, h => ⟨rfl, by simpa [codes] using h⟩
  | [], e :: es, _, _, _, he, h => by
    have := he e List.mem_cons_self
    have h : 39 :: _ = (e + 48) :: (codes es ++ 39 :: _) := h
    simp only [List.cons.injEq] at h
    omega
  | d :: ds, [], _, _, hd, _, h => by
    have := hd d List.mem_cons_self
    have h : (d + 48) :: (codes ds ++ 39 :: _) = 39 :: _ := h
    simp only [List.cons.injEq] at h
    omega
  | d :: ds, e :: es, X, Y, hd, he, h => by
    have h : (d + 48) :: (codes ds ++ 39 :: X) = (e + 48) :: (codes es ++ 39 :: Y) := h
    simp only [List.cons.injEq] at h
    have ih := codes_pf (fun x m => hd x (List.mem_cons_of_mem _ m)) (fun x m => he x (List.mem_cons_of_mem _ m)) h.2
    exact ⟨by rw [ih.1, show d = e by omega], ih.2⟩
theorem pl_pf : PF plOk plC := fun p q X Y hp hq h => by
  cases p with
  | ins s =>
    cases q with
    | ins t =>
      simp only [plC, List.cons_append, List.nil_append, List.cons.injEq, true_and] at h
      exact ⟨by rw [show s = t by omega], h.2⟩
    | out ds =>
      simp [plC] at h
  | out ds =>
    cases q with
    | ins t => simp [plC] at h
    | out es =>
      have hp : Num ds := hp
      have hq : Num es := hq
      simp only [plC, List.cons_append, List.nil_append, List.append_assoc, List.cons.injEq, true_and] at h
      have := codes_pf hp.dig hq.dig h
      simp only [List.cons.injEq, true_and] at this
      exact ⟨by rw [this.1], this.2⟩
theorem gr_pf : PF (fun g : Nat => g ≤ 3) (fun g => [48 + g]) := fun p q X Y _ _ h => by
  simp only [List.cons_append, List.nil_append, List.cons.injEq] at h
  exact ⟨by omega, h.2⟩
theorem jn_pf {α : Type} {ok : α → Prop} {c : α → List Nat} (pf : PF ok c) : ∀ {ps qs : List α} {X Y : List Nat}, ps.length = qs.length → (∀ p ∈ ps, ok p) → (∀ p ∈ qs, ok p) → jn (ps.map c) ++ X = jn (qs.map c) ++ Y → ps = qs ∧ X = Y
  | [], [], _, _, _, _, _, h => ⟨rfl, h⟩
  | [], _ :: _, _, _, l, _, _, _ => by cases l
  | _ :: _, [], _, _, l, _, _, _ => by cases l
  | [p], [q], X, Y, _, hp, hq, h => by
    have := pf p q X Y (hp p List.mem_cons_self) (hq q List.mem_cons_self) h
    exact ⟨by rw [this.1], this.2⟩
  | [_], _ :: _ :: _, _, _, l, _, _, _ => by simp at l
  | _ :: _ :: _, [_], _, _, l, _, _, _ => by simp at l
  | p :: p2 :: ps, q :: q2 :: qs, X, Y, l, hp, hq, h => by
    have h : c p ++ [44, 32] ++ jn ((p2 :: ps).map c) ++ X = c q ++ [44, 32] ++ jn ((q2 :: qs).map c) ++ Y := h
    rw [List.append_assoc, List.append_assoc, List.append_assoc, List.append_assoc] at h
    have a := pf p q _ _ (hp p List.mem_cons_self) (hq q List.mem_cons_self) h
    have a2 := a.2
    simp only [List.cons_append, List.nil_append, List.cons.injEq, true_and] at a2
    have ih := jn_pf pf (ps := p2 :: ps) (qs := q2 :: qs) (by simpa using l) (fun x m => hp x (List.mem_cons_of_mem _ m)) (fun x m => hq x (List.mem_cons_of_mem _ m)) a2
    exact ⟨by rw [a.1, ih.1], ih.2⟩
theorem tc_pf {α : Type} {ok : α → Prop} {c : α → List Nat} (pf : PF ok c) {ps qs : List α} {X Y : List Nat} (l : ps.length = qs.length) (hp : ∀ p ∈ ps, ok p) (hq : ∀ p ∈ qs, ok p) (h : tc (ps.map c) ++ X = tc (qs.map c) ++ Y) : ps = qs ∧ X = Y := by
  unfold tc at h
  rw [List.length_map, List.length_map, l] at h
  simp only [List.append_assoc, List.cons_append, List.nil_append, List.cons.injEq, true_and] at h
  have a := jn_pf pf l hp hq h
  refine ⟨a.1, ?_⟩
  have a2 := a.2
  split at a2 <;> simpa using a2
theorem sd_shown {r : Rm} {s : Sd} (so : SdOk r s) : cpsOf (PyData.shown (sdD s)) = [40] ++ (tc (s.pl.map plC) ++ [44, 32] ++ tc (s.gr.map fun g => [48 + g])) ++ [41] := by
  unfold sdD iD
  rw [tup_shown]
  show [40] ++ (cpsOf (PyData.shown (.tuple (s.pl.map plD))) ++ [44, 32] ++ cpsOf (PyData.shown (.tuple (s.gr.map fun (n : Nat) => PyData.int (n : Int))))) ++ [41] = _
  rw [tup_shown, tup_shown, List.map_map, List.map_map]
  have e1 : s.pl.map ((fun d => cpsOf (PyData.shown d)) ∘ plD) = s.pl.map plC := List.map_congr_left fun p m => pl_shown (so.ok p m)
  have e2 : s.gr.map ((fun d => cpsOf (PyData.shown d)) ∘ fun (n : Nat) => PyData.int (n : Int)) = s.gr.map fun g => [48 + g] := List.map_congr_left fun g m => gr_shown (so.g3 g m)
  rw [e1, e2]
theorem shown_inj {r : Rm} {s t : Sd} (hs : SdOk r s) (ht : SdOk r t) (h : PyData.shown (sdD s) = PyData.shown (sdD t)) : s = t := by
  have h := congrArg cpsOf h
  rw [sd_shown hs, sd_shown ht] at h
  simp only [List.append_assoc, List.cons_append, List.nil_append, List.cons.injEq, true_and] at h
  have a := tc_pf pl_pf (by rw [hs.pl, ht.pl]) hs.ok ht.ok h
  have a2 := a.2
  simp only [List.cons.injEq, true_and] at a2
  have b := tc_pf gr_pf (by rw [hs.gr, ht.gr]) hs.g3 ht.g3 a2
  cases s
  cases t
  simp only [Sd.mk.injEq]
  exact ⟨a.1, b.1⟩
end
end K57

namespace K57
open PySem L2 Wm TL Dv
section
variable {P : Program} {w : World} {K : PySem.W.Frag} {mg : Str → Option Value} {base : Heap}
theorem any_ask {H : Hp} {x : V} {d : PyData} (ob : Ob K H x d) (cs : List Cd) : (((cs.map fun c => numS c.ds).map PyData.str).any fun z => PyData.eqv z d) = decide (∃ c ∈ cs, x = .str (numS c.ds)) := by
  rw [Bool.eq_iff_iff, List.any_eq_true, decide_eq_true_iff]
  constructor
  · rintro ⟨z, mz, e⟩
    obtain ⟨t, mt, rfl⟩ := List.mem_map.mp mz
    obtain ⟨c, mc, rfl⟩ := List.mem_map.mp mt
    rw [eqv_ob ob] at e
    exact ⟨c, mc, of_decide_eq_true e⟩
  · rintro ⟨c, mc, e⟩
    refine ⟨_, List.mem_map.mpr ⟨_, List.mem_map.mpr ⟨c, mc, rfl⟩, rfl⟩, ?_⟩
    rw [eqv_ob ob, decide_eq_true e]
theorem ask_dec {r : Rm} {x : V} {o : Option Nat} (a : AskAt r x o) : decide (∃ c ∈ r.cs, x = .str (numS c.ds)) = o.isSome := by
  cases o with
  | none =>
    have a : ∀ c ∈ r.cs, x ≠ .str (numS c.ds) := a
    exact decide_eq_false fun ⟨c, mc, e⟩ => a c mc e
  | some i =>
    obtain ⟨c, hc, e⟩ := a
    exact decide_eq_true ⟨c, List.mem_of_getElem? hc, e⟩
theorem nums_lay {H : Hp} {r : Rm} (ok : RmOk r) {n : Addr} (h : Tf.TF H n ((r.cs.map fun c => numS c.ds).map V.str)) : Dp K H (.ref n) (Ind.seqD true ((r.cs.map fun c => numS c.ds).map PyData.str)) ∧ PyData.canLayAll0 ((r.cs.map fun c => numS c.ds).map PyData.str) = true := by
  refine ⟨.tup h.sq (dts_str _).toDp, (strs_lay0 fun t m => ?_).1⟩
  obtain ⟨c, mc, rfl⟩ := List.mem_map.mp m
  have N := (ok.ok c mc).num
  exact ⟨by rw [numS_len]; have := N.len; omega, fun k m => by
    have m : k ∈ codes c.ds := m
    obtain ⟨d, md, rfl⟩ := List.mem_map.mp m
    have := (N.dig d md).2
    omega⟩
theorem putF_same {f : Str} {v u : V} : ∀ {fs : List (Str × V)}, fs.lookup f = some u → (putF f v fs).length = fs.length
  | [], h => by cases h
  | (g, x) :: r, h => by
    unfold putF
    by_cases c : g = f
    · rw [if_pos c]; rfl
    · rw [if_neg c, List.length_cons, List.length_cons]
      rw [List.lookup_cons, beq_eq_false_iff_ne.mpr fun e => c e.symm] at h
      rw [putF_same h]
def sp_winit (K : PySem.W.Frag) (CC RC WC : Addr) : Sp := fun vs H Q _ => ∃ (p dx rp : Addr) (r : Rm), vs = [.ref p, .ref rp] ∧ H p = some (.ins WC dx []) ∧ p ≠ rp ∧ RoomAt K RC CC H rp r ∧ RmOk r ∧ ∀ H', Bu p H H' → WatchAt K WC H' p rp (startS r) → Q .non H'
def sp_wstanding (K : PySem.W.Frag) (CC RC WC : Addr) : Sp := fun vs H Q _ => ∃ (p rp : Addr) (s : Sd), vs = [.ref p] ∧ WatchAt K WC H p rp s ∧ ∀ v, Dt K H v (sdD s) → Q v H
def sp_wgrade (K : PySem.W.Frag) (CC RC WC : Addr) : Sp := fun vs H Q _ => ∃ (p rp : Addr) (r : Rm) (s : Sd) (x : V) (d : PyData) (o : Option Nat), vs = [.ref p, x] ∧ WatchAt K WC H p rp s ∧ RoomAt K RC CC H rp r ∧ RmOk r ∧ SdOk r s ∧ Ob K H x d ∧ AskAt r x o ∧ ∀ H', Same H H' → Q (.int (grOf s o : Nat)) H'
def sp_do_event (K : PySem.W.Frag) (CC RC WC : Addr) : Sp := fun vs H Q _ => ∃ (p rp : Addr) (r : Rm) (s : Sd) (w : Wd) (i : Nat) (c : Cd), vs = [.ref p, .str (wdS w), .str (numS c.ds)] ∧ WatchAt K WC H p rp s ∧ RoomAt K RC CC H rp r ∧ RmOk r ∧ SdOk r s ∧ r.cs[i]? = some c ∧ (w = .more → s.gr.getD i 0 < 3) ∧
  ∀ H' v, Bu p H H' → WatchAt K WC H' p rp (stepS r s w i) → TdAt K H' v (stepT r s w i) → Q v H'
def sp_wcall (K : PySem.W.Frag) (CC RC WC : Addr) : Sp := fun vs H Q _ => ∃ (p rp : Addr) (r : Rm) (s : Sd) (x : V) (d : PyData) (o : Option Nat), vs = [.ref p, x] ∧ WatchAt K WC H p rp s ∧ RoomAt K RC CC H rp r ∧ RmOk r ∧ SdOk r s ∧ Ob K H x d ∧ AskAt r x o ∧
  ∀ H' v, Bu p H H' → WatchAt K WC H' p rp (stepSO r s .call o) → TdAt K H' v (stepTO r s .call o) → Q v H'
def sp_check_open (K : PySem.W.Frag) (CC RC WC : Addr) : Sp := fun vs H Q _ => ∃ (p rp : Addr) (r : Rm) (s : Sd) (x : V) (d : PyData) (o : Option Nat), vs = [.ref p, x] ∧ WatchAt K WC H p rp s ∧ RoomAt K RC CC H rp r ∧ RmOk r ∧ SdOk r s ∧ Ob K H x d ∧ AskAt r x o ∧ 0 < grOf s o ∧ ∀ H', Same H H' → Q .non H'
def sp_wmore (K : PySem.W.Frag) (CC RC WC : Addr) : Sp := fun vs H Q _ => ∃ (p rp : Addr) (r : Rm) (s : Sd) (x : V) (d : PyData) (o : Option Nat), vs = [.ref p, x] ∧ WatchAt K WC H p rp s ∧ RoomAt K RC CC H rp r ∧ RmOk r ∧ SdOk r s ∧ Ob K H x d ∧ AskAt r x o ∧ 0 < grOf s o ∧ grOf s o < 3 ∧
  ∀ H' v, Bu p H H' → WatchAt K WC H' p rp (stepSO r s .more o) → TdAt K H' v (stepTO r s .more o) → Q v H'
def sp_wback (K : PySem.W.Frag) (CC RC WC : Addr) : Sp := fun vs H Q _ => ∃ (p rp : Addr) (r : Rm) (s : Sd) (x : V) (d : PyData) (o : Option Nat), vs = [.ref p, x] ∧ WatchAt K WC H p rp s ∧ RoomAt K RC CC H rp r ∧ RmOk r ∧ SdOk r s ∧ Ob K H x d ∧ AskAt r x o ∧ 0 < grOf s o ∧
  ∀ H' v, Bu p H H' → WatchAt K WC H' p rp (stepSO r s .back o) → TdAt K H' v (stepTO r s .back o) → Q v H'
theorem RoomAt.wt {RC CC WC : Addr} {H H' : Hp} {p rp rq : Addr} {r : Rm} {s : Sd} (h : RoomAt K RC CC H rp r) (g : WatchAt K WC H p rq s) (b : Bu p H H') : RoomAt K RC CC H' rp r := by
  obtain ⟨dx, fs, v, hp, _, e1, _⟩ := g
  refine h.kb (b.kt hp (fun _ e => by cases e) (fun _ _ e => by cases e)) (fun _ _ t => b.tf hp (fun _ _ e => by cases e) t) fun C q dq gs e l _ => b q _ (fun z => ?_) e
  subst z
  rw [hp] at e
  have e := Option.some.inj e
  injection e with e2 e3 e4
  rw [← e4, e1] at l
  cases l
theorem ok_winit (T : Txt K mg) : FnOk P w K mg base CX0 2 T.a_winit T.d_winit ["self", "room"] (sp_winit K T.CC T.RC T.WC) := by
  refine T.F_winit.ok sc_winit (fun vs H Q E h => ?_) (fun cdv A outer s H vs Q E hr h => ?_)
  · obtain ⟨p, dx, rp, r, rfl, _⟩ := h
    rfl
  · obtain ⟨p, dx, rp, r, rfl, hp, ne, hR, ok, k⟩ := h
    refine ⟨_, (pss_cons (ps_fld (pv 0) (pv 1) rfl)
      (pss_one (ps_fld (pv 0) (pe_meth0 (pv 1) T.clRC T.m_rstart (ok_rstart T) (hr.mono (by decide)) T.b_rstart .nil pass0) rfl))), ?_⟩
    refine ⟨_, rfl, _, rfl, p, T.WC, dx, [], rfl, hp, T.clWC, T.nRo, by show 0 < 1000; decide, ?_⟩
    obtain ⟨f1, e1, g1, n1⟩ := putF_ex "_room" (.ref rp) []
    have n1 : f1.length ≤ 1 := n1
    rw [e1]
    have b1 : Bu p H (upd H p (.ins T.WC dx f1)) := Bu.set
    have hp1 : upd H p (.ins T.WC dx f1) p = some (.ins T.WC dx f1) := upd_same
    have hR1 : RoomAt K T.RC T.CC (upd H p (.ins T.WC dx f1)) rp r := hR.kb (b1.kt hp (fun _ e => by cases e) (fun _ _ e => by cases e)) (fun _ _ t => b1.tf hp (fun _ _ e => by cases e) t) fun C q dq gs e _ nn => b1 q _ (fun z => by
      subst z
      rw [hp] at e
      have e := Option.some.inj e
      injection e with e1 e2 e3
      exact nn e3.symm) e
    generalize upd H p (.ins T.WC dx f1) = H1 at b1 hp1 hR1 ⊢
    obtain ⟨dxr, fsr, _, _, _, _, hrp, _, _, _, _, _, _, _, lo⟩ := id hR1
    refine ⟨_, rfl, rp, dxr, fsr, rfl, hrp, lo _ (by decide +kernel) (by decide +kernel) (by decide +kernel), rp, r, rfl, hR1, ok, fun H2 v s2 dv => ?_⟩
    refine ⟨_, rfl, p, T.WC, dx, f1, rfl, s2 _ _ hp1, T.clWC, T.nNw, by omega, ?_⟩
    obtain ⟨f2, e2, g2, n2⟩ := putF_ex "_now" v f1
    rw [e2]
    have b3 : Bu p H2 (upd H2 p (.ins T.WC dx f2)) := Bu.set
    refine k _ ((b1.trans (Bu.of s2)).trans b3) ⟨dx, f2, v, upd_same, by omega, by rw [g2, if_neg (by decide +kernel), g1, if_pos rfl], by rw [g2, if_pos rfl], b3.dt (s2 _ _ hp1) dv, fun m h1 h2 => by rw [g2, if_neg h2, g1, if_neg h1]; rfl⟩
theorem ok_wstanding (T : Txt K mg) : FnOk P w K mg base CX0 1 T.a_wstanding T.d_wstanding ["self"] (sp_wstanding K T.CC T.RC T.WC) := by
  refine T.F_wstanding.ok sc_wstanding (fun vs H Q E h => ?_) (fun cdv A outer s H vs Q E hr h => ?_)
  · obtain ⟨p, rp, s, rfl, _⟩ := h
    rfl
  · obtain ⟨p, rp, s, rfl, ⟨dx, fs, v, hp, _, _, l2, dv, _⟩, k⟩ := h
    refine ⟨_, (pss_one (ps_ret (pe_fld (pv 0) rfl))), ?_⟩
    exact ⟨_, rfl, p, T.WC, dx, fs, _, rfl, hp, T.clWC, T.nNw, l2, k v dv⟩
theorem ok_wgrade (T : Txt K mg) : FnOk P w K mg base CX0 3 T.a_wgrade T.d_wgrade ["self", "number"] (sp_wgrade K T.CC T.RC T.WC) := by
  refine T.F_wgrade.ok sc_wgrade (fun vs H Q E h => ?_) (fun cdv A outer s H vs Q E hr h => ?_)
  · obtain ⟨p, rp, r, s, x, d, o, rfl, _⟩ := h
    rfl
  · obtain ⟨p, rp, r, s, x, d, o, rfl, hW, hR, ok, so, ob, a, k⟩ := h
    obtain ⟨dx, fs, v, hp, _, l1, l2, dv, lw⟩ := id hW
    obtain ⟨dxr, fsr, sv, q, n, cvs, hrp, m1, d1, m2, hq, hcs, m3, d3, lo⟩ := id hR
    have fd := tg_fine ob.tg
    have nl := nums_lay (K := K) ok d3
    refine ⟨_, (pss_one (ps_ret (pe_ifExp (pt_cmpR (show OpR _ _ (Ind.rInS K) from Ind.op_inS (Ind.room65 hr)) (pv 1) (pe_fld (pe_fld (pv 0) rfl) rfl) rfl) (pe_meth (pe_fld (pv 0) rfl) T.clRC T.m_grade_in (ok_grade_in T) (hr.mono (by decide)) T.b_grade_in .nil pass0 (pa_cons (pe_fld (pv 0) rfl) (pa_cons (pv 1) pa_nil))) pe_int))), ?_⟩
    refine ⟨_, rfl, _, rfl, p, T.WC, dx, fs, _, rfl, hp, T.clWC, T.nRo, l1, rp, T.RC, dxr, fsr, _, rfl, hrp, T.clRC, T.nNs, m3, d, _, true, ob.dp, nl.1, fd.1, Nat.le_trans fd.2 (by decide), nl.2, _, rfl, ?_⟩
    rw [any_ask ob, ask_dec a]
    cases o with
    | none => exact iteF (k _ (Same.refl _))
    | some i =>
      obtain ⟨c, hc, rfl⟩ := a
      refine iteT ⟨_, rfl, p, T.WC, dx, fs, _, rfl, hp, T.clWC, T.nRo, l1, rp, dxr, fsr, rfl, hrp, lo _ (by decide +kernel) (by decide +kernel) (by decide +kernel), _, rfl, p, T.WC, dx, fs, _, rfl, hp, T.clWC, T.nNw, l2, _, rfl, rp, r, i, c, v, s, rfl, hR, ok, hc, dv, so, fun H' s' => k _ s'⟩
theorem ok_do_event (T : Txt K mg) : FnOk P w K mg base CX0 5 T.a_do_event T.d_do_event ["self", "word", "number"] (sp_do_event K T.CC T.RC T.WC) := by
  refine T.F_do_event.ok sc_do_event (fun vs H Q E h => ?_) (fun cdv A outer s H vs Q E hr h => ?_)
  · obtain ⟨p, rp, r, s, w, i, c, rfl, _⟩ := h
    rfl
  · obtain ⟨p, rp, r, s, w, i, c, rfl, hW, hR, ok, so, hc, hm, k⟩ := h
    obtain ⟨dx, fs, v, hp, ln, l1, l2, dv, lw⟩ := id hW
    obtain ⟨dxr, fsr, _, _, _, _, hrp, _, _, _, _, _, _, _, lo⟩ := id hR
    refine ⟨_, (pss_cons (ps_asg (pe_meth (pe_fld (pv 0) rfl) T.clRC T.m_rstep (ok_rstep T) (hr.mono (by decide)) T.b_rstep .nil pass0 (pa_cons (pe_fld (pv 0) rfl) (pa_cons (pe_tup (pa_cons (pv 1) (pa_cons (pv 2) pa_nil))) pa_nil))) (pg_tup rfl (pgs_cons (pg_fld (pv 0)) (pgs_cons (pg_name (i := 3) sc_do_event.nd rfl (Or.inl rfl)) pgs_nil))))
      (pss_one (ps_ret (pv 3)))), ?_⟩
    refine ⟨_, rfl, p, T.WC, dx, fs, _, rfl, hp, T.clWC, T.nRo, l1, rp, dxr, fsr, rfl, hrp, lo _ (by decide +kernel) (by decide +kernel) (by decide +kernel), _, rfl, p, T.WC, dx, fs, _, rfl, hp, T.clWC, T.nNw, l2, _, rfl, _, rfl, by show 2 ≤ sizeLine; decide, fun u hu => ?_⟩
    have s1 := same_new (o := .tup [.str (wdS w), .str (numS c.ds)]) hu
    have hu1 : upd H u (.tup [.str (wdS w), .str (numS c.ds)]) u = some (.tup [.str (wdS w), .str (numS c.ds)]) := upd_same
    generalize upd H u (.tup [.str (wdS w), .str (numS c.ds)]) = H1 at s1 hu1 ⊢
    refine ⟨rp, r, i, c, v, s, w, .ref u, rfl, hR.k s1, ok, hc, dv.ks s1, so, wd_D w c.ds hu1, hm, fun H2 z s2 hz => ?_⟩
    obtain ⟨q, v1, v2, rfl, hq, dv1, dt2⟩ := hz
    have hp2 := (s1.trans s2) _ _ hp
    refine ⟨q, _, rfl, SqT.of hq, rfl, _, _, rfl, _, rfl, p, T.WC, dx, fs, rfl, hp2, T.clWC, T.nNw, by omega, _, _, rfl, rfl, _, rfl, ?_⟩
    obtain ⟨f2, e2, g2, n2⟩ := putF_ex "_now" v1 fs
    have n3 : f2.length = fs.length := by rw [← e2]; exact putF_same l2
    rw [e2]
    have b3 : Bu p H2 (upd H2 p (.ins T.WC dx f2)) := Bu.set
    refine k _ _ ((Bu.of (s1.trans s2)).trans b3) ⟨dx, f2, v1, upd_same, by omega, by rw [g2, if_neg (by decide +kernel)]; exact l1, by rw [g2, if_pos rfl], b3.dt hp2 dv1, fun m h1 h2 => by rw [g2, if_neg h2]; exact lw m h1 h2⟩ (dt2.kb (b3.kt hp2 (fun _ e => by cases e) (fun _ _ e => by cases e)))
theorem ok_wcall (T : Txt K mg) : FnOk P w K mg base CX0 6 T.a_wcall T.d_wcall ["self", "number"] (sp_wcall K T.CC T.RC T.WC) := by
  refine T.F_wcall.ok sc_wcall (fun vs H Q E h => ?_) (fun cdv A outer s H vs Q E hr h => ?_)
  · obtain ⟨p, rp, r, s, x, d, o, rfl, _⟩ := h
    rfl
  · obtain ⟨p, rp, r, s, x, d, o, rfl, hW, hR, ok, so, ob, a, k⟩ := h
    obtain ⟨dx, fs, v, hp, _, l1, l2, dv, lw⟩ := id hW
    obtain ⟨dxr, fsr, sv, q, n, cvs, hrp, m1, d1, m2, hq, hcs, m3, d3, lo⟩ := id hR
    have fd := tg_fine ob.tg
    have nl := nums_lay (K := K) ok d3
    refine ⟨_, (pss_one (ps_ret (pe_ifExp (pt_cmpR (show OpR _ _ (Ind.rInS K) from Ind.op_inS (Ind.room65 hr)) (pv 1) (pe_fld (pe_fld (pv 0) rfl) rfl) rfl) (pe_meth (pv 0) T.clWC T.m_do_event (ok_do_event T) (hr.mono (by decide)) T.b_do_event .nil pass0 (pa_cons (pe_glob (v := V.str "call") rfl T.c_CALL ⟨_, rfl⟩) (pa_cons (pv 1) pa_nil))) pe_non))), ?_⟩
    refine ⟨_, rfl, _, rfl, p, T.WC, dx, fs, _, rfl, hp, T.clWC, T.nRo, l1, rp, T.RC, dxr, fsr, _, rfl, hrp, T.clRC, T.nNs, m3, d, _, true, ob.dp, nl.1, fd.1, Nat.le_trans fd.2 (by decide), nl.2, _, rfl, ?_⟩
    rw [any_ask ob, ask_dec a]
    cases o with
    | none => exact iteF (k _ _ (Bu.of (Same.refl _)) hW (.inl ⟨rfl, rfl⟩))
    | some i =>
      obtain ⟨c, hc, rfl⟩ := a
      exact iteT ⟨_, rfl, p, dx, fs, rfl, hp, lw _ (by decide +kernel) (by decide +kernel), _, rfl, p, rp, r, s, .call, i, c, rfl, hW, hR, ok, so, hc, (fun e => by cases e), k⟩
theorem ok_check_open (T : Txt K mg) : FnOk P w K mg base CX0 5 T.a_check_open T.d_check_open ["self", "number"] (sp_check_open K T.CC T.RC T.WC) := by
  refine T.F_check_open.ok sc_check_open (fun vs H Q E h => ?_) (fun cdv A outer s H vs Q E hr h => ?_)
  · obtain ⟨p, rp, r, s, x, d, o, rfl, _⟩ := h
    rfl
  · obtain ⟨p, rp, r, s, x, d, o, rfl, hW, hR, ok, so, ob, a, g0, k⟩ := h
    obtain ⟨dx, fs, v, hp, _, l1, l2, dv, lw⟩ := id hW
    refine ⟨_, (pss_one (ps_if (pt_cmpR op_eq (pe_meth (pv 0) T.clWC T.m_wgrade (ok_wgrade T) (hr.mono (by decide)) T.b_wgrade .nil pass0 (pa_cons (pv 1) pa_nil)) pe_int (nomark _))
        (pss_one ps_never)
        pss_nil)), ?_⟩
    refine ⟨_, rfl, p, dx, fs, rfl, hp, lw _ (by decide +kernel) (by decide +kernel), _, rfl, p, rp, r, s, x, d, o, rfl, hW, hR, ok, so, ob, a, fun H1 s1 => ?_⟩
    refine ⟨rfl, _, rfl, iteN (decide_eq_false fun z => ?_) (k _ s1)⟩
    have z := V.int.inj z
    omega
theorem ok_wmore (T : Txt K mg) : FnOk P w K mg base CX0 7 T.a_wmore T.d_wmore ["self", "number"] (sp_wmore K T.CC T.RC T.WC) := by
  refine T.F_wmore.ok sc_wmore (fun vs H Q E h => ?_) (fun cdv A outer s H vs Q E hr h => ?_)
  · obtain ⟨p, rp, r, s, x, d, o, rfl, _⟩ := h
    rfl
  · obtain ⟨p, rp, r, s, x, d, o, rfl, hW, hR, ok, so, ob, a, g0, g3, k⟩ := h
    obtain ⟨dx, fs, v, hp, _, l1, l2, dv, lw⟩ := id hW
    refine ⟨_, (pss_cons (ps_expr (pe_meth (pv 0) T.clWC T.m_check_open (ok_check_open T) (hr.mono (by decide)) T.b_check_open .nil pass0 (pa_cons (pv 1) pa_nil)))
      (pss_cons (ps_if (pt_cmpR op_eq (pe_meth (pv 0) T.clWC T.m_wgrade (ok_wgrade T) (hr.mono (by decide)) T.b_wgrade .nil pass0 (pa_cons (pv 1) pa_nil)) (ClX.pe_cval (pe_glob (v := V.ref T.CC) rfl T.gCC rfl)) (nomark _))
        (pss_one ps_never)
        pss_nil)
      (pss_one (ps_ret (pe_meth (pv 0) T.clWC T.m_do_event (ok_do_event T) (hr.mono (by decide)) T.b_do_event .nil pass0 (pa_cons (pe_glob (v := V.str "more") rfl T.c_MORE ⟨_, rfl⟩) (pa_cons (pv 1) pa_nil))))))), ?_⟩
    refine ⟨_, rfl, p, dx, fs, rfl, hp, lw _ (by decide +kernel) (by decide +kernel), _, rfl, p, rp, r, s, x, d, o, rfl, hW, hR, ok, so, ob, a, g0, fun H1 s1 => ?_⟩
    have hW1 := hW.k s1
    refine ⟨_, rfl, p, dx, fs, rfl, s1 _ _ hp, lw _ (by decide +kernel) (by decide +kernel), _, rfl, p, rp, r, s, x, d, o, rfl, hW1, hR.k s1, ok, so, ob.keep s1, a, fun H2 s2 => ?_⟩
    refine ⟨T.CC, T.mcC, _, _, rfl, T.rdC, T.vG, rfl, _, rfl, iteN (decide_eq_false fun z => ?_) ?_⟩
    · have z := V.int.inj z
      omega
    cases o with
    | none => exact absurd g0 (Nat.lt_irrefl _)
    | some i =>
      obtain ⟨cc, hc, rfl⟩ := a
      have s12 := s1.trans s2
      exact ⟨_, rfl, p, dx, fs, rfl, s12 _ _ hp, lw _ (by decide +kernel) (by decide +kernel), _, rfl, p, rp, r, s, .more, i, cc, rfl, hW.k s12, hR.k s12, ok, so, hc, fun _ => g3, fun H' v b => k H' v ((Bu.of s12).trans b)⟩
theorem ok_wback (T : Txt K mg) : FnOk P w K mg base CX0 7 T.a_wback T.d_wback ["self", "number"] (sp_wback K T.CC T.RC T.WC) := by
  refine T.F_wback.ok sc_wback (fun vs H Q E h => ?_) (fun cdv A outer s H vs Q E hr h => ?_)
  · obtain ⟨p, rp, r, s, x, d, o, rfl, _⟩ := h
    rfl
  · obtain ⟨p, rp, r, s, x, d, o, rfl, hW, hR, ok, so, ob, a, g0, k⟩ := h
    obtain ⟨dx, fs, v, hp, _, l1, l2, dv, lw⟩ := id hW
    refine ⟨_, (pss_cons (ps_expr (pe_meth (pv 0) T.clWC T.m_check_open (ok_check_open T) (hr.mono (by decide)) T.b_check_open .nil pass0 (pa_cons (pv 1) pa_nil)))
      (pss_one (ps_ret (pe_meth (pv 0) T.clWC T.m_do_event (ok_do_event T) (hr.mono (by decide)) T.b_do_event .nil pass0 (pa_cons (pe_glob (v := V.str "back") rfl T.c_BACK ⟨_, rfl⟩) (pa_cons (pv 1) pa_nil)))))), ?_⟩
    refine ⟨_, rfl, p, dx, fs, rfl, hp, lw _ (by decide +kernel) (by decide +kernel), _, rfl, p, rp, r, s, x, d, o, rfl, hW, hR, ok, so, ob, a, g0, fun H1 s1 => ?_⟩
    cases o with
    | none => exact absurd g0 (Nat.lt_irrefl _)
    | some i =>
      obtain ⟨cc, hc, rfl⟩ := a
      exact ⟨_, rfl, p, dx, fs, rfl, s1 _ _ hp, lw _ (by decide +kernel) (by decide +kernel), _, rfl, p, rp, r, s, .back, i, cc, rfl, hW.k s1, hR.k s1, ok, so, hc, (fun e => by cases e), fun H' v b => k H' v ((Bu.of s1).trans b)⟩
end
end K57

namespace K57
open PySem L2 Wm TL Dv
section
variable {P : Program} {w : World} {K : PySem.W.Frag} {mg : Str → Option Value} {base : Heap}
def sp_is_safe (K : PySem.W.Frag) (OC : Addr) : Sp := fun vs H Q _ => ∃ (p : Addr) (a b : V), vs = [.ref p] ∧ OrdAt OC H p a b ∧ Q (.bl (decide (b = .non))) H
theorem ok_is_safe (T : Txt K mg) : FnOk P w K mg base CX0 1 T.a_is_safe T.d_is_safe ["self"] (sp_is_safe K T.OC) := by
  refine T.F_is_safe.ok sc_is_safe (fun vs H Q E h => ?_) (fun cdv A outer s H vs Q E hr h => ?_)
  · obtain ⟨p, a, b, rfl, _⟩ := h
    rfl
  · obtain ⟨p, a, b, rfl, ⟨dx, fs, hp, l1, l2⟩, k⟩ := h
    refine ⟨_, (pss_one (ps_ret (pe_cmpR op_isN (pe_fld (pv 0) rfl) pe_non (nomark _)))), ?_⟩
    exact ⟨_, rfl, p, T.OC, dx, fs, _, rfl, hp, T.clOC, T.nEv, l2, rfl, k⟩
end
end K57

namespace K57
open PySem L2 Wm TL Dv
section
variable {P : Program} {w : World} {K : PySem.W.Frag} {mg : Str → Option Value} {base : Heap}
def sp_played (K : PySem.W.Frag) (CC RC WC : Addr) : Sp := fun vs H Q _ => ∃ (p rp : Addr) (r : Rm) (m : Nat) (s : Sd) (v : V) (e : Ev), vs = [.ref p, v] ∧ WatchAt K WC H p rp s ∧ RoomAt K RC CC H rp r ∧ RmOk r ∧ InR r m s ∧ Dt K H v (evD e) ∧ e ∈ alF r s.gr m ∧ ∀ H', Bu p H H' → WatchAt K WC H' p rp (stepE r s e) → Q (.int (shN (tellE r s e) : Nat)) H'
theorem told_three {H : Hp} {r : Rm} {s : Sd} {m : Nat} {e : Ev} {i : Nat} {c : Cd} {v : V} (a : AlE r s m e i c) (nb : e.1 ≠ .back) (h : TdAt K H v (tellE r s e)) : ∃ p x y z, v = .ref p ∧ SqT K H p [x, y, z, .int (shN (tellE r s e) : Nat)] := by
  rcases h with ⟨z, _⟩ | ⟨_, h⟩
  · exact absurd z (sent_of a).2
  obtain ⟨g, wl, mv, n, et⟩ := (sent_of a).1 nb
  rw [et] at h ⊢
  obtain ⟨p, x, y, rfl, hp⟩ := last_sent h
  exact ⟨p, _, x, y, rfl, hp⟩
theorem ok_played (T : Txt K mg) : FnOk P w K mg base CX0 8 T.a_played T.d_played ["_law_watch", "_law_event"] (sp_played K T.CC T.RC T.WC) := by
  refine T.F_played.ok sc_played (fun vs H Q E h => ?_) (fun cdv A outer s H vs Q E hr h => ?_)
  · obtain ⟨p, rp, r, m, s, v, e, rfl, _⟩ := h
    rfl
  · obtain ⟨p, rp, r, m, sd, v, e, rfl, hW, hR, ok, IR, de, hal, k⟩ := h
    obtain ⟨dx, fs, wv, hp, _, l1, l2, dvv, lw⟩ := id hW
    obtain ⟨eq, x, y, rfl, heq, d1, d2⟩ := dt_two de
    obtain rfl := d1.str_inv
    obtain rfl := d2.str_inv
    obtain ⟨i2, c, AE⟩ := al_mem ok IR.ok hal
    have O := stepO AE
    have N := al_num ok AE
    refine ⟨_, (pss_cons (ps_if (pt_cmpR op_eq (pe_ix ix_tup (pv 1) pe_int (fun _ _ => rfl)) pe_str (nomark _))
        (pss_cons (ps_expr (pe_meth (pv 0) T.clWC T.m_wback (ok_wback T) (hr.mono (by decide)) T.b_wback .nil pass0 (pa_cons (pe_ix ix_tup (pv 1) pe_int (fun _ _ => rfl)) pa_nil)))
        (pss_one (ps_ret pe_int)))
        pss_nil)
      (pss_cons (ps_set (i := 2) sc_played.nd rfl (Or.inl rfl) (pe_ifExp (pt_cmpR op_eq (pe_ix ix_tup (pv 1) pe_int (fun _ _ => rfl)) pe_str (nomark _)) (pe_meth (pv 0) T.clWC T.m_wcall (ok_wcall T) (hr.mono (by decide)) T.b_wcall .nil pass0 (pa_cons (pe_ix ix_tup (pv 1) pe_int (fun _ _ => rfl)) pa_nil)) (pe_meth (pv 0) T.clWC T.m_wmore (ok_wmore T) (hr.mono (by decide)) T.b_wmore .nil pass0 (pa_cons (pe_ix ix_tup (pv 1) pe_int (fun _ _ => rfl)) pa_nil))))
      (pss_one (ps_ret (pe_ix ix_tup (pv 2) pe_int (fun _ _ => rfl)))))), ?_⟩
    refine ⟨_, rfl, eq, _, 0, _, rfl, rfl, heq, atI_nat (j := 0) rfl, rfl, _, rfl, ?_⟩
    rw [wd_back]
    by_cases cb : e.1 = .back
    · have O1 : stepSO r sd .back (some i2) = stepE r sd e := by rw [← cb]; exact O.2.1
      have sh : shN (tellE r sd e) = 0 := by
        rw [AE.step.2, cb]
        unfold stepT
        rw [AE.hc]
        rfl
      rw [sh] at k
      refine iteY (decide_eq_true cb) ⟨_, rfl, p, dx, fs, rfl, hp, lw _ (by decide +kernel) (by decide +kernel), _, rfl, eq, _, 1, _, rfl, rfl, heq, atI_nat (j := 1) rfl, p, rp, r, sd, _, _, some i2, rfl, hW, hR, ok, IR.ok, ob_num N, O.1, AE.bk cb, fun H' v bu hW' _ => ?_⟩
      rw [O1] at hW'
      exact k H' bu hW'
    · refine iteN (decide_eq_false cb) ⟨_, rfl, eq, _, 0, _, rfl, rfl, heq, atI_nat (j := 0) rfl, rfl, _, rfl, ?_⟩
      rw [wd_call]
      have fin : ∀ (H' : Hp) (u : V), Bu p H H' → WatchAt K T.WC H' p rp (stepE r sd e) → TdAt K H' u (tellE r sd e) → ∃ q xs, u = .ref q ∧ SqT K H' q xs ∧ xs[3]? = some (.int (shN (tellE r sd e) : Nat)) ∧ Q (.int (shN (tellE r sd e) : Nat)) H' := fun H' u bu hW' ht => by
        obtain ⟨q, a, b, d, rfl, hq⟩ := told_three AE cb ht
        exact ⟨q, _, rfl, hq, rfl, k H' bu hW'⟩
      by_cases cc : e.1 = .call
      · have O1 : stepSO r sd .call (some i2) = stepE r sd e := by rw [← cc]; exact O.2.1
        have O2 : stepTO r sd .call (some i2) = tellE r sd e := by rw [← cc]; exact O.2.2.1
        refine iteY (decide_eq_true cc) ⟨_, rfl, p, dx, fs, rfl, hp, lw _ (by decide +kernel) (by decide +kernel), _, rfl, eq, _, 1, _, rfl, rfl, heq, atI_nat (j := 1) rfl, p, rp, r, sd, _, _, some i2, rfl, hW, hR, ok, IR.ok, ob_num N, O.1, fun H' u bu hW' ht => ?_⟩
        rw [O1] at hW'
        rw [O2] at ht
        obtain ⟨q, xs, rfl, hq, h3, kq⟩ := fin H' u bu hW' ht
        exact ⟨_, rfl, q, xs, 3, _, rfl, rfl, hq, atI_nat (j := 3) h3, kq⟩
      · have cm : e.1 = .more := by cases h : e.1 with
          | call => exact absurd h cc
          | more => rfl
          | back => exact absurd h cb
        have O1 : stepSO r sd .more (some i2) = stepE r sd e := by rw [← cm]; exact O.2.1
        have O2 : stepTO r sd .more (some i2) = tellE r sd e := by rw [← cm]; exact O.2.2.1
        refine iteN (decide_eq_false cc) ⟨_, rfl, p, dx, fs, rfl, hp, lw _ (by decide +kernel) (by decide +kernel), _, rfl, eq, _, 1, _, rfl, rfl, heq, atI_nat (j := 1) rfl, p, rp, r, sd, _, _, some i2, rfl, hW, hR, ok, IR.ok, ob_num N, O.1, (AE.mo cm).1, (AE.mo cm).2, fun H' u bu hW' ht => ?_⟩
        rw [O1] at hW'
        rw [O2] at ht
        obtain ⟨q, xs, rfl, hq, h3, kq⟩ := fin H' u bu hW' ht
        exact ⟨_, rfl, q, xs, 3, _, rfl, rfl, hq, atI_nat (j := 3) h3, kq⟩
def sp_row_stands (K : PySem.W.Frag) (CC RC WC : Addr) : Sp := fun vs H Q _ => ∃ (rp a l gq : Addr) (r : Rm) (m : Nat) (xs : List V) (es : List Ev) (e : Ev) (t : Sd), vs = [.ref rp, .ref a, .ref l, .int (m : Nat), .ref gq] ∧ RoomAt K RC CC H rp r ∧ RmOk r ∧ H a = some (.lst (nV r.st)) ∧ LC K H l r.cs ∧ SqT K H gq xs ∧ Dts K H xs ((es ++ [e]).map evD) ∧
  okRow r m (startS r) es = some t ∧ e ∈ alF r t.gr m ∧ shortE r t e = true ∧ ∀ H', Same H H' → Q (.bl true) H'
/-- the next event of a row -/
theorem okRow_at {r : Rm} {m : Nat} {es : List Ev} {s0 t s : Sd} {j : Nat} {f : Ev} (h : okRow r m s0 es = some t) (hj : es[j]? = some f) (hs : okRow r m s0 (es.take j) = some s) : f ∈ alF r s.gr m ∧ shortE r s f = false ∧ okRow r m s0 (es.take (j + 1)) = some (stepE r s f) := by
  have e1 : es = es.take j ++ f :: es.drop (j + 1) := by
    rw [← drop_at hj, List.take_append_drop]
  rw [e1, okRow_app hs] at h
  unfold okRow at h
  split at h
  · rename_i c
    refine ⟨c.1, c.2, ?_⟩
    rw [tk_succ' hj, okRow_app hs]
    show (if f ∈ alF r s.gr m ∧ shortE r s f = false then okRow r m (stepE r s f) [] else none) = _
    rw [if_pos c]
    rfl
  · cases h
theorem fine_ev {e : Ev} (N : Num e.2) : Fine 1 (evD e) := ⟨(sh_ev e N).lay, (sh_ev e N).dp⟩
theorem fine_nilT : Fine 1 (.tuple []) := fine_tup (n := 0) (fun d md => by cases md)
theorem fine_nilL : Fine 1 (.list []) := fine_lst (n := 0) (fun d md => by cases md)
theorem nil_ne {x : PyData} {xs : List PyData} : PyData.eqv (.tuple (x :: xs)) (.tuple []) = false := rfl
theorem nil_neL {x : PyData} {xs : List PyData} : PyData.eqv (.list (x :: xs)) (.list []) = false := rfl
theorem okRow_num {r : Rm} {m : Nat} (ok : RmOk r) : ∀ {es : List Ev} {s t : Sd}, InR r m s → okRow r m s es = some t → InR r m t ∧ ∀ e ∈ es, Num e.2
  | [], s, t, h, e => by cases e; exact ⟨h, fun _ m => by cases m⟩
  | e :: es, s, t, h, q => by
    unfold okRow at q
    split at q
    · rename_i c
      obtain ⟨i2, cd, AE⟩ := al_mem ok h.ok c.1
      have ih := okRow_num ok (h.step ok c.1) q
      refine ⟨ih.1, fun f hf => ?_⟩
      rcases List.mem_cons.mp hf with rfl | hf
      · exact al_num ok AE
      · exact ih.2 f hf
    · cases q
theorem ok_row_stands (T : Txt K mg) : FnOk P w K mg base CX0 9 T.a_row_stands T.d_row_stands ["_law_room_here", "_law_stations", "_law_cards_here", "_law_most_open", "_law_events"] (sp_row_stands K T.CC T.RC T.WC) := by
  refine T.F_row_stands.ok sc_row_stands (fun vs H Q E h => ?_) (fun cdv A outer s H vs Q E hr h => ?_)
  · obtain ⟨rp, a, l, gq, r, m, xs, es, e, t, rfl, _⟩ := h
    rfl
  · obtain ⟨rp, a, l, gq, r, m, xs, es, e, t, rfl, hR, ok, ha, hl, hg, dxs, hrow, hal, hsh, k⟩ := h
    have NT := okRow_num ok (InR.start ok m) hrow
    obtain ⟨i3, c3, AE3⟩ := al_mem ok NT.1.ok hal
    have nums : ∀ f ∈ es ++ [e], Num f.2 := fun f hf => by
      rcases List.mem_append.mp hf with hf | hf
      · exact NT.2 f hf
      · rw [List.mem_singleton.mp hf]; exact al_num ok AE3
    have lxs := dxs.len
    rw [List.length_map, List.length_append, List.length_singleton] at lxs
    refine ⟨_, (pss_cons (ps_par (i := 5) (j := 6) rfl sc_row_stands.nd rfl rfl (by decide) rfl rfl (pa_cons (pe_make T.mk_winit (ok_winit T) (hr.mono (by decide)) (by rfl) T.gWC T.b_winit .nil pass0 (pa_cons (pv 0) pa_nil)) (pa_cons (pe_call (ok_start T) (hr.mono (by decide)) (by rfl) T.g_start T.F_start.kp T.b_start .nil pass0 (pa_cons (pv 1) (pa_cons (pv 2) pa_nil))) pa_nil)) rfl)
      (pss_cons (ps_if (PW.pt (pw_or (pt_not (pt_val (pe_callB call_isi (by rfl) T.z_isinstance (by decide +kernel) (pa_cons (pv 4) (pa_cons (pe_bltn (v := V.ty "tuple") (by rfl) T.z_tuple (by decide +kernel) rfl) pa_nil))))) (pw_or1 (pt_cmpR (op_eqD hr.units) (pv 4) (pe_tup pa_nil) (nomark _)))))
        (pss_one (ps_ret pe_bl))
        pss_nil)
      (pss_cons (ps_for PassesOwn.never rfl (Es.pi_ent (by rfl) T.z_enumerate (pa_cons (pv 4) pa_nil)) (pg_tup rfl (pgs_cons (pg_name (i := 7) sc_row_stands.nd rfl (Or.inl rfl)) (pgs_cons (pg_name (i := 8) sc_row_stands.nd rfl (Or.inl rfl)) pgs_nil)))
        (pss_cons (ps_if (PW.pt (pw_or (pt_not (pt_val (pe_callB call_isi (by rfl) T.z_isinstance (by decide +kernel) (pa_cons (pv 8) (pa_cons (pe_bltn (v := V.ty "tuple") (by rfl) T.z_tuple (by decide +kernel) rfl) pa_nil))))) (pw_or1 (pt_cmpR (show OpR _ _ (Ind.rNinS K) from Ind.op_ninS (Ind.room65 hr)) (pv 8) (pe_call (ok_allowed T) (hr.mono (by decide)) (by rfl) T.g_allowed T.F_allowed.kp T.b_allowed .nil pass0 (pa_cons (pv 2) (pa_cons (pv 6) (pa_cons (pv 3) pa_nil)))) rfl))))
          (pss_one (ps_ret pe_bl))
          pss_nil)
        (pss_cons (ps_asg (pe_call (ok_step T) (hr.mono (by decide)) (by rfl) T.g_step T.F_step.kp T.b_step .nil pass0 (pa_cons (pv 1) (pa_cons (pv 2) (pa_cons (pv 6) (pa_cons (pv 8) pa_nil))))) (pg_tup rfl (pgs_cons (pg_name (i := 6) sc_row_stands.nd rfl (Or.inl rfl)) (pgs_cons (pg_name (i := 9) sc_row_stands.nd rfl (Or.inl rfl)) (pgs_cons (pg_name (i := 10) sc_row_stands.nd rfl (Or.inl rfl)) pgs_nil)))))
        (pss_cons (ps_set (i := 11) sc_row_stands.nd rfl (Or.inl rfl) (pe_ifExp (pt_cmpR op_eq (pe_ix ix_tup (pv 8) pe_int (fun _ _ => rfl)) pe_str (nomark _)) pe_int (pe_ix ix_tup (pv 9) pe_int (fun _ _ => rfl))))
        (pss_one (ps_if (PW.pt (pw_or (pt_cmpR op_ne (pv 10) (pe_cmpR op_eq (pv 7) (pe_op op_sub (pe_callB call_len_seq (by rfl) T.z_len PySem.boot_len (pa_cons (pv 4) pa_nil)) pe_int) (nomark _)) (nomark _)) (pw_or1 (pt_cmpR op_ne (pe_call (ok_played T) (hr.mono (by decide)) (by rfl) T.g_played T.F_played.kp T.b_played .nil pass0 (pa_cons (pv 5) (pa_cons (pv 8) pa_nil))) (pv 11) (nomark _)))))
          (pss_one (ps_ret pe_bl))
          pss_nil))))))
      (pss_one (ps_ret pe_bl))))), ?_⟩
    refine ⟨_, rfl, fun x dx hx hdx ne => ?_⟩
    have s2 := new2 (C := T.WC) hx hdx ne
    obtain ⟨dxr, fsr, _, _, _, _, hrp, _⟩ := id hR
    refine ⟨x, dx, rp, r, rfl, upd_same, (ne_new hrp hx).symm, hR.k s2, ok, fun H8 bu8 hW => ⟨rfl, ?_⟩⟩
    have s8 := made_same hx hdx ne bu8
    have hxH : H x = none := hx
    clear s2 bu8 hx hdx ne
    refine ⟨_, rfl, _, rfl, a, l, r, rfl, s8 _ _ ha, hl.k s8, ok, fun H9 sv s9 dsv => ⟨_, _, rfl, ?_⟩⟩
    have s09 := s8.trans s9
    have hW9 := hW.k s9
    refine ⟨_, rfl, .ref gq, .ty "tuple", .type "tuple", .type "tuple", true, rfl, .ty "tuple", tyT (sameT s09 hg), kit_ty (by decide +kernel), _, rfl, iteF ?_⟩
    refine ⟨_, rfl, by show 0 ≤ sizeLine; decide, fun g0 hg0 => ?_⟩
    have s10 := same_new (o := .tup []) hg0
    have s010 := s09.trans s10
    have fiT : Fine 2 (.tuple ((es ++ [e]).map evD)) := fine_tup (n := 1) fun d md => by
      obtain ⟨f, hf, rfl⟩ := List.mem_map.mp md
      exact fine_ev (nums f hf)
    refine ⟨.tuple ((es ++ [e]).map evD), .tuple [], .tup (sameT s010 hg) (dxs.ks s010).toDp, .tup (SqT.of upd_same) .nil, fiT.shaped (by decide), fine_nilT.shaped (by decide), _, rfl, iteN ?_ ?_⟩
    · cases h : (es ++ [e]).map evD with
      | nil => have := congrArg List.length h; rw [List.length_map, List.length_append] at this; simp at this
      | cons y ys => exact nil_ne
    have hW10 := hW9.k s10
    have dsv10 := dsv.ks s10
    generalize upd H9 g0 (.tup []) = H10 at s010 hW10 dsv10 ⊢
    refine ⟨_, rfl, gq, xs, rfl, sameT s010 hg, ?_⟩
    refine for_it Es.walk_ent (fun j σ A => (∃ (sv : V) (v7 v8 v9 v10 v11 : Option V), σ = [some (.ref rp), some (.ref a), some (.ref l), some (.int (m : Nat)), some (.ref gq), some (.ref x), some sv, v7, v8, v9, v10, v11] ∧ (j ≤ es.length → ∃ s, Dt K A sv (sdD s) ∧ WatchAt K T.WC A x rp s ∧ okRow r m (startS r) (es.take j) = some s)) ∧ Same H A ∧ RoomAt K T.RC T.CC A rp r)
      ⟨⟨sv, _, _, _, _, _, rfl, fun _ => ⟨startS r, dsv10, hW10, rfl⟩⟩, s010, hR.k s010⟩ (fun j σ B _ h => sameT h.2.1 hg) (fun j y σ A A' hj hP hY => ?_) (fun σ A hP => ?_)
    · obtain ⟨⟨sv, v7, v8, v9, v10, v11, rfl, st⟩, sA, hRA⟩ := hP
      obtain ⟨tp, x1, x2, rfl, htp, rfl, e1, e2⟩ := hY
      cases e1
      have e2 : xs[j]? = some x2 := e2
      have hj : j < xs.length := hj
      obtain ⟨s, dS, hWA, hro⟩ := st (by omega)
      obtain ⟨d, ed, de⟩ := dxs.at e2
      rw [List.getElem?_map] at ed
      obtain ⟨f, ef, rfl⟩ := Option.map_eq_some_iff.mp ed
      have IR := (okRow_num ok (InR.start ok m) hro).1
      have key : f ∈ alF r s.gr m ∧ shortE r s f = decide (j = es.length) ∧ (j + 1 ≤ es.length → okRow r m (startS r) (es.take (j + 1)) = some (stepE r s f)) := by
        by_cases c : j < es.length
        · have ej : es[j]? = some f := by rw [List.getElem?_append_left c] at ef; exact ef
          have := okRow_at hrow ej hro
          exact ⟨this.1, by rw [this.2.1, decide_eq_false (by omega)], fun _ => this.2.2⟩
        · have ej : j = es.length := by omega
          subst ej
          rw [List.getElem?_append_right (Nat.le_refl _), Nat.sub_self] at ef
          cases ef
          rw [List.take_length, hrow] at hro
          cases hro
          exact ⟨hal, by rw [hsh, decide_eq_true rfl], fun z => by omega⟩
      obtain ⟨hf, sh, nx⟩ := key
      obtain ⟨i2, c, AE⟩ := al_mem ok IR.ok hf
      refine ⟨tp, _, rfl, SqT.of upd_same, rfl, _, _, rfl, _, _, rfl, rfl, ?_⟩
      have sT := same_new (o := .tup [.int (j : Nat), x2]) htp
      have sB := sA.trans sT
      have dS := dS.ks sT
      have hWB := hWA.k sT
      have hRB := hRA.k sT
      generalize upd A tp (.tup [.int (j : Nat), x2]) = B at sB dS hWB hRB ⊢
      have de := de.ks sB
      obtain ⟨eq, y1, y2, rfl, heq, d1, d2⟩ := dt_two de
      obtain rfl := d1.str_inv
      obtain rfl := d2.str_inv
      refine ⟨_, rfl, .ref eq, .ty "tuple", .type "tuple", .type "tuple", true, rfl, .ty "tuple", tyT heq, kit_ty (by decide +kernel), _, rfl, iteF ?_⟩
      refine ⟨_, rfl, _, rfl, _, rfl, _, rfl, l, sv, r, s, m, rfl, hl.k sB, dS, ok, IR.ok, fun B2 q us s2 hq dq _ => ?_⟩
      have sC := sB.trans s2
      have fd := fine_ev (al_num ok AE)
      refine ⟨evD f, (alF r s.gr m).map evD, false, (de.ks s2).toDp, .lst (SqL.of hq) dq.toDp, fd.1, Nat.le_trans fd.2 (by decide), canall ok IR.ok, _, rfl, ?_⟩
      rw [find_any, find_al hf]
      refine iteF ?_
      have O := stepO AE
      refine ⟨_, rfl, _, rfl, _, rfl, _, rfl, a, l, sv, .str (numS f.2), eq, r, s, f.1, _, some i2, rfl, sC _ _ ha, hl.k sC, ok, dS.ks s2, IR.ok, sameT s2 heq, ob_num (al_num ok AE), O.1, O.2.2.2, fun B4 q2 t1 t2 b2 s4 hq2 d1 d2 eb => ?_⟩
      rw [O.2.1] at d1
      rw [O.2.2.1] at d2 eb
      have eb : b2 = shortE r s f := eb
      have sD := sC.trans s4
      have s24 := s2.trans s4
      have heq4 := sameT s24 heq
      refine ⟨q2, _, rfl, SqT.of hq2, rfl, _, _, rfl, _, _, rfl, _, _, rfl, rfl, ?_⟩
      refine ⟨_, rfl, eq, _, 0, _, rfl, rfl, heq4, atI_nat (j := 0) rfl, rfl, _, rfl, ?_⟩
      rw [wd_back]
      by_cases cb : f.1 = .back
      · have sh0 : shN (tellE r s f) = 0 := by
          rw [AE.step.2, cb]
          unfold stepT
          rw [AE.hc]
          rfl
        refine iteY (decide_eq_true cb) ?_
        refine ⟨_, rfl, _, rfl, _, rfl, gq, xs, rfl, .inr (sameT sD hg), _, _, rfl, rfl, rfl, rfl, _, rfl, iteN ?_ ?_⟩
        · rw [eb, sh]
          have e1 : decide (V.int ((j : Nat) : Int) = V.int (((xs.length : Nat) : Int) - 1)) = decide (j = es.length) := by
            by_cases c : j = es.length
            · rw [decide_eq_true c, decide_eq_true (congrArg V.int (by omega))]
            · rw [decide_eq_false c, decide_eq_false (fun z => by have z := V.int.inj z; omega)]
          (try dsimp only)
          rw [e1]
          simp
        refine ⟨_, rfl, _, rfl, x, rp, r, m, s, .ref eq, f, rfl, hWB.k s24, hRB.k s24, ok, IR, de.ks s24, hf, fun H' bu hW' => ⟨_, rfl, rfl, _, rfl, iteN (by simp [sh0]) ?_⟩⟩
        have kt : Kt K B4 H' := by
          obtain ⟨_, _, _, hx4, _⟩ := hWB.k s24
          exact bu.kt hx4 (fun _ e => by cases e) (fun _ _ e => by cases e)
        exact ⟨⟨t1, _, _, _, _, _, rfl, fun hle => ⟨stepE r s f, d1.k kt, hW', nx hle⟩⟩, fun q o e => bu q o (fun z => by rw [z, hxH] at e; cases e) (sD q o e), (hRB.k s24).wt (hWB.k s24) bu⟩
      · obtain ⟨q, a1, b1, c1, rfl, hq3⟩ := told_three AE cb d2
        refine iteN (decide_eq_false cb) ⟨_, rfl, q, _, 3, _, rfl, rfl, hq3, atI_nat (j := 3) rfl, ?_⟩
        refine ⟨_, rfl, _, rfl, _, rfl, gq, xs, rfl, .inr (sameT sD hg), _, _, rfl, rfl, rfl, rfl, _, rfl, iteN ?_ ?_⟩
        · rw [eb, sh]
          have e1 : decide (V.int ((j : Nat) : Int) = V.int (((xs.length : Nat) : Int) - 1)) = decide (j = es.length) := by
            by_cases c : j = es.length
            · rw [decide_eq_true c, decide_eq_true (congrArg V.int (by omega))]
            · rw [decide_eq_false c, decide_eq_false (fun z => by have z := V.int.inj z; omega)]
          (try dsimp only)
          rw [e1]
          simp
        refine ⟨_, rfl, _, rfl, x, rp, r, m, s, .ref eq, f, rfl, hWB.k s24, hRB.k s24, ok, IR, de.ks s24, hf, fun H' bu hW' => ⟨_, rfl, rfl, _, rfl, iteN (by simp) ?_⟩⟩
        have kt : Kt K B4 H' := by
          obtain ⟨_, _, _, hx4, _⟩ := hWB.k s24
          exact bu.kt hx4 (fun _ e => by cases e) (fun _ _ e => by cases e)
        exact ⟨⟨t1, _, _, _, _, _, rfl, fun hle => ⟨stepE r s f, d1.k kt, hW', nx hle⟩⟩, fun q o e => bu q o (fun z => by rw [z, hxH] at e; cases e) (sD q o e), (hRB.k s24).wt (hWB.k s24) bu⟩
    · exact k _ hP.2.1
end
end K57

namespace K57
open PySem L2 Wm TL Dv
section
variable {P : Program} {w : World} {K : PySem.W.Frag} {mg : Str → Option Value} {base : Heap}
def sp_stays (K : PySem.W.Frag) (CC RC WC : Addr) : Sp := fun vs H Q _ => ∃ (b rp a l gq : Addr) (r : Rm) (m : Nat) (xs : List V) (met : List Sd) (src : List (Option (Nat × Ev))), vs = [.ref b, .ref rp, .ref a, .ref l, .int (m : Nat), .ref gq] ∧ Bk H b ∧ RoomAt K RC CC H rp r ∧ RmOk r ∧ r.cs ≠ [] ∧ 1 ≤ m ∧ a ≠ b ∧ l ≠ b ∧ H a = some (.lst (nV r.st)) ∧ LC K H l r.cs ∧ SqT K H gq xs ∧ Dts K H xs (met.map sdD) ∧ Good r m met src ∧ Closed r m met met.length ∧
  ∀ H', Bu b H H' → Bk H' b → Q (.bl true) H'
theorem canall_sd {r : Rm} {m : Nat} (ok : RmOk r) : ∀ {met : List Sd}, (∀ s ∈ met, InR r m s) → PyData.canLayAll0 (met.map sdD) = true
  | [], _ => rfl
  | s :: met, h => by
    rw [List.map_cons]
    show ((sdD s).canLay0 && PyData.canLayAll0 (met.map sdD)) = true
    rw [(sh_sd ok (h s List.mem_cons_self).ok).lay, canall_sd ok fun t m => h t (List.mem_cons_of_mem _ m)]
    rfl
theorem room1 {RC CC b rp : Addr} {H H' : Hp} {r : Rm} (h : RoomAt K RC CC H rp r) (hb : Bk H b) (s : Bu b H H') : RoomAt K RC CC H' rp r := let ⟨_, _, e, _⟩ := hb; h.lst e s
theorem watch1 {WC b p rp : Addr} {H H' : Hp} {s : Sd} (h : WatchAt K WC H p rp s) (hb : Bk H b) (bu : Bu b H H') : WatchAt K WC H' p rp s := by
  obtain ⟨dx, fs, v, a, c, d, e, f, g⟩ := h
  have kt : Kt K H H' := hb.kt bu
  obtain ⟨x, y, eb, _⟩ := hb
  exact ⟨dx, fs, v, bu _ _ (fun z => by rw [z, eb] at a; cases a) a, c, d, e, f.k kt, g⟩
theorem ne_some {H : Hp} {p q : Addr} {o : HO} (h : H p = some o) (f : H q = none) : q ≠ p := fun z => by rw [z, h] at f; cases f
theorem any_sd {r : Rm} {m : Nat} (ok : RmOk r) {met : List Sd} (h : ∀ s ∈ met, InR r m s) {s : Sd} (hs : s ∈ met) : ((met.map sdD).any fun z => PyData.eqv z (sdD s)) = true := by
  rw [List.any_eq_true]
  refine ⟨sdD s, List.mem_map.mpr ⟨s, hs, rfl⟩, ?_⟩
  exact SeqAt.eqv_refl _ (sh_sd ok (h s hs).ok).lay
theorem ok_stays (T : Txt K mg) : FnOk P w K mg base CX0 9 T.a_stays T.d_stays ["_law_bag_here", "_law_room_here", "_law_stations", "_law_cards_here", "_law_most_open", "_law_table"] (sp_stays K T.CC T.RC T.WC) := by
  refine T.F_stays.ok sc_stays (fun vs H Q E h => ?_) (fun cdv A outer s H vs Q E hr h => ?_)
  · obtain ⟨b, rp, a, l, gq, r, m, xs, met, src, rfl, _⟩ := h
    rfl
  · obtain ⟨b, rp, a, l, gq, r, m, xs, met, src, rfl, hb, hR, ok, cne, m1, nab, nlb, ha, hl, hg, dxs, G, Cl, k⟩ := h
    refine ⟨_, (pss_cons (ps_par (i := 6) (j := 7) rfl sc_stays.nd rfl rfl (by decide) rfl rfl (pa_cons (pe_make T.mk_winit (ok_winit T) (hr.mono (by decide)) (by rfl) T.gWC T.b_winit .nil pass0 (pa_cons (pv 1) pa_nil)) (pa_cons (pe_call (ok_start T) (hr.mono (by decide)) (by rfl) T.g_start T.F_start.kp T.b_start .nil pass0 (pa_cons (pv 2) (pa_cons (pv 3) pa_nil))) pa_nil)) rfl)
      (pss_cons (ps_for PassesOwn.never rfl (pi_range1 (by rfl) T.z_range (pa_cons pe_int pa_nil)) (pg_name (i := 8) sc_stays.nd rfl (Or.inl rfl))
        (pss_cons (ps_set (i := 9) sc_stays.nd rfl (Or.inl rfl) (pe_call (ok_allowed T) (hr.mono (by decide)) (by rfl) T.g_allowed T.F_allowed.kp T.b_allowed .nil pass0 (pa_cons (pv 3) (pa_cons (pv 7) (pa_cons (pv 4) pa_nil)))))
        (pss_cons (ps_if (pt_cmpR (op_eqD hr.units) (pv 9) (pe_lst pa_nil) (nomark _))
          (pss_one (ps_ret pe_bl))
          pss_nil)
        (pss_cons (ps_set (i := 10) sc_stays.nd rfl (Or.inl rfl) (pe_call (ok_of T) (hr.mono (by decide)) (by rfl) T.g_of T.F_of.kp T.b_of .nil pass0 (pa_cons (pv 0) (pa_cons (pv 9) pa_nil))))
        (pss_cons (ps_if (PW.pt (pw_or (pt_cmpR op_ne (pe_call (ok_played T) (hr.mono (by decide)) (by rfl) T.g_played T.F_played.kp T.b_played .nil pass0 (pa_cons (pv 6) (pa_cons (pv 10) pa_nil))) pe_int (nomark _)) (pw_or1 (pt_cmpR (show OpR _ _ (Ind.rNinS K) from Ind.op_ninS (Ind.room65 hr)) (pe_prop (pv 6) T.clWC T.pr (ok_wstanding T) (hr.mono (by decide)) T.b_wstanding .nil pass0 rfl) (pv 5) rfl))))
          (pss_one (ps_ret pe_bl))
          pss_nil)
        (pss_one (ps_set (i := 7) sc_stays.nd rfl (Or.inl rfl) (pe_prop (pv 6) T.clWC T.pr (ok_wstanding T) (hr.mono (by decide)) T.b_wstanding .nil pass0 rfl))))))))
      (pss_one (ps_ret pe_bl)))), ?_⟩
    refine ⟨_, rfl, fun x dx hx hdx ne => ?_⟩
    have s2 := new2 (C := T.WC) hx hdx ne
    obtain ⟨dxr, fsr, _, _, _, _, hrp, _⟩ := id hR
    refine ⟨x, dx, rp, r, rfl, upd_same, (ne_new hrp hx).symm, hR.k s2, ok, fun H8 bu8 hW => ⟨rfl, ?_⟩⟩
    have s8 := made_same hx hdx ne bu8
    have hxH : H x = none := hx
    clear s2 bu8 hx hdx ne
    refine ⟨_, rfl, _, rfl, a, l, r, rfl, s8 _ _ ha, hl.k s8, ok, fun H9 sv s9 dsv => ⟨_, _, rfl, ?_⟩⟩
    have s09 := s8.trans s9
    refine ⟨_, rfl, by decide, by decide, ?_⟩
    refine for_range (fun i σ A => ∃ (sv : V) (s : Sd) (v8 v9 v10 : Option V), σ = [some (.ref b), some (.ref rp), some (.ref a), some (.ref l), some (.int (m : Nat)), some (.ref gq), some (.ref x), some sv, v8, v9, v10] ∧ Bu b H A ∧ Bk A b ∧ Dt K A sv (sdD s) ∧ WatchAt K T.WC A x rp s ∧ RoomAt K T.RC T.CC A rp r ∧ s ∈ met)
      ⟨sv, startS r, _, _, _, rfl, Bu.of s09, hb.k s09, dsv, hW.k s9, hR.k s09, List.mem_of_getElem? G.s0⟩ (fun i σ A hi hP => ?_) (fun σ A hP => ?_)
    · obtain ⟨sv, s, v8, v9, v10, rfl, buA, hbA, dS, hWA, hRA, hm⟩ := hP
      have IR := G.inr s hm
      have ktA : Kt K H A := hb.kt buA
      have hlA := hl.bu ktA buA nlb
      refine ⟨_, rfl, _, rfl, _, rfl, l, sv, r, s, m, rfl, hlA, dS, ok, IR.ok, fun B2 qr us sB hqr dq l18 => ?_⟩
      have lu := dq.len
      rw [List.length_map] at lu
      have ane := al_ne IR.ok cne m1
      refine ⟨_, rfl, by show 0 ≤ sizeLine; decide, fun g0 hg0 => ?_⟩
      have s3 := same_new (o := .lst []) hg0
      have sC := sB.trans s3
      have fiT : Fine 2 (.list ((alF r s.gr m).map evD)) := fine_lst (n := 1) fun d md => by
        obtain ⟨f, hf, rfl⟩ := List.mem_map.mp md
        obtain ⟨i4, c4, A4⟩ := al_mem ok IR.ok hf
        exact fine_ev (al_num ok A4)
      refine ⟨.list ((alF r s.gr m).map evD), .list [], .lst (SqL.of (s3 _ _ hqr)) (dq.ks s3).toDp, .lst (SqL.of upd_same) .nil, fiT.shaped (by decide), fine_nilL.shaped (by decide), _, rfl, iteN ?_ ?_⟩
      · cases h : (alF r s.gr m).map evD with
        | nil => exact absurd (List.map_eq_nil_iff.mp h) ane
        | cons y ys => exact nil_neL
      have hqr := s3 _ _ hqr
      have dq := dq.ks s3
      generalize upd B2 g0 (.lst []) = C at sC hqr dq ⊢
      have hbC := hbA.k sC
      have nqr : qr ≠ b := ref_ne hqr dq hbC
      have une : us ≠ [] := fun z => ane (by have z2 := congrArg List.length z; rw [lu] at z2; exact List.length_eq_zero_iff.mp z2)
      refine ⟨_, rfl, _, rfl, b, qr, us, rfl, hbC, nqr, hqr, une, by omega, fun B3 v hv bu3 hb3 => ?_⟩
      obtain ⟨j, hj⟩ := List.mem_iff_getElem?.mp hv
      obtain ⟨d, ed, de⟩ := dq.at hj
      rw [List.getElem?_map] at ed
      obtain ⟨e, ee, rfl⟩ := Option.map_eq_some_iff.mp ed
      have hal := List.mem_of_getElem? ee
      obtain ⟨n, hn⟩ := List.mem_iff_getElem?.mp hm
      have cl := Cl n s (List.getElem?_eq_some_iff.mp hn).1 hn e hal
      have sh0 : shN (tellE r s e) = 0 := by
        have := of_decide_eq_false cl.1
        omega
      have kt3 : Kt K C B3 := hbC.kt bu3
      have hW3 := watch1 (hWA.k sC) hbC bu3
      have hR3 := room1 (hRA.k sC) hbC bu3
      refine ⟨_, rfl, _, rfl, x, rp, r, m, s, v, e, rfl, hW3, hR3, ok, IR, de.k kt3, hal, fun H' bu hW' => ⟨rfl, _, rfl, iteN (by simp [sh0]) ?_⟩⟩
      have hR' := hR3.wt hW3 bu
      have buH : Bu b H H' := fun q o nq e => bu q o (fun z => by rw [z, hxH] at e; cases e) (bu3 q o nq (sC q o (buA q o nq e)))
      have hb' : Bk H' b := by
        obtain ⟨x1, y1, e1, r1⟩ := hb3
        obtain ⟨_, _, _, hx3, _⟩ := hW3
        exact ⟨x1, y1, bu _ _ (fun z => by rw [z, hx3] at e1; cases e1) e1, r1⟩
      have ktH : Kt K H H' := hb.kt buH
      obtain ⟨dx4, fs4, v4, hx4, _, _, _, dv4, lw4⟩ := id hW'
      have sn := sh_sd ok (G.inr _ cl.2).ok
      refine ⟨_, rfl, x, dx4, fs4, rfl, hx4, x, rp, _, rfl, hW', fun u1 du1 => ?_⟩
      refine ⟨_, rfl, sdD (stepE r s e), met.map sdD, true, du1.toDp, .tup (ktH _ _ hg) (dxs.k ktH).toDp, sn.lay, Nat.le_trans sn.dp (by decide), canall_sd ok G.inr, _, rfl, iteN ?_ ?_⟩
      · rw [any_sd ok G.inr cl.2]; rfl
      refine ⟨_, rfl, x, dx4, fs4, rfl, hx4, x, rp, _, rfl, hW', fun u2 du2 => ?_⟩
      exact ⟨u2, _, _, _, _, rfl, buH, hb', du2, hW', hR', cl.2⟩
    · obtain ⟨sv, s, v8, v9, v10, rfl, buA, hbA, _⟩ := hP
      exact k _ buA hbA
end
end K57

namespace K57
open PySem L2 Wm TL Dv
section
variable {P : Program} {w : World} {K : PySem.W.Frag} {mg : Str → Option Value} {base : Heap}
instance : DecidableEq Sd := fun a b => if h : a.pl = b.pl ∧ a.gr = b.gr then isTrue (by cases a; cases b; simp only [Sd.mk.injEq]; exact h) else isFalse (fun z => h (by rw [z]; exact ⟨rfl, rfl⟩))
/-- what is known of the standings of a table -/
def Kn (f : Sd → Bool) (met : List Sd) : List (Key × V) := met.map fun s => (Sum.inr (PyData.shown (sdD s)), V.bl (f s))
theorem kn_val {r : Rm} {f : Sd → Bool} : ∀ {met : List Sd} {s : Sd}, (∀ t ∈ met, SdOk r t) → SdOk r s → valV (Kn f met) (Sum.inr (PyData.shown (sdD s))) = if s ∈ met then some (.bl (f s)) else none
  | [], s, _, _ => rfl
  | t :: met, s, h, hs => by
    have ih := kn_val (f := f) (met := met) (fun t m => h t (List.mem_cons_of_mem _ m)) hs
    unfold valV Kn at ih ⊢
    rw [List.map_cons, List.find?_cons]
    by_cases c : t = s
    · subst c
      rw [decide_eq_true rfl, if_pos List.mem_cons_self]
      rfl
    · rw [decide_eq_false (fun z => c (shown_inj (h t List.mem_cons_self) hs (Sum.inr.inj z)))]
      refine Eq.trans ih ?_
      by_cases m : s ∈ met
      · rw [if_pos m, if_pos (List.mem_cons_of_mem _ m)]
      · rw [if_neg m, if_neg (fun z => by rcases List.mem_cons.mp z with z | z; exact c z.symm; exact m z)]
theorem kn_any {r : Rm} {f : Sd → Bool} {met : List Sd} {s : Sd} (h : ∀ t ∈ met, SdOk r t) (hs : SdOk r s) : ((Kn f met).any fun kv => decide (kv.1 = Sum.inr (PyData.shown (sdD s)))) = decide (s ∈ met) := by
  have := kn_val (f := f) h hs
  unfold valV at this
  by_cases m : s ∈ met
  · rw [decide_eq_true m, List.any_eq_true]
    exact ⟨_, List.mem_map.mpr ⟨s, m, rfl⟩, decide_eq_true rfl⟩
  · rw [decide_eq_false m, List.any_eq_false]
    intro kv hkv z
    obtain ⟨t, ht, rfl⟩ := List.mem_map.mp hkv
    have z := of_decide_eq_true z
    exact m (by rw [← shown_inj (h t ht) hs (Sum.inr.inj z)]; exact ht)
theorem kn_new {r : Rm} {f : Sd → Bool} {met : List Sd} {s : Sd} (h : ∀ t ∈ met, SdOk r t) (hs : SdOk r s) (n : s ∉ met) (ff : f s = false) : putK (Kn f met) (Sum.inr (PyData.shown (sdD s))) (.bl false) = Kn f (met ++ [s]) := by
  unfold putK
  rw [kn_any h hs, decide_eq_false n, if_neg (by decide)]
  unfold Kn
  rw [List.map_append, ← ff]
  rfl
def up (f : Sd → Bool) (s : Sd) : Sd → Bool := fun t => decide (t.pl = s.pl ∧ t.gr = s.gr) || f t
theorem up_self (f : Sd → Bool) (s : Sd) : up f s s = true := by
  unfold up
  rw [decide_eq_true ⟨rfl, rfl⟩]
  rfl
theorem up_keep {f : Sd → Bool} {s t : Sd} (h : f t = true) : up f s t = true := by
  unfold up
  rw [h, Bool.or_true]
theorem up_ne {f : Sd → Bool} {s t : Sd} (h : t ≠ s) : up f s t = f t := by
  unfold up
  rw [decide_eq_false (fun z => h (by cases s; cases t; simp only [Sd.mk.injEq]; exact z))]
  rfl
theorem kn_put {r : Rm} {f : Sd → Bool} {met : List Sd} {s : Sd} (h : ∀ t ∈ met, SdOk r t) (hs : SdOk r s) (m : s ∈ met) : putK (Kn f met) (Sum.inr (PyData.shown (sdD s))) (.bl true) = Kn (up f s) met := by
  unfold putK
  rw [kn_any h hs, decide_eq_true m, if_pos rfl]
  unfold Kn
  rw [List.map_map]
  refine List.map_congr_left fun t ht => ?_
  show (if Sum.inr (PyData.shown (sdD t)) = (Sum.inr (PyData.shown (sdD s)) : Key) then _ else _) = _
  by_cases c : t = s
  · subst c
    rw [if_pos rfl, up_self]
  · rw [if_neg (fun z => c (shown_inj (h t ht) hs (Sum.inr.inj z))), up_ne c]
theorem sd_shows {r : Rm} {s : Sd} (ok : RmOk r) (so : SdOk r s) : Shows (sdD s) := (sh_sd ok so).shows (by decide) (by decide)
def sp_table_stands (K : PySem.W.Frag) : Sp := fun vs H Q _ => ∃ (a l gq : Addr) (r : Rm) (m : Nat) (xs : List V) (met : List Sd) (src : List (Option (Nat × Ev))), vs = [.ref a, .ref l, .int (m : Nat), .ref gq] ∧ RmOk r ∧ H a = some (.lst (nV r.st)) ∧ LC K H l r.cs ∧ SqT K H gq xs ∧ Dts K H xs (met.map sdD) ∧ met.Nodup ∧ Good r m met src ∧ Closed r m met met.length ∧ met.length ≤ 3000 ∧
  ∀ H', Same H H' → Q (.bl true) H'
theorem len_kn (f : Sd → Bool) (met : List Sd) : (Kn f met).length = met.length := List.length_map _
theorem ok_table_stands (T : Txt K mg) : Rp.GOk P w K mg base CX0 4 T.a_table_stands T.d_table_stands ["_law_stations", "_law_cards_here", "_law_most_open", "_law_table"] (sp_table_stands K) := by
  refine Rp.gok T.F_table_stands sc_table_stands (fun vs H Q E h => ?_) (fun cdv A outer s H vs Q E hg hr h => ?_)
  · obtain ⟨a, l, gq, r, m, xs, met, src, rfl, _⟩ := h
    rfl
  · obtain ⟨a, l, gq, r, m, xs, met, src, rfl, ok, ha, hl, hT, dxs, nd, G, Cl, l3, k⟩ := h
    have lx := dxs.len
    rw [List.length_map] at lx
    have so : ∀ t ∈ met, SdOk r t := fun t ht => (G.inr t ht).ok
    have l0 : 0 < met.length := (List.getElem?_eq_some_iff.mp G.s0).1
    refine ⟨_, (pss_cons (ps_if (PW.pt (pw_or (pt_not (pt_val (pe_callB call_isi (by rfl) T.z_isinstance (by decide +kernel) (pa_cons (pv 3) (pa_cons (pe_bltn (v := V.ty "tuple") (by rfl) T.z_tuple (by decide +kernel) rfl) pa_nil))))) (pw_or1 (pt_cmpR (op_eqD hr.units) (pv 3) (pe_tup pa_nil) (nomark _)))))
        (pss_one (ps_ret pe_bl))
        pss_nil)
      (pss_cons (ps_par (i := 4) (j := 5) rfl sc_table_stands.nd rfl rfl (by decide) rfl rfl (pa_cons pe_dnewK (pa_cons (pe_call (ok_start T) (hr.mono (by decide)) (by rfl) T.g_start T.F_start.kp T.b_start .nil pass0 (pa_cons (pv 0) (pa_cons (pv 1) pa_nil))) pa_nil)) rfl)
      (pss_cons (ps_for PassesOwn.never rfl (pi_tup (pv 3)) (pg_name (i := 6) sc_table_stands.nd rfl (Or.inl rfl))
        (pss_cons (ps_if (pt_cmp (pc_din (Nat.lt_of_le_of_lt (Nat.add_le_add_left (by decide : 1 ≤ 64) _) hr.units) (pe_callB (show CallR _ _ (Rp.rRepr K) from Rp.call_reprD hg hr.units) (by rfl) T.z_repr (by decide +kernel) (pa_cons (pv 6) pa_nil)) (pv 4)))
          (pss_one (ps_ret pe_bl))
          pss_nil)
        (pss_one (ps_dput (Nat.lt_of_le_of_lt (Nat.add_le_add_left (by decide : 1 ≤ 64) _) hr.units) (pv 4) (pe_callB (show CallR _ _ (Rp.rRepr K) from Rp.call_reprD hg hr.units) (by rfl) T.z_repr (by decide +kernel) (pa_cons (pv 6) pa_nil)) pe_bl rfl))))
      (pss_cons (ps_if (pt_cmpR op_ne (pe_callB (show CallR _ _ (Rp.rRepr K) from Rp.call_reprD hg hr.units) (by rfl) T.z_repr (by decide +kernel) (pa_cons (pe_ix ix_tup (pv 3) pe_int (fun _ _ => rfl)) pa_nil)) (pe_callB (show CallR _ _ (Rp.rRepr K) from Rp.call_reprD hg hr.units) (by rfl) T.z_repr (by decide +kernel) (pa_cons (pv 5) pa_nil)) (nomark _))
        (pss_one (ps_ret pe_bl))
        pss_nil)
      (pss_cons (ps_dput (Nat.lt_of_le_of_lt (Nat.add_le_add_left (by decide : 1 ≤ 64) _) hr.units) (pv 4) (pe_callB (show CallR _ _ (Rp.rRepr K) from Rp.call_reprD hg hr.units) (by rfl) T.z_repr (by decide +kernel) (pa_cons (pv 5) pa_nil)) pe_bl rfl)
      (pss_cons (ps_for PassesOwn.never rfl (pi_tup (pv 3)) (pg_name (i := 6) sc_table_stands.nd rfl (Or.inl rfl))
        (pss_cons (ps_if (pt_not (pt_val (pe_dget (Nat.lt_of_le_of_lt (Nat.add_le_add_left (by decide : 1 ≤ 64) _) hr.units) (pv 4) (pe_callB (show CallR _ _ (Rp.rRepr K) from Rp.call_reprD hg hr.units) (by rfl) T.z_repr (by decide +kernel) (pa_cons (pv 6) pa_nil)) (fun _ _ => rfl))))
          (pss_one (ps_ret pe_bl))
          pss_nil)
        (pss_one (ps_for PassesOwn.never rfl (pi_list (pe_call (ok_allowed T) (hr.mono (by decide)) (by rfl) T.g_allowed T.F_allowed.kp T.b_allowed .nil pass0 (pa_cons (pv 1) (pa_cons (pv 6) (pa_cons (pv 2) pa_nil))))) (pg_name (i := 7) sc_table_stands.nd rfl (Or.inl rfl))
          (pss_cons (ps_asg (pe_call (ok_step T) (hr.mono (by decide)) (by rfl) T.g_step T.F_step.kp T.b_step .nil pass0 (pa_cons (pv 0) (pa_cons (pv 1) (pa_cons (pv 6) (pa_cons (pv 7) pa_nil))))) (pg_tup rfl (pgs_cons (pg_name (i := 8) sc_table_stands.nd rfl (Or.inl rfl)) (pgs_cons (pg_name (i := 9) sc_table_stands.nd rfl (Or.inl rfl)) (pgs_cons (pg_name (i := 10) sc_table_stands.nd rfl (Or.inl rfl)) pgs_nil)))))
          (pss_cons (ps_if (PW.pt (pw_or (pt_val (pv 10)) (pw_or1 (pt_cmp (pc_dnotin (Nat.lt_of_le_of_lt (Nat.add_le_add_left (by decide : 1 ≤ 64) _) hr.units) (pe_callB (show CallR _ _ (Rp.rRepr K) from Rp.call_reprD hg hr.units) (by rfl) T.z_repr (by decide +kernel) (pa_cons (pv 8) pa_nil)) (pv 4))))))
            (pss_one (ps_ret pe_bl))
            pss_nil)
          (pss_one (ps_dput (Nat.lt_of_le_of_lt (Nat.add_le_add_left (by decide : 1 ≤ 64) _) hr.units) (pv 4) (pe_callB (show CallR _ _ (Rp.rRepr K) from Rp.call_reprD hg hr.units) (by rfl) T.z_repr (by decide +kernel) (pa_cons (pv 8) pa_nil)) pe_bl rfl))))))))
      (pss_one (ps_ret pe_bl)))))))), ?_⟩
    refine ⟨_, rfl, .ref gq, .ty "tuple", .type "tuple", .type "tuple", true, rfl, .ty "tuple", tyT hT, kit_ty (by decide +kernel), _, rfl, iteF ?_⟩
    refine ⟨_, rfl, by show 0 ≤ sizeLine; decide, fun g0 hg0 => ?_⟩
    have s1 := same_new (o := .tup []) hg0
    have fiT : Fine 4 (.tuple (met.map sdD)) := fine_tup (n := 3) fun d md => by
      obtain ⟨t, ht, rfl⟩ := List.mem_map.mp md
      have := sh_sd ok (so t ht)
      exact ⟨this.lay, this.dp⟩
    refine ⟨.tuple (met.map sdD), .tuple [], .tup (sameT s1 hT) (dxs.ks s1).toDp, .tup (SqT.of upd_same) .nil, fiT.shaped (by decide), fine_nilT.shaped (by decide), _, rfl, iteN ?_ ?_⟩
    · cases h : met.map sdD with
      | nil => have := congrArg List.length h; rw [List.length_map] at this; exact absurd this (by show met.length ≠ 0; omega)
      | cons y ys => exact nil_ne
    generalize upd H g0 (.tup []) = H1 at s1 ⊢
    refine fun dk hdk => ?_
    have s2 := same_new (o := .dK []) hdk
    have hd2 : upd H1 dk (.dK []) dk = some (.dK []) := upd_same
    have ndH : H dk = none := none_of s1 hdk
    have s12 := s1.trans s2
    generalize upd H1 dk (.dK []) = H2 at s12 hd2 ⊢
    refine ⟨_, rfl, _, rfl, a, l, r, rfl, s12 _ _ ha, hl.k s12, ok, fun H3 sv s3 dsv => ⟨_, _, rfl, ?_⟩⟩
    have s13 := s12.trans s3
    have hd3 := s3 _ _ hd2
    refine ⟨_, rfl, gq, rfl, ⟨_, sameT s13 hT⟩, ?_⟩
    have get : ∀ {C : Hp} {j : Nat} {v : V}, Same H C → xs[j]? = some v → ∃ s, met[j]? = some s ∧ Dt K C v (sdD s) := fun sC hv => by
      obtain ⟨d, ed, dv⟩ := dxs.at hv
      rw [List.getElem?_map] at ed
      obtain ⟨s, es, rfl⟩ := Option.map_eq_some_iff.mp ed
      exact ⟨s, es, dv.ks sC⟩
    refine for_it (walk_tup (xs := xs)) (fun j σ A => ∃ (v6 v7 v8 v9 v10 : Option V), σ = [some (.ref a), some (.ref l), some (.int (m : Nat)), some (.ref gq), some (.ref dk), some sv, v6, v7, v8, v9, v10] ∧ Same H A ∧ Dt K A sv (sdD (startS r)) ∧ A dk = some (.dK (Kn (fun _ => false) (met.take j))))
      ⟨_, _, _, _, _, rfl, s13, dsv, hd3⟩ (fun j σ B _ h => by obtain ⟨_, _, _, _, _, _, sB, _⟩ := h; exact sameT sB hT) (fun j v σ A A' hj hP hY => ?_) (fun σ A hP => ?_)
    · obtain ⟨v6, v7, v8, v9, v10, rfl, sA, dA, hdA⟩ := hP
      obtain ⟨rfl, hv⟩ := hY
      obtain ⟨s, es, dv⟩ := get sA hv
      have hm := List.mem_of_getElem? es
      have S := sd_shows ok (so s hm)
      have sot : ∀ t ∈ met.take j, SdOk r t := fun t ht => so t (List.mem_of_mem_take ht)
      have nin : s ∉ met.take j := fun z => by
        have h1 : met = met.take j ++ s :: met.drop (j + 1) := by rw [← drop_at es, List.take_append_drop]
        rw [h1, List.nodup_append] at nd
        exact nd.2.2 s z s List.mem_cons_self rfl
      refine ⟨_, rfl, v, _, rfl, dv.toDp, S.sh, S.nd, S.dep, S.fit, _, rfl, dk, _, rfl, DGet.k (k := Sum.inr (PyData.shown (sdD s))) hdA, _, rfl, iteN ?_ ?_⟩
      · rw [kn_val sot (so s hm), if_neg nin]; rfl
      refine ⟨_, rfl, _, rfl, v, _, rfl, dv.toDp, S.sh, S.nd, S.dep, S.fit, dk, _, rfl, DPut.k (k := Sum.inr (PyData.shown (sdD s))) hdA (Nat.lt_of_lt_of_le (m := 3001) (by rw [len_kn, List.length_take]; omega) (by decide)), ?_⟩
      rw [kn_new sot (so s hm) nin rfl, ← tk_succ' es]
      exact ⟨_, _, _, _, _, rfl, same_mut sA ndH, dA.k (Kt.set hdA (fun _ e => by cases e) (fun _ _ e => by cases e)), upd_same⟩
    obtain ⟨v6, v7, v8, v9, v10, rfl, sA, dA, hdA⟩ := hP
    rw [lx, List.take_length] at hdA
    have S0 := sd_shows ok (start_ok ok)
    obtain ⟨w0, hw0⟩ : ∃ w0, xs[0]? = some w0 := ⟨_, List.getElem?_eq_getElem (by omega)⟩
    obtain ⟨s0, es0, dw0⟩ := get sA hw0
    rw [G.s0] at es0
    cases es0
    have hm0 : startS r ∈ met := List.mem_of_getElem? G.s0
    refine ⟨_, rfl, gq, xs, 0, _, rfl, rfl, sameT sA hT, atI_nat (j := 0) hw0, w0, _, rfl, dw0.toDp, S0.sh, S0.nd, S0.dep, S0.fit, _, rfl, sv, _, rfl, dA.toDp, S0.sh, S0.nd, S0.dep, S0.fit, rfl, _, rfl, iteN (by simp) ?_⟩
    refine ⟨_, rfl, _, rfl, sv, _, rfl, dA.toDp, S0.sh, S0.nd, S0.dep, S0.fit, dk, _, rfl, DPut.k (k := Sum.inr (PyData.shown (sdD (startS r)))) hdA (Nat.lt_of_lt_of_le (m := 3001) (by rw [len_kn]; omega) (by decide)), ?_⟩
    rw [kn_put so (start_ok ok) hm0]
    have sB := same_mut (o := .dK (Kn (up (fun _ => false) (startS r)) met)) sA ndH
    have hdB : upd A dk (.dK (Kn (up (fun _ => false) (startS r)) met)) dk = some (.dK (Kn (up (fun _ => false) (startS r)) met)) := upd_same
    generalize upd A dk (.dK (Kn (up (fun _ => false) (startS r)) met)) = B at sB hdB ⊢
    refine ⟨_, rfl, gq, rfl, ⟨_, sameT sB hT⟩, ?_⟩
    refine for_it (walk_tup (xs := xs)) (fun j σ C => ∃ (f : Sd → Bool) (v6 v7 v8 v9 v10 : Option V), σ = [some (.ref a), some (.ref l), some (.int (m : Nat)), some (.ref gq), some (.ref dk), some sv, v6, v7, v8, v9, v10] ∧ Same H C ∧ C dk = some (.dK (Kn f met)) ∧ f (startS r) = true ∧ ∀ (n : Nat) s, n < j → met[n]? = some s → ∀ e ∈ alF r s.gr m, f (stepE r s e) = true)
      ⟨_, _, _, _, _, _, rfl, sB, hdB, up_self _ _, fun n s h => absurd h (Nat.not_lt_zero _)⟩ (fun j σ B _ h => by obtain ⟨_, _, _, _, _, _, _, sB, _⟩ := h; exact sameT sB hT) (fun j v σ C C' hj hP hY => ?_) (fun σ C hP => ?_)
    · obtain ⟨f, v6, v7, v8, v9, v10, rfl, sC, hdC, f0, fs⟩ := hP
      obtain ⟨rfl, hv⟩ := hY
      obtain ⟨s, es, dv⟩ := get sC hv
      have hm := List.mem_of_getElem? es
      have lj := (List.getElem?_eq_some_iff.mp es).1
      have S := sd_shows ok (so s hm)
      have known : f s = true := by
        by_cases z : j = 0
        · subst z
          rw [G.s0] at es
          cases es
          exact f0
        · obtain ⟨j2, e, s2, s', u1, u2, u3, u4, u5, u6, u7⟩ := G.up j (by omega) lj
          rw [es] at u4
          cases u4
          rw [← u7]
          exact fs j2 s2 u2 u3 e u5
      refine ⟨_, rfl, _, rfl, v, _, rfl, dv.toDp, S.sh, S.nd, S.dep, S.fit, dk, .bl true, rfl, (by have := DGet.k (k := Sum.inr (PyData.shown (sdD s))) hdC; rw [kn_val so (so s hm), if_pos hm, known] at this; exact this), true, rfl, iteN (by decide) ?_⟩
      refine ⟨_, rfl, _, rfl, _, rfl, l, v, r, s, m, rfl, hl.k sC, dv, ok, so s hm, fun D q us sD hq dq _ => ?_⟩
      have sCD := sC.trans sD
      have lu := dq.len
      rw [List.length_map] at lu
      have hdD := sD _ _ hdC
      have nqd : q ≠ dk := fun z => by rw [z, hdD] at hq; cases hq
      refine ⟨q, rfl, ⟨_, SqL.of hq⟩, ?_⟩
      refine for_list (xs := us) (fun i σ E1 => ∃ (f' : Sd → Bool) (v7 v8 v9 v10 : Option V), σ = [some (.ref a), some (.ref l), some (.int (m : Nat)), some (.ref gq), some (.ref dk), some sv, some v, v7, v8, v9, v10] ∧ Same H E1 ∧ E1 dk = some (.dK (Kn f' met)) ∧ E1 q = some (.lst us) ∧ Kt K D E1 ∧ Dt K E1 v (sdD s) ∧ (∀ t, f t = true → f' t = true) ∧ ∀ (n : Nat) e, n < i → (alF r s.gr m)[n]? = some e → f' (stepE r s e) = true)
        ⟨f, _, _, _, _, rfl, sCD, hdD, hq, Kt.refl, dv.ks sD, (fun _ h => h), fun n e h => absurd h (Nat.not_lt_zero _)⟩ (fun i σ E1 _ hP => by obtain ⟨_, _, _, _, _, _, _, _, h, _⟩ := hP; exact SqL.of h) (fun i y σ E1 hy hP => ?_) (fun σ E1 hP => ?_)
      · obtain ⟨f', v7, v8, v9, v10, rfl, sE, hdE, hqE, ktE, dvE, mono, done⟩ := hP
        obtain ⟨d, ed, de⟩ := dq.at hy
        rw [List.getElem?_map] at ed
        obtain ⟨e, ee, rfl⟩ := Option.map_eq_some_iff.mp ed
        have hal := List.mem_of_getElem? ee
        obtain ⟨i2, c, AE⟩ := al_mem ok (so s hm) hal
        have cl := Cl j s lj es e hal
        have de := de.k ktE
        obtain ⟨eq, y1, y2, rfl, heq, d1, d2⟩ := dt_two de
        obtain rfl := d1.str_inv
        obtain rfl := d2.str_inv
        have O := stepO AE
        refine ⟨_, rfl, _, rfl, _, rfl, _, rfl, a, l, v, .str (numS e.2), eq, r, s, e.1, _, some i2, rfl, sE _ _ ha, hl.k sE, ok, dvE, so s hm, heq, ob_num (al_num ok AE), O.1, O.2.2.2, fun B4 q2 t1 t2 b2 s4 hq2 d1 d2 eb => ?_⟩
        rw [O.2.1] at d1
        rw [O.2.2.1] at eb
        have eb : b2 = shortE r s e := eb
        rw [cl.1] at eb
        subst eb
        have sF := sE.trans s4
        have hdF := s4 _ _ hdE
        have S2 := sd_shows ok (so _ cl.2)
        refine ⟨q2, _, rfl, SqT.of hq2, rfl, _, _, rfl, _, _, rfl, _, _, rfl, rfl, ?_⟩
        refine ⟨_, rfl, _, rfl, iteF ⟨_, rfl, t1, _, rfl, d1.toDp, S2.sh, S2.nd, S2.dep, S2.fit, _, rfl, dk, _, rfl, DGet.k (k := Sum.inr (PyData.shown (sdD (stepE r s e)))) hdF, _, rfl, iteN ?_ ?_⟩⟩
        · rw [kn_val so (so _ cl.2), if_pos cl.2]; rfl
        refine ⟨_, rfl, _, rfl, t1, _, rfl, d1.toDp, S2.sh, S2.nd, S2.dep, S2.fit, dk, _, rfl, DPut.k (k := Sum.inr (PyData.shown (sdD (stepE r s e)))) hdF (Nat.lt_of_lt_of_le (m := 3001) (by rw [len_kn]; omega) (by decide)), ?_⟩
        rw [kn_put so (so _ cl.2) cl.2]
        have kz : Kt K B4 (upd B4 dk (.dK (Kn (up f' (stepE r s e)) met))) := Kt.set hdF (fun _ e => by cases e) (fun _ _ e => by cases e)
        refine ⟨up f' (stepE r s e), _, _, _, _, rfl, same_mut sF ndH, upd_same, by rw [upd_ne nqd]; exact s4 _ _ hqE, (ktE.trans (Kt.same s4)).trans kz, (dvE.ks s4).k kz, fun t h => up_keep (mono t h), fun n e' hn he' => ?_⟩
        by_cases z : n < i
        · exact up_keep (done n e' z he')
        · have : n = i := by omega
          subst this
          rw [ee] at he'
          cases he'
          exact up_self _ _
      · obtain ⟨f', v7, v8, v9, v10, rfl, sE, hdE, hqE, ktE, dvE, mono, done⟩ := hP
        refine ⟨f', _, _, _, _, _, rfl, sE, hdE, mono _ f0, fun n t hn ht e he => ?_⟩
        by_cases z : n < j
        · exact mono _ (fs n t z ht e he)
        · have : n = j := by omega
          subst this
          rw [es] at ht
          cases ht
          obtain ⟨i, hi⟩ := List.mem_iff_getElem?.mp he
          exact done i e (by rw [lu]; exact (List.getElem?_eq_some_iff.mp hi).1) hi
    · obtain ⟨_, _, _, _, _, _, rfl, sC, _⟩ := hP
      exact k _ sC
end
end K57

namespace K57
open PySem L2 Wm TL Dv
section
variable {P : Program} {w : World} {K : PySem.W.Frag} {mg : Str → Option Value} {base : Heap}
theorem bu_same {H H1 H2 : Hp} {b : Addr} (s1 : Same H H1) (hb : H b = none) (bu : Bu b H1 H2) : Same H H2 := fun q o e => bu q o (fun z => by subst z; rw [hb] at e; cases e) (s1 q o e)
theorem sh_bl (b : Bool) : Shows (.bool b) := (sh_bool b).shows (by decide) (by decide)
theorem max_of : ∀ (ns : List Nat), ns ≠ [] → ∃ m ∈ ns, ∀ y ∈ ns, y ≤ m
  | [], h => absurd rfl h
  | [n], _ => ⟨n, List.mem_cons_self, fun y hy => by rw [List.mem_singleton.mp hy]; exact Nat.le_refl _⟩
  | n :: k :: ns, _ => by
    obtain ⟨m, hm, hl⟩ := max_of (k :: ns) (List.cons_ne_nil _ _)
    by_cases c : m ≤ n
    · exact ⟨n, List.mem_cons_self, fun y hy => by
        rcases List.mem_cons.mp hy with rfl | hy
        · exact Nat.le_refl _
        · exact Nat.le_trans (hl y hy) c⟩
    · exact ⟨m, List.mem_cons_of_mem _ hm, fun y hy => by
        rcases List.mem_cons.mp hy with rfl | hy
        · omega
        · exact hl y hy⟩
/-- nothing owed, nothing short -/
theorem none_short {r : Rm} (h : ∀ c ∈ r.cs, ∀ o ∈ c.owed, o = 0) (s : Sd) (e : Ev) : shortE r s e = false := by
  have key : ∀ (c : Cd), c ∈ r.cs → ∀ pl g, shN (liftT c pl g) = 0 := fun c hc pl g => by
    show c.owed.getD (g - 1) 0 - _ = 0
    have : c.owed.getD (g - 1) 0 = 0 := by
      rw [List.getD_eq_getElem?_getD]
      cases q : c.owed[g - 1]? with
      | none => rfl
      | some o => exact h c hc o (List.mem_of_getElem? q)
    omega
  unfold shortE tellE
  cases ixOf r e.2 with
  | none => rfl
  | some i =>
    show decide (0 < shN (stepT r s e.1 i)) = false
    unfold stepT
    cases hc : r.cs[i]? with
    | none => rfl
    | some c =>
      have mc := List.mem_of_getElem? hc
      cases e.1 with
      | back => rfl
      | call =>
        show decide (0 < shN (if 0 < s.gr.getD i 0 then .non else liftT c s.pl 1)) = false
        split
        · rfl
        · rw [key c mc]; rfl
      | more =>
        show decide (0 < shN (liftT c s.pl (s.gr.getD i 0 + 1))) = false
        rw [key c mc]
        rfl
def sp_law (K : PySem.W.Frag) : Sp := fun vs H Q _ => ∃ (a : Addr) (ns : List Int), vs = [.ref a] ∧ SqL K H a (ns.map V.int) ∧ ns.length ≤ 63 ∧ ∀ H', Same H H' → Q (.bl true) H'
theorem ok_law (T : Txt K mg) : Rp.GOk P w K mg base CX0 12 T.a_law T.d_law ["_law_script"] (sp_law K) := by
  refine Rp.gok T.F_law sc_law (fun vs H Q E h => ?_) (fun cdv A outer s H vs Q E hg hr h => ?_)
  · obtain ⟨a, ns, rfl, _⟩ := h
    rfl
  · obtain ⟨a, ns, rfl, hS, few, k⟩ := h
    refine ⟨_, (pss_cons (ps_for PassesOwn.never rfl (pi_range1 (by rfl) T.z_range (pa_cons (pe_callB (call_max2 rfl) (by rfl) T.z_max (by decide +kernel) (pa_cons pe_int (pa_cons (pe_callB (call_min2 rfl) (by rfl) T.z_min (by decide +kernel) (pa_cons pe_int (pa_cons (pe_callB call_len_seq (by rfl) T.z_len PySem.boot_len (pa_cons (pv 0) pa_nil)) pa_nil))) pa_nil))) pa_nil)) (pg_name (i := 1) sc_law.nd rfl (Or.inl rfl))
        (pss_cons (ps_set (i := 2) sc_law.nd rfl (Or.inl rfl) (pe_call (ok_bag T) (hr.mono (by decide)) (by rfl) T.g_bag T.F_bag.kp T.b_bag .nil pass0 (pa_cons (pv 0) (pa_cons (pv 1) pa_nil))))
        (pss_cons (ps_asg (pe_call (ok_room T) (hr.mono (by decide)) (by rfl) T.g_room T.F_room.kp T.b_room .nil pass0 (pa_cons (pv 2) pa_nil)) (pg_tup rfl (pgs_cons (pg_name (i := 3) sc_law.nd rfl (Or.inl rfl)) (pgs_cons (pg_name (i := 4) sc_law.nd rfl (Or.inl rfl)) (pgs_cons (pg_name (i := 5) sc_law.nd rfl (Or.inl rfl)) pgs_nil)))))
        (pss_cons (ps_set (i := 6) sc_law.nd rfl (Or.inl rfl) (pe_make T.mk_rinit (ok_rinit T) (hr.mono (by decide)) (by rfl) T.gRC T.b_rinit .nil pass0 (pa_cons (pv 3) (pa_cons (pe_lc (own := [("_law_card", 7)]) (g := gName 7) (tt := tYes) rfl sc_law.nd (pi_list (pv 4)) (blkOk_by (own := [("_law_card", 7)]) (N := nm_law) (sc := (defScope s_law)) (by decide +kernel)) (fun _ _ _ _ _ => pg_name (i := 7) sc_law.nd rfl (Or.inl rfl)) (fun _ _ _ _ _ => pts_nil) (fun _ _ _ _ _ => (pe_call (ok_made T) (hr.mono (by decide)) (by rfl) T.g_made T.F_made.kp T.b_made .nil pass0 (pa_cons (pv 7) pa_nil)))) pa_nil))))
        (pss_cons (ps_set (i := 8) sc_law.nd rfl (Or.inl rfl) (pe_callN (ok_judge_orders T) (hr.mono (by decide)) (by rfl) T.g_judge_orders T.F_judge_orders.kp T.kb_judge_orders pass0 (pa_cons (pv 6) pa_nil) (pk_cons (pv 5) pk_nil)))
        (pss_cons (ps_if (PW.pt (pw_or (pt_not (pt_val (pe_callB call_isi (by rfl) T.z_isinstance (by decide +kernel) (pa_cons (pv 8) (pa_cons (pe_glob (v := V.ref T.OC) rfl T.gOC rfl) pa_nil))))) (pw_or (pt_cmpR op_ne (pe_callB (show CallR _ _ (Rp.rRepr K) from Rp.call_reprD hg hr.units) (by rfl) T.z_repr (by decide +kernel) (pa_cons (pe_prop (pv 8) T.clOC T.prS (ok_is_safe T) (hr.mono (by decide)) T.b_is_safe .nil pass0 rfl) pa_nil)) (pe_callB (show CallR _ _ (Rp.rRepr K) from Rp.call_reprD hg hr.units) (by rfl) T.z_repr (by decide +kernel) (pa_cons (pe_cmpR op_isN (pe_fld (pv 8) rfl) pe_non (nomark _)) pa_nil)) (nomark _)) (pw_or1 (pt_cmpR op_ne (pe_prop (pv 8) T.clOC T.prS (ok_is_safe T) (hr.mono (by decide)) T.b_is_safe .nil pass0 rfl) (pe_cmpR op_notN (pe_fld (pv 8) rfl) pe_non (nomark _)) (nomark _))))))
          (pss_one (ps_ret pe_bl))
          pss_nil)
        (pss_cons (ps_if (PW.pt (pw_and (pt_not (pt_val (pe_prop (pv 8) T.clOC T.prS (ok_is_safe T) (hr.mono (by decide)) T.b_is_safe .nil pass0 rfl))) (pw_and1 (pt_not (pt_val (pe_call (ok_row_stands T) (hr.mono (by decide)) (by rfl) T.g_row_stands T.F_row_stands.kp T.b_row_stands .nil pass0 (pa_cons (pv 6) (pa_cons (pv 3) (pa_cons (pv 4) (pa_cons (pv 5) (pa_cons (pe_fld (pv 8) rfl) pa_nil)))))))))))
          (pss_one (ps_ret pe_bl))
          pss_nil)
        (C8.pss_cut (ps_if (pt_val (pe_prop (pv 8) T.clOC T.prS (ok_is_safe T) (hr.mono (by decide)) T.b_is_safe .nil pass0 rfl))
          (pss_cons (ps_if (pt_not (pt_val (Rp.pe_gcall (ok_table_stands T) hg (hr.mono (by decide)) (by rfl) T.g_table_stands T.F_table_stands.kp T.b_table_stands .nil pass0 (pa_cons (pv 3) (pa_cons (pv 4) (pa_cons (pv 5) (pa_cons (pe_fld (pv 8) rfl) pa_nil)))))))
            (pss_one (ps_ret pe_bl))
            pss_nil)
          (pss_one (ps_for PassesOwn.never rfl (pi_range1 (by rfl) T.z_range (pa_cons pe_int pa_nil)) (pg_name (i := 9) sc_law.nd rfl (Or.inl rfl))
            (pss_one (ps_if (pt_not (pt_val (pe_call (ok_stays T) (hr.mono (by decide)) (by rfl) T.g_stays T.F_stays.kp T.b_stays .nil pass0 (pa_cons (pv 2) (pa_cons (pv 6) (pa_cons (pv 3) (pa_cons (pv 4) (pa_cons (pv 5) (pa_cons (pe_fld (pv 8) rfl) pa_nil)))))))))
              (pss_one (ps_ret pe_bl))
              pss_nil)))))
          pss_nil)
        (pss_one (ps_if (PW.pt (pw_and (pt_cmpR op_eq (pe_callB (cr_max rfl) (by rfl) T.z_max (by decide +kernel) (pa_cons (pe_op op_cat (pe_lst (pa_cons pe_int pa_nil)) (pe_lc (own := [("_law_card", 7)]) (g := gName 7) (tt := tYes) rfl sc_law.nd (pi_list (pv 4)) (blkOk_by (own := [("_law_card", 7)]) (N := nm_law) (sc := (defScope s_law)) (by decide +kernel)) (fun _ _ _ _ _ => pg_name (i := 7) sc_law.nd rfl (Or.inl rfl)) (fun _ _ _ _ _ => pts_nil) (fun _ _ _ _ _ => (pe_callB (show CallR _ _ (Mt.rMaxT K) from Mt.cr_maxT rfl hr.units) (by rfl) T.z_max (by decide +kernel) (pa_cons (pe_ix (show IxR _ (rIxT K) from ix_tup) (pv 7) pe_int (fun _ _ => rfl)) pa_nil))))) pa_nil)) pe_int (nomark _)) (pw_and1 (pt_not (pt_val (pe_prop (pv 8) T.clOC T.prS (ok_is_safe T) (hr.mono (by decide)) T.b_is_safe .nil pass0 rfl))))))
          (pss_one (ps_ret pe_bl))
          pss_nil))))))))))
      (pss_one (ps_ret pe_bl))), ?_⟩
    refine ⟨_, rfl, a, _, rfl, .inl hS, _, _, rfl, _, _, rfl, _, rfl, ?_⟩
    rw [List.length_map]
    obtain ⟨n, en, n1, n4⟩ : ∃ n : Nat, (if (if ((ns.length : Nat) : Int) < 2 then ((ns.length : Nat) : Int) else 2) > 1 then (if ((ns.length : Nat) : Int) < 2 then ((ns.length : Nat) : Int) else 2) else 1) = (n : Nat) ∧ 1 ≤ n ∧ n ≤ 2 := by
      refine ⟨if ns.length < 1 then 1 else if ns.length < 2 then ns.length else 2, ?_, ?_, ?_⟩
      all_goals repeat' split
      all_goals omega
    rw [en]
    refine ⟨by omega, by omega, ?_⟩
    rw [Int.toNat_natCast]
    refine for_range (fun i σ A => (∃ v1 v2 v3 v4 v5 v6 v7 v8 v9 : Option V, σ = [some (.ref a), v1, v2, v3, v4, v5, v6, v7, v8, v9]) ∧ Same H A) ⟨⟨none, none, none, none, none, none, none, none, none, rfl⟩, Same.refl _⟩ (fun i σ A hi hP => ?_) (fun σ A hP => ?_)
    · obtain ⟨⟨v1, v2, v3, v4, v5, v6, v7, v8, v9, rfl⟩, sA⟩ := hP
      rw [Int.zero_add]
      refine ⟨_, rfl, _, rfl, a, ns, i, rfl, Hf.keepL sA hS, few, by omega, fun H1 b s1 hb0 hb1 => ?_⟩
      refine ⟨_, rfl, b, rfl, hb1, fun H2 q sa l r m bu2 hb2 hq ha hl ok sm m1 m2 nab nlb => ?_⟩
      refine ⟨q, _, rfl, SqT.of hq, rfl, _, _, rfl, _, _, rfl, _, _, rfl, rfl, ?_⟩
      obtain ⟨cvs, hl7, hd7⟩ := id hl
      have lcv := hd7.len
      rw [List.length_map] at lcv
      have lcs := ok.cs6
      have st6 := ok.st6
      refine ⟨_, rfl, _, rfl, l, rfl, ⟨_, SqL.of hl7⟩, fun D hD => ?_⟩
      refine lc_it (walk_list (xs := cvs)) (fun j B => Same H2 B ∧ ∃ ys : List V, ys.length = j ∧ B D = some (.lst ys) ∧ All2 (CardAt K T.CC B) ys (r.cs.take j)) ⟨same_new hD, [], rfl, upd_same, by rw [List.take_zero]; exact .nil⟩ (fun j B _ h => SqL.of (h.1 _ _ hl7)) (fun j x B B' hj hP hY => ?_) (fun B hP => ?_)
      · obtain ⟨sB, ys, ly, hDB, hA⟩ := hP
        obtain ⟨rfl, hx⟩ := hY
        obtain ⟨cd, ed, dc⟩ := hd7.at hx
        rw [List.getElem?_map] at ed
        obtain ⟨c, ec, rfl⟩ := Option.map_eq_some_iff.mp ed
        refine ⟨rfl, yesT ⟨_, rfl, x, c, r.st, rfl, dc.ks sB, by omega, ok.st8, ok.ok c (List.mem_of_getElem? ec), fun B2 u s2 hc => ?_⟩⟩
        have hD2 := s2 _ _ hDB
        have kp : ∀ v c, CardAt K T.CC B2 v c → CardAt K T.CC (upd B2 D (.lst (ys ++ [u]))) v c := fun v c h => h.kb (Kt.lst hD2) fun p dx fs e _ _ => by
          rw [upd_ne (fun z => by subst z; rw [hD2] at e; cases e)]
          exact e
        refine ⟨ys, hD2, by rw [ly]; exact small1000 (by omega), same_mut (sB.trans s2) hD, ys ++ [u], by rw [List.length_append, ly]; rfl, upd_same, ?_⟩
        rw [tk_succ' ec]
        exact ((hA.mono fun v c h => h.k s2).snoc hc).mono kp
      obtain ⟨sB, ys, ly, hDB, hA⟩ := hP
      rw [lcv, List.take_length] at hA
      have hSB := sB _ _ ha
      refine fun x dx hx hdx ne => ?_
      have s2 := new2 (C := T.RC) hx hdx ne
      refine ⟨x, dx, sa, D, r, ys, rfl, upd_same, ne_new hSB hx, ne_new hDB hx, s2 _ _ hSB, s2 _ _ hDB, hA.mono (fun _ _ h => h.k s2), ok, fun H8 bu8 hR => ⟨rfl, ?_⟩⟩
      have s8 := sB.trans (made_same hx hdx ne bu8)
      have ha8 := s8 _ _ ha
      have hl8 := hl.k s8
      have hb8 := hb2.k s8
      have buX : Bu b H1 H8 := bu2.trans (Bu.of s8)
      have sH : Same H H1 := sA.trans s1
      have hbH : H b = none := none_of sA hb0
      clear s2 bu8 hA hDB sB hSB hD hd7 hl7 hx hdx ne bu2 hb2 hq hl ha
      have hRC0 := hR
      refine ⟨_, rfl, _, rfl, rfl, rfl, x, r, m, rfl, hR, ok, sm, m2, fun A3 p a1 b1 s3 hO hJ => ?_⟩
      obtain ⟨dxo, fso, hpo, lt, le⟩ := id hO
      have haB := s3 _ _ ha8
      have hlB := hl8.k s3
      have hRB := hR.k s3
      have hbB := hb8.k s3
      have buZ := buX.trans (Bu.of s3)
      clear ha8 hl8 hR hb8 buX s3 s8 hRC0
      have npb : p ≠ b := fun z => by obtain ⟨_, _, e, _⟩ := hbB; rw [z, e] at hpo; cases hpo
      have SF := fun b => sh_bl b
      have eab : decide (b1 = .non) = !decide (a1 = .non) := by
        rcases hJ with ⟨rfl, _, _, d, _⟩ | ⟨rfl, _, _, _, d, _⟩
        · obtain ⟨g, _, rfl, _⟩ := d.inv
          rfl
        · obtain ⟨g, _, rfl, _⟩ := d.inv
          rfl
      refine ⟨_, rfl, .ref p, .ref T.OC, .ref T.OC, .ref T.OC, true, rfl, .own T.OC, .base (.ins hpo T.clOC T.isiO.ca T.isiO.cn T.isiO.ct T.isiO.cm), T.kSO, _, rfl, iteF ?_⟩
      refine ⟨_, rfl, p, dxo, fso, rfl, hpo, p, a1, b1, rfl, hO, .bl _, .bool _, rfl, .bl _, (SF _).sh, (SF _).nd, (SF _).dep, (SF _).fit, ?_⟩
      refine ⟨_, rfl, p, T.OC, dxo, fso, b1, rfl, hpo, T.clOC, T.nEv, le, rfl, .bl _, .bool _, rfl, .bl _, (SF _).sh, (SF _).nd, (SF _).dep, (SF _).fit, rfl, _, rfl, iteN (by simp) ?_⟩
      refine ⟨_, rfl, p, dxo, fso, rfl, hpo, p, a1, b1, rfl, hO, _, rfl, p, T.OC, dxo, fso, a1, rfl, hpo, T.clOC, T.nTa, lt, rfl, rfl, _, rfl, iteN (by rw [eab]; simp) ?_⟩
      refine ⟨_, rfl, p, dxo, fso, rfl, hpo, p, a1, b1, rfl, hO, ?_⟩
      rcases hJ with ⟨rfl, met, src, da, nd, G, Cl, l3⟩ | ⟨rfl, es, e, t, db, hrow, hal, hsh, le3⟩
      · obtain ⟨gq, xs, rfl, hgq, dxs⟩ := da.inv
        refine ⟨_, rfl, iteN (by simp) (iteN rfl ?_)⟩
        refine ⟨fun σ C => (∃ v9, σ = [some (.ref a), some (.int (i : Nat)), some (.ref b), some (.ref sa), some (.ref l), some (.int (m : Nat)), some (.ref x), v7, some (.ref p), v9]) ∧ Bu b A3 C ∧ Bk C b, ?_, ?_⟩
        · refine ⟨_, rfl, p, dxo, fso, rfl, hpo, p, .ref gq, .non, rfl, hO, _, rfl, iteY (by simp) ?_⟩
          refine ⟨_, rfl, _, rfl, _, rfl, _, rfl, p, T.OC, dxo, fso, _, rfl, hpo, T.clOC, T.nTa, lt, sa, l, gq, r, m, xs, met, src, rfl, ok, haB, hlB, hgq, dxs, nd, G, Cl, l3, fun B4 s4 => ⟨_, rfl, iteN (by simp) ?_⟩⟩
          refine ⟨_, rfl, by decide, by decide, ?_⟩
          refine for_range (fun i2 σ C => (∃ v9, σ = [some (.ref a), some (.int (i : Nat)), some (.ref b), some (.ref sa), some (.ref l), some (.int (m : Nat)), some (.ref x), v7, some (.ref p), v9]) ∧ Bu b A3 C ∧ Bk C b) ⟨⟨_, rfl⟩, Bu.of s4, hbB.k s4⟩ (fun i2 σ C hi2 hP => ?_) (fun σ C hP => hP)
          obtain ⟨⟨v9, rfl⟩, buC, hbC⟩ := hP
          have kt : Kt K A3 C := hbB.kt buC
          exact ⟨_, rfl, _, rfl, _, rfl, _, rfl, _, rfl, _, rfl, p, T.OC, dxo, fso, _, rfl, buC _ _ npb hpo, T.clOC, T.nTa, lt, b, x, sa, l, gq, r, m, xs, met, src, rfl, hbC, room1 hRB hbB buC, ok, sm.ne, m1, nab, nlb, buC _ _ nab haB, hlB.bu kt buC nlb, kt _ _ hgq, dxs.k kt, G, Cl, fun H' bu hb' => ⟨_, rfl, iteN (by simp) ⟨⟨_, rfl⟩, buC.trans bu, hb'⟩⟩⟩
        rintro σ C ⟨⟨v9, rfl⟩, buC, hbC⟩
        have kt : Kt K A3 C := hbB.kt buC
        have hlC := hlB.bu kt buC nlb
        refine ⟨by show 1 ≤ sizeLine; decide, fun L0 hL0 => ?_⟩
        have sz := same_new (o := .lst [.int 0]) hL0
        have hz0 : upd C L0 (.lst [.int 0]) L0 = some (.lst [.int 0]) := upd_same
        have hlz := hlC.k sz
        generalize upd C L0 (.lst [.int 0]) = Z0 at sz hz0 hlz ⊢
        obtain ⟨cvz, hcz, dcz⟩ := hlz
        have lcz := dcz.len
        rw [List.length_map] at lcz
        refine ⟨_, rfl, l, rfl, ⟨_, SqL.of hcz⟩, fun D2 hD2 => ?_⟩
        refine lc_it (walk_list (xs := cvz)) (fun j B => Same Z0 B ∧ ∃ Ms : List Int, Ms.length = j ∧ B D2 = some (.lst (Ms.map V.int)) ∧ All2 (fun M c => ∀ o ∈ Cd.owed c, ((o : Nat) : Int) ≤ M) Ms (r.cs.take j)) ⟨same_new hD2, [], rfl, upd_same, by rw [List.take_zero]; exact .nil⟩ (fun j B _ h => SqL.of (h.1 _ _ hcz)) (fun j y B B' hj hP hY => ?_) (fun B hP => ?_)
        · obtain ⟨sB, Ms, lM, hDB, hA⟩ := hP
          obtain ⟨rfl, hy⟩ := hY
          obtain ⟨cd, ed, dc⟩ := dcz.at hy
          rw [List.getElem?_map] at ed
          obtain ⟨c, ec, rfl⟩ := Option.map_eq_some_iff.mp ed
          have cok := ok.ok c (List.mem_of_getElem? ec)
          have jl := (List.getElem?_eq_some_iff.mp ec).1
          obtain ⟨cq, w1, w2, w3, w4, rfl, hcq, q1, q2, q3, q4⟩ := cd_five (dc.ks sB)
          obtain ⟨oq, rfl, hoq⟩ := dt_ints q3
          rw [nV_int] at hoq
          refine ⟨rfl, yesT ⟨_, rfl, cq, _, 3, _, rfl, rfl, hcq, atI_nat (j := 3) rfl, oq, _, rfl, hoq, by rw [List.length_map, cok.o3]; decide, fun M hM hle => ⟨_, hDB, by rw [List.length_map, lM]; exact small1000 (by omega), same_mut sB hD2, Ms ++ [M], by rw [List.length_append, lM]; rfl, by rw [upd_same, List.map_append]; rfl, ?_⟩⟩⟩
          rw [tk_succ' ec]
          exact hA.snoc fun o ho => hle _ (List.mem_map.mpr ⟨o, ho, rfl⟩)
        · obtain ⟨sB, Ms, lM, hDB, hA⟩ := hP
          rw [lcz, List.take_length] at hA
          refine ⟨L0, D2, [.int 0], _, rfl, rfl, sB _ _ hz0, hDB, Nat.le_trans (m := 100) (by rw [List.length_map, lM]; show 1 + _ ≤ 100; omega) (by decide), fun W hW => ?_⟩
          have sW := same_new (o := .lst ([.int 0] ++ Ms.map V.int)) hW
          refine ⟨W, 0 :: Ms, rfl, SqL.of upd_same, Nat.succ_pos _, fun M hM hle => ?_⟩
          have sZ := (sz.trans sB).trans sW
          have big : ∀ c ∈ r.cs, ∀ o ∈ Cd.owed c, ((o : Nat) : Int) ≤ M := fun c hc o ho => by
            obtain ⟨n2, hn2⟩ := List.mem_iff_getElem?.mp hc
            obtain ⟨M2, hM2, hb2⟩ := hA.get hn2
            exact Int.le_trans (hb2 o ho) (hle M2 (List.mem_cons_of_mem _ (List.mem_of_getElem? hM2)))
          have fin : ∀ {Z : Hp}, Same C Z → Same H Z := fun sC => (bu_same sH hbH (buZ.trans buC)).trans sC
          refine ⟨rfl, _, rfl, ite2 (fun c => ?_) (fun c => iteN rfl ⟨⟨_, _, _, _, _, _, _, _, _, rfl⟩, fin sZ⟩)⟩
          have hp4 := sZ _ _ (buC _ _ npb hpo)
          exact ⟨_, rfl, p, dxo, fso, rfl, hp4, p, .ref gq, .non, rfl, ⟨dxo, fso, hp4, lt, le⟩, _, rfl, iteN (by simp) ⟨⟨_, _, _, _, _, _, _, _, _, rfl⟩, fin sZ⟩⟩
      · obtain ⟨gq, xs, rfl, hgq, dxs⟩ := db.inv
        refine ⟨_, rfl, iteY (by simp) ?_⟩
        refine ⟨_, rfl, _, rfl, _, rfl, _, rfl, _, rfl, p, T.OC, dxo, fso, _, rfl, hpo, T.clOC, T.nEv, le, x, sa, l, gq, r, m, xs, es, e, t, rfl, hRB, ok, haB, hlB, hgq, dxs, hrow, hal, hsh, fun B4 s4 => ⟨_, rfl, iteN (by simp) ?_⟩⟩
        refine ⟨fun σ C => (∃ v9, σ = [some (.ref a), some (.int (i : Nat)), some (.ref b), some (.ref sa), some (.ref l), some (.int (m : Nat)), some (.ref x), v7, some (.ref p), v9]) ∧ Bu b A3 C ∧ Bk C b, ?_, ?_⟩
        · have hp4 := s4 _ _ hpo
          exact ⟨_, rfl, p, dxo, fso, rfl, hp4, p, .non, .ref gq, rfl, ⟨dxo, fso, hp4, lt, le⟩, _, rfl, iteN (by simp) ⟨⟨_, rfl⟩, Bu.of s4, hbB.k s4⟩⟩
        rintro σ C ⟨⟨v9, rfl⟩, buC, hbC⟩
        have kt : Kt K A3 C := hbB.kt buC
        have hlC := hlB.bu kt buC nlb
        have owing : ∃ c ∈ r.cs, ∃ o ∈ Cd.owed c, o ≠ 0 := Classical.byContradiction fun z => by
          have := none_short (r := r) (fun c hc o ho => Classical.byContradiction fun z2 => z ⟨c, hc, o, ho, z2⟩) t e
          rw [hsh] at this
          cases this
        obtain ⟨co, hco, oo, hoo, noo⟩ := owing
        refine ⟨by show 1 ≤ sizeLine; decide, fun L0 hL0 => ?_⟩
        have sz := same_new (o := .lst [.int 0]) hL0
        have hz0 : upd C L0 (.lst [.int 0]) L0 = some (.lst [.int 0]) := upd_same
        have hlz := hlC.k sz
        generalize upd C L0 (.lst [.int 0]) = Z0 at sz hz0 hlz ⊢
        obtain ⟨cvz, hcz, dcz⟩ := hlz
        have lcz := dcz.len
        rw [List.length_map] at lcz
        refine ⟨_, rfl, l, rfl, ⟨_, SqL.of hcz⟩, fun D2 hD2 => ?_⟩
        refine lc_it (walk_list (xs := cvz)) (fun j B => Same Z0 B ∧ ∃ Ms : List Int, Ms.length = j ∧ B D2 = some (.lst (Ms.map V.int)) ∧ All2 (fun M c => ∀ o ∈ Cd.owed c, ((o : Nat) : Int) ≤ M) Ms (r.cs.take j)) ⟨same_new hD2, [], rfl, upd_same, by rw [List.take_zero]; exact .nil⟩ (fun j B _ h => SqL.of (h.1 _ _ hcz)) (fun j y B B' hj hP hY => ?_) (fun B hP => ?_)
        · obtain ⟨sB, Ms, lM, hDB, hA⟩ := hP
          obtain ⟨rfl, hy⟩ := hY
          obtain ⟨cd, ed, dc⟩ := dcz.at hy
          rw [List.getElem?_map] at ed
          obtain ⟨c, ec, rfl⟩ := Option.map_eq_some_iff.mp ed
          have cok := ok.ok c (List.mem_of_getElem? ec)
          have jl := (List.getElem?_eq_some_iff.mp ec).1
          obtain ⟨cq, w1, w2, w3, w4, rfl, hcq, q1, q2, q3, q4⟩ := cd_five (dc.ks sB)
          obtain ⟨oq, rfl, hoq⟩ := dt_ints q3
          rw [nV_int] at hoq
          refine ⟨rfl, yesT ⟨_, rfl, cq, _, 3, _, rfl, rfl, hcq, atI_nat (j := 3) rfl, oq, _, rfl, hoq, by rw [List.length_map, cok.o3]; decide, fun M hM hle => ⟨_, hDB, by rw [List.length_map, lM]; exact small1000 (by omega), same_mut sB hD2, Ms ++ [M], by rw [List.length_append, lM]; rfl, by rw [upd_same, List.map_append]; rfl, ?_⟩⟩⟩
          rw [tk_succ' ec]
          exact hA.snoc fun o ho => hle _ (List.mem_map.mpr ⟨o, ho, rfl⟩)
        · obtain ⟨sB, Ms, lM, hDB, hA⟩ := hP
          rw [lcz, List.take_length] at hA
          refine ⟨L0, D2, [.int 0], _, rfl, rfl, sB _ _ hz0, hDB, Nat.le_trans (m := 100) (by rw [List.length_map, lM]; show 1 + _ ≤ 100; omega) (by decide), fun W hW => ?_⟩
          have sW := same_new (o := .lst ([.int 0] ++ Ms.map V.int)) hW
          refine ⟨W, 0 :: Ms, rfl, SqL.of upd_same, Nat.succ_pos _, fun M hM hle => ?_⟩
          have sZ := (sz.trans sB).trans sW
          have big : ∀ c ∈ r.cs, ∀ o ∈ Cd.owed c, ((o : Nat) : Int) ≤ M := fun c hc o ho => by
            obtain ⟨n2, hn2⟩ := List.mem_iff_getElem?.mp hc
            obtain ⟨M2, hM2, hb2⟩ := hA.get hn2
            exact Int.le_trans (hb2 o ho) (hle M2 (List.mem_cons_of_mem _ (List.mem_of_getElem? hM2)))
          have fin : ∀ {Z : Hp}, Same C Z → Same H Z := fun sC => (bu_same sH hbH (buZ.trans buC)).trans sC
          have b1 := big co hco oo hoo
          exact ⟨rfl, _, rfl, iteN (decide_eq_false fun z => by have z := V.int.inj z; omega) (iteN rfl ⟨⟨_, _, _, _, _, _, _, _, _, rfl⟩, fin sZ⟩)⟩
    · exact k _ hP.2
end
end K57

namespace K57
open PySem L2 Wm TL Dv PySem.W
theorem all_mk {l : PySem.W.OpenLaw} {w : World} {K : PySem.W.Frag} {h : Heap} {mg : Str → Option Value} {fa : Addr} (X : K.In h) (G : h.Ns mainGlobals mg) (hfa : mg "law" = some (.ref fa))
    {xC : Addr}
    (axC : PySem.W.nsIn K mainGlobals "Card" = some (some (.ref xC)))
    {xR : Addr}
    (axR : PySem.W.nsIn K mainGlobals "Room" = some (some (.ref xR)))
    {xH : Addr}
    (axH : PySem.W.nsIn K mainGlobals "Reach" = some (some (.ref xH)))
    {xO2 : Addr}
    (axO2 : PySem.W.nsIn K mainGlobals "Orders" = some (some (.ref xO2)))
    {xW : Addr}
    (axW : PySem.W.nsIn K mainGlobals "Watch" = some (some (.ref xW)))
    {x_is_whole : Addr} {od_is_whole an_is_whole : Option Addr} {sl_is_whole : Array (Option Value)} {oc_is_whole dc_is_whole pm_is_whole cd_is_whole ct_is_whole : Value}
    {kV_is_whole : Value}
    (a_is_whole : PySem.W.nsIn K mainGlobals "is_whole" = some (some (.ref x_is_whole)))
    (l_is_whole : K.lookup x_is_whole = some ⟨oc_is_whole, od_is_whole, .func (PySem.W.fnOf "is_whole" "is_whole" (defArgs s_is_whole) (defBody s_is_whole) (defScope s_is_whole) .none kV_is_whole dc_is_whole pm_is_whole an_is_whole cd_is_whole ct_is_whole), sl_is_whole⟩)
    (c_is_whole : PySem.W.codeIn K cd_is_whole "is_whole" = true)
    (k_is_whole : PySem.W.keepIn K (.ref x_is_whole) = true)
    {x_is_whole_within : Addr} {od_is_whole_within an_is_whole_within : Option Addr} {sl_is_whole_within : Array (Option Value)} {oc_is_whole_within dc_is_whole_within pm_is_whole_within cd_is_whole_within ct_is_whole_within : Value}
    {kV_is_whole_within : Value}
    (a_is_whole_within : PySem.W.nsIn K mainGlobals "is_whole_within" = some (some (.ref x_is_whole_within)))
    (l_is_whole_within : K.lookup x_is_whole_within = some ⟨oc_is_whole_within, od_is_whole_within, .func (PySem.W.fnOf "is_whole_within" "is_whole_within" (defArgs s_is_whole_within) (defBody s_is_whole_within) (defScope s_is_whole_within) .none kV_is_whole_within dc_is_whole_within pm_is_whole_within an_is_whole_within cd_is_whole_within ct_is_whole_within), sl_is_whole_within⟩)
    (c_is_whole_within : PySem.W.codeIn K cd_is_whole_within "is_whole_within" = true)
    (k_is_whole_within : PySem.W.keepIn K (.ref x_is_whole_within) = true)
    {x_is_sequence : Addr} {od_is_sequence an_is_sequence : Option Addr} {sl_is_sequence : Array (Option Value)} {oc_is_sequence dc_is_sequence pm_is_sequence cd_is_sequence ct_is_sequence : Value}
    {kV_is_sequence : Value}
    (a_is_sequence : PySem.W.nsIn K mainGlobals "is_sequence" = some (some (.ref x_is_sequence)))
    (l_is_sequence : K.lookup x_is_sequence = some ⟨oc_is_sequence, od_is_sequence, .func (PySem.W.fnOf "is_sequence" "is_sequence" (defArgs s_is_sequence) (defBody s_is_sequence) (defScope s_is_sequence) .none kV_is_sequence dc_is_sequence pm_is_sequence an_is_sequence cd_is_sequence ct_is_sequence), sl_is_sequence⟩)
    (c_is_sequence : PySem.W.codeIn K cd_is_sequence "is_sequence" = true)
    (k_is_sequence : PySem.W.keepIn K (.ref x_is_sequence) = true)
    {x_is_number : Addr} {od_is_number an_is_number : Option Addr} {sl_is_number : Array (Option Value)} {oc_is_number dc_is_number pm_is_number cd_is_number ct_is_number : Value}
    {kV_is_number : Value}
    (a_is_number : PySem.W.nsIn K mainGlobals "is_number" = some (some (.ref x_is_number)))
    (l_is_number : K.lookup x_is_number = some ⟨oc_is_number, od_is_number, .func (PySem.W.fnOf "is_number" "is_number" (defArgs s_is_number) (defBody s_is_number) (defScope s_is_number) .none kV_is_number dc_is_number pm_is_number an_is_number cd_is_number ct_is_number), sl_is_number⟩)
    (c_is_number : PySem.W.codeIn K cd_is_number "is_number" = true)
    (k_is_number : PySem.W.keepIn K (.ref x_is_number) = true)
    {x_is_station : Addr} {od_is_station an_is_station : Option Addr} {sl_is_station : Array (Option Value)} {oc_is_station dc_is_station pm_is_station cd_is_station ct_is_station : Value}
    {kV_is_station : Value}
    (a_is_station : PySem.W.nsIn K mainGlobals "is_station" = some (some (.ref x_is_station)))
    (l_is_station : K.lookup x_is_station = some ⟨oc_is_station, od_is_station, .func (PySem.W.fnOf "is_station" "is_station" (defArgs s_is_station) (defBody s_is_station) (defScope s_is_station) .none kV_is_station dc_is_station pm_is_station an_is_station cd_is_station ct_is_station), sl_is_station⟩)
    (c_is_station : PySem.W.codeIn K cd_is_station "is_station" = true)
    (k_is_station : PySem.W.keepIn K (.ref x_is_station) = true)
    {x_is_crew : Addr} {od_is_crew an_is_crew : Option Addr} {sl_is_crew : Array (Option Value)} {oc_is_crew dc_is_crew pm_is_crew cd_is_crew ct_is_crew : Value}
    {kV_is_crew : Value}
    (a_is_crew : PySem.W.nsIn K mainGlobals "is_crew" = some (some (.ref x_is_crew)))
    (l_is_crew : K.lookup x_is_crew = some ⟨oc_is_crew, od_is_crew, .func (PySem.W.fnOf "is_crew" "is_crew" (defArgs s_is_crew) (defBody s_is_crew) (defScope s_is_crew) .none kV_is_crew dc_is_crew pm_is_crew an_is_crew cd_is_crew ct_is_crew), sl_is_crew⟩)
    (c_is_crew : PySem.W.codeIn K cd_is_crew "is_crew" = true)
    (k_is_crew : PySem.W.keepIn K (.ref x_is_crew) = true)
    {x_is_stations : Addr} {od_is_stations an_is_stations : Option Addr} {sl_is_stations : Array (Option Value)} {oc_is_stations dc_is_stations pm_is_stations cd_is_stations ct_is_stations : Value}
    {kV_is_stations : Value}
    (a_is_stations : PySem.W.nsIn K mainGlobals "is_stations" = some (some (.ref x_is_stations)))
    (l_is_stations : K.lookup x_is_stations = some ⟨oc_is_stations, od_is_stations, .func (PySem.W.fnOf "is_stations" "is_stations" (defArgs s_is_stations) (defBody s_is_stations) (defScope s_is_stations) .none kV_is_stations dc_is_stations pm_is_stations an_is_stations cd_is_stations ct_is_stations), sl_is_stations⟩)
    (c_is_stations : PySem.W.codeIn K cd_is_stations "is_stations" = true)
    (k_is_stations : PySem.W.keepIn K (.ref x_is_stations) = true)
    {x_is_order : Addr} {od_is_order an_is_order : Option Addr} {sl_is_order : Array (Option Value)} {oc_is_order dc_is_order pm_is_order cd_is_order ct_is_order : Value}
    {kV_is_order : Value}
    (a_is_order : PySem.W.nsIn K mainGlobals "is_order" = some (some (.ref x_is_order)))
    (l_is_order : K.lookup x_is_order = some ⟨oc_is_order, od_is_order, .func (PySem.W.fnOf "is_order" "is_order" (defArgs s_is_order) (defBody s_is_order) (defScope s_is_order) .none kV_is_order dc_is_order pm_is_order an_is_order cd_is_order ct_is_order), sl_is_order⟩)
    (c_is_order : PySem.W.codeIn K cd_is_order "is_order" = true)
    (k_is_order : PySem.W.keepIn K (.ref x_is_order) = true)
    {x_are_counts : Addr} {od_are_counts an_are_counts : Option Addr} {sl_are_counts : Array (Option Value)} {oc_are_counts dc_are_counts pm_are_counts cd_are_counts ct_are_counts : Value}
    {kV_are_counts : Value}
    (a_are_counts : PySem.W.nsIn K mainGlobals "are_counts" = some (some (.ref x_are_counts)))
    (l_are_counts : K.lookup x_are_counts = some ⟨oc_are_counts, od_are_counts, .func (PySem.W.fnOf "are_counts" "are_counts" (defArgs s_are_counts) (defBody s_are_counts) (defScope s_are_counts) .none kV_are_counts dc_are_counts pm_are_counts an_are_counts cd_are_counts ct_are_counts), sl_are_counts⟩)
    (c_are_counts : PySem.W.codeIn K cd_are_counts "are_counts" = true)
    (k_are_counts : PySem.W.keepIn K (.ref x_are_counts) = true)
    {x_is_move : Addr} {od_is_move an_is_move : Option Addr} {sl_is_move : Array (Option Value)} {oc_is_move dc_is_move pm_is_move cd_is_move ct_is_move : Value}
    {kV_is_move : Value}
    (a_is_move : PySem.W.nsIn K mainGlobals "is_move" = some (some (.ref x_is_move)))
    (l_is_move : K.lookup x_is_move = some ⟨oc_is_move, od_is_move, .func (PySem.W.fnOf "is_move" "is_move" (defArgs s_is_move) (defBody s_is_move) (defScope s_is_move) .none kV_is_move dc_is_move pm_is_move an_is_move cd_is_move ct_is_move), sl_is_move⟩)
    (c_is_move : PySem.W.codeIn K cd_is_move "is_move" = true)
    (k_is_move : PySem.W.keepIn K (.ref x_is_move) = true)
    {x_are_moves : Addr} {od_are_moves an_are_moves : Option Addr} {sl_are_moves : Array (Option Value)} {oc_are_moves dc_are_moves pm_are_moves cd_are_moves ct_are_moves : Value}
    {kV_are_moves : Value}
    (a_are_moves : PySem.W.nsIn K mainGlobals "are_moves" = some (some (.ref x_are_moves)))
    (l_are_moves : K.lookup x_are_moves = some ⟨oc_are_moves, od_are_moves, .func (PySem.W.fnOf "are_moves" "are_moves" (defArgs s_are_moves) (defBody s_are_moves) (defScope s_are_moves) .none kV_are_moves dc_are_moves pm_are_moves an_are_moves cd_are_moves ct_are_moves), sl_are_moves⟩)
    (c_are_moves : PySem.W.codeIn K cd_are_moves "are_moves" = true)
    (k_are_moves : PySem.W.keepIn K (.ref x_are_moves) = true)
    {x_cinit : Addr} {od_cinit an_cinit : Option Addr} {sl_cinit : Array (Option Value)} {oc_cinit dc_cinit pm_cinit cd_cinit ct_cinit : Value}
    {xF xO xM : Addr}
    (a_cinit : PySem.W.findIn K (.ref xC) "__init__" = some (some (.ref x_cinit)))
    (i_cinit : PySem.W.isFn K (.ref x_cinit) = true)
    (l_cinit : K.lookup x_cinit = some ⟨oc_cinit, od_cinit, .func (PySem.W.fnOf "__init__" "Card.__init__" (defArgs s_cinit) (defBody s_cinit) (defScope s_cinit) .none (.ref xF) dc_cinit pm_cinit an_cinit cd_cinit ct_cinit), sl_cinit⟩)
    (c_cinit : PySem.W.codeIn K cd_cinit "Card.__init__" = true)
    (k_cinit : PySem.W.keepIn K (.ref x_cinit) = true)
    (e_owed : PySem.W.nsIn K xF "owed" = some (some (.ref xO)))
    (e_moves : PySem.W.nsIn K xF "moves" = some (some (.ref xM)))
    {x_check_crew : Addr} {od_check_crew an_check_crew : Option Addr} {sl_check_crew : Array (Option Value)} {oc_check_crew dc_check_crew pm_check_crew cd_check_crew ct_check_crew : Value}
    {kV_check_crew : Value}
    (a_check_crew : PySem.W.nsIn K mainGlobals "check_crew" = some (some (.ref x_check_crew)))
    (l_check_crew : K.lookup x_check_crew = some ⟨oc_check_crew, od_check_crew, .func (PySem.W.fnOf "check_crew" "check_crew" (defArgs s_check_crew) (defBody s_check_crew) (defScope s_check_crew) .none kV_check_crew dc_check_crew pm_check_crew an_check_crew cd_check_crew ct_check_crew), sl_check_crew⟩)
    (c_check_crew : PySem.W.codeIn K cd_check_crew "check_crew" = true)
    (k_check_crew : PySem.W.keepIn K (.ref x_check_crew) = true)
    {x_check_card : Addr} {od_check_card an_check_card : Option Addr} {sl_check_card : Array (Option Value)} {oc_check_card dc_check_card pm_check_card cd_check_card ct_check_card : Value}
    {kV_check_card : Value}
    (a_check_card : PySem.W.nsIn K mainGlobals "check_card" = some (some (.ref x_check_card)))
    (l_check_card : K.lookup x_check_card = some ⟨oc_check_card, od_check_card, .func (PySem.W.fnOf "check_card" "check_card" (defArgs s_check_card) (defBody s_check_card) (defScope s_check_card) .none kV_check_card dc_check_card pm_check_card an_check_card cd_check_card ct_check_card), sl_check_card⟩)
    (c_check_card : PySem.W.codeIn K cd_check_card "check_card" = true)
    (k_check_card : PySem.W.keepIn K (.ref x_check_card) = true)
    {x_rinit : Addr} {od_rinit an_rinit : Option Addr} {sl_rinit : Array (Option Value)} {oc_rinit dc_rinit pm_rinit cd_rinit ct_rinit : Value}
    {kV_rinit : Value}
    (a_rinit : PySem.W.findIn K (.ref xR) "__init__" = some (some (.ref x_rinit)))
    (i_rinit : PySem.W.isFn K (.ref x_rinit) = true)
    (l_rinit : K.lookup x_rinit = some ⟨oc_rinit, od_rinit, .func (PySem.W.fnOf "__init__" "Room.__init__" (defArgs s_rinit) (defBody s_rinit) (defScope s_rinit) .none kV_rinit dc_rinit pm_rinit an_rinit cd_rinit ct_rinit), sl_rinit⟩)
    (c_rinit : PySem.W.codeIn K cd_rinit "Room.__init__" = true)
    (k_rinit : PySem.W.keepIn K (.ref x_rinit) = true)
    {x_rstart : Addr} {od_rstart an_rstart : Option Addr} {sl_rstart : Array (Option Value)} {oc_rstart dc_rstart pm_rstart cd_rstart ct_rstart : Value}
    {kV_rstart : Value}
    (a_rstart : PySem.W.findIn K (.ref xR) "start" = some (some (.ref x_rstart)))
    (i_rstart : PySem.W.isFn K (.ref x_rstart) = true)
    (l_rstart : K.lookup x_rstart = some ⟨oc_rstart, od_rstart, .func (PySem.W.fnOf "start" "Room.start" (defArgs s_rstart) (defBody s_rstart) (defScope s_rstart) .none kV_rstart dc_rstart pm_rstart an_rstart cd_rstart ct_rstart), sl_rstart⟩)
    (c_rstart : PySem.W.codeIn K cd_rstart "Room.start" = true)
    (k_rstart : PySem.W.keepIn K (.ref x_rstart) = true)
    {x_card_index : Addr} {od_card_index an_card_index : Option Addr} {sl_card_index : Array (Option Value)} {oc_card_index dc_card_index pm_card_index cd_card_index ct_card_index : Value}
    {kV_card_index : Value}
    (a_card_index : PySem.W.findIn K (.ref xR) "card_index" = some (some (.ref x_card_index)))
    (i_card_index : PySem.W.isFn K (.ref x_card_index) = true)
    (l_card_index : K.lookup x_card_index = some ⟨oc_card_index, od_card_index, .func (PySem.W.fnOf "card_index" "Room.card_index" (defArgs s_card_index) (defBody s_card_index) (defScope s_card_index) .none kV_card_index dc_card_index pm_card_index an_card_index cd_card_index ct_card_index), sl_card_index⟩)
    (c_card_index : PySem.W.codeIn K cd_card_index "Room.card_index" = true)
    (k_card_index : PySem.W.keepIn K (.ref x_card_index) = true)
    {x_card_of : Addr} {od_card_of an_card_of : Option Addr} {sl_card_of : Array (Option Value)} {oc_card_of dc_card_of pm_card_of cd_card_of ct_card_of : Value}
    {kV_card_of : Value}
    (a_card_of : PySem.W.findIn K (.ref xR) "card_of" = some (some (.ref x_card_of)))
    (i_card_of : PySem.W.isFn K (.ref x_card_of) = true)
    (l_card_of : K.lookup x_card_of = some ⟨oc_card_of, od_card_of, .func (PySem.W.fnOf "card_of" "Room.card_of" (defArgs s_card_of) (defBody s_card_of) (defScope s_card_of) .none kV_card_of dc_card_of pm_card_of an_card_of cd_card_of ct_card_of), sl_card_of⟩)
    (c_card_of : PySem.W.codeIn K cd_card_of "Room.card_of" = true)
    (k_card_of : PySem.W.keepIn K (.ref x_card_of) = true)
    {x_grade_in : Addr} {od_grade_in an_grade_in : Option Addr} {sl_grade_in : Array (Option Value)} {oc_grade_in dc_grade_in pm_grade_in cd_grade_in ct_grade_in : Value}
    {kV_grade_in : Value}
    (a_grade_in : PySem.W.findIn K (.ref xR) "grade_in" = some (some (.ref x_grade_in)))
    (i_grade_in : PySem.W.isFn K (.ref x_grade_in) = true)
    (l_grade_in : K.lookup x_grade_in = some ⟨oc_grade_in, od_grade_in, .func (PySem.W.fnOf "grade_in" "Room.grade_in" (defArgs s_grade_in) (defBody s_grade_in) (defScope s_grade_in) .none kV_grade_in dc_grade_in pm_grade_in an_grade_in cd_grade_in ct_grade_in), sl_grade_in⟩)
    (c_grade_in : PySem.W.codeIn K cd_grade_in "Room.grade_in" = true)
    (k_grade_in : PySem.W.keepIn K (.ref x_grade_in) = true)
    {x_open_count : Addr} {od_open_count an_open_count : Option Addr} {sl_open_count : Array (Option Value)} {oc_open_count dc_open_count pm_open_count cd_open_count ct_open_count : Value}
    {kV_open_count : Value}
    (a_open_count : PySem.W.nsIn K mainGlobals "open_count" = some (some (.ref x_open_count)))
    (l_open_count : K.lookup x_open_count = some ⟨oc_open_count, od_open_count, .func (PySem.W.fnOf "open_count" "open_count" (defArgs s_open_count) (defBody s_open_count) (defScope s_open_count) .none kV_open_count dc_open_count pm_open_count an_open_count cd_open_count ct_open_count), sl_open_count⟩)
    (c_open_count : PySem.W.codeIn K cd_open_count "open_count" = true)
    (k_open_count : PySem.W.keepIn K (.ref x_open_count) = true)
    {x_rallowed : Addr} {od_rallowed an_rallowed : Option Addr} {sl_rallowed : Array (Option Value)} {oc_rallowed dc_rallowed pm_rallowed cd_rallowed ct_rallowed : Value}
    {kV_rallowed : Value}
    (a_rallowed : PySem.W.findIn K (.ref xR) "allowed" = some (some (.ref x_rallowed)))
    (i_rallowed : PySem.W.isFn K (.ref x_rallowed) = true)
    (l_rallowed : K.lookup x_rallowed = some ⟨oc_rallowed, od_rallowed, .func (PySem.W.fnOf "allowed" "Room.allowed" (defArgs s_rallowed) (defBody s_rallowed) (defScope s_rallowed) .none kV_rallowed dc_rallowed pm_rallowed an_rallowed cd_rallowed ct_rallowed), sl_rallowed⟩)
    (c_rallowed : PySem.W.codeIn K cd_rallowed "Room.allowed" = true)
    (k_rallowed : PySem.W.keepIn K (.ref x_rallowed) = true)
    {x_crews_at : Addr} {od_crews_at an_crews_at : Option Addr} {sl_crews_at : Array (Option Value)} {oc_crews_at dc_crews_at pm_crews_at cd_crews_at ct_crews_at : Value}
    {kV_crews_at : Value}
    (a_crews_at : PySem.W.nsIn K mainGlobals "crews_at" = some (some (.ref x_crews_at)))
    (l_crews_at : K.lookup x_crews_at = some ⟨oc_crews_at, od_crews_at, .func (PySem.W.fnOf "crews_at" "crews_at" (defArgs s_crews_at) (defBody s_crews_at) (defScope s_crews_at) .none kV_crews_at dc_crews_at pm_crews_at an_crews_at cd_crews_at ct_crews_at), sl_crews_at⟩)
    (c_crews_at : PySem.W.codeIn K cd_crews_at "crews_at" = true)
    (k_crews_at : PySem.W.keepIn K (.ref x_crews_at) = true)
    {x_can_move : Addr} {od_can_move an_can_move : Option Addr} {sl_can_move : Array (Option Value)} {oc_can_move dc_can_move pm_can_move cd_can_move ct_can_move : Value}
    {kV_can_move : Value}
    (a_can_move : PySem.W.nsIn K mainGlobals "can_move" = some (some (.ref x_can_move)))
    (l_can_move : K.lookup x_can_move = some ⟨oc_can_move, od_can_move, .func (PySem.W.fnOf "can_move" "can_move" (defArgs s_can_move) (defBody s_can_move) (defScope s_can_move) .none kV_can_move dc_can_move pm_can_move an_can_move cd_can_move ct_can_move), sl_can_move⟩)
    (c_can_move : PySem.W.codeIn K cd_can_move "can_move" = true)
    (k_can_move : PySem.W.keepIn K (.ref x_can_move) = true)
    {x_with_grade : Addr} {od_with_grade an_with_grade : Option Addr} {sl_with_grade : Array (Option Value)} {oc_with_grade dc_with_grade pm_with_grade cd_with_grade ct_with_grade : Value}
    {kV_with_grade : Value}
    (a_with_grade : PySem.W.findIn K (.ref xR) "with_grade" = some (some (.ref x_with_grade)))
    (i_with_grade : PySem.W.isFn K (.ref x_with_grade) = true)
    (l_with_grade : K.lookup x_with_grade = some ⟨oc_with_grade, od_with_grade, .func (PySem.W.fnOf "with_grade" "Room.with_grade" (defArgs s_with_grade) (defBody s_with_grade) (defScope s_with_grade) .none kV_with_grade dc_with_grade pm_with_grade an_with_grade cd_with_grade ct_with_grade), sl_with_grade⟩)
    (c_with_grade : PySem.W.codeIn K cd_with_grade "Room.with_grade" = true)
    (k_with_grade : PySem.W.keepIn K (.ref x_with_grade) = true)
    {x_can_go_home : Addr} {od_can_go_home an_can_go_home : Option Addr} {sl_can_go_home : Array (Option Value)} {oc_can_go_home dc_can_go_home pm_can_go_home cd_can_go_home ct_can_go_home : Value}
    {kV_can_go_home : Value}
    (a_can_go_home : PySem.W.findIn K (.ref xR) "can_go_home" = some (some (.ref x_can_go_home)))
    (i_can_go_home : PySem.W.isFn K (.ref x_can_go_home) = true)
    (l_can_go_home : K.lookup x_can_go_home = some ⟨oc_can_go_home, od_can_go_home, .func (PySem.W.fnOf "can_go_home" "Room.can_go_home" (defArgs s_can_go_home) (defBody s_can_go_home) (defScope s_can_go_home) .none kV_can_go_home dc_can_go_home pm_can_go_home an_can_go_home cd_can_go_home ct_can_go_home), sl_can_go_home⟩)
    (c_can_go_home : PySem.W.codeIn K cd_can_go_home "Room.can_go_home" = true)
    (k_can_go_home : PySem.W.keepIn K (.ref x_can_go_home) = true)
    {x_close : Addr} {od_close an_close : Option Addr} {sl_close : Array (Option Value)} {oc_close dc_close pm_close cd_close ct_close : Value}
    {kV_close : Value}
    (a_close : PySem.W.findIn K (.ref xR) "close" = some (some (.ref x_close)))
    (i_close : PySem.W.isFn K (.ref x_close) = true)
    (l_close : K.lookup x_close = some ⟨oc_close, od_close, .func (PySem.W.fnOf "close" "Room.close" (defArgs s_close) (defBody s_close) (defScope s_close) .none kV_close dc_close pm_close an_close cd_close ct_close), sl_close⟩)
    (c_close : PySem.W.codeIn K cd_close "Room.close" = true)
    (k_close : PySem.W.keepIn K (.ref x_close) = true)
    {x_lift : Addr} {od_lift an_lift : Option Addr} {sl_lift : Array (Option Value)} {oc_lift dc_lift pm_lift cd_lift ct_lift : Value}
    {kV_lift : Value}
    (a_lift : PySem.W.findIn K (.ref xR) "lift" = some (some (.ref x_lift)))
    (i_lift : PySem.W.isFn K (.ref x_lift) = true)
    (l_lift : K.lookup x_lift = some ⟨oc_lift, od_lift, .func (PySem.W.fnOf "lift" "Room.lift" (defArgs s_lift) (defBody s_lift) (defScope s_lift) .none kV_lift dc_lift pm_lift an_lift cd_lift ct_lift), sl_lift⟩)
    (c_lift : PySem.W.codeIn K cd_lift "Room.lift" = true)
    (k_lift : PySem.W.keepIn K (.ref x_lift) = true)
    {x_rstep : Addr} {od_rstep an_rstep : Option Addr} {sl_rstep : Array (Option Value)} {oc_rstep dc_rstep pm_rstep cd_rstep ct_rstep : Value}
    {kV_rstep : Value}
    (a_rstep : PySem.W.findIn K (.ref xR) "step" = some (some (.ref x_rstep)))
    (i_rstep : PySem.W.isFn K (.ref x_rstep) = true)
    (l_rstep : K.lookup x_rstep = some ⟨oc_rstep, od_rstep, .func (PySem.W.fnOf "step" "Room.step" (defArgs s_rstep) (defBody s_rstep) (defScope s_rstep) .none kV_rstep dc_rstep pm_rstep an_rstep cd_rstep ct_rstep), sl_rstep⟩)
    (c_rstep : PySem.W.codeIn K cd_rstep "Room.step" = true)
    (k_rstep : PySem.W.keepIn K (.ref x_rstep) = true)
    {x_oinit : Addr} {od_oinit an_oinit : Option Addr} {sl_oinit : Array (Option Value)} {oc_oinit dc_oinit pm_oinit cd_oinit ct_oinit : Value}
    {kV_oinit : Value}
    (a_oinit : PySem.W.findIn K (.ref xO2) "__init__" = some (some (.ref x_oinit)))
    (i_oinit : PySem.W.isFn K (.ref x_oinit) = true)
    (l_oinit : K.lookup x_oinit = some ⟨oc_oinit, od_oinit, .func (PySem.W.fnOf "__init__" "Orders.__init__" (defArgs s_oinit) (defBody s_oinit) (defScope s_oinit) .none kV_oinit dc_oinit pm_oinit an_oinit cd_oinit ct_oinit), sl_oinit⟩)
    (c_oinit : PySem.W.codeIn K cd_oinit "Orders.__init__" = true)
    (k_oinit : PySem.W.keepIn K (.ref x_oinit) = true)
    {x_hinit : Addr} {od_hinit an_hinit : Option Addr} {sl_hinit : Array (Option Value)} {oc_hinit dc_hinit pm_hinit cd_hinit ct_hinit : Value}
    {kV_hinit : Value}
    (a_hinit : PySem.W.findIn K (.ref xH) "__init__" = some (some (.ref x_hinit)))
    (i_hinit : PySem.W.isFn K (.ref x_hinit) = true)
    (l_hinit : K.lookup x_hinit = some ⟨oc_hinit, od_hinit, .func (PySem.W.fnOf "__init__" "Reach.__init__" (defArgs s_hinit) (defBody s_hinit) (defScope s_hinit) .none kV_hinit dc_hinit pm_hinit an_hinit cd_hinit ct_hinit), sl_hinit⟩)
    (c_hinit : PySem.W.codeIn K cd_hinit "Reach.__init__" = true)
    (k_hinit : PySem.W.keepIn K (.ref x_hinit) = true)
    {x_steps_from : Addr} {od_steps_from an_steps_from : Option Addr} {sl_steps_from : Array (Option Value)} {oc_steps_from dc_steps_from pm_steps_from cd_steps_from ct_steps_from : Value}
    {kV_steps_from : Value}
    (a_steps_from : PySem.W.findIn K (.ref xH) "steps_from" = some (some (.ref x_steps_from)))
    (i_steps_from : PySem.W.isFn K (.ref x_steps_from) = true)
    (l_steps_from : K.lookup x_steps_from = some ⟨oc_steps_from, od_steps_from, .func (PySem.W.fnOf "steps_from" "Reach.steps_from" (defArgs s_steps_from) (defBody s_steps_from) (defScope s_steps_from) .none kV_steps_from dc_steps_from pm_steps_from an_steps_from cd_steps_from ct_steps_from), sl_steps_from⟩)
    (c_steps_from : PySem.W.codeIn K cd_steps_from "Reach.steps_from" = true)
    (k_steps_from : PySem.W.keepIn K (.ref x_steps_from) = true)
    {x_meet : Addr} {od_meet an_meet : Option Addr} {sl_meet : Array (Option Value)} {oc_meet dc_meet pm_meet cd_meet ct_meet : Value}
    {kV_meet : Value}
    (a_meet : PySem.W.findIn K (.ref xH) "meet" = some (some (.ref x_meet)))
    (i_meet : PySem.W.isFn K (.ref x_meet) = true)
    (l_meet : K.lookup x_meet = some ⟨oc_meet, od_meet, .func (PySem.W.fnOf "meet" "Reach.meet" (defArgs s_meet) (defBody s_meet) (defScope s_meet) .none kV_meet dc_meet pm_meet an_meet cd_meet ct_meet), sl_meet⟩)
    (c_meet : PySem.W.codeIn K cd_meet "Reach.meet" = true)
    (k_meet : PySem.W.keepIn K (.ref x_meet) = true)
    {x_row_to : Addr} {od_row_to an_row_to : Option Addr} {sl_row_to : Array (Option Value)} {oc_row_to dc_row_to pm_row_to cd_row_to ct_row_to : Value}
    {kV_row_to : Value}
    (a_row_to : PySem.W.findIn K (.ref xH) "row_to" = some (some (.ref x_row_to)))
    (i_row_to : PySem.W.isFn K (.ref x_row_to) = true)
    (l_row_to : K.lookup x_row_to = some ⟨oc_row_to, od_row_to, .func (PySem.W.fnOf "row_to" "Reach.row_to" (defArgs s_row_to) (defBody s_row_to) (defScope s_row_to) .none kV_row_to dc_row_to pm_row_to an_row_to cd_row_to ct_row_to), sl_row_to⟩)
    (c_row_to : PySem.W.codeIn K cd_row_to "Reach.row_to" = true)
    (k_row_to : PySem.W.keepIn K (.ref x_row_to) = true)
    {x_makes_short : Addr} {od_makes_short an_makes_short : Option Addr} {sl_makes_short : Array (Option Value)} {oc_makes_short dc_makes_short pm_makes_short cd_makes_short ct_makes_short : Value}
    {kV_makes_short : Value}
    (a_makes_short : PySem.W.nsIn K mainGlobals "makes_short" = some (some (.ref x_makes_short)))
    (l_makes_short : K.lookup x_makes_short = some ⟨oc_makes_short, od_makes_short, .func (PySem.W.fnOf "makes_short" "makes_short" (defArgs s_makes_short) (defBody s_makes_short) (defScope s_makes_short) .none kV_makes_short dc_makes_short pm_makes_short an_makes_short cd_makes_short ct_makes_short), sl_makes_short⟩)
    (c_makes_short : PySem.W.codeIn K cd_makes_short "makes_short" = true)
    (k_makes_short : PySem.W.keepIn K (.ref x_makes_short) = true)
    {x_judge_orders : Addr} {od_judge_orders an_judge_orders : Option Addr} {sl_judge_orders : Array (Option Value)} {oc_judge_orders dc_judge_orders pm_judge_orders cd_judge_orders ct_judge_orders : Value}
    {kV_judge_orders : Value}
    (a_judge_orders : PySem.W.nsIn K mainGlobals "judge_orders" = some (some (.ref x_judge_orders)))
    (l_judge_orders : K.lookup x_judge_orders = some ⟨oc_judge_orders, od_judge_orders, .func (PySem.W.fnOf "judge_orders" "judge_orders" (defArgs s_judge_orders) (defBody s_judge_orders) (defScope s_judge_orders) .none kV_judge_orders dc_judge_orders pm_judge_orders an_judge_orders cd_judge_orders ct_judge_orders), sl_judge_orders⟩)
    (c_judge_orders : PySem.W.codeIn K cd_judge_orders "judge_orders" = true)
    (k_judge_orders : PySem.W.keepIn K (.ref x_judge_orders) = true)
    {x_is_safe : Addr} {od_is_safe an_is_safe : Option Addr} {sl_is_safe : Array (Option Value)} {oc_is_safe dc_is_safe pm_is_safe cd_is_safe ct_is_safe : Value}
    {kV_is_safe : Value}
    {y_is_safe : Addr} {rs_is_safe : List Value}
    (a_is_safe : PySem.W.findIn K (.ref xO2) "is_safe" = some (some (.ref y_is_safe)))
    (g_is_safe : PySem.W.specialIn K (.ref y_is_safe) "__get__" = some (some (.builtin "property.__get__")))
    (t_is_safe : PySem.W.takesIn K (.ref y_is_safe) = some true)
    (r_is_safe : PySem.W.recIn K y_is_safe "property" = some (.ref x_is_safe :: rs_is_safe))
    (l_is_safe : K.lookup x_is_safe = some ⟨oc_is_safe, od_is_safe, .func (PySem.W.fnOf "is_safe" "Orders.is_safe" (defArgs s_is_safe) (defBody s_is_safe) (defScope s_is_safe) .none kV_is_safe dc_is_safe pm_is_safe an_is_safe cd_is_safe ct_is_safe), sl_is_safe⟩)
    (c_is_safe : PySem.W.codeIn K cd_is_safe "Orders.is_safe" = true)
    (k_is_safe : PySem.W.keepIn K (.ref x_is_safe) = true)
    {x_winit : Addr} {od_winit an_winit : Option Addr} {sl_winit : Array (Option Value)} {oc_winit dc_winit pm_winit cd_winit ct_winit : Value}
    {kV_winit : Value}
    (a_winit : PySem.W.findIn K (.ref xW) "__init__" = some (some (.ref x_winit)))
    (i_winit : PySem.W.isFn K (.ref x_winit) = true)
    (l_winit : K.lookup x_winit = some ⟨oc_winit, od_winit, .func (PySem.W.fnOf "__init__" "Watch.__init__" (defArgs s_winit) (defBody s_winit) (defScope s_winit) .none kV_winit dc_winit pm_winit an_winit cd_winit ct_winit), sl_winit⟩)
    (c_winit : PySem.W.codeIn K cd_winit "Watch.__init__" = true)
    (k_winit : PySem.W.keepIn K (.ref x_winit) = true)
    {x_wstanding : Addr} {od_wstanding an_wstanding : Option Addr} {sl_wstanding : Array (Option Value)} {oc_wstanding dc_wstanding pm_wstanding cd_wstanding ct_wstanding : Value}
    {kV_wstanding : Value}
    {y_wstanding : Addr} {rs_wstanding : List Value}
    (a_wstanding : PySem.W.findIn K (.ref xW) "standing" = some (some (.ref y_wstanding)))
    (g_wstanding : PySem.W.specialIn K (.ref y_wstanding) "__get__" = some (some (.builtin "property.__get__")))
    (t_wstanding : PySem.W.takesIn K (.ref y_wstanding) = some true)
    (r_wstanding : PySem.W.recIn K y_wstanding "property" = some (.ref x_wstanding :: rs_wstanding))
    (l_wstanding : K.lookup x_wstanding = some ⟨oc_wstanding, od_wstanding, .func (PySem.W.fnOf "standing" "Watch.standing" (defArgs s_wstanding) (defBody s_wstanding) (defScope s_wstanding) .none kV_wstanding dc_wstanding pm_wstanding an_wstanding cd_wstanding ct_wstanding), sl_wstanding⟩)
    (c_wstanding : PySem.W.codeIn K cd_wstanding "Watch.standing" = true)
    (k_wstanding : PySem.W.keepIn K (.ref x_wstanding) = true)
    {x_wgrade : Addr} {od_wgrade an_wgrade : Option Addr} {sl_wgrade : Array (Option Value)} {oc_wgrade dc_wgrade pm_wgrade cd_wgrade ct_wgrade : Value}
    {kV_wgrade : Value}
    (a_wgrade : PySem.W.findIn K (.ref xW) "grade" = some (some (.ref x_wgrade)))
    (i_wgrade : PySem.W.isFn K (.ref x_wgrade) = true)
    (l_wgrade : K.lookup x_wgrade = some ⟨oc_wgrade, od_wgrade, .func (PySem.W.fnOf "grade" "Watch.grade" (defArgs s_wgrade) (defBody s_wgrade) (defScope s_wgrade) .none kV_wgrade dc_wgrade pm_wgrade an_wgrade cd_wgrade ct_wgrade), sl_wgrade⟩)
    (c_wgrade : PySem.W.codeIn K cd_wgrade "Watch.grade" = true)
    (k_wgrade : PySem.W.keepIn K (.ref x_wgrade) = true)
    {x_do_event : Addr} {od_do_event an_do_event : Option Addr} {sl_do_event : Array (Option Value)} {oc_do_event dc_do_event pm_do_event cd_do_event ct_do_event : Value}
    {kV_do_event : Value}
    (a_do_event : PySem.W.findIn K (.ref xW) "do_event" = some (some (.ref x_do_event)))
    (i_do_event : PySem.W.isFn K (.ref x_do_event) = true)
    (l_do_event : K.lookup x_do_event = some ⟨oc_do_event, od_do_event, .func (PySem.W.fnOf "do_event" "Watch.do_event" (defArgs s_do_event) (defBody s_do_event) (defScope s_do_event) .none kV_do_event dc_do_event pm_do_event an_do_event cd_do_event ct_do_event), sl_do_event⟩)
    (c_do_event : PySem.W.codeIn K cd_do_event "Watch.do_event" = true)
    (k_do_event : PySem.W.keepIn K (.ref x_do_event) = true)
    {x_wcall : Addr} {od_wcall an_wcall : Option Addr} {sl_wcall : Array (Option Value)} {oc_wcall dc_wcall pm_wcall cd_wcall ct_wcall : Value}
    {kV_wcall : Value}
    (a_wcall : PySem.W.findIn K (.ref xW) "call" = some (some (.ref x_wcall)))
    (i_wcall : PySem.W.isFn K (.ref x_wcall) = true)
    (l_wcall : K.lookup x_wcall = some ⟨oc_wcall, od_wcall, .func (PySem.W.fnOf "call" "Watch.call" (defArgs s_wcall) (defBody s_wcall) (defScope s_wcall) .none kV_wcall dc_wcall pm_wcall an_wcall cd_wcall ct_wcall), sl_wcall⟩)
    (c_wcall : PySem.W.codeIn K cd_wcall "Watch.call" = true)
    (k_wcall : PySem.W.keepIn K (.ref x_wcall) = true)
    {x_check_open : Addr} {od_check_open an_check_open : Option Addr} {sl_check_open : Array (Option Value)} {oc_check_open dc_check_open pm_check_open cd_check_open ct_check_open : Value}
    {kV_check_open : Value}
    (a_check_open : PySem.W.findIn K (.ref xW) "check_open" = some (some (.ref x_check_open)))
    (i_check_open : PySem.W.isFn K (.ref x_check_open) = true)
    (l_check_open : K.lookup x_check_open = some ⟨oc_check_open, od_check_open, .func (PySem.W.fnOf "check_open" "Watch.check_open" (defArgs s_check_open) (defBody s_check_open) (defScope s_check_open) .none kV_check_open dc_check_open pm_check_open an_check_open cd_check_open ct_check_open), sl_check_open⟩)
    (c_check_open : PySem.W.codeIn K cd_check_open "Watch.check_open" = true)
    (k_check_open : PySem.W.keepIn K (.ref x_check_open) = true)
    {x_wmore : Addr} {od_wmore an_wmore : Option Addr} {sl_wmore : Array (Option Value)} {oc_wmore dc_wmore pm_wmore cd_wmore ct_wmore : Value}
    {kV_wmore : Value}
    (a_wmore : PySem.W.findIn K (.ref xW) "more" = some (some (.ref x_wmore)))
    (i_wmore : PySem.W.isFn K (.ref x_wmore) = true)
    (l_wmore : K.lookup x_wmore = some ⟨oc_wmore, od_wmore, .func (PySem.W.fnOf "more" "Watch.more" (defArgs s_wmore) (defBody s_wmore) (defScope s_wmore) .none kV_wmore dc_wmore pm_wmore an_wmore cd_wmore ct_wmore), sl_wmore⟩)
    (c_wmore : PySem.W.codeIn K cd_wmore "Watch.more" = true)
    (k_wmore : PySem.W.keepIn K (.ref x_wmore) = true)
    {x_wback : Addr} {od_wback an_wback : Option Addr} {sl_wback : Array (Option Value)} {oc_wback dc_wback pm_wback cd_wback ct_wback : Value}
    {kV_wback : Value}
    (a_wback : PySem.W.findIn K (.ref xW) "back" = some (some (.ref x_wback)))
    (i_wback : PySem.W.isFn K (.ref x_wback) = true)
    (l_wback : K.lookup x_wback = some ⟨oc_wback, od_wback, .func (PySem.W.fnOf "back" "Watch.back" (defArgs s_wback) (defBody s_wback) (defScope s_wback) .none kV_wback dc_wback pm_wback an_wback cd_wback ct_wback), sl_wback⟩)
    (c_wback : PySem.W.codeIn K cd_wback "Watch.back" = true)
    (k_wback : PySem.W.keepIn K (.ref x_wback) = true)
    {x_bag : Addr} {od_bag an_bag : Option Addr} {sl_bag : Array (Option Value)} {oc_bag dc_bag pm_bag cd_bag ct_bag : Value}
    {kV_bag : Value}
    (a_bag : PySem.W.nsIn K mainGlobals "_law_bag" = some (some (.ref x_bag)))
    (l_bag : K.lookup x_bag = some ⟨oc_bag, od_bag, .func (PySem.W.fnOf "_law_bag" "_law_bag" (defArgs s_bag) (defBody s_bag) (defScope s_bag) .none kV_bag dc_bag pm_bag an_bag cd_bag ct_bag), sl_bag⟩)
    (c_bag : PySem.W.codeIn K cd_bag "_law_bag" = true)
    (k_bag : PySem.W.keepIn K (.ref x_bag) = true)
    {x_take : Addr} {od_take an_take : Option Addr} {sl_take : Array (Option Value)} {oc_take dc_take pm_take cd_take ct_take : Value}
    {kV_take : Value}
    (a_take : PySem.W.nsIn K mainGlobals "_law_take" = some (some (.ref x_take)))
    (l_take : K.lookup x_take = some ⟨oc_take, od_take, .func (PySem.W.fnOf "_law_take" "_law_take" (defArgs s_take) (defBody s_take) (defScope s_take) .none kV_take dc_take pm_take an_take cd_take ct_take), sl_take⟩)
    (c_take : PySem.W.codeIn K cd_take "_law_take" = true)
    (k_take : PySem.W.keepIn K (.ref x_take) = true)
    {x_of : Addr} {od_of an_of : Option Addr} {sl_of : Array (Option Value)} {oc_of dc_of pm_of cd_of ct_of : Value}
    {kV_of : Value}
    (a_of : PySem.W.nsIn K mainGlobals "_law_of" = some (some (.ref x_of)))
    (l_of : K.lookup x_of = some ⟨oc_of, od_of, .func (PySem.W.fnOf "_law_of" "_law_of" (defArgs s_of) (defBody s_of) (defScope s_of) .none kV_of dc_of pm_of an_of cd_of ct_of), sl_of⟩)
    (c_of : PySem.W.codeIn K cd_of "_law_of" = true)
    (k_of : PySem.W.keepIn K (.ref x_of) = true)
    {x_number : Addr} {od_number an_number : Option Addr} {sl_number : Array (Option Value)} {oc_number dc_number pm_number cd_number ct_number : Value}
    {kV_number : Value}
    (a_number : PySem.W.nsIn K mainGlobals "_law_number" = some (some (.ref x_number)))
    (l_number : K.lookup x_number = some ⟨oc_number, od_number, .func (PySem.W.fnOf "_law_number" "_law_number" (defArgs s_number) (defBody s_number) (defScope s_number) .none kV_number dc_number pm_number an_number cd_number ct_number), sl_number⟩)
    (c_number : PySem.W.codeIn K cd_number "_law_number" = true)
    (k_number : PySem.W.keepIn K (.ref x_number) = true)
    {x_numbers : Addr} {od_numbers an_numbers : Option Addr} {sl_numbers : Array (Option Value)} {oc_numbers dc_numbers pm_numbers cd_numbers ct_numbers : Value}
    {kV_numbers : Value}
    (a_numbers : PySem.W.nsIn K mainGlobals "_law_numbers" = some (some (.ref x_numbers)))
    (l_numbers : K.lookup x_numbers = some ⟨oc_numbers, od_numbers, .func (PySem.W.fnOf "_law_numbers" "_law_numbers" (defArgs s_numbers) (defBody s_numbers) (defScope s_numbers) .none kV_numbers dc_numbers pm_numbers an_numbers cd_numbers ct_numbers), sl_numbers⟩)
    (c_numbers : PySem.W.codeIn K cd_numbers "_law_numbers" = true)
    (k_numbers : PySem.W.keepIn K (.ref x_numbers) = true)
    {x_cards : Addr} {od_cards an_cards : Option Addr} {sl_cards : Array (Option Value)} {oc_cards dc_cards pm_cards cd_cards ct_cards : Value}
    {kV_cards : Value}
    (a_cards : PySem.W.nsIn K mainGlobals "_law_cards" = some (some (.ref x_cards)))
    (l_cards : K.lookup x_cards = some ⟨oc_cards, od_cards, .func (PySem.W.fnOf "_law_cards" "_law_cards" (defArgs s_cards) (defBody s_cards) (defScope s_cards) .none kV_cards dc_cards pm_cards an_cards cd_cards ct_cards), sl_cards⟩)
    (c_cards : PySem.W.codeIn K cd_cards "_law_cards" = true)
    (k_cards : PySem.W.keepIn K (.ref x_cards) = true)
    {x_sent : Addr} {od_sent an_sent : Option Addr} {sl_sent : Array (Option Value)} {oc_sent dc_sent pm_sent cd_sent ct_sent : Value}
    {kV_sent : Value}
    (a_sent : PySem.W.nsIn K mainGlobals "_law_sent" = some (some (.ref x_sent)))
    (l_sent : K.lookup x_sent = some ⟨oc_sent, od_sent, .func (PySem.W.fnOf "_law_sent" "_law_sent" (defArgs s_sent) (defBody s_sent) (defScope s_sent) .none kV_sent dc_sent pm_sent an_sent cd_sent ct_sent), sl_sent⟩)
    (c_sent : PySem.W.codeIn K cd_sent "_law_sent" = true)
    (k_sent : PySem.W.keepIn K (.ref x_sent) = true)
    {x_back : Addr} {od_back an_back : Option Addr} {sl_back : Array (Option Value)} {oc_back dc_back pm_back cd_back ct_back : Value}
    {kV_back : Value}
    (a_back : PySem.W.nsIn K mainGlobals "_law_back" = some (some (.ref x_back)))
    (l_back : K.lookup x_back = some ⟨oc_back, od_back, .func (PySem.W.fnOf "_law_back" "_law_back" (defArgs s_back) (defBody s_back) (defScope s_back) .none kV_back dc_back pm_back an_back cd_back ct_back), sl_back⟩)
    (c_back : PySem.W.codeIn K cd_back "_law_back" = true)
    (k_back : PySem.W.keepIn K (.ref x_back) = true)
    {x_step : Addr} {od_step an_step : Option Addr} {sl_step : Array (Option Value)} {oc_step dc_step pm_step cd_step ct_step : Value}
    {kV_step : Value}
    (a_step : PySem.W.nsIn K mainGlobals "_law_step" = some (some (.ref x_step)))
    (l_step : K.lookup x_step = some ⟨oc_step, od_step, .func (PySem.W.fnOf "_law_step" "_law_step" (defArgs s_step) (defBody s_step) (defScope s_step) .none kV_step dc_step pm_step an_step cd_step ct_step), sl_step⟩)
    (c_step : PySem.W.codeIn K cd_step "_law_step" = true)
    (k_step : PySem.W.keepIn K (.ref x_step) = true)
    {x_start : Addr} {od_start an_start : Option Addr} {sl_start : Array (Option Value)} {oc_start dc_start pm_start cd_start ct_start : Value}
    {kV_start : Value}
    (a_start : PySem.W.nsIn K mainGlobals "_law_start" = some (some (.ref x_start)))
    (l_start : K.lookup x_start = some ⟨oc_start, od_start, .func (PySem.W.fnOf "_law_start" "_law_start" (defArgs s_start) (defBody s_start) (defScope s_start) .none kV_start dc_start pm_start an_start cd_start ct_start), sl_start⟩)
    (c_start : PySem.W.codeIn K cd_start "_law_start" = true)
    (k_start : PySem.W.keepIn K (.ref x_start) = true)
    {x_allowed : Addr} {od_allowed an_allowed : Option Addr} {sl_allowed : Array (Option Value)} {oc_allowed dc_allowed pm_allowed cd_allowed ct_allowed : Value}
    {kV_allowed : Value}
    (a_allowed : PySem.W.nsIn K mainGlobals "_law_allowed" = some (some (.ref x_allowed)))
    (l_allowed : K.lookup x_allowed = some ⟨oc_allowed, od_allowed, .func (PySem.W.fnOf "_law_allowed" "_law_allowed" (defArgs s_allowed) (defBody s_allowed) (defScope s_allowed) .none kV_allowed dc_allowed pm_allowed an_allowed cd_allowed ct_allowed), sl_allowed⟩)
    (c_allowed : PySem.W.codeIn K cd_allowed "_law_allowed" = true)
    (k_allowed : PySem.W.keepIn K (.ref x_allowed) = true)
    {x_made : Addr} {od_made an_made : Option Addr} {sl_made : Array (Option Value)} {oc_made dc_made pm_made cd_made ct_made : Value}
    {kV_made : Value}
    (a_made : PySem.W.nsIn K mainGlobals "_law_made" = some (some (.ref x_made)))
    (l_made : K.lookup x_made = some ⟨oc_made, od_made, .func (PySem.W.fnOf "_law_made" "_law_made" (defArgs s_made) (defBody s_made) (defScope s_made) .none kV_made dc_made pm_made an_made cd_made ct_made), sl_made⟩)
    (c_made : PySem.W.codeIn K cd_made "_law_made" = true)
    (k_made : PySem.W.keepIn K (.ref x_made) = true)
    {x_room : Addr} {od_room an_room : Option Addr} {sl_room : Array (Option Value)} {oc_room dc_room pm_room cd_room ct_room : Value}
    {kV_room : Value}
    (a_room : PySem.W.nsIn K mainGlobals "_law_room" = some (some (.ref x_room)))
    (l_room : K.lookup x_room = some ⟨oc_room, od_room, .func (PySem.W.fnOf "_law_room" "_law_room" (defArgs s_room) (defBody s_room) (defScope s_room) .none kV_room dc_room pm_room an_room cd_room ct_room), sl_room⟩)
    (c_room : PySem.W.codeIn K cd_room "_law_room" = true)
    (k_room : PySem.W.keepIn K (.ref x_room) = true)
    {x_played : Addr} {od_played an_played : Option Addr} {sl_played : Array (Option Value)} {oc_played dc_played pm_played cd_played ct_played : Value}
    {kV_played : Value}
    (a_played : PySem.W.nsIn K mainGlobals "_law_played" = some (some (.ref x_played)))
    (l_played : K.lookup x_played = some ⟨oc_played, od_played, .func (PySem.W.fnOf "_law_played" "_law_played" (defArgs s_played) (defBody s_played) (defScope s_played) .none kV_played dc_played pm_played an_played cd_played ct_played), sl_played⟩)
    (c_played : PySem.W.codeIn K cd_played "_law_played" = true)
    (k_played : PySem.W.keepIn K (.ref x_played) = true)
    {x_row_stands : Addr} {od_row_stands an_row_stands : Option Addr} {sl_row_stands : Array (Option Value)} {oc_row_stands dc_row_stands pm_row_stands cd_row_stands ct_row_stands : Value}
    {kV_row_stands : Value}
    (a_row_stands : PySem.W.nsIn K mainGlobals "_law_row_stands" = some (some (.ref x_row_stands)))
    (l_row_stands : K.lookup x_row_stands = some ⟨oc_row_stands, od_row_stands, .func (PySem.W.fnOf "_law_row_stands" "_law_row_stands" (defArgs s_row_stands) (defBody s_row_stands) (defScope s_row_stands) .none kV_row_stands dc_row_stands pm_row_stands an_row_stands cd_row_stands ct_row_stands), sl_row_stands⟩)
    (c_row_stands : PySem.W.codeIn K cd_row_stands "_law_row_stands" = true)
    (k_row_stands : PySem.W.keepIn K (.ref x_row_stands) = true)
    {x_table_stands : Addr} {od_table_stands an_table_stands : Option Addr} {sl_table_stands : Array (Option Value)} {oc_table_stands dc_table_stands pm_table_stands cd_table_stands ct_table_stands : Value}
    {kV_table_stands : Value}
    (a_table_stands : PySem.W.nsIn K mainGlobals "_law_table_stands" = some (some (.ref x_table_stands)))
    (l_table_stands : K.lookup x_table_stands = some ⟨oc_table_stands, od_table_stands, .func (PySem.W.fnOf "_law_table_stands" "_law_table_stands" (defArgs s_table_stands) (defBody s_table_stands) (defScope s_table_stands) .none kV_table_stands dc_table_stands pm_table_stands an_table_stands cd_table_stands ct_table_stands), sl_table_stands⟩)
    (c_table_stands : PySem.W.codeIn K cd_table_stands "_law_table_stands" = true)
    (k_table_stands : PySem.W.keepIn K (.ref x_table_stands) = true)
    {x_stays : Addr} {od_stays an_stays : Option Addr} {sl_stays : Array (Option Value)} {oc_stays dc_stays pm_stays cd_stays ct_stays : Value}
    {kV_stays : Value}
    (a_stays : PySem.W.nsIn K mainGlobals "_law_stays" = some (some (.ref x_stays)))
    (l_stays : K.lookup x_stays = some ⟨oc_stays, od_stays, .func (PySem.W.fnOf "_law_stays" "_law_stays" (defArgs s_stays) (defBody s_stays) (defScope s_stays) .none kV_stays dc_stays pm_stays an_stays cd_stays ct_stays), sl_stays⟩)
    (c_stays : PySem.W.codeIn K cd_stays "_law_stays" = true)
    (k_stays : PySem.W.keepIn K (.ref x_stays) = true)
    {x_law : Addr} {od_law an_law : Option Addr} {sl_law : Array (Option Value)} {oc_law dc_law pm_law cd_law ct_law : Value}
    {kV_law : Value}
    (a_law : PySem.W.nsIn K mainGlobals "law" = some (some (.ref x_law)))
    (l_law : K.lookup x_law = some ⟨oc_law, od_law, .func (PySem.W.fnOf "law" "law" (defArgs s_law) (defBody s_law) (defScope s_law) .none kV_law dc_law pm_law an_law cd_law ct_law), sl_law⟩)
    (c_law : PySem.W.codeIn K cd_law "law" = true)
    (k_law : PySem.W.keepIn K (.ref x_law) = true)
    (pgC : PySem.W.plainGet K xC Str.empty = true)
    (hdC : PySem.W.hasDictIn K xC = true)
    (poC : PySem.W.plainOver K xC = true)
    (saC : PySem.W.findIn K (.ref xC) "__setattr__" = some (some (.builtin "object.__setattr__")))
    (mkC : PySem.W.makesIn K xC = true)
    (kcC : PySem.W.keepIn K (.ref xC) = true)
    (nNu : PySem.W.findIn K (.ref xC) "number" = some none)
    (nOr : PySem.W.findIn K (.ref xC) "order" = some none)
    (nCo : PySem.W.findIn K (.ref xC) "counts" = some none)
    (nOw : PySem.W.findIn K (.ref xC) "owed" = some none)
    (nMo : PySem.W.findIn K (.ref xC) "moves" = some none)
    (rdC : PySem.W.readsIn K xC (.type "type") = true)
    (gaC : PySem.W.specialIn K (.ref xC) "__getattribute__" = some (some (.builtin "type.__getattribute__")))
    (pgR : PySem.W.plainGet K xR Str.empty = true)
    (hdR : PySem.W.hasDictIn K xR = true)
    (poR : PySem.W.plainOver K xR = true)
    (saR : PySem.W.findIn K (.ref xR) "__setattr__" = some (some (.builtin "object.__setattr__")))
    (mkR : PySem.W.makesIn K xR = true)
    (kcR : PySem.W.keepIn K (.ref xR) = true)
    (nSt : PySem.W.findIn K (.ref xR) "stations" = some none)
    (nCa : PySem.W.findIn K (.ref xR) "cards" = some none)
    (nNs : PySem.W.findIn K (.ref xR) "numbers" = some none)
    (pgH : PySem.W.plainGet K xH Str.empty = true)
    (hdH : PySem.W.hasDictIn K xH = true)
    (poH : PySem.W.plainOver K xH = true)
    (saH : PySem.W.findIn K (.ref xH) "__setattr__" = some (some (.builtin "object.__setattr__")))
    (mkH : PySem.W.makesIn K xH = true)
    (kcH : PySem.W.keepIn K (.ref xH) = true)
    (nHr : PySem.W.findIn K (.ref xH) "room" = some none)
    (nHo : PySem.W.findIn K (.ref xH) "most_open" = some none)
    (nHm : PySem.W.findIn K (.ref xH) "met" = some none)
    (nHs : PySem.W.findIn K (.ref xH) "sources" = some none)
    (pgO : PySem.W.plainGet K xO2 Str.empty = true)
    (hdO : PySem.W.hasDictIn K xO2 = true)
    (poO : PySem.W.plainOver K xO2 = true)
    (saO : PySem.W.findIn K (.ref xO2) "__setattr__" = some (some (.builtin "object.__setattr__")))
    (mkO : PySem.W.makesIn K xO2 = true)
    (kcO : PySem.W.keepIn K (.ref xO2) = true)
    (nTa : PySem.W.findIn K (.ref xO2) "table" = some none)
    (nEv : PySem.W.findIn K (.ref xO2) "events" = some none)
    (icaO : PySem.W.findIn K (.ref xO2) "__class__" = some (some (.builtin "object.__class__")))
    (icnO : PySem.W.specialIn K (.builtin "object.__class__") "__get__" = some (some (.builtin "getset_descriptor.__get__")))
    (ictO : PySem.W.takesIn K (.builtin "object.__class__") = some true)
    (icmO : PySem.W.mroIn K xO2 (.type "object") = some true)
    (kSO : PySem.W.kitOne K (.ref xO2) (.ref xO2) = some true)
    (pgW : PySem.W.plainGet K xW Str.empty = true)
    (hdW : PySem.W.hasDictIn K xW = true)
    (poW : PySem.W.plainOver K xW = true)
    (saW : PySem.W.findIn K (.ref xW) "__setattr__" = some (some (.builtin "object.__setattr__")))
    (mkW : PySem.W.makesIn K xW = true)
    (kcW : PySem.W.keepIn K (.ref xW) = true)
    (nRo : PySem.W.findIn K (.ref xW) "_room" = some none)
    (nNw : PySem.W.findIn K (.ref xW) "_now" = some none)
    {tP : Tok}
    (vG : PySem.W.findCls K (.ref xC) (.type "type") "GRADES" = some (.val (.int 3 tP)))
    {t_DIGITS : Tok}
    (n_DIGITS : PySem.W.nsIn K mainGlobals "DIGITS" = some (some (.str "123456789" t_DIGITS)))
    {t_MOST_DIGITS : Tok}
    (n_MOST_DIGITS : PySem.W.nsIn K mainGlobals "MOST_DIGITS" = some (some (.int 4 t_MOST_DIGITS)))
    {t_GREATEST_SUM : Tok}
    (n_GREATEST_SUM : PySem.W.nsIn K mainGlobals "GREATEST_SUM" = some (some (.int 24 t_GREATEST_SUM)))
    {t_MOST_CREWS : Tok}
    (n_MOST_CREWS : PySem.W.nsIn K mainGlobals "MOST_CREWS" = some (some (.int 6 t_MOST_CREWS)))
    {t_LAST_CREW : Tok}
    (n_LAST_CREW : PySem.W.nsIn K mainGlobals "LAST_CREW" = some (some (.int 5 t_LAST_CREW)))
    {t_LAST_STATION : Tok}
    (n_LAST_STATION : PySem.W.nsIn K mainGlobals "LAST_STATION" = some (some (.int 8 t_LAST_STATION)))
    {t_MOST_MOVES : Tok}
    (n_MOST_MOVES : PySem.W.nsIn K mainGlobals "MOST_MOVES" = some (some (.int 6 t_MOST_MOVES)))
    {t_IN : Tok}
    (n_IN : PySem.W.nsIn K mainGlobals "IN" = some (some (.str "in" t_IN)))
    {t_OUT : Tok}
    (n_OUT : PySem.W.nsIn K mainGlobals "OUT" = some (some (.str "out" t_OUT)))
    {t_CALL : Tok}
    (n_CALL : PySem.W.nsIn K mainGlobals "CALL" = some (some (.str "call" t_CALL)))
    {t_MORE : Tok}
    (n_MORE : PySem.W.nsIn K mainGlobals "MORE" = some (some (.str "more" t_MORE)))
    {t_BACK : Tok}
    (n_BACK : PySem.W.nsIn K mainGlobals "BACK" = some (some (.str "back" t_BACK)))
    {t_MOST_STANDINGS : Tok}
    (n_MOST_STANDINGS : PySem.W.nsIn K mainGlobals "MOST_STANDINGS" = some (some (.int 3000 t_MOST_STANDINGS)))
    (z_abs : PySem.W.nsIn K mainGlobals "abs" = some none)
    (z_all : PySem.W.nsIn K mainGlobals "all" = some none)
    (z_any : PySem.W.nsIn K mainGlobals "any" = some none)
    (z_bool : PySem.W.nsIn K mainGlobals "bool" = some none)
    (z_enumerate : PySem.W.nsIn K mainGlobals "enumerate" = some none)
    (z_int : PySem.W.nsIn K mainGlobals "int" = some none)
    (z_isinstance : PySem.W.nsIn K mainGlobals "isinstance" = some none)
    (z_len : PySem.W.nsIn K mainGlobals "len" = some none)
    (z_list : PySem.W.nsIn K mainGlobals "list" = some none)
    (z_max : PySem.W.nsIn K mainGlobals "max" = some none)
    (z_min : PySem.W.nsIn K mainGlobals "min" = some none)
    (z_range : PySem.W.nsIn K mainGlobals "range" = some none)
    (z_repr : PySem.W.nsIn K mainGlobals "repr" = some none)
    (z_set : PySem.W.nsIn K mainGlobals "set" = some none)
    (z_str : PySem.W.nsIn K mainGlobals "str" = some none)
    (z_sum : PySem.W.nsIn K mainGlobals "sum" = some none)
    (z_tuple : PySem.W.nsIn K mainGlobals "tuple" = some none)
    (z_zip : PySem.W.nsIn K mainGlobals "zip" = some none)
    : ∃ fd : FuncData, (∀ (s : Shared) (v : Value), BindsTo s fd ⟨[v], []⟩ [("_law_script", v)]) ∧ ∀ base : Heap, K.In base → base.Ns mainGlobals mg → Rp.GOk l.prog w K mg base CX0 12 fa fd ["_law_script"] (sp_law K) := by
  have e := hfa.symm.trans (PySem.W.mg_of X G a_law)
  cases e
  have F_is_whole := fun_mk (st := s_is_whole) l_is_whole c_is_whole k_is_whole
  have b_is_whole := F_is_whole.binds (ps := ["thing"]) fun _ _ _ _ _ _ us hl => match us, hl with | [_], _ => rfl
  have F_is_whole_within := fun_mk (st := s_is_whole_within) l_is_whole_within c_is_whole_within k_is_whole_within
  have b_is_whole_within := F_is_whole_within.binds (ps := ["thing", "low", "high"]) fun _ _ _ _ _ _ us hl => match us, hl with | [_, _, _], _ => rfl
  have F_is_sequence := fun_mk (st := s_is_sequence) l_is_sequence c_is_sequence k_is_sequence
  have b_is_sequence := F_is_sequence.binds (ps := ["thing"]) fun _ _ _ _ _ _ us hl => match us, hl with | [_], _ => rfl
  have F_is_number := fun_mk (st := s_is_number) l_is_number c_is_number k_is_number
  have b_is_number := F_is_number.binds (ps := ["thing"]) fun _ _ _ _ _ _ us hl => match us, hl with | [_], _ => rfl
  have F_is_station := fun_mk (st := s_is_station) l_is_station c_is_station k_is_station
  have b_is_station := F_is_station.binds (ps := ["thing"]) fun _ _ _ _ _ _ us hl => match us, hl with | [_], _ => rfl
  have F_is_crew := fun_mk (st := s_is_crew) l_is_crew c_is_crew k_is_crew
  have b_is_crew := F_is_crew.binds (ps := ["thing"]) fun _ _ _ _ _ _ us hl => match us, hl with | [_], _ => rfl
  have F_is_stations := fun_mk (st := s_is_stations) l_is_stations c_is_stations k_is_stations
  have b_is_stations := F_is_stations.binds (ps := ["thing"]) fun _ _ _ _ _ _ us hl => match us, hl with | [_], _ => rfl
  have F_is_order := fun_mk (st := s_is_order) l_is_order c_is_order k_is_order
  have b_is_order := F_is_order.binds (ps := ["thing"]) fun _ _ _ _ _ _ us hl => match us, hl with | [_], _ => rfl
  have F_are_counts := fun_mk (st := s_are_counts) l_are_counts c_are_counts k_are_counts
  have b_are_counts := F_are_counts.binds (ps := ["thing"]) fun _ _ _ _ _ _ us hl => match us, hl with | [_], _ => rfl
  have F_is_move := fun_mk (st := s_is_move) l_is_move c_is_move k_is_move
  have b_is_move := F_is_move.binds (ps := ["thing"]) fun _ _ _ _ _ _ us hl => match us, hl with | [_], _ => rfl
  have F_are_moves := fun_mk (st := s_are_moves) l_are_moves c_are_moves k_are_moves
  have b_are_moves := F_are_moves.binds (ps := ["thing"]) fun _ _ _ _ _ _ us hl => match us, hl with | [_], _ => rfl
  have F_cinit : FunD K "__init__" "Card.__init__" (defArgs s_cinit) (defBody s_cinit) (defScope s_cinit) [] [("owed", V.ref xO), ("moves", V.ref xM)] x_cinit _ := ⟨⟨_, _, _, _, _, _, _, _, _, _, rfl, l_cinit, c_cinit, .inl ⟨rfl, rfl⟩, .inr ⟨xF, rfl, fun q m => by
    simp only [List.mem_cons, List.not_mem_nil, or_false] at m
    rcases m with rfl | rfl
    · exact ⟨_, e_owed, rfl⟩
    · exact ⟨_, e_moves, rfl⟩⟩⟩, k_cinit⟩
  have kb2 := F_cinit.kbinds0 (ps := ["self", "number", "order", "counts", "owed", "moves"]) 3 ["counts", "owed", "moves"] [] (fun vs mz zs => vs ++ zs) (List.cons_ne_nil _ _) (fun _ h => absurd h (by simp)) (fun a b c => a.append c) fun D doc pm an cdv ct us mv ws h1 h2 h3 => match us, mv, ws, h1, h2, h3 with | [_, _, _], [], [_, _, _], _, _, _ => rfl
  obtain ⟨_, kb2⟩ := kb2
  have F_check_crew := fun_mk (st := s_check_crew) l_check_crew c_check_crew k_check_crew
  have b_check_crew := F_check_crew.binds (ps := ["card", "crew", "stations"]) fun _ _ _ _ _ _ us hl => match us, hl with | [_, _, _], _ => rfl
  have F_check_card := fun_mk (st := s_check_card) l_check_card c_check_card k_check_card
  have b_check_card := F_check_card.binds (ps := ["card", "stations"]) fun _ _ _ _ _ _ us hl => match us, hl with | [_, _], _ => rfl
  have F_rinit := fun_mk (st := s_rinit) l_rinit c_rinit k_rinit
  have b_rinit := F_rinit.binds (ps := ["self", "stations", "cards"]) fun _ _ _ _ _ _ us hl => match us, hl with | [_, _, _], _ => rfl
  have F_rstart := fun_mk (st := s_rstart) l_rstart c_rstart k_rstart
  have b_rstart := F_rstart.binds (ps := ["self"]) fun _ _ _ _ _ _ us hl => match us, hl with | [_], _ => rfl
  have F_card_index := fun_mk (st := s_card_index) l_card_index c_card_index k_card_index
  have b_card_index := F_card_index.binds (ps := ["self", "number"]) fun _ _ _ _ _ _ us hl => match us, hl with | [_, _], _ => rfl
  have F_card_of := fun_mk (st := s_card_of) l_card_of c_card_of k_card_of
  have b_card_of := F_card_of.binds (ps := ["self", "number"]) fun _ _ _ _ _ _ us hl => match us, hl with | [_, _], _ => rfl
  have F_grade_in := fun_mk (st := s_grade_in) l_grade_in c_grade_in k_grade_in
  have b_grade_in := F_grade_in.binds (ps := ["self", "standing", "number"]) fun _ _ _ _ _ _ us hl => match us, hl with | [_, _, _], _ => rfl
  have F_open_count := fun_mk (st := s_open_count) l_open_count c_open_count k_open_count
  have b_open_count := F_open_count.binds (ps := ["grades"]) fun _ _ _ _ _ _ us hl => match us, hl with | [_], _ => rfl
  have F_rallowed := fun_mk (st := s_rallowed) l_rallowed c_rallowed k_rallowed
  have b_rallowed := F_rallowed.binds (ps := ["self", "standing", "most_open"]) fun _ _ _ _ _ _ us hl => match us, hl with | [_, _, _], _ => rfl
  have F_crews_at := fun_mk (st := s_crews_at) l_crews_at c_crews_at k_crews_at
  have b_crews_at := F_crews_at.binds (ps := ["places", "wanted"]) fun _ _ _ _ _ _ us hl => match us, hl with | [_, _], _ => rfl
  have F_can_move := fun_mk (st := s_can_move) l_can_move c_can_move k_can_move
  have b_can_move := F_can_move.binds (ps := ["places", "crew", "station"]) fun _ _ _ _ _ _ us hl => match us, hl with | [_, _, _], _ => rfl
  have F_with_grade := fun_mk (st := s_with_grade) l_with_grade c_with_grade k_with_grade
  have b_with_grade := F_with_grade.binds (ps := ["self", "standing", "places", "number", "grade"]) fun _ _ _ _ _ _ us hl => match us, hl with | [_, _, _, _, _], _ => rfl
  have F_can_go_home := fun_mk (st := s_can_go_home) l_can_go_home c_can_go_home k_can_go_home
  have b_can_go_home := F_can_go_home.binds (ps := ["self", "places", "crew"]) fun _ _ _ _ _ _ us hl => match us, hl with | [_, _, _], _ => rfl
  have F_close := fun_mk (st := s_close) l_close c_close k_close
  have b_close := F_close.binds (ps := ["self", "standing", "number"]) fun _ _ _ _ _ _ us hl => match us, hl with | [_, _, _], _ => rfl
  have F_lift := fun_mk (st := s_lift) l_lift c_lift k_lift
  have b_lift := F_lift.binds (ps := ["self", "standing", "number", "grade"]) fun _ _ _ _ _ _ us hl => match us, hl with | [_, _, _, _], _ => rfl
  have F_rstep := fun_mk (st := s_rstep) l_rstep c_rstep k_rstep
  have b_rstep := F_rstep.binds (ps := ["self", "standing", "event"]) fun _ _ _ _ _ _ us hl => match us, hl with | [_, _, _], _ => rfl
  have F_oinit := fun_mk (st := s_oinit) l_oinit c_oinit k_oinit
  have b_oinit := F_oinit.binds (ps := ["self", "table", "events"]) fun _ _ _ _ _ _ us hl => match us, hl with | [_, _, _], _ => rfl
  have F_hinit := fun_mk (st := s_hinit) l_hinit c_hinit k_hinit
  have b_hinit := F_hinit.binds (ps := ["self", "room", "most_open"]) fun _ _ _ _ _ _ us hl => match us, hl with | [_, _, _], _ => rfl
  have F_steps_from := fun_mk (st := s_steps_from) l_steps_from c_steps_from k_steps_from
  have b_steps_from := F_steps_from.binds (ps := ["self", "standing"]) fun _ _ _ _ _ _ us hl => match us, hl with | [_, _], _ => rfl
  have F_meet := fun_mk (st := s_meet) l_meet c_meet k_meet
  have b_meet := F_meet.binds (ps := ["self", "standing", "event", "after"]) fun _ _ _ _ _ _ us hl => match us, hl with | [_, _, _, _], _ => rfl
  have F_row_to := fun_mk (st := s_row_to) l_row_to c_row_to k_row_to
  have b_row_to := F_row_to.binds (ps := ["self", "standing"]) fun _ _ _ _ _ _ us hl => match us, hl with | [_, _], _ => rfl
  have F_makes_short := fun_mk (st := s_makes_short) l_makes_short c_makes_short k_makes_short
  have b_makes_short := F_makes_short.binds (ps := ["event", "told"]) fun _ _ _ _ _ _ us hl => match us, hl with | [_, _], _ => rfl
  have F_judge_orders := fun_mk (st := s_judge_orders) l_judge_orders c_judge_orders k_judge_orders
  have kb_judge_orders : KBn K (PySem.W.fnOf "judge_orders" "judge_orders" (defArgs s_judge_orders) (defBody s_judge_orders) (defScope s_judge_orders) .none kV_judge_orders dc_judge_orders pm_judge_orders an_judge_orders cd_judge_orders ct_judge_orders) ["room", "most_open"] 1 ["most_open"] (fun us ws => us ++ ws) (fun vs zs => vs ++ zs) := ⟨fun s us ws X l1 l2 => match us, ws, l1, l2 with | [_], [_], _, _ => .of_eq rfl, fun a b => a.append b⟩
  have F_is_safe := fun_mk (st := s_is_safe) l_is_safe c_is_safe k_is_safe
  have b_is_safe := F_is_safe.binds (ps := ["self"]) fun _ _ _ _ _ _ us hl => match us, hl with | [_], _ => rfl
  have F_winit := fun_mk (st := s_winit) l_winit c_winit k_winit
  have b_winit := F_winit.binds (ps := ["self", "room"]) fun _ _ _ _ _ _ us hl => match us, hl with | [_, _], _ => rfl
  have F_wstanding := fun_mk (st := s_wstanding) l_wstanding c_wstanding k_wstanding
  have b_wstanding := F_wstanding.binds (ps := ["self"]) fun _ _ _ _ _ _ us hl => match us, hl with | [_], _ => rfl
  have F_wgrade := fun_mk (st := s_wgrade) l_wgrade c_wgrade k_wgrade
  have b_wgrade := F_wgrade.binds (ps := ["self", "number"]) fun _ _ _ _ _ _ us hl => match us, hl with | [_, _], _ => rfl
  have F_do_event := fun_mk (st := s_do_event) l_do_event c_do_event k_do_event
  have b_do_event := F_do_event.binds (ps := ["self", "word", "number"]) fun _ _ _ _ _ _ us hl => match us, hl with | [_, _, _], _ => rfl
  have F_wcall := fun_mk (st := s_wcall) l_wcall c_wcall k_wcall
  have b_wcall := F_wcall.binds (ps := ["self", "number"]) fun _ _ _ _ _ _ us hl => match us, hl with | [_, _], _ => rfl
  have F_check_open := fun_mk (st := s_check_open) l_check_open c_check_open k_check_open
  have b_check_open := F_check_open.binds (ps := ["self", "number"]) fun _ _ _ _ _ _ us hl => match us, hl with | [_, _], _ => rfl
  have F_wmore := fun_mk (st := s_wmore) l_wmore c_wmore k_wmore
  have b_wmore := F_wmore.binds (ps := ["self", "number"]) fun _ _ _ _ _ _ us hl => match us, hl with | [_, _], _ => rfl
  have F_wback := fun_mk (st := s_wback) l_wback c_wback k_wback
  have b_wback := F_wback.binds (ps := ["self", "number"]) fun _ _ _ _ _ _ us hl => match us, hl with | [_, _], _ => rfl
  have F_bag := fun_mk (st := s_bag) l_bag c_bag k_bag
  have b_bag := F_bag.binds (ps := ["_law_script", "_law_at"]) fun _ _ _ _ _ _ us hl => match us, hl with | [_, _], _ => rfl
  have F_take := fun_mk (st := s_take) l_take c_take k_take
  have b_take := F_take.binds (ps := ["_law_bag_here", "_law_many"]) fun _ _ _ _ _ _ us hl => match us, hl with | [_, _], _ => rfl
  have F_of := fun_mk (st := s_of) l_of c_of k_of
  have b_of := F_of.binds (ps := ["_law_bag_here", "_law_some"]) fun _ _ _ _ _ _ us hl => match us, hl with | [_, _], _ => rfl
  have F_number := fun_mk (st := s_number) l_number c_number k_number
  have b_number := F_number.binds (ps := ["_law_bag_here"]) fun _ _ _ _ _ _ us hl => match us, hl with | [_], _ => rfl
  have F_numbers := fun_mk (st := s_numbers) l_numbers c_numbers k_numbers
  have b_numbers := F_numbers.binds (ps := ["_law_bag_here", "_law_many"]) fun _ _ _ _ _ _ us hl => match us, hl with | [_, _], _ => rfl
  have F_cards := fun_mk (st := s_cards) l_cards c_cards k_cards
  have b_cards := F_cards.binds (ps := ["_law_bag_here", "_law_numbers_here", "_law_stations", "_law_most_moves", "_law_way"]) fun _ _ _ _ _ _ us hl => match us, hl with | [_, _, _, _, _], _ => rfl
  have F_sent := fun_mk (st := s_sent) l_sent c_sent k_sent
  have b_sent := F_sent.binds (ps := ["_law_places", "_law_card", "_law_grade"]) fun _ _ _ _ _ _ us hl => match us, hl with | [_, _, _], _ => rfl
  have F_back := fun_mk (st := s_back) l_back c_back k_back
  have b_back := F_back.binds (ps := ["_law_places", "_law_stations", "_law_number_here"]) fun _ _ _ _ _ _ us hl => match us, hl with | [_, _, _], _ => rfl
  have F_step := fun_mk (st := s_step) l_step c_step k_step
  have b_step := F_step.binds (ps := ["_law_stations", "_law_cards_here", "_law_standing", "_law_event"]) fun _ _ _ _ _ _ us hl => match us, hl with | [_, _, _, _], _ => rfl
  have F_start := fun_mk (st := s_start) l_start c_start k_start
  have b_start := F_start.binds (ps := ["_law_stations", "_law_cards_here"]) fun _ _ _ _ _ _ us hl => match us, hl with | [_, _], _ => rfl
  have F_allowed := fun_mk (st := s_allowed) l_allowed c_allowed k_allowed
  have b_allowed := F_allowed.binds (ps := ["_law_cards_here", "_law_standing", "_law_most_open"]) fun _ _ _ _ _ _ us hl => match us, hl with | [_, _, _], _ => rfl
  have F_made := fun_mk (st := s_made) l_made c_made k_made
  have b_made := F_made.binds (ps := ["_law_card"]) fun _ _ _ _ _ _ us hl => match us, hl with | [_], _ => rfl
  have F_room := fun_mk (st := s_room) l_room c_room k_room
  have b_room := F_room.binds (ps := ["_law_bag_here"]) fun _ _ _ _ _ _ us hl => match us, hl with | [_], _ => rfl
  have F_played := fun_mk (st := s_played) l_played c_played k_played
  have b_played := F_played.binds (ps := ["_law_watch", "_law_event"]) fun _ _ _ _ _ _ us hl => match us, hl with | [_, _], _ => rfl
  have F_row_stands := fun_mk (st := s_row_stands) l_row_stands c_row_stands k_row_stands
  have b_row_stands := F_row_stands.binds (ps := ["_law_room_here", "_law_stations", "_law_cards_here", "_law_most_open", "_law_events"]) fun _ _ _ _ _ _ us hl => match us, hl with | [_, _, _, _, _], _ => rfl
  have F_table_stands := fun_mk (st := s_table_stands) l_table_stands c_table_stands k_table_stands
  have b_table_stands := F_table_stands.binds (ps := ["_law_stations", "_law_cards_here", "_law_most_open", "_law_table"]) fun _ _ _ _ _ _ us hl => match us, hl with | [_, _, _, _], _ => rfl
  have F_stays := fun_mk (st := s_stays) l_stays c_stays k_stays
  have b_stays := F_stays.binds (ps := ["_law_bag_here", "_law_room_here", "_law_stations", "_law_cards_here", "_law_most_open", "_law_table"]) fun _ _ _ _ _ _ us hl => match us, hl with | [_, _, _, _, _, _], _ => rfl
  have F_law := fun_mk (st := s_law) l_law c_law k_law
  have b_law := F_law.binds (ps := ["_law_script"]) fun _ _ _ _ _ _ us hl => match us, hl with | [_], _ => rfl
  have T : Σ' T : Txt K mg, T.a_law = fa ∧ T.d_law = PySem.W.fnOf "law" "law" (defArgs s_law) (defBody s_law) (defScope s_law) .none kV_law dc_law pm_law an_law cd_law ct_law :=
    ⟨{ CC := xC, gCC := PySem.W.mg_of X G axC, clCC := ⟨pgC, hdC, poC, saC⟩,
        RC := xR, gRC := PySem.W.mg_of X G axR, clRC := ⟨pgR, hdR, poR, saR⟩,
        HC := xH, gHC := PySem.W.mg_of X G axH, clHC := ⟨pgH, hdH, poH, saH⟩,
        OC := xO2, gOC := PySem.W.mg_of X G axO2, clOC := ⟨pgO, hdO, poO, saO⟩,
        isiO := ⟨icaO, icnO, ictO, icmO⟩, kSO := kSO,
        WC := xW, gWC := PySem.W.mg_of X G axW, clWC := ⟨pgW, hdW, poW, saW⟩,
        nNu := nNu, nOr := nOr, nCo := nCo, nOw := nOw, nMo := nMo, nSt := nSt, nCa := nCa, nNs := nNs, nHr := nHr, nHo := nHo, nHm := nHm, nHs := nHs, nTa := nTa, nEv := nEv, nRo := nRo, nNw := nNw,
        mcC := .type "type", rdC := ⟨rdC, gaC⟩, uG := _, vG := ⟨vG, ⟨_, rfl⟩⟩,
        a_is_whole := _, d_is_whole := _, F_is_whole := F_is_whole, b_is_whole := b_is_whole, g_is_whole := PySem.W.mg_of X G a_is_whole,
        a_is_whole_within := _, d_is_whole_within := _, F_is_whole_within := F_is_whole_within, b_is_whole_within := b_is_whole_within, g_is_whole_within := PySem.W.mg_of X G a_is_whole_within,
        a_is_sequence := _, d_is_sequence := _, F_is_sequence := F_is_sequence, b_is_sequence := b_is_sequence, g_is_sequence := PySem.W.mg_of X G a_is_sequence,
        a_is_number := _, d_is_number := _, F_is_number := F_is_number, b_is_number := b_is_number, g_is_number := PySem.W.mg_of X G a_is_number,
        a_is_station := _, d_is_station := _, F_is_station := F_is_station, b_is_station := b_is_station, g_is_station := PySem.W.mg_of X G a_is_station,
        a_is_crew := _, d_is_crew := _, F_is_crew := F_is_crew, b_is_crew := b_is_crew, g_is_crew := PySem.W.mg_of X G a_is_crew,
        a_is_stations := _, d_is_stations := _, F_is_stations := F_is_stations, b_is_stations := b_is_stations, g_is_stations := PySem.W.mg_of X G a_is_stations,
        a_is_order := _, d_is_order := _, F_is_order := F_is_order, b_is_order := b_is_order, g_is_order := PySem.W.mg_of X G a_is_order,
        a_are_counts := _, d_are_counts := _, F_are_counts := F_are_counts, b_are_counts := b_are_counts, g_are_counts := PySem.W.mg_of X G a_are_counts,
        a_is_move := _, d_is_move := _, F_is_move := F_is_move, b_is_move := b_is_move, g_is_move := PySem.W.mg_of X G a_is_move,
        a_are_moves := _, d_are_moves := _, F_are_moves := F_are_moves, b_are_moves := b_are_moves, g_are_moves := PySem.W.mg_of X G a_are_moves,
        a_cinit := _, d_cinit := _, F_cinit := F_cinit, mk_cinit := ⟨mkC, a_cinit, i_cinit, kcC⟩, kb_cinit := kb2, tO := xO, tM := xM,
        a_check_crew := _, d_check_crew := _, F_check_crew := F_check_crew, b_check_crew := b_check_crew, g_check_crew := PySem.W.mg_of X G a_check_crew,
        a_check_card := _, d_check_card := _, F_check_card := F_check_card, b_check_card := b_check_card, g_check_card := PySem.W.mg_of X G a_check_card,
        a_rinit := _, d_rinit := _, F_rinit := F_rinit, b_rinit := b_rinit, mk_rinit := ⟨mkR, a_rinit, i_rinit, kcR⟩,
        a_rstart := _, d_rstart := _, F_rstart := F_rstart, b_rstart := b_rstart, m_rstart := ⟨a_rstart, i_rstart, k_rstart⟩,
        a_card_index := _, d_card_index := _, F_card_index := F_card_index, b_card_index := b_card_index, m_card_index := ⟨a_card_index, i_card_index, k_card_index⟩,
        a_card_of := _, d_card_of := _, F_card_of := F_card_of, b_card_of := b_card_of, m_card_of := ⟨a_card_of, i_card_of, k_card_of⟩,
        a_grade_in := _, d_grade_in := _, F_grade_in := F_grade_in, b_grade_in := b_grade_in, m_grade_in := ⟨a_grade_in, i_grade_in, k_grade_in⟩,
        a_open_count := _, d_open_count := _, F_open_count := F_open_count, b_open_count := b_open_count, g_open_count := PySem.W.mg_of X G a_open_count,
        a_rallowed := _, d_rallowed := _, F_rallowed := F_rallowed, b_rallowed := b_rallowed, m_rallowed := ⟨a_rallowed, i_rallowed, k_rallowed⟩,
        a_crews_at := _, d_crews_at := _, F_crews_at := F_crews_at, b_crews_at := b_crews_at, g_crews_at := PySem.W.mg_of X G a_crews_at,
        a_can_move := _, d_can_move := _, F_can_move := F_can_move, b_can_move := b_can_move, g_can_move := PySem.W.mg_of X G a_can_move,
        a_with_grade := _, d_with_grade := _, F_with_grade := F_with_grade, b_with_grade := b_with_grade, m_with_grade := ⟨a_with_grade, i_with_grade, k_with_grade⟩,
        a_can_go_home := _, d_can_go_home := _, F_can_go_home := F_can_go_home, b_can_go_home := b_can_go_home, m_can_go_home := ⟨a_can_go_home, i_can_go_home, k_can_go_home⟩,
        a_close := _, d_close := _, F_close := F_close, b_close := b_close, m_close := ⟨a_close, i_close, k_close⟩,
        a_lift := _, d_lift := _, F_lift := F_lift, b_lift := b_lift, m_lift := ⟨a_lift, i_lift, k_lift⟩,
        a_rstep := _, d_rstep := _, F_rstep := F_rstep, b_rstep := b_rstep, m_rstep := ⟨a_rstep, i_rstep, k_rstep⟩,
        a_oinit := _, d_oinit := _, F_oinit := F_oinit, b_oinit := b_oinit, mk_oinit := ⟨mkO, a_oinit, i_oinit, kcO⟩,
        a_hinit := _, d_hinit := _, F_hinit := F_hinit, b_hinit := b_hinit, mk_hinit := ⟨mkH, a_hinit, i_hinit, kcH⟩,
        a_steps_from := _, d_steps_from := _, F_steps_from := F_steps_from, b_steps_from := b_steps_from, m_steps_from := ⟨a_steps_from, i_steps_from, k_steps_from⟩,
        a_meet := _, d_meet := _, F_meet := F_meet, b_meet := b_meet, m_meet := ⟨a_meet, i_meet, k_meet⟩,
        a_row_to := _, d_row_to := _, F_row_to := F_row_to, b_row_to := b_row_to, m_row_to := ⟨a_row_to, i_row_to, k_row_to⟩,
        a_makes_short := _, d_makes_short := _, F_makes_short := F_makes_short, b_makes_short := b_makes_short, g_makes_short := PySem.W.mg_of X G a_makes_short,
        a_judge_orders := _, d_judge_orders := _, F_judge_orders := F_judge_orders, g_judge_orders := PySem.W.mg_of X G a_judge_orders, kb_judge_orders := kb_judge_orders,
        a_is_safe := _, d_is_safe := _, F_is_safe := F_is_safe, b_is_safe := b_is_safe, pS := y_is_safe, prS := ⟨a_is_safe, g_is_safe, t_is_safe, rs_is_safe, r_is_safe⟩,
        a_winit := _, d_winit := _, F_winit := F_winit, b_winit := b_winit, mk_winit := ⟨mkW, a_winit, i_winit, kcW⟩,
        a_wstanding := _, d_wstanding := _, F_wstanding := F_wstanding, b_wstanding := b_wstanding, pL := y_wstanding, pr := ⟨a_wstanding, g_wstanding, t_wstanding, rs_wstanding, r_wstanding⟩,
        a_wgrade := _, d_wgrade := _, F_wgrade := F_wgrade, b_wgrade := b_wgrade, m_wgrade := ⟨a_wgrade, i_wgrade, k_wgrade⟩,
        a_do_event := _, d_do_event := _, F_do_event := F_do_event, b_do_event := b_do_event, m_do_event := ⟨a_do_event, i_do_event, k_do_event⟩,
        a_wcall := _, d_wcall := _, F_wcall := F_wcall, b_wcall := b_wcall, m_wcall := ⟨a_wcall, i_wcall, k_wcall⟩,
        a_check_open := _, d_check_open := _, F_check_open := F_check_open, b_check_open := b_check_open, m_check_open := ⟨a_check_open, i_check_open, k_check_open⟩,
        a_wmore := _, d_wmore := _, F_wmore := F_wmore, b_wmore := b_wmore, m_wmore := ⟨a_wmore, i_wmore, k_wmore⟩,
        a_wback := _, d_wback := _, F_wback := F_wback, b_wback := b_wback, m_wback := ⟨a_wback, i_wback, k_wback⟩,
        a_bag := _, d_bag := _, F_bag := F_bag, b_bag := b_bag, g_bag := PySem.W.mg_of X G a_bag,
        a_take := _, d_take := _, F_take := F_take, b_take := b_take, g_take := PySem.W.mg_of X G a_take,
        a_of := _, d_of := _, F_of := F_of, b_of := b_of, g_of := PySem.W.mg_of X G a_of,
        a_number := _, d_number := _, F_number := F_number, b_number := b_number, g_number := PySem.W.mg_of X G a_number,
        a_numbers := _, d_numbers := _, F_numbers := F_numbers, b_numbers := b_numbers, g_numbers := PySem.W.mg_of X G a_numbers,
        a_cards := _, d_cards := _, F_cards := F_cards, b_cards := b_cards, g_cards := PySem.W.mg_of X G a_cards,
        a_sent := _, d_sent := _, F_sent := F_sent, b_sent := b_sent, g_sent := PySem.W.mg_of X G a_sent,
        a_back := _, d_back := _, F_back := F_back, b_back := b_back, g_back := PySem.W.mg_of X G a_back,
        a_step := _, d_step := _, F_step := F_step, b_step := b_step, g_step := PySem.W.mg_of X G a_step,
        a_start := _, d_start := _, F_start := F_start, b_start := b_start, g_start := PySem.W.mg_of X G a_start,
        a_allowed := _, d_allowed := _, F_allowed := F_allowed, b_allowed := b_allowed, g_allowed := PySem.W.mg_of X G a_allowed,
        a_made := _, d_made := _, F_made := F_made, b_made := b_made, g_made := PySem.W.mg_of X G a_made,
        a_room := _, d_room := _, F_room := F_room, b_room := b_room, g_room := PySem.W.mg_of X G a_room,
        a_played := _, d_played := _, F_played := F_played, b_played := b_played, g_played := PySem.W.mg_of X G a_played,
        a_row_stands := _, d_row_stands := _, F_row_stands := F_row_stands, b_row_stands := b_row_stands, g_row_stands := PySem.W.mg_of X G a_row_stands,
        a_table_stands := _, d_table_stands := _, F_table_stands := F_table_stands, b_table_stands := b_table_stands, g_table_stands := PySem.W.mg_of X G a_table_stands,
        a_stays := _, d_stays := _, F_stays := F_stays, b_stays := b_stays, g_stays := PySem.W.mg_of X G a_stays,
        a_law := _, d_law := _, F_law := F_law, b_law := b_law, g_law := PySem.W.mg_of X G a_law,
        t_DIGITS := _, c_DIGITS := PySem.W.mg_of X G n_DIGITS,
        t_MOST_DIGITS := _, c_MOST_DIGITS := PySem.W.mg_of X G n_MOST_DIGITS,
        t_GREATEST_SUM := _, c_GREATEST_SUM := PySem.W.mg_of X G n_GREATEST_SUM,
        t_MOST_CREWS := _, c_MOST_CREWS := PySem.W.mg_of X G n_MOST_CREWS,
        t_LAST_CREW := _, c_LAST_CREW := PySem.W.mg_of X G n_LAST_CREW,
        t_LAST_STATION := _, c_LAST_STATION := PySem.W.mg_of X G n_LAST_STATION,
        t_MOST_MOVES := _, c_MOST_MOVES := PySem.W.mg_of X G n_MOST_MOVES,
        t_IN := _, c_IN := PySem.W.mg_of X G n_IN,
        t_OUT := _, c_OUT := PySem.W.mg_of X G n_OUT,
        t_CALL := _, c_CALL := PySem.W.mg_of X G n_CALL,
        t_MORE := _, c_MORE := PySem.W.mg_of X G n_MORE,
        t_BACK := _, c_BACK := PySem.W.mg_of X G n_BACK,
        t_MOST_STANDINGS := _, c_MOST_STANDINGS := PySem.W.mg_of X G n_MOST_STANDINGS,
        z_abs := PySem.W.mg_none_of X G z_abs,
        z_all := PySem.W.mg_none_of X G z_all,
        z_any := PySem.W.mg_none_of X G z_any,
        z_bool := PySem.W.mg_none_of X G z_bool,
        z_enumerate := PySem.W.mg_none_of X G z_enumerate,
        z_int := PySem.W.mg_none_of X G z_int,
        z_isinstance := PySem.W.mg_none_of X G z_isinstance,
        z_len := PySem.W.mg_none_of X G z_len,
        z_list := PySem.W.mg_none_of X G z_list,
        z_max := PySem.W.mg_none_of X G z_max,
        z_min := PySem.W.mg_none_of X G z_min,
        z_range := PySem.W.mg_none_of X G z_range,
        z_repr := PySem.W.mg_none_of X G z_repr,
        z_set := PySem.W.mg_none_of X G z_set,
        z_str := PySem.W.mg_none_of X G z_str,
        z_sum := PySem.W.mg_none_of X G z_sum,
        z_tuple := PySem.W.mg_none_of X G z_tuple,
        z_zip := PySem.W.mg_none_of X G z_zip }, rfl, rfl⟩
  obtain ⟨T, e1, e2⟩ := T
  subst e1
  refine ⟨T.d_law, fun s v => by rw [e2]; exact .of_eq rfl, fun base _ _ => ok_law T⟩
theorem walk {l : PySem.W.OpenLaw} {q : Program} {loose : List Str} {XP : (Str → Option Value) → Heap → Prop} {YP : World → Heap → Prop} {d : DefRec} {K : Params → PySem.W.Frag} (hn : l.most = some 63) (hdf : d.params.defaults = [])
    (hY : ∀ (w : World) (h : Heap), YP w h → (K w.params).In h)
    (F : ∀ (w : World) (mg : Str → Option Value) (fa : Addr) (h : Heap), (K w.params).In h → h.Ns mainGlobals mg → mg d.name = some (.ref fa) →
      ∃ fd : FuncData, (∀ (s : Shared) (u : Value), BindsTo s fd ⟨[u], []⟩ [("_law_script", u)]) ∧ ∀ base : Heap, (K w.params).In base → base.Ns mainGlobals mg → Rp.GOk l.prog w (K w.params) mg base CX0 12 fa fd ["_law_script"] (sp_law (K w.params))) :
    PySem.W.WalkO q loose XP YP l.row.toRowW d [] (fun f vs => PySem.call f vs) :=
  Rp.walk_gof (n := 63) (k := 12) (x := "_law_script") (CX := fun _ => CX0) (sp := fun w => sp_law (K w.params)) hn (by decide) hdf ⟨rfl, by decide, by decide⟩ hY F (fun w H a ns hl _ hS => ⟨a, ns, rfl, hS, hl, fun _ _ => rfl⟩) fun _ _ _ _ _ z => z
end K57

open PySem PySem.W PyProof.Rows in
set_option maxRecDepth 100000 in
set_option maxHeartbeats 0 in
theorem PySem.Challenge.cw_wheelchorus_k57_whole_orders_are_closed_holds : PySem.Challenge.rw_wheelchorus_k57_whole_orders_are_closed.Holds := by
  w_on; o_law; k_head; (case hw => w_witness2)
  k_fill
  refine K57.walk (l := PySem.Challenge.rw_wheelchorus_k57_whole_orders_are_closed) rfl rfl (fun w h Y => PySem.W.kIn_of Y) ?F
  case F =>
    intro w mg fa h KX G hmg
    refine' K57.all_mk KX G hmg ?axC ?axR ?axH ?axO2 ?axW ?a_is_whole ?l_is_whole ?c_is_whole ?k_is_whole ?a_is_whole_within ?l_is_whole_within ?c_is_whole_within ?k_is_whole_within ?a_is_sequence ?l_is_sequence ?c_is_sequence ?k_is_sequence ?a_is_number ?l_is_number ?c_is_number ?k_is_number ?a_is_station ?l_is_station ?c_is_station ?k_is_station ?a_is_crew ?l_is_crew ?c_is_crew ?k_is_crew ?a_is_stations ?l_is_stations ?c_is_stations ?k_is_stations ?a_is_order ?l_is_order ?c_is_order ?k_is_order ?a_are_counts ?l_are_counts ?c_are_counts ?k_are_counts ?a_is_move ?l_is_move ?c_is_move ?k_is_move ?a_are_moves ?l_are_moves ?c_are_moves ?k_are_moves ?a_cinit ?i_cinit ?l_cinit ?c_cinit ?k_cinit ?e_owed ?e_moves ?a_check_crew ?l_check_crew ?c_check_crew ?k_check_crew ?a_check_card ?l_check_card ?c_check_card ?k_check_card ?a_rinit ?i_rinit ?l_rinit ?c_rinit ?k_rinit ?a_rstart ?i_rstart ?l_rstart ?c_rstart ?k_rstart ?a_card_index ?i_card_index ?l_card_index ?c_card_index ?k_card_index ?a_card_of ?i_card_of ?l_card_of ?c_card_of ?k_card_of ?a_grade_in ?i_grade_in ?l_grade_in ?c_grade_in ?k_grade_in ?a_open_count ?l_open_count ?c_open_count ?k_open_count ?a_rallowed ?i_rallowed ?l_rallowed ?c_rallowed ?k_rallowed ?a_crews_at ?l_crews_at ?c_crews_at ?k_crews_at ?a_can_move ?l_can_move ?c_can_move ?k_can_move ?a_with_grade ?i_with_grade ?l_with_grade ?c_with_grade ?k_with_grade ?a_can_go_home ?i_can_go_home ?l_can_go_home ?c_can_go_home ?k_can_go_home ?a_close ?i_close ?l_close ?c_close ?k_close ?a_lift ?i_lift ?l_lift ?c_lift ?k_lift ?a_rstep ?i_rstep ?l_rstep ?c_rstep ?k_rstep ?a_oinit ?i_oinit ?l_oinit ?c_oinit ?k_oinit ?a_hinit ?i_hinit ?l_hinit ?c_hinit ?k_hinit ?a_steps_from ?i_steps_from ?l_steps_from ?c_steps_from ?k_steps_from ?a_meet ?i_meet ?l_meet ?c_meet ?k_meet ?a_row_to ?i_row_to ?l_row_to ?c_row_to ?k_row_to ?a_makes_short ?l_makes_short ?c_makes_short ?k_makes_short ?a_judge_orders ?l_judge_orders ?c_judge_orders ?k_judge_orders ?a_is_safe ?g_is_safe ?t_is_safe ?r_is_safe ?l_is_safe ?c_is_safe ?k_is_safe ?a_winit ?i_winit ?l_winit ?c_winit ?k_winit ?a_wstanding ?g_wstanding ?t_wstanding ?r_wstanding ?l_wstanding ?c_wstanding ?k_wstanding ?a_wgrade ?i_wgrade ?l_wgrade ?c_wgrade ?k_wgrade ?a_do_event ?i_do_event ?l_do_event ?c_do_event ?k_do_event ?a_wcall ?i_wcall ?l_wcall ?c_wcall ?k_wcall ?a_check_open ?i_check_open ?l_check_open ?c_check_open ?k_check_open ?a_wmore ?i_wmore ?l_wmore ?c_wmore ?k_wmore ?a_wback ?i_wback ?l_wback ?c_wback ?k_wback ?a_bag ?l_bag ?c_bag ?k_bag ?a_take ?l_take ?c_take ?k_take ?a_of ?l_of ?c_of ?k_of ?a_number ?l_number ?c_number ?k_number ?a_numbers ?l_numbers ?c_numbers ?k_numbers ?a_cards ?l_cards ?c_cards ?k_cards ?a_sent ?l_sent ?c_sent ?k_sent ?a_back ?l_back ?c_back ?k_back ?a_step ?l_step ?c_step ?k_step ?a_start ?l_start ?c_start ?k_start ?a_allowed ?l_allowed ?c_allowed ?k_allowed ?a_made ?l_made ?c_made ?k_made ?a_room ?l_room ?c_room ?k_room ?a_played ?l_played ?c_played ?k_played ?a_row_stands ?l_row_stands ?c_row_stands ?k_row_stands ?a_table_stands ?l_table_stands ?c_table_stands ?k_table_stands ?a_stays ?l_stays ?c_stays ?k_stays ?a_law ?l_law ?c_law ?k_law ?pgC ?hdC ?poC ?saC ?mkC ?kcC ?nNu ?nOr ?nCo ?nOw ?nMo ?rdC ?gaC ?pgR ?hdR ?poR ?saR ?mkR ?kcR ?nSt ?nCa ?nNs ?pgH ?hdH ?poH ?saH ?mkH ?kcH ?nHr ?nHo ?nHm ?nHs ?pgO ?hdO ?poO ?saO ?mkO ?kcO ?nTa ?nEv ?icaO ?icnO ?ictO ?icmO ?kSO ?pgW ?hdW ?poW ?saW ?mkW ?kcW ?nRo ?nNw ?vG ?n_DIGITS ?n_MOST_DIGITS ?n_GREATEST_SUM ?n_MOST_CREWS ?n_LAST_CREW ?n_LAST_STATION ?n_MOST_MOVES ?n_IN ?n_OUT ?n_CALL ?n_MORE ?n_BACK ?n_MOST_STANDINGS ?z_abs ?z_all ?z_any ?z_bool ?z_enumerate ?z_int ?z_isinstance ?z_len ?z_list ?z_max ?z_min ?z_range ?z_repr ?z_set ?z_str ?z_sum ?z_tuple ?z_zip
    (case axC => k_is)
    (case axR => k_is)
    (case axH => k_is)
    (case axO2 => k_is)
    (case axW => k_is)
    (case a_is_whole => k_is)
    (case l_is_whole => k_is)
    (case c_is_whole => k_is)
    (case k_is_whole => k_is)
    (case a_is_whole_within => k_is)
    (case l_is_whole_within => k_is)
    (case c_is_whole_within => k_is)
    (case k_is_whole_within => k_is)
    (case a_is_sequence => k_is)
    (case l_is_sequence => k_is)
    (case c_is_sequence => k_is)
    (case k_is_sequence => k_is)
    (case a_is_number => k_is)
    (case l_is_number => k_is)
    (case c_is_number => k_is)
    (case k_is_number => k_is)
    (case a_is_station => k_is)
    (case l_is_station => k_is)
    (case c_is_station => k_is)
    (case k_is_station => k_is)
    (case a_is_crew => k_is)
    (case l_is_crew => k_is)
    (case c_is_crew => k_is)
    (case k_is_crew => k_is)
    (case a_is_stations => k_is)
    (case l_is_stations => k_is)
    (case c_is_stations => k_is)
    (case k_is_stations => k_is)
    (case a_is_order => k_is)
    (case l_is_order => k_is)
    (case c_is_order => k_is)
    (case k_is_order => k_is)
    (case a_are_counts => k_is)
    (case l_are_counts => k_is)
    (case c_are_counts => k_is)
    (case k_are_counts => k_is)
    (case a_is_move => k_is)
    (case l_is_move => k_is)
    (case c_is_move => k_is)
    (case k_is_move => k_is)
    (case a_are_moves => k_is)
    (case l_are_moves => k_is)
    (case c_are_moves => k_is)
    (case k_are_moves => k_is)
    (case a_cinit => k_is)
    (case i_cinit => k_is)
    (case l_cinit => k_is)
    (case c_cinit => k_is)
    (case k_cinit => k_is)
    (case e_owed => k_is)
    (case e_moves => k_is)
    (case a_check_crew => k_is)
    (case l_check_crew => k_is)
    (case c_check_crew => k_is)
    (case k_check_crew => k_is)
    (case a_check_card => k_is)
    (case l_check_card => k_is)
    (case c_check_card => k_is)
    (case k_check_card => k_is)
    (case a_rinit => k_is)
    (case i_rinit => k_is)
    (case l_rinit => k_is)
    (case c_rinit => k_is)
    (case k_rinit => k_is)
    (case a_rstart => k_is)
    (case i_rstart => k_is)
    (case l_rstart => k_is)
    (case c_rstart => k_is)
    (case k_rstart => k_is)
    (case a_card_index => k_is)
    (case i_card_index => k_is)
    (case l_card_index => k_is)
    (case c_card_index => k_is)
    (case k_card_index => k_is)
    (case a_card_of => k_is)
    (case i_card_of => k_is)
    (case l_card_of => k_is)
    (case c_card_of => k_is)
    (case k_card_of => k_is)
    (case a_grade_in => k_is)
    (case i_grade_in => k_is)
    (case l_grade_in => k_is)
    (case c_grade_in => k_is)
    (case k_grade_in => k_is)
    (case a_open_count => k_is)
    (case l_open_count => k_is)
    (case c_open_count => k_is)
    (case k_open_count => k_is)
    (case a_rallowed => k_is)
    (case i_rallowed => k_is)
    (case l_rallowed => k_is)
    (case c_rallowed => k_is)
    (case k_rallowed => k_is)
    (case a_crews_at => k_is)
    (case l_crews_at => k_is)
    (case c_crews_at => k_is)
    (case k_crews_at => k_is)
    (case a_can_move => k_is)
    (case l_can_move => k_is)
    (case c_can_move => k_is)
    (case k_can_move => k_is)
    (case a_with_grade => k_is)
    (case i_with_grade => k_is)
    (case l_with_grade => k_is)
    (case c_with_grade => k_is)
    (case k_with_grade => k_is)
    (case a_can_go_home => k_is)
    (case i_can_go_home => k_is)
    (case l_can_go_home => k_is)
    (case c_can_go_home => k_is)
    (case k_can_go_home => k_is)
    (case a_close => k_is)
    (case i_close => k_is)
    (case l_close => k_is)
    (case c_close => k_is)
    (case k_close => k_is)
    (case a_lift => k_is)
    (case i_lift => k_is)
    (case l_lift => k_is)
    (case c_lift => k_is)
    (case k_lift => k_is)
    (case a_rstep => k_is)
    (case i_rstep => k_is)
    (case l_rstep => k_is)
    (case c_rstep => k_is)
    (case k_rstep => k_is)
    (case a_oinit => k_is)
    (case i_oinit => k_is)
    (case l_oinit => k_is)
    (case c_oinit => k_is)
    (case k_oinit => k_is)
    (case a_hinit => k_is)
    (case i_hinit => k_is)
    (case l_hinit => k_is)
    (case c_hinit => k_is)
    (case k_hinit => k_is)
    (case a_steps_from => k_is)
    (case i_steps_from => k_is)
    (case l_steps_from => k_is)
    (case c_steps_from => k_is)
    (case k_steps_from => k_is)
    (case a_meet => k_is)
    (case i_meet => k_is)
    (case l_meet => k_is)
    (case c_meet => k_is)
    (case k_meet => k_is)
    (case a_row_to => k_is)
    (case i_row_to => k_is)
    (case l_row_to => k_is)
    (case c_row_to => k_is)
    (case k_row_to => k_is)
    (case a_makes_short => k_is)
    (case l_makes_short => k_is)
    (case c_makes_short => k_is)
    (case k_makes_short => k_is)
    (case a_judge_orders => k_is)
    (case l_judge_orders => k_is)
    (case c_judge_orders => k_is)
    (case k_judge_orders => k_is)
    (case a_is_safe => k_is)
    (case g_is_safe => k_is)
    (case t_is_safe => k_is)
    (case r_is_safe => k_is)
    (case l_is_safe => k_is)
    (case c_is_safe => k_is)
    (case k_is_safe => k_is)
    (case a_winit => k_is)
    (case i_winit => k_is)
    (case l_winit => k_is)
    (case c_winit => k_is)
    (case k_winit => k_is)
    (case a_wstanding => k_is)
    (case g_wstanding => k_is)
    (case t_wstanding => k_is)
    (case r_wstanding => k_is)
    (case l_wstanding => k_is)
    (case c_wstanding => k_is)
    (case k_wstanding => k_is)
    (case a_wgrade => k_is)
    (case i_wgrade => k_is)
    (case l_wgrade => k_is)
    (case c_wgrade => k_is)
    (case k_wgrade => k_is)
    (case a_do_event => k_is)
    (case i_do_event => k_is)
    (case l_do_event => k_is)
    (case c_do_event => k_is)
    (case k_do_event => k_is)
    (case a_wcall => k_is)
    (case i_wcall => k_is)
    (case l_wcall => k_is)
    (case c_wcall => k_is)
    (case k_wcall => k_is)
    (case a_check_open => k_is)
    (case i_check_open => k_is)
    (case l_check_open => k_is)
    (case c_check_open => k_is)
    (case k_check_open => k_is)
    (case a_wmore => k_is)
    (case i_wmore => k_is)
    (case l_wmore => k_is)
    (case c_wmore => k_is)
    (case k_wmore => k_is)
    (case a_wback => k_is)
    (case i_wback => k_is)
    (case l_wback => k_is)
    (case c_wback => k_is)
    (case k_wback => k_is)
    (case a_bag => k_is)
    (case l_bag => k_is)
    (case c_bag => k_is)
    (case k_bag => k_is)
    (case a_take => k_is)
    (case l_take => k_is)
    (case c_take => k_is)
    (case k_take => k_is)
    (case a_of => k_is)
    (case l_of => k_is)
    (case c_of => k_is)
    (case k_of => k_is)
    (case a_number => k_is)
    (case l_number => k_is)
    (case c_number => k_is)
    (case k_number => k_is)
    (case a_numbers => k_is)
    (case l_numbers => k_is)
    (case c_numbers => k_is)
    (case k_numbers => k_is)
    (case a_cards => k_is)
    (case l_cards => k_is)
    (case c_cards => k_is)
    (case k_cards => k_is)
    (case a_sent => k_is)
    (case l_sent => k_is)
    (case c_sent => k_is)
    (case k_sent => k_is)
    (case a_back => k_is)
    (case l_back => k_is)
    (case c_back => k_is)
    (case k_back => k_is)
    (case a_step => k_is)
    (case l_step => k_is)
    (case c_step => k_is)
    (case k_step => k_is)
    (case a_start => k_is)
    (case l_start => k_is)
    (case c_start => k_is)
    (case k_start => k_is)
    (case a_allowed => k_is)
    (case l_allowed => k_is)
    (case c_allowed => k_is)
    (case k_allowed => k_is)
    (case a_made => k_is)
    (case l_made => k_is)
    (case c_made => k_is)
    (case k_made => k_is)
    (case a_room => k_is)
    (case l_room => k_is)
    (case c_room => k_is)
    (case k_room => k_is)
    (case a_played => k_is)
    (case l_played => k_is)
    (case c_played => k_is)
    (case k_played => k_is)
    (case a_row_stands => k_is)
    (case l_row_stands => k_is)
    (case c_row_stands => k_is)
    (case k_row_stands => k_is)
    (case a_table_stands => k_is)
    (case l_table_stands => k_is)
    (case c_table_stands => k_is)
    (case k_table_stands => k_is)
    (case a_stays => k_is)
    (case l_stays => k_is)
    (case c_stays => k_is)
    (case k_stays => k_is)
    (case a_law => k_is)
    (case l_law => k_is)
    (case c_law => k_is)
    (case k_law => k_is)
    (case pgC => k_is)
    (case hdC => k_is)
    (case poC => k_is)
    (case saC => k_is)
    (case mkC => k_is)
    (case kcC => k_is)
    (case nNu => k_is)
    (case nOr => k_is)
    (case nCo => k_is)
    (case nOw => k_is)
    (case nMo => k_is)
    (case rdC => k_is)
    (case gaC => k_is)
    (case pgR => k_is)
    (case hdR => k_is)
    (case poR => k_is)
    (case saR => k_is)
    (case mkR => k_is)
    (case kcR => k_is)
    (case nSt => k_is)
    (case nCa => k_is)
    (case nNs => k_is)
    (case pgH => k_is)
    (case hdH => k_is)
    (case poH => k_is)
    (case saH => k_is)
    (case mkH => k_is)
    (case kcH => k_is)
    (case nHr => k_is)
    (case nHo => k_is)
    (case nHm => k_is)
    (case nHs => k_is)
    (case pgO => k_is)
    (case hdO => k_is)
    (case poO => k_is)
    (case saO => k_is)
    (case mkO => k_is)
    (case kcO => k_is)
    (case nTa => k_is)
    (case nEv => k_is)
    (case icaO => k_is)
    (case icnO => k_is)
    (case ictO => k_is)
    (case icmO => k_is)
    (case kSO => first | k_is | kit_is | (decide +kernel))
    (case pgW => k_is)
    (case hdW => k_is)
    (case poW => k_is)
    (case saW => k_is)
    (case mkW => k_is)
    (case kcW => k_is)
    (case nRo => k_is)
    (case nNw => k_is)
    (case vG => k_is)
    (case n_DIGITS => k_is)
    (case n_MOST_DIGITS => k_is)
    (case n_GREATEST_SUM => k_is)
    (case n_MOST_CREWS => k_is)
    (case n_LAST_CREW => k_is)
    (case n_LAST_STATION => k_is)
    (case n_MOST_MOVES => k_is)
    (case n_IN => k_is)
    (case n_OUT => k_is)
    (case n_CALL => k_is)
    (case n_MORE => k_is)
    (case n_BACK => k_is)
    (case n_MOST_STANDINGS => k_is)
    (case z_abs => k_is)
    (case z_all => k_is)
    (case z_any => k_is)
    (case z_bool => k_is)
    (case z_enumerate => k_is)
    (case z_int => k_is)
    (case z_isinstance => k_is)
    (case z_len => k_is)
    (case z_list => k_is)
    (case z_max => k_is)
    (case z_min => k_is)
    (case z_range => k_is)
    (case z_repr => k_is)
    (case z_set => k_is)
    (case z_str => k_is)
    (case z_sum => k_is)
    (case z_tuple => k_is)
    (case z_zip => k_is)
