import PyProof.Rows.All
import Wide.All
import OpenK.AllK
import Wide.FinOn
import HandS.ForMost
import HandS.SlotsOwn
import HandS.Wide
import HandS.IsInst
import HandS.Style
import HandS.Zip
import HandS.Walk
import HandS.Exc
import HandS.TryOnly
import HandS.ExcOwn
import HandS.WordsExc
import HandS.ExcIs
import KE.OsGo
import HandS.Codes
import HandS.Text
import KE.IntTextLaws
import KE.KExcIs
import KE.DataEq
import KE.KTupSum
import HandS.Defaults
import HandS.MakeKw
import HandS.MakeKwOnly
import HandS.ClsMeth
import HandS.Strs
import KE.GoesMore
import HandS.TupAny
import HandS.TupMul
import HandS.TryMany
import HandS.ExcCtx
import HandS.TupSets
import HandS.SetFor
import HandS.OwnIter
import HandS.IterVal
import PyProof.P3In
import KE.DataFind
import PyProof.ListMulRoad
import PyProof.FactsAll.tuple_2
import KE.KeyNested
import KE.KDictDisplayH
import PyProof.Rows.TupTab
import KE.DataMinMax
import KE.DatumOrd
import KE.KDictCopyH
import KE.KDictWalk
import KE.SortData
import KE.SortCalls
import HandS.More
import HandS.Dict
import PyProof.DictRoadsH
import PyProof.Rows.SortShellAny
import HandS.SortInts
import PyProof.ReprRoads
import HandS.Conv
import HandS.DictComp
import KE.KOpsOwn
import HandS.GenList
import PyProof.ListStr
import HandS.Property
import HandS.TupLe
import HandS.Star
import PySem.Challenge.RW_wheelchorus_k59_tables_of_standings_judg
import HandS.FStr
import HandS.Base
import HandS.Call
import HandS.Ends
import HandS.Head0
import HandS.Head1
import HandS.Head2
import HandS.HeadEnd
import HandS.HeadHook1
import HandS.HeadHook2
set_option Elab.async false
set_option linter.all false
set_option maxRecDepth 100000
set_option maxHeartbeats 4000000
/-! Numbers as lists of digits, their rows, and where two rows part. -/
namespace Wm
open PySem L2
def codes (ds : List Nat) : List Nat := ds.map (· + 48)
def numS (ds : List Nat) : Str := ⟨(codes ds).toArray⟩
structure Dig (ds : List Nat) : Prop where
  dig : ∀ d ∈ ds, 1 ≤ d ∧ d ≤ 9
structure Num (ds : List Nat) : Prop where
  pos : 1 ≤ ds.length
  len : ds.length ≤ 4
  dig : ∀ d ∈ ds, 1 ≤ d ∧ d ≤ 9
  sum : ds.sum ≤ 24
def blk (d : Nat) : List Int := (List.replicate d [1, 0]).flatten
def rowL : List Nat → List Int
  | [] => [0, 0]
  | d :: ds => blk d ++ ([0, 0] ++ rowL ds)
structure Diff (xs ys : List Int) (k : Nat) (a b : Int) : Prop where
  one : xs[k]? = some a
  two : ys[k]? = some b
  ne : a ≠ b
  eq : ∀ j, j < k → xs[j]? = ys[j]?
theorem Diff.symm {xs ys : List Int} {k : Nat} {a b : Int} (h : Diff xs ys k a b) : Diff ys xs k b a :=
  ⟨h.two, h.one, h.ne.symm, fun j l => (h.eq j l).symm⟩
theorem Diff.cons {xs ys : List Int} {k : Nat} {a b : Int} (z : Int) (h : Diff xs ys k a b) : Diff (z :: xs) (z :: ys) (k + 1) a b := by
  refine ⟨by simpa using h.one, by simpa using h.two, h.ne, fun j l => ?_⟩
  cases j with
  | zero => rfl
  | succ j => simpa using h.eq j (by omega)
theorem Diff.app {xs ys : List Int} {k : Nat} {a b : Int} : ∀ (p : List Int), Diff xs ys k a b → Diff (p ++ xs) (p ++ ys) (p.length + k) a b
  | [], h => by simpa using h
  | z :: p, h => by
    have ih := (Diff.app p h).cons z
    have e : (z :: p).length + k = p.length + k + 1 := by simp only [List.length_cons]; omega
    rw [e]
    exact ih
theorem Diff.uniq {xs ys : List Int} {k l : Nat} {a b c d : Int} (h : Diff xs ys k a b) (g : Diff xs ys l c d) : k = l ∧ a = c ∧ b = d := by
  have e : k = l := by
    rcases Nat.lt_trichotomy k l with x | x | x
    · exact absurd (by have q := g.eq k x; rw [h.one, h.two] at q; exact Option.some.inj q) h.ne
    · exact x
    · exact absurd (by have q := h.eq l x; rw [g.one, g.two] at q; exact Option.some.inj q) g.ne
  subst e
  exact ⟨rfl, Option.some.inj (h.one.symm.trans g.one), Option.some.inj (h.two.symm.trans g.two)⟩
theorem Diff.lt1 {xs ys : List Int} {k : Nat} {a b : Int} (h : Diff xs ys k a b) : k < xs.length := (List.getElem?_eq_some_iff.mp h.one).1
theorem Diff.lt2 {xs ys : List Int} {k : Nat} {a b : Int} (h : Diff xs ys k a b) : k < ys.length := (List.getElem?_eq_some_iff.mp h.two).1
theorem blk_add (d e : Nat) : blk (d + e) = blk d ++ blk e := by
  unfold blk
  rw [← List.replicate_append_replicate, List.flatten_append]
theorem blk_succ (e : Nat) : blk (e + 1) = [1, 0] ++ blk e := by
  rw [Nat.add_comm, blk_add]
  rfl
theorem blk_len (d : Nat) : (blk d).length = 2 * d := by
  induction d with
  | zero => rfl
  | succ d ih => rw [blk_succ, List.length_append, ih]; simp only [List.length_cons, List.length_nil]; omega
theorem row_less (d e : Nat) (ds es : List Nat) (h : d < e) : Diff (rowL (d :: ds)) (rowL (e :: es)) (2 * d) 0 1 := by
  obtain ⟨f, rfl⟩ : ∃ f, e = d + (f + 1) := ⟨e - d - 1, by omega⟩
  have h0 : Diff ([0, 0] ++ rowL ds) ([1, 0] ++ (blk f ++ ([0, 0] ++ rowL es))) 0 0 1 := ⟨rfl, rfl, by decide, fun j l => absurd l (Nat.not_lt_zero _)⟩
  have h1 := h0.app (blk d)
  rw [blk_len, Nat.add_zero] at h1
  have e1 : rowL ((d + (f + 1)) :: es) = blk d ++ ([1, 0] ++ (blk f ++ ([0, 0] ++ rowL es))) := by
    show blk (d + (f + 1)) ++ _ = _
    rw [blk_add, blk_succ, List.append_assoc, List.append_assoc]
  rw [e1]
  exact h1
theorem rows_part : ∀ (ds es : List Nat), (∀ d ∈ ds, 1 ≤ d) → (∀ e ∈ es, 1 ≤ e) →
    ds = es ∨ (∃ k, Diff (rowL ds) (rowL es) k 1 0 ∧ es < ds) ∨ (∃ k, Diff (rowL ds) (rowL es) k 0 1 ∧ ds < es)
  | [], [], _, _ => .inl rfl
  | [], e :: es, _, h => by
    obtain ⟨f, rfl⟩ : ∃ f, e = f + 1 := ⟨e - 1, by have := h e (by simp); omega⟩
    refine .inr (.inr ⟨0, ⟨rfl, ?_, by decide, fun j l => absurd l (Nat.not_lt_zero _)⟩, List.nil_lt_cons _ _⟩)
    show (blk (f + 1) ++ _)[0]? = _
    rw [blk_succ]
    rfl
  | d :: ds, [], h, _ => by
    obtain ⟨f, rfl⟩ : ∃ f, d = f + 1 := ⟨d - 1, by have := h d (by simp); omega⟩
    refine .inr (.inl ⟨0, ⟨?_, rfl, by decide, fun j l => absurd l (Nat.not_lt_zero _)⟩, List.nil_lt_cons _ _⟩)
    show (blk (f + 1) ++ _)[0]? = _
    rw [blk_succ]
    rfl
  | d :: ds, e :: es, h, g => by
    rcases Nat.lt_trichotomy d e with x | x | x
    · exact .inr (.inr ⟨_, row_less d e ds es x, List.cons_lt_cons_iff.mpr (.inl x)⟩)
    · subst x
      rcases rows_part ds es (fun y m => h y (List.mem_cons_of_mem _ m)) (fun y m => g y (List.mem_cons_of_mem _ m)) with q | ⟨k, q, l⟩ | ⟨k, q, l⟩
      · exact .inl (by rw [q])
      · exact .inr (.inl ⟨_, (q.app [0, 0]).app (blk d), List.cons_lt_cons_iff.mpr (.inr ⟨rfl, l⟩)⟩)
      · exact .inr (.inr ⟨_, (q.app [0, 0]).app (blk d), List.cons_lt_cons_iff.mpr (.inr ⟨rfl, l⟩)⟩)
    · exact .inr (.inl ⟨_, (row_less e d es ds x).symm, List.cons_lt_cons_iff.mpr (.inl x)⟩)
theorem codes_lt : ∀ (ds es : List Nat), ds < es → codes ds < codes es
  | [], [], h => absurd h (List.lt_irrefl _)
  | [], _ :: _, _ => List.nil_lt_cons _ _
  | _ :: _, [], h => absurd h (List.not_lt_nil _)
  | d :: ds, e :: es, h => by
    rcases List.cons_lt_cons_iff.mp h with x | ⟨x, y⟩
    · exact List.cons_lt_cons_iff.mpr (.inl (Nat.add_lt_add_right x 48))
    · exact List.cons_lt_cons_iff.mpr (.inr ⟨by rw [x], codes_lt ds es y⟩)
theorem codes_inj : ∀ (ds es : List Nat), codes ds = codes es → ds = es
  | [], [], _ => rfl
  | [], _ :: _, h => by simp [codes] at h
  | _ :: _, [], h => by simp [codes] at h
  | d :: ds, e :: es, h => by
    have h1 : d + 48 = e + 48 := (List.cons.inj h).1
    have h2 : codes ds = codes es := (List.cons.inj h).2
    rw [codes_inj ds es h2, show d = e by omega]
theorem numS_cps (ds : List Nat) : (numS ds).cps.toList = codes ds := rfl
theorem numS_inj {ds es : List Nat} (h : numS ds = numS es) : ds = es := codes_inj _ _ (by rw [← numS_cps, h, numS_cps])
theorem numS_len (ds : List Nat) : (numS ds).length = ds.length := by
  show (codes ds).toArray.size = _
  simp [codes]
theorem lt_asymm' {a b : List Nat} (h : a < b) : ¬ b < a := fun g => List.lt_irrefl _ (List.lt_trans h g)
theorem rowL_le : ∀ ds : List Nat, (∀ d ∈ ds, d ≤ 9) → (rowL ds).length ≤ 20 * ds.length + 2
  | [], _ => by decide
  | d :: ds, h => by
    have ih := rowL_le ds fun y m => h y (List.mem_cons_of_mem _ m)
    have hd := h d (by simp)
    show (blk d ++ ([0, 0] ++ rowL ds)).length ≤ _
    rw [List.length_append, List.length_append, blk_len]
    simp only [List.length_cons, List.length_nil]
    omega
end Wm

/-! Digits as signs, texts of digits cut and joined; what a heap keeps. -/
namespace Wm
open PySem L2
theorem dig_cases {d : Nat} (h : 1 ≤ d ∧ d ≤ 9) : d = 1 ∨ d = 2 ∨ d = 3 ∨ d = 4 ∨ d = 5 ∨ d = 6 ∨ d = 7 ∨ d = 8 ∨ d = 9 := by omega
theorem dig_int {d : Nat} (h : 1 ≤ d ∧ d ≤ 9) : PySem.intText? ⟨#[d + 48]⟩ = some (d : Int) := by
  rcases dig_cases h with e | e | e | e | e | e | e | e | e <;> subst e <;> decide +kernel
theorem dig_in {d : Nat} (h : 1 ≤ d ∧ d ≤ 9) : (d + 48) ∈ ("123456789" : Str).cps.toList := by
  rcases dig_cases h with e | e | e | e | e | e | e | e | e <;> subst e <;> decide +kernel
theorem dig_str {d : Nat} (h : 1 ≤ d ∧ d ≤ 9) : ((toString (d : Int) : String) : Str) = numS [d] := by
  rcases dig_cases h with e | e | e | e | e | e | e | e | e <;> subst e <;> decide +kernel
theorem numS_app (ds es : List Nat) : numS ds ++ numS es = numS (ds ++ es) := by
  refine PyProof.Rows.ext_toList ?_
  show ((numS ds).cps ++ (numS es).cps).toList = _
  rw [Array.toList_append, numS_cps, numS_cps, numS_cps]
  simp [codes]
theorem numS_nil : numS [] = ("" : Str) := by decide +kernel
theorem numS_take (ds : List Nat) (k : Nat) : cutS (numS ds) none (some (k : Int)) = numS (ds.take k) := by
  refine PyProof.Rows.ext_toList ?_
  show ((codes ds).drop 0).take (HT.sIx (numS ds).length (numS ds).length (some (k : Int)) - 0) = codes (ds.take k)
  rw [numS_len, HT.sIx_nat, List.drop_zero, Nat.sub_zero]
  simp only [codes, ← List.map_take]
  congr 1
  rw [List.take_eq_take_iff]
  omega
theorem numS_last (ds : List Nat) : cutS (numS ds) none (some (-1)) = numS ds.dropLast := by
  refine PyProof.Rows.ext_toList ?_
  show ((codes ds).drop 0).take (HT.sIx (numS ds).length (numS ds).length (some (-1)) - 0) = codes ds.dropLast
  rw [numS_len, List.drop_zero, Nat.sub_zero, List.dropLast_eq_take]
  simp only [codes, ← List.map_take]
  have e : HT.sIx ds.length ds.length (some (-1)) = ds.length - 1 := by
    unfold HT.sIx
    simp only [show (-1 : Int) < 0 by decide, if_true]
    omega
  rw [e]
theorem numS_at (ds : List Nat) (i : Nat) (hi : i < ds.length) : (numS ds).cps[i]? = some (ds[i] + 48) := by
  show ((codes ds).toArray)[i]? = _
  simp [codes, hi]
theorem numS_size (ds : List Nat) : (numS ds).cps.size = ds.length := numS_len ds

/-! heaps -/
theorem same_new {H : Hp} {p : Addr} {o : HO} (n : H p = none) : Same H (upd H p o) := fun b u e => by
  rw [upd_ne (ne_of_none e n)]
  exact e
theorem at_old {H : Hp} {p q : Addr} {o u : HO} (h : H p = some o) (n : H q = none) : upd H q u p = some o := by
  rw [upd_ne (ne_of_none h n)]
  exact h
theorem sameT {K : PySem.W.Frag} {H H' : Hp} {a : Addr} {xs : List V} (e : Same H H') (h : SqT K H a xs) : SqT K H' a xs := by
  rcases h with (h | ⟨o, h⟩) | h
  · exact .inl (.inl (e _ _ h))
  · exact .inl (.inr ⟨o, e _ _ h⟩)
  · exact .inr h
/-- what stood stands, but for what H did not know and the object at p, which is new since -/
theorem same_mut {H H' : Hp} {p : Addr} {o : HO} (s : Same H H') (n : H p = none) : Same H (upd H' p o) := fun b u e => by
  rw [upd_ne (ne_of_none e n)]
  exact s b u e
/-- the bag's list at b, its cells at c -/
def Cel (H : Hp) (b c : Addr) : Prop := ∃ x k m z : Int, H b = some (.lst [.int x, .ref c, .int k, .int m, .int z])
structure But (b : Addr) (H H' : Hp) : Prop where
  keep : ∀ p o, p ≠ b → H p = some o → H' p = some o
  cel : ∀ c, Cel H b c → Cel H' b c
instance {b : Addr} {H H' : Hp} : CoeFun (But b H H') (fun _ => ∀ p o, p ≠ b → H p = some o → H' p = some o) := ⟨But.keep⟩
theorem But.refl (b : Addr) (H : Hp) : But b H H := ⟨fun _ _ _ h => h, fun _ h => h⟩
theorem But.trans {b : Addr} {H H1 H2 : Hp} (x : But b H H1) (y : But b H1 H2) : But b H H2 := ⟨fun p o n h => y.keep p o n (x.keep p o n h), fun c h => y.cel c (x.cel c h)⟩
theorem But.of {b : Addr} {H H' : Hp} (s : Same H H') : But b H H' := ⟨fun p o _ h => s p o h, fun _ ⟨x, k, m, z, h⟩ => ⟨x, k, m, z, s _ _ h⟩⟩
theorem But.set {b c : Addr} {H : Hp} {x k m z x' k' m' z' : Int} (hb : H b = some (.lst [.int x, .ref c, .int k, .int m, .int z])) : But b H (upd H b (.lst [.int x', .ref c, .int k', .int m', .int z'])) :=
  ⟨fun p u n h => by
    rw [upd_ne n]
    exact h, fun c2 ⟨a1, a2, a3, a4, h⟩ => by
    rw [hb] at h
    have h := Option.some.inj h
    injection h with h
    injection h with h1 h
    injection h with h2 h
    injection h2 with h2
    subst h2
    exact ⟨x', k', m', z', upd_same⟩⟩
/-- the bag of draws: its cells' list and its four numbers -/
def Bag (H : Hp) (b : Addr) (n : Nat) : Prop :=
  ∃ (c : Addr) (x k m z : Int) (ns : List Int), H b = some (.lst [.int x, .ref c, .int k, .int m, .int z]) ∧ H c = some (.lst (ns.map V.int)) ∧ 0 ≤ k ∧ 0 ≤ m ∧ m ≤ (n : Int)
theorem bag_ne {H : Hp} {b c : Addr} {x k m z : Int} {ns : List Int} (hb : H b = some (.lst [.int x, .ref c, .int k, .int m, .int z])) (hc : H c = some (.lst (ns.map V.int))) : c ≠ b := by
  intro e
  subst e
  rw [hb] at hc
  have q := Option.some.inj hc
  have q2 : ([.int x, .ref c, .int k, .int m, .int z] : List V) = ns.map V.int := by injection q
  cases ns with
  | nil => simp at q2
  | cons u r => cases r with
    | nil => simp at q2
    | cons v r => simp at q2
theorem Bag.mono {H : Hp} {b : Addr} {n m : Nat} (h : Bag H b n) (l : n ≤ m) : Bag H b m := by
  obtain ⟨c, x, k, q, z, ns, h1, h2, h3, h4, h5⟩ := h
  exact ⟨c, x, k, q, z, ns, h1, h2, h3, h4, by omega⟩
theorem Bag.keep {H H' : Hp} {b : Addr} {n : Nat} (h : Bag H b n) (s : Same H H') : Bag H' b n := by
  obtain ⟨c, x, k, q, z, ns, h1, h2, h3, h4, h5⟩ := h
  exact ⟨c, x, k, q, z, ns, s _ _ h1, s _ _ h2, h3, h4, h5⟩
theorem Cel.uniq {H : Hp} {b c d : Addr} (h : Cel H b c) (g : Cel H b d) : c = d := by
  obtain ⟨x, k, m, z, h⟩ := h
  obtain ⟨x', k', m', z', g⟩ := g
  rw [h] at g
  have g := Option.some.inj g
  injection g with g
  injection g with g1 g
  injection g with g2 g
  injection g2
theorem But.put {b D : Addr} {H H' : Hp} {o : HO} (e : But b H H') (n : H D = none) : But b H (upd H' D o) := by
  refine ⟨fun p u pb h => ?_, fun c h => ?_⟩
  · rw [upd_ne (ne_of_none h n)]
    exact e.keep p u pb h
  · have h0 := h
    obtain ⟨x, k, m, z, h⟩ := h
    obtain ⟨x', k', m', z', g⟩ := e.cel c h0
    exact ⟨x', k', m', z', by rw [upd_ne (ne_of_none h n)]; exact g⟩
theorem Bag.put {b D : Addr} {H H' : Hp} {o : HO} {n m : Nat} (bag : Bag H b n) (f : H D = none) (e : But b H H') (bag2 : Bag H' b m) : Bag (upd H' D o) b m := by
  obtain ⟨c, x, k, q, z, ns, h1, h2, h3, h4, h5⟩ := bag
  obtain ⟨c', x', k', q', z', ns', g1, g2, g3, g4, g5⟩ := bag2
  have ec : c = c' := Cel.uniq (e.cel c ⟨x, k, q, z, h1⟩) ⟨x', k', q', z', g1⟩
  subst ec
  exact ⟨c, x', k', q', z', ns', by rw [upd_ne (ne_of_none h1 f)]; exact g1, by rw [upd_ne (ne_of_none h2 f)]; exact g2, g3, g4, g5⟩
end Wm
namespace Wm
open PySem L2
theorem yesT {σ : L2.St} {H : Hp} {A B : Hp → Prop} (h : A H) : tYes σ H (fun b H3 => if b = true then A H3 else B H3) := by
  show (if true = true then A H else B H)
  rw [if_pos rfl]
  exact h
end Wm

/-! row[::2] of a list or a tuple; a loop over a list or a tuple. -/
namespace Hf
open PySem PySem.Spec PyProof.Rows L2
def ev2 {α : Type} : List α → List α
  | [] => []
  | [x] => [x]
  | x :: _ :: r => x :: ev2 r
theorem ev2_le {α : Type} : ∀ xs : List α, (ev2 xs).length ≤ xs.length
  | [] => Nat.le_refl _
  | [_] => Nat.le_refl _
  | x :: y :: r => by
    have ih := ev2_le r
    show (ev2 r).length + 1 ≤ r.length + 2
    omega
theorem ev2_mem {α : Type} {z : α} : ∀ {xs : List α}, z ∈ ev2 xs → z ∈ xs
  | [], h => h
  | [_], h => h
  | x :: y :: r, h => by
    rcases List.mem_cons.mp h with e | e
    · rw [e]; simp
    · exact List.mem_cons_of_mem _ (List.mem_cons_of_mem _ (ev2_mem e))
theorem ev2_map {α β : Type} (f : α → β) : ∀ xs : List α, ev2 (xs.map f) = (ev2 xs).map f
  | [] => rfl
  | [_] => rfl
  | x :: y :: r => by
    show f x :: ev2 (r.map f) = f x :: (ev2 r).map f
    rw [ev2_map f r]
theorem ev2_pick {α : Type} : ∀ xs : List α, (List.range ((xs.length + 1) / 2)).filterMap (fun k => xs[2 * k]?) = ev2 xs
  | [] => by simp [ev2]
  | [x] => by
    rw [show ([x].length + 1) / 2 = 1 by simp, show List.range 1 = [0] by decide]
    simp [ev2]
  | x :: y :: r => by
    have ih := ev2_pick r
    have e : ((x :: y :: r).length + 1) / 2 = (r.length + 1) / 2 + 1 := by
      show (r.length + 1 + 1 + 1) / 2 = _
      omega
    rw [e, List.range_succ_eq_map, List.filterMap_cons]
    show x :: _ = x :: ev2 r
    rw [List.filterMap_map, ← ih]
    rfl
theorem ev2_vals : ∀ {xs : List V} {us : List Value}, Vals xs us → Vals (ev2 xs) (ev2 us)
  | [], _, h => by cases h; exact .nil
  | [x], _, h => by
    cases h with
    | cons a b =>
      cases b
      exact .cons a .nil
  | x :: y :: r, _, h => by
    cases h with
    | cons a b =>
      cases b with
      | cons c d => exact .cons a (ev2_vals d)
theorem pick2 (items : Array Value) : slicePick items none none (some 2) = (ev2 items.toList).toArray := by
  have e := ev2_pick items.toList
  unfold slicePick
  have b : sliceBounds none none (some 2) items.size = (0, (items.size : Int), 2) := by
    first
    | rfl
    | simp [sliceBounds]
  rw [b]
  show ((sliceRange 0 (items.size : Int) 2).filterMap (items[·]?)).toArray = _
  have r : sliceRange 0 (items.size : Int) 2 = (List.range ((items.size + 1) / 2)).map fun k => 2 * k := by
    unfold sliceRange
    have h1 : (2 : Int) > 0 := by decide
    by_cases h : (0 : Int) < (items.size : Int)
    · have e : ((items.size : Int) - 0 + 2 - 1) / 2 = (((items.size + 1) / 2 : Nat) : Int) := by omega
      simp only [h1, if_true, h, e, Int.toNat_natCast]
      apply List.map_congr_left
      intro k _
      omega
    · have e : items.size = 0 := by omega
      simp [e]
  rw [r, List.filterMap_map]
  rw [Array.length_toList] at e
  rw [← e]
  refine congrArg List.toArray (congrArg (fun f => List.filterMap f _) (funext fun k => ?_))
  show items[2 * k]? = _
  rw [Array.getElem?_toList]
section
variable {prog : Program} {w : World} {A : Around} {E : Value → Shared → Prop} {s : Shared}
theorem places2 (n : Nat) : Builtin.Slice.slicePlaces 0 (n : Int) 2 = (n + 1) / 2 := by
  unfold Builtin.Slice.slicePlaces
  have h1 : (2 : Int) > 0 := by omega
  simp only [h1, if_true]
  split <;> omega
theorem adjust2 (n : Nat) : Builtin.Slice.sliceAdjust none none 2 (n : Int) = (0, (n : Int)) := by
  have h1 : ¬ ((2 : Int) < 0) := by omega
  unfold Builtin.Slice.sliceAdjust
  simp only [h1, if_false]
theorem sliceApplied2 {sl : Addr} {t : Tok} {n : Nat} {Q : Int × Int × Nat → Shared → Prop} (hs : s.heap.IsSliceOf sl .none .none (.int 2 t))
    (h : Q (0, 2, (n + 1) / 2) s) : wpAny (model prog w) A (Builtin.Slice.sliceApplied (.ref sl) (pure (n : Int))) Q E s := by
  obtain ⟨os, hos, hcs, hds⟩ := id hs
  unfold Builtin.Slice.sliceApplied Builtin.Slice.sliceFields
  refine wpAny_bind (wpAny_bind (wpAny_field hos hds (x := .none) rfl (wpAny_bind (wpAny_field hos hds (x := .none) rfl (wpAny_bind (wpAny_field hos hds (x := .int 2 t) rfl (wpAny_pure ?_)))))))
  refine wpAny_bind (slicePart_int ?_)
  show wpAny _ _ (if ((2 : Int) == 0) = true then _ else _) _ _ s
  rw [if_neg (by decide)]
  refine wpAny_bind (HT.slicePart_ .none (wpAny_bind (HT.slicePart_ .none (wpAny_bind (wpAny_pure ?_)))))
  show wpAny _ _ (match Builtin.Slice.sliceAdjust none none 2 (n : Int) with | (lo, hi) => pure (lo, (2 : Int), Builtin.Slice.slicePlaces lo hi 2)) _ _ s
  rw [adjust2 n]
  show wpAny _ _ (pure ((0 : Int), (2 : Int), Builtin.Slice.slicePlaces (0 : Int) (n : Int) 2)) _ _ s
  rw [places2]
  exact wpAny_pure h
theorem pick2t (xs : Array Value) : ((List.range ((xs.size + 1) / 2)).filterMap fun (m : Nat) => xs[((0 : Int) + (m : Int) * 2).toNat]?).toArray = (ev2 xs.toList).toArray := by
  have e : (fun (m : Nat) => xs[((0 : Int) + (m : Int) * 2).toNat]?) = fun m => xs.toList[2 * m]? := by
    funext m
    have : ((0 : Int) + (m : Int) * 2).toNat = 2 * m := by omega
    rw [this, Array.getElem?_toList]
  rw [e, ← ev2_pick xs.toList, Array.length_toList]
theorem getItem_tuple_2 {t sl : Addr} {tk : Tok} {items : Array Value} {Q : Value → Shared → Prop} (ht : IsTup s.heap t items) (hs : s.heap.IsSliceOf sl .none .none (.int 2 tk))
    (h : Q (.ref s.heap.objs.size) { s with heap := s.heap.push { cls := .type "tuple", data := .seq (ev2 items.toList).toArray } })
    (hsz : items.size ≤ sizeLine) : wpAny (model prog w) A (getItem (.ref t) (.ref sl)) Q E s := by
  have htake : sizeOk (.seq (ev2 items.toList).toArray) := by
    show (ev2 items.toList).toArray.size ≤ sizeLine
    rw [List.size_toArray]
    exact Nat.le_trans (ev2_le items.toList) (by rw [Array.length_toList]; exact hsz)
  obtain ⟨os, hos, hcs, hds⟩ := id hs
  have hTs : s.TypeIs (.ref sl) "slice" := ⟨os, hos, hcs⟩
  unfold getItem
  try with_reducible refine wpAny_holding ?_
  first | refine wpAny_bind (wpAny_pure ?_) | skip
  refine wpAny_bind (wpAny_sequenceKey ht.typeIs (by decide) ?_)
  refine wpAny_bind (wpAny_callSpecial?_slot (name := Str.ofString "__getitem__") ht.typeIs PyProof.Rows.slot_tuple_getitem
    (wpAny_call_entry PyProof.Rows.slot_tuple_getitem ht.typeIs entry_tuple_getitem ?_ (args_tuple_getitem _ _)))
  show wpAny _ _ (Builtin.Tuple.tupleItemsOf (.ref t) >>= _) _ _ s
  refine wpAny_bind (tupleItemsOf_ ht ?_)
  refine wpAny_bind (wpAny_typeOf hTs ?_)
  rw [if_pos (by decide)]
  refine wpAny_bind (sliceApplied2 hs ?_)
  have hno : ¬ (((0 : Int) == 0 && (2 : Int) == 1 && ((items.size + 1) / 2) == items.size) = true) := by
    intro q
    rw [Bool.and_eq_true, Bool.and_eq_true] at q
    exact absurd q.1.2 (by decide)
  show wpAny _ _ (if ((0 : Int) == 0 && (2 : Int) == 1 && ((items.size + 1) / 2) == items.size) = true then _ else _) _ _ s
  rw [if_neg hno, pick2t]
  first
    | exact wpAny_bind (m := Builtin.Tuple.tupleExact _) (wpAny_newObj_type (wpAny_pure ⟨_, rfl, wpAny_pure h⟩) htake)
    | exact wpAny_bind (m := Builtin.Tuple.tupleExact _) (wpAny_newObj_type (wpAny_bind (wpAny_pure (wpAny_pure ⟨_, rfl, wpAny_pure h⟩))) htake)
    | exact wpAny_bind (wpAny_bind (m := Builtin.Tuple.tupleExact _) (wpAny_newObj_type (wpAny_pure (wpAny_pure ⟨_, rfl, wpAny_pure h⟩)) htake))
    | exact wpAny_bind (wpAny_bind (m := Builtin.Tuple.tupleExact _) (wpAny_newObj_type (wpAny_pure ⟨_, rfl, wpAny_pure h⟩) htake))
end
section
variable {X : Cx}
def tHalf (K : PySem.W.Frag) (te : TE) : TE := fun σ H Q => te σ H fun x H1 => ∃ a xs, x = .ref a ∧ (SqL K H1 a xs ∨ SqT K H1 a xs) ∧
  ∀ p H2, (∀ b o, H1 b = some o → H2 b = some o) → H1 p = none → (SqL K H2 p (ev2 xs) ∨ SqT K H2 p (ev2 xs)) → Q (.ref p) H2
theorem new_same {H : Hp} {p : Addr} {o : HO} (n : H p = none) : ∀ b u, H b = some u → upd H p o b = some u := fun b u e => by
  rw [upd_ne (ne_of_none e n)]
  exact e
theorem pe_half {e : Expr} {te : TE} {k : Nat} {p1 p3 pos : Pos} (he : PE X e te) : PE X (.Subscript e (.Slice none none (some (.Constant (.int 2) k p1)) p3) pos) (tHalf X.K te) := by
  refine ⟨fun pins s σ H Q I h => ?_⟩
  refine Subscript_ (thn (he.run pins s σ H _ I h) fun v s1 ⟨x, H1, I1, r1, q1⟩ => ?_)
  obtain ⟨a, xs, ex, hq, q⟩ := q1
  subst ex
  cases r1
  have hst : PO X (some (.Constant (.int 2) k p1)) (tPart (tC (.int 2))) := po_some pe_int
  refine wpAny_Slice (thn (po_none.run pins s1 σ H1 (fun o H2 => o = none ∧ H2 = H1) I1 ⟨rfl, rfl⟩) fun vl s2 ⟨l, H2, I2, pl, el, e2⟩ => ?_)
  subst el e2
  refine thn (po_none.run pins s2 σ H2 (fun o H3 => o = none ∧ H3 = H2) I2 ⟨rfl, rfl⟩) fun vu s3 ⟨u, H3, I3, pu, eu, e3⟩ => ?_
  subst eu e3
  refine thn (hst.run pins s3 σ H3 (fun o H4 => o = some 2 ∧ H4 = H3) I3 ⟨2, rfl, rfl, rfl⟩) fun vs s4 ⟨o, H4, I4, ps, eo, e4⟩ => ?_
  subst eo e4
  have I5 : Inv X pins σ H4 { s4 with heap := s4.heap.push { cls := .type "slice", data := .fields #[vl, vu, vs] } } := I4.kept (t' := s4.toks) fun b ob q => Heap.get?_push_of_some _ q
  rcases hq with hx | hx
  · obtain ⟨its, r, ht, hz⟩ := I5.list hx
    have hlen := r.length
    show wpAny (model X.prog X.w) X.A (subscriptTail e (.Slice none none (some (.Constant (.int 2) k p1)) p3) (.ref a) (.ref s4.heap.objs.size)) (EP X pins σ Q) X.xe { s4 with heap := s4.heap.push { cls := .type "slice", data := .fields #[vl, vu, vs] } }
    refine tail_any (ops := [.ref a, .ref s4.heap.objs.size]) ht.isList.typeIs (PySem.slot_list_getitem.lookup) ?_ (by with_unfolding_all rfl)
    refine wpAny_getItem_list_slice ht.isList (Heap.IsSliceOf.new _ vl vu vs) pl pu ps (by decide) ?_ (by rw [List.size_toArray]; omega)
    rw [pick2]
    refine ⟨.ref _, _, I5.laid (t' := s4.toks) (o := .lst (ev2 xs)) (fun b ob q => Heap.get?_push_of_some _ q) (Nat.le_refl _) ?_, rfl, q _ _ (new_same (I5.hok.fresh (Nat.le_refl _))) (I5.hok.fresh (Nat.le_refl _)) (.inl (SqL.of upd_same))⟩
    exact ⟨Nat.le_trans (ev2_le xs) hz, _, 0, ev2_vals r, Heap.get?_push_size _ rfl⟩
  · obtain ⟨its, r, ht, hz⟩ := I5.tuple hx
    have hlen := r.length
    cases pl
    cases pu
    cases ps
    show wpAny (model X.prog X.w) X.A (subscriptTail e (.Slice none none (some (.Constant (.int 2) k p1)) p3) (.ref a) (.ref s4.heap.objs.size)) (EP X pins σ Q) X.xe { s4 with heap := s4.heap.push { cls := .type "slice", data := .fields #[Value.none, Value.none, .int 2 _] } }
    refine tail_any (ops := [.ref a, .ref s4.heap.objs.size]) ht.typeIs (PyProof.Rows.slot_tuple_getitem.lookup) ?_ (by with_unfolding_all rfl)
    refine getItem_tuple_2 ht (Heap.IsSliceOf.new _ _ _ _) ?_ (by rw [List.size_toArray]; omega)
    refine ⟨.ref _, _, I5.laid (t' := s4.toks) (o := .tup (ev2 xs)) (fun b ob q => Heap.get?_push_of_some _ q) (Nat.le_refl _) ?_, rfl, q _ _ (new_same (I5.hok.fresh (Nat.le_refl _))) (I5.hok.fresh (Nat.le_refl _)) (.inr (SqT.of upd_same))⟩
    exact ⟨Nat.le_trans (ev2_le xs) hz, _, ev2_vals r, IsTup.new _ _⟩
theorem keepL {K : PySem.W.Frag} {H H' : Hp} {a : Addr} {xs : List V} (e : Same H H') (h : SqL K H a xs) : SqL K H' a xs := by
  rcases h with (h | ⟨o, h⟩) | h
  · exact .inl (.inl (e _ _ h))
  · exact .inl (.inr ⟨o, e _ _ h⟩)
  · exact .inr h
theorem keepT {K : PySem.W.Frag} {H H' : Hp} {a : Addr} {xs : List V} (e : Same H H') (h : SqT K H a xs) : SqT K H' a xs := by
  rcases h with (h | ⟨o, h⟩) | h
  · exact .inl (.inl (e _ _ h))
  · exact .inl (.inr ⟨o, e _ _ h⟩)
  · exact .inr h
def iSeq (K : PySem.W.Frag) (tl : TE) : TI := fun σ H R => tl σ H fun x H1 => ∃ a xs, x = .ref a ∧ (SqL K H1 a xs ∨ SqT K H1 a xs) ∧
  ∀ J G, Walk J xs.length G (YAt xs) → (∀ H', Same H1 H' → G H') → R J H1
theorem pi_seq {tg l : Expr} {tl : TE} (hl : PE X l tl) : PI X tg l (iSeq X.K tl) := by
  refine ⟨fun pins s σ H R I h => ?_⟩
  refine thn (hl.run pins s σ H _ I h) fun v s1 ⟨x, H1, I1, r1, q1⟩ => ?_
  obtain ⟨a, xs, e, hq, q⟩ := q1
  subst e
  cases r1
  rcases hq with hq | hq
  · have q := q _ _ walk_list fun H' s => keepL s hq
    obtain ⟨its, rv, p, hz⟩ := I1.list hq
    refine wpAny_pyIter_list p.isList ?_
    refine ⟨s1.heap.objs.size, [s1.heap.objs.size], _, _, H1, rfl, I1.kept (t' := s1.toks) fun b o e => Heap.get?_push_of_some _ e, turn_list a _, ⟨_, Heap.get?_push_size _ rfl, rfl, rfl⟩, fun b hb => ?_, q⟩
    have e : b = s1.heap.objs.size := by simpa using hb
    subst e
    exact I1.fpOk (Nat.le_refl _) (I1.hok.fresh (Nat.le_refl _))
  · have q := q _ _ walk_tup fun H' s => keepT s hq
    obtain ⟨its, rv, p, hz⟩ := I1.tuple hq
    refine wpAny_pyIter_tuple (show s1.heap.IsTuple a its.toArray from p) ?_
    refine ⟨s1.heap.objs.size, [s1.heap.objs.size], _, _, H1, rfl, I1.kept (t' := s1.toks) fun b o e => Heap.get?_push_of_some _ e, turn_tuple a _, ⟨_, Heap.get?_push_size _ rfl, rfl, rfl⟩, fun b hb => ?_, q⟩
    have e : b = s1.heap.objs.size := by simpa using hb
    subst e
    exact I1.fpOk (Nat.le_refl _) (I1.hok.fresh (Nat.le_refl _))
end
end Hf

/-! Rows read back: strokes, steps, groups. -/
namespace Wm
open PySem L2 TL
/-- the rows of the first digits, without the two ticks at the end -/
def pre : List Nat → List Int
  | [] => []
  | d :: ds => blk d ++ ([0, 0] ++ pre ds)
theorem pre_app : ∀ (ds : List Nat) (d : Nat), pre (ds ++ [d]) = pre ds ++ (blk d ++ [0, 0])
  | [], d => by show blk d ++ ([0, 0] ++ []) = [] ++ _; simp
  | e :: ds, d => by
    show blk e ++ ([0, 0] ++ pre (ds ++ [d])) = (blk e ++ ([0, 0] ++ pre ds)) ++ _
    rw [pre_app ds d]
    simp only [List.append_assoc]
theorem pre_row : ∀ ds : List Nat, pre ds ++ [0, 0] = rowL ds
  | [] => rfl
  | d :: ds => by
    show (blk d ++ ([0, 0] ++ pre ds)) ++ _ = blk d ++ ([0, 0] ++ rowL ds)
    rw [← pre_row ds]
    simp only [List.append_assoc]
theorem blk_V (d : Nat) : (List.replicate d [V.int 1, V.int 0]).flatten = (blk d).map V.int := by
  unfold blk
  rw [List.map_flatten, List.map_replicate]
  rfl
theorem pre_le : ∀ ds : List Nat, (∀ d ∈ ds, d ≤ 9) → (pre ds).length ≤ 20 * ds.length
  | [], _ => by decide
  | d :: ds, h => by
    have ih := pre_le ds fun y m => h y (List.mem_cons_of_mem _ m)
    have hd := h d (by simp)
    show (blk d ++ ([0, 0] ++ pre ds)).length ≤ _
    rw [List.length_append, List.length_append, blk_len]
    simp only [List.length_cons, List.length_nil]
    omega
theorem take_succ_app {α : Type} {l : List α} {i : Nat} {x : α} (h : l[i]? = some x) : l.take (i + 1) = l.take i ++ [x] := by
  rw [List.take_add_one, h]
  rfl
theorem take_succ_map {α β : Type} {l : List α} {i : Nat} {x : α} (f : α → β) (h : l[i]? = some x) : (l.take i).map f ++ [f x] = (l.take (i + 1)).map f := by
  rw [take_succ_app h, List.map_append]
  rfl
theorem row_sum : ∀ ds : List Nat, (rowL ds).length = 2 * (ds.sum + ds.length + 1)
  | [] => rfl
  | d :: ds => by
    have ih := row_sum ds
    show (blk d ++ ([0, 0] ++ rowL ds)).length = _
    rw [List.length_append, List.length_append, blk_len, ih, List.sum_cons]
    simp only [List.length_cons, List.length_nil]
    omega
theorem row_le (ds : List Nat) (N : Num ds) : (rowL ds).length ≤ 100 := by
  have h := rowL_le ds fun d m => (N.dig d m).2
  have l := N.len
  omega
theorem row_bits : ∀ (ds : List Nat) (z : Int), z ∈ rowL ds → z = 0 ∨ z = 1
  | [], z, h => by
    have h : z ∈ [0, 0] := h
    simp only [List.mem_cons, List.not_mem_nil, or_false, or_self] at h
    exact .inl h
  | d :: ds, z, h => by
    have h : z ∈ blk d ++ ([0, 0] ++ rowL ds) := h
    rw [List.mem_append, List.mem_append] at h
    rcases h with h | h | h
    · obtain ⟨l, hl, hz⟩ := List.mem_flatten.mp h
      rw [(List.mem_replicate.mp hl).2] at hz
      simp only [List.mem_cons, List.not_mem_nil, or_false] at hz
      exact hz.symm
    · simp only [List.mem_cons, List.not_mem_nil, or_false, or_self] at h
      exact .inl h
    · exact row_bits ds z h
/-! strokes -/
def ones : Nat → List Int → List Nat
  | _, [] => []
  | o, x :: xs => if x = 1 then o :: ones (o + 1) xs else ones (o + 1) xs
theorem ones_app : ∀ (a : List Int) (o : Nat) (b : List Int), ones o (a ++ b) = ones o a ++ ones (o + a.length) b
  | [], o, b => rfl
  | x :: a, o, b => by
    have ih := ones_app a (o + 1) b
    have e : o + (x :: a).length = o + 1 + a.length := by rw [List.length_cons]; omega
    rw [e]
    show (if x = 1 then o :: ones (o + 1) (a ++ b) else ones (o + 1) (a ++ b)) = (if x = 1 then o :: ones (o + 1) a else ones (o + 1) a) ++ _
    rw [ih]
    by_cases c : x = 1
    · rw [if_pos c, if_pos c]; rfl
    · rw [if_neg c, if_neg c]
theorem ones_mem : ∀ (xs : List Int) (o k : Nat), k ∈ ones o xs ↔ ∃ j, k = o + j ∧ xs[j]? = some 1
  | [], o, k => by simp [ones]
  | x :: xs, o, k => by
    have ih := ones_mem xs (o + 1) k
    show k ∈ (if x = 1 then o :: ones (o + 1) xs else ones (o + 1) xs) ↔ _
    constructor
    · intro h
      by_cases c : x = 1
      · rw [if_pos c] at h
        rcases List.mem_cons.mp h with e | e
        · exact ⟨0, by omega, by rw [c]; rfl⟩
        · obtain ⟨j, e1, e2⟩ := ih.mp e
          exact ⟨j + 1, by omega, by simpa using e2⟩
      · rw [if_neg c] at h
        obtain ⟨j, e1, e2⟩ := ih.mp h
        exact ⟨j + 1, by omega, by simpa using e2⟩
    · rintro ⟨j, e1, e2⟩
      cases j with
      | zero =>
        have c : x = 1 := Option.some.inj e2
        rw [if_pos c]
        exact List.mem_cons.mpr (.inl (by omega))
      | succ j =>
        have m : k ∈ ones (o + 1) xs := ih.mpr ⟨j, by omega, by simpa using e2⟩
        by_cases c : x = 1
        · rw [if_pos c]; exact List.mem_cons_of_mem _ m
        · rw [if_neg c]; exact m
theorem ones_blk (o d : Nat) : ones o (blk (d + 1)) = ones o (blk d) ++ [o + 2 * d] := by
  rw [blk_add, ones_app, blk_len]
  rfl
theorem ones_end (a : List Int) (o : Nat) : ones o (a ++ [0, 0]) = ones o a := by
  rw [ones_app]
  show ones o a ++ [] = _
  rw [List.append_nil]
theorem step2 (s : List Nat) (d : Nat) : ones 0 (pre s ++ blk (d + 1)) = ones 0 (pre s ++ blk d) ++ [(pre s).length + 2 * d] := by
  rw [ones_app, ones_app, ones_blk, List.append_assoc, Nat.zero_add]
theorem step4 (s : List Nat) (d : Nat) : ones 0 (pre (s ++ [d]) ++ blk 1) = ones 0 (pre s ++ blk d) ++ [(pre s).length + 2 * d + 2] := by
  rw [ones_app, pre_app, ← List.append_assoc, ones_end]
  have e : ((pre s ++ blk d) ++ ([0, 0] : List Int)).length = (pre s).length + 2 * d + 2 := by
    rw [List.length_append, List.length_append, blk_len]
    rfl
  rw [e, Nat.zero_add]
  rfl
theorem ones_row (s : List Nat) (d : Nat) : ones 0 (rowL (s ++ [d])) = ones 0 (pre s ++ blk d) := by
  rw [← pre_row, pre_app, ← List.append_assoc, ones_end, ones_end]
theorem ones_inj {ds es : List Nat} (h1 : ∀ d ∈ ds, 1 ≤ d) (h2 : ∀ e ∈ es, 1 ≤ e) (h : ones 0 (rowL ds) = ones 0 (rowL es)) : ds = es := by
  rcases rows_part ds es h1 h2 with q | ⟨k, q, _⟩ | ⟨k, q, _⟩
  · exact q
  · have m : k ∈ ones 0 (rowL ds) := (ones_mem _ _ _).mpr ⟨k, by omega, q.one⟩
    rw [h] at m
    obtain ⟨j, e1, e2⟩ := (ones_mem _ _ _).mp m
    rw [show j = k by omega, q.two] at e2
    cases e2
  · have m : k ∈ ones 0 (rowL es) := (ones_mem _ _ _).mpr ⟨k, by omega, q.two⟩
    rw [← h] at m
    obtain ⟨j, e1, e2⟩ := (ones_mem _ _ _).mp m
    rw [show j = k by omega, q.one] at e2
    cases e2
def St (l : List Nat) : Prop := ∀ (k a b : Nat), l[k]? = some a → l[k + 1]? = some b → b = a + 2 ∨ b = a + 4
theorem St.cons {x : Nat} {l : List Nat} (h : ∀ y, l.head? = some y → y = x + 2 ∨ y = x + 4) (s : St l) : St (x :: l) := by
  intro k a b e1 e2
  cases k with
  | zero =>
    have e : x = a := Option.some.inj e1
    subst e
    refine h b ?_
    rw [List.head?_eq_getElem?]
    exact e2
  | succ k => exact s k a b (by simpa using e1) (by simpa using e2)
theorem steps_blk {l : List Int} (hl : ∀ o, St (ones o l) ∧ ∀ y, (ones o l).head? = some y → y = o) : ∀ (d o : Nat), St (ones o (blk d ++ ([0, 0] ++ l))) ∧ ∀ y, (ones o (blk d ++ ([0, 0] ++ l))).head? = some y → (y = o ∨ y = o + 2)
  | 0, o => by
    have h := hl (o + 2)
    exact ⟨h.1, fun y e => .inr (h.2 y e)⟩
  | d + 1, o => by
    have ih := steps_blk hl d (o + 2)
    have e : ones o (blk (d + 1) ++ ([0, 0] ++ l)) = o :: ones (o + 2) (blk d ++ ([0, 0] ++ l)) := by
      rw [blk_succ]
      rfl
    rw [e]
    refine ⟨ih.1.cons fun y q => ?_, fun y q => .inl (Option.some.inj q).symm⟩
    rcases ih.2 y q with z | z
    · exact .inl z
    · exact .inr (by omega)
theorem steps_row : ∀ (es : List Nat), (∀ d ∈ es, 1 ≤ d) → ∀ o, St (ones o (rowL es)) ∧ ∀ y, (ones o (rowL es)).head? = some y → y = o
  | [], _, o => ⟨fun k a b (e : (none : Option Nat) = some a) => (by cases e), fun y (e : (none : Option Nat) = some y) => by cases e⟩
  | d :: es, h, o => by
    have ih := steps_row es fun y m => h y (List.mem_cons_of_mem _ m)
    obtain ⟨f, rfl⟩ : ∃ f, d = f + 1 := ⟨d - 1, by have := h d (by simp); omega⟩
    have q := steps_blk ih (f + 1) o
    refine ⟨q.1, fun y e => ?_⟩
    have e' : ones o (rowL ((f + 1) :: es)) = o :: ones (o + 2) (blk f ++ ([0, 0] ++ rowL es)) := by
      show ones o (blk (f + 1) ++ _) = _
      rw [blk_succ]
      rfl
    rw [e'] at e
    exact (Option.some.inj e).symm
theorem first_row (d : Nat) (es : List Nat) (h : 1 ≤ d) : (ones 0 (rowL (d :: es)))[0]? = some 0 := by
  obtain ⟨f, rfl⟩ : ∃ f, d = f + 1 := ⟨d - 1, by omega⟩
  show (ones 0 (blk (f + 1) ++ _))[0]? = _
  rw [blk_succ]
  rfl
/-! groups -/
def gaps : List Int → List Nat
  | [] => [0]
  | z :: zs => if z = 1 then (match gaps zs with | [] => [1] | g :: gs => (g + 1) :: gs) else 0 :: gaps zs
theorem gaps_ne : ∀ zs, gaps zs ≠ []
  | [] => by simp [gaps]
  | z :: zs => by
    show (if z = 1 then (match gaps zs with | [] => [1] | g :: gs => (g + 1) :: gs) else 0 :: gaps zs) ≠ []
    by_cases c : z = 1
    · rw [if_pos c]
      split <;> simp
    · rw [if_neg c]; simp
def bits (zs : List Int) : List Nat := zs.map fun z => if z = 1 then 49 else 48
theorem joinL_cons {s : List Nat} {p : List Nat} {ps : List (List Nat)} (h : ps ≠ []) : joinL s (p :: ps) = p ++ (s ++ joinL s ps) := by
  cases ps with
  | nil => exact absurd rfl h
  | cons q r => rfl
theorem joinL_one (s p : List Nat) : joinL s [p] = p := rfl
theorem map_ne {α β : Type} {f : α → β} {l : List α} (h : l ≠ []) : l.map f ≠ [] := fun e => h (List.map_eq_nil_iff.mp e)
theorem gaps_join : ∀ zs, bits zs = joinL [48] ((gaps zs).map fun g => List.replicate g 49)
  | [] => rfl
  | z :: zs => by
    have ih := gaps_join zs
    have ne := gaps_ne zs
    show (if z = 1 then 49 else 48) :: bits zs = joinL [48] ((if z = 1 then (match gaps zs with | [] => [1] | g :: gs => (g + 1) :: gs) else 0 :: gaps zs).map _)
    by_cases c : z = 1
    · rw [if_pos c, if_pos c]
      cases e : gaps zs with
      | nil => exact absurd e ne
      | cons g gs =>
        rw [e] at ih
        rw [ih]
        cases gs with
        | nil => rfl
        | cons g2 gs => rfl
    · rw [if_neg c, if_neg c, List.map_cons, joinL_cons (map_ne ne), ← ih]
      rfl
theorem gaps_sum : ∀ zs, (gaps zs).sum ≤ zs.length ∧ (gaps zs).length ≤ zs.length + 1
  | [] => by decide
  | z :: zs => by
    have ih := gaps_sum zs
    show (if z = 1 then (match gaps zs with | [] => [1] | g :: gs => (g + 1) :: gs) else 0 :: gaps zs).sum ≤ zs.length + 1 ∧ (if z = 1 then (match gaps zs with | [] => [1] | g :: gs => (g + 1) :: gs) else 0 :: gaps zs).length ≤ zs.length + 1 + 1
    by_cases c : z = 1
    · rw [if_pos c]
      cases e : gaps zs with
      | nil => exact absurd e (gaps_ne zs)
      | cons g gs =>
        rw [e, List.sum_cons, List.length_cons] at ih
        show ((g + 1) :: gs).sum ≤ _ ∧ ((g + 1) :: gs).length ≤ _
        rw [List.sum_cons, List.length_cons]
        omega
    · rw [if_neg c, List.sum_cons, List.length_cons]
      omega
theorem mem_sum {g : Nat} : ∀ {l : List Nat}, g ∈ l → g ≤ l.sum
  | a :: l, h => by
    rw [List.sum_cons]
    rcases List.mem_cons.mp h with e | e
    · omega
    · have := mem_sum e
      omega
theorem gaps_le {zs : List Int} {g : Nat} (h : g ∈ gaps zs) : g ≤ zs.length := by
  have h1 := (gaps_sum zs).1
  have h2 : g ≤ (gaps zs).sum := mem_sum h
  omega
theorem ev2_row : ∀ ds, Hf.ev2 (rowL ds) = (match ds with | [] => [0] | d :: r => List.replicate d 1 ++ (0 :: Hf.ev2 (rowL r)))
  | [] => rfl
  | d :: r => by
    show Hf.ev2 (blk d ++ ([0, 0] ++ rowL r)) = List.replicate d 1 ++ (0 :: Hf.ev2 (rowL r))
    induction d with
    | zero => rfl
    | succ d ih =>
      rw [blk_succ, List.replicate_succ]
      show (1 : Int) :: Hf.ev2 (blk d ++ ([0, 0] ++ rowL r)) = _
      rw [ih]
      rfl
theorem gaps_rep (l : List Int) (d : Nat) : gaps (List.replicate d 1 ++ (0 :: l)) = d :: gaps l := by
  induction d with
  | zero => rfl
  | succ d ih =>
    rw [List.replicate_succ]
    show (if (1 : Int) = 1 then (match gaps (List.replicate d 1 ++ (0 :: l)) with | [] => [1] | g :: gs => (g + 1) :: gs) else _) = _
    rw [if_pos rfl, ih]
theorem gaps_row : ∀ ds, gaps (Hf.ev2 (rowL ds)) = ds ++ [0, 0]
  | [] => rfl
  | d :: r => by
    rw [ev2_row]
    show gaps (List.replicate d 1 ++ (0 :: Hf.ev2 (rowL r))) = _
    rw [gaps_rep, gaps_row r]
    rfl
end Wm

/-! Ticks of bent rows as data. -/
namespace Wm
open PySem L2
inductive Tk : PyData → Prop
  | int {i : Int} : i.natAbs < 1000000 → Tk (.int i)
  | bl (b : Bool) : Tk (.bool b)
  | non : Tk .none
  | one : Tk (.str "1")
  | lst : Tk (.list [.int 0])
def Item (K : PySem.W.Frag) (H : Hp) (x : V) : Prop := ∃ d, Dp K H x d ∧ Tk d
theorem sqL_keep {K : PySem.W.Frag} {H H' : Hp} {a : Addr} {xs : List V} (e : Same H H') (h : SqL K H a xs) : SqL K H' a xs := by
  rcases h with (h | ⟨o, h⟩) | h
  · exact .inl (.inl (e _ _ h))
  · exact .inl (.inr ⟨o, e _ _ h⟩)
  · exact .inr h
theorem tk_keep {K : PySem.W.Frag} {H H' : Hp} {x : V} {d : PyData} (e : Same H H') (h : Dp K H x d) (t : Tk d) : Dp K H' x d := by
  cases t with
  | int _ => cases h; exact .int _
  | bl b => cases h; exact .bl _
  | non => cases h; exact .non
  | one => cases h; exact .str _
  | lst =>
    cases h with
    | lst q a =>
      refine .lst (sqL_keep e q) ?_
      cases a with
      | cons b c =>
        cases b
        cases c
        exact .cons (.int _) .nil
theorem Item.keep {K : PySem.W.Frag} {H H' : Hp} {x : V} (e : Same H H') (h : Item K H x) : Item K H' x := let ⟨d, a, b⟩ := h; ⟨d, tk_keep e a b, b⟩
theorem tks_keep {K : PySem.W.Frag} {H H' : Hp} (e : Same H H') : ∀ {xs : List V} {ds : List PyData}, DpAll K H xs ds → (∀ d ∈ ds, Tk d) → DpAll K H' xs ds
  | _, _, .nil, _ => .nil
  | _, _, .cons a b, t => .cons (tk_keep e a (t _ (by simp))) (tks_keep e b fun d m => t d (List.mem_cons_of_mem _ m))
theorem items_data {K : PySem.W.Frag} {H : Hp} : ∀ {xs : List V}, (∀ x ∈ xs, Item K H x) → ∃ ds, DpAll K H xs ds ∧ (∀ d ∈ ds, Tk d) ∧ ds.length = xs.length
  | [], _ => ⟨[], .nil, by simp, rfl⟩
  | x :: xs, h => by
    obtain ⟨d, a, b⟩ := h x (by simp)
    obtain ⟨ds, c1, c2, c3⟩ := items_data (xs := xs) fun y m => h y (List.mem_cons_of_mem _ m)
    refine ⟨d :: ds, .cons a c1, fun y m => ?_, by rw [List.length_cons, List.length_cons, c3]⟩
    rcases List.mem_cons.mp m with q | q
    · rw [q]; exact b
    · exact c2 y q
theorem item_int {K : PySem.W.Frag} {H : Hp} {i : Int} (h : i.natAbs < 1000000) : Item K H (.int i) := ⟨_, .int i, .int h⟩
theorem tk_lay {d : PyData} (t : Tk d) : d.canLay0 = true ∧ d.depth ≤ 1 := by
  cases t with
  | int _ => exact ⟨by simp [PyData.canLay0], by simp [PyData.depth]⟩
  | bl b => exact ⟨by simp [PyData.canLay0], by simp [PyData.depth]⟩
  | non => exact ⟨by simp [PyData.canLay0], by simp [PyData.depth]⟩
  | one => exact ⟨by decide +kernel, by simp [PyData.depth]⟩
  | lst => exact ⟨by simp [PyData.canLay0, PyData.canLayAll0], by simp [PyData.depth, PyData.depthAll]⟩
theorem tks_lay : ∀ {ds : List PyData}, (∀ d ∈ ds, Tk d) → PyData.canLayAll0 ds = true ∧ PyData.depthAll ds ≤ 1
  | [], _ => by simp [PyData.canLayAll0, PyData.depthAll]
  | d :: ds, h => by
    have h1 := tk_lay (h d (by simp))
    have h2 := tks_lay (ds := ds) fun y m => h y (List.mem_cons_of_mem _ m)
    simp only [PyData.canLayAll0, PyData.depthAll, h1.1, h2.1, Bool.and_self, true_and]
    omega
theorem tks_shaped {ds : List PyData} (h : ∀ d ∈ ds, Tk d) : SeqAt.shaped (.list ds) = true := by
  have q := tks_lay h
  have e : decide ((PyData.list ds).depth ≤ 64) = true := decide_eq_true (by simp only [PyData.depth]; omega)
  show ((PyData.list ds).canLay0 && _) = true
  rw [e, Bool.and_true]
  exact q.1
theorem tk_show {d : PyData} (t : Tk d) : d.showable = true ∧ d.hasDict = false ∧ d.leavesShort 13 = true ∧ d.weight ≤ 30 := by
  cases t with
  | @int i h =>
    have hl : i.natAbs.log2 < 20 ∨ i = 0 := by
      by_cases z : i = 0
      · exact .inr z
      · exact .inl ((Nat.log2_lt (by omega)).mpr (by omega))
    refine ⟨decide_eq_true ?_, rfl, decide_eq_true (PyData.shown_int_le (by omega)), ?_⟩
    · rcases hl with z | z
      · omega
      · subst z; decide
    · rcases hl with z | z
      · simp only [PyData.weight]; split <;> omega
      · subst z; decide
  | bl b => exact ⟨rfl, rfl, rfl, by simp [PyData.weight]⟩
  | non => exact ⟨rfl, rfl, rfl, by simp [PyData.weight]⟩
  | one => exact ⟨rfl, rfl, by decide +kernel, by decide +kernel⟩
  | lst => exact ⟨by decide +kernel, rfl, by decide +kernel, by decide +kernel⟩
theorem tks_show : ∀ {ds : List PyData}, (∀ d ∈ ds, Tk d) → PyData.showableAll ds = true ∧ PyData.hasDictAll ds = false ∧ PyData.leavesShortAll 13 ds = true ∧ PyData.weightAll ds ≤ 31 * ds.length
  | [], _ => by simp [PyData.showableAll, PyData.hasDictAll, PyData.leavesShortAll, PyData.weightAll]
  | d :: ds, h => by
    have h1 := tk_show (h d (by simp))
    have h2 := tks_show (ds := ds) fun y m => h y (List.mem_cons_of_mem _ m)
    simp only [PyData.showableAll, PyData.hasDictAll, PyData.leavesShortAll, PyData.weightAll, h1.1, h1.2.1, h1.2.2.1, h2.1, h2.2.1, h2.2.2.1, Bool.and_self, Bool.or_self, true_and, List.length_cons]
    omega
theorem tks_shown {ds : List PyData} (h : ∀ d ∈ ds, Tk d) (l : ds.length ≤ 1000) : (PyData.list ds).shown.length ≤ sizeLine :=
  PyData.shown_fits (B := 13) (by decide) (by decide) (tks_show h).2.2.1 (Nat.le_trans (tks_show h).2.2.2 (by omega))
def isI : V → Bool
  | .int _ => true
  | _ => false
def isBit (x : V) : Bool := decide (x = .int 0) || decide (x = .int 1)
theorem all_ints {xs : List V} (h : ∀ x ∈ xs, isI x = true) : ∃ zs : List Int, xs = zs.map V.int := by
  induction xs with
  | nil => exact ⟨[], rfl⟩
  | cons x xs ih =>
    obtain ⟨zs, e⟩ := ih fun y m => h y (List.mem_cons_of_mem _ m)
    have hx := h x (by simp)
    cases x with
    | int i => exact ⟨i :: zs, by rw [e]; rfl⟩
    | _ => cases hx
theorem all_bits {xs : List V} (h : ∀ x ∈ xs, isBit x = true) : ∃ zs : List Int, xs = zs.map V.int ∧ ∀ z ∈ zs, z = 0 ∨ z = 1 := by
  induction xs with
  | nil => exact ⟨[], rfl, by simp⟩
  | cons x xs ih =>
    obtain ⟨zs, e, b⟩ := ih fun y m => h y (List.mem_cons_of_mem _ m)
    have hx := h x (by simp)
    have hc : x = .int 0 ∨ x = .int 1 := by
      rcases Bool.or_eq_true_iff.mp hx with q | q
      · exact .inl (of_decide_eq_true q)
      · exact .inr (of_decide_eq_true q)
    have : ∃ i : Int, x = .int i ∧ (i = 0 ∨ i = 1) := by
      rcases hc with q | q
      · exact ⟨0, q, .inl rfl⟩
      · exact ⟨1, q, .inr rfl⟩
    obtain ⟨i, rfl, hi⟩ := this
    refine ⟨i :: zs, by rw [e]; rfl, fun z m => ?_⟩
    rcases List.mem_cons.mp m with q | q
    · rw [q]; exact hi
    · exact b z q
/-- what isinstance asks of such a tick -/
theorem tyx_of {K : PySem.W.Frag} {H : Hp} {x : V} (h : Item K H x) : ∃ (n : String) (a b : Bool), TyX K H x (.type n) ∧ PySem.W.kitOne K (.type n) (.type "int") = some a ∧
    PySem.W.kitOne K (.type n) (.type "bool") = some b ∧ (a && !b) = isI x := by
  obtain ⟨d, h, t⟩ := h
  cases t with
  | int _ => cases h; exact ⟨"int", true, false, .base (.int _), kit_ty (by decide +kernel), kit_ty (by decide +kernel), rfl⟩
  | bl b => cases h; exact ⟨"bool", true, true, .base (.bl _), kit_ty (by decide +kernel), kit_ty (by decide +kernel), rfl⟩
  | non => cases h; exact ⟨"NoneType", false, false, .base .non, kit_ty (by decide +kernel), kit_ty (by decide +kernel), rfl⟩
  | one => cases h; exact ⟨"str", false, false, .base (.str _), kit_ty (by decide +kernel), kit_ty (by decide +kernel), rfl⟩
  | lst =>
    cases h with
    | lst q a =>
      rcases q with (q | ⟨o, q⟩) | q
      · exact ⟨"list", false, false, .base (.lst q), kit_ty (by decide +kernel), kit_ty (by decide +kernel), rfl⟩
      · exact ⟨"list", false, false, .base (.frz q), kit_ty (by decide +kernel), kit_ty (by decide +kernel), rfl⟩
      · obtain ⟨o, xs, n, e, c, _⟩ := q
        exact ⟨"list", false, false, .kList e c, kit_ty (by decide +kernel), kit_ty (by decide +kernel), rfl⟩
/-- a list or a tuple -/
def SqA (K : PySem.W.Frag) (H : Hp) (a : Addr) (xs : List V) : Prop := SqL K H a xs ∨ SqT K H a xs
theorem SqA.keep {K : PySem.W.Frag} {H H' : Hp} {a : Addr} {xs : List V} (e : Same H H') (h : SqA K H a xs) : SqA K H' a xs := h.imp (sqL_keep e) (sameT e)
end Wm

/-! Texts of digits: halves, groups, the number they tell. -/
namespace Wm
open PySem L2 TL
def oneS (g : Nat) : Str := ⟨(List.replicate g 49).toArray⟩
def bitS (z : Int) : Str := if z = 1 then "1" else "0"
def decS (g : Nat) : Str := ((toString (g : Int) : String) : Str)
theorem bit_str {z : Int} (h : z = 0 ∨ z = 1) : ((toString z : String) : Str) = bitS z := by
  rcases h with e | e <;> subst e <;> decide +kernel
theorem tl_bit (z : Int) : tl (bitS z) = [if z = 1 then 49 else 48] := by
  unfold bitS
  by_cases c : z = 1
  · rw [if_pos c, if_pos c]; decide +kernel
  · rw [if_neg c, if_neg c]; decide +kernel
theorem joinL_nil : ∀ ps : List (List Nat), joinL [] ps = ps.flatten
  | [] => rfl
  | [p] => by show p = [p].flatten; simp
  | p :: q :: r => by
    show p ++ ([] ++ joinL [] (q :: r)) = _
    rw [joinL_nil (q :: r), List.nil_append]
    rfl
theorem tl_empty : tl ("" : Str) = [] := by decide +kernel
theorem tl_zero : tl ("0" : Str) = [48] := by decide +kernel
theorem tl_join0 (ys : List Str) : tl (Txt.join "" ys) = (ys.map tl).flatten := by
  rw [join_eq, tl_join, tl_empty, joinL_nil]
theorem bits_flat : ∀ zs : List Int, ((zs.map bitS).map tl).flatten = bits zs
  | [] => rfl
  | z :: zs => by
    rw [List.map_cons, List.map_cons, List.flatten_cons, bits_flat zs, tl_bit]
    rfl
theorem halves_eq (zs : List Int) : Txt.join "" (zs.map bitS) = Txt.join "0" ((gaps zs).map oneS) := by
  refine ext_tl ?_
  rw [tl_join0, bits_flat, gaps_join, join_eq, tl_join, tl_zero, List.map_map]
  rfl
theorem groups_eq (zs : List Int) : Txt.split (Txt.join "" (zs.map bitS)) "0" = (gaps zs).map oneS := by
  rw [halves_eq]
  refine split_join (s := 48) (S := []) tl_zero (by decide +kernel) (map_ne (gaps_ne zs)) fun p hp h => ?_
  obtain ⟨g, _, rfl⟩ := List.mem_map.mp hp
  have h : 48 ∈ List.replicate g 49 := h
  exact absurd (List.mem_replicate.mp h).2 (by decide)
theorem oneS_len (g : Nat) : (oneS g).length = g := by
  rw [len_tl]
  show (List.replicate g 49).length = g
  rw [List.length_replicate]
theorem halves_len (zs : List Int) : (Txt.join "" (zs.map bitS)).length = zs.length := by
  rw [len_tl, tl_join0, bits_flat]
  unfold bits
  rw [List.length_map]
theorem len4 : ∀ g : Fin 1001, (decS g.val).length ≤ 4 := by decide +kernel
theorem dec_len {g : Nat} (h : g ≤ 1000) : (decS g).length ≤ 4 := len4 ⟨g, by omega⟩
theorem dec_sum : ∀ {gs : List Nat}, (∀ g ∈ gs, g ≤ 1000) → ((gs.map decS).map (·.length)).sum ≤ 4 * gs.length
  | [], _ => by simp
  | g :: gs, h => by
    have h1 := dec_len (h g (by simp))
    have h2 := dec_sum (gs := gs) fun y m => h y (List.mem_cons_of_mem _ m)
    rw [List.map_cons, List.map_cons, List.sum_cons, List.length_cons]
    omega
theorem join0_len (ys : List Str) : (Txt.join "" ys).length = (ys.map (·.length)).sum := by
  rw [len_tl, tl_join0]
  induction ys with
  | nil => rfl
  | cons y ys ih => rw [List.map_cons, List.flatten_cons, List.length_append, ih, List.map_cons, List.sum_cons, len_tl]
theorem bit_sum (zs : List Int) : ((zs.map bitS).map (·.length)).sum = zs.length := by rw [← join0_len, halves_len]
theorem num_text : ∀ {ds : List Nat}, (∀ d ∈ ds, 1 ≤ d ∧ d ≤ 9) → Txt.join "" (ds.map decS) = numS ds
  | [], _ => by decide +kernel
  | d :: ds, h => by
    have ih := num_text (ds := ds) fun y m => h y (List.mem_cons_of_mem _ m)
    refine ext_tl ?_
    rw [tl_join0, List.map_cons, List.map_cons, List.flatten_cons, ← tl_join0, ih]
    have e : decS d = numS [d] := dig_str (h d (by simp))
    rw [e]
    rfl
/-- the number that a row of bits tells, if it is a row -/
def told (zs : List Int) : Str := Txt.join "" ((gaps (Hf.ev2 zs)).dropLast.dropLast.map decS)
theorem told_row {ds : List Nat} (h : ∀ d ∈ ds, 1 ≤ d ∧ d ≤ 9) : told (rowL ds) = numS ds := by
  unfold told
  rw [gaps_row, ← num_text h]
  congr 2
  show (ds ++ [0, 0]).dropLast.dropLast = ds
  rw [show (ds ++ [0, 0]) = (ds ++ [0]) ++ [0] by simp, List.dropLast_concat, List.dropLast_concat]
theorem digits_codes : ("123456789" : Str).cps.toList = [49, 50, 51, 52, 53, 54, 55, 56, 57] := by decide +kernel
theorem dig_text (t : Str) (h : ∀ c ∈ tl t, c ∈ ("123456789" : Str).cps.toList) : ∃ ds : List Nat, (∀ d ∈ ds, 1 ≤ d ∧ d ≤ 9) ∧ t = numS ds := by
  have h2 : ∀ c ∈ tl t, 49 ≤ c ∧ c ≤ 57 := fun c m => by
    have q := h c m
    rw [digits_codes] at q
    simp only [List.mem_cons, List.not_mem_nil, or_false] at q
    omega
  refine ⟨(tl t).map (· - 48), fun d m => ?_, ?_⟩
  · obtain ⟨c, mc, rfl⟩ := List.mem_map.mp m
    have := h2 c mc
    omega
  · refine ext_tl ?_
    show tl t = ((tl t).map (· - 48)).map (· + 48)
    rw [List.map_map]
    refine (List.map_id _).symm.trans (List.map_congr_left fun c m => ?_)
    have := h2 c m
    show c = c - 48 + 48
    omega
theorem num_codes {ds : List Nat} (h : ∀ d ∈ ds, 1 ≤ d ∧ d ≤ 9) : ∀ c ∈ tl (numS ds), c ∈ ("123456789" : Str).cps.toList := fun c m => by
  have m : c ∈ codes ds := m
  obtain ⟨d, md, rfl⟩ := List.mem_map.mp m
  exact dig_in (h d md)
def IsNum (t : Str) : Prop := ∃ ds, Num ds ∧ t = numS ds
theorem isnum_dig {ds : List Nat} : IsNum (numS ds) ↔ Num ds :=
  ⟨fun ⟨es, N, e⟩ => by rw [numS_inj e]; exact N, fun N => ⟨ds, N, rfl⟩⟩
theorem row_inj {ds es : List Nat} (N : Num ds) (M : Num es) (h : (rowL ds).map V.int = (rowL es).map V.int) : ds = es := by
  have e : rowL ds = rowL es := by
    have q := congrArg (List.map fun v => match v with | V.int i => i | _ => 0) h
    simpa [List.map_map, Function.comp_def] using q
  exact ones_inj (fun d m => (N.dig d m).1) (fun d m => (M.dig d m).1) (by rw [e])
theorem map_int_inj {xs ys : List Int} (h : xs.map V.int = ys.map V.int) : xs = ys := by
  have q := congrArg (List.map fun v => match v with | V.int i => i | _ => 0) h
  simpa [List.map_map, Function.comp_def] using q
/-- what number_of tells of a row -/
def Told (xs : List V) (v : V) : Prop := (∃ ds, Num ds ∧ xs = (rowL ds).map V.int ∧ v = .str (numS ds)) ∨ ((∀ ds, Num ds → xs ≠ (rowL ds).map V.int) ∧ v = .non)
theorem Told.uniq {xs : List V} {v u : V} (a : Told xs v) (b : Told xs u) : v = u := by
  rcases a with ⟨ds, N, e, rfl⟩ | ⟨n, rfl⟩
  · rcases b with ⟨es, M, f, rfl⟩ | ⟨n, _⟩
    · rw [row_inj N M (e.symm.trans f)]
    · exact absurd e (n ds N)
  · rcases b with ⟨es, M, f, rfl⟩ | ⟨_, rfl⟩
    · exact absurd f (n es M)
    · rfl
theorem Told.row {ds : List Nat} {v : V} (N : Num ds) (a : Told ((rowL ds).map V.int) v) : v = .str (numS ds) := a.uniq (.inl ⟨ds, N, rfl, rfl⟩)
end Wm

/-! Things as data: what may be asked whether it is a number. -/
namespace Wm
open PySem L2 TL
structure Tx (t : Str) : Prop where
  len : t.length ≤ 100
  asc : ∀ c ∈ tl t, c < 128
inductive Tg : PyData → Prop
  | int {i : Int} : i.natAbs < 1000000000000000000000 → Tg (.int i)
  | bl (b : Bool) : Tg (.bool b)
  | non : Tg .none
  | str {t : Str} : Tx t → Tg (.str t)
  | lst {ts : List Str} : (∀ t ∈ ts, Tx t) → ts.length ≤ 100 → Tg (.list (ts.map .str))
  | tup {ts : List Str} : (∀ t ∈ ts, Tx t) → ts.length ≤ 100 → Tg (.tuple (ts.map .str))
structure Ob (K : PySem.W.Frag) (H : Hp) (x : V) (d : PyData) : Prop where
  dp : Dp K H x d
  tg : Tg d
theorem dp_strs {K : PySem.W.Frag} {H H' : Hp} : ∀ {xs : List V} {ts : List Str}, DpAll K H xs (ts.map PyData.str) → xs = ts.map V.str ∧ DpAll K H' (ts.map V.str) (ts.map PyData.str)
  | _, [], h => by cases h; exact ⟨rfl, .nil⟩
  | _, t :: ts, h => by
    cases h with
    | cons a b =>
      cases a
      obtain ⟨e, g⟩ := dp_strs (H' := H') (ts := ts) b
      subst e
      exact ⟨rfl, .cons (.str t) g⟩
theorem dp_strs' {K : PySem.W.Frag} {H : Hp} : ∀ ts : List Str, DpAll K H (ts.map V.str) (ts.map PyData.str)
  | [] => .nil
  | t :: ts => .cons (.str t) (dp_strs' ts)
theorem Ob.move {K : PySem.W.Frag} {H H' : Hp} {x : V} {d : PyData} (h : Ob K H x d) (f : ∀ p o, x = .ref p → H p = some o → (∀ ts : List Str, o = .lst (ts.map V.str) → H' p = some o) ∧ (∀ ts : List Str, o = .tup (ts.map V.str) → H' p = some o) ∧ (∀ ob u, o = .frz ob u → H' p = some o)) : Ob K H' x d := by
  obtain ⟨h, t⟩ := h
  cases t with
  | int q => cases h; exact ⟨.int _, .int q⟩
  | bl b => cases h; exact ⟨.bl _, .bl b⟩
  | non => cases h; exact ⟨.non, .non⟩
  | str q => cases h; exact ⟨.str _, .str q⟩
  | lst q l =>
    cases h with
    | lst s a =>
      obtain ⟨e, g⟩ := dp_strs (H' := H') a
      subst e
      refine ⟨.lst ?_ g, .lst q l⟩
      rcases s with (s | ⟨o, s⟩) | s
      · exact .inl (.inl ((f _ _ rfl s).1 _ rfl))
      · exact .inl (.inr ⟨o, (f _ _ rfl s).2.2 _ _ rfl⟩)
      · exact .inr s
  | tup q l =>
    cases h with
    | tup s a =>
      obtain ⟨e, g⟩ := dp_strs (H' := H') a
      subst e
      refine ⟨.tup ?_ g, .tup q l⟩
      rcases s with (s | ⟨o, s⟩) | s
      · exact .inl (.inl ((f _ _ rfl s).2.1 _ rfl))
      · exact .inl (.inr ⟨o, (f _ _ rfl s).2.2 _ _ rfl⟩)
      · exact .inr s
theorem Ob.keep {K : PySem.W.Frag} {H H' : Hp} {x : V} {d : PyData} (e : Same H H') (h : Ob K H x d) : Ob K H' x d :=
  h.move fun p o _ q => ⟨fun _ _ => e _ _ q, fun _ _ => e _ _ q, fun _ _ _ => e _ _ q⟩
theorem Ob.but {K : PySem.W.Frag} {H H' : Hp} {x : V} {d : PyData} {b : Addr} {n : Nat} (bag : Bag H b n) (e : But b H H') (h : Ob K H x d) : Ob K H' x d := by
  obtain ⟨c, i, k, m, z, ns, hb, _⟩ := bag
  refine h.move fun p o _ q => ?_
  by_cases pb : p = b
  · subst pb
    rw [hb] at q
    have q := Option.some.inj q
    subst q
    refine ⟨fun ts f => ?_, fun ts f => (by cases f), fun ob u f => (by cases f)⟩
    cases ts with
    | nil => simp at f
    | cons t ts => simp at f
  · exact ⟨fun _ _ => e _ _ pb q, fun _ _ => e _ _ pb q, fun _ _ _ => e _ _ pb q⟩
theorem tx_lay {t : Str} (h : Tx t) : PyData.leavesShort 13 (.str t) = true ∧ PyData.weight (.str t) ≤ 100 := by
  refine ⟨?_, h.len⟩
  show (t.cps.toList.all fun c => decide (c < 16 ^ 8)) = true
  rw [List.all_eq_true]
  intro c m
  have := h.asc c m
  exact decide_eq_true (by omega)
theorem strs_lay : ∀ {ts : List Str}, (∀ t ∈ ts, Tx t) → PyData.leavesShortAll 13 (ts.map .str) = true ∧ PyData.weightAll (ts.map .str) ≤ 101 * ts.length ∧ PyData.showableAll (ts.map .str) = true ∧ PyData.hasDictAll (ts.map .str) = false ∧ PyData.depthAll (ts.map .str) = 0 ∧ PyData.plainAll (ts.map .str) = true
  | [], _ => by simp [PyData.leavesShortAll, PyData.weightAll, PyData.showableAll, PyData.hasDictAll, PyData.depthAll, PyData.plainAll]
  | t :: ts, h => by
    have h1 := tx_lay (h t (by simp))
    have h2 := strs_lay (ts := ts) fun y m => h y (List.mem_cons_of_mem _ m)
    obtain ⟨a1, a2⟩ := h1
    obtain ⟨b1, b2, b3, b4, b5, b6⟩ := h2
    simp only [List.map_cons, PyData.leavesShortAll, PyData.weightAll, PyData.showableAll, PyData.hasDictAll, PyData.depthAll, PyData.plainAll, a1, b1, b3, b4, b5, b6, PyData.showable, PyData.hasDict, PyData.depth, PyData.plain, Bool.and_self, Bool.or_self, true_and, List.length_cons, and_true, Nat.max_self]
    omega
structure Shows (d : PyData) : Prop where
  sh : d.showable = true
  nd : d.hasDict = false
  dep : d.depth ≤ 60
  fit : d.shown.length ≤ sizeLine
theorem tg_shows {d : PyData} (t : Tg d) : Shows d := by
  cases t with
  | @int i h =>
    have hl : i.natAbs.log2 < 70 ∨ i = 0 := by
      by_cases z : i = 0
      · exact .inr z
      · exact .inl ((Nat.log2_lt (by omega)).mpr (by omega))
    refine ⟨decide_eq_true ?_, rfl, Nat.zero_le _, Nat.le_trans (by rw [show (PyData.int i).shown = Str.ofString (toString i) from rfl, ofString_length]; exact int_text_length_le10 (k := 21) (by decide) h) (by decide)⟩
    rcases hl with z | z
    · omega
    · subst z; decide
  | bl b => exact ⟨rfl, rfl, Nat.zero_le _, by cases b <;> decide +kernel⟩
  | non => exact ⟨rfl, rfl, Nat.zero_le _, by decide +kernel⟩
  | str h =>
    have q := tx_lay h
    exact ⟨rfl, rfl, Nat.zero_le _, PyData.shown_fits (B := 13) (by decide) (by decide) q.1 (Nat.le_trans q.2 (by decide))⟩
  | lst h l =>
    obtain ⟨b1, b2, b3, b4, b5, b6⟩ := strs_lay h
    exact ⟨b3, b4, by simp only [PyData.depth, b5]; decide, PyData.shown_fits (B := 13) (by decide) (by decide) b1 (Nat.le_trans b2 (by omega))⟩
  | tup h l =>
    obtain ⟨b1, b2, b3, b4, b5, b6⟩ := strs_lay h
    exact ⟨b3, b4, by simp only [PyData.depth, b5]; decide, PyData.shown_fits (B := 13) (by decide) (by decide) b1 (Nat.le_trans b2 (by omega))⟩
/-- a number's text -/
def IsN (x : V) : Prop := ∃ ds, Num ds ∧ x = .str (numS ds)
/-- what isinstance asks of a thing: a text, or no text -/
theorem tys_of {K : PySem.W.Frag} {H : Hp} {x : V} {d : PyData} (h : Ob K H x d) : ∃ (n : String) (b : Bool), TyX K H x (.type n) ∧ PySem.W.kitOne K (.type n) (.type "str") = some b ∧ (b = true → ∃ t, x = .str t ∧ d = .str t ∧ Tx t) ∧ (b = false → ¬ IsN x) := by
  obtain ⟨h, t⟩ := h
  cases t with
  | int _ => cases h; exact ⟨"int", false, .base (.int _), kit_ty (by decide +kernel), (fun z => by cases z), fun _ ⟨ds, _, e⟩ => by cases e⟩
  | bl b => cases h; exact ⟨"bool", false, .base (.bl _), kit_ty (by decide +kernel), (fun z => by cases z), fun _ ⟨ds, _, e⟩ => by cases e⟩
  | non => cases h; exact ⟨"NoneType", false, .base .non, kit_ty (by decide +kernel), (fun z => by cases z), fun _ ⟨ds, _, e⟩ => by cases e⟩
  | str q => cases h; exact ⟨"str", true, .base (.str _), kit_ty (by decide +kernel), fun _ => ⟨_, rfl, rfl, q⟩, fun z => by cases z⟩
  | lst _ _ =>
    cases h with
    | lst q a =>
      rcases q with (q | ⟨o, q⟩) | q
      · exact ⟨"list", false, .base (.lst q), kit_ty (by decide +kernel), (fun z => by cases z), fun _ ⟨ds, _, e⟩ => by cases e⟩
      · exact ⟨"list", false, .base (.frz q), kit_ty (by decide +kernel), (fun z => by cases z), fun _ ⟨ds, _, e⟩ => by cases e⟩
      · obtain ⟨o, xs, n, e, c, _⟩ := q
        exact ⟨"list", false, .kList e c, kit_ty (by decide +kernel), (fun z => by cases z), fun _ ⟨ds, _, e⟩ => by cases e⟩
  | tup _ _ =>
    cases h with
    | tup q a =>
      rcases q with (q | ⟨o, q⟩) | q
      · exact ⟨"tuple", false, .base (.tup q), kit_ty (by decide +kernel), (fun z => by cases z), fun _ ⟨ds, _, e⟩ => by cases e⟩
      · exact ⟨"tuple", false, .fTuple q, kit_ty (by decide +kernel), (fun z => by cases z), fun _ ⟨ds, _, e⟩ => by cases e⟩
      · obtain ⟨o, xs, n, e, c, _⟩ := q
        exact ⟨"tuple", false, .kTuple e c, kit_ty (by decide +kernel), (fun z => by cases z), fun _ ⟨ds, _, e⟩ => by cases e⟩
theorem ob_num {K : PySem.W.Frag} {H : Hp} {ds : List Nat} (N : Num ds) : Ob K H (.str (numS ds)) (.str (numS ds)) :=
  ⟨.str _, .str ⟨by rw [numS_len]; have := N.len; omega, fun c m => by
    have m : c ∈ codes ds := m
    obtain ⟨d, md, rfl⟩ := List.mem_map.mp m
    have := (N.dig d md).2
    omega⟩⟩
theorem isN_str {t : Str} : IsN (.str t) ↔ IsNum t := ⟨fun ⟨ds, N, e⟩ => ⟨ds, N, V.str.inj e⟩, fun ⟨ds, N, e⟩ => ⟨ds, N, by rw [e]⟩⟩
theorem fresh_but {b p : Addr} {H H' : Hp} {n : Nat} (bag : Bag H b n) (e : But b H H') (f : H' p = none) : H p = none := by
  cases q : H p with
  | none => rfl
  | some o =>
    by_cases pb : p = b
    · obtain ⟨c, x, k, m, z, ns, h, _⟩ := bag
      obtain ⟨x', k', m', z', g⟩ := e.cel c ⟨x, k, m, z, h⟩
      rw [pb, g] at f
      cases f
    · rw [e.keep p o pb q] at f
      cases f
end Wm

/-! sum of a tuple of ints. -/
namespace Hf
open PySem PySem.Spec PyProof.Rows L2
section
variable {prog : Program} {w : World} {A : Around} {E : Value → Shared → Prop} {s : Shared} {l : Addr} {its : List Value} {ns : List Int} {Q : Value → Shared → Prop}
theorem sum_rawT (hh : A.handled = none) (hl : s.heap.IsTuple l its.toArray) (hi : IntsAre its ns)
    (h : ∀ h' tk t', (∀ b o, s.heap.get? b = some o → h'.get? b = some o) → Q (.int ns.sum t') { s with heap := h', toks := tk }) : wpAny (model prog w) A (call (.builtin "sum") [.ref l]) Q E s := by
  obtain ⟨xs, e⟩ := hi.allInts.items
  have hn : numsOf (intItems xs).toList = ns := by rw [← e]; exact hi.numsOf
  rw [nums_intItems] at hn
  rw [e] at hl
  refine PySem.W.ktm_sumG hh hl fun h' tk t' hk => ?_
  have := h h' tk t' hk
  rw [preSum_eq, List.take_of_length_le (by simp), hn]; exact this
end
section
variable {X : Cx}
def rSumA (K : PySem.W.Frag) : List V → Hp → VK → Prop := fun vs H Q => ∃ (a : Addr) (ns : List Int), vs = [V.ref a] ∧ (SqL K H a (ns.map V.int) ∨ SqT K H a (ns.map V.int)) ∧ Q (.int ns.sum) H
theorem cr_sumA (hc : X.calm = true) : CallR X (.builtin "sum") (rSumA X.K) := by
  intro pins s σ H vs us Q I r h
  obtain ⟨a, ns, rfl, hs, q⟩ := h
  rcases hs with hs | hs
  · obtain ⟨its, rv, hl, _⟩ := I.list hs
    rw [Vals.ref1 r]
    exact sum_raw (I.ok.hd hc) hl.isList rv.ints fun h' tk t' hk => ⟨.int _, H, I.kept hk, ⟨_, rfl⟩, q⟩
  · obtain ⟨its, rv, hl, _⟩ := I.tuple hs
    rw [Vals.ref1 r]
    exact sum_rawT (I.ok.hd hc) (show s.heap.IsTuple a its.toArray from hl) rv.ints fun h' tk t' hk => ⟨.int _, H, I.kept hk, ⟨_, rfl⟩, q⟩
end
end Hf

/-! enumerate of a tuple, as a thing that a for walks. -/
namespace Es
open PySem PySem.Spec PyProof.Rows L2
theorem meets_ent (t : Addr) (its : Array Value) (m : Nat) (dd : Option Addr) (slo : Array (Option Value)) :
    Meets (Builtin.«enumerate.__new__» ⟨[.type "enumerate", .ref t], []⟩) (fun _ R s => s.heap.get? t = some { cls := .type "tuple", dict := dd, data := .seq its m, slots := slo } ∧
      R (.ok (.ret (.ref (s.heap.push { cls := .type "tuple_iterator", data := .fields #[.ref t, .int 0 0] }).objs.size))) { s with heap := (s.heap.push { cls := .type "tuple_iterator", data := .fields #[.ref t, .int 0 0] }).push { cls := .type "enumerate", data := .fields #[.none, .bool false, .ref s.heap.objs.size, rawInt 0, .none, .none] } }) :=
  .of_wp fun prog w A R s h => by
    obtain ⟨hp, gn, dr, tk, os⟩ := s
    obtain ⟨ht, h⟩ := h
    have hsub := sub_enumerate
    have hT : Heap.IsTuple (Shared.heap ⟨hp, gn, dr, tk, os⟩) t its := ⟨_, ht, rfl, m, rfl⟩
    wp_walk using AutoSeq1.wpAny_loadPart' ht
    refine wpAny_stack_any fun st => wpAny_pure ?_
    split
    · rename_i c _ _ _ _ _
      cases (c == Value.type "enumerate")
      · wp_walk using AutoSeq1.wpAny_loadPart' ht, wpAny_pyIter_tuple hT
        exact ⟨_, rfl, h⟩
      · wp_walk using AutoSeq1.wpAny_loadPart' ht, wpAny_pyIter_tuple hT
        exact ⟨_, rfl, h⟩
    · wp_walk using AutoSeq1.wpAny_loadPart' ht, wpAny_pyIter_tuple hT
      exact ⟨_, rfl, h⟩
section
variable {prog : Program} {w : World} {A : Around} {E : Value → Shared → Prop} {s : Shared}
theorem call_ent {t : Addr} {its : Array Value} {Q : Value → Shared → Prop} (ht : s.heap.IsTuple t its)
    (q : ∀ g, IsEnum g (s.heap.objs.size + 1) s.heap.objs.size 0 .none → g.IsTupleIter s.heap.objs.size t 0 → (∀ b o, s.heap.get? b = some o → g.get? b = some o) → Q (.ref (s.heap.objs.size + 1)) { s with heap := g }) :
    wpAny (model prog w) A (call (.type "enumerate") [.ref t]) Q E s := by
  obtain ⟨⟨tc, td, tdat, tsl⟩, h0, h1, m, h2⟩ := ht
  simp only at h1 h2
  subst h1 h2
  refine callType_new F.called_enumerate (by decide) (F.typeCall_enumerate_1 _) (F.newCall_enumerate_1 _) (fun ob => F.args_object_init_2 ob _) F.entry_enumerate_new (meets_ent t its m td tsl) ⟨h0, ?_⟩
  have hz : (s.heap.push { cls := .type "tuple_iterator", data := .fields #[.ref t, .int 0 0] }).objs.size = s.heap.objs.size + 1 := Heap.size_push ..
  have er : IsEnum ((s.heap.push { cls := .type "tuple_iterator", data := .fields #[.ref t, .int 0 0] }).push { cls := .type "enumerate", data := .fields #[.none, .bool false, .ref s.heap.objs.size, rawInt 0, .none, .none] }) (s.heap.objs.size + 1) s.heap.objs.size 0 .none := by
    rw [← hz]
    exact Heap.get?_push_size _ rfl
  show _ ∧ _
  rw [hz]
  exact ⟨⟨_, er, rfl⟩, q _ er ⟨_, Heap.get?_push_of_some _ (Heap.get?_push_size _ rfl), rfl, rfl⟩ fun b o x => Heap.get?_push_of_some _ (Heap.get?_push_of_some _ x)⟩
theorem tup_end {e it t : Addr} {i : Nat} {its : Array Value} {old : Value} {k : Int} {Q : Option Value → Shared → Prop} (hh : A.handled = none) (er : IsEnum s.heap e it k old) (ti : s.heap.IsTupleIter it t i) (ht : s.heap.IsTuple t its) (hx : its[i]? = none)
    (q : ∀ g, Heap.ExtBut it s.heap g → Q none { s with heap := g }) : wpAny (model prog w) A (pyNext (.ref e)) Q E s := by
  have te : s.TypeIs (.ref e) "enumerate" := ⟨_, er, rfl⟩
  unfold pyNext
  refine wpAny_bind (wpAny_attempt (wpAny_callSpecial?_slot (name := Str.ofString "__next__") te F.slot_enumerate_next (wpAny_call_entry F.slot_enumerate_next te F.entry_enumerate_next ?_ (F.args_enumerate_next_1 _))))
  show wpAny _ _ (field (.ref e) 2 >>= _) _ _ _
  refine wpAny_bind (wpAny_field er rfl (x := .ref it) rfl ?_)
  refine wpAny_bind (wpAny_nextOf_tuple_end (show A.in1.handled = none from hh) ti ht hx fun g x k1 ⟨o, k2, k3⟩ => ?_)
  refine wpAny_bind (wpAny_isInstance (T := "StopIteration") (b := true) ⟨o, k2, k3⟩ isSubtype_stop ?_)
  exact wpAny_pure (q _ k1)
end
def Iten (K : PySem.W.Frag) (a : Addr) : It :=
  ⟨fun i H => ∃ (xs : List V) (x : V), SqT K H a xs ∧ xs[i]? = some x, fun i H v H' => ∃ T x, v = .ref T ∧ H T = none ∧ H' = upd H T (.tup [.int (i : Nat), x]) ∧ ∀ xs, SqT K H a xs → xs[i]? = some x, fun i H => ∃ xs : List V, SqT K H a xs ∧ xs.length ≤ i⟩
theorem turn_ent {P : Program} {w : World} {K : PySem.W.Frag} {elts : List Expr} {kk : Nat} {tpos : Pos} (a e it : Addr) (nei : e ≠ it) (nea : e ≠ a) (nai : a ≠ it) :
    Turn P w K (.Tuple elts kk tpos) (Iten K a) [e, it] e (fun i h => (∃ old, IsEnum h e it ((i : Nat) : Int) old) ∧ h.IsTupleIter it a i) where
  mem := by simp
  obj := fun i h st b hb => by
    obtain ⟨⟨old, er⟩, o, ho, _, hd⟩ := st
    have hb' : b = e ∨ b = it := by simpa using hb
    rcases hb' with z | z
    · rw [z]
      exact ⟨_, er, fun v q => nomatch q⟩
    · rw [z]
      exact ⟨o, ho, fun v q => by rw [hd] at q; cases q⟩
  keep := fun i h g st k => by
    obtain ⟨⟨old, er⟩, ti⟩ := st
    exact ⟨⟨old, k e (by simp) _ er⟩, ti.at fun o q => k it (by simp) o q⟩
  item := by
    intro X hP hw hK hc i pins s σ H E I hf st hg
    subst hP hw hK
    obtain ⟨⟨old, er⟩, ti⟩ := st
    obtain ⟨xs, x, hq, hx⟩ := hg
    obtain ⟨its, rv, p, _⟩ := I.tuple hq
    obtain ⟨u, hu, ru⟩ := rv.get hx
    have el : e < s.heap.objs.size := Heap.lt_size er
    have il : it < s.heap.objs.size := by
      obtain ⟨_, q, _⟩ := id ti
      exact Heap.lt_size q
    have hlt : i < its.toArray.size := by
      have q := (List.getElem?_eq_some_iff.mp hu).1
      simpa using q
    have hd : X.A.in1.handled = none := I.ok.hd hc
    refine wpAny_pyNext_enum_itemD (Draws.tuple hd it a nai its.toArray) er ⟨ti, p⟩ hlt nei (by simp [nei, nea]) fun y g tk hy eo st2 hT hsz hk => ?_
    have ey : y = u := by
      rw [show its.toArray[i]? = some u by simpa using hu] at hy
      exact (Option.some.inj hy).symm
    subst ey
    refine ⟨_, rfl, wpAny_letOwnedTupleGo_enum (s := { s with heap := g, toks := tk + 1 }) eo fun g2 er2 sb => ?_⟩
    have hT2 : g2.get? s.heap.objs.size = some { cls := .type "tuple", data := .seq #[.int i tk, y] } := (sb.2 _ (Nat.ne_of_gt el)).trans hT
    have new : ObjOk X.prog X.w (upd H s.heap.objs.size (.tup [.int (i : Nat), x])) g2 s.heap.objs.size (.tup [.int (i : Nat), x]) := ⟨by show 2 ≤ sizeLine; decide, [.int i tk, y], .cons ⟨_, rfl⟩ (.cons ru .nil), ⟨_, hT2, rfl, _, rfl⟩⟩
    have I1 : Inv X pins σ (upd H s.heap.objs.size (.tup [.int (i : Nat), x])) { s with heap := g2, toks := tk + 1 } := I.turnedNew (ch := [e, it]) (fun b ob hb q => (sb.2 b (fun z => hb (by simp [z]))).trans (hk b ob (fun z => hb (by simp [z])) (fun z => hb (by simp [z])) q)) hf (Nat.le_refl _) new
    refine ⟨.ref s.heap.objs.size, _, I1, rfl, ⟨_, x, rfl, I.hok.fresh (Nat.le_refl _), rfl, fun ys hy => by rw [I.tuple_inj hy hq]; exact hx⟩, ⟨⟨y, ?_⟩, st2.1.at fun o q => (sb.2 it nei.symm).trans q⟩, fun b hb => ?_⟩
    · rw [show ((i + 1 : Nat) : Int) = (i : Int) + 1 by omega]
      exact er2
    · have lb : b < s.heap.objs.size := by
        have hb' : b = e ∨ b = it := by simpa using hb
        rcases hb' with z | z
        · rw [z]; exact el
        · rw [z]; exact il
      rw [upd_ne (Nat.ne_of_lt lb)]
      exact (hf b hb).1
  done := by
    intro X hP hw hK hc i pins s σ H E I hf st hg
    subst hP hw hK
    obtain ⟨⟨old, er⟩, ti⟩ := st
    obtain ⟨xs, hq, hx⟩ := hg
    obtain ⟨its, rv, p, _⟩ := I.tuple hq
    have hl := rv.length
    exact tup_end (I.ok.hd hc) er ti p (by simp; omega) fun g kg => ⟨rfl, I.turnedL (t' := s.toks) (ch := [e, it]) (fun b o hb q => kg b o (fun z => hb (by simp [z])) q) hf⟩
  self := fun A i s Q E st h => let ⟨⟨_, er⟩, _⟩ := st; wpAny_pyIter_enum er h
def iEnt (K : PySem.W.Frag) (ta : TA) : TI := fun σ H R => ta σ H fun vs H1 => ∃ a xs, vs = [.ref a] ∧ SqT K H1 a xs ∧ R (Iten K a) H1
theorem pi_ent {X : Cx} {e : Expr} {ta : TA} {p pos tpos : Pos} {elts : List Expr} {kk : Nat} (hg : Gl X "enumerate") (hm : X.mg "enumerate" = none) (ha : PA X [e] ta) (hs : starEach [e] X.env = [(false, eval e X.env)] := by rfl) :
    PI X (.Tuple elts kk tpos) (.Call (.Name "enumerate" p) [e] [] pos) (iEnt X.K ta) := by
  refine ⟨fun pins s σ H R I h => ?_⟩
  refine Call_ (ld_blt I hg hm boot_enumerate (PyProof.Rows.callWith_type1 (thn (ha.run pos pins s σ H _ I h) fun us s1 ⟨vs, H1, I1, r1, q1⟩ => ?_) hs rfl))
  obtain ⟨a, xs, ev, hq, q⟩ := q1
  subst ev
  cases r1 with
  | cons r rr =>
    cases rr
    cases r
    obtain ⟨its, rv, pt, _⟩ := I1.tuple hq
    obtain ⟨ot, hot, _⟩ := id pt
    have al : a < s1.heap.objs.size := Heap.lt_size hot
    refine call_ent (show s1.heap.IsTuple a its.toArray from pt) fun g er ti kg => wpAny_pyIter_enum er ?_
    have I2 : Inv X pins σ H1 { s1 with heap := g } := I1.kept (t' := s1.toks) kg
    refine ⟨s1.heap.objs.size + 1, [s1.heap.objs.size + 1, s1.heap.objs.size], _, _, H1, rfl, I2, turn_ent a (s1.heap.objs.size + 1) s1.heap.objs.size (Nat.succ_ne_self _) (Nat.ne_of_gt (Nat.lt_succ_of_lt al)) (Nat.ne_of_lt al), ⟨⟨.none, er⟩, ti⟩, fun b hb => ?_, q⟩
    have hb' : b = s1.heap.objs.size + 1 ∨ b = s1.heap.objs.size := by simpa using hb
    have le : s1.heap.objs.size ≤ b := by
      rcases hb' with z | z
      · rw [z]; exact Nat.le_add_right _ _
      · rw [z]; exact Nat.le_refl _
    exact I1.fpOk le (I1.hok.fresh le)
theorem walk_ent {K : PySem.W.Frag} {a : Addr} {xs : List V} : Walk (Iten K a) xs.length (fun H => SqT K H a xs) (YPair (fun i => some (.int (i : Nat))) (fun i => xs[i]?)) := by
  refine ⟨fun i _ hi q => ⟨xs, xs[i], q, by simp [hi]⟩, fun _ q => ⟨xs, q, Nat.le_refl _⟩, fun i H v H' _ q y => ?_⟩
  obtain ⟨T, x, y1, y2, y3, y4⟩ := y
  exact ⟨T, .int (i : Nat), x, y1, y2, y3, rfl, y4 xs q⟩
end Es

/-! xs.extend(t), t a tuple; comprehensions of two clauses by walks. -/
namespace Et
open PySem PySem.Spec PyProof.Rows L2
theorem ext_meets (l : Addr) (us : Array Value) (n : Nat) (b : Addr) (vs : Array Value) (m : Nat) (dd : Option Addr) (sl : Array (Option Value)) (h0 : ¬(!us.isEmpty && Builtin.List.listTooLong (us.size + vs.size)) = true) (h1 : us.size ≤ sizeLine) (h2 : us.size + vs.size ≤ sizeLine + 1) :
    Meets (Builtin.«list.extend» ⟨[.ref l, .ref b], []⟩) (fun _ R s => s.heap.get? l = some { cls := .type "list", dict := none, data := .seq us n, slots := #[] } ∧ s.heap.get? b = some { cls := .type "tuple", dict := dd, data := .seq vs m, slots := sl } ∧ R (.ok (.ret Value.none)) { s with heap := s.heap.update l (Obj.mapSeq fun x => x ++ vs), toks := s.toks }) :=
  .of_wp fun prog w A R s h => by
    obtain ⟨hp, g, d, tk, os⟩ := s
    obtain ⟨hl, hb, h⟩ := h
    have f1 := AutoSeq1.idx_int
    have f2 := AutoSeq1.sub_tuple_tuple
    have f3 := AutoSeq1.sub_list_list
    have f4 := AutoSeq1.sub_tuple_list
    have f5 := AutoSeq1.sub_list_tuple
    have hz' : (us ++ vs).size ≤ sizeLine + 1 := by
      rw [Array.size_append]
      exact h2
    wp_walk using (wpAny_updateSeq hl rfl (hz := h1) (_hz' := hz')), AutoSeq1.wpAny_loadPart' hl, AutoSeq1.wpAny_loadPart' hb
    exact ⟨_, rfl, h⟩
section
variable {X : Cx}
def rExtT (K : PySem.W.Frag) : V → List V → Hp → VK → Prop := fun x vs H Q => ∃ l b xs zs, x = .ref l ∧ vs = [.ref b] ∧ H l = some (.lst xs) ∧ SqT K H b zs ∧ xs.length + zs.length ≤ sizeLine ∧ Q .non (upd H l (.lst (xs ++ zs)))
theorem mt_extT : MtM X "list.extend" (rExtT X.K) := by
  intro pins s σ H x vs v us Q I rx rv h
  obtain ⟨l, b, xs, zs, rfl, rfl, hH, hB, hz, q⟩ := h
  cases rx
  obtain ⟨u, rfl, ru⟩ := rv.one
  cases ru
  obtain ⟨z, its, n, r, hl, e⟩ := I.lstM hH
  obtain ⟨its2, r2, p2, _⟩ := I.tuple hB
  obtain ⟨⟨c2, d2, a2, s2⟩, e2, k1, m, k2⟩ := p2
  simp only at k1 k2
  subst k1 k2
  have hl2 := r2.length
  have hsz : its.toArray.size + its2.toArray.size ≤ sizeLine := by
    rw [List.size_toArray, List.size_toArray]
    omega
  have hlong : ¬ (!its.toArray.isEmpty && Builtin.List.listTooLong (its.toArray.size + its2.toArray.size)) = true := by
    rw [notLongL hsz, Bool.and_false]
    exact Bool.false_ne_true
  refine call_meets F.slot_list_extend ⟨_, e, rfl⟩ F.entry_list_extend (F.args_list_extend_2 _ _) (ext_meets l its.toArray n b its2.toArray m d2 s2 hlong (by rw [List.size_toArray]; omega) (by omega)) ⟨e, e2, ?_⟩
  refine ⟨.non, _, I.lset (its' := its ++ its2) hH e (by simp) (r.append r2) ?_, rfl, q⟩
  rw [List.length_append]
  omega
end
/-- the outer clause of a comprehension of two -/
theorem out_it {J : It} {n : Nat} {G : Hp → Prop} {Y : Nat → Hp → V → Hp → Prop} (w : Walk J n G Y) {g : TG} {tt : TT} {B : (Hp → Prop) → L2.St → Hp → Prop} {vs : List Nat} {σ : L2.St} {H1 : Hp} {D : Addr} {Qd : Hp → Prop} (Pv : Nat → Hp → Prop) (h0 : Pv 0 (upd H1 D (.lst []))) (hG : ∀ i H, i ≤ n → Pv i H → G H)
    (hs : ∀ i x H H', i < n → Pv i H → Y i H x H' → g x (wipe σ vs) H' fun σ2 H2 => wipe σ2 vs = wipe σ vs ∧ tt σ2 H2 fun b H3 => if b = true then B (Pv (i + 1)) σ2 H3 else Pv (i + 1) H3) (hd : ∀ H, Pv n H → Qd H) :
    ∃ W : Nat → Nat → Hp → Prop, (∃ m, W 0 m (upd H1 D (.lst []))) ∧ ∀ i m H, W i m H →
      (J.stop i H ∧ Qd H) ∨ (J.go i H ∧ ∃ Nx : Hp → Prop, (∀ H', Nx H' → ∃ m', m' < m ∧ W (i + 1) m' H') ∧ ∀ x H', J.yld i H x H' → g x (wipe σ vs) H' fun σ2 H2 => wipe σ2 vs = wipe σ vs ∧ tt σ2 H2 fun b H3 => if b = true then B Nx σ2 H3 else Nx H3) := by
  refine ⟨fun i m H => m = n - i ∧ i ≤ n ∧ Pv i H, ⟨n, by simp, Nat.zero_le _, h0⟩, ?_⟩
  rintro i m H ⟨rfl, hi, p⟩
  have q := hG i H hi p
  by_cases lt : i < n
  · exact .inr ⟨w.goes i H lt q, Pv (i + 1), fun H' p' => ⟨n - (i + 1), by omega, rfl, lt, p'⟩, fun x H' y => hs i x H H' lt p (w.yields i H x H' lt q y)⟩
  · have e : i = n := by omega
    subst e
    exact .inl ⟨w.stops H q, hd H p⟩
/-- the inner clause -/
theorem in_it {J : It} {n : Nat} {G : Hp → Prop} {Y : Nat → Hp → V → Hp → Prop} (w : Walk J n G Y) {g : TG} {tt : TT} {te : TE} {vs : List Nat} {σ : L2.St} {H1 : Hp} {D : Addr} {Qd : Hp → Prop} (Pv : Nat → Hp → Prop) (h0 : Pv 0 H1) (hG : ∀ i H, i ≤ n → Pv i H → G H)
    (hs : ∀ i x H H', i < n → Pv i H → Y i H x H' → g x (wipe σ vs) H' fun σ2 H2 => wipe σ2 vs = wipe σ vs ∧ tt σ2 H2 fun b H3 =>
      if b = true then te σ2 H3 fun y H4 => ∃ acc, H4 D = some (.lst acc) ∧ acc.length < sizeLine ∧ Pv (i + 1) (upd H4 D (.lst (acc ++ [y]))) else Pv (i + 1) H3) (hd : ∀ H, Pv n H → Qd H) :
    ∃ W : Nat → Nat → Hp → Prop, (∃ m, W 0 m H1) ∧ ∀ i m H, W i m H →
      (J.stop i H ∧ Qd H) ∨ (J.go i H ∧ ∃ Nx : Hp → Prop, (∀ H', Nx H' → ∃ m', m' < m ∧ W (i + 1) m' H') ∧ ∀ x H', J.yld i H x H' → g x (wipe σ vs) H' fun σ2 H2 => wipe σ2 vs = wipe σ vs ∧ tt σ2 H2 fun b H3 =>
        if b = true then te σ2 H3 fun y H4 => ∃ acc, H4 D = some (.lst acc) ∧ acc.length < sizeLine ∧ Nx (upd H4 D (.lst (acc ++ [y]))) else Nx H3) := by
  refine ⟨fun i m H => m = n - i ∧ i ≤ n ∧ Pv i H, ⟨n, by simp, Nat.zero_le _, h0⟩, ?_⟩
  rintro i m H ⟨rfl, hi, p⟩
  have q := hG i H hi p
  by_cases lt : i < n
  · refine .inr ⟨w.goes i H lt q, Pv (i + 1), fun H' p' => ⟨n - (i + 1), by omega, rfl, lt, p'⟩, fun x H' y => hs i x H H' lt p (w.yields i H x H' lt q y)⟩
  · have e : i = n := by omega
    subst e
    exact .inl ⟨w.stops H q, hd H p⟩
end Et

/-! Data of ints, texts and tuples of such; what keeps them. -/
namespace Dv
open PySem L2 Wm
mutual
inductive Dt (K : PySem.W.Frag) (H : Hp) : V → PyData → Prop
  | int (i : Int) : Dt K H (.int i) (.int i)
  | str (x : Str) : Dt K H (.str x) (.str x)
  | tup {a : Addr} {xs : List V} {ds : List PyData} : SqT K H a xs → Dts K H xs ds → Dt K H (.ref a) (.tuple ds)
inductive Dts (K : PySem.W.Frag) (H : Hp) : List V → List PyData → Prop
  | nil : Dts K H [] []
  | cons {v : V} {vs : List V} {d : PyData} {ds : List PyData} : Dt K H v d → Dts K H vs ds → Dts K H (v :: vs) (d :: ds)
end
/-- tuples stand -/
def Kt (K : PySem.W.Frag) (H H' : Hp) : Prop := ∀ a xs, SqT K H a xs → SqT K H' a xs
section
variable {K : PySem.W.Frag} {H H' H2 : Hp}
theorem Kt.refl : Kt K H H := fun _ _ h => h
theorem Kt.trans (a : Kt K H H') (b : Kt K H' H2) : Kt K H H2 := fun p xs h => b p xs (a p xs h)
theorem Kt.same (s : Same H H') : Kt K H H' := fun _ _ h => sameT s h
/-- a store at what is no tuple -/
theorem Kt.set {p : Addr} {o u : HO} (h : H p = some u) (n1 : ∀ xs, u ≠ .tup xs) (n2 : ∀ ob xs, u ≠ .frz ob (.tup xs)) : Kt K H (upd H p o) := fun a xs q => by
  rcases q with (q | ⟨ob, q⟩) | q
  · exact .inl (.inl (by rw [upd_ne (fun e => by subst e; rw [h] at q; exact n1 _ (Option.some.inj q))]; exact q))
  · exact .inl (.inr ⟨ob, by rw [upd_ne (fun e => by subst e; rw [h] at q; exact n2 _ _ (Option.some.inj q))]; exact q⟩)
  · exact .inr q
theorem Kt.lst {p : Addr} {o : HO} {xs : List V} (h : H p = some (.lst xs)) : Kt K H (upd H p o) := Kt.set h (fun _ q => by cases q) (fun _ _ q => by cases q)
theorem Kt.new {p : Addr} {o : HO} (h : H p = none) : Kt K H (upd H p o) := Kt.same (same_new h)
mutual
theorem Dt.keep (k : Kt K H H') : ∀ (d : PyData) (v : V), Dt K H v d → Dt K H' v d
  | .int _, _, h => by cases h; exact .int _
  | .str _, _, h => by cases h; exact .str _
  | .tuple ds, _, h => by
    cases h with
    | tup a b => exact .tup (k _ _ a) (Dts.keep k ds _ b)
  | .none, _, h => by cases h
  | .bool _, _, h => by cases h
  | .list _, _, h => by cases h
  | .dict _, _, h => by cases h
theorem Dts.keep (k : Kt K H H') : ∀ (ds : List PyData) (vs : List V), Dts K H vs ds → Dts K H' vs ds
  | [], _, h => by cases h; exact .nil
  | d :: ds, _, h => by
    cases h with
    | cons a b => exact .cons (Dt.keep k d _ a) (Dts.keep k ds _ b)
end
mutual
theorem Dt.dp : ∀ (d : PyData) (v : V), Dt K H v d → Dp K H v d
  | .int _, _, h => by cases h; exact .int _
  | .str _, _, h => by cases h; exact .str _
  | .tuple ds, _, h => by
    cases h with
    | tup a b => exact .tup a (Dts.dp ds _ b)
  | .none, _, h => by cases h
  | .bool _, _, h => by cases h
  | .list _, _, h => by cases h
  | .dict _, _, h => by cases h
theorem Dts.dp : ∀ (ds : List PyData) (vs : List V), Dts K H vs ds → DpAll K H vs ds
  | [], _, h => by cases h; exact .nil
  | d :: ds, _, h => by
    cases h with
    | cons a b => exact .cons (Dt.dp d _ a) (Dts.dp ds _ b)
end
theorem Dt.k {d : PyData} {v : V} (h : Dt K H v d) (k : Kt K H H') : Dt K H' v d := Dt.keep k _ _ h
theorem Dts.k {ds : List PyData} {vs : List V} (h : Dts K H vs ds) (k : Kt K H H') : Dts K H' vs ds := Dts.keep k _ _ h
theorem Dt.toDp {d : PyData} {v : V} (h : Dt K H v d) : Dp K H v d := Dt.dp _ _ h
theorem Dts.toDp {ds : List PyData} {vs : List V} (h : Dts K H vs ds) : DpAll K H vs ds := Dts.dp _ _ h
theorem Dt.inv {ds : List PyData} {v : V} (h : Dt K H v (.tuple ds)) : ∃ p xs, v = .ref p ∧ SqT K H p xs ∧ Dts K H xs ds := by
  cases h with
  | tup a b => exact ⟨_, _, rfl, a, b⟩
theorem Dt.str_inv {x : Str} {v : V} (h : Dt K H v (.str x)) : v = .str x := by cases h; rfl
theorem Dt.int_inv {i : Int} {v : V} (h : Dt K H v (.int i)) : v = .int i := by cases h; rfl
theorem Dts.len {ds : List PyData} {vs : List V} (h : Dts K H vs ds) : vs.length = ds.length := by
  induction ds generalizing vs with
  | nil => cases h; rfl
  | cons d ds ih =>
    cases h with
    | cons a b => rw [List.length_cons, List.length_cons, ih b]
theorem Dts.at {i : Nat} {ds : List PyData} {vs : List V} {v : V} (h : Dts K H vs ds) (g : vs[i]? = some v) : ∃ d, ds[i]? = some d ∧ Dt K H v d := by
  induction ds generalizing vs i with
  | nil =>
    cases h
    simp at g
  | cons d ds ih =>
    cases h with
    | cons a b =>
      cases i with
      | zero =>
        simp at g
        subst g
        exact ⟨d, rfl, a⟩
      | succ i => exact ih b (by simpa using g)
theorem Dts.get {i : Nat} {ds : List PyData} {vs : List V} {d : PyData} (h : Dts K H vs ds) (g : ds[i]? = some d) : ∃ v, vs[i]? = some v ∧ Dt K H v d := by
  have li := (List.getElem?_eq_some_iff.mp g).1
  obtain ⟨v, e⟩ : ∃ v, vs[i]? = some v := ⟨_, List.getElem?_eq_getElem (by rw [h.len]; exact li)⟩
  obtain ⟨d2, e2, a⟩ := h.at e
  rw [g] at e2
  cases e2
  exact ⟨v, e, a⟩
theorem Dts.app {ds es : List PyData} {vs ws : List V} (h : Dts K H vs ds) (g : Dts K H ws es) : Dts K H (vs ++ ws) (ds ++ es) := by
  induction ds generalizing vs with
  | nil => cases h; exact g
  | cons d ds ih =>
    cases h with
    | cons a b => exact .cons a (ih b)
theorem Dts.snoc {ds : List PyData} {d : PyData} {vs : List V} {v : V} (h : Dts K H vs ds) (g : Dt K H v d) : Dts K H (vs ++ [v]) (ds ++ [d]) := h.app (.cons g .nil)
theorem Dts.take {ds : List PyData} {vs : List V} (h : Dts K H vs ds) : ∀ n, Dts K H (vs.take n) (ds.take n) := by
  induction ds generalizing vs with
  | nil => cases h; intro n; simp; exact .nil
  | cons d ds ih =>
    cases h with
    | cons a b =>
      intro n
      cases n with
      | zero => exact .nil
      | succ n => exact .cons a (ih b n)
theorem Dts.drop {ds : List PyData} {vs : List V} (h : Dts K H vs ds) : ∀ n, Dts K H (vs.drop n) (ds.drop n) := by
  induction ds generalizing vs with
  | nil => cases h; intro n; simp; exact .nil
  | cons d ds ih =>
    cases h with
    | cons a b =>
      intro n
      cases n with
      | zero => exact .cons a b
      | succ n => exact ih b n
theorem dts_str : ∀ ss : List Str, Dts K H (ss.map V.str) (ss.map PyData.str)
  | [] => .nil
  | s :: ss => .cons (.str s) (dts_str ss)
theorem dts_str_inv {ss : List Str} {vs : List V} (h : Dts K H vs (ss.map PyData.str)) : vs = ss.map V.str := by
  induction ss generalizing vs with
  | nil => cases h; rfl
  | cons s ss ih =>
    cases h with
    | cons a b => rw [a.str_inv, ih b]; rfl
theorem dts_int : ∀ ns : List Int, Dts K H (ns.map V.int) (ns.map PyData.int)
  | [] => .nil
  | s :: ss => .cons (.int s) (dts_int ss)
theorem dts_int_inv {ns : List Int} {vs : List V} (h : Dts K H vs (ns.map PyData.int)) : vs = ns.map V.int := by
  induction ns generalizing vs with
  | nil => cases h; rfl
  | cons s ss ih =>
    cases h with
    | cons a b => rw [a.int_inv, ih b]; rfl
theorem dt_tup {p : Addr} {xs : List V} {ds : List PyData} (h : H p = some (.tup xs)) (g : Dts K H xs ds) : Dt K H (.ref p) (.tuple ds) := .tup (SqT.of h) g
end
/-- data that == may be asked of: texts in the line, not deep -/
def Fine (n : Nat) (d : PyData) : Prop := d.canLay0 = true ∧ d.depth ≤ n
theorem fine_int {n : Nat} (i : Int) : Fine n (.int i) := ⟨by simp [PyData.canLay0], by simp [PyData.depth]⟩
theorem fine_tup {n : Nat} {ds : List PyData} (h : ∀ d ∈ ds, Fine n d) : Fine (n + 1) (.tuple ds) := by
  have q : PyData.canLayAll0 ds = true ∧ PyData.depthAll ds ≤ n := by
    induction ds with
    | nil => simp [PyData.canLayAll0, PyData.depthAll]
    | cons d ds ih =>
      have h1 := h d (by simp)
      have h2 := ih fun y m => h y (List.mem_cons_of_mem _ m)
      simp only [PyData.canLayAll0, PyData.depthAll, h1.1, h2.1, Bool.and_self, true_and]
      have := h1.2
      have := h2.2
      omega
  exact ⟨by simp only [PyData.canLay0]; exact q.1, by simp only [PyData.depth]; have := q.2; omega⟩
theorem fine_str {n : Nat} {x : Str} (h : x.cps.all (· < 0x110000) = true) : Fine n (.str x) := ⟨by simp only [PyData.canLay0]; exact h, by simp [PyData.depth]⟩
theorem fine_num {n : Nat} {ds : List Nat} (h : ∀ d ∈ ds, d ≤ 9) : Fine n (.str (numS ds)) := by
  refine fine_str ?_
  rw [← Array.all_toList, List.all_eq_true]
  intro c m
  obtain ⟨d, md, rfl⟩ := List.mem_map.mp (show c ∈ codes ds from m)
  have := h d md
  exact decide_eq_true (by omega)
theorem Fine.shaped {n : Nat} {d : PyData} (h : Fine n d) (l : n ≤ 64) : SeqAt.shaped d = true := by
  have e : decide (d.depth ≤ 64) = true := decide_eq_true (Nat.le_trans h.2 l)
  show (d.canLay0 && _) = true
  rw [e, Bool.and_true]
  exact h.1
theorem Fine.refl {n : Nat} {d : PyData} (h : Fine n d) : PyData.eqv d d = true := SeqAt.eqv_refl d h.1
theorem Fine.mono {n m : Nat} {d : PyData} (h : Fine n d) (l : n ≤ m) : Fine m d := ⟨h.1, Nat.le_trans h.2 l⟩
end Dv

/-! A list or a tuple, told by a letter; loops over it that may write elsewhere. -/
namespace Kd
open PySem PySem.Spec PyProof.Rows L2
/-- the list or (t) the tuple at a -/
def Is (K : PySem.W.Frag) (t : Bool) (H : Hp) (a : Addr) (xs : List V) : Prop := if t = true then SqT K H a xs else SqL K H a xs
theorem Is.keep {K : PySem.W.Frag} {t : Bool} {H H' : Hp} {a : Addr} {xs : List V} (s : Same H H') (h : Is K t H a xs) : Is K t H' a xs := by
  cases t
  · exact Hf.keepL s h
  · exact Hf.keepT s h
theorem Is.sq {K : PySem.W.Frag} {t : Bool} {H : Hp} {a : Addr} {xs : List V} (h : Is K t H a xs) : SqL K H a xs ∨ SqT K H a xs := by
  cases t
  · exact .inl h
  · exact .inr h
theorem Is.tup {K : PySem.W.Frag} {H : Hp} {a : Addr} {xs : List V} (h : SqT K H a xs) : Is K true H a xs := h
theorem Is.lst {K : PySem.W.Frag} {H : Hp} {a : Addr} {xs : List V} (h : SqL K H a xs) : Is K false H a xs := h
section
variable {X : Cx}
def iSeq (K : PySem.W.Frag) (tl : TE) : TI := fun σ H R => tl σ H fun x H1 => ∃ a xs t, x = .ref a ∧ Is K t H1 a xs ∧
  ∀ J G, Walk J xs.length G (YAt xs) → (∀ H', Is K t H' a xs → G H') → R J H1
theorem pi_seq {tg l : Expr} {tl : TE} (hl : PE X l tl) : PI X tg l (iSeq X.K tl) := by
  refine ⟨fun pins s σ H R I h => ?_⟩
  refine thn (hl.run pins s σ H _ I h) fun v s1 ⟨x, H1, I1, r1, q1⟩ => ?_
  obtain ⟨a, xs, t, e, hq, q⟩ := q1
  subst e
  cases r1
  cases t with
  | false =>
    have hq : SqL X.K H1 a xs := hq
    have q := q _ _ walk_list fun H' s => s
    obtain ⟨its, rv, p, hz⟩ := I1.list hq
    refine wpAny_pyIter_list p.isList ?_
    refine ⟨s1.heap.objs.size, [s1.heap.objs.size], _, _, H1, rfl, I1.kept (t' := s1.toks) fun b o e => Heap.get?_push_of_some _ e, turn_list a _, ⟨_, Heap.get?_push_size _ rfl, rfl, rfl⟩, fun b hb => ?_, q⟩
    have e : b = s1.heap.objs.size := by simpa using hb
    subst e
    exact I1.fpOk (Nat.le_refl _) (I1.hok.fresh (Nat.le_refl _))
  | true =>
    have hq : SqT X.K H1 a xs := hq
    have q := q _ _ walk_tup fun H' s => s
    obtain ⟨its, rv, p, hz⟩ := I1.tuple hq
    refine wpAny_pyIter_tuple (show s1.heap.IsTuple a its.toArray from p) ?_
    refine ⟨s1.heap.objs.size, [s1.heap.objs.size], _, _, H1, rfl, I1.kept (t' := s1.toks) fun b o e => Heap.get?_push_of_some _ e, turn_tuple a _, ⟨_, Heap.get?_push_size _ rfl, rfl, rfl⟩, fun b hb => ?_, q⟩
    have e : b = s1.heap.objs.size := by simpa using hb
    subst e
    exact I1.fpOk (Nat.le_refl _) (I1.hok.fresh (Nat.le_refl _))
end
end Kd

/-! Comprehensions whose items are told one by one. -/
namespace Lm
open PySem L2 Wm Dv
theorem list_is {α : Type} {ys zs : List α} (l : ys.length = zs.length) (h : ∀ (i : Nat) y, ys[i]? = some y → zs[i]? = some y) : ys = zs := by
  refine List.ext_getElem? fun i => ?_
  by_cases q : i < ys.length
  · rw [h i _ (List.getElem?_eq_getElem q), List.getElem?_eq_getElem q]
  · rw [List.getElem?_eq_none (by omega), List.getElem?_eq_none (by omega)]
theorem lc_map {K : PySem.W.Frag} {J : It} {n : Nat} {G : Hp → Prop} {xs : List V} (w : Walk J n G (YAt xs)) {g : TG} {te : TE} {vs : List Nat} {σ : L2.St} {H1 : Hp} {D : Addr} {Qd : Hp → Prop} (R : Nat → V → Hp → Prop)
    (mono : ∀ i y H H', R i y H → Kt K H H' → R i y H') (hD : H1 D = none) (hn : n ≤ 1000) (hG : ∀ H', Same H1 H' → G H')
    (hs : ∀ i x H', i < n → xs[i]? = some x → Same H1 H' → ∀ (Q : V → Hp → Prop) (Z : Hp → Prop), (∀ y H4, Same H' H4 → R i y H4 → Q y H4) → g x (wipe σ vs) H' fun σ2 H2 => wipe σ2 vs = wipe σ vs ∧ tYes σ2 H2 fun b H3 => if b = true then te σ2 H3 Q else Z H3)
    (hd : ∀ H ys, Same H1 H → H D = some (.lst ys) → ys.length = n → (∀ (i : Nat) y, ys[i]? = some y → R i y H) → Qd H) :
    ∃ W : Nat → Nat → Hp → Prop, (∃ m, W 0 m (upd H1 D (.lst []))) ∧ ∀ i m H, W i m H →
      (J.stop i H ∧ Qd H) ∨ (J.go i H ∧ ∃ Nx : Hp → Prop, (∀ H', Nx H' → ∃ m', m' < m ∧ W (i + 1) m' H') ∧ ∀ x H', J.yld i H x H' → g x (wipe σ vs) H' fun σ2 H2 => wipe σ2 vs = wipe σ vs ∧ tYes σ2 H2 fun b H3 =>
        if b = true then te σ2 H3 fun y H4 => ∃ acc, H4 D = some (.lst acc) ∧ acc.length < sizeLine ∧ Nx (upd H4 D (.lst (acc ++ [y]))) else Nx H3) := by
  refine lc_it (tt := tYes) w (fun i H => Same H1 H ∧ ∃ ys : List V, ys.length = i ∧ H D = some (.lst ys) ∧ ∀ j y, ys[j]? = some y → R j y H) ⟨same_new hD, [], rfl, upd_same, fun (j : Nat) (y : V) e => by simp at e⟩ (fun i H _ h => hG H h.1) (fun i x H H' hi hP hY => ?_) (fun H hP => ?_)
  · obtain ⟨sm, ys, el, hy, hR⟩ := hP
    obtain ⟨rfl, hx⟩ := hY
    refine hs i x H' hi hx sm _ _ (fun y H4 s4 r4 => ?_)
    · refine ⟨ys, s4 _ _ hy, by rw [el]; exact small1000 (by omega), same_mut (sm.trans s4) hD, ys ++ [y], by rw [List.length_append, el]; rfl, upd_same, fun j z hz => ?_⟩
      have k5 : Kt K H4 (upd H4 D (.lst (ys ++ [y]))) := Kt.lst (s4 _ _ hy)
      by_cases lj : j < ys.length
      · rw [List.getElem?_append_left lj] at hz
        exact mono _ _ _ _ (hR j z hz) ((Kt.same s4).trans k5)
      · rw [List.getElem?_append_right (by omega)] at hz
        have e0 : j - ys.length = 0 := by
          by_cases q : j - ys.length = 0
          · exact q
          · rw [List.getElem?_eq_none (by rw [List.length_singleton]; omega)] at hz
            cases hz
        rw [e0] at hz
        have ez : y = z := by simpa using hz
        have ej : j = i := by omega
        subst ez ej
        exact mono _ _ _ _ r4 k5
  · obtain ⟨sm, ys, el, hy, hR⟩ := hP
    exact hd H ys sm hy el hR
end Lm
namespace Kx
open PySem L2
def rLen (K : PySem.W.Frag) : List V → Hp → VK → Prop := fun xs H Q => ∃ p ys, xs = [.ref p] ∧ (SqL K H p ys ∨ SqT K H p ys) ∧ Q (.int (ys.length : Nat)) H
def rTup (K : PySem.W.Frag) : List V → Hp → VK → Prop := fun xs H Q => ∃ a ys, xs = [.ref a] ∧ SqT K H a ys ∧ Q (.ref a) H
def rTupOf (K : PySem.W.Frag) : List V → Hp → VK → Prop := fun xs H Q => ∃ p ys, xs = [.ref p] ∧ ((SqL K H p ys ∧ ∀ l, H l = none → Q (.ref l) (upd H l (.tup ys))) ∨ (SqT K H p ys ∧ Q (.ref p) H))
end Kx

/-! Comprehensions whose items draw from the bag, told one by one. -/
namespace Lm
open PySem L2 Wm Dv
theorem kt_but {K : PySem.W.Frag} {H H' : Hp} {b : Addr} {n : Nat} (bag : Bag H b n) (e : But b H H') : Kt K H H' := fun a xs q => by
  obtain ⟨c, x, k, m, z, ns, hb, _⟩ := bag
  have ne : ∀ {u : HO}, H a = some u → (∀ y, u ≠ .lst y) → H' a = some u := fun {u} h n => e.keep _ _ (fun z => by subst z; rw [hb] at h; exact n _ (Option.some.inj h).symm) h
  rcases q with (q | ⟨ob, q⟩) | q
  · exact .inl (.inl (ne q fun y z => by cases z))
  · exact .inl (.inr ⟨ob, ne q fun y z => by cases z⟩)
  · exact .inr q
theorem bag_off {H : Hp} {b p : Addr} {n : Nat} (bag : Bag H b n) (h : H p = none) : p ≠ b := fun e => by
  obtain ⟨_, _, _, _, _, _, hb, _⟩ := bag
  rw [e, hb] at h
  cases h
theorem lc_bag {K : PySem.W.Frag} {J : It} {n : Nat} {G : Hp → Prop} {xs : List V} (w : Walk J n G (YAt xs)) {g : TG} {te : TE} {vs : List Nat} {σ : L2.St} {H1 : Hp} {D : Addr} {Qd : Hp → Prop} {b : Addr} {m c : Nat} (R : Nat → V → Hp → Prop)
    (mono : ∀ i y H H', R i y H → Kt K H H' → R i y H') (hD : H1 D = none) (bag : Bag H1 b m) (hn : n ≤ 1000) (hG : ∀ H', But b H1 H' → G H')
    (hs : ∀ i x H', i < n → xs[i]? = some x → But b H1 H' → Bag H' b (m + c * i) → ∀ (Q : V → Hp → Prop) (Z : Hp → Prop), (∀ y H4, But b H' H4 → Bag H4 b (m + c * (i + 1)) → R i y H4 → Q y H4) → g x (wipe σ vs) H' fun σ2 H2 => wipe σ2 vs = wipe σ vs ∧ tYes σ2 H2 fun b H3 => if b = true then te σ2 H3 Q else Z H3)
    (hd : ∀ H ys, But b H1 H → Bag H b (m + c * n) → H D = some (.lst ys) → ys.length = n → (∀ (i : Nat) y, ys[i]? = some y → R i y H) → Qd H) :
    ∃ W : Nat → Nat → Hp → Prop, (∃ m, W 0 m (upd H1 D (.lst []))) ∧ ∀ i m H, W i m H →
      (J.stop i H ∧ Qd H) ∨ (J.go i H ∧ ∃ Nx : Hp → Prop, (∀ H', Nx H' → ∃ m', m' < m ∧ W (i + 1) m' H') ∧ ∀ x H', J.yld i H x H' → g x (wipe σ vs) H' fun σ2 H2 => wipe σ2 vs = wipe σ vs ∧ tYes σ2 H2 fun b H3 =>
        if b = true then te σ2 H3 fun y H4 => ∃ acc, H4 D = some (.lst acc) ∧ acc.length < sizeLine ∧ Nx (upd H4 D (.lst (acc ++ [y]))) else Nx H3) := by
  have db := bag_off bag hD
  refine lc_it (tt := tYes) w (fun i H => But b H1 H ∧ Bag H b (m + c * i) ∧ ∃ ys : List V, ys.length = i ∧ H D = some (.lst ys) ∧ ∀ j y, ys[j]? = some y → R j y H)
    ⟨But.of (same_new hD), (bag.keep (same_new hD)).mono (by omega), [], rfl, upd_same, fun (j : Nat) (y : V) e => by simp at e⟩ (fun i H _ h => hG H h.1) (fun i x H H' hi hP hY => ?_) (fun H hP => ?_)
  · obtain ⟨bt, bg, ys, el, hy, hR⟩ := hP
    obtain ⟨rfl, hx⟩ := hY
    refine hs i x H' hi hx bt bg _ _ (fun y H4 b4 g4 r4 => ?_)
    have hy4 := b4.keep _ _ db hy
    have k5 : Kt K H4 (upd H4 D (.lst (ys ++ [y]))) := Kt.lst hy4
    refine ⟨ys, hy4, by rw [el]; exact small1000 (by omega), (bt.trans b4).put hD, Bag.put bag hD (bt.trans b4) g4, ys ++ [y], by rw [List.length_append, el]; rfl, upd_same, fun j z hz => ?_⟩
    by_cases lj : j < ys.length
    · rw [List.getElem?_append_left lj] at hz
      exact mono _ _ _ _ (hR j z hz) ((kt_but bg b4).trans k5)
    · rw [List.getElem?_append_right (by omega)] at hz
      have e0 : j - ys.length = 0 := by
        by_cases q : j - ys.length = 0
        · exact q
        · rw [List.getElem?_eq_none (by rw [List.length_singleton]; omega)] at hz
          cases hz
      rw [e0] at hz
      have ez : y = z := by simpa using hz
      have ej : j = i := by omega
      subst ez ej
      exact mono _ _ _ _ r4 k5
  · obtain ⟨bt, bg, ys, el, hy, hR⟩ := hP
    exact hd H ys bt bg hy el hR
end Lm

/-! A method with keywords alone; a def that may raise, where it does not. -/
namespace Mk1
open PySem PySem.Spec PyProof.Rows L2
theorem passF {X : Cx} : Passes (L2.CX X.prog X.w) X (fun _ _ _ => False) := by
  intro pins σ H s e s' I h
  obtain ⟨_, _, _, _, _, _, _, _, _, _, _, _, z⟩ := h
  exact z.elim
section
variable {X : Cx} {CX : CXT} {k : Nat} {f C : Addr} {fd : FuncData} {ps ks : List Str} {sp : Sp} {E : XK} {m : Str} {pos apos : Pos} {o : Expr} {kws : List Keyword} {ta : TE} {tk : TA} {g : List Value → List Value → List Value} {gV : List V → List V → List V} {pl : Sem Bool}
def tMethN (C : Addr) (m : Str) (n : Nat) (sp : Sp) (gV : List V → List V → List V) (E : XK) (ta : TE) (tk : TA) : TE := fun σ H Q => ta σ H fun x H1 => ∃ a dx fs, x = .ref a ∧ H1 a = some (.ins C dx fs) ∧ fs.lookup m = none ∧
  tk σ H1 fun zs H2 => zs.length = n ∧ sp (gV [x] zs) H2 Q E
theorem pe_methN (ho : PE X o ta) (c : Cls X.K C) (hm : Meth X.K C m f) (F : FnOk X.prog X.w X.K X.mg X.base CX k f fd ps sp) (hr : Room k X.A) (hb : KBn X.K fd ps 1 ks g gV) (hx : Passes CX X E) (hk : PK X kws tk)
    (h1 : (backToKw pos (keywordEach kws X.env)).all (·.1.isSome) = true := by rfl) (h2 : (backToKw pos (keywordEach kws X.env)).filterMap (·.1) = ks := by rfl)
    (h3 : ((backTo pos (starEach [] X.env)).any (·.1) || (backToKw pos (keywordEach kws X.env)).any (·.1.isNone)) = false := by rfl)
    (h4 : eval (.Call (.Attribute o m apos) [] kws pos) X.env = (do
      let v ← eval o X.env
      standAt apos.atName
      let (a, b) ← holding [v] (getMethod v m pl)
      callWith pos a b (backTo pos (starEach [] X.env)) (backToKw pos (keywordEach kws X.env))) := by rfl) :
    PE X (.Call (.Attribute o m apos) [] kws pos) (tMethN C m ks.length sp gV E ta tk) := by
  constructor
  intro pins s σ H Q I h
  refine PySem.W.methodCall_KW (pl := pl) (thn (ho.run pins s σ H _ I h) fun u s1 w => ?_) h4
  obtain ⟨x, H1, I1, rx, a, dx, fs, ex, ea, l, q⟩ := w
  subst ex
  cases (show u = Value.ref a from rx)
  refine getmeth_ok I1 ea c hm l ?_
  refine PySem.W.callWith_KW0 (first := [.ref a]) (h₀ := X.base) I.ok.mod.kin hm.kp h1 (thn (hk.run pos pins s1 σ H1 _ I1 q) fun ws s2 w2 => ?_) h3
  obtain ⟨zs, H2, I2, rz, l2, q2⟩ := w2
  refine ⟨I2.kIn, ?_⟩
  rw [h2]
  exact run_fnN (us := [.ref a]) (vs := [.ref a]) F hr hb hx I2 (.cons rfl .nil) rz rfl l2 q2
end
end Mk1

/-! Operators of own classes, by values: ==, <, .. by __eq__, __lt__, ..; |, &, - by __or__, ..; in by __contains__; len by __len__. -/
namespace Ow
open PySem PySem.Spec PyProof.Rows L2
section
variable {X : Cx} {CX : CXT} {C g : Addr} {n : Nat} {sp : Sp} {E : XK}
theorem ins_at {pins : List (Addr × Obj)} {σ : L2.St} {H : Hp} {s : Shared} {a C dx : Addr} {fs : List (Str × V)} (I : Inv X pins σ H s) (e : H a = some (.ins C dx fs)) : ∃ ox od, PySem.W.InstAt s.heap a ox C od := by
  obtain ⟨mA, O, _⟩ := ins_get I.hok e
  obtain ⟨od, J, _⟩ := O.look
  exact ⟨_, _, J⟩
/-- x op y by the own def of x's class at C; y's class not below C -/
def rCmp (K : PySem.W.Frag) (C : Addr) (sp : Sp) (E : XK) : R2 := fun x y H Q => ∃ a dx fs t, x = .ref a ∧ H a = some (.ins C dx fs) ∧ TyX K H y t ∧ PySem.W.notFirst K C t = true ∧ sp [x, y] H Q E
theorem op_cmp {op : CmpOp} (hop : ∀ a b, compareOp op a b = richCompare op a b) (hs : PySem.W.findIn X.K (.ref C) (cmpInfo op).2.1 = some (some (.ref g))) (hf : PySem.W.isFn X.K (.ref g) = true) (F : FnR X.prog X.w X.K X.mg X.base CX n g sp)
    (hr : Room n X.A) (hx : Passes CX X E) : OpR X (compareOp op) (rCmp X.K C sp E) := by
  intro pins s σ H x y v u Q I rx ry h
  obtain ⟨a, dx, fs, t, rfl, ha, ty, hn, q⟩ := h
  cases (show v = Value.ref a from rx)
  obtain ⟨ox, od, J⟩ := ins_at I ha
  obtain ⟨P, k, hp, _⟩ := kit_of I ry ty
  obtain ⟨m, hF⟩ := I.fr
  rw [hop]
  refine PySem.W.cmp_K (op := op) (tb := t) hr.units0 hF I.ok.mod.kin J (k.ty _ _ I.kIn hp) hn hs hf ?_
  refine wpAny_mono (wpAny_call (run_fnR (us := [.ref a, u]) (vs := [.ref a, y]) F hr hx I (.cons rfl (.cons ry .nil)) q)) (fun w s' z => ?_) fun _ _ x => x
  obtain ⟨z', H', I', rz, qz⟩ := z
  exact SlX.cmpback rz ⟨z', H', I', rz, qz⟩
/-- x op y, both of the class at C -/
def rBin (C : Addr) (sp : Sp) (E : XK) : R2 := fun x y H Q => ∃ a dx fs b dy gs, x = .ref a ∧ y = .ref b ∧ H a = some (.ins C dx fs) ∧ H b = some (.ins C dy gs) ∧ sp [x, y] H Q E
theorem op_bin {op : Operator} (hc : PySem.W.selfFirst X.K C = true) (hs : PySem.W.findIn X.K (.ref C) (PySem.dunder op.info.2) = some (some (.ref g))) (hf : PySem.W.isFn X.K (.ref g) = true) (F : FnR X.prog X.w X.K X.mg X.base CX n g sp)
    (hr : Room n X.A) (hx : Passes CX X E) : OpR X (binaryOp op) (rBin C sp E) := by
  intro pins s σ H x y v u Q I rx ry h
  obtain ⟨a, dx, fs, b, dy, gs, rfl, rfl, ha, hb, q⟩ := h
  cases (show v = Value.ref a from rx)
  cases (show u = Value.ref b from ry)
  obtain ⟨ox, od, J⟩ := ins_at I ha
  obtain ⟨oy, oe, J'⟩ := ins_at I hb
  obtain ⟨m, hF⟩ := I.fr
  refine PySem.W.binop_K (op := op) hF I.ok.mod.kin J J'.type hc hs hf ?_
  refine wpAny_mono (wpAny_call (run_fnR (us := [.ref a, .ref b]) (vs := [.ref a, .ref b]) F hr hx I (.cons rfl (.cons rfl .nil)) q)) (fun w s' z => ?_) fun _ _ x => x
  obtain ⟨z', H', I', rz, qz⟩ := z
  exact SlX.cmpback rz ⟨z', H', I', rz, qz⟩
/-- y in x, by __contains__ (its answer a bool) -/
def rIn (C : Addr) (sp : Sp) (E : XK) (neg : Bool) : R2 := fun y x H Q => ∃ a dx fs, x = .ref a ∧ H a = some (.ins C dx fs) ∧ sp [x, y] H (fun z H' => ∃ c, z = .bl c ∧ Q (.bl (if neg then !c else c)) H') E
theorem op_in (hs : PySem.W.findIn X.K (.ref C) "__contains__" = some (some (.ref g))) (hf : PySem.W.isFn X.K (.ref g) = true) (F : FnR X.prog X.w X.K X.mg X.base CX n g sp)
    (hr : Room n X.A) (hx : Passes CX X E) : OpR X (compareOp .In) (rIn C sp E false) := by
  intro pins s σ H y x u v Q I ry rx h
  obtain ⟨a, dx, fs, rfl, ha, q⟩ := h
  cases (show v = Value.ref a from rx)
  obtain ⟨ox, od, J⟩ := ins_at I ha
  obtain ⟨m, hF⟩ := I.fr
  refine PySem.W.in_K hF I.ok.mod.kin J hs hf ?_
  refine wpAny_mono (wpAny_call (run_fnR (us := [.ref a, u]) (vs := [.ref a, y]) F hr hx I (.cons rfl (.cons ry .nil)) q)) (fun w s' z => ?_) fun _ _ x => x
  obtain ⟨z', H', I', rz, c, rfl, qz⟩ := z
  cases (show w = Value.bool c from rz)
  exact wpAny_truthy_bool ⟨.bl c, H', I', rfl, qz⟩
theorem op_notIn (hs : PySem.W.findIn X.K (.ref C) "__contains__" = some (some (.ref g))) (hf : PySem.W.isFn X.K (.ref g) = true) (F : FnR X.prog X.w X.K X.mg X.base CX n g sp)
    (hr : Room n X.A) (hx : Passes CX X E) : OpR X (compareOp .NotIn) (rIn C sp E true) := by
  intro pins s σ H y x u v Q I ry rx h
  obtain ⟨a, dx, fs, rfl, ha, q⟩ := h
  cases (show v = Value.ref a from rx)
  obtain ⟨ox, od, J⟩ := ins_at I ha
  obtain ⟨m, hF⟩ := I.fr
  refine PySem.W.notIn_K hF I.ok.mod.kin J hs hf ?_
  refine wpAny_mono (wpAny_call (run_fnR (us := [.ref a, u]) (vs := [.ref a, y]) F hr hx I (.cons rfl (.cons ry .nil)) q)) (fun w s' z => ?_) fun _ _ x => x
  obtain ⟨z', H', I', rz, c, rfl, qz⟩ := z
  cases (show w = Value.bool c from rz)
  exact wpAny_truthy_bool ⟨.bl (!c), H', I', rfl, qz⟩
/-- len(x), by __len__ -/
def rLen (C : Addr) (sp : Sp) (E : XK) : List V → Hp → VK → Prop := fun xs H Q => ∃ a dx fs, xs = [V.ref a] ∧ H a = some (.ins C dx fs) ∧ sp [.ref a] H (fun z H' => ∃ i : Int, z = .int i ∧ 0 ≤ i ∧ i < 2 ^ 63 ∧ Q (.int i) H') E
theorem call_len (hs : PySem.W.findIn X.K (.ref C) "__len__" = some (some (.ref g))) (hf : PySem.W.isFn X.K (.ref g) = true) (F : FnR X.prog X.w X.K X.mg X.base CX n g sp)
    (hr : Room (n + 1) X.A) (hx : Passes CX X E) : CallR X (.builtin "len") (rLen C sp E) := by
  intro pins s σ H xs us Q I r h
  obtain ⟨a, dx, fs, rfl, ha, q⟩ := h
  obtain ⟨u, rfl, ru⟩ := r.one
  cases (show u = Value.ref a from ru)
  obtain ⟨ox, od, J⟩ := ins_at I ha
  obtain ⟨m, hF⟩ := I.fr
  refine PySem.W.len_K hF I.ok.mod.kin J hs hf (wpAny_mono (wpAny_call (SlX.run_at (us := [.ref a]) (ws := [.ref a]) F hr.in1 I.env0.in1 hx I (.cons rfl .nil) q)) (fun w s' z => ?_) fun _ _ x => x)
  obtain ⟨z', H', I', rz, i, rfl, h0, h1, qz⟩ := z
  obtain ⟨t, e⟩ := (show ∃ t, w = Value.int i t from rz)
  cases e
  exact ⟨⟨h0, h1⟩, .int i, H', I'.tok _, ⟨_, rfl⟩, qz⟩
end
end Ow

/-! set(xs) of a list or a tuple of ints, as a set object. -/
namespace Si
open PySem PySem.Spec PyProof.Rows
section
variable {prog : Program} {w : World} {A : Around} {E : Value → Shared → Prop} {s : Shared}
theorem code_led1 (a : Value) {Q₁ : Value → Shared → Prop}
    (h : Q₁ (.ref s.heap.objs.size) { s with heap := s.heap.push { cls := .type "set", dict := none, data := .set #[] 0 (.fresh 0 0 (!w.params.followText "set-order")) } }) :
    codeAny (model prog w) A (.call (.builtin "set.__new__") ⟨[.type "set", a], []⟩) (wants Q₁ E) s := by
  refine codeAny_of_tree ?_
  show wpAny _ A.in1 (do checkBuiltinCall "set.__new__" ⟨[.type "set", a], []⟩; again (.builtin "set.__new__" ⟨[.type "set", a], []⟩)) _ _ s
  refine wpAny_bind (wpAny_of_eq (F.newCall_set_1 a) (wpAny_pure ⟨plainId_quiet F.plain_set_new _, codeAny_builtin F.entry_set_new ?_⟩))
  rw [Around.under_plainId F.plain_set_new _]
  unfold Builtin.«set.__new__» Builtin.Frozenset.newClass
  have hsub := sub_set_self
  obtain ⟨hp, g, d, tk, os⟩ := s
  dsimp only
  wp_walk
  refine wpAny_askSetting (wpAny_pure ?_)
  dsimp only
  simp only [newObj]
  refine wpAny_bind (wpAny_alloc (wpAny_pure ?_))
  exact wpAny_pure h
theorem ints_len : ∀ {vs : List Value} {xs : List Int}, IntsAre vs xs → vs.length = xs.length
  | _, _, .nil => rfl
  | _, _, .cons _ _ h => by rw [List.length_cons, List.length_cons, ints_len h]
theorem ints_at : ∀ {vs : List Value} {xs : List Int}, IntsAre vs xs → ∀ (i : Nat) v, vs[i]? = some v → ∃ x t, xs[i]? = some x ∧ v = .int x t
  | _, _, .nil, i, v, e => by simp at e
  | _, _, .cons x t h, 0, v, e => ⟨x, t, rfl, by simpa using e.symm⟩
  | _, _, .cons _ _ h, i + 1, v, e => by
    obtain ⟨x, t, e1, e2⟩ := ints_at h i v (by simpa using e)
    exact ⟨x, t, by simpa using e1, e2⟩
abbrev so (led : Bool) : Obj := { cls := .type "set", dict := none, data := .set #[] 0 (.fresh 0 0 led) }
theorem fill {R : Result → Shared → Prop} {I : Addr} {fp wr : List Addr} {G : Array GenState → Array GenState → Prop} {n : Nat} {P : Nat → Value → Prop} {St : Nat → Shared → Prop}
    (W : WalksS prog w A.in1 I fp wr G n P St) (S : Addr) (hSf : S ∉ fp) (xs : List Int) (hsz : xs.length = n) (hb : n + 1 < scanBound) (hval : ∀ i v, P i v → ∃ x t, xs[i]? = some x ∧ v = .int x t) :
    ∀ (k i : Nat) (s : Shared), n - i = k → i ≤ n → St i s → (∃ c, c ≤ i ∧ L2.SetR w s.heap S (fun y => decide (y ∈ xs.take i)) c) →
      (∀ s' c, Moved (S :: wr) G s s' → c ≤ n → L2.SetR w s'.heap S (fun y => decide (y ∈ xs.take n)) c → R (.ok (.ret .none)) s') →
      codeAny (model prog w) A (.builtin "set.update.loop" ⟨[.ref S, .ref I], []⟩) R s := by
  have nw : S ∉ wr := fun h => hSf (W.sub _ h)
  have more : ∀ b ∈ wr, b ∈ S :: wr := fun b hb => List.mem_cons_of_mem _ hb
  intro k
  induction k with
  | zero =>
    intro i s hk hi st ⟨c, hc, hS⟩ hR
    have e : i = n := by omega
    subst e
    refine codeAny_builtin PyProof.Rows.F.entry_set_update_loop ?_
    rw [Around.under_plainId PyProof.Rows.F.plain_set_update_loop _]
    show wpAny _ A.in1 (pyNext (.ref I) >>= _) _ _ s
    refine wpAny_bind (W.done s _ _ st fun s' hm => ?_)
    show wpAny _ A.in1 (ret Value.none) _ _ s'
    exact wpAny_pure (hR s' c (hm.mono more) hc (L2.SetR.at hS fun o e => hm.heap S o nw e))
  | succ k ih =>
    intro i s hk hi st ⟨c, hc, hS⟩ hR
    have lt : i < n := by omega
    refine codeAny_builtin PyProof.Rows.F.entry_set_update_loop ?_
    rw [Around.under_plainId PyProof.Rows.F.plain_set_update_loop _]
    show wpAny _ A.in1 (pyNext (.ref I) >>= _) _ _ s
    refine wpAny_bind (W.item i s _ _ lt st fun v s' hP st' hm => ?_)
    obtain ⟨x, t, hx, rfl⟩ := hval i v hP
    have hS1 := L2.SetR.at (h' := s'.heap) hS fun o e => hm.heap S o nw e
    show wpAny _ A.in1 (holding [Value.int x t] (setAdd S (.int x t)) >>= _) _ _ s'
    refine wpAny_bind (wpAny_holding ?_)
    unfold setAdd
    refine wpAny_holding ?_
    refine wpAny_bind ((PySem.intKind prog w).pyHash (k := x) (intKind_is _ _ _ _) ?_)
    refine L2.setR_add_hashed (s := { s' with toks := s'.toks + 1 }) hS1 (by omega) fun g same hS2 => ?_
    have hS3 := L2.SetR.congr (S' := fun y => decide (y ∈ xs.take (i + 1))) hS2 (fun y => by
      rw [List.take_add_one, hx]
      simp [List.mem_append])
    refine wpAny_pure ⟨plainId_quiet PyProof.Rows.F.plain_set_update_loop _, ih (i + 1) _ (by omega) lt (W.frame _ s' _ _ st' (Nat.le_succ _) fun b hb o e => ?_) ⟨_, (by split <;> omega), hS3⟩ fun s2 c2 m2 hc2 hS4 => ?_⟩
    · rw [same.2 b (fun h : b = S => hSf (by rw [← h]; exact hb))]
      exact e
    · refine hR s2 c2 (Moved.trans W.gtrans ((hm.mono more).then_heap (Nat.le_succ _) fun b o hb e => ?_) m2) hc2 hS4
      rw [same.2 b (fun h : b = S => hb (by rw [h]; exact List.mem_cons_self))]
      exact e
set_option maxHeartbeats 3200000 in
theorem set_ints {l : Addr} {its : Array Value} {xs : List Int} {Q : Value → Shared → Prop} (hh : A.handled = none) (hl : s.heap.IsList l its) (hi : PyProof.Rows.IntsAre its.toList xs) (hb : xs.length + 1 < scanBound)
    (q : ∀ (g : Heap) (tk c : Nat), c ≤ xs.length → L2.SetR w g s.heap.objs.size (fun y => decide (y ∈ xs)) c → (∀ b o, b < s.heap.objs.size → s.heap.get? b = some o → g.get? b = some o) → Q (.ref s.heap.objs.size) { s with heap := g, toks := tk }) :
    wpAny (model prog w) A (call (.type "set") [.ref l]) Q E s := by
  obtain ⟨c0, tl0, m0⟩ := PySem.F.called_set.mro
  have a1 := PySem.F.called_set.made
  have a2 := PySem.F.called_set.sub
  refine wpAny_call (codeAny_of_tree ?_)
  show wpAny _ _ (callAny (.type "set") _) _ _ _
  refine wpAny_pure ⟨Code.quiet_builtin _ (by decide +kernel), codeAny_builtin PySem.F.entry_type_call ?_⟩
  rw [Around.under_plain (weight_type_call_type "set" [.ref l] []) rfl]
  have a3 := PySem.F.called_set.notType
  have a4 := PySem.F.called_set.canCreate
  have a5 := PySem.F.typeCall_set_1 (.ref l)
  repeat (any_goals (first | assumption | wp_step))
  refine codeAny_mono (code_led1 (.ref l) (E := E) (Q₁ := fun ob s₁ => ob = .ref s.heap.objs.size ∧ s₁ = { s with heap := s.heap.push { cls := .type "set", dict := none, data := .set #[] 0 (.fresh 0 0 (!w.params.followText "set-order")) } }) ⟨rfl, rfl⟩) fun r s₁ hr => ?_
  cases r with
  | error e => exact hr
  | ok fl =>
    cases fl with
    | ret ob =>
      obtain ⟨rfl, rfl⟩ := hr
      generalize hso : ({ cls := .type "set", dict := none, data := .set #[] 0 (.fresh 0 0 (!w.params.followText "set-order")) } : Obj) = so
      have hfr : so.isFreed = false := by rw [← hso]; rfl
      have b1 : (s.heap.push so).get? s.heap.objs.size = some so := Heap.get?_push_size _ hfr
      have b2 : Shared.TypeIs { s with heap := s.heap.push so } (.ref s.heap.objs.size) "set" := ⟨_, b1, by rw [← hso]⟩
      have b3 := PySem.F.called_set.init.lookup
      have b4 := PySem.F.called_set.init.bind (.ref s.heap.objs.size)
      repeat (any_goals (first | assumption | wp_step))
      refine codeAny_mono (codeAny_call_builtin (R := wants (fun r s₂ => r = .none ∧ ∃ g tk c, s₂ = { s with heap := g, toks := tk } ∧ c ≤ xs.length ∧ L2.SetR w g s.heap.objs.size (fun y => decide (y ∈ xs)) c ∧
          (∀ b o, b < s.heap.objs.size → s.heap.get? b = some o → g.get? b = some o)) E) PySem.F.called_set.init.plain PySem.F.entry_set_init (check_set_init_1 b2 ?_)) fun r₂ s₂ hr₂ => ?_
      · obtain ⟨ol, hol, hcl, nl, hdl⟩ := hl
        obtain ⟨ocls, odict, odata, oslots⟩ := ol
        simp only at hcl hdl
        subst hcl hdl
        have hol' : (s.heap.push so).get? l = some { cls := .type "list", dict := odict, data := .seq its nl, slots := oslots } := Heap.get?_push_of_some _ hol
        have c1 := PySem.F.sub_list_set
        have c2 := PySem.F.sub_list_frozenset
        have c3 : (Value.type "list" == Value.type "dict") = false := by decide
        have hl1 : (s.heap.push so).IsList l its := ⟨_, hol', rfl, nl, rfl⟩
        unfold Builtin.«set.__init__» noKeywords Builtin.Frozenset.updateFrom
        generalize hPI : pyIter = PI
        have ll : l < s.heap.objs.size := Heap.lt_size hol
        have nI : ∀ ob : Obj, l ≠ (s.heap.push ob).objs.size := fun ob => by
          rw [Heap.size_push]
          exact Nat.ne_of_lt (Nat.lt_succ_of_lt ll)
        have nS : ∀ ob : Obj, s.heap.objs.size ∉ [(s.heap.push ob).objs.size, l] := fun ob => by
          rw [Heap.size_push]
          simp only [List.mem_cons, List.mem_singleton, List.not_mem_nil, or_false, not_or]
          exact ⟨Nat.ne_of_lt (Nat.lt_succ_self _), Nat.ne_of_gt ll⟩
        have nB : ∀ (ob : Obj) (b : Addr), b < s.heap.objs.size → b ≠ (s.heap.push ob).objs.size := fun ob b lb => by
          rw [Heap.size_push]
          exact Nat.ne_of_lt (Nat.lt_succ_of_lt lb)
        subst hso
        wp_walk
        subst hPI
        refine wpAny_pyIter_list hl1 ?_
        refine wpAny_bind (wpAny_runValue ?_)
        have hh3 : A.in1.in1.in1.handled = none := by simp [hh]
        have sz : xs.length = its.size := by rw [← ints_len hi, Array.length_toList]
        have hval : ∀ (i : Nat) (v : Value), its[i]? = some v → ∃ x t, xs[i]? = some x ∧ v = .int x t := fun i v hv => ints_at hi i v (by rw [Array.getElem?_toList]; exact hv)
        refine fill ((Walks.list hh3 _ l (nI (so (!w.params.followText "set-order"))) its).toS) s.heap.objs.size (nS (so (!w.params.followText "set-order"))) xs sz (by rw [← sz]; exact hb) hval (its.size - 0) 0 _ (by omega) (Nat.zero_le _)
          ⟨⟨_, Heap.get?_push_size _ rfl, rfl, rfl⟩, (hl1.push _)⟩ ?hS0 ?hR
        case hS0 =>
          exact ⟨0, Nat.le_refl _, L2.SetR.congr (L2.SetR.at (L2.setR_fresh w) fun o e => Heap.get?_push_of_some _ e) (fun _ => by simp)⟩
        case hR =>
          intro s' c' hm hc' hS'
          obtain ⟨g, g', d', tk', os'⟩ := s'
          have eg : g' = s.gens := hm.gens
          have ed : d' = s.drawn := hm.drawn
          have eo : os' = s.os := hm.os
          subst eg ed eo
          show wpAny _ _ _ _ _ _
          refine wpAny_pure ?_
          show wpAny _ _ (ret Value.none) _ _ _
          rw [← sz, List.take_length] at hS'
          rw [← sz] at hc'
          refine wpAny_pure ⟨rfl, g, tk', c', rfl, hc', hS', fun b o lb e => ?_⟩
          have n1 : b ≠ s.heap.objs.size := Nat.ne_of_lt lb
          have n2 := nB (so (!w.params.followText "set-order")) b lb
          exact hm.heap b o (by simp only [List.mem_cons, List.mem_singleton, List.not_mem_nil, or_false, not_or]; exact ⟨n1, n2⟩) (Heap.get?_push_of_some _ (Heap.get?_push_of_some _ e))
      · cases r₂ with
        | error e => exact hr₂
        | ok fl₂ =>
          cases fl₂ with
          | ret r =>
            obtain ⟨rfl, g, tk, c', rfl, hc', hS', hk'⟩ := hr₂
            repeat (any_goals (first | assumption | wp_step))
            exact q _ _ _ hc' hS' hk'
          | _ => exact hr₂.elim
    | _ => exact hr.elim
set_option maxHeartbeats 3200000 in
theorem set_intsT {l : Addr} {its : Array Value} {xs : List Int} {Q : Value → Shared → Prop} (hh : A.handled = none) (hl : s.heap.IsTuple l its) (hi : PyProof.Rows.IntsAre its.toList xs) (hb : xs.length + 1 < scanBound)
    (q : ∀ (g : Heap) (tk c : Nat), c ≤ xs.length → L2.SetR w g s.heap.objs.size (fun y => decide (y ∈ xs)) c → (∀ b o, b < s.heap.objs.size → s.heap.get? b = some o → g.get? b = some o) → Q (.ref s.heap.objs.size) { s with heap := g, toks := tk }) :
    wpAny (model prog w) A (call (.type "set") [.ref l]) Q E s := by
  obtain ⟨c0, tl0, m0⟩ := PySem.F.called_set.mro
  have a1 := PySem.F.called_set.made
  have a2 := PySem.F.called_set.sub
  refine wpAny_call (codeAny_of_tree ?_)
  show wpAny _ _ (callAny (.type "set") _) _ _ _
  refine wpAny_pure ⟨Code.quiet_builtin _ (by decide +kernel), codeAny_builtin PySem.F.entry_type_call ?_⟩
  rw [Around.under_plain (weight_type_call_type "set" [.ref l] []) rfl]
  have a3 := PySem.F.called_set.notType
  have a4 := PySem.F.called_set.canCreate
  have a5 := PySem.F.typeCall_set_1 (.ref l)
  repeat (any_goals (first | assumption | wp_step))
  refine codeAny_mono (code_led1 (.ref l) (E := E) (Q₁ := fun ob s₁ => ob = .ref s.heap.objs.size ∧ s₁ = { s with heap := s.heap.push { cls := .type "set", dict := none, data := .set #[] 0 (.fresh 0 0 (!w.params.followText "set-order")) } }) ⟨rfl, rfl⟩) fun r s₁ hr => ?_
  cases r with
  | error e => exact hr
  | ok fl =>
    cases fl with
    | ret ob =>
      obtain ⟨rfl, rfl⟩ := hr
      generalize hso : ({ cls := .type "set", dict := none, data := .set #[] 0 (.fresh 0 0 (!w.params.followText "set-order")) } : Obj) = so
      have hfr : so.isFreed = false := by rw [← hso]; rfl
      have b1 : (s.heap.push so).get? s.heap.objs.size = some so := Heap.get?_push_size _ hfr
      have b2 : Shared.TypeIs { s with heap := s.heap.push so } (.ref s.heap.objs.size) "set" := ⟨_, b1, by rw [← hso]⟩
      have b3 := PySem.F.called_set.init.lookup
      have b4 := PySem.F.called_set.init.bind (.ref s.heap.objs.size)
      repeat (any_goals (first | assumption | wp_step))
      refine codeAny_mono (codeAny_call_builtin (R := wants (fun r s₂ => r = .none ∧ ∃ g tk c, s₂ = { s with heap := g, toks := tk } ∧ c ≤ xs.length ∧ L2.SetR w g s.heap.objs.size (fun y => decide (y ∈ xs)) c ∧
          (∀ b o, b < s.heap.objs.size → s.heap.get? b = some o → g.get? b = some o)) E) PySem.F.called_set.init.plain PySem.F.entry_set_init (check_set_init_1 b2 ?_)) fun r₂ s₂ hr₂ => ?_
      · obtain ⟨ol, hol, hcl, nl, hdl⟩ := hl
        obtain ⟨ocls, odict, odata, oslots⟩ := ol
        simp only at hcl hdl
        subst hcl hdl
        have hol' : (s.heap.push so).get? l = some { cls := .type "tuple", dict := odict, data := .seq its nl, slots := oslots } := Heap.get?_push_of_some _ hol
        have c1 := PySem.F.sub_tuple_set
        have c2 := PySem.F.sub_tuple_frozenset
        have c3 : (Value.type "tuple" == Value.type "dict") = false := by decide
        have hl1 : (s.heap.push so).IsTuple l its := ⟨_, hol', rfl, nl, rfl⟩
        unfold Builtin.«set.__init__» noKeywords Builtin.Frozenset.updateFrom
        generalize hPI : pyIter = PI
        have ll : l < s.heap.objs.size := Heap.lt_size hol
        have nI : ∀ ob : Obj, l ≠ (s.heap.push ob).objs.size := fun ob => by
          rw [Heap.size_push]
          exact Nat.ne_of_lt (Nat.lt_succ_of_lt ll)
        have nS : ∀ ob : Obj, s.heap.objs.size ∉ [(s.heap.push ob).objs.size, l] := fun ob => by
          rw [Heap.size_push]
          simp only [List.mem_cons, List.mem_singleton, List.not_mem_nil, or_false, not_or]
          exact ⟨Nat.ne_of_lt (Nat.lt_succ_self _), Nat.ne_of_gt ll⟩
        have nB : ∀ (ob : Obj) (b : Addr), b < s.heap.objs.size → b ≠ (s.heap.push ob).objs.size := fun ob b lb => by
          rw [Heap.size_push]
          exact Nat.ne_of_lt (Nat.lt_succ_of_lt lb)
        subst hso
        wp_walk
        subst hPI
        refine wpAny_pyIter_tuple hl1 ?_
        refine wpAny_bind (wpAny_runValue ?_)
        have hh3 : A.in1.in1.in1.handled = none := by simp [hh]
        have sz : xs.length = its.size := by rw [← ints_len hi, Array.length_toList]
        have hval : ∀ (i : Nat) (v : Value), its[i]? = some v → ∃ x t, xs[i]? = some x ∧ v = .int x t := fun i v hv => ints_at hi i v (by rw [Array.getElem?_toList]; exact hv)
        refine fill ((Walks.tuple hh3 _ l (nI (so (!w.params.followText "set-order"))) its).toS) s.heap.objs.size (nS (so (!w.params.followText "set-order"))) xs sz (by rw [← sz]; exact hb) hval (its.size - 0) 0 _ (by omega) (Nat.zero_le _)
          ⟨⟨_, Heap.get?_push_size _ rfl, rfl, rfl⟩, (hl1.push _)⟩ ?hS0 ?hR
        case hS0 =>
          exact ⟨0, Nat.le_refl _, L2.SetR.congr (L2.SetR.at (L2.setR_fresh w) fun o e => Heap.get?_push_of_some _ e) (fun _ => by simp)⟩
        case hR =>
          intro s' c' hm hc' hS'
          obtain ⟨g, g', d', tk', os'⟩ := s'
          have eg : g' = s.gens := hm.gens
          have ed : d' = s.drawn := hm.drawn
          have eo : os' = s.os := hm.os
          subst eg ed eo
          show wpAny _ _ _ _ _ _
          refine wpAny_pure ?_
          show wpAny _ _ (ret Value.none) _ _ _
          rw [← sz, List.take_length] at hS'
          rw [← sz] at hc'
          refine wpAny_pure ⟨rfl, g, tk', c', rfl, hc', hS', fun b o lb e => ?_⟩
          have n1 : b ≠ s.heap.objs.size := Nat.ne_of_lt lb
          have n2 := nB (so (!w.params.followText "set-order")) b lb
          exact hm.heap b o (by simp only [List.mem_cons, List.mem_singleton, List.not_mem_nil, or_false, not_or]; exact ⟨n1, n2⟩) (Heap.get?_push_of_some _ (Heap.get?_push_of_some _ e))
      · cases r₂ with
        | error e => exact hr₂
        | ok fl₂ =>
          cases fl₂ with
          | ret r =>
            obtain ⟨rfl, g, tk, c', rfl, hc', hS', hk'⟩ := hr₂
            repeat (any_goals (first | assumption | wp_step))
            exact q _ _ _ hc' hS' hk'
          | _ => exact hr₂.elim
    | _ => exact hr.elim
end
end Si
namespace Si
open PySem PySem.Spec PyProof.Rows L2
section
variable {X : Cx}
theorem intsAre : ∀ {ns : List Int} {us : List Value}, Vals (ns.map V.int) us → IntsAre us ns
  | [], _, .nil => .nil
  | n :: ns, _, .cons r rt => by
    obtain ⟨t, rfl⟩ := r
    exact .cons n t (intsAre rt)
/-- set(xs), xs a list or a tuple of ints -/
def rSet (K : PySem.W.Frag) (w : World) : List V → Hp → VK → Prop := fun xs H Q => ∃ (p : Addr) (ns : List Int), xs = [.ref p] ∧ (SqL K H p (ns.map V.int) ∨ SqT K H p (ns.map V.int)) ∧ ns.length ≤ 4000 ∧
  ∀ S c, c ≤ ns.length → H S = none → Q (.ref S) (upd H S (SetO w S (fun y => decide (y ∈ ns)) c))
theorem call_set (hc : X.calm = true) : CallR X (.type "set") (rSet X.K X.w) := by
  intro pins s σ H xs us Q I r h
  obtain ⟨p, ns, rfl, hq, hl, k⟩ := h
  obtain ⟨u, rfl, ru⟩ := r.one
  cases (show u = Value.ref p from ru)
  rcases hq with hq | hq
  · obtain ⟨its, r, pl, hz⟩ := I.list hq
    refine set_ints (I.ok.hd hc) pl.isList (by simpa using intsAre r) (by unfold scanBound; omega) fun g tk c hcn hS hk => ?_
    exact ⟨.ref _, _, I.laid (t' := tk) (fun b u e => hk b u (Heap.lt_size e) e) (Nat.le_refl _) (setO_new hS), rfl, k _ c hcn (I.hok.fresh (Nat.le_refl _))⟩
  · obtain ⟨its, r, pl, hz⟩ := I.tuple hq
    refine set_intsT (I.ok.hd hc) pl (by simpa using intsAre r) (by unfold scanBound; omega) fun g tk c hcn hS hk => ?_
    exact ⟨.ref _, _, I.laid (t' := tk) (fun b u e => hk b u (Heap.lt_size e) e) (Nat.le_refl _) (setO_new hS), rfl, k _ c hcn (I.hok.fresh (Nat.le_refl _))⟩
end
end Si

/-! iter(tuple) as a value; list(x), x with an __iter__ that gives such a one, and an own __len__. -/
namespace Li
open PySem PySem.Spec PyProof.Rows L2
/-- an iterator of the tuple t, not begun -/
def TiO (t it : Addr) : HO := .ext fun h => h.IsTupleIter it t 0
theorem ti_at {h h' : Heap} {t it : Addr} {i : Nat} (x : h.IsTupleIter it t i) (k : ∀ o, h.get? it = some o → h'.get? it = some o) : h'.IsTupleIter it t i := by
  obtain ⟨o, e, r⟩ := x
  exact ⟨o, k o e, r⟩
theorem ti_ok {P : Program} {w : World} {H : Hp} {h : Heap} {t it : Addr} (x : h.IsTupleIter it t 0) : ObjOk P w H h it (TiO t it) :=
  ⟨x, by obtain ⟨o, e, _⟩ := x; exact ⟨o, e⟩, fun _ _ p k => ti_at p k⟩
/-- iter(t): the iterator is younger than all that is tracked -/
def rIterT (K : PySem.W.Frag) : List V → Hp → VK → Prop := fun xs H Q => ∃ (t : Addr) (zs : List V), xs = [.ref t] ∧ SqT K H t zs ∧ ∀ it, H it = none → (∀ b o, H b = some o → b < it) → Q (.ref it) (upd H it (TiO t it))
section
variable {X : Cx}
theorem call_iterT : CallR X (.builtin "iter") (rIterT X.K) := by
  intro pins s σ H xs us Q I r h
  obtain ⟨t, zs, rfl, hq, q⟩ := h
  obtain ⟨u, rfl, ru⟩ := r.one
  cases (show u = Value.ref t from ru)
  obtain ⟨its, rv, pl, hz⟩ := I.tuple hq
  refine Calls.call_function_entry (by decide +kernel) (by decide +kernel) PySem.W.kdk_entry_iter (PySem.W.kdk_args_iter _) ?_
  unfold Builtin.«iter»
  refine wpAny_bind (m := someArgs "iter" 1 2 _) (wpAny_of_eq (a := [Value.ref t]) (by first | rfl | kernel_rfl!) ?_)
  show wpAny _ _ (pyIter (.ref t) >>= _) _ _ _
  refine wpAny_bind (wpAny_pyIter_tuple (items := its.toArray) pl (wpAny_pure ⟨_, rfl, ?_⟩))
  refine ⟨.ref s.heap.objs.size, _, I.laid (t' := s.toks) (fun b u e => Heap.get?_push_of_some _ e) (Nat.le_refl _) (ti_ok ⟨_, Heap.get?_push_size _ rfl, rfl, rfl⟩), rfl, q _ (I.hok.fresh (Nat.le_refl _)) fun b o e => ?_⟩
  exact (I.hok b o e).lt
end
section
variable {X : Cx} {pins : List (Addr × Obj)} {σ : L2.St} {q it t : Addr} {zs : List V} {A1 : Around} {Rs : Result → Shared → Prop}
/-- the list at q takes what the iterator gives -/
theorem fill (hh : A1.in1.handled = none) (few : zs.length ≤ 1000) : ∀ (k i : Nat) (H : Hp) (s : Shared), zs.length - i = k → i ≤ zs.length → Inv X pins σ H s → H q = some (.lst (zs.take i)) → FpOk X pins H it → s.heap.IsTupleIter it t i → SqT X.K H t zs →
    (∀ s', Inv X pins σ (upd H q (.lst zs)) s' → Rs (.ok (.ret .none)) s') → codeAny (model X.prog X.w) A1 (.builtin "list.extend.loop" ⟨[.ref q, .ref it, .none], []⟩) Rs s := by
  intro k
  have sz := sizeLine_eq
  induction k with
  | zero =>
    intro i H s hk hi I hq fp st ht hd
    have e : i = zs.length := by omega
    subst e
    obtain ⟨its, rv, pl, hz⟩ := I.tuple ht
    have li := rv.length
    obtain ⟨f0, f1, f2, f3, f4, f5⟩ := fp
    refine codeAny_builtin PySem.F.entry_extend_loop ?_
    rw [Around.under_plainId PySem.F.plain_extend_loop _]
    show wpAny _ A1.in1 (pyNext (.ref it) >>= _) _ _ s
    refine wpAny_bind (wpAny_pyNext_tuple_end hh st (items := its.toArray) pl (by rw [List.getElem?_toArray, List.getElem?_eq_none (by omega)]) fun h' ex => ?_)
    have I1 := I.turned (t' := s.toks) (h' := h') (fun b o nb e => ex b o nb e) f0 f1 f3 f4 f5
    rw [List.take_length] at hq
    have e : upd H q (.lst zs) = H := by
      funext b
      by_cases c : b = q
      · rw [c, upd_same, hq]
      · rw [upd_ne c]
    exact wpAny_pure (hd _ (by rw [e]; exact I1))
  | succ k ih =>
    intro i H s hk hi I hq fp st ht hd
    have lt : i < zs.length := by omega
    obtain ⟨its, rv, pl, hz⟩ := I.tuple ht
    obtain ⟨u, hu, ru⟩ := rv.get (List.getElem?_eq_getElem lt)
    obtain ⟨f0, f1, f2, f3, f4, f5⟩ := id fp
    refine codeAny_builtin PySem.F.entry_extend_loop ?_
    rw [Around.under_plainId PySem.F.plain_extend_loop _]
    show wpAny _ A1.in1 (pyNext (.ref it) >>= _) _ _ s
    refine wpAny_bind (wpAny_pyNext_tuple_item st (items := its.toArray) pl (x := u) (by simpa using hu) fun h' st' sb => ?_)
    have I1 := I.turned (t' := s.toks) (h' := h') (fun b o nb e => (sb.2 b nb).trans e) f0 f1 f3 f4 f5
    obtain ⟨z, ls, kk, r2, hl, e⟩ := I1.lstM hq
    have ll := r2.length
    rw [List.length_take] at ll
    show wpAny _ A1.in1 (updateSeq q (·.push u) >>= _) _ _ _
    have nq : it ≠ q := fun c => by rw [← c, f0] at hq; cases hq
    refine wpAny_bind (wpAny_updateSeq e rfl (wpAny_pure ⟨plainId_quiet PySem.F.plain_extend_loop _, ?_⟩) (by rw [List.size_toArray]; omega) (by show (ls.toArray.push u).size ≤ sizeLine + 1; rw [Array.size_push, List.size_toArray]; omega))
    have I2 := I1.lset (f := (·.push u)) (its' := ls ++ [u]) (t' := s.toks) hq e (by simp) (r2.append (.cons ru .nil)) (by rw [List.length_append, List.length_singleton, List.length_take]; omega)
    have tk : zs.take i ++ [zs[i]] = zs.take (i + 1) := by rw [List.take_add_one, List.getElem?_eq_getElem lt]; rfl
    rw [tk] at I2
    refine ih (i + 1) _ _ (by omega) lt I2 upd_same ⟨by rw [upd_ne nq]; exact f0, f1, f2, f3, f4, f5⟩ (ti_at st' fun o e => ?_) ?_ fun s' I' => hd s' (by rw [upd_upd] at I'; exact I')
    · exact (Heap.get?_update_other _ _ (Ne.symm nq)).trans e
    · rcases ht with (w1 | ⟨o, w2⟩) | w3
      · refine .inl (.inl ?_)
        rw [upd_ne fun c => by rw [c, hq] at w1; cases w1]
        exact w1
      · refine .inl (.inr ⟨o, ?_⟩)
        rw [upd_ne fun c => by rw [c, hq] at w2; cases w2]
        exact w2
      · exact .inr w3
end
end Li
namespace Li
open PySem PySem.Spec PyProof.Rows L2 ItX
section
variable {X : Cx} {C fi fl : Addr} {spI spL : Sp} {EI EL : XK} {n : Nat}
/-- a def that never raises, called anywhere within -/
theorem sure_at {A : Around} {Q : VK} {E : XK} {g : Addr} {sp : Sp} {us : List Value} {ws : List V} {pins : List (Addr × Obj)} {σ : L2.St} {H : Hp} {s : Shared} (F : FnR X.prog X.w X.K X.mg X.base CX0 n g sp) (hr : Room n A) (e0 : Env0 X.prog X.w X.K X.mg X.base A X.stack s H) (I : Inv X pins σ H s)
    (r : Vals ws us) (h : sp ws H Q E) : codeAny (model X.prog X.w) A (.call (.ref g) ⟨us, []⟩) (fun r s' => match r with | .ok (.ret v) => EP X pins σ Q v s' | .ok _ => False | .error _ => False) s := by
  refine codeAny_mono (F A X.stack s H us ws Q E hr e0 r h) fun r s' z => ?_
  match r, z with
  | .ok (.ret _), z => exact I.after z
  | .ok .next, z => exact z.elim
  | .ok .brk, z => exact z.elim
  | .ok .cont, z => exact z.elim
  | .error _, z => exact z.elim
/-- list(x): its __iter__ gives an iterator of a tuple, its __len__ a number -/
def rListIt (K : PySem.W.Frag) (C : Addr) (spI spL : Sp) (EI EL : XK) : List V → Hp → VK → Prop := fun xs H Q => ∃ a dx fs, xs = [.ref a] ∧ H a = some (.ins C dx fs) ∧ ∀ q, H q = none → spI [.ref a] (upd H q (.lst []))
  (fun v H1 => ∃ it t zs, v = .ref it ∧ H1 it = some (TiO t it) ∧ q < it ∧ SqT K H1 t zs ∧ zs.length ≤ 1000 ∧ H1 q = some (.lst []) ∧ H1 a = some (.ins C dx fs) ∧
    spL [.ref a] H1 (fun z H2 => ∃ i : Int, z = .int i ∧ 0 ≤ i ∧ i < 1000 ∧ H2 = H1 ∧ Q (.ref q) (upd (dropH H1 it) q (.lst zs))) EL) EI
theorem call_listIt (hs : PySem.W.findIn X.K (.ref C) "__iter__" = some (some (.ref fi))) (hf : PySem.W.isFn X.K (.ref fi) = true) (hl : PySem.W.findIn X.K (.ref C) "__len__" = some (some (.ref fl))) (hlf : PySem.W.isFn X.K (.ref fl) = true)
    (FI : FnR X.prog X.w X.K X.mg X.base CX0 n fi spI) (FL : FnR X.prog X.w X.K X.mg X.base CX0 n fl spL) (hc : X.calm = true) (hr : Room (n + 4) X.A) : CallR X (.type "list") (rListIt X.K C spI spL EI EL) := by
  intro pins s σ H xs us Q I rv h
  obtain ⟨a, dx, fs, rfl, ha, hq⟩ := h
  obtain ⟨u, rfl, ru⟩ := rv.one
  cases (show u = Value.ref a from ru)
  have sb : Sub X (n + 1) X.A.in1.in1.in1 := Sub.in1 (Sub.in1 (Sub.in1 ⟨hr, rfl⟩))
  refine callType_codes (Q₁ := fun obj s₁ => obj = .ref s.heap.objs.size ∧ s₁ = { s with heap := s.heap.push { cls := .type "list", data := .seq #[] } })
    PySem.F.called_list (PySem.F.typeCall_list_1 _) PySem.F.entry_list_init (code_list_new _ ⟨rfl, rfl⟩) fun obj s₁ h₁ => ?_
  obtain ⟨rfl, rfl⟩ := h₁
  have hS : (s.heap.push { cls := .type "list", data := .seq #[] }).get? s.heap.objs.size = some { cls := .type "list", data := .seq #[] } := Heap.get?_push_size _ rfl
  refine ⟨⟨_, hS, rfl⟩, PySem.F.args_list_init_2 _ _, ?_⟩
  have fr : H s.heap.objs.size = none := I.hok.fresh (Nat.le_refl _)
  have hsp := hq _ fr
  have young : X.s_0.heap.objs.size ≤ s.heap.objs.size := I.sz
  have I1 : Inv X pins σ (upd H s.heap.objs.size (.lst [])) { s with heap := s.heap.push { cls := .type "list", data := .seq #[] } } := I.lnew (its := []) (t' := s.toks) .nil (Nat.zero_le _)
  show wpAny _ _ (Builtin.List.listItems (.ref s.heap.objs.size) >>= fun old => Builtin.List.listUpdate (.ref s.heap.objs.size) (fun _ => #[]) >>= fun _ => letGo old.toList.reverse >>= fun _ => Builtin.List.listExtendWith (.ref s.heap.objs.size) (.ref a) .none) _ _ _
  refine wpAny_bind ?_
  unfold Builtin.List.listItems
  refine wpAny_bind (wpAny_seqItems hS rfl (wpAny_pure ?_))
  show wpAny _ _ (updateSeq s.heap.objs.size (fun _ => #[]) >>= fun _ => letGo (#[] : Array Value).toList.reverse >>= fun _ => Builtin.List.listExtendWith (.ref s.heap.objs.size) (.ref a) .none) _ _ _
  refine wpAny_bind (wpAny_updateSeq hS rfl ?_)
  have I2 := I1.lset (f := fun _ => #[]) (its := []) (its' := []) (ys := []) (t' := s.toks) upd_same hS rfl .nil (Nat.zero_le _)
  rw [upd_upd] at I2
  refine wpAny_bind (wpAny_letGo ?_)
  have ha2 : upd H s.heap.objs.size (.lst []) a = some (.ins C dx fs) := by rw [upd_ne (ne_of_none ha fr)]; exact ha
  have nqa : s.heap.objs.size ≠ a := (ne_of_none ha fr).symm
  have low : s.heap.objs.size < ({ s with heap := (s.heap.push { cls := .type "list", data := .seq #[] }).update s.heap.objs.size (Obj.mapSeq fun _ => #[]) } : Shared).heap.objs.size := (I2.hok _ _ upd_same).lt
  generalize hq0 : s.heap.objs.size = q at *
  generalize ({ s with heap := (s.heap.push { cls := .type "list", data := .seq #[] }).update q (Obj.mapSeq fun _ => #[]) } : Shared) = s1 at *
  generalize hH1 : upd H q (.lst []) = H1 at *
  have hq1 : H1 q = some (.lst []) := by rw [← hH1]; exact upd_same
  obtain ⟨ox, od, J⟩ := Ow.ins_at I2 ha2
  obtain ⟨m0, hF⟩ := I2.fr
  unfold Builtin.List.listExtendWith
  refine wpAny_bind (J.type.here ?_)
  have b1 : Builtin.List.listSameRef (.ref q) (.ref a) = false := by simp [Builtin.List.listSameRef, nqa]
  have b2 : (Value.ref C == Value.type "list") = false ∧ (Value.ref C == Value.type "tuple") = false := ⟨rfl, rfl⟩
  simp only [b1, b2.1, b2.2, Bool.or_false, Bool.false_eq_true, if_false]
  refine wpAny_bind (PySem.W.owit_iter hF I2.ok.mod.kin J hs hf ?_)
  have env : ∀ {s2 : Shared} {H2 : Hp}, Inv X pins σ H2 s2 → Env0 X.prog X.w X.K X.mg X.base X.A.in1.in1 X.stack s2 H2 := fun I => by
    have e := I.env0
    exact ⟨e.frames, e.mod, e.bs, e.bsz, e.funs, e.frf, e.hok, e.bare⟩
  have room0 : Room (n + 1) X.A.in1.in1 := (hr.in1.in1).mono (by omega)
  have room1 : Room n X.A.in1.in1 := room0.mono (by omega)
  refine wpAny_mono (wpAny_call (sure_at (us := [.ref a]) (ws := [.ref a]) FI room1 (env I2) I2 (.cons rfl .nil) hsp)) (fun v s3 hv => ?_) fun _ _ x => x.elim
  obtain ⟨v', H3, I3, rv3, it, t, zs, rfl, hit, qlt, ht, few, hq3, ha3, hsp2⟩ := hv
  cases (show v = Value.ref it from rv3)
  have st3 : s3.heap.IsTupleIter it t 0 := (I3.hok it _ hit).1
  unfold PySem.W.OwitIt
  refine wpAny_specialOf (name := Str.ofString "__next__") st3.typeIs PySem.F.slot_tuple_iterator_next.lookup ?_
  refine wpAny_bind (wpAny_holding ?_)
  unfold Builtin.List.listLengthHint
  obtain ⟨ox3, od3, J3⟩ := Ow.ins_at I3 ha3
  obtain ⟨m3, hF3⟩ := I3.fr
  refine wpAny_bind (wpAny_bind (J3.type.here ((PySem.W.looks_findIn I3.kIn hl).here ?_)))
  refine PySem.W.KFB.if_not rfl ?_
  refine wp_if_pos rfl (wpAny_bind (wpAny_rule (wpAny_bind (wpAny_attempt ?_))))
  refine PySem.W.len_K hF3 I3.ok.mod.kin J3 hl hlf (wpAny_mono (wpAny_call (sure_at (us := [.ref a]) (ws := [.ref a]) FL (room0.in1) (env I3).in1 I3 (.cons rfl .nil) hsp2)) (fun w s4 z => ?_) fun _ _ x => x.elim)
  obtain ⟨z', H4, I4, rz, i, rfl, h0, h1, rfl, qz⟩ := z
  obtain ⟨tk, e⟩ := (show ∃ tk, w = Value.int i tk from rz)
  cases e
  refine ⟨⟨h0, by omega⟩, ?_⟩
  dsimp only
  refine wpAny_bind (wpAny_of_eq (a := some i) rfl ?_)
  have sl := sizeLine_eq
  refine wp_if_neg (by unfold Builtin.List.listTooLong; rw [decide_eq_true_eq]; omega) (wpAny_pure ?_)
  have I5 := inv_drop (I4.tok (s4.toks + 1)) hit
  have fp : FpOk X pins (dropH H4 it) it := inv_fp I4 hit (Nat.le_trans young (Nat.le_of_lt qlt))
  have nqi : q ≠ it := Nat.ne_of_lt qlt
  have hq5 : dropH H4 it q = some (.lst []) := (dropH_ne nqi).trans hq3
  have ht5 : SqT X.K (dropH H4 it) t zs := by
    rcases ht with (w1 | ⟨o, w2⟩) | w3
    · refine .inl (.inl ((dropH_ne fun c => ?_).trans w1))
      rw [c, hit] at w1
      cases w1
    · refine .inl (.inr ⟨o, (dropH_ne fun c => ?_).trans w2⟩)
      rw [c, hit] at w2
      cases w2
    · exact .inr w3
  have st5 : s4.heap.IsTupleIter it t 0 := (I4.hok it _ hit).1
  have hh : X.A.in1.in1.handled = none := by simp [I.ok.hd hc]
  have go : ∀ s6 : Shared, Inv X pins σ (dropH H4 it) s6 → s6.heap.IsTupleIter it t 0 → codeAny (model X.prog X.w) X.A.in1 (.builtin "list.extend.loop" ⟨[.ref q, .ref it, .none], []⟩) (wants (fun r s₂ => r = .none ∧ EP X pins σ Q (.ref q) s₂) X.xe) s6 := fun s6 I6 st6 =>
    fill (zs := zs) hh few (zs.length - 0) 0 _ s6 rfl (Nat.zero_le _) I6 hq5 fp st6 ht5 fun s7 I7 => ⟨rfl, ⟨.ref q, _, I7, rfl, qz⟩⟩
  refine wpAny_ite_split (fun _ => ?_) fun _ => wpAny_pure ⟨plainId_quiet PySem.F.plain_extend_loop _, go _ I5 st5⟩
  refine wpAny_bind (wpAny_rule (wpAny_bind ?_))
  obtain ⟨z5, its5, k5, r5, l5, e5⟩ := I5.lstM hq5
  cases r5
  show wpAny _ _ (updateSeq q (·.push Value.none) >>= fun _ => updateSeq q (·.pop)) _ _ _
  refine wpAny_bind (wpAny_updateSeq e5 rfl ?_)
  have I6 := I5.lset (f := (·.push Value.none)) (its' := [Value.none]) (ys := [.non]) (t' := s4.toks + 1) hq5 e5 (by simp) (.cons rfl .nil) (by rw [List.length_singleton, sl]; decide)
  obtain ⟨z6, its6, k6, r6, l6, e6⟩ := I6.lstM upd_same
  obtain ⟨u6, rfl, ru6⟩ := r6.one
  refine wpAny_updateSeq e6 rfl ?_ (by show 1 ≤ sizeLine; rw [sl]; decide) (by show 0 ≤ sizeLine + 1; exact Nat.zero_le _)
  have I7 := I6.lset (f := (·.pop)) (its := [u6]) (its' := []) (ys := []) (t' := s4.toks + 1) upd_same e6 (by rfl) .nil (Nat.zero_le _)
  rw [upd_upd, show upd (dropH H4 it) q (.lst []) = dropH H4 it from funext fun b => by
    by_cases c : b = q
    · rw [c, upd_same, hq5]
    · rw [upd_ne c]] at I7
  refine wpAny_pure ⟨plainId_quiet PySem.F.plain_extend_loop _, go _ I7 (ti_at st5 fun o e => ?_)⟩
  exact (Heap.get?_update_other _ _ nqi).trans ((Heap.get?_update_other _ _ nqi).trans e)
end
end Li
/-! for .. in x, x an instance whose __iter__ gives iter(tuple). -/
namespace Li
open PySem PySem.Spec PyProof.Rows L2 ItX
section
variable {X : Cx} {C fi : Addr} {spI : Nat → Sp} {EI : XK} {n : Nat} {tg : Expr}
/-- a def whose promise knows how many objects there are when it is called -/
def FnA (P : Program) (w : World) (K : PySem.W.Frag) (mg : Str → Option Value) (base : Heap) (n : Nat) (g : Addr) (sp : Nat → Sp) : Prop :=
  ∀ (A : Around) (outer : List Env) (s : Shared) (H : Hp) (us : List Value) (vs : List V) (Q : VK) (E : XK), Room n A → Env0 P w K mg base A outer s H → Vals vs us → sp s.heap.objs.size vs H Q E →
    codeAny (model P w) A (.call (.ref g) ⟨us, []⟩) (CR CX0 outer P w H s Q E) s
theorem fnA_of {P : Program} {w : World} {K : PySem.W.Frag} {mg : Str → Option Value} {base : Heap} {x qual : Str} {st : Stmt} {g : Addr} {fd : FuncData} {N ps : List Str} {k : Nat} {sp : Nat → Sp} (F : Fun K x qual st g fd) (S : FnScope N ps (defScope st)) (B : Binds K fd ps [])
    (len : ∀ n vs H Q E, sp n vs H Q E → vs.length = ps.length)
    (body : ∀ (cdv : Value) (A : Around) (outer : List Env) (s : Shared) (H : Hp) (vs : List V) (Q : VK) (E : XK), Room k (A.deeper (envOfC qual (defScope st) s.heap.objs.size g cdv)) → sp s.heap.objs.size vs H Q E →
      ∃ t, PSs (cxOf CX0 P w K mg base N qual (defScope st) g cdv A outer s H E) (defBody st) t ∧ t { nx := fun _ H' => Q .non H', rt := Q } (start N vs) H) : FnA P w K mg base (k + 1) g sp := by
  obtain ⟨oc, od, kV, doc, pm, an, cdv, ct, osl, rfl, lk, hcd⟩ := F.ex
  intro A outer s H us vs Q E hr e0 r hsp
  have hl := len _ _ _ _ _ hsp
  have KX : K.In s.heap := e0.mod.kin.keeps fun b o e => (e0.bs b o e).1
  have bd := B s us KX (by rw [List.append_nil, ← r.length]; exact hl)
  rw [List.append_nil] at bd
  refine codeAny_call_function hr.depth (KX _ _ lk) rfl S.co S.gen rfl (PySem.W.codeRec_of KX hcd) (bd _ _ _ _ ?_)
  refine wpAny_newFunctionEnv_cells S.kind (fun y hy => ?_) fun env he s1 fresh => ?_
  · rcases S.par y.1 (List.of_mem_zip (show (y.1, y.2) ∈ ps.zip us from hy)).1 with q | q
    · exact .inl q
    · exact .inr ⟨q, PySem.W.cellsFrom_some _ _ _ (.inl q)⟩
  subst he
  refine ⟨(e0.mod.nolimit.keeps fun b o e => (e0.bs b o e).1).keeps fresh.toInCall.keep, codeAny_func ?_⟩
  obtain ⟨t, ht, hq⟩ := body _ A outer s H vs Q E (hr.deeper _) hsp
  refine wpAny_mono (ht.run [] s1 (start N vs) H _ (inv_start S hr.hd e0 hl r fresh) hq) (fun fl s' hs => ?_) fun e s' hs => hs
  match fl, hs with
  | .ret _, ⟨v, _, H', J, rv, q⟩ => exact ⟨v, H', J.os, J.bare, J.base, J.hok, rv, q⟩
  | .next, ⟨_, H', J, q⟩ => exact ⟨V.non, H', J.os, J.bare, J.base, J.hok, rfl, q⟩
  | .brk, ⟨_, _, _, q⟩ => exact q.elim
  | .cont, ⟨_, _, _, q⟩ => exact q.elim
/-- iter(t), n: how many objects there were -/
def rIterN (K : PySem.W.Frag) (n : Nat) : List V → Hp → VK → Prop := fun xs H Q => ∃ (t : Addr) (zs : List V), xs = [.ref t] ∧ SqT K H t zs ∧ ∀ it, H it = none → n ≤ it → Q (.ref it) (upd H it (TiO t it))
theorem call_iterN {X : Cx} : CallR X (.builtin "iter") (rIterN X.K X.s_0.heap.objs.size) := by
  intro pins s σ H xs us Q I r h
  obtain ⟨t, zs, rfl, hq, q⟩ := h
  obtain ⟨u, rfl, ru⟩ := r.one
  cases (show u = Value.ref t from ru)
  obtain ⟨its, rv, pl, hz⟩ := I.tuple hq
  refine Calls.call_function_entry (by decide +kernel) (by decide +kernel) PySem.W.kdk_entry_iter (PySem.W.kdk_args_iter _) ?_
  unfold Builtin.«iter»
  refine wpAny_bind (m := someArgs "iter" 1 2 _) (wpAny_of_eq (a := [Value.ref t]) (by first | rfl | kernel_rfl!) ?_)
  show wpAny _ _ (pyIter (.ref t) >>= _) _ _ _
  refine wpAny_bind (wpAny_pyIter_tuple (items := its.toArray) pl (wpAny_pure ⟨_, rfl, ?_⟩))
  exact ⟨.ref s.heap.objs.size, _, I.laid (t' := s.toks) (fun b u e => Heap.get?_push_of_some _ e) (Nat.le_refl _) (ti_ok ⟨_, Heap.get?_push_size _ rfl, rfl, rfl⟩), rfl, q _ (I.hok.fresh (Nat.le_refl _)) I.sz⟩
/-- such a def, called -/
theorem sure_A {X : Cx} {n : Nat} {A : Around} {Q : VK} {E : XK} {g : Addr} {sp : Nat → Sp} {us : List Value} {ws : List V} {pins : List (Addr × Obj)} {σ : L2.St} {H : Hp} {s : Shared} (F : FnA X.prog X.w X.K X.mg X.base n g sp) (hr : Room n A) (e0 : Env0 X.prog X.w X.K X.mg X.base A X.stack s H) (I : Inv X pins σ H s)
    (r : Vals ws us) (h : sp s.heap.objs.size ws H Q E) : codeAny (model X.prog X.w) A (.call (.ref g) ⟨us, []⟩) (fun r s' => match r with | .ok (.ret v) => EP X pins σ Q v s' | .ok _ => False | .error _ => False) s := by
  refine codeAny_mono (F A X.stack s H us ws Q E hr e0 r h) fun r s' z => ?_
  match r, z with
  | .ok (.ret _), z => exact I.after z
  | .ok .next, z => exact z.elim
  | .ok .brk, z => exact z.elim
  | .ok .cont, z => exact z.elim
  | .error _, z => exact z.elim
def iOwnT (K : PySem.W.Frag) (C : Addr) (spI : Nat → Sp) (EI : XK) (tl : TE) : TI := fun σ H R => tl σ H fun x H1 => ∃ a dx fs, x = .ref a ∧ H1 a = some (.ins C dx fs) ∧
  ∀ m, spI m [.ref a] H1 (fun v H2 => ∃ it t zs, v = .ref it ∧ m ≤ it ∧ H2 it = some (TiO t it) ∧ SqT K H2 t zs ∧ R (Itt K t) (dropH H2 it)) EI
theorem pi_ownT (hs : PySem.W.findIn X.K (.ref C) "__iter__" = some (some (.ref fi))) (hf : PySem.W.isFn X.K (.ref fi) = true) (FI : FnA X.prog X.w X.K X.mg X.base n fi spI) (hr : Room n X.A) {l : Expr} {tl : TE} (hl : PE X l tl) : PI X tg l (iOwnT X.K C spI EI tl) := by
  refine ⟨fun pins s σ H R I h => ?_⟩
  refine thn (hl.run pins s σ H _ I h) fun v s1 ⟨x, H1, I1, r1, q1⟩ => ?_
  obtain ⟨a, dx, fs, e, ha, hsp⟩ := q1
  subst e
  cases r1
  obtain ⟨ox, od, J⟩ := Ow.ins_at I1 ha
  obtain ⟨m0, hF⟩ := I1.fr
  refine PySem.W.owit_iter hF I1.ok.mod.kin J hs hf ?_
  refine wpAny_mono (wpAny_call (sure_A (us := [.ref a]) (ws := [.ref a]) FI hr I1.env0 I1 (.cons rfl .nil) (hsp _))) (fun v s3 hv => ?_) fun _ _ x => x.elim
  obtain ⟨v', H3, I3, rv3, it, t, zs, rfl, yg, hit, ht, q⟩ := hv
  cases (show v = Value.ref it from rv3)
  have st3 : s3.heap.IsTupleIter it t 0 := (I3.hok it _ hit).1
  unfold PySem.W.OwitIt
  refine wpAny_specialOf (name := Str.ofString "__next__") st3.typeIs PySem.F.slot_tuple_iterator_next.lookup ?_
  refine ⟨it, [it], _, _, dropH H3 it, rfl, inv_drop I3 hit, turn_tuple t it, st3, fun b hb => ?_, q⟩
  have e : b = it := by simpa using hb
  rw [e]
  exact inv_fp I3 hit (Nat.le_trans I1.sz yg)
variable {CX : CXT} {k : Nat} {f : Addr} {fd : FuncData} {ps : List Str} {sp : Sp} {e : Expr} {es : List Expr} {t : TA} {x : Str} {p pos : Pos} {ds : List Value} {dvs : List V}
/-- pe_callS of a def with defaults -/
theorem pe_callSD {E : L2.St → XK} (F : FnOk X.prog X.w X.K X.mg X.base CX k f fd ps sp) (hr : Room k X.A) (hg : Gl X x) (hm : X.mg x = some (.ref f)) (hk : PySem.W.keepIn X.K (.ref f) = true) (hb : Binds X.K fd ps ds) (hd : Vals dvs ds) (hx : ∀ σ, PassesAt CX X σ (E σ))
    (ha : PA X (e :: es) t) (hdb : (x == ("__debug__" : Str)) = false := by decide) (he : starEach (e :: es) X.env = (false, eval e X.env) :: starEach es X.env := by rfl) (hpl : (backTo pos (starEach es X.env)).any (·.1) = false := by rfl) :
    PE X (.Call (.Name x p) (e :: es) [] pos) (tCallS (fun vs H Q E => sp (vs ++ dvs) H Q E) E t) := by
  refine ⟨fun pins s σ H Q I h => ?_⟩
  refine wpAny_Call_Name_kw (ld_glob I hg hm ?_ hdb)
  refine PySem.W.callWith_K (h₀ := X.base) I.ok.mod.kin hk (thn (ha.run pos pins s σ H _ I h) fun us s1 ⟨vs, H1, I1, r, q⟩ => ⟨I1.kIn, ?_⟩) he hpl
  refine wpAny_call (codeAny_mono (F.raw hb hd X.A X.stack s1 H1 us vs Q (E σ) hr I1.env0 r q) fun r s' hq => ?_)
  cases r with
  | error e => exact hx σ pins H1 s1 e s' I1 hq
  | ok fl =>
    cases fl with
    | ret u => exact I1.after hq
    | next => exact False.elim hq
    | brk => exact False.elim hq
    | cont => exact False.elim hq
end
end Li

/-! A call by keywords that may raise, its exception's part told by the state at the call. -/
namespace Kw
open PySem PySem.Spec PyProof.Rows L2
section
variable {X : Cx} {CX : CXT} {k n : Nat} {f : Addr} {fd : FuncData} {ps ks : List Str} {sp : Sp} {E : L2.St → XK} {x : Str} {e : Expr} {es : List Expr} {kws : List Keyword} {t tk : TA} {p pos : Pos} {g : List Value → List Value → List Value} {gV : List V → List V → List V}
theorem run_fnNS {pins : List (Addr × Obj)} {σ : L2.St} {H : Hp} {s : Shared} {Q : VK} {us ws : List Value} {vs zs : List V} (F : FnOk X.prog X.w X.K X.mg X.base CX k f fd ps sp) (hr : Room k X.A) (hb : KBn X.K fd ps n ks g gV) (hx : PassesAt CX X σ (E σ))
    (I : Inv X pins σ H s) (r : Vals vs us) (rz : Vals zs ws) (l1 : vs.length = n) (l2 : zs.length = ks.length) (h : sp (gV vs zs) H Q (E σ)) : wpAny (model X.prog X.w) X.A (call (.ref f) us (ks.zip ws)) (EP X pins σ Q) X.xe s := by
  have r2 := hb.rel r rz
  refine wpAny_call (codeAny_mono (F.run X.A X.stack s H ⟨us, ks.zip ws⟩ (g us ws) (gV vs zs) Q (E σ) hr I.env0 (hb.to s us ws I.kIn (r.length.symm.trans l1) (rz.length.symm.trans l2)) r2 h) fun r s' hq => ?_)
  cases r with
  | error e => exact hx pins H s e s' I hq
  | ok fl =>
    cases fl with
    | ret u => exact I.after hq
    | next => exact False.elim hq
    | brk => exact False.elim hq
    | cont => exact False.elim hq
def tCallNS (n m : Nat) (sp : Sp) (gV : List V → List V → List V) (E : L2.St → XK) (t tk : TA) : TE := fun σ H Q => t σ H fun vs H1 => tk σ H1 fun zs H2 => vs.length = n ∧ zs.length = m ∧ sp (gV vs zs) H2 Q (E σ)
theorem pe_callNS (F : FnOk X.prog X.w X.K X.mg X.base CX k f fd ps sp) (hr : Room k X.A) (hg : Gl X x) (hm : X.mg x = some (.ref f)) (hk : PySem.W.keepIn X.K (.ref f) = true) (hb : KBn X.K fd ps n ks g gV) (hx : ∀ σ, PassesAt CX X σ (E σ))
    (ha : PA X (e :: es) t) (hkw : PK X kws tk) (hall : (backToKw pos (keywordEach kws X.env)).all (·.1.isSome) = true := by rfl) (hks : (backToKw pos (keywordEach kws X.env)).filterMap (·.1) = ks := by rfl)
    (hdb : (x == ("__debug__" : Str)) = false := by decide) (he : starEach (e :: es) X.env = (false, eval e X.env) :: starEach es X.env := by rfl)
    (hpl : ((backTo pos (starEach (e :: es) X.env)).any (·.1) || (backToKw pos (keywordEach kws X.env)).any (·.1.isNone)) = false := by rfl) :
    PE X (.Call (.Name x p) (e :: es) kws pos) (tCallNS n ks.length sp gV E t tk) := by
  refine ⟨fun pins s σ H Q I h => ?_⟩
  refine wpAny_Call_Name_kw (ld_glob I hg hm ?_ hdb)
  refine PySem.W.callWith_KW (h₀ := X.base) I.ok.mod.kin hk hall (thn (ha.run pos pins s σ H _ I h) fun us s1 ⟨vs, H1, I1, r, q⟩ => ?_) hpl he
  refine thn (hkw.run pos pins s1 σ H1 _ I1 q) fun ws s2 ⟨zs, H2, I2, rz, l1, l2, q2⟩ => ⟨I2.kIn, ?_⟩
  rw [hks]
  exact run_fnNS F hr hb (hx σ) I2 r rz l1 l2 q2
end
end Kw

/-! x in a list or a tuple of data of any depth. -/
namespace Ind
open PySem PySem.Spec PyProof.Rows L2
def seqD (t : Bool) (ds : List PyData) : PyData := if t = true then .tuple ds else .list ds
def rInS (K : PySem.W.Frag) : R2 := fun x y H Q => ∃ (d : PyData) (ds : List PyData) (t : Bool), Dp K H x d ∧ Dp K H y (seqD t ds) ∧ d.canLay0 = true ∧ d.depth ≤ 60 ∧ PyData.canLayAll0 ds = true ∧ Q (.bl (ds.any fun z => PyData.eqv z d)) H
theorem op_inS {X : Cx} (hu : X.A.units + 65 < cLine) : OpR X (compareOp .In) (rInS X.K) := by
  intro pins s σ H x y v u Q I rx ry h
  obtain ⟨d, ds, t, hd, he, sd, dd, se, q⟩ := h
  obtain ⟨as, r1⟩ := Dp.reads I d x v hd rx
  have room : X.A.units + 1 + min (PyData.depthAll ds) d.depth < cLine := by
    have := Nat.min_le_right (PyData.depthAll ds) d.depth
    omega
  cases t with
  | true =>
    obtain ⟨bs, r2⟩ := Dp.reads I (.tuple ds) y u he ry
    exact SeqAt.in_tuple_reads r2 r1 se sd room ⟨.bl _, H, I, rfl, q⟩
  | false =>
    obtain ⟨bs, r2⟩ := Dp.reads I (.list ds) y u he ry
    exact SeqAt.in_list_reads r2 r1 se sd room ⟨.bl _, H, I, rfl, q⟩
theorem isD {K : PySem.W.Frag} {t : Bool} {H : Hp} {p : Addr} {xs : List V} {ds : List PyData} (h : Kd.Is K t H p xs) (g : DpAll K H xs ds) : Dp K H (.ref p) (seqD t ds) := by
  cases t with
  | true => exact .tup h g
  | false => exact .lst h g
theorem room65 {k : Nat} {A : Around} (r : Room k A) : A.units + 65 < cLine := by have := r.un; omega
end Ind
namespace Ind
open PySem PySem.Spec PyProof.Rows L2
def rNinS (K : PySem.W.Frag) : R2 := fun x y H Q => ∃ (d : PyData) (ds : List PyData) (t : Bool), Dp K H x d ∧ Dp K H y (seqD t ds) ∧ d.canLay0 = true ∧ d.depth ≤ 60 ∧ PyData.canLayAll0 ds = true ∧ Q (.bl (!ds.any fun z => PyData.eqv z d)) H
theorem op_ninS {X : Cx} (hu : X.A.units + 65 < cLine) : OpR X (compareOp .NotIn) (rNinS X.K) := by
  intro pins s σ H x y v u Q I rx ry h
  obtain ⟨d, ds, t, hd, he, sd, dd, se, q⟩ := h
  obtain ⟨as, r1⟩ := Dp.reads I d x v hd rx
  have room : X.A.units + 1 + min (PyData.depthAll ds) d.depth < cLine := by
    have := Nat.min_le_right (PyData.depthAll ds) d.depth
    omega
  cases t with
  | true =>
    obtain ⟨bs, r2⟩ := Dp.reads I (.tuple ds) y u he ry
    exact SeqAt.notIn_tuple_reads r2 r1 se sd room ⟨.bl _, H, I, rfl, q⟩
  | false =>
    obtain ⟨bs, r2⟩ := Dp.reads I (.list ds) y u he ry
    exact SeqAt.notIn_list_reads r2 r1 se sd room ⟨.bl _, H, I, rfl, q⟩
end Ind

/-! l.count(x), x in l told of data. -/
namespace L2
open PySem PySem.Spec PyProof.Rows
section
variable {X : Cx}
def rCntD (K : PySem.W.Frag) : V → List V → Hp → VK → Prop := fun x xs H Q => ∃ (a : Addr) (y : V) (d : PyData) (ds : List PyData), x = V.ref a ∧ xs = [y] ∧ Dp K H (V.ref a) (.list ds) ∧ Dp K H y d ∧
  PyData.plainAll ds = true ∧ d.plain = true ∧ d.depth ≤ 60 ∧ Q (.int (ds.countP fun z => PyData.eqv z d : Nat)) H
theorem mt_countD (hu : X.A.units + 65 < cLine) : MtR X "list.count" (rCntD X.K) := by
  intro pins s σ H x xs v us Q I rx rxs h
  obtain ⟨a, y, d, ds, rfl, rfl, hl, hy, sl, sd, dd, q⟩ := h
  cases hl with
  | lst hs hd =>
    cases rx
    obtain ⟨u, rfl, ru⟩ := rxs.one
    obtain ⟨its, rv, hl, hz⟩ := I.list hs
    obtain ⟨as, r1⟩ := Dp.readsAll I ds _ its hd rv
    obtain ⟨bs, r2⟩ := Dp.reads I d y u hy ru
    refine PySem.SeqAt.count_list_data hl.isList r1 r2 sl sd ?_ ⟨.int _, H, I.tok _, ⟨_, rfl⟩, q⟩
    have := Nat.min_le_right (PyData.depthAll ds) d.depth
    omega
end
end L2
/-! One of two readings of what a for walks. -/
namespace L2
open PySem PySem.Spec PyProof.Rows
theorem pi_or {X : Cx} {tg e : Expr} {t u : TI} (h : PI X tg e t) (g : PI X tg e u) : PI X tg e (fun σ H R => t σ H R ∨ u σ H R) :=
  ⟨fun pins s σ H R I z => z.elim (fun z => h.run pins s σ H R I z) fun z => g.run pins s σ H R I z⟩
end L2
/-! tuple * 0, tuple * 1; tuple * n. -/
namespace L2
open PySem PySem.Spec PyProof.Rows
theorem tuple_mul0 (l : Addr) (items : Array Value) (n : Nat) (dd : Option Addr) (sl : Array (Option Value)) (u : Tok) (c1 : items.isEmpty = false) :
    Meets (Builtin.«tuple.__mul__» ⟨[.ref l, .int 0 u], []⟩) (fun _ R s => s.heap.get? l = some { cls := .type "tuple", dict := dd, data := .seq items n, slots := sl } ∧
      R (.ok (.ret (Value.ref s.heap.objs.size))) { s with heap := s.heap.push { cls := Value.type "tuple", data := Data.seq #[] }, toks := s.toks }) :=
  .of_wp fun prog w A R s h => by
    obtain ⟨hp, g, d, tk, os⟩ := s
    obtain ⟨hl, h⟩ := h
    have f1 := AutoSeq1.idx_int
    have c2 : (items.isEmpty || (0 : Int) == 1) = false := by rw [c1]; rfl
    wp_walk using wpAny_loadPart' hl
    repeat (first
      | (refine wpAny_ite_false (decide_eq_false (by rw [c2]; exact Bool.false_ne_true)) ?_; wp_walk using wpAny_loadPart' hl)
      | (refine wpAny_ite_true (by simp) ?_; wp_walk using wpAny_loadPart' hl))
    exact ⟨_, rfl, h⟩
theorem tuple_mul1 (l : Addr) (items : Array Value) (n : Nat) (dd : Option Addr) (sl : Array (Option Value)) (u : Tok) :
    Meets (Builtin.«tuple.__mul__» ⟨[.ref l, .int 1 u], []⟩) (fun _ R s => s.heap.get? l = some { cls := .type "tuple", dict := dd, data := .seq items n, slots := sl } ∧
      R (.ok (.ret (Value.ref l))) s) :=
  .of_wp fun prog w A R s h => by
    obtain ⟨hp, g, d, tk, os⟩ := s
    obtain ⟨hl, h⟩ := h
    have f1 := AutoSeq1.idx_int
    wp_walk using wpAny_loadPart' hl
    repeat (first
      | (refine wpAny_ite_true (by simp) ?_; wp_walk using wpAny_loadPart' hl)
      | (refine wpAny_ite_false (by simp) ?_; wp_walk using wpAny_loadPart' hl))
    exact ⟨_, rfl, h⟩
def rRepTA (K : PySem.W.Frag) : R2 := fun x y H Q => ∃ l k xs, x = .ref l ∧ y = .int k ∧ SqT K H l xs ∧ xs ≠ [] ∧ 0 ≤ k ∧ k ≤ 1000 ∧ xs.length ≤ 1000 ∧ (k = 1 → Q (.ref l) H) ∧ (k ≠ 1 → ∀ p, H p = none → Q (.ref p) (upd H p (.tup (List.replicate k.toNat xs).flatten)))
section
variable {X : Cx}
theorem op_repTA : OpR X (binaryOp .Mult) (rRepTA X.K) := by
  intro pins s σ H x y v u Q I rx ry h
  obtain ⟨l, k, xs, rfl, rfl, hT, hne, h1, h2, hz, q1, q2⟩ := h
  by_cases k2 : 2 ≤ k
  · exact op_repT pins s σ H _ _ v u Q I rx ry ⟨l, k, xs, rfl, rfl, hT, hne, k2, h2, hz, q2 (by omega)⟩
  cases rx
  obtain ⟨t, rfl⟩ := ry
  obtain ⟨its, r, ⟨⟨cls, dd, data, sl⟩, ho, hc, n, hd⟩, hs⟩ := I.tuple hT
  simp only at hc hd
  subst hc hd
  have hle : its.length = xs.length := r.length.symm
  have hn : its ≠ [] := fun e => hne (by
    rw [e] at hle
    exact List.eq_nil_of_length_eq_zero hle.symm)
  have hi : its.toArray.isEmpty = false := by
    cases its with
    | nil => exact absurd rfl hn
    | cons a b => rfl
  have kk : k = 0 ∨ k = 1 := by omega
  rcases kk with rfl | rfl
  · refine wpAny_binaryOp_repeat_ref (T := "tuple") (U := "int") (by decide) ⟨_, ho, rfl⟩ (fun s' => typeIs_int s' 0 t) noFill_tuple_mul F.fills_int_mul F.slot_int_rmul repeat_tuple F.slot_int_index.lookup
      (call_meets F.slot_int_rmul (typeIs_int s 0 t) F.entry_int_rmul (F.args_int_rmul_2 _ _) (int_rmul_tuple 0 t l its.toArray n dd sl)
        ⟨ho, rfl, ⟨_, ho, rfl⟩, call_meets F.slot_tuple_mul ⟨_, ho, rfl⟩ F.entry_tuple_mul (F.args_tuple_mul_2 _ _) (tuple_mul0 l its.toArray n dd sl t hi) ⟨ho, ?_⟩⟩)
    refine ⟨.ref s.heap.objs.size, _, I.laid (t' := s.toks) (o := .tup []) (fun b ob q => Heap.get?_push_of_some _ q) (Nat.le_refl _) ?_, rfl, q2 (by decide) _ (I.hok.fresh (Nat.le_refl _))⟩
    exact ⟨by rw [sizeLine_eq]; exact Nat.zero_le _, _, .nil, IsTup.new _ _⟩
  · refine wpAny_binaryOp_repeat_ref (T := "tuple") (U := "int") (by decide) ⟨_, ho, rfl⟩ (fun s' => typeIs_int s' 1 t) noFill_tuple_mul F.fills_int_mul F.slot_int_rmul repeat_tuple F.slot_int_index.lookup
      (call_meets F.slot_int_rmul (typeIs_int s 1 t) F.entry_int_rmul (F.args_int_rmul_2 _ _) (int_rmul_tuple 1 t l its.toArray n dd sl)
        ⟨ho, rfl, ⟨_, ho, rfl⟩, call_meets F.slot_tuple_mul ⟨_, ho, rfl⟩ F.entry_tuple_mul (F.args_tuple_mul_2 _ _) (tuple_mul1 l its.toArray n dd sl t) ⟨ho, ?_⟩⟩)
    exact ⟨.ref l, H, I.tok _, rfl, q1 rfl⟩
end
end L2
/-! An attribute as one target of several: self.f, x = a pair. -/
namespace L2
open PySem PySem.Spec PyProof.Rows
section
variable {X : Cx} {pos : Pos}
def gFld (K : PySem.W.Frag) (ta : TE) (f : Str) : TG := fun v σ H Q => ta σ H fun x H1 => ∃ a C dx fs, x = .ref a ∧ H1 a = some (.ins C dx fs) ∧ Cls K C ∧ NoAttr K C f ∧ fs.length < 1000 ∧ Q σ (upd H1 a (.ins C dx (putF f v fs)))
theorem pg_fld {o : Expr} {f : Str} {ta : TE} (ha : PE X o ta) : PG X (.Attribute o f pos) (gFld X.K ta f) := by
  refine ⟨fun pins s σ H v u Q I r h => ?_⟩
  have run : wpAny (model X.prog X.w) X.A (eval o X.env) (fun ov s₂ => wpAny (model X.prog X.w) X.A (setAttr ov f u) (fun _ s' => ∃ σ' H', Inv X pins σ' H' s' ∧ Q σ' H') X.xe s₂) X.xe s := thn (ha.run pins s σ H _ I h) fun ov s2 ⟨x, H2, I2, rx, a, C, dx, fs, ex, ea, c, n, l, q2⟩ => by
    subst ex
    obtain rfl : ov = Value.ref a := rx
    exact setattr_ok I2 ea c n l r fun s3 I3 => ⟨σ, _, I3, q2⟩
  intro Γ p hΓ
  simp only [assign_Attribute, Sem.wp_bind', Sem.wp_holding, Sem.wp_cmd_standAt, Sem.wp_release, Sem.wp_pure']
  exact Sem.wp_mono _ Γ _ (fun ov p2 s₂ h₂ => Sem.wp_mono _ Γ _ (fun _ _ _ h' => h') (fun _ _ _ h' => h') _ _ (h₂ Γ _ hΓ)) (fun _ _ _ h' => h') _ _ (run Γ _ hΓ)
end
end L2

/-! len of a set of ints whose members are told by a list. -/
namespace Lns
open PySem PySem.Spec PyProof.Rows L2
theorem nodup_le : ∀ {l m : List Int}, l.Nodup → (∀ k ∈ l, k ∈ m) → l.length ≤ m.length
  | [], m, _, _ => Nat.zero_le _
  | x :: l, m, nd, h => by
    rw [List.nodup_cons] at nd
    have mx := h x List.mem_cons_self
    have ih := nodup_le (m := m.erase x) nd.2 fun k hk => (List.mem_erase_of_ne (by intro e; rw [e] at hk; exact nd.1 hk)).mpr (h k (List.mem_cons_of_mem _ hk))
    rw [List.length_erase_of_mem mx] at ih
    have := List.length_pos_of_mem mx
    rw [List.length_cons]
    omega
def rLenN (w : World) : List V → Hp → VK → Prop := fun xs H Q => ∃ a S n, ∃ L : List Int, xs = [V.ref a] ∧ H a = some (SetO w a S n) ∧ n ≤ 4000 ∧ L.Nodup ∧ (∀ k, S k = true ↔ k ∈ L) ∧ Q (.int (L.length : Nat)) H
theorem call_lenN {X : Cx} : CallR X (.builtin "len") (rLenN X.w) := by
  intro pins s σ H xs us Q I r h
  obtain ⟨a, S, n, L, rfl, ha, hn, nd, hS, k⟩ := h
  obtain ⟨u, rfl, ru⟩ := r.one
  cases (show u = Value.ref a from ru)
  obtain ⟨o, es, ep, t, ho, hx, hd, g, knd, mem, bd, fit, num, _⟩ := setO_get I ha
  have el : es.size = L.length := by
    have e1 : (es.toList.map keyOf).length = es.size := by rw [List.length_map, Array.length_toList]
    have a1 := nodup_le (m := L) knd fun k hk => (hS k).mp ((mem k).mpr hk)
    have a2 := nodup_le (m := es.toList.map keyOf) nd fun k hk => (mem k).mp ((hS k).mpr hk)
    omega
  refine call_len_set ho hx hd fit (by omega) ?_
  rw [el]
  exact ⟨.int L.length, H, (I.tok _).tok _, ⟨_, rfl⟩, k⟩
end Lns

/-! repr of data, and defs that are called where no repr is under way. -/
namespace Rp
open PySem PySem.Spec PyProof.Rows L2
section
variable {X : Cx}
def rRepr (K : PySem.W.Frag) : List V → Hp → VK → Prop := fun xs H Q => ∃ x d, xs = [x] ∧ Dp K H x d ∧ d.showable = true ∧ d.hasDict = false ∧ d.depth ≤ 60 ∧ d.shown.length ≤ sizeLine ∧ Q (.str d.shown) H
theorem call_reprD (hg : X.A.guards = some []) (hu : X.A.units + 64 < cLine) : CallR X (.builtin "repr") (rRepr X.K) := by
  intro pins s σ H xs us Q I r h
  obtain ⟨x, d, rfl, hd, hs, hn, hz, hl, q⟩ := h
  cases r with
  | cons rx rn =>
    cases rn
    obtain ⟨as, rd⟩ := Dp.reads I d x _ hd rx
    cases rd with
    | none => exact PySem.P.repr_of_none ⟨.str _, H, I.tok _, ⟨_, rfl⟩, q⟩
    | bool b => exact PySem.P.repr_of_bool ⟨.str _, H, I.tok _, ⟨_, rfl⟩, q⟩
    | int i t => exact PySem.P.repr_of_int (of_decide_eq_true hs) ⟨.str _, H, I.tok _, ⟨_, rfl⟩, q⟩
    | str z t => exact PySem.P.repr_of_str (hsz := hl) ⟨.str _, H, I.tok _, ⟨_, rfl⟩, q⟩
    | list h1 h2 h3 h4 =>
      exact PySem.repr_of_reads' (.list h1 h2 h3 h4) hs (fun e => by rw [hn] at e; cases e) hg (by omega) (fun _ _ e => e) (fun g u tk k => ⟨.str _, H, I.kept (t' := tk) k, ⟨_, rfl⟩, q⟩) hl
    | tuple h1 h2 h3 h4 =>
      exact PySem.repr_of_reads' (.tuple h1 h2 h3 h4) hs (fun e => by rw [hn] at e; cases e) hg (by omega) (fun _ _ e => e) (fun g u tk k => ⟨.str _, H, I.kept (t' := tk) k, ⟨_, rfl⟩, q⟩) hl
    | dict => cases hd
end
/-- as FnOk, where no repr is under way -/
structure GOk (P : Program) (w : World) (K : PySem.W.Frag) (mg : Str → Option Value) (base : Heap) (CX : CXT) (k : Nat) (f : Addr) (fd : FuncData) (ps : List Str) (sp : Sp) : Prop where
  len : ∀ vs H Q E, sp vs H Q E → vs.length = ps.length
  run : ∀ (A : Around) (outer : List Env) (s : Shared) (H : Hp) (args : Args) (us : List Value) (vs : List V) (Q : VK) (E : XK), Room k A → A.guards = some [] → Env0 P w K mg base A outer s H → BindsTo s fd args (ps.zip us) → Vals vs us → sp vs H Q E →
    codeAny (model P w) A (.call (.ref f) args) (CR CX outer P w H s Q E) s
section
variable {CX : CXT} {P : Program} {w : World} {K : PySem.W.Frag} {mg : Str → Option Value} {base : Heap} {k : Nat} {f : Addr} {fd : FuncData} {ps : List Str} {sp : Sp}
theorem GOk.of (F : FnOk P w K mg base CX k f fd ps sp) : GOk P w K mg base CX k f fd ps sp := ⟨F.len, fun A outer s H args us vs Q E hr _ => F.run A outer s H args us vs Q E hr⟩
theorem GOk.mono {j : Nat} (F : GOk P w K mg base CX j f fd ps sp) (h : j ≤ k) : GOk P w K mg base CX k f fd ps sp := ⟨F.len, fun A outer s H args us vs Q E hr => F.run A outer s H args us vs Q E (hr.mono h)⟩
theorem gfn_of {name qual : Str} {params : Arguments} {body : List Stmt} {scope : Scope} {dV kV doc pm cdv ct oc : Value} {an od : Option Addr} {osl : Array (Option Value)} {N : List Str}
    (lk : K.lookup f = some ⟨oc, od, .func (PySem.W.fnOf name qual params body scope dV kV doc pm an cdv ct), osl⟩) (hcd : PySem.W.codeIn K cdv qual = true) (S : FnScope N ps scope)
    (len : ∀ vs H Q E, sp vs H Q E → vs.length = ps.length)
    (hbody : ∀ (A : Around) (outer : List Env) (s : Shared) (H : Hp) (vs : List V) (Q : VK) (E : XK), A.guards = some [] → Room k (A.deeper (envOfC qual scope s.heap.objs.size f cdv)) → sp vs H Q E →
      ∃ t, PSs (cxOf CX P w K mg base N qual scope f cdv A outer s H E) body t ∧ t { nx := fun _ H' => Q .non H', rt := Q } (start N vs) H) :
    GOk P w K mg base CX (k + 1) f (PySem.W.fnOf name qual params body scope dV kV doc pm an cdv ct) ps sp := by
  refine ⟨len, fun A outer s H args us vs Q E hr hg e0 hb r hsp => ?_⟩
  have nl := len _ _ _ _ hsp
  have old : ∀ b o, base.get? b = some o → s.heap.get? b = some o := fun b o e => (e0.bs b o e).1
  have KX : K.In s.heap := e0.mod.kin.keeps old
  have lim : s.heap.NoLimit := e0.mod.nolimit.keeps old
  have kinds : ∀ y ∈ ps.zip us, scope.names.lookup y.1 = some .local ∨ (scope.names.lookup y.1 = some .cell ∧ ((cellsFrom (s.heap.objs.size + 1) scope.names []).lookup y.1).isSome = true) := fun ⟨n, v⟩ hy =>
    (S.par n (List.of_mem_zip hy).1).imp id fun q => ⟨q, PySem.W.cellsFrom_some _ _ _ (.inl q)⟩
  refine codeAny_call_function hr.depth (KX _ _ lk) rfl S.co S.gen rfl (PySem.W.codeRec_of KX hcd) (hb _ _ _ _ ?_)
  refine wpAny_newFunctionEnv_cells S.kind kinds fun env ee s1 x => ?_
  subst ee
  refine ⟨lim.keeps x.toInCall.keep, codeAny_func ?_⟩
  obtain ⟨t, ht, hq⟩ := hbody A outer s H vs Q E hg (hr.deeper _) hsp
  have I0 : Inv (cxOf CX P w K mg base N qual scope f cdv A outer s H E) [] (start N vs) H s1 := inv_start S hr.hd e0 nl r x
  refine wpAny_mono (ht.run [] s1 (start N vs) H _ I0 hq) (fun fl s' hs => ?_) fun e s' hs => hs
  cases fl with
  | ret u =>
    obtain ⟨v, σ', H', J, rv, q⟩ := hs
    exact ⟨v, H', J.os, J.bare, J.base, J.hok, rv, q⟩
  | next =>
    obtain ⟨σ', H', J, q⟩ := hs
    exact ⟨V.non, H', J.os, J.bare, J.base, J.hok, rfl, q⟩
  | brk =>
    obtain ⟨_, _, _, q⟩ := hs
    exact q.elim
  | cont =>
    obtain ⟨_, _, _, q⟩ := hs
    exact q.elim
theorem gok {x qual : Str} {st : Stmt} {N : List Str} (F : Fun K x qual st f fd) (S : FnScope N ps (defScope st)) (len : ∀ vs H Q E, sp vs H Q E → vs.length = ps.length)
    (hbody : ∀ (cdv : Value) (A : Around) (outer : List Env) (s : Shared) (H : Hp) (vs : List V) (Q : VK) (E : XK), A.guards = some [] → Room k (A.deeper (envOfC qual (defScope st) s.heap.objs.size f cdv)) → sp vs H Q E →
      ∃ t, PSs (cxOf CX0 P w K mg base N qual (defScope st) f cdv A outer s H E).nox (defBody st) t ∧ t { nx := fun _ H' => Q .non H', rt := Q } (start N vs) H) : GOk P w K mg base CX0 (k + 1) f fd ps sp := by
  obtain ⟨oc, od, kV, doc, pm, an, cdv, ct, osl, rfl, lk, hcd⟩ := F.ex
  refine gfn_of lk hcd S len fun A outer s H vs Q E hg hr hsp => ?_
  obtain ⟨t, h, q⟩ := hbody cdv A outer s H vs Q E hg hr hsp
  exact ⟨t, h.nox, q⟩
end
section
variable {X : Cx} {CX : CXT} {k : Nat} {f : Addr} {fd : FuncData} {ps : List Str} {sp : Sp} {E : XK} {ds : List Value} {dvs : List V} {x : Str} {e : Expr} {es : List Expr} {t : TA} {p pos : Pos}
theorem pe_gcall (F : GOk X.prog X.w X.K X.mg X.base CX k f fd ps sp) (gd : X.A.guards = some []) (hr : Room k X.A) (hg : Gl X x) (hm : X.mg x = some (.ref f)) (hk : PySem.W.keepIn X.K (.ref f) = true) (hb : Binds X.K fd ps ds) (hd : Vals dvs ds) (hx : Passes CX X E)
    (ha : PA X (e :: es) t) (hdb : (x == ("__debug__" : Str)) = false := by decide) (he : starEach (e :: es) X.env = (false, eval e X.env) :: starEach es X.env := by rfl) (hpl : (backTo pos (starEach es X.env)).any (·.1) = false := by rfl) :
    PE X (.Call (.Name x p) (e :: es) [] pos) (tCall sp dvs E t) := by
  refine ⟨fun pins s σ H Q I h => ?_⟩
  refine wpAny_Call_Name_kw (ld_glob I hg hm ?_ hdb)
  refine PySem.W.callWith_K (h₀ := X.base) I.ok.mod.kin hk (thn (ha.run pos pins s σ H _ I h) fun us s1 ⟨vs, H1, I1, r, q⟩ => ⟨I1.kIn, ?_⟩) he hpl
  have r2 : Vals (vs ++ dvs) (us ++ ds) := r.append hd
  have nl : (us ++ ds).length = ps.length := r2.length.symm.trans (F.len _ _ _ _ q)
  refine wpAny_call (codeAny_mono (F.run X.A X.stack s1 H1 ⟨us, []⟩ (us ++ ds) (vs ++ dvs) Q E hr gd I1.env0 (hb s1 us I1.kIn nl) r2 q) fun res s' hq => ?_)
  cases res with
  | error z => exact hx pins σ H1 s1 z s' I1 hq
  | ok fl =>
    cases fl with
    | ret u => exact I1.after hq
    | next => exact hq.elim
    | brk => exact hq.elim
    | cont => exact hq.elim
end
end Rp
/-! The law's own call, of a def that is called where no repr is under way. -/
namespace Rp
open PySem PySem.Spec PyProof.Rows L2
theorem law_gcall {P : Program} {w : World} {K : PySem.W.Frag} {mg mb : Str → Option Value} {CX : CXT} {k : Nat} {fa a : Addr} {fd : FuncData} {x : Str} {sp : Sp} {s1 : Shared} {vs : List Value} {ns : List Int}
    (KX : K.In s1.heap) (hns : s1.heap.Ns mainGlobals mg) (hb : s1.heap.Ns builtinsNs mb) (hbb : ∀ y : Str, y ≠ "__name__" → mb y = bootBuiltins y) (lim : s1.heap.NoLimit) (gens : s1.gens = #[])
    (ha : s1.heap.get? a = some { cls := .type "list", data := .seq vs.toArray }) (hi : IntsAre vs ns) (hl : ns.length ≤ sizeLine) (hr : Room k callerA)
    (F : ∀ base : Heap, K.In base → base.Ns mainGlobals mg → GOk P w K mg base CX k fa fd [x] sp) (hbind : ∀ (s : Shared) (u : Value), BindsTo s fd ⟨[u], []⟩ [(x, u)])
    (hsp : ∀ H : Hp, Only H → SqL K H a (ns.map V.int) → sp [.ref a] H (fun v _ => v = .bl true) fun _ _ _ => False)
    (hCX : ∀ H e t, CX [] H s1 (fun _ _ _ => False) e t → False) :
    codeAny (model P w) callerA (.call (.ref fa) ⟨[.ref a], []⟩) (fun r t => r = .ok (.ret (.bool true)) ∧ OldK s1.heap t.heap ∧ t.os = s1.os ∧ AllBare t.gens) s1 := by
  have rv := vals_ints hi
  have nv := hi.length
  have go : ∀ H : Hp, Only H → SqL K H a (ns.map V.int) → HOk P w H s1.heap → (∀ b, H b ≠ none → b = a) → (H a ≠ none → K.lookup a = none) →
      codeAny (model P w) callerA (.call (.ref fa) ⟨[.ref a], []⟩) (fun r t => r = .ok (.ret (.bool true)) ∧ OldK s1.heap t.heap ∧ t.os = s1.os ∧ AllBare t.gens) s1 := by
    intro H hO hS hok only_a noK
    have hid : ∀ {b : Addr} {o : Obj}, s1.heap.get? b = some o → H b = none → (hidT s1.heap H).get? b = some o := fun e n => hidT_get e n
    have dictFree : ∀ {b : Addr} {o : Obj} {es : Array DictEntry} {ep : Nat}, s1.heap.get? b = some o → o.data = .dict es ep → H b = none := fun {b o es ep} e d => by
      cases q : H b with
      | none => rfl
      | some u =>
        have eb : b = a := only_a b (by rw [q]; simp)
        subst eb
        rw [ha] at e
        cases e
        have d2 : Data.seq vs.toArray _ = Data.dict es ep := d
        cases d2
    have nsOf : ∀ {b : Addr} {m : Str → Option Value}, s1.heap.Ns b m → (hidT s1.heap H).Ns b m := fun {b m} ⟨o, es, ep, e, d, r⟩ => ⟨o, es, ep, hid e (dictFree e d), d, r⟩
    have inB : K.In (hidT s1.heap H) := fun b o e => hid (KX b o e) (by
      cases q : H b with
      | none => rfl
      | some u =>
        have eb : b = a := only_a b (by rw [q]; simp)
        subst eb
        rw [noK (by rw [q]; simp)] at e
        cases e)
    have md : Mod K mg (hidT s1.heap H) := ⟨inB, nsOf hns, ⟨mb, nsOf hb, hbb⟩, let ⟨mc, c1, c2⟩ := lim; ⟨mc, nsOf c1, c2⟩⟩
    have e0 : Env0 P w K mg (hidT s1.heap H) callerA [] s1 H := ⟨rfl, md, fun b o e => of_hidT e, Nat.le_of_eq (hidT_size _ _), trivial, fun b hb => absurd (show b ∈ ([] : List Addr) from hb) (by simp), hok, .of_eq gens⟩
    refine codeAny_mono ((F _ inB (nsOf hns)).run callerA [] s1 H ⟨[.ref a], []⟩ [.ref a] [.ref a] _ _ hr rfl e0 (hbind s1 (.ref a)) (.cons rfl .nil) (hsp H hO hS)) fun r t h => ?_
    cases r with
    | error e => exact (hCX H e t h).elim
    | ok fl =>
      cases fl with
      | next => exact h.elim
      | brk => exact h.elim
      | cont => exact h.elim
      | ret u =>
        obtain ⟨v, H', os, bare, un, hok', r', q⟩ := h
        have q' : v = .bl true := q
        subst q'
        obtain rfl : u = Value.bool true := r'
        refine ⟨rfl, OldK.of_keep fun b o e => ?_, os, bare⟩
        cases q : H b with
        | none => exact un.keep b o e q (by intro z; exact absurd (show b ∈ ([] : List Addr) from z) (by simp)) (by simp)
        | some u =>
          rcases hO b with z | ⟨ob, xs, z⟩
          · rw [q] at z
            cases z
          · have z2 := un.frzs b ob _ z
            obtain ⟨e1, _⟩ := hok b _ z
            obtain ⟨e2, _⟩ := hok' b _ z2
            rw [e] at e1
            cases e1
            exact e2
  cases hk : K.lookup a with
  | some o =>
    have e := KX a o hk
    rw [ha] at e
    cases e
    refine go (fun _ => none) (fun _ => .inl rfl) (.inr ⟨_, vs.toArray, _, hk, rfl, rfl, rfl, by rw [List.size_toArray, nv]; exact hl, by simpa using rv⟩) (fun b u z => by have z' : (none : Option HO) = some u := z; cases z') (fun b z => absurd rfl z) fun z => absurd rfl z
  | none =>
    refine go (fun b => if b = a then some (.frz { cls := .type "list", data := .seq vs.toArray } (.lst (ns.map V.int))) else none) (fun b => ?_) (.inl (.inr ⟨{ cls := .type "list", data := .seq vs.toArray }, if_pos rfl⟩)) (fun b u z => ?_) (fun b z => ?_) fun _ => hk
    · by_cases c : b = a
      · exact .inr ⟨_, _, if_pos c⟩
      · exact .inl (if_neg c)
    · by_cases c : b = a
      · have z' := (if_pos c).symm.trans z
        cases z'
        subst c
        exact ⟨ha, by rw [List.length_map]; exact hl, vs, _, rv, ha⟩
      · have z' := (if_neg c).symm.trans z
        cases z'
    · by_cases c : b = a
      · exact c
      · exact absurd (if_neg c) z
theorem walk_gof {l : PySem.W.OpenLaw} {n k : Nat} {q : Program} {loose : List Str} {XP : (Str → Option Value) → Heap → Prop} {YP : World → Heap → Prop} {d : DefRec} {K : Params → PySem.W.Frag} {CX : World → CXT} {sp : World → Sp} {x : Str}
    (hn : l.most = some n) (hn2 : n ≤ sizeLine) (hdf : d.params.defaults = []) (hr : Room k callerA)
    (hY : ∀ (w : World) (h : Heap), YP w h → (K w.params).In h)
    (F : ∀ (w : World) (mg : Str → Option Value) (fa : Addr) (h : Heap), (K w.params).In h → h.Ns mainGlobals mg → mg d.name = some (.ref fa) →
      ∃ fd : FuncData, (∀ (s : Shared) (u : Value), BindsTo s fd ⟨[u], []⟩ [(x, u)]) ∧
        ∀ base : Heap, (K w.params).In base → base.Ns mainGlobals mg → GOk l.prog w (K w.params) mg base (CX w) k fa fd [x] (sp w))
    (hsp : ∀ (w : World) (H : Hp) (a : Addr) (ns : List Int), ns.length ≤ n → Only H → SqL (K w.params) H a (ns.map V.int) → sp w [.ref a] H (fun v _ => v = .bl true) fun _ _ _ => False)
    (hCX : ∀ (w : World) (H : Hp) (s : Shared) (e : Value) (t : Shared), CX w [] H s (fun _ _ _ => False) e t → False) :
    PySem.W.WalkO q loose XP YP l.row.toRowW d [] (fun f vs => PySem.call f vs) := by
  refine Att.attach_call hn hdf fun w s0 s1 mg mb fa o pm cd doc a vs ns G Y ho hd hcd hmg hobj hints hlen hg => ?_
  have KX := hY w _ Y
  obtain ⟨fd, hb, hF⟩ := F w mg fa _ KX G.T.g hmg
  exact law_gcall KX G.T.g G.T.b G.T.builtins G.T.nolimit hg hobj hints (Nat.le_trans hlen hn2) hr hF hb (fun H hO hS => hsp w H a ns hlen hO hS) fun H e t => hCX w H s1 e t
end Rp

/-! tuple(list) with its own object told; methods of such a tuple (t.index). -/
namespace Tf
open PySem PySem.Spec PyProof.Rows L2
/-- a tuple whose own object is known: it has no dict -/
def TF (H : Hp) (p : Addr) (xs : List V) : Prop := ∃ ob, H p = some (.frz ob (.tup xs)) ∧ ob.dict = none
theorem TF.sq {K : PySem.W.Frag} {H : Hp} {p : Addr} {xs : List V} (h : TF H p xs) : SqT K H p xs := let ⟨ob, e, _⟩ := h; .inl (.inr ⟨ob, e⟩)
theorem TF.k {H H' : Hp} {p : Addr} {xs : List V} (h : TF H p xs) (s : Same H H') : TF H' p xs := let ⟨ob, e, d⟩ := h; ⟨ob, s _ _ e, d⟩
section
variable {X : Cx}
def rTupF (K : PySem.W.Frag) : List V → Hp → VK → Prop := fun vs H Q => ∃ p ys, vs = [.ref p] ∧ SqL K H p ys ∧ ∀ l ob, H l = none → ob.dict = none → Q (.ref l) (upd H l (.frz ob (.tup ys)))
theorem call_tupF : CallR X (.type "tuple") (rTupF X.K) := by
  intro pins s σ H xs us Q I r h
  obtain ⟨p, ys, rfl, hq, q⟩ := h
  obtain ⟨u, rfl, rx⟩ := r.one
  cases rx
  obtain ⟨its, r', pl, hz⟩ := I.list hq
  have hlen := r'.length
  refine call_tuple_list pl.isList (fun h' kp => ?_) (by simp only [List.size_toArray] <;> omega)
  have I1 : Inv X pins σ H { s with heap := h' } := I.kept (t' := s.toks) kp
  have I2 : Inv X pins σ (upd H h'.objs.size (.frz { cls := .type "tuple", data := .seq its.toArray } (.tup ys))) { s with heap := h'.push { cls := .type "tuple", data := .seq its.toArray } } :=
    I1.laid (t' := s.toks) (fun b o e => Heap.get?_push_of_some _ e) (Nat.le_refl _) (show ObjOk X.prog X.w _ _ _ (.frz _ (.tup ys)) from ⟨Heap.get?_push_size _ rfl, hz, its, r', IsTup.new _ _⟩)
  exact ⟨.ref h'.objs.size, _, I2, rfl, q _ _ (I1.hok.fresh (Nat.le_refl _)) rfl⟩
variable {T id : String} {name : Str} {o e : Expr} {es : List Expr} {apos cpos : Pos} {r : V → List V → Hp → VK → Prop} {to : TE} {t : TA}
def tBMF (r : V → List V → Hp → VK → Prop) (to : TE) (t : TA) : TE := fun σ H Q => to σ H fun x H1 => (∃ p xs, x = .ref p ∧ TF H1 p xs) ∧ t σ H1 fun vs H2 => r x vs H2 Q
theorem pe_bmF (pa : PlainAttrs "tuple") (slot : Slot "tuple" name id) (hty : typeOf (.builtin id) = pure (.type "method_descriptor")) (hm : MtR X id r) (ho : PE X o to) (ha : PA X (e :: es) t)
    (hbase : attributeBase o name X.env (eval o X.env) = eval o X.env := by rfl)
    (hfew : ((backTo cpos (starEach (e :: es) X.env)).all (fun x => !x.1) && (backToKw cpos (keywordEach [] X.env)).all (fun x => x.1.isSome)
      && decide ((e :: es).length + ([] : List Keyword).length + (if ([] : List Keyword).isEmpty then 0 else 1) < 30)) = true := by rfl)
    (hline : (apos.endLine == cpos.line) = true := by rfl) (hs : starEach (e :: es) X.env = (false, eval e X.env) :: starEach es X.env := by rfl) (hplain : (backTo cpos (starEach es X.env)).any (·.1) = false := by rfl) :
    PE X (.Call (.Attribute o name apos) (e :: es) [] cpos) (tBMF r to t) := by
  refine ⟨fun pins s σ H Q I h => ?_⟩
  refine wpAny_Call_method_late hbase hfew hline rfl (thn (ho.run pins s σ H _ I h) fun v s1 ⟨x, H1, I1, r1, ty, q1⟩ => ?_)
  obtain ⟨p, xs, rfl, ob, hp, hd⟩ := ty
  cases r1
  obtain ⟨hg, hok⟩ := I1.hok p _ hp
  obtain ⟨_, its, _, o2, ho2, hc2, _⟩ := hok
  rw [hg] at ho2
  cases ho2
  refine ⟨"tuple", id, pa, slot, hty, ⟨ob, hg, hc2⟩, fun a e => by cases e; exact ⟨ob, hg, hd⟩, ?_⟩
  have hA := ha.run cpos pins s1 σ H1 _ I1 q1
  rw [hs] at hA ⊢
  refine Calls.callWith_builtin (by show (false || (backTo cpos (starEach es X.env)).any (·.1)) = false; rw [hplain] <;> rfl) (Calls.evalArgs_plain ?_)
  exact thn hA fun us s2 ⟨vs, H2, I2, r2, q2⟩ => hm pins s2 σ H2 (V.ref p) vs _ us Q I2 rfl r2 q2
end
end Tf

/-! Dicts whose keys are tuples of any depth (of ints and texts): in, not in, d[k], d[k] = v, {k: v}. -/
namespace Nd
open PySem PySem.Spec PyProof.Rows L2 Dv
mutual
def toKey : PyData → NestedKey
  | .int i => .num i
  | .str x => .text x
  | .tuple ds => .tup (toKeys ds)
  | .none => .none
  | .bool _ => .none
  | .list _ => .none
  | .dict _ => .none
def toKeys : List PyData → List NestedKey
  | [] => []
  | d :: ds => toKey d :: toKeys ds
end
mutual
theorem depth_le : ∀ d : PyData, (toKey d).depth ≤ d.depth
  | .int _ => by simp [toKey, NestedKey.depth]
  | .str _ => by simp [toKey, NestedKey.depth]
  | .none => by simp [toKey, NestedKey.depth]
  | .bool _ => by simp [toKey, NestedKey.depth]
  | .list _ => by simp [toKey, NestedKey.depth]
  | .dict _ => by simp [toKey, NestedKey.depth]
  | .tuple ds => by
    have := depths_le ds
    simp only [toKey, NestedKey.depth, PyData.depth]
    omega
theorem depths_le : ∀ ds : List PyData, NestedKey.depthAll (toKeys ds) ≤ PyData.depthAll ds
  | [] => by simp [toKeys, NestedKey.depthAll]
  | d :: ds => by
    have a := depth_le d
    have b := depths_le ds
    simp only [toKeys, NestedKey.depthAll, PyData.depthAll]
    omega
end
section
variable {K : PySem.W.Frag} {H H2 : Hp}
mutual
theorem key_inj : ∀ (d e : PyData) (v u : V), Dt K H v d → Dt K H2 u e → toKey d = toKey e → d = e
  | .int i, e, _, _, _, he, q => by
    cases he with
    | int j => simp only [toKey, NestedKey.num.injEq] at q; rw [q]
    | str y => simp [toKey] at q
    | tup a b => simp [toKey] at q
  | .str x, e, _, _, _, he, q => by
    cases he with
    | int j => simp [toKey] at q
    | str y => simp only [toKey, NestedKey.text.injEq] at q; rw [q]
    | tup a b => simp [toKey] at q
  | .tuple ds, e, _, _, hd, he, q => by
    cases he with
    | int j => simp [toKey] at q
    | str y => simp [toKey] at q
    | tup a b =>
      cases hd with
      | tup a2 b2 =>
        simp only [toKey, NestedKey.tup.injEq] at q
        rw [keys_inj ds _ _ _ b2 b q]
  | .none, _, _, _, hd, _, _ => by cases hd
  | .bool _, _, _, _, hd, _, _ => by cases hd
  | .list _, _, _, _, hd, _, _ => by cases hd
  | .dict _, _, _, _, hd, _, _ => by cases hd
theorem keys_inj : ∀ (ds es : List PyData) (vs us : List V), Dts K H vs ds → Dts K H2 us es → toKeys ds = toKeys es → ds = es
  | [], es, _, _, _, _, q => by
    cases es with
    | nil => rfl
    | cons e es => simp [toKeys] at q
  | d :: ds, es, _, _, hd, he, q => by
    cases es with
    | nil => simp [toKeys] at q
    | cons e es =>
      cases hd with
      | cons a b =>
        cases he with
        | cons a2 b2 =>
          simp only [toKeys, List.cons.injEq] at q
          rw [key_inj d e _ _ a a2 q.1, keys_inj ds es _ _ b b2 q.2]
end
/-- the value v is the key k, read where nothing is written -/
def Nk (K : PySem.W.Frag) (H : Hp) (v : V) (k : NestedKey) : Prop := ∃ ds, Dt K H v (.tuple ds) ∧ toKey (.tuple ds) = k ∧ (PyData.tuple ds).depth ≤ 8
theorem Nk.kt {v : V} {k : NestedKey} (h : Nk K H v k) (s : Kt K H H2) : Nk K H2 v k := by
  obtain ⟨ds, a, b, c⟩ := h
  exact ⟨ds, a.k s, b, c⟩
theorem Nk.ref {v : V} {k : NestedKey} (h : Nk K H v k) : ∃ a, v = .ref a := by
  obtain ⟨ds, a, _⟩ := h
  obtain ⟨p, xs, e, _⟩ := a.inv
  exact ⟨p, e⟩
end
section
variable {X : Cx} {pins : List (Addr × Obj)} {σ : L2.St} {H : Hp} {s : Shared}
mutual
theorem is_key (I : Inv X pins σ H s) : ∀ (d : PyData) (v : V) (u : Value), Dt X.K H v d → RelV v u → NestedIs s.heap (toKey d) u
  | .int i, _, _, h, r => by
    cases h
    obtain ⟨t, e⟩ := r
    rw [e]
    exact .int i t
  | .str x, _, _, h, r => by
    cases h
    obtain ⟨t, e⟩ := r
    rw [e]
    exact .text x t
  | .tuple ds, _, _, h, r => by
    cases h with
    | tup a b =>
      cases r
      obtain ⟨its, rv, ⟨o, ho, hc, n, hd⟩, _⟩ := I.tuple a
      exact .tup ho hc hd (by simpa using are_keys I ds _ its b rv)
  | .none, _, _, h, _ => by cases h
  | .bool _, _, _, h, _ => by cases h
  | .list _, _, _, h, _ => by cases h
  | .dict _, _, _, h, _ => by cases h
theorem are_keys (I : Inv X pins σ H s) : ∀ (ds : List PyData) (vs : List V) (us : List Value), Dts X.K H vs ds → Vals vs us → NestedAll s.heap (toKeys ds) us
  | [], _, _, h, r => by
    cases h
    cases r
    exact .nil
  | d :: ds, _, _, h, r => by
    cases h with
    | cons a b =>
      cases r with
      | cons ra rb => exact .cons (is_key I d _ _ a ra) (are_keys I ds _ _ b rb)
end
theorem Nk.is {a : Addr} {k : NestedKey} (I : Inv X pins σ H s) (h : Nk X.K H (.ref a) k) : (nestedKind X.prog X.w).is s.heap k a := by
  obtain ⟨ds, x, e, l⟩ := h
  have q := is_key I _ _ (.ref a) x rfl
  rw [e] at q
  exact ⟨q, by rw [← e]; exact Nat.le_trans (depth_le _) l⟩
end
abbrev Ent := NestedKey × Addr × V
def Eq2 (p : Ent) (q : NestedKey × Addr × Value) : Prop := p.1 = q.1 ∧ p.2.1 = q.2.1 ∧ RelV p.2.2 q.2.2
/-- the dict's own object -/
def NDo (P : Program) (w : World) (a : Addr) (kas : List Ent) : HO := .ext fun h => kas.length ≤ sizeLine ∧ (a == sysModules) = false ∧ ∃ o es ep xs, h.get? a = some o ∧ o.ExactDict ∧ o.data = .dict es ep ∧ es.toList = xs.map (entryOfKey (nestedKind P w)) ∧ Paired Eq2 kas xs
structure At (K : PySem.W.Frag) (P : Program) (w : World) (H : Hp) (a : Addr) (kas : List Ent) : Prop where
  h : H a = some (NDo P w a kas)
  keys : ∀ e ∈ kas, Nk K H (.ref e.2.1) e.1
  nd : (kas.map (·.1)).Nodup
def look (kas : List Ent) (k : NestedKey) : Option V := (kas.find? fun e => decide (e.1 = k)).map (·.2.2)
def put (kas : List Ent) (k : NestedKey) (a : Addr) (v : V) : List Ent := if (look kas k).isSome then kas.map fun e => if e.1 = k then (e.1, e.2.1, v) else e else kas ++ [(k, a, v)]
theorem look_rel {kas : List Ent} {xs : List (NestedKey × Addr × Value)} (r : Paired Eq2 kas xs) (k : NestedKey) : RelO (look kas k) ((atKey xs k).map (·.2)) := by
  induction r with
  | nil => trivial
  | @cons p q ps qs h t ih =>
    unfold look atKey at ih ⊢
    rw [List.find?_cons, List.find?_cons, h.1]
    by_cases e : q.1 = k
    · rw [decide_eq_true e]
      exact h.2.2
    · rw [decide_eq_false e]
      exact ih
theorem put_rel {kas : List Ent} {xs : List (NestedKey × Addr × Value)} (r : Paired Eq2 kas xs) (k : NestedKey) (a : Addr) {v : V} {u : Value} (rv : RelV v u) : Paired Eq2 (put kas k a v) (storedH xs k a u) := by
  have e : (look kas k).isSome = (atKey xs k).isSome := by
    have := (look_rel r k).isSome_eq
    rw [Option.isSome_map] at this
    exact this
  unfold put storedH
  rw [e]
  have mp : ∀ {kas : List Ent} {xs : List (NestedKey × Addr × Value)}, Paired Eq2 kas xs → Paired Eq2 (kas.map fun e => if e.1 = k then (e.1, e.2.1, v) else e) (xs.map (putAt k u)) := fun r => by
    induction r with
    | nil => exact .nil
    | @cons p q ps qs h t ih =>
      refine .cons ?_ ih
      show Eq2 (if p.1 = k then (p.1, p.2.1, v) else p) (putAt k u q)
      unfold putAt
      rw [h.1]
      split
      · exact ⟨rfl, h.2.1, rv⟩
      · exact h
  split
  · exact mp r
  · exact Paired.snoc r ⟨rfl, rfl, rv⟩
theorem put_len (kas : List Ent) (k : NestedKey) (a : Addr) (v : V) : (put kas k a v).length ≤ kas.length + 1 := by
  unfold put
  split
  · rw [List.length_map]; omega
  · rw [List.length_append, List.length_singleton]; omega
section
variable {X : Cx} {pins : List (Addr × Obj)} {σ : L2.St} {H : Hp} {s : Shared} {a b : Addr} {kas : List Ent} {k : NestedKey}
theorem all_is (I : Inv X pins σ H s) {kas : List Ent} {xs : List (NestedKey × Addr × Value)} (r : Paired Eq2 kas xs) : (∀ e ∈ kas, Nk X.K H (.ref e.2.1) e.1) → ∀ x ∈ xs, (nestedKind X.prog X.w).is s.heap x.1 x.2.1 := by
  induction r with
  | nil => intro _ x hx; cases hx
  | @cons p q ps qs h t ih =>
    intro ky x hx
    rcases List.mem_cons.mp hx with e | hx
    · rw [e]
      have y := (ky p List.mem_cons_self).is I
      rw [h.1, h.2.1] at y
      exact y
    · exact ih (fun e he => ky e (List.mem_cons_of_mem _ he)) x hx
theorem keys_eq {kas : List Ent} {xs : List (NestedKey × Addr × Value)} (r : Paired Eq2 kas xs) : xs.map (·.1) = kas.map (·.1) := by
  induction r with
  | nil => rfl
  | cons h t ih => rw [List.map_cons, List.map_cons, h.1, ih]
theorem At.ofH (I : Inv X pins σ H s) (A : At X.K X.prog X.w H a kas) : kas.length ≤ sizeLine ∧ (a == sysModules) = false ∧ ∃ xs, Paired Eq2 kas xs ∧ s.heap.DictOfH (nestedKind X.prog X.w) a xs := by
  obtain ⟨⟨z, hd, o, es, ep, xs, h1, h2, h3, h4, r⟩, _⟩ := I.hok a _ A.h
  exact ⟨z, hd, xs, r, o, es, ep, h1, h2, h3, h4, all_is I r A.keys, by rw [keys_eq r]; exact A.nd⟩
theorem At.lt (A : At X.K X.prog X.w H a kas) (I : Inv X pins σ H s) : s.TypeIs (.ref a) "dict" := by
  obtain ⟨_, _, xs, _, d⟩ := A.ofH I
  exact d.typeIs
theorem room8 {A : Around} (hu : A.units + 64 < cLine) (P : Program) (w : World) : (nestedKind P w).room A.in1 := by
  show A.units + 1 + 8 < cLine
  omega
/-! in, not in -/
def rInN (K : PySem.W.Frag) (P : Program) (w : World) (neg : Bool) : R2 := fun x y H Q => ∃ a kas k, y = .ref a ∧ At K P w H a kas ∧ Nk K H x k ∧ Q (.bl (neg != (look kas k).isSome)) H
theorem op_inN (hu : X.A.units + 64 < cLine) : OpR X (compareOp .In) (rInN X.K X.prog X.w false) := by
  intro pins s σ H x y v u Q I rx ry h
  obtain ⟨a, kas, k, rfl, A, n, q⟩ := h
  obtain ⟨b, rfl⟩ := n.ref
  cases rx
  cases ry
  obtain ⟨z, hd, xs, r, d⟩ := A.ofH I
  refine wpAny_in_heap (room8 hu _ _) (n.is I) hd d ⟨.bl _, H, I.tok _, rfl, ?_⟩
  have e := (look_rel r k).isSome_eq
  rw [Option.isSome_map] at e
  rw [e, Bool.false_bne] at q
  exact q
theorem op_ninN (hu : X.A.units + 64 < cLine) : OpR X (compareOp .NotIn) (rInN X.K X.prog X.w true) := by
  intro pins s σ H x y v u Q I rx ry h
  obtain ⟨a, kas, k, rfl, A, n, q⟩ := h
  obtain ⟨b, rfl⟩ := n.ref
  cases rx
  cases ry
  obtain ⟨z, hd, xs, r, d⟩ := A.ofH I
  refine wpAny_notIn_heap (room8 hu _ _) (n.is I) hd d ⟨.bl _, H, I.tok _, rfl, ?_⟩
  have e := (look_rel r k).isSome_eq
  rw [Option.isSome_map] at e
  rw [e, Bool.true_bne] at q
  exact q
/-! d[k] -/
def tGetN (K : PySem.W.Frag) (P : Program) (w : World) (td ty : TE) : TE := fun σ H Q => td σ H fun x H1 => ty σ H1 fun y H2 => ∃ a kas k v, x = .ref a ∧ At K P w H2 a kas ∧ Nk K H2 y k ∧ look kas k = some v ∧ Q v H2
theorem pe_getN {o i : Expr} {pos : Pos} {td ty : TE} (hu : X.A.units + 64 < cLine) (ho : PE X o td) (hi : PE X i ty) (hs : NoSl i) : PE X (.Subscript o i pos) (tGetN X.K X.prog X.w td ty) := by
  refine ⟨fun pins s σ H Q I h => ?_⟩
  refine subD_of PySem.F.slot_dict_getitem.lookup hs (thn (ho.run pins s σ H _ I h) fun u s1 ⟨x, H1, I1, rx, q1⟩ => thn (hi.run pins s1 σ H1 _ I1 q1) fun iv s2 ⟨y, H2, I2, ry, a, kas, k, v, ex, A, n, l, q2⟩ => ?_)
  subst ex
  obtain rfl : u = Value.ref a := rx
  obtain ⟨b, rfl⟩ := n.ref
  obtain rfl : iv = Value.ref b := ry
  obtain ⟨z, hd, xs, r, d⟩ := A.ofH I2
  obtain ⟨w', hw, rw'⟩ := RelO.some_of (v := v) (o := (atKey xs k).map (·.2)) (by rw [← l]; exact look_rel r k)
  obtain ⟨p, hp, hp2⟩ := Option.map_eq_some_iff.mp hw
  refine ⟨d.typeIs, wpAny_getItem_heap (room8 hu _ _) (n.is I2) d hp ?_⟩
  rw [hp2]
  exact ⟨v, H2, I2.tok _, rw', q2⟩
/-! d[k] = v -/
theorem At.put (A : At X.K X.prog X.w H a kas) {v : V} {P : Program} {w : World} (n : Nk X.K H (.ref b) k) (kt : ∀ o, Kt X.K H (upd H a o)) : ∀ e ∈ put kas k b v, Nk X.K (upd H a (NDo P w a (Nd.put kas k b v))) (.ref e.2.1) e.1 := fun e he => by
  refine Nk.kt ?_ (kt _)
  unfold Nd.put at he
  split at he
  · obtain ⟨e0, h0, h1⟩ := List.mem_map.mp he
    split at h1
    · rw [← h1]; exact A.keys e0 h0
    · rw [← h1]; exact A.keys e0 h0
  · rcases List.mem_append.mp he with he | he
    · exact A.keys e he
    · rw [List.mem_singleton.mp he]; exact n
theorem put_nodup {v : V} (h : (kas.map (·.1)).Nodup) : ((put kas k b v).map (·.1)).Nodup := by
  unfold put
  split
  · rename_i c
    have e : (kas.map fun e => if e.1 = k then (e.1, e.2.1, v) else e).map (·.1) = kas.map (·.1) := by
      rw [List.map_map]
      refine List.map_congr_left fun e _ => ?_
      show (if e.1 = k then (e.1, e.2.1, v) else e).1 = e.1
      split <;> rfl
    rw [e]
    exact h
  · rename_i c
    rw [List.map_append]
    refine List.nodup_append.mpr ⟨h, List.nodup_cons.mpr ⟨List.not_mem_nil, List.nodup_nil⟩, fun x hx y hy => ?_⟩
    rw [List.map_singleton, List.mem_singleton] at hy
    obtain ⟨e, he, e1⟩ := List.mem_map.mp hx
    rintro rfl
    refine c ?_
    unfold look
    rw [Option.isSome_map, List.find?_isSome]
    exact ⟨e, he, decide_eq_true (by rw [e1, hy])⟩
theorem nd_kt {K : PySem.W.Frag} {P : Program} {w : World} (h : H a = some (NDo P w a kas)) (o : HO) : Kt K H (upd H a o) := Kt.set h (fun _ q => by cases q) (fun _ _ q => by cases q)
def tPutN (K : PySem.W.Frag) (P : Program) (w : World) (td ty tv : TE) : TS := fun D σ H => tv σ H fun v H1 => td σ H1 fun x H2 => ty σ H2 fun y H3 => ∃ a b kas k, x = .ref a ∧ y = .ref b ∧ At K P w H3 a kas ∧ Nk K H3 y k ∧ kas.length < sizeLine ∧
  (∀ H4, H4 = upd H3 a (NDo P w a (put kas k b v)) → At K P w H4 a (put kas k b v) → D.nx σ H4)
theorem ps_putN {o i value : Expr} {pos pos' : Pos} {td ty tv : TE} (hu : X.A.units + 64 < cLine) (ho : PE X o td) (hi : PE X i ty) (hv : PE X value tv) (hs : swapsWith value (some (.Subscript o i pos')) pos.line X.env = pure false) :
    PS X (.Assign [.Subscript o i pos'] value pos) (tPutN X.K X.prog X.w td ty tv) := by
  refine ⟨fun pins s σ H D I h => ?_⟩
  refine wpAny_Assign_Subscript (thn (hv.run pins s σ H _ I h) fun r s1 ⟨v, H1, I1, rv, q1⟩ => thn (ho.run pins s1 σ H1 _ I1 q1) fun u s2 ⟨x, H2, I2, rx, q2⟩ => thn (hi.run pins s2 σ H2 _ I2 q2) fun iv s3 ⟨y, H3, I3, ry, a, b, kas, k, ex, ey, A, n, l, q3⟩ => ?_) hs
  subst ex ey
  obtain rfl : u = Value.ref a := rx
  obtain rfl : iv = Value.ref b := ry
  obtain ⟨z, hd, xs, rel, d⟩ := A.ofH I3
  have hz : xs.length ≤ sizeLine := by rw [← Paired.length rel]; exact z
  refine wpAny_setItem_heap (hsz := hz) (room8 hu _ _) (n.is I3) d fun h' dd' hs' => ?_
  obtain ⟨q, es, ep, hq, h2, h3, h4, _, _⟩ := dd'
  have A4 : At X.K X.prog X.w (upd H3 a (NDo X.prog X.w a (put kas k b v))) a (put kas k b v) := ⟨upd_same, A.put n (nd_kt A.h), put_nodup A.nd⟩
  refine ⟨σ, _, d_write I3 (by rw [A.h]; exact True.intro) hs' ⟨q, hq⟩ ?_, q3 _ rfl A4⟩
  have hl : (put kas k b v).length ≤ sizeLine := by have := put_len kas k b v; omega
  exact ⟨⟨hl, hd, q, es, ep, _, hq, h2, h3, h4, put_rel rel k b rv⟩, ⟨q, hq⟩, fun h1 h2 ⟨a1, a2, o, es, ep, xs, a3, a4⟩ kp => ⟨a1, a2, o, es, ep, xs, kp _ a3, a4⟩⟩
/-! {k: v} -/
def tNd1 (K : PySem.W.Frag) (P : Program) (w : World) (tk tv : TE) : TE := fun σ H Q => ∀ p, H p = none → tPairs [(tk, tv)] σ (upd H p (NDo P w p [])) fun ps H2 => ∃ b k v, ps = [(.ref b, v)] ∧ H2 p = some (NDo P w p []) ∧ Nk K H2 (.ref b) k ∧
  ∀ H3, H3 = upd H2 p (NDo P w p [(k, b, v)]) → At K P w H3 p [(k, b, v)] → Q (.ref p) H3
theorem nd_stay {P : Program} {w : World} {a : Addr} {kas : List Ent} {h : Heap} {H' : Hp} (x : kas.length ≤ sizeLine ∧ (a == sysModules) = false ∧ ∃ o es ep xs, h.get? a = some o ∧ o.ExactDict ∧ o.data = .dict es ep ∧ es.toList = xs.map (entryOfKey (nestedKind P w)) ∧ Paired Eq2 kas xs) : ObjOk P w H' h a (NDo P w a kas) := by
  obtain ⟨a1, a2, o, es, ep, xs, a3, a4⟩ := x
  exact ⟨⟨a1, a2, o, es, ep, xs, a3, a4⟩, ⟨o, a3⟩, fun h1 h2 ⟨b1, b2, o, es, ep, xs, b3, b4⟩ kp => ⟨b1, b2, o, es, ep, xs, kp _ b3, b4⟩⟩
theorem nd_empty {P : Program} {w : World} {H' : Hp} (h : Heap) (hb : sysModules < h.objs.size) : ObjOk P w H' (h.push { cls := .type "dict", data := .dict #[] }) h.objs.size (NDo P w h.objs.size []) :=
  nd_stay ⟨Nat.zero_le _, beq_eq_false_iff_ne.mpr (Ne.symm (Nat.ne_of_lt hb)), _, #[], 0, [], Heap.get?_push_size _ rfl, ⟨rfl, rfl, rfl⟩, rfl, rfl, .nil⟩
/-- {}, to be such a dict -/
def tNd0 (P : Program) (w : World) : TE := fun _ H Q => ∀ p, H p = none → Q (.ref p) (upd H p (NDo P w p []))
theorem pe_nd0 {pos : Pos} : PE X (.Dict [] [] pos) (tNd0 X.prog X.w) := ⟨fun pins s σ H Q I h =>
  wpAny_Dict_empty ⟨.ref s.heap.objs.size, _, I.laid (a := s.heap.objs.size) (o := NDo X.prog X.w s.heap.objs.size []) (t' := s.toks) (fun _ _ q => Heap.get?_push_of_some _ q) (Nat.le_refl _) (nd_empty s.heap I.big), rfl, h _ (I.hok.fresh (Nat.le_refl _))⟩⟩
theorem At.new {K : PySem.W.Frag} {P : Program} {w : World} : At K P w (upd H a (NDo P w a [])) a [] := ⟨upd_same, (fun e he => absurd he List.not_mem_nil), List.nodup_nil⟩
theorem pe_nd1 {ke ve : Expr} {pos : Pos} {tk tv : TE} (hu : X.A.units + 64 < cLine) (hk : PE X ke tk) (hv : PE X ve tv) : PE X (.Dict [some ke] [ve] pos) (tNd1 X.K X.prog X.w tk tv) := by
  refine ⟨fun pins s σ H Q I q => ?_⟩
  have hn := I.hok.fresh (Nat.le_refl s.heap.objs.size)
  have I1 := I.laid (a := s.heap.objs.size) (o := NDo X.prog X.w s.heap.objs.size []) (h' := s.heap.push { cls := .type "dict", data := .dict #[] }) (t' := s.toks) (fun _ _ q => Heap.get?_push_of_some _ q) (Nat.le_refl _) (nd_empty s.heap I.big)
  have hz := zip_pairTrees [some ke] [ve] X.env pos rfl rfl
  have hln := pairTrees_length [some ke] [ve] X.env pos rfl rfl
  have run := (pps_cons hk hv pps_nil : PPs X pos [some ke] [ve] [(tk, tv)]).run pins _ σ _ (fun ps H2 => ∃ b k v, ps = [(.ref b, v)] ∧ H2 s.heap.objs.size = some (NDo X.prog X.w s.heap.objs.size []) ∧ Nk X.K H2 (.ref b) k ∧ ∀ H3, H3 = upd H2 s.heap.objs.size (NDo X.prog X.w s.heap.objs.size [(k, b, v)]) → At X.K X.prog X.w H3 s.heap.objs.size [(k, b, v)] → Q (.ref s.heap.objs.size) H3) I1 ?_
  · rw [arm_eval_Dict, hz, dictDisplay_pairs _ (fun e => by rw [e] at hln; cases hln) (by rw [hln]; show 1 < 17; decide)]
    refine wpAny_bind (wpAny_standAt (wpAny_bind (wpAny_subDictH (knd := nestedKind X.prog X.w) (Q := fun d s' => wpAny (model X.prog X.w) X.A (pure (Value.ref d)) (EP X pins σ Q) X.xe s') (by show X.A.units + 8 < cLine; omega) (by rw [hln]; show 1 ≤ 15; decide)
      (wpAny_mono run (fun vs s1 h1 => ?_) fun _ _ e => e))))
    obtain ⟨ps, H2, I2, rel, b, k, v, rfl, hp, n, q2⟩ := h1
    cases rel with
    | @cons p r as bs hd tl =>
      cases tl
      obtain ⟨kv, w2⟩ := r
      obtain ⟨r1, r2⟩ := hd
      obtain rfl : kv = Value.ref b := r1
      have A0 : At X.K X.prog X.w H2 s.heap.objs.size [] := ⟨hp, (fun e he => absurd he List.not_mem_nil), List.nodup_nil⟩
      obtain ⟨_, hd, xs, rl, d⟩ := A0.ofH I2
      cases rl
      refine ⟨[(k, b, w2)], ⟨rfl, rfl, n.is I2, trivial⟩, d, fun h' tk dd' hs' => wpAny_pure ?_⟩
      obtain ⟨qo, es, ep, hq, h2, h3, h4, _, _⟩ := dd'
      refine ⟨.ref s.heap.objs.size, _, d_write I2 (by rw [hp]; exact True.intro) hs' ⟨qo, hq⟩ (nd_stay (kas := [(k, b, v)]) ⟨by show 1 ≤ sizeLine; decide, hd, qo, es, ep, _, hq, h2, h3, h4, ?_⟩), rfl, q2 _ rfl ⟨upd_same, fun e he => ?_, by simp⟩⟩
      · show Paired Eq2 [(k, b, v)] [(k, b, w2)]
        exact .cons ⟨rfl, rfl, r2⟩ .nil
      · rw [List.mem_singleton.mp he]
        exact n.kt (nd_kt hp _)
  · exact q _ hn
end
end Nd

/-! max of a tuple of ints. -/
namespace Mt
open PySem PySem.Spec PyProof.Rows L2 PySem.W
def rMaxT (K : PySem.W.Frag) : List V → Hp → VK → Prop := fun vs H Q => ∃ (a : Addr) (ns : List Int), vs = [V.ref a] ∧ SqT K H a (ns.map V.int) ∧ 0 < ns.length ∧ ∀ m, m ∈ ns → (∀ y, y ∈ ns → y ≤ m) → Q (.int m) H
theorem spec_int : ∀ (ps : List Int) (p : Int), ∃ m, m ∈ p :: ps ∧ maxD (.int p) (ps.map PyData.int) = .int m ∧ ∀ q ∈ p :: ps, q ≤ m
  | [], p => ⟨p, List.mem_cons_self, rfl, fun q m => by rw [List.mem_singleton.mp m]; exact Int.le_refl _⟩
  | q :: ps, p => by
    have e : maxD (.int p) ((q :: ps).map PyData.int) = maxD (if dataLt (.int p) (.int q) then .int q else .int p) (ps.map PyData.int) := rfl
    by_cases c : p < q
    · obtain ⟨m, mm, me, ml⟩ := spec_int ps q
      refine ⟨m, List.mem_cons_of_mem _ mm, by rw [e, if_pos (by rw [dataLt_int]; exact decide_eq_true c), me], fun x mx => ?_⟩
      rcases List.mem_cons.mp mx with rfl | mx
      · have := ml q List.mem_cons_self; omega
      · exact ml x mx
    · obtain ⟨m, mm, me, ml⟩ := spec_int ps p
      refine ⟨m, ?_, by rw [e, if_neg (by rw [dataLt_int]; simpa using c), me], fun x mx => ?_⟩
      · rcases List.mem_cons.mp mm with z | z
        · rw [z]; exact List.mem_cons_self
        · exact List.mem_cons_of_mem _ (List.mem_cons_of_mem _ z)
      · rcases List.mem_cons.mp mx with rfl | mx
        · exact ml x List.mem_cons_self
        · rcases List.mem_cons.mp mx with rfl | mx
          · have := ml p List.mem_cons_self; omega
          · exact ml x (List.mem_cons_of_mem _ mx)
theorem int_deep : ∀ ps : List Int, PyData.depthAll (ps.map PyData.int) ≤ 3
  | [] => by show PyData.depthAll [] ≤ 3; decide
  | p :: ps => by
    have h : PyData.depthAll (PyData.int p :: ps.map PyData.int) = max (PyData.depth (PyData.int p)) (PyData.depthAll (ps.map PyData.int)) := rfl
    rw [List.map_cons, h]
    exact Nat.max_le.mpr ⟨by simp [PyData.depth], int_deep ps⟩
theorem int_alike (ps : List Int) : AlikeAll (ps.map PyData.int) := by
  refine ⟨fun x mx y my => ?_, fun x mx => ?_⟩
  · obtain ⟨p, _, rfl⟩ := List.mem_map.mp mx
    obtain ⟨q, _, rfl⟩ := List.mem_map.mp my
    simp [alike]
  · obtain ⟨p, _, rfl⟩ := List.mem_map.mp mx
    intro e
    cases e
theorem int_dp {K : PySem.W.Frag} {H : Hp} : ∀ ns : List Int, DpAll K H (ns.map V.int) (ns.map PyData.int)
  | [] => .nil
  | n :: ns => .cons (.int n) (int_dp ns)
theorem cr_maxT {X : Cx} (hc : X.calm = true) (hu : X.A.units + 64 < cLine) : CallR X (.builtin "max") (rMaxT X.K) := by
  intro pins s σ H vs us Q I r h
  obtain ⟨a, ns, rfl, hs, hne, q⟩ := h
  obtain ⟨its, rv, ⟨o, ho, hcl, hnn, hdd⟩, _⟩ := I.tuple hs
  rw [Vals.ref1 r]
  match ns, hne, rv, q with
  | p :: ps, _, rv, q =>
  obtain ⟨as, hr⟩ := Dp.readsAll I _ _ its (int_dp (p :: ps)) rv
  have hr2 : ReadsAll s.heap its.toArray.toList (PyData.int p :: ps.map PyData.int) as := by simpa using hr
  have hu' := int_deep (p :: ps)
  rw [List.map_cons] at hu'
  refine max_tuple_data (I.ok.hd hc) ⟨o, ho, hcl, hnn, hdd⟩ hr2 (int_alike (p :: ps)) (by omega) fun i v h' tk bs hv hR hk => ?_
  obtain ⟨cs, r1, i1, _, _⟩ := readsAll_atA hr2 i v hv
  obtain ⟨e, _⟩ := PyProof.Rows.reads_det (fun _ _ e _ => e) (reads_keeps hk r1) hR
  have hv2 : its[i]? = some v := by simpa using hv
  have il2 : i < (p :: ps).length := by simpa using i1
  have hp : (p :: ps)[i]? = some (p :: ps)[i] := List.getElem?_eq_getElem il2
  obtain ⟨u, hu2, ru⟩ := rv.get (i := i) (x := .int (p :: ps)[i]) (by rw [List.getElem?_map, hp]; rfl)
  have eu : u = v := Option.some.inj (hu2.symm.trans hv2)
  subst eu
  obtain ⟨m, _, me, ml⟩ := spec_int ps p
  have e3 : (PyData.int p :: ps.map PyData.int).getD i .none = .int (p :: ps)[i] := by
    have : (PyData.int p :: ps.map PyData.int)[i]? = some (.int (p :: ps)[i]) := by
      rw [← List.map_cons, List.getElem?_map, hp]
      rfl
    rw [List.getD_eq_getElem?_getD, this]
    rfl
  have e4 : (p :: ps)[i] = m := by
    have : PyData.int (p :: ps)[i] = PyData.int m := by rw [← e3, ← e, me]
    exact PyData.int.inj this
  exact ⟨_, H, I.kept hk, ru, q _ (List.mem_of_getElem? hp) (by rw [e4]; exact ml)⟩
end Mt

/-! sorted(d), d a dict keyed by nested tuples: its keys in order. -/
namespace Nd
open PySem PySem.Spec PyProof.Rows L2 Dv PySem.W
def rSortN (K : PySem.W.Frag) (P : Program) (w : World) : List V → Hp → VK → Prop := fun vs H Q => ∃ (a : Addr) (kas : List Ent) (bs : List (Addr × PyData)), vs = [V.ref a] ∧ At K P w H a kas ∧ kas.map (fun e => e.2.1) = bs.map (fun b => b.1) ∧ (∀ b ∈ bs, Dt K H (.ref b.1) b.2 ∧ b.2.depth ≤ 8) ∧ AllAlike (bs.map fun b => b.2) ∧ Sortable (bs.map fun b => b.2) ∧
  ∀ p, H p = none → Q (.ref p) (upd H p (.lst ((bs.mergeSort (dataLe false fun b => b.2)).map fun b => V.ref b.1)))
theorem each_of {α β : Type} {R : α → β → Prop} : ∀ {as : List α} {bs : List β}, as.length = bs.length → (∀ (i : Nat) a b, as[i]? = some a → bs[i]? = some b → R a b) → EachIs R as bs
  | [], [], _, _ => .nil
  | [], _ :: _, h, _ => by cases h
  | _ :: _, [], h, _ => by cases h
  | a :: as, b :: bs, h, f => .cons (f 0 a b rfl rfl) (each_of (by simpa using h) fun i x y hx hy => f (i + 1) x y (by simpa using hx) (by simpa using hy))
theorem vals_each : ∀ {out : List Value} {bs : List (Addr × PyData)}, EachIs (fun v b => v = Value.ref b.1) out bs → Vals (bs.map fun b => V.ref b.1) out
  | _, _, .nil => .nil
  | _, _, .cons h t => .cons h (vals_each t)
section
variable {X : Cx}
theorem cr_sortN (hc : X.calm = true) (hu : X.A.units + 64 < cLine) : CallR X (.builtin "sorted") (rSortN X.K X.prog X.w) := by
  intro pins s σ H vs us Q I r h
  obtain ⟨a, kas, bs, rfl, A, hkb, hb, hal, hso, q⟩ := h
  obtain ⟨u, rfl, rx⟩ := r.one
  cases rx
  obtain ⟨z, lo, xs, rl, dd⟩ := A.ofH I
  obtain ⟨es, ep, hraw, hsz, hes⟩ := dd.raw
  have hlx := Paired.length rl
  have hlb : kas.length = bs.length := by have := congrArg List.length hkb; rwa [List.length_map, List.length_map] at this
  refine Calls.call_function_entry PyProof.Rows.kind_sorted PyProof.Rows.plain_sorted PyProof.Rows.entry_sorted (PyProof.Rows.args_sorted1 _) ?_
  unfold Builtin.«sorted»
  refine wpAny_bind (m := checkCount "sorted" 1 1 _) (wpAny_pure ?_)
  refine wpAny_bind (PySem.W.kdu_collect (A := X.A.in1) (KdlSrc.rawDict lo) (I.ok.hd hc) hraw (by omega) fun h' tk acc hk hacc => ?_)
  have hla : acc.toList.length = bs.length := by rw [Array.length_toList, hacc.1]; omega
  have hE : EachIs (fun v (b : Addr × PyData) => v = Value.ref b.1) acc.toList bs := each_of hla fun i v b hv hb => by
    obtain ⟨hi, ev⟩ := hacc.2 i v (by rw [← Array.getElem?_toList]; exact hv)
    obtain ⟨y, hy, e1, _⟩ := hes i hi
    have hik : i < kas.length := by omega
    have e3 : (kas.map fun e => e.2.1)[i]? = some b.1 := by rw [hkb, List.getElem?_map, hb]; rfl
    obtain ⟨pk, hpk⟩ : ∃ pk, kas[i]? = some pk := ⟨_, List.getElem?_eq_getElem hik⟩
    rw [List.getElem?_map, hpk] at e3
    have e3 : pk.2.1 = b.1 := Option.some.inj e3
    have e4 : pk.2.1 = y.2.1 := by
      have : ∀ {ks : List Ent} {ys : List (NestedKey × Addr × Value)} (r : Paired Eq2 ks ys) (i : Nat) (p : Ent) (y : NestedKey × Addr × Value), ks[i]? = some p → ys[i]? = some y → p.2.1 = y.2.1 := fun r => by
        induction r with
        | nil => intro i p y h; cases h
        | cons h t ih =>
          intro i p y h1 h2
          cases i with
          | zero => cases h1; cases h2; exact h.2.1
          | succ i => exact ih i p y (by simpa using h1) (by simpa using h2)
      exact this rl i pk y hpk hy
    rw [ev, e1, ← e4, e3]
  have I1 : Inv X pins σ H { s with heap := h', toks := tk } := I.kept hk
  have hz2 : acc.toList.length ≤ sizeLine := by omega
  refine wpAny_bind (wpAny_newList ?_ hz2)
  have hoL : (h'.push (seqObj "list" acc.toList.toArray 0)).get? h'.objs.size = some (seqObj "list" acc.toList.toArray 0) := Heap.get?_push_size _ rfl
  show wpAny _ _ _ _ _ { s with heap := h'.push (seqObj "list" acc.toList.toArray 0), toks := tk }
  have er : EachIs (fun v (b : Addr × PyData) => ∃ as, Reads (sortingHeap (h'.push (seqObj "list" acc.toList.toArray 0)) h'.objs.size acc.toList) v b.2 as) acc.toList bs := each_of hla fun i v b hv hbi => by
    have ev : v = Value.ref b.1 := by
      have : ∀ {as : List Value} {cs : List (Addr × PyData)} (e : EachIs (fun v b => v = Value.ref b.1) as cs) (i : Nat) v b, as[i]? = some v → cs[i]? = some b → v = Value.ref b.1 := fun e => by
        induction e with
        | nil => intro i v b h; cases h
        | cons h t ih =>
          intro i v b h1 h2
          cases i with
          | zero => cases h1; cases h2; exact h
          | succ i => exact ih i v b (by simpa using h1) (by simpa using h2)
      exact this hE i v b hv hbi
    obtain ⟨as, rd⟩ := Dp.reads I1 _ _ v (hb b (List.mem_of_getElem? hbi)).1.toDp (by rw [ev]; rfl)
    exact ⟨as, PyProof.Rows.Reads.keeps (fun b o e => sortingHeap_old (Nat.ne_of_lt (Heap.lt_size e)) (Heap.get?_push_of_some _ e)) rd⟩
  have hdp : ∀ d, d ∈ bs.map (fun b => b.2) → X.A.in1.in1.units + d.depth < cLine := fun d hd => by
    obtain ⟨b, hbm, rfl⟩ := List.mem_map.mp hd
    have := (hb b hbm).2
    show X.A.units + 1 + 1 + b.2.depth < cLine
    omega
  refine wpAny_bind (wpAny_holding (wpAny_call_entry PyProof.Rows.slot_list_sort ⟨_, hoL, rfl⟩ PyProof.Rows.entry_list_sort
    (list_sort_vals (s := { s with heap := h'.push (seqObj "list" acc.toList.toArray 0), toks := tk }) (κ := dataKind (sortingHeap (h'.push (seqObj "list" acc.toList.toArray 0)) h'.objs.size acc.toList) (bs.map fun b => b.2)) hoL
      (SortsAt.data (s := { s with heap := sortingHeap (h'.push (seqObj "list" acc.toList.toArray 0)) h'.objs.size acc.toList, toks := tk }) (each_map (R := fun v d => ∃ as, Reads (sortingHeap (h'.push (seqObj "list" acc.toList.toArray 0)) h'.objs.size acc.toList) v d as) (fun b : Addr × PyData => b.2) er) hal hso hdp) hz2 ⟨.none, rfl, ?_⟩) (PyProof.Rows.args_list_sort _)))
  have g1 := sortVals_data (h' := sortingHeap (h'.push (seqObj "list" acc.toList.toArray 0)) h'.objs.size acc.toList) (enc := fun b : Addr × PyData => b.2) false hE er hal
  generalize hout : sortVals (dataKind (sortingHeap (h'.push (seqObj "list" acc.toList.toArray 0)) h'.objs.size acc.toList) (bs.map fun b => b.2)) false acc.toList acc.toList = out at g1 ⊢
  obtain ⟨e', he'⟩ := PyProof.Rows.sortedHeap_at (vs := acc.toList) (out := out.toArray) hoL
  have hlen : ((bs.mergeSort (dataLe false fun b => b.2)).map fun b => V.ref b.1).length ≤ sizeLine := by
    rw [List.length_map, List.length_mergeSort]
    omega
  refine wpAny_pure ⟨_, rfl, .ref h'.objs.size, upd H h'.objs.size (.lst ((bs.mergeSort (dataLe false fun b => b.2)).map fun b => V.ref b.1)), I1.laid (t' := tk) (fun b u e => ?_) (Nat.le_refl _)
    (show ObjOk X.prog X.w _ _ _ (.lst _) from ⟨hlen, out, e', vals_each g1, he'⟩), rfl, q _ (I1.hok.fresh (Nat.le_refl _))⟩
  have hb : b < h'.objs.size := Heap.lt_size e
  rw [PyProof.Rows.sortedHeap_old (Nat.ne_of_lt hb) (by rw [size_push']; exact Nat.lt_succ_of_lt hb)]
  exact Heap.get?_push_of_some _ e
end
end Nd
/-! d.get(k, x), d a dict keyed by nested tuples. -/
namespace Nd
open PySem PySem.Spec PyProof.Rows L2 Dv
section
variable {X : Cx}
def tGet2N (K : PySem.W.Frag) (P : Program) (w : World) (td ty tx : TE) : TE := fun σ H Q => td σ H fun x H1 => ∃ a kas0, x = .ref a ∧ H1 a = some (NDo P w a kas0) ∧ ty σ H1 fun y H2 => tx σ H2 fun z H3 => ∃ kas k, At K P w H3 a kas ∧ Nk K H3 y k ∧ Q ((look kas k).getD z) H3
theorem pe_get2N {o e f : Expr} {apos cpos : Pos} {td ty tx : TE} (hu : X.A.units + 64 < cLine) (ho : PE X o td) (he : PE X e ty) (hf : PE X f tx) (m : M2 X o "get" apos e f cpos) : PE X (.Call (.Attribute o "get" apos) [e, f] [] cpos) (tGet2N X.K X.prog X.w td ty tx) := by
  refine ⟨fun pins s σ H Q I h => ?_⟩
  refine wpAny_Call_method m.base m.few m.line PySem.F.plainAttrs_dict PySem.F.slot_dict_get PySem.F.type_dict_get (thn (ho.run pins s σ H _ I h) fun u s1 ⟨x, H1, I1, rx, a, kas0, ex, hA, q1⟩ => ?_)
  subst ex
  obtain rfl : u = Value.ref a := rx
  obtain ⟨⟨_, hd, ob, es, ep, xs, h1, h2, _⟩, _⟩ := I1.hok a _ hA
  refine ⟨⟨ob, h1, h2.1⟩, fun b q => by cases q; exact ⟨ob, h1, h2.2.1⟩, ?_⟩
  rw [m.trees]
  refine Calls.callWith_builtin rfl (Calls.evalArgs_plain (Calls.spliced_cons (thn (he.run pins s1 σ H1 _ I1 q1) fun iv s2 ⟨y, H2, I2, ry, q2⟩ =>
    Calls.spliced_cons (thn (hf.run pins s2 σ H2 _ I2 q2) fun fv s3 ⟨z, H3, I3, rz, kas, k, A, n, q3⟩ => Calls.spliced_nil ?_))))
  obtain ⟨b, rfl⟩ := n.ref
  obtain rfl : iv = Value.ref b := ry
  obtain ⟨_, _, xs3, r, d⟩ := A.ofH I3
  refine call_meetsIn PySem.F.slot_dict_get d.typeIs PySem.F.entry_dict_get (PySem.F.args_dict_get_3 _ _ _) (meetsH_dict_get_default (nestedKind X.prog X.w) a b hd fv) ⟨?_, k, xs3, n.is I3, d, (look kas k).getD z, H3, I3.tok _, (look_rel r k).getD rz, q3⟩
  show X.A.units + 1 + 8 < cLine
  omega
end
end Nd

/-! sorted(set of ints), any number of members. -/
namespace Sa
open PySem PySem.Spec PyProof.Rows L2
section
variable {P : Program} {w : World} {A : Around} {E : Value → Shared → Prop} {s : Shared} {a : Addr}
theorem sorted_setAny {S : Int → Bool} {n : Nat} {Q : Value → Shared → Prop} (R : SetR w s.heap a S n) (hh : A.handled = none) (hn4 : n ≤ 4000)
    (hQ : ∀ s' p (out : Array Value) (c : Nat) (ns : List Int), (∀ b o, s.heap.get? b = some o → s'.heap.get? b = some o) → s'.gens = s.gens → s'.os = s.os → s.heap.objs.size ≤ p →
      s'.heap.get? p = some (seqObj "list" out c) → IntsAre out.toList ns → ns.Pairwise (· < ·) → (∀ k, k ∈ ns ↔ S k = true) → ns.length = n → Q (.ref p) s') :
    wpAny (model P w) A (call (.builtin "sorted") [.ref a]) Q E s := by
  obtain ⟨o, es, ep, t, ho, hex, hd, g, nd, hm, hb, hf, hn, hr, hl⟩ := R
  refine Calls.call_function_entry kind_sorted plain_sorted entry_sorted (args_sorted1 _) ?_
  unfold Builtin.«sorted»
  refine wpAny_bind (m := checkCount "sorted" 1 1 _) (wpAny_pure ?_)
  refine wpAny_bind (collect_set (A := A.in1) hh ⟨o, ho, hex.1, hd⟩ hf hb hr hl fun s1 vs k1 hz g1 o1 pm => ?_)
  have hvl : vs.length = n := by rw [pm.length_eq, List.length_map, Array.length_toList]; exact hn
  have hI : IntsAre vs (vs.map Builtin.Re.reRawOf) := ints_of vs fun v hv => by
    obtain ⟨e, he, q⟩ := List.mem_map.mp (pm.mem_iff.mp hv)
    obtain ⟨k, tk, h1, _⟩ := g e he
    exact ⟨k, tk, by rw [← q]; exact h1⟩
  have pk : (vs.map Builtin.Re.reRawOf).Perm (es.toList.map keyOf) := by
    have q := pm.map Builtin.Re.reRawOf
    rw [List.map_map] at q
    exact q
  refine wpAny_bind (wpAny_newList ?_ (by rw [hvl, sizeLine_eq]; omega))
  have hoL : (s1.heap.push (seqObj "list" vs.toArray 0)).get? s1.heap.objs.size = some (seqObj "list" vs.toArray 0) := Heap.get?_push_size _ rfl
  refine wpAny_bind (wpAny_holding (wpAny_call_entry slot_list_sort ⟨_, hoL, rfl⟩ entry_list_sort (list_sort_treeAny hoL hI (by rw [hvl, sizeLine_eq]; omega) fun out ns' a1 a2 a3 => ⟨_, rfl, ?_⟩) (args_list_sort _)))
  obtain ⟨c, hc⟩ := sortedHeap_at (vs := vs) (out := out) hoL
  have pn : ns'.Perm (es.toList.map keyOf) := a2.trans pk
  refine wpAny_pure ⟨_, rfl, hQ _ s1.heap.objs.size out c ns' (fun b u e => ?_) g1 o1 hz hc a1 (lt_of_le_nodup ns' a3 (pn.nodup_iff.mpr nd)) (fun k => by rw [pn.mem_iff, ← hm k]) ?_⟩
  · have q := k1 b u e
    have hlt := Heap.lt_size q
    show (sortedHeap (s1.heap.push (seqObj "list" vs.toArray 0)) s1.heap.objs.size vs out).get? b = some u
    rw [sortedHeap_old (Nat.ne_of_lt hlt) (by rw [size_push']; exact Nat.lt_succ_of_lt hlt)]
    exact Heap.get?_push_of_some _ q
  · rw [pn.length_eq, List.length_map, Array.length_toList]; exact hn
end
section
variable {X : Cx}
def rSortedSetA (w : World) : List V → Hp → VK → Prop := fun vs H Q => ∃ (a : Addr) (S : Int → Bool) (n : Nat), vs = [V.ref a] ∧ H a = some (SetO w a S n) ∧ n ≤ 4000 ∧
  ∀ (ns : List Int) (p : Addr), ns.Pairwise (· < ·) → (∀ k : Int, k ∈ ns ↔ S k = true) → ns.length = n → H p = none → Q (.ref p) (upd H p (.lst (ns.map V.int)))
theorem cr_sortedSetA (hc : X.calm = true) : CallR X (.builtin "sorted") (rSortedSetA X.w) := by
  intro pins s σ H vs us Q I r h
  obtain ⟨a, S, n, rfl, ha, h64, q⟩ := h
  have R := setO_get I ha
  rw [Vals.ref1 r]
  refine sorted_setAny R (I.ok.hd hc) h64 fun s' p out c ns k g o hp hg hi hs hm hl => ?_
  have hlen : (ns.map V.int).length ≤ sizeLine := by rw [List.length_map, hl, sizeLine_eq]; omega
  have hn : H p = none := I.hok.fresh hp
  have J : Inv X pins σ (upd H p (.lst (ns.map V.int))) { s with heap := s'.heap, gens := s'.gens, drawn := s'.drawn, toks := s'.toks } :=
    I.call (ch := []) (Un.laid k hp hn) (I.hok.laid k hp ⟨hlen, out.toList, c, vals_of_ints hi, hg⟩) (by rw [g]; exact I.bare) (fun _ z => nomatch z)
  have e : s' = { s with heap := s'.heap, gens := s'.gens, drawn := s'.drawn, toks := s'.toks } := by
    cases s'
    cases s
    cases o
    rfl
  rw [e]
  exact ⟨.ref p, _, J, rfl, q ns p hs hm hl hn⟩
end
end Sa

/-! t.count(x), t a tuple of data. -/
namespace L2
open PySem PySem.Spec PyProof.Rows
section
variable {X : Cx}
def rCntT (K : PySem.W.Frag) : V → List V → Hp → VK → Prop := fun x xs H Q => ∃ (a : Addr) (y : V) (d : PyData) (ds : List PyData), x = V.ref a ∧ xs = [y] ∧ Dp K H (V.ref a) (.tuple ds) ∧ Dp K H y d ∧
  PyData.plainAll ds = true ∧ d.plain = true ∧ d.depth ≤ 60 ∧ Q (.int (ds.countP fun z => PyData.eqv z d : Nat)) H
theorem mt_countT (hu : X.A.units + 65 < cLine) : MtR X "tuple.count" (rCntT X.K) := by
  intro pins s σ H x xs v us Q I rx rxs h
  obtain ⟨a, y, d, ds, rfl, rfl, hl, hy, sl, sd, dd, q⟩ := h
  cases hl with
  | tup hs hd =>
    cases rx
    obtain ⟨u, rfl, ru⟩ := rxs.one
    obtain ⟨its, rv, hl, hz⟩ := I.tuple hs
    obtain ⟨as, r1⟩ := Dp.readsAll I ds _ its hd rv
    obtain ⟨bs, r2⟩ := Dp.reads I d y u hy ru
    refine PySem.SeqAt.count_tuple_data hl r1 r2 sl sd ?_ ⟨.int _, H, I.tok _, ⟨_, rfl⟩, q⟩
    have := Nat.min_le_right (PyData.depthAll ds) d.depth
    omega
end
end L2

/-! range(n) as a value, walked later. -/
namespace Rgv
open PySem PySem.Spec PyProof.Rows L2
section
variable {X : Cx} {tg : Expr}
theorem cr_range1 : CallR X (.type "range") (fun vs H Q => ∃ j, vs = [V.int j] ∧ ∀ p, H p = none → Q (.ref p) (upd H p (.rng 0 j))) := by
  intro pins s σ H vs us Q I r h
  obtain ⟨j, rfl, q⟩ := h
  obtain ⟨u1, rfl, ri⟩ := r.one
  obtain ⟨t, rfl⟩ := ri
  refine call_range_1 ⟨.ref s.heap.objs.size, upd H s.heap.objs.size (.rng 0 j), I.laid (t' := s.toks + 2) (fun b o e => Heap.get?_push_of_some _ e) (Nat.le_refl _) ?_, rfl, q _ (I.hok.fresh (Nat.le_refl _))⟩
  exact ⟨_, t, s.toks + 1, Heap.get?_push_size _ rfl⟩
def iRgv (te : TE) : TI := fun σ H R => te σ H fun x H1 => ∃ (a : Addr) (lo hi : Int), x = .ref a ∧ H1 a = some (.rng lo hi) ∧ (-(2 ^ 62) ≤ lo ∧ lo < 2 ^ 62 ∧ -(2 ^ 62) ≤ hi ∧ hi < 2 ^ 62) ∧ R (Itr lo (hi - lo).toNat) H1
theorem pi_rgv {e : Expr} {te : TE} (he : PE X e te) : PI X tg e (iRgv te) := by
  refine ⟨fun pins s σ H R I h => ?_⟩
  refine thn (he.run pins s σ H _ I h) fun v s1 ⟨x, H1, I1, r1, a, lo, hi, ex, ha, ⟨h1, h2, h3, h4⟩, q⟩ => ?_
  subst ex
  obtain rfl : v = Value.ref a := r1
  obtain ⟨t, u, v, ho⟩ := I1.hok a _ ha
  refine wpAny_pyIter_range ho (small_one h1 h2 h3 h4) ?_
  refine ⟨s1.heap.objs.size, [s1.heap.objs.size], _, _, H1, rfl, I1.kept (t' := s1.toks) fun b o e => Heap.get?_push_of_some _ e, turn_range _ lo (hi - lo).toNat, ?_, fun b hb => ?_, q⟩
  · have e1 : lo + ((0 : Nat) : Int) * 1 = lo := by simp
    have e2 : (((hi - lo).toNat : Nat) : Int) - ((0 : Nat) : Int) = Builtin.Range.rangeSize lo hi 1 := by rw [rangeSize_one]; split <;> omega
    show IsRangeIter _ _ (lo + ((0 : Nat) : Int) * 1) ((((hi - lo).toNat : Nat) : Int) - ((0 : Nat) : Int)) 1
    rw [e1, e2]
    exact Heap.get?_push_size _ rfl
  · have e : b = s1.heap.objs.size := by simpa using hb
    subst e
    exact I1.fpOk (Nat.le_refl _) (I1.hok.fresh (Nat.le_refl _))
end
end Rgv

/-! Data with lists and the dict {'a': 1}, whose lists and dicts keep off some addresses; lists laid off sys.modules; repr of a list of such. -/
namespace Dz
open PySem PySem.Spec PyProof.Rows L2 Dv Wm
section
variable {X : Cx} {es : List Expr} {pos : Pos} {t : TA}
def tLstZ (t : TA) : TE := fun σ H Q => t σ H fun xs H1 => xs.length ≤ sizeLine ∧ ∀ p, p ≠ sysModules → H1 p = none → Q (.ref p) (upd H1 p (.lst xs))
theorem pe_lstZ (h : PA X es t) : PE X (.List es pos) (tLstZ t) := by
  constructor
  intro pins s σ H Q I hq
  apply wpAny_List_spliced
  refine thn (h.run pos pins s σ H _ I hq) ?_
  intro us s1 hh
  obtain ⟨xs, H1, I1, r, z, q⟩ := hh
  refine ⟨by rw [← r.length]; exact z, ?_⟩
  have big := I1.big
  refine ⟨.ref s1.heap.objs.size, upd H1 _ (.lst xs), I1.laid (t' := s1.toks) (fun b u e => Heap.get?_push_of_some _ e) (Nat.le_refl _) ⟨z, us, 0, r, Heap.get?_push_size _ rfl⟩, rfl, q _ ?_ (I1.hok.fresh (Nat.le_refl _))⟩
  exact Nat.ne_of_gt big
def rListZ (K : PySem.W.Frag) : List V → Hp → VK → Prop := fun xs H Q => ∃ p ys, xs = [.ref p] ∧ (SqL K H p ys ∨ SqT K H p ys) ∧ ∀ l, l ≠ sysModules → H l = none → Q (.ref l) (upd H l (.lst ys))
theorem call_listZ : CallR X (.type "list") (rListZ X.K) := by
  intro pins s σ H vs us Q I r h
  obtain ⟨p, ys, rfl, hp, q⟩ := h
  obtain ⟨u, rfl, ru⟩ := r.one
  cases (show u = Value.ref p from ru)
  have big := I.big
  have new : ∀ (its : List Value), Vals ys its → ys.length ≤ sizeLine → ∀ (g : Heap) (c : Nat), (∀ b o, s.heap.get? b = some o → g.get? b = some o) → g.get? s.heap.objs.size = some { cls := .type "list", dict := none, data := .seq its.toArray c, slots := #[] } → EP X pins σ Q (.ref s.heap.objs.size) { s with heap := g } := by
    intro its rv hz g c kp e
    exact ⟨.ref s.heap.objs.size, upd H _ (.lst ys), I.laid (t' := s.toks) kp (Nat.le_refl _) (show ObjOk X.prog X.w _ g _ (.lst ys) from ⟨hz, its, c, rv, e⟩), rfl, q _ (Nat.ne_of_gt big) (I.hok.fresh (Nat.le_refl _))⟩
  cases hp with
  | inl hp =>
    obtain ⟨its, rv, pl, hz⟩ := I.list hp
    have ln := rv.length
    obtain ⟨o, ho, hc, n, hd⟩ := pl.isList
    exact call_list_seq p (.inl rfl) ho hc hd (fun g c kp e => new its rv hz g c kp e) (by simp only [List.size_toArray]; omega)
  | inr hp =>
    obtain ⟨its, rv, ⟨o, ho, hc, n, hd⟩, hz⟩ := I.tuple hp
    have ln := rv.length
    exact call_list_seq p (.inr rfl) ho hc hd (fun g c kp e => new its rv hz g c kp e) (by simp only [List.size_toArray]; omega)
end
mutual
inductive Dn (K : PySem.W.Frag) (N : Addr → Prop) (H : Hp) : V → PyData → Prop
  | non : Dn K N H .non .none
  | bl (b : Bool) : Dn K N H (.bl b) (.bool b)
  | int (i : Int) : Dn K N H (.int i) (.int i)
  | str (x : Str) : Dn K N H (.str x) (.str x)
  | tup {a : Addr} {xs : List V} {ds : List PyData} : SqT K H a xs → Dns K N H xs ds → Dn K N H (.ref a) (.tuple ds)
  | lst {a : Addr} {xs : List V} {ds : List PyData} : N a → H a = some (.lst xs) → Dns K N H xs ds → Dn K N H (.ref a) (.list ds)
inductive Dns (K : PySem.W.Frag) (N : Addr → Prop) (H : Hp) : List V → List PyData → Prop
  | nil : Dns K N H [] []
  | cons {v : V} {vs : List V} {d : PyData} {ds : List PyData} : Dn K N H v d → Dns K N H vs ds → Dns K N H (v :: vs) (d :: ds)
end
section
variable {K : PySem.W.Frag} {N M : Addr → Prop} {H H' : Hp}
mutual
theorem Dn.toDp : ∀ (d : PyData) (v : V), Dn K N H v d → Dp K H v d
  | .none, _, h => by cases h; exact .non
  | .bool _, _, h => by cases h; exact .bl _
  | .int _, _, h => by cases h; exact .int _
  | .str _, _, h => by cases h; exact .str _
  | .tuple ds, _, h => by
    cases h with
    | tup a b => exact .tup a (Dns.toDp ds _ b)
  | .list ds, _, h => by
    cases h with
    | lst n a b => exact .lst (SqL.of a) (Dns.toDp ds _ b)
  | .dict _, _, h => by cases h
theorem Dns.toDp : ∀ (ds : List PyData) (vs : List V), Dns K N H vs ds → DpAll K H vs ds
  | [], _, h => by cases h; exact .nil
  | d :: ds, _, h => by
    cases h with
    | cons a b => exact .cons (Dn.toDp d _ a) (Dns.toDp ds _ b)
end
mutual
theorem Dn.kk (k : Kt K H H') (f : ∀ a xs, N a → H a = some (.lst xs) → M a ∧ H' a = some (.lst xs)) : ∀ (d : PyData) (v : V), Dn K N H v d → Dn K M H' v d
  | .none, _, h => by cases h; exact .non
  | .bool _, _, h => by cases h; exact .bl _
  | .int _, _, h => by cases h; exact .int _
  | .str _, _, h => by cases h; exact .str _
  | .tuple ds, _, h => by
    cases h with
    | tup a b => exact .tup (k _ _ a) (Dns.kk k f ds _ b)
  | .list ds, _, h => by
    cases h with
    | lst n a b => exact .lst (f _ _ n a).1 (f _ _ n a).2 (Dns.kk k f ds _ b)
  | .dict _, _, h => by cases h
theorem Dns.kk (k : Kt K H H') (f : ∀ a xs, N a → H a = some (.lst xs) → M a ∧ H' a = some (.lst xs)) : ∀ (ds : List PyData) (vs : List V), Dns K N H vs ds → Dns K M H' vs ds
  | [], _, h => by cases h; exact .nil
  | d :: ds, _, h => by
    cases h with
    | cons a b => exact .cons (Dn.kk k f d _ a) (Dns.kk k f ds _ b)
end
mutual
theorem Dn.ofDt : ∀ (d : PyData) (v : V), Dt K H v d → Dn K N H v d
  | .int _, _, h => by cases h; exact .int _
  | .str _, _, h => by cases h; exact .str _
  | .tuple ds, _, h => by
    cases h with
    | tup a b => exact .tup a (Dns.ofDts ds _ b)
  | .none, _, h => by cases h
  | .bool _, _, h => by cases h
  | .list _, _, h => by cases h
  | .dict _, _, h => by cases h
theorem Dns.ofDts : ∀ (ds : List PyData) (vs : List V), Dts K H vs ds → Dns K N H vs ds
  | [], _, h => by cases h; exact .nil
  | d :: ds, _, h => by
    cases h with
    | cons a b => exact .cons (Dn.ofDt d _ a) (Dns.ofDts ds _ b)
end
theorem Dn.ks {d : PyData} {v : V} (h : Dn K N H v d) (s : Same H H') : Dn K N H' v d := Dn.kk (Kt.same s) (fun _ _ n e => ⟨n, s _ _ e⟩) d v h
theorem Dns.ks {ds : List PyData} {vs : List V} (h : Dns K N H vs ds) (s : Same H H') : Dns K N H' vs ds := Dns.kk (Kt.same s) (fun _ _ n e => ⟨n, s _ _ e⟩) ds vs h
theorem Dns.len : ∀ {vs : List V} {ds : List PyData}, Dns K N H vs ds → vs.length = ds.length
  | _, [], h => by cases h; rfl
  | _, d :: ds, h => by
    cases h with
    | cons a b => rw [List.length_cons, List.length_cons, Dns.len b]
theorem Dns.at : ∀ {vs : List V} {ds : List PyData} {i : Nat} {v : V}, Dns K N H vs ds → vs[i]? = some v → ∃ d, ds[i]? = some d ∧ Dn K N H v d
  | _, [], _, _, h, e => by cases h; simp at e
  | _, d :: ds, i, v, h, e => by
    cases h with
    | cons a b =>
      cases i with
      | zero => cases e; exact ⟨d, rfl, a⟩
      | succ i => exact Dns.at (i := i) b (by simpa using e)
def adD : PyData := .dict [(.str "a", .int 1)]
/-- an item: such data, or the dict {'a': 1} -/
def Dz (K : PySem.W.Frag) (N : Addr → Prop) (H : Hp) (v : V) (d : PyData) : Prop := Dn K N H v d ∨ ∃ a, v = .ref a ∧ N a ∧ H a = some (.dK [(Sum.inr "a", V.int 1)]) ∧ d = adD
theorem Dz.kk {v : V} {d : PyData} (h : Dz K N H v d) (k : Kt K H H') (f : ∀ a o, N a → H a = some o → M a ∧ H' a = some o) : Dz K M H' v d := by
  rcases h with h | ⟨a, e, n, e2, e3⟩
  · exact .inl (Dn.kk k (fun a xs n e => f a _ n e) d v h)
  · exact .inr ⟨a, e, (f _ _ n e2).1, (f _ _ n e2).2, e3⟩
theorem Dz.ks {v : V} {d : PyData} (h : Dz K N H v d) (s : Same H H') : Dz K N H' v d := h.kk (Kt.same s) fun _ _ n e => ⟨n, s _ _ e⟩
inductive Dzs (K : PySem.W.Frag) (N : Addr → Prop) (H : Hp) : List V → List PyData → Prop
  | nil : Dzs K N H [] []
  | cons {v : V} {vs : List V} {d : PyData} {ds : List PyData} : Dz K N H v d → Dzs K N H vs ds → Dzs K N H (v :: vs) (d :: ds)
theorem Dzs.kk (k : Kt K H H') (f : ∀ a o, N a → H a = some o → M a ∧ H' a = some o) : ∀ {vs : List V} {ds : List PyData}, Dzs K N H vs ds → Dzs K M H' vs ds
  | _, _, .nil => .nil
  | _, _, .cons a b => .cons (a.kk k f) (Dzs.kk k f b)
theorem Dzs.ks {ds : List PyData} {vs : List V} (h : Dzs K N H vs ds) (s : Same H H') : Dzs K N H' vs ds := h.kk (Kt.same s) fun _ _ n e => ⟨n, s _ _ e⟩
theorem Dzs.len : ∀ {vs : List V} {ds : List PyData}, Dzs K N H vs ds → vs.length = ds.length
  | _, _, .nil => rfl
  | _, _, .cons a b => by rw [List.length_cons, List.length_cons, Dzs.len b]
theorem Dzs.at : ∀ {vs : List V} {ds : List PyData} {i : Nat} {v : V}, Dzs K N H vs ds → vs[i]? = some v → ∃ d, ds[i]? = some d ∧ Dz K N H v d
  | _, _, i, v, .nil, e => by simp at e
  | _, _, i, v, .cons (d := d) a b, e => by
    cases i with
    | zero => cases e; exact ⟨d, rfl, a⟩
    | succ i => exact Dzs.at (i := i) b (by simpa using e)
theorem Dzs.app : ∀ {vs us : List V} {ds es : List PyData}, Dzs K N H vs ds → Dzs K N H us es → Dzs K N H (vs ++ us) (ds ++ es)
  | _, _, _, _, .nil, h => h
  | _, _, _, _, .cons a b, h => .cons a (Dzs.app b h)
theorem Dzs.take : ∀ {vs : List V} {ds : List PyData} (n : Nat), Dzs K N H vs ds → Dzs K N H (vs.take n) (ds.take n)
  | _, _, n, .nil => by rw [List.take_nil, List.take_nil]; exact .nil
  | _, _, 0, .cons a b => .nil
  | _, _, n + 1, .cons a b => .cons a (Dzs.take n b)
theorem Dzs.drop : ∀ {vs : List V} {ds : List PyData} (n : Nat), Dzs K N H vs ds → Dzs K N H (vs.drop n) (ds.drop n)
  | _, _, n, .nil => by rw [List.drop_nil, List.drop_nil]; exact .nil
  | _, _, 0, .cons a b => .cons a b
  | _, _, n + 1, .cons a b => Dzs.drop n b
theorem Dzs.ofDts : ∀ {vs : List V} {ds : List PyData}, Dts K H vs ds → Dzs K N H vs ds
  | _, [], h => by cases h; exact .nil
  | _, d :: ds, h => by
    cases h with
    | cons a b => exact .cons (.inl (Dn.ofDt d _ a)) (Dzs.ofDts b)
end
section
variable {X : Cx} {pins : List (Addr × Obj)} {σ : L2.St} {H : Hp} {s : Shared} {N : Addr → Prop}
mutual
theorem Dn.reads (I : Inv X pins σ H s) (hN : ∀ a, N a → a ≠ sysModules) : ∀ (d : PyData) (v : V) (u : Value), Dn X.K N H v d → RelV v u → ∃ as, Reads s.heap u d as ∧ sysModules ∉ as
  | .none, _, _, h, r => by cases h; cases r; exact ⟨_, .none, List.not_mem_nil⟩
  | .bool b, _, _, h, r => by cases h; cases r; exact ⟨_, .bool b, List.not_mem_nil⟩
  | .int i, _, _, h, r => by cases h; obtain ⟨t, rfl⟩ := r; exact ⟨_, .int i t, List.not_mem_nil⟩
  | .str x, _, _, h, r => by cases h; obtain ⟨t, rfl⟩ := r; exact ⟨_, .str x t, List.not_mem_nil⟩
  | .tuple ds, _, _, h, r => by
    cases h with
    | tup a b =>
      cases r
      obtain ⟨its, rv, ⟨o, ho, hc, n, hd⟩, _⟩ := I.tuple a
      obtain ⟨as, hr, hn⟩ := Dns.reads I hN ds _ its b rv
      exact ⟨as, .tuple ho hc hd hr, hn⟩
  | .list ds, _, _, h, r => by
    cases h with
    | @lst a _ _ na e b =>
      cases r
      obtain ⟨its, rv, ⟨o, n, ho, hc, _, hd⟩, _⟩ := I.list (SqL.of e)
      obtain ⟨as, hr, hn⟩ := Dns.reads I hN ds _ its b rv
      refine ⟨a :: as, .list ho hc hd hr, fun m => ?_⟩
      rcases List.mem_cons.mp m with z | z
      · exact hN a na z.symm
      · exact hn z
  | .dict _, _, _, h, _ => by cases h
theorem Dns.reads (I : Inv X pins σ H s) (hN : ∀ a, N a → a ≠ sysModules) : ∀ (ds : List PyData) (vs : List V) (us : List Value), Dns X.K N H vs ds → Vals vs us → ∃ as, ReadsAll s.heap us ds as ∧ sysModules ∉ as
  | [], _, _, h, r => by cases h; cases r; exact ⟨_, .nil, List.not_mem_nil⟩
  | d :: ds, _, _, h, r => by
    cases h with
    | cons a b =>
      cases r with
      | cons ra rb =>
        obtain ⟨as, h1, n1⟩ := Dn.reads I hN d _ _ a ra
        obtain ⟨bs, h2, n2⟩ := Dns.reads I hN ds _ _ b rb
        exact ⟨as ++ bs, .cons h1 h2, fun m => (List.mem_append.mp m).elim n1 n2⟩
end
theorem Dz.reads (I : Inv X pins σ H s) (hN : ∀ a, N a → a ≠ sysModules) {d : PyData} {v : V} {u : Value} (h : Dz X.K N H v d) (r : RelV v u) : ∃ as, Reads s.heap u d as ∧ sysModules ∉ as := by
  rcases h with h | ⟨a, rfl, na, e, rfl⟩
  · exact Dn.reads I hN d v u h r
  · cases r
    obtain ⟨_, _, vs, rel, o, es, ep, h1, h2, h3, _, pr, _⟩ := dk_of I.hok e
    cases rel with
    | @cons p0 kv ps qs hd tl =>
      cases tl
      generalize hes : es.toList = L at pr
      cases pr with
      | @cons en _ es' kvs' k1 v1 t =>
        cases t
        have k1 : keyIs kv.1 en.key = true := k1
        obtain ⟨r1, r2⟩ := hd
        rw [← show (Sum.inr "a" : Key) = kv.1 from r1] at k1
        rcases keyIs_shape k1 with ⟨i, t, z, _⟩ | ⟨x, t, z, ek⟩
        · cases z
        · cases z
          obtain ⟨t2, ev⟩ := (show RelV (V.int 1) kv.2 from r2)
          refine ⟨_, .dict (as := []) (bs := []) h1 h2.1 h3 ?_ ?_, ?_⟩
          · rw [hes]
            show ReadsAll s.heap [en.key] [PyData.str "a"] []
            rw [ek]
            exact .cons (.str _ t) .nil
          · rw [hes]
            show ReadsAll s.heap [en.val] [PyData.int 1] []
            rw [v1, ev]
            exact .cons (.int _ t2) .nil
          · intro m
            rcases List.mem_cons.mp m with z | z
            · exact hN a na z.symm
            · simp at z
theorem Dzs.reads (I : Inv X pins σ H s) (hN : ∀ a, N a → a ≠ sysModules) : ∀ {ds : List PyData} {vs : List V} {us : List Value}, Dzs X.K N H vs ds → Vals vs us → ∃ as, ReadsAll s.heap us ds as ∧ sysModules ∉ as
  | _, _, _, .nil, r => by cases r; exact ⟨_, .nil, List.not_mem_nil⟩
  | _, _, _, .cons a b, r => by
    cases r with
    | cons ra rb =>
      obtain ⟨as, h1, n1⟩ := a.reads I hN ra
      obtain ⟨bs, h2, n2⟩ := Dzs.reads I hN b rb
      exact ⟨as ++ bs, .cons h1 h2, fun m => (List.mem_append.mp m).elim n1 n2⟩
end
/-! repr of a list of such -/
def rReprZ (K : PySem.W.Frag) : List V → Hp → VK → Prop := fun xs H Q => ∃ (a : Addr) (vs : List V) (ds : List PyData) (N : Addr → Prop), xs = [.ref a] ∧ a ≠ sysModules ∧ (∀ b, N b → b ≠ sysModules) ∧ H a = some (.lst vs) ∧ Dzs K N H vs ds ∧ (PyData.list ds).showable = true ∧ (PyData.list ds).depth ≤ 60 ∧ (PyData.list ds).shown.length ≤ sizeLine ∧ Q (.str (PyData.list ds).shown) H
theorem call_reprZ {X : Cx} (hg : X.A.guards = some []) (hu : X.A.units + 64 < cLine) : CallR X (.builtin "repr") (rReprZ X.K) := by
  intro pins s σ H xs us Q I r h
  obtain ⟨a, vs, ds, N, rfl, na, hN, ha, hd, hs, hz, hl, q⟩ := h
  obtain ⟨u, rfl, ru⟩ := r.one
  cases ru
  obtain ⟨its, rv, ⟨o, n, ho, hc, _, hd2⟩, _⟩ := I.list (SqL.of ha)
  obtain ⟨as, hr, hn⟩ := hd.reads I hN rv
  refine PySem.repr_of_reads' (.list ho hc hd2 hr) hs (fun _ m => ?_) hg (by omega) (fun _ _ e => e) (fun g u tk k => ⟨.str _, H, I.kept (t' := tk) k, ⟨_, rfl⟩, q⟩) hl
  rcases List.mem_cons.mp m with z | z
  · exact na z.symm
  · exact hn z
end Dz

/-! {k: v for x in xs}, a dict keyed by nested tuples. -/
namespace Nd
open PySem PySem.Spec PyProof.Rows L2 Dv
section
variable {X : Cx}
theorem nd_dictSet {pins : List (Addr × Obj)} {σ : L2.St} {H : Hp} {s : Shared} {E : Value → Shared → Prop} {a b : Addr} {kas : List Ent} {k : NestedKey} {v : V} {r : Value} {Q : Unit → Shared → Prop} (hu : X.A.units + 64 < cLine) (I : Inv X pins σ H s) (A : At X.K X.prog X.w H a kas) (n : Nk X.K H (.ref b) k)
    (l : kas.length < sizeLine) (rv : RelV v r) (q : ∀ s' H', H' = upd H a (NDo X.prog X.w a (put kas k b v)) → At X.K X.prog X.w H' a (put kas k b v) → Inv X pins σ H' s' → Q () s') : wpAny (model X.prog X.w) X.A (dictSet a (.ref b) r) Q E s := by
  obtain ⟨z, hd, xs, rel, d⟩ := A.ofH I
  have hz : xs.length ≤ sizeLine := by rw [← Paired.length rel]; exact z
  refine wpAny_dictSet_heap (hsz := hz) (show X.A.units + 8 < cLine from by omega) (n.is I) d fun h' dd' hs' => ?_
  obtain ⟨o, es, ep, ho, h2, h3, h4, _, _⟩ := dd'
  have hl : (put kas k b v).length ≤ sizeLine := by have := put_len kas k b v; omega
  exact q _ _ rfl ⟨upd_same, A.put n (nd_kt A.h), put_nodup A.nd⟩ (d_write I (by rw [A.h]; exact True.intro) hs' ⟨o, ho⟩ (nd_stay (kas := put kas k b v) ⟨hl, hd, o, es, ep, _, ho, h2, h3, h4, put_rel rel k b rv⟩))
def tDcN (K : PySem.W.Frag) (P : Program) (w : World) (wi : TI) (g : TG) (tt : TT) (tk tv : TE) (vs : List Nat) : TE := fun σ H Q => wi σ H fun J H1 => ∀ D, H1 D = none → ∃ W : Nat → Nat → Hp → Prop, (∃ m, W 0 m (upd H1 D (NDo P w D []))) ∧ ∀ i m H, W i m H →
  (J.stop i H ∧ Q (.ref D) H) ∨ (J.go i H ∧ ∃ Nx : Hp → Prop, (∀ H', Nx H' → ∃ m', m' < m ∧ W (i + 1) m' H') ∧ ∀ x H', J.yld i H x H' → g x (wipe σ vs) H' fun σ2 H2 => wipe σ2 vs = wipe σ vs ∧ tt σ2 H2 fun b H3 =>
    if b = true then tk σ2 H3 fun y H4 => tv σ2 H4 fun z H5 => ∃ bk kas k, y = V.ref bk ∧ At K P w H5 D kas ∧ Nk K H5 y k ∧ kas.length < sizeLine ∧ (∀ H6, H6 = upd H5 D (NDo P w D (put kas k bk z)) → At K P w H6 D (put kas k bk z) → Nx H6) else Nx H3)
theorem dcN_core {pins : List (Addr × Obj)} {t0 : Shared} {σ : L2.St} {G : Hp} {Q : VK} {pos2 : Pos} {use : Option (Value → Sem Unit)} {Qf : Value → Shared → Prop} {kx vx tg iter : Expr} {ifs : List Expr} {scope : Scope} {own : List (Str × Nat)} {pos : Pos} {wi : TI} {g : TG} {tt : TT} {tk tv : TE} (hu : X.A.units + 64 < cLine) (calm : X.calm = true) (nodup : X.N.Nodup) (hi : PI X tg iter wi) (ok : BlkOk X.N X.env.scope scope own)
    (pg0 : ∀ (s : Shared) (H : Hp) (C : Addr) (cl : List (Str × Addr)) (fp : List Addr), PG (X.blk s H scope (compEnvC scope cl C X.env) fp) tg g) (pt0 : ∀ (s : Shared) (H : Hp) (C : Addr) (cl : List (Str × Addr)) (fp : List Addr), PTs (X.blk s H scope (compEnvC scope cl C X.env) fp) ifs tt)
    (pk0 : ∀ (s : Shared) (H : Hp) (C : Addr) (cl : List (Str × Addr)) (fp : List Addr), PE (X.blk s H scope (compEnvC scope cl C X.env) fp) kx tk) (pv0 : ∀ (s : Shared) (H : Hp) (C : Addr) (cl : List (Str × Addr)) (fp : List Addr), PE (X.blk s H scope (compEnvC scope cl C X.env) fp) vx tv)
    (folded : ∀ x, foldedSetIterable iter X.env x = pure x) (I0 : Inv X pins σ G t0) (h : tDcN X.K X.prog X.w wi g tt tk tv (own.map (·.2)) σ G Q)
    (out : ∀ D C t9 m G9, Inv X pins σ G9 t9 → Q (.ref D) G9 → t9.heap.Ns C m → FpOk X pins G9 C → compPost (model X.prog X.w) X.A X.xe use Qf (.ref D) C (.ok .next) t9) :
    wpAny (model X.prog X.w) X.A (comprehension (.DictComp kx vx [⟨tg, iter, ifs, 0⟩] scope pos) scope X.env pos2 newDict false (eval iter X.env) use) Qf X.xe t0 := by
  have free : ∀ y ∈ scope.names, y.2 = .free → ∃ c, X.env.cells.lookup y.1 = some c := fun y hy e => by
    cases ok.free y hy e with
    | inl k => exact I0.ok.has _ (.inl k)
    | inr k => exact I0.ok.has _ (.inr k)
  refine wpAny_comprehension_free (use := use) rfl folded (closure_ok free) ok.kind (fun y hy e => by rw [ok.uniq y hy, e]) (thn (hi.run pins t0 σ G _ I0 h) fun xv t1 hx => thn hx fun itv t2 h2 => ?_)
  obtain ⟨it, fp, tn, J, G2, eit, I2, T, st2, f2, q⟩ := h2
  subst eit
  refine wpAny_newObj_type (newEnv_comp ?_)
  generalize eD : t2.heap.objs.size = D
  have hDn : G2 D = none := I2.hok.fresh (Nat.le_of_eq eD)
  obtain ⟨W, ⟨m0, w0⟩, turn⟩ := q D hDn
  generalize e3 : ({ t2 with heap := t2.heap.push { cls := .type "dict", data := .dict #[] } } : Shared) = t3
  have I3 : Inv X pins σ (upd G2 D (NDo X.prog X.w D [])) t3 := by
    subst e3
    refine I2.laid (t' := t2.toks) (fun b o e => Heap.get?_push_of_some _ e) (Nat.le_of_eq eD) ?_
    subst eD
    exact nd_empty t2.heap I2.big
  have hp3 : t3.heap = t2.heap.push { cls := .type "dict", data := .dict #[] } := by subst e3; rfl
  have below : ∀ b ∈ fp, b < t2.heap.objs.size := fun b hb => let ⟨o, e, _⟩ := T.obj _ _ st2 b hb; Heap.lt_size e
  have f3 : ∀ b ∈ fp, FpOk X pins (upd G2 D (NDo X.prog X.w D [])) b ∧ b < t3.heap.objs.size := fun b hb => by
    have lt := below b hb
    refine ⟨⟨?_, (f2 b hb).2⟩, by rw [hp3, Heap.size_push]; exact Nat.lt_succ_of_lt lt⟩
    rw [upd_ne (Nat.ne_of_lt (by rw [← eD]; exact lt))]
    exact (f2 b hb).1
  have st3 : tn 0 t3.heap := T.keep _ _ _ st2 fun b _ o e => by rw [hp3]; exact Heap.get?_push_of_some _ e
  have I4 := block_start I3 ok nodup f3
  have pg := pg0 t3 (upd G2 D (NDo X.prog X.w D [])) t3.heap.objs.size (cellsFrom (t3.heap.objs.size + 1) scope.names (cloFrom X.env.cells scope.names [])) fp
  have pt := pt0 t3 (upd G2 D (NDo X.prog X.w D [])) t3.heap.objs.size (cellsFrom (t3.heap.objs.size + 1) scope.names (cloFrom X.env.cells scope.names [])) fp
  have pk := pk0 t3 (upd G2 D (NDo X.prog X.w D [])) t3.heap.objs.size (cellsFrom (t3.heap.objs.size + 1) scope.names (cloFrom X.env.cells scope.names [])) fp
  have pe := pv0 t3 (upd G2 D (NDo X.prog X.w D [])) t3.heap.objs.size (cellsFrom (t3.heap.objs.size + 1) scope.names (cloFrom X.env.cells scope.names [])) fp
  have none3 : ∀ b ∈ fp, (upd G2 D (NDo X.prog X.w D [])) b = none := fun b hb => (f3 b hb).1.1
  show codeAny _ _ (.compStart (.DictComp kx vx [⟨tg, iter, ifs, 0⟩] scope pos) 0 (.ref it) (.ref D) (compEnvC scope (cellsFrom (t3.heap.objs.size + 1) scope.names (cloFrom X.env.cells scope.names [])) t3.heap.objs.size X.env)) (compPost (model X.prog X.w) X.A X.xe use Qf (.ref D) t3.heap.objs.size) _
  generalize ece : compEnvC scope (cellsFrom (t3.heap.objs.size + 1) scope.names (cloFrom X.env.cells scope.names [])) t3.heap.objs.size X.env = ce at I4 pg pt pk pe ⊢
  have locs : ce.locals = t3.heap.objs.size := by subst ece; rfl
  generalize eG3 : upd G2 D (NDo X.prog X.w D []) = G3 at I3 I4 pg pt pk pe w0 none3 f3
  generalize e4 : ({ t3 with heap := pushCells (t3.heap.push { cls := .type "dict", data := .dict #[] }) scope.names } : Shared) = t4 at I4 ⊢
  have st4 : tn 0 t4.heap := T.keep _ _ _ st3 fun b _ o e => by subst e4; exact pushCells_keeps _ _ _ _ (Heap.get?_push_of_some _ e)
  have apart : ∀ {σ' : L2.St} {G' : Hp} {t' : Shared}, Inv (X.blk t3 G3 scope ce fp) [] σ' G' t' → (∀ b ∈ fp, G' b = none) → ∀ b ∈ fp, FpOk (X.blk t3 G3 scope ce fp) [] G' b := fun {σ' G' t'} I' hn b hb =>
    ⟨hn b hb, (I'.ok.exf b hb).1, I'.ok.exfs b hb, .inl hb, fun x c e => (I'.ok.exf b hb).2 x c e, fun p hp => absurd (show p ∈ ([] : List (Addr × Obj)) ++ [] from hp) (by simp)⟩
  refine codeAny_compStart_dict ?_ (T.self X.A 0 _ _ _ st4 ?_)
  all_goals
    refine compLoop_anyD (fun n t' => ∃ i G', Inv (X.blk t3 G3 scope ce fp) [] (wipe σ (own.map (·.2))) G' t' ∧ tn i t'.heap ∧ (∀ b ∈ fp, G' b = none) ∧ W i n G') ?_ m0 ⟨0, G3, I4, st4, none3, w0⟩
    rintro n t5 ⟨i, G5, I5, st5, n5, w5⟩
    rcases turn i n G5 w5 with ⟨stop, qq⟩ | ⟨go, Nx, hNx, step⟩
    · refine thnF (T.done (X.blk t3 G3 scope ce fp) rfl rfl rfl calm i [] t5 _ G5 (fun _ _ => False) I5 (apart I5 n5) st5 stop) fun r t6 ⟨hr, I6⟩ => ?_
      subst hr
      have I7 : Inv X pins σ G5 t6 := I3.call' (ch := fp) I6.os I6.base I6.hok I6.bare fun b hb => ⟨(f3 b hb).1.2.2.2.1, (f3 b hb).1.2.1, (f3 b hb).1.2.2.2.2.1, (f3 b hb).1.2.2.2.2.2⟩
      have nC : G5 t3.heap.objs.size = none := by
        have z : G5 ce.locals = none := I6.free
        rwa [locs] at z
      obtain ⟨m, hn, _⟩ := I6.loc
      have hn : t6.heap.Ns ce.locals m := hn
      rw [locs] at hn
      exact out D _ _ m G5 I7 qq hn (I3.fpOk (Nat.le_refl _) nC)
    · refine thnF (T.item (X.blk t3 G3 scope ce fp) rfl rfl rfl calm i [] t5 _ G5 (fun _ _ => False) I5 (apart I5 n5) st5 go) fun r t6 ⟨u, hr, h6⟩ => ?_
      subst hr
      refine thnF h6 fun _ t7 ⟨x, G7, I7, r7, y7, st7, n7⟩ => ?_
      have I7' := I7.pinned (apart I7 n7) (T.obj _ _ st7)
      refine thnF (pg.run _ t7 _ G7 x u _ I7' r7 (step x G7 y7)) fun _ t8 ⟨σ8, G8, I8, hw8, q8⟩ => ?_
      refine thnF (pt.run _ t8 σ8 G8 _ I8 q8) fun b t9 ⟨G9, I9, q9⟩ => ?_
      have fin : ∀ {t' : Shared} {G' : Hp}, Inv (X.blk t3 G3 scope ce fp) ([] ++ pinsAt fp t7.heap) σ8 G' t' → Nx G' → ∃ m, m < n ∧ ∃ i G', Inv (X.blk t3 G3 scope ce fp) [] (wipe σ (own.map (·.2))) G' t' ∧ tn i t'.heap ∧ (∀ b ∈ fp, G' b = none) ∧ W i m G' := by
        intro t' G' I' nx
        obtain ⟨m', hm, w'⟩ := hNx G' nx
        have pin' : ∀ b ∈ fp, ∀ o, t7.heap.get? b = some o → t'.heap.get? b = some o ∧ G' b = none := fun b hb o e => let z := I'.pin (b, o) (List.mem_append_right _ (List.mem_append_right _ (mem_pinsAt hb e))); ⟨z.1, z.2.1⟩
        have wl : (wipe σ (own.map (·.2))).length = σ8.length := by rw [← hw8, wipe_length]
        refine ⟨m', hm, i + 1, G', (I'.unpinned (pins := [])).weak wl (fun j v e => ?_), T.keep _ _ _ st7 fun b hb o e => (pin' b hb o e).1, fun b hb => ?_, w'⟩
        · rw [← hw8] at e
          exact (wipe_some e).1
        · obtain ⟨o, e, _⟩ := T.obj _ _ st7 b hb
          exact (pin' b hb o e).2
      cases b with
      | false => exact fin I9 q9
      | true =>
        refine thnF (pk.run _ t9 σ8 G9 _ I9 q9) fun z t10 ⟨yk, G10, I10, r10, q10⟩ => ?_
        refine thnF (pe.run _ t10 σ8 G10 _ I10 q10) fun z2 t11 ⟨yv, G11, I11, r11, bk, kas, k, ek, A11, n11, l11, nx⟩ => ?_
        subst ek
        obtain rfl : z = Value.ref bk := r10
        exact nd_dictSet (X := X.blk t3 G3 scope ce fp) hu I11 A11 n11 l11 r11 fun t12 G12 e12 A12 I12 => fin I12 (nx G12 e12 A12)
theorem pe_dcN {kx vx tg iter : Expr} {ifs : List Expr} {scope : Scope} {own : List (Str × Nat)} {pos : Pos} {wi : TI} {g : TG} {tt : TT} {tk tv : TE} (hu : X.A.units + 64 < cLine) (calm : X.calm = true) (nodup : X.N.Nodup) (hi : PI X tg iter wi) (ok : BlkOk X.N X.env.scope scope own)
    (pg0 : ∀ (s : Shared) (H : Hp) (C : Addr) (cl : List (Str × Addr)) (fp : List Addr), PG (X.blk s H scope (compEnvC scope cl C X.env) fp) tg g) (pt0 : ∀ (s : Shared) (H : Hp) (C : Addr) (cl : List (Str × Addr)) (fp : List Addr), PTs (X.blk s H scope (compEnvC scope cl C X.env) fp) ifs tt)
    (pk0 : ∀ (s : Shared) (H : Hp) (C : Addr) (cl : List (Str × Addr)) (fp : List Addr), PE (X.blk s H scope (compEnvC scope cl C X.env) fp) kx tk) (pv0 : ∀ (s : Shared) (H : Hp) (C : Addr) (cl : List (Str × Addr)) (fp : List Addr), PE (X.blk s H scope (compEnvC scope cl C X.env) fp) vx tv)
    (folded : ∀ x, foldedSetIterable iter X.env x = pure x := by intro _; rfl) : PE X (.DictComp kx vx [⟨tg, iter, ifs, 0⟩] scope pos) (tDcN X.K X.prog X.w wi g tt tk tv (own.map (·.2))) := by
  constructor
  intro pins t0 σ G Q I0 h
  rw [arm_eval_DictComp]
  refine dcN_core hu calm nodup hi ok pg0 pt0 pk0 pv0 folded I0 h fun D C t9 m G9 I9 q hn f => ⟨m, hn, fun h2 sb => ?_⟩
  obtain ⟨g0, g1, g2, g3, g4, g5⟩ := f
  exact ⟨.ref D, G9, I9.turned (t' := t9.toks) (fun b o hb e => (sb.2 b hb).trans e) g0 g1 g3 g4 g5, rfl, q⟩
/-- y = {k: v for x in xs}, y a plain local name on one line with it -/
theorem ps_setDcN {i : Nat} {y : Str} {py spos : Pos} {kx vx tg iter : Expr} {ifs : List Expr} {scope : Scope} {own : List (Str × Nat)} {pos : Pos} {wi : TI} {g : TG} {tt : TT} {tk tv : TE} (hy : X.N[i]? = some y) (hyl : X.env.scope.names.lookup y = some .local) (sw : swapsWith (.DictComp kx vx [⟨tg, iter, ifs, 0⟩] scope pos) (some (.Name y py)) spos.line X.env = pure true) (hu : X.A.units + 64 < cLine) (calm : X.calm = true) (nodup : X.N.Nodup) (hi : PI X tg iter wi) (ok : BlkOk X.N X.env.scope scope own)
    (pg0 : ∀ (s : Shared) (H : Hp) (C : Addr) (cl : List (Str × Addr)) (fp : List Addr), PG (X.blk s H scope (compEnvC scope cl C X.env) fp) tg g) (pt0 : ∀ (s : Shared) (H : Hp) (C : Addr) (cl : List (Str × Addr)) (fp : List Addr), PTs (X.blk s H scope (compEnvC scope cl C X.env) fp) ifs tt)
    (pk0 : ∀ (s : Shared) (H : Hp) (C : Addr) (cl : List (Str × Addr)) (fp : List Addr), PE (X.blk s H scope (compEnvC scope cl C X.env) fp) kx tk) (pv0 : ∀ (s : Shared) (H : Hp) (C : Addr) (cl : List (Str × Addr)) (fp : List Addr), PE (X.blk s H scope (compEnvC scope cl C X.env) fp) vx tv)
    (folded : ∀ x, foldedSetIterable iter X.env x = pure x := by intro _; rfl) : PS X (.Assign [.Name y py] (.DictComp kx vx [⟨tg, iter, ifs, 0⟩] scope pos) spos) (tAsg (tDcN X.K X.prog X.w wi g tt tk tv (own.map (·.2))) (gName i)) := by
  constructor
  intro pins t0 σ G D0 I0 h
  rw [exec_Assign_Name_used _ _ _ _ sw]
  refine wpAny_bind (wpAny_standAt (wpAny_bind ?_))
  show wpAny _ X.A (do let _ ← comprehension (.DictComp kx vx [⟨tg, iter, ifs, 0⟩] scope pos) scope X.env (firstIterPos [⟨tg, iter, ifs, 0⟩] pos) newDict false (eval iter X.env) (some (assign (.Name y py) X.env))) _ _ t0
  have h : tDcN X.K X.prog X.w wi g tt tk tv (own.map (·.2)) σ G (fun x G1 => gName i x σ G1 D0.nx) := h
  refine wpAny_bind (thn (dcN_core (Qf := fun _ t9 => SP X pins D0 .next t9) hu calm nodup hi ok pg0 pt0 pk0 pv0 folded I0 h fun D C t9 m G9 I9 q hn f => ?_) fun _ t9 hq => wpAny_pure (wpAny_pure hq))
  show wpAny _ _ (assign (.Name y py) X.env (.ref D)) _ _ _
  refine wpAny_assign_Name (store_ok2 (v := V.ref D) I9 nodup hy (.inl hyl) rfl (fun t2 I2 ⟨a, sb, ha⟩ => ?_) (.inr hyl))
  obtain ⟨g0, g1, g2, g3, g4, g5⟩ := f
  have ca : C ≠ a := by
    cases ha with
    | inl z => rw [z]; exact g1
    | inr z => exact fun e => g4 y a z e.symm
  refine ⟨m, hn.sameBut sb ca, fun h3 sb3 => ?_⟩
  exact ⟨_, G9, I2.turned (t' := t2.toks) (fun b o hb e => (sb3.2 b hb).trans e) g0 g1 g3 g4 g5, q⟩
theorem sw_dc {kx vx : Expr} {gs : List Comprehension} {scope : Scope} {pos py : Pos} {y : Str} {l : Nat} {env : Env} (hk : env.scope.kind = .function) (hy : env.scope.names.lookup y = some .local) (hl : (py.line == pos.line) = true)
    (ha : (scope.names.any fun (n, k) => n == y && (k == .local || k == .cell)) = false) : swapsWith (.DictComp kx vx gs scope pos) (some (.Name y py)) l env = pure true := by
  have k1 : env.kindOf y = some .local := hy
  have k2 : env.blockKind = .function := by
    unfold Env.blockKind
    rw [hk] <;> rfl
  unfold swapsWith
  simp only [k2, k1, ha, Expr.pos, hl] <;> rfl
end
end Nd

/-! A dict display of ints and texts, laid off sys.modules. -/
namespace Dz
open PySem PySem.Spec PyProof.Rows L2
def tDispZ (trs : List (TE × TE)) : TE := fun σ H Q => ∀ D, D ≠ sysModules → H D = none → tPairs trs σ (upd H D (.dK [])) fun ps A => A D = some (.dK []) ∧ ∃ es : List (Key × V), ps = es.map (fun e => (kV e.1, e.2)) ∧ es.length ≤ 15 ∧ Q (.ref D) (upd A D (.dK (mergeK [] es)))
theorem pe_dispZ {X : Cx} {pos : Pos} {ks : List (Option Expr)} {vs : List Expr} {trs : List (TE × TE)} (hp : PPs X pos ks vs trs) (some' : ks.all (·.isSome) = true) (len : ks.length = vs.length) (ne : ks ≠ []) (few : ks.length ≤ 15) : PE X (.Dict ks vs pos) (tDispZ trs) := by
  constructor
  intro pins t σ H Q I h
  have off : t.heap.objs.size ≠ sysModules := Nat.ne_of_gt I.big
  have new := I.hok.fresh (Nat.le_refl t.heap.objs.size)
  have J := I.laid (a := t.heap.objs.size) (o := .dK []) (h' := t.heap.push { cls := .type "dict", data := .dict #[] }) (t' := t.toks) (fun _ _ e => Heap.get?_push_of_some _ e) (Nat.le_refl _) (dk_empty t.heap I.big)
  refine wpAny_Dict_walk (knd := mixKind X.prog X.w) some' len ne few (thn (hp.run pins _ σ _ _ J (h _ off new)) fun ws t2 ⟨ps, A, J2, rel, e, es, ep, l15, k⟩ => ?_)
  cases ep
  obtain ⟨rs, cr, kr⟩ := carries_of (P := X.prog) (w := X.w) rel
  obtain ⟨_, no, us, r0, dd⟩ := dk_of J2.hok e
  cases r0
  refine ⟨rs, cr, dd, fun g dg keep => ⟨.ref t.heap.objs.size, _, ?_, rfl, k⟩⟩
  have small : (mergeK [] es).length ≤ sizeLine := Nat.le_trans (length_mergeK es []) (by rw [List.length_nil, sizeLine_eq]; omega)
  refine d_write J2 (by rw [e]; exact True.intro) keep ?_ (dk_new small no (kr.merge .nil) dg)
  obtain ⟨o, _, _, ho, _⟩ := dg
  exact ⟨o, ho⟩
end Dz

/-! x op y by the own def of x's class, y of a built-in type; a call that may raise in a try whose suite asks only its own name. -/
namespace Po
open PySem PySem.Spec PyProof.Rows L2
theorem passL {X : Cx} {W : WX} (n : Nat) (hn : X.N.length = n) (tk : Takes X W) : Passes (L2.CX X.prog X.w) X (fun cls d H => ∀ σ : L2.St, σ.length = n → W cls d σ H) :=
  fun _ σ _ _ e s' I c => tk e s' (XE.of_call I (fun _ _ _ h => h σ (I.len.trans hn)) c)
/-- what is asked of the type T on the right -/
structure RT (K : PySem.W.Frag) (op : Operator) (C : Addr) (T : String) : Prop where
  ex : ∃ fo ro : Option Value, PySem.W.findIn K (.type T) (PySem.dunder op.info.2) = some fo ∧ PySem.W.findIn K (.type T) (dunderR op.info.2) = some ro
  sub : PySem.W.subIn K (.type T) (.ref C) = some false
/-- and of the class on the left -/
structure LT (K : PySem.W.Frag) (op : Operator) (C : Addr) : Prop where
  rc : ∃ rc : Option Value, PySem.W.findIn K (.ref C) (dunderR op.info.2) = some rc ∧ (rc = none ∨ ∃ g : Addr, rc = some (.ref g))
  sf : PySem.W.selfFirst K C = true
section
open PySem.W
variable {prog : Program} {w : World} {A : Around} {E : Value → Shared → Prop} {s : Shared} {K : Frag} {x C L f : Addr} {h₀ : Heap} {m : Str → Option Value} {ox : Obj} {od : Option Obj} {T : String}
theorem bin_at {op : Operator} {b : Value} {Q : Value → Shared → Prop} (F : Fr h₀ L s.heap m) (kin : K.In h₀) (I : InstAt s.heap x ox C od) (hb : Looks (model prog w) s.heap (typeOf b) (.type T)) (lt : LT K op C)
    (own : findIn K (.ref C) (PySem.dunder op.info.2) = some (some (.ref f))) (fn : isFn K (.ref f) = true) (rt : RT K op C T)
    (go : wpAny (model prog w) A (call (.ref f) [.ref x, b]) (PySem.W.CmpBack Q) E s) : wpAny (model prog w) A (binaryOp op (.ref x) b) Q E s := by
  have kn := kin.keeps F.keep
  obtain ⟨⟨fo, ro, t1, t2⟩, apart⟩ := rt
  obtain ⟨⟨rc, back, bk⟩, first⟩ := lt
  obtain ⟨cd, rest, ecd, emro⟩ := ksp_first first
  rcases hop : op.info with ⟨sg, nm⟩
  rw [hop] at own back t1 t2
  dsimp only at own back t1 t2
  have tried := ksp_try kn I own fn go
  obtain ⟨hp, gn, dr, tks, oss⟩ := s
  have k1 : Looks (model prog w) hp (typeOf (Value.ref x)) (Value.ref C) := I.type
  have k2 : Looks (model prog w) hp (typeOf b) (Value.type T) := hb
  have k3 : Looks (model prog w) hp (fillsNumberSlot (Value.ref C) nm) true := fills_K kn ecd emro own
  have k4 := ksp_fillsT (M := model prog w) kn t1 t2
  have k5 : Looks (model prog w) hp (isSubtype (Value.type T) (Value.ref C)) false := looks_subIn kn apart
  have k6 : Looks (model prog w) hp (numberSlotInPython (Value.ref C) nm) true := ksp_inPy kn own back bk
  have k7 : Looks (model prog w) hp (numberSlotInPython (Value.type T) nm) false := Looks.of_pure rfl
  have k8 : Looks (model prog w) hp (typeLookup (Value.type T) (dunderR nm)) ro := looks_findIn kn t2
  revert k4
  generalize ((fo.isSome && !isSeqSlot fo) || (ro.isSome && !isSeqSlot ro)) = rgt
  intro k4
  have apart2 : (Value.ref C == Value.type T) = false := by
    cases q : (Value.ref C == Value.type T) with
    | false => rfl
    | true => cases beq_iff_eq.mp q
  simp only [binaryOp, hop]
  apply wpAny_holding
  apply wpAny_bind
  unfold binaryOp1
  refine wpAny_bind (k1.at ?_)
  refine wpAny_bind (k2.at ?_)
  refine wpAny_bind (k3.at ?_)
  simp only [apart2, Bool.false_eq_true, if_false]
  cases rgt <;>
    (ksp_lk
     refine wpAny_mono tried (fun r s' z => ?_) fun _ _ e => e
     obtain ⟨v, rfl, hq⟩ := z
     ksp_lk
     exact hq)
end
section
variable {X : Cx} {CX : CXT} {C g : Addr} {n : Nat} {sp : Sp} {E : XK}
/-- x op y by the own def of x's class at C; y of a built-in type -/
def rBinT (K : PySem.W.Frag) (op : Operator) (C : Addr) (sp : Sp) (E : XK) : R2 := fun x y H Q => ∃ a dx fs T, x = .ref a ∧ H a = some (.ins C dx fs) ∧ TyX K H y (.type T) ∧ RT K op C T ∧ sp [x, y] H Q E
theorem op_binI {op : Operator} (lt : LT X.K op C) (hs : PySem.W.findIn X.K (.ref C) (PySem.dunder op.info.2) = some (some (.ref g))) (hf : PySem.W.isFn X.K (.ref g) = true) (F : FnR X.prog X.w X.K X.mg X.base CX n g sp)
    (hr : Room n X.A) (hx : Passes CX X E) : OpR X (binaryOp op) (rBinT X.K op C sp E) := by
  intro pins s σ H x y v u Q I rx ry h
  obtain ⟨a, dx, fs, T, rfl, ha, ty, rt, q⟩ := h
  cases (show v = Value.ref a from rx)
  obtain ⟨ox, od, J⟩ := Ow.ins_at I ha
  obtain ⟨P, k, hp, _⟩ := kit_of I ry ty
  obtain ⟨m, hF⟩ := I.fr
  refine bin_at hF I.ok.mod.kin J (k.ty _ _ I.kIn hp) lt hs hf rt ?_
  refine wpAny_mono (wpAny_call (run_fnR (us := [.ref a, u]) (vs := [.ref a, y]) F hr hx I (.cons rfl (.cons ry .nil)) q)) (fun w s' z => ?_) fun _ _ x => x
  obtain ⟨z', H', I', rz, qz⟩ := z
  exact SlX.cmpback rz ⟨z', H', I', rz, qz⟩
end
end Po

/-! iter(text) as a value; list(x), x with an __iter__ that gives such a one, and an own __len__; yield from a list. -/
namespace Si2
open PySem PySem.Spec PyProof.Rows L2 ItX
abbrev AIt (h : Heap) (it : Addr) (x : Str) (i : Nat) : Prop := ∃ t, h.IsStrIter it "str_ascii_iterator" x t i
def sgs (x : Str) : List V := x.cps.toList.map fun c => V.str ⟨#[c]⟩
/-- an iterator of the text x, not begun -/
def SiO (x : Str) (it : Addr) : HO := .ext fun h => AIt h it x 0
theorem si_at {h h' : Heap} {it : Addr} {x : Str} {i : Nat} (y : AIt h it x i) (k : ∀ o, h.get? it = some o → h'.get? it = some o) : AIt h' it x i := by
  obtain ⟨t, o, e, r⟩ := y
  exact ⟨t, o, k o e, r⟩
theorem si_ok {P : Program} {w : World} {H : Hp} {h : Heap} {it : Addr} {x : Str} (y : AIt h it x 0) : ObjOk P w H h it (SiO x it) :=
  ⟨y, by obtain ⟨_, o, e, _⟩ := y; exact ⟨o, e⟩, fun _ _ p k => si_at p k⟩
theorem ai_ty {s : Shared} {it : Addr} {x : Str} {i : Nat} (y : AIt s.heap it x i) : s.TypeIs (.ref it) "str_ascii_iterator" := let ⟨_, o, e, c, _⟩ := y; ⟨o, e, c⟩
def rIterS : List V → Hp → VK → Prop := fun xs H Q => ∃ x : Str, xs = [.str x] ∧ x.cps.all (· < 128) = true ∧ ∀ it, H it = none → (∀ b o, H b = some o → b < it) → Q (.ref it) (upd H it (SiO x it))
section
variable {X : Cx}
theorem call_iterS : CallR X (.builtin "iter") rIterS := by
  intro pins s σ H xs us Q I r h
  obtain ⟨x, rfl, ha, q⟩ := h
  obtain ⟨u, rfl, ru⟩ := r.one
  obtain ⟨t, rfl⟩ := ru
  refine Calls.call_function_entry (by decide +kernel) (by decide +kernel) PySem.W.kdk_entry_iter (PySem.W.kdk_args_iter _) ?_
  unfold Builtin.«iter»
  refine wpAny_bind (m := someArgs "iter" 1 2 _) (wpAny_of_eq (a := [Value.str x t]) (by first | rfl | kernel_rfl!) ?_)
  show wpAny _ _ (pyIter (.str x t) >>= _) _ _ _
  refine wpAny_bind (wpAny_pyIter_ascii ha (wpAny_pure ⟨_, rfl, ?_⟩))
  refine ⟨.ref s.heap.objs.size, _, I.laid (t' := s.toks) (fun b u e => Heap.get?_push_of_some _ e) (Nat.le_refl _) (si_ok ⟨t, _, Heap.get?_push_size _ rfl, rfl, rfl⟩), rfl, q _ (I.hok.fresh (Nat.le_refl _)) fun b o e => ?_⟩
  exact (I.hok b o e).lt
end
section
variable {X : Cx} {pins : List (Addr × Obj)} {σ : L2.St} {q it : Addr} {x : Str} {A1 : Around} {Rs : Result → Shared → Prop}
/-- the list at q takes what the iterator gives -/
theorem fill (hh : A1.in1.handled = none) (few : (sgs x).length ≤ 1000) : ∀ (k i : Nat) (H : Hp) (s : Shared), (sgs x).length - i = k → i ≤ (sgs x).length → Inv X pins σ H s → H q = some (.lst ((sgs x).take i)) → FpOk X pins H it → AIt s.heap it x i →
    (∀ s', Inv X pins σ (upd H q (.lst (sgs x))) s' → Rs (.ok (.ret .none)) s') → codeAny (model X.prog X.w) A1 (.builtin "list.extend.loop" ⟨[.ref q, .ref it, .none], []⟩) Rs s := by
  intro k
  have sz := sizeLine_eq
  induction k with
  | zero =>
    intro i H s hk hi I hq fp st hd
    have e : i = (sgs x).length := by omega
    subst e
    obtain ⟨t, st⟩ := st
    obtain ⟨f0, f1, f2, f3, f4, f5⟩ := fp
    refine codeAny_builtin PySem.F.entry_extend_loop ?_
    rw [Around.under_plainId PySem.F.plain_extend_loop _]
    show wpAny _ A1.in1 (pyNext (.ref it) >>= _) _ _ s
    refine wpAny_bind (wpAny_pyNext_ascii_end hh st (Array.getElem?_eq_none (by rw [← Array.length_toList]; show x.cps.toList.length ≤ (sgs x).length; simp [sgs])) fun h' ex => ?_)
    have I1 := I.turned (t' := s.toks) (h' := h') (fun b o nb e => ex b o nb e) f0 f1 f3 f4 f5
    rw [List.take_length] at hq
    have e : upd H q (.lst (sgs x)) = H := by
      funext b
      by_cases c : b = q
      · rw [c, upd_same, hq]
      · rw [upd_ne c]
    exact wpAny_pure (hd _ (by rw [e]; exact I1))
  | succ k ih =>
    intro i H s hk hi I hq fp st hd
    have lt : i < (sgs x).length := by omega
    obtain ⟨t, st⟩ := st
    have lt2 : i < x.cps.size := by rw [← Array.length_toList]; simpa [sgs] using lt
    obtain ⟨f0, f1, f2, f3, f4, f5⟩ := id fp
    refine codeAny_builtin PySem.F.entry_extend_loop ?_
    rw [Around.under_plainId PySem.F.plain_extend_loop _]
    show wpAny _ A1.in1 (pyNext (.ref it) >>= _) _ _ s
    refine wpAny_bind (wpAny_pyNext_ascii_item st (c := x.cps[i]) (Array.getElem?_eq_getElem lt2) fun h' st' sb => ?_)
    have I1 := I.turned (t' := s.toks + 1) (h' := h') (fun b o nb e => (sb.2 b nb).trans e) f0 f1 f3 f4 f5
    obtain ⟨z, ls, kk, r2, hl, e⟩ := I1.lstM hq
    have ll := r2.length
    rw [List.length_take] at ll
    show wpAny _ A1.in1 (updateSeq q (·.push (.str ⟨#[x.cps[i]]⟩ s.toks)) >>= _) _ _ _
    have nq : it ≠ q := fun c => by rw [← c, f0] at hq; cases hq
    refine wpAny_bind (wpAny_updateSeq e rfl (wpAny_pure ⟨plainId_quiet PySem.F.plain_extend_loop _, ?_⟩) (by rw [List.size_toArray]; omega) (by show (ls.toArray.push (.str ⟨#[x.cps[i]]⟩ s.toks)).size ≤ sizeLine + 1; rw [Array.size_push, List.size_toArray]; omega))
    have I2 := I1.lset (f := (·.push (.str ⟨#[x.cps[i]]⟩ s.toks))) (its' := ls ++ [.str ⟨#[x.cps[i]]⟩ s.toks]) (t' := s.toks + 1) hq e (by simp) (ys := (sgs x).take i ++ [V.str ⟨#[x.cps[i]]⟩]) (r2.append (.cons ⟨_, rfl⟩ .nil)) (by rw [List.length_append, List.length_singleton, List.length_take]; omega)
    have tk : (sgs x).take i ++ [V.str ⟨#[x.cps[i]]⟩] = (sgs x).take (i + 1) := by rw [List.take_add_one, List.getElem?_eq_getElem lt]; simp [sgs]
    rw [tk] at I2
    refine ih (i + 1) _ _ (by omega) lt I2 upd_same ⟨by rw [upd_ne nq]; exact f0, f1, f2, f3, f4, f5⟩ (si_at ⟨t, st'⟩ fun o e => (Heap.get?_update_other _ _ (Ne.symm nq)).trans e) fun s' I' => hd s' (by rw [upd_upd] at I'; exact I')
end
section
variable {X : Cx} {C fi fl : Addr} {spI spL : Sp} {EI EL : XK} {n : Nat}
/-- list(x): its __iter__ gives an iterator of a tuple, its __len__ a number -/
def rListItS (K : PySem.W.Frag) (C : Addr) (spI spL : Sp) (EI EL : XK) : List V → Hp → VK → Prop := fun xs H Q => ∃ a dx fs, xs = [.ref a] ∧ H a = some (.ins C dx fs) ∧ ∀ q, H q = none → spI [.ref a] (upd H q (.lst []))
  (fun v H1 => ∃ it x, v = .ref it ∧ H1 it = some (SiO x it) ∧ q < it ∧ (sgs x).length ≤ 1000 ∧ H1 q = some (.lst []) ∧ H1 a = some (.ins C dx fs) ∧
    spL [.ref a] H1 (fun z H2 => ∃ i : Int, z = .int i ∧ 0 ≤ i ∧ i < 1000 ∧ H2 = H1 ∧ Q (.ref q) (upd (dropH H1 it) q (.lst (sgs x)))) EL) EI
theorem call_listItS (hs : PySem.W.findIn X.K (.ref C) "__iter__" = some (some (.ref fi))) (hf : PySem.W.isFn X.K (.ref fi) = true) (hl : PySem.W.findIn X.K (.ref C) "__len__" = some (some (.ref fl))) (hlf : PySem.W.isFn X.K (.ref fl) = true)
    (FI : FnR X.prog X.w X.K X.mg X.base CX0 n fi spI) (FL : FnR X.prog X.w X.K X.mg X.base CX0 n fl spL) (hc : X.calm = true) (hr : Room (n + 4) X.A) : CallR X (.type "list") (rListItS X.K C spI spL EI EL) := by
  intro pins s σ H xs us Q I rv h
  obtain ⟨a, dx, fs, rfl, ha, hq⟩ := h
  obtain ⟨u, rfl, ru⟩ := rv.one
  cases (show u = Value.ref a from ru)
  have sb : Sub X (n + 1) X.A.in1.in1.in1 := Sub.in1 (Sub.in1 (Sub.in1 ⟨hr, rfl⟩))
  refine callType_codes (Q₁ := fun obj s₁ => obj = .ref s.heap.objs.size ∧ s₁ = { s with heap := s.heap.push { cls := .type "list", data := .seq #[] } })
    PySem.F.called_list (PySem.F.typeCall_list_1 _) PySem.F.entry_list_init (code_list_new _ ⟨rfl, rfl⟩) fun obj s₁ h₁ => ?_
  obtain ⟨rfl, rfl⟩ := h₁
  have hS : (s.heap.push { cls := .type "list", data := .seq #[] }).get? s.heap.objs.size = some { cls := .type "list", data := .seq #[] } := Heap.get?_push_size _ rfl
  refine ⟨⟨_, hS, rfl⟩, PySem.F.args_list_init_2 _ _, ?_⟩
  have fr : H s.heap.objs.size = none := I.hok.fresh (Nat.le_refl _)
  have hsp := hq _ fr
  have young : X.s_0.heap.objs.size ≤ s.heap.objs.size := I.sz
  have I1 : Inv X pins σ (upd H s.heap.objs.size (.lst [])) { s with heap := s.heap.push { cls := .type "list", data := .seq #[] } } := I.lnew (its := []) (t' := s.toks) .nil (Nat.zero_le _)
  show wpAny _ _ (Builtin.List.listItems (.ref s.heap.objs.size) >>= fun old => Builtin.List.listUpdate (.ref s.heap.objs.size) (fun _ => #[]) >>= fun _ => letGo old.toList.reverse >>= fun _ => Builtin.List.listExtendWith (.ref s.heap.objs.size) (.ref a) .none) _ _ _
  refine wpAny_bind ?_
  unfold Builtin.List.listItems
  refine wpAny_bind (wpAny_seqItems hS rfl (wpAny_pure ?_))
  show wpAny _ _ (updateSeq s.heap.objs.size (fun _ => #[]) >>= fun _ => letGo (#[] : Array Value).toList.reverse >>= fun _ => Builtin.List.listExtendWith (.ref s.heap.objs.size) (.ref a) .none) _ _ _
  refine wpAny_bind (wpAny_updateSeq hS rfl ?_)
  have I2 := I1.lset (f := fun _ => #[]) (its := []) (its' := []) (ys := []) (t' := s.toks) upd_same hS rfl .nil (Nat.zero_le _)
  rw [upd_upd] at I2
  refine wpAny_bind (wpAny_letGo ?_)
  have ha2 : upd H s.heap.objs.size (.lst []) a = some (.ins C dx fs) := by rw [upd_ne (ne_of_none ha fr)]; exact ha
  have nqa : s.heap.objs.size ≠ a := (ne_of_none ha fr).symm
  have low : s.heap.objs.size < ({ s with heap := (s.heap.push { cls := .type "list", data := .seq #[] }).update s.heap.objs.size (Obj.mapSeq fun _ => #[]) } : Shared).heap.objs.size := (I2.hok _ _ upd_same).lt
  generalize hq0 : s.heap.objs.size = q at *
  generalize ({ s with heap := (s.heap.push { cls := .type "list", data := .seq #[] }).update q (Obj.mapSeq fun _ => #[]) } : Shared) = s1 at *
  generalize hH1 : upd H q (.lst []) = H1 at *
  have hq1 : H1 q = some (.lst []) := by rw [← hH1]; exact upd_same
  obtain ⟨ox, od, J⟩ := Ow.ins_at I2 ha2
  obtain ⟨m0, hF⟩ := I2.fr
  unfold Builtin.List.listExtendWith
  refine wpAny_bind (J.type.here ?_)
  have b1 : Builtin.List.listSameRef (.ref q) (.ref a) = false := by simp [Builtin.List.listSameRef, nqa]
  have b2 : (Value.ref C == Value.type "list") = false ∧ (Value.ref C == Value.type "tuple") = false := ⟨rfl, rfl⟩
  simp only [b1, b2.1, b2.2, Bool.or_false, Bool.false_eq_true, if_false]
  refine wpAny_bind (PySem.W.owit_iter hF I2.ok.mod.kin J hs hf ?_)
  have env : ∀ {s2 : Shared} {H2 : Hp}, Inv X pins σ H2 s2 → Env0 X.prog X.w X.K X.mg X.base X.A.in1.in1 X.stack s2 H2 := fun I => by
    have e := I.env0
    exact ⟨e.frames, e.mod, e.bs, e.bsz, e.funs, e.frf, e.hok, e.bare⟩
  have room0 : Room (n + 1) X.A.in1.in1 := (hr.in1.in1).mono (by omega)
  have room1 : Room n X.A.in1.in1 := room0.mono (by omega)
  refine wpAny_mono (wpAny_call (Li.sure_at (us := [.ref a]) (ws := [.ref a]) FI room1 (env I2) I2 (.cons rfl .nil) hsp)) (fun v s3 hv => ?_) fun _ _ x => x.elim
  obtain ⟨v', H3, I3, rv3, it, x, rfl, hit, qlt, few, hq3, ha3, hsp2⟩ := hv
  cases (show v = Value.ref it from rv3)
  have st3 : AIt s3.heap it x 0 := (I3.hok it _ hit).1
  unfold PySem.W.OwitIt
  refine wpAny_specialOf (name := Str.ofString "__next__") (ai_ty st3) PySem.F.slot_str_ascii_iterator_next.lookup ?_
  refine wpAny_bind (wpAny_holding ?_)
  unfold Builtin.List.listLengthHint
  obtain ⟨ox3, od3, J3⟩ := Ow.ins_at I3 ha3
  obtain ⟨m3, hF3⟩ := I3.fr
  refine wpAny_bind (wpAny_bind (J3.type.here ((PySem.W.looks_findIn I3.kIn hl).here ?_)))
  refine PySem.W.KFB.if_not rfl ?_
  refine wp_if_pos rfl (wpAny_bind (wpAny_rule (wpAny_bind (wpAny_attempt ?_))))
  refine PySem.W.len_K hF3 I3.ok.mod.kin J3 hl hlf (wpAny_mono (wpAny_call (Li.sure_at (us := [.ref a]) (ws := [.ref a]) FL (room0.in1) (env I3).in1 I3 (.cons rfl .nil) hsp2)) (fun w s4 z => ?_) fun _ _ x => x.elim)
  obtain ⟨z', H4, I4, rz, i, rfl, h0, h1, rfl, qz⟩ := z
  obtain ⟨tk, e⟩ := (show ∃ tk, w = Value.int i tk from rz)
  cases e
  refine ⟨⟨h0, by omega⟩, ?_⟩
  dsimp only
  refine wpAny_bind (wpAny_of_eq (a := some i) rfl ?_)
  have sl := sizeLine_eq
  refine wp_if_neg (by unfold Builtin.List.listTooLong; rw [decide_eq_true_eq]; omega) (wpAny_pure ?_)
  have I5 := inv_drop (I4.tok (s4.toks + 1)) hit
  have fp : FpOk X pins (dropH H4 it) it := inv_fp I4 hit (Nat.le_trans young (Nat.le_of_lt qlt))
  have nqi : q ≠ it := Nat.ne_of_lt qlt
  have hq5 : dropH H4 it q = some (.lst []) := (dropH_ne nqi).trans hq3
  have st5 : AIt s4.heap it x 0 := (I4.hok it _ hit).1
  have hh : X.A.in1.in1.handled = none := by simp [I.ok.hd hc]
  have go : ∀ s6 : Shared, Inv X pins σ (dropH H4 it) s6 → AIt s6.heap it x 0 → codeAny (model X.prog X.w) X.A.in1 (.builtin "list.extend.loop" ⟨[.ref q, .ref it, .none], []⟩) (wants (fun r s₂ => r = .none ∧ EP X pins σ Q (.ref q) s₂) X.xe) s6 := fun s6 I6 st6 =>
    fill (x := x) hh few ((sgs x).length - 0) 0 _ s6 rfl (Nat.zero_le _) I6 hq5 fp st6 fun s7 I7 => ⟨rfl, ⟨.ref q, _, I7, rfl, qz⟩⟩
  refine wpAny_ite_split (fun _ => ?_) fun _ => wpAny_pure ⟨plainId_quiet PySem.F.plain_extend_loop _, go _ I5 st5⟩
  refine wpAny_bind (wpAny_rule (wpAny_bind ?_))
  obtain ⟨z5, its5, k5, r5, l5, e5⟩ := I5.lstM hq5
  cases r5
  show wpAny _ _ (updateSeq q (·.push Value.none) >>= fun _ => updateSeq q (·.pop)) _ _ _
  refine wpAny_bind (wpAny_updateSeq e5 rfl ?_)
  have I6 := I5.lset (f := (·.push Value.none)) (its' := [Value.none]) (ys := [.non]) (t' := s4.toks + 1) hq5 e5 (by simp) (.cons rfl .nil) (by rw [List.length_singleton, sl]; decide)
  obtain ⟨z6, its6, k6, r6, l6, e6⟩ := I6.lstM upd_same
  obtain ⟨u6, rfl, ru6⟩ := r6.one
  refine wpAny_updateSeq e6 rfl ?_ (by show 1 ≤ sizeLine; rw [sl]; decide) (by show 0 ≤ sizeLine + 1; exact Nat.zero_le _)
  have I7 := I6.lset (f := (·.pop)) (its := [u6]) (its' := []) (ys := []) (t' := s4.toks + 1) upd_same e6 (by rfl) .nil (Nat.zero_le _)
  rw [upd_upd, show upd (dropH H4 it) q (.lst []) = dropH H4 it from funext fun b => by
    by_cases c : b = q
    · rw [c, upd_same, hq5]
    · rw [upd_ne c]] at I7
  refine wpAny_pure ⟨plainId_quiet PySem.F.plain_extend_loop _, go _ I7 (si_at st5 fun o e => ?_)⟩
  exact (Heap.get?_update_other _ _ nqi).trans ((Heap.get?_update_other _ _ nqi).trans e)
end

section
variable {prog : Program} {w : World} {A : Around} {E : Value → Shared → Prop} {s : Shared}
theorem special_lst_item {it l : Addr} {i : Nat} {items : Array Value} {x : Value} {Q : Option Value → Shared → Prop} (hit : s.heap.IsListIter it l i) (hl : s.heap.IsList l items) (hx : items[i]? = some x)
    (hQ : ∀ h', h'.IsListIter it l (i + 1) → Heap.SameBut it s.heap h' → Q (some x) { s with heap := h' }) : wpAny (model prog w) A (callSpecial? (.ref it) "__next__") Q E s := by
  obtain ⟨o, ho, hc, hd⟩ := id hit
  obtain ⟨ol, hol, _, nl, hdl⟩ := hl
  refine wpAny_callSpecial?_slot (name := Str.ofString "__next__") hit.typeIs slot_listiter_next (wpAny_call_entry slot_listiter_next hit.typeIs entry_listiter_next ?_ (args_listiter_next _))
  show wpAny _ _ (field (.ref it) 0 >>= _) _ _ s
  refine wpAny_bind (wpAny_field ho hd (x := .ref l) rfl ?_)
  show wpAny _ _ (if (Value.ref l == Value.none) = true then _ else _) _ _ s
  rw [if_neg (show ¬ ((Value.ref l == Value.none) = true) from Bool.false_ne_true)]
  show wpAny _ _ (field (.ref it) 1 >>= _) _ _ s
  refine wpAny_bind (wpAny_field ho hd (x := .int i 0) rfl ?_)
  show wpAny _ _ (seqItems? (.ref l) >>= _) _ _ s
  refine wpAny_bind (wpAny_seqItems hol hdl ?_)
  simp only [Int.toNat_natCast, hx]
  refine wpAny_bind (wpAny_setField ho hd (by simp) (wpAny_pure ⟨x, rfl, hQ _ ?_ (Heap.SameBut.update ..)⟩))
  exact ⟨_, Heap.get?_update_self _ ho (Obj.isFreed_of_fields (Obj.data_mapFields hd _)), (Obj.cls_mapFields ..).trans hc, by
    rw [Obj.data_mapFields hd]; simp [rawInt]⟩
theorem special_lst_end {it l : Addr} {i : Nat} {items : Array Value} {Q : Option Value → Shared → Prop} (hh : A.handled = none) (hit : s.heap.IsListIter it l i) (hl : s.heap.IsList l items) (hx : items[i]? = none)
    (hE : ∀ e h', StopX e h' → Heap.ExtBut it s.heap h' → E e { s with heap := h' }) : wpAny (model prog w) A (callSpecial? (.ref it) "__next__") Q E s := by
  obtain ⟨o, ho, hc, hd⟩ := id hit
  obtain ⟨ol, hol, _, nl, hdl⟩ := hl
  refine wpAny_callSpecial?_slot (name := Str.ofString "__next__") hit.typeIs slot_listiter_next (wpAny_call_entry slot_listiter_next hit.typeIs entry_listiter_next ?_ (args_listiter_next _))
  show wpAny _ _ (field (.ref it) 0 >>= _) _ _ s
  refine wpAny_bind (wpAny_field ho hd (x := .ref l) rfl ?_)
  show wpAny _ _ (if (Value.ref l == Value.none) = true then _ else _) _ _ s
  rw [if_neg (show ¬ ((Value.ref l == Value.none) = true) from Bool.false_ne_true)]
  show wpAny _ _ (field (.ref it) 1 >>= _) _ _ s
  refine wpAny_bind (wpAny_field ho hd (x := .int i 0) rfl ?_)
  show wpAny _ _ (seqItems? (.ref l) >>= _) _ _ s
  refine wpAny_bind (wpAny_seqItems hol hdl ?_)
  simp only [Int.toNat_natCast, hx]
  refine wpAny_bind (wpAny_rule (wpAny_bind (wpAny_setField ho hd (by simp) ?_)))
  show wpAny _ _ (newExc (.type "StopIteration") [] >>= _) _ _ _
  refine wpAny_bind ?_
  simp only [newExc, newTuple]
  refine wpAny_bind (wpAny_newObj_type ?_ (by size_fits))
  refine wpAny_bind (m := firstArgMember _ _) (wpAny_of_eq (a := Value.none) (by first | rfl | (simp only [firstArgMember]; rfl)) ?_)
  refine wpAny_newObj_type ?_ (by size_fits)
  simp only [raiseNew]
  refine wpAny_bind (wpAny_handled ?_)
  first | rw [show A.in1.handled = none from hh] | rw [hh]
  refine wpAny_bind (wpAny_pure (wpAny_throw ?_))
  refine hE _ _ ⟨_, _, _, rfl, Heap.get?_push_size _ rfl, rfl, rfl, ?_⟩ (((Heap.SameBut.update ..).extBut.push _).push _)
  first
    | rfl
    | (rw [Array.getElem?_append_left (by decide)]; rfl)
    | kernel_rfl
end
section
variable {X : Cx} {e : Expr} {te : TE}
def tYfLst (te : TE) : TYf := fun σ H Q => te σ H fun x H1 => ∃ a xs, x = .ref a ∧ H1 a = some (.lst xs) ∧ Q xs H1
theorem close_lst : typeLookup (.type "list_iterator") "close" = pure none := by rw [typeLookup_type, builtinLookup_eq_fast]; kernel_rfl
theorem yf_lst (he : PE X e te) : YfE X e (tYfLst te) := by
  refine ⟨fun pins s σ H Q I h => ?_⟩
  refine thn (he.run pins s σ H _ I h) fun v s1 ⟨x, H1, I1, r1, a, xs, ex, ha, hq⟩ => ?_
  subst ex
  obtain rfl : v = Value.ref a := r1
  obtain ⟨its, rits, pl, hlen⟩ := I1.list (SqL.of ha)
  have ht : s1.heap.IsList a its.toArray := pl.isList
  refine ⟨"list", ht.typeIs, by decide, wpAny_pyIter_list ht ?_⟩
  have lta : a < s1.heap.objs.size := let ⟨_, e, _⟩ := ht; Heap.lt_size e
  have ksz : ∀ b o, s1.heap.get? b = some o → b ≠ s1.heap.objs.size := fun b o e => Nat.ne_of_lt (Heap.lt_size e)
  have kp : ∀ b o, s1.heap.get? b = some o → (s1.heap.push { cls := .type "list_iterator", data := .fields #[.ref a, .int 0 0] }).get? b = some o := fun b o e => Heap.get?_push_of_some _ e
  refine ⟨s1.heap.objs.size, H1, xs, fun j h => h.IsListIter s1.heap.objs.size a j ∧ h.IsList a its.toArray, rfl, I1.kept (t' := s1.toks) kp, .inr I1.sz, Nat.ne_of_gt I1.lt, fun y c hy => ?_, I1.hok.fresh (Nat.le_refl _), fun p hp => ?_,
    ⟨⟨_, Heap.get?_push_size _ rfl, rfl, rfl⟩, ht.push _⟩, ⟨⟨"list_iterator", fun j h q => ?_, close_lst, by decide⟩, fun j h h' q hk => ?_, fun A' j x s2 Q' E' hA hx q hQ => ?_, fun A' s2 Q' E' hA q hE => ?_⟩, hq⟩
  · obtain ⟨v, o, ho, _⟩ := I1.cell y c hy
    exact ksz c o ho
  · exact ksz p.1 _ (I1.pin p hp).1
  · obtain ⟨⟨o, ho, hc, _⟩, _⟩ := q
    exact ⟨o, ho, hc⟩
  · obtain ⟨⟨o, ho, r⟩, o2, ho2, r2⟩ := q
    exact ⟨⟨o, hk _ o (.inl rfl) ho, r⟩, o2, hk _ o2 (.inr (by rw [ha]; exact fun z => by cases z)) ho2, r2⟩
  · obtain ⟨q1, q2⟩ := q
    obtain ⟨u, hu, ru⟩ := rits.get hx
    have hne : a ≠ s1.heap.objs.size := Nat.ne_of_lt lta
    exact special_lst_item q1 q2 (x := u) (by simpa using hu) fun h' q1' hs => hQ u h' s2.toks ru ⟨q1', q2.extBut hs.extBut hne⟩ fun b o hb eb => hs.extBut b o hb eb
  · obtain ⟨q1, q2⟩ := q
    have hnone : its.toArray[xs.length]? = none := by
      have e := rits.length
      have e2 : its[xs.length]? = none := List.getElem?_eq_none_iff.mpr (by omega)
      simpa using e2
    exact special_lst_end hA q1 q2 hnone fun e h' hS hk => hE e h' s2.toks hS fun b o hb eb => hk b o hb eb
end
end Si2

/-! list(text); a call that may raise in a try, where no StopIteration comes. -/
namespace St2
open PySem PySem.Spec PyProof.Rows L2
theorem passLN {X : Cx} {W : WX} (n : Nat) (hn : X.N.length = n) (tk : Takes X W) : Passes (L2.CX X.prog X.w) X (fun cls d H => PySem.W.subIn X.K cls (.type "StopIteration") = some false ∧ ∀ σ : L2.St, σ.length = n → W cls d σ H) :=
  fun _ σ _ _ e s' I c => tk e s' (XE.of_call I (fun _ _ _ h => h.2 σ (I.len.trans hn)) c)
theorem pss_two {X : Cx} {a b : Stmt} {t u v : TS} (h : PS X a t) (g : PS X b u) (e : v = tSeq t u) : PSs X [a, b] v := by
  subst e
  exact pss_cons h (pss_one g)
/-- C(e, ..) whose __init__ may raise: what is raised is wished for at the slots as they stand -/
def tMakeS (C : Addr) (sp : Sp) (E : L2.St → XK) (t : TA) : TE := fun σ H Q => t σ H fun vs H1 => ∀ x dx, H1 x = none → H1 dx = none → dx ≠ x →
  sp (.ref x :: vs) (upd (upd H1 dx (.own x)) x (.ins C dx [])) (fun v H2 => v = .non ∧ Q (.ref x) H2) (E σ)
theorem pe_makeS {X : Cx} {CX : CXT} {k : Nat} {f C : Addr} {fd : FuncData} {ps : List Str} {sp : Sp} {E : L2.St → XK} {x : Str} {p pos : Pos} {e : Expr} {es : List Expr} {t : TA} (M : Mk X.K C f) (F : FnOk X.prog X.w X.K X.mg X.base CX k f fd ps sp) (hr : Room (k + 1) X.A) (hg : Gl X x) (hm : X.mg x = some (.ref C)) (hb : Binds X.K fd ps [])
    (hx : ∀ σ, PassesAt CX X σ (E σ)) (ha : PA X (e :: es) t) (hdb : (x == ("__debug__" : Str)) = false := by decide) (he : starEach (e :: es) X.env = (false, eval e X.env) :: starEach es X.env := by rfl) (hpl : (backTo pos (starEach es X.env)).any (·.1) = false := by rfl) :
    PE X (.Call (.Name x p) (e :: es) [] pos) (tMakeS C sp E t) := by
  constructor
  intro pins s σ H Q I h
  refine wpAny_Call_Name_kw (ld_glob I hg hm ?_ hdb)
  refine PySem.W.callWith_K (h₀ := X.base) I.ok.mod.kin M.kp (thn (ha.run pos pins s σ H _ I h) fun us s1 w => ?_) he hpl
  obtain ⟨vs, H1, J, r, q⟩ := w
  refine ⟨J.kIn, ?_⟩
  have free := J.hok.fresh (Nat.le_refl s1.heap.objs.size)
  have go := q (s1.heap.objs.size + 1) _ (J.hok.fresh (Nat.le_succ _)) free (Nat.ne_of_lt (Nat.lt_succ_self _))
  have J2 := Inv.made (C := C) J
  have r2 : Vals (V.ref (s1.heap.objs.size + 1) :: vs) (Value.ref (s1.heap.objs.size + 1) :: us) := .cons rfl r
  have many := (r2.length.symm.trans (F.len _ _ _ _ go)).trans rfl
  have bound := hb _ (Value.ref (s1.heap.objs.size + 1) :: us) J2.kIn (by rw [List.append_nil]; exact many)
  rw [List.append_nil] at bound
  have ran := F.run _ X.stack _ _ _ _ _ _ (E σ) (hr.make C us []) (J2.env0.make C us []) bound r2 go
  refine wpAny_call (make_map (f := f) J.kIn M.makes M.init (beq_iff_eq.mp M.fn) (codeAny_mono ran fun z t2 hz => ?_))
  match z, hz with
  | .error _, hz => exact hx σ pins _ _ _ _ J2 hz
  | .ok (.ret _), hz =>
    obtain ⟨_, _, J3, rv, ev, q3⟩ := J2.after hz
    subst ev
    exact ⟨rv, V.ref (s1.heap.objs.size + 1), _, J3, rfl, q3⟩
  | .ok .next, hz => exact hz.elim
  | .ok .brk, hz => exact hz.elim
  | .ok .cont, hz => exact hz.elim
theorem noStop {K : PySem.W.Frag} {P : Value → Option Addr → Hp → Prop} : NoStop K (fun cls d H => PySem.W.subIn K cls (.type "StopIteration") = some false ∧ P cls d H) := fun _ _ _ h => h.1
theorem vals_signs {x : Str} {acc : Array Value} (h : ItemsOf (SignAt x) acc x.cps.size) : Vals (Si2.sgs x) acc.toList := by
  refine vals_of_at ?_ fun j a u ha hu => ?_
  · rw [show acc.toList.length = x.cps.size from (Array.length_toList).trans h.1]
    simp [Si2.sgs]
  · obtain ⟨c, t, hc, rfl⟩ := h.2 j u (by rw [← hu, Array.getElem?_toList])
    unfold Si2.sgs at ha
    rw [List.getElem?_map, Array.getElem?_toList, hc] at ha
    cases ha
    exact ⟨t, rfl⟩
def rListS : List V → Hp → VK → Prop := fun xs H Q => ∃ x : Str, xs = [.str x] ∧ x.length ≤ sizeLine ∧ ∀ q, H q = none → Q (.ref q) (upd H q (.lst (Si2.sgs x)))
theorem call_listS {X : Cx} (hc : X.calm = true) : CallR X (.type "list") rListS := by
  intro pins s σ H xs us Q I r h
  obtain ⟨x, rfl, hl, q⟩ := h
  obtain ⟨u, rfl, ru⟩ := r.one
  obtain ⟨t, rfl⟩ := ru
  refine call_list_str (I.ok.hd hc) x t (fun h' tk acc c' hk e' hi => ?_) hl
  refine ⟨.ref s.heap.objs.size, upd H s.heap.objs.size (.lst (Si2.sgs x)), I.laid hk (Nat.le_refl _) (show ObjOk X.prog X.w _ _ _ (.lst (Si2.sgs x)) from ⟨?_, acc.toList, c', vals_signs hi, ?_⟩), rfl, q _ (I.hok.fresh (Nat.le_refl _))⟩
  · show (Si2.sgs x).length ≤ sizeLine
    unfold Si2.sgs
    rw [List.length_map, Array.length_toList]
    exact hl
  · rw [Array.toArray_toList]; exact e'
end St2

namespace K59
open PySem L2
def top (i : Nat) : Stmt := PySem.Challenge.pw_wheelchorus_k59_tables_of_standings_judg.main.body.getD i (.Pass ⟨0, 0, 0, 0⟩)
abbrev s_is_whole : Stmt := top 10
abbrev s_is_whole_within : Stmt := top 11
abbrev s_is_sequence : Stmt := top 12
abbrev s_is_number : Stmt := top 17
abbrev s_is_station : Stmt := top 25
abbrev s_is_crew : Stmt := top 26
abbrev s_is_stations : Stmt := top 24
abbrev s_is_order : Stmt := top 27
abbrev s_are_counts : Stmt := top 28
abbrev s_is_move : Stmt := top 30
abbrev s_are_moves : Stmt := top 29
abbrev s_cinit : Stmt := inClass (top 23) 1
abbrev s_check_crew : Stmt := top 39
abbrev s_check_card : Stmt := top 38
abbrev s_rinit : Stmt := inClass (top 37) 0
abbrev s_rstart : Stmt := inClass (top 37) 1
abbrev s_card_index : Stmt := inClass (top 37) 3
abbrev s_card_of : Stmt := inClass (top 37) 2
abbrev s_grade_in : Stmt := inClass (top 37) 4
abbrev s_open_count : Stmt := top 42
abbrev s_rallowed : Stmt := inClass (top 37) 5
abbrev s_crews_at : Stmt := top 40
abbrev s_can_move : Stmt := top 41
abbrev s_with_grade : Stmt := inClass (top 37) 9
abbrev s_can_go_home : Stmt := inClass (top 37) 10
abbrev s_close : Stmt := inClass (top 37) 8
abbrev s_lift : Stmt := inClass (top 37) 7
abbrev s_rstep : Stmt := inClass (top 37) 6
abbrev s_makes_short : Stmt := top 44
abbrev s_is_pair : Stmt := top 48
abbrev s_are_grades : Stmt := top 49
abbrev s_is_place : Stmt := top 50
abbrev s_is_standing : Stmt := top 47
abbrev s_table_fault : Stmt := top 46
abbrev s_bag : Stmt := top 52
abbrev s_take : Stmt := top 53
abbrev s_of : Stmt := top 54
abbrev s_number : Stmt := top 55
abbrev s_numbers : Stmt := top 56
abbrev s_cards : Stmt := top 57
abbrev s_sent : Stmt := top 58
abbrev s_back : Stmt := top 59
abbrev s_step : Stmt := top 60
abbrev s_start : Stmt := top 61
abbrev s_allowed : Stmt := top 62
abbrev s_made : Stmt := top 63
abbrev s_room : Stmt := top 64
abbrev s_walked : Stmt := top 65
abbrev s_lis_whole : Stmt := top 66
abbrev s_lis_place : Stmt := top 67
abbrev s_lis_standing : Stmt := top 68
abbrev s_due : Stmt := top 69
abbrev s_turned : Stmt := top 70
abbrev s_bent : Stmt := top 71
abbrev s_law : Stmt := top 72
abbrev nm_is_whole : List Str := ["thing"]
theorem sc_is_whole : FnScope nm_is_whole ["thing"] (defScope s_is_whole) :=
  ⟨rfl, rfl, rfl, by decide +kernel, rfl, by decide +kernel, by decide +kernel⟩
abbrev nm_is_whole_within : List Str := ["thing", "low", "high"]
theorem sc_is_whole_within : FnScope nm_is_whole_within ["thing", "low", "high"] (defScope s_is_whole_within) :=
  ⟨rfl, rfl, rfl, by decide +kernel, rfl, by decide +kernel, by decide +kernel⟩
abbrev nm_is_sequence : List Str := ["thing"]
theorem sc_is_sequence : FnScope nm_is_sequence ["thing"] (defScope s_is_sequence) :=
  ⟨rfl, rfl, rfl, by decide +kernel, rfl, by decide +kernel, by decide +kernel⟩
abbrev nm_is_number : List Str := ["thing", "letter"]
theorem sc_is_number : FnScope nm_is_number ["thing"] (defScope s_is_number) :=
  ⟨rfl, rfl, rfl, by decide +kernel, rfl, by decide +kernel, by decide +kernel⟩
abbrev nm_is_station : List Str := ["thing"]
theorem sc_is_station : FnScope nm_is_station ["thing"] (defScope s_is_station) :=
  ⟨rfl, rfl, rfl, by decide +kernel, rfl, by decide +kernel, by decide +kernel⟩
abbrev nm_is_crew : List Str := ["thing"]
theorem sc_is_crew : FnScope nm_is_crew ["thing"] (defScope s_is_crew) :=
  ⟨rfl, rfl, rfl, by decide +kernel, rfl, by decide +kernel, by decide +kernel⟩
abbrev nm_is_stations : List Str := ["thing", "station"]
theorem sc_is_stations : FnScope nm_is_stations ["thing"] (defScope s_is_stations) :=
  ⟨rfl, rfl, rfl, by decide +kernel, rfl, by decide +kernel, by decide +kernel⟩
abbrev nm_is_order : List Str := ["thing", "crew"]
theorem sc_is_order : FnScope nm_is_order ["thing"] (defScope s_is_order) :=
  ⟨rfl, rfl, rfl, by decide +kernel, rfl, by decide +kernel, by decide +kernel⟩
abbrev nm_are_counts : List Str := ["thing", "count"]
theorem sc_are_counts : FnScope nm_are_counts ["thing"] (defScope s_are_counts) :=
  ⟨rfl, rfl, rfl, by decide +kernel, rfl, by decide +kernel, by decide +kernel⟩
abbrev nm_is_move : List Str := ["thing"]
theorem sc_is_move : FnScope nm_is_move ["thing"] (defScope s_is_move) :=
  ⟨rfl, rfl, rfl, by decide +kernel, rfl, by decide +kernel, by decide +kernel⟩
abbrev nm_are_moves : List Str := ["thing", "move"]
theorem sc_are_moves : FnScope nm_are_moves ["thing"] (defScope s_are_moves) :=
  ⟨rfl, rfl, rfl, by decide +kernel, rfl, by decide +kernel, by decide +kernel⟩
abbrev nm_cinit : List Str := ["self", "number", "order", "counts", "owed", "moves", "move"]
theorem sc_cinit : FnScope nm_cinit ["self", "number", "order", "counts", "owed", "moves"] (defScope s_cinit) :=
  ⟨rfl, rfl, rfl, by decide +kernel, rfl, by decide +kernel, by decide +kernel⟩
abbrev nm_check_crew : List Str := ["card", "crew", "stations"]
theorem sc_check_crew : FnScope nm_check_crew ["card", "crew", "stations"] (defScope s_check_crew) :=
  ⟨rfl, rfl, rfl, by decide +kernel, rfl, by decide +kernel, by decide +kernel⟩
abbrev nm_check_card : List Str := ["card", "stations", "crew", "station"]
theorem sc_check_card : FnScope nm_check_card ["card", "stations"] (defScope s_check_card) :=
  ⟨rfl, rfl, rfl, by decide +kernel, rfl, by decide +kernel, by decide +kernel⟩
abbrev nm_rinit : List Str := ["self", "stations", "cards", "card", "index", "number"]
theorem sc_rinit : FnScope nm_rinit ["self", "stations", "cards"] (defScope s_rinit) :=
  ⟨rfl, rfl, rfl, by decide +kernel, rfl, by decide +kernel, by decide +kernel⟩
abbrev nm_rstart : List Str := ["self", "station"]
theorem sc_rstart : FnScope nm_rstart ["self"] (defScope s_rstart) :=
  ⟨rfl, rfl, rfl, by decide +kernel, rfl, by decide +kernel, by decide +kernel⟩
abbrev nm_card_index : List Str := ["self", "number"]
theorem sc_card_index : FnScope nm_card_index ["self", "number"] (defScope s_card_index) :=
  ⟨rfl, rfl, rfl, by decide +kernel, rfl, by decide +kernel, by decide +kernel⟩
abbrev nm_card_of : List Str := ["self", "number"]
theorem sc_card_of : FnScope nm_card_of ["self", "number"] (defScope s_card_of) :=
  ⟨rfl, rfl, rfl, by decide +kernel, rfl, by decide +kernel, by decide +kernel⟩
abbrev nm_grade_in : List Str := ["self", "standing", "number", "_", "grades"]
theorem sc_grade_in : FnScope nm_grade_in ["self", "standing", "number"] (defScope s_grade_in) :=
  ⟨rfl, rfl, rfl, by decide +kernel, rfl, by decide +kernel, by decide +kernel⟩
abbrev nm_open_count : List Str := ["grades", "grade"]
theorem sc_open_count : FnScope nm_open_count ["grades"] (defScope s_open_count) :=
  ⟨rfl, rfl, rfl, by decide +kernel, rfl, by decide +kernel, by decide +kernel⟩
abbrev nm_rallowed : List Str := ["self", "standing", "most_open", "_", "grades", "events", "number", "grade"]
theorem sc_rallowed : FnScope nm_rallowed ["self", "standing", "most_open"] (defScope s_rallowed) :=
  ⟨rfl, rfl, rfl, by decide +kernel, rfl, by decide +kernel, by decide +kernel⟩
abbrev nm_crews_at : List Str := ["places", "wanted", "crew", "place"]
theorem sc_crews_at : FnScope nm_crews_at ["places", "wanted"] (defScope s_crews_at) :=
  ⟨rfl, rfl, rfl, by decide +kernel, rfl, by decide +kernel, by decide +kernel⟩
abbrev nm_can_move : List Str := ["places", "crew", "station"]
theorem sc_can_move : FnScope nm_can_move ["places", "crew", "station"] (defScope s_can_move) :=
  ⟨rfl, rfl, rfl, by decide +kernel, rfl, by decide +kernel, by decide +kernel⟩
abbrev nm_with_grade : List Str := ["self", "standing", "places", "number", "grade", "grades"]
theorem sc_with_grade : FnScope nm_with_grade ["self", "standing", "places", "number", "grade"] (defScope s_with_grade) :=
  ⟨rfl, rfl, rfl, by decide +kernel, rfl, by decide +kernel, by decide +kernel⟩
abbrev nm_can_go_home : List Str := ["self", "places", "crew", "word", "station", "other"]
theorem sc_can_go_home : FnScope nm_can_go_home ["self", "places", "crew"] (defScope s_can_go_home) :=
  ⟨rfl, rfl, rfl, by decide +kernel, rfl, by decide +kernel, by decide +kernel⟩
abbrev nm_close : List Str := ["self", "standing", "number", "places", "returned", "crew", "home", "station"]
theorem sc_close : FnScope nm_close ["self", "standing", "number"] (defScope s_close) :=
  ⟨rfl, rfl, rfl, by decide +kernel, rfl, by decide +kernel, by decide +kernel⟩
abbrev nm_lift : List Str := ["self", "standing", "number", "grade", "card", "places", "free", "crew", "went", "moved", "station", "short_by", "told"]
theorem sc_lift : FnScope nm_lift ["self", "standing", "number", "grade"] (defScope s_lift) :=
  ⟨rfl, rfl, rfl, by decide +kernel, rfl, by decide +kernel, by decide +kernel⟩
abbrev nm_rstep : List Str := ["self", "standing", "event", "word", "number", "grade"]
theorem sc_rstep : FnScope nm_rstep ["self", "standing", "event"] (defScope s_rstep) :=
  ⟨rfl, rfl, rfl, by decide +kernel, rfl, by decide +kernel, by decide +kernel⟩
abbrev nm_makes_short : List Str := ["event", "told"]
theorem sc_makes_short : FnScope nm_makes_short ["event", "told"] (defScope s_makes_short) :=
  ⟨rfl, rfl, rfl, by decide +kernel, rfl, by decide +kernel, by decide +kernel⟩
abbrev nm_is_pair : List Str := ["thing"]
theorem sc_is_pair : FnScope nm_is_pair ["thing"] (defScope s_is_pair) :=
  ⟨rfl, rfl, rfl, by decide +kernel, rfl, by decide +kernel, by decide +kernel⟩
abbrev nm_are_grades : List Str := ["room", "thing", "grade"]
theorem sc_are_grades : FnScope nm_are_grades ["room", "thing"] (defScope s_are_grades) :=
  ⟨rfl, rfl, rfl, by decide +kernel, rfl, by decide +kernel, by decide +kernel⟩
abbrev nm_is_place : List Str := ["room", "thing", "is_open", "word", "where"]
theorem sc_is_place : FnScope nm_is_place ["room", "thing", "is_open"] (defScope s_is_place) :=
  ⟨rfl, rfl, rfl, by decide +kernel, rfl, by decide +kernel, by decide +kernel⟩
abbrev nm_is_standing : List Str := ["room", "thing", "most_open", "places", "grades", "is_open", "number", "grade", "place"]
theorem sc_is_standing : FnScope nm_is_standing ["room", "thing", "most_open"] (defScope s_is_standing) :=
  ⟨rfl, rfl, rfl, by decide +kernel, rfl, by decide +kernel, by decide +kernel⟩
abbrev nm_table_fault : List Str := ["room", "table", "most_open", "index", "thing", "known", "standing", "event", "after", "told"]
theorem sc_table_fault : FnScope nm_table_fault ["room", "table", "most_open"] (defScope s_table_fault) :=
  ⟨rfl, rfl, rfl, by decide +kernel, rfl, by decide +kernel, by decide +kernel⟩
abbrev nm_bag : List Str := ["_law_script", "_law_at", "_law_cell", "_law_mixed", "_law_k", "_law_each"]
theorem sc_bag : FnScope nm_bag ["_law_script", "_law_at"] (defScope s_bag) :=
  ⟨rfl, rfl, rfl, by decide +kernel, rfl, by decide +kernel, by decide +kernel⟩
abbrev nm_take : List Str := ["_law_bag_here", "_law_many", "_law_digit"]
theorem sc_take : FnScope nm_take ["_law_bag_here", "_law_many"] (defScope s_take) :=
  ⟨rfl, rfl, rfl, by decide +kernel, rfl, by decide +kernel, by decide +kernel⟩
abbrev nm_of : List Str := ["_law_bag_here", "_law_some"]
theorem sc_of : FnScope nm_of ["_law_bag_here", "_law_some"] (defScope s_of) :=
  ⟨rfl, rfl, rfl, by decide +kernel, rfl, by decide +kernel, by decide +kernel⟩
abbrev nm_number : List Str := ["_law_bag_here", "_law_many", "_law_total", "_law_text", "_law_at", "_law_figure"]
theorem sc_number : FnScope nm_number ["_law_bag_here"] (defScope s_number) :=
  ⟨rfl, rfl, rfl, by decide +kernel, rfl, by decide +kernel, by decide +kernel⟩
abbrev nm_numbers : List Str := ["_law_bag_here", "_law_many", "_law_found", "_law_turn", "_law_number_here"]
theorem sc_numbers : FnScope nm_numbers ["_law_bag_here", "_law_many"] (defScope s_numbers) :=
  ⟨rfl, rfl, rfl, by decide +kernel, rfl, by decide +kernel, by decide +kernel⟩
abbrev nm_cards : List Str := ["_law_bag_here", "_law_numbers_here", "_law_stations", "_law_most_moves", "_law_way", "_law_cards_here", "_law_left", "_law_number_here", "_law_crews", "_law_order", "_law_turn", "_law_counts", "_law_grade", "_law_owed", "_law_lone", "_law_moves"]
theorem sc_cards : FnScope nm_cards ["_law_bag_here", "_law_numbers_here", "_law_stations", "_law_most_moves", "_law_way"] (defScope s_cards) :=
  ⟨rfl, rfl, rfl, by decide +kernel, rfl, by decide +kernel, by decide +kernel⟩
abbrev nm_sent : List Str := ["_law_places", "_law_card", "_law_grade", "_law_number_here", "_law_order", "_law_counts", "_law_owed", "_law_moves", "_law_went", "_law_moved", "_law_crew", "_law_station", "_law_others", "_law_k", "_law_is_bare"]
theorem sc_sent : FnScope nm_sent ["_law_places", "_law_card", "_law_grade"] (defScope s_sent) :=
  ⟨rfl, rfl, rfl, by decide +kernel, rfl, by decide +kernel, by decide +kernel⟩
abbrev nm_back : List Str := ["_law_places", "_law_stations", "_law_number_here", "_law_returned", "_law_home", "_law_crew", "_law_station", "_law_k"]
theorem sc_back : FnScope nm_back ["_law_places", "_law_stations", "_law_number_here"] (defScope s_back) :=
  ⟨rfl, rfl, rfl, by decide +kernel, rfl, by decide +kernel, by decide +kernel⟩
abbrev nm_step : List Str := ["_law_stations", "_law_cards_here", "_law_standing", "_law_event", "_law_places", "_law_grades", "_law_told", "_law_is_short", "_law_at", "_law_card"]
theorem sc_step : FnScope nm_step ["_law_stations", "_law_cards_here", "_law_standing", "_law_event"] (defScope s_step) :=
  ⟨rfl, rfl, rfl, by decide +kernel, rfl, by decide +kernel, by decide +kernel⟩
abbrev nm_start : List Str := ["_law_stations", "_law_cards_here", "_law_station", "_law_card"]
theorem sc_start : FnScope nm_start ["_law_stations", "_law_cards_here"] (defScope s_start) :=
  ⟨rfl, rfl, rfl, by decide +kernel, rfl, by decide +kernel, by decide +kernel⟩
abbrev nm_allowed : List Str := ["_law_cards_here", "_law_standing", "_law_most_open", "_law_events", "_law_is_free", "_law_grade", "_law_at", "_law_card"]
theorem sc_allowed : FnScope nm_allowed ["_law_cards_here", "_law_standing", "_law_most_open"] (defScope s_allowed) :=
  ⟨rfl, rfl, rfl, by decide +kernel, rfl, by decide +kernel, by decide +kernel⟩
abbrev nm_made : List Str := ["_law_card"]
theorem sc_made : FnScope nm_made ["_law_card"] (defScope s_made) :=
  ⟨rfl, rfl, rfl, by decide +kernel, rfl, by decide +kernel, by decide +kernel⟩
abbrev nm_room : List Str := ["_law_bag_here", "_law_many", "_law_numbers_here", "_law_stations", "_law_crew", "_law_cards_here"]
theorem sc_room : FnScope nm_room ["_law_bag_here"] (defScope s_room) :=
  ⟨rfl, rfl, rfl, by decide +kernel, rfl, by decide +kernel, by decide +kernel⟩
abbrev nm_walked : List Str := ["_law_stations", "_law_cards_here", "_law_most_open", "_law_table", "_law_at", "_law_known", "_law_turn", "_law_event", "_law_after"]
theorem sc_walked : FnScope nm_walked ["_law_stations", "_law_cards_here", "_law_most_open"] (defScope s_walked) :=
  ⟨rfl, rfl, rfl, by decide +kernel, rfl, by decide +kernel, by decide +kernel⟩
abbrev nm_lis_whole : List Str := ["_law_thing"]
theorem sc_lis_whole : FnScope nm_lis_whole ["_law_thing"] (defScope s_lis_whole) :=
  ⟨rfl, rfl, rfl, by decide +kernel, rfl, by decide +kernel, by decide +kernel⟩
abbrev nm_lis_place : List Str := ["_law_stations", "_law_place", "_law_numbers_here"]
theorem sc_lis_place : FnScope nm_lis_place ["_law_stations", "_law_place", "_law_numbers_here"] (defScope s_lis_place) :=
  ⟨rfl, rfl, rfl, by decide +kernel, rfl, by decide +kernel, by decide +kernel⟩
abbrev nm_lis_standing : List Str := ["_law_stations", "_law_cards_here", "_law_thing", "_law_most_open", "_law_grade", "_law_numbers_here", "_law_k", "_law_card", "_law_place"]
theorem sc_lis_standing : FnScope nm_lis_standing ["_law_stations", "_law_cards_here", "_law_thing", "_law_most_open"] (defScope s_lis_standing) :=
  ⟨rfl, rfl, rfl, by decide +kernel, rfl, by decide +kernel, by decide +kernel⟩
abbrev nm_due : List Str := ["_law_stations", "_law_cards_here", "_law_table", "_law_most_open", "_law_index", "_law_thing", "_law_known", "_law_standing", "_law_event", "_law_after", "_law_told", "_law_is_short"]
theorem sc_due : FnScope nm_due ["_law_stations", "_law_cards_here", "_law_table", "_law_most_open"] (defScope s_due) :=
  ⟨rfl, rfl, rfl, by decide +kernel, rfl, by decide +kernel, by decide +kernel⟩
abbrev nm_turned : List Str := ["_law_bag_here", "_law_standing", "_law_stations", "_law_cards_here", "_law_places", "_law_grades", "_law_way", "_law_crew", "_law_at", "_law_odd"]
theorem sc_turned : FnScope nm_turned ["_law_bag_here", "_law_standing", "_law_stations", "_law_cards_here"] (defScope s_turned) :=
  ⟨rfl, rfl, rfl, by decide +kernel, rfl, by decide +kernel, by decide +kernel⟩
abbrev nm_bent : List Str := ["_law_bag_here", "_law_table", "_law_stations", "_law_cards_here", "_law_at", "_law_way", "_law_odd"]
theorem sc_bent : FnScope nm_bent ["_law_bag_here", "_law_table", "_law_stations", "_law_cards_here"] (defScope s_bent) :=
  ⟨rfl, rfl, rfl, by decide +kernel, rfl, by decide +kernel, by decide +kernel⟩
abbrev nm_law : List Str := ["_law_script", "_law_at", "_law_bag_here", "_law_stations", "_law_cards_here", "_law_most_open", "_law_room_here", "_law_card", "_law_table", "_law_turn", "_law_bent_here", "_law_change", "_law_shown", "_law_due_here", "_law_given", "_law_other"]
theorem sc_law : FnScope nm_law ["_law_script"] (defScope s_law) :=
  ⟨rfl, rfl, rfl, by decide +kernel, rfl, by decide +kernel, by decide +kernel⟩
set_option genInjectivity false in
set_option genSizeOf false in
set_option genSizeOfSpec false in
structure Txt (K : PySem.W.Frag) (mg : Str → Option Value) where
  CC : Addr
  RC : Addr
  gCC : mg "Card" = some (.ref CC)
  clCC : Cls K CC
  nNu : NoAttr K CC "number"
  nOr : NoAttr K CC "order"
  nCo : NoAttr K CC "counts"
  nOw : NoAttr K CC "owed"
  nMo : NoAttr K CC "moves"
  mcC : Value
  rdC : ClX.CRead K CC mcC
  uG : Value
  vG : ClX.CVal K CC mcC "GRADES" (.int 3) uG
  gRC : mg "Room" = some (.ref RC)
  clRC : Cls K RC
  nSt : NoAttr K RC "stations"
  nCa : NoAttr K RC "cards"
  nNs : NoAttr K RC "numbers"
  tO : Addr
  tM : Addr
  a_is_whole : Addr
  d_is_whole : FuncData
  F_is_whole : Fun K "is_whole" "is_whole" s_is_whole a_is_whole d_is_whole
  b_is_whole : Binds K d_is_whole ["thing"] []
  g_is_whole : mg "is_whole" = some (.ref a_is_whole)
  a_is_whole_within : Addr
  d_is_whole_within : FuncData
  F_is_whole_within : Fun K "is_whole_within" "is_whole_within" s_is_whole_within a_is_whole_within d_is_whole_within
  b_is_whole_within : Binds K d_is_whole_within ["thing", "low", "high"] []
  g_is_whole_within : mg "is_whole_within" = some (.ref a_is_whole_within)
  a_is_sequence : Addr
  d_is_sequence : FuncData
  F_is_sequence : Fun K "is_sequence" "is_sequence" s_is_sequence a_is_sequence d_is_sequence
  b_is_sequence : Binds K d_is_sequence ["thing"] []
  g_is_sequence : mg "is_sequence" = some (.ref a_is_sequence)
  a_is_number : Addr
  d_is_number : FuncData
  F_is_number : Fun K "is_number" "is_number" s_is_number a_is_number d_is_number
  b_is_number : Binds K d_is_number ["thing"] []
  g_is_number : mg "is_number" = some (.ref a_is_number)
  a_is_station : Addr
  d_is_station : FuncData
  F_is_station : Fun K "is_station" "is_station" s_is_station a_is_station d_is_station
  b_is_station : Binds K d_is_station ["thing"] []
  g_is_station : mg "is_station" = some (.ref a_is_station)
  a_is_crew : Addr
  d_is_crew : FuncData
  F_is_crew : Fun K "is_crew" "is_crew" s_is_crew a_is_crew d_is_crew
  b_is_crew : Binds K d_is_crew ["thing"] []
  g_is_crew : mg "is_crew" = some (.ref a_is_crew)
  a_is_stations : Addr
  d_is_stations : FuncData
  F_is_stations : Fun K "is_stations" "is_stations" s_is_stations a_is_stations d_is_stations
  b_is_stations : Binds K d_is_stations ["thing"] []
  g_is_stations : mg "is_stations" = some (.ref a_is_stations)
  a_is_order : Addr
  d_is_order : FuncData
  F_is_order : Fun K "is_order" "is_order" s_is_order a_is_order d_is_order
  b_is_order : Binds K d_is_order ["thing"] []
  g_is_order : mg "is_order" = some (.ref a_is_order)
  a_are_counts : Addr
  d_are_counts : FuncData
  F_are_counts : Fun K "are_counts" "are_counts" s_are_counts a_are_counts d_are_counts
  b_are_counts : Binds K d_are_counts ["thing"] []
  g_are_counts : mg "are_counts" = some (.ref a_are_counts)
  a_is_move : Addr
  d_is_move : FuncData
  F_is_move : Fun K "is_move" "is_move" s_is_move a_is_move d_is_move
  b_is_move : Binds K d_is_move ["thing"] []
  g_is_move : mg "is_move" = some (.ref a_is_move)
  a_are_moves : Addr
  d_are_moves : FuncData
  F_are_moves : Fun K "are_moves" "are_moves" s_are_moves a_are_moves d_are_moves
  b_are_moves : Binds K d_are_moves ["thing"] []
  g_are_moves : mg "are_moves" = some (.ref a_are_moves)
  a_cinit : Addr
  d_cinit : FuncData
  F_cinit : FunD K "__init__" "Card.__init__" (defArgs s_cinit) (defBody s_cinit) (defScope s_cinit) [] [("owed", V.ref tO), ("moves", V.ref tM)] a_cinit d_cinit
  mk_cinit : Mk K CC a_cinit
  a_check_crew : Addr
  d_check_crew : FuncData
  F_check_crew : Fun K "check_crew" "check_crew" s_check_crew a_check_crew d_check_crew
  b_check_crew : Binds K d_check_crew ["card", "crew", "stations"] []
  g_check_crew : mg "check_crew" = some (.ref a_check_crew)
  a_check_card : Addr
  d_check_card : FuncData
  F_check_card : Fun K "check_card" "check_card" s_check_card a_check_card d_check_card
  b_check_card : Binds K d_check_card ["card", "stations"] []
  g_check_card : mg "check_card" = some (.ref a_check_card)
  a_rinit : Addr
  d_rinit : FuncData
  F_rinit : Fun K "__init__" "Room.__init__" s_rinit a_rinit d_rinit
  b_rinit : Binds K d_rinit ["self", "stations", "cards"] []
  mk_rinit : Mk K RC a_rinit
  a_rstart : Addr
  d_rstart : FuncData
  F_rstart : Fun K "start" "Room.start" s_rstart a_rstart d_rstart
  b_rstart : Binds K d_rstart ["self"] []
  m_rstart : Meth K RC "start" a_rstart
  a_card_index : Addr
  d_card_index : FuncData
  F_card_index : Fun K "card_index" "Room.card_index" s_card_index a_card_index d_card_index
  b_card_index : Binds K d_card_index ["self", "number"] []
  m_card_index : Meth K RC "card_index" a_card_index
  a_card_of : Addr
  d_card_of : FuncData
  F_card_of : Fun K "card_of" "Room.card_of" s_card_of a_card_of d_card_of
  b_card_of : Binds K d_card_of ["self", "number"] []
  m_card_of : Meth K RC "card_of" a_card_of
  a_grade_in : Addr
  d_grade_in : FuncData
  F_grade_in : Fun K "grade_in" "Room.grade_in" s_grade_in a_grade_in d_grade_in
  b_grade_in : Binds K d_grade_in ["self", "standing", "number"] []
  m_grade_in : Meth K RC "grade_in" a_grade_in
  a_open_count : Addr
  d_open_count : FuncData
  F_open_count : Fun K "open_count" "open_count" s_open_count a_open_count d_open_count
  b_open_count : Binds K d_open_count ["grades"] []
  g_open_count : mg "open_count" = some (.ref a_open_count)
  a_rallowed : Addr
  d_rallowed : FuncData
  F_rallowed : Fun K "allowed" "Room.allowed" s_rallowed a_rallowed d_rallowed
  b_rallowed : Binds K d_rallowed ["self", "standing", "most_open"] []
  m_rallowed : Meth K RC "allowed" a_rallowed
  a_crews_at : Addr
  d_crews_at : FuncData
  F_crews_at : Fun K "crews_at" "crews_at" s_crews_at a_crews_at d_crews_at
  b_crews_at : Binds K d_crews_at ["places", "wanted"] []
  g_crews_at : mg "crews_at" = some (.ref a_crews_at)
  a_can_move : Addr
  d_can_move : FuncData
  F_can_move : Fun K "can_move" "can_move" s_can_move a_can_move d_can_move
  b_can_move : Binds K d_can_move ["places", "crew", "station"] []
  g_can_move : mg "can_move" = some (.ref a_can_move)
  a_with_grade : Addr
  d_with_grade : FuncData
  F_with_grade : Fun K "with_grade" "Room.with_grade" s_with_grade a_with_grade d_with_grade
  b_with_grade : Binds K d_with_grade ["self", "standing", "places", "number", "grade"] []
  m_with_grade : Meth K RC "with_grade" a_with_grade
  a_can_go_home : Addr
  d_can_go_home : FuncData
  F_can_go_home : Fun K "can_go_home" "Room.can_go_home" s_can_go_home a_can_go_home d_can_go_home
  b_can_go_home : Binds K d_can_go_home ["self", "places", "crew"] []
  m_can_go_home : Meth K RC "can_go_home" a_can_go_home
  a_close : Addr
  d_close : FuncData
  F_close : Fun K "close" "Room.close" s_close a_close d_close
  b_close : Binds K d_close ["self", "standing", "number"] []
  m_close : Meth K RC "close" a_close
  a_lift : Addr
  d_lift : FuncData
  F_lift : Fun K "lift" "Room.lift" s_lift a_lift d_lift
  b_lift : Binds K d_lift ["self", "standing", "number", "grade"] []
  m_lift : Meth K RC "lift" a_lift
  a_rstep : Addr
  d_rstep : FuncData
  F_rstep : Fun K "step" "Room.step" s_rstep a_rstep d_rstep
  b_rstep : Binds K d_rstep ["self", "standing", "event"] []
  m_rstep : Meth K RC "step" a_rstep
  a_makes_short : Addr
  d_makes_short : FuncData
  F_makes_short : Fun K "makes_short" "makes_short" s_makes_short a_makes_short d_makes_short
  b_makes_short : Binds K d_makes_short ["event", "told"] []
  g_makes_short : mg "makes_short" = some (.ref a_makes_short)
  a_is_pair : Addr
  d_is_pair : FuncData
  F_is_pair : Fun K "is_pair" "is_pair" s_is_pair a_is_pair d_is_pair
  b_is_pair : Binds K d_is_pair ["thing"] []
  g_is_pair : mg "is_pair" = some (.ref a_is_pair)
  a_are_grades : Addr
  d_are_grades : FuncData
  F_are_grades : Fun K "are_grades" "are_grades" s_are_grades a_are_grades d_are_grades
  b_are_grades : Binds K d_are_grades ["room", "thing"] []
  g_are_grades : mg "are_grades" = some (.ref a_are_grades)
  a_is_place : Addr
  d_is_place : FuncData
  F_is_place : Fun K "is_place" "is_place" s_is_place a_is_place d_is_place
  b_is_place : Binds K d_is_place ["room", "thing", "is_open"] []
  g_is_place : mg "is_place" = some (.ref a_is_place)
  a_is_standing : Addr
  d_is_standing : FuncData
  F_is_standing : Fun K "is_standing" "is_standing" s_is_standing a_is_standing d_is_standing
  b_is_standing : Binds K d_is_standing ["room", "thing", "most_open"] []
  g_is_standing : mg "is_standing" = some (.ref a_is_standing)
  a_table_fault : Addr
  d_table_fault : FuncData
  F_table_fault : Fun K "table_fault" "table_fault" s_table_fault a_table_fault d_table_fault
  g_table_fault : mg "table_fault" = some (.ref a_table_fault)
  a_bag : Addr
  d_bag : FuncData
  F_bag : Fun K "_law_bag" "_law_bag" s_bag a_bag d_bag
  b_bag : Binds K d_bag ["_law_script", "_law_at"] []
  g_bag : mg "_law_bag" = some (.ref a_bag)
  a_take : Addr
  d_take : FuncData
  F_take : Fun K "_law_take" "_law_take" s_take a_take d_take
  b_take : Binds K d_take ["_law_bag_here", "_law_many"] []
  g_take : mg "_law_take" = some (.ref a_take)
  a_of : Addr
  d_of : FuncData
  F_of : Fun K "_law_of" "_law_of" s_of a_of d_of
  b_of : Binds K d_of ["_law_bag_here", "_law_some"] []
  g_of : mg "_law_of" = some (.ref a_of)
  a_number : Addr
  d_number : FuncData
  F_number : Fun K "_law_number" "_law_number" s_number a_number d_number
  b_number : Binds K d_number ["_law_bag_here"] []
  g_number : mg "_law_number" = some (.ref a_number)
  a_numbers : Addr
  d_numbers : FuncData
  F_numbers : Fun K "_law_numbers" "_law_numbers" s_numbers a_numbers d_numbers
  b_numbers : Binds K d_numbers ["_law_bag_here", "_law_many"] []
  g_numbers : mg "_law_numbers" = some (.ref a_numbers)
  a_cards : Addr
  d_cards : FuncData
  F_cards : Fun K "_law_cards" "_law_cards" s_cards a_cards d_cards
  b_cards : Binds K d_cards ["_law_bag_here", "_law_numbers_here", "_law_stations", "_law_most_moves", "_law_way"] []
  g_cards : mg "_law_cards" = some (.ref a_cards)
  a_sent : Addr
  d_sent : FuncData
  F_sent : Fun K "_law_sent" "_law_sent" s_sent a_sent d_sent
  b_sent : Binds K d_sent ["_law_places", "_law_card", "_law_grade"] []
  g_sent : mg "_law_sent" = some (.ref a_sent)
  a_back : Addr
  d_back : FuncData
  F_back : Fun K "_law_back" "_law_back" s_back a_back d_back
  b_back : Binds K d_back ["_law_places", "_law_stations", "_law_number_here"] []
  g_back : mg "_law_back" = some (.ref a_back)
  a_step : Addr
  d_step : FuncData
  F_step : Fun K "_law_step" "_law_step" s_step a_step d_step
  b_step : Binds K d_step ["_law_stations", "_law_cards_here", "_law_standing", "_law_event"] []
  g_step : mg "_law_step" = some (.ref a_step)
  a_start : Addr
  d_start : FuncData
  F_start : Fun K "_law_start" "_law_start" s_start a_start d_start
  b_start : Binds K d_start ["_law_stations", "_law_cards_here"] []
  g_start : mg "_law_start" = some (.ref a_start)
  a_allowed : Addr
  d_allowed : FuncData
  F_allowed : Fun K "_law_allowed" "_law_allowed" s_allowed a_allowed d_allowed
  b_allowed : Binds K d_allowed ["_law_cards_here", "_law_standing", "_law_most_open"] []
  g_allowed : mg "_law_allowed" = some (.ref a_allowed)
  a_made : Addr
  d_made : FuncData
  F_made : Fun K "_law_made" "_law_made" s_made a_made d_made
  b_made : Binds K d_made ["_law_card"] []
  g_made : mg "_law_made" = some (.ref a_made)
  a_room : Addr
  d_room : FuncData
  F_room : Fun K "_law_room" "_law_room" s_room a_room d_room
  b_room : Binds K d_room ["_law_bag_here"] []
  g_room : mg "_law_room" = some (.ref a_room)
  a_walked : Addr
  d_walked : FuncData
  F_walked : Fun K "_law_walked" "_law_walked" s_walked a_walked d_walked
  b_walked : Binds K d_walked ["_law_stations", "_law_cards_here", "_law_most_open"] []
  g_walked : mg "_law_walked" = some (.ref a_walked)
  a_lis_whole : Addr
  d_lis_whole : FuncData
  F_lis_whole : Fun K "_law_is_whole" "_law_is_whole" s_lis_whole a_lis_whole d_lis_whole
  b_lis_whole : Binds K d_lis_whole ["_law_thing"] []
  g_lis_whole : mg "_law_is_whole" = some (.ref a_lis_whole)
  a_lis_place : Addr
  d_lis_place : FuncData
  F_lis_place : Fun K "_law_is_place" "_law_is_place" s_lis_place a_lis_place d_lis_place
  b_lis_place : Binds K d_lis_place ["_law_stations", "_law_place", "_law_numbers_here"] []
  g_lis_place : mg "_law_is_place" = some (.ref a_lis_place)
  a_lis_standing : Addr
  d_lis_standing : FuncData
  F_lis_standing : Fun K "_law_is_standing" "_law_is_standing" s_lis_standing a_lis_standing d_lis_standing
  b_lis_standing : Binds K d_lis_standing ["_law_stations", "_law_cards_here", "_law_thing", "_law_most_open"] []
  g_lis_standing : mg "_law_is_standing" = some (.ref a_lis_standing)
  a_due : Addr
  d_due : FuncData
  F_due : Fun K "_law_due" "_law_due" s_due a_due d_due
  b_due : Binds K d_due ["_law_stations", "_law_cards_here", "_law_table", "_law_most_open"] []
  g_due : mg "_law_due" = some (.ref a_due)
  a_turned : Addr
  d_turned : FuncData
  F_turned : Fun K "_law_turned" "_law_turned" s_turned a_turned d_turned
  b_turned : Binds K d_turned ["_law_bag_here", "_law_standing", "_law_stations", "_law_cards_here"] []
  g_turned : mg "_law_turned" = some (.ref a_turned)
  a_bent : Addr
  d_bent : FuncData
  F_bent : Fun K "_law_bent" "_law_bent" s_bent a_bent d_bent
  b_bent : Binds K d_bent ["_law_bag_here", "_law_table", "_law_stations", "_law_cards_here"] []
  g_bent : mg "_law_bent" = some (.ref a_bent)
  a_law : Addr
  d_law : FuncData
  F_law : Fun K "law" "law" s_law a_law d_law
  b_law : Binds K d_law ["_law_script"] []
  g_law : mg "law" = some (.ref a_law)
  t_DIGITS : Tok
  c_DIGITS : mg "DIGITS" = some (.str "123456789" t_DIGITS)
  t_MOST_DIGITS : Tok
  c_MOST_DIGITS : mg "MOST_DIGITS" = some (.int 4 t_MOST_DIGITS)
  t_GREATEST_SUM : Tok
  c_GREATEST_SUM : mg "GREATEST_SUM" = some (.int 24 t_GREATEST_SUM)
  t_MOST_CREWS : Tok
  c_MOST_CREWS : mg "MOST_CREWS" = some (.int 6 t_MOST_CREWS)
  t_LAST_CREW : Tok
  c_LAST_CREW : mg "LAST_CREW" = some (.int 5 t_LAST_CREW)
  t_LAST_STATION : Tok
  c_LAST_STATION : mg "LAST_STATION" = some (.int 8 t_LAST_STATION)
  t_MOST_MOVES : Tok
  c_MOST_MOVES : mg "MOST_MOVES" = some (.int 6 t_MOST_MOVES)
  t_IN : Tok
  c_IN : mg "IN" = some (.str "in" t_IN)
  t_OUT : Tok
  c_OUT : mg "OUT" = some (.str "out" t_OUT)
  t_CALL : Tok
  c_CALL : mg "CALL" = some (.str "call" t_CALL)
  t_MORE : Tok
  c_MORE : mg "MORE" = some (.str "more" t_MORE)
  t_BACK : Tok
  c_BACK : mg "BACK" = some (.str "back" t_BACK)
  z_abs : mg "abs" = none
  z_all : mg "all" = none
  z_any : mg "any" = none
  z_bool : mg "bool" = none
  z_enumerate : mg "enumerate" = none
  z_int : mg "int" = none
  z_isinstance : mg "isinstance" = none
  z_len : mg "len" = none
  z_list : mg "list" = none
  z_max : mg "max" = none
  z_min : mg "min" = none
  z_range : mg "range" = none
  z_repr : mg "repr" = none
  z_set : mg "set" = none
  z_str : mg "str" = none
  z_sum : mg "sum" = none
  z_tuple : mg "tuple" = none
  z_zip : mg "zip" = none
  kb_cinit : KBn K d_cinit ["self", "number", "order", "counts", "owed", "moves"] 3 ["counts", "owed", "moves"] (fun us ws => us ++ ws) (fun vs zs => vs ++ zs)
  kb_table_fault : KBn K d_table_fault ["room", "table", "most_open"] 2 ["most_open"] (fun us ws => us ++ ws) (fun vs zs => vs ++ zs)
end K59

namespace K59
open PySem L2 Wm TL Dv
/-- pairwise -/
inductive All2 {α β : Type} (R : α → β → Prop) : List α → List β → Prop
  | nil : All2 R [] []
  | cons {a : α} {b : β} {as : List α} {bs : List β} : R a b → All2 R as bs → All2 R (a :: as) (b :: bs)
/-- all but what stands at one address -/
def Bu (p : Addr) (H H' : Hp) : Prop := ∀ q o, q ≠ p → H q = some o → H' q = some o
/-- the source of draws -/
def Bk (H : Hp) (b : Addr) : Prop := ∃ x y : Int, H b = some (.lst [.int x, .int y]) ∧ 0 ≤ x ∧ 0 ≤ y ∧ y < 2147483648
/-- where a crew is -/
inductive Pl | ins (s : Nat) | out (n : List Nat)
  deriving DecidableEq
def plD : Pl → PyData
  | .ins s => .tuple [.str "in", .int (s : Nat)]
  | .out n => .tuple [.str "out", .str (numS n)]
structure Cd where
  ds : List Nat
  order : List Nat
  counts : List Nat
  owed : List Nat
  moves : List (Nat × Nat)
structure Sd where
  pl : List Pl
  gr : List Nat
structure Rm where
  st : List Nat
  cs : List Cd
def iD (ns : List Nat) : PyData := .tuple (ns.map fun (n : Nat) => PyData.int (n : Int))
def mvD (m : List (Nat × Nat)) : PyData := .tuple (m.map fun x => PyData.tuple [.int (x.1 : Nat), .int (x.2 : Nat)])
def sdD (s : Sd) : PyData := .tuple [.tuple (s.pl.map plD), iD s.gr]
def cdD (c : Cd) : PyData := .tuple [.str (numS c.ds), iD c.order, iD c.counts, iD c.owed, mvD c.moves]
/-- what a step tells -/
inductive Td | non | sent (g : Nat) (went : List Nat) (moved : List (Nat × Nat)) (short : Nat) | back (r h : List Nat)
def tdD : Td → PyData
  | .non => .none
  | .sent g w m s => .tuple [.int (g : Nat), iD w, mvD m, .int (s : Nat)]
  | .back r h => .tuple [iD r, iD h]
def TdAt (K : PySem.W.Frag) (H : Hp) (v : V) (t : Td) : Prop := (t = .non ∧ v = .non) ∨ (t ≠ .non ∧ Dt K H v (tdD t))
structure CdOk (st : List Nat) (c : Cd) : Prop where
  num : Num c.ds
  ord : ∀ k ∈ c.order, k < st.length
  nd : c.order.Nodup
  c3 : c.counts.length = 3
  c6 : ∀ k ∈ c.counts, k ≤ 6
  o3 : c.owed.length = 3
  o6 : ∀ k ∈ c.owed, k ≤ 6
  m6 : c.moves.length ≤ 6
  mv : ∀ x ∈ c.moves, x.1 < st.length ∧ x.2 ∈ st
structure RmOk (r : Rm) : Prop where
  st1 : 1 ≤ r.st.length
  st6 : r.st.length ≤ 6
  st8 : ∀ s ∈ r.st, s ≤ 8
  cs6 : r.cs.length ≤ 6
  ok : ∀ c ∈ r.cs, CdOk r.st c
  nd : (r.cs.map fun c => c.ds).Nodup
def plOk : Pl → Prop
  | .ins s => s ≤ 8
  | .out ds => Num ds
structure SdOk (r : Rm) (s : Sd) : Prop where
  pl : s.pl.length = r.st.length
  gr : s.gr.length = r.cs.length
  g3 : ∀ g ∈ s.gr, g ≤ 3
  ok : ∀ p ∈ s.pl, plOk p
def CardAt (K : PySem.W.Frag) (CC : Addr) (H : Hp) (v : V) (c : Cd) : Prop := ∃ p dx fs o1 o2 o3 o4, v = .ref p ∧ H p = some (.ins CC dx fs) ∧ fs.lookup ("number" : Str) = some (.str (numS c.ds)) ∧
  fs.lookup ("order" : Str) = some o1 ∧ Dt K H o1 (iD c.order) ∧ fs.lookup ("counts" : Str) = some o2 ∧ Dt K H o2 (iD c.counts) ∧ fs.lookup ("owed" : Str) = some o3 ∧ Dt K H o3 (iD c.owed) ∧ fs.lookup ("moves" : Str) = some o4 ∧ Dt K H o4 (mvD c.moves) ∧ fs.lookup ("_room" : Str) = none
def RoomAt (K : PySem.W.Frag) (RC CC : Addr) (H : Hp) (p : Addr) (r : Rm) : Prop := ∃ dx fs s q n cvs, H p = some (.ins RC dx fs) ∧ fs.lookup ("stations" : Str) = some s ∧ Dt K H s (iD r.st) ∧ fs.lookup ("cards" : Str) = some (.ref q) ∧ SqT K H q cvs ∧ All2 (CardAt K CC H) cvs r.cs ∧
  fs.lookup ("numbers" : Str) = some (.ref n) ∧ Tf.TF H n ((r.cs.map fun c => numS c.ds).map V.str) ∧ ∀ m : Str, m ≠ "stations" → m ≠ "cards" → m ≠ "numbers" → fs.lookup m = none
def WatchAt (K : PySem.W.Frag) (WC : Addr) (H : Hp) (p rp : Addr) (s : Sd) : Prop := ∃ dx fs v, H p = some (.ins WC dx fs) ∧ fs.length ≤ 2 ∧ fs.lookup ("_room" : Str) = some (.ref rp) ∧ fs.lookup ("_now" : Str) = some v ∧ Dt K H v (sdD s) ∧ ∀ m : Str, m ≠ "_room" → m ≠ "_now" → fs.lookup m = none
/-! ### steps -/
def atL (pl : List Pl) (p : Pl) : List Nat := (List.range pl.length).filter fun i => decide (pl[i]? = some p)
def isIn (pl : List Pl) (i : Nat) : Bool := match pl[i]? with
  | some (.ins _) => true
  | _ => false
def goL (pl : List Pl) (order : List Nat) (k : Nat) : List Nat := (order.filter (isIn pl)).take k
def outP (ds : List Nat) (pl : List Pl) (went : List Nat) : List Pl := went.foldl (fun p i => p.set i (.out ds)) pl
def canB (pl : List Pl) (c s : Nat) : Bool := decide (atL pl (.ins s) = []) && (isIn pl c && decide (1 < (match pl[c]? with
  | some p => (atL pl p).length
  | none => 0)))
def mvS (x : List Pl × List (Nat × Nat)) (m : Nat × Nat) : List Pl × List (Nat × Nat) := if canB x.1 m.1 m.2 = true then (x.1.set m.1 (.ins m.2), x.2 ++ [m]) else x
def mvF (pl : List Pl) (ms : List (Nat × Nat)) : List Pl × List (Nat × Nat) := ms.foldl mvS (pl, [])
def wentF (c : Cd) (pl : List Pl) (g : Nat) : List Nat := goL pl c.order (c.counts.getD (g - 1) 0)
def liftP (c : Cd) (pl : List Pl) (g : Nat) : List Pl × List (Nat × Nat) := mvF (outP c.ds pl (wentF c pl g)) c.moves
def liftT (c : Cd) (pl : List Pl) (g : Nat) : Td := .sent g (wentF c pl g) (liftP c pl g).2 (c.owed.getD (g - 1) 0 - (atL (liftP c pl g).1 (.out c.ds)).length)
def inP (st : List Nat) (pl : List Pl) (rs : List Nat) : List Pl := rs.foldl (fun p i => p.set i (.ins (st.getD i 0))) pl
def homeB (st : List Nat) (pl : List Pl) (i : Nat) : Bool := match pl[i]? with
  | some (.ins s) => decide (s ≠ st.getD i 0) && (atL pl (.ins s)).any fun o => decide (st.getD o 0 = s)
  | _ => false
def homeS (st : List Nat) (x : List Pl × List Nat) (i : Nat) : List Pl × List Nat := if homeB st x.1 i = true then (x.1.set i (.ins (st.getD i 0)), x.2 ++ [i]) else x
def homeF (st : List Nat) (pl : List Pl) (n : Nat) : List Pl × List Nat := (List.range n).foldl (homeS st) (pl, [])
def backP (st ds : List Nat) (pl : List Pl) : List Pl × List Nat := homeF st (inP st pl (atL pl (.out ds))) st.length
def backT (st ds : List Nat) (pl : List Pl) : Td := .back (atL pl (.out ds)) (backP st ds pl).2
inductive Wd | call | more | back
  deriving DecidableEq
def wdS : Wd → Str
  | .call => "call"
  | .more => "more"
  | .back => "back"
def stepS (r : Rm) (s : Sd) (w : Wd) (i : Nat) : Sd := match r.cs[i]? with
  | none => s
  | some c => match w with
    | .back => ⟨(backP r.st c.ds s.pl).1, s.gr.set i 0⟩
    | .call => if 0 < s.gr.getD i 0 then s else ⟨(liftP c s.pl 1).1, s.gr.set i 1⟩
    | .more => ⟨(liftP c s.pl (s.gr.getD i 0 + 1)).1, s.gr.set i (s.gr.getD i 0 + 1)⟩
def stepT (r : Rm) (s : Sd) (w : Wd) (i : Nat) : Td := match r.cs[i]? with
  | none => .non
  | some c => match w with
    | .back => backT r.st c.ds s.pl
    | .call => if 0 < s.gr.getD i 0 then .non else liftT c s.pl 1
    | .more => liftT c s.pl (s.gr.getD i 0 + 1)
def openN (gr : List Nat) : Nat := (gr.filter fun g => decide (0 < g)).length
abbrev Ev := Wd × List Nat
def evD (e : Ev) : PyData := .tuple [.str (wdS e.1), .str (numS e.2)]
def alI (gr : List Nat) (m : Nat) (x : List Nat × Nat) : List Ev := (if x.2 = 0 ∧ openN gr < m then [(.call, x.1)] else []) ++ ((if 0 < x.2 ∧ x.2 < 3 then [(.more, x.1)] else []) ++ (if 0 < x.2 then [(.back, x.1)] else []))
def alF (r : Rm) (gr : List Nat) (m : Nat) : List Ev := ((r.cs.map fun c => c.ds).zip gr).flatMap (alI gr m)
/-- a thing that is asked for: its card's place, if it has one -/
def AskAt (r : Rm) (x : V) (o : Option Nat) : Prop := match o with
  | some i => ∃ c, r.cs[i]? = some c ∧ x = .str (numS c.ds)
  | none => ∀ c ∈ r.cs, x ≠ .str (numS c.ds)
def grOf (s : Sd) (o : Option Nat) : Nat := match o with
  | some i => s.gr.getD i 0
  | none => 0
/-! ### promises -/
def wholeB : V → Bool
  | .int _ => true
  | _ => false
def withB : V → Int → Int → Bool
  | .int i, l, h => decide (l ≤ i) && decide (i ≤ h)
  | _, _, _ => false
def sp_is_whole (K : PySem.W.Frag) : Sp := fun vs H Q _ => ∃ x d, vs = [x] ∧ Ob K H x d ∧ Q (.bl (wholeB x)) H
def sp_is_whole_within (K : PySem.W.Frag) : Sp := fun vs H Q _ => ∃ x d, ∃ l h : Int, vs = [x, .int l, .int h] ∧ Ob K H x d ∧ Q (.bl (withB x l h)) H
def sp_is_sequence (K : PySem.W.Frag) : Sp := fun vs H Q _ => ∃ (p : Addr) (xs : List V) (t : Bool), vs = [.ref p] ∧ Kd.Is K t H p xs ∧ ∀ H', Same H H' → Q (.bl true) H'
def sp_is_number (K : PySem.W.Frag) : Sp := fun vs H Q _ => ∃ x d, vs = [x] ∧ Ob K H x d ∧ ∀ H' b, Same H H' → (b = true ↔ IsN x) → Q (.bl b) H'
def sp_is_station (K : PySem.W.Frag) : Sp := fun vs H Q _ => ∃ n : Nat, vs = [.int (n : Nat)] ∧ n ≤ 8 ∧ Q (.bl true) H
def sp_is_crew (K : PySem.W.Frag) : Sp := fun vs H Q _ => ∃ n : Nat, vs = [.int (n : Nat)] ∧ n ≤ 5 ∧ Q (.bl true) H
def nV (ns : List Nat) : List V := ns.map fun (n : Nat) => V.int (n : Int)
def sp_is_stations (K : PySem.W.Frag) : Sp := fun vs H Q _ => ∃ (p : Addr) (ns : List Nat), vs = [.ref p] ∧ H p = some (.lst (nV ns)) ∧ 1 ≤ ns.length ∧ ns.length ≤ 6 ∧ (∀ n ∈ ns, n ≤ 8) ∧ ∀ H', Same H H' → Q (.bl true) H'
def sp_is_order (K : PySem.W.Frag) : Sp := fun vs H Q _ => ∃ (p : Addr) (ns : List Nat), vs = [.ref p] ∧ SqT K H p (nV ns) ∧ ns.Nodup ∧ (∀ n ∈ ns, n ≤ 5) ∧ ∀ H', Same H H' → Q (.bl true) H'
def sp_are_counts (K : PySem.W.Frag) : Sp := fun vs H Q _ => ∃ (p : Addr) (ns : List Nat), vs = [.ref p] ∧ SqT K H p (nV ns) ∧ ns.length = 3 ∧ (∀ n ∈ ns, n ≤ 6) ∧ ∀ H', Same H H' → Q (.bl true) H'
def sp_is_move (K : PySem.W.Frag) : Sp := fun vs H Q _ => ∃ (v : V) (a b : Nat), vs = [v] ∧ Dt K H v (.tuple [.int (a : Nat), .int (b : Nat)]) ∧ a ≤ 5 ∧ b ≤ 8 ∧ ∀ H', Same H H' → Q (.bl true) H'
def sp_are_moves (K : PySem.W.Frag) : Sp := fun vs H Q _ => ∃ (v : V) (ms : List (Nat × Nat)), vs = [v] ∧ Dt K H v (mvD ms) ∧ ms.length ≤ 6 ∧ (∀ m ∈ ms, m.1 ≤ 5 ∧ m.2 ≤ 8) ∧ ∀ H', Same H H' → Q (.bl true) H'
def sp_cinit (K : PySem.W.Frag) (CC : Addr) : Sp := fun vs H Q _ => ∃ (p dx : Addr) (st : List Nat) (c : Cd) (v1 v2 v3 v4 : V), vs = [.ref p, .str (numS c.ds), v1, v2, v3, v4] ∧ H p = some (.ins CC dx []) ∧ st.length ≤ 6 ∧ (∀ s ∈ st, s ≤ 8) ∧ CdOk st c ∧ Dt K H v1 (iD c.order) ∧ Dt K H v2 (iD c.counts) ∧ Dt K H v3 (iD c.owed) ∧ Dt K H v4 (mvD c.moves) ∧
  ∀ H', Bu p H H' → CardAt K CC H' (.ref p) c → Q .non H'
def sp_check_crew (K : PySem.W.Frag) : Sp := fun vs H Q _ => ∃ (v : V) (n : Nat) (p : Addr) (st : List Nat), vs = [v, .int (n : Nat), .ref p] ∧ H p = some (.lst (nV st)) ∧ n < st.length ∧ st.length ≤ 6 ∧ Q .non H
def sp_check_card (K : PySem.W.Frag) (CC : Addr) : Sp := fun vs H Q _ => ∃ (v : V) (c : Cd) (p : Addr) (st : List Nat), vs = [v, .ref p] ∧ CardAt K CC H v c ∧ H p = some (.lst (nV st)) ∧ st.length ≤ 6 ∧ CdOk st c ∧ ∀ H', Same H H' → Q .non H'
def sp_rinit (K : PySem.W.Frag) (CC RC : Addr) : Sp := fun vs H Q _ => ∃ (p dx a b : Addr) (r : Rm) (cvs : List V), vs = [.ref p, .ref a, .ref b] ∧ H p = some (.ins RC dx []) ∧ a ≠ p ∧ b ≠ p ∧ H a = some (.lst (nV r.st)) ∧ H b = some (.lst cvs) ∧ All2 (CardAt K CC H) cvs r.cs ∧ RmOk r ∧
  ∀ H', Bu p H H' → RoomAt K RC CC H' p r → Q .non H'
def startS (r : Rm) : Sd := ⟨r.st.map .ins, r.cs.map fun _ => 0⟩
def sp_rstart (K : PySem.W.Frag) (CC RC : Addr) : Sp := fun vs H Q _ => ∃ (p : Addr) (r : Rm), vs = [.ref p] ∧ RoomAt K RC CC H p r ∧ RmOk r ∧ ∀ H' v, Same H H' → Dt K H' v (sdD (startS r)) → Q v H'
def sp_card_index (K : PySem.W.Frag) (CC RC : Addr) : Sp := fun vs H Q _ => ∃ (p : Addr) (r : Rm) (i : Nat) (c : Cd), vs = [.ref p, .str (numS c.ds)] ∧ RoomAt K RC CC H p r ∧ RmOk r ∧ r.cs[i]? = some c ∧ Q (.int (i : Nat)) H
def sp_card_of (K : PySem.W.Frag) (CC RC : Addr) : Sp := fun vs H Q _ => ∃ (p : Addr) (r : Rm) (i : Nat) (c : Cd), vs = [.ref p, .str (numS c.ds)] ∧ RoomAt K RC CC H p r ∧ RmOk r ∧ r.cs[i]? = some c ∧ ∀ v, CardAt K CC H v c → Q v H
def sp_grade_in (K : PySem.W.Frag) (CC RC : Addr) : Sp := fun vs H Q _ => ∃ (p : Addr) (r : Rm) (i : Nat) (c : Cd) (v : V) (s : Sd), vs = [.ref p, v, .str (numS c.ds)] ∧ RoomAt K RC CC H p r ∧ RmOk r ∧ r.cs[i]? = some c ∧ Dt K H v (sdD s) ∧ SdOk r s ∧ ∀ H', Same H H' → Q (.int (s.gr.getD i 0 : Nat)) H'
def sp_open_count (K : PySem.W.Frag) : Sp := fun vs H Q _ => ∃ (v : V) (gr : List Nat), vs = [v] ∧ Dt K H v (iD gr) ∧ gr.length ≤ 6 ∧ ∀ H', Same H H' → Q (.int (openN gr : Nat)) H'
def sp_rallowed (K : PySem.W.Frag) (CC RC : Addr) : Sp := fun vs H Q _ => ∃ (p : Addr) (r : Rm) (v : V) (s : Sd) (m : Nat), vs = [.ref p, v, .int (m : Nat)] ∧ RoomAt K RC CC H p r ∧ RmOk r ∧ Dt K H v (sdD s) ∧ SdOk r s ∧ ∀ H' u, Same H H' → Dt K H' u (.tuple ((alF r s.gr m).map evD)) → Q u H'
def sp_crews_at (K : PySem.W.Frag) : Sp := fun vs H Q _ => ∃ (a : Addr) (x : V) (t : Bool) (xs : List V) (pl : List Pl) (p : Pl), vs = [.ref a, x] ∧ Kd.Is K t H a xs ∧ Dts K H xs (pl.map plD) ∧ Dt K H x (plD p) ∧ (∀ p ∈ pl, plOk p) ∧ plOk p ∧ pl.length ≤ 6 ∧
  ∀ H' q, Same H H' → H q = none → H' q = some (.lst (nV (atL pl p))) → Q (.ref q) H'
def sp_can_move (K : PySem.W.Frag) : Sp := fun vs H Q _ => ∃ (a : Addr) (xs : List V) (pl : List Pl) (c s : Nat), vs = [.ref a, .int (c : Nat), .int (s : Nat)] ∧ H a = some (.lst xs) ∧ Dts K H xs (pl.map plD) ∧ (∀ p ∈ pl, plOk p) ∧ pl.length ≤ 6 ∧ c < pl.length ∧ s ≤ 8 ∧
  ∀ H', Same H H' → Q (.bl (canB pl c s)) H'
def sp_with_grade (K : PySem.W.Frag) (CC RC : Addr) : Sp := fun vs H Q _ => ∃ (p : Addr) (r : Rm) (i : Nat) (c : Cd) (v : V) (s : Sd) (a : Addr) (xs : List V) (pl : List Pl) (g : Nat), vs = [.ref p, v, .ref a, .str (numS c.ds), .int (g : Nat)] ∧ RoomAt K RC CC H p r ∧ RmOk r ∧ r.cs[i]? = some c ∧ Dt K H v (sdD s) ∧ SdOk r s ∧
  H a = some (.lst xs) ∧ Dts K H xs (pl.map plD) ∧ pl.length ≤ 6 ∧ ∀ H' u, Same H H' → Dt K H' u (sdD ⟨pl, s.gr.set i g⟩) → Q u H'
def sp_can_go_home (K : PySem.W.Frag) (CC RC : Addr) : Sp := fun vs H Q _ => ∃ (p : Addr) (r : Rm) (a : Addr) (xs : List V) (pl : List Pl) (i : Nat), vs = [.ref p, .ref a, .int (i : Nat)] ∧ RoomAt K RC CC H p r ∧ RmOk r ∧ H a = some (.lst xs) ∧ Dts K H xs (pl.map plD) ∧ (∀ p ∈ pl, plOk p) ∧ pl.length = r.st.length ∧ i < pl.length ∧
  ∀ H', Same H H' → Q (.bl (homeB r.st pl i)) H'
/-- a pair: a standing and what is told -/
def StAt (K : PySem.W.Frag) (H : Hp) (v : V) (s : Sd) (t : Td) : Prop := ∃ q v1 v2, v = .ref q ∧ H q = some (.tup [v1, v2]) ∧ Dt K H v1 (sdD s) ∧ TdAt K H v2 t
def sp_close (K : PySem.W.Frag) (CC RC : Addr) : Sp := fun vs H Q _ => ∃ (p : Addr) (r : Rm) (i : Nat) (c : Cd) (v : V) (s : Sd), vs = [.ref p, v, .str (numS c.ds)] ∧ RoomAt K RC CC H p r ∧ RmOk r ∧ r.cs[i]? = some c ∧ Dt K H v (sdD s) ∧ SdOk r s ∧
  ∀ H' u, Same H H' → StAt K H' u ⟨(backP r.st c.ds s.pl).1, s.gr.set i 0⟩ (backT r.st c.ds s.pl) → Q u H'
def sp_lift (K : PySem.W.Frag) (CC RC : Addr) : Sp := fun vs H Q _ => ∃ (p : Addr) (r : Rm) (i : Nat) (c : Cd) (v : V) (s : Sd) (g : Nat), vs = [.ref p, v, .str (numS c.ds), .int (g : Nat)] ∧ RoomAt K RC CC H p r ∧ RmOk r ∧ r.cs[i]? = some c ∧ Dt K H v (sdD s) ∧ SdOk r s ∧ 1 ≤ g ∧ g ≤ 3 ∧
  ∀ H' u, Same H H' → StAt K H' u ⟨(liftP c s.pl g).1, s.gr.set i g⟩ (liftT c s.pl g) → Q u H'
def sp_rstep (K : PySem.W.Frag) (CC RC : Addr) : Sp := fun vs H Q _ => ∃ (p : Addr) (r : Rm) (i : Nat) (c : Cd) (v : V) (s : Sd) (w : Wd) (e : V), vs = [.ref p, v, e] ∧ RoomAt K RC CC H p r ∧ RmOk r ∧ r.cs[i]? = some c ∧ Dt K H v (sdD s) ∧ SdOk r s ∧ Dt K H e (evD (w, c.ds)) ∧ (w = .more → s.gr.getD i 0 < 3) ∧
  ∀ H' u, Same H H' → StAt K H' u (stepS r s w i) (stepT r s w i) → Q u H'
end K59

namespace K59
open PySem L2 Wm TL Dv
section
variable {P : Program} {w : World} {K : PySem.W.Frag} {mg : Str → Option Value} {base : Heap}
theorem All2.len {α β : Type} {R : α → β → Prop} {as : List α} {bs : List β} (h : All2 R as bs) : as.length = bs.length := by
  induction h with
  | nil => rfl
  | cons _ _ ih => rw [List.length_cons, List.length_cons, ih]
theorem All2.mono {α β : Type} {R S : α → β → Prop} {as : List α} {bs : List β} (h : All2 R as bs) (f : ∀ a b, R a b → S a b) : All2 S as bs := by
  induction h with
  | nil => exact .nil
  | cons a _ ih => exact .cons (f _ _ a) ih
theorem All2.at {α β : Type} {R : α → β → Prop} {as : List α} {bs : List β} (h : All2 R as bs) : ∀ {i : Nat} {a : α}, as[i]? = some a → ∃ b, bs[i]? = some b ∧ R a b := by
  induction h with
  | nil => intro i a e; cases e
  | cons x _ ih =>
    intro i a e
    cases i with
    | zero => cases e; exact ⟨_, rfl, x⟩
    | succ i => exact ih (i := i) e
theorem All2.get {α β : Type} {R : α → β → Prop} {as : List α} {bs : List β} (h : All2 R as bs) : ∀ {i : Nat} {b : β}, bs[i]? = some b → ∃ a, as[i]? = some a ∧ R a b := by
  induction h with
  | nil => intro i a e; cases e
  | cons x _ ih =>
    intro i a e
    cases i with
    | zero => cases e; exact ⟨_, rfl, x⟩
    | succ i => exact ih (i := i) e
theorem All2.snoc {α β : Type} {R : α → β → Prop} {as : List α} {bs : List β} {a : α} {b : β} (h : All2 R as bs) (g : R a b) : All2 R (as ++ [a]) (bs ++ [b]) := by
  induction h with
  | nil => exact .cons g .nil
  | cons x _ ih => exact .cons x ih
theorem Bu.of {p : Addr} {H H' : Hp} (s : Same H H') : Bu p H H' := fun q o _ e => s q o e
theorem Bu.trans {p : Addr} {H H1 H2 : Hp} (a : Bu p H H1) (b : Bu p H1 H2) : Bu p H H2 := fun q o n e => b q o n (a q o n e)
theorem Bu.set {p : Addr} {H : Hp} {o : HO} : Bu p H (upd H p o) := fun q u n e => by rw [upd_ne n]; exact e
/-- what is no tuple may change, the tuples stand -/
theorem Bu.kt {p : Addr} {H H' : Hp} {o : HO} (b : Bu p H H') (h : H p = some o) (n1 : ∀ xs, o ≠ .tup xs) (n2 : ∀ ob xs, o ≠ .frz ob (.tup xs)) : Kt K H H' := fun a xs q => by
  rcases q with (q | ⟨ob, q⟩) | q
  · exact .inl (.inl (b a _ (fun e => by subst e; rw [h] at q; exact n1 _ (Option.some.inj q)) q))
  · exact .inl (.inr ⟨ob, b a _ (fun e => by subst e; rw [h] at q; exact n2 _ _ (Option.some.inj q)) q⟩)
  · exact .inr q
theorem CardAt.kb {CC : Addr} {H H' : Hp} {v : V} {c : Cd} (h : CardAt K CC H v c) (k : Kt K H H') (f : ∀ p dx fs, H p = some (.ins CC dx fs) → fs.lookup ("_room" : Str) = none → fs ≠ [] → H' p = some (.ins CC dx fs)) : CardAt K CC H' v c := by
  obtain ⟨p, dx, fs, o1, o2, o3, o4, rfl, hp, a, b, b', d, d', e, e', g, g', l⟩ := h
  exact ⟨p, dx, fs, o1, o2, o3, o4, rfl, f _ _ _ hp l (fun z => by subst z; cases a), a, b, b'.k k, d, d'.k k, e, e'.k k, g, g'.k k, l⟩
theorem CardAt.k {CC : Addr} {H H' : Hp} {v : V} {c : Cd} (h : CardAt K CC H v c) (s : Same H H') : CardAt K CC H' v c := h.kb (Kt.same s) fun _ _ _ e _ _ => s _ _ e
theorem Bu.tf {p : Addr} {H H' : Hp} {o : HO} {q : Addr} {xs : List V} (b : Bu p H H') (h : H p = some o) (n : ∀ ob u, o ≠ .frz ob u) (t : Tf.TF H q xs) : Tf.TF H' q xs := let ⟨ob, e, d⟩ := t; ⟨ob, b q _ (fun z => by subst z; rw [h] at e; exact n _ _ (Option.some.inj e)) e, d⟩
theorem RoomAt.kb {RC CC : Addr} {H H' : Hp} {p : Addr} {r : Rm} (h : RoomAt K RC CC H p r) (k : Kt K H H') (kf : ∀ q xs, Tf.TF H q xs → Tf.TF H' q xs) (f : ∀ (C p dx : Addr) fs, H p = some (.ins C dx fs) → fs.lookup ("_room" : Str) = none → fs ≠ [] → H' p = some (.ins C dx fs)) : RoomAt K RC CC H' p r := by
  obtain ⟨dx, fs, s, q, n, cvs, hp, a, a', b, b', c, d, d', l⟩ := h
  exact ⟨dx, fs, s, q, n, cvs, f _ _ _ _ hp (l _ (by decide +kernel) (by decide +kernel) (by decide +kernel)) (fun z => by subst z; cases a), a, a'.k k, b, k _ _ b', c.mono fun _ _ x => x.kb k (f CC), d, kf _ _ d', l⟩
theorem RoomAt.k {RC CC : Addr} {H H' : Hp} {p : Addr} {r : Rm} (h : RoomAt K RC CC H p r) (s : Same H H') : RoomAt K RC CC H' p r := h.kb (Kt.same s) (fun _ _ t => t.k s) fun _ _ _ _ e _ _ => s _ _ e
/-- a list changes -/
theorem RoomAt.lst {RC CC : Addr} {H H' : Hp} {p b : Addr} {r : Rm} {xs : List V} (h : RoomAt K RC CC H p r) (hb : H b = some (.lst xs)) (s : Bu b H H') : RoomAt K RC CC H' p r :=
  h.kb (s.kt hb (fun _ e => by cases e) (fun _ _ e => by cases e)) (fun _ _ t => s.tf hb (fun _ _ e => by cases e) t) fun C q dx fs e _ _ => s q _ (fun z => by subst z; rw [hb] at e; cases e) e
theorem WatchAt.k {WC : Addr} {H H' : Hp} {p rp : Addr} {s : Sd} (h : WatchAt K WC H p rp s) (z : Same H H') : WatchAt K WC H' p rp s := by
  obtain ⟨dx, fs, v, a, b, c, d, e, f⟩ := h
  exact ⟨dx, fs, v, z _ _ a, b, c, d, e.k (Kt.same z), f⟩
theorem TdAt.kb {H H' : Hp} {v : V} {t : Td} (h : TdAt K H v t) (k : Kt K H H') : TdAt K H' v t := h.imp id fun h => ⟨h.1, h.2.k k⟩
theorem TdAt.k {H H' : Hp} {v : V} {t : Td} (h : TdAt K H v t) (z : Same H H') : TdAt K H' v t := h.kb (Kt.same z)
theorem StAt.k {H H' : Hp} {v : V} {s : Sd} {t : Td} (h : StAt K H v s t) (z : Same H H') : StAt K H' v s t := by
  obtain ⟨q, v1, v2, e, a, b, c⟩ := h
  exact ⟨q, v1, v2, e, z _ _ a, b.k (Kt.same z), c.k z⟩
theorem Bk.k {H H' : Hp} {b : Addr} (h : Bk H b) (s : Same H H') : Bk H' b := let ⟨x, y, a, c⟩ := h; ⟨x, y, s _ _ a, c⟩
theorem _root_.Dv.Dt.ks {H H' : Hp} {v : V} {d : PyData} (h : Dt K H v d) (s : Same H H') : Dt K H' v d := h.k (Kt.same s)
theorem _root_.Dv.Dts.ks {H H' : Hp} {vs : List V} {ds : List PyData} (h : Dts K H vs ds) (s : Same H H') : Dts K H' vs ds := h.k (Kt.same s)
/-- the parts of a tuple -/
theorem dt_ints {H : Hp} {v : V} {ns : List Nat} (h : Dt K H v (iD ns)) : ∃ p, v = .ref p ∧ SqT K H p (nV ns) := by
  obtain ⟨p, xs, e, a, b⟩ := h.inv
  have : (ns.map fun (n : Nat) => PyData.int (n : Int)) = (ns.map fun (n : Nat) => (n : Int)).map PyData.int := by rw [List.map_map]; rfl
  rw [this] at b
  have := dts_int_inv b
  subst this
  refine ⟨p, e, ?_⟩
  have e2 : nV ns = (ns.map fun (n : Nat) => (n : Int)).map V.int := by unfold nV; rw [List.map_map]; rfl
  rw [e2]
  exact a
theorem nV_int (ns : List Nat) : nV ns = (ns.map fun (n : Nat) => (n : Int)).map V.int := by unfold nV; rw [List.map_map]; rfl
theorem dts_nV {H : Hp} (ns : List Nat) : Dts K H (nV ns) (ns.map fun (n : Nat) => PyData.int (n : Int)) := by
  have : (ns.map fun (n : Nat) => PyData.int (n : Int)) = (ns.map fun (n : Nat) => (n : Int)).map PyData.int := by rw [List.map_map]; rfl
  rw [this, nV_int]
  exact dts_int _
theorem dt_iD {H : Hp} {p : Addr} {ns : List Nat} (h : H p = some (.tup (nV ns))) : Dt K H (.ref p) (iD ns) := .tup (SqT.of h) (dts_nV ns)
theorem dt_two {H : Hp} {v : V} {a b : PyData} (h : Dt K H v (.tuple [a, b])) : ∃ p x y, v = .ref p ∧ SqT K H p [x, y] ∧ Dt K H x a ∧ Dt K H y b := by
  obtain ⟨p, xs, e, s, d⟩ := h.inv
  cases d with
  | cons d1 d =>
    cases d with
    | cons d2 d =>
      cases d
      exact ⟨p, _, _, e, s, d1, d2⟩
theorem nV_at {ns : List Nat} {i n : Nat} (h : ns[i]? = some n) : (nV ns)[i]? = some (.int (n : Nat)) := by unfold nV; rw [List.getElem?_map, h]; rfl
theorem nV_inv {ns : List Nat} {i : Nat} {v : V} (h : (nV ns)[i]? = some v) : ∃ n : Nat, ns[i]? = some n ∧ v = .int (n : Nat) := by
  unfold nV at h
  rw [List.getElem?_map] at h
  obtain ⟨n, e, f⟩ := Option.map_eq_some_iff.mp h
  exact ⟨n, e, f.symm⟩
theorem nV_len (ns : List Nat) : (nV ns).length = ns.length := by unfold nV; rw [List.length_map]
theorem tk_succ' {α : Type} {xs : List α} {i : Nat} {x : α} (h : xs[i]? = some x) : xs.take (i + 1) = xs.take i ++ [x] := by
  rw [List.take_add_one, h]; rfl
theorem tyT {H : Hp} {p : Addr} {xs : List V} (h : SqT K H p xs) : TyX K H (.ref p) (.type "tuple") := by
  rcases h with (h | ⟨o, h⟩) | ⟨o, its, n, e, c, _⟩
  · exact .base (.tup h)
  · exact .fTuple h
  · exact .kTuple e c
theorem tyL {H : Hp} {p : Addr} {xs : List V} (h : SqL K H p xs) : TyX K H (.ref p) (.type "list") := by
  rcases h with (h | ⟨o, h⟩) | ⟨o, its, n, e, c, _⟩
  · exact .base (.lst h)
  · exact .base (.frz h)
  · exact .kList e c
theorem iteN {c : Bool} {A B : Prop} (e : c = false) (h : B) : if c = true then A else B := by
  rw [e]
  exact iteF h
theorem flat_ints (ns : List Int) : (ns.map V.int).all flatV = true := by
  rw [List.all_map]
  exact List.all_eq_true.mpr fun _ _ => rfl
theorem in_ints (x : Int) : ∀ ns : List Int, inV (.int x) (ns.map V.int) = decide (x ∈ ns)
  | [] => rfl
  | n :: ns => by
    have ih := in_ints x ns
    unfold inV at ih ⊢
    rw [List.map_cons, List.any_cons, ih]
    show ((n == x) || decide (x ∈ ns)) = _
    by_cases e : n = x
    · subst e; simp
    · simp [e, Ne.symm e]
end
end K59

namespace K59
open PySem L2 Wm TL Dv
section
variable {P : Program} {w : World} {K : PySem.W.Frag} {mg : Str → Option Value} {base : Heap}
theorem small_len {n : Nat} (h : n ≤ 100000) : n ≤ sizeLine := by
  have : (100000 : Nat) ≤ sizeLine := by decide
  omega
theorem sum_cast : ∀ ds : List Nat, (ds.map fun (d : Nat) => (d : Int)).sum = ((ds.sum : Nat) : Int)
  | [] => rfl
  | d :: ds => by
    rw [List.map_cons, List.sum_cons, List.sum_cons, sum_cast ds]
    omega
def letters (t : Str) : List Bool := (tl t).map fun c => decide (c ∈ ("123456789" : Str).cps.toList)
theorem letters_all {t : Str} : (letters t).all id = true ↔ ∀ c ∈ tl t, c ∈ ("123456789" : Str).cps.toList := by
  unfold letters
  rw [List.all_map, List.all_eq_true]
  constructor
  · intro h c m
    exact of_decide_eq_true (h c m)
  · intro h c m
    exact decide_eq_true (h c m)
theorem cps_at {t : Str} {i c : Nat} (h : t.cps[i]? = some c) : (tl t)[i]? = some c := by
  rw [← h]
  exact Array.getElem?_toList ..
theorem ok_is_number (T : Txt K mg) : FnOk P w K mg base CX0 1 T.a_is_number T.d_is_number ["thing"] (sp_is_number K) := by
  refine T.F_is_number.ok sc_is_number (fun vs H Q E h => ?_) (fun cdv A outer s H vs Q E hr h => ?_)
  · obtain ⟨x, d, rfl, _⟩ := h
    rfl
  · obtain ⟨x, d, rfl, ob, kx⟩ := h
    obtain ⟨n, b0, ty, k1, k2, k3⟩ := tys_of ob
    refine ⟨_, (pss_cons (ps_if (PW.pt (pw_or (pt_not (pt_val (pe_callB call_isi (by rfl) T.z_isinstance (by decide +kernel) (pa_cons (pv 0) (pa_cons (pe_bltn (v := V.ty "str") (by rfl) T.z_str (by decide +kernel) rfl) pa_nil))))) (pw_or1 (pt_not (pt_chain op_le op_le pe_int (pe_callB call_len_str (by rfl) T.z_len PySem.boot_len (pa_cons (pv 0) pa_nil)) (pe_glob (v := V.int 4) rfl T.c_MOST_DIGITS ⟨_, rfl⟩))))))
        (pss_one (ps_ret pe_bl))
        pss_nil)
      (pss_cons (ps_if (pt_not (pt_val (pe_callB (cr_all rfl) (by rfl) T.z_all (by decide +kernel) (pa_cons (pe_lc (own := [("letter", 1)]) (g := gName 1) (tt := tYes) rfl sc_is_number.nd (pi_str (pv 0)) (blkOk_by (own := [("letter", 1)]) (N := nm_is_number) (sc := (defScope s_is_number)) (by decide +kernel)) (fun _ _ _ _ _ => pg_name (i := 1) sc_is_number.nd rfl (Or.inl rfl)) (fun _ _ _ _ _ => pts_nil) (fun _ _ _ _ _ => (pe_cmpR op_in_sign (pv 1) (pe_glob (v := V.str "123456789") rfl T.c_DIGITS ⟨_, rfl⟩) rfl))) pa_nil))))
        (pss_one (ps_ret pe_bl))
        pss_nil)
      (pss_one (ps_ret (pe_cmpR op_le (pe_callB (cr_sum rfl) (by rfl) T.z_sum (by decide +kernel) (pa_cons (pe_lc (own := [("letter", 1)]) (g := gName 1) (tt := tYes) rfl sc_is_number.nd (pi_str (pv 0)) (blkOk_by (own := [("letter", 1)]) (N := nm_is_number) (sc := (defScope s_is_number)) (by decide +kernel)) (fun _ _ _ _ _ => pg_name (i := 1) sc_is_number.nd rfl (Or.inl rfl)) (fun _ _ _ _ _ => pts_nil) (fun _ _ _ _ _ => (pe_callTy call_int_str (by rfl) T.z_int (by decide +kernel) (pa_cons (pv 1) pa_nil)))) pa_nil)) (pe_glob (v := V.int 24) rfl T.c_GREATEST_SUM ⟨_, rfl⟩) (nomark _)))))), ?_⟩
    refine ⟨_, rfl, _, _, _, _, b0, rfl, .ty "str", ty, k1, b0, rfl, ?_⟩
    cases b0 with
    | false =>
      refine iteT ?_
      refine iteT ?_
      exact kx _ _ (Same.refl _) ⟨fun z => (by cases z), fun z => absurd z (k3 rfl)⟩
    | true =>
    refine iteF ?_
    obtain ⟨t, rfl, _, tx⟩ := k2 rfl
    have hz : t.length ≤ 100000 := Nat.le_trans tx.len (by decide)
    have k : ∀ H' b, Same H H' → (b = true ↔ IsNum t) → Q (.bl b) H' := fun H' b s e => kx H' b s (e.trans isN_str.symm)
    have hl : t.length = (tl t).length := len_tl t
    have numlen : IsNum t → 1 ≤ t.length ∧ t.length ≤ 4 := fun ⟨ds, N, e⟩ => by
      rw [e, numS_len]
      exact ⟨N.pos, N.len⟩
    refine ⟨_, rfl, _, rfl, small_len hz, _, _, rfl, rfl, _, rfl, ?_⟩
    refine ite2 (fun c1 => ?_) (fun c1 => ?_)
    case refine_2 =>
      have c1' : ¬ (1 : Int) ≤ (t.length : Nat) := fun z => c1 (decide_eq_true z)
      refine ⟨false, rfl, iteT ?_⟩
      exact k _ _ (Same.refl _) ⟨fun z => (by cases z), fun z => absurd (numlen z).1 (by omega)⟩
    have c1' : (1 : Int) ≤ (t.length : Nat) := of_decide_eq_true c1
    refine ⟨_, _, rfl, rfl, _, rfl, ?_⟩
    by_cases c2 : ((t.length : Nat) : Int) ≤ 4
    case neg =>
      rw [decide_eq_false c2]
      refine iteT ?_
      exact k _ _ (Same.refl _) ⟨fun z => (by cases z), fun z => absurd (numlen z).2 (by omega)⟩
    rw [decide_eq_true c2]
    refine iteF ?_
    refine ⟨_, rfl, _, rfl, fun D hD => ?_⟩
    have hsz : t.cps.size = (tl t).length := hl
    refine lc_it walk_str (fun i H' => Same H H' ∧ H' D = some (.lst (((letters t).take i).map V.bl))) ⟨same_new hD, upd_same⟩ (fun _ _ _ _ => trivial) (fun i x H1 H' hi hP hY => ?_) (fun H1 hP => ?_)
    · obtain ⟨sm, hL⟩ := hP
      obtain ⟨rfl, c, hc, rfl⟩ := hY
      have hc2 : (letters t)[i]? = some (decide (c ∈ ("123456789" : Str).cps.toList)) := by
        unfold letters
        rw [List.getElem?_map, cps_at hc]
        rfl
      refine ⟨rfl, yesT ?_⟩
      refine ⟨_, rfl, _, _, rfl, rfl, _, hL, by rw [List.length_map, List.length_take]; exact small1000 (by omega), ?_⟩
      refine ⟨same_mut sm hD, ?_⟩
      rw [upd_same, take_succ_map _ hc2]
    · obtain ⟨sm, hL⟩ := hP
      have ell : (letters t).length = t.cps.size := by unfold letters; rw [List.length_map, hsz]
      rw [← ell, List.take_length] at hL
      refine ⟨D, letters t, rfl, SqL.of hL, _, rfl, ?_⟩
      by_cases c3 : (letters t).all id = true
      case neg =>
        rw [Bool.not_eq_true] at c3
        rw [c3]
        refine iteT ?_
        refine k _ _ sm ⟨fun z => (by cases z), fun ⟨ds, N, e⟩ => ?_⟩
        have q := letters_all.mpr (by rw [e]; exact num_codes N.dig : ∀ c ∈ tl t, c ∈ ("123456789" : Str).cps.toList)
        rw [c3] at q
        cases q
      rw [c3]
      refine iteF ?_
      obtain ⟨ds, dig, et⟩ := dig_text t (letters_all.mp c3)
      subst et
      rw [numS_len] at c1' c2
      refine ⟨_, rfl, _, rfl, fun D2 hD2 => ?_⟩
      refine lc_it walk_str (fun i H' => Same H H' ∧ H' D2 = some (.lst ((ds.take i).map fun (d : Nat) => V.int (d : Int)))) ⟨sm.trans (same_new hD2), upd_same⟩ (fun _ _ _ _ => trivial) (fun i x H2 H' hi hP hY => ?_) (fun H2 hP => ?_)
      · obtain ⟨sm2, hl2⟩ := hP
        obtain ⟨rfl, c, hc, rfl⟩ := hY
        rw [numS_size] at hi
        rw [numS_at ds i hi] at hc
        have hc' := (Option.some.inj hc).symm
        subst hc'
        refine ⟨rfl, yesT ?_⟩
        refine ⟨_, rfl, _, _, rfl, dig_int (dig _ (List.getElem_mem hi)), (by show 1 ≤ 640; decide), _, hl2, by rw [List.length_map, List.length_take]; exact small1000 (by omega), ?_⟩
        refine ⟨same_mut sm2 (sm.free hD2), ?_⟩
        rw [upd_same, take_succ_map _ (List.getElem?_eq_getElem hi)]
      · obtain ⟨sm2, hl2⟩ := hP
        rw [numS_size, List.take_length] at hl2
        refine ⟨D2, ds.map fun (d : Nat) => (d : Int), rfl, SqL.of (by rw [hl2, List.map_map]; rfl), _, _, rfl, rfl, ?_⟩
        rw [sum_cast]
        refine k _ _ sm2 ?_
        rw [isnum_dig]
        constructor
        · intro z
          have z' : ((ds.sum : Nat) : Int) ≤ 24 := of_decide_eq_true z
          exact ⟨by omega, by omega, dig, by omega⟩
        · intro N
          exact decide_eq_true (show ((ds.sum : Nat) : Int) ≤ 24 by have := N.sum; omega)
end
end K59

namespace K59
open PySem L2 Wm TL Dv
section
variable {P : Program} {w : World} {K : PySem.W.Frag} {mg : Str → Option Value} {base : Heap}
theorem ok_is_whole (T : Txt K mg) : FnOk P w K mg base CX0 1 T.a_is_whole T.d_is_whole ["thing"] (sp_is_whole K) := by
  refine T.F_is_whole.ok sc_is_whole (fun vs H Q E h => ?_) (fun cdv A outer s H vs Q E hr h => ?_)
  · obtain ⟨x, d, rfl, _⟩ := h
    rfl
  · obtain ⟨x, d, rfl, ob, k⟩ := h
    refine ⟨_, (pss_one (ps_ret (pe_and (pe_callB call_isi (by rfl) T.z_isinstance (by decide +kernel) (pa_cons (pv 0) (pa_cons (pe_bltn (v := V.ty "int") (by rfl) T.z_int (by decide +kernel) rfl) pa_nil))) (pe_one (pe_not (pe_callB call_isi (by rfl) T.z_isinstance (by decide +kernel) (pa_cons (pv 0) (pa_cons (pe_bltn (v := V.ty "bool") (by rfl) T.z_bool (by decide +kernel) rfl) pa_nil)))))))), ?_⟩
    obtain ⟨h, t⟩ := ob
    cases t with
    | int q =>
      cases h
      refine ⟨_, rfl, _, _, _, _, true, rfl, .ty "int", .base (.int _), kit_ty (by decide +kernel), true, rfl, iteT ?_⟩
      exact ⟨_, rfl, _, _, _, _, false, rfl, .ty "bool", .base (.int _), kit_ty (by decide +kernel), false, rfl, k⟩
    | bl b =>
      cases h
      refine ⟨_, rfl, _, _, _, _, true, rfl, .ty "int", .base (.bl _), kit_ty (by decide +kernel), true, rfl, iteT ?_⟩
      exact ⟨_, rfl, _, _, _, _, true, rfl, .ty "bool", .base (.bl _), kit_ty (by decide +kernel), true, rfl, k⟩
    | non => cases h; exact ⟨_, rfl, _, _, _, _, false, rfl, .ty "int", .base .non, kit_ty (by decide +kernel), false, rfl, iteF k⟩
    | str q => cases h; exact ⟨_, rfl, _, _, _, _, false, rfl, .ty "int", .base (.str _), kit_ty (by decide +kernel), false, rfl, iteF k⟩
    | lst q l =>
      cases h with
      | lst s a => exact ⟨_, rfl, _, _, _, _, false, rfl, .ty "int", tyL s, kit_ty (by decide +kernel), false, rfl, iteF k⟩
    | tup q l =>
      cases h with
      | tup s a => exact ⟨_, rfl, _, _, _, _, false, rfl, .ty "int", tyT s, kit_ty (by decide +kernel), false, rfl, iteF k⟩
theorem ok_is_whole_within (T : Txt K mg) : FnOk P w K mg base CX0 2 T.a_is_whole_within T.d_is_whole_within ["thing", "low", "high"] (sp_is_whole_within K) := by
  refine T.F_is_whole_within.ok sc_is_whole_within (fun vs H Q E h => ?_) (fun cdv A outer s H vs Q E hr h => ?_)
  · obtain ⟨x, d, l, h, rfl, _⟩ := h
    rfl
  · obtain ⟨x, d, lo, hi, rfl, ob, k⟩ := h
    refine ⟨_, (pss_one (ps_ret (pe_and (pe_call (ok_is_whole T) (hr.mono (by decide)) (by rfl) T.g_is_whole T.F_is_whole.kp T.b_is_whole .nil pass0 (pa_cons (pv 0) pa_nil)) (pe_one (pe_chain op_le op_le (pv 1) (pv 0) (pv 2)))))), ?_⟩
    refine ⟨_, rfl, x, d, rfl, ob, ?_⟩
    by_cases c : ∃ i : Int, x = .int i
    · obtain ⟨i, rfl⟩ := c
      refine ⟨_, rfl, iteT ?_⟩
      refine ⟨_, rfl, _, rfl, _, _, rfl, rfl, _, rfl, ite2 (fun c1 => ?_) (fun c1 => ?_)⟩
      · refine ⟨_, rfl, _, _, rfl, rfl, ?_⟩
        have e : withB (.int i) lo hi = decide (i ≤ hi) := by show (decide (lo ≤ i) && decide (i ≤ hi)) = _; rw [c1, Bool.true_and]
        have k : Q (.bl (withB (.int i) lo hi)) H := k
        rw [e] at k
        exact k
      · have e : withB (.int i) lo hi = false := by show (decide (lo ≤ i) && decide (i ≤ hi)) = _; rw [Bool.eq_false_iff.mpr c1, Bool.false_and]
        rw [e] at k
        exact k
    · have c2 : wholeB x = false ∧ withB x lo hi = false := by cases x <;> first | exact ⟨rfl, rfl⟩ | exact absurd ⟨_, rfl⟩ c
      rw [c2.2] at k
      rw [c2.1]
      exact ⟨_, rfl, iteF k⟩
theorem ok_is_sequence (T : Txt K mg) : FnOk P w K mg base CX0 1 T.a_is_sequence T.d_is_sequence ["thing"] (sp_is_sequence K) := by
  refine T.F_is_sequence.ok sc_is_sequence (fun vs H Q E h => ?_) (fun cdv A outer s H vs Q E hr h => ?_)
  · obtain ⟨p, xs, t, rfl, _⟩ := h
    rfl
  · obtain ⟨p, xs, t, rfl, hx, k⟩ := h
    refine ⟨_, (pss_one (ps_ret (pe_callB call_isiT (by rfl) T.z_isinstance (by decide +kernel) (pa_cons (pv 0) (pa_cons (pe_tup (pa_cons (pe_bltn (v := V.ty "list") (by rfl) T.z_list (by decide +kernel) rfl) (pa_cons (pe_bltn (v := V.ty "tuple") (by rfl) T.z_tuple (by decide +kernel) rfl) pa_nil))) pa_nil))))), ?_⟩
    refine ⟨_, rfl, by show 2 ≤ sizeLine; decide, fun t2 ht => ?_⟩
    have s1 : Same H (upd H t2 (.tup [.ty "list", .ty "tuple"])) := same_new ht
    cases t with
    | true =>
      refine ⟨_, t2, _, _, _, true, rfl, upd_same, .cons (.ty "list") (.cons (.ty "tuple") .nil), tyT (sameT s1 hx), kitAny_cons (b := false) (kit_ty (by decide +kernel)) (fun _ => kitAny_cons (b := true) (kit_ty (by decide +kernel)) (fun z => by cases z) (fun _ => rfl)) (fun z => by cases z), ?_⟩
      exact k _ s1
    | false =>
      refine ⟨_, t2, _, _, _, true, rfl, upd_same, .cons (.ty "list") (.cons (.ty "tuple") .nil), tyL (Hf.keepL s1 hx), kitAny_cons (b := true) (kit_ty (by decide +kernel)) (fun z => by cases z) (fun _ => rfl), ?_⟩
      exact k _ s1
theorem ok_is_station (T : Txt K mg) : FnOk P w K mg base CX0 3 T.a_is_station T.d_is_station ["thing"] (sp_is_station K) := by
  refine T.F_is_station.ok sc_is_station (fun vs H Q E h => ?_) (fun cdv A outer s H vs Q E hr h => ?_)
  · obtain ⟨n, rfl, _⟩ := h
    rfl
  · obtain ⟨n, rfl, h8, k⟩ := h
    refine ⟨_, (pss_one (ps_ret (pe_call (ok_is_whole_within T) (hr.mono (by decide)) (by rfl) T.g_is_whole_within T.F_is_whole_within.kp T.b_is_whole_within .nil pass0 (pa_cons (pv 0) (pa_cons pe_int (pa_cons (pe_glob (v := V.int 8) rfl T.c_LAST_STATION ⟨_, rfl⟩) pa_nil)))))), ?_⟩
    refine ⟨_, rfl, .int (n : Nat), .int (n : Nat), 0, 8, rfl, ⟨.int _, .int (by omega)⟩, ?_⟩
    have e : withB (.int (n : Nat)) 0 8 = true := by show (decide ((0 : Int) ≤ (n : Nat)) && decide (((n : Nat) : Int) ≤ 8)) = true; rw [decide_eq_true (by omega), decide_eq_true (by omega)]; rfl
    rw [e]
    exact k
theorem ok_is_crew (T : Txt K mg) : FnOk P w K mg base CX0 3 T.a_is_crew T.d_is_crew ["thing"] (sp_is_crew K) := by
  refine T.F_is_crew.ok sc_is_crew (fun vs H Q E h => ?_) (fun cdv A outer s H vs Q E hr h => ?_)
  · obtain ⟨n, rfl, _⟩ := h
    rfl
  · obtain ⟨n, rfl, h8, k⟩ := h
    refine ⟨_, (pss_one (ps_ret (pe_call (ok_is_whole_within T) (hr.mono (by decide)) (by rfl) T.g_is_whole_within T.F_is_whole_within.kp T.b_is_whole_within .nil pass0 (pa_cons (pv 0) (pa_cons pe_int (pa_cons (pe_glob (v := V.int 5) rfl T.c_LAST_CREW ⟨_, rfl⟩) pa_nil)))))), ?_⟩
    refine ⟨_, rfl, .int (n : Nat), .int (n : Nat), 0, 5, rfl, ⟨.int _, .int (by omega)⟩, ?_⟩
    have e : withB (.int (n : Nat)) 0 5 = true := by show (decide ((0 : Int) ≤ (n : Nat)) && decide (((n : Nat) : Int) ≤ 5)) = true; rw [decide_eq_true (by omega), decide_eq_true (by omega)]; rfl
    rw [e]
    exact k
theorem trues : ∀ {ys : List V} {n : Nat}, ys.length = n → (∀ (i : Nat) y, ys[i]? = some y → y = .bl true) → ys = (List.replicate n true).map V.bl
  | [], n, l, _ => by subst l; rfl
  | y :: ys, n, l, h => by
    subst l
    have h0 := h 0 y rfl
    have ih := trues (n := ys.length) rfl fun i z e => h (i + 1) z e
    rw [List.length_cons, List.replicate_succ, List.map_cons, ← ih, h0]
theorem all_rep (n : Nat) : (List.replicate n true).all id = true := by
  rw [List.all_eq_true]
  intro b m
  rw [(List.mem_replicate.mp m).2]
  rfl
theorem ok_is_stations (T : Txt K mg) : FnOk P w K mg base CX0 4 T.a_is_stations T.d_is_stations ["thing"] (sp_is_stations K) := by
  refine T.F_is_stations.ok sc_is_stations (fun vs H Q E h => ?_) (fun cdv A outer s H vs Q E hr h => ?_)
  · obtain ⟨p, ns, rfl, _⟩ := h
    rfl
  · obtain ⟨p, ns, rfl, hp, l1, l6, h8, k⟩ := h
    refine ⟨_, (pss_cons (ps_if (PW.pt (pw_or (pt_not (pt_val (pe_call (ok_is_sequence T) (hr.mono (by decide)) (by rfl) T.g_is_sequence T.F_is_sequence.kp T.b_is_sequence .nil pass0 (pa_cons (pv 0) pa_nil)))) (pw_or1 (pt_not (pt_chain op_le op_le pe_int (pe_callB call_len_seq (by rfl) T.z_len PySem.boot_len (pa_cons (pv 0) pa_nil)) (pe_glob (v := V.int 6) rfl T.c_MOST_CREWS ⟨_, rfl⟩))))))
        (pss_one (ps_ret pe_bl))
        pss_nil)
      (pss_one (ps_ret (pe_callB (cr_all rfl) (by rfl) T.z_all (by decide +kernel) (pa_cons (pe_lc (own := [("station", 1)]) (g := gName 1) (tt := tYes) rfl sc_is_stations.nd (pi_list (pv 0)) (blkOk_by (own := [("station", 1)]) (N := nm_is_stations) (sc := (defScope s_is_stations)) (by decide +kernel)) (fun _ _ _ _ _ => pg_name (i := 1) sc_is_stations.nd rfl (Or.inl rfl)) (fun _ _ _ _ _ => pts_nil) (fun _ _ _ _ _ => (pe_call (ok_is_station T) (hr.mono (by decide)) (by rfl) T.g_is_station T.F_is_station.kp T.b_is_station .nil pass0 (pa_cons (pv 1) pa_nil)))) pa_nil))))), ?_⟩
    refine ⟨_, rfl, p, _, false, rfl, SqL.of hp, fun H1 s1 => ⟨_, rfl, iteF ?_⟩⟩
    refine ⟨_, rfl, p, _, rfl, .inl (SqL.of (s1 _ _ hp)), _, _, rfl, rfl, ?_⟩
    refine ⟨_, rfl, ?_⟩
    rw [nV_len, decide_eq_true (by omega)]
    refine iteT ⟨_, _, rfl, rfl, _, rfl, ?_⟩
    rw [decide_eq_true (by omega)]
    refine iteF ?_
    refine ⟨_, rfl, p, rfl, ⟨_, SqL.of (s1 _ _ hp)⟩, fun D hD => ?_⟩
    refine Lm.lc_map (K := K) walk_list (xs := nV ns) (fun _ y _ => y = .bl true) (fun _ _ _ _ h _ => h) hD (by rw [nV_len]; omega) (fun H' s' => SqL.of (s' _ _ (s1 _ _ hp))) (fun i x H' hi hx s' Q' Z hQ => ?_) (fun H2 ys s2 hD2 hl hy => ?_)
    · obtain ⟨n, hn, rfl⟩ := nV_inv hx
      exact ⟨rfl, yesT ⟨_, rfl, n, rfl, h8 n (List.mem_of_getElem? hn), hQ _ _ (Same.refl _) rfl⟩⟩
    · rw [trues hl hy] at hD2
      refine ⟨D, _, rfl, SqL.of hD2, ?_⟩
      rw [all_rep]
      exact k _ (s1.trans s2)
theorem ok_is_order (T : Txt K mg) : FnOk P w K mg base CX0 4 T.a_is_order T.d_is_order ["thing"] (sp_is_order K) := by
  refine T.F_is_order.ok sc_is_order (fun vs H Q E h => ?_) (fun cdv A outer s H vs Q E hr h => ?_)
  · obtain ⟨p, ns, rfl, _⟩ := h
    rfl
  · obtain ⟨p, ns, rfl, hp, nd, h5, k⟩ := h
    have l6 : ns.length ≤ 6 := by
      have := Lns.nodup_le (l := ns.map fun (n : Nat) => (n : Int)) (m := (List.range 6).map fun (n : Nat) => (n : Int)) (nd.map _ fun a b h e => h (Int.ofNat_inj.mp e)) (fun k hk => by
        obtain ⟨n, hn, rfl⟩ := List.mem_map.mp hk
        exact List.mem_map.mpr ⟨n, List.mem_range.mpr (by have := h5 n hn; omega), rfl⟩)
      simpa using this
    refine ⟨_, (pss_cons (ps_if (PW.pt (pw_or (pt_not (pt_val (pe_call (ok_is_sequence T) (hr.mono (by decide)) (by rfl) T.g_is_sequence T.F_is_sequence.kp T.b_is_sequence .nil pass0 (pa_cons (pv 0) pa_nil)))) (pw_or1 (pt_not (pt_val (pe_callB (cr_all rfl) (by rfl) T.z_all (by decide +kernel) (pa_cons (pe_lc (own := [("crew", 1)]) (g := gName 1) (tt := tYes) rfl sc_is_order.nd (pi_tup (pv 0)) (blkOk_by (own := [("crew", 1)]) (N := nm_is_order) (sc := (defScope s_is_order)) (by decide +kernel)) (fun _ _ _ _ _ => pg_name (i := 1) sc_is_order.nd rfl (Or.inl rfl)) (fun _ _ _ _ _ => pts_nil) (fun _ _ _ _ _ => (pe_call (ok_is_crew T) (hr.mono (by decide)) (by rfl) T.g_is_crew T.F_is_crew.kp T.b_is_crew .nil pass0 (pa_cons (pv 1) pa_nil)))) pa_nil)))))))
        (pss_one (ps_ret pe_bl))
        pss_nil)
      (pss_one (ps_ret (pe_cmpR op_eq (pe_callB Lns.call_lenN (by rfl) T.z_len (by decide +kernel) (pa_cons (pe_callTy (Si.call_set (by rfl)) (by rfl) T.z_set (by decide +kernel) (pa_cons (pv 0) pa_nil)) pa_nil)) (pe_callB call_len_seq (by rfl) T.z_len PySem.boot_len (pa_cons (pv 0) pa_nil)) (nomark _))))), ?_⟩
    refine ⟨_, rfl, p, _, true, rfl, hp, fun H1 s1 => ⟨_, rfl, iteF ?_⟩⟩
    have hp1 := sameT s1 hp
    refine ⟨_, rfl, p, rfl, ⟨_, hp1⟩, fun D hD => ?_⟩
    refine Lm.lc_map (K := K) walk_tup (xs := nV ns) (fun _ y _ => y = .bl true) (fun _ _ _ _ h _ => h) hD (by rw [nV_len]; omega) (fun H' s' => sameT s' hp1) (fun i x H' hi hx s' Q' Z hQ => ?_) (fun H2 ys s2 hD2 hl hy => ?_)
    · obtain ⟨n, hn, rfl⟩ := nV_inv hx
      exact ⟨rfl, yesT ⟨_, rfl, n, rfl, h5 n (List.mem_of_getElem? hn), hQ _ _ (Same.refl _) rfl⟩⟩
    · rw [trues hl hy] at hD2
      refine ⟨D, _, rfl, SqL.of hD2, ?_⟩
      rw [all_rep]
      refine ⟨_, rfl, iteF ?_⟩
      have hp2 := sameT s2 hp1
      have hp3 := hp2
      rw [nV_int] at hp3
      refine ⟨_, rfl, p, _, rfl, .inr hp3, by rw [List.length_map]; omega, fun S c hc hS => ?_⟩
      rw [List.length_map] at hc
      refine ⟨S, _, c, ns.map fun (n : Nat) => (n : Int), rfl, upd_same, by omega, nd.map _ fun a b h e => h (Int.ofNat_inj.mp e), fun k => decide_eq_true_iff, ?_⟩
      generalize SetO _ S _ c = so
      have s3 := same_new (o := so) hS
      refine ⟨_, rfl, p, _, rfl, .inr (sameT s3 hp2), rfl, ?_⟩
      rw [nV_len, List.length_map, decide_eq_true rfl]
      exact k _ ((s1.trans s2).trans s3)
theorem ok_are_counts (T : Txt K mg) : FnOk P w K mg base CX0 3 T.a_are_counts T.d_are_counts ["thing"] (sp_are_counts K) := by
  refine T.F_are_counts.ok sc_are_counts (fun vs H Q E h => ?_) (fun cdv A outer s H vs Q E hr h => ?_)
  · obtain ⟨p, ns, rfl, _⟩ := h
    rfl
  · obtain ⟨p, ns, rfl, hp, l3, h6, k⟩ := h
    refine ⟨_, (pss_cons (ps_if (PW.pt (pw_or (pt_not (pt_val (pe_call (ok_is_sequence T) (hr.mono (by decide)) (by rfl) T.g_is_sequence T.F_is_sequence.kp T.b_is_sequence .nil pass0 (pa_cons (pv 0) pa_nil)))) (pw_or1 (pt_cmpR op_ne (pe_callB call_len_seq (by rfl) T.z_len PySem.boot_len (pa_cons (pv 0) pa_nil)) (ClX.pe_cval (pe_glob (v := V.ref T.CC) rfl T.gCC rfl)) (nomark _)))))
        (pss_one (ps_ret pe_bl))
        pss_nil)
      (pss_one (ps_ret (pe_callB (cr_all rfl) (by rfl) T.z_all (by decide +kernel) (pa_cons (pe_lc (own := [("count", 1)]) (g := gName 1) (tt := tYes) rfl sc_are_counts.nd (pi_tup (pv 0)) (blkOk_by (own := [("count", 1)]) (N := nm_are_counts) (sc := (defScope s_are_counts)) (by decide +kernel)) (fun _ _ _ _ _ => pg_name (i := 1) sc_are_counts.nd rfl (Or.inl rfl)) (fun _ _ _ _ _ => pts_nil) (fun _ _ _ _ _ => (pe_call (ok_is_whole_within T) (hr.mono (by decide)) (by rfl) T.g_is_whole_within T.F_is_whole_within.kp T.b_is_whole_within .nil pass0 (pa_cons (pv 1) (pa_cons pe_int (pa_cons (pe_glob (v := V.int 6) rfl T.c_MOST_CREWS ⟨_, rfl⟩) pa_nil)))))) pa_nil))))), ?_⟩
    refine ⟨_, rfl, p, _, true, rfl, hp, fun H1 s1 => ⟨_, rfl, iteF ?_⟩⟩
    have hp1 := sameT s1 hp
    refine ⟨_, rfl, p, _, rfl, .inr hp1, T.CC, T.mcC, _, _, rfl, T.rdC, T.vG, rfl, _, rfl, ?_⟩
    rw [nV_len, l3]
    rw [show (!decide (V.int ((3 : Nat) : Int) = V.int 3)) = false from by decide +kernel]
    refine iteF ?_
    refine ⟨_, rfl, p, rfl, ⟨_, hp1⟩, fun D hD => ?_⟩
    refine Lm.lc_map (K := K) walk_tup (xs := nV ns) (fun _ y _ => y = .bl true) (fun _ _ _ _ h _ => h) hD (by rw [nV_len]; omega) (fun H' s' => sameT s' hp1) (fun i x H' hi hx s' Q' Z hQ => ?_) (fun H2 ys s2 hD2 hl hy => ?_)
    · obtain ⟨n, hn, rfl⟩ := nV_inv hx
      have n6 := h6 n (List.mem_of_getElem? hn)
      have e : withB (.int (n : Nat)) 0 6 = true := by show (decide ((0 : Int) ≤ (n : Nat)) && decide (((n : Nat) : Int) ≤ 6)) = true; rw [decide_eq_true (by omega), decide_eq_true (by omega)]; rfl
      refine ⟨rfl, yesT ⟨_, rfl, .int (n : Nat), .int (n : Nat), 0, 6, rfl, ⟨.int _, .int (by omega)⟩, ?_⟩⟩
      rw [e]
      exact hQ _ _ (Same.refl _) rfl
    · rw [trues hl hy] at hD2
      refine ⟨D, _, rfl, SqL.of hD2, ?_⟩
      rw [all_rep]
      exact k _ (s1.trans s2)
theorem ok_is_move (T : Txt K mg) : FnOk P w K mg base CX0 4 T.a_is_move T.d_is_move ["thing"] (sp_is_move K) := by
  refine T.F_is_move.ok sc_is_move (fun vs H Q E h => ?_) (fun cdv A outer s H vs Q E hr h => ?_)
  · obtain ⟨v, a, b, rfl, _⟩ := h
    rfl
  · obtain ⟨v, a, b, rfl, hv, a5, b8, k⟩ := h
    obtain ⟨p, x, y, rfl, hp, hx, hy⟩ := dt_two hv
    obtain rfl := hx.int_inv
    obtain rfl := hy.int_inv
    refine ⟨_, (pss_one (ps_ret (pe_and (pe_call (ok_is_sequence T) (hr.mono (by decide)) (by rfl) T.g_is_sequence T.F_is_sequence.kp T.b_is_sequence .nil pass0 (pa_cons (pv 0) pa_nil)) (pe_and (pe_cmpR op_eq (pe_callB call_len_seq (by rfl) T.z_len PySem.boot_len (pa_cons (pv 0) pa_nil)) pe_int (nomark _)) (pe_and (pe_call (ok_is_crew T) (hr.mono (by decide)) (by rfl) T.g_is_crew T.F_is_crew.kp T.b_is_crew .nil pass0 (pa_cons (pe_ix ix_tup (pv 0) pe_int (fun _ _ => rfl)) pa_nil)) (pe_one (pe_call (ok_is_station T) (hr.mono (by decide)) (by rfl) T.g_is_station T.F_is_station.kp T.b_is_station .nil pass0 (pa_cons (pe_ix ix_tup (pv 0) pe_int (fun _ _ => rfl)) pa_nil)))))))), ?_⟩
    refine ⟨_, rfl, p, _, true, rfl, hp, fun H1 s1 => ⟨_, rfl, iteT ?_⟩⟩
    have hp1 := sameT s1 hp
    refine ⟨_, rfl, p, _, rfl, .inr hp1, rfl, _, rfl, iteT ?_⟩
    refine ⟨_, rfl, p, _, 0, _, rfl, rfl, hp1, atI_nat (j := 0) rfl, a, rfl, a5, _, rfl, iteT ?_⟩
    exact ⟨_, rfl, p, _, 1, _, rfl, rfl, hp1, atI_nat (j := 1) rfl, b, rfl, b8, k _ s1⟩
theorem ok_are_moves (T : Txt K mg) : FnOk P w K mg base CX0 5 T.a_are_moves T.d_are_moves ["thing"] (sp_are_moves K) := by
  refine T.F_are_moves.ok sc_are_moves (fun vs H Q E h => ?_) (fun cdv A outer s H vs Q E hr h => ?_)
  · obtain ⟨v, ms, rfl, _⟩ := h
    rfl
  · obtain ⟨v, ms, rfl, hv, l6, hm, k⟩ := h
    obtain ⟨p, xs, rfl, hp, hd⟩ := hv.inv
    have lx := hd.len
    rw [List.length_map] at lx
    refine ⟨_, (pss_cons (ps_if (PW.pt (pw_or (pt_not (pt_val (pe_call (ok_is_sequence T) (hr.mono (by decide)) (by rfl) T.g_is_sequence T.F_is_sequence.kp T.b_is_sequence .nil pass0 (pa_cons (pv 0) pa_nil)))) (pw_or1 (pt_cmpR op_gt (pe_callB call_len_seq (by rfl) T.z_len PySem.boot_len (pa_cons (pv 0) pa_nil)) (pe_glob (v := V.int 6) rfl T.c_MOST_MOVES ⟨_, rfl⟩) (nomark _)))))
        (pss_one (ps_ret pe_bl))
        pss_nil)
      (pss_one (ps_ret (pe_callB (cr_all rfl) (by rfl) T.z_all (by decide +kernel) (pa_cons (pe_lc (own := [("move", 1)]) (g := gName 1) (tt := tYes) rfl sc_are_moves.nd (pi_tup (pv 0)) (blkOk_by (own := [("move", 1)]) (N := nm_are_moves) (sc := (defScope s_are_moves)) (by decide +kernel)) (fun _ _ _ _ _ => pg_name (i := 1) sc_are_moves.nd rfl (Or.inl rfl)) (fun _ _ _ _ _ => pts_nil) (fun _ _ _ _ _ => (pe_call (ok_is_move T) (hr.mono (by decide)) (by rfl) T.g_is_move T.F_is_move.kp T.b_is_move .nil pass0 (pa_cons (pv 1) pa_nil)))) pa_nil))))), ?_⟩
    refine ⟨_, rfl, p, _, true, rfl, hp, fun H1 s1 => ⟨_, rfl, iteF ?_⟩⟩
    have hp1 := sameT s1 hp
    refine ⟨_, rfl, p, _, rfl, .inr hp1, _, _, rfl, rfl, _, rfl, ?_⟩
    rw [decide_eq_false (by omega)]
    refine iteF ?_
    refine ⟨_, rfl, p, rfl, ⟨_, hp1⟩, fun D hD => ?_⟩
    refine Lm.lc_map (K := K) walk_tup (xs := xs) (fun _ y _ => y = .bl true) (fun _ _ _ _ h _ => h) hD (by omega) (fun H' s' => sameT s' hp1) (fun i x H' hi hx s' Q' Z hQ => ?_) (fun H2 ys s2 hD2 hl hy => ?_)
    · obtain ⟨d, ed, hx2⟩ := hd.at hx
      rw [List.getElem?_map] at ed
      obtain ⟨m, em, rfl⟩ := Option.map_eq_some_iff.mp ed
      have h1 := hm m (List.mem_of_getElem? em)
      exact ⟨rfl, yesT ⟨_, rfl, x, m.1, m.2, rfl, hx2.ks (s1.trans s'), h1.1, h1.2, fun H3 s3 => hQ _ _ s3 rfl⟩⟩
    · rw [trues hl hy] at hD2
      refine ⟨D, _, rfl, SqL.of hD2, ?_⟩
      rw [all_rep]
      exact k _ (s1.trans s2)
end
end K59

namespace K59
open PySem L2 Wm TL Dv
section
variable {P : Program} {w : World} {K : PySem.W.Frag} {mg : Str → Option Value} {base : Heap}
theorem Bu.ts {p : Addr} {H H' : Hp} {q : Addr} {xs : List V} {C dx : Addr} {fs : List (Str × V)} (b : Bu p H H') (hp : H p = some (.ins C dx fs)) (h : SqT K H q xs) : SqT K H' q xs := b.kt hp (fun _ e => by cases e) (fun _ _ e => by cases e) _ _ h
theorem Bu.dt {p : Addr} {H H' : Hp} {v : V} {d : PyData} {C dx : Addr} {fs : List (Str × V)} (b : Bu p H H') (hp : H p = some (.ins C dx fs)) (h : Dt K H v d) : Dt K H' v d := h.k (b.kt hp (fun _ e => by cases e) (fun _ _ e => by cases e))
theorem putF_ex (f : Str) (v : V) (fs : List (Str × V)) : ∃ fs', putF f v fs = fs' ∧ (∀ g, fs'.lookup g = if g = f then some v else fs.lookup g) ∧ fs'.length ≤ fs.length + 1 := ⟨_, rfl, fun g => lookup_putF f g v fs, length_putF f v fs⟩
theorem crew5 {st : List Nat} {c : Cd} (l6 : st.length ≤ 6) (ok : CdOk st c) : ∀ k ∈ c.order, k ≤ 5 := fun k m => by have := ok.ord k m; omega
theorem ok_cinit (T : Txt K mg) : FnOk P w K mg base CX0 6 T.a_cinit T.d_cinit ["self", "number", "order", "counts", "owed", "moves"] (sp_cinit K T.CC) := by
  refine T.F_cinit.ok sc_cinit (fun vs H Q E h => ?_) (fun cdv A outer s H vs Q E hr h => ?_)
  · obtain ⟨p, dx, st, c, v1, v2, v3, v4, rfl, _⟩ := h
    rfl
  · obtain ⟨p, dx, st, c, v1, v2, v3, v4, rfl, hp, l6, s8, ok, d1, d2, d3, d4, k⟩ := h
    obtain ⟨q1, rfl, h1⟩ := dt_ints d1
    obtain ⟨q2, rfl, h2⟩ := dt_ints d2
    obtain ⟨q3, rfl, h3⟩ := dt_ints d3
    have d4' := d4
    obtain ⟨q4, ms, rfl, h4, hm⟩ := d4'.inv
    have lm := hm.len
    rw [List.length_map] at lm
    have m6 := ok.m6
    refine ⟨_, (pss_cons (ps_if (pt_not (pt_val (pe_call (ok_is_number T) (hr.mono (by decide)) (by rfl) T.g_is_number T.F_is_number.kp T.b_is_number .nil pass0 (pa_cons (pv 1) pa_nil))))
        (pss_one ps_never)
        pss_nil)
      (pss_cons (ps_if (pt_not (pt_val (pe_call (ok_is_order T) (hr.mono (by decide)) (by rfl) T.g_is_order T.F_is_order.kp T.b_is_order .nil pass0 (pa_cons (pv 2) pa_nil))))
        (pss_one ps_never)
        pss_nil)
      (pss_cons (ps_if (pt_not (pt_val (pe_call (ok_are_counts T) (hr.mono (by decide)) (by rfl) T.g_are_counts T.F_are_counts.kp T.b_are_counts .nil pass0 (pa_cons (pv 3) pa_nil))))
        (pss_one ps_never)
        pss_nil)
      (pss_cons (ps_if (pt_not (pt_val (pe_call (ok_are_counts T) (hr.mono (by decide)) (by rfl) T.g_are_counts T.F_are_counts.kp T.b_are_counts .nil pass0 (pa_cons (pv 4) pa_nil))))
        (pss_one ps_never)
        pss_nil)
      (pss_cons (ps_if (pt_not (pt_val (pe_call (ok_are_moves T) (hr.mono (by decide)) (by rfl) T.g_are_moves T.F_are_moves.kp T.b_are_moves .nil pass0 (pa_cons (pv 5) pa_nil))))
        (pss_one ps_never)
        pss_nil)
      (pss_cons (ps_fld (pv 0) (pv 1) rfl)
      (pss_cons (ps_fld (pv 0) (pe_callTy call_tuple_of (by rfl) T.z_tuple (by decide +kernel) (pa_cons (pv 2) pa_nil)) rfl)
      (pss_cons (ps_fld (pv 0) (pe_callTy call_tuple_of (by rfl) T.z_tuple (by decide +kernel) (pa_cons (pv 3) pa_nil)) rfl)
      (pss_cons (ps_fld (pv 0) (pe_callTy call_tuple_of (by rfl) T.z_tuple (by decide +kernel) (pa_cons (pv 4) pa_nil)) rfl)
      (pss_one (ps_fld (pv 0) (pe_callTy call_tuple_of (by rfl) T.z_tuple (by decide +kernel) (pa_cons (pe_lc (own := [("move", 6)]) (g := gName 6) (tt := tYes) rfl sc_cinit.nd (pi_tup (pv 5)) (blkOk_by (own := [("move", 6)]) (N := nm_cinit) (sc := (defScope s_cinit)) (by decide +kernel)) (fun _ _ _ _ _ => pg_name (i := 6) sc_cinit.nd rfl (Or.inl rfl)) (fun _ _ _ _ _ => pts_nil) (fun _ _ _ _ _ => (pe_callTy (show CallR _ _ (Kx.rTupOf K) from call_tuple_of) (by rfl) T.z_tuple (by decide +kernel) (pa_cons (pv 6) pa_nil)))) pa_nil)) rfl))))))))))), ?_⟩
    refine ⟨_, rfl, _, _, rfl, ob_num ok.num, fun H1 b s1 hb => ?_⟩
    rw [hb.mpr ⟨_, ok.num, rfl⟩]
    refine ⟨_, rfl, iteF ?_⟩
    refine ⟨_, rfl, q1, c.order, rfl, sameT s1 h1, ok.nd, crew5 l6 ok, fun H2 s2 => ⟨_, rfl, iteF ?_⟩⟩
    have s2 := s1.trans s2
    refine ⟨_, rfl, q2, c.counts, rfl, sameT s2 h2, ok.c3, ok.c6, fun H3 s3 => ⟨_, rfl, iteF ?_⟩⟩
    have s3 := s2.trans s3
    refine ⟨_, rfl, q3, c.owed, rfl, sameT s3 h3, ok.o3, ok.o6, fun H4 s4 => ⟨_, rfl, iteF ?_⟩⟩
    have s4 := s3.trans s4
    refine ⟨_, rfl, .ref q4, c.moves, rfl, d4.ks s4, ok.m6, fun m mm => ⟨by have := (ok.mv m mm).1; omega, s8 _ (ok.mv m mm).2⟩, fun H5 s5 => ⟨_, rfl, iteF ?_⟩⟩
    have s5 := s4.trans s5
    have hp5 := s5 _ _ hp
    have b5 : Bu p H H5 := Bu.of s5
    have st0 : ∀ g : Str, ([] : List (Str × V)).lookup g = none := fun _ => rfl
    refine ⟨_, rfl, _, rfl, p, T.CC, dx, [], rfl, hp5, T.clCC, T.nNu, by show 0 < 1000; decide, ?_⟩
    obtain ⟨f1, e1, g1, n1⟩ := putF_ex "number" (.str (numS c.ds)) []
    have n1 : f1.length ≤ 1 := n1
    rw [e1]
    have b6 : Bu p H (upd H5 p (.ins T.CC dx f1)) := b5.trans Bu.set
    have hp6 : upd H5 p (.ins T.CC dx f1) p = some (.ins T.CC dx f1) := upd_same
    generalize upd H5 p (.ins T.CC dx f1) = H6 at b6 hp6 ⊢
    refine ⟨_, rfl, q1, _, rfl, .inr ⟨b6.ts hp h1, ?_⟩⟩
    refine ⟨_, rfl, p, T.CC, dx, _, rfl, hp6, T.clCC, T.nOr, by omega, ?_⟩
    obtain ⟨f2, e2, g2, n2⟩ := putF_ex "order" (.ref q1) f1
    rw [e2]
    have b7 : Bu p H (upd H6 p (.ins T.CC dx f2)) := b6.trans Bu.set
    have hp7 : upd H6 p (.ins T.CC dx f2) p = some (.ins T.CC dx f2) := upd_same
    generalize upd H6 p (.ins T.CC dx f2) = H7 at b7 hp7 ⊢
    refine ⟨_, rfl, q2, _, rfl, .inr ⟨b7.ts hp h2, ?_⟩⟩
    refine ⟨_, rfl, p, T.CC, dx, _, rfl, hp7, T.clCC, T.nCo, by omega, ?_⟩
    obtain ⟨f3, e3, g3, n3⟩ := putF_ex "counts" (.ref q2) f2
    rw [e3]
    have b8 : Bu p H (upd H7 p (.ins T.CC dx f3)) := b7.trans Bu.set
    have hp8 : upd H7 p (.ins T.CC dx f3) p = some (.ins T.CC dx f3) := upd_same
    generalize upd H7 p (.ins T.CC dx f3) = H8 at b8 hp8 ⊢
    refine ⟨_, rfl, q3, _, rfl, .inr ⟨b8.ts hp h3, ?_⟩⟩
    refine ⟨_, rfl, p, T.CC, dx, _, rfl, hp8, T.clCC, T.nOw, by omega, ?_⟩
    obtain ⟨f4, e4, g4, n4⟩ := putF_ex "owed" (.ref q3) f3
    rw [e4]
    have b9 : Bu p H (upd H8 p (.ins T.CC dx f4)) := b8.trans Bu.set
    have hp9 : upd H8 p (.ins T.CC dx f4) p = some (.ins T.CC dx f4) := upd_same
    generalize upd H8 p (.ins T.CC dx f4) = H9 at b9 hp9 ⊢
    have h49 := b9.ts hp h4
    have hm9 : Dts K H9 ms (c.moves.map fun x => PyData.tuple [.int (x.1 : Nat), .int (x.2 : Nat)]) := hm.k (b9.kt hp (fun _ e => by cases e) (fun _ _ e => by cases e))
    refine ⟨_, rfl, q4, rfl, ⟨_, h49⟩, fun D hD => ?_⟩
    refine Lm.lc_map (K := K) walk_tup (xs := ms) (fun i y _ => ms[i]? = some y) (fun _ _ _ _ h _ => h) hD (by omega) (fun H' s' => sameT s' h49) (fun i x H' hi hx s' Q' Z hQ => ?_) (fun H2 ys s2 hD2 hl hy => ?_)
    · obtain ⟨d, ed, hx2⟩ := hm9.at hx
      rw [List.getElem?_map] at ed
      obtain ⟨m, em, rfl⟩ := Option.map_eq_some_iff.mp ed
      obtain ⟨p2, xs2, rfl, hp2, _⟩ := hx2.inv
      exact ⟨rfl, yesT ⟨_, rfl, p2, _, rfl, .inr ⟨sameT s' hp2, hQ _ _ (Same.refl _) hx⟩⟩⟩
    · have ey : ys = ms := List.ext_getElem? fun i => by
        by_cases c1 : i < ys.length
        · rw [List.getElem?_eq_getElem c1, hy i _ (List.getElem?_eq_getElem c1)]
        · rw [List.getElem?_eq_none (by omega), List.getElem?_eq_none (by omega)]
      subst ey
      refine ⟨D, _, rfl, .inl ⟨SqL.of hD2, fun t ht => ?_⟩⟩
      have s3 := s2.trans (same_new (o := .tup ys) ht)
      have hpt := s3 _ _ hp9
      have ht2 : upd H2 t (.tup ys) t = some (.tup ys) := upd_same
      have b10 : Bu p H (upd H2 t (.tup ys)) := b9.trans (Bu.of s3)
      have nt : t ≠ p := fun e => by subst e; rw [s2 _ _ hp9] at ht; cases ht
      have hmt := hm9.ks s3
      generalize upd H2 t (.tup ys) = HA at hpt ht2 b10 hmt ⊢
      refine ⟨_, rfl, p, T.CC, dx, _, rfl, hpt, T.clCC, T.nMo, by omega, ?_⟩
      obtain ⟨f5, e5, g5, n5⟩ := putF_ex "moves" (.ref t) f4
      rw [e5]
      have b11 : Bu p H (upd HA p (.ins T.CC dx f5)) := b10.trans Bu.set
      have hpz : upd HA p (.ins T.CC dx f5) p = some (.ins T.CC dx f5) := upd_same
      have bz : Bu p HA (upd HA p (.ins T.CC dx f5)) := Bu.set
      have kz : Kt K HA (upd HA p (.ins T.CC dx f5)) := bz.kt hpt (fun _ e => by cases e) (fun _ _ e => by cases e)
      refine k _ b11 ⟨p, dx, f5, .ref q1, .ref q2, .ref q3, .ref t, rfl, hpz, ?_, ?_, b11.dt hp d1, ?_, b11.dt hp d2, ?_, b11.dt hp d3, ?_, .tup (kz _ _ (SqT.of ht2)) (hmt.k kz), ?_⟩
      all_goals first
        | (rw [g5, if_pos rfl])
        | (rw [g5, if_neg (by decide +kernel), g4, if_pos rfl])
        | (rw [g5, if_neg (by decide +kernel), g4, if_neg (by decide +kernel), g3, if_pos rfl])
        | (rw [g5, if_neg (by decide +kernel), g4, if_neg (by decide +kernel), g3, if_neg (by decide +kernel), g2, if_pos rfl])
        | (rw [g5, if_neg (by decide +kernel), g4, if_neg (by decide +kernel), g3, if_neg (by decide +kernel), g2, if_neg (by decide +kernel), g1, if_pos rfl])
        | (rw [g5, if_neg (by decide +kernel), g4, if_neg (by decide +kernel), g3, if_neg (by decide +kernel), g2, if_neg (by decide +kernel), g1, if_neg (by decide +kernel)]; rfl)
theorem ok_check_crew (T : Txt K mg) : FnOk P w K mg base CX0 1 T.a_check_crew T.d_check_crew ["card", "crew", "stations"] (sp_check_crew K) := by
  refine T.F_check_crew.ok sc_check_crew (fun vs H Q E h => ?_) (fun cdv A outer s H vs Q E hr h => ?_)
  · obtain ⟨v, n, p, st, rfl, _⟩ := h
    rfl
  · obtain ⟨v, n, p, st, rfl, hp, hn, l6, k⟩ := h
    refine ⟨_, (pss_one (ps_if (pt_cmpR op_ge (pv 1) (pe_callB call_len_seq (by rfl) T.z_len PySem.boot_len (pa_cons (pv 2) pa_nil)) (nomark _))
        (pss_one ps_never)
        pss_nil)), ?_⟩
    refine ⟨_, rfl, _, rfl, p, _, rfl, .inl (SqL.of hp), _, _, rfl, rfl, _, rfl, ?_⟩
    rw [nV_len, decide_eq_false (by omega)]
    exact iteF k
theorem ok_check_card (T : Txt K mg) : FnOk P w K mg base CX0 2 T.a_check_card T.d_check_card ["card", "stations"] (sp_check_card K T.CC) := by
  refine T.F_check_card.ok sc_check_card (fun vs H Q E h => ?_) (fun cdv A outer s H vs Q E hr h => ?_)
  · obtain ⟨v, c, p, st, rfl, _⟩ := h
    rfl
  · obtain ⟨v, c, p, st, rfl, hc, hp, l6, ok, k⟩ := h
    have hc0 := hc
    obtain ⟨x, dx, fs, o1, o2, o3, o4, rfl, hx, i1, i2, d2, i3, d3, i4, d4, i5, d5, i6⟩ := hc
    obtain ⟨q1, rfl, h1⟩ := dt_ints d2
    obtain ⟨q4, ms, rfl, h4, hm⟩ := d5.inv
    refine ⟨_, (pss_cons (ps_for PassesOwn.never rfl (pi_tup (pe_fld (pv 0) rfl)) (pg_name (i := 2) sc_check_card.nd rfl (Or.inl rfl))
        (pss_one (ps_expr (pe_call (ok_check_crew T) (hr.mono (by decide)) (by rfl) T.g_check_crew T.F_check_crew.kp T.b_check_crew .nil pass0 (pa_cons (pv 0) (pa_cons (pv 2) (pa_cons (pv 1) pa_nil)))))))
      (pss_one (ps_for PassesOwn.never rfl (pi_tup (pe_fld (pv 0) rfl)) (pg_tup rfl (pgs_cons (pg_name (i := 2) sc_check_card.nd rfl (Or.inl rfl)) (pgs_cons (pg_name (i := 3) sc_check_card.nd rfl (Or.inl rfl)) pgs_nil)))
        (pss_cons (ps_expr (pe_call (ok_check_crew T) (hr.mono (by decide)) (by rfl) T.g_check_crew T.F_check_crew.kp T.b_check_crew .nil pass0 (pa_cons (pv 0) (pa_cons (pv 2) (pa_cons (pv 1) pa_nil)))))
        (pss_one (ps_if (pt_cmpR op_notIn_seq (pv 3) (pv 1) rfl)
          (pss_one ps_never)
          pss_nil)))))), ?_⟩
    refine ⟨_, rfl, x, T.CC, dx, fs, _, rfl, hx, T.clCC, T.nOr, i2, q1, rfl, ⟨_, h1⟩, ?_⟩
    refine for_tup (xs := nV c.order) (fun i σ A => ∃ v2, σ = [some (.ref x), some (.ref p), v2, none] ∧ H = A) ⟨none, rfl, rfl⟩ (fun i σ A _ h => by obtain ⟨_, _, rfl⟩ := h; exact h1) (fun i v σ A hv hP => ?_) (fun σ A hP => ?_)
    · obtain ⟨v2, rfl, rfl⟩ := hP
      obtain ⟨n, hn, rfl⟩ := nV_inv hv
      exact ⟨_, rfl, _, rfl, _, rfl, .ref x, n, p, st, rfl, hp, ok.ord n (List.mem_of_getElem? hn), l6, _, rfl, rfl⟩
    · obtain ⟨v2, rfl, rfl⟩ := hP
      refine ⟨_, rfl, x, T.CC, dx, fs, _, rfl, hx, T.clCC, T.nMo, i5, q4, rfl, ⟨_, h4⟩, ?_⟩
      refine for_tup (xs := ms) (fun i σ A => ∃ v2 v3, σ = [some (.ref x), some (.ref p), v2, v3] ∧ H = A) ⟨v2, none, rfl, rfl⟩ (fun i σ A _ h => by obtain ⟨_, _, _, rfl⟩ := h; exact h4) (fun i v σ A hv hP => ?_) (fun σ A hP => ?_)
      · obtain ⟨v2, v3, rfl, rfl⟩ := hP
        obtain ⟨d, ed, hx2⟩ := hm.at hv
        rw [List.getElem?_map] at ed
        obtain ⟨m, em, rfl⟩ := Option.map_eq_some_iff.mp ed
        obtain ⟨p2, a, b, rfl, hp2, ha, hb⟩ := dt_two hx2
        obtain rfl := ha.int_inv
        obtain rfl := hb.int_inv
        have mv := ok.mv m (List.mem_of_getElem? em)
        refine ⟨p2, _, rfl, hp2, rfl, _, _, rfl, _, _, rfl, rfl, ?_⟩
        refine ⟨_, rfl, _, rfl, _, rfl, .ref x, m.1, p, st, rfl, hp, mv.1, l6, ?_⟩
        have hpi := hp
        rw [nV_int] at hpi
        refine ⟨_, rfl, _, rfl, p, _, rfl, .inl (SqL.of hpi), rfl, flat_ints _, ?_⟩
        rw [if_pos rfl, in_ints, decide_eq_true (List.mem_map.mpr ⟨m.2, mv.2, rfl⟩)]
        exact ⟨_, rfl, iteF ⟨_, _, rfl, rfl⟩⟩
      · obtain ⟨v2, v3, rfl, rfl⟩ := hP
        exact k _ (Same.refl _)
end
end K59

namespace K59
open PySem L2 Wm TL Dv
section
variable {P : Program} {w : World} {K : PySem.W.Frag} {mg : Str → Option Value} {base : Heap}
theorem CardAt.num {CC : Addr} {H : Hp} {v : V} {c : Cd} (h : CardAt K CC H v c) : ∃ p dx fs, v = .ref p ∧ H p = some (.ins CC dx fs) ∧ fs.lookup ("number" : Str) = some (.str (numS c.ds)) := by
  obtain ⟨p, dx, fs, _, _, _, _, e, a, b, _⟩ := h
  exact ⟨p, dx, fs, e, a, b⟩
theorem numS_ne {a b : List Nat} (h : a ≠ b) : V.str (numS a) ≠ V.str (numS b) := fun e => h (numS_inj (V.str.inj e))
theorem flat_strs (ss : List Str) : (ss.map V.str).all flatV = true := by
  rw [List.all_map]
  exact List.all_eq_true.mpr fun _ _ => rfl
theorem in_strs (x : Str) : ∀ ss : List Str, inV (.str x) (ss.map V.str) = decide (x ∈ ss)
  | [] => rfl
  | s :: ss => by
    have ih := in_strs x ss
    unfold inV at ih ⊢
    rw [List.map_cons, List.any_cons, ih]
    show ((s == x) || decide (x ∈ ss)) = _
    by_cases e : s = x
    · subst e; simp
    · simp [e, Ne.symm e]
theorem nums_nodup {cs : List Cd} (h : (cs.map fun c => c.ds).Nodup) : (cs.map fun c => numS c.ds).Nodup := by
  have : (cs.map fun c => numS c.ds) = (cs.map fun c => c.ds).map numS := by rw [List.map_map]; rfl
  rw [this]
  exact h.map _ fun a b ne e => ne (numS_inj e)
theorem not_before {α : Type} [DecidableEq α] {xs : List α} (nd : xs.Nodup) {i : Nat} {x : α} (h : xs[i]? = some x) : x ∉ xs.take i := fun m => by
  obtain ⟨j, hj, e⟩ := List.mem_iff_getElem.mp m
  rw [List.length_take] at hj
  rw [List.getElem_take] at e
  obtain ⟨hi1, hi2⟩ := List.getElem?_eq_some_iff.mp h
  exact List.pairwise_iff_getElem.mp nd j i (by omega) hi1 (by omega) (e.trans hi2.symm)
theorem cut_tk (xs : List V) {k : Nat} : cutV xs none (some (k : Int)) = xs.take k := by
  unfold cutV
  rw [HT.sIx_none, HT.sIx_nat]
  rw [List.drop_zero, Nat.sub_zero, List.take_eq_take_iff]
  omega
theorem dts_of {H : Hp} : ∀ {ys : List V} {ds : List PyData}, ys.length = ds.length → (∀ (i : Nat) y, ys[i]? = some y → ∃ d, ds[i]? = some d ∧ Dt K H y d) → Dts K H ys ds
  | [], [], _, _ => .nil
  | [], _ :: _, l, _ => by cases l
  | _ :: _, [], l, _ => by cases l
  | y :: ys, d :: ds, l, h => by
    obtain ⟨d', e, g⟩ := h 0 y rfl
    cases e
    exact .cons g (dts_of (Nat.succ.inj l) fun i z e => h (i + 1) z e)
theorem ok_rinit (T : Txt K mg) : FnOk P w K mg base CX0 5 T.a_rinit T.d_rinit ["self", "stations", "cards"] (sp_rinit K T.CC T.RC) := by
  refine T.F_rinit.ok sc_rinit (fun vs H Q E h => ?_) (fun cdv A outer s H vs Q E hr h => ?_)
  · obtain ⟨p, dx, a, b, r, cvs, rfl, _⟩ := h
    rfl
  · obtain ⟨p, dx, a, b, r, cvs, rfl, hp, na, nb, ha, hb, hc, ok, k⟩ := h
    have lc := hc.len
    have c6 := ok.cs6
    have l6 := ok.st6
    refine ⟨_, (pss_cons (ps_if (pt_not (pt_val (pe_call (ok_is_stations T) (hr.mono (by decide)) (by rfl) T.g_is_stations T.F_is_stations.kp T.b_is_stations .nil pass0 (pa_cons (pv 1) pa_nil))))
        (pss_one ps_never)
        pss_nil)
      (pss_cons (ps_for PassesOwn.never rfl (pi_list (pv 2)) (pg_name (i := 3) sc_rinit.nd rfl (Or.inl rfl))
        (pss_one (ps_expr (pe_call (ok_check_card T) (hr.mono (by decide)) (by rfl) T.g_check_card T.F_check_card.kp T.b_check_card .nil pass0 (pa_cons (pv 3) (pa_cons (pv 1) pa_nil))))))
      (pss_cons (ps_fld (pv 0) (pe_callTy call_tuple_of (by rfl) T.z_tuple (by decide +kernel) (pa_cons (pv 1) pa_nil)) rfl)
      (pss_cons (ps_fld (pv 0) (pe_callTy call_tuple_of (by rfl) T.z_tuple (by decide +kernel) (pa_cons (pv 2) pa_nil)) rfl)
      (pss_cons (ps_fld (pv 0) (pe_callTy Tf.call_tupF (by rfl) T.z_tuple (by decide +kernel) (pa_cons (pe_lc (own := [("card", 3)]) (g := gName 3) (tt := tYes) rfl sc_rinit.nd (pi_list (pv 2)) (blkOk_by (own := [("card", 3)]) (N := nm_rinit) (sc := (defScope s_rinit)) (by decide +kernel)) (fun _ _ _ _ _ => pg_name (i := 3) sc_rinit.nd rfl (Or.inl rfl)) (fun _ _ _ _ _ => pts_nil) (fun _ _ _ _ _ => (show PE _ _ (tFld K (tVar 3) "number") from by exact pe_fld (pv 3) rfl))) pa_nil)) rfl)
      (pss_one (ps_for PassesOwn.never rfl (Es.pi_ent (by rfl) T.z_enumerate (pa_cons (pe_fld (pv 0) rfl) pa_nil)) (pg_tup rfl (pgs_cons (pg_name (i := 4) sc_rinit.nd rfl (Or.inl rfl)) (pgs_cons (pg_name (i := 5) sc_rinit.nd rfl (Or.inl rfl)) pgs_nil)))
        (pss_one (ps_if (pt_cmpR op_in_seq (pv 5) (pe_slice sl_tupA (pe_fld (pv 0) rfl) po_none (po_some (pv 4))) rfl)
          (pss_one ps_never)
          pss_nil))))))))), ?_⟩
    refine ⟨_, rfl, a, r.st, rfl, ha, ok.st1, ok.st6, ok.st8, fun H1 s1 => ⟨_, rfl, iteF ?_⟩⟩
    have hb1 := s1 _ _ hb
    have ha1 := s1 _ _ ha
    refine ⟨_, rfl, b, rfl, ⟨_, SqL.of hb1⟩, ?_⟩
    refine for_list (xs := cvs) (fun i σ A => ∃ v3, σ = [some (.ref p), some (.ref a), some (.ref b), v3, none, none] ∧ Same H1 A) ⟨none, rfl, Same.refl _⟩ (fun i σ A _ h => by obtain ⟨_, _, sA⟩ := h; exact SqL.of (sA _ _ hb1)) (fun i v σ A hv hP => ?_) (fun σ A hP => ?_)
    · obtain ⟨v3, rfl, sA⟩ := hP
      obtain ⟨c, ec, hcv⟩ := hc.at hv
      exact ⟨_, rfl, _, rfl, v, c, a, r.st, rfl, hcv.k (s1.trans sA), sA _ _ ha1, l6, ok.ok c (List.mem_of_getElem? ec), fun H' s' => ⟨_, rfl, sA.trans s'⟩⟩
    · obtain ⟨v3, rfl, sA⟩ := hP
      have s2 := s1.trans sA
      refine ⟨_, rfl, a, _, rfl, .inl ⟨SqL.of (s2 _ _ ha), fun t ht => ?_⟩⟩
      have s3 := s2.trans (same_new (o := .tup (nV r.st)) ht)
      have ht3 : upd A t (.tup (nV r.st)) t = some (.tup (nV r.st)) := upd_same
      generalize upd A t (.tup (nV r.st)) = H3 at s3 ht3 ⊢
      have hp3 := s3 _ _ hp
      refine ⟨_, rfl, p, T.RC, dx, [], rfl, hp3, T.clRC, T.nSt, by show 0 < 1000; decide, ?_⟩
      obtain ⟨f1, e1, g1, n1⟩ := putF_ex "stations" (.ref t) []
      have n1 : f1.length ≤ 1 := n1
      rw [e1]
      have b4 : Bu p H3 (upd H3 p (.ins T.RC dx f1)) := Bu.set
      have hp4 : upd H3 p (.ins T.RC dx f1) p = some (.ins T.RC dx f1) := upd_same
      generalize upd H3 p (.ins T.RC dx f1) = H4 at b4 hp4 ⊢
      have b04 : Bu p H H4 := (Bu.of s3).trans b4
      have hb4 := b04 _ _ nb hb
      refine ⟨_, rfl, b, _, rfl, .inl ⟨SqL.of hb4, fun t2 ht2 => ?_⟩⟩
      have s5 := same_new (o := .tup cvs) ht2
      have ht5 : upd H4 t2 (.tup cvs) t2 = some (.tup cvs) := upd_same
      generalize upd H4 t2 (.tup cvs) = H5 at s5 ht5 ⊢
      have hp5 := s5 _ _ hp4
      refine ⟨_, rfl, p, T.RC, dx, f1, rfl, hp5, T.clRC, T.nCa, by omega, ?_⟩
      obtain ⟨f2, e2, g2, n2⟩ := putF_ex "cards" (.ref t2) f1
      rw [e2]
      have b6 : Bu p H5 (upd H5 p (.ins T.RC dx f2)) := Bu.set
      have hp6 : upd H5 p (.ins T.RC dx f2) p = some (.ins T.RC dx f2) := upd_same
      generalize upd H5 p (.ins T.RC dx f2) = H6 at b6 hp6 ⊢
      have b06 := (b04.trans (Bu.of s5)).trans b6
      have hb6 := b06 _ _ nb hb
      have hc6 : All2 (CardAt K T.CC H6) cvs r.cs := hc.mono fun v c x => x.kb (b06.kt hp (fun _ e => by cases e) (fun _ _ e => by cases e)) fun q dq fs e _ ne => b06 q _ (fun z => by
        subst z
        rw [hp] at e
        have e := Option.some.inj e
        injection e with e1 e2 e3
        exact ne e3.symm) e
      refine ⟨_, rfl, b, rfl, ⟨_, SqL.of hb6⟩, fun D hD => ?_⟩
      refine Lm.lc_map (K := K) walk_list (xs := cvs) (fun i y _ => ∃ c, r.cs[i]? = some c ∧ y = .str (numS c.ds)) (fun _ _ _ _ h _ => h) hD (by omega) (fun H' s' => SqL.of (s' _ _ hb6)) (fun i x H' hi hx s' Q' Z hQ => ?_) (fun H7 ys s7 hD7 hl hy => ?_)
      · obtain ⟨c, ec, hcv⟩ := (hc6.mono fun _ _ x => x.k s').at hx
        obtain ⟨p2, dx2, fs2, rfl, hp2, l2⟩ := hcv.num
        exact ⟨rfl, yesT ⟨_, rfl, p2, T.CC, dx2, fs2, _, rfl, hp2, T.clCC, T.nNu, l2, hQ _ _ (Same.refl _) ⟨c, ec, rfl⟩⟩⟩
      have ey : ys = (r.cs.map fun c => numS c.ds).map V.str := by
        refine List.ext_getElem? fun i => ?_
        rw [List.getElem?_map, List.getElem?_map]
        by_cases c1 : i < ys.length
        · obtain ⟨c, ec, e⟩ := hy i _ (List.getElem?_eq_getElem c1)
          rw [List.getElem?_eq_getElem c1, ec, e]
          rfl
        · rw [List.getElem?_eq_none (by omega), List.getElem?_eq_none (by omega)]
          rfl
      subst ey
      refine ⟨D, _, rfl, SqL.of hD7, fun t3 ob ht3' hob => ?_⟩
      have s8 := s7.trans (same_new (o := .frz ob (.tup ((r.cs.map fun c => numS c.ds).map V.str))) ht3')
      have ht8 : upd H7 t3 (.frz ob (.tup ((r.cs.map fun c => numS c.ds).map V.str))) t3 = some (.frz ob (.tup ((r.cs.map fun c => numS c.ds).map V.str))) := upd_same
      generalize upd H7 t3 (.frz ob (.tup ((r.cs.map fun c => numS c.ds).map V.str))) = H8 at s8 ht8 ⊢
      have hp8 := s8 _ _ hp6
      refine ⟨_, rfl, p, T.RC, dx, f2, rfl, hp8, T.clRC, T.nNs, by omega, ?_⟩
      obtain ⟨f3, e3, g3, n3⟩ := putF_ex "numbers" (.ref t3) f2
      rw [e3]
      have b9 : Bu p H8 (upd H8 p (.ins T.RC dx f3)) := Bu.set
      have hp9 : upd H8 p (.ins T.RC dx f3) p = some (.ins T.RC dx f3) := upd_same
      generalize upd H8 p (.ins T.RC dx f3) = H9 at b9 hp9 ⊢
      have nt3 : t3 ≠ p := fun z => by subst z; rw [hp8] at ht8; cases ht8
      have ht9 := b9 _ _ nt3 ht8
      have l3 : f3.lookup ("numbers" : Str) = some (.ref t3) := by rw [g3, if_pos rfl]
      have l2 : f3.lookup ("cards" : Str) = some (.ref t2) := by rw [g3, if_neg (by decide +kernel), g2, if_pos rfl]
      have l1 : f3.lookup ("stations" : Str) = some (.ref t) := by rw [g3, if_neg (by decide +kernel), g2, if_neg (by decide +kernel), g1, if_pos rfl]
      have lo : ∀ m : Str, m ≠ "stations" → m ≠ "cards" → m ≠ "numbers" → f3.lookup m = none := fun m h1 h2 h3 => by rw [g3, if_neg h3, g2, if_neg h2, g1, if_neg h1]; rfl
      have b09 := (b06.trans (Bu.of s8)).trans b9
      have hcZ : All2 (CardAt K T.CC H9) cvs r.cs := hc.mono fun v c x => x.kb (b09.kt hp (fun _ e => by cases e) (fun _ _ e => by cases e)) fun q dq fs e _ ne => b09 q _ (fun z => by
        subst z
        rw [hp] at e
        have e := Option.some.inj e
        injection e with e1 e2 e3
        exact ne e3.symm) e
      have nt : t ≠ p := fun z => by subst z; rw [hp3] at ht3; cases ht3
      have nt2 : t2 ≠ p := fun z => by subst z; rw [hp5] at ht5; cases ht5
      have htZ := b9 _ _ nt (s8 _ _ (b6 _ _ nt (s5 _ _ (b4 _ _ nt ht3))))
      have ht2Z := b9 _ _ nt2 (s8 _ _ (b6 _ _ nt2 ht5))
      have hTF : Tf.TF H9 t3 ((r.cs.map fun c => numS c.ds).map V.str) := ⟨ob, ht9, hob⟩
      have hR : RoomAt K T.RC T.CC H9 p r := ⟨dx, f3, .ref t, t2, t3, cvs, hp9, l1, dt_iD htZ, l2, SqT.of ht2Z, hcZ, l3, hTF, lo⟩
      refine ⟨_, rfl, p, T.RC, dx, f3, _, rfl, hp9, T.clRC, T.nNs, l3, t3, _, rfl, hTF.sq, ?_⟩
      refine for_it Es.walk_ent (fun i σ A => ∃ v4 v5, σ = [some (.ref p), some (.ref a), some (.ref b), v3, v4, v5] ∧ Same H9 A) ⟨none, none, rfl, Same.refl _⟩ (fun i σ A _ h => by obtain ⟨_, _, _, sA⟩ := h; exact (hTF.k sA).sq) (fun i x σ A A' hi hP hY => ?_) (fun σ A hP => ?_)
      · obtain ⟨v4, v5, rfl, sA⟩ := hP
        obtain ⟨tp, x1, x2, rfl, htp, rfl, e1, e2⟩ := hY
        cases e1
        have e2 : ((r.cs.map fun c => numS c.ds).map V.str)[i]? = some x2 := e2
        rw [List.getElem?_map] at e2
        obtain ⟨n, en, rfl⟩ := Option.map_eq_some_iff.mp e2
        have en2 := en
        rw [List.getElem?_map] at en2
        obtain ⟨c, ec, rfl⟩ := Option.map_eq_some_iff.mp en2
        have sB := sA.trans (same_new (o := .tup [.int (i : Nat), .str (numS c.ds)]) htp)
        refine ⟨tp, _, rfl, SqT.of upd_same, rfl, _, _, rfl, _, _, rfl, rfl, ?_⟩
        generalize upd A tp (.tup [.int (i : Nat), .str (numS c.ds)]) = B at sB ⊢
        have hi2 : i < r.cs.length := (List.getElem?_eq_some_iff.mp ec).1
        refine ⟨_, rfl, _, rfl, p, T.RC, dx, f3, _, rfl, sB _ _ hp9, T.clRC, T.nNs, l3, _, rfl, _, rfl, t3, _, rfl, (hTF.k sB).sq, fun w => ?_, fun _ u hu => ?_⟩
        · exfalso
          have w2 := w.2
          rw [HT.sIx_nat, List.length_map, List.length_map] at w2
          omega
        · rw [cut_tk, ← List.map_take]
          have sC := sB.trans (same_new (o := .tup (((r.cs.map fun c => numS c.ds).take i).map V.str)) hu)
          refine ⟨u, _, rfl, .inr (SqT.of upd_same), rfl, flat_strs _, ?_⟩
          rw [if_neg (by decide), in_strs, decide_eq_false (not_before (nums_nodup ok.nd) en)]
          exact ⟨_, rfl, iteF ⟨_, _, rfl, sC⟩⟩
      · obtain ⟨v4, v5, rfl, sA⟩ := hP
        exact k _ (b09.trans (Bu.of sA)) (hR.k sA)
theorem ok_rstart (T : Txt K mg) : FnOk P w K mg base CX0 1 T.a_rstart T.d_rstart ["self"] (sp_rstart K T.CC T.RC) := by
  refine T.F_rstart.ok sc_rstart (fun vs H Q E h => ?_) (fun cdv A outer s H vs Q E hr h => ?_)
  · obtain ⟨p, r, rfl, _⟩ := h
    rfl
  · obtain ⟨p, r, rfl, hR, ok, k⟩ := h
    obtain ⟨dx, fs, s, q, n, cvs, hp, l1, d1, l2, hq, hc, l3, d3, lo⟩ := id hR
    obtain ⟨t1, rfl, h1⟩ := dt_ints d1
    have lc := hc.len
    have c6 := ok.cs6
    have l6 := ok.st6
    refine ⟨_, (pss_one (ps_ret (pe_tup (pa_cons (pe_callTy call_tuple_of (by rfl) T.z_tuple (by decide +kernel) (pa_cons (pe_lc (own := [("station", 1)]) (g := gName 1) (tt := tYes) rfl sc_rstart.nd (pi_tup (pe_fld (pv 0) rfl)) (blkOk_by (own := [("station", 1)]) (N := nm_rstart) (sc := (defScope s_rstart)) (by decide +kernel)) (fun _ _ _ _ _ => pg_name (i := 1) sc_rstart.nd rfl (Or.inl rfl)) (fun _ _ _ _ _ => pts_nil) (fun _ _ _ _ _ => (pe_tup (pa_cons (pe_glob (v := V.str "in") rfl T.c_IN ⟨_, rfl⟩) (pa_cons (pv 1) pa_nil))))) pa_nil)) (pa_cons (pe_op op_repTA (pe_tup (pa_cons pe_int pa_nil)) (pe_callB call_len_seq (by rfl) T.z_len PySem.boot_len (pa_cons (pe_fld (pv 0) rfl) pa_nil))) pa_nil))))), ?_⟩
    refine ⟨_, rfl, p, T.RC, dx, fs, _, rfl, hp, T.clRC, T.nSt, l1, t1, rfl, ⟨_, h1⟩, fun D hD => ?_⟩
    refine Lm.lc_map (K := K) walk_tup (xs := nV r.st) (fun i y A => ∃ n, r.st[i]? = some n ∧ Dt K A y (plD (.ins n))) (fun _ _ _ _ h kt => let ⟨n, e, d⟩ := h; ⟨n, e, d.k kt⟩) hD (by rw [nV_len]; omega) (fun H' s' => sameT s' h1) (fun i x H' hi hx s' Q' Z hQ => ?_) (fun H2 ys s2 hD2 hl hy => ?_)
    · obtain ⟨n, hn, rfl⟩ := nV_inv hx
      refine ⟨rfl, yesT ⟨_, rfl, by show 2 ≤ sizeLine; decide, fun u hu => hQ _ _ (same_new hu) ⟨n, hn, dt_tup upd_same (.cons (.str _) (.cons (.int _) .nil))⟩⟩⟩
    · rw [nV_len] at hl
      refine ⟨D, _, rfl, .inl ⟨SqL.of hD2, fun t ht => ?_⟩⟩
      have s3 := s2.trans (same_new (o := .tup ys) ht)
      have ht3 : upd H2 t (.tup ys) t = some (.tup ys) := upd_same
      have hy3 : ∀ (i : Nat) y, ys[i]? = some y → ∃ n, r.st[i]? = some n ∧ Dt K (upd H2 t (.tup ys)) y (plD (.ins n)) := fun i y e => let ⟨n, a, b⟩ := hy i y e; ⟨n, a, b.k (Kt.new ht)⟩
      generalize upd H2 t (.tup ys) = H3 at s3 ht3 hy3 ⊢
      have hds : Dts K H3 ys ((r.st.map Pl.ins).map plD) := dts_of (by rw [List.length_map, List.length_map]; exact hl) fun i y e => by
        obtain ⟨n, a, b⟩ := hy3 i y e
        exact ⟨_, by rw [List.getElem?_map, List.getElem?_map, a]; rfl, b⟩
      have hp3 := s3 _ _ hp
      have hq3 := sameT s3 hq
      refine ⟨by show 1 ≤ sizeLine; decide, fun z hz => ?_⟩
      have s4 := same_new (o := .tup [.int 0]) hz
      have hz4 : upd H3 z (.tup [.int 0]) z = some (.tup [.int 0]) := upd_same
      generalize upd H3 z (.tup [.int 0]) = H4 at s4 hz4 ⊢
      have fin : ∀ (H5 : Hp) (g : Addr), Same H4 H5 → SqT K H5 g (nV (r.cs.map fun _ => 0)) → ∀ u, H5 u = none → Q (.ref u) (upd H5 u (.tup [.ref t, .ref g])) := fun H5 g s5 hg u hu => by
        have s6 := same_new (o := .tup [.ref t, .ref g]) hu
        exact k _ _ (((s3.trans s4).trans s5).trans s6) (dt_tup upd_same (.cons ((Dt.tup (SqT.of ht3) hds).ks ((s4.trans s5).trans s6)) (.cons ((Dt.tup hg (dts_nV _)).ks s6) .nil)))
      refine ⟨_, rfl, p, T.RC, dx, fs, _, rfl, s4 _ _ hp3, T.clRC, T.nCa, l2, q, cvs, rfl, .inr (sameT s4 hq3), z, _, _, rfl, rfl, SqT.of hz4, List.cons_ne_nil _ _, by omega, by omega, by decide, fun e => ?_, fun ne u hu => ?_⟩
      · refine ⟨by show 2 ≤ sizeLine; decide, fun u hu => fin H4 z (Same.refl _) ?_ u hu⟩
        have : r.cs.length = 1 := by omega
        have e2 : nV (r.cs.map fun _ => 0) = [.int 0] := by
          cases hcs : r.cs with
          | nil => rw [hcs] at this; cases this
          | cons c cs =>
            rw [hcs] at this
            cases cs with
            | nil => rfl
            | cons _ _ => simp at this
        rw [e2]
        exact SqT.of hz4
      · refine ⟨by show 2 ≤ sizeLine; decide, fun u2 hu2 => fin _ u (same_new hu) ?_ u2 hu2⟩
        have e2 : (List.replicate ((cvs.length : Nat) : Int).toNat [V.int 0]).flatten = nV (r.cs.map fun _ => 0) := by
          rw [Int.toNat_natCast, lc]
          generalize r.cs = cs
          induction cs with
          | nil => rfl
          | cons c cs ih =>
            rw [List.length_cons, List.replicate_succ, List.flatten_cons, ih]
            rfl
        rw [e2]
        exact SqT.of upd_same
theorem ok_card_index (T : Txt K mg) : FnOk P w K mg base CX0 1 T.a_card_index T.d_card_index ["self", "number"] (sp_card_index K T.CC T.RC) := by
  refine T.F_card_index.ok sc_card_index (fun vs H Q E h => ?_) (fun cdv A outer s H vs Q E hr h => ?_)
  · obtain ⟨p, r, i, c, rfl, _⟩ := h
    rfl
  · obtain ⟨p, r, i, c, rfl, hR, ok, hc, k⟩ := h
    obtain ⟨dx, fs, s, q, n, cvs, hp, l1, d1, l2, hq, hcs, l3, d3, lo⟩ := id hR
    have h3 : SqT K H n ((r.cs.map fun c => numS c.ds).map V.str) := d3.sq
    have en : (r.cs.map fun c => numS c.ds)[i]? = some (numS c.ds) := by rw [List.getElem?_map, hc]; rfl
    refine ⟨_, (pss_cons (ps_if (pt_cmpR op_notIn_seq (pv 1) (pe_fld (pv 0) rfl) rfl)
        (pss_one ps_never)
        pss_nil)
      (pss_one (ps_ret (Tf.pe_bmF PySem.F.plainAttrs_tuple PySem.F.slot_tuple_index PySem.F.type_tuple_index mt_tup_index (pe_fld (pv 0) rfl) (pa_cons (pv 1) pa_nil))))), ?_⟩
    refine ⟨_, rfl, _, rfl, p, T.RC, dx, fs, _, rfl, hp, T.clRC, T.nNs, l3, n, _, rfl, .inr h3, rfl, flat_strs _, ?_⟩
    rw [if_pos rfl, in_strs, decide_eq_true (List.mem_of_getElem? en)]
    refine ⟨_, rfl, iteF ?_⟩
    refine ⟨_, rfl, p, T.RC, dx, fs, _, rfl, hp, T.clRC, T.nNs, l3, ⟨n, _, rfl, d3⟩, _, rfl, n, _, _, i, rfl, rfl, h3, en, fun m hm e => ?_, k⟩
    exact not_before (nums_nodup ok.nd) en (List.mem_of_getElem? (by rw [List.getElem?_take, if_pos hm]; exact e))
theorem ok_card_of (T : Txt K mg) : FnOk P w K mg base CX0 2 T.a_card_of T.d_card_of ["self", "number"] (sp_card_of K T.CC T.RC) := by
  refine T.F_card_of.ok sc_card_of (fun vs H Q E h => ?_) (fun cdv A outer s H vs Q E hr h => ?_)
  · obtain ⟨p, r, i, c, rfl, _⟩ := h
    rfl
  · obtain ⟨p, r, i, c, rfl, hR, ok, hc, k⟩ := h
    obtain ⟨dx, fs, s, q, n, cvs, hp, l1, d1, l2, hq, hcs, l3, d3, lo⟩ := id hR
    obtain ⟨v, hv, hcv⟩ := hcs.get hc
    refine ⟨_, (pss_one (ps_ret (pe_ix ix_tup (pe_fld (pv 0) rfl) (pe_meth (pv 0) T.clRC T.m_card_index (ok_card_index T) (hr.mono (by decide)) T.b_card_index .nil pass0 (pa_cons (pv 1) pa_nil)) (fun _ _ => rfl)))), ?_⟩
    refine ⟨_, rfl, p, T.RC, dx, fs, _, rfl, hp, T.clRC, T.nCa, l2, _, rfl, p, dx, fs, rfl, hp, lo _ (by decide +kernel) (by decide +kernel) (by decide +kernel), _, rfl, p, r, i, c, rfl, hR, ok, hc, ?_⟩
    exact ⟨q, _, _, _, rfl, rfl, hq, atI_nat hv, k v hcv⟩
theorem ok_grade_in (T : Txt K mg) : FnOk P w K mg base CX0 2 T.a_grade_in T.d_grade_in ["self", "standing", "number"] (sp_grade_in K T.CC T.RC) := by
  refine T.F_grade_in.ok sc_grade_in (fun vs H Q E h => ?_) (fun cdv A outer s H vs Q E hr h => ?_)
  · obtain ⟨p, r, i, c, v, s, rfl, _⟩ := h
    rfl
  · obtain ⟨p, r, i, c, v, s, rfl, hR, ok, hc, dv, so, k⟩ := h
    obtain ⟨dx, fs, _, q, n, cvs, hp, l1, d1, l2, hq, hcs, l3, d3, lo⟩ := id hR
    obtain ⟨t, x, y, rfl, ht, d5, d6⟩ := dt_two dv
    obtain ⟨g, rfl, hg⟩ := dt_ints d6
    refine ⟨_, (pss_cons (ps_asg (pv 1) (pg_tup rfl (pgs_cons (pg_name (i := 3) sc_grade_in.nd rfl (Or.inl rfl)) (pgs_cons (pg_name (i := 4) sc_grade_in.nd rfl (Or.inl rfl)) pgs_nil))))
      (pss_one (ps_ret (pe_ix ix_tup (pv 4) (pe_meth (pv 0) T.clRC T.m_card_index (ok_card_index T) (hr.mono (by decide)) T.b_card_index .nil pass0 (pa_cons (pv 2) pa_nil)) (fun _ _ => rfl))))), ?_⟩
    refine ⟨_, rfl, t, _, rfl, ht, rfl, _, _, rfl, _, _, rfl, rfl, ?_⟩
    refine ⟨_, rfl, _, rfl, p, dx, fs, rfl, hp, lo _ (by decide +kernel) (by decide +kernel) (by decide +kernel), _, rfl, p, r, i, c, rfl, hR, ok, hc, ?_⟩
    have hi : i < s.gr.length := by rw [so.gr]; exact (List.getElem?_eq_some_iff.mp hc).1
    have hg2 : s.gr[i]? = some (s.gr.getD i 0) := by rw [List.getD_eq_getElem?_getD, List.getElem?_eq_getElem hi]; rfl
    exact ⟨g, _, _, _, rfl, rfl, hg, atI_nat (nV_at hg2), k _ (Same.refl _)⟩
theorem ok_open_count (T : Txt K mg) : FnOk P w K mg base CX0 1 T.a_open_count T.d_open_count ["grades"] (sp_open_count K) := by
  refine T.F_open_count.ok sc_open_count (fun vs H Q E h => ?_) (fun cdv A outer s H vs Q E hr h => ?_)
  · obtain ⟨v, gr, rfl, _⟩ := h
    rfl
  · obtain ⟨v, gr, rfl, dv, l6, k⟩ := h
    obtain ⟨g, rfl, hg⟩ := dt_ints dv
    refine ⟨_, (pss_one (ps_ret (pe_callB call_len_seq (by rfl) T.z_len PySem.boot_len (pa_cons (pe_lc (own := [("grade", 1)]) (g := gName 1) rfl sc_open_count.nd (pi_tup (pv 0)) (blkOk_by (own := [("grade", 1)]) (N := nm_open_count) (sc := (defScope s_open_count)) (by decide +kernel)) (fun _ _ _ _ _ => pg_name (i := 1) sc_open_count.nd rfl (Or.inl rfl)) (fun _ _ _ _ _ => (pts_one (pt_cmpR op_gt (pv 1) pe_int (nomark _)))) (fun _ _ _ _ _ => (pv 1))) pa_nil)))), ?_⟩
    refine ⟨_, rfl, g, rfl, ⟨_, hg⟩, fun D hD => ?_⟩
    refine lc_it walk_tup (fun j B => Same H B ∧ B D = some (.lst (nV ((gr.take j).filter fun g => decide (0 < g))))) ⟨same_new hD, upd_same⟩ (fun j B _ h => sameT h.1 hg) (fun j v B B' hj hP hY => ?_) (fun B hP => ?_)
    · obtain ⟨sB, hB⟩ := hP
      obtain ⟨rfl, hv⟩ := hY
      obtain ⟨n, hn, rfl⟩ := nV_inv hv
      have fl : ((gr.take j).filter fun g => decide (0 < g)).length ≤ 6 := Nat.le_trans (List.length_filter_le _ _) (by rw [List.length_take]; omega)
      refine ⟨rfl, _, rfl, _, _, rfl, rfl, _, rfl, ite2 (fun c => ?_) (fun c => ?_)⟩
      · have c : (0 : Int) < (n : Nat) := of_decide_eq_true c
        refine ⟨_, rfl, _, hB, by rw [nV_len]; exact small1000 (by omega), same_mut sB hD, ?_⟩
        rw [upd_same, tk_succ' hn, List.filter_append, List.filter_cons, if_pos (decide_eq_true (by omega))]
        unfold nV
        rw [List.map_append]
        rfl
      · have c : ¬ (0 : Int) < (n : Nat) := fun z => c (decide_eq_true z)
        refine ⟨sB, ?_⟩
        rw [tk_succ' hn, List.filter_append, List.filter_cons, if_neg (by simp; omega), List.filter_nil, List.append_nil]
        exact hB
    · obtain ⟨sB, hB⟩ := hP
      rw [nV_len, List.take_length] at hB
      refine ⟨D, _, rfl, .inl (SqL.of hB), ?_⟩
      rw [nV_len]
      exact k _ sB
end
end K59

namespace K59
open PySem L2 Wm TL Dv
section
variable {P : Program} {w : World} {K : PySem.W.Frag} {mg : Str → Option Value} {base : Heap}
theorem eqv_pl (p q : Pl) : PyData.eqv (plD p) (plD q) = decide (p = q) := by
  cases p with
  | ins a =>
    cases q with
    | ins b =>
      by_cases e : a = b
      · subst e; simp [plD, PyData.eqv, PyData.eqvAll]
      · have e2 : ((a : Nat) : Int) ≠ (b : Nat) := by omega
        simp [plD, PyData.eqv, PyData.eqvAll, e, e2]
    | out b => simp [plD, PyData.eqv, PyData.eqvAll]
  | out a =>
    cases q with
    | ins b => simp [plD, PyData.eqv, PyData.eqvAll]
    | out b =>
      by_cases e : a = b
      · subst e; simp [plD, PyData.eqv, PyData.eqvAll]
      · have e2 : numS a ≠ numS b := fun z => e (numS_inj z)
        simp [plD, PyData.eqv, PyData.eqvAll, e, e2]
theorem fine_pl {p : Pl} (h : plOk p) : Fine 1 (plD p) := by
  cases p with
  | ins s =>
    refine fine_tup (n := 0) fun d m => ?_
    simp only [List.mem_cons, List.not_mem_nil, or_false] at m
    rcases m with rfl | rfl
    · exact fine_str (by decide +kernel)
    · exact fine_int _
  | out ds =>
    have h : Num ds := h
    refine fine_tup (n := 0) fun d m => ?_
    simp only [List.mem_cons, List.not_mem_nil, or_false] at m
    rcases m with rfl | rfl
    · exact fine_str (by decide +kernel)
    · exact fine_num fun d md => (h.dig d md).2
theorem ok_crews_at (T : Txt K mg) : FnOk P w K mg base CX0 1 T.a_crews_at T.d_crews_at ["places", "wanted"] (sp_crews_at K) := by
  refine T.F_crews_at.ok sc_crews_at (fun vs H Q E h => ?_) (fun cdv A outer s H vs Q E hr h => ?_)
  · obtain ⟨a, v, t, xs, pl, p, rfl, _⟩ := h
    rfl
  · obtain ⟨a, v, t, xs, pl, p, rfl, hx, hd, hv, okp, okq, l6, k⟩ := h
    have lx := hd.len
    rw [List.length_map] at lx
    refine ⟨_, (pss_one (ps_ret (pe_lc (own := [("crew", 2), ("place", 3)]) (g := gTup K 2 (gCons (gName 2) (gCons (gName 3) (gNil)))) rfl sc_crews_at.nd (pi_or (pi_enum (by rfl) T.z_enumerate (pa_cons (pv 0) pa_nil)) (Es.pi_ent (by rfl) T.z_enumerate (pa_cons (pv 0) pa_nil))) (blkOk_by (own := [("crew", 2), ("place", 3)]) (N := nm_crews_at) (sc := (defScope s_crews_at)) (by decide +kernel)) (fun _ _ _ _ _ => (pg_tup rfl (pgs_cons (pg_name (i := 2) sc_crews_at.nd rfl (Or.inl rfl)) (pgs_cons (pg_name (i := 3) sc_crews_at.nd rfl (Or.inl rfl)) pgs_nil)))) (fun _ _ _ _ _ => (pts_one (pt_cmpR (show OpR _ _ (rEqD K) from op_eqD hr.units) (pv 3) (pv 1) (nomark _)))) (fun _ _ _ _ _ => (pv 2))))), ?_⟩
    cases t with
    | false =>
      have hx : SqL K H a xs := hx
      refine .inl ⟨_, rfl, a, xs, rfl, hx, fun D hD => ?_⟩
      refine lc_it walk_enum (fun j B => Same H B ∧ B D = some (.lst (nV ((List.range j).filter fun i => decide (pl[i]? = some p))))) ⟨same_new hD, upd_same⟩ (fun j B _ h => Hf.keepL h.1 hx) (fun j v B B' hj hP hY => ?_) (fun B hP => ?_)
      · obtain ⟨sB, hB⟩ := hP
        obtain ⟨tp, x1, x2, rfl, htp, rfl, e1, e2⟩ := hY
        cases e1
        have e2 : xs[j]? = some x2 := e2
        obtain ⟨d, ed, hx2⟩ := hd.at e2
        rw [List.getElem?_map] at ed
        obtain ⟨p2, ep, rfl⟩ := Option.map_eq_some_iff.mp ed
        have sC := sB.trans (same_new (o := .tup [.int (j : Nat), x2]) htp)
        have hB := (same_new (o := .tup [.int (j : Nat), x2]) htp) _ _ hB
        refine ⟨tp, _, rfl, SqT.of upd_same, rfl, _, _, rfl, _, _, rfl, rfl, rfl, ?_⟩
        generalize upd B tp (.tup [.int (j : Nat), x2]) = B2 at sC hB ⊢
        have fl : (((List.range j).filter fun i => decide (pl[i]? = some p))).length ≤ j := by
          have := List.length_filter_le (fun i => decide (pl[i]? = some p)) (List.range j)
          rw [List.length_range] at this
          exact this
        refine ⟨_, rfl, _, rfl, _, _, (hx2.ks sC).toDp, (hv.ks sC).toDp, (fine_pl (okp p2 (List.mem_of_getElem? ep))).shaped (by decide), (fine_pl okq).shaped (by decide), _, rfl, ?_⟩
        rw [eqv_pl]
        refine ite2 (fun c => ?_) (fun c => ?_)
        · have c : p2 = p := of_decide_eq_true c
          subst c
          refine ⟨_, rfl, _, hB, by rw [nV_len]; exact small1000 (by omega), same_mut sC hD, ?_⟩
          rw [upd_same, List.range_succ, List.filter_append, List.filter_cons, if_pos (decide_eq_true ep)]
          unfold nV
          rw [List.map_append]
          rfl
        · refine ⟨sC, ?_⟩
          have c : ¬ p2 = p := fun z => c (decide_eq_true z)
          rw [List.range_succ, List.filter_append, List.filter_cons, if_neg (by rw [ep]; simp [c]), List.filter_nil, List.append_nil]
          exact hB
      · obtain ⟨sB, hB⟩ := hP
        refine k _ D sB hD ?_
        rw [hB, lx]
        rfl
    | true =>
      have hx : SqT K H a xs := hx
      refine .inr ⟨_, rfl, a, xs, rfl, hx, fun D hD => ?_⟩
      refine lc_it Es.walk_ent (fun j B => Same H B ∧ B D = some (.lst (nV ((List.range j).filter fun i => decide (pl[i]? = some p))))) ⟨same_new hD, upd_same⟩ (fun j B _ h => sameT h.1 hx) (fun j v B B' hj hP hY => ?_) (fun B hP => ?_)
      · obtain ⟨sB, hB⟩ := hP
        obtain ⟨tp, x1, x2, rfl, htp, rfl, e1, e2⟩ := hY
        cases e1
        have e2 : xs[j]? = some x2 := e2
        obtain ⟨d, ed, hx2⟩ := hd.at e2
        rw [List.getElem?_map] at ed
        obtain ⟨p2, ep, rfl⟩ := Option.map_eq_some_iff.mp ed
        have sC := sB.trans (same_new (o := .tup [.int (j : Nat), x2]) htp)
        have hB := (same_new (o := .tup [.int (j : Nat), x2]) htp) _ _ hB
        refine ⟨tp, _, rfl, SqT.of upd_same, rfl, _, _, rfl, _, _, rfl, rfl, rfl, ?_⟩
        generalize upd B tp (.tup [.int (j : Nat), x2]) = B2 at sC hB ⊢
        have fl : (((List.range j).filter fun i => decide (pl[i]? = some p))).length ≤ j := by
          have := List.length_filter_le (fun i => decide (pl[i]? = some p)) (List.range j)
          rw [List.length_range] at this
          exact this
        refine ⟨_, rfl, _, rfl, _, _, (hx2.ks sC).toDp, (hv.ks sC).toDp, (fine_pl (okp p2 (List.mem_of_getElem? ep))).shaped (by decide), (fine_pl okq).shaped (by decide), _, rfl, ?_⟩
        rw [eqv_pl]
        refine ite2 (fun c => ?_) (fun c => ?_)
        · have c : p2 = p := of_decide_eq_true c
          subst c
          refine ⟨_, rfl, _, hB, by rw [nV_len]; exact small1000 (by omega), same_mut sC hD, ?_⟩
          rw [upd_same, List.range_succ, List.filter_append, List.filter_cons, if_pos (decide_eq_true ep)]
          unfold nV
          rw [List.map_append]
          rfl
        · refine ⟨sC, ?_⟩
          have c : ¬ p2 = p := fun z => c (decide_eq_true z)
          rw [List.range_succ, List.filter_append, List.filter_cons, if_neg (by rw [ep]; simp [c]), List.filter_nil, List.append_nil]
          exact hB
      · obtain ⟨sB, hB⟩ := hP
        refine k _ D sB hD ?_
        rw [hB, lx]
        rfl
def plW : Pl → Str
  | .ins _ => "in"
  | .out _ => "out"
def plY : Pl → V
  | .ins s => .int (s : Nat)
  | .out n => .str (numS n)
def isI : Pl → Bool
  | .ins _ => true
  | .out _ => false
theorem pl_two {H : Hp} {v : V} {p : Pl} (h : Dt K H v (plD p)) : ∃ q, v = .ref q ∧ SqT K H q [.str (plW p), plY p] := by
  cases p with
  | ins s =>
    obtain ⟨q, x, y, e, a, b, c⟩ := dt_two h
    obtain rfl := b.str_inv
    obtain rfl := c.int_inv
    exact ⟨q, e, a⟩
  | out s =>
    obtain ⟨q, x, y, e, a, b, c⟩ := dt_two h
    obtain rfl := b.str_inv
    obtain rfl := c.str_inv
    exact ⟨q, e, a⟩
theorem dt_pl {H : Hp} {q : Addr} {p : Pl} (h : H q = some (.tup [.str (plW p), plY p])) : Dt K H (.ref q) (plD p) := by
  cases p with
  | ins s => exact dt_tup h (.cons (.str _) (.cons (.int _) .nil))
  | out s => exact dt_tup h (.cons (.str _) (.cons (.str _) .nil))
theorem ne_in (p : Pl) : (!decide (V.str (plW p) = V.str "in")) = !isI p := by
  cases p with
  | ins s => show (!decide (V.str "in" = V.str "in")) = !true; decide +kernel
  | out s => show (!decide (V.str "out" = V.str "in")) = !false; decide +kernel
theorem eq_in (p : Pl) : decide (V.str (plW p) = V.str "in") = isI p := by
  cases p with
  | ins s => show decide (V.str "in" = V.str "in") = true; decide +kernel
  | out s => show decide (V.str "out" = V.str "in") = false; decide +kernel
theorem isIn_at {pl : List Pl} {i : Nat} {p : Pl} (h : pl[i]? = some p) : isIn pl i = isI p := by
  unfold isIn
  rw [h]
  cases p <;> rfl
theorem pls_at {H : Hp} {xs : List V} {pl : List Pl} {i : Nat} {v : V} (h : Dts K H xs (pl.map plD)) (e : xs[i]? = some v) : ∃ p, pl[i]? = some p ∧ Dt K H v (plD p) := by
  obtain ⟨d, ed, g⟩ := h.at e
  rw [List.getElem?_map] at ed
  obtain ⟨p, ep, rfl⟩ := Option.map_eq_some_iff.mp ed
  exact ⟨p, ep, g⟩
theorem pls_get {H : Hp} {xs : List V} {pl : List Pl} {i : Nat} {p : Pl} (h : Dts K H xs (pl.map plD)) (e : pl[i]? = some p) : ∃ v, xs[i]? = some v ∧ Dt K H v (plD p) := h.get (by rw [List.getElem?_map, e]; rfl)
theorem ok_can_move (T : Txt K mg) : FnOk P w K mg base CX0 2 T.a_can_move T.d_can_move ["places", "crew", "station"] (sp_can_move K) := by
  refine T.F_can_move.ok sc_can_move (fun vs H Q E h => ?_) (fun cdv A outer s H vs Q E hr h => ?_)
  · obtain ⟨a, xs, pl, c, s, rfl, _⟩ := h
    rfl
  · obtain ⟨a, xs, pl, c, s, rfl, ha, hd, okp, l6, hc, s8, k⟩ := h
    have lx := hd.len
    rw [List.length_map] at lx
    have hp := List.getElem?_eq_getElem hc
    generalize pl[c] = p at hp
    obtain ⟨v, hv, dv⟩ := pls_get hd hp
    have okq := okp p (List.mem_of_getElem? hp)
    refine ⟨_, (pss_cons (ps_if (PW.pt (pw_or (pt_cmpR op_gt (pe_callB call_len_seq (by rfl) T.z_len PySem.boot_len (pa_cons (pe_call (ok_crews_at T) (hr.mono (by decide)) (by rfl) T.g_crews_at T.F_crews_at.kp T.b_crews_at .nil pass0 (pa_cons (pv 0) (pa_cons (pe_tup (pa_cons (pe_glob (v := V.str "in") rfl T.c_IN ⟨_, rfl⟩) (pa_cons (pv 2) pa_nil))) pa_nil))) pa_nil)) pe_int (nomark _)) (pw_or1 (pt_cmpR op_ne (pe_ix ix_tup (pe_ix ix_list (pv 0) (pv 1) (fun _ _ => rfl)) pe_int (fun _ _ => rfl)) (pe_glob (v := V.str "in") rfl T.c_IN ⟨_, rfl⟩) (nomark _)))))
        (pss_one (ps_ret pe_bl))
        pss_nil)
      (pss_one (ps_ret (pe_cmpR op_gt (pe_callB call_len_seq (by rfl) T.z_len PySem.boot_len (pa_cons (pe_call (ok_crews_at T) (hr.mono (by decide)) (by rfl) T.g_crews_at T.F_crews_at.kp T.b_crews_at .nil pass0 (pa_cons (pv 0) (pa_cons (pe_ix ix_list (pv 0) (pv 1) (fun _ _ => rfl)) pa_nil))) pa_nil)) pe_int (nomark _))))), ?_⟩
    refine ⟨_, rfl, _, rfl, by show 2 ≤ sizeLine; decide, fun u hu => ?_⟩
    have s1 := same_new (o := .tup [.str "in", .int (s : Nat)]) hu
    refine ⟨a, .ref u, false, xs, pl, .ins s, rfl, SqL.of (s1 _ _ ha), hd.ks s1, dt_pl (p := .ins s) upd_same, okp, s8, l6, fun H2 q s2 _ hq => ?_⟩
    have s2 := s1.trans s2
    refine ⟨q, _, rfl, .inl (SqL.of hq), _, _, rfl, rfl, _, rfl, ite2 (fun c1 => ?_) (fun c1 => ?_)⟩
    · rw [nV_len] at c1
      have e : canB pl c s = false := by
        unfold canB
        rw [decide_eq_false (fun z => by rw [z] at c1; exact absurd (of_decide_eq_true c1) (by decide)), Bool.false_and]
      rw [e] at k
      exact k _ s2
    · rw [nV_len] at c1
      have e0 : atL pl (.ins s) = [] := List.eq_nil_of_length_eq_zero (by
        have n0 : ¬ ((0 : Int) < ((atL pl (.ins s)).length : Nat)) := fun z => c1 (decide_eq_true z)
        omega)
      obtain ⟨p3, rfl, h3⟩ := pl_two (dv.ks s2)
      refine ⟨_, rfl, _, rfl, a, _, _, _, rfl, rfl, SqL.of (s2 _ _ ha), atI_nat hv, p3, _, 0, _, rfl, rfl, h3, atI_nat (j := 0) rfl, rfl, _, rfl, ?_⟩
      rw [ne_in]
      refine ite2 (fun c2 => ?_) (fun c2 => ?_)
      · have e : canB pl c s = false := by
          unfold canB
          rw [isIn_at hp, show isI p = false by simpa using c2, Bool.false_and, Bool.and_false]
        rw [e] at k
        exact k _ s2
      · refine ⟨_, rfl, _, rfl, _, rfl, a, _, _, _, rfl, rfl, SqL.of (s2 _ _ ha), atI_nat hv, ?_⟩
        refine ⟨a, .ref p3, false, xs, pl, p, rfl, SqL.of (s2 _ _ ha), hd.ks s2, dv.ks s2, okp, okq, l6, fun H3 q2 s3 _ hq2 => ?_⟩
        refine ⟨q2, _, rfl, .inl (SqL.of hq2), _, _, rfl, rfl, ?_⟩
        rw [nV_len]
        have e : canB pl c s = decide (1 < (atL pl p).length) := by
          unfold canB
          rw [isIn_at hp, show isI p = true by simpa using c2, decide_eq_true e0, hp, Bool.true_and, Bool.true_and]
        have e2 : decide (((1 : Nat) : Int) < (((atL pl p).length : Nat) : Int)) = decide (1 < (atL pl p).length) := decide_eq_decide.mpr (by omega)
        have k := k _ (s2.trans s3)
        rw [e, ← e2] at k
        exact k
theorem ixN_nat {n i : Nat} (h : i < n) : ixN n ((i : Nat) : Int) = some i := by
  unfold ixN
  rw [if_pos (by omega), if_pos (by omega)]
  rfl
theorem ok_with_grade (T : Txt K mg) : FnOk P w K mg base CX0 2 T.a_with_grade T.d_with_grade ["self", "standing", "places", "number", "grade"] (sp_with_grade K T.CC T.RC) := by
  refine T.F_with_grade.ok sc_with_grade (fun vs H Q E h => ?_) (fun cdv A outer s H vs Q E hr h => ?_)
  · obtain ⟨p, r, i, c, v, s, a, xs, pl, g, rfl, _⟩ := h
    rfl
  · obtain ⟨p, r, i, c, v, s, a, xs, pl, g, rfl, hR, ok, hc, dv, so, ha, hd, l6, k⟩ := h
    obtain ⟨dx, fs, _, q, n, cvs, hp, l1, d1, l2, hq, hcs, l3, d3, lo⟩ := id hR
    obtain ⟨t, x, y, rfl, ht, d5, d6⟩ := dt_two dv
    obtain ⟨gr, rfl, hg⟩ := dt_ints d6
    have hi : i < s.gr.length := by rw [so.gr]; exact (List.getElem?_eq_some_iff.mp hc).1
    have g6 : s.gr.length ≤ 6 := by rw [so.gr]; exact ok.cs6
    refine ⟨_, (pss_cons (ps_set (i := 5) sc_with_grade.nd rfl (Or.inl rfl) (pe_callTy call_list_of (by rfl) T.z_list (by decide +kernel) (pa_cons (pe_ix ix_tup (pv 1) pe_int (fun _ _ => rfl)) pa_nil)))
      (pss_cons (ps_asg (pv 4) (pg_sub (pv 5) (pe_meth (pv 0) T.clRC T.m_card_index (ok_card_index T) (hr.mono (by decide)) T.b_card_index .nil pass0 (pa_cons (pv 3) pa_nil)) set_list))
      (pss_one (ps_ret (pe_tup (pa_cons (pe_callTy call_tuple_of (by rfl) T.z_tuple (by decide +kernel) (pa_cons (pv 2) pa_nil)) (pa_cons (pe_callTy call_tuple_of (by rfl) T.z_tuple (by decide +kernel) (pa_cons (pv 5) pa_nil)) pa_nil))))))), ?_⟩
    refine ⟨_, rfl, t, _, 1, _, rfl, rfl, ht, atI_nat (j := 1) rfl, gr, _, rfl, .inr hg, fun l hl => ?_⟩
    have s1 := same_new (o := .lst (nV s.gr)) hl
    have hl1 : upd H l (.lst (nV s.gr)) l = some (.lst (nV s.gr)) := upd_same
    generalize upd H l (.lst (nV s.gr)) = H1 at s1 hl1 ⊢
    refine ⟨_, rfl, _, rfl, _, rfl, p, dx, fs, rfl, s1 _ _ hp, lo _ (by decide +kernel) (by decide +kernel) (by decide +kernel), _, rfl, p, r, i, c, rfl, hR.k s1, ok, hc, ?_⟩
    have ix : ixN (nV s.gr).length ((i : Nat) : Int) = some i := by
      rw [nV_len]
      exact ixN_nat hi
    refine ⟨l, _, _, i, rfl, rfl, hl1, ix, ?_⟩
    have el : (nV s.gr).set i (.int (g : Nat)) = nV (s.gr.set i g) := by unfold nV; rw [List.map_set]
    rw [el]
    have s2 : Same H (upd H1 l (.lst (nV (s.gr.set i g)))) := same_mut s1 hl
    have hl2 : upd H1 l (.lst (nV (s.gr.set i g))) l = some (.lst (nV (s.gr.set i g))) := upd_same
    generalize upd H1 l (.lst (nV (s.gr.set i g))) = H2 at s2 hl2 ⊢
    refine ⟨_, rfl, a, xs, rfl, .inl ⟨SqL.of (s2 _ _ ha), fun t1 ht1 => ?_⟩⟩
    have s3 := same_new (o := .tup xs) ht1
    have h3 : upd H2 t1 (.tup xs) t1 = some (.tup xs) := upd_same
    generalize upd H2 t1 (.tup xs) = H3 at s3 h3 ⊢
    refine ⟨_, rfl, l, _, rfl, .inl ⟨SqL.of (s3 _ _ hl2), fun t2 ht2 => ?_⟩⟩
    have s4 := same_new (o := .tup (nV (s.gr.set i g))) ht2
    have h4 : upd H3 t2 (.tup (nV (s.gr.set i g))) t2 = some (.tup (nV (s.gr.set i g))) := upd_same
    generalize upd H3 t2 (.tup (nV (s.gr.set i g))) = H4 at s4 h4 ⊢
    refine ⟨by show 2 ≤ sizeLine; decide, fun t3 ht3 => ?_⟩
    have s5 := same_new (o := .tup [.ref t1, .ref t2]) ht3
    have sA := ((s2.trans s3).trans s4)
    refine k _ _ (sA.trans s5) (dt_tup upd_same (.cons ((Dt.tup (SqT.of (s4 _ _ h3)) (hd.ks sA)).ks s5) (.cons ((dt_iD h4).ks s5) .nil)))
theorem atL_lt {pl : List Pl} {p : Pl} {n : Nat} (h : n ∈ atL pl p) : n < pl.length := by
  obtain ⟨m, _⟩ := List.mem_filter.mp h
  exact List.mem_range.mp m
theorem atL_len (pl : List Pl) (p : Pl) : (atL pl p).length ≤ pl.length := by
  have := List.length_filter_le (fun i => decide (pl[i]? = some p)) (List.range pl.length)
  rw [List.length_range] at this
  exact this
theorem getD_at {xs : List Nat} {i : Nat} (h : i < xs.length) : xs[i]? = some (xs.getD i 0) := by rw [List.getD_eq_getElem?_getD, List.getElem?_eq_getElem h]; rfl
theorem ok_can_go_home (T : Txt K mg) : FnOk P w K mg base CX0 2 T.a_can_go_home T.d_can_go_home ["self", "places", "crew"] (sp_can_go_home K T.CC T.RC) := by
  refine T.F_can_go_home.ok sc_can_go_home (fun vs H Q E h => ?_) (fun cdv A outer s H vs Q E hr h => ?_)
  · obtain ⟨p, r, a, xs, pl, i, rfl, _⟩ := h
    rfl
  · obtain ⟨p, r, a, xs, pl, i, rfl, hR, ok, ha, hd, okp, lp, hi, k⟩ := h
    obtain ⟨dx, fs, _, q, n, cvs, hp, l1, d1, l2, hq, hcs, l3, d3, lo⟩ := id hR
    obtain ⟨t1, rfl, h1⟩ := dt_ints d1
    have l6 := ok.st6
    have lx := hd.len
    rw [List.length_map] at lx
    have hz := List.getElem?_eq_getElem hi
    generalize pl[i] = z at hz
    obtain ⟨v, hv, dv⟩ := pls_get hd hz
    have okz := okp z (List.mem_of_getElem? hz)
    obtain ⟨q3, rfl, h3⟩ := pl_two dv
    have hst := getD_at (xs := r.st) (i := i) (by omega)
    refine ⟨_, (pss_cons (ps_asg (pe_ix ix_list (pv 1) (pv 2) (fun _ _ => rfl)) (pg_tup rfl (pgs_cons (pg_name (i := 3) sc_can_go_home.nd rfl (Or.inl rfl)) (pgs_cons (pg_name (i := 4) sc_can_go_home.nd rfl (Or.inr rfl)) pgs_nil))))
      (pss_cons (ps_if (PW.pt (pw_or (pt_cmpR op_ne (pv 3) (pe_glob (v := V.str "in") rfl T.c_IN ⟨_, rfl⟩) (nomark _)) (pw_or1 (pt_cmpR op_eq (pv 4) (pe_ix ix_tup (pe_fld (pv 0) rfl) (pv 2) (fun _ _ => rfl)) (nomark _)))))
        (pss_one (ps_ret pe_bl))
        pss_nil)
      (pss_one (ps_ret (pe_callB (cr_any rfl) (by rfl) T.z_any (by decide +kernel) (pa_cons (pe_lc (own := [("other", 5)]) (g := gName 5) (tt := tYes) rfl sc_can_go_home.nd (pi_list (pe_call (ok_crews_at T) (hr.mono (by decide)) (by rfl) T.g_crews_at T.F_crews_at.kp T.b_crews_at .nil pass0 (pa_cons (pv 1) (pa_cons (pe_tup (pa_cons (pe_glob (v := V.str "in") rfl T.c_IN ⟨_, rfl⟩) (pa_cons (pv 4) pa_nil))) pa_nil)))) (blkOk_by (own := [("other", 5)]) (N := nm_can_go_home) (sc := (defScope s_can_go_home)) (by decide +kernel)) (fun _ _ _ _ _ => pg_name (i := 5) sc_can_go_home.nd rfl (Or.inl rfl)) (fun _ _ _ _ _ => pts_nil) (fun _ _ _ _ _ => (pe_cmpR op_eq (pe_ix (show IxR _ (rIxT K) from ix_tup) (show PE _ _ (tFld K (tVar 0) "stations") from by exact pe_fld (pv 0) rfl) (pv 5) (fun _ _ => rfl)) (pv 4) (nomark _)))) pa_nil)))))), ?_⟩
    refine ⟨_, rfl, _, rfl, a, _, _, _, rfl, rfl, SqL.of ha, atI_nat hv, q3, _, rfl, h3, rfl, _, _, rfl, _, _, rfl, rfl, ?_⟩
    refine ⟨_, rfl, rfl, _, rfl, ?_⟩
    rw [ne_in]
    refine ite2 (fun c2 => ?_) (fun c2 => ?_)
    · have e : homeB r.st pl i = false := by
        unfold homeB
        rw [hz]
        cases z with
        | ins s => simp [isI] at c2
        | out s => rfl
      have k := k H (Same.refl _)
      rw [e] at k
      exact k
    obtain ⟨s, rfl⟩ : ∃ s, z = .ins s := by
      cases z with
      | ins s => exact ⟨s, rfl⟩
      | out s => exact absurd rfl c2
    have okz : s ≤ 8 := okz
    refine ⟨_, rfl, _, rfl, p, T.RC, dx, fs, _, rfl, hp, T.clRC, T.nSt, l1, _, rfl, t1, _, _, _, rfl, rfl, h1, atI_nat (nV_at hst), rfl, _, rfl, ite2 (fun c3 => ?_) (fun c3 => ?_)⟩
    · have c3 : s = r.st.getD i 0 := by
        have := V.int.inj (of_decide_eq_true c3)
        omega
      have e : homeB r.st pl i = false := by
        unfold homeB
        rw [hz]
        show (decide (s ≠ r.st.getD i 0) && _) = false
        rw [decide_eq_false (fun z => z c3), Bool.false_and]
      have k := k H (Same.refl _)
      rw [e] at k
      exact k
    have c3 : s ≠ r.st.getD i 0 := fun z => c3 (decide_eq_true (by show V.int (s : Nat) = _; rw [z]))
    refine ⟨_, rfl, _, rfl, by show 2 ≤ sizeLine; decide, fun u hu => ?_⟩
    have s1 := same_new (o := .tup [.str "in", .int (s : Nat)]) hu
    refine ⟨a, .ref u, false, xs, pl, .ins s, rfl, SqL.of (s1 _ _ ha), hd.ks s1, dt_pl (p := .ins s) upd_same, okp, okz, by omega, fun H2 g s2 _ hg => ?_⟩
    have s2 := s1.trans s2
    have al := atL_len pl (.ins s)
    refine ⟨g, rfl, ⟨_, SqL.of hg⟩, fun D hD => ?_⟩
    refine Lm.lc_map (K := K) walk_list (xs := nV (atL pl (.ins s))) (fun i y _ => ∃ m, (atL pl (.ins s))[i]? = some m ∧ y = .bl (decide (r.st.getD m 0 = s))) (fun _ _ _ _ h _ => h) hD (by rw [nV_len]; omega) (fun H' s' => SqL.of (s' _ _ hg)) (fun i x H' hi hx s' Q' Z hQ => ?_) (fun H3 ys s3 hD3 hl hy => ?_)
    · obtain ⟨m, hm, rfl⟩ := nV_inv hx
      have ml := atL_lt (List.mem_of_getElem? hm)
      have hst2 := getD_at (xs := r.st) (i := m) (by omega)
      have sZ := s2.trans s'
      refine ⟨rfl, yesT ⟨_, rfl, p, T.RC, dx, fs, _, rfl, sZ _ _ hp, T.clRC, T.nSt, l1, _, rfl, t1, _, _, _, rfl, rfl, sameT sZ h1, atI_nat (nV_at hst2), _, rfl, rfl, hQ _ _ (Same.refl _) ⟨m, hm, ?_⟩⟩⟩
      exact congrArg V.bl (decide_eq_decide.mpr ⟨fun z => by have := V.int.inj z; omega, fun z => by show V.int _ = V.int (s : Nat); rw [z]⟩)
    · have ey : ys = ((atL pl (.ins s)).map fun m => decide (r.st.getD m 0 = s)).map V.bl := by
        rw [nV_len] at hl
        refine List.ext_getElem? fun j => ?_
        rw [List.getElem?_map, List.getElem?_map]
        by_cases c1 : j < ys.length
        · obtain ⟨m, em, e⟩ := hy j _ (List.getElem?_eq_getElem c1)
          rw [List.getElem?_eq_getElem c1, em, e]
          rfl
        · rw [List.getElem?_eq_none (by omega), List.getElem?_eq_none (by omega)]
          rfl
      subst ey
      refine ⟨D, _, rfl, SqL.of hD3, ?_⟩
      have e : homeB r.st pl i = ((atL pl (.ins s)).map fun m => decide (r.st.getD m 0 = s)).any id := by
        unfold homeB
        rw [hz]
        show (decide (s ≠ r.st.getD i 0) && _) = _
        rw [decide_eq_true c3, Bool.true_and, List.any_map]
        rfl
      have k := k _ (s2.trans s3)
      rw [e] at k
      exact k
theorem wd_D (w : Wd) (ds : List Nat) {H : Hp} {q : Addr} (h : H q = some (.tup [.str (wdS w), .str (numS ds)])) : Dt K H (.ref q) (evD (w, ds)) := dt_tup h (.cons (.str _) (.cons (.str _) .nil))
theorem alI_len (gr : List Nat) (m : Nat) (x : List Nat × Nat) : (alI gr m x).length ≤ 3 := by
  unfold alI
  rw [List.length_append, List.length_append]
  split <;> split <;> split <;> simp
theorem ok_rallowed (T : Txt K mg) : FnOk P w K mg base CX0 2 T.a_rallowed T.d_rallowed ["self", "standing", "most_open"] (sp_rallowed K T.CC T.RC) := by
  refine T.F_rallowed.ok sc_rallowed (fun vs H Q E h => ?_) (fun cdv A outer s H vs Q E hr h => ?_)
  · obtain ⟨p, r, v, s, m, rfl, _⟩ := h
    rfl
  · obtain ⟨p, r, v, s, m, rfl, hR, ok, dv, so, k⟩ := h
    obtain ⟨dx, fs, _, q, n, cvs, hp, l1, d1, l2, hq, hcs, l3, d3, lo⟩ := id hR
    obtain ⟨t, x, y, rfl, ht, d5, d6⟩ := dt_two dv
    obtain ⟨gr, rfl, hg⟩ := dt_ints d6
    have c6 := ok.cs6
    have lg := so.gr
    refine ⟨_, (pss_cons (ps_asg (pv 1) (pg_tup rfl (pgs_cons (pg_name (i := 3) sc_rallowed.nd rfl (Or.inl rfl)) (pgs_cons (pg_name (i := 4) sc_rallowed.nd rfl (Or.inl rfl)) pgs_nil))))
      (pss_cons (ps_set (i := 5) sc_rallowed.nd rfl (Or.inl rfl) (pe_lst pa_nil))
      (pss_cons (ps_for PassesOwn.never rfl (RZ.pi_zipA (by rfl) T.z_zip (pa_cons (pe_fld (pv 0) rfl) (pa_cons (pv 4) pa_nil))) (pg_tup rfl (pgs_cons (pg_name (i := 6) sc_rallowed.nd rfl (Or.inl rfl)) (pgs_cons (pg_name (i := 7) sc_rallowed.nd rfl (Or.inl rfl)) pgs_nil)))
        (C8.pss_cut (ps_if (PW.pt (pw_and (pt_cmpR op_eq (pv 7) pe_int (nomark _)) (pw_and1 (pt_cmpR op_lt (pe_call (ok_open_count T) (hr.mono (by decide)) (by rfl) T.g_open_count T.F_open_count.kp T.b_open_count .nil pass0 (pa_cons (pv 4) pa_nil)) (pv 2) (nomark _)))))
          (pss_one (ps_expr (pe_bm PySem.F.plainAttrs_list PySem.F.slot_list_append PySem.F.type_list_append mt_append (pv 5) (pa_cons (pe_tup (pa_cons (pe_glob (v := V.str "call") rfl T.c_CALL ⟨_, rfl⟩) (pa_cons (pv 6) pa_nil))) pa_nil))))
          pss_nil)
        (C8.pss_cut (ps_if (pt_chain op_lt op_lt pe_int (pv 7) (ClX.pe_cval (pe_glob (v := V.ref T.CC) rfl T.gCC rfl)))
          (pss_one (ps_expr (pe_bm PySem.F.plainAttrs_list PySem.F.slot_list_append PySem.F.type_list_append mt_append (pv 5) (pa_cons (pe_tup (pa_cons (pe_glob (v := V.str "more") rfl T.c_MORE ⟨_, rfl⟩) (pa_cons (pv 6) pa_nil))) pa_nil))))
          pss_nil)
        (pss_one (ps_if (pt_cmpR op_gt (pv 7) pe_int (nomark _))
          (pss_one (ps_expr (pe_bm PySem.F.plainAttrs_list PySem.F.slot_list_append PySem.F.type_list_append mt_append (pv 5) (pa_cons (pe_tup (pa_cons (pe_glob (v := V.str "back") rfl T.c_BACK ⟨_, rfl⟩) (pa_cons (pv 6) pa_nil))) pa_nil))))
          pss_nil)))))
      (pss_one (ps_ret (pe_callTy call_tuple_of (by rfl) T.z_tuple (by decide +kernel) (pa_cons (pv 5) pa_nil))))))), ?_⟩
    refine ⟨_, rfl, t, _, rfl, ht, rfl, _, _, rfl, _, _, rfl, rfl, ?_⟩
    refine ⟨by show 0 ≤ sizeLine; decide, fun L hL => ?_⟩
    have s1 := same_new (o := .lst []) hL
    have hL1 : upd H L (.lst []) L = some (.lst []) := upd_same
    generalize upd H L (.lst []) = H1 at s1 hL1 ⊢
    have hz : ((r.cs.map fun c => c.ds).zip s.gr).length = r.cs.length := by rw [List.length_zip, List.length_map, lg, Nat.min_self]
    refine ⟨_, rfl, p, T.RC, dx, fs, _, rfl, s1 _ _ hp, T.clRC, T.nNs, l3, _, rfl, n, gr, _, _, rfl, .inr ⟨(d3.k s1).sq, sameT s1 hg, ?_⟩⟩
    refine RZ.for_zipT (xs := (r.cs.map fun c => numS c.ds).map V.str) (ys := nV s.gr) (by rw [nV_len, List.length_map, List.length_map, lg]) (fun i σ A => (∃ v6 v7, σ = [some (.ref p), some (.ref t), some (.int (m : Nat)), some x, some (.ref gr), some (.ref L), v6, v7]) ∧ Same H A ∧ ∃ zs, A L = some (.lst zs) ∧ Dts K A zs ((((r.cs.map fun c => c.ds).zip s.gr).take i).flatMap (alI s.gr m) |>.map evD) ∧ zs.length ≤ 3 * i)
      ⟨⟨none, none, rfl⟩, s1, [], hL1, .nil, Nat.le_refl _⟩ (fun i σ A h => ⟨((d3.k h.2.1)).sq, sameT h.2.1 hg⟩) (fun i x1 y1 tp σ A hx hy hP htp => ?_) (fun σ A hP => ?_)
    · obtain ⟨⟨v6, v7, rfl⟩, sA, zs, hA, dz, lz⟩ := hP
      rw [List.getElem?_map] at hx
      obtain ⟨w1, ew, rfl⟩ := Option.map_eq_some_iff.mp hx
      rw [List.getElem?_map] at ew
      obtain ⟨c, ec, rfl⟩ := Option.map_eq_some_iff.mp ew
      obtain ⟨g, eg, rfl⟩ := nV_inv hy
      have i6 : i < r.cs.length := (List.getElem?_eq_some_iff.mp ec).1
      have ezz : ((r.cs.map fun c => c.ds).zip s.gr)[i]? = some (c.ds, g) := by
        rw [List.getElem?_zip_eq_some, List.getElem?_map, ec]
        exact ⟨rfl, eg⟩
      have etk : ((((r.cs.map fun c => c.ds).zip s.gr).take (i + 1)).flatMap (alI s.gr m)) = (((r.cs.map fun c => c.ds).zip s.gr).take i).flatMap (alI s.gr m) ++ alI s.gr m (c.ds, g) := by
        rw [tk_succ' ezz, List.flatMap_append, List.flatMap_singleton]
      generalize (((r.cs.map fun c => c.ds).zip s.gr).take i).flatMap (alI s.gr m) = acc at dz etk
      rw [etk]
      have sT := same_new (o := .tup [.str (numS c.ds), .int (g : Nat)]) htp
      refine ⟨tp, _, rfl, SqT.of upd_same, rfl, _, _, rfl, _, _, rfl, rfl, ?_⟩
      have sB := sA.trans sT
      have hB := sT _ _ hA
      have dB := dz.ks sT
      generalize upd A tp (.tup [.str (numS c.ds), .int (g : Nat)]) = B at sB hB dB ⊢
      have step : ∀ (w : Wd) (B : Hp) (zs : List V) (ac : List Ev), Same H B → B L = some (.lst zs) → Dts K B zs (ac.map evD) → ∀ u, B u = none → ∀ C, C = upd B u (.tup [.str (wdS w), .str (numS c.ds)]) → Same H (upd C L (.lst (zs ++ [.ref u]))) ∧ C L = some (.lst zs) ∧ upd C L (.lst (zs ++ [.ref u])) L = some (.lst (zs ++ [.ref u])) ∧ Dts K (upd C L (.lst (zs ++ [.ref u]))) (zs ++ [.ref u]) ((ac ++ [(w, c.ds)]).map evD) := fun w B zs ac sB hB dB u hu C eC => by
        subst eC
        have sU := same_new (o := .tup [.str (wdS w), .str (numS c.ds)]) hu
        have hU := sU _ _ hB
        refine ⟨same_mut (sB.trans sU) hL, hU, upd_same, ?_⟩
        rw [List.map_append]
        exact ((dB.ks sU).snoc (wd_D w c.ds upd_same)).k (Kt.lst hU)
      refine ⟨fun σ B => σ = [some (.ref p), some (.ref t), some (.int (m : Nat)), some x, some (.ref gr), some (.ref L), some (.str (numS c.ds)), some (.int (g : Nat))] ∧ Same H B ∧ ∃ zs, B L = some (.lst zs) ∧ Dts K B zs ((acc ++ if g = 0 ∧ openN s.gr < m then [(Wd.call, c.ds)] else []).map evD) ∧ zs.length ≤ 3 * i + 1, ?_, ?_⟩
      · refine ⟨_, rfl, rfl, _, rfl, ite2 (fun c1 => ?_) (fun c1 => ?_)⟩
        · have g0 : g = 0 := by have := V.int.inj (of_decide_eq_true c1); omega
          refine ⟨_, rfl, .ref gr, s.gr, rfl, .tup (sameT sB hg) (dts_nV _), by omega, fun B1 sB1 => ?_⟩
          refine ⟨_, rfl, _, _, rfl, rfl, _, rfl, ite2 (fun c2 => ?_) (fun c2 => ?_)⟩
          · have c2 : openN s.gr < m := by have := of_decide_eq_true c2; omega
            refine ⟨_, rfl, .inl ⟨rfl, _, SqL.of (sB1 _ _ hB)⟩, _, rfl, by show 2 ≤ sizeLine; decide, fun u hu => ?_⟩
            obtain ⟨a1, a2, a3, a4⟩ := step .call B1 zs acc (sB.trans sB1) (sB1 _ _ hB) (dB.ks sB1) u hu _ rfl
            refine ⟨L, zs, _, rfl, rfl, a2, small1000 (by omega), rfl, a1, _, a3, ?_, by rw [List.length_append]; show zs.length + 1 ≤ _; omega⟩
            rw [if_pos ⟨g0, c2⟩]
            exact a4
          · have c2 : ¬ openN s.gr < m := fun z => c2 (decide_eq_true (by omega))
            refine ⟨rfl, sB.trans sB1, zs, sB1 _ _ hB, ?_, by omega⟩
            rw [if_neg fun z => c2 z.2, List.append_nil]
            exact dB.ks sB1
        · have g0 : ¬ g = 0 := fun z => c1 (decide_eq_true (by rw [z]; rfl))
          refine ⟨rfl, sB, zs, hB, ?_, by omega⟩
          rw [if_neg fun z => g0 z.1, List.append_nil]
          exact dB
      · rintro σ B2 ⟨rfl, sB2, zs2, hB2, dB2, lz2⟩
        generalize ha2 : (acc ++ if g = 0 ∧ openN s.gr < m then [(Wd.call, c.ds)] else []) = acc2 at dB2
        refine ⟨fun σ B => σ = [some (.ref p), some (.ref t), some (.int (m : Nat)), some x, some (.ref gr), some (.ref L), some (.str (numS c.ds)), some (.int (g : Nat))] ∧ Same H B ∧ ∃ zs, B L = some (.lst zs) ∧ Dts K B zs ((acc2 ++ if 0 < g ∧ g < 3 then [(Wd.more, c.ds)] else []).map evD) ∧ zs.length ≤ 3 * i + 2, ?_, ?_⟩
        · have no : ¬ (0 < g ∧ g < 3) → _ := fun (cn : ¬ (0 < g ∧ g < 3)) => (⟨rfl, sB2, zs2, hB2, by rw [if_neg cn, List.append_nil]; exact dB2, by omega⟩ : ([some (.ref p), some (.ref t), some (.int (m : Nat)), some x, some (.ref gr), some (.ref L), some (.str (numS c.ds)), some (.int (g : Nat))] : St) = [some (.ref p), some (.ref t), some (.int (m : Nat)), some x, some (.ref gr), some (.ref L), some (.str (numS c.ds)), some (.int (g : Nat))] ∧ Same H B2 ∧ ∃ zs, B2 L = some (.lst zs) ∧ Dts K B2 zs ((acc2 ++ if 0 < g ∧ g < 3 then [(Wd.more, c.ds)] else []).map evD) ∧ zs.length ≤ 3 * i + 2)
          refine ⟨_, rfl, _, _, rfl, rfl, _, rfl, ite2 (fun c1 => ?_) (fun c1 => ?_)⟩
          · have c1 : 0 < g := by have := of_decide_eq_true c1; omega
            refine ⟨T.CC, T.mcC, _, _, rfl, T.rdC, T.vG, _, _, rfl, rfl, _, rfl, ite2 (fun c2 => ?_) (fun c2 => ?_)⟩
            · have c2 : g < 3 := by have := of_decide_eq_true c2; omega
              refine ⟨_, rfl, .inl ⟨rfl, _, SqL.of hB2⟩, _, rfl, by show 2 ≤ sizeLine; decide, fun u hu => ?_⟩
              obtain ⟨a1, a2, a3, a4⟩ := step .more B2 zs2 acc2 sB2 hB2 dB2 u hu _ rfl
              refine ⟨L, zs2, _, rfl, rfl, a2, small1000 (by omega), rfl, a1, _, a3, ?_, by rw [List.length_append]; show zs2.length + 1 ≤ _; omega⟩
              rw [if_pos ⟨c1, c2⟩]
              exact a4
            · exact no fun z => c2 (decide_eq_true (by have := z.2; omega))
          · exact ⟨_, rfl, iteF (no fun z => c1 (decide_eq_true (by have := z.1; omega)))⟩
        · rintro σ B3 ⟨rfl, sB3, zs3, hB3, dB3, lz3⟩
          have ea : acc ++ alI s.gr m (c.ds, g) = (acc2 ++ if 0 < g ∧ g < 3 then [(Wd.more, c.ds)] else []) ++ (if 0 < g then [(Wd.back, c.ds)] else []) := by
            rw [← ha2]
            unfold alI
            simp only [List.append_assoc]
          rw [ea]
          refine ⟨_, rfl, _, _, rfl, rfl, _, rfl, ite2 (fun c1 => ?_) (fun c1 => ?_)⟩
          · have c1 : 0 < g := by have := of_decide_eq_true c1; omega
            refine ⟨_, rfl, .inl ⟨rfl, _, SqL.of hB3⟩, _, rfl, by show 2 ≤ sizeLine; decide, fun u hu => ?_⟩
            obtain ⟨a1, a2, a3, a4⟩ := step .back B3 zs3 _ sB3 hB3 dB3 u hu _ rfl
            refine ⟨L, zs3, _, rfl, rfl, a2, small1000 (by omega), ⟨_, _, rfl⟩, a1, _, a3, ?_, by rw [List.length_append]; show zs3.length + 1 ≤ _; omega⟩
            rw [if_pos c1]
            exact a4
          · have c1 : ¬ 0 < g := fun z => c1 (decide_eq_true (by omega))
            refine ⟨⟨_, _, rfl⟩, sB3, zs3, hB3, ?_, by omega⟩
            rw [if_neg c1, List.append_nil]
            exact dB3
    · obtain ⟨⟨v6, v7, rfl⟩, sA, zs, hA, dz, lz⟩ := hP
      rw [List.length_map, List.length_map, ← hz, List.take_length] at dz
      refine ⟨_, rfl, L, _, rfl, .inl ⟨SqL.of hA, fun u hu => ?_⟩⟩
      have sU := same_new (o := .tup zs) hu
      exact k _ _ (sA.trans sU) (dt_tup upd_same (dz.ks sU))
end
end K59

namespace K59
open PySem L2 Wm TL Dv
section
variable {P : Program} {w : World} {K : PySem.W.Frag} {mg : Str → Option Value} {base : Heap}
theorem dts_set {H : Hp} {xs : List V} {pl : List Pl} {i : Nat} {v : V} {p : Pl} (h : Dts K H xs (pl.map plD)) (d : Dt K H v (plD p)) : Dts K H (xs.set i v) ((pl.set i p).map plD) := by
  have lx := h.len
  rw [List.length_map] at lx
  refine dts_of (by rw [List.length_map, List.length_set, List.length_set, lx]) fun j y e => ?_
  rw [List.getElem?_map]
  rw [List.getElem?_set] at e ⊢
  by_cases c : i = j
  · rw [if_pos c] at e ⊢
    by_cases c2 : i < xs.length
    · rw [if_pos c2] at e
      cases e
      rw [if_pos (by omega)]
      exact ⟨_, rfl, d⟩
    · rw [if_neg c2] at e
      cases e
  · rw [if_neg c] at e ⊢
    obtain ⟨q, eq, g⟩ := pls_at h e
    rw [eq]
    exact ⟨_, rfl, g⟩
theorem ok_set {pl : List Pl} {i : Nat} {p : Pl} (h : ∀ q ∈ pl, plOk q) (g : plOk p) : ∀ q ∈ pl.set i p, plOk q := fun q m => by
  rcases List.mem_or_eq_of_mem_set m with m | m
  · exact h q m
  · rw [m]; exact g
/-- a place of the list at l is written -/
theorem put_pl {H A : Hp} {l u : Addr} {xs : List V} {pl : List Pl} {i : Nat} {p : Pl} (sA : Same H A) (hl : H l = none) (hA : A l = some (.lst xs)) (d : Dts K A xs (pl.map plD)) (hu : A u = none) :
    Same H (upd (upd A u (.tup [.str (plW p), plY p])) l (.lst (xs.set i (.ref u)))) ∧ (upd A u (.tup [.str (plW p), plY p])) l = some (.lst xs) ∧ (upd (upd A u (.tup [.str (plW p), plY p])) l (.lst (xs.set i (.ref u)))) l = some (.lst (xs.set i (.ref u))) ∧
      Dts K (upd (upd A u (.tup [.str (plW p), plY p])) l (.lst (xs.set i (.ref u)))) (xs.set i (.ref u)) ((pl.set i p).map plD) ∧ (∀ q o, q ≠ l → A q = some o → (upd (upd A u (.tup [.str (plW p), plY p])) l (.lst (xs.set i (.ref u)))) q = some o) := by
  have sU := same_new (o := .tup [.str (plW p), plY p]) hu
  have hU := sU _ _ hA
  refine ⟨same_mut (sA.trans sU) hl, hU, upd_same, ?_, fun q o n e => by rw [upd_ne n]; exact sU _ _ e⟩
  exact (dts_set (d.ks sU) (dt_pl upd_same)).k (Kt.lst hU)
theorem inP_succ {st : List Nat} {pl : List Pl} {rs : List Nat} {i n : Nat} (h : rs[i]? = some n) : inP st pl (rs.take (i + 1)) = (inP st pl (rs.take i)).set n (.ins (st.getD n 0)) := by
  unfold inP
  rw [tk_succ' h, List.foldl_append]
  rfl
theorem inP_len (st : List Nat) (rs : List Nat) : ∀ pl : List Pl, (inP st pl rs).length = pl.length := by
  induction rs with
  | nil => intro pl; rfl
  | cons r rs ih => intro pl; show (inP st (pl.set r _) rs).length = _; rw [ih, List.length_set]
theorem homeF_succ (st : List Nat) (pl : List Pl) (i : Nat) : homeF st pl (i + 1) = homeS st (homeF st pl i) i := by
  unfold homeF
  rw [List.range_succ, List.foldl_append]
  rfl
theorem homeF_len (st : List Nat) (pl : List Pl) : ∀ i, (homeF st pl i).1.length = pl.length ∧ (homeF st pl i).2.length ≤ i
  | 0 => ⟨rfl, Nat.le_refl _⟩
  | i + 1 => by
    have ih := homeF_len st pl i
    rw [homeF_succ]
    unfold homeS
    split
    · exact ⟨by rw [List.length_set]; exact ih.1, by rw [List.length_append]; show _ + 1 ≤ _; omega⟩
    · exact ⟨ih.1, by omega⟩
theorem ok_close (T : Txt K mg) : FnOk P w K mg base CX0 3 T.a_close T.d_close ["self", "standing", "number"] (sp_close K T.CC T.RC) := by
  refine T.F_close.ok sc_close (fun vs H Q E h => ?_) (fun cdv A outer s H vs Q E hr h => ?_)
  · obtain ⟨p, r, i, c, v, s, rfl, _⟩ := h
    rfl
  · obtain ⟨p, r, i, c, v, s, rfl, hR, ok, hc, dv, so, k⟩ := h
    obtain ⟨dx, fs, _, q, n, cvs, hp, l1, d1, l2, hq, hcs, l3, d3, lo⟩ := id hR
    obtain ⟨t1, rfl, h1⟩ := dt_ints d1
    have dv0 := dv
    obtain ⟨t, x, y, rfl, ht, d5, d6⟩ := dt_two dv
    obtain ⟨pp, xs, rfl, hpp, dp⟩ := d5.inv
    have lp := so.pl
    have l6 := ok.st6
    have lx := dp.len
    rw [List.length_map] at lx
    have oc : plOk (.out c.ds) := (ok.ok c (List.mem_of_getElem? hc)).num
    have so3 : ∀ n, n < r.st.length → r.st.getD n 0 ≤ 8 := fun n hn => ok.st8 _ (List.mem_of_getElem? (getD_at hn))
    refine ⟨_, (pss_cons (ps_set (i := 3) sc_close.nd rfl (Or.inl rfl) (pe_callTy call_list_of (by rfl) T.z_list (by decide +kernel) (pa_cons (pe_ix ix_tup (pv 1) pe_int (fun _ _ => rfl)) pa_nil)))
      (pss_cons (ps_set (i := 4) sc_close.nd rfl (Or.inl rfl) (pe_call (ok_crews_at T) (hr.mono (by decide)) (by rfl) T.g_crews_at T.F_crews_at.kp T.b_crews_at .nil pass0 (pa_cons (pv 3) (pa_cons (pe_tup (pa_cons (pe_glob (v := V.str "out") rfl T.c_OUT ⟨_, rfl⟩) (pa_cons (pv 2) pa_nil))) pa_nil))))
      (pss_cons (ps_for PassesOwn.never rfl (pi_list (pv 4)) (pg_name (i := 5) sc_close.nd rfl (Or.inl rfl))
        (pss_one (ps_asg (pe_tup (pa_cons (pe_glob (v := V.str "in") rfl T.c_IN ⟨_, rfl⟩) (pa_cons (pe_ix ix_tup (pe_fld (pv 0) rfl) (pv 5) (fun _ _ => rfl)) pa_nil))) (pg_sub (pv 3) (pv 5) set_list))))
      (pss_cons (ps_set (i := 6) sc_close.nd rfl (Or.inl rfl) (pe_lst pa_nil))
      (pss_cons (ps_for PassesOwn.never rfl (Es.pi_ent (by rfl) T.z_enumerate (pa_cons (pe_fld (pv 0) rfl) pa_nil)) (pg_tup rfl (pgs_cons (pg_name (i := 5) sc_close.nd rfl (Or.inl rfl)) (pgs_cons (pg_name (i := 7) sc_close.nd rfl (Or.inl rfl)) pgs_nil)))
        (pss_one (ps_if (pt_val (pe_meth (pv 0) T.clRC T.m_can_go_home (ok_can_go_home T) (hr.mono (by decide)) T.b_can_go_home .nil pass0 (pa_cons (pv 3) (pa_cons (pv 5) pa_nil))))
          (pss_cons (ps_asg (pe_tup (pa_cons (pe_glob (v := V.str "in") rfl T.c_IN ⟨_, rfl⟩) (pa_cons (pv 7) pa_nil))) (pg_sub (pv 3) (pv 5) set_list))
          (pss_one (ps_expr (pe_bm PySem.F.plainAttrs_list PySem.F.slot_list_append PySem.F.type_list_append mt_append (pv 6) (pa_cons (pv 5) pa_nil)))))
          pss_nil)))
      (pss_one (ps_ret (pe_tup (pa_cons (pe_meth (pv 0) T.clRC T.m_with_grade (ok_with_grade T) (hr.mono (by decide)) T.b_with_grade .nil pass0 (pa_cons (pv 1) (pa_cons (pv 3) (pa_cons (pv 2) (pa_cons pe_int pa_nil))))) (pa_cons (pe_tup (pa_cons (pe_callTy call_tuple_of (by rfl) T.z_tuple (by decide +kernel) (pa_cons (pv 4) pa_nil)) (pa_cons (pe_callTy call_tuple_of (by rfl) T.z_tuple (by decide +kernel) (pa_cons (pv 6) pa_nil)) pa_nil))) pa_nil)))))))))), ?_⟩
    refine ⟨_, rfl, t, _, 0, _, rfl, rfl, ht, atI_nat (j := 0) rfl, pp, xs, rfl, .inr hpp, fun l hl => ?_⟩
    have s1 := same_new (o := .lst xs) hl
    have hl1 : upd H l (.lst xs) l = some (.lst xs) := upd_same
    generalize upd H l (.lst xs) = H1 at s1 hl1 ⊢
    refine ⟨_, rfl, _, rfl, by show 2 ≤ sizeLine; decide, fun u hu => ?_⟩
    have s2 := s1.trans (same_new (o := .tup [.str "out", .str (numS c.ds)]) hu)
    have hl2 := same_new (o := .tup [.str "out", .str (numS c.ds)]) hu _ _ hl1
    have hu2 : upd H1 u (.tup [.str "out", .str (numS c.ds)]) u = some (.tup [.str "out", .str (numS c.ds)]) := upd_same
    generalize upd H1 u (.tup [.str "out", .str (numS c.ds)]) = H2 at s2 hl2 hu2 ⊢
    refine ⟨l, .ref u, false, xs, s.pl, .out c.ds, rfl, SqL.of hl2, dp.ks s2, dt_pl (p := .out c.ds) hu2, so.ok, oc, by omega, fun H3 g s3 g0 hg => ?_⟩
    have hl3 := s3 _ _ hl2
    have s3 := s2.trans s3
    have nlg : l ≠ g := fun e => by subst e; rw [hl2] at g0; cases g0
    have rl := atL_len s.pl (.out c.ds)
    refine ⟨_, rfl, g, rfl, ⟨_, SqL.of hg⟩, ?_⟩
    refine for_list (xs := nV (atL s.pl (.out c.ds))) (fun i σ A => (∃ v5, σ = [some (.ref p), some (.ref t), some (.str (numS c.ds)), some (.ref l), some (.ref g), v5, none, none]) ∧ Same H A ∧ A g = some (.lst (nV (atL s.pl (.out c.ds)))) ∧ (∀ q ∈ inP r.st s.pl ((atL s.pl (.out c.ds)).take i), plOk q) ∧ ∃ zs, A l = some (.lst zs) ∧ Dts K A zs ((inP r.st s.pl ((atL s.pl (.out c.ds)).take i)).map plD))
      ⟨⟨none, rfl⟩, s3, hg, so.ok, xs, hl3, dp.ks s3⟩ (fun i σ A _ h => SqL.of h.2.2.1) (fun i w σ A hw hP => ?_) (fun σ A hP => ?_)
    · obtain ⟨⟨v5, rfl⟩, sA, hgA, okA, zs, hlA, dA⟩ := hP
      obtain ⟨m, hm, rfl⟩ := nV_inv hw
      have ml := atL_lt (List.mem_of_getElem? hm)
      have lz := dA.len
      rw [List.length_map, inP_len] at lz
      refine ⟨_, rfl, p, T.RC, dx, fs, _, rfl, sA _ _ hp, T.clRC, T.nSt, l1, _, rfl, t1, _, _, _, rfl, rfl, sameT sA h1, atI_nat (nV_at (getD_at (xs := r.st) (i := m) (by omega))), by show 2 ≤ sizeLine; decide, fun u2 hu2 => ?_⟩
      obtain ⟨a1, a2, a3, a4, a5⟩ := put_pl (i := m) (p := .ins (r.st.getD m 0)) sA hl hlA dA hu2
      refine ⟨_, rfl, _, rfl, l, _, _, m, rfl, rfl, a2, ixN_nat (by omega), ?_⟩
      rw [inP_succ hm]
      exact ⟨⟨_, rfl⟩, a1, a5 _ _ nlg.symm hgA, ok_set okA (so3 m (by omega)), _, a3, a4⟩
    · obtain ⟨⟨v5, rfl⟩, sA, hgA, okA, zs, hlA, dA⟩ := hP
      rw [nV_len, List.take_length] at okA dA
      have e1 : backP r.st c.ds s.pl = homeF r.st (inP r.st s.pl (atL s.pl (.out c.ds))) r.st.length := rfl
      have e2 : backT r.st c.ds s.pl = .back (atL s.pl (.out c.ds)) (backP r.st c.ds s.pl).2 := rfl
      rw [e2, e1] at k
      have lq := inP_len r.st (atL s.pl (.out c.ds)) s.pl
      generalize inP r.st s.pl (atL s.pl (.out c.ds)) = pl1 at okA dA k lq
      generalize atL s.pl (.out c.ds) = rs at hgA k rl
      refine ⟨by show 0 ≤ sizeLine; decide, fun D hD => ?_⟩
      have nlD : l ≠ D := fun e => by subst e; rw [hD] at hlA; cases hlA
      have ngD : g ≠ D := fun e => by subst e; rw [hD] at hgA; cases hgA
      have sD := same_new (o := .lst []) hD
      have sB := sA.trans sD
      have hgB := sD _ _ hgA
      have hlB := sD _ _ hlA
      have dB := dA.ks sD
      have hDB : upd A D (.lst []) D = some (.lst []) := upd_same
      have hDH : H D = none := by
        cases e : H D with
        | none => rfl
        | some o => rw [sA _ _ e] at hD; cases hD
      generalize upd A D (.lst []) = B at sB hgB hlB dB hDB ⊢
      refine ⟨_, rfl, p, T.RC, dx, fs, _, rfl, sB _ _ hp, T.clRC, T.nSt, l1, t1, _, rfl, sameT sB h1, ?_⟩
      refine for_it Es.walk_ent (fun i σ A => (∃ v5 v7, σ = [some (.ref p), some (.ref t), some (.str (numS c.ds)), some (.ref l), some (.ref g), v5, some (.ref D), v7]) ∧ Same H A ∧ A g = some (.lst (nV rs)) ∧ A D = some (.lst (nV (homeF r.st pl1 i).2)) ∧ (∀ q ∈ (homeF r.st pl1 i).1, plOk q) ∧ ∃ zs, A l = some (.lst zs) ∧ Dts K A zs ((homeF r.st pl1 i).1.map plD))
        ⟨⟨v5, none, rfl⟩, sB, hgB, hDB, okA, zs, hlB, dB⟩ (fun i σ A _ h => sameT h.2.1 h1) (fun i w σ A A' hi hP hY => ?_) (fun σ A hP => ?_)
      · obtain ⟨⟨v5, v7, rfl⟩, sA, hgA, hDA, okA, zs, hlA, dA⟩ := hP
        obtain ⟨tp, x1, x2, rfl, htp, rfl, y1, y2⟩ := hY
        cases y1
        obtain ⟨m, hm, rfl⟩ := nV_inv y2
        rw [nV_len] at hi
        have hl0 := homeF_len r.st pl1 i
        have lz := dA.len
        rw [List.length_map] at lz
        have sT := same_new (o := .tup [.int (i : Nat), .int (m : Nat)]) htp
        have sC := sA.trans sT
        have hgC := sT _ _ hgA
        have hDC := sT _ _ hDA
        have hlC := sT _ _ hlA
        have dC := dA.ks sT
        refine ⟨tp, _, rfl, SqT.of upd_same, rfl, _, _, rfl, _, _, rfl, rfl, ?_⟩
        generalize upd A tp (.tup [.int (i : Nat), .int (m : Nat)]) = C at sC hgC hDC hlC dC ⊢
        refine ⟨_, rfl, p, dx, fs, rfl, sC _ _ hp, lo _ (by decide +kernel) (by decide +kernel) (by decide +kernel), _, rfl, _, rfl, p, r, l, zs, (homeF r.st pl1 i).1, i, rfl, hR.k sC, ok, hlC, dC, okA, by rw [hl0.1, lq, lp], by rw [hl0.1, lq, lp]; exact hi, fun C1 sC1 => ?_⟩
        have em : r.st.getD i 0 = m := by rw [List.getD_eq_getElem?_getD, hm]; rfl
        refine ⟨_, rfl, ite2 (fun cc => ?_) (fun cc => ?_)⟩
        · refine ⟨_, rfl, by show 2 ≤ sizeLine; decide, fun u2 hu2 => ?_⟩
          obtain ⟨a1, a2, a3, a4, a5⟩ := put_pl (i := i) (p := .ins m) (sC.trans sC1) hl (sC1 _ _ hlC) (dC.ks sC1) hu2
          refine ⟨_, rfl, _, rfl, l, _, _, i, rfl, rfl, a2, ixN_nat (by rw [lz, hl0.1, lq, lp]; exact hi), ?_⟩
          have hDZ := a5 _ _ nlD.symm (sC1 _ _ hDC)
          have hgZ := a5 _ _ nlg.symm (sC1 _ _ hgC)
          refine ⟨_, rfl, .inl ⟨rfl, _, SqL.of hDZ⟩, _, rfl, D, _, _, rfl, rfl, hDZ, by rw [nV_len]; exact small1000 (by omega), ?_⟩
          rw [homeF_succ]
          unfold homeS
          rw [if_pos cc, em]
          have en : nV (homeF r.st pl1 i).2 ++ [V.int ((i : Nat) : Int)] = nV ((homeF r.st pl1 i).2 ++ [i]) := by unfold nV; rw [List.map_append]; rfl
          rw [en]
          refine ⟨⟨_, _, rfl⟩, same_mut a1 hDH, by rw [upd_ne ngD]; exact hgZ, upd_same, ok_set okA (by have := so3 i hi; rw [em] at this; exact this), _, by rw [upd_ne nlD]; exact a3, a4.k (Kt.lst hDZ)⟩
        · rw [homeF_succ]
          unfold homeS
          rw [if_neg cc]
          exact ⟨⟨_, _, rfl⟩, sC.trans sC1, sC1 _ _ hgC, sC1 _ _ hDC, okA, _, sC1 _ _ hlC, dC.ks sC1⟩
      · obtain ⟨⟨v5, v7, rfl⟩, sA, hgA, hDA, okA, zs, hlA, dA⟩ := hP
        rw [nV_len] at hDA okA dA
        have hl0 := homeF_len r.st pl1 r.st.length
        refine ⟨_, rfl, p, dx, fs, rfl, sA _ _ hp, lo _ (by decide +kernel) (by decide +kernel) (by decide +kernel), _, rfl, _, rfl, _, rfl, p, r, i, c, .ref t, s, l, zs, (homeF r.st pl1 r.st.length).1, 0, rfl, hR.k sA, ok, hc, dv0.ks sA, so, hlA, dA, by rw [hl0.1, lq, lp]; omega, fun A1 w sA1 dw => ?_⟩
        refine ⟨_, rfl, g, _, rfl, .inl ⟨SqL.of (sA1 _ _ hgA), fun u1 hu1 => ?_⟩⟩
        have sU1 := same_new (o := .tup (nV rs)) hu1
        refine ⟨_, rfl, D, _, rfl, .inl ⟨SqL.of (sU1 _ _ (sA1 _ _ hDA)), fun u2 hu2 => ?_⟩⟩
        have sU2 := same_new (o := .tup (nV (homeF r.st pl1 r.st.length).2)) hu2
        have hu22 : upd (upd A1 u1 (.tup (nV rs))) u2 (.tup (nV (homeF r.st pl1 r.st.length).2)) u2 = some (.tup (nV (homeF r.st pl1 r.st.length).2)) := upd_same
        have hu12 := sU2 u1 (.tup (nV rs)) upd_same
        have sU := sU1.trans sU2
        generalize upd (upd A1 u1 (.tup (nV rs))) u2 (.tup (nV (homeF r.st pl1 r.st.length).2)) = A3 at hu22 hu12 sU ⊢
        refine ⟨by show 2 ≤ sizeLine; decide, fun u3 hu3 => ?_⟩
        have sU3 := same_new (o := .tup [.ref u1, .ref u2]) hu3
        have hu33 : upd A3 u3 (.tup [.ref u1, .ref u2]) u3 = some (.tup [.ref u1, .ref u2]) := upd_same
        have d12 : Dt K (upd A3 u3 (.tup [.ref u1, .ref u2])) (.ref u3) (tdD (.back rs (homeF r.st pl1 r.st.length).2)) := dt_tup hu33 (.cons ((dt_iD hu12).ks sU3) (.cons ((dt_iD hu22).ks sU3) .nil))
        have sZ := sU.trans sU3
        generalize upd A3 u3 (.tup [.ref u1, .ref u2]) = A4 at d12 sZ ⊢
        refine ⟨by show 2 ≤ sizeLine; decide, fun u4 hu4 => ?_⟩
        have sU4 := same_new (o := .tup [w, .ref u3]) hu4
        exact k _ _ (((sA.trans sA1).trans sZ).trans sU4) ⟨u4, w, .ref u3, rfl, upd_same, (dw.ks sZ).ks sU4, .inr ⟨fun e => (by cases e), d12.ks sU4⟩⟩
end
end K59

namespace K59
open PySem L2 Wm TL Dv
section
variable {P : Program} {w : World} {K : PySem.W.Frag} {mg : Str → Option Value} {base : Heap}
theorem outP_succ {ds : List Nat} {pl : List Pl} {rs : List Nat} {i n : Nat} (h : rs[i]? = some n) : outP ds pl (rs.take (i + 1)) = (outP ds pl (rs.take i)).set n (.out ds) := by
  unfold outP
  rw [tk_succ' h, List.foldl_append]
  rfl
theorem outP_len (ds : List Nat) (rs : List Nat) : ∀ pl : List Pl, (outP ds pl rs).length = pl.length := by
  induction rs with
  | nil => intro pl; rfl
  | cons r rs ih => intro pl; show (outP ds (pl.set r _) rs).length = _; rw [ih, List.length_set]
theorem mvF_succ {pl : List Pl} {ms : List (Nat × Nat)} {i : Nat} {m : Nat × Nat} (h : ms[i]? = some m) : mvF pl (ms.take (i + 1)) = mvS (mvF pl (ms.take i)) m := by
  unfold mvF
  rw [tk_succ' h, List.foldl_append]
  rfl
theorem mvF_len (ms : List (Nat × Nat)) : ∀ (x : List Pl × List (Nat × Nat)), (ms.foldl mvS x).1.length = x.1.length ∧ (ms.foldl mvS x).2.length ≤ x.2.length + ms.length := by
  induction ms with
  | nil => intro x; exact ⟨rfl, Nat.le_refl _⟩
  | cons m ms ih =>
    intro x
    have h := ih (mvS x m)
    have h2 : (mvS x m).1.length = x.1.length ∧ (mvS x m).2.length ≤ x.2.length + 1 := by
      unfold mvS
      split
      · exact ⟨by rw [List.length_set], by rw [List.length_append]; exact Nat.le_refl _⟩
      · exact ⟨rfl, Nat.le_add_right _ _⟩
    rw [List.foldl_cons, List.length_cons]
    exact ⟨h.1.trans h2.1, by omega⟩
abbrev mD (x : Nat × Nat) : PyData := .tuple [.int (x.1 : Nat), .int (x.2 : Nat)]
theorem cardTake {cs : List Nat} (hc : ∀ x ∈ cs, x ≤ 6) (i : Nat) : cs.getD i 0 ≤ 6 := by
  rw [List.getD_eq_getElem?_getD]
  cases e : cs[i]? with
  | none => exact Nat.zero_le _
  | some x => exact hc x (List.mem_of_getElem? e)
theorem ok_lift (T : Txt K mg) : FnOk P w K mg base CX0 3 T.a_lift T.d_lift ["self", "standing", "number", "grade"] (sp_lift K T.CC T.RC) := by
  refine T.F_lift.ok sc_lift (fun vs H Q E h => ?_) (fun cdv A outer s H vs Q E hr h => ?_)
  · obtain ⟨p, r, i, c, v, s, g, rfl, _⟩ := h
    rfl
  · obtain ⟨p, r, i, c, v, s, g, rfl, hR, ok, hc, dv, so, g1, g3, k⟩ := h
    obtain ⟨dx, fs, _, q, n, cvs, hp, l1, d1, l2, hq, hcs, l3, d3, lo⟩ := id hR
    have cok := ok.ok c (List.mem_of_getElem? hc)
    have dv0 := dv
    obtain ⟨t, x, y, rfl, ht, d5, d6⟩ := dt_two dv
    obtain ⟨pp, xs, rfl, hpp, dp⟩ := d5.inv
    have lp := so.pl
    have l6 := ok.st6
    have lx := dp.len
    rw [List.length_map] at lx
    have oc : plOk (.out c.ds) := cok.num
    refine ⟨_, (pss_cons (ps_set (i := 4) sc_lift.nd rfl (Or.inl rfl) (pe_meth (pv 0) T.clRC T.m_card_of (ok_card_of T) (hr.mono (by decide)) T.b_card_of .nil pass0 (pa_cons (pv 2) pa_nil)))
      (pss_cons (ps_set (i := 5) sc_lift.nd rfl (Or.inr rfl) (pe_callTy call_list_of (by rfl) T.z_list (by decide +kernel) (pa_cons (pe_ix ix_tup (pv 1) pe_int (fun _ _ => rfl)) pa_nil)))
      (pss_cons (ps_setLc (i := 6) (own := [("crew", 7)]) (g := gName 7) rfl sc_lift.nd rfl rfl (sw_true rfl rfl rfl (by decide +kernel)) (pi_tup (pe_fld (pv 4) rfl)) (blkOk_by (own := [("crew", 7)]) (N := nm_lift) (sc := (defScope s_lift)) (by decide +kernel)) (fun _ _ _ _ _ => pg_name (i := 7) sc_lift.nd rfl (Or.inl rfl)) (fun _ _ _ _ _ => (pts_one (pt_cmpR op_eq (pe_ix (show IxR _ (rIxT K) from ix_tup) (pe_ix (show IxR _ (rIxL K) from ix_list) (pv 5) (pv 7) (fun _ _ => rfl)) pe_int (fun _ _ => rfl)) (pe_glob (v := V.str "in") rfl T.c_IN ⟨_, rfl⟩) (nomark _)))) (fun _ _ _ _ _ => (pv 7)))
      (pss_cons (ps_set (i := 8) sc_lift.nd rfl (Or.inl rfl) (pe_slice sl_list (pv 6) po_none (po_some (pe_ix ix_tup (pe_fld (pv 4) rfl) (pe_op op_sub (pv 3) pe_int) (fun _ _ => rfl)))))
      (pss_cons (ps_for PassesOwn.never rfl (pi_list (pv 8)) (pg_name (i := 7) sc_lift.nd rfl (Or.inl rfl))
        (pss_one (ps_asg (pe_tup (pa_cons (pe_glob (v := V.str "out") rfl T.c_OUT ⟨_, rfl⟩) (pa_cons (pv 2) pa_nil))) (pg_sub (pv 5) (pv 7) set_list))))
      (pss_cons (ps_set (i := 9) sc_lift.nd rfl (Or.inl rfl) (pe_lst pa_nil))
      (pss_cons (ps_for PassesOwn.never rfl (pi_tup (pe_fld (pv 4) rfl)) (pg_tup rfl (pgs_cons (pg_name (i := 7) sc_lift.nd rfl (Or.inl rfl)) (pgs_cons (pg_name (i := 10) sc_lift.nd rfl (Or.inl rfl)) pgs_nil)))
        (pss_one (ps_if (pt_val (pe_call (ok_can_move T) (hr.mono (by decide)) (by rfl) T.g_can_move T.F_can_move.kp T.b_can_move .nil pass0 (pa_cons (pv 5) (pa_cons (pv 7) (pa_cons (pv 10) pa_nil)))))
          (pss_cons (ps_asg (pe_tup (pa_cons (pe_glob (v := V.str "in") rfl T.c_IN ⟨_, rfl⟩) (pa_cons (pv 10) pa_nil))) (pg_sub (pv 5) (pv 7) set_list))
          (pss_one (ps_expr (pe_bm PySem.F.plainAttrs_list PySem.F.slot_list_append PySem.F.type_list_append mt_append (pv 9) (pa_cons (pe_tup (pa_cons (pv 7) (pa_cons (pv 10) pa_nil))) pa_nil)))))
          pss_nil)))
      (pss_cons (ps_set (i := 11) sc_lift.nd rfl (Or.inl rfl) (pe_callB (call_max2 rfl) (by rfl) T.z_max (by decide +kernel) (pa_cons pe_int (pa_cons (pe_op op_sub (pe_ix ix_tup (pe_fld (pv 4) rfl) (pe_op op_sub (pv 3) pe_int) (fun _ _ => rfl)) (pe_callB call_len_seq (by rfl) T.z_len PySem.boot_len (pa_cons (pe_call (ok_crews_at T) (hr.mono (by decide)) (by rfl) T.g_crews_at T.F_crews_at.kp T.b_crews_at .nil pass0 (pa_cons (pv 5) (pa_cons (pe_tup (pa_cons (pe_glob (v := V.str "out") rfl T.c_OUT ⟨_, rfl⟩) (pa_cons (pv 2) pa_nil))) pa_nil))) pa_nil))) pa_nil))))
      (pss_cons (ps_set (i := 12) sc_lift.nd rfl (Or.inl rfl) (pe_tup (pa_cons (pv 3) (pa_cons (pe_callTy call_tuple_of (by rfl) T.z_tuple (by decide +kernel) (pa_cons (pv 8) pa_nil)) (pa_cons (pe_callTy call_tuple_of (by rfl) T.z_tuple (by decide +kernel) (pa_cons (pv 9) pa_nil)) (pa_cons (pv 11) pa_nil))))))
      (pss_one (ps_ret (pe_tup (pa_cons (pe_meth (pv 0) T.clRC T.m_with_grade (ok_with_grade T) (hr.mono (by decide)) T.b_with_grade .nil pass0 (pa_cons (pv 1) (pa_cons (pv 5) (pa_cons (pv 2) (pa_cons (pv 3) pa_nil))))) (pa_cons (pv 12) pa_nil)))))))))))))), ?_⟩
    refine ⟨_, rfl, p, dx, fs, rfl, hp, lo _ (by decide +kernel) (by decide +kernel) (by decide +kernel), _, rfl, p, r, i, c, rfl, hR, ok, hc, fun cv hcv => ?_⟩
    obtain ⟨cp, dxc, fsc, o1, o2, o3, o4, rfl, hcp, i1, i2, e2, i3, e3, i4, e4, i5, e5, i6⟩ := hcv
    obtain ⟨q1, rfl, h1⟩ := dt_ints e2
    obtain ⟨q2, rfl, h2⟩ := dt_ints e3
    obtain ⟨q3, rfl, h3⟩ := dt_ints e4
    obtain ⟨q4, ms, rfl, h4, hm⟩ := e5.inv
    refine ⟨_, rfl, t, _, 0, _, rfl, rfl, ht, atI_nat (j := 0) rfl, pp, xs, rfl, .inr hpp, fun l hl => ?_⟩
    have s1 := same_new (o := .lst xs) hl
    have hl1 : upd H l (.lst xs) l = some (.lst xs) := upd_same
    generalize upd H l (.lst xs) = H1 at s1 hl1 ⊢
    refine ⟨_, rfl, cp, T.CC, dxc, fsc, _, rfl, s1 _ _ hcp, T.clCC, T.nOr, i2, q1, rfl, ⟨_, sameT s1 h1⟩, fun D hD => ?_⟩
    have nlD : l ≠ D := fun e => by subst e; rw [hD] at hl1; cases hl1
    have oln : c.order.length ≤ 6 := by
      have := Lns.nodup_le (l := c.order.map fun (n : Nat) => (n : Int)) (m := (List.range 6).map fun (n : Nat) => (n : Int)) (cok.nd.map _ fun a b h e => h (Int.ofNat_inj.mp e)) (fun k hk => by
        obtain ⟨n, hn, rfl⟩ := List.mem_map.mp hk
        exact List.mem_map.mpr ⟨n, List.mem_range.mpr (by have := cok.ord n hn; omega), rfl⟩)
      simpa using this
    refine lc_it walk_tup (fun j B => Same H1 B ∧ B D = some (.lst (nV ((c.order.take j).filter (isIn s.pl))))) ⟨same_new hD, upd_same⟩ (fun j B _ h => sameT (s1.trans h.1) h1) (fun j w B B' hj hP hY => ?_) (fun B hP => ?_)
    · obtain ⟨sB, hB⟩ := hP
      obtain ⟨rfl, hw⟩ := hY
      obtain ⟨m, em, rfl⟩ := nV_inv hw
      have ml := cok.ord m (List.mem_of_getElem? em)
      have hz := List.getElem?_eq_getElem (l := s.pl) (i := m) (by omega)
      generalize s.pl[m]'(by omega) = z at hz
      obtain ⟨zv, hzv, dz⟩ := pls_get dp hz
      obtain ⟨z3, rfl, hz3⟩ := pl_two (dz.ks (s1.trans sB))
      have fl : ((c.order.take j).filter (isIn s.pl)).length ≤ 6 := Nat.le_trans (List.length_filter_le _ _) (by rw [List.length_take]; omega)
      refine ⟨rfl, _, rfl, _, rfl, l, _, _, _, rfl, rfl, SqL.of (sB _ _ hl1), atI_nat hzv, z3, _, 0, _, rfl, rfl, hz3, atI_nat (j := 0) rfl, rfl, _, rfl, ?_⟩
      rw [eq_in]
      refine ite2 (fun c1 => ?_) (fun c1 => ?_)
      · refine ⟨_, rfl, _, hB, by rw [nV_len]; exact small1000 (by omega), same_mut sB hD, ?_⟩
        rw [upd_same, tk_succ' em, List.filter_append, List.filter_cons, if_pos (by rw [isIn_at hz]; exact c1)]
        unfold nV
        rw [List.map_append]
        rfl
      · refine ⟨sB, ?_⟩
        rw [tk_succ' em, List.filter_append, List.filter_cons, if_neg (by rw [isIn_at hz]; exact c1), List.filter_nil, List.append_nil]
        exact hB
    obtain ⟨sB, hB⟩ := hP
    rw [nV_len, List.take_length] at hB
    have hlB := sB _ _ hl1
    have sB := s1.trans sB
    have eg : (((g : Nat) : Int) - 1) = ((g - 1 : Nat) : Int) := by omega
    have hcg := getD_at (xs := c.counts) (i := g - 1) (by rw [cok.c3]; omega)
    refine ⟨_, rfl, _, rfl, cp, T.CC, dxc, fsc, _, rfl, sB _ _ hcp, T.clCC, T.nCo, i3, _, rfl, _, _, rfl, rfl, q2, _, _, _, rfl, rfl, sameT sB h2, by rw [eg]; exact atI_nat (nV_at hcg), _, rfl, D, _, rfl, SqL.of hB, fun W hW => ?_⟩
    have ew : cutV (nV (c.order.filter (isIn s.pl))) none (some ((c.counts.getD (g - 1) 0 : Nat) : Int)) = nV (wentF c s.pl g) := by
      rw [cut_tk]
      unfold nV wentF goL
      rw [List.map_take]
    rw [ew]
    have ewl : ∀ m ∈ wentF c s.pl g, m < r.st.length := fun m mm => cok.ord m ((List.mem_filter.mp (List.mem_of_mem_take mm)).1)
    have ewn : (wentF c s.pl g).length ≤ 6 := by
      unfold wentF goL
      have := List.length_filter_le (isIn s.pl) c.order
      rw [List.length_take]
      omega
    have sW := same_new (o := .lst (nV (wentF c s.pl g))) hW
    have hWW : upd B W (.lst (nV (wentF c s.pl g))) W = some (.lst (nV (wentF c s.pl g))) := upd_same
    have nlW : l ≠ W := fun e => by subst e; rw [hW] at hlB; cases hlB
    have hlW := sW _ _ hlB
    have sH2 := sB.trans sW
    generalize upd B W (.lst (nV (wentF c s.pl g))) = H2 at sH2 hWW hlW ⊢
    have eT : liftT c s.pl g = .sent g (wentF c s.pl g) (liftP c s.pl g).2 (c.owed.getD (g - 1) 0 - (atL (liftP c s.pl g).1 (.out c.ds)).length) := rfl
    have eP : liftP c s.pl g = mvF (outP c.ds s.pl (wentF c s.pl g)) c.moves := rfl
    rw [eT, eP] at k
    generalize wentF c s.pl g = wl at ewl ewn hWW k
    refine ⟨_, rfl, W, rfl, ⟨_, SqL.of hWW⟩, ?_⟩
    refine for_list (xs := nV wl) (fun i σ A => (∃ v7, σ = [some (.ref p), some (.ref t), some (.str (numS c.ds)), some (.int (g : Nat)), some (.ref cp), some (.ref l), some (.ref D), v7, some (.ref W), none, none, none, none]) ∧ Same H A ∧ A W = some (.lst (nV wl)) ∧ (∀ q ∈ outP c.ds s.pl (wl.take i), plOk q) ∧ ∃ zs, A l = some (.lst zs) ∧ Dts K A zs ((outP c.ds s.pl (wl.take i)).map plD))
      ⟨⟨none, rfl⟩, sH2, hWW, so.ok, xs, hlW, dp.ks sH2⟩ (fun i σ A _ h => SqL.of h.2.2.1) (fun i w σ A hw hP => ?_) (fun σ A hP => ?_)
    · obtain ⟨⟨v7, rfl⟩, sA, hWA, okA, zs, hlA, dA⟩ := hP
      obtain ⟨m, em, rfl⟩ := nV_inv hw
      have ml := ewl m (List.mem_of_getElem? em)
      have lz := dA.len
      rw [List.length_map, outP_len] at lz
      refine ⟨_, rfl, by show 2 ≤ sizeLine; decide, fun u2 hu2 => ?_⟩
      obtain ⟨a1, a2, a3, a4, a5⟩ := put_pl (i := m) (p := .out c.ds) sA hl hlA dA hu2
      refine ⟨_, rfl, _, rfl, l, _, _, m, rfl, rfl, a2, ixN_nat (by omega), ?_⟩
      rw [outP_succ em]
      exact ⟨⟨_, rfl⟩, a1, a5 _ _ nlW.symm hWA, ok_set okA oc, _, a3, a4⟩
    obtain ⟨⟨v7, rfl⟩, sA, hWA, okA, zs, hlA, dA⟩ := hP
    rw [nV_len, List.take_length] at okA dA
    have lq := outP_len c.ds wl s.pl
    generalize outP c.ds s.pl wl = pl1 at okA dA k lq
    refine ⟨by show 0 ≤ sizeLine; decide, fun M hM => ?_⟩
    have nlM : l ≠ M := fun e => by subst e; rw [hM] at hlA; cases hlA
    have nWM : W ≠ M := fun e => by subst e; rw [hM] at hWA; cases hWA
    have sM := same_new (o := .lst []) hM
    have hWB := sM _ _ hWA
    have hlB2 := sM _ _ hlA
    have dB := dA.ks sM
    have hMB : upd A M (.lst []) M = some (.lst []) := upd_same
    have hMH : H M = none := by
      cases e : H M with
      | none => rfl
      | some o => rw [sA _ _ e] at hM; cases hM
    have sA2 := sA.trans sM
    generalize upd A M (.lst []) = B2 at sA2 hWB hlB2 dB hMB ⊢
    have m6 := cok.m6
    have lm := hm.len
    rw [List.length_map] at lm
    refine ⟨_, rfl, cp, T.CC, dxc, fsc, _, rfl, sA2 _ _ hcp, T.clCC, T.nMo, i5, q4, rfl, ⟨_, sameT sA2 h4⟩, ?_⟩
    refine for_tup (xs := ms) (fun i σ A => (∃ v7 v10, σ = [some (.ref p), some (.ref t), some (.str (numS c.ds)), some (.int (g : Nat)), some (.ref cp), some (.ref l), some (.ref D), v7, some (.ref W), some (.ref M), v10, none, none]) ∧ Same H A ∧ A W = some (.lst (nV wl)) ∧ (∀ q ∈ (mvF pl1 (c.moves.take i)).1, plOk q) ∧ (∃ zs, A l = some (.lst zs) ∧ Dts K A zs ((mvF pl1 (c.moves.take i)).1.map plD)) ∧ ∃ us, A M = some (.lst us) ∧ Dts K A us ((mvF pl1 (c.moves.take i)).2.map mD))
      ⟨⟨v7, none, rfl⟩, sA2, hWB, okA, ⟨zs, hlB2, dB⟩, [], hMB, .nil⟩ (fun i σ A _ h => sameT h.2.1 h4) (fun j w σ A hw hP => ?_) (fun σ A hP => ?_)
    · obtain ⟨⟨v7, v10, rfl⟩, sA, hWA, okA, ⟨zs, hlA, dA⟩, us, hMA, dM⟩ := hP
      obtain ⟨d, ed, hx2⟩ := hm.at hw
      rw [List.getElem?_map] at ed
      obtain ⟨m, em, rfl⟩ := Option.map_eq_some_iff.mp ed
      obtain ⟨p2, a, b, rfl, hp2, ha, hb⟩ := dt_two hx2
      obtain rfl := ha.int_inv
      obtain rfl := hb.int_inv
      have mv := cok.mv m (List.mem_of_getElem? em)
      have m8 : m.2 ≤ 8 := ok.st8 _ mv.2
      have jl : j < c.moves.length := (List.getElem?_eq_some_iff.mp em).1
      have hl0 := mvF_len (c.moves.take j) (pl1, [])
      have lz := dA.len
      have lu := dM.len
      rw [List.length_map] at lz lu
      have hl1 : (mvF pl1 (c.moves.take j)).1.length = pl1.length := hl0.1
      have hl2 : (mvF pl1 (c.moves.take j)).2.length ≤ 0 + (c.moves.take j).length := hl0.2
      rw [List.length_take] at hl2
      refine ⟨p2, _, rfl, sameT sA hp2, rfl, _, _, rfl, _, _, rfl, rfl, ?_⟩
      refine ⟨_, rfl, _, rfl, _, rfl, l, zs, (mvF pl1 (c.moves.take j)).1, m.1, m.2, rfl, hlA, dA, okA, by rw [hl1, lq, lp]; exact l6, by rw [hl1, lq, lp]; exact mv.1, m8, fun C1 sC1 => ?_⟩
      refine ⟨_, rfl, ite2 (fun cc => ?_) (fun cc => ?_)⟩
      · refine ⟨_, rfl, by show 2 ≤ sizeLine; decide, fun u2 hu2 => ?_⟩
        obtain ⟨a1, a2, a3, a4, a5⟩ := put_pl (i := m.1) (p := .ins m.2) (sA.trans sC1) hl (sC1 _ _ hlA) (dA.ks sC1) hu2
        refine ⟨_, rfl, _, rfl, l, _, _, m.1, rfl, rfl, a2, ixN_nat (by rw [lz, hl1, lq, lp]; exact mv.1), ?_⟩
        have hMZ := a5 _ _ nlM.symm (sC1 _ _ hMA)
        have hWZ := a5 _ _ nlW.symm (sC1 _ _ hWA)
        have dMZ : Dts K (upd (upd C1 u2 (.tup [.str (plW (.ins m.2)), plY (.ins m.2)])) l (.lst (zs.set m.1 (.ref u2)))) us ((mvF pl1 (c.moves.take j)).2.map mD) := ((dM.ks sC1).k (Kt.new hu2)).k (Kt.lst a2)
        obtain ⟨Z, hZ⟩ : ∃ Z, Z = upd (upd C1 u2 (.tup [.str "in", .int (m.2 : Nat)])) l (.lst (zs.set m.1 (.ref u2))) := ⟨_, rfl⟩
        have a1 : Same H Z := by rw [hZ]; exact a1
        have a3 : Z l = some (.lst (zs.set m.1 (.ref u2))) := by rw [hZ]; exact a3
        have a4 : Dts K Z (zs.set m.1 (.ref u2)) (((mvF pl1 (c.moves.take j)).1.set m.1 (.ins m.2)).map plD) := by rw [hZ]; exact a4
        have hMZ : Z M = some (.lst us) := by rw [hZ]; exact hMZ
        have hWZ : Z W = some (.lst (nV wl)) := by rw [hZ]; exact hWZ
        have dMZ : Dts K Z us ((mvF pl1 (c.moves.take j)).2.map mD) := by rw [hZ]; exact dMZ
        rw [← hZ]
        refine ⟨_, rfl, .inl ⟨rfl, _, SqL.of hMZ⟩, _, rfl, _, rfl, by show 2 ≤ sizeLine; decide, fun u3 hu3 => ?_⟩
        have sU := same_new (o := .tup [.int (m.1 : Nat), .int (m.2 : Nat)]) hu3
        have hMU := sU _ _ hMZ
        refine ⟨M, us, _, rfl, rfl, hMU, small1000 (by omega), ?_⟩
        rw [mvF_succ em]
        unfold mvS
        rw [if_pos cc]
        have dnew : Dts K (upd Z u3 (.tup [.int (m.1 : Nat), .int (m.2 : Nat)])) (us ++ [.ref u3]) (((mvF pl1 (c.moves.take j)).2 ++ [m]).map mD) := by
          rw [List.map_append]
          exact (dMZ.ks sU).snoc (dt_tup upd_same (.cons (.int _) (.cons (.int _) .nil)))
        refine ⟨⟨_, _, rfl⟩, same_mut (a1.trans sU) hMH, by rw [upd_ne nWM]; exact sU _ _ hWZ, ok_set okA m8, ⟨_, by rw [upd_ne nlM]; exact sU _ _ a3, (a4.ks sU).k (Kt.lst hMU)⟩, _, upd_same, dnew.k (Kt.lst hMU)⟩
      · rw [mvF_succ em]
        unfold mvS
        rw [if_neg cc]
        exact ⟨⟨_, _, rfl⟩, sA.trans sC1, sC1 _ _ hWA, okA, ⟨_, sC1 _ _ hlA, dA.ks sC1⟩, _, sC1 _ _ hMA, dM.ks sC1⟩
    obtain ⟨⟨v7, v10, rfl⟩, sA, hWA, okA, ⟨zs, hlA, dA⟩, us, hMA, dM⟩ := hP
    have hl0 := mvF_len c.moves (pl1, [])
    rw [lm, List.take_length] at okA dA dM
    have hl1 : (mvF pl1 c.moves).1.length = pl1.length := hl0.1
    have hl2 : (mvF pl1 c.moves).2.length ≤ 0 + c.moves.length := hl0.2
    generalize (mvF pl1 c.moves).1 = pl2 at okA dA k hl1
    generalize (mvF pl1 c.moves).2 = mv2 at dM k hl2
    have hog := getD_at (xs := c.owed) (i := g - 1) (by rw [cok.o3]; omega)
    refine ⟨_, rfl, cp, T.CC, dxc, fsc, _, rfl, sA _ _ hcp, T.clCC, T.nOw, i4, _, rfl, _, _, rfl, rfl, q3, _, _, _, rfl, rfl, sameT sA h3, by rw [eg]; exact atI_nat (nV_at hog), ?_⟩
    refine ⟨_, rfl, _, rfl, by show 2 ≤ sizeLine; decide, fun u hu => ?_⟩
    have sU := same_new (o := .tup [.str "out", .str (numS c.ds)]) hu
    have hu2 : upd A u (.tup [.str "out", .str (numS c.ds)]) u = some (.tup [.str "out", .str (numS c.ds)]) := upd_same
    have hWU := sU _ _ hWA
    have hlU := sU _ _ hlA
    have hMU := sU _ _ hMA
    have dU := dA.ks sU
    have dMU := dM.ks sU
    have sHU := sA.trans sU
    generalize upd A u (.tup [.str "out", .str (numS c.ds)]) = A1 at hu2 hWU hlU hMU dU dMU sHU ⊢
    refine ⟨l, .ref u, false, zs, pl2, .out c.ds, rfl, SqL.of hlU, dU, dt_pl (p := .out c.ds) hu2, okA, oc, by rw [hl1, lq, lp]; exact l6, fun A2 g2 s2 _ hg2 => ?_⟩
    refine ⟨g2, _, rfl, .inl (SqL.of hg2), _, _, rfl, rfl, _, _, rfl, ?_⟩
    rw [nV_len]
    have esh : (if (((c.owed.getD (g - 1) 0 : Nat) : Int) - ((atL pl2 (.out c.ds)).length : Nat)) > 0 then (((c.owed.getD (g - 1) 0 : Nat) : Int) - ((atL pl2 (.out c.ds)).length : Nat)) else 0) = ((c.owed.getD (g - 1) 0 - (atL pl2 (.out c.ds)).length : Nat) : Int) := by
      split <;> omega
    rw [esh]
    generalize c.owed.getD (g - 1) 0 - (atL pl2 (.out c.ds)).length = sh at k
    have sA2 := sHU.trans s2
    refine ⟨_, rfl, _, rfl, W, _, rfl, .inl ⟨SqL.of (s2 _ _ hWU), fun u3 hu3 => ?_⟩⟩
    have s3 := same_new (o := .tup (nV wl)) hu3
    have h33 : upd A2 u3 (.tup (nV wl)) u3 = some (.tup (nV wl)) := upd_same
    generalize upd A2 u3 (.tup (nV wl)) = A3 at s3 h33 ⊢
    refine ⟨_, rfl, M, us, rfl, .inl ⟨SqL.of (s3 _ _ (s2 _ _ hMU)), fun u4 hu4 => ?_⟩⟩
    have s4 := same_new (o := .tup us) hu4
    have h44 : upd A3 u4 (.tup us) u4 = some (.tup us) := upd_same
    generalize upd A3 u4 (.tup us) = A4 at s4 h44 ⊢
    refine ⟨_, rfl, by show 4 ≤ sizeLine; decide, fun u5 hu5 => ?_⟩
    have s5 := same_new (o := .tup [.int (g : Nat), .ref u3, .ref u4, .int (sh : Nat)]) hu5
    have h55 : upd A4 u5 (.tup [.int (g : Nat), .ref u3, .ref u4, .int (sh : Nat)]) u5 = some (.tup [.int (g : Nat), .ref u3, .ref u4, .int (sh : Nat)]) := upd_same
    generalize upd A4 u5 (.tup [.int (g : Nat), .ref u3, .ref u4, .int (sh : Nat)]) = A5 at s5 h55 ⊢
    have s25 := (s3.trans s4).trans s5
    have dT : Dt K A5 (.ref u5) (tdD (.sent g wl mv2 sh)) := dt_tup h55 (.cons (.int _) (.cons (dt_iD ((s4.trans s5) _ _ h33)) (.cons (.tup (SqT.of (s5 _ _ h44)) ((dMU.ks s2).ks s25)) (.cons (.int _) .nil))))
    have sA5 := sA2.trans s25
    have hl5 := s25 _ _ (s2 _ _ hlU)
    have d5 := (dU.ks s2).ks s25
    refine ⟨_, rfl, p, dx, fs, rfl, sA5 _ _ hp, lo _ (by decide +kernel) (by decide +kernel) (by decide +kernel), _, rfl, _, rfl, _, rfl, _, rfl, p, r, i, c, .ref t, s, l, zs, pl2, g, rfl, hR.k sA5, ok, hc, dv0.ks sA5, so, hl5, d5, by rw [hl1, lq, lp]; exact l6, fun A6 w s6 dw => ?_⟩
    refine ⟨_, rfl, by show 2 ≤ sizeLine; decide, fun u7 hu7 => ?_⟩
    have s7 := same_new (o := .tup [w, .ref u5]) hu7
    exact k _ _ ((sA5.trans s6).trans s7) ⟨u7, w, .ref u5, rfl, upd_same, dw.ks s7, .inr ⟨fun e => (by cases e), (dT.ks s6).ks s7⟩⟩
end
end K59

namespace K59
open PySem L2 Wm TL Dv
section
variable {P : Program} {w : World} {K : PySem.W.Frag} {mg : Str → Option Value} {base : Heap}
theorem wd_back (w : Wd) : decide (V.str (wdS w) = V.str "back") = decide (w = .back) := by cases w <;> decide +kernel
theorem wd_call (w : Wd) : decide (V.str (wdS w) = V.str "call") = decide (w = .call) := by cases w <;> decide +kernel
theorem ok_rstep (T : Txt K mg) : FnOk P w K mg base CX0 4 T.a_rstep T.d_rstep ["self", "standing", "event"] (sp_rstep K T.CC T.RC) := by
  refine T.F_rstep.ok sc_rstep (fun vs H Q E h => ?_) (fun cdv A outer s H vs Q E hr h => ?_)
  · obtain ⟨p, r, i, c, v, s, w, e, rfl, _⟩ := h
    rfl
  · obtain ⟨p, r, i, c, v, s, w, e, rfl, hR, ok, hc, dv, so, de, hm, k⟩ := h
    obtain ⟨dx, fs, _, q, n, cvs, hp, l1, d1, l2, hq, hcs, l3, d3, lo⟩ := id hR
    obtain ⟨t, x, y, rfl, ht, d5, d6⟩ := dt_two de
    obtain rfl := d5.str_inv
    obtain rfl := d6.str_inv
    have g3 : s.gr.getD i 0 ≤ 3 := by
      have hi : i < s.gr.length := by rw [so.gr]; exact (List.getElem?_eq_some_iff.mp hc).1
      exact so.g3 _ (List.mem_of_getElem? (getD_at hi))
    refine ⟨_, (pss_cons (ps_asg (pv 2) (pg_tup rfl (pgs_cons (pg_name (i := 3) sc_rstep.nd rfl (Or.inl rfl)) (pgs_cons (pg_name (i := 4) sc_rstep.nd rfl (Or.inl rfl)) pgs_nil))))
      (pss_cons (ps_if (pt_cmpR op_eq (pv 3) (pe_glob (v := V.str "back") rfl T.c_BACK ⟨_, rfl⟩) (nomark _))
        (pss_one (ps_ret (pe_meth (pv 0) T.clRC T.m_close (ok_close T) (hr.mono (by decide)) T.b_close .nil pass0 (pa_cons (pv 1) (pa_cons (pv 4) pa_nil)))))
        pss_nil)
      (pss_cons (ps_set (i := 5) sc_rstep.nd rfl (Or.inl rfl) (pe_meth (pv 0) T.clRC T.m_grade_in (ok_grade_in T) (hr.mono (by decide)) T.b_grade_in .nil pass0 (pa_cons (pv 1) (pa_cons (pv 4) pa_nil))))
      (pss_cons (ps_if (PW.pt (pw_and (pt_cmpR op_eq (pv 3) (pe_glob (v := V.str "call") rfl T.c_CALL ⟨_, rfl⟩) (nomark _)) (pw_and1 (pt_cmpR op_gt (pv 5) pe_int (nomark _)))))
        (pss_one (ps_ret (pe_tup (pa_cons (pv 1) (pa_cons pe_non pa_nil)))))
        pss_nil)
      (pss_one (ps_ret (pe_meth (pv 0) T.clRC T.m_lift (ok_lift T) (hr.mono (by decide)) T.b_lift .nil pass0 (pa_cons (pv 1) (pa_cons (pv 4) (pa_cons (pe_op op_add (pv 5) pe_int) pa_nil)))))))))), ?_⟩
    refine ⟨_, rfl, t, _, rfl, ht, rfl, _, _, rfl, _, _, rfl, rfl, ?_⟩
    refine ⟨_, rfl, rfl, _, rfl, ?_⟩
    rw [wd_back]
    refine ite2 (fun c1 => ?_) (fun c1 => ?_)
    · have c1 : w = .back := of_decide_eq_true c1
      subst c1
      refine ⟨_, rfl, p, dx, fs, rfl, hp, lo _ (by decide +kernel) (by decide +kernel) (by decide +kernel), _, rfl, _, rfl, p, r, i, c, v, s, rfl, hR, ok, hc, dv, so, fun H' u s' hs => ?_⟩
      refine k H' u s' ?_
      have e1 : stepS r s .back i = ⟨(backP r.st c.ds s.pl).1, s.gr.set i 0⟩ := by unfold stepS; rw [hc]
      have e2 : stepT r s .back i = backT r.st c.ds s.pl := by unfold stepT; rw [hc]
      rw [e1, e2]
      exact hs
    have c1 : w ≠ .back := fun z => c1 (decide_eq_true z)
    refine ⟨_, rfl, p, dx, fs, rfl, hp, lo _ (by decide +kernel) (by decide +kernel) (by decide +kernel), _, rfl, _, rfl, p, r, i, c, v, s, rfl, hR, ok, hc, dv, so, fun H1 s1 => ?_⟩
    have hp1 := s1 _ _ hp
    have go : w = .more ∨ (w = .call ∧ ¬ 0 < s.gr.getD i 0) → s.gr.getD i 0 + 1 ≤ 3 ∧ ∀ H' u, Same H H' → StAt K H' u ⟨(liftP c s.pl (s.gr.getD i 0 + 1)).1, s.gr.set i (s.gr.getD i 0 + 1)⟩ (liftT c s.pl (s.gr.getD i 0 + 1)) → Q u H' := fun z => by
      rcases z with rfl | ⟨rfl, z⟩
      · refine ⟨hm rfl, fun H' u s' hs => k H' u s' ?_⟩
        have e1 : stepS r s .more i = ⟨(liftP c s.pl (s.gr.getD i 0 + 1)).1, s.gr.set i (s.gr.getD i 0 + 1)⟩ := by unfold stepS; rw [hc]
        have e2 : stepT r s .more i = liftT c s.pl (s.gr.getD i 0 + 1) := by unfold stepT; rw [hc]
        rw [e1, e2]
        exact hs
      · have z0 : s.gr.getD i 0 = 0 := by omega
        refine ⟨by omega, fun H' u s' hs => k H' u s' ?_⟩
        have e1 : stepS r s .call i = ⟨(liftP c s.pl 1).1, s.gr.set i 1⟩ := by unfold stepS; rw [hc]; exact if_neg z
        have e2 : stepT r s .call i = liftT c s.pl 1 := by unfold stepT; rw [hc]; exact if_neg z
        rw [e1, e2]
        rw [z0] at hs
        exact hs
    refine ⟨_, rfl, rfl, _, rfl, ?_⟩
    rw [wd_call]
    refine ite2 (fun c2 => ?_) (fun c2 => ?_)
    · have c2 : w = .call := of_decide_eq_true c2
      subst c2
      refine ⟨_, rfl, _, _, rfl, rfl, _, rfl, ite2 (fun c3 => ?_) (fun c3 => ?_)⟩
      · have c3 : 0 < s.gr.getD i 0 := by have := of_decide_eq_true c3; omega
        refine ⟨_, rfl, by show 2 ≤ sizeLine; decide, fun u hu => ?_⟩
        have s2 := same_new (o := .tup [v, .non]) hu
        have e1 : stepS r s .call i = s := by unfold stepS; rw [hc]; exact if_pos c3
        have e2 : stepT r s .call i = .non := by unfold stepT; rw [hc]; exact if_pos c3
        rw [e1, e2] at k
        exact k _ _ (s1.trans s2) ⟨u, v, .non, rfl, upd_same, (dv.ks s1).ks s2, .inl ⟨rfl, rfl⟩⟩
      · have c3 : ¬ 0 < s.gr.getD i 0 := fun z => c3 (decide_eq_true (by omega))
        have G := go (.inr ⟨rfl, c3⟩)
        refine ⟨_, rfl, p, dx, fs, rfl, hp1, lo _ (by decide +kernel) (by decide +kernel) (by decide +kernel), _, rfl, _, rfl, _, rfl, _, _, rfl, rfl, p, r, i, c, v, s, s.gr.getD i 0 + 1, (by show [V.ref p, v, V.str (numS c.ds), V.int (((s.gr.getD i 0 : Nat) : Int) + 1)] = _; rw [Int.natCast_add]; rfl), hR.k s1, ok, hc, dv.ks s1, so, by omega, G.1, fun H' u s' hs => G.2 H' u (s1.trans s') hs⟩
    · have c2 : w = .more := by cases w <;> first | rfl | exact absurd rfl c1 | exact absurd (decide_eq_true rfl) c2
      have G := go (.inl c2)
      refine iteF ?_
      refine ⟨_, rfl, p, dx, fs, rfl, hp1, lo _ (by decide +kernel) (by decide +kernel) (by decide +kernel), _, rfl, _, rfl, _, rfl, _, _, rfl, rfl, p, r, i, c, v, s, s.gr.getD i 0 + 1, (by show [V.ref p, v, V.str (numS c.ds), V.int (((s.gr.getD i 0 : Nat) : Int) + 1)] = _; rw [Int.natCast_add]; rfl), hR.k s1, ok, hc, dv.ks s1, so, by omega, G.1, fun H' u s' hs => G.2 H' u (s1.trans s') hs⟩
end
end K59

namespace K59
open PySem L2 Wm TL Dv
section
variable {P : Program} {w : World} {K : PySem.W.Frag} {mg : Str → Option Value} {base : Heap}
/-! ### the mathematics of all orders -/
def ixOf (r : Rm) (ds : List Nat) : Option Nat := (List.range r.cs.length).find? fun i => decide ((r.cs[i]?).map (·.ds) = some ds)
def stepE (r : Rm) (s : Sd) (e : Ev) : Sd := match ixOf r e.2 with
  | some i => stepS r s e.1 i
  | none => s
def tellE (r : Rm) (s : Sd) (e : Ev) : Td := match ixOf r e.2 with
  | some i => stepT r s e.1 i
  | none => .non
def shN : Td → Nat
  | .sent _ _ _ n => n
  | _ => 0
def shortE (r : Rm) (s : Sd) (e : Ev) : Bool := decide (0 < shN (tellE r s e))
theorem ds_inj {r : Rm} (ok : RmOk r) {i j : Nat} {c d : Cd} (hi : r.cs[i]? = some c) (hj : r.cs[j]? = some d) (e : c.ds = d.ds) : i = j := by
  have h1 : (r.cs.map fun c => c.ds)[i]? = some c.ds := by rw [List.getElem?_map, hi]; rfl
  have h2 : (r.cs.map fun c => c.ds)[j]? = some c.ds := by rw [List.getElem?_map, hj, e]; rfl
  have li := (List.getElem?_eq_some_iff.mp h1).1
  exact (List.getElem?_inj li ok.nd).mp (h1.trans h2.symm)
theorem ixOf_eq {r : Rm} (ok : RmOk r) {i : Nat} {c : Cd} (hi : r.cs[i]? = some c) : ixOf r c.ds = some i := by
  have li := (List.getElem?_eq_some_iff.mp hi).1
  unfold ixOf
  cases h : (List.range r.cs.length).find? fun i => decide ((r.cs[i]?).map (·.ds) = some c.ds) with
  | none =>
    have := List.find?_eq_none.mp h i (List.mem_range.mpr li)
    exact absurd (decide_eq_true (by rw [hi]; rfl)) this
  | some j =>
    have h1 := List.find?_some h
    have h1 := of_decide_eq_true h1
    have hj := List.mem_range.mp (List.mem_of_find?_eq_some h)
    have ej := List.getElem?_eq_getElem hj
    rw [ej] at h1
    have h1 : r.cs[j].ds = c.ds := Option.some.inj h1
    rw [ds_inj ok ej hi h1]
/-- what an allowed event is -/
structure AlE (r : Rm) (s : Sd) (m : Nat) (e : Ev) (i : Nat) (c : Cd) : Prop where
  hc : r.cs[i]? = some c
  ds : e.2 = c.ds
  ix : ixOf r e.2 = some i
  cl : e.1 = .call → s.gr.getD i 0 = 0 ∧ openN s.gr < m
  mo : e.1 = .more → 0 < s.gr.getD i 0 ∧ s.gr.getD i 0 < 3
  bk : e.1 = .back → 0 < s.gr.getD i 0
theorem al_mem {r : Rm} {s : Sd} {m : Nat} {e : Ev} (ok : RmOk r) (so : SdOk r s) (h : e ∈ alF r s.gr m) : ∃ i c, AlE r s m e i c := by
  unfold alF at h
  obtain ⟨x, hx, he⟩ := List.mem_flatMap.mp h
  obtain ⟨i, hi⟩ := List.mem_iff_getElem?.mp hx
  rw [List.getElem?_zip_eq_some] at hi
  obtain ⟨h1, h2⟩ := hi
  rw [List.getElem?_map] at h1
  obtain ⟨c, hc, e1⟩ := Option.map_eq_some_iff.mp h1
  have g : s.gr.getD i 0 = x.2 := by rw [List.getD_eq_getElem?_getD, h2]; rfl
  unfold alI at he
  rcases List.mem_append.mp he with he | he
  · split at he
    · rename_i q
      rw [List.mem_singleton.mp he]
      exact ⟨i, c, hc, e1.symm, by rw [← e1]; exact ixOf_eq ok hc, fun _ => ⟨g.trans q.1, q.2⟩, (fun z => by cases z), (fun z => by cases z)⟩
    · cases he
  · rcases List.mem_append.mp he with he | he
    · split at he
      · rename_i q
        rw [List.mem_singleton.mp he]
        exact ⟨i, c, hc, e1.symm, by rw [← e1]; exact ixOf_eq ok hc, (fun z => by cases z), fun _ => by rw [g]; exact q, (fun z => by cases z)⟩
      · cases he
    · split at he
      · rename_i q
        rw [List.mem_singleton.mp he]
        exact ⟨i, c, hc, e1.symm, by rw [← e1]; exact ixOf_eq ok hc, (fun z => by cases z), (fun z => by cases z), fun _ => by rw [g]; exact q⟩
      · cases he
theorem AlE.step {r : Rm} {s : Sd} {m : Nat} {e : Ev} {i : Nat} {c : Cd} (a : AlE r s m e i c) : stepE r s e = stepS r s e.1 i ∧ tellE r s e = stepT r s e.1 i := by
  unfold stepE tellE
  rw [a.ix]
  exact ⟨rfl, rfl⟩
theorem AlE.less {r : Rm} {s : Sd} {m : Nat} {e : Ev} {i : Nat} {c : Cd} (a : AlE r s m e i c) : e.1 = .more → s.gr.getD i 0 < 3 := fun z => (a.mo z).2
/-- never empty -/
theorem al_ne {r : Rm} {s : Sd} {m : Nat} (so : SdOk r s) (h : r.cs ≠ []) (m1 : 1 ≤ m) : alF r s.gr m ≠ [] := by
  intro e
  unfold alF at e
  have hl : ((r.cs.map fun c => c.ds).zip s.gr).length = r.cs.length := by rw [List.length_zip, List.length_map, so.gr]; omega
  have all : ∀ x ∈ (r.cs.map fun c => c.ds).zip s.gr, alI s.gr m x = [] := fun x hx => by
    have := List.flatMap_eq_nil_iff.mp e x hx
    exact this
  have z0 : ∀ x ∈ (r.cs.map fun c => c.ds).zip s.gr, x.2 = 0 := fun x hx => by
    have q := all x hx
    unfold alI at q
    have q := (List.append_eq_nil_iff.mp q).2
    have q := (List.append_eq_nil_iff.mp q).2
    split at q
    · cases q
    · omega
  have gz : ∀ g ∈ s.gr, g = 0 := fun g hg => by
    obtain ⟨i, hi⟩ := List.mem_iff_getElem?.mp hg
    have li := (List.getElem?_eq_some_iff.mp hi).1
    have hi2 : (r.cs.map fun c => c.ds)[i]? = some ((r.cs.map fun c => c.ds)[i]'(by rw [List.length_map, ← so.gr]; exact li)) := List.getElem?_eq_getElem _
    exact z0 (_, g) (List.mem_of_getElem? (List.getElem?_zip_eq_some.mpr ⟨hi2, hi⟩))
  have o0 : openN s.gr = 0 := by
    unfold openN
    rw [List.length_eq_zero_iff, List.filter_eq_nil_iff]
    intro g hg
    rw [gz g hg]
    decide
  have pos : 0 < r.cs.length := List.length_pos_iff.mpr h
  cases hz : (r.cs.map fun c => c.ds).zip s.gr with
  | nil => rw [hz] at hl; simp at hl; omega
  | cons x xs =>
    have q := all x (by rw [hz]; exact List.mem_cons_self)
    have x0 := z0 x (by rw [hz]; exact List.mem_cons_self)
    unfold alI at q
    rw [if_pos ⟨x0, by omega⟩] at q
    cases q
/-- a row of allowed events in which nothing is short leads there -/
def okRow (r : Rm) (m : Nat) : Sd → List Ev → Option Sd
  | s, [] => some s
  | s, e :: es => if e ∈ alF r s.gr m ∧ shortE r s e = false then okRow r m (stepE r s e) es else none
theorem okRow_app {r : Rm} {m : Nat} : ∀ {es fs : List Ev} {s t : Sd}, okRow r m s es = some t → okRow r m s (es ++ fs) = okRow r m t fs
  | [], _, _, _, h => by cases h; rfl
  | e :: es, fs, s, t, h => by
    unfold okRow at h
    rw [List.cons_append]
    show (if e ∈ alF r s.gr m ∧ shortE r s e = false then okRow r m (stepE r s e) (es ++ fs) else none) = _
    split at h
    · rename_i c
      rw [if_pos c]
      exact okRow_app h
    · cases h
/-! #### the first fault of a row -/
def earD (i : Nat) : PyData := .tuple [.str "early", .int (i : Nat)]
def evtD (i : Nat) : PyData := .tuple [.str "event", .int (i : Nat)]
def nsD : PyData := .tuple [.str "not short"]
def findE (r : Rm) (s : Sd) (m : Nat) (d : PyData) : Option Ev := (alF r s.gr m).find? fun e => PyData.eqv (evD e) d
def fauD (r : Rm) (m : Nat) : Nat → Sd → Bool → List PyData → PyData
  | _, _, sh, [] => if sh = true then .none else nsD
  | i, s, _, d :: ds => match findE r s m d with
    | none => evtD i
    | some e => if shortE r s e = true ∧ ds ≠ [] then earD i else fauD r m (i + 1) (stepE r s e) (shortE r s e) ds
theorem eqv_sl {x : Str} {d : PyData} (h : PyData.eqv (.str x) d = true) : d = .str x := by
  cases d <;> simp [PyData.eqv] at h
  rw [h]
theorem eqv_evD {e : Ev} {d : PyData} (h : PyData.eqv (evD e) d = true) : d = evD e := by
  unfold evD at h ⊢
  cases d with
  | tuple ds =>
    cases ds with
    | nil => exact absurd (show false = true from h) (by decide)
    | cons a ds =>
      cases ds with
      | nil =>
        have h : (PyData.eqv (.str (wdS e.1)) a && false) = true := h
        rw [Bool.and_false] at h
        cases h
      | cons b ds =>
        cases ds with
        | nil =>
          have h : (PyData.eqv (.str (wdS e.1)) a && (PyData.eqv (.str (numS e.2)) b && true)) = true := h
          rw [Bool.and_true, Bool.and_eq_true] at h
          rw [eqv_sl h.1, eqv_sl h.2]
        | cons _ _ =>
          have h : (PyData.eqv (.str (wdS e.1)) a && (PyData.eqv (.str (numS e.2)) b && false)) = true := h
          rw [Bool.and_false, Bool.and_false] at h
          cases h
  | _ => exact absurd (show false = true from h) (by decide)
theorem find_sp {r : Rm} {s : Sd} {m : Nat} {d : PyData} {e : Ev} (h : findE r s m d = some e) : e ∈ alF r s.gr m ∧ d = evD e := by
  have q := List.find?_some h
  exact ⟨List.mem_of_find?_eq_some h, eqv_evD q⟩
theorem find_any {r : Rm} {s : Sd} {m : Nat} {d : PyData} : (((alF r s.gr m).map evD).any fun z => PyData.eqv z d) = (findE r s m d).isSome := by
  unfold findE
  rw [List.any_map]
  induction alF r s.gr m with
  | nil => rfl
  | cons x xs ih =>
    rw [List.any_cons, List.find?_cons, ih]
    show (PyData.eqv (evD x) d || _) = _
    cases PyData.eqv (evD x) d <;> rfl
theorem wdS_inj {a b : Wd} (h : wdS a = wdS b) : a = b := by
  cases a <;> cases b <;> first | rfl | (exfalso; revert h; decide +kernel)
theorem evD_inj {e f : Ev} (h : evD e = evD f) : e = f := by
  unfold evD at h
  simp only [PyData.tuple.injEq, List.cons.injEq, PyData.str.injEq, and_true] at h
  exact Prod.ext (wdS_inj h.1) (numS_inj h.2)
theorem find_al {r : Rm} {s : Sd} {m : Nat} {e : Ev} (h : e ∈ alF r s.gr m) : findE r s m (evD e) = some e := by
  have a : PyData.eqv (evD e) (evD e) = true := by unfold evD; simp [PyData.eqv, PyData.eqvAll]
  cases q : findE r s m (evD e) with
  | none =>
    have := List.find?_eq_none.mp q e h
    exact absurd a this
  | some f => rw [evD_inj (find_sp q).2]
/-- a row that leads somewhere, and what comes behind it -/
theorem fau_row {r : Rm} {m : Nat} : ∀ {es : List Ev} {s t : Sd} {i : Nat} {b : Bool} {ds : List PyData}, okRow r m s es = some t → fauD r m i s b (es.map evD ++ ds) = fauD r m (i + es.length) t (if es = [] then b else false) ds
  | [], _, _, _, _, _, h => by cases h; rfl
  | e :: es, s, t, i, b, ds, h => by
    unfold okRow at h
    split at h
    · rename_i c
      rw [List.map_cons, List.cons_append]
      show (match findE r s m (evD e) with | none => evtD i | some e => if shortE r s e = true ∧ (es.map evD ++ ds) ≠ [] then earD i else fauD r m (i + 1) (stepE r s e) (shortE r s e) (es.map evD ++ ds)) = _
      rw [find_al c.1]
      show (if shortE r s e = true ∧ (es.map evD ++ ds) ≠ [] then earD i else fauD r m (i + 1) (stepE r s e) (shortE r s e) (es.map evD ++ ds)) = _
      rw [c.2, if_neg (fun z => by cases z.1), fau_row h, List.length_cons, if_neg (List.cons_ne_nil _ _), ite_self]
      congr 1
      omega
    · cases h
theorem fau_take {r : Rm} {m : Nat} {es : List Ev} {s t : Sd} (h : okRow r m s es = some t) : fauD r m 0 s false (es.map evD) = nsD := by
  have := fau_row (i := 0) (b := false) (ds := []) h
  rw [List.append_nil] at this
  rw [this]
  show (if (if es = [] then false else false) = true then PyData.none else nsD) = nsD
  split <;> simp
theorem fau_told {r : Rm} {m : Nat} {es : List Ev} {s t : Sd} {e : Ev} (h : okRow r m s es = some t) (a : e ∈ alF r t.gr m) (sh : shortE r t e = true) : fauD r m 0 s false ((es ++ [e]).map evD) = .none := by
  rw [List.map_append, fau_row h]
  show (match findE r t m (evD e) with | none => evtD _ | some e => if shortE r t e = true ∧ ([] : List PyData) ≠ [] then earD _ else fauD r m _ (stepE r t e) (shortE r t e) []) = _
  rw [find_al a]
  show (if shortE r t e = true ∧ ([] : List PyData) ≠ [] then earD _ else fauD r m _ (stepE r t e) (shortE r t e) []) = _
  rw [if_neg (fun z => z.2 rfl), sh]
  rfl
theorem okRow_take {r : Rm} {m : Nat} : ∀ {es : List Ev} {s t : Sd} (k : Nat), okRow r m s es = some t → ∃ u, okRow r m s (es.take k) = some u
  | [], s, _, k, _ => ⟨s, by rw [List.take_nil]; rfl⟩
  | e :: es, s, t, 0, _ => ⟨s, rfl⟩
  | e :: es, s, t, k + 1, h => by
    unfold okRow at h
    split at h
    · rename_i c
      obtain ⟨u, hu⟩ := okRow_take k h
      refine ⟨u, ?_⟩
      show (if e ∈ alF r s.gr m ∧ shortE r s e = false then okRow r m (stepE r s e) (es.take k) else none) = _
      rw [if_pos c]
      exact hu
    · cases h
end
end K59

namespace K59
open PySem L2 Wm TL Dv
section
variable {P : Program} {w : World} {K : PySem.W.Frag} {mg : Str → Option Value} {base : Heap}
/-! ### how many standings there are -/
def vecs (b : Nat) : Nat → List (List Nat)
  | 0 => [[]]
  | n + 1 => (List.range b).flatMap fun x => (vecs b n).map (x :: ·)
theorem mem_vecs {b : Nat} : ∀ {l : List Nat}, (∀ x ∈ l, x < b) → l ∈ vecs b l.length
  | [], _ => List.mem_singleton.mpr rfl
  | x :: l, h => List.mem_flatMap.mpr ⟨x, List.mem_range.mpr (h x List.mem_cons_self), List.mem_map.mpr ⟨l, mem_vecs fun y m => h y (List.mem_cons_of_mem _ m), rfl⟩⟩
def prodL {α : Type} : List (List α) → List (List α)
  | [] => [[]]
  | os :: rest => os.flatMap fun x => (prodL rest).map (x :: ·)
def mulL : List Nat → Nat
  | [] => 1
  | n :: ns => n * mulL ns
theorem len_flat {α β : Type} (f : α → List β) (n : Nat) : ∀ l : List α, (∀ x ∈ l, (f x).length = n) → (l.flatMap f).length = l.length * n
  | [], _ => by simp
  | x :: l, h => by
    rw [List.flatMap_cons, List.length_append, h x List.mem_cons_self, len_flat f n l fun y m => h y (List.mem_cons_of_mem _ m), List.length_cons, Nat.add_mul, Nat.one_mul, Nat.add_comm]
theorem prodL_len {α : Type} : ∀ os : List (List α), (prodL os).length = mulL (os.map (·.length))
  | [] => rfl
  | o :: os => by
    show (o.flatMap fun x => (prodL os).map (x :: ·)).length = o.length * mulL (os.map (·.length))
    rw [len_flat _ (prodL os).length o fun x _ => List.length_map _, prodL_len os]
theorem mem_prodL {α : Type} : ∀ {os : List (List α)} {l : List α}, All2 (fun x o => x ∈ o) l os → l ∈ prodL os
  | [], _, .nil => List.mem_singleton.mpr rfl
  | _ :: _, _, .cons h t => List.mem_flatMap.mpr ⟨_, h, List.mem_map.mpr ⟨_, mem_prodL t, rfl⟩⟩
def opts (r : Rm) (gr : List Nat) (i : Nat) : List Pl := .ins (r.st.getD i 0) :: ((((r.cs.flatMap fun c => c.moves).filter fun x => decide (x.1 = i)).map fun x => Pl.ins x.2) ++ (((r.cs.map fun c => c.ds).zip gr).filter fun x => decide (0 < x.2)).map fun x => Pl.out x.1)
/-- how often a crew is named by moves -/
def mvN (r : Rm) (i : Nat) : Nat := ((r.cs.flatMap fun c => c.moves).filter fun x => decide (x.1 = i)).length
theorem zip_open : ∀ (ds : List (List Nat)) (gr : List Nat), ds.length = gr.length → ((ds.zip gr).filter fun x => decide (0 < x.2)).length = openN gr
  | [], [], _ => rfl
  | [], _ :: _, h => by cases h
  | _ :: _, [], h => by cases h
  | d :: ds, g :: gr, h => by
    have ih := zip_open ds gr (by simpa using h)
    unfold openN at ih ⊢
    rw [List.zip_cons_cons, List.filter_cons, List.filter_cons]
    by_cases c : 0 < g
    · rw [if_pos (decide_eq_true c), if_pos (decide_eq_true c), List.length_cons, List.length_cons, ih]
    · rw [if_neg (by simpa using c), if_neg (by simpa using c), ih]
theorem opts_len {r : Rm} {gr : List Nat} (h : gr.length = r.cs.length) (i : Nat) : (opts r gr i).length = mvN r i + openN gr + 1 := by
  unfold opts mvN
  rw [List.length_cons, List.length_append, List.length_map, List.length_map, zip_open _ _ (by rw [List.length_map, h])]
theorem cnt_sum {l : List (Nat × Nat)} : ∀ n, ((List.range n).map fun i => (l.filter fun x => decide (x.1 = i)).length).sum ≤ l.length := fun n => by
  have h : ∀ n, ((List.range n).map fun i => (l.filter fun x => decide (x.1 = i)).length).sum = (l.filter fun x => decide (x.1 < n)).length := fun n => by
    induction n with
    | zero =>
      symm
      rw [List.range_zero, List.map_nil, List.sum_nil, List.length_eq_zero_iff, List.filter_eq_nil_iff]
      intro a _
      simp
    | succ n ih =>
      rw [List.range_succ, List.map_append, List.sum_append, ih]
      show _ + ((l.filter fun x => decide (x.1 = n)).length + 0) = _
      rw [Nat.add_zero]
      clear ih
      induction l with
      | nil => rfl
      | cons x l ih =>
        simp only [List.filter_cons, decide_eq_true_eq]
        by_cases a : x.1 < n
        · rw [if_pos a, if_neg (by omega), if_pos (by omega), List.length_cons, List.length_cons]; omega
        · by_cases b : x.1 = n
          · rw [if_neg a, if_pos b, if_pos (by omega), List.length_cons, List.length_cons]; omega
          · rw [if_neg a, if_neg b, if_neg (by omega)]; omega
  rw [h n]
  exact List.length_filter_le _ _
def bnd (n k : Nat) : Nat := if n ≤ 3 then (if k = 0 then 4 else if k = 1 then 18 else 48) else (if k = 0 then 4 else if k = 1 then 36 else 144)
theorem bnd_ok : ∀ n ∈ List.range 5, ∀ ms ∈ vecs 3 n, ms.sum ≤ 2 → ∀ k ∈ List.range 3, mulL (ms.map fun m => m + k + 1) ≤ bnd n k := by decide +kernel
theorem tot_ok : (∀ n ∈ List.range 3, (((vecs 4 n).filter fun g => decide (openN g ≤ 2)).map fun g => bnd 4 (openN g)).sum ≤ 3000) ∧ (∀ n ∈ List.range 4, (((vecs 4 n).filter fun g => decide (openN g ≤ 2)).map fun g => bnd 3 (openN g)).sum ≤ 3000) := by decide +kernel
/-- the rooms that are drawn -/
structure Small (r : Rm) : Prop where
  sz : (r.cs.length ≤ 2 ∧ r.st.length ≤ 4) ∨ (r.cs.length ≤ 3 ∧ r.st.length ≤ 3)
  mv : (r.cs.flatMap fun c => c.moves).length ≤ 2
  ne : r.cs ≠ []
/-- each crew is home, moved, or out to an open number -/
structure InR (r : Rm) (m : Nat) (s : Sd) : Prop where
  ok : SdOk r s
  op : openN s.gr ≤ m
  pl : ∀ i p, s.pl[i]? = some p → p ∈ opts r s.gr i
def univ (r : Rm) : List (List Pl × List Nat) := ((vecs 4 r.cs.length).filter fun g => decide (openN g ≤ 2)).flatMap fun g => (prodL ((List.range r.st.length).map (opts r g))).map fun p => (p, g)
theorem vecs_len {b : Nat} : ∀ {n : Nat} {l : List Nat}, l ∈ vecs b n → l.length = n
  | 0, l, h => by rw [List.mem_singleton.mp h]; rfl
  | n + 1, l, h => by
    obtain ⟨x, _, h⟩ := List.mem_flatMap.mp h
    obtain ⟨y, hy, rfl⟩ := List.mem_map.mp h
    rw [List.length_cons, vecs_len hy]
theorem len_flat_le {α β : Type} (f : α → List β) (g : α → Nat) : ∀ l : List α, (∀ x ∈ l, (f x).length ≤ g x) → (l.flatMap f).length ≤ (l.map g).sum
  | [], _ => Nat.le_refl _
  | x :: l, h => by
    rw [List.flatMap_cons, List.length_append, List.map_cons, List.sum_cons]
    exact Nat.add_le_add (h x List.mem_cons_self) (len_flat_le f g l fun y m => h y (List.mem_cons_of_mem _ m))
theorem univ_len {r : Rm} (sm : Small r) : (univ r).length ≤ 3000 := by
  have key : ∀ n0, r.st.length ≤ n0 → n0 ≤ 4 → (n0 = 3 ∨ n0 = 4) → (univ r).length ≤ (((vecs 4 r.cs.length).filter fun g => decide (openN g ≤ 2)).map fun g => bnd n0 (openN g)).sum := fun n0 h0 h4 h34 => by
    refine len_flat_le _ _ _ fun g hg => ?_
    obtain ⟨hg, ho⟩ := List.mem_filter.mp hg
    have ho := of_decide_eq_true ho
    rw [List.length_map, prodL_len, List.map_map]
    have e : ((List.range r.st.length).map ((fun x => x.length) ∘ opts r g)) = ((List.range r.st.length).map (mvN r)).map fun m => m + openN g + 1 := by
      rw [List.map_map]
      exact List.map_congr_left fun i _ => opts_len (vecs_len hg) i
    rw [e]
    have hs : ((List.range r.st.length).map (mvN r)).sum ≤ 2 := Nat.le_trans (cnt_sum _) sm.mv
    have hl : ∀ x ∈ (List.range r.st.length).map (mvN r), x < 3 := fun x hx => by
      have : x ≤ ((List.range r.st.length).map (mvN r)).sum := by
        generalize (List.range r.st.length).map (mvN r) = l at hx
        induction l with
        | nil => cases hx
        | cons y l ih =>
          rw [List.sum_cons]
          rcases List.mem_cons.mp hx with rfl | hx
          · omega
          · have := ih hx
            omega
      omega
    have := mem_vecs hl
    rw [List.length_map, List.length_range] at this
    have b1 := bnd_ok r.st.length (List.mem_range.mpr (by omega)) _ this hs (openN g) (List.mem_range.mpr (by omega))
    refine Nat.le_trans b1 ?_
    unfold bnd
    rcases h34 with rfl | rfl
    · rw [if_pos h0, if_pos (Nat.le_refl 3)]; exact Nat.le_refl _
    · rw [if_neg (by decide : ¬ (4 : Nat) ≤ 3)]
      split <;> split <;> (try split) <;> omega
  rcases sm.sz with ⟨a, b⟩ | ⟨a, b⟩
  · exact Nat.le_trans (key 4 b (by decide) (.inr rfl)) (tot_ok.1 _ (List.mem_range.mpr (by omega)))
  · exact Nat.le_trans (key 3 b (by decide) (.inl rfl)) (tot_ok.2 _ (List.mem_range.mpr (by omega)))
theorem all2_of {α β : Type} {R : α → β → Prop} : ∀ {as : List α} {bs : List β}, as.length = bs.length → (∀ (i : Nat) (a : α) (b : β), as[i]? = some a → bs[i]? = some b → R a b) → All2 R as bs
  | [], [], _, _ => .nil
  | [], _ :: _, h, _ => by cases h
  | _ :: _, [], h, _ => by cases h
  | a :: as, b :: bs, h, f => .cons (f 0 a b rfl rfl) (all2_of (by simpa using h) fun i x y hx hy => f (i + 1) x y (by simpa using hx) (by simpa using hy))
theorem in_univ {r : Rm} {m : Nat} (m2 : m ≤ 2) {s : Sd} (h : InR r m s) : (s.pl, s.gr) ∈ univ r := by
  have hv := mem_vecs (b := 4) fun x hx => by have := h.ok.g3 x hx; omega
  rw [h.ok.gr] at hv
  have ho := h.op
  refine List.mem_flatMap.mpr ⟨s.gr, List.mem_filter.mpr ⟨hv, decide_eq_true (by omega)⟩, List.mem_map.mpr ⟨s.pl, mem_prodL (all2_of (by rw [List.length_map, List.length_range, h.ok.pl]) fun i p o hp hb => ?_), rfl⟩⟩
  rw [List.getElem?_map] at hb
  obtain ⟨j, hj, rfl⟩ := Option.map_eq_some_iff.mp hb
  have e : j = i := by
    have := (List.getElem?_eq_some_iff.mp hj).2
    rw [List.getElem_range] at this
    exact this.symm
  subst e
  exact h.pl _ p hp
theorem nodupLe {α : Type} [DecidableEq α] : ∀ {l m : List α}, l.Nodup → (∀ k ∈ l, k ∈ m) → l.length ≤ m.length
  | [], m, _, _ => Nat.zero_le _
  | x :: l, m, nd, h => by
    rw [List.nodup_cons] at nd
    have mx := h x List.mem_cons_self
    have ih := nodupLe (m := m.erase x) nd.2 fun k hk => (List.mem_erase_of_ne (fun e => nd.1 (by rw [← e]; exact hk))).mpr (h k (List.mem_cons_of_mem _ hk))
    rw [List.length_erase_of_mem mx] at ih
    have := List.length_pos_of_mem mx
    rw [List.length_cons]
    omega
theorem met_few {r : Rm} {m : Nat} (m2 : m ≤ 2) (sm : Small r) {met : List Sd} (nd : met.Nodup) (h : ∀ s ∈ met, InR r m s) : met.length ≤ 3000 := by
  have := nodupLe (l := met.map fun s => (s.pl, s.gr)) (m := univ r) (nd.map _ fun a b n e => n (by cases a; cases b; simp only [Prod.mk.injEq] at e; rw [e.1, e.2])) fun k hk => by
    obtain ⟨s, hs, rfl⟩ := List.mem_map.mp hk
    exact in_univ m2 (h s hs)
  rw [List.length_map] at this
  exact Nat.le_trans this (univ_len sm)
end
end K59

namespace K59
open PySem L2 Wm TL Dv
section
variable {P : Program} {w : World} {K : PySem.W.Frag} {mg : Str → Option Value} {base : Heap}
def sp_bag (K : PySem.W.Frag) : Sp := fun vs H Q _ => ∃ (a : Addr) (ns : List Int) (i : Nat), vs = [.ref a, .int (i : Nat)] ∧ SqL K H a (ns.map V.int) ∧ ns.length ≤ 63 ∧ i ≤ 63 ∧ ∀ H' b, Same H H' → H b = none → Bk H' b → Q (.ref b) H'
def sp_take (K : PySem.W.Frag) : Sp := fun vs H Q _ => ∃ (b : Addr) (m : Nat), vs = [.ref b, .int (m : Nat)] ∧ Bk H b ∧ 0 < m ∧ m < 1000000 ∧ ∀ H' (d : Nat), d < m → Bu b H H' → Bk H' b → Q (.int (d : Nat)) H'
def sp_of (K : PySem.W.Frag) : Sp := fun vs H Q _ => ∃ (b l : Addr) (xs : List V), vs = [.ref b, .ref l] ∧ Bk H b ∧ l ≠ b ∧ H l = some (.lst xs) ∧ xs ≠ [] ∧ xs.length < 1000 ∧ ∀ H' v, v ∈ xs → Bu b H H' → Bk H' b → Q v H'
def sp_number (K : PySem.W.Frag) : Sp := fun vs H Q _ => ∃ (b : Addr), vs = [.ref b] ∧ Bk H b ∧ ∀ H' (ds : List Nat), Num ds → Bu b H H' → Bk H' b → Q (.str (numS ds)) H'
def sp_numbers (K : PySem.W.Frag) : Sp := fun vs H Q _ => ∃ (b : Addr) (m : Nat), vs = [.ref b, .int (m : Nat)] ∧ Bk H b ∧ m ≤ 6 ∧ ∀ H' l (dss : List (List Nat)), (∀ ds ∈ dss, Num ds) → dss.Nodup → dss.length ≤ m → (0 < m → dss ≠ []) → H l = none → H' l = some (.lst ((dss.map numS).map V.str)) → Bu b H H' → Bk H' b → Q (.ref l) H'
theorem Bk.bu {H H' : Hp} {b p : Addr} (h : Bk H b) (s : Bu p H H') (n : b ≠ p) : Bk H' b := let ⟨x, y, a, c⟩ := h; ⟨x, y, s _ _ n a, c⟩
theorem none_of {H H' : Hp} {b : Addr} (s : Same H H') (h : H' b = none) : H b = none := by
  cases e : H b with
  | none => rfl
  | some o => rw [s _ _ e] at h; cases h
theorem Bk.off {H : Hp} {b D : Addr} (h : Bk H b) (f : H D = none) : D ≠ b := let ⟨_, _, a, _⟩ := h; (ne_of_none a f).symm
theorem fmod_in {x l : Int} (h : 0 < l) : 0 ≤ x % l ∧ x % l < l := ⟨Int.emod_nonneg x (by omega), Int.emod_lt_of_pos x h⟩
theorem cut_some (ns : List Int) (hi : Option Int) : ∃ m, cutV (ns.map V.int) none hi = (ns.take m).map V.int := by
  refine ⟨HT.sIx (ns.map V.int).length (ns.map V.int).length hi - HT.sIx (ns.map V.int).length 0 none, ?_⟩
  unfold cutV
  rw [HT.sIx_none, List.drop_zero, List.map_take]
theorem ok_bag (T : Txt K mg) : FnOk P w K mg base CX0 1 T.a_bag T.d_bag ["_law_script", "_law_at"] (sp_bag K) := by
  refine T.F_bag.ok sc_bag (fun vs H Q E h => ?_) (fun cdv A outer s H vs Q E hr h => ?_)
  · obtain ⟨a, ns, i, rfl, _⟩ := h
    rfl
  · obtain ⟨a, ns, i, rfl, hS, hlen, hi, k⟩ := h
    refine ⟨_, (C8.pss_cut (ps_set (i := 2) sc_bag.nd rfl (Or.inl rfl) (pe_ifExp (pt_cmpR op_lt (pv 1) (pe_callB call_len_seq (by rfl) T.z_len PySem.boot_len (pa_cons (pv 0) pa_nil)) (nomark _)) (pe_ix ix_list (pv 0) (pv 1) (fun _ _ => rfl)) pe_int))
      (pss_cons (ps_set (i := 3) sc_bag.nd rfl (Or.inl rfl) (pe_op op_add (pe_op op_mul pe_int (pv 1)) pe_int))
      (pss_cons (ps_for PassesOwn.never rfl (pi_enum (by rfl) T.z_enumerate (pa_cons (pe_slice sl_list (pv 0) po_none (po_some pe_int)) pa_nil)) (pg_tup rfl (pgs_cons (pg_name (i := 4) sc_bag.nd rfl (Or.inl rfl)) (pgs_cons (pg_name (i := 5) sc_bag.nd rfl (Or.inl rfl)) pgs_nil)))
        (pss_one (ps_set (i := 3) sc_bag.nd rfl (Or.inl rfl) (pe_op op_mod (pe_callTy call_int1 (by rfl) T.z_int (by decide +kernel) (pa_cons (pe_op op_add (pe_op op_add (pe_op op_mul (pv 3) pe_int) (pe_op op_mod (pe_callTy call_int1 (by rfl) T.z_int (by decide +kernel) (pa_cons (pv 5) pa_nil)) pe_int)) (pe_op op_mul pe_int (pv 4))) pa_nil)) pe_int))))
      (pss_one (ps_ret (pe_lst (pa_cons (pe_ifExp (pt_cmpR op_ge (pe_callB call_abs (by rfl) T.z_abs (by decide +kernel) (pa_cons (pv 2) pa_nil)) (pe_op op_pow pe_int pe_int) (nomark _)) (pe_callB call_abs (by rfl) T.z_abs (by decide +kernel) (pa_cons (pv 2) pa_nil)) pe_int) (pa_cons (pv 3) pa_nil)))))))), ?_⟩
    refine ⟨fun σ A => ∃ z : Int, σ = [some (.ref a), some (.int (i : Nat)), some (.int z), none, none, none] ∧ A = H, ?_, ?_⟩
    · refine ⟨_, rfl, _, rfl, a, _, rfl, .inl hS, _, _, rfl, rfl, _, rfl, ite2 (fun c => ?_) (fun c => ?_)⟩
      · have c := of_decide_eq_true c
        rw [List.length_map] at c
        have hj : i < ns.length := by omega
        have g : (ns.map V.int)[i]? = some (.int ns[i]) := by rw [List.getElem?_map, List.getElem?_eq_getElem hj]; rfl
        exact ⟨_, rfl, _, rfl, a, _, _, _, rfl, rfl, hS, atI_nat g, _, rfl, rfl⟩
      · exact ⟨0, rfl, rfl⟩
    rintro σ A ⟨z, rfl, rfl⟩
    refine ⟨_, rfl, _, _, rfl, rfl, .inl ⟨by decide, by decide⟩, _, _, rfl, rfl, ?_⟩
    refine ⟨_, rfl, _, rfl, a, _, rfl, hS, fun p hp => ?_⟩
    obtain ⟨m, em⟩ := cut_some ns (some 63)
    rw [em]
    have hml : (ns.take m).length ≤ 63 := by rw [List.length_take]; omega
    generalize ns.take m = ms at hml
    have sp := same_new (o := .lst (ms.map V.int)) hp
    have hp1 : upd A p (.lst (ms.map V.int)) p = some (.lst (ms.map V.int)) := upd_same
    generalize upd A p (.lst (ms.map V.int)) = H1 at sp hp1 ⊢
    refine ⟨p, _, rfl, SqL.of hp1, ?_⟩
    have kB : ∀ B, Same H1 B → SqL K B p (ms.map V.int) := fun B q => SqL.of (q _ _ hp1)
    refine for_it walk_enum (fun j σ B => (∃ (x : Int) (v4 v5 : Option V), σ = [some (.ref a), some (.int (i : Nat)), some (.int z), some (.int x), v4, v5] ∧ 0 ≤ x ∧ x < 2147483648) ∧ Same H1 B)
      ⟨⟨_, none, none, rfl, by omega, by omega⟩, fun _ _ e => e⟩ (fun j σ B _ h => kB B h.2) (fun j w σ B B' hj hP hY => ?_) (fun σ B hP => ?_)
    · obtain ⟨⟨x, v4, v5, rfl, x0, x1⟩, sB⟩ := hP
      obtain ⟨tp, y1, y2, rfl, htp, rfl, e1, e2⟩ := hY
      cases e1
      have e2 : (ms.map V.int)[j]? = some y2 := e2
      rw [List.getElem?_map] at e2
      obtain ⟨n, en, rfl⟩ := Option.map_eq_some_iff.mp e2
      have hjm := (List.getElem?_eq_some_iff.mp en).1
      have sC := sB.trans (same_new (o := .tup [.int (j : Nat), .int n]) htp)
      refine ⟨tp, _, rfl, SqT.of upd_same, rfl, _, _, rfl, _, _, rfl, rfl, ?_⟩
      refine ⟨_, rfl, _, _, rfl, rfl, .inr ⟨by decide, by decide⟩, ?_⟩
      refine ⟨_, rfl, .inl ⟨_, rfl, _, _, rfl, rfl, (by decide : (0 : Int) < 2147483549), ?_⟩⟩
      refine ⟨_, _, rfl, rfl, ?_⟩
      refine ⟨_, rfl, _, _, rfl, rfl, .inl ⟨by decide, by decide⟩, ?_⟩
      refine ⟨_, _, rfl, rfl, .inl ⟨_, rfl, _, _, rfl, rfl, (by decide : (0 : Int) < 2147483587), ?_⟩⟩
      have := fmod_in (x := x * 48271 + n % 2147483549 + 613 * (j : Nat)) (l := 2147483587) (by decide)
      exact ⟨⟨_, _, _, rfl, this.1, by omega⟩, sC⟩
    · obtain ⟨⟨x, v4, v5, rfl, x0, x1⟩, sB⟩ := hP
      have c10 : (10 : Int) ^ Int.toNat 18 = 1000000000000000000 := by decide +kernel
      refine ⟨_, rfl, _, rfl, _, _, rfl, rfl, ⟨by decide, by decide, by decide +kernel⟩, _, _, rfl, rfl, _, rfl, ite2 (fun c => ?_) (fun c => ?_)⟩
      · refine ⟨_, rfl, _, rfl, _, rfl, by show 2 ≤ sizeLine; decide, fun b hb => ?_⟩
        exact k _ b ((sp.trans sB).trans (same_new hb)) (none_of ((sp.trans sB)) hb) ⟨_, _, upd_same, by split <;> omega, x0, x1⟩
      · refine ⟨_, rfl, by show 2 ≤ sizeLine; decide, fun b hb => ?_⟩
        exact k _ b ((sp.trans sB).trans (same_new hb)) (none_of ((sp.trans sB)) hb) ⟨_, _, upd_same, by decide, x0, x1⟩
theorem ok_take (T : Txt K mg) : FnOk P w K mg base CX0 1 T.a_take T.d_take ["_law_bag_here", "_law_many"] (sp_take K) := by
  refine T.F_take.ok sc_take (fun vs H Q E h => ?_) (fun cdv A outer s H vs Q E hr h => ?_)
  · obtain ⟨b, m, rfl, _⟩ := h
    rfl
  · obtain ⟨b, m, rfl, ⟨x, y, hb, x0, y0, y1⟩, m0, m1, k⟩ := h
    have l0 : (0 : Int) < (m : Nat) := by omega
    refine ⟨_, (pss_cons (ps_if (pt_cmpR op_gt (pe_ix ix_list (pv 0) pe_int (fun _ _ => rfl)) pe_int (nomark _))
        (pss_cons (ps_set (i := 2) sc_take.nd rfl (Or.inl rfl) (pe_op op_mod (pe_callTy call_int1 (by rfl) T.z_int (by decide +kernel) (pa_cons (pe_ix ix_list (pv 0) pe_int (fun _ _ => rfl)) pa_nil)) (pv 1)))
        (pss_cons (ps_asg (pe_op op_fdivW (pe_ix ix_list (pv 0) pe_int (fun _ _ => rfl)) (pv 1)) (pg_sub (pv 0) pe_int set_list))
        (pss_one (ps_ret (pv 2)))))
        pss_nil)
      (pss_cons (ps_asg (pe_op op_mod (pe_callTy call_int1 (by rfl) T.z_int (by decide +kernel) (pa_cons (pe_op op_add (pe_op op_mul (pe_ix ix_list (pv 0) pe_int (fun _ _ => rfl)) pe_int) pe_int) pa_nil)) pe_int) (pg_sub (pv 0) pe_int set_list))
      (pss_one (ps_ret (pe_op op_mod (pe_op op_fdivW (pe_op op_mod (pe_callTy call_int1 (by rfl) T.z_int (by decide +kernel) (pa_cons (pe_op op_mul (pe_op op_fdivW (pe_ix ix_list (pv 0) pe_int (fun _ _ => rfl)) pe_int) pe_int) pa_nil)) pe_int) pe_int) (pv 1)))))), ?_⟩
    refine ⟨_, rfl, b, _, 0, _, rfl, rfl, SqL.of hb, atI_nat (j := 0) rfl, _, _, rfl, rfl, _, rfl, ite2 (fun c => ?_) (fun c => ?_)⟩
    · refine ⟨_, rfl, b, _, 0, _, rfl, rfl, SqL.of hb, atI_nat (j := 0) rfl, .inl ⟨_, rfl, ?_⟩⟩
      refine ⟨_, rfl, _, _, rfl, rfl, l0, ?_⟩
      refine ⟨_, rfl, b, _, 0, _, rfl, rfl, SqL.of hb, atI_nat (j := 0) rfl, _, rfl, _, _, rfl, rfl, wide_div l0 (b := 100) (by omega) (by decide) (by decide), ?_⟩
      refine ⟨_, rfl, b, _, 0, 0, rfl, rfl, hb, rfl, ?_⟩
      obtain ⟨d, ed⟩ : ∃ d : Nat, x % (m : Nat) = (d : Nat) := ⟨(x % (m : Nat)).toNat, by have := (fmod_in (x := x) l0).1; omega⟩
      have hd := (fmod_in (x := x) l0).2
      refine ⟨_, rfl, ?_⟩
      (try dsimp only)
      rw [ed] at hd ⊢
      exact k _ d (by omega) Bu.set ⟨_, _, upd_same, Int.ediv_nonneg x0 (by omega), y0, y1⟩
    · refine ⟨_, rfl, b, _, 1, _, rfl, rfl, SqL.of hb, atI_nat (j := 1) rfl, _, _, rfl, rfl, .inr ⟨by decide, by decide⟩, _, _, rfl, rfl, .inl ⟨_, rfl, ?_⟩⟩
      refine ⟨_, _, rfl, rfl, (by decide : (0 : Int) < 2147483647), ?_⟩
      refine ⟨_, rfl, b, _, 1, 1, rfl, rfl, hb, rfl, ?_⟩
      have z0 := fmod_in (x := y * 69621 + 77003) (l := 2147483647) (by decide)
      dsimp only
      generalize (y * 69621 + 77003) % 2147483647 = z at z0 ⊢
      refine ⟨_, rfl, b, _, 1, _, rfl, rfl, SqL.of upd_same, atI_nat (j := 1) rfl, _, _, rfl, rfl, wide_div (by decide) (b := 100) (by decide) (by decide) (by decide), ?_⟩
      have q0 : 0 ≤ z / 13 ∧ z / 13 < 2147483648 := ⟨Int.ediv_nonneg z0.1 (by decide), by omega⟩
      refine ⟨_, _, rfl, rfl, .inr ⟨by decide, by decide⟩, ?_⟩
      refine .inl ⟨_, rfl, _, _, rfl, rfl, (by decide : (0 : Int) < 2147483399), ?_⟩
      have r0 := fmod_in (x := z / 13 * 40692) (l := 2147483399) (by decide)
      dsimp only
      generalize z / 13 * 40692 % 2147483399 = u at r0 ⊢
      refine ⟨_, _, rfl, rfl, wide_div (by decide) (b := 100) (by decide) (by decide) (by decide), ?_⟩
      obtain ⟨d, ed⟩ : ∃ d : Nat, u / 32 % (m : Nat) = (d : Nat) := ⟨(u / 32 % (m : Nat)).toNat, by have := (fmod_in (x := u / 32) l0).1; omega⟩
      have hd := (fmod_in (x := u / 32) l0).2
      refine ⟨_, rfl, _, _, rfl, rfl, l0, ?_⟩
      (try dsimp only)
      rw [ed] at hd ⊢
      exact k _ d (by omega) Bu.set ⟨_, _, upd_same, x0, z0.1, by omega⟩
      skip
end
end K59

namespace K59
open PySem L2 Wm TL Dv
section
variable {P : Program} {w : World} {K : PySem.W.Frag} {mg : Str → Option Value} {base : Heap}
theorem dig_log {d : Nat} (h : 1 ≤ d ∧ d ≤ 9) : ((d : Int)).natAbs.log2 < 1920 := by
  rcases dig_cases h with e | e | e | e | e | e | e | e | e <;> subst e <;> decide +kernel
theorem sum_snoc (ds : List Nat) (d : Nat) : (ds ++ [d]).sum = ds.sum + d := by
  rw [List.sum_append]
  simp
theorem len_snoc (ds : List Nat) (d : Nat) : (ds ++ [d]).length = ds.length + 1 := by simp
theorem dig_snoc {ds : List Nat} {d : Nat} (h : ∀ y ∈ ds, 1 ≤ y ∧ y ≤ 9) (g : 1 ≤ d ∧ d ≤ 9) : ∀ y ∈ ds ++ [d], 1 ≤ y ∧ y ≤ 9 := fun y m => by
  rcases List.mem_append.mp m with m | m
  · exact h y m
  · rw [List.mem_singleton.mp m]
    exact g
theorem ok_of (T : Txt K mg) : FnOk P w K mg base CX0 2 T.a_of T.d_of ["_law_bag_here", "_law_some"] (sp_of K) := by
  refine T.F_of.ok sc_of (fun vs H Q E h => ?_) (fun cdv A outer s H vs Q E hr h => ?_)
  · obtain ⟨b, l, xs, rfl, _⟩ := h
    rfl
  · obtain ⟨b, l, xs, rfl, hb, nlb, hl, ne, few, k⟩ := h
    have l0 : 0 < xs.length := by cases xs with | nil => exact absurd rfl ne | cons x t => exact Nat.succ_pos _
    refine ⟨_, (pss_one (ps_ret (pe_ix ix_list (pv 1) (pe_call (ok_take T) (hr.mono (by decide)) (by rfl) T.g_take T.F_take.kp T.b_take .nil pass0 (pa_cons (pv 0) (pa_cons (pe_callB call_len_seq (by rfl) T.z_len PySem.boot_len (pa_cons (pv 1) pa_nil)) pa_nil))) (fun _ _ => rfl)))), ?_⟩
    refine ⟨_, rfl, _, rfl, _, rfl, l, _, rfl, .inl (SqL.of hl), b, xs.length, rfl, hb, l0, by omega, fun H' d hd bu hb' => ?_⟩
    have hl' := bu _ _ nlb hl
    obtain ⟨v, ev⟩ : ∃ v, xs[d]? = some v := ⟨_, List.getElem?_eq_getElem hd⟩
    exact ⟨l, _, _, _, rfl, rfl, SqL.of hl', atI_nat ev, k _ v (List.mem_of_getElem? ev) bu hb'⟩
theorem ok_number (T : Txt K mg) : FnOk P w K mg base CX0 2 T.a_number T.d_number ["_law_bag_here"] (sp_number K) := by
  refine T.F_number.ok sc_number (fun vs H Q E h => ?_) (fun cdv A outer s H vs Q E hr h => ?_)
  · obtain ⟨b, rfl, _⟩ := h
    rfl
  · obtain ⟨b, rfl, hb, k⟩ := h
    refine ⟨_, (pss_cons (ps_par3 (i := 1) (j := 2) (l := 3) rfl sc_number.nd rfl rfl rfl (by decide) (by decide) (by decide) rfl rfl rfl (pa_cons (pe_op op_add pe_int (pe_call (ok_take T) (hr.mono (by decide)) (by rfl) T.g_take T.F_take.kp T.b_take .nil pass0 (pa_cons (pv 0) (pa_cons pe_int pa_nil)))) (pa_cons pe_int (pa_cons pe_str pa_nil))) rfl)
      (pss_cons (ps_for PassesOwn.never rfl (pi_range1 (by rfl) T.z_range (pa_cons (pv 1) pa_nil)) (pg_name (i := 4) sc_number.nd rfl (Or.inl rfl))
        (pss_cons (ps_set (i := 5) sc_number.nd rfl (Or.inl rfl) (pe_op op_add pe_int (pe_call (ok_take T) (hr.mono (by decide)) (by rfl) T.g_take T.F_take.kp T.b_take .nil pass0 (pa_cons (pv 0) (pa_cons (pe_callB (call_min2 rfl) (by rfl) T.z_min (by decide +kernel) (pa_cons pe_int (pa_cons (pe_op op_sub (pe_op op_sub pe_int (pv 2)) (pe_op op_sub (pe_op op_sub (pv 1) (pv 4)) pe_int)) pa_nil))) pa_nil)))))
        (pss_cons (ps_set (i := 2) sc_number.nd rfl (Or.inl rfl) (pe_op op_add (pv 2) (pv 5)))
        (pss_one (ps_set (i := 3) sc_number.nd rfl (Or.inl rfl) (pe_op op_add_str (pv 3) (pe_callTy call_str_int (by rfl) T.z_str (by decide +kernel) (pa_cons (pv 5) pa_nil))))))))
      (pss_one (ps_ret (pv 3))))), ?_⟩
    refine ⟨_, rfl, b, 4, rfl, hb, by decide, by decide, fun H1 d0 hd0 bu1 hb1 => ?_⟩
    refine ⟨_, _, rfl, rfl, _, _, _, rfl, ?_⟩
    obtain ⟨many, em, m1, m4⟩ : ∃ many : Nat, (1 : Int) + (d0 : Nat) = (many : Nat) ∧ 1 ≤ many ∧ many ≤ 4 := ⟨1 + d0, by omega, by omega, by omega⟩
    try dsimp only
    rw [em]
    refine ⟨_, rfl, _, rfl, by omega, by omega, ?_⟩
    rw [Int.toNat_natCast]
    refine for_range (fun i σ H' => ∃ (ds : List Nat) (v4 v5 : Option V), σ = [some (.ref b), some (.int (many : Nat)), some (.int (ds.sum : Nat)), some (.str (numS ds)), v4, v5] ∧
      ds.length = i ∧ (∀ d ∈ ds, 1 ≤ d ∧ d ≤ 9) ∧ ds.sum + (many - i) ≤ 24 ∧ Bk H' b ∧ Bu b H H')
      ⟨[], none, none, by rw [numS_nil]; rfl, rfl, fun _ m => absurd m (List.not_mem_nil), by show 0 + (many - 0) ≤ 24; omega, hb1, bu1⟩ (fun i σ H' hi hP => ?_) (fun σ H' hP => ?_)
    · obtain ⟨ds, v4, v5, rfl, el, hd, hs, hb2, bu2⟩ := hP
      refine ⟨_, rfl, _, rfl, _, _, rfl, rfl, _, rfl, _, rfl, _, _, rfl, rfl, _, _, rfl, rfl, _, _, rfl, rfl, _, _, rfl, ?_⟩
      (try dsimp only)
      obtain ⟨lim, el2, l1, l9, ls⟩ : ∃ lim : Nat, (if (24 : Int) - (ds.sum : Nat) - ((many : Nat) - (0 + (i : Nat)) - 1) < 9 then (24 : Int) - (ds.sum : Nat) - ((many : Nat) - (0 + (i : Nat)) - 1) else 9) = (lim : Nat) ∧ 1 ≤ lim ∧ lim ≤ 9 ∧ lim ≤ 24 - ds.sum - (many - i - 1) := by
        split
        · exact ⟨24 - ds.sum - (many - i - 1), by omega, by omega, by omega, Nat.le_refl _⟩
        · exact ⟨9, rfl, by omega, by omega, by omega⟩
      rw [el2]
      refine ⟨b, lim, rfl, hb2, by omega, by omega, fun H3 g hg bu3 hb3 => ?_⟩
      refine ⟨_, _, rfl, rfl, ?_⟩
      obtain ⟨d, ed, hd9, hds⟩ : ∃ d : Nat, (1 : Int) + (g : Nat) = (d : Nat) ∧ (1 ≤ d ∧ d ≤ 9) ∧ ds.sum + d + (many - i - 1) ≤ 24 := ⟨1 + g, by omega, by omega, by omega⟩
      (try dsimp only)
      rw [ed]
      refine ⟨_, rfl, _, rfl, _, _, rfl, rfl, ?_⟩
      refine ⟨_, rfl, _, rfl, _, rfl, dig_log hd9, _, _, rfl, rfl, ?_, ?_⟩
      · rw [dig_str hd9, numS_len, numS_len]
        exact Nat.le_of_lt (small1000 (by show ds.length + 1 ≤ 1000; omega))
      rw [dig_str hd9, numS_app]
      have e3 : ((ds.sum : Nat) : Int) + (d : Nat) = ((ds ++ [d]).sum : Nat) := by rw [sum_snoc]; omega
      (try dsimp only)
      rw [e3]
      exact ⟨ds ++ [d], _, _, rfl, by rw [len_snoc, el], dig_snoc hd hd9, by rw [sum_snoc]; omega, hb3, bu2.trans bu3⟩
    · obtain ⟨ds, v4, v5, rfl, el, hd, hs, hb2, bu2⟩ := hP
      exact ⟨_, rfl, k _ ds ⟨by omega, by omega, hd, by omega⟩ bu2 hb2⟩
theorem ok_numbers (T : Txt K mg) : FnOk P w K mg base CX0 3 T.a_numbers T.d_numbers ["_law_bag_here", "_law_many"] (sp_numbers K) := by
  refine T.F_numbers.ok sc_numbers (fun vs H Q E h => ?_) (fun cdv A outer s H vs Q E hr h => ?_)
  · obtain ⟨b, m, rfl, _⟩ := h
    rfl
  · obtain ⟨b, m, rfl, hb, m6, k⟩ := h
    refine ⟨_, (pss_cons (ps_set (i := 2) sc_numbers.nd rfl (Or.inl rfl) (pe_lst pa_nil))
      (pss_cons (ps_for PassesOwn.never rfl (pi_range1 (by rfl) T.z_range (pa_cons (pv 1) pa_nil)) (pg_name (i := 3) sc_numbers.nd rfl (Or.inl rfl))
        (pss_cons (ps_set (i := 4) sc_numbers.nd rfl (Or.inl rfl) (pe_call (ok_number T) (hr.mono (by decide)) (by rfl) T.g_number T.F_number.kp T.b_number .nil pass0 (pa_cons (pv 0) pa_nil)))
        (pss_one (ps_if (pt_cmpR op_notIn_seq (pv 4) (pv 2) rfl)
          (pss_one (ps_expr (pe_bm PySem.F.plainAttrs_list PySem.F.slot_list_append PySem.F.type_list_append mt_append (pv 2) (pa_cons (pv 4) pa_nil))))
          pss_nil))))
      (pss_one (ps_ret (pv 2))))), ?_⟩
    refine ⟨by show 0 ≤ sizeLine; decide, fun l hl => ⟨_, rfl, _, rfl, by omega, by omega, ?_⟩⟩
    rw [Int.toNat_natCast]
    have nlb : l ≠ b := hb.off hl
    refine for_range (fun i σ H' => ∃ (dss : List (List Nat)) (v3 v4 : Option V), σ = [some (.ref b), some (.int (m : Nat)), some (.ref l), v3, v4] ∧
      dss.length ≤ i ∧ (0 < i → dss ≠ []) ∧ (∀ ds ∈ dss, Num ds) ∧ dss.Nodup ∧ H' l = some (.lst ((dss.map numS).map V.str)) ∧ Bk H' b ∧ (∀ q o, q ≠ b → q ≠ l → H q = some o → H' q = some o))
      ⟨[], none, none, rfl, Nat.le_refl _, (fun z => absurd z (Nat.lt_irrefl _)), fun _ m => absurd m (List.not_mem_nil), .nil, upd_same, hb.k (same_new hl), fun q o _ n e => by rw [upd_ne n]; exact e⟩ (fun i σ H' hi hP => ?_) (fun σ H' hP => ?_)
    · obtain ⟨dss, v3, v4, rfl, el, en, hd, nd, hl1, hb1, bu1⟩ := hP
      refine ⟨_, rfl, b, rfl, hb1, fun H2 ds N bu2 hb2 => ?_⟩
      have hl2 := bu2 _ _ nlb hl1
      have bu3 : ∀ q o, q ≠ b → q ≠ l → H q = some o → H2 q = some o := fun q o n1 n2 e => bu2 q o n1 (bu1 q o n1 n2 e)
      refine ⟨_, rfl, _, rfl, l, _, rfl, .inl (SqL.of hl2), rfl, flat_strs _, _, rfl, ?_⟩
      rw [if_pos rfl, in_strs]
      refine ite2 (fun c => ?_) (fun c => ?_)
      · have nin : ds ∉ dss := fun m => by
          have : numS ds ∈ dss.map numS := List.mem_map.mpr ⟨ds, m, rfl⟩
          rw [decide_eq_true this] at c
          cases c
        refine ⟨_, rfl, .inl ⟨rfl, _, SqL.of hl2⟩, _, rfl, l, _, _, rfl, rfl, hl2, small1000 (by rw [List.length_map, List.length_map]; omega), ?_⟩
        refine ⟨dss ++ [ds], _, _, rfl, by rw [List.length_append]; exact Nat.succ_le_succ el, (fun _ z => by have := congrArg List.length z; rw [List.length_append] at this; simp at this), fun x m => ?_, ?_, ?_, hb2.bu Bu.set (fun z => nlb z.symm), fun q o n1 n2 e => ?_⟩
        · rcases List.mem_append.mp m with m | m
          · exact hd x m
          · rw [List.mem_singleton.mp m]; exact N
        · rw [List.nodup_append]
          exact ⟨nd, by simp, fun x mx y my => by rw [List.mem_singleton.mp my]; intro e; subst e; exact nin mx⟩
        · rw [upd_same, List.map_append, List.map_append]; rfl
        · rw [upd_ne n2]; exact bu3 q o n1 n2 e
      · refine ⟨dss, _, _, rfl, by omega, (fun _ z => ?_), hd, nd, hl2, hb2, bu3⟩
        rw [z] at c
        exact c (by simp)
    · obtain ⟨dss, v3, v4, rfl, el, en, hd, nd, hl1, hb1, bu1⟩ := hP
      exact ⟨_, rfl, k _ l dss hd nd el en hl hl1 (fun q o n e => bu1 q o n (fun z => by subst z; rw [hl] at e; cases e) e) hb1⟩
end
end K59

namespace K59
open PySem L2 Wm TL Dv
section
variable {P : Program} {w : World} {K : PySem.W.Frag} {mg : Str → Option Value} {base : Heap}
/-- the law's own cards -/
def LC (K : PySem.W.Frag) (H : Hp) (l : Addr) (cs : List Cd) : Prop := ∃ cvs, H l = some (.lst cvs) ∧ Dts K H cvs (cs.map cdD)
def sp_start (K : PySem.W.Frag) : Sp := fun vs H Q _ => ∃ (a l : Addr) (r : Rm), vs = [.ref a, .ref l] ∧ H a = some (.lst (nV r.st)) ∧ LC K H l r.cs ∧ RmOk r ∧ ∀ H' v, Same H H' → Dt K H' v (sdD (startS r)) → Q v H'
def sp_allowed (K : PySem.W.Frag) : Sp := fun vs H Q _ => ∃ (l : Addr) (v : V) (r : Rm) (s : Sd) (m : Nat), vs = [.ref l, v, .int (m : Nat)] ∧ LC K H l r.cs ∧ Dt K H v (sdD s) ∧ RmOk r ∧ SdOk r s ∧ ∀ H' q us, Same H H' → H q = none → H' q = some (.lst us) → Dts K H' us ((alF r s.gr m).map evD) → us.length ≤ 18 → Q (.ref q) H'
def sp_made (K : PySem.W.Frag) (CC : Addr) : Sp := fun vs H Q _ => ∃ (v : V) (c : Cd) (st : List Nat), vs = [v] ∧ Dt K H v (cdD c) ∧ st.length ≤ 6 ∧ (∀ s ∈ st, s ≤ 8) ∧ CdOk st c ∧ ∀ H' u, Same H H' → CardAt K CC H' u c → Q u H'
theorem cd_five {H : Hp} {v : V} {c : Cd} (h : Dt K H v (cdD c)) : ∃ q v1 v2 v3 v4, v = .ref q ∧ SqT K H q [.str (numS c.ds), v1, v2, v3, v4] ∧ Dt K H v1 (iD c.order) ∧ Dt K H v2 (iD c.counts) ∧ Dt K H v3 (iD c.owed) ∧ Dt K H v4 (mvD c.moves) := by
  unfold cdD at h
  cases h with
  | tup hq hs =>
    cases hs with
    | cons a hs =>
      cases a
      cases hs with
      | cons b hs =>
        cases hs with
        | cons c hs =>
          cases hs with
          | cons d hs =>
            cases hs with
            | cons e hs =>
              cases hs
              exact ⟨_, _, _, _, _, rfl, hq, b, c, d, e⟩
theorem ok_start (T : Txt K mg) : FnOk P w K mg base CX0 1 T.a_start T.d_start ["_law_stations", "_law_cards_here"] (sp_start K) := by
  refine T.F_start.ok sc_start (fun vs H Q E h => ?_) (fun cdv A outer s H vs Q E hr h => ?_)
  · obtain ⟨a, l, r, rfl, _⟩ := h
    rfl
  · obtain ⟨a, l, r, rfl, ha, ⟨cvs, hl, hd⟩, ok, k⟩ := h
    have l6 := ok.st6
    have c6 := ok.cs6
    have lx := hd.len
    rw [List.length_map] at lx
    refine ⟨_, (pss_one (ps_ret (pe_tup (pa_cons (pe_callTy call_tuple_of (by rfl) T.z_tuple (by decide +kernel) (pa_cons (pe_lc (own := [("_law_station", 2)]) (g := gName 2) (tt := tYes) rfl sc_start.nd (pi_list (pv 0)) (blkOk_by (own := [("_law_station", 2)]) (N := nm_start) (sc := (defScope s_start)) (by decide +kernel)) (fun _ _ _ _ _ => pg_name (i := 2) sc_start.nd rfl (Or.inl rfl)) (fun _ _ _ _ _ => pts_nil) (fun _ _ _ _ _ => (pe_tup (pa_cons pe_str (pa_cons (pv 2) pa_nil))))) pa_nil)) (pa_cons (pe_callTy call_tuple_of (by rfl) T.z_tuple (by decide +kernel) (pa_cons (pe_lc (own := [("_law_card", 3)]) (g := gName 3) (tt := tYes) rfl sc_start.nd (pi_list (pv 1)) (blkOk_by (own := [("_law_card", 3)]) (N := nm_start) (sc := (defScope s_start)) (by decide +kernel)) (fun _ _ _ _ _ => pg_name (i := 3) sc_start.nd rfl (Or.inl rfl)) (fun _ _ _ _ _ => pts_nil) (fun _ _ _ _ _ => pe_int)) pa_nil)) pa_nil))))), ?_⟩
    refine ⟨_, rfl, a, rfl, ⟨_, SqL.of ha⟩, fun D hD => ?_⟩
    refine Lm.lc_map (K := K) walk_list (xs := nV r.st) (fun i y A => ∃ n, r.st[i]? = some n ∧ Dt K A y (plD (.ins n))) (fun _ _ _ _ h kt => let ⟨n, e, d⟩ := h; ⟨n, e, d.k kt⟩) hD (by rw [nV_len]; omega) (fun H' s' => SqL.of (s' _ _ ha)) (fun i x H' hi hx s' Q' Z hQ => ?_) (fun H2 ys s2 hD2 hl2 hy => ?_)
    · obtain ⟨n, hn, rfl⟩ := nV_inv hx
      refine ⟨rfl, yesT ⟨_, rfl, by show 2 ≤ sizeLine; decide, fun u hu => hQ _ _ (same_new hu) ⟨n, hn, dt_tup upd_same (.cons (.str _) (.cons (.int _) .nil))⟩⟩⟩
    · rw [nV_len] at hl2
      refine ⟨D, _, rfl, .inl ⟨SqL.of hD2, fun t ht => ?_⟩⟩
      have s3 := s2.trans (same_new (o := .tup ys) ht)
      have ht3 : upd H2 t (.tup ys) t = some (.tup ys) := upd_same
      have hy3 : ∀ (i : Nat) y, ys[i]? = some y → ∃ n, r.st[i]? = some n ∧ Dt K (upd H2 t (.tup ys)) y (plD (.ins n)) := fun i y e => let ⟨n, a, b⟩ := hy i y e; ⟨n, a, b.k (Kt.new ht)⟩
      generalize upd H2 t (.tup ys) = H3 at s3 ht3 hy3 ⊢
      have hds : Dts K H3 ys ((r.st.map Pl.ins).map plD) := dts_of (by rw [List.length_map, List.length_map]; exact hl2) fun i y e => by
        obtain ⟨n, a, b⟩ := hy3 i y e
        exact ⟨_, by rw [List.getElem?_map, List.getElem?_map, a]; rfl, b⟩
      refine ⟨_, rfl, l, rfl, ⟨_, SqL.of (s3 _ _ hl)⟩, fun D2 hD2 => ?_⟩
      refine Lm.lc_map (K := K) walk_list (xs := cvs) (fun i y A => y = .int 0) (fun _ _ _ _ h _ => h) hD2 (by omega) (fun H' s' => SqL.of (s' _ _ (s3 _ _ hl))) (fun i x H' hi hx s' Q' Z hQ => ?_) (fun H4 zs s4 hD4 hl4 hz => ?_)
      · exact ⟨rfl, yesT (hQ _ _ (Same.refl _) rfl)⟩
      · refine ⟨D2, _, rfl, .inl ⟨SqL.of hD4, fun g hg => ?_⟩⟩
        have ez : zs = nV (r.cs.map fun _ => 0) := by
          refine List.ext_getElem? fun i => ?_
          cases e : zs[i]? with
          | none =>
            have := List.getElem?_eq_none_iff.mp e
            unfold nV
            rw [List.getElem?_eq_none_iff.mpr (by rw [List.length_map, List.length_map]; omega)]
          | some z =>
            have hi := (List.getElem?_eq_some_iff.mp e).1
            rw [hz i z e]
            exact (nV_at (by rw [List.getElem?_map, List.getElem?_eq_getElem (by omega)]; rfl)).symm
        subst ez
        have s5 := same_new (o := .tup (nV (r.cs.map fun _ => 0))) hg
        have hg5 : upd H4 g (.tup (nV (r.cs.map fun _ => 0))) g = some (.tup (nV (r.cs.map fun _ => 0))) := upd_same
        generalize upd H4 g (.tup (nV (r.cs.map fun _ => 0))) = H5 at s5 hg5 ⊢
        refine ⟨by show 2 ≤ sizeLine; decide, fun u hu => ?_⟩
        have s6 := same_new (o := .tup [.ref t, .ref g]) hu
        exact k _ _ (((s3.trans s4).trans s5).trans s6) (dt_tup upd_same (.cons ((Dt.tup (SqT.of ht3) hds).ks ((s4.trans s5).trans s6)) (.cons ((Dt.tup (SqT.of hg5) (dts_nV _)).ks s6) .nil)))
theorem ok_allowed (T : Txt K mg) : FnOk P w K mg base CX0 1 T.a_allowed T.d_allowed ["_law_cards_here", "_law_standing", "_law_most_open"] (sp_allowed K) := by
  refine T.F_allowed.ok sc_allowed (fun vs H Q E h => ?_) (fun cdv A outer s H vs Q E hr h => ?_)
  · obtain ⟨l, v, r, s, m, rfl, _⟩ := h
    rfl
  · obtain ⟨l, v, r, s, m, rfl, ⟨cvs, hl, hd⟩, dv, ok, so, k⟩ := h
    obtain ⟨t, x, y, rfl, ht, d5, d6⟩ := dt_two dv
    obtain ⟨gr, rfl, hg⟩ := dt_ints d6
    have c6 := ok.cs6
    have lg := so.gr
    have lx := hd.len
    rw [List.length_map] at lx
    refine ⟨_, (pss_cons (ps_par (i := 3) (j := 4) rfl sc_allowed.nd rfl rfl (by decide) rfl rfl (pa_cons (pe_lst pa_nil) (pa_cons (pe_cmpR op_lt (pe_callB call_len_seq (by rfl) T.z_len PySem.boot_len (pa_cons (pe_lc (own := [("_law_grade", 5)]) (g := gName 5) rfl sc_allowed.nd (pi_tup (pe_ix ix_tup (pv 1) pe_int (fun _ _ => rfl))) (blkOk_by (own := [("_law_grade", 5)]) (N := nm_allowed) (sc := (defScope s_allowed)) (by decide +kernel)) (fun _ _ _ _ _ => pg_name (i := 5) sc_allowed.nd rfl (Or.inl rfl)) (fun _ _ _ _ _ => (pts_one (pt_cmpR op_gt (pv 5) pe_int (nomark _)))) (fun _ _ _ _ _ => (pv 5))) pa_nil)) (pv 2) (nomark _)) pa_nil)) rfl)
      (pss_cons (ps_for PassesOwn.never rfl (pi_enum (by rfl) T.z_enumerate (pa_cons (pv 0) pa_nil)) (pg_tup rfl (pgs_cons (pg_name (i := 6) sc_allowed.nd rfl (Or.inl rfl)) (pgs_cons (pg_name (i := 7) sc_allowed.nd rfl (Or.inl rfl)) pgs_nil)))
        (pss_cons (ps_set (i := 5) sc_allowed.nd rfl (Or.inl rfl) (pe_ix ix_tup (pe_ix ix_tup (pv 1) pe_int (fun _ _ => rfl)) (pv 6) (fun _ _ => rfl)))
        (C8.pss_cut (ps_if (PW.pt (pw_and (pt_cmpR op_eq (pv 5) pe_int (nomark _)) (pw_and1 (pt_val (pv 4)))))
          (pss_one (ps_expr (pe_bm PySem.F.plainAttrs_list PySem.F.slot_list_append PySem.F.type_list_append mt_append (pv 3) (pa_cons (pe_tup (pa_cons pe_str (pa_cons (pe_ix ix_tup (pv 7) pe_int (fun _ _ => rfl)) pa_nil))) pa_nil))))
          pss_nil)
        (C8.pss_cut (ps_if (PW.pt (pw_or (pt_cmpR op_eq (pv 5) pe_int (nomark _)) (pw_or1 (pt_cmpR op_eq (pv 5) pe_int (nomark _)))))
          (pss_one (ps_expr (pe_bm PySem.F.plainAttrs_list PySem.F.slot_list_append PySem.F.type_list_append mt_append (pv 3) (pa_cons (pe_tup (pa_cons pe_str (pa_cons (pe_ix ix_tup (pv 7) pe_int (fun _ _ => rfl)) pa_nil))) pa_nil))))
          pss_nil)
        (pss_one (ps_if (pt_cmpR op_gt (pv 5) pe_int (nomark _))
          (pss_one (ps_expr (pe_bm PySem.F.plainAttrs_list PySem.F.slot_list_append PySem.F.type_list_append mt_append (pv 3) (pa_cons (pe_tup (pa_cons pe_str (pa_cons (pe_ix ix_tup (pv 7) pe_int (fun _ _ => rfl)) pa_nil))) pa_nil))))
          pss_nil))))))
      (pss_one (ps_ret (pv 3))))), ?_⟩
    refine ⟨by show 0 ≤ sizeLine; decide, fun L hL => ?_⟩
    have s1 := same_new (o := .lst []) hL
    have hL1 : upd H L (.lst []) L = some (.lst []) := upd_same
    generalize upd H L (.lst []) = H1 at s1 hL1 ⊢
    refine ⟨_, rfl, t, _, 1, _, rfl, rfl, sameT s1 ht, atI_nat (j := 1) rfl, gr, rfl, ⟨_, sameT s1 hg⟩, fun D hD => ?_⟩
    refine lc_it walk_tup (fun j B => Same H1 B ∧ B D = some (.lst (nV ((s.gr.take j).filter fun g => decide (0 < g))))) ⟨same_new hD, upd_same⟩ (fun j B _ h => sameT (s1.trans h.1) hg) (fun j v B B' hj hP hY => ?_) (fun B hP => ?_)
    · obtain ⟨sB, hB⟩ := hP
      obtain ⟨rfl, hv⟩ := hY
      obtain ⟨n, hn, rfl⟩ := nV_inv hv
      have fl : ((s.gr.take j).filter fun g => decide (0 < g)).length ≤ 6 := Nat.le_trans (List.length_filter_le _ _) (by rw [List.length_take]; omega)
      refine ⟨rfl, _, rfl, _, _, rfl, rfl, _, rfl, ite2 (fun c => ?_) (fun c => ?_)⟩
      · have c : (0 : Int) < (n : Nat) := of_decide_eq_true c
        refine ⟨_, rfl, _, hB, by rw [nV_len]; exact small1000 (by omega), same_mut sB hD, ?_⟩
        rw [upd_same, tk_succ' hn, List.filter_append, List.filter_cons, if_pos (decide_eq_true (by omega))]
        unfold nV
        rw [List.map_append]
        rfl
      · have c : ¬ (0 : Int) < (n : Nat) := fun z => c (decide_eq_true z)
        refine ⟨sB, ?_⟩
        rw [tk_succ' hn, List.filter_append, List.filter_cons, if_neg (by simp; omega), List.filter_nil, List.append_nil]
        exact hB
    obtain ⟨sB, hB⟩ := hP
    rw [nV_len, List.take_length] at hB
    refine ⟨D, _, rfl, .inl (SqL.of hB), ?_⟩
    rw [nV_len]
    refine ⟨_, rfl, _, _, rfl, rfl, _, _, rfl, ?_⟩
    obtain ⟨fr, hfr, efr⟩ : ∃ fr : Bool, (decide (((s.gr.filter fun g => decide (0 < g)).length : Int) < (m : Nat)) = fr) ∧ (fr = true ↔ openN s.gr < m) := ⟨_, rfl, by rw [decide_eq_true_iff]; unfold openN; omega⟩
    (try dsimp only)
    rw [hfr]
    have s2 := s1.trans sB
    have hL2 := sB _ _ hL1
    clear hB sB hL1 s1 hfr
    have hz : ((r.cs.map fun c => c.ds).zip s.gr).length = r.cs.length := by rw [List.length_zip, List.length_map, lg, Nat.min_self]
    refine ⟨_, rfl, l, _, rfl, SqL.of (s2 _ _ hl), ?_⟩
    refine for_it walk_enum (fun i σ A => (∃ v5 v6 v7, σ = [some (.ref l), some (.ref t), some (.int (m : Nat)), some (.ref L), some (.bl fr), v5, v6, v7]) ∧ Same H A ∧ ∃ zs, A L = some (.lst zs) ∧ Dts K A zs (((((r.cs.map fun c => c.ds).zip s.gr).take i).flatMap (alI s.gr m)).map evD) ∧ zs.length ≤ 3 * i)
      ⟨⟨none, none, none, rfl⟩, s2, [], hL2, .nil, Nat.le_refl _⟩ (fun i σ A _ h => SqL.of (h.2.1 _ _ hl)) (fun i y' σ A A' hi hP hY => ?_) (fun σ A hP => ?_)
    · obtain ⟨⟨v5, v6, v7, rfl⟩, sA, zs, hA, dz, lz⟩ := hP
      obtain ⟨tp, y1, y2, rfl, htp, rfl, e1, e2⟩ := hY
      cases e1
      have e2 : cvs[i]? = some y2 := e2
      obtain ⟨d, ed, dy⟩ := hd.at e2
      rw [List.getElem?_map] at ed
      obtain ⟨c, ec, rfl⟩ := Option.map_eq_some_iff.mp ed
      have i6 : i < r.cs.length := (List.getElem?_eq_some_iff.mp ec).1
      have eg := getD_at (xs := s.gr) (i := i) (by omega)
      generalize s.gr.getD i 0 = g at eg
      obtain ⟨q, v1, v2, v3, v4, rfl, hq, _⟩ := cd_five dy
      have ezz : ((r.cs.map fun c => c.ds).zip s.gr)[i]? = some (c.ds, g) := by
        rw [List.getElem?_zip_eq_some, List.getElem?_map, ec]
        exact ⟨rfl, eg⟩
      have etk : ((((r.cs.map fun c => c.ds).zip s.gr).take (i + 1)).flatMap (alI s.gr m)) = (((r.cs.map fun c => c.ds).zip s.gr).take i).flatMap (alI s.gr m) ++ alI s.gr m (c.ds, g) := by
        rw [tk_succ' ezz, List.flatMap_append, List.flatMap_singleton]
      generalize (((r.cs.map fun c => c.ds).zip s.gr).take i).flatMap (alI s.gr m) = acc at dz etk
      rw [etk]
      have sT := same_new (o := .tup [.int (i : Nat), .ref q]) htp
      refine ⟨tp, _, rfl, SqT.of upd_same, rfl, _, _, rfl, _, _, rfl, rfl, ?_⟩
      have sB := sA.trans sT
      have hB := sT _ _ hA
      have dB := dz.ks sT
      generalize upd A tp (.tup [.int (i : Nat), .ref q]) = B at sB hB dB ⊢
      refine ⟨_, rfl, t, _, 1, _, rfl, rfl, sameT sB ht, atI_nat (j := 1) rfl, _, rfl, gr, _, i, _, rfl, rfl, sameT sB hg, atI_nat (nV_at eg), ?_⟩
      have put : ∀ (w : Wd) (B : Hp) (zs : List V) (ac : List Ev), Same H B → B L = some (.lst zs) → Dts K B zs (ac.map evD) → ∀ u, B u = none → ∀ C, C = upd B u (.tup [.str (wdS w), .str (numS c.ds)]) → Same H (upd C L (.lst (zs ++ [.ref u]))) ∧ C L = some (.lst zs) ∧ upd C L (.lst (zs ++ [.ref u])) L = some (.lst (zs ++ [.ref u])) ∧ Dts K (upd C L (.lst (zs ++ [.ref u]))) (zs ++ [.ref u]) ((ac ++ [(w, c.ds)]).map evD) := fun w B zs ac sB hB dB u hu C eC => by
        subst eC
        have sU := same_new (o := .tup [.str (wdS w), .str (numS c.ds)]) hu
        have hU := sU _ _ hB
        refine ⟨same_mut (sB.trans sU) hL, hU, upd_same, ?_⟩
        rw [List.map_append]
        exact ((dB.ks sU).snoc (wd_D w c.ds upd_same)).k (Kt.lst hU)
      refine ⟨fun σ B => σ = [some (.ref l), some (.ref t), some (.int (m : Nat)), some (.ref L), some (.bl fr), some (.int (g : Nat)), some (.int (i : Nat)), some (.ref q)] ∧ Same H B ∧ ∃ zs, B L = some (.lst zs) ∧ Dts K B zs ((acc ++ if g = 0 ∧ openN s.gr < m then [(Wd.call, c.ds)] else []).map evD) ∧ zs.length ≤ 3 * i + 1, ?_, ?_⟩
      · refine ⟨_, rfl, rfl, _, rfl, ite2 (fun c1 => ?_) (fun c1 => ?_)⟩
        · have g0 : g = 0 := by have := V.int.inj (of_decide_eq_true c1); omega
          refine ⟨_, rfl, _, rfl, ite2 (fun c2 => ?_) (fun c2 => ?_)⟩
          · have c2 := efr.mp c2
            refine ⟨_, rfl, .inl ⟨rfl, _, SqL.of hB⟩, _, rfl, q, _, 0, _, rfl, rfl, sameT sB hq, atI_nat (j := 0) rfl, by show 2 ≤ sizeLine; decide, fun u hu => ?_⟩
            obtain ⟨a1, a2, a3, a4⟩ := put .call B zs acc sB hB dB u hu _ rfl
            refine ⟨L, zs, _, rfl, rfl, a2, small1000 (by omega), rfl, a1, _, a3, ?_, by rw [List.length_append]; show zs.length + 1 ≤ _; omega⟩
            rw [if_pos ⟨g0, c2⟩]
            exact a4
          · refine ⟨rfl, sB, zs, hB, ?_, by omega⟩
            rw [if_neg fun z => c2 (efr.mpr z.2), List.append_nil]
            exact dB
        · have g0 : ¬ g = 0 := fun z => c1 (decide_eq_true (by rw [z]; rfl))
          refine ⟨rfl, sB, zs, hB, ?_, by omega⟩
          rw [if_neg fun z => g0 z.1, List.append_nil]
          exact dB
      · rintro σ B2 ⟨rfl, sB2, zs2, hB2, dB2, lz2⟩
        generalize ha2 : (acc ++ if g = 0 ∧ openN s.gr < m then [(Wd.call, c.ds)] else []) = acc2 at dB2
        refine ⟨fun σ B => σ = [some (.ref l), some (.ref t), some (.int (m : Nat)), some (.ref L), some (.bl fr), some (.int (g : Nat)), some (.int (i : Nat)), some (.ref q)] ∧ Same H B ∧ ∃ zs, B L = some (.lst zs) ∧ Dts K B zs ((acc2 ++ if 0 < g ∧ g < 3 then [(Wd.more, c.ds)] else []).map evD) ∧ zs.length ≤ 3 * i + 2, ?_, ?_⟩
        · refine ⟨_, rfl, rfl, _, rfl, ite2 (fun c1 => ?_) (fun c1 => ⟨_, rfl, rfl, _, rfl, ite2 (fun c2 => ?_) (fun c2 => ?_)⟩)⟩
          · have cn : 0 < g ∧ g < 3 := by have := V.int.inj (of_decide_eq_true c1); omega
            refine ⟨_, rfl, .inl ⟨rfl, _, SqL.of hB2⟩, _, rfl, q, _, 0, _, rfl, rfl, sameT sB2 hq, atI_nat (j := 0) rfl, by show 2 ≤ sizeLine; decide, fun u hu => ?_⟩
            obtain ⟨a1, a2, a3, a4⟩ := put .more B2 zs2 acc2 sB2 hB2 dB2 u hu _ rfl
            refine ⟨L, zs2, _, rfl, rfl, a2, small1000 (by omega), rfl, a1, _, a3, ?_, by rw [List.length_append]; show zs2.length + 1 ≤ _; omega⟩
            rw [if_pos cn]
            exact a4
          · have cn : 0 < g ∧ g < 3 := by have := V.int.inj (of_decide_eq_true c2); omega
            refine ⟨_, rfl, .inl ⟨rfl, _, SqL.of hB2⟩, _, rfl, q, _, 0, _, rfl, rfl, sameT sB2 hq, atI_nat (j := 0) rfl, by show 2 ≤ sizeLine; decide, fun u hu => ?_⟩
            obtain ⟨a1, a2, a3, a4⟩ := put .more B2 zs2 acc2 sB2 hB2 dB2 u hu _ rfl
            refine ⟨L, zs2, _, rfl, rfl, a2, small1000 (by omega), rfl, a1, _, a3, ?_, by rw [List.length_append]; show zs2.length + 1 ≤ _; omega⟩
            rw [if_pos cn]
            exact a4
          · have n1 : ¬ g = 1 := fun z => c1 (decide_eq_true (by rw [z]; rfl))
            have n2 : ¬ g = 2 := fun z => c2 (decide_eq_true (by rw [z]; rfl))
            refine ⟨rfl, sB2, zs2, hB2, ?_, by omega⟩
            rw [if_neg (by omega), List.append_nil]
            exact dB2
        · rintro σ B3 ⟨rfl, sB3, zs3, hB3, dB3, lz3⟩
          have ea : acc ++ alI s.gr m (c.ds, g) = (acc2 ++ if 0 < g ∧ g < 3 then [(Wd.more, c.ds)] else []) ++ (if 0 < g then [(Wd.back, c.ds)] else []) := by
            rw [← ha2]
            unfold alI
            simp only [List.append_assoc]
          rw [ea]
          refine ⟨_, rfl, _, _, rfl, rfl, _, rfl, ite2 (fun c1 => ?_) (fun c1 => ?_)⟩
          · have c1 : 0 < g := by have := of_decide_eq_true c1; omega
            refine ⟨_, rfl, .inl ⟨rfl, _, SqL.of hB3⟩, _, rfl, q, _, 0, _, rfl, rfl, sameT sB3 hq, atI_nat (j := 0) rfl, by show 2 ≤ sizeLine; decide, fun u hu => ?_⟩
            obtain ⟨a1, a2, a3, a4⟩ := put .back B3 zs3 _ sB3 hB3 dB3 u hu _ rfl
            refine ⟨L, zs3, _, rfl, rfl, a2, small1000 (by omega), ⟨_, _, _, rfl⟩, a1, _, a3, ?_, by rw [List.length_append]; show zs3.length + 1 ≤ _; omega⟩
            rw [if_pos c1]
            exact a4
          · have c1 : ¬ 0 < g := fun z => c1 (decide_eq_true (by omega))
            refine ⟨⟨_, _, _, rfl⟩, sB3, zs3, hB3, ?_, by omega⟩
            rw [if_neg c1, List.append_nil]
            exact dB3
    · obtain ⟨⟨v5, v6, v7, rfl⟩, sA, zs, hA, dz, lz⟩ := hP
      rw [lx, ← hz, List.take_length] at dz
      exact ⟨_, rfl, k _ L zs sA hL hA dz (by omega)⟩
theorem ok_made (T : Txt K mg) : FnOk P w K mg base CX0 8 T.a_made T.d_made ["_law_card"] (sp_made K T.CC) := by
  refine T.F_made.ok sc_made (fun vs H Q E h => ?_) (fun cdv A outer s H vs Q E hr h => ?_)
  · obtain ⟨v, c, st, rfl, _⟩ := h
    rfl
  · obtain ⟨v, c, st, rfl, dv, l6, s8, ok, k⟩ := h
    obtain ⟨q, v1, v2, v3, v4, rfl, hq, d1, d2, d3, d4⟩ := cd_five dv
    refine ⟨_, (pss_one (ps_ret (pe_makeK T.mk_cinit (ok_cinit T) (hr.mono (by decide)) (by rfl) T.gCC T.kb_cinit pass0 (pa_cons (pe_ix ix_tup (pv 0) pe_int (fun _ _ => rfl)) (pa_cons (pe_ix ix_tup (pv 0) pe_int (fun _ _ => rfl)) pa_nil)) (pk_cons (pe_ix ix_tup (pv 0) pe_int (fun _ _ => rfl)) (pk_cons (pe_ix ix_tup (pv 0) pe_int (fun _ _ => rfl)) (pk_cons (pe_ix ix_tup (pv 0) pe_int (fun _ _ => rfl)) pk_nil)))))), ?_⟩
    refine ⟨_, rfl, q, _, 0, _, rfl, rfl, hq, atI_nat (j := 0) rfl, _, rfl, q, _, 1, _, rfl, rfl, hq, atI_nat (j := 1) rfl, ?_⟩
    refine ⟨_, rfl, q, _, 2, _, rfl, rfl, hq, atI_nat (j := 2) rfl, _, rfl, q, _, 3, _, rfl, rfl, hq, atI_nat (j := 3) rfl, _, rfl, q, _, 4, _, rfl, rfl, hq, atI_nat (j := 4) rfl, ?_⟩
    refine ⟨rfl, rfl, fun x dx hx hdx ne => ?_⟩
    have s2 : Same H (upd (upd H dx (.own x)) x (.ins T.CC dx [])) := (same_new hdx).trans (same_new (by rw [upd_ne ne.symm]; exact hx))
    refine ⟨x, dx, st, c, v1, v2, v3, v4, rfl, upd_same, l6, s8, ok, d1.ks s2, d2.ks s2, d3.ks s2, d4.ks s2, fun H' bu hc => ⟨rfl, k _ _ (fun p o e => ?_) hc⟩⟩
    exact bu _ _ (fun z => by subst z; rw [hx] at e; cases e) (s2 _ _ e)
end
end K59

namespace K59
open PySem L2 Wm TL Dv
section
variable {P : Program} {w : World} {K : PySem.W.Frag} {mg : Str → Option Value} {base : Heap}
def sp_back (K : PySem.W.Frag) : Sp := fun vs H Q _ => ∃ (a b : Addr) (xs : List V) (pl : List Pl) (st ds : List Nat), vs = [.ref a, .ref b, .str (numS ds)] ∧ H a = some (.lst xs) ∧ Dts K H xs (pl.map plD) ∧ (∀ p ∈ pl, plOk p) ∧ H b = some (.lst (nV st)) ∧ pl.length = st.length ∧ st.length ≤ 6 ∧ (∀ s ∈ st, s ≤ 8) ∧ Num ds ∧
  ∀ H' q l t zs, Same H H' → H' q = some (.tup [.ref l, t]) → H' l = some (.lst zs) → Dts K H' zs ((backP st ds pl).1.map plD) → (∀ p ∈ (backP st ds pl).1, plOk p) → (backP st ds pl).1.length = st.length → Dt K H' t (tdD (backT st ds pl)) → Q (.ref q) H'
def sp_sent (K : PySem.W.Frag) : Sp := fun vs H Q _ => ∃ (a : Addr) (v : V) (g : Nat) (xs : List V) (pl : List Pl) (st : List Nat) (c : Cd), vs = [.ref a, v, .int (g : Nat)] ∧ H a = some (.lst xs) ∧ Dts K H xs (pl.map plD) ∧ (∀ p ∈ pl, plOk p) ∧ Dt K H v (cdD c) ∧ CdOk st c ∧ pl.length = st.length ∧ st.length ≤ 6 ∧ (∀ s ∈ st, s ≤ 8) ∧ 1 ≤ g ∧ g ≤ 3 ∧
  ∀ H' q l t zs, Same H H' → H' q = some (.tup [.ref l, t]) → H' l = some (.lst zs) → Dts K H' zs ((liftP c pl g).1.map plD) → (∀ p ∈ (liftP c pl g).1, plOk p) → (liftP c pl g).1.length = st.length → Dt K H' t (tdD (liftT c pl g)) → Q (.ref q) H'
theorem fine_lst {n : Nat} {ds : List PyData} (h : ∀ d ∈ ds, Fine n d) : Fine (n + 1) (.list ds) := by
  have q : PyData.canLayAll0 ds = true ∧ PyData.depthAll ds ≤ n := by
    induction ds with
    | nil => simp [PyData.canLayAll0, PyData.depthAll]
    | cons d ds ih =>
      have h1 := h d (by simp)
      have h2 := ih fun y m => h y (List.mem_cons_of_mem _ m)
      simp only [PyData.canLayAll0, PyData.depthAll, h1.1, h2.1, Bool.and_self, true_and]
      have := h1.2
      have := h2.2
      omega
  exact ⟨by simp only [PyData.canLay0]; exact q.1, by simp only [PyData.depth]; have := q.2; omega⟩
theorem ne_nil {H : Hp} {D M : Addr} {ks : List Nat} {Q : VK} (hD : H D = some (.lst (nV ks))) (hM : H M = some (.lst [])) (q : Q (.bl (!decide (ks = []))) H) : rNeD K (.ref D) (.ref M) H Q := by
  refine ⟨_, .list [], .lst (SqL.of hD) (dts_nV ks).toDp, .lst (SqL.of hM) .nil, (fine_lst (n := 0) fun d m => ?_).shaped (by decide), (fine_lst (n := 0) fun d m => by cases m).shaped (by decide), ?_⟩
  · obtain ⟨x, _, rfl⟩ := List.mem_map.mp m
    exact fine_int _
  · cases ks with
    | nil => simpa [PyData.eqv, PyData.eqvAll] using q
    | cons k ks => simpa [PyData.eqv, PyData.eqvAll] using q
theorem any_filter (p q : Nat → Bool) : ∀ xs : List Nat, (xs.filter p).any q = !decide (xs.filter (fun k => p k && q k) = [])
  | [] => rfl
  | x :: xs => by
    have ih := any_filter p q xs
    rw [List.filter_cons, List.filter_cons]
    cases hp : p x with
    | false => simpa using ih
    | true =>
      cases hq : q x with
      | false => simpa [hq] using ih
      | true => simp [hq]
def outI (pl : List Pl) (p : Pl) (n : Nat) : List Nat := (List.range n).filter fun i => decide (pl[i]? = some p)
theorem outI_lt {pl : List Pl} {p : Pl} {n i : Nat} (h : i ∈ outI pl p n) : i < n := List.mem_range.mp (List.mem_filter.mp h).1
theorem outI_len (pl : List Pl) (p : Pl) (n : Nat) : (outI pl p n).length ≤ n := by
  have := List.length_filter_le (fun i => decide (pl[i]? = some p)) (List.range n)
  rw [List.length_range] at this
  exact this
theorem outI_yes {pl : List Pl} {p : Pl} {n : Nat} (h : pl[n]? = some p) : outI pl p (n + 1) = outI pl p n ++ [n] := by
  unfold outI
  rw [List.range_succ, List.filter_append, List.filter_cons, if_pos (decide_eq_true h)]
  rfl
theorem outI_no {pl : List Pl} {p : Pl} {n : Nat} (h : pl[n]? ≠ some p) : outI pl p (n + 1) = outI pl p n := by
  unfold outI
  rw [List.range_succ, List.filter_append, List.filter_cons, if_neg (by simpa using h), List.filter_nil, List.append_nil]
theorem inP_snoc (st : List Nat) (pl : List Pl) (rs : List Nat) (n : Nat) : inP st pl (rs ++ [n]) = (inP st pl rs).set n (.ins (st.getD n 0)) := by
  unfold inP
  rw [List.foldl_append]
  rfl
theorem inP_keep {st : List Nat} {i : Nat} : ∀ {rs : List Nat} {pl : List Pl}, i ∉ rs → (inP st pl rs)[i]? = pl[i]?
  | [], _, _ => rfl
  | r :: rs, pl, h => by
    have h1 : i ≠ r := fun e => h (by rw [e]; exact List.mem_cons_self ..)
    have h2 : i ∉ rs := fun m => h (List.mem_cons_of_mem _ m)
    show (inP st (pl.set r _) rs)[i]? = _
    rw [inP_keep h2, List.getElem?_set_ne (fun e => h1 e.symm)]
theorem ok_back (T : Txt K mg) : FnOk P w K mg base CX0 1 T.a_back T.d_back ["_law_places", "_law_stations", "_law_number_here"] (sp_back K) := by
  refine T.F_back.ok sc_back (fun vs H Q E h => ?_) (fun cdv A outer s H vs Q E hr h => ?_)
  · obtain ⟨a, b, xs, pl, st, ds, rfl, _⟩ := h
    rfl
  · obtain ⟨a, b, xs, pl, st, ds, rfl, ha, hd, okp, hb, lp, l6, s8, N, k⟩ := h
    have lx := hd.len
    rw [List.length_map] at lx
    have okO : plOk (.out ds) := N
    have so3 : ∀ n, n < st.length → st.getD n 0 ≤ 8 := fun n hn => s8 _ (List.mem_of_getElem? (getD_at hn))
    refine ⟨_, (pss_cons (ps_asg (pe_tup (pa_cons (pe_callTy call_list_of (by rfl) T.z_list (by decide +kernel) (pa_cons (pv 0) pa_nil)) (pa_cons (pe_lst pa_nil) (pa_cons (pe_lst pa_nil) pa_nil)))) (pg_tup rfl (pgs_cons (pg_name (i := 0) sc_back.nd rfl (Or.inr rfl)) (pgs_cons (pg_name (i := 3) sc_back.nd rfl (Or.inl rfl)) (pgs_cons (pg_name (i := 4) sc_back.nd rfl (Or.inl rfl)) pgs_nil)))))
      (pss_cons (ps_for PassesOwn.never rfl (pi_range1 (by rfl) T.z_range (pa_cons (pe_callB call_len_seq (by rfl) T.z_len PySem.boot_len (pa_cons (pv 0) pa_nil)) pa_nil)) (pg_name (i := 5) sc_back.nd rfl (Or.inl rfl))
        (pss_one (ps_if (pt_cmpR (op_eqD hr.units) (pe_ix ix_list (pv 0) (pv 5) (fun _ _ => rfl)) (pe_tup (pa_cons pe_str (pa_cons (pv 2) pa_nil))) (nomark _))
          (pss_cons (ps_asg (pe_tup (pa_cons pe_str (pa_cons (pe_ix ix_list (pv 1) (pv 5) (fun _ _ => rfl)) pa_nil))) (pg_sub (pv 0) (pv 5) set_list))
          (pss_one (ps_expr (pe_bm PySem.F.plainAttrs_list PySem.F.slot_list_append PySem.F.type_list_append mt_append (pv 3) (pa_cons (pv 5) pa_nil)))))
          pss_nil)))
      (pss_cons (ps_for PassesOwn.never rfl (pi_range1 (by rfl) T.z_range (pa_cons (pe_callB call_len_seq (by rfl) T.z_len PySem.boot_len (pa_cons (pv 0) pa_nil)) pa_nil)) (pg_name (i := 5) sc_back.nd rfl (Or.inl rfl))
        (pss_one (ps_if (PW.pt (pw_and (pt_cmpR op_eq (pe_ix ix_tup (pe_ix ix_list (pv 0) (pv 5) (fun _ _ => rfl)) pe_int (fun _ _ => rfl)) pe_str (nomark _)) (pw_and1 (pt_cmpR op_ne (pe_ix ix_tup (pe_ix ix_list (pv 0) (pv 5) (fun _ _ => rfl)) pe_int (fun _ _ => rfl)) (pe_ix ix_list (pv 1) (pv 5) (fun _ _ => rfl)) (nomark _)))))
          (pss_cons (ps_set (i := 6) sc_back.nd rfl (Or.inr rfl) (pe_ix ix_tup (pe_ix ix_list (pv 0) (pv 5) (fun _ _ => rfl)) pe_int (fun _ _ => rfl)))
          (pss_one (ps_if (pt_cmpR (op_neD hr.units) (pe_lc (own := [("_law_k", 7)]) (g := gName 7) rfl sc_back.nd (pi_range1 (by rfl) T.z_range (pa_cons (pe_callB call_len_seq (by rfl) T.z_len PySem.boot_len (pa_cons (pv 0) pa_nil)) pa_nil)) (blkOk_by (own := [("_law_k", 7)]) (N := nm_back) (sc := (defScope s_back)) (by decide +kernel)) (fun _ _ _ _ _ => pg_name (i := 7) sc_back.nd rfl (Or.inl rfl)) (fun _ _ _ _ _ => (pts_one (PW.pt (pw_and (pt_cmpR (show OpR _ _ (rEqD K) from op_eqD hr.units) (pe_ix (show IxR _ (rIxL K) from ix_list) (pv 0) (pv 7) (fun _ _ => rfl)) (pe_tup (pa_cons pe_str (pa_cons (pv 6) pa_nil))) (nomark _)) (pw_and1 (pt_cmpR op_eq (pe_ix (show IxR _ (rIxL K) from ix_list) (pv 1) (pv 7) (fun _ _ => rfl)) (pv 6) (nomark _))))))) (fun _ _ _ _ _ => (pv 7))) (pe_lst pa_nil) (nomark _))
            (pss_cons (ps_asg (pe_tup (pa_cons pe_str (pa_cons (pe_ix ix_list (pv 1) (pv 5) (fun _ _ => rfl)) pa_nil))) (pg_sub (pv 0) (pv 5) set_list))
            (pss_one (ps_expr (pe_bm PySem.F.plainAttrs_list PySem.F.slot_list_append PySem.F.type_list_append mt_append (pv 4) (pa_cons (pv 5) pa_nil)))))
            pss_nil)))
          pss_nil)))
      (pss_one (ps_ret (pe_tup (pa_cons (pv 0) (pa_cons (pe_tup (pa_cons (pe_callTy call_tuple_of (by rfl) T.z_tuple (by decide +kernel) (pa_cons (pv 3) pa_nil)) (pa_cons (pe_callTy call_tuple_of (by rfl) T.z_tuple (by decide +kernel) (pa_cons (pv 4) pa_nil)) pa_nil))) pa_nil)))))))), ?_⟩
    refine ⟨_, rfl, a, xs, rfl, .inl (SqL.of ha), fun l hl => ?_⟩
    have s1 := same_new (o := .lst xs) hl
    have hl1 : upd H l (.lst xs) l = some (.lst xs) := upd_same
    generalize upd H l (.lst xs) = H1 at s1 hl1 ⊢
    refine ⟨by show 0 ≤ sizeLine; decide, fun R hR => ?_⟩
    have s2 := same_new (o := .lst []) hR
    have hR2 : upd H1 R (.lst []) R = some (.lst []) := upd_same
    have nlR : l ≠ R := fun e => by subst e; rw [hR] at hl1; cases hl1
    have hRH := none_of s1 hR
    generalize upd H1 R (.lst []) = H2 at s2 hR2 ⊢
    refine ⟨by show 0 ≤ sizeLine; decide, fun M hM => ?_⟩
    have s3 := same_new (o := .lst []) hM
    have hM3 : upd H2 M (.lst []) M = some (.lst []) := upd_same
    have nRM : R ≠ M := fun e => by subst e; rw [hM] at hR2; cases hR2
    have nlM : l ≠ M := fun e => by subst e; rw [s2 _ _ hl1] at hM; cases hM
    have hMH := none_of (s1.trans s2) hM
    generalize upd H2 M (.lst []) = H3 at s3 hM3 ⊢
    refine ⟨by show 3 ≤ sizeLine; decide, fun u hu => ?_⟩
    have s4 := same_new (o := .tup [.ref l, .ref R, .ref M]) hu
    refine ⟨u, _, rfl, SqT.of upd_same, rfl, _, _, rfl, _, _, rfl, _, _, rfl, rfl, ?_⟩
    have hl4 := s4 _ _ (s3 _ _ (s2 _ _ hl1))
    have hR4 := s4 _ _ (s3 _ _ hR2)
    have hM4 := s4 _ _ hM3
    have sA := (s1.trans s2).trans (s3.trans s4)
    generalize upd H3 u (.tup [.ref l, .ref R, .ref M]) = H4 at sA hl4 hR4 hM4 ⊢
    clear s1 hl1 s2 hR2 hR hM3 s3 s4 hu hM
    refine ⟨_, rfl, l, _, rfl, .inl (SqL.of hl4), _, rfl, by omega, by omega, ?_⟩
    rw [Int.toNat_natCast]
    refine for_range (fun i σ A => (∃ v5 v6 v7, σ = [some (.ref l), some (.ref b), some (.str (numS ds)), some (.ref R), some (.ref M), v5, v6, v7]) ∧ Same H A ∧ A M = some (.lst []) ∧ A R = some (.lst (nV (outI pl (.out ds) i))) ∧ (∀ q ∈ inP st pl (outI pl (.out ds) i), plOk q) ∧ ∃ zs, A l = some (.lst zs) ∧ Dts K A zs ((inP st pl (outI pl (.out ds) i)).map plD))
      ⟨⟨none, none, none, rfl⟩, sA, hM4, hR4, okp, xs, hl4, hd.ks sA⟩ (fun i σ A hi hP => ?_) (fun σ A hP => ?_)
    · obtain ⟨⟨v5, v6, v7, rfl⟩, sA, hMA, hRA, okA, zs, hlA, dA⟩ := hP
      rw [Int.zero_add]
      have hz := List.getElem?_eq_getElem (l := pl) (i := i) (by omega)
      generalize pl[i]'(by omega) = z at hz
      have hzi : (inP st pl (outI pl (.out ds) i))[i]? = some z := by rw [inP_keep (fun m => absurd (outI_lt m) (by omega))]; exact hz
      obtain ⟨zv, hzv, dz⟩ := pls_get dA hzi
      have lz := dA.len
      rw [List.length_map, inP_len] at lz
      refine ⟨_, rfl, _, rfl, l, _, _, _, rfl, rfl, SqL.of hlA, atI_nat hzv, _, rfl, by show 2 ≤ sizeLine; decide, fun u hu => ?_⟩
      have sU := same_new (o := .tup [.str "out", .str (numS ds)]) hu
      refine ⟨_, _, (dz.ks sU).toDp, (dt_pl (p := .out ds) upd_same).toDp, (fine_pl (okA z (List.mem_of_getElem? hzi))).shaped (by decide), (fine_pl okO).shaped (by decide), _, rfl, ?_⟩
      have sB := sA.trans sU
      have hMB := sU _ _ hMA
      have hRB := sU _ _ hRA
      have hlB := sU _ _ hlA
      have dB := dA.ks sU
      generalize upd A u (.tup [.str "out", .str (numS ds)]) = B at sB hMB hRB hlB dB ⊢
      have ol := outI_len pl (.out ds) i
      rw [eqv_pl]
      refine ite2 (fun c => ?_) (fun c => ?_)
      · have c : z = .out ds := of_decide_eq_true c
        subst c
        refine ⟨_, rfl, _, rfl, b, _, _, _, rfl, rfl, SqL.of (sB _ _ hb), atI_nat (nV_at (getD_at (xs := st) (i := i) (by omega))), by show 2 ≤ sizeLine; decide, fun u2 hu2 => ?_⟩
        obtain ⟨a1, a2, a3, a4, a5⟩ := put_pl (i := i) (p := .ins (st.getD i 0)) sB hl hlB dB hu2
        refine ⟨_, rfl, _, rfl, l, _, _, i, rfl, rfl, a2, ixN_nat (by omega), ?_⟩
        have hRZ := a5 _ _ nlR.symm hRB
        have hMZ := a5 _ _ nlM.symm hMB
        refine ⟨_, rfl, .inl ⟨rfl, _, SqL.of hRZ⟩, _, rfl, R, _, _, rfl, rfl, hRZ, by rw [nV_len]; exact small1000 (by omega), ?_⟩
        rw [outI_yes hz, inP_snoc]
        have en : nV (outI pl (.out ds) i) ++ [V.int ((i : Nat) : Int)] = nV (outI pl (.out ds) i ++ [i]) := by unfold nV; rw [List.map_append]; rfl
        rw [en]
        exact ⟨⟨_, _, _, rfl⟩, same_mut a1 hRH, by rw [upd_ne nRM.symm]; exact hMZ, upd_same, ok_set okA (so3 i (by omega)), _, by rw [upd_ne nlR]; exact a3, a4.k (Kt.lst hRZ)⟩
      · have c : ¬ z = .out ds := fun e => c (decide_eq_true e)
        rw [outI_no (by rw [hz]; exact fun e => c (Option.some.inj e))]
        exact ⟨⟨_, _, _, rfl⟩, sB, hMB, hRB, okA, _, hlB, dB⟩
    · obtain ⟨⟨v5, v6, v7, rfl⟩, sA, hMA, hRA, okA, zs, hlA, dA⟩ := hP
      have e1 : backP st ds pl = homeF st (inP st pl (atL pl (.out ds))) st.length := rfl
      have e2 : backT st ds pl = .back (atL pl (.out ds)) (backP st ds pl).2 := rfl
      have e3 : outI pl (.out ds) xs.length = atL pl (.out ds) := by rw [lx]; rfl
      rw [e2, e1] at k
      rw [e3] at hRA okA dA
      have rl := atL_len pl (.out ds)
      have lq := inP_len st (atL pl (.out ds)) pl
      generalize inP st pl (atL pl (.out ds)) = pl1 at okA dA k lq
      generalize atL pl (.out ds) = rs at hRA k rl
      have lz := dA.len
      rw [List.length_map] at lz
      refine ⟨_, rfl, l, _, rfl, .inl (SqL.of hlA), _, rfl, by omega, by omega, ?_⟩
      rw [Int.toNat_natCast]
      refine for_range (fun i σ A => (∃ v5 v6 v7, σ = [some (.ref l), some (.ref b), some (.str (numS ds)), some (.ref R), some (.ref M), v5, v6, v7]) ∧ Same H A ∧ A R = some (.lst (nV rs)) ∧ A M = some (.lst (nV (homeF st pl1 i).2)) ∧ (∀ q ∈ (homeF st pl1 i).1, plOk q) ∧ ∃ zs, A l = some (.lst zs) ∧ Dts K A zs ((homeF st pl1 i).1.map plD))
        ⟨⟨v5, v6, v7, rfl⟩, sA, hRA, hMA, okA, zs, hlA, dA⟩ (fun i σ A hi hP => ?_) (fun σ A hP => ?_)
      · obtain ⟨⟨v5, v6, v7, rfl⟩, sA, hRA, hMA, okA, zs, hlA, dA⟩ := hP
        rw [Int.zero_add]
        have hl0 := homeF_len st pl1 i
        rw [homeF_succ]
        unfold homeS
        generalize homeF st pl1 i = x at hl0 hMA okA dA ⊢
        obtain ⟨px, hx⟩ := x
        have hl1 : px.length = pl1.length := hl0.1
        have hl2 : hx.length ≤ i := hl0.2
        have okA : ∀ q ∈ px, plOk q := okA
        have dA : Dts K A zs (px.map plD) := dA
        have hMA : A M = some (.lst (nV hx)) := hMA
        have lz := dA.len
        rw [List.length_map] at lz
        have hz := List.getElem?_eq_getElem (l := px) (i := i) (by omega)
        generalize px[i]'(by omega) = z at hz
        obtain ⟨zv, hzv, dz⟩ := pls_get dA hz
        obtain ⟨z3, rfl, hz3⟩ := pl_two dz
        refine ⟨_, rfl, _, rfl, l, _, _, _, rfl, rfl, SqL.of hlA, atI_nat hzv, z3, _, 0, _, rfl, rfl, hz3, atI_nat (j := 0) rfl, rfl, _, rfl, ?_⟩
        rw [eq_in]
        have no : homeB st px i = false → (∀ v5 v6 v7 : Option V, (∃ v5' v6' v7', ([some (.ref l), some (.ref b), some (.str (numS ds)), some (.ref R), some (.ref M), v5, v6, v7] : L2.St) = [some (.ref l), some (.ref b), some (.str (numS ds)), some (.ref R), some (.ref M), v5', v6', v7'])) := fun _ _ _ _ => ⟨_, _, _, rfl⟩
        refine ite2 (fun c => ?_) (fun c => ?_)
        · cases z with
          | out o => cases c
          | ins m =>
            have m8 : m ≤ 8 := okA _ (List.mem_of_getElem? hz)
            have hz3 : SqT K A z3 [.str "in", .int (m : Nat)] := hz3
            have eg := getD_at (xs := st) (i := i) (by omega)
            have eB : homeB st px i = (!decide (m = st.getD i 0) && !decide (((List.range px.length).filter fun k => decide (px[k]? = some (.ins m)) && decide (st.getD k 0 = m)) = [])) := by
              unfold homeB
              rw [hz]
              show (decide (m ≠ _) && (atL px (.ins m)).any _) = _
              unfold atL
              rw [any_filter]
              congr 1
              by_cases e : m = st.getD i 0 <;> simp [e]
            refine ⟨_, rfl, _, rfl, l, _, _, _, rfl, rfl, SqL.of hlA, atI_nat hzv, z3, _, 1, _, rfl, rfl, hz3, atI_nat (j := 1) rfl, _, rfl, _, rfl, b, _, _, _, rfl, rfl, SqL.of (sA _ _ hb), atI_nat (nV_at eg), rfl, _, rfl, ?_⟩
            have ed : (!decide (V.int ((m : Nat) : Int) = V.int ((st.getD i 0 : Nat) : Int))) = !decide (m = st.getD i 0) := by
              congr 1
              exact decide_eq_decide.mpr ⟨fun e => by have := V.int.inj e; omega, fun e => by rw [e]⟩
            show if (!decide (V.int ((m : Nat) : Int) = V.int ((st.getD i 0 : Nat) : Int))) = true then _ else _
            rw [ed]
            refine ite2 (fun c2 => ?_) (fun c2 => ?_)
            · rw [c2, Bool.true_and] at eB
              refine ⟨_, rfl, _, rfl, l, _, _, _, rfl, rfl, SqL.of hlA, atI_nat hzv, z3, _, 1, _, rfl, rfl, hz3, atI_nat (j := 1) rfl, ?_⟩
              refine ⟨_, rfl, l, _, rfl, .inl (SqL.of hlA), _, rfl, by omega, by omega, fun D hD => ?_⟩
              rw [Int.toNat_natCast]
              refine lc_range (fun j B => Same A B ∧ B D = some (.lst (nV ((List.range j).filter fun k => decide (px[k]? = some (.ins m)) && decide (st.getD k 0 = m))))) ⟨same_new hD, upd_same⟩ (fun j B hj hP => ?_) (fun B hP => ?_)
              · obtain ⟨sB, hB⟩ := hP
                rw [Int.zero_add]
                have hw := List.getElem?_eq_getElem (l := px) (i := j) (by omega)
                generalize px[j]'(by omega) = w at hw
                obtain ⟨wv, hwv, dw⟩ := pls_get dA hw
                have ej := getD_at (xs := st) (i := j) (by omega)
                have fl : ((List.range j).filter fun k => decide (px[k]? = some (.ins m)) && decide (st.getD k 0 = m)).length ≤ j := by
                  have := List.length_filter_le (fun k => decide (px[k]? = some (.ins m)) && decide (st.getD k 0 = m)) (List.range j)
                  rw [List.length_range] at this
                  exact this
                refine ⟨rfl, _, rfl, _, rfl, l, _, _, _, rfl, rfl, SqL.of (sB _ _ hlA), atI_nat hwv, _, rfl, by show 2 ≤ sizeLine; decide, fun u hu => ?_⟩
                have sU := same_new (o := .tup [.str "in", .int (m : Nat)]) hu
                have dI : Dt K (upd B u (.tup [.str "in", .int (m : Nat)])) (.ref u) (plD (.ins m)) := dt_pl (p := .ins m) upd_same
                refine ⟨_, _, ((dw.ks sB).ks sU).toDp, dI.toDp, (fine_pl (okA w (List.mem_of_getElem? hw))).shaped (by decide), (fine_pl (p := .ins m) m8).shaped (by decide), _, rfl, ?_⟩
                have sC := sB.trans sU
                have hC := sU _ _ hB
                generalize upd B u (.tup [.str "in", .int (m : Nat)]) = C at sC hC ⊢
                rw [eqv_pl, List.range_succ, List.filter_append, List.filter_cons, List.filter_nil, hw]
                have noj : (decide (some w = some (Pl.ins m)) && decide (st.getD j 0 = m)) = false → C D = some (.lst (nV (((List.range j).filter fun k => decide (px[k]? = some (.ins m)) && decide (st.getD k 0 = m)) ++ if (decide (some w = some (Pl.ins m)) && decide (st.getD j 0 = m)) = true then [j] else []))) := fun e => by
                  rw [e, if_neg (by decide), List.append_nil]
                  exact hC
                refine ite2 (fun c3 => ?_) (fun c3 => ?_)
                · have c3 : w = .ins m := of_decide_eq_true c3
                  subst c3
                  refine ⟨_, rfl, _, rfl, b, _, _, _, rfl, rfl, SqL.of (sC _ _ (sA _ _ hb)), atI_nat (nV_at ej), _, rfl, rfl, _, rfl, ite2 (fun c4 => ?_) (fun c4 => ?_)⟩
                  · have c4 : st.getD j 0 = m := by have := V.int.inj (of_decide_eq_true c4); omega
                    refine ⟨_, rfl, _, hC, by rw [nV_len]; exact small1000 (by omega), same_mut sC hD, ?_⟩
                    rw [upd_same, if_pos (by rw [c4]; simp)]
                    unfold nV
                    rw [List.map_append]
                    rfl
                  · have c4 : ¬ st.getD j 0 = m := fun z => c4 (decide_eq_true (by rw [z]))
                    exact ⟨sC, noj (by rw [decide_eq_false c4, Bool.and_false])⟩
                · have c3 : ¬ w = .ins m := fun z => c3 (decide_eq_true z)
                  exact ⟨sC, noj (by rw [decide_eq_false (fun z => c3 (Option.some.inj z)), Bool.false_and])⟩
              · obtain ⟨sB, hB⟩ := hP
                rw [lz] at hB
                refine ⟨by show 0 ≤ sizeLine; decide, fun F hF => ?_⟩
                have sF := same_new (o := .lst []) hF
                refine ne_nil (sF _ _ hB) upd_same ⟨_, rfl, ?_⟩
                have sC := sB.trans sF
                generalize upd B F (.lst []) = C at sC ⊢
                rw [← eB]
                have sHC := sA.trans sC
                have hlC := sC _ _ hlA
                have hMC := sC _ _ hMA
                have hRC := sC _ _ hRA
                have dC := dA.ks sC
                refine ite2 (fun c5 => ?_) (fun c5 => ?_)
                · rw [if_pos c5]
                  refine ⟨_, rfl, _, rfl, b, _, _, _, rfl, rfl, SqL.of (sHC _ _ hb), atI_nat (nV_at eg), by show 2 ≤ sizeLine; decide, fun u2 hu2 => ?_⟩
                  obtain ⟨a1, a2, a3, a4, a5⟩ := put_pl (i := i) (p := .ins (st.getD i 0)) sHC hl hlC dC hu2
                  refine ⟨_, rfl, _, rfl, l, _, _, i, rfl, rfl, a2, ixN_nat (by omega), ?_⟩
                  have hRZ := a5 _ _ nlR.symm hRC
                  have hMZ := a5 _ _ nlM.symm hMC
                  refine ⟨_, rfl, .inl ⟨rfl, _, SqL.of hMZ⟩, _, rfl, M, _, _, rfl, rfl, hMZ, by rw [nV_len]; exact small1000 (by omega), ?_⟩
                  have en : nV hx ++ [V.int ((i : Nat) : Int)] = nV (hx ++ [i]) := by unfold nV; rw [List.map_append]; rfl
                  rw [en]
                  exact ⟨⟨_, _, _, rfl⟩, same_mut a1 hMH, by rw [upd_ne nRM]; exact hRZ, upd_same, ok_set okA (so3 i (by omega)), _, by rw [upd_ne nlM]; exact a3, a4.k (Kt.lst hMZ)⟩
                · rw [if_neg c5]
                  exact ⟨⟨_, _, _, rfl⟩, sHC, hRC, hMC, okA, _, hlC, dC⟩
            · have eB : homeB st px i = false := by rw [eB, show (!decide (m = st.getD i 0)) = false by simpa using c2, Bool.false_and]
              rw [eB]
              exact ⟨⟨_, _, _, rfl⟩, sA, hRA, hMA, okA, _, hlA, dA⟩
        · cases z with
          | ins m => exact absurd rfl c
          | out o =>
            have eB : homeB st px i = false := by unfold homeB; rw [hz]
            rw [eB]
            exact ⟨⟨_, _, _, rfl⟩, sA, hRA, hMA, okA, _, hlA, dA⟩
      · obtain ⟨⟨v5, v6, v7, rfl⟩, sA, hRA, hMA, okA, zs2, hlA, dA⟩ := hP
        have en : zs.length = st.length := by omega
        rw [en] at hMA okA dA
        have hl0 := homeF_len st pl1 st.length
        generalize homeF st pl1 st.length = x at hMA okA dA k hl0
        obtain ⟨px, hx⟩ := x
        have hl1 : px.length = pl1.length := hl0.1
        refine ⟨_, rfl, _, rfl, R, _, rfl, .inl ⟨SqL.of hRA, fun u1 hu1 => ?_⟩⟩
        have sU1 := same_new (o := .tup (nV rs)) hu1
        refine ⟨_, rfl, M, _, rfl, .inl ⟨SqL.of (sU1 _ _ hMA), fun u2 hu2 => ?_⟩⟩
        have sU2 := same_new (o := .tup (nV hx)) hu2
        have hu22 : upd (upd A u1 (.tup (nV rs))) u2 (.tup (nV hx)) u2 = some (.tup (nV hx)) := upd_same
        have hu12 := sU2 u1 (.tup (nV rs)) upd_same
        have sU := sU1.trans sU2
        generalize upd (upd A u1 (.tup (nV rs))) u2 (.tup (nV hx)) = A3 at hu22 hu12 sU ⊢
        refine ⟨by show 2 ≤ sizeLine; decide, fun u3 hu3 => ?_⟩
        have sU3 := same_new (o := .tup [.ref u1, .ref u2]) hu3
        have hu33 : upd A3 u3 (.tup [.ref u1, .ref u2]) u3 = some (.tup [.ref u1, .ref u2]) := upd_same
        have d12 : Dt K (upd A3 u3 (.tup [.ref u1, .ref u2])) (.ref u3) (tdD (.back rs hx)) := dt_tup hu33 (.cons ((dt_iD hu12).ks sU3) (.cons ((dt_iD hu22).ks sU3) .nil))
        have sZ := sU.trans sU3
        generalize upd A3 u3 (.tup [.ref u1, .ref u2]) = A4 at d12 sZ ⊢
        refine ⟨by show 2 ≤ sizeLine; decide, fun u4 hu4 => ?_⟩
        have sU4 := same_new (o := .tup [.ref l, .ref u3]) hu4
        exact k _ _ l (.ref u3) zs2 ((sA.trans sZ).trans sU4) upd_same (sU4 _ _ (sZ _ _ hlA)) ((dA.ks sZ).ks sU4) okA (by show px.length = _; omega) (d12.ks sU4)
end
end K59

namespace K59
open PySem L2 Wm TL Dv
section
variable {P : Program} {w : World} {K : PySem.W.Frag} {mg : Str → Option Value} {base : Heap}
theorem others_nil {px : List Pl} {c : Nat} {z : Pl} (h : px[c]? = some z) : decide (((List.range px.length).filter fun k => !decide (k = c) && decide (px[k]? = some z)) = []) = !decide (1 < (atL px z).length) := by
  have hc : c < px.length := (List.getElem?_eq_some_iff.mp h).1
  have e1 : ((List.range px.length).filter fun k => !decide (k = c) && decide (px[k]? = some z)) = (atL px z).filter fun k => !decide (k = c) := by
    unfold atL
    rw [List.filter_filter]
  have nd : (atL px z).Nodup := (List.nodup_range).filter _
  have mc : c ∈ atL px z := List.mem_filter.mpr ⟨List.mem_range.mpr hc, decide_eq_true h⟩
  have e2 : ((atL px z).filter fun k => !decide (k = c)) = (atL px z).erase c := by
    rw [nd.erase_eq_filter]
    refine List.filter_congr fun k _ => ?_
    by_cases e : k = c <;> simp [e, bne]
  rw [e1, e2]
  have le := List.length_erase_of_mem mc
  have : (atL px z).erase c = [] ↔ ¬ 1 < (atL px z).length := by
    rw [← List.length_eq_zero_iff, le]
    have := List.length_pos_of_mem mc
    omega
  by_cases e : 1 < (atL px z).length
  · rw [decide_eq_true e, decide_eq_false (fun z => (this.mp z) e)]
    rfl
  · rw [decide_eq_false e, decide_eq_true (this.mpr e)]
    rfl
theorem any_pl (px : List Pl) (p : Pl) : (!(px.map plD).any fun z => PyData.eqv z (plD p)) = decide (atL px p = []) := by
  have e : ((px.map plD).any fun z => PyData.eqv z (plD p)) = decide (p ∈ px) := by
    induction px with
    | nil => simp
    | cons q px ih =>
      rw [List.map_cons, List.any_cons, ih, eqv_pl]
      by_cases e : q = p
      · subst e; simp
      · have : ¬ p = q := fun z => e z.symm
        simp [e, this]
  rw [e]
  have : atL px p = [] ↔ p ∉ px := by
    unfold atL
    rw [List.filter_eq_nil_iff]
    constructor
    · intro h m
      obtain ⟨i, hi, e⟩ := List.getElem_of_mem m
      exact h i (List.mem_range.mpr hi) (decide_eq_true (by rw [List.getElem?_eq_getElem hi, e]))
    · intro h i _ e
      exact h (List.mem_of_getElem? (of_decide_eq_true e))
  by_cases c : p ∈ px
  · rw [decide_eq_true c, decide_eq_false (fun z => this.mp z c)]; rfl
  · rw [decide_eq_false c, decide_eq_true (this.mpr c)]; rfl
theorem plain_pl (p : Pl) : (plD p).plain = true := by cases p <;> simp [plD, PyData.plain, PyData.plainAll]
theorem plain_pls (px : List Pl) : PyData.plainAll (px.map plD) = true := by
  induction px with
  | nil => simp [PyData.plainAll]
  | cons q px ih =>
    rw [List.map_cons]
    simp only [PyData.plainAll, plain_pl, ih, Bool.and_self]
theorem count_range (p : Pl) : ∀ (px : List Pl) (n : Nat), (px.countP fun q => decide (q = p)) = ((List.range' n px.length).filter fun i => decide (px[i - n]? = some p)).length
  | [], _ => rfl
  | q :: px, n => by
    have ih := count_range p px (n + 1)
    rw [List.length_cons, List.range'_succ, List.filter_cons, List.countP_cons, ih, Nat.sub_self]
    have e : ((List.range' (n + 1) px.length).filter fun i => decide ((q :: px)[i - n]? = some p)) = ((List.range' (n + 1) px.length).filter fun i => decide (px[i - (n + 1)]? = some p)) := by
      refine List.filter_congr fun i m => ?_
      have := (List.mem_range'_1.mp m).1
      rw [show i - n = (i - (n + 1)) + 1 by omega, List.getElem?_cons_succ]
    rw [e]
    by_cases c : q = p
    · subst c; simp
    · simp [c]
theorem count_pl (px : List Pl) (p : Pl) : ((px.map plD).countP fun z => PyData.eqv z (plD p)) = (atL px p).length := by
  rw [List.countP_map]
  have e : ((fun z => PyData.eqv z (plD p)) ∘ plD) = fun q => decide (q = p) := funext fun q => eqv_pl q p
  rw [e, count_range p px 0]
  unfold atL
  rw [List.range_eq_range']
  rfl
theorem lay_pls {px : List Pl} (h : ∀ p ∈ px, plOk p) : PyData.canLayAll0 (px.map plD) = true := by
  induction px with
  | nil => simp [PyData.canLayAll0]
  | cons q px ih =>
    have h1 := (fine_pl (h q (List.mem_cons_self ..))).1
    have h2 := ih fun p m => h p (List.mem_cons_of_mem _ m)
    rw [List.map_cons]
    simp only [PyData.canLayAll0, h1, h2, Bool.and_self]
theorem goL_yes {pl : List Pl} {order : List Nat} {k i n : Nat} (h : order[i]? = some n) (a : isIn pl n = true) (l : (goL pl (order.take i) k).length < k) : goL pl (order.take (i + 1)) k = goL pl (order.take i) k ++ [n] := by
  unfold goL at *
  rw [tk_succ' h, List.filter_append, List.filter_cons, if_pos a, List.filter_nil]
  generalize (order.take i).filter (isIn pl) = xs at l ⊢
  rw [List.length_take] at l
  rw [List.take_of_length_le (by rw [List.length_append]; show xs.length + 1 ≤ k; omega), List.take_of_length_le (by omega)]
theorem goL_no {pl : List Pl} {order : List Nat} {k i n : Nat} (h : order[i]? = some n) (a : isIn pl n = false ∨ ¬ (goL pl (order.take i) k).length < k) : goL pl (order.take (i + 1)) k = goL pl (order.take i) k := by
  unfold goL at *
  rw [tk_succ' h, List.filter_append, List.filter_cons, List.filter_nil]
  generalize (order.take i).filter (isIn pl) = xs at a ⊢
  rw [List.length_take] at a
  cases e : isIn pl n with
  | false => rw [if_neg (by decide), List.append_nil]
  | true =>
    rw [e] at a
    have : k ≤ xs.length := by
      rcases a with a | a
      · cases a
      · omega
    rw [if_pos rfl, List.take_append_of_le_length this]
theorem goL_len (pl : List Pl) (order : List Nat) (k : Nat) : (goL pl order k).length ≤ order.length := by
  unfold goL
  have := List.length_filter_le (isIn pl) order
  rw [List.length_take]
  omega
theorem ok_sent (T : Txt K mg) : FnOk P w K mg base CX0 1 T.a_sent T.d_sent ["_law_places", "_law_card", "_law_grade"] (sp_sent K) := by
  refine T.F_sent.ok sc_sent (fun vs H Q E h => ?_) (fun cdv A outer s H vs Q E hr h => ?_)
  · obtain ⟨a, v, g, xs, pl, st, c, rfl, _⟩ := h
    rfl
  · obtain ⟨a, v, g, xs, pl, st, c, rfl, ha, hd, okp, dv, cok, lp, l6, s8, g1, g3, k⟩ := h
    have lx := hd.len
    rw [List.length_map] at lx
    obtain ⟨cq, v1, v2, v3, v4, rfl, hcq, e1, e2, e3, e4⟩ := cd_five dv
    obtain ⟨q1, rfl, h1⟩ := dt_ints e1
    obtain ⟨q2, rfl, h2⟩ := dt_ints e2
    obtain ⟨q3, rfl, h3⟩ := dt_ints e3
    obtain ⟨q4, ms, rfl, h4, hm⟩ := e4.inv
    have oc : plOk (.out c.ds) := cok.num
    refine ⟨_, (pss_cons (ps_asg (pv 1) (pg_tup rfl (pgs_cons (pg_name (i := 3) sc_sent.nd rfl (Or.inl rfl)) (pgs_cons (pg_name (i := 4) sc_sent.nd rfl (Or.inl rfl)) (pgs_cons (pg_name (i := 5) sc_sent.nd rfl (Or.inl rfl)) (pgs_cons (pg_name (i := 6) sc_sent.nd rfl (Or.inl rfl)) (pgs_cons (pg_name (i := 7) sc_sent.nd rfl (Or.inl rfl)) pgs_nil)))))))
      (pss_cons (ps_asg (pe_tup (pa_cons (pe_callTy call_list_of (by rfl) T.z_list (by decide +kernel) (pa_cons (pv 0) pa_nil)) (pa_cons (pe_lst pa_nil) (pa_cons (pe_lst pa_nil) pa_nil)))) (pg_tup rfl (pgs_cons (pg_name (i := 0) sc_sent.nd rfl (Or.inr rfl)) (pgs_cons (pg_name (i := 8) sc_sent.nd rfl (Or.inl rfl)) (pgs_cons (pg_name (i := 9) sc_sent.nd rfl (Or.inl rfl)) pgs_nil)))))
      (pss_cons (ps_for PassesOwn.never rfl (pi_tup (pv 4)) (pg_name (i := 10) sc_sent.nd rfl (Or.inr rfl))
        (pss_one (ps_if (PW.pt (pw_and (pt_cmpR op_eq (pe_ix ix_tup (pe_ix ix_list (pv 0) (pv 10) (fun _ _ => rfl)) pe_int (fun _ _ => rfl)) pe_str (nomark _)) (pw_and1 (pt_cmpR op_lt (pe_callB call_len_seq (by rfl) T.z_len PySem.boot_len (pa_cons (pv 8) pa_nil)) (pe_ix ix_tup (pv 5) (pe_op op_sub (pv 2) pe_int) (fun _ _ => rfl)) (nomark _)))))
          (pss_one (ps_expr (pe_bm PySem.F.plainAttrs_list PySem.F.slot_list_append PySem.F.type_list_append mt_append (pv 8) (pa_cons (pv 10) pa_nil))))
          pss_nil)))
      (pss_cons (ps_for PassesOwn.never rfl (pi_list (pv 8)) (pg_name (i := 10) sc_sent.nd rfl (Or.inr rfl))
        (pss_one (ps_asg (pe_tup (pa_cons pe_str (pa_cons (pv 3) pa_nil))) (pg_sub (pv 0) (pv 10) set_list))))
      (pss_cons (ps_for PassesOwn.never rfl (pi_tup (pv 7)) (pg_tup rfl (pgs_cons (pg_name (i := 10) sc_sent.nd rfl (Or.inr rfl)) (pgs_cons (pg_name (i := 11) sc_sent.nd rfl (Or.inl rfl)) pgs_nil)))
        (pss_cons (ps_setLc (i := 12) (own := [("_law_k", 13)]) (g := gName 13) rfl sc_sent.nd rfl rfl (sw_true rfl rfl rfl (by decide +kernel)) (pi_range1 (by rfl) T.z_range (pa_cons (pe_callB call_len_seq (by rfl) T.z_len PySem.boot_len (pa_cons (pv 0) pa_nil)) pa_nil)) (blkOk_by (own := [("_law_k", 13)]) (N := nm_sent) (sc := (defScope s_sent)) (by decide +kernel)) (fun _ _ _ _ _ => pg_name (i := 13) sc_sent.nd rfl (Or.inl rfl)) (fun _ _ _ _ _ => (pts_one (PW.pt (pw_and (pt_cmpR op_ne (pv 13) (pv 10) (nomark _)) (pw_and1 (pt_cmpR (show OpR _ _ (rEqD K) from op_eqD hr.units) (pe_ix (show IxR _ (rIxL K) from ix_list) (pv 0) (pv 13) (fun _ _ => rfl)) (pe_ix (show IxR _ (rIxL K) from ix_list) (pv 0) (pv 10) (fun _ _ => rfl)) (nomark _))))))) (fun _ _ _ _ _ => (pv 13)))
        (pss_cons (ps_set (i := 14) sc_sent.nd rfl (Or.inl rfl) (pe_cmpR (show OpR _ _ (Ind.rNinS K) from Ind.op_ninS (Ind.room65 hr)) (pe_tup (pa_cons pe_str (pa_cons (pv 11) pa_nil))) (pv 0) rfl))
        (pss_one (ps_if (PW.pt (pw_and (pt_val (pv 14)) (pw_and (pt_cmpR op_eq (pe_ix ix_tup (pe_ix ix_list (pv 0) (pv 10) (fun _ _ => rfl)) pe_int (fun _ _ => rfl)) pe_str (nomark _)) (pw_and1 (pt_cmpR (op_neD hr.units) (pv 12) (pe_lst pa_nil) (nomark _))))))
          (pss_cons (ps_asg (pe_tup (pa_cons pe_str (pa_cons (pv 11) pa_nil))) (pg_sub (pv 0) (pv 10) set_list))
          (pss_one (ps_expr (pe_bm PySem.F.plainAttrs_list PySem.F.slot_list_append PySem.F.type_list_append mt_append (pv 9) (pa_cons (pe_tup (pa_cons (pv 10) (pa_cons (pv 11) pa_nil))) pa_nil)))))
          pss_nil)))))
      (pss_one (ps_ret (pe_tup (pa_cons (pv 0) (pa_cons (pe_tup (pa_cons (pv 2) (pa_cons (pe_callTy call_tuple_of (by rfl) T.z_tuple (by decide +kernel) (pa_cons (pv 8) pa_nil)) (pa_cons (pe_callTy call_tuple_of (by rfl) T.z_tuple (by decide +kernel) (pa_cons (pv 9) pa_nil)) (pa_cons (pe_callB (call_max2 rfl) (by rfl) T.z_max (by decide +kernel) (pa_cons pe_int (pa_cons (pe_op op_sub (pe_ix ix_tup (pv 6) (pe_op op_sub (pv 2) pe_int) (fun _ _ => rfl)) (pe_bm PySem.F.plainAttrs_list PySem.F.slot_list_count PySem.F.type_list_count (mt_countD (Ind.room65 hr)) (pv 0) (pa_cons (pe_tup (pa_cons pe_str (pa_cons (pv 3) pa_nil))) pa_nil))) pa_nil))) pa_nil))))) pa_nil)))))))))), ?_⟩
    refine ⟨_, rfl, cq, _, rfl, hcq, rfl, _, _, rfl, _, _, rfl, _, _, rfl, _, _, rfl, _, _, rfl, rfl, ?_⟩
    refine ⟨_, rfl, a, xs, rfl, .inl (SqL.of ha), fun l hl => ?_⟩
    have s1 := same_new (o := .lst xs) hl
    have hl1 : upd H l (.lst xs) l = some (.lst xs) := upd_same
    generalize upd H l (.lst xs) = H1 at s1 hl1 ⊢
    refine ⟨by show 0 ≤ sizeLine; decide, fun R hR => ?_⟩
    have s2 := same_new (o := .lst []) hR
    have hR2 : upd H1 R (.lst []) R = some (.lst []) := upd_same
    have nlR : l ≠ R := fun e => by subst e; rw [hR] at hl1; cases hl1
    have hRH := none_of s1 hR
    generalize upd H1 R (.lst []) = H2 at s2 hR2 ⊢
    refine ⟨by show 0 ≤ sizeLine; decide, fun M hM => ?_⟩
    have s3 := same_new (o := .lst []) hM
    have hM3 : upd H2 M (.lst []) M = some (.lst []) := upd_same
    have nRM : R ≠ M := fun e => by subst e; rw [hM] at hR2; cases hR2
    have nlM : l ≠ M := fun e => by subst e; rw [s2 _ _ hl1] at hM; cases hM
    have hMH := none_of (s1.trans s2) hM
    generalize upd H2 M (.lst []) = H3 at s3 hM3 ⊢
    refine ⟨by show 3 ≤ sizeLine; decide, fun u hu => ?_⟩
    have s4 := same_new (o := .tup [.ref l, .ref R, .ref M]) hu
    refine ⟨u, _, rfl, SqT.of upd_same, rfl, _, _, rfl, _, _, rfl, _, _, rfl, rfl, ?_⟩
    have hl4 := s4 _ _ (s3 _ _ (s2 _ _ hl1))
    have hR4 := s4 _ _ (s3 _ _ hR2)
    have hM4 := s4 _ _ hM3
    have sA := (s1.trans s2).trans (s3.trans s4)
    generalize upd H3 u (.tup [.ref l, .ref R, .ref M]) = H4 at sA hl4 hR4 hM4 ⊢
    clear s1 hl1 s2 hR2 hR hM3 s3 s4 hu hM
    have oln : c.order.length ≤ 6 := by
      have := Lns.nodup_le (l := c.order.map fun (n : Nat) => (n : Int)) (m := (List.range 6).map fun (n : Nat) => (n : Int)) (cok.nd.map _ fun a b h e => h (Int.ofNat_inj.mp e)) (fun k hk => by
        obtain ⟨n, hn, rfl⟩ := List.mem_map.mp hk
        exact List.mem_map.mpr ⟨n, List.mem_range.mpr (by have := cok.ord n hn; omega), rfl⟩)
      simpa using this
    have eg : (((g : Nat) : Int) - 1) = ((g - 1 : Nat) : Int) := by omega
    have hcg := getD_at (xs := c.counts) (i := g - 1) (by rw [cok.c3]; omega)
    have ew : wentF c pl g = goL pl c.order (c.counts.getD (g - 1) 0) := rfl
    generalize c.counts.getD (g - 1) 0 = kk at hcg ew
    let S (v10 v11 v12 v13 v14 : Option V) : L2.St := [some (.ref l), some (.ref cq), some (.int (g : Nat)), some (.str (numS c.ds)), some (.ref q1), some (.ref q2), some (.ref q3), some (.ref q4), some (.ref R), some (.ref M), v10, v11, v12, v13, v14]
    refine ⟨_, rfl, q1, rfl, ⟨_, sameT sA h1⟩, ?_⟩
    refine for_tup (xs := nV c.order) (fun i σ A => (∃ v10 v11 v12 v13 v14, σ = S v10 v11 v12 v13 v14) ∧ Same H A ∧ A M = some (.lst []) ∧ A l = some (.lst xs) ∧ A R = some (.lst (nV (goL pl (c.order.take i) kk))))
      ⟨⟨none, none, none, none, none, rfl⟩, sA, hM4, hl4, by rw [List.take_zero]; unfold goL; rw [List.filter_nil, List.take_nil]; exact hR4⟩ (fun i σ A _ h => sameT h.2.1 h1) (fun i w σ A hw hP => ?_) (fun σ A hP => ?_)
    · obtain ⟨⟨v10, v11, v12, v13, v14, rfl⟩, sA, hMA, hlA, hRA⟩ := hP
      obtain ⟨m, em, rfl⟩ := nV_inv hw
      have ml := cok.ord m (List.mem_of_getElem? em)
      have hz := List.getElem?_eq_getElem (l := pl) (i := m) (by omega)
      generalize pl[m]'(by omega) = z at hz
      obtain ⟨zv, hzv, dz⟩ := pls_get hd hz
      obtain ⟨z3, rfl, hz3⟩ := pl_two (dz.ks sA)
      refine ⟨_, rfl, _, rfl, l, _, _, _, rfl, rfl, SqL.of hlA, atI_nat hzv, z3, _, 0, _, rfl, rfl, hz3, atI_nat (j := 0) rfl, rfl, _, rfl, ?_⟩
      rw [eq_in]
      have gl := goL_len pl (c.order.take i) kk
      rw [List.length_take] at gl
      refine ite2 (fun c1 => ?_) (fun c1 => ?_)
      · refine ⟨_, rfl, R, _, rfl, .inl (SqL.of hRA), _, rfl, _, rfl, _, _, rfl, rfl, q2, _, _, _, rfl, rfl, sameT sA h2, by rw [eg]; exact atI_nat (nV_at hcg), _, _, rfl, rfl, _, rfl, ite2 (fun c2 => ?_) (fun c2 => ?_)⟩
        · have c2 : (goL pl (c.order.take i) kk).length < kk := by have := of_decide_eq_true c2; rw [nV_len] at this; omega
          refine ⟨_, rfl, .inl ⟨rfl, _, SqL.of hRA⟩, _, rfl, R, _, _, rfl, rfl, hRA, by rw [nV_len]; exact small1000 (by omega), ?_⟩
          rw [goL_yes em (by rw [isIn_at hz]; exact c1) c2]
          have en : nV (goL pl (c.order.take i) kk) ++ [V.int ((m : Nat) : Int)] = nV (goL pl (c.order.take i) kk ++ [m]) := by unfold nV; rw [List.map_append]; rfl
          rw [en]
          exact ⟨⟨_, _, _, _, _, rfl⟩, same_mut sA hRH, by rw [upd_ne nRM.symm]; exact hMA, by rw [upd_ne nlR]; exact hlA, upd_same⟩
        · have c2 : ¬ (goL pl (c.order.take i) kk).length < kk := fun z => c2 (decide_eq_true (by rw [nV_len]; omega))
          rw [goL_no em (.inr c2)]
          exact ⟨⟨_, _, _, _, _, rfl⟩, sA, hMA, hlA, hRA⟩
      · rw [goL_no em (.inl (by rw [isIn_at hz]; simpa using c1))]
        exact ⟨⟨_, _, _, _, _, rfl⟩, sA, hMA, hlA, hRA⟩
    obtain ⟨⟨v10, v11, v12, v13, v14, rfl⟩, sA, hMA, hlA, hRA⟩ := hP
    rw [nV_len, List.take_length, ← ew] at hRA
    have ewl : ∀ m ∈ wentF c pl g, m < st.length := fun m mm => cok.ord m ((List.mem_filter.mp (List.mem_of_mem_take mm)).1)
    have ewn : (wentF c pl g).length ≤ 6 := by
      rw [ew]
      have := goL_len pl c.order kk
      omega
    have eT : liftT c pl g = .sent g (wentF c pl g) (liftP c pl g).2 (c.owed.getD (g - 1) 0 - (atL (liftP c pl g).1 (.out c.ds)).length) := rfl
    have eP : liftP c pl g = mvF (outP c.ds pl (wentF c pl g)) c.moves := rfl
    rw [eT, eP] at k
    generalize wentF c pl g = wl at ewl ewn hRA k
    refine ⟨_, rfl, R, rfl, ⟨_, SqL.of hRA⟩, ?_⟩
    refine for_list (xs := nV wl) (fun i σ A => (∃ v10 v11 v12 v13 v14, σ = S v10 v11 v12 v13 v14) ∧ Same H A ∧ A R = some (.lst (nV wl)) ∧ A M = some (.lst []) ∧ (∀ q ∈ outP c.ds pl (wl.take i), plOk q) ∧ ∃ zs, A l = some (.lst zs) ∧ Dts K A zs ((outP c.ds pl (wl.take i)).map plD))
      ⟨⟨_, _, _, _, _, rfl⟩, sA, hRA, hMA, okp, xs, hlA, hd.ks sA⟩ (fun i σ A _ h => SqL.of h.2.2.1) (fun i w σ A hw hP => ?_) (fun σ A hP => ?_)
    · obtain ⟨⟨v10, v11, v12, v13, v14, rfl⟩, sA, hRA, hMA, okA, zs, hlA, dA⟩ := hP
      obtain ⟨m, em, rfl⟩ := nV_inv hw
      have ml := ewl m (List.mem_of_getElem? em)
      have lz := dA.len
      rw [List.length_map, outP_len] at lz
      refine ⟨_, rfl, by show 2 ≤ sizeLine; decide, fun u2 hu2 => ?_⟩
      obtain ⟨a1, a2, a3, a4, a5⟩ := put_pl (i := m) (p := .out c.ds) sA hl hlA dA hu2
      refine ⟨_, rfl, _, rfl, l, _, _, m, rfl, rfl, a2, ixN_nat (by omega), ?_⟩
      rw [outP_succ em]
      exact ⟨⟨_, _, _, _, _, rfl⟩, a1, a5 _ _ nlR.symm hRA, a5 _ _ nlM.symm hMA, ok_set okA oc, _, a3, a4⟩
    obtain ⟨⟨v10, v11, v12, v13, v14, rfl⟩, sA, hRA, hMA, okA, zs, hlA, dA⟩ := hP
    rw [nV_len, List.take_length] at okA dA
    have lq := outP_len c.ds wl pl
    generalize outP c.ds pl wl = pl1 at okA dA k lq
    have m6 := cok.m6
    have lm := hm.len
    rw [List.length_map] at lm
    refine ⟨_, rfl, q4, rfl, ⟨_, sameT sA h4⟩, ?_⟩
    refine for_tup (xs := ms) (fun i σ A => (∃ v10 v11 v12 v13 v14, σ = S v10 v11 v12 v13 v14) ∧ Same H A ∧ A R = some (.lst (nV wl)) ∧ (∀ q ∈ (mvF pl1 (c.moves.take i)).1, plOk q) ∧ (∃ zs, A l = some (.lst zs) ∧ Dts K A zs ((mvF pl1 (c.moves.take i)).1.map plD)) ∧ ∃ us, A M = some (.lst us) ∧ Dts K A us ((mvF pl1 (c.moves.take i)).2.map mD))
      ⟨⟨_, _, _, _, _, rfl⟩, sA, hRA, okA, ⟨zs, hlA, dA⟩, [], hMA, .nil⟩ (fun i σ A _ h => sameT h.2.1 h4) (fun j w σ A hw hP => ?_) (fun σ A hP => ?_)
    · obtain ⟨⟨v10, v11, v12, v13, v14, rfl⟩, sA, hRA, okA, ⟨zs, hlA, dA⟩, us, hMA, dM⟩ := hP
      obtain ⟨d, ed, hx2⟩ := hm.at hw
      rw [List.getElem?_map] at ed
      obtain ⟨m, em, rfl⟩ := Option.map_eq_some_iff.mp ed
      obtain ⟨p2, a', b', rfl, hp2, ha', hb'⟩ := dt_two hx2
      obtain rfl := ha'.int_inv
      obtain rfl := hb'.int_inv
      have mv := cok.mv m (List.mem_of_getElem? em)
      have m8 : m.2 ≤ 8 := s8 _ mv.2
      have jl : j < c.moves.length := (List.getElem?_eq_some_iff.mp em).1
      have hl0 := mvF_len (c.moves.take j) (pl1, [])
      rw [mvF_succ em]
      unfold mvS
      have hl0 : (mvF pl1 (c.moves.take j)).1.length = pl1.length ∧ (mvF pl1 (c.moves.take j)).2.length ≤ 0 + (c.moves.take j).length := hl0
      rw [List.length_take] at hl0
      generalize mvF pl1 (c.moves.take j) = x at hl0 okA dA dM ⊢
      obtain ⟨px, hx⟩ := x
      have hl1 : px.length = pl1.length := hl0.1
      have hl2 : hx.length ≤ 0 + min j c.moves.length := hl0.2
      have okA : ∀ q ∈ px, plOk q := okA
      have dA : Dts K A zs (px.map plD) := dA
      have dM : Dts K A us (hx.map mD) := dM
      have lz := dA.len
      have lu := dM.len
      rw [List.length_map] at lz lu
      refine ⟨p2, _, rfl, sameT sA hp2, rfl, _, _, rfl, _, _, rfl, rfl, ?_⟩
      have hz := List.getElem?_eq_getElem (l := px) (i := m.1) (by omega)
      generalize px[m.1]'(by omega) = z at hz
      obtain ⟨zv, hzv, dz⟩ := pls_get dA hz
      have okz := okA z (List.mem_of_getElem? hz)
      refine ⟨_, rfl, l, _, rfl, .inl (SqL.of hlA), _, rfl, by omega, by omega, fun D hD => ?_⟩
      rw [Int.toNat_natCast]
      refine lc_range (fun j B => Same A B ∧ B D = some (.lst (nV ((List.range j).filter fun k => !decide (k = m.1) && decide (px[k]? = some z))))) ⟨same_new hD, upd_same⟩ (fun j B hj hP => ?_) (fun B hP => ?_)
      · obtain ⟨sB, hB⟩ := hP
        rw [Int.zero_add]
        have hw := List.getElem?_eq_getElem (l := px) (i := j) (by omega)
        generalize px[j]'(by omega) = w at hw
        obtain ⟨wv, hwv, dw⟩ := pls_get dA hw
        have fl : ((List.range j).filter fun k => !decide (k = m.1) && decide (px[k]? = some z)).length ≤ j := by
          have := List.length_filter_le (fun k => !decide (k = m.1) && decide (px[k]? = some z)) (List.range j)
          rw [List.length_range] at this
          exact this
        have noj : (!decide (j = m.1) && decide (px[j]? = some z)) = false → B D = some (.lst (nV ((List.range (j + 1)).filter fun k => !decide (k = m.1) && decide (px[k]? = some z)))) := fun e => by
          rw [List.range_succ, List.filter_append, List.filter_cons, List.filter_nil, e, if_neg (by decide), List.append_nil]
          exact hB
        refine ⟨rfl, _, rfl, _, rfl, rfl, _, rfl, ite2 (fun c3 => ?_) (fun c3 => ?_)⟩
        · have c3 : ¬ j = m.1 := fun e => by subst e; simp at c3
          refine ⟨_, rfl, _, rfl, l, _, _, _, rfl, rfl, SqL.of (sB _ _ hlA), atI_nat hwv, _, rfl, _, rfl, l, _, _, _, rfl, rfl, SqL.of (sB _ _ hlA), atI_nat hzv, _, _, (dw.ks sB).toDp, (dz.ks sB).toDp, (fine_pl (okA w (List.mem_of_getElem? hw))).shaped (by decide), (fine_pl okz).shaped (by decide), _, rfl, ?_⟩
          rw [eqv_pl]
          refine ite2 (fun c4 => ?_) (fun c4 => ?_)
          · have c4 : w = z := of_decide_eq_true c4
            subst c4
            refine ⟨_, rfl, _, hB, by rw [nV_len]; exact small1000 (by omega), same_mut sB hD, ?_⟩
            rw [upd_same, List.range_succ, List.filter_append, List.filter_cons, if_pos (by rw [hw, decide_eq_false c3]; simp)]
            unfold nV
            rw [List.map_append]
            rfl
          · have c4 : ¬ w = z := fun e => c4 (decide_eq_true e)
            exact ⟨sB, noj (by rw [hw, decide_eq_false (fun e => c4 (Option.some.inj e)), Bool.and_false])⟩
        · have c3 : j = m.1 := by
            by_cases e : j = m.1
            · exact e
            · exact absurd (by rw [decide_eq_false (fun z => e (by have := V.int.inj z; omega))]; rfl) c3
          exact ⟨sB, noj (by rw [decide_eq_true c3]; rfl)⟩
      obtain ⟨sB, hB⟩ := hP
      rw [lz] at hB
      refine ⟨_, rfl, by show 2 ≤ sizeLine; decide, fun u hu => ?_⟩
      have sU := same_new (o := .tup [.str "in", .int (m.2 : Nat)]) hu
      have dI : Dt K (upd B u (.tup [.str "in", .int (m.2 : Nat)])) (.ref u) (plD (.ins m.2)) := dt_pl (p := .ins m.2) upd_same
      refine ⟨_, rfl, _, _, false, dI.toDp, .lst (SqL.of (sU _ _ (sB _ _ hlA))) ((dA.ks sB).ks sU).toDp, (fine_pl (p := .ins m.2) m8).1, Nat.le_trans (fine_pl (p := .ins m.2) m8).2 (by decide), lay_pls okA, ?_⟩
      rw [any_pl]
      have sC := sB.trans sU
      have hDC := sU _ _ hB
      generalize upd B u (.tup [.str "in", .int (m.2 : Nat)]) = C at sC hDC ⊢
      have eB : canB px m.1 m.2 = (decide (atL px (.ins m.2) = []) && (isI z && !decide (((List.range px.length).filter fun k => !decide (k = m.1) && decide (px[k]? = some z)) = []))) := by
        unfold canB
        rw [isIn_at hz, hz, others_nil hz, Bool.not_not]
      have sHC := sA.trans sC
      have hlC := sC _ _ hlA
      have hMC := sC _ _ hMA
      have hRC := sC _ _ hRA
      have dC := dA.ks sC
      have dMC := dM.ks sC
      have no : ∀ B, Same C B → canB px m.1 m.2 = false → Same H B ∧ B R = some (.lst (nV wl)) ∧ (∀ q ∈ (if canB px m.1 m.2 = true then (px.set m.1 (.ins m.2), hx ++ [m]) else (px, hx)).1, plOk q) ∧ (∃ zs, B l = some (.lst zs) ∧ Dts K B zs ((if canB px m.1 m.2 = true then (px.set m.1 (.ins m.2), hx ++ [m]) else (px, hx)).1.map plD)) ∧ ∃ us, B M = some (.lst us) ∧ Dts K B us ((if canB px m.1 m.2 = true then (px.set m.1 (.ins m.2), hx ++ [m]) else (px, hx)).2.map mD) := fun B s e => by
        rw [if_neg (by rw [e]; decide)]
        exact ⟨sHC.trans s, s _ _ hRC, okA, ⟨_, s _ _ hlC, dC.ks s⟩, _, s _ _ hMC, dMC.ks s⟩
      refine ⟨_, rfl, _, rfl, ite2 (fun c1 => ?_) (fun c1 => ?_)⟩
      · obtain ⟨z3, rfl, hz3⟩ := pl_two (dz.ks sC)
        refine ⟨_, rfl, _, rfl, l, _, _, _, rfl, rfl, SqL.of hlC, atI_nat hzv, z3, _, 0, _, rfl, rfl, hz3, atI_nat (j := 0) rfl, rfl, _, rfl, ?_⟩
        rw [eq_in]
        refine ite2 (fun c2 => ?_) (fun c2 => ?_)
        · refine ⟨_, rfl, by show 0 ≤ sizeLine; decide, fun F hF => ?_⟩
          have sF := same_new (o := .lst []) hF
          refine ne_nil (sF _ _ hDC) upd_same ⟨_, rfl, ?_⟩
          generalize upd C F (.lst []) = C1 at sF ⊢
          refine ite2 (fun c3 => ?_) (fun c3 => ?_)
          · have cc : canB px m.1 m.2 = true := by rw [eB, c1, c2, c3]; rfl
            rw [if_pos cc]
            refine ⟨_, rfl, by show 2 ≤ sizeLine; decide, fun u2 hu2 => ?_⟩
            obtain ⟨a1, a2, a3, a4, a5⟩ := put_pl (i := m.1) (p := .ins m.2) (sHC.trans sF) hl (sF _ _ hlC) (dC.ks sF) hu2
            refine ⟨_, rfl, _, rfl, l, _, _, m.1, rfl, rfl, a2, ixN_nat (by omega), ?_⟩
            have hMZ := a5 _ _ nlM.symm (sF _ _ hMC)
            have hRZ := a5 _ _ nlR.symm (sF _ _ hRC)
            have dMZ : Dts K (upd (upd C1 u2 (.tup [.str (plW (.ins m.2)), plY (.ins m.2)])) l (.lst (zs.set m.1 (.ref u2)))) us (hx.map mD) := ((dMC.ks sF).k (Kt.new hu2)).k (Kt.lst a2)
            obtain ⟨Z, hZ⟩ : ∃ Z, Z = upd (upd C1 u2 (.tup [.str "in", .int (m.2 : Nat)])) l (.lst (zs.set m.1 (.ref u2))) := ⟨_, rfl⟩
            have a1 : Same H Z := by rw [hZ]; exact a1
            have a3 : Z l = some (.lst (zs.set m.1 (.ref u2))) := by rw [hZ]; exact a3
            have a4 : Dts K Z (zs.set m.1 (.ref u2)) ((px.set m.1 (.ins m.2)).map plD) := by rw [hZ]; exact a4
            have hMZ : Z M = some (.lst us) := by rw [hZ]; exact hMZ
            have hRZ : Z R = some (.lst (nV wl)) := by rw [hZ]; exact hRZ
            have dMZ : Dts K Z us (hx.map mD) := by rw [hZ]; exact dMZ
            rw [← hZ]
            refine ⟨_, rfl, .inl ⟨rfl, _, SqL.of hMZ⟩, _, rfl, _, rfl, by show 2 ≤ sizeLine; decide, fun u3 hu3 => ?_⟩
            have sU3 := same_new (o := .tup [.int (m.1 : Nat), .int (m.2 : Nat)]) hu3
            have hMU := sU3 _ _ hMZ
            refine ⟨M, us, _, rfl, rfl, hMU, small1000 (by omega), ?_⟩
            have dnew : Dts K (upd Z u3 (.tup [.int (m.1 : Nat), .int (m.2 : Nat)])) (us ++ [.ref u3]) ((hx ++ [m]).map mD) := by
              rw [List.map_append]
              exact (dMZ.ks sU3).snoc (dt_tup upd_same (.cons (.int _) (.cons (.int _) .nil)))
            refine ⟨⟨_, _, _, _, _, rfl⟩, same_mut (a1.trans sU3) hMH, by rw [upd_ne nRM]; exact sU3 _ _ hRZ, ok_set okA m8, ⟨_, by rw [upd_ne nlM]; exact sU3 _ _ a3, (a4.ks sU3).k (Kt.lst hMU)⟩, _, upd_same, dnew.k (Kt.lst hMU)⟩
          · exact ⟨⟨_, _, _, _, _, rfl⟩, no _ sF (by rw [eB, show (!decide (((List.range px.length).filter fun k => !decide (k = m.1) && decide (px[k]? = some z)) = [])) = false by simpa using c3, Bool.and_false, Bool.and_false])⟩
        · exact ⟨⟨_, _, _, _, _, rfl⟩, no _ (fun _ _ e => e) (by rw [eB, show isI z = false by simpa using c2, Bool.false_and, Bool.and_false])⟩
      · exact ⟨⟨_, _, _, _, _, rfl⟩, no _ (fun _ _ e => e) (by rw [eB, show decide (atL px (.ins m.2) = []) = false by simpa using c1, Bool.false_and])⟩
    obtain ⟨⟨v10, v11, v12, v13, v14, rfl⟩, sA, hRA, okA, ⟨zs, hlA, dA⟩, us, hMA, dM⟩ := hP
    have hl0 := mvF_len c.moves (pl1, [])
    rw [lm, List.take_length] at okA dA dM
    have hl1 : (mvF pl1 c.moves).1.length = pl1.length := hl0.1
    have hl2 : (mvF pl1 c.moves).2.length ≤ 0 + c.moves.length := hl0.2
    generalize (mvF pl1 c.moves).1 = pl2 at okA dA k hl1
    generalize (mvF pl1 c.moves).2 = mv2 at dM k hl2
    have hog := getD_at (xs := c.owed) (i := g - 1) (by rw [cok.o3]; omega)
    refine ⟨_, rfl, _, rfl, _, rfl, R, _, rfl, .inl ⟨SqL.of hRA, fun u3 hu3 => ?_⟩⟩
    have s3 := same_new (o := .tup (nV wl)) hu3
    have h33 : upd A u3 (.tup (nV wl)) u3 = some (.tup (nV wl)) := upd_same
    generalize upd A u3 (.tup (nV wl)) = A3 at s3 h33 ⊢
    refine ⟨_, rfl, M, us, rfl, .inl ⟨SqL.of (s3 _ _ hMA), fun u4 hu4 => ?_⟩⟩
    have s4 := same_new (o := .tup us) hu4
    have h44 : upd A3 u4 (.tup us) u4 = some (.tup us) := upd_same
    generalize upd A3 u4 (.tup us) = A4 at s4 h44 ⊢
    have s34 := s3.trans s4
    refine ⟨_, rfl, _, rfl, _, _, rfl, rfl, q3, _, _, _, rfl, rfl, sameT (sA.trans s34) h3, by rw [eg]; exact atI_nat (nV_at hog), ?_⟩
    refine ⟨_, rfl, .inl ⟨rfl, _, SqL.of (s34 _ _ hlA)⟩, _, rfl, by show 2 ≤ sizeLine; decide, fun u hu => ?_⟩
    have s5 := same_new (o := .tup [.str "out", .str (numS c.ds)]) hu
    have dO : Dt K (upd A4 u (.tup [.str "out", .str (numS c.ds)])) (.ref u) (plD (.out c.ds)) := dt_pl (p := .out c.ds) upd_same
    have s35 := s34.trans s5
    refine ⟨l, _, _, _, rfl, rfl, .lst (SqL.of (s35 _ _ hlA)) (dA.ks s35).toDp, dO.toDp, plain_pls _, plain_pl _, Nat.le_trans (fine_pl oc).2 (by decide), ?_⟩
    rw [count_pl]
    refine ⟨_, _, rfl, rfl, _, _, rfl, ?_⟩
    have esh : (if (((c.owed.getD (g - 1) 0 : Nat) : Int) - ((atL pl2 (.out c.ds)).length : Nat)) > 0 then (((c.owed.getD (g - 1) 0 : Nat) : Int) - ((atL pl2 (.out c.ds)).length : Nat)) else 0) = ((c.owed.getD (g - 1) 0 - (atL pl2 (.out c.ds)).length : Nat) : Int) := by
      split <;> omega
    rw [esh]
    generalize c.owed.getD (g - 1) 0 - (atL pl2 (.out c.ds)).length = sh at k
    have h35 := s4 _ _ h33
    have h35 := s5 _ _ h35
    have h45 := s5 _ _ h44
    generalize upd A4 u (.tup [.str "out", .str (numS c.ds)]) = A5 at s35 h35 h45 ⊢
    refine ⟨by show 4 ≤ sizeLine; decide, fun u5 hu5 => ?_⟩
    have s6 := same_new (o := .tup [.int (g : Nat), .ref u3, .ref u4, .int (sh : Nat)]) hu5
    have h66 : upd A5 u5 (.tup [.int (g : Nat), .ref u3, .ref u4, .int (sh : Nat)]) u5 = some (.tup [.int (g : Nat), .ref u3, .ref u4, .int (sh : Nat)]) := upd_same
    generalize upd A5 u5 (.tup [.int (g : Nat), .ref u3, .ref u4, .int (sh : Nat)]) = A6 at s6 h66 ⊢
    have s36 := s35.trans s6
    have dT : Dt K A6 (.ref u5) (tdD (.sent g wl mv2 sh)) := dt_tup h66 (.cons (.int _) (.cons (dt_iD (s6 _ _ h35)) (.cons (.tup (SqT.of (s6 _ _ h45)) (dM.ks s36)) (.cons (.int _) .nil))))
    refine ⟨by show 2 ≤ sizeLine; decide, fun u7 hu7 => ?_⟩
    have s7 := same_new (o := .tup [.ref l, .ref u5]) hu7
    have s37 := s36.trans s7
    exact k _ _ l (.ref u5) zs (sA.trans s37) upd_same (s37 _ _ hlA) (dA.ks s37) okA (by omega) (dT.ks s7)
end
end K59

namespace K59
open PySem L2 Wm TL Dv
section
variable {P : Program} {w : World} {K : PySem.W.Frag} {mg : Str → Option Value} {base : Heap}
theorem strs_lay0 : ∀ {ts : List Str}, (∀ t ∈ ts, Tx t) → PyData.canLayAll0 (ts.map .str) = true ∧ PyData.depthAll (ts.map .str) = 0
  | [], _ => by simp [PyData.canLayAll0, PyData.depthAll]
  | t :: ts, h => by
    have ih := strs_lay0 (ts := ts) fun y m => h y (List.mem_cons_of_mem _ m)
    have h1 : PyData.canLay0 (.str t) = true := by
      have e : t.cps.all (· < 0x110000) = true := by
        rw [← Array.all_toList, List.all_eq_true]
        intro c m
        have := (h t (by simp)).asc c m
        exact decide_eq_true (by omega)
      simp only [PyData.canLay0]
      exact e
    simp only [List.map_cons, PyData.canLayAll0, PyData.depthAll, h1, ih.1, ih.2, PyData.depth, Bool.and_self, Nat.max_self, and_self]
theorem tg_fine {d : PyData} (t : Tg d) : Fine 1 d := by
  cases t with
  | int h => exact fine_int _
  | bl b => exact ⟨by simp [PyData.canLay0], by simp [PyData.depth]⟩
  | non => exact ⟨by simp [PyData.canLay0], by simp [PyData.depth]⟩
  | @str t h =>
    have q := strs_lay0 (ts := [t]) fun y m => by rw [List.mem_singleton.mp m]; exact h
    simp only [List.map_cons, List.map_nil, PyData.canLayAll0, Bool.and_true] at q
    exact ⟨q.1, by simp [PyData.depth]⟩
  | lst h l =>
    have q := strs_lay0 h
    exact ⟨by simp only [PyData.canLay0]; exact q.1, by simp only [PyData.depth]; omega⟩
  | tup h l =>
    have q := strs_lay0 h
    exact ⟨by simp only [PyData.canLay0]; exact q.1, by simp only [PyData.depth]; omega⟩
theorem eqv_ob {H : Hp} {x : V} {d : PyData} (ob : Ob K H x d) (t : Str) : PyData.eqv (.str t) d = decide (x = .str t) := by
  obtain ⟨h, g⟩ := ob
  cases g with
  | int h2 => cases h; simp [PyData.eqv]
  | bl b => cases h; simp [PyData.eqv]
  | non => cases h; simp [PyData.eqv]
  | @str u h2 =>
    cases h
    by_cases e : t = u
    · subst e; simp [PyData.eqv]
    · have e2 : ¬ u = t := fun z => e z.symm
      simp [PyData.eqv, e, e2]
  | lst h2 l => cases h; simp [PyData.eqv]
  | tup h2 l => cases h; simp [PyData.eqv]
def stepSO (r : Rm) (s : Sd) (w : Wd) : Option Nat → Sd
  | some i => stepS r s w i
  | none => s
def stepTO (r : Rm) (s : Sd) (w : Wd) : Option Nat → Td
  | some i => stepT r s w i
  | none => .non
end
end K59

namespace K59
open PySem L2 Wm TL Dv
section
variable {P : Program} {w : World} {K : PySem.W.Frag} {mg : Str → Option Value} {base : Heap}
/-- what repr lays: short, small, shallow -/
structure Sh (n w : Nat) (d : PyData) : Prop where
  lay : d.canLay0 = true
  isn : d.intsShort 13 = true
  wt : d.weight ≤ w
  sh : d.showable = true
  nd : d.hasDict = false
  dp : d.depth ≤ n
theorem Sh.mono {n m w v : Nat} {d : PyData} (h : Sh n w d) (a : n ≤ m) (b : w ≤ v) : Sh m v d := ⟨h.lay, h.isn, Nat.le_trans h.wt b, h.sh, h.nd, Nat.le_trans h.dp a⟩
theorem Sh.shows {n w : Nat} {d : PyData} (h : Sh n w d) (a : n ≤ 60) (b : w ≤ 1000000) : Shows d :=
  ⟨h.sh, h.nd, Nat.le_trans h.dp a, PyData.shown_fits (B := 13) (by decide) (by decide) (PyData.leavesShort_of_canLay0 13 d h.lay h.isn) (Nat.le_trans h.wt (by omega))⟩
theorem sh_int {i : Int} (h : i.natAbs < 1000000) : Sh 0 20 (.int i) := by
  have g := tg_shows (.int (i := i) (by omega))
  refine ⟨by simp [PyData.canLay0], decide_eq_true (PyData.shown_int_le (by omega)), ?_, g.sh, rfl, Nat.zero_le _⟩
  show (if i == 0 then 0 else i.natAbs.log2 + 1) ≤ 20
  split
  · exact Nat.zero_le _
  · rename_i z
    have z : i ≠ 0 := by simpa using z
    exact (Nat.log2_lt (by omega)).mpr (by omega)
theorem sh_bool (b : Bool) : Sh 0 0 (.bool b) := ⟨by simp [PyData.canLay0], rfl, Nat.le_refl _, rfl, rfl, Nat.zero_le _⟩
theorem sh_none : Sh 0 0 .none := ⟨by simp [PyData.canLay0], rfl, Nat.le_refl _, rfl, rfl, Nat.zero_le _⟩
theorem sh_str {t : Str} (h : Tx t) : Sh 0 100 (.str t) := by
  have g := tg_shows (.str h)
  have f := tg_fine (.str h)
  exact ⟨f.1, rfl, h.len, g.sh, rfl, Nat.zero_le _⟩
theorem sh_all {n w : Nat} : ∀ {ds : List PyData}, (∀ d ∈ ds, Sh n w d) → PyData.canLayAll0 ds = true ∧ PyData.intsShortAll 13 ds = true ∧ PyData.weightAll ds ≤ ds.length * (w + 1) ∧ PyData.showableAll ds = true ∧ PyData.hasDictAll ds = false ∧ PyData.depthAll ds ≤ n
  | [], _ => by simp [PyData.canLayAll0, PyData.intsShortAll, PyData.weightAll, PyData.showableAll, PyData.hasDictAll, PyData.depthAll]
  | x :: xs, h => by
    have a := h x (by simp)
    obtain ⟨b1, b2, b3, b4, b5, b6⟩ := sh_all (ds := xs) fun y m => h y (List.mem_cons_of_mem _ m)
    refine ⟨by simp only [PyData.canLayAll0, a.lay, b1, Bool.and_self], by simp only [PyData.intsShortAll, a.isn, b2, Bool.and_self], ?_, by simp only [PyData.showableAll, a.sh, b4, Bool.and_self], by simp only [PyData.hasDictAll, a.nd, b5, Bool.or_self], ?_⟩
    · simp only [PyData.weightAll, List.length_cons, Nat.add_mul, Nat.one_mul]
      have := a.wt
      omega
    · simp only [PyData.depthAll]
      have := a.dp
      omega
theorem sh_tup {n w k : Nat} {ds : List PyData} (h : ∀ d ∈ ds, Sh n w d) (l : ds.length ≤ k) : Sh (n + 1) (k * (w + 1)) (.tuple ds) := by
  obtain ⟨b1, b2, b3, b4, b5, b6⟩ := sh_all h
  have := Nat.mul_le_mul_right (w + 1) l
  exact ⟨by simp only [PyData.canLay0, b1], by simp only [PyData.intsShort, b2], by simp only [PyData.weight]; omega, by simp only [PyData.showable, b4], by simp only [PyData.hasDict, b5], by simp only [PyData.depth]; omega⟩
theorem sh_lst {n w k : Nat} {ds : List PyData} (h : ∀ d ∈ ds, Sh n w d) (l : ds.length ≤ k) : Sh (n + 1) (k * (w + 1)) (.list ds) := by
  obtain ⟨b1, b2, b3, b4, b5, b6⟩ := sh_all h
  have := Nat.mul_le_mul_right (w + 1) l
  exact ⟨by simp only [PyData.canLay0, b1], by simp only [PyData.intsShort, b2], by simp only [PyData.weight]; omega, by simp only [PyData.showable, b4], by simp only [PyData.hasDict, b5], by simp only [PyData.depth]; omega⟩
theorem num_tx {ds : List Nat} (N : Num ds) : Tx (numS ds) := ⟨by rw [numS_len]; have := N.len; omega, fun k m => by
    have m : k ∈ codes ds := m
    obtain ⟨d, md, rfl⟩ := List.mem_map.mp m
    have := (N.dig d md).2
    omega⟩
theorem sh_two {n w : Nat} {a b : PyData} (x : Sh n w a) (y : Sh n w b) : Sh (n + 1) (2 * (w + 1)) (.tuple [a, b]) := sh_tup (fun d m => by
  simp only [List.mem_cons, List.not_mem_nil, or_false] at m
  rcases m with rfl | rfl
  · exact x
  · exact y) (Nat.le_refl 2)
theorem sh_pl {p : Pl} (h : plOk p) : Sh 1 202 (plD p) := by
  cases p with
  | ins s =>
    have h : s ≤ 8 := h
    exact sh_two (sh_str ⟨by decide +kernel, by decide +kernel⟩) ((sh_int (by omega)).mono (by decide) (by decide))
  | out ds => exact sh_two (sh_str ⟨by decide +kernel, by decide +kernel⟩) (sh_str (num_tx h))
theorem sh_iD {ns : List Nat} {k : Nat} (h : ∀ n ∈ ns, n ≤ 9) (l : ns.length ≤ k) : Sh 1 (k * 21) (iD ns) := by
  unfold iD
  refine sh_tup (fun d m => ?_) (by rw [List.length_map]; exact l)
  obtain ⟨n, mn, rfl⟩ := List.mem_map.mp m
  have := h n mn
  exact sh_int (by omega)
theorem sh_mvD {ms : List (Nat × Nat)} {k : Nat} (h : ∀ x ∈ ms, x.1 ≤ 9 ∧ x.2 ≤ 9) (l : ms.length ≤ k) : Sh 2 (k * 43) (mvD ms) := by
  unfold mvD
  refine sh_tup (fun d m => ?_) (by rw [List.length_map]; exact l)
  obtain ⟨x, mx, rfl⟩ := List.mem_map.mp m
  have := h x mx
  exact sh_two (sh_int (by omega)) (sh_int (by omega))
theorem sh_sd {r : Rm} {s : Sd} (ok : RmOk r) (so : SdOk r s) : Sh 3 5000 (sdD s) := by
  have l6 := ok.st6
  have c6 := ok.cs6
  have pl := so.pl
  have gr := so.gr
  refine (sh_two (n := 2) (w := 1218) ((sh_tup (n := 1) (w := 202) (k := 6) (fun d m => ?_) (by rw [List.length_map]; omega)).mono (by decide) (by decide)) ((sh_iD (k := 6) (fun n m => Nat.le_trans (so.g3 n m) (by decide)) (by omega)).mono (by decide) (by decide))).mono (by decide) (by decide)
  obtain ⟨p, mp, rfl⟩ := List.mem_map.mp m
  exact sh_pl (so.ok p mp)
theorem sh_ev (e : Ev) (N : Num e.2) : Sh 1 202 (evD e) := sh_two (sh_str (by cases e.1 <;> exact ⟨by decide +kernel, by decide +kernel⟩)) (sh_str (num_tx N))
theorem sh_nil : Sh 1 0 (.list []) := ⟨by simp [PyData.canLay0, PyData.canLayAll0], by simp [PyData.intsShort, PyData.intsShortAll], by simp [PyData.weight, PyData.weightAll], by simp [PyData.showable, PyData.showableAll], by simp [PyData.hasDict, PyData.hasDictAll], by simp [PyData.depth, PyData.depthAll]⟩
end
end K59

namespace K59
open PySem L2 Wm TL Dv
section
variable {P : Program} {w : World} {K : PySem.W.Frag} {mg : Str → Option Value} {base : Heap}
theorem inP_ok {st : List Nat} (h8 : ∀ i, st.getD i 0 ≤ 8) : ∀ {rs : List Nat} {pl : List Pl}, (∀ q ∈ pl, plOk q) → ∀ q ∈ inP st pl rs, plOk q
  | [], _, h => h
  | r :: rs, pl, h => by
    show ∀ q ∈ inP st (pl.set r (.ins (st.getD r 0))) rs, plOk q
    exact inP_ok h8 (ok_set h (h8 r))
theorem outP_ok {ds : List Nat} (N : Num ds) : ∀ {rs : List Nat} {pl : List Pl}, (∀ q ∈ pl, plOk q) → ∀ q ∈ outP ds pl rs, plOk q
  | [], _, h => h
  | r :: rs, pl, h => by
    show ∀ q ∈ outP ds (pl.set r (.out ds)) rs, plOk q
    exact outP_ok N (ok_set h N)
theorem homeF_ok {st : List Nat} (h8 : ∀ i, st.getD i 0 ≤ 8) {pl : List Pl} (h : ∀ q ∈ pl, plOk q) : ∀ n, ∀ q ∈ (homeF st pl n).1, plOk q
  | 0 => h
  | n + 1 => by
    have ih := homeF_ok h8 h n
    rw [homeF_succ]
    unfold homeS
    split
    · exact ok_set ih (h8 n)
    · exact ih
theorem mvS_ok : ∀ {ms : List (Nat × Nat)} {x : List Pl × List (Nat × Nat)}, (∀ m ∈ ms, m.2 ≤ 8) → (∀ q ∈ x.1, plOk q) → ∀ q ∈ (ms.foldl mvS x).1, plOk q
  | [], _, _, h => h
  | m :: ms, x, h8, h => by
    rw [List.foldl_cons]
    refine mvS_ok (fun y my => h8 y (List.mem_cons_of_mem _ my)) ?_
    unfold mvS
    split
    · exact ok_set h (h8 m (List.mem_cons_self ..))
    · exact h
theorem g_set {gr : List Nat} {i g : Nat} (h : ∀ x ∈ gr, x ≤ 3) (k : g ≤ 3) : ∀ x ∈ gr.set i g, x ≤ 3 := fun x m => by
  rcases List.mem_or_eq_of_mem_set m with m | m
  · exact h x m
  · rw [m]; exact k
theorem st_le {r : Rm} (ok : RmOk r) (i : Nat) : r.st.getD i 0 ≤ 8 := by
  rw [List.getD_eq_getElem?_getD]
  cases e : r.st[i]? with
  | none => exact Nat.zero_le _
  | some x => exact ok.st8 x (List.mem_of_getElem? e)
theorem back_ok {r : Rm} {s : Sd} (ok : RmOk r) (so : SdOk r s) (ds : List Nat) (i : Nat) : SdOk r ⟨(backP r.st ds s.pl).1, s.gr.set i 0⟩ :=
  ⟨by show (homeF r.st (inP r.st s.pl (atL s.pl (.out ds))) r.st.length).1.length = _; rw [(homeF_len _ _ _).1, inP_len]; exact so.pl,
   by show (s.gr.set i 0).length = _; rw [List.length_set]; exact so.gr, g_set so.g3 (by decide), homeF_ok (st_le ok) (inP_ok (st_le ok) so.ok) _⟩
theorem lift_ok {r : Rm} {s : Sd} {c : Cd} (ok : RmOk r) (so : SdOk r s) (mc : c ∈ r.cs) {g : Nat} (k : g ≤ 3) (i : Nat) : SdOk r ⟨(liftP c s.pl g).1, s.gr.set i g⟩ := by
  have cok := ok.ok c mc
  refine ⟨?_, by show (s.gr.set i g).length = _; rw [List.length_set]; exact so.gr, g_set so.g3 k, ?_⟩
  · show (mvF (outP c.ds s.pl (wentF c s.pl g)) c.moves).1.length = _
    have := (mvF_len c.moves (outP c.ds s.pl (wentF c s.pl g), [])).1
    exact this.trans ((outP_len _ _ _).trans so.pl)
  · exact mvS_ok (x := (outP c.ds s.pl (wentF c s.pl g), [])) (fun m mm => ok.st8 _ (cok.mv m mm).2) (outP_ok cok.num so.ok)
end
end K59

namespace K59
open PySem L2 Wm TL Dv
section
variable {P : Program} {w : World} {K : PySem.W.Frag} {mg : Str → Option Value} {base : Heap}
theorem mem_out {r : Rm} {gr : List Nat} {i : Nat} {ds : List Nat} : Pl.out ds ∈ opts r gr i ↔ ∃ (j : Nat) (c : Cd) (g : Nat), r.cs[j]? = some c ∧ c.ds = ds ∧ gr[j]? = some g ∧ 0 < g := by
  unfold opts
  constructor
  · intro h
    rcases List.mem_cons.mp h with h | h
    · cases h
    rcases List.mem_append.mp h with h | h
    · obtain ⟨x, _, e⟩ := List.mem_map.mp h
      cases e
    · obtain ⟨x, hx, e⟩ := List.mem_map.mp h
      obtain ⟨hx, h0⟩ := List.mem_filter.mp hx
      obtain ⟨j, hj⟩ := List.mem_iff_getElem?.mp hx
      rw [List.getElem?_zip_eq_some, List.getElem?_map] at hj
      obtain ⟨c, hc, e1⟩ := Option.map_eq_some_iff.mp hj.1
      exact ⟨j, c, x.2, hc, e1.trans (Pl.out.inj e), hj.2, of_decide_eq_true h0⟩
  · rintro ⟨j, c, g, hc, rfl, hg, h0⟩
    refine List.mem_cons_of_mem _ (List.mem_append_right _ (List.mem_map.mpr ⟨(c.ds, g), List.mem_filter.mpr ⟨?_, decide_eq_true h0⟩, rfl⟩))
    refine List.mem_of_getElem? (i := j) (List.getElem?_zip_eq_some.mpr ⟨?_, hg⟩)
    rw [List.getElem?_map, hc]
    rfl
theorem mem_home {r : Rm} {gr : List Nat} {i : Nat} : Pl.ins (r.st.getD i 0) ∈ opts r gr i := List.mem_cons_self
theorem mem_mv {r : Rm} {gr : List Nat} {c : Cd} {x : Nat × Nat} (hc : c ∈ r.cs) (hx : x ∈ c.moves) : Pl.ins x.2 ∈ opts r gr x.1 := by
  unfold opts
  refine List.mem_cons_of_mem _ (List.mem_append_left _ (List.mem_map.mpr ⟨x, List.mem_filter.mpr ⟨List.mem_flatMap.mpr ⟨c, hc, hx⟩, decide_eq_true rfl⟩, rfl⟩))
theorem mem_ins {r : Rm} {gr gr' : List Nat} {i : Nat} {s : Nat} (h : Pl.ins s ∈ opts r gr i) : Pl.ins s ∈ opts r gr' i := by
  unfold opts at h ⊢
  rcases List.mem_cons.mp h with h | h
  · rw [h]; exact List.mem_cons_self
  rcases List.mem_append.mp h with h | h
  · exact List.mem_cons_of_mem _ (List.mem_append_left _ h)
  · obtain ⟨x, _, e⟩ := List.mem_map.mp h
    cases e
def PlIn (O : Nat → List Pl) (pl : List Pl) : Prop := ∀ (i : Nat) (p : Pl), pl[i]? = some p → p ∈ O i
theorem PlIn.set {O : Nat → List Pl} {pl : List Pl} (h : PlIn O pl) {k : Nat} {q : Pl} (hq : q ∈ O k) : PlIn O (pl.set k q) := fun i p e => by
  rw [List.getElem?_set] at e
  split at e
  · rename_i z
    subst z
    split at e
    · cases e; exact hq
    · cases e
  · exact h i p e
theorem PlIn.outP {O : Nat → List Pl} {ds : List Nat} (hq : ∀ k, Pl.out ds ∈ O k) : ∀ {rs : List Nat} {pl : List Pl}, PlIn O pl → PlIn O (outP ds pl rs)
  | [], _, h => h
  | r :: rs, pl, h => by
    show PlIn O (K59.outP ds (pl.set r (.out ds)) rs)
    exact PlIn.outP hq (h.set (hq r))
theorem PlIn.mvF {O : Nat → List Pl} : ∀ {ms : List (Nat × Nat)} {x : List Pl × List (Nat × Nat)}, (∀ m ∈ ms, Pl.ins m.2 ∈ O m.1) → PlIn O x.1 → PlIn O (ms.foldl mvS x).1
  | [], _, _, h => h
  | m :: ms, x, hm, h => by
    rw [List.foldl_cons]
    refine PlIn.mvF (fun y my => hm y (List.mem_cons_of_mem _ my)) ?_
    unfold mvS
    split
    · exact h.set (hm m List.mem_cons_self)
    · exact h
theorem PlIn.inP {O : Nat → List Pl} {st : List Nat} (hq : ∀ k, Pl.ins (st.getD k 0) ∈ O k) : ∀ {rs : List Nat} {pl : List Pl}, (∀ (i : Nat) (p : Pl), pl[i]? = some p → p ∈ O i ∨ i ∈ rs) → PlIn O (inP st pl rs)
  | [], _, h => fun i p e => (h i p e).elim id (fun z => by cases z)
  | r :: rs, pl, h => by
    show PlIn O (K59.inP st (pl.set r (.ins (st.getD r 0))) rs)
    refine PlIn.inP hq fun i p e => ?_
    rw [List.getElem?_set] at e
    split at e
    · rename_i z
      subst z
      split at e
      · cases e; exact .inl (hq _)
      · cases e
    · rename_i z
      rcases h i p e with a | a
      · exact .inl a
      · rcases List.mem_cons.mp a with a | a
        · exact absurd a.symm z
        · exact .inr a
theorem PlIn.homeF {O : Nat → List Pl} {st : List Nat} (hq : ∀ k, Pl.ins (st.getD k 0) ∈ O k) {pl : List Pl} (h : PlIn O pl) (n : Nat) : PlIn O (homeF st pl n).1 := by
  have key : ∀ (l : List Nat) (x : List Pl × List Nat), PlIn O x.1 → PlIn O (l.foldl (homeS st) x).1 := fun l => by
    induction l with
    | nil => exact fun _ h => h
    | cons a l ih =>
      intro x h
      rw [List.foldl_cons]
      refine ih _ ?_
      unfold homeS
      split
      · exact h.set (hq a)
      · exact h
  exact key _ _ h
theorem openN_cons (g : Nat) (gr : List Nat) : openN (g :: gr) = (if 0 < g then 1 else 0) + openN gr := by
  unfold openN
  rw [List.filter_cons]
  by_cases c : 0 < g
  · rw [if_pos (decide_eq_true c), if_pos c, List.length_cons, Nat.add_comm]
  · rw [if_neg (by simpa using c), if_neg c, Nat.zero_add]
theorem openN_set : ∀ (gr : List Nat) (i g : Nat), openN (gr.set i g) ≤ openN gr + 1 ∧ (0 < gr.getD i 0 → openN (gr.set i g) ≤ openN gr)
  | [], _, _ => ⟨by simp, fun h => by simp at h⟩
  | x :: gr, 0, g => by
    rw [List.set_cons_zero, openN_cons, openN_cons]
    refine ⟨by split <;> split <;> omega, fun h => ?_⟩
    have h : 0 < x := h
    rw [if_pos h]
    split <;> omega
  | x :: gr, i + 1, g => by
    have ih := openN_set gr i g
    rw [List.set_cons_succ, openN_cons, openN_cons]
    exact ⟨by have := ih.1; omega, fun h => by have := ih.2 (by simpa using h); omega⟩
theorem grow {r : Rm} {gr : List Nat} {j g : Nat} (hg : 0 < g) {i : Nat} {p : Pl} (h : p ∈ opts r gr i) : p ∈ opts r (gr.set j g) i := by
  cases p with
  | ins s => exact mem_ins h
  | out ds =>
    obtain ⟨k, c, x, hc, e, hx, h0⟩ := mem_out.mp h
    refine mem_out.mpr ?_
    by_cases z : j = k
    · subst z
      exact ⟨j, c, g, hc, e, by rw [List.getElem?_set, if_pos rfl, if_pos (List.getElem?_eq_some_iff.mp hx).1], hg⟩
    · exact ⟨k, c, x, hc, e, by rw [List.getElem?_set, if_neg z]; exact hx, h0⟩
theorem InR.step {r : Rm} {m : Nat} {s : Sd} {e : Ev} (ok : RmOk r) (h : InR r m s) (a : e ∈ alF r s.gr m) : InR r m (stepE r s e) := by
  obtain ⟨i, c, A⟩ := al_mem ok h.ok a
  rw [A.step.1]
  have mc := List.mem_of_getElem? A.hc
  have li : i < s.gr.length := by rw [h.ok.gr]; exact (List.getElem?_eq_some_iff.mp A.hc).1
  have lift : ∀ g, 0 < g → g ≤ 3 → openN (s.gr.set i g) ≤ m → InR r m ⟨(liftP c s.pl g).1, s.gr.set i g⟩ := fun g g0 g3 o => by
    refine ⟨lift_ok ok h.ok mc g3 i, o, ?_⟩
    have hq : ∀ k, Pl.out c.ds ∈ opts r (s.gr.set i g) k := fun k => mem_out.mpr ⟨i, c, g, A.hc, rfl, by rw [List.getElem?_set, if_pos rfl, if_pos li], g0⟩
    exact PlIn.mvF (O := opts r (s.gr.set i g)) (x := (outP c.ds s.pl (wentF c s.pl g), [])) (fun x hx => mem_mv mc hx) (PlIn.outP hq fun k p e => grow g0 (h.pl k p e))
  unfold stepS
  rw [A.hc]
  cases w : e.1 with
  | back =>
    have b := A.bk w
    refine ⟨back_ok ok h.ok c.ds i, Nat.le_trans ((openN_set _ _ _).2 b) h.op, ?_⟩
    have hq : ∀ k, Pl.ins (r.st.getD k 0) ∈ opts r (s.gr.set i 0) k := fun k => mem_home
    refine PlIn.homeF hq (PlIn.inP hq fun k p e => ?_) _
    have hp := h.pl k p e
    cases p with
    | ins t => exact .inl (mem_ins hp)
    | out ds =>
      by_cases z : ds = c.ds
      · refine .inr ?_
        unfold atL
        rw [← z]
        exact List.mem_filter.mpr ⟨List.mem_range.mpr (List.getElem?_eq_some_iff.mp e).1, decide_eq_true e⟩
      · obtain ⟨j, d, x, hd, rfl, hx, h0⟩ := mem_out.mp hp
        refine .inl (mem_out.mpr ⟨j, d, x, hd, rfl, ?_, h0⟩)
        rw [List.getElem?_set, if_neg (fun q => by subst q; rw [A.hc] at hd; exact z (congrArg Cd.ds (Option.some.inj hd).symm))]
        exact hx
  | call =>
    have b := A.cl w
    show InR r m (if 0 < s.gr.getD i 0 then s else ⟨(liftP c s.pl 1).1, s.gr.set i 1⟩)
    rw [if_neg (by omega)]
    exact lift 1 (by decide) (by decide) (by have := (openN_set s.gr i 1).1; omega)
  | more =>
    have b := A.mo w
    exact lift _ (by omega) (by omega) (Nat.le_trans ((openN_set _ _ _).2 b.1) h.op)
theorem start_ok {r : Rm} (ok : RmOk r) : SdOk r (startS r) := ⟨by show (r.st.map Pl.ins).length = _; rw [List.length_map], by show (r.cs.map fun _ => 0).length = _; rw [List.length_map], fun g hg => by
    obtain ⟨_, _, rfl⟩ := List.mem_map.mp (show g ∈ r.cs.map fun _ => 0 from hg)
    decide, fun p hp => by
    obtain ⟨x, hx, rfl⟩ := List.mem_map.mp (show p ∈ r.st.map Pl.ins from hp)
    exact ok.st8 x hx⟩
theorem InR.start {r : Rm} (ok : RmOk r) (m : Nat) : InR r m (startS r) := by
  refine ⟨start_ok ok, ?_, fun i p e => ?_⟩
  · have : openN (startS r).gr = 0 := by
      show openN (r.cs.map fun _ => 0) = 0
      unfold openN
      rw [List.length_eq_zero_iff, List.filter_eq_nil_iff]
      intro g hg
      obtain ⟨_, _, rfl⟩ := List.mem_map.mp hg
      decide
    omega
  · have e : (r.st.map Pl.ins)[i]? = some p := e
    rw [List.getElem?_map] at e
    obtain ⟨x, hx, rfl⟩ := Option.map_eq_some_iff.mp e
    have : x = r.st.getD i 0 := by rw [List.getD_eq_getElem?_getD, hx]; rfl
    rw [this]
    exact mem_home
end
end K59

namespace K59
open PySem L2 Wm TL Dv
section
variable {P : Program} {w : World} {K : PySem.W.Frag} {mg : Str → Option Value} {base : Heap}
def sp_makes_short (K : PySem.W.Frag) : Sp := fun vs H Q _ => ∃ (x y : V) (e : Ev) (t : Td), vs = [x, y] ∧ Dt K H x (evD e) ∧ Dt K H y (tdD t) ∧ (e.1 ≠ .back → ∃ g w m n, t = .sent g w m n) ∧ Q (.bl (!decide (e.1 = .back) && decide (0 < shN t))) H
theorem two_ds {H : Hp} {v : V} {a b : PyData} {t : Addr} {x y : V} (h : Dt K H v (.tuple [a, b])) (e : v = .ref t) (ht : SqT K H t [x, y]) : True := trivial
theorem last_sent {H : Hp} {v : V} {g : Nat} {wl : List Nat} {m : List (Nat × Nat)} {sh : Nat} (h : Dt K H v (tdD (.sent g wl m sh))) : ∃ p x y, v = .ref p ∧ SqT K H p [.int (g : Nat), x, y, .int (sh : Nat)] := by
  unfold tdD at h
  cases h with
  | tup hq hs =>
    cases hs with
    | cons a hs =>
      cases a
      cases hs with
      | cons b hs =>
        cases hs with
        | cons c hs =>
          cases hs with
          | cons d hs =>
            cases d
            cases hs
            exact ⟨_, _, _, rfl, hq⟩
theorem ok_makes_short (T : Txt K mg) : FnOk P w K mg base CX0 1 T.a_makes_short T.d_makes_short ["event", "told"] (sp_makes_short K) := by
  refine T.F_makes_short.ok sc_makes_short (fun vs H Q E h => ?_) (fun cdv A outer s H vs Q E hr h => ?_)
  · obtain ⟨x, y, e, t, rfl, _⟩ := h
    rfl
  · obtain ⟨x, y, e, t, rfl, dx, dy, hm, k⟩ := h
    obtain ⟨q, a, b, rfl, hq, d1, d2⟩ := dt_two dx
    obtain rfl := d1.str_inv
    refine ⟨_, (pss_one (ps_ret (pe_and (pe_cmpR op_ne (pe_ix ix_tup (pv 0) pe_int (fun _ _ => rfl)) (pe_glob (v := V.str "back") rfl T.c_BACK ⟨_, rfl⟩) (nomark _)) (pe_one (pe_cmpR op_gt (pe_ix ix_tup (pv 1) (pe_un un_neg pe_int) (fun _ _ => rfl)) pe_int (nomark _)))))), ?_⟩
    refine ⟨_, rfl, q, _, 0, _, rfl, rfl, hq, atI_nat (j := 0) rfl, rfl, _, rfl, ?_⟩
    rw [wd_back]
    by_cases c : e.1 = .back
    · rw [decide_eq_true c] at k ⊢
      exact iteF k
    · rw [decide_eq_false c] at k ⊢
      refine iteT ?_
      obtain ⟨g, wl, m, n, rfl⟩ := hm c
      obtain ⟨p, u, z, rfl, hp⟩ := last_sent dy
      refine ⟨_, rfl, _, rfl, p, _, -1, _, rfl, rfl, hp, rfl, _, _, rfl, rfl, ?_⟩
      have e1 : decide (((n : Nat) : Int) > 0) = decide (0 < n) := by
        by_cases c : 0 < n
        · rw [decide_eq_true c, decide_eq_true (by omega)]
        · rw [decide_eq_false c, decide_eq_false (by omega)]
      (try dsimp only)
      show Q (.bl (decide (0 < ((n : Nat) : Int)))) H
      rw [show decide (0 < ((n : Nat) : Int)) = decide (0 < n) from e1]
      exact k
end
end K59

namespace K59
open PySem L2 Wm TL Dv
section
variable {P : Program} {w : World} {K : PySem.W.Frag} {mg : Str → Option Value} {base : Heap}
theorem all_le {n : Nat} : ∀ {ds : List PyData}, (∀ d ∈ ds, d.depth ≤ n) → PyData.depthAll ds ≤ n
  | [], _ => Nat.zero_le _
  | d :: ds, h => by
    have a := h d List.mem_cons_self
    have b := all_le (ds := ds) fun y m => h y (List.mem_cons_of_mem _ m)
    simp only [PyData.depthAll]
    omega
theorem tup_le {n : Nat} {ds : List PyData} (h : ∀ d ∈ ds, d.depth ≤ n) : (PyData.tuple ds).depth ≤ n + 1 := by
  simp only [PyData.depth]
  have := all_le h
  omega
theorem sd_depth (s : Sd) : (sdD s).depth ≤ 3 := by
  unfold sdD
  refine tup_le (n := 2) fun d m => ?_
  simp only [List.mem_cons, List.not_mem_nil, or_false] at m
  rcases m with rfl | rfl
  · refine tup_le (n := 1) fun d m => ?_
    obtain ⟨p, _, rfl⟩ := List.mem_map.mp m
    cases p <;> simp [plD, PyData.depth, PyData.depthAll]
  · unfold iD
    refine Nat.le_succ_of_le (tup_le (n := 0) fun d m => ?_)
    obtain ⟨p, _, rfl⟩ := List.mem_map.mp m
    simp [PyData.depth]
theorem sd_nk {H : Hp} {v : V} {s : Sd} (h : Dt K H v (sdD s)) : Nd.Nk K H v (Nd.toKey (sdD s)) := ⟨_, h, rfl, Nat.le_trans (sd_depth s) (by decide)⟩
theorem plD_inj {p q : Pl} (h : plD p = plD q) : p = q := by
  cases p with
  | ins a =>
    cases q with
    | ins b =>
      simp only [plD, PyData.tuple.injEq, List.cons.injEq, PyData.int.injEq, and_true, true_and] at h
      rw [Int.ofNat_inj.mp h]
    | out b =>
      exfalso
      simp only [plD, PyData.tuple.injEq, List.cons.injEq, PyData.str.injEq] at h
      revert h
      intro h
      exact absurd h.1 (by decide +kernel)
  | out a =>
    cases q with
    | ins b =>
      exfalso
      simp only [plD, PyData.tuple.injEq, List.cons.injEq, PyData.str.injEq] at h
      exact absurd h.1 (by decide +kernel)
    | out b =>
      simp only [plD, PyData.tuple.injEq, List.cons.injEq, PyData.str.injEq, and_true, true_and] at h
      rw [numS_inj h]
theorem map_inj {α β : Type} {f : α → β} (hf : ∀ a b, f a = f b → a = b) : ∀ {l m : List α}, l.map f = m.map f → l = m
  | [], [], _ => rfl
  | [], _ :: _, h => by cases h
  | _ :: _, [], h => by cases h
  | a :: l, b :: m, h => by
    simp only [List.map_cons, List.cons.injEq] at h
    rw [hf _ _ h.1, map_inj hf h.2]
theorem sdD_inj {s t : Sd} (h : sdD s = sdD t) : s = t := by
  cases s with
  | mk a b =>
    cases t with
    | mk c d =>
      simp only [sdD, iD, PyData.tuple.injEq, List.cons.injEq, and_true] at h
      rw [map_inj (fun _ _ => plD_inj) h.1, map_inj (fun x y e => by simp only [PyData.int.injEq] at e; exact Int.ofNat_inj.mp e) h.2]
theorem sent_of {r : Rm} {s : Sd} {m : Nat} {e : Ev} {i : Nat} {c : Cd} (a : AlE r s m e i c) : (e.1 ≠ .back → ∃ g w m n, tellE r s e = .sent g w m n) ∧ (tellE r s e ≠ .non) := by
  rw [a.step.2]
  unfold stepT
  rw [a.hc]
  cases w : e.1 with
  | back => exact ⟨fun z => absurd rfl z, fun z => by cases z⟩
  | call =>
    have b := a.cl w
    show ((Wd.call ≠ .back → ∃ g w m n, (if 0 < s.gr.getD i 0 then Td.non else liftT c s.pl 1) = .sent g w m n) ∧ (if 0 < s.gr.getD i 0 then Td.non else liftT c s.pl 1) ≠ .non)
    rw [if_neg (by omega)]
    exact ⟨fun _ => ⟨_, _, _, _, rfl⟩, fun z => by cases z⟩
  | more => exact ⟨fun _ => ⟨_, _, _, _, rfl⟩, fun z => by cases z⟩
theorem All2.mono2 {α β : Type} {R S : α → β → Prop} {as : List α} {bs : List β} (h : All2 R as bs) (f : ∀ a b, R a b → S a b) : All2 S as bs := h.mono f
theorem alF_len {r : Rm} {gr : List Nat} {m : Nat} (ok : RmOk r) : (alF r gr m).length ≤ 18 := by
  have h : ∀ l : List (List Nat × Nat), (l.flatMap (alI gr m)).length ≤ 3 * l.length := fun l => by
    induction l with
    | nil => simp
    | cons x l ih =>
      rw [List.flatMap_cons, List.length_append, List.length_cons]
      have := alI_len gr m x
      omega
  have h1 := h ((r.cs.map fun c => c.ds).zip gr)
  have h2 : ((r.cs.map fun c => c.ds).zip gr).length ≤ r.cs.length := by rw [List.length_zip, List.length_map]; omega
  have := ok.cs6
  unfold alF
  omega
end
end K59

namespace K59
open PySem L2 Wm TL Dv
section
variable {P : Program} {w : World} {K : PySem.W.Frag} {mg : Str → Option Value} {base : Heap}
def sp_cards (K : PySem.W.Frag) : Sp := fun vs H Q _ => ∃ (b n a : Addr) (dss : List (List Nat)) (st : List Nat) (way : Nat), vs = [.ref b, .ref n, .ref a, .int 2, .int (way : Nat)] ∧ way < 3 ∧ Bk H b ∧ n ≠ b ∧ a ≠ b ∧ H n = some (.lst ((dss.map numS).map V.str)) ∧ H a = some (.lst (nV st)) ∧ 1 ≤ st.length ∧ st.length ≤ 6 ∧ (∀ s ∈ st, s ≤ 8) ∧ dss.length ≤ 6 ∧ (∀ ds ∈ dss, Num ds) ∧
  ∀ H' l cs, Bu b H H' → Bk H' b → l ≠ b → LC K H' l cs → (cs.map fun c => c.ds) = dss → (∀ c ∈ cs, CdOk st c) → (cs.flatMap fun c => c.moves).length ≤ 2 → Q (.ref l) H'
theorem sum_take_le : ∀ (ns : List Nat) (cm : Nat), 0 ≤ ((ns.map fun (n : Nat) => (n : Int)).take cm).sum := fun ns cm => by
  rw [← List.map_take]
  generalize ns.take cm = l
  induction l with
  | nil => simp
  | cons x l ih => rw [List.map_cons, List.sum_cons]; omega
theorem Bu.new {p C : Addr} {A B : Hp} {o : HO} (h : Bu p A B) (f : A C = none) : Bu p A (upd B C o) := fun q u n e => by
  have : q ≠ C := fun z => by subst z; rw [f] at e; cases e
  rw [upd_ne this]
  exact h q u n e
theorem Bu.none {p C : Addr} {A B : Hp} (h : Bu p A B) (n : C ≠ p) (f : B C = none) : A C = none := by
  cases e : A C with
  | none => rfl
  | some o => rw [h _ _ n e] at f; cases f
theorem nV_erase : ∀ (ns : List Nat) (d : Nat), (nV ns).eraseIdx d = nV (ns.eraseIdx d)
  | [], _ => rfl
  | _ :: _, 0 => rfl
  | n :: ns, d + 1 => by
    show V.int (n : Nat) :: (nV ns).eraseIdx d = V.int (n : Nat) :: nV (ns.eraseIdx d)
    rw [nV_erase ns d]
theorem nV_snoc (ns : List Nat) (d : Nat) : nV ns ++ [V.int ((d : Nat) : Int)] = nV (ns ++ [d]) := by unfold nV; rw [List.map_append]; rfl
theorem erase_perm {x : Nat} : ∀ {cr : List Nat} {d : Nat}, cr[d]? = some x → (x :: cr.eraseIdx d).Perm cr
  | [], _, h => by simp at h
  | y :: ys, 0, h => by
    have h : y = x := by simpa using h
    subst h
    exact List.Perm.refl _
  | y :: ys, d + 1, h => by
    have ih := erase_perm (cr := ys) (d := d) (x := x) (by simpa using h)
    show (x :: y :: ys.eraseIdx d).Perm (y :: ys)
    exact (List.Perm.swap y x _).trans (ih.cons y)
theorem pop_perm {cr od xs : List Nat} {d x : Nat} (h : (cr ++ od).Perm xs) (hd : cr[d]? = some x) : (cr.eraseIdx d ++ (od ++ [x])).Perm xs := by
  refine List.Perm.trans ?_ h
  have p2 : (cr.eraseIdx d ++ (od ++ [x])).Perm (x :: (cr.eraseIdx d ++ od)) := by
    rw [← List.append_assoc]
    exact List.perm_append_comm
  exact p2.trans ((erase_perm hd).append_right od)
theorem rg_nV (m : Nat) : rgV 0 (m : Nat) = nV (List.range m) := by
  unfold rgV nV
  rw [show ((m : Int) - 0).toNat = m by omega]
  exact List.map_congr_left fun i _ => by rw [Int.zero_add]
theorem ok_cards (T : Txt K mg) : FnOk P w K mg base CX0 3 T.a_cards T.d_cards ["_law_bag_here", "_law_numbers_here", "_law_stations", "_law_most_moves", "_law_way"] (sp_cards K) := by
  refine T.F_cards.ok sc_cards (fun vs H Q E h => ?_) (fun cdv A outer s H vs Q E hr h => ?_)
  · obtain ⟨b, n, a, dss, st, way, rfl, _⟩ := h
    rfl
  · obtain ⟨b, n, a, dss, st, way, rfl, hw3, hb, nnb, nab, hn, ha, st1, st6, st8, d6, dN, k⟩ := h
    refine ⟨_, (pss_cons (ps_par (i := 5) (j := 6) rfl sc_cards.nd rfl rfl (by decide) rfl rfl (pa_cons (pe_lst pa_nil) (pa_cons (pv 3) pa_nil)) rfl)
      (pss_cons (ps_for PassesOwn.never rfl (pi_list (pv 1)) (pg_name (i := 7) sc_cards.nd rfl (Or.inl rfl))
        (pss_cons (ps_par (i := 8) (j := 9) rfl sc_cards.nd rfl rfl (by decide) rfl rfl (pa_cons (pe_listRg rfl (by rfl) T.z_list (prg_1 (by rfl) T.z_range (pe_callB call_len_seq (by rfl) T.z_len PySem.boot_len (pa_cons (pv 2) pa_nil)))) (pa_cons (pe_lst pa_nil) pa_nil)) rfl)
        (pss_cons (ps_for PassesOwn.never rfl (pi_range1 (by rfl) T.z_range (pa_cons (pe_call (ok_take T) (hr.mono (by decide)) (by rfl) T.g_take T.F_take.kp T.b_take .nil pass0 (pa_cons (pv 0) (pa_cons (pe_op op_add (pe_callB call_len_seq (by rfl) T.z_len PySem.boot_len (pa_cons (pv 2) pa_nil)) pe_int) pa_nil))) pa_nil)) (pg_name (i := 10) sc_cards.nd rfl (Or.inl rfl))
          (pss_one (ps_expr (pe_bm PySem.F.plainAttrs_list PySem.F.slot_list_append PySem.F.type_list_append mt_append (pv 9) (pa_cons (pe_bm PySem.F.plainAttrs_list PySem.F.slot_list_pop PySem.F.type_list_pop mt_popAt (pv 8) (pa_cons (pe_call (ok_take T) (hr.mono (by decide)) (by rfl) T.g_take T.F_take.kp T.b_take .nil pass0 (pa_cons (pv 0) (pa_cons (pe_callB call_len_seq (by rfl) T.z_len PySem.boot_len (pa_cons (pv 8) pa_nil)) pa_nil))) pa_nil)) pa_nil)))))
        (pss_cons (ps_setLc (i := 11) (own := [("_law_grade", 12)]) (g := gName 12) (tt := tYes) rfl sc_cards.nd rfl rfl (sw_true rfl rfl rfl (by decide +kernel)) (pi_range1 (by rfl) T.z_range (pa_cons pe_int pa_nil)) (blkOk_by (own := [("_law_grade", 12)]) (N := nm_cards) (sc := (defScope s_cards)) (by decide +kernel)) (fun _ _ _ _ _ => pg_name (i := 12) sc_cards.nd rfl (Or.inl rfl)) (fun _ _ _ _ _ => pts_nil) (fun _ _ _ _ _ => (pe_call (ok_of T) (hr.mono (by decide)) (by rfl) T.g_of T.F_of.kp T.b_of .nil pass0 (pa_cons (pv 0) (pa_cons (pe_lst (pa_cons pe_int (pa_cons pe_int (pa_cons pe_int (pa_cons pe_int (pa_cons pe_int (pa_cons pe_int pa_nil))))))) pa_nil)))))
        (pss_cons (ps_set (i := 13) sc_cards.nd rfl (Or.inl rfl) (pe_lst (pa_cons pe_int (pa_cons pe_int (pa_cons pe_int pa_nil)))))
        (pss_cons (ps_for PassesOwn.never rfl (pi_range1 (by rfl) T.z_range (pa_cons pe_int pa_nil)) (pg_name (i := 12) sc_cards.nd rfl (Or.inl rfl))
          (pss_cons (ps_set (i := 14) sc_cards.nd rfl (Or.inl rfl) (pe_callB (call_min2 rfl) (by rfl) T.z_min (by decide +kernel) (pa_cons (pe_callB call_len_seq (by rfl) T.z_len PySem.boot_len (pa_cons (pv 9) pa_nil)) (pa_cons (pe_callB (cr_sum rfl) (by rfl) T.z_sum (by decide +kernel) (pa_cons (pe_slice sl_list (pv 11) po_none (po_some (pe_op op_add (pv 12) pe_int))) pa_nil)) pa_nil))))
          (pss_one (ps_asg (pe_ix ix_list (pe_lst (pa_cons pe_int (pa_cons (pv 14) (pa_cons (pe_call (ok_of T) (hr.mono (by decide)) (by rfl) T.g_of T.F_of.kp T.b_of .nil pass0 (pa_cons (pv 0) (pa_cons (pe_lst (pa_cons pe_int (pa_cons pe_int (pa_cons pe_int (pa_cons pe_int (pa_cons pe_int (pa_cons pe_int pa_nil))))))) pa_nil))) pa_nil)))) (pv 4) (fun _ _ => rfl)) (pg_sub (pv 13) (pv 12) set_list)))))
        (pss_cons (ps_set (i := 15) sc_cards.nd rfl (Or.inl rfl) (pe_lst pa_nil))
        (pss_cons (ps_for PassesOwn.never rfl (pi_range1 (by rfl) T.z_range (pa_cons (pe_call (ok_take T) (hr.mono (by decide)) (by rfl) T.g_take T.F_take.kp T.b_take .nil pass0 (pa_cons (pv 0) (pa_cons (pe_op op_add (pe_callB (call_min2 rfl) (by rfl) T.z_min (by decide +kernel) (pa_cons pe_int (pa_cons (pv 6) pa_nil))) pe_int) pa_nil))) pa_nil)) (pg_name (i := 10) sc_cards.nd rfl (Or.inl rfl))
          (pss_cons (ps_expr (pe_bm PySem.F.plainAttrs_list PySem.F.slot_list_append PySem.F.type_list_append mt_append (pv 15) (pa_cons (pe_tup (pa_cons (pe_call (ok_take T) (hr.mono (by decide)) (by rfl) T.g_take T.F_take.kp T.b_take .nil pass0 (pa_cons (pv 0) (pa_cons (pe_callB call_len_seq (by rfl) T.z_len PySem.boot_len (pa_cons (pv 2) pa_nil)) pa_nil))) (pa_cons (pe_call (ok_of T) (hr.mono (by decide)) (by rfl) T.g_of T.F_of.kp T.b_of .nil pass0 (pa_cons (pv 0) (pa_cons (pv 2) pa_nil))) pa_nil))) pa_nil)))
          (pss_one (ps_set (i := 6) sc_cards.nd rfl (Or.inl rfl) (pe_op op_sub (pv 6) pe_int)))))
        (pss_one (ps_expr (pe_bm PySem.F.plainAttrs_list PySem.F.slot_list_append PySem.F.type_list_append mt_append (pv 5) (pa_cons (pe_tup (pa_cons (pv 7) (pa_cons (pe_callTy call_tuple_of (by rfl) T.z_tuple (by decide +kernel) (pa_cons (pv 9) pa_nil)) (pa_cons (pe_callTy call_tuple_of (by rfl) T.z_tuple (by decide +kernel) (pa_cons (pv 11) pa_nil)) (pa_cons (pe_callTy call_tuple_of (by rfl) T.z_tuple (by decide +kernel) (pa_cons (pv 13) pa_nil)) (pa_cons (pe_callTy call_tuple_of (by rfl) T.z_tuple (by decide +kernel) (pa_cons (pv 15) pa_nil)) pa_nil)))))) pa_nil))))))))))))
      (pss_one (ps_ret (pv 5))))), ?_⟩
    refine ⟨by show 0 ≤ sizeLine; decide, fun L hL => ⟨_, rfl, _, _, rfl, ?_⟩⟩
    have nLb := hb.off hL
    have sL := same_new (o := .lst []) hL
    have hL1 : upd H L (.lst []) L = some (.lst []) := upd_same
    have bu1 := Bu.of sL (p := b)
    have hb1 := hb.k sL
    generalize upd H L (.lst []) = H1 at hL1 bu1 hb1 ⊢
    refine ⟨_, rfl, n, rfl, ⟨_, SqL.of (bu1 _ _ nnb hn)⟩, ?_⟩
    refine for_list (xs := (dss.map numS).map V.str) (fun i σ A => ∃ left : Nat, (∃ (v7 v8 v9 v10 v11 v12 v13 v14 v15 : Option V), σ = [some (.ref b), some (.ref n), some (.ref a), some (.int 2), some (.int (way : Nat)), some (.ref L), some (.int (left : Nat)), v7, v8, v9, v10, v11, v12, v13, v14, v15]) ∧ Bu b H A ∧ Bk A b ∧ ∃ (cs : List Cd) (zs : List V), A L = some (.lst zs) ∧ Dts K A zs (cs.map cdD) ∧ (cs.map fun c => c.ds) = dss.take i ∧ (∀ c ∈ cs, CdOk st c) ∧ (cs.flatMap fun c => c.moves).length + left = 2)
      ⟨2, ⟨none, none, none, none, none, none, none, none, none, rfl⟩, bu1, hb1, [], [], hL1, .nil, rfl, (fun _ m => by cases m), rfl⟩ (fun i σ A _ h => by obtain ⟨_, _, h, _⟩ := h; exact SqL.of (h _ _ nnb hn)) (fun i w σ A hw hP => ?_) (fun σ A hP => ?_)
    · obtain ⟨left, ⟨v7, v8, v9, v10, v11, v12, v13, v14, v15, rfl⟩, buA, hbA, cs, zs, hLA, dA, ecs, okc, emv⟩ := hP
      rw [List.getElem?_map] at hw
      obtain ⟨y, ey, rfl⟩ := Option.map_eq_some_iff.mp hw
      rw [List.getElem?_map] at ey
      obtain ⟨ds, eds, rfl⟩ := Option.map_eq_some_iff.mp ey
      have il := (List.getElem?_eq_some_iff.mp eds).1
      have lcs : cs.length = i := by
        have := congrArg List.length ecs
        rw [List.length_map, List.length_take] at this
        omega
      have lzs := dA.len
      rw [List.length_map] at lzs
      have haA := buA _ _ nab ha
      obtain ⟨bx, by', hbx, _⟩ := id hbA
      have keep : ∀ B, Bu b A B → Kt K A B := fun B u => u.kt hbx (fun _ e => by cases e) (fun _ _ e => by cases e)
      refine ⟨_, rfl, a, _, rfl, .inl (SqL.of haA), _, rfl, ?_⟩
      rw [nV_len]
      refine ⟨RgOk.of_le (by decide) (by omega) (by decide) (by omega), fun C hC => ?_⟩
      rw [rg_nV]
      have s1 := same_new (o := .lst (nV (List.range st.length))) hC
      have hC1 : upd A C (.lst (nV (List.range st.length))) C = some (.lst (nV (List.range st.length))) := upd_same
      have nCb := hbA.off hC
      generalize upd A C (.lst (nV (List.range st.length))) = A1 at s1 hC1 ⊢
      refine ⟨by show 0 ≤ sizeLine; decide, fun O hO => ⟨_, _, rfl, ?_⟩⟩
      have s2 := same_new (o := .lst []) hO
      have hO2 : upd A1 O (.lst []) O = some (.lst []) := upd_same
      have nOC : O ≠ C := fun e => by subst e; rw [hC1] at hO; cases hO
      have hC2 := s2 _ _ hC1
      have hOA := none_of s1 hO
      have nOb := hbA.off hOA
      have s12 := s1.trans s2
      have hb2 := hbA.k s12
      have bu2 := Bu.of s12 (p := b)
      generalize upd A1 O (.lst []) = A2 at hO2 hC2 hb2 bu2 ⊢
      clear s1 s2 s12 hC1 hO
      refine ⟨_, rfl, _, rfl, a, _, rfl, .inl (SqL.of (bu2 _ _ nab haA)), _, _, rfl, rfl, ?_⟩
      rw [nV_len]
      refine ⟨b, st.length + 1, rfl, hb2, by omega, by omega, fun A3 kk hk bu3 hb3 => ?_⟩
      refine ⟨_, rfl, by omega, by omega, ?_⟩
      rw [Int.toNat_natCast]
      have hC3 := bu3 _ _ nCb hC2
      have hO3 := bu3 _ _ nOb hO2
      have bu3 := bu2.trans bu3
      refine for_range (fun j σ B => (∃ v10, σ = [some (.ref b), some (.ref n), some (.ref a), some (.int 2), some (.int (way : Nat)), some (.ref L), some (.int (left : Nat)), some (.str (numS ds)), some (.ref C), some (.ref O), v10, v11, v12, v13, v14, v15]) ∧ Bu b A B ∧ Bk B b ∧ ∃ cr od : List Nat, B C = some (.lst (nV cr)) ∧ B O = some (.lst (nV od)) ∧ cr.length + j = st.length ∧ (cr ++ od).Perm (List.range st.length))
        ⟨⟨v10, rfl⟩, bu3, hb3, List.range st.length, [], hC3, hO3, by simp, by rw [List.append_nil]⟩ (fun j σ B hj hP => ?_) (fun σ B hP => ?_)
      · obtain ⟨⟨v10, rfl⟩, buB, hbB, cr, od, hCB, hOB, lcr, pe⟩ := hP
        have lod := pe.length_eq
        rw [List.length_append, List.length_range] at lod
        refine ⟨_, rfl, .inl ⟨rfl, _, SqL.of hOB⟩, _, rfl, .inl ⟨rfl, _, SqL.of hCB⟩, _, rfl, _, rfl, C, _, rfl, .inl (SqL.of hCB), ?_⟩
        rw [nV_len]
        refine ⟨b, cr.length, rfl, hbB, by omega, by omega, fun B2 d hd bu4 hb4 => ?_⟩
        have hC4 := bu4 _ _ nCb hCB
        have hO4 := bu4 _ _ nOb hOB
        have bu4 := buB.trans bu4
        have hx := List.getElem?_eq_getElem hd
        generalize cr[d] = x at hx
        refine ⟨C, _, _, d, .int (x : Nat), rfl, rfl, hC4, by omega, by omega, by rw [nV_len]; exact seqIndex_of (by omega) (by omega), nV_at hx, ?_⟩
        rw [nV_erase]
        have bu5 := bu4.new (C := C) (o := .lst (nV (cr.eraseIdx d))) hC
        have hb5 := hb4.bu (p := C) (Bu.set (o := .lst (nV (cr.eraseIdx d)))) (fun z => nCb z.symm)
        have hC5 : upd B2 C (.lst (nV (cr.eraseIdx d))) C = some (.lst (nV (cr.eraseIdx d))) := upd_same
        have hO5 : upd B2 C (.lst (nV (cr.eraseIdx d))) O = some (.lst (nV od)) := by rw [upd_ne nOC]; exact hO4
        generalize upd B2 C (.lst (nV (cr.eraseIdx d))) = B5 at bu5 hb5 hC5 hO5 ⊢
        refine ⟨O, _, _, rfl, rfl, hO5, by rw [nV_len]; exact small1000 (by omega), ?_⟩
        rw [nV_snoc]
        refine ⟨⟨_, rfl⟩, bu5.new hOA, hb5.bu (Bu.set (p := O)) (fun z => nOb z.symm), cr.eraseIdx d, od ++ [x], by rw [upd_ne (fun z => nOC z.symm)]; exact hC5, upd_same, ?_, pop_perm pe hx⟩
        rw [List.length_eraseIdx_of_lt hd]
        omega
      obtain ⟨⟨v10, rfl⟩, buB, hbB, cr, od, hCB, hOB, lcr, pe⟩ := hP
      have lod := pe.length_eq
      rw [List.length_append, List.length_range] at lod
      have odn : od.Nodup := (List.nodup_append.mp (pe.nodup_iff.mpr List.nodup_range)).2.1
      have odl : ∀ x ∈ od, x < st.length := fun x m => List.mem_range.mp (pe.mem_iff.mp (List.mem_append_right _ m))
      clear hCB pe
      refine ⟨_, rfl, by decide, by decide, fun D hD => ?_⟩
      have nDb := hbB.off hD
      have hDA := buB.none nDb hD
      refine lc_range (fun j B' => Bu b A B' ∧ Bk B' b ∧ B' O = some (.lst (nV od)) ∧ ∃ ns : List Nat, ns.length = j ∧ (∀ k ∈ ns, k ≤ 6) ∧ B' D = some (.lst (nV ns)))
        ⟨buB.new hDA, hbB.k (same_new hD), same_new hD _ _ hOB, [], rfl, (fun _ m => by cases m), upd_same⟩ (fun j B' hj hP => ?_) (fun B' hP => ?_)
      · obtain ⟨bu', hb', hO', ns, ln, n6, hD'⟩ := hP
        have nOD : O ≠ D := fun e => by subst e; rw [hOB] at hD; cases hD
        refine ⟨rfl, yesT ⟨_, rfl, by show 6 ≤ sizeLine; decide, fun F hF => ?_⟩⟩
        have sF := same_new (o := .lst [.int 0, .int 1, .int 1, .int 2, .int 3, .int 6]) hF
        refine ⟨b, F, _, rfl, hb'.k sF, hb'.off hF, upd_same, List.cons_ne_nil _ _, by decide, fun B2 v mv bu2' hb2' => ?_⟩
        obtain ⟨m, rfl, m6⟩ : ∃ m : Nat, v = .int (m : Nat) ∧ m ≤ 6 := by
          simp only [List.mem_cons, List.not_mem_nil, or_false] at mv
          rcases mv with rfl | rfl | rfl | rfl | rfl | rfl
          · exact ⟨0, rfl, by decide⟩
          · exact ⟨1, rfl, by decide⟩
          · exact ⟨1, rfl, by decide⟩
          · exact ⟨2, rfl, by decide⟩
          · exact ⟨3, rfl, by decide⟩
          · exact ⟨6, rfl, by decide⟩
        have hj : j < 3 := hj
        have hD2 := bu2' _ _ nDb (sF _ _ hD')
        have hO2' := bu2' _ _ nOb (sF _ _ hO')
        refine ⟨_, hD2, by rw [nV_len]; exact small1000 (by omega), ((bu'.trans (Bu.of sF)).trans bu2').new hDA, hb2'.bu (Bu.set (p := D)) (fun z => nDb z.symm), by rw [upd_ne nOD]; exact hO2', ns ++ [m], by rw [List.length_append, ln]; rfl, fun x mx => ?_, by rw [upd_same, nV_snoc]⟩
        rcases List.mem_append.mp mx with mx | mx
        · exact n6 x mx
        · rw [List.mem_singleton.mp mx]; exact m6
      obtain ⟨buB, hbB, hOB, ns, ln, n6, hDB⟩ := hP
      have ln : ns.length = 3 := ln
      refine ⟨by show 3 ≤ sizeLine; decide, fun W hW => ?_⟩
      have nWb := hbB.off hW
      have hWA := buB.none nWb hW
      have nDW : D ≠ W := fun e => by subst e; rw [hDB] at hW; cases hW
      have nOW : O ≠ W := fun e => by subst e; rw [hOB] at hW; cases hW
      have sW := same_new (o := .lst [.int 0, .int 0, .int 0]) hW
      have hW1 : upd B' W (.lst [.int 0, .int 0, .int 0]) W = some (.lst (nV [0, 0, 0])) := upd_same
      have hDB := sW _ _ hDB
      have hOB := sW _ _ hOB
      have hbB := hbB.k sW
      have buB := buB.trans (Bu.of sW)
      generalize upd B' W (.lst [.int 0, .int 0, .int 0]) = B1 at hW1 hDB hOB hbB buB ⊢
      refine ⟨_, rfl, by decide, by decide, ?_⟩
      refine for_range (fun j σ B => (∃ v12 v14, σ = [some (.ref b), some (.ref n), some (.ref a), some (.int 2), some (.int (way : Nat)), some (.ref L), some (.int (left : Nat)), some (.str (numS ds)), some (.ref C), some (.ref O), v10, some (.ref D), v12, some (.ref W), v14, v15]) ∧ Bu b A B ∧ Bk B b ∧ B O = some (.lst (nV od)) ∧ B D = some (.lst (nV ns)) ∧ ∃ ws : List Nat, ws.length = 3 ∧ (∀ k ∈ ws, k ≤ 6) ∧ B W = some (.lst (nV ws)))
        ⟨⟨_, _, rfl⟩, buB, hbB, hOB, hDB, [0, 0, 0], rfl, by decide, hW1⟩ (fun j σ B hj hP => ?_) (fun σ B hP => ?_)
      · obtain ⟨⟨v12, v14, rfl⟩, buB, hbB, hOB, hDB, ws, lw, w6, hWB⟩ := hP
        have hj : j < 3 := hj
        rw [Int.zero_add]
        refine ⟨_, rfl, O, _, rfl, .inl (SqL.of hOB), _, rfl, _, rfl, _, _, rfl, rfl, _, rfl, D, _, rfl, SqL.of hDB, fun S hS => ?_⟩
        obtain ⟨cm, ecm⟩ := cut_some (ns.map fun (n : Nat) => (n : Int)) (some (((j : Nat) : Int) + 1))
        rw [nV_int ns, ecm]
        have sS := same_new (o := .lst (((ns.map fun (n : Nat) => (n : Int)).take cm).map V.int)) hS
        refine ⟨S, _, rfl, SqL.of upd_same, _, _, rfl, ?_⟩
        rw [← nV_int ns] at *
        have hOB := sS _ _ hOB
        have hDB := sS _ _ hDB
        have hWB := sS _ _ hWB
        have hbB := hbB.k sS
        have buB := buB.trans (Bu.of sS)
        generalize upd B S (.lst (((ns.map fun (n : Nat) => (n : Int)).take cm).map V.int)) = B3 at hOB hDB hWB hbB buB ⊢
        refine ⟨_, rfl, _, rfl, by show 6 ≤ sizeLine; decide, fun F hF => ?_⟩
        have sF := same_new (o := .lst [.int 0, .int 0, .int 1, .int 1, .int 2, .int 6]) hF
        refine ⟨b, F, _, rfl, hbB.k sF, hbB.off hF, upd_same, List.cons_ne_nil _ _, by decide, fun B2 v mv bu2' hb2' => ?_⟩
        obtain ⟨m, rfl, m6⟩ : ∃ m : Nat, v = .int (m : Nat) ∧ m ≤ 6 := by
          simp only [List.mem_cons, List.not_mem_nil, or_false] at mv
          rcases mv with rfl | rfl | rfl | rfl | rfl | rfl
          · exact ⟨0, rfl, by decide⟩
          · exact ⟨0, rfl, by decide⟩
          · exact ⟨1, rfl, by decide⟩
          · exact ⟨1, rfl, by decide⟩
          · exact ⟨2, rfl, by decide⟩
          · exact ⟨6, rfl, by decide⟩
        refine ⟨by show 3 ≤ sizeLine; decide, fun G hG => ?_⟩
        have lod : ((nV od).length : Nat) ≤ 6 := by rw [nV_len]; omega
        have s0 := sum_take_le ns cm
        obtain ⟨ln1, eln, ln6⟩ : ∃ ln1 : Nat, (if (List.take cm (List.map (fun (n : Nat) => (n : Int)) ns)).sum < ((nV od).length : Nat) then (List.take cm (List.map (fun (n : Nat) => (n : Int)) ns)).sum else ((nV od).length : Nat)) = (ln1 : Nat) ∧ ln1 ≤ 6 := by
          split
          · exact ⟨(List.take cm (List.map (fun (n : Nat) => (n : Int)) ns)).sum.toNat, by omega, by omega⟩
          · exact ⟨(nV od).length, rfl, lod⟩
        rw [eln]
        obtain ⟨wv, ewv, w06⟩ : ∃ wv : Nat, ([.int 0, .int (ln1 : Nat), .int (m : Nat)] : List V)[way]? = some (.int (wv : Nat)) ∧ wv ≤ 6 := by
          rcases (show way = 0 ∨ way = 1 ∨ way = 2 by omega) with rfl | rfl | rfl
          · exact ⟨0, rfl, by decide⟩
          · exact ⟨ln1, rfl, ln6⟩
          · exact ⟨m, rfl, m6⟩
        have sG := same_new (o := .lst [.int 0, .int (ln1 : Nat), .int (m : Nat)]) hG
        have buG := ((buB.trans (Bu.of sF)).trans bu2').trans (Bu.of sG)
        have hbG := hb2'.k sG
        have hWG := sG _ _ (bu2' _ _ nWb (sF _ _ hWB))
        have hOG := sG _ _ (bu2' _ _ nOb (sF _ _ hOB))
        have hDG := sG _ _ (bu2' _ _ nDb (sF _ _ hDB))
        refine ⟨_, rfl, G, _, (way : Nat), _, rfl, rfl, SqL.of upd_same, atI_nat ewv, ?_⟩
        generalize upd B2 G (.lst [.int 0, .int (ln1 : Nat), .int (m : Nat)]) = B5 at buG hbG hWG hOG hDG ⊢
        refine ⟨_, rfl, _, rfl, W, _, _, j, rfl, rfl, hWG, ixN_nat (by rw [nV_len]; omega), ?_⟩
        have ew : (nV ws).set j (.int (wv : Nat)) = nV (ws.set j wv) := by unfold nV; rw [List.map_set]
        rw [ew]
        refine ⟨⟨_, _, rfl⟩, buG.new hWA, hbG.bu (Bu.set (p := W)) (fun z => nWb z.symm), by rw [upd_ne nOW]; exact hOG, by rw [upd_ne nDW]; exact hDG, ws.set j wv, by rw [List.length_set, lw], fun x mx => ?_, upd_same⟩
        rcases List.mem_or_eq_of_mem_set mx with mx | mx
        · exact w6 x mx
        · rw [mx]; exact w06
      obtain ⟨⟨v12, v14, rfl⟩, buB, hbB, hOB, hDB, ws, lw, w6, hWB⟩ := hP
      refine ⟨by show 0 ≤ sizeLine; decide, fun M hM => ?_⟩
      have nMb := hbB.off hM
      have hMA := buB.none nMb hM
      have nOM : O ≠ M := fun e => by subst e; rw [hOB] at hM; cases hM
      have nDM : D ≠ M := fun e => by subst e; rw [hDB] at hM; cases hM
      have nWM : W ≠ M := fun e => by subst e; rw [hWB] at hM; cases hM
      have sM := same_new (o := .lst []) hM
      have hM1 : upd B M (.lst []) M = some (.lst []) := upd_same
      have hOB := sM _ _ hOB
      have hDB := sM _ _ hDB
      have hWB := sM _ _ hWB
      have hbB := hbB.k sM
      have buB := buB.trans (Bu.of sM)
      generalize upd B M (.lst []) = B1 at hM1 hOB hDB hWB hbB buB ⊢
      refine ⟨_, rfl, _, rfl, _, _, rfl, _, _, rfl, rfl, ?_⟩
      obtain ⟨mm, emm, m0, m3, mle⟩ : ∃ mm : Nat, (if ((left : Nat) : Int) < 2 then ((left : Nat) : Int) else 2) + 1 = (mm : Nat) ∧ 0 < mm ∧ mm ≤ 3 ∧ mm ≤ left + 1 := by
        split
        · exact ⟨left + 1, by omega, by omega, by omega, by omega⟩
        · exact ⟨3, rfl, by decide, by decide, by omega⟩
      refine ⟨b, mm, congrArg (fun z => [V.ref b, V.int z]) emm, hbB, m0, by omega, fun B2 kq hkq bu2' hb2' => ?_⟩
      have hM2 := bu2' _ _ nMb hM1
      have hO2 := bu2' _ _ nOb hOB
      have hD2 := bu2' _ _ nDb hDB
      have hW2 := bu2' _ _ nWb hWB
      have buB := buB.trans bu2'
      refine ⟨_, rfl, by omega, by omega, ?_⟩
      rw [Int.toNat_natCast]
      refine for_range (fun j σ B => (∃ (lf : Nat) (v10 : Option V), lf + j = left ∧ σ = [some (.ref b), some (.ref n), some (.ref a), some (.int 2), some (.int (way : Nat)), some (.ref L), some (.int (lf : Nat)), some (.str (numS ds)), some (.ref C), some (.ref O), v10, some (.ref D), v12, some (.ref W), v14, some (.ref M)]) ∧ Bu b A B ∧ Bk B b ∧ B O = some (.lst (nV od)) ∧ B D = some (.lst (nV ns)) ∧ B W = some (.lst (nV ws)) ∧ ∃ (mv : List (Nat × Nat)) (us : List V), B M = some (.lst us) ∧ Dts K B us (mv.map mD) ∧ mv.length = j ∧ ∀ x ∈ mv, x.1 < st.length ∧ x.2 ∈ st)
        ⟨⟨left, _, rfl, rfl⟩, buB, hb2', hO2, hD2, hW2, [], [], hM2, .nil, rfl, fun _ m => by cases m⟩ (fun j σ B hj hP => ?_) (fun σ B hP => ?_)
      · obtain ⟨⟨lf, v10, elf, rfl⟩, buB, hbB, hOB, hDB, hWB, mv, us, hMB, dM, lmv, okm⟩ := hP
        have lus := dM.len
        rw [List.length_map] at lus
        have haB := buB _ _ nab haA
        refine ⟨_, rfl, .inl ⟨rfl, _, SqL.of hMB⟩, _, rfl, _, rfl, a, _, rfl, .inl (SqL.of haB), ?_⟩
        rw [nV_len]
        refine ⟨b, st.length, rfl, hbB, by omega, by omega, fun B3 d hd bu3' hb3' => ?_⟩
        have haB3 := bu3' _ _ nab haB
        refine ⟨_, rfl, _, rfl, b, a, _, rfl, hb3', nab, haB3, (fun z => by rw [← List.length_eq_zero_iff, nV_len] at z; omega), by rw [nV_len]; omega, fun B4 v mv' bu4' hb4' => ?_⟩
        obtain ⟨s0, ms0, rfl⟩ := List.mem_map.mp mv'
        have bu34 := bu3'.trans bu4'
        refine ⟨by show 2 ≤ sizeLine; decide, fun u hu => ?_⟩
        have sU := same_new (o := .tup [.int (d : Nat), .int (s0 : Nat)]) hu
        have hMU := sU _ _ (bu34 _ _ nMb hMB)
        refine ⟨M, us, _, rfl, rfl, hMU, small1000 (by omega), ?_⟩
        obtain ⟨bx2, by2, hbx2, _⟩ := id hbB
        have dM2 := (dM.k (bu34.kt hbx2 (fun _ e => by cases e) (fun _ _ e => by cases e))).ks sU
        have dnew : Dts K (upd B4 u (.tup [.int (d : Nat), .int (s0 : Nat)])) (us ++ [.ref u]) ((mv ++ [(d, s0)]).map mD) := by
          rw [List.map_append]
          exact dM2.snoc (dt_tup upd_same (.cons (.int _) (.cons (.int _) .nil)))
        have dnew := dnew.k (Kt.lst (o := .lst (us ++ [.ref u])) hMU)
        refine ⟨_, rfl, _, _, rfl, rfl, ?_⟩
        have el : ((lf : Nat) : Int) - 1 = ((lf - 1 : Nat) : Int) := by omega
        (try dsimp only)
        rw [el]
        refine ⟨⟨lf - 1, _, by omega, rfl⟩, ((buB.trans bu34).trans (Bu.of sU)).new hMA, (hb4'.k sU).bu (Bu.set (p := M)) (fun z => nMb z.symm), by rw [upd_ne nOM]; exact sU _ _ (bu34 _ _ nOb hOB), by rw [upd_ne nDM]; exact sU _ _ (bu34 _ _ nDb hDB), by rw [upd_ne nWM]; exact sU _ _ (bu34 _ _ nWb hWB), mv ++ [(d, s0)], _, upd_same, dnew, by rw [List.length_append, lmv]; rfl, fun x mx => ?_⟩
        rcases List.mem_append.mp mx with mx | mx
        · exact okm x mx
        · rw [List.mem_singleton.mp mx]; exact ⟨hd, ms0⟩
      obtain ⟨⟨lf, v10, elf, rfl⟩, buB, hbB, hOB, hDB, hWB, mv, us, hMB, dM, lmv, okm⟩ := hP
      have hLB := buB _ _ nLb hLA
      have dB := dA.k (keep _ buB)
      refine ⟨_, rfl, .inl ⟨rfl, _, SqL.of hLB⟩, _, rfl, _, rfl, O, _, rfl, .inl ⟨SqL.of hOB, fun t1 ht1 => ?_⟩⟩
      have s1 := same_new (o := .tup (nV od)) ht1
      have h11 : upd B t1 (.tup (nV od)) t1 = some (.tup (nV od)) := upd_same
      generalize upd B t1 (.tup (nV od)) = B3 at s1 h11 ⊢
      refine ⟨_, rfl, D, _, rfl, .inl ⟨SqL.of (s1 _ _ hDB), fun t2 ht2 => ?_⟩⟩
      have s2 := same_new (o := .tup (nV ns)) ht2
      have h22 : upd B3 t2 (.tup (nV ns)) t2 = some (.tup (nV ns)) := upd_same
      generalize upd B3 t2 (.tup (nV ns)) = B4 at s2 h22 ⊢
      refine ⟨_, rfl, W, _, rfl, .inl ⟨SqL.of (s2 _ _ (s1 _ _ hWB)), fun t3 ht3 => ?_⟩⟩
      have s3 := same_new (o := .tup (nV ws)) ht3
      have h33 : upd B4 t3 (.tup (nV ws)) t3 = some (.tup (nV ws)) := upd_same
      generalize upd B4 t3 (.tup (nV ws)) = B5 at s3 h33 ⊢
      refine ⟨_, rfl, M, us, rfl, .inl ⟨SqL.of (s3 _ _ (s2 _ _ (s1 _ _ hMB))), fun t4 ht4 => ?_⟩⟩
      have s4 := same_new (o := .tup us) ht4
      have h44 : upd B5 t4 (.tup us) t4 = some (.tup us) := upd_same
      generalize upd B5 t4 (.tup us) = B6 at s4 h44 ⊢
      refine ⟨by show 5 ≤ sizeLine; decide, fun u hu => ?_⟩
      have s5 := same_new (o := .tup [.str (numS ds), .ref t1, .ref t2, .ref t3, .ref t4]) hu
      have h55 : upd B6 u (.tup [.str (numS ds), .ref t1, .ref t2, .ref t3, .ref t4]) u = some (.tup [.str (numS ds), .ref t1, .ref t2, .ref t3, .ref t4]) := upd_same
      generalize upd B6 u (.tup [.str (numS ds), .ref t1, .ref t2, .ref t3, .ref t4]) = B7 at s5 h55 ⊢
      have s25 := ((s2.trans s3).trans s4).trans s5
      have sAll := s1.trans s25
      have dC : Dt K B7 (.ref u) (cdD ⟨ds, od, ns, ws, mv⟩) := dt_tup h55 (.cons (.str _) (.cons (dt_iD (s25 _ _ h11)) (.cons (dt_iD (((s3.trans s4).trans s5) _ _ h22)) (.cons (dt_iD ((s4.trans s5) _ _ h33)) (.cons (.tup (SqT.of (s5 _ _ h44)) (dM.ks sAll)) .nil)))))
      have hL7 := sAll _ _ hLB
      refine ⟨L, zs, _, rfl, rfl, hL7, small1000 (by omega), ?_⟩
      have dnew : Dts K B7 (zs ++ [.ref u]) ((cs ++ [(⟨ds, od, ns, ws, mv⟩ : Cd)]).map cdD) := by
        rw [List.map_append]
        exact (dB.ks sAll).snoc dC
      have bu7 := buB.trans (Bu.of sAll)
      refine ⟨lf, ⟨_, _, _, _, _, _, _, _, _, rfl⟩, ?_, (hbB.k sAll).bu (Bu.set (p := L)) (fun z => nLb z.symm), cs ++ [(⟨ds, od, ns, ws, mv⟩ : Cd)], zs ++ [.ref u], upd_same, dnew.k (Kt.lst (o := .lst (zs ++ [.ref u])) hL7), ?_, fun c mc => ?_, ?_⟩
      · exact (buA.trans bu7).new hL
      · rw [List.map_append, ecs, tk_succ' eds]; rfl
      · rcases List.mem_append.mp mc with mc | mc
        · exact okc c mc
        · rw [List.mem_singleton.mp mc]
          exact CdOk.mk (dN ds (List.mem_of_getElem? eds)) odl odn ln n6 lw w6 (by show mv.length ≤ 6; omega) okm
      · rw [List.flatMap_append, List.length_append]
        show _ + ((mv ++ []).length) + lf = 2
        rw [List.append_nil]
        omega
    · obtain ⟨left, ⟨v7, v8, v9, v10, v11, v12, v13, v14, v15, rfl⟩, buA, hbA, cs, zs, hLA, dA, ecs, okc, emv⟩ := hP
      rw [List.length_map, List.length_map, List.take_length] at ecs
      exact ⟨_, rfl, k _ L cs buA hbA nLb ⟨zs, hLA, dA⟩ ecs okc (by omega)⟩
end
end K59

namespace K59
open PySem L2 Wm TL Dv
section
variable {P : Program} {w : World} {K : PySem.W.Frag} {mg : Str → Option Value} {base : Heap}
def sp_room (K : PySem.W.Frag) : Sp := fun vs H Q _ => ∃ (b : Addr), vs = [.ref b] ∧ Bk H b ∧ ∀ H' q a l (r : Rm) (m : Nat), Bu b H H' → Bk H' b → H' q = some (.tup [.ref a, .ref l, .int (m : Nat)]) → H' a = some (.lst (nV r.st)) → LC K H' l r.cs → RmOk r → Small r → 1 ≤ m → m ≤ 2 → a ≠ b → l ≠ b → Q (.ref q) H'
theorem small_in {ns : List Nat} {v : V} (h : v ∈ nV ns) : ∃ m : Nat, v = .int (m : Nat) ∧ m ∈ ns := by
  obtain ⟨m, hm, e⟩ := List.mem_map.mp h
  exact ⟨m, e.symm, hm⟩
theorem if_tC {c : Bool} {u v : V} {σ : L2.St} {H : Hp} {Q : VK} (h : Q (if c = true then u else v) H) : if c = true then tC u σ H Q else tC v σ H Q := by
  cases c
  · exact h
  · exact h
theorem ok_room (T : Txt K mg) : FnOk P w K mg base CX0 4 T.a_room T.d_room ["_law_bag_here"] (sp_room K) := by
  refine T.F_room.ok sc_room (fun vs H Q E h => ?_) (fun cdv A outer s H vs Q E hr h => ?_)
  · obtain ⟨b, rfl, _⟩ := h
    rfl
  · obtain ⟨b, rfl, hb, k⟩ := h
    refine ⟨_, (pss_cons (ps_set (i := 1) sc_room.nd rfl (Or.inl rfl) (pe_call (ok_of T) (hr.mono (by decide)) (by rfl) T.g_of T.F_of.kp T.b_of .nil pass0 (pa_cons (pv 0) (pa_cons (pe_lst (pa_cons pe_int (pa_cons pe_int (pa_cons pe_int (pa_cons pe_int (pa_cons pe_int (pa_cons pe_int pa_nil))))))) pa_nil))))
      (pss_cons (ps_set (i := 2) sc_room.nd rfl (Or.inl rfl) (pe_call (ok_numbers T) (hr.mono (by decide)) (by rfl) T.g_numbers T.F_numbers.kp T.b_numbers .nil pass0 (pa_cons (pv 0) (pa_cons (pv 1) pa_nil))))
      (pss_cons (ps_setLc (i := 3) (own := [("_law_crew", 4)]) (g := gName 4) (tt := tYes) rfl sc_room.nd rfl rfl (sw_true rfl rfl rfl (by decide +kernel)) (pi_range1 (by rfl) T.z_range (pa_cons (pe_op op_add pe_int (pe_call (ok_take T) (hr.mono (by decide)) (by rfl) T.g_take T.F_take.kp T.b_take .nil pass0 (pa_cons (pv 0) (pa_cons (pe_ifExp (pt_cmpR op_lt (pv 1) pe_int (nomark _)) pe_int pe_int) pa_nil)))) pa_nil)) (blkOk_by (own := [("_law_crew", 4)]) (N := nm_room) (sc := (defScope s_room)) (by decide +kernel)) (fun _ _ _ _ _ => pg_name (i := 4) sc_room.nd rfl (Or.inl rfl)) (fun _ _ _ _ _ => pts_nil) (fun _ _ _ _ _ => (pe_call (ok_of T) (hr.mono (by decide)) (by rfl) T.g_of T.F_of.kp T.b_of .nil pass0 (pa_cons (pv 0) (pa_cons (pe_lst (pa_cons pe_int (pa_cons pe_int (pa_cons pe_int pa_nil)))) pa_nil)))))
      (pss_cons (ps_set (i := 5) sc_room.nd rfl (Or.inl rfl) (pe_call (ok_cards T) (hr.mono (by decide)) (by rfl) T.g_cards T.F_cards.kp T.b_cards .nil pass0 (pa_cons (pv 0) (pa_cons (pv 2) (pa_cons (pv 3) (pa_cons pe_int (pa_cons (pe_call (ok_of T) (hr.mono (by decide)) (by rfl) T.g_of T.F_of.kp T.b_of .nil pass0 (pa_cons (pv 0) (pa_cons (pe_lst (pa_cons pe_int (pa_cons pe_int (pa_cons pe_int (pa_cons pe_int pa_nil))))) pa_nil))) pa_nil)))))))
      (pss_one (ps_ret (pe_tup (pa_cons (pv 3) (pa_cons (pv 5) (pa_cons (pe_op op_add pe_int (pe_call (ok_take T) (hr.mono (by decide)) (by rfl) T.g_take T.F_take.kp T.b_take .nil pass0 (pa_cons (pv 0) (pa_cons pe_int pa_nil)))) pa_nil)))))))))), ?_⟩
    refine ⟨_, rfl, by show 6 ≤ sizeLine; decide, fun F hF => ?_⟩
    have sF := same_new (o := .lst [.int 1, .int 2, .int 2, .int 2, .int 2, .int 3]) hF
    refine ⟨b, F, _, rfl, hb.k sF, hb.off hF, upd_same, List.cons_ne_nil _ _, by decide, fun H1 v mv bu1 hb1 => ?_⟩
    obtain ⟨many, rfl, mm⟩ := small_in (ns := [1, 2, 2, 2, 2, 3]) mv
    have m13 : 1 ≤ many ∧ many ≤ 3 := by
      simp only [List.mem_cons, List.not_mem_nil, or_false] at mm
      omega
    have bu1 := (Bu.of sF (p := b)).trans bu1
    refine ⟨_, rfl, _, rfl, b, many, rfl, hb1, by omega, fun H2 nl dss dN dnd dl dne hnl0 hnl bu2 hb2 => ?_⟩
    have nnb := hb1.off hnl0
    have dne := dne (by omega)
    obtain ⟨lim, elim, l0, l4⟩ : ∃ lim : Nat, (if decide (((many : Nat) : Int) < 3) = true then V.int 4 else V.int 3) = V.int (lim : Nat) ∧ 0 < lim ∧ ((many ≤ 2 ∧ lim = 4) ∨ lim = 3) := by
      by_cases c : many < 3
      · exact ⟨4, by rw [if_pos (decide_eq_true (by omega))]; rfl, by decide, .inl ⟨by omega, rfl⟩⟩
      · exact ⟨3, by rw [if_neg (by rw [decide_eq_true_iff]; omega)]; rfl, by decide, .inr rfl⟩
    refine ⟨_, rfl, _, rfl, _, _, rfl, rfl, _, rfl, if_tC ?_⟩
    rw [elim]
    refine ⟨b, lim, rfl, hb2, l0, by omega, fun H5 q hq bu5 hb5 => ?_⟩
    refine ⟨_, _, rfl, rfl, ?_⟩
    have hn5 := bu5 _ _ nnb hnl
    have bu5 := (bu1.trans bu2).trans bu5
    obtain ⟨q1, eq1, q1a, q1b⟩ : ∃ q1 : Nat, (1 : Int) + (q : Nat) = (q1 : Nat) ∧ 1 ≤ q1 ∧ q1 ≤ lim := ⟨1 + q, by omega, by omega, by omega⟩
    refine ⟨_, congrArg (fun z => [V.int z]) eq1, by omega, by omega, fun S hS0 => ?_⟩
    rw [Int.toNat_natCast]
    have nSb := hb5.off hS0
    refine lc_range (fun j B => Bu b H5 B ∧ Bk B b ∧ ∃ st : List Nat, st.length = j ∧ (∀ x ∈ st, x ≤ 8) ∧ B S = some (.lst (nV st))) ⟨(fun _ _ _ e => same_new hS0 _ _ e), hb5.k (same_new hS0), [], rfl, (fun _ m => by cases m), upd_same⟩ (fun j B hj hP => ?_) (fun B hP => ?_)
    · obtain ⟨buB, hbB, st, lst', st8, hSB⟩ := hP
      refine ⟨rfl, yesT ⟨_, rfl, by show 3 ≤ sizeLine; decide, fun F hF => ?_⟩⟩
      have sF := same_new (o := .lst [.int 0, .int 1, .int 8]) hF
      refine ⟨b, F, _, rfl, hbB.k sF, hbB.off hF, upd_same, List.cons_ne_nil _ _, by decide, fun B2 v mv bu2' hb2' => ?_⟩
      obtain ⟨m, rfl, mm⟩ := small_in (ns := [0, 1, 8]) mv
      have m8 : m ≤ 8 := by
        simp only [List.mem_cons, List.not_mem_nil, or_false] at mm
        omega
      have hS2 := bu2' _ _ nSb (sF _ _ hSB)
      refine ⟨_, hS2, by rw [nV_len]; exact small1000 (by omega), ((buB.trans (Bu.of sF)).trans bu2').new hS0, hb2'.bu (Bu.set (p := S)) (fun z => nSb z.symm), st ++ [m], by rw [List.length_append, lst']; rfl, fun x mx => ?_, by rw [upd_same, nV_snoc]⟩
      rcases List.mem_append.mp mx with mx | mx
      · exact st8 x mx
      · rw [List.mem_singleton.mp mx]; exact m8
    obtain ⟨buB, hbB, st, lst', st8, hSB⟩ := hP
    have hnB := buB _ _ nnb hn5
    have bu6 := bu5.trans buB
    refine ⟨_, rfl, _, rfl, _, rfl, _, rfl, by show 4 ≤ sizeLine; decide, fun F hF => ?_⟩
    have sF := same_new (o := .lst [.int 0, .int 1, .int 1, .int 2]) hF
    refine ⟨b, F, _, rfl, hbB.k sF, hbB.off hF, upd_same, List.cons_ne_nil _ _, by decide, fun B2 v mv bu2' hb2' => ?_⟩
    obtain ⟨way, rfl, mw⟩ := small_in (ns := [0, 1, 1, 2]) mv
    have w3 : way < 3 := by
      simp only [List.mem_cons, List.not_mem_nil, or_false] at mw
      omega
    have buC := (Bu.of sF (p := b)).trans bu2'
    have hS2 := buC _ _ nSb hSB
    have hn2 := buC _ _ nnb hnB
    have bu7 := bu6.trans buC
    refine ⟨b, nl, S, dss, st, way, rfl, w3, hb2', nnb, nSb, hn2, hS2, by omega, by omega, st8, by omega, dN, fun H7 l cs bu8 hb7 nlb hlc ecs okc mvl => ?_⟩
    have hS7 := bu8 _ _ nSb hS2
    have bu8 := bu7.trans bu8
    refine ⟨_, rfl, _, rfl, _, rfl, b, 2, rfl, hb7, by decide, by decide, fun H8 q hq bu9 hb8 => ?_⟩
    refine ⟨_, _, rfl, rfl, by show 3 ≤ sizeLine; decide, fun u hu => ?_⟩
    have e1 : (1 : Int) + (q : Nat) = ((1 + q : Nat) : Int) := by omega
    have lcs : cs.length = dss.length := by rw [← ecs, List.length_map]
    show Q (.ref u) (upd H8 u (.tup [.ref S, .ref l, .int ((1 : Int) + (q : Nat))]))
    rw [e1]
    have s9 := same_new (o := .tup [.ref S, .ref l, .int ((1 + q : Nat) : Int)]) hu
    have keep : Bu b H7 (upd H8 u (.tup [.ref S, .ref l, .int ((1 + q : Nat) : Int)])) := bu9.trans (Bu.of s9)
    obtain ⟨cvs, hl7, hd7⟩ := hlc
    obtain ⟨x0, y0, hbx, _⟩ := id hb7
    refine k _ u S l ⟨st, cs⟩ (1 + q) (bu8.trans keep) (hb8.k s9) upd_same (keep _ _ nSb hS7) ⟨cvs, keep _ _ nlb hl7, hd7.k (keep.kt hbx (fun _ e => by cases e) (fun _ _ e => by cases e))⟩ ?_ ?_ (by omega) (by omega) nSb nlb
    · exact ⟨by show 1 ≤ st.length; omega, by show st.length ≤ 6; omega, st8, by show cs.length ≤ 6; omega, okc, by rw [show (Rm.mk st cs).cs = cs from rfl, ecs]; exact dnd⟩
    · refine ⟨?_, mvl, fun z => dne (by have z : cs = [] := z; rw [← ecs, z]; rfl)⟩
      show (cs.length ≤ 2 ∧ st.length ≤ 4) ∨ (cs.length ≤ 3 ∧ st.length ≤ 3)
      by_cases c : many ≤ 2
      · exact .inl ⟨by omega, by omega⟩
      · refine .inr ⟨by omega, ?_⟩
        have : lim = 3 := by
          rcases Classical.em (((many : Nat) : Int) < 3) with z | z
          · omega
          · rw [if_neg (by rw [decide_eq_true_iff]; exact z)] at elim
            have := V.int.inj elim
            omega
        omega
end
end K59

namespace K59
open PySem L2 Wm TL Dv
section
variable {P : Program} {w : World} {K : PySem.W.Frag} {mg : Str → Option Value} {base : Heap}
def curS (r : Rm) (s : Sd) (w : Wd) (o : Option Nat) (i : Nat) : Sd := match o with
  | some j => if j < i then stepS r s w j else s
  | none => s
def curT (r : Rm) (s : Sd) (w : Wd) (o : Option Nat) (i : Nat) : Td := match o with
  | some j => if j < i then stepT r s w j else .non
  | none => .non
/-- a standing whose first tuple is known to be plain -/
def PlF (K : PySem.W.Frag) (H : Hp) (v : V) (s : Sd) : Prop := ∃ q p y zs, v = .ref q ∧ SqT K H q [.ref p, y] ∧ Tf.TF H p zs ∧ Dts K H zs (s.pl.map plD)
def sp_step (K : PySem.W.Frag) : Sp := fun vs H Q _ => ∃ (a l : Addr) (v x : V) (e : Addr) (r : Rm) (s : Sd) (w : Wd) (d : PyData) (o : Option Nat), vs = [.ref a, .ref l, v, .ref e] ∧ H a = some (.lst (nV r.st)) ∧ LC K H l r.cs ∧ RmOk r ∧ Dt K H v (sdD s) ∧ SdOk r s ∧ SqT K H e [.str (wdS w), x] ∧ Ob K H x d ∧ AskAt r x o ∧ (w = .more → grOf s o < 3) ∧
  ∀ H' q t1 t sh, Same H H' → H' q = some (.tup [t1, t, .bl sh]) → Dt K H' t1 (sdD (stepSO r s w o)) → TdAt K H' t (stepTO r s w o) → sh = decide (0 < shN (stepTO r s w o)) → PlF K H' t1 (stepSO r s w o) → Q (.ref q) H'
theorem cur_yes {r : Rm} {s : Sd} {w : Wd} {i : Nat} : curS r s w (some i) (i + 1) = stepS r s w i ∧ curT r s w (some i) (i + 1) = stepT r s w i ∧ curS r s w (some i) i = s ∧ curT r s w (some i) i = .non := by
  unfold curS curT
  refine ⟨if_pos (Nat.lt_succ_self i), if_pos (Nat.lt_succ_self i), if_neg (Nat.lt_irrefl i), if_neg (Nat.lt_irrefl i)⟩
theorem cur_no {r : Rm} {s : Sd} {w : Wd} {o : Option Nat} {i : Nat} (h : o ≠ some i) : curS r s w o (i + 1) = curS r s w o i ∧ curT r s w o (i + 1) = curT r s w o i := by
  cases o with
  | none => exact ⟨rfl, rfl⟩
  | some j =>
    have h : j ≠ i := fun e => h (by rw [e])
    unfold curS curT
    by_cases c : j < i
    · exact ⟨by show (if j < i + 1 then _ else _) = (if j < i then _ else _); rw [if_pos c, if_pos (by omega)], by show (if j < i + 1 then _ else _) = (if j < i then _ else _); rw [if_pos c, if_pos (by omega)]⟩
    · exact ⟨by show (if j < i + 1 then _ else _) = (if j < i then _ else _); rw [if_neg c, if_neg (by omega)], by show (if j < i + 1 then _ else _) = (if j < i then _ else _); rw [if_neg c, if_neg (by omega)]⟩
theorem cur_end {r : Rm} {s : Sd} {w : Wd} {x : V} {o : Option Nat} (a : AskAt r x o) : curS r s w o r.cs.length = stepSO r s w o ∧ curT r s w o r.cs.length = stepTO r s w o := by
  cases o with
  | none => exact ⟨rfl, rfl⟩
  | some j =>
    obtain ⟨c, hc, _⟩ := a
    have := (List.getElem?_eq_some_iff.mp hc).1
    exact ⟨if_pos this, if_pos this⟩
theorem ask_at {r : Rm} (ok : RmOk r) {x : V} {o : Option Nat} (a : AskAt r x o) {i : Nat} {c : Cd} (hc : r.cs[i]? = some c) : decide (x = .str (numS c.ds)) = decide (o = some i) := by
  cases o with
  | none =>
    have a : ∀ c ∈ r.cs, x ≠ .str (numS c.ds) := a
    rw [decide_eq_false (a c (List.mem_of_getElem? hc)), decide_eq_false (by intro e; cases e)]
  | some j =>
    obtain ⟨c2, hc2, rfl⟩ := a
    by_cases e : j = i
    · subst e
      rw [hc] at hc2
      obtain rfl := Option.some.inj hc2
      rw [decide_eq_true rfl, decide_eq_true rfl]
    · rw [decide_eq_false (p := some j = some i) (fun z => e (Option.some.inj z)), decide_eq_false]
      intro z
      have z := numS_inj (V.str.inj z)
      have nd := ok.nd
      have h1 : (r.cs.map fun c => c.ds)[i]? = some c.ds := by rw [List.getElem?_map, hc]; rfl
      have h2 : (r.cs.map fun c => c.ds)[j]? = some c.ds := by rw [List.getElem?_map, hc2, ← z]; rfl
      have hi := (List.getElem?_eq_some_iff.mp h1).1
      exact e ((List.getElem?_inj hi nd).mp (h1.trans h2.symm)).symm
theorem wd_more (w : Wd) : decide (V.str (wdS w) = V.str "more") = decide (w = .more) := by cases w <;> decide +kernel
theorem sent_four {H : Hp} {v : V} {g : Nat} {wl : List Nat} {m : List (Nat × Nat)} {sh : Nat} (h : Dt K H v (tdD (.sent g wl m sh))) : ∃ p x y, v = .ref p ∧ SqT K H p [.int (g : Nat), x, y, .int (sh : Nat)] := by
  unfold tdD at h
  cases h with
  | tup hq hs =>
    cases hs with
    | cons a hs =>
      cases a
      cases hs with
      | cons b hs =>
        cases hs with
        | cons c hs =>
          cases hs with
          | cons d hs =>
            cases d
            cases hs
            exact ⟨_, _, _, rfl, hq⟩
theorem ne_lg {A : Hp} {lp lg : Addr} {zs : List V} {pl : List Pl} {ns : List Nat} (h : A lp = some (.lst zs)) (d : Dts K A zs (pl.map plD)) (l : 0 < pl.length) (g : A lg = some (.lst (nV ns))) : lp ≠ lg := fun e => by
  subst e
  rw [h] at g
  have g : zs = nV ns := by injection Option.some.inj g
  obtain ⟨v, hv, dv⟩ := pls_get d (List.getElem?_eq_getElem l)
  obtain ⟨q, rfl, _⟩ := pl_two dv
  rw [g] at hv
  obtain ⟨n, _, z⟩ := nV_inv hv
  cases z
theorem dec_cast (n : Nat) : decide ((0 : Int) < ((n : Nat) : Int)) = decide (0 < n) := by
  by_cases c : 0 < n
  · rw [decide_eq_true c, decide_eq_true (by omega)]
  · rw [decide_eq_false c, decide_eq_false (by omega)]
theorem ok_step (T : Txt K mg) : FnOk P w K mg base CX0 2 T.a_step T.d_step ["_law_stations", "_law_cards_here", "_law_standing", "_law_event"] (sp_step K) := by
  refine T.F_step.ok sc_step (fun vs H Q E h => ?_) (fun cdv A outer s H vs Q E hr h => ?_)
  · obtain ⟨a, l, v, x, e, r, s, w, d, o, rfl, _⟩ := h
    rfl
  · obtain ⟨a, l, v, x, e, r, sd, w, d, o, rfl, ha, ⟨cvs, hl, hd⟩, ok, dv, so, he, ob, ask, g3, k⟩ := h
    obtain ⟨t, y1, y2, rfl, ht, d5, d6⟩ := dt_two dv
    obtain ⟨gr, rfl, hg⟩ := dt_ints d6
    obtain ⟨pp, xs, rfl, hpp, dp⟩ := d5.inv
    have lx := hd.len
    rw [List.length_map] at lx
    have pl0 := so.pl
    have gr0 := so.gr
    have st1 := ok.st1
    have st6 := ok.st6
    have cs6 := ok.cs6
    have fd := tg_fine ob.tg
    refine ⟨_, (pss_cons (ps_asg (pe_tup (pa_cons (pe_callTy call_list_of (by rfl) T.z_list (by decide +kernel) (pa_cons (pe_ix ix_tup (pv 2) pe_int (fun _ _ => rfl)) pa_nil)) (pa_cons (pe_callTy call_list_of (by rfl) T.z_list (by decide +kernel) (pa_cons (pe_ix ix_tup (pv 2) pe_int (fun _ _ => rfl)) pa_nil)) (pa_cons pe_non (pa_cons pe_bl pa_nil))))) (pg_tup rfl (pgs_cons (pg_name (i := 4) sc_step.nd rfl (Or.inl rfl)) (pgs_cons (pg_name (i := 5) sc_step.nd rfl (Or.inl rfl)) (pgs_cons (pg_name (i := 6) sc_step.nd rfl (Or.inl rfl)) (pgs_cons (pg_name (i := 7) sc_step.nd rfl (Or.inl rfl)) pgs_nil))))))
      (pss_cons (ps_for PassesOwn.never rfl (pi_enum (by rfl) T.z_enumerate (pa_cons (pv 1) pa_nil)) (pg_tup rfl (pgs_cons (pg_name (i := 8) sc_step.nd rfl (Or.inl rfl)) (pgs_cons (pg_name (i := 9) sc_step.nd rfl (Or.inl rfl)) pgs_nil)))
        (pss_one (ps_if (PW.pt (pw_and (pt_cmpR (op_eqD hr.units) (pe_ix ix_tup (pv 9) pe_int (fun _ _ => rfl)) (pe_ix ix_tup (pv 3) pe_int (fun _ _ => rfl)) (nomark _)) (pw_and1 (pt_cmpR op_eq (pe_ix ix_tup (pv 3) pe_int (fun _ _ => rfl)) pe_str (nomark _)))))
          (pss_cons (ps_asg (pe_call (ok_back T) (hr.mono (by decide)) (by rfl) T.g_back T.F_back.kp T.b_back .nil pass0 (pa_cons (pv 4) (pa_cons (pv 0) (pa_cons (pe_ix ix_tup (pv 9) pe_int (fun _ _ => rfl)) pa_nil)))) (pg_tup rfl (pgs_cons (pg_name (i := 4) sc_step.nd rfl (Or.inl rfl)) (pgs_cons (pg_name (i := 6) sc_step.nd rfl (Or.inl rfl)) pgs_nil))))
          (pss_one (ps_asg pe_int (pg_sub (pv 5) (pv 8) set_list))))
          (pss_one (ps_if (PW.pt (pw_and (pt_cmpR (op_eqD hr.units) (pe_ix ix_tup (pv 9) pe_int (fun _ _ => rfl)) (pe_ix ix_tup (pv 3) pe_int (fun _ _ => rfl)) (nomark _)) (pw_and1 (PW.pt (pw_or (pt_cmpR op_eq (pe_ix ix_tup (pv 3) pe_int (fun _ _ => rfl)) pe_str (nomark _)) (pw_or1 (pt_cmpR op_eq (pe_ix ix_list (pv 5) (pv 8) (fun _ _ => rfl)) pe_int (nomark _))))))))
            (pss_cons (ps_asg (pe_op op_add (pe_ix ix_list (pv 5) (pv 8) (fun _ _ => rfl)) pe_int) (pg_sub (pv 5) (pv 8) set_list))
            (pss_cons (ps_asg (pe_call (ok_sent T) (hr.mono (by decide)) (by rfl) T.g_sent T.F_sent.kp T.b_sent .nil pass0 (pa_cons (pv 4) (pa_cons (pv 9) (pa_cons (pe_ix ix_list (pv 5) (pv 8) (fun _ _ => rfl)) pa_nil)))) (pg_tup rfl (pgs_cons (pg_name (i := 4) sc_step.nd rfl (Or.inl rfl)) (pgs_cons (pg_name (i := 6) sc_step.nd rfl (Or.inl rfl)) pgs_nil))))
            (pss_one (ps_set (i := 7) sc_step.nd rfl (Or.inl rfl) (pe_cmpR op_gt (pe_ix ix_tup (pv 6) pe_int (fun _ _ => rfl)) pe_int (nomark _))))))
            pss_nil)))))
      (pss_one (ps_ret (pe_tup (pa_cons (pe_tup (pa_cons (pe_callTy Tf.call_tupF (by rfl) T.z_tuple (by decide +kernel) (pa_cons (pv 4) pa_nil)) (pa_cons (pe_callTy call_tuple_of (by rfl) T.z_tuple (by decide +kernel) (pa_cons (pv 5) pa_nil)) pa_nil))) (pa_cons (pv 6) (pa_cons (pv 7) pa_nil)))))))), ?_⟩
    refine ⟨_, rfl, t, _, 0, _, rfl, rfl, ht, atI_nat (j := 0) rfl, pp, xs, rfl, .inr hpp, fun lp hlp => ?_⟩
    have s1 := same_new (o := .lst xs) hlp
    have hlp1 : upd H lp (.lst xs) lp = some (.lst xs) := upd_same
    generalize upd H lp (.lst xs) = H1 at s1 hlp1 ⊢
    refine ⟨_, rfl, t, _, 1, _, rfl, rfl, sameT s1 ht, atI_nat (j := 1) rfl, gr, _, rfl, .inr (sameT s1 hg), fun lg hlg => ?_⟩
    have s2 := same_new (o := .lst (nV sd.gr)) hlg
    have hlg2 : upd H1 lg (.lst (nV sd.gr)) lg = some (.lst (nV sd.gr)) := upd_same
    have hgH := none_of s1 hlg
    generalize upd H1 lg (.lst (nV sd.gr)) = H2 at s2 hlg2 ⊢
    refine ⟨by show 4 ≤ sizeLine; decide, fun u hu => ?_⟩
    have s3 := same_new (o := .tup [.ref lp, .ref lg, .non, .bl false]) hu
    refine ⟨u, _, rfl, SqT.of upd_same, rfl, _, _, rfl, _, _, rfl, _, _, rfl, _, _, rfl, rfl, ?_⟩
    have hlp3 := s3 _ _ (s2 _ _ hlp1)
    have hlg3 := s3 _ _ hlg2
    have sA := (s1.trans s2).trans s3
    generalize upd H2 u (.tup [.ref lp, .ref lg, .non, .bl false]) = H3 at sA hlp3 hlg3 ⊢
    refine ⟨_, rfl, l, _, rfl, SqL.of (sA _ _ hl), ?_⟩
    refine for_it walk_enum (fun i σ A => ∃ lp tv sh v8 v9, σ = [some (.ref a), some (.ref l), some (.ref t), some (.ref e), some (.ref lp), some (.ref lg), some tv, some (.bl sh), v8, v9] ∧ Same H A ∧ A lg = some (.lst (nV (curS r sd w o i).gr)) ∧ (∃ zs, A lp = some (.lst zs) ∧ Dts K A zs ((curS r sd w o i).pl.map plD)) ∧ TdAt K A tv (curT r sd w o i) ∧ (curS r sd w o i).pl.length = r.st.length ∧ sh = decide (0 < shN (curT r sd w o i)))
      (by
        have e0 : curS r sd w o 0 = sd ∧ curT r sd w o 0 = .non := by cases o <;> exact ⟨rfl, rfl⟩
        rw [e0.1, e0.2]
        exact ⟨lp, .non, false, none, none, rfl, sA, hlg3, ⟨xs, hlp3, dp.ks sA⟩, .inl ⟨rfl, rfl⟩, pl0, (decide_eq_false (Nat.lt_irrefl 0)).symm⟩) (fun i σ A _ h => by obtain ⟨_, _, _, _, _, _, s, _⟩ := h; exact SqL.of (s _ _ hl)) (fun i y σ A A' hi hP hY => ?_) (fun σ A hP => ?_)
    · obtain ⟨lp, tv, sh, v8, v9, rfl, sA, hgA, ⟨zs, hpA, dA⟩, tA, len, esh⟩ := hP
      obtain ⟨tp, x1, x2, rfl, htp, rfl, e1, e2⟩ := hY
      cases e1
      have e2 : cvs[i]? = some x2 := e2
      obtain ⟨cd, ed, dc⟩ := hd.at e2
      rw [List.getElem?_map] at ed
      obtain ⟨c, ec, rfl⟩ := Option.map_eq_some_iff.mp ed
      have ci : i < r.cs.length := (List.getElem?_eq_some_iff.mp ec).1
      have cok := ok.ok c (List.mem_of_getElem? ec)
      obtain ⟨cq, w1, w2, w3, w4, rfl, hcq, _⟩ := cd_five dc
      have sT := same_new (o := .tup [.int (i : Nat), .ref cq]) htp
      refine ⟨tp, _, rfl, SqT.of upd_same, rfl, _, _, rfl, _, _, rfl, rfl, ?_⟩
      have sB := sA.trans sT
      have hgB := sT _ _ hgA
      have hpB := sT _ _ hpA
      have dB := dA.ks sT
      have tB := tA.k sT
      generalize upd A tp (.tup [.int (i : Nat), .ref cq]) = B at sB hgB hpB dB tB ⊢
      have ea := ask_at ok ask ec
      have nsh : SeqAt.shaped (.str (numS c.ds)) = true := (fine_num (n := 0) fun d m => (cok.num.dig d m).2).shaped (by decide)
      refine ⟨_, rfl, cq, _, 0, _, rfl, rfl, sameT sB hcq, atI_nat (j := 0) rfl, _, rfl, e, _, 1, _, rfl, rfl, sameT sB he, atI_nat (j := 1) rfl, _, _, .str _, (ob.keep sB).dp, nsh, fd.shaped (by decide), _, rfl, ?_⟩
      rw [eqv_ob ob, ea]
      by_cases oi : o = some i
      · subst oi
        have cy := cur_yes (r := r) (s := sd) (w := w) (i := i)
        rw [cy.2.2.1] at hgB dB len
        rw [cy.2.2.2] at tB esh
        rw [cy.1, cy.2.1]
        have eg := getD_at (xs := sd.gr) (i := i) (by omega)
        have eS : ∀ w, stepS r sd w i = match w with
            | .back => ⟨(backP r.st c.ds sd.pl).1, sd.gr.set i 0⟩
            | .call => if 0 < sd.gr.getD i 0 then sd else ⟨(liftP c sd.pl 1).1, sd.gr.set i 1⟩
            | .more => ⟨(liftP c sd.pl (sd.gr.getD i 0 + 1)).1, sd.gr.set i (sd.gr.getD i 0 + 1)⟩ := fun w => by unfold stepS; rw [ec] <;> cases w <;> rfl
        have eT : ∀ w, stepT r sd w i = match w with
            | .back => backT r.st c.ds sd.pl
            | .call => if 0 < sd.gr.getD i 0 then .non else liftT c sd.pl 1
            | .more => liftT c sd.pl (sd.gr.getD i 0 + 1) := fun w => by unfold stepT; rw [ec] <;> cases w <;> rfl
        have g3 : w = .more → sd.gr.getD i 0 < 3 := g3
        rw [decide_eq_true rfl]
        generalize sd.gr.getD i 0 = g at eg eS eT g3
        refine iteT ?_
        refine ⟨_, rfl, e, _, 0, _, rfl, rfl, sameT sB he, atI_nat (j := 0) rfl, rfl, _, rfl, ?_⟩
        rw [wd_back]
        have again : ∀ (Z : Bool → Hp → Prop), Z true B → (tTest (tOp (rEqD K) (tOp (rIxT K) (tVar 9) (tC (V.int 0))) (tOp (rIxT K) (tVar 3) (tC (V.int 1)))) [some (.ref a), some (.ref l), some (.ref t), some (.ref e), some (.ref lp), some (.ref lg), some tv, some (.bl sh), some (.int (i : Nat)), some (.ref cq)] B Z) := fun Z q => by
          refine ⟨_, rfl, cq, _, 0, _, rfl, rfl, sameT sB hcq, atI_nat (j := 0) rfl, _, rfl, e, _, 1, _, rfl, rfl, sameT sB he, atI_nat (j := 1) rfl, _, _, .str _, (ob.keep sB).dp, nsh, fd.shaped (by decide), _, rfl, ?_⟩
          rw [eqv_ob ob, ea, decide_eq_true rfl]
          exact q
        cases w with
        | back =>
          refine iteT ?_
          refine ⟨_, rfl, _, rfl, _, rfl, cq, _, 0, _, rfl, rfl, sameT sB hcq, atI_nat (j := 0) rfl, ?_⟩
          refine ⟨lp, a, zs, sd.pl, r.st, c.ds, rfl, hpB, dB, so.ok, sB _ _ ha, pl0, st6, ok.st8, cok.num, fun H4 q l4 t4 zs4 s4 hq4 hl4 d4 ok4 len4 dt4 => ?_⟩
          refine ⟨q, _, rfl, SqT.of hq4, rfl, _, _, rfl, _, _, rfl, rfl, ?_⟩
          have hg4 := s4 _ _ hgB
          have nlg := ne_lg hl4 d4 (by omega) hg4
          refine ⟨_, rfl, _, rfl, lg, _, _, i, rfl, rfl, hg4, ixN_nat (by rw [nV_len]; omega), ?_⟩
          have el : (nV sd.gr).set i (V.int 0) = nV (sd.gr.set i 0) := by unfold nV; rw [List.map_set]; rfl
          rw [el]
          have kt : Kt K H4 (upd H4 lg (.lst (nV (sd.gr.set i 0)))) := Kt.lst hg4
          refine ⟨l4, t4, sh, _, _, rfl, same_mut (sB.trans s4) hgH, ?_, ⟨zs4, by rw [upd_ne nlg]; exact hl4, ?_⟩, .inr ⟨?_, ?_⟩, ?_, ?_⟩
          · rw [eS]; exact upd_same
          · rw [eS]; exact d4.k kt
          · rw [eT]; intro z; cases z
          · rw [eT]; exact dt4.k kt
          · rw [eS]; exact len4
          · rw [eT]; exact esh
        | more =>
          have eS1 : stepS r sd .more i = ⟨(liftP c sd.pl (g + 1)).1, sd.gr.set i (g + 1)⟩ := eS .more
          have eT1 : stepT r sd .more i = liftT c sd.pl (g + 1) := eT .more
          have g3 := g3 rfl
          refine iteF (again _ (iteT ?_))
          refine ⟨_, rfl, e, _, 0, _, rfl, rfl, sameT sB he, atI_nat (j := 0) rfl, rfl, _, rfl, ?_⟩
          rw [wd_more]
          refine iteT (iteT ?_)
          have e1g : ((g : Nat) : Int) + 1 = ((g + 1 : Nat) : Int) := by omega
          have hgs : g < sd.gr.length + 1000 := by have := so.g3 g (List.mem_of_getElem? eg); omega
          have g4 := so.g3 g (List.mem_of_getElem? eg)
          refine ⟨_, rfl, _, rfl, lg, _, _, _, rfl, rfl, SqL.of hgB, atI_nat (nV_at eg), _, _, rfl, rfl, ?_⟩
          refine ⟨_, rfl, _, rfl, lg, _, _, i, rfl, rfl, hgB, ixN_nat (by rw [nV_len]; omega), ?_⟩
          have el : (nV sd.gr).set i (V.int (((g : Nat) : Int) + 1)) = nV (sd.gr.set i (g + 1)) := by rw [e1g]; unfold nV; rw [List.map_set]
          (try dsimp only)
          rw [el]
          have nlg := ne_lg hpB dB (by omega) hgB
          have sC : Same H (upd B lg (.lst (nV (sd.gr.set i (g + 1))))) := same_mut sB hgH
          have hgC : upd B lg (.lst (nV (sd.gr.set i (g + 1)))) lg = some (.lst (nV (sd.gr.set i (g + 1)))) := upd_same
          have hpC : upd B lg (.lst (nV (sd.gr.set i (g + 1)))) lp = some (.lst zs) := by rw [upd_ne nlg]; exact hpB
          have dC : Dts K (upd B lg (.lst (nV (sd.gr.set i (g + 1))))) zs (sd.pl.map plD) := dB.k (Kt.lst hgB)
          generalize upd B lg (.lst (nV (sd.gr.set i (g + 1)))) = C at sC hgC hpC dC ⊢
          refine ⟨_, rfl, _, rfl, _, rfl, _, rfl, lg, _, _, _, rfl, rfl, SqL.of hgC, atI_nat (nV_at (ns := sd.gr.set i (g + 1)) (i := i) (n := g + 1) (by rw [List.getElem?_set_self (by omega)])), ?_⟩
          refine ⟨lp, .ref cq, g + 1, zs, sd.pl, r.st, c, rfl, hpC, dC, so.ok, dc.ks sC, cok, pl0, st6, ok.st8, by omega, by omega, fun H4 q l4 t4 zs4 s4 hq4 hl4 d4 ok4 len4 dt4 => ?_⟩
          obtain ⟨t4, x4, y4, rfl, ht4⟩ := sent_four dt4
          refine ⟨q, _, rfl, SqT.of hq4, rfl, _, _, rfl, _, _, rfl, rfl, ?_⟩
          refine ⟨_, rfl, t4, _, 3, _, rfl, rfl, ht4, atI_nat (j := 3) rfl, _, _, rfl, rfl, ?_⟩
          refine ⟨l4, .ref t4, _, _, _, rfl, sC.trans s4, ?_, ⟨zs4, hl4, ?_⟩, .inr ⟨?_, ?_⟩, ?_, ?_⟩
          · rw [eS1]; exact s4 _ _ hgC
          · rw [eS1]; exact d4
          · rw [eT1]; intro z; cases z
          · rw [eT1]; exact dt4
          · rw [eS1]; exact len4
          · rw [eT1]; exact dec_cast _
        | call =>
          refine iteF (again _ (iteT ?_))
          refine ⟨_, rfl, e, _, 0, _, rfl, rfl, sameT sB he, atI_nat (j := 0) rfl, rfl, _, rfl, ?_⟩
          rw [wd_more]
          refine iteF ?_
          refine ⟨_, rfl, _, rfl, lg, _, _, _, rfl, rfl, SqL.of hgB, atI_nat (nV_at eg), rfl, _, rfl, ite2 (fun c1 => ?_) (fun c1 => ?_)⟩
          · have g0 : g = 0 := by have := V.int.inj (of_decide_eq_true c1); omega
            have eS1 : stepS r sd .call i = ⟨(liftP c sd.pl (g + 1)).1, sd.gr.set i (g + 1)⟩ := by rw [eS .call, g0]; rfl
            have eT1 : stepT r sd .call i = liftT c sd.pl (g + 1) := by rw [eT .call, g0]; rfl
            have e1g : ((g : Nat) : Int) + 1 = ((g + 1 : Nat) : Int) := by omega
            have hgs : g < sd.gr.length + 1000 := by have := so.g3 g (List.mem_of_getElem? eg); omega
            have g4 := so.g3 g (List.mem_of_getElem? eg)
            refine ⟨_, rfl, _, rfl, lg, _, _, _, rfl, rfl, SqL.of hgB, atI_nat (nV_at eg), _, _, rfl, rfl, ?_⟩
            refine ⟨_, rfl, _, rfl, lg, _, _, i, rfl, rfl, hgB, ixN_nat (by rw [nV_len]; omega), ?_⟩
            have el : (nV sd.gr).set i (V.int (((g : Nat) : Int) + 1)) = nV (sd.gr.set i (g + 1)) := by rw [e1g]; unfold nV; rw [List.map_set]
            (try dsimp only)
            rw [el]
            have nlg := ne_lg hpB dB (by omega) hgB
            have sC : Same H (upd B lg (.lst (nV (sd.gr.set i (g + 1))))) := same_mut sB hgH
            have hgC : upd B lg (.lst (nV (sd.gr.set i (g + 1)))) lg = some (.lst (nV (sd.gr.set i (g + 1)))) := upd_same
            have hpC : upd B lg (.lst (nV (sd.gr.set i (g + 1)))) lp = some (.lst zs) := by rw [upd_ne nlg]; exact hpB
            have dC : Dts K (upd B lg (.lst (nV (sd.gr.set i (g + 1))))) zs (sd.pl.map plD) := dB.k (Kt.lst hgB)
            generalize upd B lg (.lst (nV (sd.gr.set i (g + 1)))) = C at sC hgC hpC dC ⊢
            refine ⟨_, rfl, _, rfl, _, rfl, _, rfl, lg, _, _, _, rfl, rfl, SqL.of hgC, atI_nat (nV_at (ns := sd.gr.set i (g + 1)) (i := i) (n := g + 1) (by rw [List.getElem?_set_self (by omega)])), ?_⟩
            refine ⟨lp, .ref cq, g + 1, zs, sd.pl, r.st, c, rfl, hpC, dC, so.ok, dc.ks sC, cok, pl0, st6, ok.st8, by omega, by omega, fun H4 q l4 t4 zs4 s4 hq4 hl4 d4 ok4 len4 dt4 => ?_⟩
            obtain ⟨t4, x4, y4, rfl, ht4⟩ := sent_four dt4
            refine ⟨q, _, rfl, SqT.of hq4, rfl, _, _, rfl, _, _, rfl, rfl, ?_⟩
            refine ⟨_, rfl, t4, _, 3, _, rfl, rfl, ht4, atI_nat (j := 3) rfl, _, _, rfl, rfl, ?_⟩
            refine ⟨l4, .ref t4, _, _, _, rfl, sC.trans s4, ?_, ⟨zs4, hl4, ?_⟩, .inr ⟨?_, ?_⟩, ?_, ?_⟩
            · rw [eS1]; exact s4 _ _ hgC
            · rw [eS1]; exact d4
            · rw [eT1]; intro z; cases z
            · rw [eT1]; exact dt4
            · rw [eS1]; exact len4
            · rw [eT1]; exact dec_cast _
          · have g0 : 0 < g := by
              by_cases z : g = 0
              · exact absurd (decide_eq_true (by rw [z]; rfl)) c1
              · omega
            have eS1 : stepS r sd .call i = sd := (eS .call).trans (if_pos g0)
            have eT1 : stepT r sd .call i = .non := (eT .call).trans (if_pos g0)
            rw [eS1, eT1]
            exact ⟨lp, tv, sh, _, _, rfl, sB, hgB, ⟨zs, hpB, dB⟩, tB, len, esh⟩
      · have cn := cur_no (r := r) (s := sd) (w := w) oi
        rw [cn.1, cn.2, decide_eq_false oi]
        refine iteF ?_
        refine ⟨_, rfl, cq, _, 0, _, rfl, rfl, sameT sB hcq, atI_nat (j := 0) rfl, _, rfl, e, _, 1, _, rfl, rfl, sameT sB he, atI_nat (j := 1) rfl, _, _, .str _, (ob.keep sB).dp, nsh, fd.shaped (by decide), _, rfl, ?_⟩
        rw [eqv_ob ob, ea, decide_eq_false oi]
        refine iteF ?_
        exact ⟨lp, tv, sh, _, _, rfl, sB, hgB, ⟨zs, hpB, dB⟩, tB, len, esh⟩
    · obtain ⟨lp, tv, sh, v8, v9, rfl, sA, hgA, ⟨zs, hpA, dA⟩, tA, len, esh⟩ := hP
      rw [lx, (cur_end ask).1] at hgA dA len
      rw [lx, (cur_end ask).2] at tA esh
      refine ⟨_, rfl, lp, zs, rfl, SqL.of hpA, fun t1 ob1 ht1 od1 => ?_⟩
      have s3 := same_new (o := .frz ob1 (.tup zs)) ht1
      have h3 : Tf.TF (upd A t1 (.frz ob1 (.tup zs))) t1 zs := ⟨ob1, upd_same, od1⟩
      generalize upd A t1 (.frz ob1 (.tup zs)) = H3 at s3 h3 ⊢
      refine ⟨_, rfl, lg, _, rfl, .inl ⟨SqL.of (s3 _ _ hgA), fun t2 ht2 => ?_⟩⟩
      have s4 := same_new (o := .tup (nV (stepSO r sd w o).gr)) ht2
      have h4 : upd H3 t2 (.tup (nV (stepSO r sd w o).gr)) t2 = some (.tup (nV (stepSO r sd w o).gr)) := upd_same
      generalize upd H3 t2 (.tup (nV (stepSO r sd w o).gr)) = H4 at s4 h4 ⊢
      refine ⟨by show 2 ≤ sizeLine; decide, fun t3 ht3 => ?_⟩
      have s5 := same_new (o := .tup [.ref t1, .ref t2]) ht3
      have h5 : upd H4 t3 (.tup [.ref t1, .ref t2]) t3 = some (.tup [.ref t1, .ref t2]) := upd_same
      have dS : Dt K (upd H4 t3 (.tup [.ref t1, .ref t2])) (.ref t3) (sdD (stepSO r sd w o)) := dt_tup h5 (.cons ((Dt.tup (h3.k s4).sq (dA.ks (s3.trans s4))).ks s5) (.cons ((dt_iD h4).ks s5) .nil))
      generalize upd H4 t3 (.tup [.ref t1, .ref t2]) = H5 at s5 h5 dS ⊢
      refine ⟨_, rfl, _, rfl, by show 3 ≤ sizeLine; decide, fun t6 ht6 => ?_⟩
      have s6 := same_new (o := .tup [.ref t3, tv, .bl sh]) ht6
      exact k _ _ (.ref t3) tv sh (sA.trans (((s3.trans s4).trans s5).trans s6)) upd_same (dS.ks s6) (tA.k (((s3.trans s4).trans s5).trans s6)) esh ⟨t3, t1, _, zs, rfl, sameT s6 (SqT.of h5), ((h3.k s4).k s5).k s6, dA.ks (((s3.trans s4).trans s5).trans s6)⟩
end
end K59

namespace K59
open PySem L2 Wm TL Dv
section
variable {P : Program} {w : World} {K : PySem.W.Frag} {mg : Str → Option Value} {base : Heap}
/-! ### things that may be no standing -/
def tupB : PyData → Bool
  | .tuple _ => true
  | _ => false
def intB : PyData → Bool
  | .int _ => true
  | .bool _ => true
  | _ => false
def boB : PyData → Bool
  | .bool _ => true
  | _ => false
def strB : PyData → Bool
  | .str _ => true
  | _ => false
def whB : PyData → Bool
  | .int _ => true
  | _ => false
def pairB : PyData → Bool
  | .tuple [_, _] => true
  | _ => false
variable {N : Addr → Prop}
theorem isi_any {H : Hp} {v : V} {d : PyData} (h : Dz.Dz K N H v d) : ∃ t, TyX K H v t ∧ PySem.W.kitOne K t (.type "tuple") = some (tupB d) ∧ PySem.W.kitOne K t (.type "int") = some (intB d) ∧ PySem.W.kitOne K t (.type "bool") = some (boB d) ∧ PySem.W.kitOne K t (.type "str") = some (strB d) := by
  rcases h with h | ⟨a, rfl, _, e, rfl⟩
  · cases h with
    | non => exact ⟨.type "NoneType", .base .non, kit_ty (show _ = some false by decide +kernel), kit_ty (show _ = some false by decide +kernel), kit_ty (show _ = some false by decide +kernel), kit_ty (show _ = some false by decide +kernel)⟩
    | bl b => exact ⟨.type "bool", .base (.bl _), kit_ty (show _ = some false by decide +kernel), kit_ty (show _ = some true by decide +kernel), kit_ty (show _ = some true by decide +kernel), kit_ty (show _ = some false by decide +kernel)⟩
    | int i => exact ⟨.type "int", .base (.int _), kit_ty (show _ = some false by decide +kernel), kit_ty (show _ = some true by decide +kernel), kit_ty (show _ = some false by decide +kernel), kit_ty (show _ = some false by decide +kernel)⟩
    | str x => exact ⟨.type "str", .base (.str _), kit_ty (show _ = some false by decide +kernel), kit_ty (show _ = some false by decide +kernel), kit_ty (show _ = some false by decide +kernel), kit_ty (show _ = some true by decide +kernel)⟩
    | tup s _ => exact ⟨.type "tuple", tyT s, kit_ty (show _ = some true by decide +kernel), kit_ty (show _ = some false by decide +kernel), kit_ty (show _ = some false by decide +kernel), kit_ty (show _ = some false by decide +kernel)⟩
    | lst _ e _ => exact ⟨.type "list", .base (.lst e), kit_ty (show _ = some false by decide +kernel), kit_ty (show _ = some false by decide +kernel), kit_ty (show _ = some false by decide +kernel), kit_ty (show _ = some false by decide +kernel)⟩
  · exact ⟨.type "dict", .base (.dK e), kit_ty (show _ = some false by decide +kernel), kit_ty (show _ = some false by decide +kernel), kit_ty (show _ = some false by decide +kernel), kit_ty (show _ = some false by decide +kernel)⟩
theorem tup_dz {H : Hp} {v : V} {d : PyData} (h : Dz.Dz K N H v d) (e : tupB d = true) : ∃ a xs ds, v = .ref a ∧ d = .tuple ds ∧ SqT K H a xs ∧ Dz.Dns K N H xs ds := by
  rcases h with h | ⟨a, rfl, _, _, rfl⟩
  · cases h with
    | tup s ds => exact ⟨_, _, _, rfl, rfl, s, ds⟩
    | _ => cases e
  · cases e
theorem pair_tup {d : PyData} (h : tupB d = false) : pairB d = false := by cases d <;> first | rfl | cases h
theorem pair_len {ds : List PyData} : pairB (.tuple ds) = decide (ds.length = 2) := by
  cases ds with
  | nil => rfl
  | cons a ds =>
    cases ds with
    | nil => rfl
    | cons b ds =>
      cases ds with
      | nil => rfl
      | cons c ds => exact (decide_eq_false (by simp)).symm
theorem dec_len {α : Type} {xs : List α} {n : Nat} {m : Nat} (h : xs.length = m) : decide (V.int ((xs.length : Nat) : Int) = V.int ((n : Nat) : Int)) = decide (m = n) := by
  rw [h]
  by_cases c : m = n
  · rw [decide_eq_true c, c]
    exact decide_eq_true rfl
  · rw [decide_eq_false c]
    exact decide_eq_false fun z => c (by have := V.int.inj z; omega)
def sp_is_pair (K : PySem.W.Frag) : Sp := fun vs H Q _ => ∃ v d N, vs = [v] ∧ Dz.Dz K N H v d ∧ Q (.bl (pairB d)) H
def sp_lis_whole (K : PySem.W.Frag) : Sp := fun vs H Q _ => ∃ v d N, vs = [v] ∧ Dz.Dz K N H v d ∧ Q (.bl (whB d)) H
theorem ok_is_pair (T : Txt K mg) : FnOk P w K mg base CX0 1 T.a_is_pair T.d_is_pair ["thing"] (sp_is_pair K) := by
  refine T.F_is_pair.ok sc_is_pair (fun vs H Q E h => ?_) (fun cdv A outer s H vs Q E hr h => ?_)
  · obtain ⟨v, d, N, rfl, _⟩ := h
    rfl
  · obtain ⟨v, d, N, rfl, hd, k⟩ := h
    obtain ⟨t, ty, k1, _⟩ := isi_any hd
    refine ⟨_, (pss_one (ps_ret (pe_and (pe_callB call_isi (by rfl) T.z_isinstance (by decide +kernel) (pa_cons (pv 0) (pa_cons (pe_bltn (v := V.ty "tuple") (by rfl) T.z_tuple (by decide +kernel) rfl) pa_nil))) (pe_one (pe_cmpR op_eq (pe_callB call_len_seq (by rfl) T.z_len PySem.boot_len (pa_cons (pv 0) pa_nil)) pe_int (nomark _)))))), ?_⟩
    cases e : tupB d with
    | false =>
      rw [e] at k1
      rw [pair_tup e] at k
      exact ⟨_, rfl, _, _, _, _, false, rfl, .ty "tuple", ty, k1, false, rfl, iteF k⟩
    | true =>
      rw [e] at k1
      obtain ⟨a, xs, ds, rfl, rfl, s, hds⟩ := tup_dz hd e
      refine ⟨_, rfl, _, _, _, _, true, rfl, .ty "tuple", ty, k1, true, rfl, iteT ?_⟩
      refine ⟨_, rfl, a, xs, rfl, .inr s, rfl, ?_⟩
      rw [show (2 : Int) = ((2 : Nat) : Int) from rfl, dec_len (n := 2) hds.len, ← pair_len]
      exact k
theorem ok_lis_whole (T : Txt K mg) : FnOk P w K mg base CX0 1 T.a_lis_whole T.d_lis_whole ["_law_thing"] (sp_lis_whole K) := by
  refine T.F_lis_whole.ok sc_lis_whole (fun vs H Q E h => ?_) (fun cdv A outer s H vs Q E hr h => ?_)
  · obtain ⟨v, d, N, rfl, _⟩ := h
    rfl
  · obtain ⟨v, d, N, rfl, hd, k⟩ := h
    obtain ⟨t, ty, _, k1, k2, _⟩ := isi_any hd
    refine ⟨_, (pss_one (ps_ret (pe_and (pe_callB call_isi (by rfl) T.z_isinstance (by decide +kernel) (pa_cons (pv 0) (pa_cons (pe_bltn (v := V.ty "int") (by rfl) T.z_int (by decide +kernel) rfl) pa_nil))) (pe_one (pe_not (pe_callB call_isi (by rfl) T.z_isinstance (by decide +kernel) (pa_cons (pv 0) (pa_cons (pe_bltn (v := V.ty "bool") (by rfl) T.z_bool (by decide +kernel) rfl) pa_nil)))))))), ?_⟩
    cases e : intB d with
    | false =>
      rw [e] at k1
      have e2 : whB d = false := by cases d <;> first | rfl | cases e
      rw [e2] at k
      exact ⟨_, rfl, _, _, _, _, false, rfl, .ty "int", ty, k1, false, rfl, iteF k⟩
    | true =>
      rw [e] at k1
      refine ⟨_, rfl, _, _, _, _, true, rfl, .ty "int", ty, k1, true, rfl, iteT ?_⟩
      have e2 : (!boB d) = whB d := by cases d <;> first | rfl | cases e
      rw [← e2] at k
      exact ⟨_, rfl, _, _, _, _, _, rfl, .ty "bool", ty, k2, _, rfl, k⟩
end
end K59

namespace K59
open PySem L2 Wm TL Dv
section
variable {P : Program} {w : World} {K : PySem.W.Frag} {mg : Str → Option Value} {base : Heap}
def wbD (d : PyData) (lo hi : Int) : Bool := match d with
  | .int i => decide (lo ≤ i) && decide (i ≤ hi)
  | _ => false
def gradesB (n : Nat) (d : PyData) : Bool := match d with
  | .tuple ds => decide (ds.length = n) && ds.all fun z => wbD z 0 3
  | _ => false
def sp_is_wholeD (K : PySem.W.Frag) : Sp := fun vs H Q _ => ∃ v d N, vs = [v] ∧ Dz.Dz K N H v d ∧ Q (.bl (whB d)) H
def sp_is_whole_withinD (K : PySem.W.Frag) : Sp := fun vs H Q _ => ∃ v d N, ∃ lo hi : Int, vs = [v, .int lo, .int hi] ∧ Dz.Dz K N H v d ∧ Q (.bl (wbD d lo hi)) H
def sp_are_grades (K : PySem.W.Frag) (CC RC : Addr) : Sp := fun vs H Q _ => ∃ (p : Addr) (r : Rm) (v : V) (d : PyData) (N : Addr → Prop), vs = [.ref p, v] ∧ RoomAt K RC CC H p r ∧ RmOk r ∧ Dz.Dz K N H v d ∧ ∀ H', Same H H' → Q (.bl (gradesB r.cs.length d)) H'
theorem bools {g : PyData → Bool} : ∀ {ys : List V} {ds : List PyData}, ys.length = ds.length → (∀ (i : Nat) y, ys[i]? = some y → ∃ d, ds[i]? = some d ∧ y = .bl (g d)) → ys = (ds.map g).map V.bl
  | [], [], _, _ => rfl
  | y :: ys, d :: ds, l, h => by
    obtain ⟨d2, e, e2⟩ := h 0 y rfl
    cases e
    rw [List.map_cons, List.map_cons, ← bools (g := g) (by simpa using l) fun i z hz => h (i + 1) z hz, e2]
theorem all_id {g : PyData → Bool} (ds : List PyData) : (ds.map g).all id = ds.all g := by
  rw [List.all_map]
  rfl
theorem ok_is_wholeD (T : Txt K mg) : FnOk P w K mg base CX0 1 T.a_is_whole T.d_is_whole ["thing"] (sp_is_wholeD K) := by
  refine T.F_is_whole.ok sc_is_whole (fun vs H Q E h => ?_) (fun cdv A outer s H vs Q E hr h => ?_)
  · obtain ⟨v, d, N, rfl, _⟩ := h
    rfl
  · obtain ⟨v, d, N, rfl, hd, k⟩ := h
    obtain ⟨t, ty, _, k1, k2, _⟩ := isi_any hd
    refine ⟨_, (pss_one (ps_ret (pe_and (pe_callB call_isi (by rfl) T.z_isinstance (by decide +kernel) (pa_cons (pv 0) (pa_cons (pe_bltn (v := V.ty "int") (by rfl) T.z_int (by decide +kernel) rfl) pa_nil))) (pe_one (pe_not (pe_callB call_isi (by rfl) T.z_isinstance (by decide +kernel) (pa_cons (pv 0) (pa_cons (pe_bltn (v := V.ty "bool") (by rfl) T.z_bool (by decide +kernel) rfl) pa_nil)))))))), ?_⟩
    cases e : intB d with
    | false =>
      rw [e] at k1
      have e2 : whB d = false := by cases d <;> first | rfl | cases e
      rw [e2] at k
      exact ⟨_, rfl, _, _, _, _, false, rfl, .ty "int", ty, k1, false, rfl, iteF k⟩
    | true =>
      rw [e] at k1
      refine ⟨_, rfl, _, _, _, _, true, rfl, .ty "int", ty, k1, true, rfl, iteT ?_⟩
      have e2 : (!boB d) = whB d := by cases d <;> first | rfl | cases e
      rw [← e2] at k
      exact ⟨_, rfl, _, _, _, _, _, rfl, .ty "bool", ty, k2, _, rfl, k⟩
theorem ok_is_whole_withinD (T : Txt K mg) : FnOk P w K mg base CX0 2 T.a_is_whole_within T.d_is_whole_within ["thing", "low", "high"] (sp_is_whole_withinD K) := by
  refine T.F_is_whole_within.ok sc_is_whole_within (fun vs H Q E h => ?_) (fun cdv A outer s H vs Q E hr h => ?_)
  · obtain ⟨v, d, N, lo, hi, rfl, _⟩ := h
    rfl
  · obtain ⟨v, d, N, lo, hi, rfl, hd, k⟩ := h
    refine ⟨_, (pss_one (ps_ret (pe_and (pe_call (ok_is_wholeD T) (hr.mono (by decide)) (by rfl) T.g_is_whole T.F_is_whole.kp T.b_is_whole .nil pass0 (pa_cons (pv 0) pa_nil)) (pe_one (pe_chain op_le op_le (pv 1) (pv 0) (pv 2)))))), ?_⟩
    refine ⟨_, rfl, v, d, N, rfl, hd, ?_⟩
    cases e : whB d with
    | true =>
      obtain ⟨i, rfl⟩ : ∃ i, d = .int i := by cases d <;> first | exact ⟨_, rfl⟩ | cases e
      have ev : v = .int i := by
        rcases hd with hd | ⟨_, _, _, _, z⟩
        · cases hd; rfl
        · cases z
      subst ev
      refine ⟨_, rfl, iteT ?_⟩
      refine ⟨_, rfl, _, rfl, _, _, rfl, rfl, _, rfl, ite2 (fun c1 => ?_) (fun c1 => ?_)⟩
      · refine ⟨_, rfl, _, _, rfl, rfl, ?_⟩
        have k : Q (.bl (decide (lo ≤ i) && decide (i ≤ hi))) H := k
        rw [c1, Bool.true_and] at k
        exact k
      · have k : Q (.bl (decide (lo ≤ i) && decide (i ≤ hi))) H := k
        rw [Bool.eq_false_iff.mpr c1, Bool.false_and] at k
        exact k
    | false =>
      have e2 : wbD d lo hi = false := by cases d <;> first | rfl | cases e
      rw [e2] at k
      exact ⟨_, rfl, iteF k⟩
theorem ok_are_grades (T : Txt K mg) : FnOk P w K mg base CX0 3 T.a_are_grades T.d_are_grades ["room", "thing"] (sp_are_grades K T.CC T.RC) := by
  refine T.F_are_grades.ok sc_are_grades (fun vs H Q E h => ?_) (fun cdv A outer s H vs Q E hr h => ?_)
  · obtain ⟨p, r, v, d, N, rfl, _⟩ := h
    rfl
  · obtain ⟨p, r, v, d, N, rfl, hR, ok, hd, k⟩ := h
    obtain ⟨t, ty, k1, _⟩ := isi_any hd
    obtain ⟨dx, fs, _, q, n, cvs, hp, l1, d1, l2, hq, hcs, l3, d3, lo⟩ := id hR
    have lcs := hcs.len
    have c6 := ok.cs6
    refine ⟨_, (pss_cons (ps_if (PW.pt (pw_or (pt_not (pt_val (pe_callB call_isi (by rfl) T.z_isinstance (by decide +kernel) (pa_cons (pv 1) (pa_cons (pe_bltn (v := V.ty "tuple") (by rfl) T.z_tuple (by decide +kernel) rfl) pa_nil))))) (pw_or1 (pt_cmpR op_ne (pe_callB call_len_seq (by rfl) T.z_len PySem.boot_len (pa_cons (pv 1) pa_nil)) (pe_callB call_len_seq (by rfl) T.z_len PySem.boot_len (pa_cons (pe_fld (pv 0) rfl) pa_nil)) (nomark _)))))
        (pss_one (ps_ret pe_bl))
        pss_nil)
      (pss_one (ps_ret (pe_callB (cr_all rfl) (by rfl) T.z_all (by decide +kernel) (pa_cons (pe_lc (own := [("grade", 2)]) (g := gName 2) (tt := tYes) rfl sc_are_grades.nd (pi_tup (pv 1)) (blkOk_by (own := [("grade", 2)]) (N := nm_are_grades) (sc := (defScope s_are_grades)) (by decide +kernel)) (fun _ _ _ _ _ => pg_name (i := 2) sc_are_grades.nd rfl (Or.inl rfl)) (fun _ _ _ _ _ => pts_nil) (fun _ _ _ _ _ => (pe_call (ok_is_whole_withinD T) (hr.mono (by decide)) (by rfl) T.g_is_whole_within T.F_is_whole_within.kp T.b_is_whole_within .nil pass0 (pa_cons (pv 2) (pa_cons pe_int (pa_cons (show PE _ _ (ClX.tCVal K (tC (V.ref T.CC)) "GRADES") from by exact ClX.pe_cval (pe_glob (v := V.ref T.CC) rfl T.gCC rfl)) pa_nil)))))) pa_nil))))), ?_⟩
    cases e : tupB d with
    | false =>
      rw [e] at k1
      have e2 : gradesB r.cs.length d = false := by cases d <;> first | rfl | cases e
      refine ⟨_, rfl, _, _, _, _, false, rfl, .ty "tuple", ty, k1, false, rfl, iteT ?_⟩
      have k := k H (Same.refl _)
      rw [e2] at k
      exact k
    | true =>
      rw [e] at k1
      obtain ⟨a, xs, ds, rfl, rfl, s, hds⟩ := tup_dz hd e
      refine ⟨_, rfl, _, _, _, _, true, rfl, .ty "tuple", ty, k1, _, rfl, ?_⟩
      refine ⟨_, rfl, a, xs, rfl, .inr s, _, rfl, p, T.RC, dx, fs, _, rfl, hp, T.clRC, T.nCa, l2, q, cvs, rfl, .inr hq, rfl, ?_⟩
      rw [lcs, dec_len (n := r.cs.length) hds.len]
      by_cases c : ds.length = r.cs.length
      · rw [decide_eq_true c]
        refine ⟨_, rfl, iteF ?_⟩
        refine ⟨_, rfl, a, rfl, ⟨_, s⟩, fun D hD => ?_⟩
        have lx := hds.len
        refine Lm.lc_map (K := K) walk_tup (xs := xs) (fun i y _ => ∃ z, ds[i]? = some z ∧ y = .bl (wbD z 0 3)) (fun _ _ _ _ h _ => h) hD (by omega) (fun H' s' => sameT s' s) (fun i x H' hi hx s' Q' Z hQ => ?_) (fun H2 ys s2 hD2 hl hy => ?_)
        · obtain ⟨z, hz, dz⟩ := hds.at hx
          exact ⟨rfl, yesT ⟨_, rfl, T.CC, T.mcC, _, _, rfl, T.rdC, T.vG, x, z, N, 0, 3, rfl, (Dz.Dz.ks (.inl dz) s'), hQ _ _ (Same.refl _) ⟨z, hz, rfl⟩⟩⟩
        · rw [bools (g := fun z => wbD z 0 3) (by omega) hy] at hD2
          refine ⟨D, _, rfl, SqL.of hD2, ?_⟩
          rw [all_id]
          have k := k _ s2
          have e3 : gradesB r.cs.length (.tuple ds) = ds.all fun z => wbD z 0 3 := by
            show (decide (ds.length = r.cs.length) && _) = _
            rw [decide_eq_true c, Bool.true_and]
          rw [e3] at k
          exact k
      · rw [decide_eq_false c]
        refine ⟨_, rfl, iteT ?_⟩
        have k := k H (Same.refl _)
        have e3 : gradesB r.cs.length (.tuple ds) = false := by
          show (decide (ds.length = r.cs.length) && _) = _
          rw [decide_eq_false c, Bool.false_and]
        rw [e3] at k
        exact k
end
end K59

namespace K59
open PySem L2 Wm TL Dv
section
variable {P : Program} {w : World} {K : PySem.W.Frag} {mg : Str → Option Value} {base : Heap}
def opL (ns : List (List Nat)) (gr : List Nat) : List (List Nat) := (ns.zip gr).filterMap fun x => if 0 < x.2 then some x.1 else none
def opK (ns : List (List Nat)) (gr : List Nat) : List (Key × V) := (ns.zip gr).map fun x => (Sum.inr (numS x.1), V.bl (decide (0 < x.2)))
def inB (st : List Nat) (d : PyData) : Bool := match d with
  | .int i => st.any fun (s : Nat) => decide ((s : Int) = i)
  | _ => false
def outB (op : List (List Nat)) (d : PyData) : Bool := match d with
  | .str y => op.any fun n => decide (numS n = y)
  | _ => false
def placeB (st : List Nat) (op : List (List Nat)) (d : PyData) : Bool := match d with
  | .tuple [.str w, x] => if w = "in" then inB st x else (decide (w = "out") && outB op x)
  | _ => false
/-- a place's word is a text; its datum can be laid -/
def PdOk (d : PyData) : Prop := ∀ a b, d = .tuple [a, b] → (∃ w : Str, a = .str w) ∧ b.canLay0 = true ∧ b.depth ≤ 60
def sp_is_place (K : PySem.W.Frag) (CC RC : Addr) : Sp := fun vs H Q _ => ∃ (p : Addr) (r : Rm) (v : V) (d : PyData) (N : Addr → Prop) (q : Addr) (ns : List (List Nat)) (gr : List Nat), vs = [.ref p, v, .ref q] ∧ RoomAt K RC CC H p r ∧ RmOk r ∧ Dz.Dz K N H v d ∧ PdOk d ∧ H q = some (.dK (opK ns gr)) ∧ ns.Nodup ∧ Q (.bl (placeB r.st (opL ns gr) d)) H
def sp_lis_place (K : PySem.W.Frag) : Sp := fun vs H Q _ => ∃ (s l : Addr) (st : List Nat) (op : List (List Nat)) (v : V) (d : PyData) (N : Addr → Prop), vs = [.ref s, v, .ref l] ∧ H s = some (.lst (nV st)) ∧ H l = some (.lst (op.map fun n => V.str (numS n))) ∧ (∀ s ∈ st, s ≤ 8) ∧ (∀ n ∈ op, Num n) ∧ Dz.Dz K N H v d ∧ PdOk d ∧ Q (.bl (placeB st op d)) H
theorem pair_dz {H : Hp} {v : V} {d : PyData} (h : Dz.Dz K N H v d) (e : pairB d = true) : ∃ t x y a b, v = .ref t ∧ d = .tuple [a, b] ∧ SqT K H t [x, y] ∧ Dz.Dn K N H x a ∧ Dz.Dn K N H y b := by
  obtain ⟨t, xs, ds, rfl, rfl, s, hds⟩ := tup_dz h (by cases d <;> first | rfl | cases e)
  have l := hds.len
  rw [pair_len] at e
  have e := of_decide_eq_true e
  cases hds with
  | nil => cases e
  | cons h1 hds =>
    cases hds with
    | nil => cases e
    | cons h2 hds =>
      cases hds with
      | nil => exact ⟨t, _, _, _, _, rfl, rfl, s, h1, h2⟩
      | cons _ _ =>
        rw [List.length_cons, List.length_cons, List.length_cons] at e
        omega
theorem val_nil (y : Str) (gr : List Nat) : valV (opK [] gr) (Sum.inr y) = none := rfl
theorem any_not {ns : List (List Nat)} {n : List Nat} {y : Str} (e : numS n = y) (h : n ∉ ns) (gr : List Nat) : ((opL ns gr).any fun m => decide (numS m = y)) = false := by
  rw [List.any_eq_false]
  intro m hm c
  have c := of_decide_eq_true c
  have e2 : m = n := numS_inj (c.trans e.symm)
  subst e2
  unfold opL at hm
  obtain ⟨z, hz, e3⟩ := List.mem_filterMap.mp hm
  by_cases g : 0 < z.2
  · rw [if_pos g] at e3
    obtain rfl := Option.some.inj e3
    exact h (List.of_mem_zip hz).1
  · rw [if_neg g] at e3
    cases e3
theorem val_opK (y : Str) : ∀ (ns : List (List Nat)) (gr : List Nat), ns.Nodup → (valV (opK ns gr) (Sum.inr y)).getD (.bl false) = .bl ((opL ns gr).any fun n => decide (numS n = y))
  | [], _, _ => rfl
  | _ :: _, [], _ => rfl
  | n :: ns, g :: gr, nd => by
    have ih := val_opK y ns gr (List.nodup_cons.mp nd).2
    have nn := (List.nodup_cons.mp nd).1
    unfold valV opK opL at ih ⊢
    rw [List.zip_cons_cons, List.map_cons, List.find?_cons, List.filterMap_cons]
    by_cases c : numS n = y
    · rw [show decide ((Sum.inr (numS n) : Key) = Sum.inr y) = true from decide_eq_true (by rw [c])]
      have f := any_not c nn gr
      unfold opL at f
      by_cases g0 : 0 < g
      · show V.bl (decide (0 < g)) = _
        rw [if_pos g0, List.any_cons, decide_eq_true c, decide_eq_true g0]
        rfl
      · show V.bl (decide (0 < g)) = _
        rw [if_neg g0, decide_eq_false g0]
        exact congrArg V.bl f.symm
    · rw [show decide ((Sum.inr (numS n) : Key) = Sum.inr y) = false from decide_eq_false (fun z => c (Sum.inr.inj z))]
      by_cases g0 : 0 < g
      · rw [if_pos g0, List.any_cons, decide_eq_false c, Bool.false_or]
        exact ih
      · rw [if_neg g0]
        exact ih
theorem eqv_iD (st : List Nat) (i : Int) : ((st.map fun (n : Nat) => PyData.int (n : Int)).any fun z => PyData.eqv z (.int i)) = inB st (.int i) := by
  show _ = st.any fun (s : Nat) => decide ((s : Int) = i)
  rw [List.any_map]
  refine congrArg (fun f => st.any f) (funext fun n => ?_)
  show PyData.eqv (.int (n : Int)) (.int i) = _
  rw [show PyData.eqv (.int (n : Int)) (.int i) = ((n : Int) == i) by simp [PyData.eqv]]
  rfl
theorem lay_iD (st : List Nat) : (∀ s ∈ st, s ≤ 8) → PyData.canLayAll0 (st.map fun (n : Nat) => PyData.int (n : Int)) = true := fun h => by
  induction st with
  | nil => rfl
  | cons a st ih =>
    have ih := ih fun s hs => h s (List.mem_cons_of_mem _ hs)
    rw [List.map_cons]
    simp [PyData.canLayAll0, PyData.canLay0, ih]
theorem place_pair {st : List Nat} {op : List (List Nat)} {d : PyData} (h : pairB d = false) : placeB st op d = false := by
  unfold placeB
  split
  · cases h
  · rfl
end
end K59

namespace K59
open PySem L2 Wm TL Dv
section
variable {P : Program} {w : World} {K : PySem.W.Frag} {mg : Str → Option Value} {base : Heap}
theorem iteY {c : Bool} {A B : Prop} (e : c = true) (h : A) : if c = true then A else B := by
  rw [e]
  exact iteT h
theorem ok_is_place (T : Txt K mg) : FnOk P w K mg base CX0 2 T.a_is_place T.d_is_place ["room", "thing", "is_open"] (sp_is_place K T.CC T.RC) := by
  refine T.F_is_place.ok sc_is_place (fun vs H Q E h => ?_) (fun cdv A outer s H vs Q E hr h => ?_)
  · obtain ⟨p, r, v, d, N, q, ns, gr, rfl, _⟩ := h
    rfl
  · obtain ⟨p, r, v, d, N, q, ns, gr, rfl, hR, ok, hd, pd, hq, nd, k⟩ := h
    obtain ⟨dx, fs, sv, q0, n, cvs, hp, l1, d1, l2, hq0, hcs, l3, d3, lo⟩ := id hR
    refine ⟨_, (pss_cons (ps_if (pt_not (pt_val (pe_call (ok_is_pair T) (hr.mono (by decide)) (by rfl) T.g_is_pair T.F_is_pair.kp T.b_is_pair .nil pass0 (pa_cons (pv 1) pa_nil))))
        (pss_one (ps_ret pe_bl))
        pss_nil)
      (pss_cons (ps_asg (pv 1) (pg_tup rfl (pgs_cons (pg_name (i := 3) sc_is_place.nd rfl (Or.inl rfl)) (pgs_cons (pg_name (i := 4) sc_is_place.nd rfl (Or.inl rfl)) pgs_nil))))
      (pss_cons (ps_if (pt_cmpR op_eq (pv 3) (pe_glob (v := V.str "in") rfl T.c_IN ⟨_, rfl⟩) (nomark _))
        (pss_one (ps_ret (pe_and (pe_call (ok_is_wholeD T) (hr.mono (by decide)) (by rfl) T.g_is_whole T.F_is_whole.kp T.b_is_whole .nil pass0 (pa_cons (pv 4) pa_nil)) (pe_one (pe_cmpR (show OpR _ _ (Ind.rInS K) from Ind.op_inS (Ind.room65 hr)) (pv 4) (pe_fld (pv 0) rfl) rfl)))))
        pss_nil)
      (pss_one (ps_ret (pe_and (pe_cmpR op_eq (pv 3) (pe_glob (v := V.str "out") rfl T.c_OUT ⟨_, rfl⟩) (nomark _)) (pe_and (pe_callB call_isi (by rfl) T.z_isinstance (by decide +kernel) (pa_cons (pv 4) (pa_cons (pe_bltn (v := V.ty "str") (by rfl) T.z_str (by decide +kernel) rfl) pa_nil))) (pe_one (pe_dget2 (Nat.lt_of_le_of_lt (Nat.add_le_add_left (by decide : 1 ≤ 64) _) hr.units) (pv 2) (pv 4) pe_bl ⟨rfl, rfl, rfl, rfl⟩))))))))), ?_⟩
    refine ⟨_, rfl, v, d, N, rfl, hd, ?_⟩
    cases e : pairB d with
    | false =>
      rw [place_pair e] at k
      exact ⟨_, rfl, iteT k⟩
    | true =>
      obtain ⟨t, x, y, a, b, rfl, rfl, ht, ha, hb⟩ := pair_dz hd e
      obtain ⟨⟨w0, rfl⟩, lb, db⟩ := pd _ _ rfl
      cases ha
      refine ⟨_, rfl, iteF ⟨_, rfl, t, _, rfl, ht, rfl, _, _, rfl, _, _, rfl, rfl, ?_⟩⟩
      refine ⟨_, rfl, rfl, _, rfl, ite2 (fun c => ?_) (fun c => ?_)⟩
      · have c : w0 = "in" := by simpa using c
        have k : Q (.bl (if w0 = "in" then inB r.st b else (decide (w0 = "out") && outB (opL ns gr) b))) H := k
        rw [if_pos c] at k
        refine ⟨_, rfl, y, b, N, rfl, .inl hb, _, rfl, ?_⟩
        cases eb : whB b with
        | false =>
          have e2 : inB r.st b = false := by cases b <;> first | rfl | cases eb
          rw [e2] at k
          exact iteF k
        | true =>
          obtain ⟨i, rfl⟩ : ∃ i, b = .int i := by cases b <;> first | exact ⟨_, rfl⟩ | cases eb
          cases hb
          refine iteT ?_
          refine ⟨_, rfl, _, rfl, p, T.RC, dx, fs, _, rfl, hp, T.clRC, T.nSt, l1, .int i, _, true, .int _, d1.toDp, lb, db, lay_iD _ ok.st8, ?_⟩
          rw [eqv_iD]
          exact k
      · have c : ¬ w0 = "in" := fun z => c (by simp [z])
        have k : Q (.bl (if w0 = "in" then inB r.st b else (decide (w0 = "out") && outB (opL ns gr) b))) H := k
        rw [if_neg c] at k
        by_cases c2 : w0 = "out"
        · rw [decide_eq_true c2, Bool.true_and] at k
          refine ⟨_, rfl, rfl, _, rfl, iteY (decide_eq_true (by rw [c2])) ?_⟩
          obtain ⟨t2, ty, _, _, _, k1⟩ := isi_any (.inl hb)
          cases eb : strB b with
          | false =>
            have e2 : outB (opL ns gr) b = false := by cases b <;> first | rfl | cases eb
            rw [e2] at k
            rw [eb] at k1
            exact ⟨_, rfl, _, _, _, _, false, rfl, .ty "str", ty, k1, false, rfl, iteF k⟩
          | true =>
            obtain ⟨y2, rfl⟩ : ∃ i, b = .str i := by cases b <;> first | exact ⟨_, rfl⟩ | cases eb
            rw [eb] at k1
            cases hb
            refine ⟨_, rfl, _, _, _, _, true, rfl, .ty "str", ty, k1, true, rfl, iteT ?_⟩
            refine ⟨_, rfl, q, rfl, .inl ⟨_, .inl hq⟩, _, rfl, _, (show DGet H q (.str y2) (valV (opK ns gr) (Sum.inr y2)) from DGet.k (k := Sum.inr y2) hq), ?_⟩
            rw [val_opK y2 ns gr nd]
            exact k
        · rw [decide_eq_false c2, Bool.false_and] at k
          exact ⟨_, rfl, rfl, _, rfl, iteN (decide_eq_false (fun z => c2 (V.str.inj z))) k⟩
end
end K59

namespace K59
open PySem L2 Wm TL Dv
section
variable {P : Program} {w : World} {K : PySem.W.Frag} {mg : Str → Option Value} {base : Heap}
theorem eqv_nums (op : List (List Nat)) (y : Str) : ((op.map fun n => PyData.str (numS n)).any fun z => PyData.eqv z (.str y)) = outB op (.str y) := by
  show _ = op.any fun n => decide (numS n = y)
  rw [List.any_map]
  refine congrArg (fun f => op.any f) (funext fun n => ?_)
  show PyData.eqv (.str (numS n)) (.str y) = _
  by_cases c : numS n = y
  · rw [decide_eq_true c]
    simp [PyData.eqv, c]
  · rw [decide_eq_false c]
    simp [PyData.eqv, c]
theorem lay_nums : ∀ op : List (List Nat), (∀ n ∈ op, Num n) → PyData.canLayAll0 (op.map fun n => PyData.str (numS n)) = true
  | [], _ => rfl
  | a :: op, h => by
    have ih := lay_nums op fun n hn => h n (List.mem_cons_of_mem _ hn)
    have ha := (fine_pl (p := .out a) (h a List.mem_cons_self)).1
    rw [List.map_cons]
    simp only [plD, PyData.canLay0, PyData.canLayAll0, Bool.and_eq_true] at ha ⊢
    exact ⟨ha.2.1, ih⟩
theorem dp_nV {H : Hp} : ∀ st : List Nat, DpAll K H (nV st) (st.map fun (n : Nat) => PyData.int (n : Int))
  | [] => .nil
  | a :: st => .cons (.int _) (dp_nV st)
theorem dp_nums {H : Hp} : ∀ op : List (List Nat), DpAll K H (op.map fun n => V.str (numS n)) (op.map fun n => PyData.str (numS n))
  | [] => .nil
  | a :: op => .cons (.str _) (dp_nums op)
theorem ok_lis_place (T : Txt K mg) : FnOk P w K mg base CX0 2 T.a_lis_place T.d_lis_place ["_law_stations", "_law_place", "_law_numbers_here"] (sp_lis_place K) := by
  refine T.F_lis_place.ok sc_lis_place (fun vs H Q E h => ?_) (fun cdv A outer s H vs Q E hr h => ?_)
  · obtain ⟨s, l, st, op, v, d, N, rfl, _⟩ := h
    rfl
  · obtain ⟨s, l, st, op, v, d, N, rfl, hs, hl, s8, n8, hd, pd, k⟩ := h
    obtain ⟨t, ty, k1, _⟩ := isi_any hd
    refine ⟨_, (pss_cons (ps_if (PW.pt (pw_or (pt_not (pt_val (pe_callB call_isi (by rfl) T.z_isinstance (by decide +kernel) (pa_cons (pv 1) (pa_cons (pe_bltn (v := V.ty "tuple") (by rfl) T.z_tuple (by decide +kernel) rfl) pa_nil))))) (pw_or1 (pt_cmpR op_ne (pe_callB call_len_seq (by rfl) T.z_len PySem.boot_len (pa_cons (pv 1) pa_nil)) pe_int (nomark _)))))
        (pss_one (ps_ret pe_bl))
        pss_nil)
      (pss_cons (ps_if (pt_cmpR op_eq (pe_ix ix_tup (pv 1) pe_int (fun _ _ => rfl)) pe_str (nomark _))
        (pss_one (ps_ret (pe_and (pe_call (ok_lis_whole T) (hr.mono (by decide)) (by rfl) T.g_lis_whole T.F_lis_whole.kp T.b_lis_whole .nil pass0 (pa_cons (pe_ix ix_tup (pv 1) pe_int (fun _ _ => rfl)) pa_nil)) (pe_one (pe_cmpR (show OpR _ _ (Ind.rInS K) from Ind.op_inS (Ind.room65 hr)) (pe_ix ix_tup (pv 1) pe_int (fun _ _ => rfl)) (pv 0) rfl)))))
        pss_nil)
      (pss_one (ps_ret (pe_and (pe_cmpR op_eq (pe_ix ix_tup (pv 1) pe_int (fun _ _ => rfl)) pe_str (nomark _)) (pe_and (pe_callB call_isi (by rfl) T.z_isinstance (by decide +kernel) (pa_cons (pe_ix ix_tup (pv 1) pe_int (fun _ _ => rfl)) (pa_cons (pe_bltn (v := V.ty "str") (by rfl) T.z_str (by decide +kernel) rfl) pa_nil))) (pe_one (pe_cmpR (show OpR _ _ (Ind.rInS K) from Ind.op_inS (Ind.room65 hr)) (pe_ix ix_tup (pv 1) pe_int (fun _ _ => rfl)) (pv 2) rfl)))))))), ?_⟩
    cases e0 : tupB d with
    | false =>
      rw [e0] at k1
      rw [place_pair (pair_tup e0)] at k
      exact ⟨_, rfl, _, _, _, _, false, rfl, .ty "tuple", ty, k1, false, rfl, iteT k⟩
    | true =>
      rw [e0] at k1
      refine ⟨_, rfl, _, _, _, _, true, rfl, .ty "tuple", ty, k1, true, rfl, iteF ?_⟩
      cases e : pairB d with
      | false =>
        obtain ⟨a, xs, ds, rfl, rfl, sq, hds⟩ := tup_dz hd e0
        rw [place_pair e] at k
        rw [pair_len] at e
        refine ⟨_, rfl, a, xs, rfl, .inr sq, rfl, ?_⟩
        rw [show (2 : Int) = ((2 : Nat) : Int) from rfl, dec_len (n := 2) hds.len, e]
        exact ⟨_, rfl, iteT k⟩
      | true =>
        obtain ⟨t2, x, y, a, b, rfl, rfl, ht, ha, hb⟩ := pair_dz hd e
        obtain ⟨⟨w0, rfl⟩, lb, db⟩ := pd _ _ rfl
        cases ha
        refine ⟨_, rfl, t2, _, rfl, .inr ht, rfl, _, rfl, iteF ?_⟩
        refine ⟨_, rfl, t2, _, 0, _, rfl, rfl, ht, atI_nat (j := 0) rfl, rfl, _, rfl, ite2 (fun c => ?_) (fun c => ?_)⟩
        · have c : w0 = "in" := by simpa using c
          have k : Q (.bl (if w0 = "in" then inB st b else (decide (w0 = "out") && outB op b))) H := k
          rw [if_pos c] at k
          refine ⟨_, rfl, t2, _, 1, _, rfl, rfl, ht, atI_nat (j := 1) rfl, y, b, N, rfl, .inl hb, _, rfl, ?_⟩
          cases eb : whB b with
          | false =>
            have e2 : inB st b = false := by cases b <;> first | rfl | cases eb
            rw [e2] at k
            exact iteF k
          | true =>
            obtain ⟨i, rfl⟩ : ∃ i, b = .int i := by cases b <;> first | exact ⟨_, rfl⟩ | cases eb
            cases hb
            refine iteT ?_
            refine ⟨_, rfl, t2, _, 1, _, rfl, rfl, ht, atI_nat (j := 1) rfl, _, rfl, .int i, _, false, .int _, .lst (SqL.of hs) (dp_nV st), lb, db, lay_iD _ s8, ?_⟩
            rw [eqv_iD]
            exact k
        · have c : ¬ w0 = "in" := fun z => c (by simp [z])
          have k : Q (.bl (if w0 = "in" then inB st b else (decide (w0 = "out") && outB op b))) H := k
          rw [if_neg c] at k
          by_cases c2 : w0 = "out"
          · rw [decide_eq_true c2, Bool.true_and] at k
            refine ⟨_, rfl, t2, _, 0, _, rfl, rfl, ht, atI_nat (j := 0) rfl, rfl, _, rfl, iteY (decide_eq_true (by rw [c2])) ?_⟩
            obtain ⟨t3, ty3, _, _, _, k3⟩ := isi_any (.inl hb)
            cases eb : strB b with
            | false =>
              have e2 : outB op b = false := by cases b <;> first | rfl | cases eb
              rw [e2] at k
              rw [eb] at k3
              exact ⟨_, rfl, t2, _, 1, _, rfl, rfl, ht, atI_nat (j := 1) rfl, _, _, _, _, false, rfl, .ty "str", ty3, k3, false, rfl, iteF k⟩
            | true =>
              obtain ⟨y2, rfl⟩ : ∃ i, b = .str i := by cases b <;> first | exact ⟨_, rfl⟩ | cases eb
              rw [eb] at k3
              cases hb
              refine ⟨_, rfl, t2, _, 1, _, rfl, rfl, ht, atI_nat (j := 1) rfl, _, _, _, _, true, rfl, .ty "str", ty3, k3, true, rfl, iteT ?_⟩
              refine ⟨_, rfl, t2, _, 1, _, rfl, rfl, ht, atI_nat (j := 1) rfl, _, rfl, .str y2, _, false, .str _, .lst (SqL.of hl) (dp_nums op), lb, db, lay_nums op n8, ?_⟩
              rw [eqv_nums]
              exact k
          · rw [decide_eq_false c2, Bool.false_and] at k
            exact ⟨_, rfl, t2, _, 0, _, rfl, rfl, ht, atI_nat (j := 0) rfl, rfl, _, rfl, iteN (decide_eq_false (fun z => c2 (V.str.inj z))) k⟩
end
end K59

namespace K59
open PySem L2 Wm TL Dv
section
variable {P : Program} {w : World} {K : PySem.W.Frag} {mg : Str → Option Value} {base : Heap}
def gN : PyData → Nat
  | .int i => i.toNat
  | _ => 0
def grD : PyData → List Nat
  | .tuple ds => ds.map gN
  | _ => []
def plsB (r : Rm) (gr : List Nat) (d : PyData) : Bool := match d with
  | .tuple ps => decide (ps.length = r.st.length) && ps.all fun p => placeB r.st (opL (r.cs.map fun c => c.ds) gr) p
  | _ => false
/-- a datum is a standing of the room, at most m numbers open -/
def stdB (r : Rm) (m : Nat) (d : PyData) : Bool := match d with
  | .tuple [pd, gd] => gradesB r.cs.length gd && (decide (openN (grD gd) ≤ m) && plsB r (grD gd) pd)
  | _ => false
/-- what the law's things are: the places' words are texts -/
def ThOk (d : PyData) : Prop := ∀ ps g, d = .tuple [.tuple ps, g] → ∀ p ∈ ps, PdOk p
theorem grades_iD {n : Nat} {d : PyData} (h : gradesB n d = true) : d = iD (grD d) ∧ (grD d).length = n ∧ ∀ g ∈ grD d, g ≤ 3 := by
  cases d with
  | tuple ds =>
    have h : (decide (ds.length = n) && ds.all fun z => wbD z 0 3) = true := h
    obtain ⟨h1, h2⟩ := Bool.and_eq_true_iff.mp h
    have h1 := of_decide_eq_true h1
    have key : ∀ z ∈ ds, PyData.int ((gN z : Nat) : Int) = z ∧ gN z ≤ 3 := fun z hz => by
      have q := List.all_eq_true.mp h2 z hz
      cases z with
      | int i =>
        have q : (decide ((0 : Int) ≤ i) && decide (i ≤ 3)) = true := q
        obtain ⟨q1, q2⟩ := Bool.and_eq_true_iff.mp q
        have q1 := of_decide_eq_true q1
        have q2 := of_decide_eq_true q2
        refine ⟨?_, ?_⟩
        · show PyData.int ((i.toNat : Nat) : Int) = .int i
          rw [Int.toNat_of_nonneg q1]
        · show i.toNat ≤ 3
          omega
      | _ => cases q
    refine ⟨?_, ?_, ?_⟩
    · show PyData.tuple ds = .tuple ((ds.map gN).map fun (n : Nat) => PyData.int (n : Int))
      rw [List.map_map]
      refine congrArg PyData.tuple ?_
      conv => lhs; rw [← List.map_id ds]
      refine List.map_congr_left fun z hz => ?_
      exact (key z hz).1.symm
    · show (ds.map gN).length = n
      rw [List.length_map, h1]
    · intro g hg
      obtain ⟨z, hz, rfl⟩ := List.mem_map.mp hg
      exact (key z hz).2
  | _ => cases h
theorem dn_dts {H : Hp} {N : Addr → Prop} : ∀ {vs : List V} {gs : List Nat}, Dz.Dns K N H vs (gs.map fun (n : Nat) => PyData.int (n : Int)) → Dts K H vs (gs.map fun (n : Nat) => PyData.int (n : Int))
  | _, [], h => by cases h; exact .nil
  | _, g :: gs, h => by
    cases h with
    | cons a b => cases a; exact .cons (.int _) (dn_dts b)
theorem dn_iD {H : Hp} {N : Addr → Prop} {v : V} {gs : List Nat} (h : Dz.Dn K N H v (iD gs)) : Dt K H v (iD gs) := by
  cases h with
  | tup s b => exact .tup s (dn_dts b)
def sp_is_standing (K : PySem.W.Frag) (CC RC : Addr) : Sp := fun vs H Q _ => ∃ (p : Addr) (r : Rm) (v : V) (d : PyData) (N : Addr → Prop) (m : Nat), vs = [.ref p, v, .int (m : Nat)] ∧ RoomAt K RC CC H p r ∧ RmOk r ∧ Dz.Dz K N H v d ∧ ThOk d ∧ ∀ H', Same H H' → Q (.bl (stdB r m d)) H'
/-- a comprehension's walk, whatever its turn asks -/
theorem w_it {J : It} {n : Nat} {G : Hp → Prop} {Y : Nat → Hp → V → Hp → Prop} (w : Walk J n G Y) {H0 : Hp} {Qd : Hp → Prop} {B : (Hp → Prop) → V → Hp → Prop} (Pv : Nat → Hp → Prop) (h0 : Pv 0 H0) (hG : ∀ i H, i ≤ n → Pv i H → G H)
    (hs : ∀ i x H H', i < n → Pv i H → Y i H x H' → B (Pv (i + 1)) x H') (hd : ∀ H, Pv n H → Qd H) :
    ∃ W : Nat → Nat → Hp → Prop, (∃ m, W 0 m H0) ∧ ∀ i m H, W i m H → (J.stop i H ∧ Qd H) ∨ (J.go i H ∧ ∃ Nx : Hp → Prop, (∀ H', Nx H' → ∃ m', m' < m ∧ W (i + 1) m' H') ∧ ∀ x H', J.yld i H x H' → B Nx x H') := by
  refine ⟨fun i m H => m = n - i ∧ i ≤ n ∧ Pv i H, ⟨n, by simp, Nat.zero_le _, h0⟩, fun i m H h => ?_⟩
  obtain ⟨rfl, li, hp⟩ := h
  have g := hG i H li hp
  by_cases lt : i < n
  · exact .inr ⟨w.goes i H lt g, Pv (i + 1), fun H' h' => ⟨n - (i + 1), by omega, rfl, lt, h'⟩, fun x H' y => hs i x H H' lt hp (w.yields i H x H' lt g y)⟩
  · have e : i = n := by omega
    subst e
    exact .inl ⟨w.stops H g, hd H hp⟩
def YZ (xs ys : List V) : Nat → Hp → V → Hp → Prop := fun i H v H' => ∃ T x y, v = .ref T ∧ H T = none ∧ H' = upd H T (.tup [x, y]) ∧ xs[i]? = some x ∧ ys[i]? = some y
theorem walk_zT {a b : Addr} {xs ys : List V} (hl : xs.length = ys.length) : Walk (RZ.ItzT K a b) xs.length (fun H => SqT K H a xs ∧ SqT K H b ys) (YZ xs ys) :=
  ⟨fun i _ lt g => ⟨xs, ys, _, _, g.1, g.2, List.getElem?_eq_getElem lt, List.getElem?_eq_getElem (by omega)⟩, fun _ g => ⟨xs, ys, g.1, g.2, .inl (Nat.le_refl _)⟩, fun i _ v H' _ g y => by
    obtain ⟨T, x, z, e, hT, eH, f1, f2⟩ := y
    exact ⟨T, x, z, e, hT, eH, f1 xs g.1, f2 ys g.2⟩⟩
theorem put_new {ns : List (List Nat)} {gr : List Nat} {n : List Nat} {g : Nat} {i : Nat} (nd : ns.Nodup) (hn : ns[i]? = some n) (hg : gr[i]? = some g) : putK (((ns.zip gr).take i).map fun x => ((Sum.inr (numS x.1) : Key), V.bl (decide (0 < x.2)))) (Sum.inr (numS n)) (.bl (decide (0 < g))) = ((ns.zip gr).take (i + 1)).map fun x => ((Sum.inr (numS x.1) : Key), V.bl (decide (0 < x.2))) := by
  have ez : (ns.zip gr)[i]? = some (n, g) := by
    rw [List.getElem?_zip_eq_some]
    exact ⟨hn, hg⟩
  rw [List.take_succ, ez]
  unfold putK
  have no : ((((ns.zip gr).take i).map fun x => ((Sum.inr (numS x.1) : Key), V.bl (decide (0 < x.2)))).any fun kv => decide (kv.1 = (Sum.inr (numS n) : Key))) = false := by
    rw [List.any_eq_false]
    intro kv hkv c
    obtain ⟨z, hz, rfl⟩ := List.mem_map.mp hkv
    have c := numS_inj (Sum.inr.inj (of_decide_eq_true c))
    obtain ⟨j, hj, ej⟩ := List.mem_iff_getElem.mp hz
    rw [List.length_take] at hj
    rw [List.getElem_take] at ej
    have ezj : (ns.zip gr)[j]? = some z := by rw [List.getElem?_eq_getElem (by omega), ej]
    have hnj := (List.getElem?_zip_eq_some.mp ezj).1
    rw [c] at hnj
    obtain ⟨l1, e1⟩ := List.getElem?_eq_some_iff.mp hnj
    obtain ⟨l2, e2⟩ := List.getElem?_eq_some_iff.mp hn
    have := (List.getElem_inj nd).mp (e1.trans e2.symm)
    omega
  rw [no, if_neg Bool.false_ne_true, List.map_append]
  rfl
theorem std_pair {r : Rm} {m : Nat} {d : PyData} (h : pairB d = false) : stdB r m d = false := by
  unfold stdB
  split
  · cases h
  · rfl
theorem std_two {r : Rm} {m : Nat} {a b : PyData} : stdB r m (.tuple [a, b]) = (gradesB r.cs.length b && (decide (openN (grD b) ≤ m) && plsB r (grD b) a)) := rfl
theorem ok_is_standing (T : Txt K mg) : FnOk P w K mg base CX0 4 T.a_is_standing T.d_is_standing ["room", "thing", "most_open"] (sp_is_standing K T.CC T.RC) := by
  refine T.F_is_standing.ok sc_is_standing (fun vs H Q E h => ?_) (fun cdv A outer s H vs Q E hr h => ?_)
  · obtain ⟨p, r, v, d, N, m, rfl, _⟩ := h
    rfl
  · obtain ⟨p, r, v, d, N, m, rfl, hR, ok, hd, th, k⟩ := h
    have c6 := ok.cs6
    have t6 := ok.st6
    refine ⟨_, (pss_cons (ps_if (pt_not (pt_val (pe_call (ok_is_pair T) (hr.mono (by decide)) (by rfl) T.g_is_pair T.F_is_pair.kp T.b_is_pair .nil pass0 (pa_cons (pv 1) pa_nil))))
        (pss_one (ps_ret pe_bl))
        pss_nil)
      (pss_cons (ps_asg (pv 1) (pg_tup rfl (pgs_cons (pg_name (i := 3) sc_is_standing.nd rfl (Or.inl rfl)) (pgs_cons (pg_name (i := 4) sc_is_standing.nd rfl (Or.inl rfl)) pgs_nil))))
      (pss_cons (ps_if (PW.pt (pw_or (pt_not (pt_val (pe_call (ok_are_grades T) (hr.mono (by decide)) (by rfl) T.g_are_grades T.F_are_grades.kp T.b_are_grades .nil pass0 (pa_cons (pv 0) (pa_cons (pv 4) pa_nil))))) (pw_or1 (pt_cmpR op_gt (pe_call (ok_open_count T) (hr.mono (by decide)) (by rfl) T.g_open_count T.F_open_count.kp T.b_open_count .nil pass0 (pa_cons (pv 4) pa_nil)) (pv 2) (nomark _)))))
        (pss_one (ps_ret pe_bl))
        pss_nil)
      (pss_cons (ps_if (PW.pt (pw_or (pt_not (pt_val (pe_callB call_isi (by rfl) T.z_isinstance (by decide +kernel) (pa_cons (pv 3) (pa_cons (pe_bltn (v := V.ty "tuple") (by rfl) T.z_tuple (by decide +kernel) rfl) pa_nil))))) (pw_or1 (pt_cmpR op_ne (pe_callB call_len_seq (by rfl) T.z_len PySem.boot_len (pa_cons (pv 3) pa_nil)) (pe_callB call_len_seq (by rfl) T.z_len PySem.boot_len (pa_cons (pe_fld (pv 0) rfl) pa_nil)) (nomark _)))))
        (pss_one (ps_ret pe_bl))
        pss_nil)
      (pss_cons (ps_set (i := 5) sc_is_standing.nd rfl (Or.inr rfl) (pe_dc (own := [("number", 6), ("grade", 7)]) (g := gTup K 2 (gCons (gName 6) (gCons (gName 7) (gNil)))) (tt := tYes) rfl sc_is_standing.nd (RZ.pi_zipA (by rfl) T.z_zip (pa_cons (pe_fld (pv 0) rfl) (pa_cons (pv 4) pa_nil))) (blkOk_by (own := [("number", 6), ("grade", 7)]) (N := nm_is_standing) (sc := (defScope s_is_standing)) (by decide +kernel)) (fun _ _ _ _ _ => (pg_tup rfl (pgs_cons (pg_name (i := 6) sc_is_standing.nd rfl (Or.inl rfl)) (pgs_cons (pg_name (i := 7) sc_is_standing.nd rfl (Or.inl rfl)) pgs_nil)))) (fun _ _ _ _ _ => pts_nil) (fun _ _ _ _ _ => (pv 6)) (fun _ _ _ _ _ => (pe_cmpR op_gt (pv 7) pe_int (nomark _)))))
      (pss_one (ps_ret (pe_callB (cr_all rfl) (by rfl) T.z_all (by decide +kernel) (pa_cons (pe_lc (own := [("place", 8)]) (g := gName 8) (tt := tYes) rfl sc_is_standing.nd (pi_tup (pv 3)) (blkOk_by (own := [("place", 8)]) (N := nm_is_standing) (sc := (defScope s_is_standing)) (by decide +kernel)) (fun _ _ _ _ _ => pg_name (i := 8) sc_is_standing.nd rfl (Or.inl rfl)) (fun _ _ _ _ _ => pts_nil) (fun _ _ _ _ _ => (pe_call (ok_is_place T) (hr.mono (by decide)) (by rfl) T.g_is_place T.F_is_place.kp T.b_is_place .nil pass0 (pa_cons (pv 0) (pa_cons (pv 8) (pa_cons (pv 5) pa_nil)))))) pa_nil))))))))), ?_⟩
    refine ⟨_, rfl, v, d, N, rfl, hd, ?_⟩
    cases e : pairB d with
    | false =>
      have k := k H (Same.refl _)
      rw [std_pair e] at k
      exact ⟨_, rfl, iteT k⟩
    | true =>
      obtain ⟨t, x, y, a, b, rfl, rfl, ht, ha, hb⟩ := pair_dz hd e
      rw [std_two] at k
      refine ⟨_, rfl, iteF ⟨_, rfl, t, _, rfl, ht, rfl, _, _, rfl, _, _, rfl, rfl, ?_⟩⟩
      refine ⟨_, rfl, _, rfl, p, r, y, b, N, rfl, hR, ok, .inl hb, fun H1 s1 => ?_⟩
      cases e1 : gradesB r.cs.length b with
      | false =>
        have k := k H1 s1
        rw [e1] at k
        exact ⟨_, rfl, iteT k⟩
      | true =>
        obtain ⟨eb, lg, g3⟩ := grades_iD e1
        rw [e1] at k
        generalize grD b = gr at eb lg g3 k
        subst eb
        have db := (dn_iD hb).ks s1
        obtain ⟨qg, rfl, hg⟩ := dt_ints db
        refine ⟨_, rfl, iteF ?_⟩
        refine ⟨_, rfl, _, gr, rfl, db, by omega, fun H2 s2 => ?_⟩
        have s12 := s1.trans s2
        refine ⟨_, rfl, _, _, rfl, rfl, _, rfl, ite2 (fun c1 => ?_) (fun c1 => ?_)⟩
        · have c1 : ¬ openN gr ≤ m := fun z => by
            have c1 := of_decide_eq_true c1
            omega
          have k := k _ s12
          rw [decide_eq_false c1] at k
          exact k
        have c1 : openN gr ≤ m := Decidable.not_not.mp fun z => c1 (decide_eq_true (by omega))
        rw [decide_eq_true c1] at k
        have ha2 : Dz.Dz K N H2 x a := Dz.Dz.ks (.inl ha) s12
        obtain ⟨t3, ty, k1, _⟩ := isi_any ha2
        cases e3 : tupB a with
        | false =>
          rw [e3] at k1
          have k := k _ s12
          have e4 : plsB r gr a = false := by cases a <;> first | rfl | cases e3
          rw [e4] at k
          exact ⟨_, rfl, _, _, _, _, false, rfl, .ty "tuple", ty, k1, false, rfl, iteT k⟩
        | true =>
          rw [e3] at k1
          obtain ⟨q, xs, ds, rfl, rfl, sq, hds⟩ := tup_dz ha2 e3
          have k : ∀ H', Same H H' → Q (.bl (decide (ds.length = r.st.length) && ds.all fun p => placeB r.st (opL (r.cs.map fun c => c.ds) gr) p)) H' := k
          obtain ⟨dx, fs, sv, q0, n, cvs, hp, l1, d1, l2, hq0, hcs, l3, d3, lo⟩ := id hR
          obtain ⟨sq1, svs, rfl, hsv, dsv⟩ := d1.inv
          have lsv := dsv.len
          rw [List.length_map] at lsv
          refine ⟨_, rfl, _, _, _, _, true, rfl, .ty "tuple", ty, k1, true, rfl, iteF ?_⟩
          refine ⟨_, rfl, q, xs, rfl, .inr sq, _, rfl, p, T.RC, dx, fs, _, rfl, s12 _ _ hp, T.clRC, T.nSt, l1, sq1, svs, rfl, .inr (sameT s12 hsv), rfl, ?_⟩
          rw [lsv, dec_len (n := r.st.length) hds.len]
          by_cases c : ds.length = r.st.length
          · rw [decide_eq_true c] at k ⊢
            refine ⟨_, rfl, iteF ?_⟩
            have lns : ((r.cs.map fun c => numS c.ds).map V.str).length = (nV gr).length := by rw [nV_len, List.length_map, List.length_map, lg]
            have lnn : ((r.cs.map fun c => numS c.ds).map V.str).length = r.cs.length := by rw [List.length_map, List.length_map]
            have hg2 := sameT s2 hg
            refine ⟨_, rfl, p, T.RC, dx, fs, _, rfl, s12 _ _ hp, T.clRC, T.nNs, l3, _, rfl, n, qg, _, _, rfl, .inr ⟨(d3.k s12).sq, hg2, fun D hD => ?_⟩⟩
            refine w_it (walk_zT lns) (fun i B => Same H2 B ∧ B D = some (.dK ((((r.cs.map fun c => c.ds).zip gr).take i).map fun x => ((Sum.inr (numS x.1) : Key), V.bl (decide (0 < x.2)))))) ⟨same_new hD, upd_same⟩ (fun i B _ h => ⟨(d3.k (s12.trans h.1)).sq, sameT h.1 hg2⟩) (fun i v B B' hi hP hY => ?_) (fun B hP => ?_)
            · obtain ⟨sB, hB⟩ := hP
              obtain ⟨T0, x1, y1, rfl, hT, rfl, hx, hy⟩ := hY
              rw [List.getElem?_map] at hx
              obtain ⟨w1, ew, rfl⟩ := Option.map_eq_some_iff.mp hx
              rw [List.getElem?_map] at ew
              obtain ⟨cd, ec, rfl⟩ := Option.map_eq_some_iff.mp ew
              obtain ⟨g, eg, rfl⟩ := nV_inv hy
              have sT := same_new (o := .tup [.str (numS cd.ds), .int (g : Nat)]) hT
              have ez : (r.cs.map fun c => c.ds)[i]? = some cd.ds := by rw [List.getElem?_map, ec]; rfl
              refine ⟨T0, _, rfl, SqT.of upd_same, rfl, _, _, rfl, _, _, rfl, rfl, rfl, yesT ?_⟩
              refine ⟨_, rfl, _, rfl, _, _, rfl, rfl, _, Sum.inr (numS cd.ds), rfl, sT _ _ hB, ?_, same_mut (sB.trans sT) hD, ?_⟩
              · rw [List.length_map, List.length_take, List.length_zip, List.length_map]
                exact small1000 (by omega)
              · rw [upd_same]
                show some (HO.dK (putK _ _ (V.bl (decide ((0 : Int) < (g : Nat)))))) = _
                rw [dec_cast, put_new ok.nd ez eg]
            · obtain ⟨sB, hB⟩ := hP
              rw [lnn, List.take_of_length_le (by rw [List.length_zip, List.length_map]; omega)] at hB
              have hB : B D = some (.dK (opK (r.cs.map fun c => c.ds) gr)) := hB
              have sq2 := sameT sB sq
              have s2B := s12.trans sB
              refine ⟨_, rfl, q, rfl, ⟨_, sq2⟩, fun D2 hD2 => ?_⟩
              have lx := hds.len
              refine Lm.lc_map (K := K) walk_tup (xs := xs) (fun i y _ => ∃ z, ds[i]? = some z ∧ y = .bl (placeB r.st (opL (r.cs.map fun c => c.ds) gr) z)) (fun _ _ _ _ h _ => h) hD2 (by omega) (fun H' s' => sameT s' sq2) (fun i x H' hi hx s' Q' Z hQ => ?_) (fun H3 ys s3 hD3 hl hy => ?_)
              · obtain ⟨z, hz, dz⟩ := hds.at hx
                exact ⟨rfl, yesT ⟨_, rfl, _, rfl, _, rfl, p, r, x, z, N, D, _, gr, rfl, hR.k (s2B.trans s'), ok, Dz.Dz.ks (.inl dz) (sB.trans s'), th _ _ rfl z (List.mem_of_getElem? hz), s' _ _ hB, ok.nd, hQ _ _ (Same.refl _) ⟨z, hz, rfl⟩⟩⟩
              · rw [bools (g := placeB r.st (opL (r.cs.map fun c => c.ds) gr)) (by omega) hy] at hD3
                refine ⟨D2, _, rfl, SqL.of hD3, ?_⟩
                rw [all_id]
                exact k _ (s2B.trans s3)
          · rw [decide_eq_false c] at k ⊢
            exact ⟨_, rfl, iteT (k _ s12)⟩
end
end K59

namespace K59
open PySem L2 Wm TL Dv
section
variable {P : Program} {w : World} {K : PySem.W.Frag} {mg : Str → Option Value} {base : Heap}
def sp_lis_standing (K : PySem.W.Frag) : Sp := fun vs H Q _ => ∃ (s l : Addr) (r : Rm) (v : V) (d : PyData) (N : Addr → Prop) (m : Nat), vs = [.ref s, .ref l, v, .int (m : Nat)] ∧ H s = some (.lst (nV r.st)) ∧ LC K H l r.cs ∧ RmOk r ∧ Dz.Dz K N H v d ∧ ThOk d ∧ ∀ H', Same H H' → Q (.bl (stdB r m d)) H'
theorem open_len (r : Rm) (gr : List Nat) (lg : gr.length = r.cs.length) : (opL (r.cs.map fun c => c.ds) gr).length = openN gr := by
  unfold opL openN
  have key : ∀ (ns : List (List Nat)) (gr : List Nat), gr.length = ns.length → ((ns.zip gr).filterMap fun x => if 0 < x.2 then some x.1 else none).length = (gr.filter fun g => decide (0 < g)).length := by
    intro ns
    induction ns with
    | nil => intro gr h; rw [List.length_nil] at h; rw [List.length_eq_zero_iff.mp h]; rfl
    | cons n ns ih =>
      intro gr h
      cases gr with
      | nil => cases h
      | cons g gr =>
        have ih := ih gr (by simpa using h)
        rw [List.zip_cons_cons, List.filterMap_cons, List.filter_cons]
        by_cases c : 0 < g
        · rw [if_pos c, if_pos (decide_eq_true c), List.length_cons, List.length_cons, ih]
        · rw [if_neg c, if_neg (fun z => c (of_decide_eq_true z))]
          exact ih
  exact key _ _ (by rw [List.length_map, lg])
theorem wb_wh {d : PyData} (h : whB d = false) : wbD d 0 3 = false := by cases d <;> first | rfl | cases h
theorem opL_take {ns : List (List Nat)} {gr : List Nat} {n : List Nat} {g i : Nat} (hn : ns[i]? = some n) (hg : gr[i]? = some g) : ((ns.zip gr).take (i + 1)).filterMap (fun x => if 0 < x.2 then some x.1 else none) = ((ns.zip gr).take i).filterMap (fun x => if 0 < x.2 then some x.1 else none) ++ (if 0 < g then [n] else []) := by
  have ez : (ns.zip gr)[i]? = some (n, g) := by
    rw [List.getElem?_zip_eq_some]
    exact ⟨hn, hg⟩
  rw [List.take_succ, ez, List.filterMap_append]
  refine congrArg _ ?_
  by_cases c : 0 < g
  · simp [c]
  · simp [c]
theorem dn_nV {H : Hp} {N : Addr → Prop} : ∀ {vs : List V} {gs : List Nat}, Dz.Dns K N H vs (gs.map fun (n : Nat) => PyData.int (n : Int)) → vs = nV gs
  | _, [], h => by cases h; rfl
  | _, g :: gs, h => by
    cases h with
    | cons a b =>
      cases a
      rw [dn_nV b]
      rfl
theorem ok_lis_standing (T : Txt K mg) : FnOk P w K mg base CX0 3 T.a_lis_standing T.d_lis_standing ["_law_stations", "_law_cards_here", "_law_thing", "_law_most_open"] (sp_lis_standing K) := by
  refine T.F_lis_standing.ok sc_lis_standing (fun vs H Q E h => ?_) (fun cdv A outer s H vs Q E hr h => ?_)
  · obtain ⟨s, l, r, v, d, N, m, rfl, _⟩ := h
    rfl
  · obtain ⟨s, l, r, v, d, N, m, rfl, hs, hl, ok, hd, th, k⟩ := h
    have c6 := ok.cs6
    have t6 := ok.st6
    obtain ⟨t, ty, k1, _⟩ := isi_any hd
    obtain ⟨cvs, hlc, dcs⟩ := id hl
    have lcv := dcs.len
    rw [List.length_map] at lcv
    refine ⟨_, (pss_cons (ps_if (PW.pt (pw_or (pt_not (pt_val (pe_callB call_isi (by rfl) T.z_isinstance (by decide +kernel) (pa_cons (pv 2) (pa_cons (pe_bltn (v := V.ty "tuple") (by rfl) T.z_tuple (by decide +kernel) rfl) pa_nil))))) (pw_or1 (pt_cmpR op_ne (pe_callB call_len_seq (by rfl) T.z_len PySem.boot_len (pa_cons (pv 2) pa_nil)) pe_int (nomark _)))))
        (pss_one (ps_ret pe_bl))
        pss_nil)
      (pss_cons (ps_if (PW.pt (pw_or (pt_not (pt_val (pe_callB call_isi (by rfl) T.z_isinstance (by decide +kernel) (pa_cons (pe_ix ix_tup (pv 2) pe_int (fun _ _ => rfl)) (pa_cons (pe_bltn (v := V.ty "tuple") (by rfl) T.z_tuple (by decide +kernel) rfl) pa_nil))))) (pw_or1 (pt_not (pt_val (pe_callB call_isi (by rfl) T.z_isinstance (by decide +kernel) (pa_cons (pe_ix ix_tup (pv 2) pe_int (fun _ _ => rfl)) (pa_cons (pe_bltn (v := V.ty "tuple") (by rfl) T.z_tuple (by decide +kernel) rfl) pa_nil))))))))
        (pss_one (ps_ret pe_bl))
        pss_nil)
      (pss_cons (ps_if (PW.pt (pw_or (pt_cmpR op_ne (pe_callB call_len_seq (by rfl) T.z_len PySem.boot_len (pa_cons (pe_ix ix_tup (pv 2) pe_int (fun _ _ => rfl)) pa_nil)) (pe_callB call_len_seq (by rfl) T.z_len PySem.boot_len (pa_cons (pv 0) pa_nil)) (nomark _)) (pw_or1 (pt_cmpR op_ne (pe_callB call_len_seq (by rfl) T.z_len PySem.boot_len (pa_cons (pe_ix ix_tup (pv 2) pe_int (fun _ _ => rfl)) pa_nil)) (pe_callB call_len_seq (by rfl) T.z_len PySem.boot_len (pa_cons (pv 1) pa_nil)) (nomark _)))))
        (pss_one (ps_ret pe_bl))
        pss_nil)
      (pss_cons (ps_for PassesOwn.never rfl (pi_tup (pe_ix ix_tup (pv 2) pe_int (fun _ _ => rfl))) (pg_name (i := 4) sc_lis_standing.nd rfl (Or.inl rfl))
        (pss_one (ps_if (PW.pt (pw_or (pt_not (pt_val (pe_call (ok_lis_whole T) (hr.mono (by decide)) (by rfl) T.g_lis_whole T.F_lis_whole.kp T.b_lis_whole .nil pass0 (pa_cons (pv 4) pa_nil)))) (pw_or1 (pt_not (pt_chain op_le op_le pe_int (pv 4) pe_int)))))
          (pss_one (ps_ret pe_bl))
          pss_nil)))
      (pss_cons (ps_set (i := 5) sc_lis_standing.nd rfl (Or.inr rfl) (pe_lc (own := [("_law_k", 6), ("_law_card", 7)]) (g := gTup K 2 (gCons (gName 6) (gCons (gName 7) (gNil)))) rfl sc_lis_standing.nd (pi_enum (by rfl) T.z_enumerate (pa_cons (pv 1) pa_nil)) (blkOk_by (own := [("_law_k", 6), ("_law_card", 7)]) (N := nm_lis_standing) (sc := (defScope s_lis_standing)) (by decide +kernel)) (fun _ _ _ _ _ => (pg_tup rfl (pgs_cons (pg_name (i := 6) sc_lis_standing.nd rfl (Or.inl rfl)) (pgs_cons (pg_name (i := 7) sc_lis_standing.nd rfl (Or.inl rfl)) pgs_nil)))) (fun _ _ _ _ _ => (pts_one (pt_cmpR op_gt (pe_ix (show IxR _ (rIxT K) from ix_tup) (pe_ix (show IxR _ (rIxT K) from ix_tup) (pv 2) pe_int (fun _ _ => rfl)) (pv 6) (fun _ _ => rfl)) pe_int (nomark _)))) (fun _ _ _ _ _ => (pe_ix (show IxR _ (rIxT K) from ix_tup) (pv 7) pe_int (fun _ _ => rfl)))))
      (pss_one (ps_ret (pe_and (pe_cmpR op_le (pe_callB call_len_seq (by rfl) T.z_len PySem.boot_len (pa_cons (pv 5) pa_nil)) (pv 3) (nomark _)) (pe_one (pe_callB (cr_all rfl) (by rfl) T.z_all (by decide +kernel) (pa_cons (pe_lc (own := [("_law_place", 8)]) (g := gName 8) (tt := tYes) rfl sc_lis_standing.nd (pi_tup (pe_ix ix_tup (pv 2) pe_int (fun _ _ => rfl))) (blkOk_by (own := [("_law_place", 8)]) (N := nm_lis_standing) (sc := (defScope s_lis_standing)) (by decide +kernel)) (fun _ _ _ _ _ => pg_name (i := 8) sc_lis_standing.nd rfl (Or.inl rfl)) (fun _ _ _ _ _ => pts_nil) (fun _ _ _ _ _ => (pe_call (ok_lis_place T) (hr.mono (by decide)) (by rfl) T.g_lis_place T.F_lis_place.kp T.b_lis_place .nil pass0 (pa_cons (pv 0) (pa_cons (pv 8) (pa_cons (pv 5) pa_nil)))))) pa_nil))))))))))), ?_⟩
    cases e0 : tupB d with
    | false =>
      rw [e0] at k1
      have k := k H (Same.refl _)
      rw [std_pair (pair_tup e0)] at k
      exact ⟨_, rfl, _, _, _, _, false, rfl, .ty "tuple", ty, k1, false, rfl, iteT k⟩
    | true =>
      rw [e0] at k1
      refine ⟨_, rfl, _, _, _, _, true, rfl, .ty "tuple", ty, k1, true, rfl, iteF ?_⟩
      cases e : pairB d with
      | false =>
        obtain ⟨a, xs, ds, rfl, rfl, sq, hds⟩ := tup_dz hd e0
        have k := k H (Same.refl _)
        rw [std_pair e] at k
        rw [pair_len] at e
        refine ⟨_, rfl, a, xs, rfl, .inr sq, rfl, ?_⟩
        rw [show (2 : Int) = ((2 : Nat) : Int) from rfl, dec_len (n := 2) hds.len, e]
        exact ⟨_, rfl, iteT k⟩
      | true =>
        obtain ⟨t2, x, y, a, b, rfl, rfl, ht, ha, hb⟩ := pair_dz hd e
        rw [std_two] at k
        refine ⟨_, rfl, t2, _, rfl, .inr ht, rfl, _, rfl, iteF ?_⟩
        obtain ⟨t3, ty3, k3, _⟩ := isi_any (.inl ha)
        obtain ⟨t4, ty4, k4, _⟩ := isi_any (.inl hb)
        cases ea : tupB a with
        | false =>
          rw [ea] at k3
          have k := k H (Same.refl _)
          rw [show plsB r (grD b) a = false from (by cases a <;> first | rfl | cases ea), Bool.and_false, Bool.and_false] at k
          exact ⟨_, rfl, t2, _, 0, _, rfl, rfl, ht, atI_nat (j := 0) rfl, _, _, _, _, false, rfl, .ty "tuple", ty3, k3, false, rfl, iteT k⟩
        | true =>
          rw [ea] at k3
          refine ⟨_, rfl, t2, _, 0, _, rfl, rfl, ht, atI_nat (j := 0) rfl, _, _, _, _, true, rfl, .ty "tuple", ty3, k3, true, rfl, iteF ?_⟩
          cases eb : tupB b with
          | false =>
            rw [eb] at k4
            have k := k H (Same.refl _)
            rw [show gradesB r.cs.length b = false from (by cases b <;> first | rfl | cases eb), Bool.false_and] at k
            exact ⟨_, rfl, t2, _, 1, _, rfl, rfl, ht, atI_nat (j := 1) rfl, _, _, _, _, false, rfl, .ty "tuple", ty4, k4, false, rfl, k⟩
          | true =>
            rw [eb] at k4
            obtain ⟨q1, xs, ds, rfl, rfl, sq1, hds⟩ := tup_dz (.inl ha) ea
            obtain ⟨q2, ys, es, rfl, rfl, sq2, hes⟩ := tup_dz (.inl hb) eb
            refine ⟨_, rfl, t2, _, 1, _, rfl, rfl, ht, atI_nat (j := 1) rfl, _, _, _, _, true, rfl, .ty "tuple", ty4, k4, true, rfl, ?_⟩
            refine ⟨_, rfl, t2, _, 0, _, rfl, rfl, ht, atI_nat (j := 0) rfl, q1, xs, rfl, .inr sq1, _, rfl, s, _, rfl, .inl (SqL.of hs), rfl, ?_⟩
            rw [nV_len, dec_len (n := r.st.length) hds.len]
            by_cases c1 : ds.length = r.st.length
            · rw [decide_eq_true c1]
              refine ⟨_, rfl, iteF ?_⟩
              refine ⟨_, rfl, t2, _, 1, _, rfl, rfl, ht, atI_nat (j := 1) rfl, q2, ys, rfl, .inr sq2, _, rfl, l, _, rfl, .inl (SqL.of hlc), rfl, ?_⟩
              rw [lcv, dec_len (n := r.cs.length) hes.len]
              by_cases c2 : es.length = r.cs.length
              · rw [decide_eq_true c2]
                refine ⟨_, rfl, iteF ?_⟩
                refine ⟨_, rfl, t2, _, 1, _, rfl, rfl, ht, atI_nat (j := 1) rfl, q2, rfl, ⟨_, sq2⟩, ?_⟩
                have ley := hes.len
                refine for_tup (xs := ys) (fun i σ A => ∃ v4, σ = [some (.ref s), some (.ref l), some (.ref t2), some (.int (m : Nat)), v4, none, none, none, none] ∧ H = A ∧ ∀ z ∈ es.take i, wbD z 0 3 = true) ⟨none, rfl, rfl, by simp⟩ (fun i σ A _ h => by obtain ⟨_, _, rfl, _⟩ := h; exact sq2) (fun i x σ A hx hP => ?_) (fun σ A hP => ?_)
                · obtain ⟨v4, rfl, rfl, hall⟩ := hP
                  obtain ⟨z, hz, dz⟩ := hes.at hx
                  have stop : wbD z 0 3 = false → Q (.bl false) H := fun f => by
                    have k := k H (Same.refl _)
                    rw [show gradesB r.cs.length (.tuple es) = false from (by
                      show (decide (es.length = r.cs.length) && es.all fun z => wbD z 0 3) = false
                      rw [show (es.all fun z => wbD z 0 3) = false from List.all_eq_false.mpr ⟨z, List.mem_of_getElem? hz, by rw [f]; exact Bool.false_ne_true⟩, Bool.and_false]), Bool.false_and] at k
                    exact k
                  refine ⟨_, rfl, x, z, N, rfl, .inl dz, ?_⟩
                  cases ew : whB z with
                  | false => exact ⟨_, rfl, iteT (stop (wb_wh ew))⟩
                  | true =>
                    obtain ⟨j, rfl⟩ : ∃ i, z = .int i := by cases z <;> first | exact ⟨_, rfl⟩ | cases ew
                    cases dz
                    refine ⟨_, rfl, iteF ?_⟩
                    have hw : wbD (.int j) 0 3 = (decide (0 ≤ j) && decide (j ≤ 3)) := rfl
                    refine ⟨_, rfl, _, _, rfl, rfl, _, rfl, ite2 (fun d1 => ?_) (fun d1 => ?_)⟩
                    · refine ⟨_, _, rfl, rfl, ?_⟩
                      rw [d1, Bool.true_and] at hw
                      refine ⟨_, rfl, ?_⟩
                      by_cases c3 : j ≤ 3
                      · rw [decide_eq_true c3] at hw
                        refine iteN (by show (!decide (j ≤ 3)) = false; rw [decide_eq_true c3]; rfl) ⟨_, rfl, rfl, fun z' hz' => ?_⟩
                        rw [tk_succ' hz] at hz'
                        rcases List.mem_append.mp hz' with q | q
                        · exact hall z' q
                        · rw [List.mem_singleton.mp q]
                          exact hw
                      · rw [decide_eq_false c3] at hw
                        exact iteY (by show (!decide (j ≤ 3)) = true; rw [decide_eq_false c3]; rfl) (stop hw)
                    · rw [Bool.eq_false_iff.mpr d1, Bool.false_and] at hw
                      exact ⟨_, rfl, iteT (stop hw)⟩
                · obtain ⟨v4, rfl, rfl, hall⟩ := hP
                  rw [ley, List.take_length] at hall
                  have eg : gradesB r.cs.length (.tuple es) = true := by
                    show (decide (es.length = r.cs.length) && es.all fun z => wbD z 0 3) = true
                    rw [decide_eq_true c2, List.all_eq_true.mpr hall]
                    rfl
                  obtain ⟨ei, lg, g3⟩ := grades_iD eg
                  rw [eg] at k
                  generalize grD (.tuple es) = gr at ei lg g3 k
                  have ei := PyData.tuple.inj ei
                  subst ei
                  have ey := dn_nV hes
                  subst ey
                  refine ⟨_, rfl, l, _, rfl, SqL.of hlc, fun D hD => ?_⟩
                  refine w_it walk_enum (fun i B => Same H B ∧ B D = some (.lst (((((r.cs.map fun c => c.ds).zip gr).take i).filterMap fun x => if 0 < x.2 then some x.1 else none).map fun n => V.str (numS n)))) ⟨same_new hD, upd_same⟩ (fun i B _ h => SqL.of (h.1 _ _ hlc)) (fun i v B B' hi hP hY => ?_) (fun B hP => ?_)
                  · obtain ⟨sB, hB⟩ := hP
                    obtain ⟨tp, x1, x2, rfl, htp, rfl, e1, e2⟩ := hY
                    cases e1
                    have e2 : cvs[i]? = some x2 := e2
                    obtain ⟨dc, ed, dx⟩ := dcs.at e2
                    rw [List.getElem?_map] at ed
                    obtain ⟨c, ec, rfl⟩ := Option.map_eq_some_iff.mp ed
                    have i6 : i < r.cs.length := (List.getElem?_eq_some_iff.mp ec).1
                    have eg := getD_at (xs := gr) (i := i) (by omega)
                    generalize gr.getD i 0 = g at eg
                    have st := same_new (o := .tup [.int (i : Nat), x2]) htp
                    have sT := sB.trans st
                    obtain ⟨qc, v1, v2, v3, v4', rfl, hqc, _⟩ := cd_five (dx.ks sT)
                    have ez : (r.cs.map fun c => c.ds)[i]? = some c.ds := by rw [List.getElem?_map, ec]; rfl
                    refine ⟨tp, _, rfl, SqT.of upd_same, rfl, _, _, rfl, _, _, rfl, rfl, rfl, ?_⟩
                    refine ⟨_, rfl, t2, _, 1, _, rfl, rfl, sameT sT ht, atI_nat (j := 1) rfl, _, rfl, q2, _, i, _, rfl, rfl, sameT sT sq2, atI_nat (nV_at eg), _, _, rfl, rfl, _, rfl, ite2 (fun d1 => ?_) (fun d1 => ?_)⟩
                    · have d1 : 0 < g := by
                        have d1 := of_decide_eq_true d1
                        omega
                      refine ⟨_, rfl, qc, _, 0, _, rfl, rfl, hqc, atI_nat (j := 0) rfl, _, st _ _ hB, ?_, same_mut sT hD, ?_⟩
                      · rw [List.length_map]
                        refine small1000 (Nat.le_trans (List.length_filterMap_le _ _) ?_)
                        rw [List.length_take, List.length_zip, List.length_map]
                        omega
                      · rw [upd_same, opL_take ez eg, if_pos d1, List.map_append]
                        rfl
                    · have d1 : ¬ 0 < g := fun z => d1 (decide_eq_true (by omega))
                      refine ⟨sT, ?_⟩
                      rw [opL_take ez eg, if_neg d1, List.append_nil]
                      exact st _ _ hB
                  · obtain ⟨sB, hB⟩ := hP
                    rw [lcv, List.take_of_length_le (by rw [List.length_zip, List.length_map]; omega)] at hB
                    have hB : B D = some (.lst ((opL (r.cs.map fun c => c.ds) gr).map fun n => V.str (numS n))) := hB
                    refine ⟨_, rfl, D, _, rfl, .inl (SqL.of hB), _, rfl, _, _, rfl, rfl, ?_⟩
                    rw [List.length_map, open_len r gr lg]
                    have nums : ∀ n ∈ opL (r.cs.map fun c => c.ds) gr, Num n := fun n hn => by
                      unfold opL at hn
                      obtain ⟨z, hz, e3⟩ := List.mem_filterMap.mp hn
                      by_cases g0 : 0 < z.2
                      · rw [if_pos g0] at e3
                        obtain rfl := Option.some.inj e3
                        obtain ⟨c, hc, ec⟩ := List.mem_map.mp (List.of_mem_zip hz).1
                        rw [← ec]
                        exact (ok.ok c hc).num
                      · rw [if_neg g0] at e3
                        cases e3
                    refine ⟨_, rfl, ?_⟩
                    by_cases d1 : openN gr ≤ m
                    · rw [decide_eq_true d1, Bool.true_and, Bool.true_and] at k
                      refine iteY (decide_eq_true (by omega)) ?_
                      have sq1B := sameT sB sq1
                      refine ⟨_, rfl, t2, _, 0, _, rfl, rfl, sameT sB ht, atI_nat (j := 0) rfl, q1, rfl, ⟨_, sq1B⟩, fun D2 hD2 => ?_⟩
                      have lx := hds.len
                      refine Lm.lc_map (K := K) walk_tup (xs := xs) (fun i y _ => ∃ z, ds[i]? = some z ∧ y = .bl (placeB r.st (opL (r.cs.map fun c => c.ds) gr) z)) (fun _ _ _ _ h _ => h) hD2 (by omega) (fun H' s' => sameT s' sq1B) (fun i x H' hi hx s' Q' Z hQ => ?_) (fun H3 ys s3 hD3 hl hy => ?_)
                      · obtain ⟨z, hz, dz⟩ := hds.at hx
                        exact ⟨rfl, yesT ⟨_, rfl, _, rfl, _, rfl, s, D, r.st, _, x, z, N, rfl, s' _ _ (sB _ _ hs), s' _ _ hB, ok.st8, nums, Dz.Dz.ks (.inl dz) (sB.trans s'), th _ _ rfl z (List.mem_of_getElem? hz), hQ _ _ (Same.refl _) ⟨z, hz, rfl⟩⟩⟩
                      · rw [bools (g := placeB r.st (opL (r.cs.map fun c => c.ds) gr)) (by omega) hy] at hD3
                        refine ⟨D2, _, rfl, SqL.of hD3, ?_⟩
                        rw [all_id]
                        have k := k _ (sB.trans s3)
                        rw [show plsB r gr (.tuple ds) = ds.all (placeB r.st (opL (r.cs.map fun c => c.ds) gr)) from (by show (decide (ds.length = r.st.length) && _) = _; rw [decide_eq_true c1, Bool.true_and])] at k
                        exact k
                    · rw [decide_eq_false d1, Bool.false_and, Bool.and_false] at k
                      exact iteN (decide_eq_false (by omega)) (k _ sB)
              · rw [decide_eq_false c2]
                have k := k H (Same.refl _)
                rw [show gradesB r.cs.length (.tuple es) = false from (by show (decide (es.length = r.cs.length) && _) = false; rw [decide_eq_false c2, Bool.false_and]), Bool.false_and] at k
                exact ⟨_, rfl, iteT k⟩
            · rw [decide_eq_false c1]
              have k := k H (Same.refl _)
              rw [show plsB r (grD (.tuple es)) (.tuple ds) = false from (by show (decide (ds.length = r.st.length) && _) = false; rw [decide_eq_false c1, Bool.false_and]), Bool.and_false, Bool.and_false] at k
              exact ⟨_, rfl, iteT k⟩
end
end K59

namespace K59
open PySem L2 Wm TL Dv
section
variable {P : Program} {w : World} {K : PySem.W.Frag} {mg : Str → Option Value} {base : Heap}
/-- the step of the law at an allowed event -/
theorem stepO {r : Rm} {s : Sd} {m : Nat} {e : Ev} {i : Nat} {c : Cd} (a : AlE r s m e i c) : AskAt r (.str (numS e.2)) (some i) ∧ stepSO r s e.1 (some i) = stepE r s e ∧ stepTO r s e.1 (some i) = tellE r s e ∧ (e.1 = .more → grOf s (some i) < 3) :=
  ⟨⟨c, a.hc, by rw [a.ds]⟩, a.step.1.symm, a.step.2.symm, a.less⟩
theorem LC.k {H H' : Hp} {l : Addr} {cs : List Cd} (h : LC K H l cs) (s : Same H H') : LC K H' l cs := let ⟨cvs, a, b⟩ := h; ⟨cvs, s _ _ a, b.ks s⟩
theorem al_num {r : Rm} {s : Sd} {m : Nat} {e : Ev} {i : Nat} {c : Cd} (ok : RmOk r) (a : AlE r s m e i c) : Num e.2 := by
  rw [a.ds]
  exact (ok.ok c (List.mem_of_getElem? a.hc)).num

theorem look_mem {kas : List Nd.Ent} {k : NestedKey} : (Nd.look kas k).isSome = true ↔ k ∈ kas.map (·.1) := by
  unfold Nd.look
  rw [Option.isSome_map, List.find?_isSome, List.mem_map]
  constructor
  · rintro ⟨e, he, h⟩
    exact ⟨e, he, of_decide_eq_true h⟩
  · rintro ⟨e, he, h⟩
    exact ⟨e, he, decide_eq_true h⟩
theorem look_at : ∀ {kas : List Nd.Ent} {i : Nat} {e : Nd.Ent}, (kas.map (·.1)).Nodup → kas[i]? = some e → Nd.look kas e.1 = some e.2.2
  | [], _, _, _, h => by cases h
  | x :: kas, 0, e, _, h => by
    cases h
    unfold Nd.look
    rw [List.find?_cons, decide_eq_true rfl]
    rfl
  | x :: kas, i + 1, e, nd, h => by
    rw [List.map_cons, List.nodup_cons] at nd
    have h : kas[i]? = some e := by simpa using h
    have ih := look_at nd.2 h
    unfold Nd.look at ih ⊢
    rw [List.find?_cons, decide_eq_false (fun z => nd.1 (by rw [z]; exact List.mem_map.mpr ⟨e, List.mem_of_getElem? h, rfl⟩))]
    exact ih
theorem key_met {H : Hp} {us : List V} {met : List Sd} (h : Dts K H us (met.map sdD)) {z : V} {s : Sd} (hz : Dt K H z (sdD s)) : Nd.toKey (sdD s) ∈ (met.map fun s => Nd.toKey (sdD s)) ↔ s ∈ met := by
  rw [List.mem_map]
  constructor
  · rintro ⟨t, ht, e⟩
    obtain ⟨i, hi⟩ := List.mem_iff_getElem?.mp ht
    obtain ⟨v, _, dv⟩ := h.get (i := i) (d := sdD t) (by rw [List.getElem?_map, hi]; rfl)
    have := Nd.key_inj _ _ _ _ dv hz e
    rw [← sdD_inj this]
    exact ht
  · exact fun h => ⟨s, h, rfl⟩
theorem short_eq {r : Rm} {s : Sd} {m : Nat} {e : Ev} {i : Nat} {c : Cd} (a : AlE r s m e i c) : (!decide (e.1 = .back) && decide (0 < shN (tellE r s e))) = shortE r s e := by
  unfold shortE
  by_cases b : e.1 = .back
  · rw [decide_eq_true b, a.step.2]
    unfold stepT
    rw [a.hc, b]
    rfl
  · rw [decide_eq_false b]
    rfl
theorem place_pl {st : List Nat} {op : List (List Nat)} {d : PyData} (h : placeB st op d = true) (s8 : ∀ s ∈ st, s ≤ 8) (nm : ∀ n ∈ op, Num n) : ∃ p, d = plD p ∧ plOk p := by
  unfold placeB at h
  split at h
  · rename_i w x
    by_cases c : w = "in"
    · rw [if_pos c] at h
      cases x with
      | int i =>
        obtain ⟨s, hs, e⟩ := List.any_eq_true.mp (show (st.any fun (s : Nat) => decide ((s : Int) = i)) = true from h)
        have e := of_decide_eq_true e
        exact ⟨.ins s, by rw [c, ← e]; rfl, s8 s hs⟩
      | _ => cases h
    · rw [if_neg c] at h
      obtain ⟨h1, h2⟩ := Bool.and_eq_true_iff.mp h
      have h1 := of_decide_eq_true h1
      cases x with
      | str y =>
        obtain ⟨n, hn, e⟩ := List.any_eq_true.mp (show (op.any fun n => decide (numS n = y)) = true from h2)
        have e := of_decide_eq_true e
        exact ⟨.out n, by rw [h1, ← e]; rfl, nm n hn⟩
      | _ => cases h2
  · cases h
theorem pls_ex {st : List Nat} {op : List (List Nat)} (s8 : ∀ s ∈ st, s ≤ 8) (nm : ∀ n ∈ op, Num n) : ∀ ps : List PyData, (ps.all fun p => placeB st op p) = true → ∃ pl : List Pl, ps = pl.map plD ∧ ∀ p ∈ pl, plOk p
  | [], _ => ⟨[], rfl, fun _ h => absurd h (by simp)⟩
  | p :: ps, h => by
    rw [List.all_cons] at h
    obtain ⟨h1, h2⟩ := Bool.and_eq_true_iff.mp h
    obtain ⟨q, e, o⟩ := place_pl h1 s8 nm
    obtain ⟨pl, e2, o2⟩ := pls_ex s8 nm ps h2
    refine ⟨q :: pl, by rw [e, e2]; rfl, fun x hx => ?_⟩
    rcases List.mem_cons.mp hx with rfl | hx
    · exact o
    · exact o2 x hx
theorem op_num {r : Rm} (ok : RmOk r) {gr : List Nat} : ∀ n ∈ opL (r.cs.map fun c => c.ds) gr, Num n := fun n hn => by
  unfold opL at hn
  obtain ⟨z, hz, e3⟩ := List.mem_filterMap.mp hn
  by_cases g0 : 0 < z.2
  · rw [if_pos g0] at e3
    obtain rfl := Option.some.inj e3
    obtain ⟨c, hc, ec⟩ := List.mem_map.mp (List.of_mem_zip hz).1
    rw [← ec]
    exact (ok.ok c hc).num
  · rw [if_neg g0] at e3
    cases e3
theorem std_sd {r : Rm} (ok : RmOk r) {m : Nat} {d : PyData} (h : stdB r m d = true) : ∃ s, d = sdD s ∧ SdOk r s := by
  unfold stdB at h
  split at h
  · rename_i pd gd
    obtain ⟨h1, h2⟩ := Bool.and_eq_true_iff.mp h
    obtain ⟨_, h3⟩ := Bool.and_eq_true_iff.mp h2
    obtain ⟨eg, lg, g3⟩ := grades_iD h1
    cases pd with
    | tuple ps =>
      obtain ⟨h4, h5⟩ := Bool.and_eq_true_iff.mp (show (decide (ps.length = r.st.length) && ps.all fun p => placeB r.st (opL (r.cs.map fun c => c.ds) (grD gd)) p) = true from h3)
      have h4 := of_decide_eq_true h4
      obtain ⟨pl, ep, op⟩ := pls_ex ok.st8 (op_num ok) ps h5
      refine ⟨⟨pl, grD gd⟩, ?_, ⟨?_, lg, g3, op⟩⟩
      · show PyData.tuple [.tuple ps, gd] = .tuple [.tuple (pl.map plD), iD (grD gd)]
        rw [ep, ← eg]
      · show pl.length = _
        rw [← h4, ep, List.length_map]
    | _ => cases h3
  · cases h
noncomputable def sdOf (d : PyData) : Sd := by
  classical
  exact if h : ∃ s, d = sdD s then Classical.choose h else ⟨[], []⟩
theorem sdOf_eq (s : Sd) : sdOf (sdD s) = s := by
  classical
  have h : ∃ t, sdD s = sdD t := ⟨s, rfl⟩
  unfold sdOf
  rw [dif_pos h]
  exact (sdD_inj (Classical.choose_spec h)).symm
/-! ### the first fault of a table -/
open Classical in
noncomputable def evF (r : Rm) (T : List Sd) (s : Sd) : List Ev → Option (Bool × Ev)
  | [] => none
  | e :: es => if shortE r s e = true then some (true, e) else if stepE r s e ∈ T then evF r T s es else some (false, e)
noncomputable def tabF (r : Rm) (m : Nat) (T : List Sd) : Nat → List Sd → Option (Bool × Nat × Ev)
  | _, [] => none
  | i, s :: ss => match evF r T s (alF r s.gr m) with
    | some x => some (x.1, i, x.2)
    | none => tabF r m T (i + 1) ss
def rsD : Option (Bool × Nat × Ev) → PyData
  | none => .none
  | some (true, i, e) => .tuple [.str "short", .int (i : Nat), evD e]
  | some (false, i, e) => .tuple [.str "open", .int (i : Nat), evD e]
open Classical in
noncomputable def dueT (r : Rm) (m : Nat) (T : List Sd) : PyData := if startS r ∈ T then rsD (tabF r m T 0 T) else .tuple [.str "start"]
noncomputable def dueD (r : Rm) (m : Nat) (ds : List PyData) : PyData := match ds.findIdx? fun d => !stdB r m d with
  | some i => .tuple [.str "standing", .int (i : Nat)]
  | none => dueT r m (ds.map sdOf)
theorem due_bad {r : Rm} {m : Nat} {ds : List PyData} {i : Nat} {d : PyData} (hd : ds[i]? = some d) (h : stdB r m d = false) (before : ∀ z ∈ ds.take i, stdB r m z = true) : dueD r m ds = .tuple [.str "standing", .int (i : Nat)] := by
  have e : (ds.findIdx? fun d => !stdB r m d) = some i := by
    rw [List.findIdx?_eq_some_iff_getElem]
    obtain ⟨li, ei⟩ := List.getElem?_eq_some_iff.mp hd
    refine ⟨li, by rw [ei, h]; rfl, fun j hj => ?_⟩
    rw [before _ (List.mem_iff_getElem.mpr ⟨j, by rw [List.length_take]; omega, by rw [List.getElem_take]⟩)]
    exact Bool.false_ne_true
  unfold dueD
  rw [e]
theorem due_good {r : Rm} (ok : RmOk r) {m : Nat} {ds : List PyData} (h : ∀ z ∈ ds, stdB r m z = true) : ∃ T : List Sd, ds = T.map sdD ∧ (∀ s ∈ T, SdOk r s) ∧ dueD r m ds = dueT r m T := by
  have key : ∀ ds : List PyData, (∀ z ∈ ds, stdB r m z = true) → ∃ T : List Sd, ds = T.map sdD ∧ (∀ s ∈ T, SdOk r s) ∧ ds.map sdOf = T := by
    intro ds
    induction ds with
    | nil => exact fun _ => ⟨[], rfl, fun _ h => absurd h (by simp), rfl⟩
    | cons d ds ih =>
      intro h
      obtain ⟨s, e, o⟩ := std_sd ok (h d List.mem_cons_self)
      obtain ⟨T, e1, o1, e2⟩ := ih fun z hz => h z (List.mem_cons_of_mem _ hz)
      refine ⟨s :: T, by rw [e, e1]; rfl, fun x hx => ?_, by rw [List.map_cons, e2, e, sdOf_eq]⟩
      rcases List.mem_cons.mp hx with rfl | hx
      · exact o
      · exact o1 x hx
  obtain ⟨T, e1, o1, e2⟩ := key ds h
  have e : (ds.findIdx? fun d => !stdB r m d) = none := by
    rw [List.findIdx?_eq_none_iff]
    intro z hz
    rw [h z hz]
    rfl
  refine ⟨T, e1, o1, ?_⟩
  unfold dueD
  rw [e, e2]
end
end K59

namespace K59
open PySem L2 Wm TL Dv
section
variable {P : Program} {w : World} {K : PySem.W.Frag} {mg : Str → Option Value} {base : Heap}
section
variable {N : Addr → Prop}
theorem dn_pl {H : Hp} {v : V} {p : Pl} (h : Dz.Dn K N H v (plD p)) : Dt K H v (plD p) := by
  cases p with
  | ins s =>
    cases h with
    | tup s b =>
      cases b with
      | cons b1 b =>
        cases b with
        | cons b2 b =>
          cases b
          cases b1
          cases b2
          exact .tup s (.cons (.str _) (.cons (.int _) .nil))
  | out ds =>
    cases h with
    | tup s b =>
      cases b with
      | cons b1 b =>
        cases b with
        | cons b2 b =>
          cases b
          cases b1
          cases b2
          exact .tup s (.cons (.str _) (.cons (.str _) .nil))
theorem dn_pls {H : Hp} : ∀ {vs : List V} {pl : List Pl}, Dz.Dns K N H vs (pl.map plD) → Dts K H vs (pl.map plD)
  | _, [], h => by cases h; exact .nil
  | _, p :: pl, h => by
    cases h with
    | cons a b => exact .cons (dn_pl a) (dn_pls b)
theorem dn_sd {H : Hp} {v : V} {s : Sd} (h : Dz.Dz K N H v (sdD s)) : Dt K H v (sdD s) := by
  rcases h with h | ⟨_, _, _, _, e⟩
  · cases h with
    | tup s b =>
      cases b with
      | cons b1 b =>
        cases b with
        | cons b2 b =>
          cases b
          refine .tup s (.cons ?_ (.cons (dn_iD b2) .nil))
          cases b1 with
          | tup s2 b3 => exact .tup s2 (dn_pls b3)
  · cases e
theorem dzs_sd {H : Hp} : ∀ {vs : List V} {T : List Sd}, Dz.Dzs K N H vs (T.map sdD) → Dts K H vs (T.map sdD)
  | _, [], h => by cases h; exact .nil
  | _, s :: T, h => by
    cases h with
    | cons a b => exact .cons (dn_sd a) (dzs_sd b)
end
theorem put_keys (kas : List Nd.Ent) (k : NestedKey) (a : Addr) (v : V) (x : NestedKey) : x ∈ (Nd.put kas k a v).map (·.1) ↔ x ∈ kas.map (·.1) ∨ x = k := by
  unfold Nd.put
  cases c : (Nd.look kas k).isSome with
  | true =>
    rw [if_pos rfl, List.map_map]
    have e : (kas.map ((·.1) ∘ fun e => if e.1 = k then (e.1, e.2.1, v) else e)) = kas.map (·.1) := List.map_congr_left fun z _ => by
      show (if z.1 = k then (z.1, z.2.1, v) else z).1 = z.1
      split <;> rfl
    rw [e]
    exact ⟨.inl, fun h => h.elim id fun z => by rw [z]; exact look_mem.mp c⟩
  | false =>
    rw [if_neg Bool.false_ne_true, List.map_append, List.mem_append]
    simp
/-- the dict of the standings that were met -/
structure KnAt (K : PySem.W.Frag) (P : Program) (w : World) (H : Hp) (D : Addr) (kas : List Nd.Ent) (T : List Sd) : Prop where
  a : Nd.At K P w H D kas
  m : ∀ x, x ∈ kas.map (·.1) ↔ x ∈ T.map fun s => Nd.toKey (sdD s)
  l : kas.length ≤ T.length
theorem KnAt.k {P : Program} {w : World} {H H' : Hp} {D : Addr} {kas : List Nd.Ent} {T : List Sd} (h : KnAt K P w H D kas T) (s : Same H H') : KnAt K P w H' D kas T :=
  ⟨⟨s _ _ h.a.h, fun e he => (h.a.keys e he).kt (Kt.same s), h.a.nd⟩, h.m, h.l⟩
theorem KnAt.has {P : Program} {w : World} {H : Hp} {D : Addr} {kas : List Nd.Ent} {T : List Sd} (h : KnAt K P w H D kas T) {us : List V} (dt : Dts K H us (T.map sdD)) {z : V} {s : Sd} (hz : Dt K H z (sdD s)) : (Nd.look kas (Nd.toKey (sdD s))).isSome = true ↔ s ∈ T := by
  rw [look_mem, h.m]
  exact key_met dt hz
theorem ev_cons {r : Rm} {T : List Sd} {s : Sd} {L : List Ev} {j : Nat} {e : Ev} (he : L[j]? = some e) : evF r T s (L.drop j) = evF r T s (e :: L.drop (j + 1)) := by
  rw [List.drop_eq_getElem_cons (List.getElem?_eq_some_iff.mp he).1, (List.getElem?_eq_some_iff.mp he).2]
theorem tab_cons {r : Rm} {m : Nat} {T : List Sd} {j : Nat} {s : Sd} (hs : T[j]? = some s) : tabF r m T j (T.drop j) = tabF r m T j (s :: T.drop (j + 1)) := by
  rw [List.drop_eq_getElem_cons (List.getElem?_eq_some_iff.mp hs).1, (List.getElem?_eq_some_iff.mp hs).2]
def sp_due (K : PySem.W.Frag) (P : Program) (w : World) : Sp := fun vs H Q _ => ∃ (a l tb : Addr) (r : Rm) (m : Nat) (us : List V) (ds : List PyData) (N : Addr → Prop), vs = [.ref a, .ref l, .ref tb, .int (m : Nat)] ∧ H a = some (.lst (nV r.st)) ∧ LC K H l r.cs ∧ RmOk r ∧ H tb = some (.lst us) ∧ Dz.Dzs K N H us ds ∧ (∀ d ∈ ds, ThOk d) ∧ ds.length ≤ 4000 ∧
  ∀ H' v, Same H H' → Dz.Dn K (fun _ => False) H' v (dueD r m ds) → Q v H'
theorem ok_due (T : Txt K mg) : FnOk P w K mg base CX0 4 T.a_due T.d_due ["_law_stations", "_law_cards_here", "_law_table", "_law_most_open"] (sp_due K P w) := by
  refine T.F_due.ok sc_due (fun vs H Q E h => ?_) (fun cdv A outer s H vs Q E hr h => ?_)
  · obtain ⟨a, l, tb, r, m, us, ds, N, rfl, _⟩ := h
    rfl
  · obtain ⟨a, l, tb, r, m, us, ds, N, rfl, ha, hl, ok, ht, hd, th, l4, k⟩ := h
    have lu := hd.len
    refine ⟨_, (pss_cons (ps_for PassesOwn.never rfl (pi_enum (by rfl) T.z_enumerate (pa_cons (pv 2) pa_nil)) (pg_tup rfl (pgs_cons (pg_name (i := 4) sc_due.nd rfl (Or.inl rfl)) (pgs_cons (pg_name (i := 5) sc_due.nd rfl (Or.inl rfl)) pgs_nil)))
        (pss_one (ps_if (pt_not (pt_val (pe_call (ok_lis_standing T) (hr.mono (by decide)) (by rfl) T.g_lis_standing T.F_lis_standing.kp T.b_lis_standing .nil pass0 (pa_cons (pv 0) (pa_cons (pv 1) (pa_cons (pv 5) (pa_cons (pv 3) pa_nil)))))))
          (pss_one (ps_ret (pe_tup (pa_cons pe_str (pa_cons (pv 4) pa_nil)))))
          pss_nil)))
      (pss_cons (ps_set (i := 6) sc_due.nd rfl (Or.inl rfl) Nd.pe_nd0)
      (pss_cons (ps_for PassesOwn.never rfl (pi_list (pv 2)) (pg_name (i := 5) sc_due.nd rfl (Or.inl rfl))
        (pss_one (Nd.ps_putN hr.units (pv 6) (pv 5) pe_bl rfl)))
      (pss_cons (ps_if (pt_cmpR (Nd.op_ninN hr.units) (pe_call (ok_start T) (hr.mono (by decide)) (by rfl) T.g_start T.F_start.kp T.b_start .nil pass0 (pa_cons (pv 0) (pa_cons (pv 1) pa_nil))) (pv 6) rfl)
        (pss_one (ps_ret (pe_tup (pa_cons pe_str pa_nil))))
        pss_nil)
      (pss_cons (ps_for PassesOwn.never rfl (pi_enum (by rfl) T.z_enumerate (pa_cons (pv 2) pa_nil)) (pg_tup rfl (pgs_cons (pg_name (i := 4) sc_due.nd rfl (Or.inl rfl)) (pgs_cons (pg_name (i := 7) sc_due.nd rfl (Or.inl rfl)) pgs_nil)))
        (pss_one (ps_for PassesOwn.never rfl (pi_list (pe_call (ok_allowed T) (hr.mono (by decide)) (by rfl) T.g_allowed T.F_allowed.kp T.b_allowed .nil pass0 (pa_cons (pv 1) (pa_cons (pv 7) (pa_cons (pv 3) pa_nil))))) (pg_name (i := 8) sc_due.nd rfl (Or.inl rfl))
          (pss_cons (ps_asg (pe_call (ok_step T) (hr.mono (by decide)) (by rfl) T.g_step T.F_step.kp T.b_step .nil pass0 (pa_cons (pv 0) (pa_cons (pv 1) (pa_cons (pv 7) (pa_cons (pv 8) pa_nil))))) (pg_tup rfl (pgs_cons (pg_name (i := 9) sc_due.nd rfl (Or.inl rfl)) (pgs_cons (pg_name (i := 10) sc_due.nd rfl (Or.inl rfl)) (pgs_cons (pg_name (i := 11) sc_due.nd rfl (Or.inl rfl)) pgs_nil)))))
          (pss_cons (ps_if (pt_val (pv 11))
            (pss_one (ps_ret (pe_tup (pa_cons pe_str (pa_cons (pv 4) (pa_cons (pv 8) pa_nil))))))
            pss_nil)
          (pss_one (ps_if (pt_cmpR (Nd.op_ninN hr.units) (pv 9) (pv 6) rfl)
            (pss_one (ps_ret (pe_tup (pa_cons pe_str (pa_cons (pv 4) (pa_cons (pv 8) pa_nil))))))
            pss_nil)))))))
      (pss_one (ps_ret pe_non))))))), ?_⟩
    refine ⟨_, rfl, tb, _, rfl, SqL.of ht, ?_⟩
    refine for_it walk_enum (fun i σ A => (∃ v4 v5, σ = [some (.ref a), some (.ref l), some (.ref tb), some (.int (m : Nat)), v4, v5, none, none, none, none, none, none]) ∧ Same H A ∧ ∀ z ∈ ds.take i, stdB r m z = true)
      ⟨⟨none, none, rfl⟩, Same.refl _, by simp⟩ (fun i σ A _ h => SqL.of (h.2.1 _ _ ht)) (fun i y' σ A A' hi hP hY => ?_) (fun σ A hP => ?_)
    · obtain ⟨⟨v4, v5, rfl⟩, sA, hall⟩ := hP
      obtain ⟨tp, y1, y2, rfl, htp, rfl, e1, e2⟩ := hY
      cases e1
      have e2 : us[i]? = some y2 := e2
      obtain ⟨z, hz, dz⟩ := hd.at e2
      have s2 := same_new (o := .tup [.int (i : Nat), y2]) htp
      have sB := sA.trans s2
      refine ⟨tp, _, rfl, SqT.of upd_same, rfl, _, _, rfl, _, _, rfl, rfl, ?_⟩
      refine ⟨_, rfl, _, rfl, _, rfl, _, rfl, a, l, r, y2, z, N, m, rfl, sB _ _ ha, hl.k sB, ok, dz.ks sB, th z (List.mem_of_getElem? hz), fun H1 s1 => ?_⟩
      cases eb : stdB r m z with
      | true =>
        refine ⟨_, rfl, iteF ⟨⟨_, _, rfl⟩, sB.trans s1, fun z' hz' => ?_⟩⟩
        rw [tk_succ' hz] at hz'
        rcases List.mem_append.mp hz' with q | q
        · exact hall z' q
        · rw [List.mem_singleton.mp q]
          exact eb
      | false =>
        refine ⟨_, rfl, iteT ?_⟩
        refine ⟨_, rfl, by show 2 ≤ sizeLine; decide, fun u hu => ?_⟩
        refine k _ _ ((sB.trans s1).trans (same_new hu)) ?_
        rw [due_bad hz eb hall]
        exact .tup (SqT.of upd_same) (.cons (.str _) (.cons (.int _) .nil))
    · obtain ⟨⟨v4, v5, rfl⟩, sA, hall⟩ := hP
      rw [lu, List.take_length] at hall
      obtain ⟨T0, rfl, so, ed⟩ := due_good ok hall
      rw [ed] at k
      clear ed hall
      rw [List.length_map] at l4 lu
      have dts := dzs_sd hd
      refine fun D hD => ?_
      have sD := sA.trans (same_new (o := Nd.NDo P w D []) hD)
      have hDH : H D = none := none_of sA hD
      have K0 : KnAt K P w (upd A D (Nd.NDo P w D [])) D [] (T0.take 0) := ⟨Nd.At.new, fun x => by simp, Nat.zero_le _⟩
      refine ⟨_, rfl, tb, rfl, ⟨_, SqL.of (sD _ _ ht)⟩, ?_⟩
      refine for_list (xs := us) (fun i σ B => (∃ v5, σ = [some (.ref a), some (.ref l), some (.ref tb), some (.int (m : Nat)), v4, v5, some (.ref D), none, none, none, none, none]) ∧ Same H B ∧ ∃ kas, KnAt K P w B D kas (T0.take i))
        ⟨⟨v5, rfl⟩, sD, [], K0⟩ (fun i σ B _ h => SqL.of (h.2.1 _ _ ht)) (fun i x σ B hx hP => ?_) (fun σ B hP => ?_)
      · obtain ⟨⟨v5, rfl⟩, sB, kas, KA⟩ := hP
        obtain ⟨z, hz, dz⟩ := dts.at hx
        rw [List.getElem?_map] at hz
        obtain ⟨s, hs, rfl⟩ := Option.map_eq_some_iff.mp hz
        have dB := dz.ks sB
        obtain ⟨bz, _, rfl, _⟩ := id dB.inv
        have lk := KA.l
        rw [List.length_take] at lk
        have l60 : kas.length < 60000 := by omega
        refine ⟨_, rfl, _, rfl, D, bz, kas, _, rfl, rfl, KA.a, sd_nk dB, Nat.lt_of_lt_of_le l60 (by decide), fun Y eY AY => ?_⟩
        have bY : Bu D B Y := by rw [eY]; exact Bu.set
        refine ⟨⟨_, rfl⟩, fun q o h => bY q o (fun z => by rw [z, hDH] at h; cases h) (sB q o h), _, ⟨AY, fun x => ?_, ?_⟩⟩
        · rw [put_keys, KA.m, tk_succ' hs, List.map_append, List.mem_append]
          simp
        · have := Nd.put_len kas (Nd.toKey (sdD s)) bz (.bl true)
          have := KA.l
          rw [tk_succ' hs, List.length_append, List.length_singleton]
          omega
      · obtain ⟨⟨v5, rfl⟩, sB, kas, KA⟩ := hP
        rw [lu, List.take_length] at KA
        refine ⟨_, rfl, _, rfl, a, l, r, rfl, sB _ _ ha, hl.k sB, ok, fun H1 sv s1 dsv => ?_⟩
        have sB1 := sB.trans s1
        have KA := KA.k s1
        have hst := KA.has (dts.ks sB1) dsv
        unfold dueT at k
        refine ⟨_, rfl, D, kas, _, rfl, KA.a, sd_nk dsv, _, rfl, ite2 (fun cc => ?_) (fun cc => ?_)⟩
        · have ns : startS r ∉ T0 := fun z => by rw [hst.mpr z] at cc; cases cc
          rw [if_neg ns] at k
          refine ⟨by show 1 ≤ sizeLine; decide, fun u hu => ?_⟩
          exact k _ _ (sB1.trans (same_new hu)) (.tup (SqT.of upd_same) (.cons (.str _) .nil))
        · have ns : startS r ∈ T0 := hst.mp (by
            cases q0 : (Nd.look kas (Nd.toKey (sdD (startS r)))).isSome with
            | true => rfl
            | false => rw [q0] at cc; exact absurd rfl cc)
          rw [if_pos ns] at k
          refine ⟨_, rfl, tb, _, rfl, SqL.of (sB1 _ _ ht), ?_⟩
          refine for_it walk_enum (fun i σ A => (∃ w4 w7 w8 w9 w10 w11, σ = [some (.ref a), some (.ref l), some (.ref tb), some (.int (m : Nat)), w4, v5, some (.ref D), w7, w8, w9, w10, w11]) ∧ Same H A ∧ KnAt K P w A D kas T0 ∧ tabF r m T0 0 T0 = tabF r m T0 i (T0.drop i))
            ⟨⟨v4, none, none, none, none, none, rfl⟩, sB1, KA, by rw [List.drop_zero]⟩ (fun i σ A _ h => SqL.of (h.2.1 _ _ ht)) (fun i y' σ A A' hi hP hY => ?_) (fun σ A hP => ?_)
          · obtain ⟨⟨w4, w7, w8, w9, w10, w11, rfl⟩, sA, KA, et⟩ := hP
            obtain ⟨tp, y1, y2, rfl, htp, rfl, e1, e2⟩ := hY
            cases e1
            have e2 : us[i]? = some y2 := e2
            obtain ⟨z, hz, dz⟩ := dts.at e2
            rw [List.getElem?_map] at hz
            obtain ⟨s, hs, rfl⟩ := Option.map_eq_some_iff.mp hz
            have sos := so s (List.mem_of_getElem? hs)
            have s2 := same_new (o := .tup [.int (i : Nat), y2]) htp
            have sC := sA.trans s2
            have KC := KA.k s2
            have et2 := tab_cons (r := r) (m := m) (T := T0) hs
            rw [et2] at et
            refine ⟨tp, _, rfl, SqT.of upd_same, rfl, _, _, rfl, _, _, rfl, rfl, ?_⟩
            generalize upd A tp (.tup [.int (i : Nat), y2]) = A2 at sC KC ⊢
            refine ⟨_, rfl, _, rfl, _, rfl, l, y2, r, s, m, rfl, hl.k sC, dz.ks sC, ok, sos, fun B0 q qs s0 hq hqB dq l18 => ?_⟩
            have sE := sC.trans s0
            have KE := KC.k s0
            have ltr := dq.len
            rw [List.length_map] at ltr
            refine ⟨q, rfl, ⟨_, SqL.of hqB⟩, ?_⟩
            refine for_list (xs := qs) (fun j σ A' => (∃ w8 w9 w10 w11, σ = [some (.ref a), some (.ref l), some (.ref tb), some (.int (m : Nat)), some (.int (i : Nat)), v5, some (.ref D), some y2, w8, w9, w10, w11]) ∧ Same B0 A' ∧ evF r T0 s (alF r s.gr m) = evF r T0 s ((alF r s.gr m).drop j))
              ⟨⟨w8, w9, w10, w11, rfl⟩, Same.refl _, by rw [List.drop_zero]⟩ (fun j σ A' _ h => SqL.of (h.2.1 _ _ hqB)) (fun j y σ A' hy hP => ?_) (fun σ A' hP => ?_)
            · obtain ⟨⟨w8, w9, w10, w11, rfl⟩, sA', ev⟩ := hP
              obtain ⟨d0, ed, de0⟩ := dq.at hy
              rw [List.getElem?_map] at ed
              obtain ⟨e, he, rfl⟩ := Option.map_eq_some_iff.mp ed
              have mem := List.mem_of_getElem? he
              obtain ⟨i2, cd, AE⟩ := al_mem ok sos mem
              have O := stepO AE
              have Nm := al_num ok AE
              have de := de0.ks sA'
              have sF := sE.trans sA'
              obtain ⟨eq, y1', y2', rfl, heq, f1, f2⟩ := dt_two de
              obtain rfl := f1.str_inv
              obtain rfl := f2.str_inv
              rw [ev_cons he] at ev
              refine ⟨_, rfl, _, rfl, _, rfl, _, rfl, a, l, y2, .str (numS e.2), eq, r, s, e.1, _, some i2, rfl, sF _ _ ha, hl.k sF, ok, dz.ks sF, sos, heq, ob_num Nm, O.1, O.2.2.2, fun B4 q2 t1 t2 b2 s4 hq2 g1 g2 eb' pf => ?_⟩
              rw [O.2.1] at g1
              rw [O.2.2.1] at eb'
              have eb' : b2 = shortE r s e := eb'
              refine ⟨q2, _, rfl, SqT.of hq2, rfl, _, _, rfl, _, _, rfl, _, _, rfl, rfl, ?_⟩
              have s04 := sA'.trans s4
              have sG := sE.trans s04
              have de4 := de.ks s4
              have KG := KE.k s04
              have hm := KG.has (dts.ks sG) g1
              refine ⟨_, rfl, _, rfl, ?_⟩
              by_cases cs : shortE r s e = true
              · have res : tabF r m T0 0 T0 = some (true, i, e) := by
                  rw [et]
                  show (match evF r T0 s (alF r s.gr m) with
                    | some x => some (x.1, i, x.2)
                    | none => tabF r m T0 (i + 1) (T0.drop (i + 1))) = _
                  rw [ev]
                  unfold evF
                  rw [if_pos cs]
                rw [res] at k
                refine iteY (eb'.trans cs) ⟨_, rfl, _, rfl, by show 3 ≤ sizeLine; decide, fun u hu => ?_⟩
                exact k _ _ (sG.trans (same_new hu)) (.tup (SqT.of upd_same) (.cons (.str _) (.cons (.int _) (.cons (Dz.Dn.ofDt _ _ (de4.ks (same_new hu))) .nil))))
              refine iteN (eb'.trans (Bool.eq_false_iff.mpr cs)) ?_
              refine ⟨_, rfl, _, rfl, D, kas, _, rfl, KG.a, sd_nk g1, _, rfl, ite2 (fun c5 => ?_) (fun c5 => ?_)⟩
              · have ns : stepE r s e ∉ T0 := fun z => by rw [hm.mpr z] at c5; cases c5
                have res : tabF r m T0 0 T0 = some (false, i, e) := by
                  rw [et]
                  show (match evF r T0 s (alF r s.gr m) with
                    | some x => some (x.1, i, x.2)
                    | none => tabF r m T0 (i + 1) (T0.drop (i + 1))) = _
                  rw [ev]
                  unfold evF
                  rw [if_neg cs, if_neg ns]
                rw [res] at k
                refine ⟨_, rfl, _, rfl, by show 3 ≤ sizeLine; decide, fun u hu => ?_⟩
                exact k _ _ (sG.trans (same_new hu)) (.tup (SqT.of upd_same) (.cons (.str _) (.cons (.int _) (.cons (Dz.Dn.ofDt _ _ (de4.ks (same_new hu))) .nil))))
              · have ns : stepE r s e ∈ T0 := hm.mp (by
                  cases q0 : (Nd.look kas (Nd.toKey (sdD (stepE r s e)))).isSome with
                  | true => rfl
                  | false => rw [q0] at c5; exact absurd rfl c5)
                refine ⟨⟨_, _, _, _, rfl⟩, s04, ?_⟩
                rw [ev]
                conv => lhs; unfold evF
                rw [if_neg cs, if_pos ns]
            · obtain ⟨⟨w8, w9, w10, w11, rfl⟩, sA', ev⟩ := hP
              rw [ltr, List.drop_length] at ev
              have ev : evF r T0 s (alF r s.gr m) = none := ev
              refine ⟨⟨_, _, _, _, _, _, rfl⟩, sE.trans sA', KE.k sA', ?_⟩
              rw [et]
              show (match evF r T0 s (alF r s.gr m) with
                | some x => some (x.1, i, x.2)
                | none => tabF r m T0 (i + 1) (T0.drop (i + 1))) = _
              rw [ev]
          · obtain ⟨⟨w4, w7, w8, w9, w10, w11, rfl⟩, sA, KA, et⟩ := hP
            rw [lu, List.drop_length] at et
            have et : tabF r m T0 0 T0 = none := et
            rw [et] at k
            exact k _ _ sA .non
end
end K59

namespace K59
open PySem L2 Wm TL Dv
section
variable {P : Program} {w : World} {K : PySem.W.Frag} {mg : Str → Option Value} {base : Heap}
theorem eqvA {α : Type} [DecidableEq α] {f : α → PyData} (h : ∀ a b, PyData.eqv (f a) (f b) = decide (a = b)) : ∀ xs ys : List α, PyData.eqvAll (xs.map f) (ys.map f) = decide (xs = ys)
  | [], [] => by simp [PyData.eqvAll]
  | [], _ :: _ => by simp [PyData.eqvAll]
  | _ :: _, [] => by simp [PyData.eqvAll]
  | x :: xs, y :: ys => by
    have ih := eqvA h xs ys
    rw [List.map_cons, List.map_cons]
    simp only [PyData.eqvAll, ih, h]
    by_cases c : x = y
    · subst c
      simp
    · simp [c]
open Classical in
theorem eqv_sd (s t : Sd) : PyData.eqv (sdD s) (sdD t) = decide (s = t) := by
  have e1 := eqvA eqv_pl s.pl t.pl
  have e2 := eqvA (f := fun (n : Nat) => PyData.int (n : Int)) (fun a b => by
    by_cases c : a = b
    · subst c; simp [PyData.eqv]
    · have c2 : (a : Int) ≠ (b : Int) := by omega
      simp [PyData.eqv, c, c2]) s.gr t.gr
  unfold sdD iD
  simp only [PyData.eqv, PyData.eqvAll, e1, e2, Bool.and_true]
  by_cases c : s = t
  · subst c
    simp
  · rw [decide_eq_false c]
    by_cases c1 : s.pl = t.pl
    · have c2 : ¬ s.gr = t.gr := fun z => c (by cases s; cases t; simp_all)
      simp [c2]
    · simp [c1]
open Classical in
theorem eqv_iff {s t : Sd} : PyData.eqv (sdD s) (sdD t) = true ↔ s = t := by
  rw [eqv_sd]
  exact ⟨of_decide_eq_true, fun h => decide_eq_true h⟩
theorem fine_sd {s : Sd} (h : ∀ p ∈ s.pl, plOk p) : Fine 3 (sdD s) := by
  refine fine_tup (n := 2) fun d m => ?_
  simp only [List.mem_cons, List.not_mem_nil, or_false] at m
  rcases m with rfl | rfl
  · refine fine_tup (n := 1) fun d m => ?_
    obtain ⟨p, hp, rfl⟩ := List.mem_map.mp m
    exact fine_pl (h p hp)
  · refine fine_tup (n := 1) fun d m => ?_
    obtain ⟨n, _, rfl⟩ := List.mem_map.mp m
    exact fine_int _
theorem lay_sds : ∀ {T : List Sd}, (∀ s ∈ T, ∀ p ∈ s.pl, plOk p) → PyData.canLayAll0 (T.map sdD) = true
  | [], _ => rfl
  | s :: T, h => by
    rw [List.map_cons]
    simp only [PyData.canLayAll0, (fine_sd (h s List.mem_cons_self)).1, lay_sds fun t ht => h t (List.mem_cons_of_mem _ ht), Bool.and_self]
theorem any_yes {T : List Sd} {s : Sd} (c : s ∈ T) : ((T.map sdD).any fun z => PyData.eqv z (sdD s)) = true := by
  rw [List.any_map]
  exact List.any_eq_true.mpr ⟨s, c, eqv_iff.mpr rfl⟩
theorem any_no {T : List Sd} {s : Sd} (c : s ∉ T) : ((T.map sdD).any fun z => PyData.eqv z (sdD s)) = false := by
  rw [List.any_map]
  refine List.any_eq_false.mpr fun z hz e => c ?_
  have e : PyData.eqv (sdD z) (sdD s) = true := e
  rw [← eqv_iff.mp e]
  exact hz
theorem start_plok {r : Rm} (ok : RmOk r) : ∀ p ∈ (startS r).pl, plOk p := fun p hp => by
  obtain ⟨n, hn, rfl⟩ := List.mem_map.mp (show p ∈ r.st.map Pl.ins from hp)
  exact ok.st8 n hn
def sp_table_fault (K : PySem.W.Frag) (CC RC : Addr) (P : Program) (w : World) : Sp := fun vs H Q _ => ∃ (p tb : Addr) (r : Rm) (m : Nat) (tt : Bool) (us : List V) (ds : List PyData) (N : Addr → Prop), vs = [.ref p, .ref tb, .int (m : Nat)] ∧ RoomAt K RC CC H p r ∧ RmOk r ∧ Kd.Is K tt H tb us ∧ Dz.Dzs K N H us ds ∧ (∀ d ∈ ds, ThOk d) ∧ ds.length ≤ 4000 ∧
  ∀ H' v, Same H H' → Dz.Dn K (fun _ => False) H' v (dueD r m ds) → Q v H'
theorem ok_table_fault (T : Txt K mg) : FnOk P w K mg base CX0 5 T.a_table_fault T.d_table_fault ["room", "table", "most_open"] (sp_table_fault K T.CC T.RC P w) := by
  refine T.F_table_fault.ok sc_table_fault (fun vs H Q E h => ?_) (fun cdv A outer s H vs Q E hr h => ?_)
  · obtain ⟨p, tb, r, m, tt, us, ds, N, rfl, _⟩ := h
    rfl
  · obtain ⟨p, tb, r, m, tt, us, ds, N, rfl, hR, ok, ht, hd, th, l4, k⟩ := h
    have lu := hd.len
    obtain ⟨dx, fs, _, _, _, _, hp, _, _, _, _, _, _, _, lo⟩ := id hR
    refine ⟨_, (pss_cons (ps_for PassesOwn.never rfl (pi_or (pi_enum (by rfl) T.z_enumerate (pa_cons (pv 1) pa_nil)) (Es.pi_ent (by rfl) T.z_enumerate (pa_cons (pv 1) pa_nil))) (pg_tup rfl (pgs_cons (pg_name (i := 3) sc_table_fault.nd rfl (Or.inl rfl)) (pgs_cons (pg_name (i := 4) sc_table_fault.nd rfl (Or.inl rfl)) pgs_nil)))
        (pss_one (ps_if (pt_not (pt_val (pe_call (ok_is_standing T) (hr.mono (by decide)) (by rfl) T.g_is_standing T.F_is_standing.kp T.b_is_standing .nil pass0 (pa_cons (pv 0) (pa_cons (pv 4) (pa_cons (pv 2) pa_nil))))))
          (pss_one (ps_ret (pe_tup (pa_cons pe_str (pa_cons (pv 3) pa_nil)))))
          pss_nil)))
      (pss_cons (ps_if (pt_cmpR (show OpR _ _ (Ind.rNinS K) from Ind.op_ninS (Ind.room65 hr)) (pe_meth0 (pv 0) T.clRC T.m_rstart (ok_rstart T) (hr.mono (by decide)) T.b_rstart .nil pass0) (pv 1) rfl)
        (pss_one (ps_ret (pe_tup (pa_cons pe_str pa_nil))))
        pss_nil)
      (pss_cons (Nd.ps_setDcN (i := 5) (own := [("standing", 6)]) (g := gName 6) (tt := tYes) rfl rfl (Nd.sw_dc rfl rfl rfl (by decide +kernel)) hr.units rfl sc_table_fault.nd (pi_or (pi_list (pv 1)) (pi_tup (pv 1))) (blkOk_by (own := [("standing", 6)]) (N := nm_table_fault) (sc := (defScope s_table_fault)) (by decide +kernel)) (fun _ _ _ _ _ => pg_name (i := 6) sc_table_fault.nd rfl (Or.inl rfl)) (fun _ _ _ _ _ => pts_nil) (fun _ _ _ _ _ => (pv 6)) (fun _ _ _ _ _ => pe_bl))
      (pss_cons (ps_for PassesOwn.never rfl (pi_or (pi_enum (by rfl) T.z_enumerate (pa_cons (pv 1) pa_nil)) (Es.pi_ent (by rfl) T.z_enumerate (pa_cons (pv 1) pa_nil))) (pg_tup rfl (pgs_cons (pg_name (i := 3) sc_table_fault.nd rfl (Or.inl rfl)) (pgs_cons (pg_name (i := 6) sc_table_fault.nd rfl (Or.inl rfl)) pgs_nil)))
        (pss_one (ps_for PassesOwn.never rfl (pi_tup (pe_meth (pv 0) T.clRC T.m_rallowed (ok_rallowed T) (hr.mono (by decide)) T.b_rallowed .nil pass0 (pa_cons (pv 6) (pa_cons (pv 2) pa_nil)))) (pg_name (i := 7) sc_table_fault.nd rfl (Or.inl rfl))
          (pss_cons (ps_asg (pe_meth (pv 0) T.clRC T.m_rstep (ok_rstep T) (hr.mono (by decide)) T.b_rstep .nil pass0 (pa_cons (pv 6) (pa_cons (pv 7) pa_nil))) (pg_tup rfl (pgs_cons (pg_name (i := 8) sc_table_fault.nd rfl (Or.inl rfl)) (pgs_cons (pg_name (i := 9) sc_table_fault.nd rfl (Or.inl rfl)) pgs_nil))))
          (pss_cons (ps_if (pt_val (pe_call (ok_makes_short T) (hr.mono (by decide)) (by rfl) T.g_makes_short T.F_makes_short.kp T.b_makes_short .nil pass0 (pa_cons (pv 7) (pa_cons (pv 9) pa_nil))))
            (pss_one (ps_ret (pe_tup (pa_cons pe_str (pa_cons (pv 3) (pa_cons (pv 7) pa_nil))))))
            pss_nil)
          (pss_one (ps_if (pt_cmpR (Nd.op_ninN hr.units) (pv 8) (pv 5) rfl)
            (pss_one (ps_ret (pe_tup (pa_cons pe_str (pa_cons (pv 3) (pa_cons (pv 7) pa_nil))))))
            pss_nil)))))))
      (pss_one (ps_ret pe_non)))))), ?_⟩
    cases tt with
    | false =>
      have ht : SqL K H tb us := ht
      refine .inl ⟨_, rfl, tb, _, rfl, ht, ?_⟩
      refine for_it walk_enum (fun i σ A => (∃ v3 v4, σ = [some (.ref p), some (.ref tb), some (.int (m : Nat)), v3, v4, none, none, none, none, none]) ∧ Same H A ∧ ∀ z ∈ ds.take i, stdB r m z = true)
        ⟨⟨none, none, rfl⟩, Same.refl _, by simp⟩ (fun i σ A _ h => Hf.keepL h.2.1 ht) (fun i y' σ A A' hi hP hY => ?_) (fun σ A hP => ?_)
      · obtain ⟨⟨v3, v4, rfl⟩, sA, hall⟩ := hP
        obtain ⟨tp, y1, y2, rfl, htp, rfl, e1, e2⟩ := hY
        cases e1
        have e2 : us[i]? = some y2 := e2
        obtain ⟨z, hz, dz⟩ := hd.at e2
        have s2 := same_new (o := .tup [.int (i : Nat), y2]) htp
        have sB := sA.trans s2
        refine ⟨tp, _, rfl, SqT.of upd_same, rfl, _, _, rfl, _, _, rfl, rfl, ?_⟩
        refine ⟨_, rfl, _, rfl, _, rfl, p, r, y2, z, N, m, rfl, hR.k sB, ok, dz.ks sB, th z (List.mem_of_getElem? hz), fun H1 s1 => ?_⟩
        cases eb : stdB r m z with
        | true =>
          refine ⟨_, rfl, iteF ⟨⟨_, _, rfl⟩, sB.trans s1, fun z' hz' => ?_⟩⟩
          rw [tk_succ' hz] at hz'
          rcases List.mem_append.mp hz' with q | q
          · exact hall z' q
          · rw [List.mem_singleton.mp q]
            exact eb
        | false =>
          refine ⟨_, rfl, iteT ?_⟩
          refine ⟨_, rfl, by show 2 ≤ sizeLine; decide, fun u hu => ?_⟩
          refine k _ _ ((sB.trans s1).trans (same_new hu)) ?_
          rw [due_bad hz eb hall]
          exact .tup (SqT.of upd_same) (.cons (.str _) (.cons (.int _) .nil))
      · obtain ⟨⟨v3, v4, rfl⟩, sA, hall⟩ := hP
        rw [lu, List.take_length] at hall
        obtain ⟨T0, rfl, so, ed⟩ := due_good ok hall
        rw [ed] at k
        clear ed hall
        rw [List.length_map] at l4 lu
        have dts := dzs_sd hd
        refine ⟨_, rfl, p, dx, fs, rfl, sA _ _ hp, lo _ (by decide +kernel) (by decide +kernel) (by decide +kernel), p, r, rfl, hR.k sA, ok, fun H1 sv s1 dsv => ?_⟩
        have sA1 := sA.trans s1
        refine ⟨_, rfl, sdD (startS r), _, false, dsv.toDp, .lst (Hf.keepL sA1 ht) (dts.ks sA1).toDp, (fine_sd (start_plok ok)).1, Nat.le_trans (fine_sd (start_plok ok)).2 (by decide), lay_sds fun s hs => (so s hs).ok, _, rfl, ?_⟩
        unfold dueT at k
        by_cases ns : startS r ∈ T0
        case neg =>
          rw [if_neg ns] at k
          refine iteY (by rw [any_no ns]; rfl) ⟨by show 1 ≤ sizeLine; decide, fun u hu => ?_⟩
          exact k _ _ (sA1.trans (same_new hu)) (.tup (SqT.of upd_same) (.cons (.str _) .nil))
        rw [if_pos ns] at k
        refine iteN (by rw [any_yes ns]; rfl) ?_
        refine .inl ⟨_, rfl, tb, rfl, ⟨_, Hf.keepL sA1 ht⟩, fun D hD => ?_⟩
        have hDH : H D = none := none_of sA1 hD
        refine w_it walk_list (fun i B => Same H B ∧ ∃ kas, KnAt K P w B D kas (T0.take i)) ⟨sA1.trans (same_new hD), [], Nd.At.new, fun x => by simp, Nat.zero_le _⟩ (fun i B _ h => Hf.keepL h.1 ht) (fun i x B B' hi hP hY => ?_) (fun B hP => ?_)
        · obtain ⟨sB, kas, KA⟩ := hP
          obtain ⟨rfl, hx⟩ := hY
          obtain ⟨z, hz, dz⟩ := dts.at hx
          rw [List.getElem?_map] at hz
          obtain ⟨s, hs, rfl⟩ := Option.map_eq_some_iff.mp hz
          have dB := dz.ks sB
          obtain ⟨bz, _, rfl, _⟩ := id dB.inv
          have lk := KA.l
          rw [List.length_take] at lk
          have l60 : kas.length < 60000 := by omega
          refine ⟨rfl, yesT ⟨_, rfl, bz, kas, _, rfl, KA.a, sd_nk dB, Nat.lt_of_lt_of_le l60 (by decide), fun Y eY AY => ?_⟩⟩
          have bY : Bu D B' Y := by rw [eY]; exact Bu.set
          refine ⟨fun q o h => bY q o (fun z => by rw [z, hDH] at h; cases h) (sB q o h), _, ⟨AY, fun x => ?_, ?_⟩⟩
          · rw [put_keys, KA.m, tk_succ' hs, List.map_append, List.mem_append]
            simp
          · have := Nd.put_len kas (Nd.toKey (sdD s)) bz (.bl true)
            have := KA.l
            rw [tk_succ' hs, List.length_append, List.length_singleton]
            omega
        · obtain ⟨sB, kas, KA⟩ := hP
          rw [lu, List.take_length] at KA
          refine .inl ⟨_, rfl, tb, _, rfl, Hf.keepL sB ht, ?_⟩
          refine for_it walk_enum (fun i σ A => (∃ w3 w6 w7 w8 w9, σ = [some (.ref p), some (.ref tb), some (.int (m : Nat)), w3, v4, some (.ref D), w6, w7, w8, w9]) ∧ Same H A ∧ KnAt K P w A D kas T0 ∧ tabF r m T0 0 T0 = tabF r m T0 i (T0.drop i))
            ⟨⟨v3, none, none, none, none, rfl⟩, sB, KA, by rw [List.drop_zero]⟩ (fun i σ A _ h => Hf.keepL h.2.1 ht) (fun i y' σ A A' hi hP hY => ?_) (fun σ A hP => ?_)
          · obtain ⟨⟨w3, w6, w7, w8, w9, rfl⟩, sA, KA, et⟩ := hP
            obtain ⟨tp, y1, y2, rfl, htp, rfl, e1, e2⟩ := hY
            cases e1
            have e2 : us[i]? = some y2 := e2
            obtain ⟨z, hz, dz⟩ := dts.at e2
            rw [List.getElem?_map] at hz
            obtain ⟨s, hs, rfl⟩ := Option.map_eq_some_iff.mp hz
            have sos := so s (List.mem_of_getElem? hs)
            have s2 := same_new (o := .tup [.int (i : Nat), y2]) htp
            have sC := sA.trans s2
            have KC := KA.k s2
            have et2 := tab_cons (r := r) (m := m) (T := T0) hs
            rw [et2] at et
            refine ⟨tp, _, rfl, SqT.of upd_same, rfl, _, _, rfl, _, _, rfl, rfl, ?_⟩
            generalize upd A tp (.tup [.int (i : Nat), y2]) = A2 at sC KC ⊢
            refine ⟨_, rfl, p, dx, fs, rfl, sC _ _ hp, lo _ (by decide +kernel) (by decide +kernel) (by decide +kernel), _, rfl, _, rfl, p, r, y2, s, m, rfl, hR.k sC, ok, dz.ks sC, sos, fun B0 q0 s0 dq => ?_⟩
            obtain ⟨q, qs, rfl, hq, dqs⟩ := dq.inv
            have sE := sC.trans s0
            have KE := KC.k s0
            have ltr := dqs.len
            rw [List.length_map] at ltr
            refine ⟨q, rfl, ⟨_, hq⟩, ?_⟩
            refine for_tup (xs := qs) (fun j σ A' => (∃ w7 w8 w9, σ = [some (.ref p), some (.ref tb), some (.int (m : Nat)), some (.int (i : Nat)), v4, some (.ref D), some y2, w7, w8, w9]) ∧ Same B0 A' ∧ evF r T0 s (alF r s.gr m) = evF r T0 s ((alF r s.gr m).drop j))
              ⟨⟨w7, w8, w9, rfl⟩, Same.refl _, by rw [List.drop_zero]⟩ (fun j σ A' _ h => sameT h.2.1 hq) (fun j y σ A' hy hP => ?_) (fun σ A' hP => ?_)
            · obtain ⟨⟨w7, w8, w9, rfl⟩, sA', ev⟩ := hP
              obtain ⟨d0, ed, de0⟩ := dqs.at hy
              rw [List.getElem?_map] at ed
              obtain ⟨e, he, rfl⟩ := Option.map_eq_some_iff.mp ed
              obtain ⟨i2, cd, AE⟩ := al_mem ok sos (List.mem_of_getElem? he)
              have de := de0.ks sA'
              have sF := sE.trans sA'
              rw [ev_cons he] at ev
              refine ⟨_, rfl, p, dx, fs, rfl, sF _ _ hp, lo _ (by decide +kernel) (by decide +kernel) (by decide +kernel), _, rfl, _, rfl, p, r, i2, cd, y2, s, e.1, y, rfl, hR.k sF, ok, AE.hc, dz.ks sF, sos, ?_, AE.less, fun B4 u s4 hst => ?_⟩
              · have : evD (e.1, cd.ds) = evD e := by unfold evD; rw [AE.ds]
                rw [this]
                exact de
              obtain ⟨q2, t1, t2, rfl, hq2, g1, g2⟩ := hst
              rw [← AE.step.1] at g1
              rw [← AE.step.2] at g2
              have g2 : Dt K B4 t2 (tdD (tellE r s e)) := g2.elim (fun z => absurd z.1 (sent_of AE).2) fun z => z.2
              have s04 := sA'.trans s4
              have sG := sE.trans s04
              have de4 := de.ks s4
              have KG := KE.k s04
              have hm := KG.has (dts.ks sG) g1
              refine ⟨q2, _, rfl, SqT.of hq2, rfl, _, _, rfl, _, _, rfl, rfl, ?_⟩
              refine ⟨_, rfl, _, rfl, y, t2, e, tellE r s e, rfl, de4, g2, (sent_of AE).1, _, rfl, ?_⟩
              rw [short_eq AE]
              by_cases cs : shortE r s e = true
              · have res : tabF r m T0 0 T0 = some (true, i, e) := by
                  rw [et]
                  show (match evF r T0 s (alF r s.gr m) with
                    | some x => some (x.1, i, x.2)
                    | none => tabF r m T0 (i + 1) (T0.drop (i + 1))) = _
                  rw [ev]
                  unfold evF
                  rw [if_pos cs]
                rw [res] at k
                refine iteY cs ⟨_, rfl, _, rfl, by show 3 ≤ sizeLine; decide, fun u hu => ?_⟩
                exact k _ _ (sG.trans (same_new hu)) (.tup (SqT.of upd_same) (.cons (.str _) (.cons (.int _) (.cons (Dz.Dn.ofDt _ _ (de4.ks (same_new hu))) .nil))))
              refine iteN (Bool.eq_false_iff.mpr cs) ?_
              refine ⟨_, rfl, _, rfl, D, kas, _, rfl, KG.a, sd_nk g1, _, rfl, ite2 (fun c5 => ?_) (fun c5 => ?_)⟩
              · have ns : stepE r s e ∉ T0 := fun z => by rw [hm.mpr z] at c5; cases c5
                have res : tabF r m T0 0 T0 = some (false, i, e) := by
                  rw [et]
                  show (match evF r T0 s (alF r s.gr m) with
                    | some x => some (x.1, i, x.2)
                    | none => tabF r m T0 (i + 1) (T0.drop (i + 1))) = _
                  rw [ev]
                  unfold evF
                  rw [if_neg cs, if_neg ns]
                rw [res] at k
                refine ⟨_, rfl, _, rfl, by show 3 ≤ sizeLine; decide, fun u hu => ?_⟩
                exact k _ _ (sG.trans (same_new hu)) (.tup (SqT.of upd_same) (.cons (.str _) (.cons (.int _) (.cons (Dz.Dn.ofDt _ _ (de4.ks (same_new hu))) .nil))))
              · have ns : stepE r s e ∈ T0 := hm.mp (by
                  cases q0 : (Nd.look kas (Nd.toKey (sdD (stepE r s e)))).isSome with
                  | true => rfl
                  | false => rw [q0] at c5; exact absurd rfl c5)
                refine ⟨⟨_, _, _, rfl⟩, s04, ?_⟩
                rw [ev]
                conv => lhs; unfold evF
                rw [if_neg cs, if_pos ns]
            · obtain ⟨⟨w7, w8, w9, rfl⟩, sA', ev⟩ := hP
              rw [ltr, List.drop_length] at ev
              have ev : evF r T0 s (alF r s.gr m) = none := ev
              refine ⟨⟨_, _, _, _, _, rfl⟩, sE.trans sA', KE.k sA', ?_⟩
              rw [et]
              show (match evF r T0 s (alF r s.gr m) with
                | some x => some (x.1, i, x.2)
                | none => tabF r m T0 (i + 1) (T0.drop (i + 1))) = _
              rw [ev]
          · obtain ⟨⟨w3, w6, w7, w8, w9, rfl⟩, sA, KA, et⟩ := hP
            rw [lu, List.drop_length] at et
            have et : tabF r m T0 0 T0 = none := et
            rw [et] at k
            exact k _ _ sA .non
    | true =>
      have ht : SqT K H tb us := ht
      refine .inr ⟨_, rfl, tb, _, rfl, ht, ?_⟩
      refine for_it Es.walk_ent (fun i σ A => (∃ v3 v4, σ = [some (.ref p), some (.ref tb), some (.int (m : Nat)), v3, v4, none, none, none, none, none]) ∧ Same H A ∧ ∀ z ∈ ds.take i, stdB r m z = true)
        ⟨⟨none, none, rfl⟩, Same.refl _, by simp⟩ (fun i σ A _ h => sameT h.2.1 ht) (fun i y' σ A A' hi hP hY => ?_) (fun σ A hP => ?_)
      · obtain ⟨⟨v3, v4, rfl⟩, sA, hall⟩ := hP
        obtain ⟨tp, y1, y2, rfl, htp, rfl, e1, e2⟩ := hY
        cases e1
        have e2 : us[i]? = some y2 := e2
        obtain ⟨z, hz, dz⟩ := hd.at e2
        have s2 := same_new (o := .tup [.int (i : Nat), y2]) htp
        have sB := sA.trans s2
        refine ⟨tp, _, rfl, SqT.of upd_same, rfl, _, _, rfl, _, _, rfl, rfl, ?_⟩
        refine ⟨_, rfl, _, rfl, _, rfl, p, r, y2, z, N, m, rfl, hR.k sB, ok, dz.ks sB, th z (List.mem_of_getElem? hz), fun H1 s1 => ?_⟩
        cases eb : stdB r m z with
        | true =>
          refine ⟨_, rfl, iteF ⟨⟨_, _, rfl⟩, sB.trans s1, fun z' hz' => ?_⟩⟩
          rw [tk_succ' hz] at hz'
          rcases List.mem_append.mp hz' with q | q
          · exact hall z' q
          · rw [List.mem_singleton.mp q]
            exact eb
        | false =>
          refine ⟨_, rfl, iteT ?_⟩
          refine ⟨_, rfl, by show 2 ≤ sizeLine; decide, fun u hu => ?_⟩
          refine k _ _ ((sB.trans s1).trans (same_new hu)) ?_
          rw [due_bad hz eb hall]
          exact .tup (SqT.of upd_same) (.cons (.str _) (.cons (.int _) .nil))
      · obtain ⟨⟨v3, v4, rfl⟩, sA, hall⟩ := hP
        rw [lu, List.take_length] at hall
        obtain ⟨T0, rfl, so, ed⟩ := due_good ok hall
        rw [ed] at k
        clear ed hall
        rw [List.length_map] at l4 lu
        have dts := dzs_sd hd
        refine ⟨_, rfl, p, dx, fs, rfl, sA _ _ hp, lo _ (by decide +kernel) (by decide +kernel) (by decide +kernel), p, r, rfl, hR.k sA, ok, fun H1 sv s1 dsv => ?_⟩
        have sA1 := sA.trans s1
        refine ⟨_, rfl, sdD (startS r), _, true, dsv.toDp, .tup (sameT sA1 ht) (dts.ks sA1).toDp, (fine_sd (start_plok ok)).1, Nat.le_trans (fine_sd (start_plok ok)).2 (by decide), lay_sds fun s hs => (so s hs).ok, _, rfl, ?_⟩
        unfold dueT at k
        by_cases ns : startS r ∈ T0
        case neg =>
          rw [if_neg ns] at k
          refine iteY (by rw [any_no ns]; rfl) ⟨by show 1 ≤ sizeLine; decide, fun u hu => ?_⟩
          exact k _ _ (sA1.trans (same_new hu)) (.tup (SqT.of upd_same) (.cons (.str _) .nil))
        rw [if_pos ns] at k
        refine iteN (by rw [any_yes ns]; rfl) ?_
        refine .inr ⟨_, rfl, tb, rfl, ⟨_, sameT sA1 ht⟩, fun D hD => ?_⟩
        have hDH : H D = none := none_of sA1 hD
        refine w_it walk_tup (fun i B => Same H B ∧ ∃ kas, KnAt K P w B D kas (T0.take i)) ⟨sA1.trans (same_new hD), [], Nd.At.new, fun x => by simp, Nat.zero_le _⟩ (fun i B _ h => sameT h.1 ht) (fun i x B B' hi hP hY => ?_) (fun B hP => ?_)
        · obtain ⟨sB, kas, KA⟩ := hP
          obtain ⟨rfl, hx⟩ := hY
          obtain ⟨z, hz, dz⟩ := dts.at hx
          rw [List.getElem?_map] at hz
          obtain ⟨s, hs, rfl⟩ := Option.map_eq_some_iff.mp hz
          have dB := dz.ks sB
          obtain ⟨bz, _, rfl, _⟩ := id dB.inv
          have lk := KA.l
          rw [List.length_take] at lk
          have l60 : kas.length < 60000 := by omega
          refine ⟨rfl, yesT ⟨_, rfl, bz, kas, _, rfl, KA.a, sd_nk dB, Nat.lt_of_lt_of_le l60 (by decide), fun Y eY AY => ?_⟩⟩
          have bY : Bu D B' Y := by rw [eY]; exact Bu.set
          refine ⟨fun q o h => bY q o (fun z => by rw [z, hDH] at h; cases h) (sB q o h), _, ⟨AY, fun x => ?_, ?_⟩⟩
          · rw [put_keys, KA.m, tk_succ' hs, List.map_append, List.mem_append]
            simp
          · have := Nd.put_len kas (Nd.toKey (sdD s)) bz (.bl true)
            have := KA.l
            rw [tk_succ' hs, List.length_append, List.length_singleton]
            omega
        · obtain ⟨sB, kas, KA⟩ := hP
          rw [lu, List.take_length] at KA
          refine .inr ⟨_, rfl, tb, _, rfl, sameT sB ht, ?_⟩
          refine for_it Es.walk_ent (fun i σ A => (∃ w3 w6 w7 w8 w9, σ = [some (.ref p), some (.ref tb), some (.int (m : Nat)), w3, v4, some (.ref D), w6, w7, w8, w9]) ∧ Same H A ∧ KnAt K P w A D kas T0 ∧ tabF r m T0 0 T0 = tabF r m T0 i (T0.drop i))
            ⟨⟨v3, none, none, none, none, rfl⟩, sB, KA, by rw [List.drop_zero]⟩ (fun i σ A _ h => sameT h.2.1 ht) (fun i y' σ A A' hi hP hY => ?_) (fun σ A hP => ?_)
          · obtain ⟨⟨w3, w6, w7, w8, w9, rfl⟩, sA, KA, et⟩ := hP
            obtain ⟨tp, y1, y2, rfl, htp, rfl, e1, e2⟩ := hY
            cases e1
            have e2 : us[i]? = some y2 := e2
            obtain ⟨z, hz, dz⟩ := dts.at e2
            rw [List.getElem?_map] at hz
            obtain ⟨s, hs, rfl⟩ := Option.map_eq_some_iff.mp hz
            have sos := so s (List.mem_of_getElem? hs)
            have s2 := same_new (o := .tup [.int (i : Nat), y2]) htp
            have sC := sA.trans s2
            have KC := KA.k s2
            have et2 := tab_cons (r := r) (m := m) (T := T0) hs
            rw [et2] at et
            refine ⟨tp, _, rfl, SqT.of upd_same, rfl, _, _, rfl, _, _, rfl, rfl, ?_⟩
            generalize upd A tp (.tup [.int (i : Nat), y2]) = A2 at sC KC ⊢
            refine ⟨_, rfl, p, dx, fs, rfl, sC _ _ hp, lo _ (by decide +kernel) (by decide +kernel) (by decide +kernel), _, rfl, _, rfl, p, r, y2, s, m, rfl, hR.k sC, ok, dz.ks sC, sos, fun B0 q0 s0 dq => ?_⟩
            obtain ⟨q, qs, rfl, hq, dqs⟩ := dq.inv
            have sE := sC.trans s0
            have KE := KC.k s0
            have ltr := dqs.len
            rw [List.length_map] at ltr
            refine ⟨q, rfl, ⟨_, hq⟩, ?_⟩
            refine for_tup (xs := qs) (fun j σ A' => (∃ w7 w8 w9, σ = [some (.ref p), some (.ref tb), some (.int (m : Nat)), some (.int (i : Nat)), v4, some (.ref D), some y2, w7, w8, w9]) ∧ Same B0 A' ∧ evF r T0 s (alF r s.gr m) = evF r T0 s ((alF r s.gr m).drop j))
              ⟨⟨w7, w8, w9, rfl⟩, Same.refl _, by rw [List.drop_zero]⟩ (fun j σ A' _ h => sameT h.2.1 hq) (fun j y σ A' hy hP => ?_) (fun σ A' hP => ?_)
            · obtain ⟨⟨w7, w8, w9, rfl⟩, sA', ev⟩ := hP
              obtain ⟨d0, ed, de0⟩ := dqs.at hy
              rw [List.getElem?_map] at ed
              obtain ⟨e, he, rfl⟩ := Option.map_eq_some_iff.mp ed
              obtain ⟨i2, cd, AE⟩ := al_mem ok sos (List.mem_of_getElem? he)
              have de := de0.ks sA'
              have sF := sE.trans sA'
              rw [ev_cons he] at ev
              refine ⟨_, rfl, p, dx, fs, rfl, sF _ _ hp, lo _ (by decide +kernel) (by decide +kernel) (by decide +kernel), _, rfl, _, rfl, p, r, i2, cd, y2, s, e.1, y, rfl, hR.k sF, ok, AE.hc, dz.ks sF, sos, ?_, AE.less, fun B4 u s4 hst => ?_⟩
              · have : evD (e.1, cd.ds) = evD e := by unfold evD; rw [AE.ds]
                rw [this]
                exact de
              obtain ⟨q2, t1, t2, rfl, hq2, g1, g2⟩ := hst
              rw [← AE.step.1] at g1
              rw [← AE.step.2] at g2
              have g2 : Dt K B4 t2 (tdD (tellE r s e)) := g2.elim (fun z => absurd z.1 (sent_of AE).2) fun z => z.2
              have s04 := sA'.trans s4
              have sG := sE.trans s04
              have de4 := de.ks s4
              have KG := KE.k s04
              have hm := KG.has (dts.ks sG) g1
              refine ⟨q2, _, rfl, SqT.of hq2, rfl, _, _, rfl, _, _, rfl, rfl, ?_⟩
              refine ⟨_, rfl, _, rfl, y, t2, e, tellE r s e, rfl, de4, g2, (sent_of AE).1, _, rfl, ?_⟩
              rw [short_eq AE]
              by_cases cs : shortE r s e = true
              · have res : tabF r m T0 0 T0 = some (true, i, e) := by
                  rw [et]
                  show (match evF r T0 s (alF r s.gr m) with
                    | some x => some (x.1, i, x.2)
                    | none => tabF r m T0 (i + 1) (T0.drop (i + 1))) = _
                  rw [ev]
                  unfold evF
                  rw [if_pos cs]
                rw [res] at k
                refine iteY cs ⟨_, rfl, _, rfl, by show 3 ≤ sizeLine; decide, fun u hu => ?_⟩
                exact k _ _ (sG.trans (same_new hu)) (.tup (SqT.of upd_same) (.cons (.str _) (.cons (.int _) (.cons (Dz.Dn.ofDt _ _ (de4.ks (same_new hu))) .nil))))
              refine iteN (Bool.eq_false_iff.mpr cs) ?_
              refine ⟨_, rfl, _, rfl, D, kas, _, rfl, KG.a, sd_nk g1, _, rfl, ite2 (fun c5 => ?_) (fun c5 => ?_)⟩
              · have ns : stepE r s e ∉ T0 := fun z => by rw [hm.mpr z] at c5; cases c5
                have res : tabF r m T0 0 T0 = some (false, i, e) := by
                  rw [et]
                  show (match evF r T0 s (alF r s.gr m) with
                    | some x => some (x.1, i, x.2)
                    | none => tabF r m T0 (i + 1) (T0.drop (i + 1))) = _
                  rw [ev]
                  unfold evF
                  rw [if_neg cs, if_neg ns]
                rw [res] at k
                refine ⟨_, rfl, _, rfl, by show 3 ≤ sizeLine; decide, fun u hu => ?_⟩
                exact k _ _ (sG.trans (same_new hu)) (.tup (SqT.of upd_same) (.cons (.str _) (.cons (.int _) (.cons (Dz.Dn.ofDt _ _ (de4.ks (same_new hu))) .nil))))
              · have ns : stepE r s e ∈ T0 := hm.mp (by
                  cases q0 : (Nd.look kas (Nd.toKey (sdD (stepE r s e)))).isSome with
                  | true => rfl
                  | false => rw [q0] at c5; exact absurd rfl c5)
                refine ⟨⟨_, _, _, rfl⟩, s04, ?_⟩
                rw [ev]
                conv => lhs; unfold evF
                rw [if_neg cs, if_pos ns]
            · obtain ⟨⟨w7, w8, w9, rfl⟩, sA', ev⟩ := hP
              rw [ltr, List.drop_length] at ev
              have ev : evF r T0 s (alF r s.gr m) = none := ev
              refine ⟨⟨_, _, _, _, _, rfl⟩, sE.trans sA', KE.k sA', ?_⟩
              rw [et]
              show (match evF r T0 s (alF r s.gr m) with
                | some x => some (x.1, i, x.2)
                | none => tabF r m T0 (i + 1) (T0.drop (i + 1))) = _
              rw [ev]
          · obtain ⟨⟨w3, w6, w7, w8, w9, rfl⟩, sA, KA, et⟩ := hP
            rw [lu, List.drop_length] at et
            have et : tabF r m T0 0 T0 = none := et
            rw [et] at k
            exact k _ _ sA .non
end
end K59

namespace K59
open PySem L2 Wm TL Dv
section
variable {P : Program} {w : World} {K : PySem.W.Frag} {mg : Str → Option Value} {base : Heap}
def sp_walked (K : PySem.W.Frag) (P : Program) (w : World) : Sp := fun vs H Q _ => ∃ (a l : Addr) (r : Rm) (m : Nat), vs = [.ref a, .ref l, .int (m : Nat)] ∧ H a = some (.lst (nV r.st)) ∧ LC K H l r.cs ∧ RmOk r ∧ Small r ∧ m ≤ 2 ∧
  ∀ H' q us (T : List Sd), Same H H' → H q = none → H' q = some (.lst us) → Dts K H' us (T.map sdD) → T ≠ [] → (∀ s ∈ T, SdOk r s) → T.length ≤ 3000 → Q (.ref q) H'
theorem ok_walked (T : Txt K mg) : FnOk P w K mg base CX0 3 T.a_walked T.d_walked ["_law_stations", "_law_cards_here", "_law_most_open"] (sp_walked K P w) := by
  refine T.F_walked.ok sc_walked (fun vs H Q E h => ?_) (fun cdv A outer s H vs Q E hr h => ?_)
  · obtain ⟨a, l, r, m, rfl, _⟩ := h
    rfl
  · obtain ⟨a, l, r, m, rfl, ha, hl, ok, sm, m2, k⟩ := h
    refine ⟨_, (pss_cons (ps_par (i := 3) (j := 4) rfl sc_walked.nd rfl rfl (by decide) rfl rfl (pa_cons (pe_lst (pa_cons (pe_call (ok_start T) (hr.mono (by decide)) (by rfl) T.g_start T.F_start.kp T.b_start .nil pass0 (pa_cons (pv 0) (pa_cons (pv 1) pa_nil))) pa_nil)) (pa_cons pe_int pa_nil)) rfl)
      (pss_cons (ps_set (i := 5) sc_walked.nd rfl (Or.inl rfl) (Nd.pe_nd1 hr.units (pe_ix ix_list (pv 3) pe_int (fun _ _ => rfl)) pe_bl))
      (pss_cons (ps_for PassesOwn.never rfl (pi_range1 (by rfl) T.z_range (pa_cons pe_int pa_nil)) (pg_name (i := 6) sc_walked.nd rfl (Or.inl rfl))
        (pss_cons (ps_if (pt_cmpR op_eq (pv 4) (pe_callB call_len_seq (by rfl) T.z_len PySem.boot_len (pa_cons (pv 3) pa_nil)) (nomark _))
          (pss_one (ps_ret (pv 3)))
          pss_nil)
        (pss_cons (ps_for PassesOwn.never rfl (pi_list (pe_call (ok_allowed T) (hr.mono (by decide)) (by rfl) T.g_allowed T.F_allowed.kp T.b_allowed .nil pass0 (pa_cons (pv 1) (pa_cons (pe_ix ix_list (pv 3) (pv 4) (fun _ _ => rfl)) (pa_cons (pv 2) pa_nil))))) (pg_name (i := 7) sc_walked.nd rfl (Or.inl rfl))
          (pss_cons (ps_set (i := 8) sc_walked.nd rfl (Or.inl rfl) (pe_ix ix_tup (pe_call (ok_step T) (hr.mono (by decide)) (by rfl) T.g_step T.F_step.kp T.b_step .nil pass0 (pa_cons (pv 0) (pa_cons (pv 1) (pa_cons (pe_ix ix_list (pv 3) (pv 4) (fun _ _ => rfl)) (pa_cons (pv 7) pa_nil))))) pe_int (fun _ _ => rfl)))
          (pss_one (ps_if (pt_cmpR (Nd.op_ninN hr.units) (pv 8) (pv 5) rfl)
            (pss_cons (Nd.ps_putN hr.units (pv 5) (pv 8) pe_bl rfl)
            (pss_one (ps_expr (pe_bm PySem.F.plainAttrs_list PySem.F.slot_list_append PySem.F.type_list_append mt_append (pv 3) (pa_cons (pv 8) pa_nil)))))
            pss_nil))))
        (pss_one (ps_set (i := 4) sc_walked.nd rfl (Or.inl rfl) (pe_op op_add (pv 4) pe_int))))))
      (pss_one (ps_ret (pv 3)))))), ?_⟩
    refine ⟨_, rfl, _, rfl, a, l, r, rfl, ha, hl, ok, fun H1 sv s1 dsv => ?_⟩
    refine ⟨by show 1 ≤ sizeLine; decide, fun Tb hTb => ?_⟩
    have s2 := same_new (o := .lst [sv]) hTb
    have hT2 : upd H1 Tb (.lst [sv]) Tb = some (.lst [sv]) := upd_same
    have hTH := none_of s1 hTb
    have s12 := s1.trans s2
    have dsv2 := dsv.ks s2
    generalize upd H1 Tb (.lst [sv]) = H2 at s12 hT2 dsv2 ⊢
    refine ⟨_, _, rfl, ?_⟩
    refine fun Rw hRw => ?_
    have s3 := same_new (o := Nd.NDo P w Rw []) hRw
    have hRH := none_of s12 hRw
    obtain ⟨bz, _, rfl, _⟩ := id dsv2.inv
    have ds4 := dsv2.ks s3
    have hR4 : upd H2 Rw (Nd.NDo P w Rw []) Rw = some (Nd.NDo P w Rw []) := upd_same
    refine ⟨_, rfl, Tb, _, 0, _, rfl, rfl, SqL.of (s3 _ _ hT2), atI_nat (j := 0) rfl, bz, _, _, rfl, hR4, sd_nk ds4, fun H3 e3 A3 => ?_⟩
    have b3 : Bu Rw (upd H2 Rw (Nd.NDo P w Rw [])) H3 := by rw [e3]; exact Bu.set
    have k3 : Kt K (upd H2 Rw (Nd.NDo P w Rw [])) H3 := b3.kt hR4 (fun _ e => by cases e) (fun _ _ e => by cases e)
    have s13 : Same H H3 := fun q o e => b3 q o (fun z => by rw [z, hRH] at e; cases e) (s3 q o (s12 q o e))
    have nTR : Tb ≠ Rw := fun z => by rw [← z, hT2] at hRw; cases hRw
    have hT3 : H3 Tb = some (.lst [.ref bz]) := b3 _ _ nTR (s3 _ _ hT2)
    have ds3 := ds4.k k3
    have KA3 : KnAt K P w H3 Rw [(Nd.toKey (sdD (startS r)), bz, .bl true)] [startS r] := ⟨A3, fun x => Iff.rfl, Nat.le_refl _⟩
    refine ⟨_, rfl, by decide, by decide, ?_⟩
    refine for_range (fun i σ A => ∃ (T : List Sd) (us : List V) (kas : List Nd.Ent) (v6 v7 v8 : Option V), σ = [some (.ref a), some (.ref l), some (.int (m : Nat)), some (.ref Tb), some (.int (i : Nat)), some (.ref Rw), v6, v7, v8] ∧ Same H A ∧ A Tb = some (.lst us) ∧ Dts K A us (T.map sdD) ∧ KnAt K P w A Rw kas T ∧ T.Nodup ∧ (∀ s ∈ T, InR r m s) ∧ i ≤ T.length ∧ T ≠ [])
      ⟨[startS r], _, _, _, _, _, rfl, s13, hT3, .cons ds3 .nil, KA3, List.nodup_cons.mpr ⟨List.not_mem_nil, List.nodup_nil⟩, fun s hs => by rw [List.mem_singleton.mp hs]; exact InR.start ok m, Nat.zero_le _, List.cons_ne_nil _ _⟩ (fun i σ A hi hP => ?_) (fun σ A hP => ?_)
    · obtain ⟨T, us, kas, v6, v7, v8, rfl, sA, hT, dT, KA, nd, inr, li, ne⟩ := hP
      have l3 := met_few m2 sm nd inr
      have lu := dT.len
      rw [List.length_map] at lu
      refine ⟨_, rfl, _, rfl, Tb, us, rfl, .inl (SqL.of hT), rfl, _, rfl, ?_⟩
      by_cases c : i = us.length
      · exact iteY (decide_eq_true (by rw [c])) ⟨_, rfl, k _ Tb us T sA hTH hT dT ne (fun s hs => (inr s hs).ok) l3⟩
      refine iteN (decide_eq_false (fun z => c (by have z := V.int.inj z; omega))) ?_
      have c : i < T.length := by omega
      have ec := List.getElem?_eq_getElem c
      generalize T[i] = s at ec
      have sos := (inr s (List.mem_of_getElem? ec)).ok
      obtain ⟨v, ev, dv⟩ := dT.get (i := i) (d := sdD s) (by rw [List.getElem?_map, ec]; rfl)
      refine ⟨_, rfl, _, rfl, _, rfl, Tb, us, i, v, rfl, rfl, SqL.of hT, atI_nat ev, _, rfl, l, v, r, s, m, rfl, hl.k sA, dv, ok, sos, fun B0 q qs sB hq hqB dq l18 => ?_⟩
      have nqT : q ≠ Tb := fun z => by rw [z, hT] at hq; cases hq
      have nqR : q ≠ Rw := fun z => by rw [z, KA.a.h] at hq; cases hq
      have ltr := dq.len
      rw [List.length_map] at ltr
      refine ⟨q, rfl, ⟨_, SqL.of hqB⟩, ?_⟩
      refine for_list (xs := qs) (fun j σ A' => ∃ (T' : List Sd) (us' : List V) (kas' : List Nd.Ent) (v7 v8 : Option V), σ = [some (.ref a), some (.ref l), some (.int (m : Nat)), some (.ref Tb), some (.int (i : Nat)), some (.ref Rw), some (.int (0 + (i : Nat))), v7, v8] ∧ Same H A' ∧ Kt K B0 A' ∧ A' q = some (.lst qs) ∧ A' Tb = some (.lst us') ∧ Dts K A' us' (T'.map sdD) ∧ KnAt K P w A' Rw kas' T' ∧ T'.Nodup ∧ (∀ s ∈ T', InR r m s) ∧ T <+: T')
        ⟨T, us, kas, _, _, rfl, sA.trans sB, Kt.refl, hqB, sB _ _ hT, dT.ks sB, KA.k sB, nd, inr, List.prefix_refl _⟩ (fun j σ A' _ hP => ?_) (fun j y σ A' hy hP => ?_) (fun σ A' hP => ?_)
      · obtain ⟨_, _, _, _, _, _, _, _, hqA, _⟩ := hP
        exact SqL.of hqA
      · obtain ⟨T', us', kas', v7, v8, rfl, sA', kA', hqA, hT', dT', KA', nd', inr', pre⟩ := hP
        have l3' := met_few m2 sm nd' inr'
        have lu' := dT'.len
        rw [List.length_map] at lu'
        obtain ⟨d0, ed, de0⟩ := dq.at hy
        rw [List.getElem?_map] at ed
        obtain ⟨e, he, rfl⟩ := Option.map_eq_some_iff.mp ed
        have mem := List.mem_of_getElem? he
        obtain ⟨i2, cd, AE⟩ := al_mem ok sos mem
        have O := stepO AE
        have Nm := al_num ok AE
        have de := de0.k kA'
        obtain ⟨eq, y1, y2, rfl, heq, f1, f2⟩ := dt_two de
        obtain rfl := f1.str_inv
        obtain rfl := f2.str_inv
        have es' : T'[i]? = some s := by
          obtain ⟨z, rfl⟩ := pre
          rw [List.getElem?_append_left c]
          exact ec
        obtain ⟨v', ev', dv'⟩ := dT'.get (i := i) (d := sdD s) (by rw [List.getElem?_map, es']; rfl)
        refine ⟨_, rfl, _, rfl, _, rfl, _, rfl, Tb, us', i, v', rfl, rfl, SqL.of hT', atI_nat ev', _, rfl, a, l, v', .str (numS e.2), eq, r, s, e.1, _, some i2, rfl, sA' _ _ ha, hl.k sA', ok, dv', sos, heq, ob_num Nm, O.1, O.2.2.2, fun B4 q2 t1 t2 b2 s4 hq2 g1 g2 eb' pf => ?_⟩
        rw [O.2.1] at g1
        refine ⟨q2, _, 0, _, rfl, rfl, SqT.of hq2, atI_nat (j := 0) rfl, ?_⟩
        have sA4 := sA'.trans s4
        have kA4 : Kt K B0 B4 := kA'.trans (Kt.same s4)
        have KA4 := KA'.k s4
        have hT4 := s4 _ _ hT'
        have dT4 := dT'.ks s4
        have hm := KA4.has dT4 g1
        have IA := (inr s (List.mem_of_getElem? ec)).step ok mem
        have hq4 := s4 _ _ hqA
        obtain ⟨p3, _, rfl, _⟩ := id g1.inv
        refine ⟨_, rfl, _, rfl, Rw, kas', _, rfl, KA4.a, sd_nk g1, _, rfl, ite2 (fun cc => ?_) (fun cc => ?_)⟩
        · have ns : stepE r s e ∉ T' := fun z => by rw [hm.mpr z] at cc; cases cc
          have lk := KA4.l
          have l60 : kas'.length < 60000 := by omega
          refine ⟨_, rfl, _, rfl, Rw, p3, kas', _, rfl, rfl, KA4.a, sd_nk g1, Nat.lt_of_lt_of_le l60 (by decide), fun Y eY AY => ?_⟩
          have bY : Bu Rw B4 Y := by rw [eY]; exact Bu.set
          have kY : Kt K B4 Y := bY.kt KA4.a.h (fun _ e => by cases e) (fun _ _ e => by cases e)
          have hTY := bY _ _ nTR hT4
          refine ⟨_, rfl, .inl ⟨rfl, _, SqL.of hTY⟩, _, rfl, Tb, us', _, rfl, rfl, hTY, Nat.lt_of_lt_of_le (m := 60000) (by omega) (by decide), ?_⟩
          have kX : Kt K Y (upd Y Tb (.lst (us' ++ [.ref p3]))) := Kt.lst hTY
          have kk := kY.trans kX
          have old : ∀ {q o}, q ≠ Tb → q ≠ Rw → B4 q = some o → upd Y Tb (.lst (us' ++ [.ref p3])) q = some o := fun h1 h2 h => Bu.set _ _ h1 (bY _ _ h2 h)
          refine ⟨T' ++ [stepE r s e], _, _, _, _, rfl, fun q o h => old (fun z => by rw [z, hTH] at h; cases h) (fun z => by rw [z, hRH] at h; cases h) (sA4 q o h), kA4.trans kk, old nqT nqR hq4, upd_same, ?_, ⟨⟨Bu.set _ _ nTR.symm AY.h, fun e he => (AY.keys e he).kt kX, AY.nd⟩, fun x => ?_, ?_⟩, ?_, fun x hx => ?_, pre.trans (List.prefix_append _ _)⟩
          · rw [List.map_append]
            exact (dT4.k kk).snoc (g1.k kk)
          · rw [put_keys, KA4.m, List.map_append, List.mem_append]
            simp
          · have := Nd.put_len kas' (Nd.toKey (sdD (stepE r s e))) p3 (.bl true)
            rw [List.length_append, List.length_singleton]
            omega
          · rw [List.nodup_append]
            exact ⟨nd', List.nodup_cons.mpr ⟨List.not_mem_nil, List.nodup_nil⟩, fun x hx y hy e => ns (by rw [← List.mem_singleton.mp hy, ← e]; exact hx)⟩
          · rcases List.mem_append.mp hx with h | h
            · exact inr' x h
            · rw [List.mem_singleton.mp h]
              exact IA
        · exact ⟨T', us', kas', _, _, rfl, sA4, kA4, hq4, hT4, dT4, KA4, nd', inr', pre⟩
      · obtain ⟨T', us', kas', v7, v8, rfl, sA', kA', hqA, hT', dT', KA', nd', inr', pre⟩ := hP
        refine ⟨_, rfl, _, _, rfl, rfl, ?_⟩
        have e1 : ((i : Nat) : Int) + 1 = ((i + 1 : Nat) : Int) := by omega
        refine ⟨T', us', kas', _, _, _, by rw [← e1]; rfl, sA', hT', dT', KA', nd', inr', ?_, ?_⟩
        · obtain ⟨z, rfl⟩ := pre
          rw [List.length_append]
          omega
        · obtain ⟨z, rfl⟩ := pre
          simp [ne]
    · obtain ⟨T, us, kas, v6, v7, v8, rfl, sA, hT, dT, KA, nd, inr, li, ne⟩ := hP
      exact ⟨_, rfl, k _ Tb us T sA hTH hT dT ne (fun s hs => (inr s hs).ok) (met_few m2 sm nd inr)⟩
end
end K59

namespace K59
open PySem L2 Wm TL Dv
section
variable {P : Program} {w : World} {K : PySem.W.Frag} {mg : Str → Option Value} {base : Heap}
/-- what repr of a table lays: tight weights, dicts allowed -/
structure Sz (n w : Nat) (d : PyData) : Prop where
  lay : d.canLay0 = true
  isn : d.intsShort 13 = true
  wt : d.weight ≤ w
  sh : d.showable = true
  dp : d.depth ≤ n
theorem Sz.mono {n m w v : Nat} {d : PyData} (h : Sz n w d) (a : n ≤ m) (b : w ≤ v) : Sz m v d := ⟨h.lay, h.isn, Nat.le_trans h.wt b, h.sh, Nat.le_trans h.dp a⟩
theorem sz_of {n w : Nat} {d : PyData} (h : Sh n w d) : Sz n w d := ⟨h.lay, h.isn, h.wt, h.sh, h.dp⟩
theorem sz_w {n w v : Nat} {d : PyData} (h : Sh n w d) (e : d.weight ≤ v) : Sz n v d := ⟨h.lay, h.isn, e, h.sh, h.dp⟩
theorem sz_all {n w : Nat} : ∀ {ds : List PyData}, (∀ d ∈ ds, Sz n w d) → PyData.canLayAll0 ds = true ∧ PyData.intsShortAll 13 ds = true ∧ PyData.weightAll ds ≤ ds.length * (w + 1) ∧ PyData.showableAll ds = true ∧ PyData.depthAll ds ≤ n
  | [], _ => by simp [PyData.canLayAll0, PyData.intsShortAll, PyData.weightAll, PyData.showableAll, PyData.depthAll]
  | x :: xs, h => by
    have a := h x (by simp)
    obtain ⟨b1, b2, b3, b4, b5⟩ := sz_all (ds := xs) fun y m => h y (List.mem_cons_of_mem _ m)
    refine ⟨by simp only [PyData.canLayAll0, a.lay, b1, Bool.and_self], by simp only [PyData.intsShortAll, a.isn, b2, Bool.and_self], ?_, by simp only [PyData.showableAll, a.sh, b4, Bool.and_self], ?_⟩
    · simp only [PyData.weightAll, List.length_cons, Nat.add_mul, Nat.one_mul]
      have := a.wt
      omega
    · simp only [PyData.depthAll]
      have := a.dp
      omega
theorem sz_tup {n w k : Nat} {ds : List PyData} (h : ∀ d ∈ ds, Sz n w d) (l : ds.length ≤ k) : Sz (n + 1) (k * (w + 1)) (.tuple ds) := by
  obtain ⟨b1, b2, b3, b4, b5⟩ := sz_all h
  have := Nat.mul_le_mul_right (w + 1) l
  exact ⟨by simp only [PyData.canLay0, b1], by simp only [PyData.intsShort, b2], by simp only [PyData.weight]; omega, by simp only [PyData.showable, b4], by simp only [PyData.depth]; omega⟩
theorem sz_lst {n w k : Nat} {ds : List PyData} (h : ∀ d ∈ ds, Sz n w d) (l : ds.length ≤ k) : Sz (n + 1) (k * (w + 1)) (.list ds) := by
  obtain ⟨b1, b2, b3, b4, b5⟩ := sz_all h
  have := Nat.mul_le_mul_right (w + 1) l
  exact ⟨by simp only [PyData.canLay0, b1], by simp only [PyData.intsShort, b2], by simp only [PyData.weight]; omega, by simp only [PyData.showable, b4], by simp only [PyData.depth]; omega⟩
theorem sz_int {i : Nat} (h : i ≤ 9) : Sz 0 4 (.int (i : Int)) := by
  refine sz_w (sh_int (by omega)) ?_
  show (if ((i : Nat) : Int) == 0 then 0 else ((i : Nat) : Int).natAbs.log2 + 1) ≤ 4
  split
  · exact Nat.zero_le _
  · rename_i z
    have z : ((i : Nat) : Int) ≠ 0 := by simpa using z
    exact (Nat.log2_lt (by omega)).mpr (by omega)
theorem sz_num {ds : List Nat} (N : Num ds) : Sz 0 4 (.str (numS ds)) := by
  refine sz_w (sh_str (num_tx N)) ?_
  show (numS ds).cps.size ≤ 4
  have e : (numS ds).cps.size = ds.length := numS_len ds
  rw [e]
  exact N.len
theorem sz_two {n w : Nat} {a b : PyData} (x : Sz n w a) (y : Sz n w b) : Sz (n + 1) (2 * (w + 1)) (.tuple [a, b]) := sz_tup (fun d m => by
  simp only [List.mem_cons, List.not_mem_nil, or_false] at m
  rcases m with rfl | rfl
  · exact x
  · exact y) (Nat.le_refl 2)
theorem sz_in : Sz 0 4 (.str "in") := sz_w (sh_str ⟨by decide +kernel, by decide +kernel⟩) (by decide +kernel)
theorem sz_out : Sz 0 4 (.str "out") := sz_w (sh_str ⟨by decide +kernel, by decide +kernel⟩) (by decide +kernel)
theorem sz_pl {p : Pl} (h : plOk p) : Sz 1 10 (plD p) := by
  cases p with
  | ins s => exact sz_two sz_in (sz_int (Nat.le_trans h (by decide)))
  | out ds => exact sz_two sz_out (sz_num h)
theorem sz_pls {pl : List Pl} (h : ∀ p ∈ pl, plOk p) (l : pl.length ≤ 7) : Sz 2 77 (.tuple (pl.map plD)) := (sz_tup (n := 1) (w := 10) (k := 7) (fun d m => by
  obtain ⟨p, mp, rfl⟩ := List.mem_map.mp m
  exact sz_pl (h p mp)) (by rw [List.length_map]; exact l)).mono (Nat.le_refl _) (by decide)
theorem sz_iD {ns : List Nat} (h : ∀ n ∈ ns, n ≤ 9) (l : ns.length ≤ 6) : Sz 1 30 (iD ns) := by
  unfold iD
  refine (sz_tup (n := 0) (w := 4) (k := 6) (fun d m => ?_) (by rw [List.length_map]; exact l)).mono (Nat.le_refl _) (by decide)
  obtain ⟨n, mn, rfl⟩ := List.mem_map.mp m
  exact sz_int (h n mn)
theorem sz_sd {r : Rm} {s : Sd} (ok : RmOk r) (so : SdOk r s) : Sz 3 160 (sdD s) := by
  have l6 := ok.st6
  have c6 := ok.cs6
  have pl := so.pl
  have gr := so.gr
  exact (sz_two (n := 2) (w := 77) (sz_pls so.ok (by omega)) ((sz_iD (fun n m => Nat.le_trans (so.g3 n m) (by decide)) (by omega)).mono (by decide) (by decide))).mono (Nat.le_refl _) (by decide)
/-- a whole table may be shown -/
theorem sz_table {ds : List PyData} (h : ∀ d ∈ ds, Sz 8 200 d) (l : ds.length ≤ 4000) : (PyData.list ds).showable = true ∧ (PyData.list ds).depth ≤ 60 ∧ (PyData.list ds).shown.length ≤ sizeLine := by
  have z := sz_lst h l
  exact ⟨z.sh, Nat.le_trans z.dp (by decide), PyData.shown_fits (B := 13) (by decide) (by decide) (PyData.leavesShort_of_canLay0 13 _ z.lay z.isn) (Nat.le_trans z.wt (by decide))⟩
end
end K59

namespace K59
open PySem L2 Wm TL Dv
section
variable {P : Program} {w : World} {K : PySem.W.Frag} {mg : Str → Option Value} {base : Heap}
/-- a place, a grade as the law may put it -/
def PlT (d : PyData) : Prop := PdOk d ∧ Sz 2 16 d
theorem dns_app {N : Addr → Prop} {H : Hp} : ∀ {vs us : List V} {ds es : List PyData}, Dz.Dns K N H vs ds → Dz.Dns K N H us es → Dz.Dns K N H (vs ++ us) (ds ++ es)
  | _, _, [], _, h, g => by cases h; exact g
  | _, _, d :: ds, _, h, g => by
    cases h with
    | cons a b => exact .cons a (dns_app b g)
theorem dns_set {N : Addr → Prop} {H : Hp} : ∀ {vs : List V} {ds : List PyData} {i : Nat} {v : V} {d : PyData}, Dz.Dns K N H vs ds → Dz.Dn K N H v d → Dz.Dns K N H (vs.set i v) (ds.set i d)
  | _, [], _, _, _, h, _ => by cases h; exact .nil
  | _, d :: ds, i, _, _, h, g => by
    cases h with
    | cons a b =>
      cases i with
      | zero => exact .cons g b
      | succ i => exact .cons a (dns_set b g)
def N5 (H : Hp) (lp lg : Addr) : Addr → Prop := fun z => (H z = none ∧ z ≠ sysModules) ∧ z ≠ lp ∧ z ≠ lg
/-- between two changes of _law_turned: the places' list, the grades' list -/
structure TMid (K : PySem.W.Frag) (H : Hp) (b lp lg : Addr) (cw ag mx : Nat) (A : Hp) : Prop where
  bk : Bk A b
  old : ∀ z o, z ≠ b → H z = some o → A z = some o
  pl : ∃ (xs : List V) (ps : List PyData), A lp = some (.lst xs) ∧ Dz.Dns K (N5 H lp lg) A xs ps ∧ (∀ p ∈ ps, PlT p) ∧ cw < ps.length ∧ ps.length ≤ mx
  gr : ∃ (ys : List V) (gs : List PyData), A lg = some (.lst ys) ∧ Dz.Dns K (N5 H lp lg) A ys gs ∧ (∀ g ∈ gs, Sz 1 4 g) ∧ ag < gs.length ∧ gs.length ≤ 6
section
variable {H A B : Hp} {b lp lg : Addr} {cw ag mx : Nat}
theorem n5_b (hb : Bk H b) {z : Addr} (n : N5 H lp lg z) : z ≠ b := fun e => by
  obtain ⟨_, _, h, _⟩ := hb
  have n := n.1.1
  rw [e, h] at n
  cases n
theorem bk_kt (hA : Bk A b) (u : Bu b A B) : Kt K A B := by
  obtain ⟨_, _, e, _⟩ := hA
  exact u.kt e (fun _ e => by cases e) (fun _ _ e => by cases e)
theorem TMid.step (hb : Bk H b) (h : TMid K H b lp lg cw ag mx A) (u : Bu b A B) (bB : Bk B b) (np : lp ≠ b) (ng : lg ≠ b) : TMid K H b lp lg cw ag mx B := by
  have k := bk_kt (K := K) h.bk u
  obtain ⟨xs, ps, a1, a2, a3⟩ := h.pl
  obtain ⟨ys, gs, c1, c2, c3⟩ := h.gr
  exact ⟨bB, fun z o n e => u _ _ n (h.old z o n e), ⟨xs, ps, u _ _ np a1, Dz.Dns.kk k (fun z _ n e => ⟨n, u _ _ (n5_b hb n) e⟩) _ _ a2, a3⟩, ⟨ys, gs, u _ _ ng c1, Dz.Dns.kk k (fun z _ n e => ⟨n, u _ _ (n5_b hb n) e⟩) _ _ c2, c3⟩⟩
theorem TMid.more (h : TMid K H b lp lg cw ag mx A) {my : Nat} (l : mx ≤ my) : TMid K H b lp lg cw ag my A := by
  obtain ⟨xs, ps, a1, a2, a3, a4, a5⟩ := h.pl
  exact ⟨h.bk, h.old, ⟨xs, ps, a1, a2, a3, a4, Nat.le_trans a5 l⟩, h.gr⟩
theorem TMid.ks (h : TMid K H b lp lg cw ag mx A) (s : Same A B) : TMid K H b lp lg cw ag mx B := by
  obtain ⟨xs, ps, a1, a2, a3⟩ := h.pl
  obtain ⟨ys, gs, c1, c2, c3⟩ := h.gr
  exact ⟨h.bk.k s, fun z o n e => s _ _ (h.old z o n e), ⟨xs, ps, s _ _ a1, a2.ks s, a3⟩, ⟨ys, gs, s _ _ c1, c2.ks s, c3⟩⟩
/-- one of the two lists is changed -/
theorem TMid.put (hb : Bk H b) (h : TMid K H b lp lg cw ag mx A) (np : lp ≠ b) (npg : lp ≠ lg) (hlp : H lp = none) {xs zs : List V} {ps : List PyData} (a1 : A lp = some (.lst xs)) (dz : Dz.Dns K (N5 H lp lg) A zs ps) (a3 : ∀ p ∈ ps, PlT p) (l1 : cw < ps.length) (l2 : ps.length ≤ mx) : TMid K H b lp lg cw ag mx (upd A lp (.lst zs)) := by
  have k : Kt K A (upd A lp (.lst zs)) := Kt.lst a1
  obtain ⟨x, y, e, c⟩ := h.bk
  obtain ⟨ys, gs, c1, c2, c3⟩ := h.gr
  have keep : ∀ z o, z ≠ lp → A z = some o → upd A lp (.lst zs) z = some o := fun z o n e => by rw [upd_ne n]; exact e
  exact ⟨⟨x, y, keep _ _ np.symm e, c⟩, fun z o n e => keep _ _ (fun w => by rw [w, hlp] at e; cases e) (h.old z o n e),
    ⟨zs, ps, upd_same, Dz.Dns.kk k (fun z _ n e => ⟨n, keep _ _ n.2.1 e⟩) _ _ dz, a3, l1, l2⟩, ⟨ys, gs, keep _ _ npg.symm c1, Dz.Dns.kk k (fun z _ n e => ⟨n, keep _ _ n.2.1 e⟩) _ _ c2, c3⟩⟩
theorem TMid.putg (hb : Bk H b) (h : TMid K H b lp lg cw ag mx A) (ng : lg ≠ b) (npg : lp ≠ lg) (hlg : H lg = none) {xs zs : List V} {gs : List PyData} (a1 : A lg = some (.lst xs)) (dz : Dz.Dns K (N5 H lp lg) A zs gs) (a3 : ∀ g ∈ gs, Sz 1 4 g) (l1 : ag < gs.length) (l2 : gs.length ≤ 6) : TMid K H b lp lg cw ag mx (upd A lg (.lst zs)) := by
  have k : Kt K A (upd A lg (.lst zs)) := Kt.lst a1
  obtain ⟨x, y, e, c⟩ := h.bk
  obtain ⟨ys, ps, c1, c2, c3⟩ := h.pl
  have keep : ∀ z o, z ≠ lg → A z = some o → upd A lg (.lst zs) z = some o := fun z o n e => by rw [upd_ne n]; exact e
  exact ⟨⟨x, y, keep _ _ ng.symm e, c⟩, fun z o n e => keep _ _ (fun w => by rw [w, hlg] at e; cases e) (h.old z o n e),
    ⟨ys, ps, keep _ _ npg c1, Dz.Dns.kk k (fun z _ n e => ⟨n, keep _ _ n.2.2 e⟩) _ _ c2, c3⟩, ⟨zs, gs, upd_same, Dz.Dns.kk k (fun z _ n e => ⟨n, keep _ _ n.2.2 e⟩) _ _ dz, a3, l1, l2⟩⟩
end
theorem pd_two (w : Str) {x : PyData} (l : x.canLay0 = true) (d : x.depth ≤ 60) : PdOk (.tuple [.str w, x]) := fun a b e => by
  cases e
  exact ⟨⟨w, rfl⟩, l, d⟩
theorem pd_not {d : PyData} (h : pairB d = false) : PdOk d := fun a b e => by
  rw [e] at h
  cases h
theorem plT_pl {p : Pl} (h : plOk p) : PlT (plD p) := by
  refine ⟨?_, (sz_pl h).mono (by decide) (by decide)⟩
  cases p with
  | ins s => exact pd_two _ (sz_int (Nat.le_trans h (by decide))).lay (Nat.zero_le _)
  | out ds => exact pd_two _ (sz_num h).lay (Nat.zero_le _)
theorem sz_two2 {a b : PyData} (x : Sz 3 119 a) (y : Sz 3 30 b) : Sz 8 200 (.tuple [a, b]) := by
  obtain ⟨b1, b2, _, b4, b5⟩ := sz_tup (n := 3) (w := 119) (k := 2) (ds := [a, b]) (fun d m => by
    simp only [List.mem_cons, List.not_mem_nil, or_false] at m
    rcases m with rfl | rfl
    · exact x
    · exact y.mono (Nat.le_refl _) (by decide)) (Nat.le_refl 2)
  refine ⟨b1, b2, ?_, b4, Nat.le_trans b5 (by decide)⟩
  have := x.wt
  have := y.wt
  simp only [PyData.weight, PyData.weightAll]
  omega
end
end K59

namespace K59
open PySem L2 Wm TL Dv
section
variable {P : Program} {w : World} {K : PySem.W.Frag} {mg : Str → Option Value} {base : Heap}
theorem dns_nV {N : Addr → Prop} {H : Hp} : ∀ ns : List Nat, Dz.Dns K N H (nV ns) (ns.map fun (n : Nat) => PyData.int (n : Int))
  | [] => .nil
  | n :: ns => .cons (.int _) (dns_nV ns)
def sp_turned (K : PySem.W.Frag) : Sp := fun vs H Q _ => ∃ (b a l : Addr) (v : V) (r : Rm) (s : Sd), vs = [.ref b, v, .ref a, .ref l] ∧ Bk H b ∧ Dt K H v (sdD s) ∧ SdOk r s ∧ RmOk r ∧ 1 ≤ r.cs.length ∧ H a = some (.lst (nV r.st)) ∧ LC K H l r.cs ∧ a ≠ b ∧ l ≠ b ∧
  ∀ H' v' d, Bu b H H' → Bk H' b → Dz.Dn K (fun q => H q = none ∧ q ≠ sysModules) H' v' d → ThOk d → Sz 8 200 d → Q v' H'
theorem ok_turned (T : Txt K mg) : FnOk P w K mg base CX0 3 T.a_turned T.d_turned ["_law_bag_here", "_law_standing", "_law_stations", "_law_cards_here"] (sp_turned K) := by
  refine T.F_turned.ok sc_turned (fun vs H Q E h => ?_) (fun cdv A outer s H vs Q E hr h => ?_)
  · obtain ⟨b, a, l, v, r, s, rfl, _⟩ := h
    rfl
  · obtain ⟨b, a, l, v, r, s, rfl, hb, dv, so, ok, c1, ha, hl, nab, nlb, k⟩ := h
    obtain ⟨q, x, y, rfl, hq, dx, dy⟩ := dt_two dv
    obtain ⟨q1, xs, rfl, h1, dxs⟩ := dx.inv
    obtain ⟨q2, rfl, h2⟩ := dt_ints dy
    refine ⟨_, (pss_cons (ps_par3 (i := 4) (j := 5) (l := 6) rfl sc_turned.nd rfl rfl rfl (by decide) (by decide) (by decide) rfl rfl rfl (pa_cons (pe_callTy Dz.call_listZ (by rfl) T.z_list (by decide +kernel) (pa_cons (pe_ix ix_tup (pv 1) pe_int (fun _ _ => rfl)) pa_nil)) (pa_cons (pe_callTy Dz.call_listZ (by rfl) T.z_list (by decide +kernel) (pa_cons (pe_ix ix_tup (pv 1) pe_int (fun _ _ => rfl)) pa_nil)) (pa_cons (pe_call (ok_take T) (hr.mono (by decide)) (by rfl) T.g_take T.F_take.kp T.b_take .nil pass0 (pa_cons (pv 0) (pa_cons pe_int pa_nil))) pa_nil))) rfl)
      (pss_cons (ps_par (i := 7) (j := 8) rfl sc_turned.nd rfl rfl (by decide) rfl rfl (pa_cons (pe_call (ok_take T) (hr.mono (by decide)) (by rfl) T.g_take T.F_take.kp T.b_take .nil pass0 (pa_cons (pv 0) (pa_cons (pe_callB call_len_seq (by rfl) T.z_len PySem.boot_len (pa_cons (pv 4) pa_nil)) pa_nil))) (pa_cons (pe_call (ok_take T) (hr.mono (by decide)) (by rfl) T.g_take T.F_take.kp T.b_take .nil pass0 (pa_cons (pv 0) (pa_cons (pe_callB call_len_seq (by rfl) T.z_len PySem.boot_len (pa_cons (pv 3) pa_nil)) pa_nil))) pa_nil)) rfl)
      (pss_cons (ps_set (i := 9) sc_turned.nd rfl (Or.inl rfl) (pe_lst (pa_cons (pe_tup (pa_cons pe_str (pa_cons (pe_call (ok_take T) (hr.mono (by decide)) (by rfl) T.g_take T.F_take.kp T.b_take .nil pass0 (pa_cons (pv 0) (pa_cons pe_int pa_nil))) pa_nil))) (pa_cons (pe_tup (pa_cons pe_str (pa_cons (pe_ix ix_tup (pe_call (ok_of T) (hr.mono (by decide)) (by rfl) T.g_of T.F_of.kp T.b_of .nil pass0 (pa_cons (pv 0) (pa_cons (pv 3) pa_nil))) pe_int (fun _ _ => rfl)) pa_nil))) (pa_cons (pe_tup (pa_cons pe_str (pa_cons pe_bl pa_nil))) (pa_cons (pe_tup (pa_cons pe_str (pa_cons pe_int pa_nil))) (pa_cons (pe_tup (pa_cons pe_str pa_nil)) (pa_cons pe_non (pa_cons (Dz.pe_lstZ (pa_cons pe_str (pa_cons pe_int pa_nil))) pa_nil)))))))))
      (C8.pss_cut (ps_if (pt_cmpR op_le (pv 6) pe_int (nomark _))
        (pss_one (ps_asg (pe_call (ok_of T) (hr.mono (by decide)) (by rfl) T.g_of T.F_of.kp T.b_of .nil pass0 (pa_cons (pv 0) (pa_cons (pe_ifExp (pt_cmpR op_eq (pv 6) pe_int (nomark _)) (pe_slice sl_list (pv 9) po_none (po_some pe_int)) (pv 9)) pa_nil))) (pg_sub (pv 4) (pv 7) set_list)))
        pss_nil)
      (C8.pss_cut (ps_if (PW.pt (pw_and (pt_cmpR op_le (pv 6) pe_int (nomark _)) (pw_and1 (pt_cmpR op_gt (pv 6) pe_int (nomark _)))))
        (pss_one (ps_asg (pe_call (ok_of T) (hr.mono (by decide)) (by rfl) T.g_of T.F_of.kp T.b_of .nil pass0 (pa_cons (pv 0) (pa_cons (pe_ifExp (pt_cmpR op_eq (pv 6) pe_int (nomark _)) (pe_lst (pa_cons pe_int (pa_cons pe_int (pa_cons pe_int (pa_cons pe_int pa_nil))))) (pe_lst (pa_cons (pe_un un_neg pe_int) (pa_cons pe_int (pa_cons pe_bl (pa_cons pe_non (pa_cons pe_str (pa_cons pe_bl pa_nil)))))))) pa_nil))) (pg_sub (pv 5) (pv 8) set_list)))
        pss_nil)
      (C8.pss_cut (ps_if (pt_cmpR op_eq (pv 6) pe_int (nomark _))
        (pss_one (ps_expr (pe_bm PySem.F.plainAttrs_list PySem.F.slot_list_append PySem.F.type_list_append mt_append (pv 4) (pa_cons (pe_tup (pa_cons pe_str (pa_cons (pe_ix ix_list (pv 2) pe_int (fun _ _ => rfl)) pa_nil))) pa_nil))))
        pss_nil)
      (pss_cons (ps_if (pt_cmpR op_eq (pv 6) pe_int (nomark _))
        (pss_one (ps_ret (pe_call (ok_of T) (hr.mono (by decide)) (by rfl) T.g_of T.F_of.kp T.b_of .nil pass0 (pa_cons (pv 0) (pa_cons (pe_lst (pa_cons (pe_callTy Dz.call_listZ (by rfl) T.z_list (by decide +kernel) (pa_cons (pv 1) pa_nil)) (pa_cons (pe_tup (pa_cons (pv 4) (pa_cons (pe_callTy call_tuple_of (by rfl) T.z_tuple (by decide +kernel) (pa_cons (pv 5) pa_nil)) pa_nil))) (pa_cons (pe_tup (pa_cons (pe_callTy call_tuple_of (by rfl) T.z_tuple (by decide +kernel) (pa_cons (pv 4) pa_nil)) pa_nil)) (pa_cons (pe_tup (pa_cons (pe_callTy call_tuple_of (by rfl) T.z_tuple (by decide +kernel) (pa_cons (pv 4) pa_nil)) (pa_cons (pv 5) pa_nil))) pa_nil))))) pa_nil)))))
        pss_nil)
      (pss_one (ps_ret (pe_tup (pa_cons (pe_callTy call_tuple_of (by rfl) T.z_tuple (by decide +kernel) (pa_cons (pv 4) pa_nil)) (pa_cons (pe_callTy call_tuple_of (by rfl) T.z_tuple (by decide +kernel) (pa_cons (pv 5) pa_nil)) pa_nil)))))))))))), ?_⟩
    refine ⟨_, rfl, q, _, 0, _, rfl, rfl, hq, atI_nat (j := 0) rfl, q1, xs, rfl, .inr h1, fun lp nlp hlp => ?_⟩
    have s1 := same_new (o := .lst xs) hlp
    have hl1 : upd H lp (.lst xs) lp = some (.lst xs) := upd_same
    generalize upd H lp (.lst xs) = H1 at s1 hl1 ⊢
    refine ⟨_, rfl, q, _, 1, _, rfl, rfl, sameT s1 hq, atI_nat (j := 1) rfl, q2, _, rfl, .inr (sameT s1 h2), fun lg nlg hlg => ?_⟩
    have s2 := same_new (o := .lst (nV s.gr)) hlg
    have hg2 : upd H1 lg (.lst (nV s.gr)) lg = some (.lst (nV s.gr)) := upd_same
    have hl2 := s2 _ _ hl1
    have hgH := none_of s1 hlg
    have s12 := s1.trans s2
    generalize upd H1 lg (.lst (nV s.gr)) = H2 at s2 s12 hg2 hl2 ⊢
    have nlpb : lp ≠ b := hb.off hlp
    have nlgb : lg ≠ b := hb.off hgH
    have nlpg : lp ≠ lg := fun z => by rw [z] at hl1; rw [hl1] at hlg; cases hlg
    obtain ⟨cvs, hlc, dcs⟩ := id hl
    have lcv := dcs.len
    rw [List.length_map] at lcv
    have lxs := dxs.len
    rw [List.length_map] at lxs
    have lpl := so.pl
    have t1 := ok.st1
    have t6 := ok.st6
    have c6 := ok.cs6
    refine ⟨_, rfl, b, 6, rfl, hb.k s12, by decide, by decide, fun H3 wy w6 u3 b3 => ⟨_, _, _, rfl, ?_⟩⟩
    have hl3 := u3 _ _ nlpb hl2
    have hg3 := u3 _ _ nlgb hg2
    have hlc3 := u3 _ _ nlb (s12 _ _ hlc)
    refine ⟨_, rfl, _, rfl, lp, xs, rfl, .inl (SqL.of hl3), b, xs.length, rfl, b3, by omega, by omega, fun H4 cw cwl u4 b4 => ?_⟩
    refine ⟨_, rfl, _, rfl, l, cvs, rfl, .inl (SqL.of (u4 _ _ nlb hlc3)), b, cvs.length, rfl, b4, by omega, by omega, fun H5 at5 atl u5 b5 => ⟨_, _, rfl, ?_⟩⟩
    have u25 : Bu b H2 H5 := (u3.trans u4).trans u5
    have hl5 := u25 _ _ nlpb hl2
    have hg5 := u25 _ _ nlgb hg2
    have hlc5 := u25 _ _ nlb (s12 _ _ hlc)
    clear u3 u4 u5 b3 b4 hl3 hg3 hlc3
    refine ⟨_, rfl, b, 9, rfl, b5, by decide, by decide, fun H6 n9 n9l u6 b6 => ⟨by show 2 ≤ sizeLine; decide, fun p1 hp1 => ?_⟩⟩
    have hbn : ∀ {z}, H z = none → z ≠ b := fun h z => by
      obtain ⟨_, _, e, _⟩ := hb
      rw [z, e] at h
      cases h
    have ktb : ∀ {A B : Hp}, Bk A b → Bu b A B → Kt K A B := fun hA u => by
      obtain ⟨_, _, e, _⟩ := hA
      exact u.kt e (fun _ e => by cases e) (fun _ _ e => by cases e)
    have dnb : ∀ {A B : Hp} {v : V} {d : PyData}, Bk A b → Bu b A B → Dz.Dn K (N5 H lp lg) A v d → Dz.Dn K (N5 H lp lg) B v d := fun hA u h => Dz.Dn.kk (ktb hA u) (fun z _ n e => ⟨n, u _ _ (hbn n.1.1) e⟩) _ _ h
    have s6 := same_new (o := .tup [.str "in", .int (n9 : Nat)]) hp1
    have e1 : Dz.Dn K (N5 H lp lg) (upd H6 p1 (.tup [.str "in", .int (n9 : Nat)])) (.ref p1) (plD (.ins n9)) := .tup (SqT.of upd_same) (.cons (.str _) (.cons (.int _) .nil))
    generalize upd H6 p1 (.tup [.str "in", .int (n9 : Nat)]) = H6' at s6 e1 ⊢
    have b6' := b6.k s6
    have hlc6 := s6 _ _ (u6 _ _ nlb hlc5)
    have lcne : cvs ≠ [] := fun z => by rw [z] at lcv; simp at lcv; omega
    refine ⟨_, rfl, _, rfl, b, l, cvs, rfl, b6', nlb, hlc6, lcne, by omega, fun H7 cv hcv u7 b7 => ?_⟩
    have e1 := dnb b6' u7 e1
    have u07 : Bu b H H7 := (Bu.of s12).trans (u25.trans (u6.trans ((Bu.of s6).trans u7)))
    have u27 : Bu b H2 H7 := u25.trans (u6.trans ((Bu.of s6).trans u7))
    obtain ⟨j, hj⟩ := List.mem_iff_getElem?.mp hcv
    obtain ⟨d0, ed, dc⟩ := dcs.at hj
    rw [List.getElem?_map] at ed
    obtain ⟨c, ec, rfl⟩ := Option.map_eq_some_iff.mp ed
    have Nc := (ok.ok c (List.mem_of_getElem? ec)).num
    obtain ⟨qc, v1, v2, v3, v4, rfl, hqc, _⟩ := cd_five (dc.k (ktb hb u07))
    refine ⟨qc, _, 0, _, rfl, rfl, hqc, atI_nat (j := 0) rfl, by show 2 ≤ sizeLine; decide, fun p2 hp2 => ?_⟩
    have s7 := same_new (o := .tup [.str "out", .str (numS c.ds)]) hp2
    have e1 := e1.ks s7
    have e2 : Dz.Dn K (N5 H lp lg) (upd H7 p2 (.tup [.str "out", .str (numS c.ds)])) (.ref p2) (plD (.out c.ds)) := .tup (SqT.of upd_same) (.cons (.str _) (.cons (.str _) .nil))
    generalize upd H7 p2 (.tup [.str "out", .str (numS c.ds)]) = H8 at s7 e1 e2 ⊢
    refine ⟨by show 2 ≤ sizeLine; decide, fun p3 hp3 => ?_⟩
    have s8 := same_new (o := .tup [.str "in", .bl true]) hp3
    have e1 := e1.ks s8
    have e2 := e2.ks s8
    have e3 : Dz.Dn K (N5 H lp lg) (upd H8 p3 (.tup [.str "in", .bl true])) (.ref p3) (.tuple [.str "in", .bool true]) := .tup (SqT.of upd_same) (.cons (.str _) (.cons (.bl _) .nil))
    generalize upd H8 p3 (.tup [.str "in", .bl true]) = H9 at s8 e1 e2 e3 ⊢
    refine ⟨by show 2 ≤ sizeLine; decide, fun p4 hp4 => ?_⟩
    have s9 := same_new (o := .tup [.str "out", .int 1]) hp4
    have e1 := e1.ks s9
    have e2 := e2.ks s9
    have e3 := e3.ks s9
    have e4 : Dz.Dn K (N5 H lp lg) (upd H9 p4 (.tup [.str "out", .int 1])) (.ref p4) (.tuple [.str "out", .int 1]) := .tup (SqT.of upd_same) (.cons (.str _) (.cons (.int _) .nil))
    generalize upd H9 p4 (.tup [.str "out", .int 1]) = H10 at s9 e1 e2 e3 e4 ⊢
    refine ⟨by show 1 ≤ sizeLine; decide, fun p5 hp5 => ?_⟩
    have s10 := same_new (o := .tup [.str "in"]) hp5
    have e1 := e1.ks s10
    have e2 := e2.ks s10
    have e3 := e3.ks s10
    have e4 := e4.ks s10
    have e5 : Dz.Dn K (N5 H lp lg) (upd H10 p5 (.tup [.str "in"])) (.ref p5) (.tuple [.str "in"]) := .tup (SqT.of upd_same) (.cons (.str _) .nil)
    generalize upd H10 p5 (.tup [.str "in"]) = H11 at s10 e1 e2 e3 e4 e5 ⊢
    have u2b : Bu b H2 H11 := u27.trans (Bu.of (((s7.trans s8).trans s9).trans s10))
    have u0b : Bu b H H11 := (Bu.of s12).trans u2b
    have hl11 := u2b _ _ nlpb hl2
    have hg11 := u2b _ _ nlgb hg2
    have b11 := b7.k (((s7.trans s8).trans s9).trans s10)
    refine ⟨by show 2 ≤ sizeLine; decide, fun p7 np7 hp7 => ?_⟩
    have n7b : p7 ≠ b := fun z => by
      obtain ⟨_, _, e, _⟩ := b11
      rw [z, e] at hp7
      cases hp7
    have n7H : H p7 = none := by
      cases q0 : H p7 with
      | none => rfl
      | some o =>
        rw [u0b _ _ n7b q0] at hp7
        cases hp7
    have n7p : p7 ≠ lp := fun z => by
      rw [z, hl11] at hp7
      cases hp7
    have n7g : p7 ≠ lg := fun z => by
      rw [z, hg11] at hp7
      cases hp7
    have n7 : N5 H lp lg p7 := ⟨⟨n7H, np7⟩, n7p, n7g⟩
    have s11 := same_new (o := .lst [.str "in", .int 0]) hp7
    have e1 := e1.ks s11
    have e2 := e2.ks s11
    have e3 := e3.ks s11
    have e4 := e4.ks s11
    have e5 := e5.ks s11
    have e7 : Dz.Dn K (N5 H lp lg) (upd H11 p7 (.lst [.str "in", .int 0])) (.ref p7) (.list [.str "in", .int 0]) := .lst n7 upd_same (.cons (.str _) (.cons (.int _) .nil))
    generalize upd H11 p7 (.lst [.str "in", .int 0]) = H12 at s11 e1 e2 e3 e4 e5 e7 ⊢
    refine ⟨by show 7 ≤ sizeLine; decide, fun L hL => ?_⟩
    have sL := same_new (o := .lst [.ref p1, .ref p2, .ref p3, .ref p4, .ref p5, .non, .ref p7]) hL
    have hodd : ∀ v ∈ [V.ref p1, .ref p2, .ref p3, .ref p4, .ref p5, .non, .ref p7], ∃ d, Dz.Dn K (N5 H lp lg) (upd H12 L (.lst [.ref p1, .ref p2, .ref p3, .ref p4, .ref p5, .non, .ref p7])) v d ∧ PlT d := fun v hv => by
      have e1 := e1.ks sL
      have e2 := e2.ks sL
      have e3 := e3.ks sL
      have e4 := e4.ks sL
      have e5 := e5.ks sL
      have e7 := e7.ks sL
      simp only [List.mem_cons, List.not_mem_nil, or_false] at hv
      rcases hv with rfl | rfl | rfl | rfl | rfl | rfl | rfl
      · exact ⟨_, e1, plT_pl (p := .ins n9) (by show n9 ≤ 8; omega)⟩
      · exact ⟨_, e2, plT_pl (p := .out c.ds) Nc⟩
      · exact ⟨_, e3, pd_two _ (sz_of (sh_bool true)).lay (Nat.zero_le _), (sz_two sz_in ((sz_of (sh_bool true)).mono (Nat.le_refl _) (by decide))).mono (by decide) (by decide)⟩
      · exact ⟨_, e4, pd_two _ (sz_int (i := 1) (by decide)).lay (Nat.zero_le _), (sz_two sz_out (sz_int (i := 1) (by decide))).mono (by decide) (by decide)⟩
      · exact ⟨_, e5, pd_not rfl, (sz_tup (n := 0) (w := 4) (k := 1) (fun d m => by rw [List.mem_singleton.mp m]; exact sz_in) (Nat.le_refl _)).mono (by decide) (by decide)⟩
      · exact ⟨_, .non, pd_not rfl, (sz_of sh_none).mono (by decide) (by decide)⟩
      · exact ⟨_, e7, pd_not rfl, (sz_lst (n := 0) (w := 4) (k := 2) (fun d m => by
          simp only [List.mem_cons, List.not_mem_nil, or_false] at m
          rcases m with rfl | rfl
          · exact sz_in
          · exact sz_int (i := 0) (by decide)) (Nat.le_refl _)).mono (by decide) (by decide)⟩
    have hL13 : upd H12 L (.lst [.ref p1, .ref p2, .ref p3, .ref p4, .ref p5, .non, .ref p7]) L = some (.lst [.ref p1, .ref p2, .ref p3, .ref p4, .ref p5, .non, .ref p7]) := upd_same
    clear e1 e2 e3 e4 e5 e7
    have uL : Bu b H2 (upd H12 L (.lst [.ref p1, .ref p2, .ref p3, .ref p4, .ref p5, .non, .ref p7])) := u2b.trans (Bu.of (s11.trans sL))
    have bL := b11.k (s11.trans sL)
    have nLp : L ≠ lp := fun z => by
      have := s11 _ _ hl11
      rw [z, this] at hL
      cases hL
    have nLg : L ≠ lg := fun z => by
      have := s11 _ _ hg11
      rw [z, this] at hL
      cases hL
    have nLb : L ≠ b := (b11.k s11).off hL
    generalize upd H12 L (.lst [.ref p1, .ref p2, .ref p3, .ref p4, .ref p5, .non, .ref p7]) = H13 at sL hodd hL13 uL bL ⊢
    have u0 : Bu b H H13 := (Bu.of s12).trans uL
    have M0 : TMid K H b lp lg cw at5 6 H13 := by
      refine ⟨bL, fun z o n e => u0 _ _ n e, ⟨xs, _, uL _ _ nlpb hl2, Dz.Dns.ofDts _ _ (dxs.k (ktb hb u0)), fun p hp => ?_, ?_, ?_⟩, ⟨_, _, uL _ _ nlgb hg2, dns_nV s.gr, fun g hg => ?_, ?_, ?_⟩⟩
      · obtain ⟨p', hp', rfl⟩ := List.mem_map.mp hp
        exact plT_pl (so.ok p' hp')
      · rw [List.length_map]; omega
      · rw [List.length_map]; omega
      · obtain ⟨n, hn, rfl⟩ := List.mem_map.mp hg
        exact (sz_int (Nat.le_trans (so.g3 n hn) (by decide))).mono (by decide) (Nat.le_refl _)
      · rw [List.length_map, so.gr]; omega
      · rw [List.length_map, so.gr]; omega
    refine ⟨fun σ' Z => σ' = [some (.ref b), some (.ref q), some (.ref a), some (.ref l), some (.ref lp), some (.ref lg), some (.int (wy : Nat)), some (.int (cw : Nat)), some (.int (at5 : Nat)), some (.ref L)] ∧ TMid K H b lp lg cw at5 6 Z, ?_, ?_⟩
    · refine ⟨_, rfl, _, _, rfl, rfl, _, rfl, ite2 (fun c1 => ?_) (fun c1 => ⟨rfl, M0⟩)⟩
      have store : ∀ (Z : Hp) (v : V) (d : PyData), TMid K H b lp lg cw at5 6 Z → Dz.Dn K (N5 H lp lg) Z v d → PlT d → ∃ zs, Z lp = some (.lst zs) ∧ ixN zs.length ((cw : Nat) : Int) = some cw ∧ TMid K H b lp lg cw at5 6 (upd Z lp (.lst (zs.set cw v))) := fun Z v d M dv pd => by
        obtain ⟨zs, ps, a1, a2, a3, a4, a5⟩ := M.pl
        have lz := a2.len
        refine ⟨zs, a1, ixN_nat (by omega), M.put hb nlpb nlpg hlp a1 (dns_set a2 dv) (fun p hp => ?_) (by rw [List.length_set]; exact a4) (by rw [List.length_set]; exact a5)⟩
        rcases List.mem_or_eq_of_mem_set hp with h | h
        · exact a3 p h
        · rw [h]
          exact pd
      refine ⟨_, rfl, _, rfl, rfl, _, rfl, ite2 (fun c0 => ?_) (fun c0 => ?_)⟩
      · refine ⟨_, rfl, _, rfl, L, _, rfl, SqL.of hL13, fun p hp => ?_⟩
        have sp := same_new (o := .lst [V.ref p1, .ref p2]) hp
        refine ⟨b, p, [V.ref p1, .ref p2], rfl, bL.k sp, bL.off hp, upd_same, by simp, by simp, fun H14 v hv u14 b14 => ?_⟩
        obtain ⟨d, dv, pd⟩ := hodd v (by
          simp only [List.mem_cons, List.not_mem_nil, or_false] at hv ⊢
          rcases hv with rfl | rfl
          · exact .inl rfl
          · exact .inr (.inl rfl))
        have M2 := TMid.step hb (M0.ks sp) u14 b14 nlpb nlgb
        obtain ⟨zs, a1, a2, a3⟩ := store H14 v d M2 (dnb (bL.k sp) u14 (dv.ks sp)) pd
        exact ⟨_, rfl, _, rfl, lp, zs, _, cw, rfl, rfl, a1, a2, rfl, a3⟩
      · refine ⟨_, rfl, b, L, _, rfl, bL, nLb, hL13, by simp, by simp, fun H14 v hv u14 b14 => ?_⟩
        obtain ⟨d, dv, pd⟩ := hodd v hv
        have M2 := TMid.step hb M0 u14 b14 nlpb nlgb
        obtain ⟨zs, a1, a2, a3⟩ := store H14 v d M2 (dnb bL u14 dv) pd
        exact ⟨_, rfl, _, rfl, lp, zs, _, cw, rfl, rfl, a1, a2, rfl, a3⟩
    · rintro σ' Z ⟨rfl, M1⟩
      clear hodd hL13 uL bL M0 u0 sL
      have storeg : ∀ (Z : Hp) (v : V) (d : PyData), TMid K H b lp lg cw at5 6 Z → Dz.Dn K (N5 H lp lg) Z v d → Sz 1 4 d → ∃ zs, Z lg = some (.lst zs) ∧ ixN zs.length ((at5 : Nat) : Int) = some at5 ∧ TMid K H b lp lg cw at5 6 (upd Z lg (.lst (zs.set at5 v))) := fun Z v d M dv pd => by
        obtain ⟨zs, gs, a1, a2, a3, a4, a5⟩ := M.gr
        have lz := a2.len
        refine ⟨zs, a1, ixN_nat (by omega), M.putg hb nlgb nlpg hgH a1 (dns_set a2 dv) (fun p hp => ?_) (by rw [List.length_set]; exact a4) (by rw [List.length_set]; exact a5)⟩
        rcases List.mem_or_eq_of_mem_set hp with h | h
        · exact a3 p h
        · rw [h]
          exact pd
      refine ⟨fun σ' Z => σ' = [some (.ref b), some (.ref q), some (.ref a), some (.ref l), some (.ref lp), some (.ref lg), some (.int (wy : Nat)), some (.int (cw : Nat)), some (.int (at5 : Nat)), some (.ref L)] ∧ TMid K H b lp lg cw at5 6 Z, ?_, ?_⟩
      · refine ⟨_, rfl, _, _, rfl, rfl, _, rfl, ite2 (fun d1 => ⟨_, rfl, _, _, rfl, rfl, _, rfl, ite2 (fun d2 => ?_) (fun d2 => ⟨rfl, M1⟩)⟩) (fun d1 => ⟨rfl, M1⟩)⟩
        refine ⟨_, rfl, _, rfl, rfl, _, rfl, ite2 (fun c0 => ?_) (fun c0 => ?_)⟩
        · refine ⟨by show 4 ≤ sizeLine; decide, fun p hp => ?_⟩
          have sp := same_new (o := .lst [.int 0, .int 1, .int 2, .int 3]) hp
          refine ⟨b, p, _, rfl, M1.bk.k sp, M1.bk.off hp, upd_same, by simp, by simp, fun H14 v hv u14 b14 => ?_⟩
          have M2 := TMid.step hb (M1.ks sp) u14 b14 nlpb nlgb
          have dv : ∃ d, Dz.Dn K (N5 H lp lg) H14 v d ∧ Sz 1 4 d := by
            simp only [List.mem_cons, List.not_mem_nil, or_false] at hv
            rcases hv with rfl | rfl | rfl | rfl
            · exact ⟨_, .int _, (sz_int (i := 0) (by decide)).mono (by decide) (Nat.le_refl _)⟩
            · exact ⟨_, .int _, (sz_int (i := 1) (by decide)).mono (by decide) (Nat.le_refl _)⟩
            · exact ⟨_, .int _, (sz_int (i := 2) (by decide)).mono (by decide) (Nat.le_refl _)⟩
            · exact ⟨_, .int _, (sz_int (i := 3) (by decide)).mono (by decide) (Nat.le_refl _)⟩
          obtain ⟨d, dv, pd⟩ := dv
          obtain ⟨zs, a1, a2, a3⟩ := storeg H14 v d M2 dv pd
          exact ⟨_, rfl, _, rfl, lg, zs, _, at5, rfl, rfl, a1, a2, rfl, a3⟩
        · refine ⟨_, rfl, by show 6 ≤ sizeLine; decide, fun p hp => ?_⟩
          have sp := same_new (o := .lst [.int (-1), .int 4, .bl true, .non, .str "1", .bl false]) hp
          refine ⟨b, p, _, rfl, M1.bk.k sp, M1.bk.off hp, upd_same, by simp, by simp, fun H14 v hv u14 b14 => ?_⟩
          have M2 := TMid.step hb (M1.ks sp) u14 b14 nlpb nlgb
          have dv : ∃ d, Dz.Dn K (N5 H lp lg) H14 v d ∧ Sz 1 4 d := by
            simp only [List.mem_cons, List.not_mem_nil, or_false] at hv
            rcases hv with rfl | rfl | rfl | rfl | rfl | rfl
            · exact ⟨_, .int _, sz_w ((sh_int (i := -1) (by decide)).mono (by decide) (Nat.le_refl _)) (by decide +kernel)⟩
            · exact ⟨_, .int _, (sz_int (i := 4) (by decide)).mono (by decide) (Nat.le_refl _)⟩
            · exact ⟨_, .bl _, (sz_of (sh_bool true)).mono (by decide) (by decide)⟩
            · exact ⟨_, .non, (sz_of sh_none).mono (by decide) (by decide)⟩
            · exact ⟨_, .str _, sz_w ((sh_str (t := "1") ⟨by decide +kernel, by decide +kernel⟩).mono (by decide) (Nat.le_refl _)) (by decide +kernel)⟩
            · exact ⟨_, .bl _, (sz_of (sh_bool false)).mono (by decide) (by decide)⟩
          obtain ⟨d, dv, pd⟩ := dv
          obtain ⟨zs, a1, a2, a3⟩ := storeg H14 v d M2 dv pd
          exact ⟨_, rfl, _, rfl, lg, zs, _, at5, rfl, rfl, a1, a2, rfl, a3⟩
      clear M1 storeg
      rintro σ' Z ⟨rfl, M1⟩
      refine ⟨fun σ' Z => σ' = [some (.ref b), some (.ref q), some (.ref a), some (.ref l), some (.ref lp), some (.ref lg), some (.int (wy : Nat)), some (.int (cw : Nat)), some (.int (at5 : Nat)), some (.ref L)] ∧ TMid K H b lp lg cw at5 7 Z, ?_, ?_⟩
      · refine ⟨_, rfl, rfl, _, rfl, ite2 (fun d1 => ?_) (fun d1 => ⟨rfl, M1.more (by decide)⟩)⟩
        obtain ⟨zs, ps, a1, a2, a3, a4, a5⟩ := M1.pl
        have lz := a2.len
        obtain ⟨n0, r1, est⟩ : ∃ n0 r1, r.st = n0 :: r1 := by
          cases h : r.st with
          | nil => rw [h] at t1; simp at t1
          | cons n0 r1 => exact ⟨n0, r1, rfl⟩
        have hn0 : (nV r.st)[0]? = some (.int (n0 : Nat)) := by rw [est]; rfl
        have n8 := ok.st8 n0 (by rw [est]; exact List.mem_cons_self)
        have ha1 := M1.old _ _ nab ha
        refine ⟨_, rfl, .inl ⟨rfl, _, SqL.of a1⟩, _, rfl, a, _, 0, _, rfl, rfl, SqL.of ha1, atI_nat (j := 0) hn0, by show 2 ≤ sizeLine; decide, fun p hp => ?_⟩
        have sp := same_new (o := .tup [.str "in", .int (n0 : Nat)]) hp
        have dv : Dz.Dn K (N5 H lp lg) (upd Z p (.tup [.str "in", .int (n0 : Nat)])) (.ref p) (plD (.ins n0)) := .tup (SqT.of upd_same) (.cons (.str _) (.cons (.int _) .nil))
        refine ⟨lp, zs, _, rfl, rfl, sp _ _ a1, small1000 (by omega), rfl, ?_⟩
        refine TMid.put hb ((M1.ks sp).more (by decide)) nlpb nlpg hlp (sp _ _ a1) (dns_app (a2.ks sp) (.cons dv .nil)) (fun x hx => ?_) (by rw [List.length_append]; omega) (by rw [List.length_append, List.length_singleton]; omega)
        rcases List.mem_append.mp hx with h | h
        · exact a3 x h
        · rw [List.mem_singleton.mp h]
          exact plT_pl (p := .ins n0) n8
      clear M1
      rintro σ' Z ⟨rfl, M1⟩
      obtain ⟨zs, ps, a1, a2, a3, a4, a5⟩ := M1.pl
      obtain ⟨ys, gs, g1, g2, g3, g4, g5⟩ := M1.gr
      have old : ∀ {W : Hp}, Same Z W → Bu b H W := fun s z o n e => s _ _ (M1.old z o n e)
      have wk : ∀ {W : Hp} {vs : List V} {ds : List PyData}, Same Z W → Dz.Dns K (N5 H lp lg) Z vs ds → Dz.Dns K (fun z => H z = none ∧ z ≠ sysModules) W vs ds := fun s h => Dz.Dns.kk (Kt.same s) (fun z _ n e => ⟨n.1, s _ _ e⟩) _ _ h
      have zp : Sz 3 119 (.tuple ps) := (sz_tup (n := 2) (w := 16) (k := 7) (fun p hp => (a3 p hp).2) a5)
      have zpl : Sz 3 119 (.list ps) := (sz_lst (n := 2) (w := 16) (k := 7) (fun p hp => (a3 p hp).2) a5)
      have zg : Sz 3 30 (.tuple gs) := (sz_tup (n := 1) (w := 4) (k := 6) g3 g5).mono (by decide) (Nat.le_refl _)
      have zgl : Sz 3 30 (.list gs) := (sz_lst (n := 1) (w := 4) (k := 6) g3 g5).mono (by decide) (Nat.le_refl _)
      have nbZ : ∀ {z}, Z z = none → z ≠ b := fun h => M1.bk.off h
      refine ⟨_, rfl, rfl, _, rfl, ite2 (fun d1 => ?_) (fun d1 => ?_)⟩
      · have kt : Kt K H Z := bk_kt hb M1.old
        have hnew : ∀ {W : Hp} {z : Addr}, Same Z W → W z = none → H z = none := fun {W z} s h => by
          cases q0 : H z with
          | none => rfl
          | some o =>
            have nb : z ≠ b := (M1.bk.k s).off h
            rw [s _ _ (M1.old _ _ nb q0)] at h
            cases h
        refine ⟨_, rfl, _, rfl, q, _, rfl, .inr (kt _ _ hq), fun l1 nl1 hl1 => ?_⟩
        have st1 := same_new (o := .lst [.ref q1, .ref q2]) hl1
        have i1 : Dz.Dn K (fun z => H z = none ∧ z ≠ sysModules) (upd Z l1 (.lst [.ref q1, .ref q2])) (.ref l1) (.list [.tuple (s.pl.map plD), iD s.gr]) :=
          .lst ⟨hnew (Same.refl _) hl1, nl1⟩ upd_same (.cons (Dz.Dn.ofDt _ _ ((dx.k kt).ks st1)) (.cons (Dz.Dn.ofDt _ _ ((dy.k kt).ks st1)) .nil))
        generalize upd Z l1 (.lst [.ref q1, .ref q2]) = Z1 at st1 i1 ⊢
        refine ⟨_, rfl, _, rfl, lg, ys, rfl, .inl ⟨SqL.of (st1 _ _ g1), fun t2' ht2 => ?_⟩⟩
        have st2 := same_new (o := .tup ys) ht2
        have f2 : SqT K (upd Z1 t2' (.tup ys)) t2' ys := SqT.of upd_same
        have i1 := i1.ks st2
        have st12 := st1.trans st2
        generalize upd Z1 t2' (.tup ys) = Z2 at st12 f2 i1 ⊢
        refine ⟨by show 2 ≤ sizeLine; decide, fun u2 hu2 => ?_⟩
        have st3 := same_new (o := .tup [.ref lp, .ref t2']) hu2
        have st13 := st12.trans st3
        have i1 := i1.ks st3
        have i2 : Dz.Dn K (fun z => H z = none ∧ z ≠ sysModules) (upd Z2 u2 (.tup [.ref lp, .ref t2'])) (.ref u2) (.tuple [.list ps, .tuple gs]) :=
          .tup (SqT.of upd_same) (.cons (.lst ⟨hlp, nlp⟩ (st13 _ _ a1) (wk st13 a2)) (.cons (.tup (sameT st3 f2) (wk st13 g2)) .nil))
        generalize upd Z2 u2 (.tup [.ref lp, .ref t2']) = Z3 at st13 i1 i2 ⊢
        refine ⟨_, rfl, lp, zs, rfl, .inl ⟨SqL.of (st13 _ _ a1), fun t3' ht3 => ?_⟩⟩
        have st4 := same_new (o := .tup zs) ht3
        have f3 : SqT K (upd Z3 t3' (.tup zs)) t3' zs := SqT.of upd_same
        have i1 := i1.ks st4
        have i2 := i2.ks st4
        have st14 := st13.trans st4
        generalize upd Z3 t3' (.tup zs) = Z4 at st14 f3 i1 i2 ⊢
        refine ⟨by show 1 ≤ sizeLine; decide, fun u3 hu3 => ?_⟩
        have st5 := same_new (o := .tup [.ref t3']) hu3
        have st15 := st14.trans st5
        have i1 := i1.ks st5
        have i2 := i2.ks st5
        have i3 : Dz.Dn K (fun z => H z = none ∧ z ≠ sysModules) (upd Z4 u3 (.tup [.ref t3'])) (.ref u3) (.tuple [.tuple ps]) :=
          .tup (SqT.of upd_same) (.cons (.tup (sameT st5 f3) (wk st15 a2)) .nil)
        generalize upd Z4 u3 (.tup [.ref t3']) = Z5 at st15 i1 i2 i3 ⊢
        refine ⟨_, rfl, lp, zs, rfl, .inl ⟨SqL.of (st15 _ _ a1), fun t4' ht4 => ?_⟩⟩
        have st6 := same_new (o := .tup zs) ht4
        have f4 : SqT K (upd Z5 t4' (.tup zs)) t4' zs := SqT.of upd_same
        have i1 := i1.ks st6
        have i2 := i2.ks st6
        have i3 := i3.ks st6
        have st16 := st15.trans st6
        generalize upd Z5 t4' (.tup zs) = Z6 at st16 f4 i1 i2 i3 ⊢
        refine ⟨_, rfl, by show 2 ≤ sizeLine; decide, fun u4 hu4 => ?_⟩
        have st7 := same_new (o := .tup [.ref t4', .ref lg]) hu4
        have st17 := st16.trans st7
        have i1 := i1.ks st7
        have i2 := i2.ks st7
        have i3 := i3.ks st7
        have i4 : Dz.Dn K (fun z => H z = none ∧ z ≠ sysModules) (upd Z6 u4 (.tup [.ref t4', .ref lg])) (.ref u4) (.tuple [.tuple ps, .list gs]) :=
          .tup (SqT.of upd_same) (.cons (.tup (sameT st7 f4) (wk st17 a2)) (.cons (.lst ⟨hgH, nlg⟩ (st17 _ _ g1) (wk st17 g2)) .nil))
        generalize upd Z6 u4 (.tup [.ref t4', .ref lg]) = Z7 at st17 i1 i2 i3 i4 ⊢
        refine ⟨by show 4 ≤ sizeLine; decide, fun LL hLL => ?_⟩
        have st8 := same_new (o := .lst [.ref l1, .ref u2, .ref u3, .ref u4]) hLL
        have st18 := st17.trans st8
        have bk8 := M1.bk.k st18
        refine ⟨b, LL, _, rfl, bk8, (M1.bk.k st17).off hLL, upd_same, by simp, by simp, fun H9 v hv u9 b9 => ?_⟩
        have u09 : Bu b H H9 := fun z o n e => u9 _ _ n (st18 _ _ (M1.old z o n e))
        have go : ∀ {w0 : V} {d : PyData}, Dz.Dn K (fun z => H z = none ∧ z ≠ sysModules) Z7 w0 d → Dz.Dn K (fun z => H z = none ∧ z ≠ sysModules) H9 w0 d := fun h =>
          Dz.Dn.kk (bk_kt bk8 u9) (fun z _ n e => ⟨n, u9 _ _ (hbn n.1) e⟩) _ _ (h.ks st8)
        simp only [List.mem_cons, List.not_mem_nil, or_false] at hv
        rcases hv with rfl | rfl | rfl | rfl
        · refine k _ _ _ u09 b9 (go i1) (fun ps' g' e => by cases e) ((sz_lst (n := 2) (w := 77) (k := 2) (fun d m => ?_) (Nat.le_refl _)).mono (by decide) (by decide))
          simp only [List.mem_cons, List.not_mem_nil, or_false] at m
          rcases m with rfl | rfl
          · exact sz_pls so.ok (by omega)
          · exact (sz_iD (fun n m => Nat.le_trans (so.g3 n m) (by decide)) (by have := so.gr; omega)).mono (by decide) (by decide)
        · exact k _ _ _ u09 b9 (go i2) (fun ps' g' e => by cases e) (sz_two2 zpl zg)
        · exact k _ _ _ u09 b9 (go i3) (fun ps' g' e => by cases e) ((sz_tup (n := 3) (w := 119) (k := 1) (fun d m => by rw [List.mem_singleton.mp m]; exact zp) (Nat.le_refl _)).mono (by decide) (by decide))
        · refine k _ _ _ u09 b9 (go i4) (fun ps' g' e p hp => ?_) (sz_two2 zp zgl)
          cases e
          exact (a3 p hp).1
      · refine ⟨_, rfl, lp, zs, rfl, .inl ⟨SqL.of a1, fun t1' ht1 => ?_⟩⟩
        have st1 := same_new (o := .tup zs) ht1
        have f1 : SqT K (upd Z t1' (.tup zs)) t1' zs := SqT.of upd_same
        generalize upd Z t1' (.tup zs) = Z1 at st1 f1 ⊢
        refine ⟨_, rfl, lg, ys, rfl, .inl ⟨SqL.of (st1 _ _ g1), fun t2' ht2 => ?_⟩⟩
        have st2 := same_new (o := .tup ys) ht2
        have f2 : SqT K (upd Z1 t2' (.tup ys)) t2' ys := SqT.of upd_same
        have f1 := sameT st2 f1
        generalize upd Z1 t2' (.tup ys) = Z2 at st2 f1 f2 ⊢
        refine ⟨by show 2 ≤ sizeLine; decide, fun u hu => ?_⟩
        have st3 := same_new (o := .tup [.ref t1', .ref t2']) hu
        have st := (st1.trans st2).trans st3
        refine k _ _ (.tuple [.tuple ps, .tuple gs]) (old st) (M1.bk.k st) (.tup (SqT.of upd_same) (.cons (.tup (sameT st3 f1) (wk st a2)) (.cons (.tup (sameT st3 f2) (wk st g2)) .nil))) (fun ps' g' e p hp => ?_) (sz_two2 zp zg)
        cases e
        exact (a3 p hp).1
end
end K59

namespace K59
open PySem L2 Wm TL Dv
section
variable {P : Program} {w : World} {K : PySem.W.Frag} {mg : Str → Option Value} {base : Heap}
def N0 (b tb : Addr) : Addr → Prop := fun z => z ≠ sysModules ∧ z ≠ b ∧ z ≠ tb
/-- what repr of a table lays, the dict too -/
structure Sy (d : PyData) : Prop where
  ls : d.leavesShort 13 = true
  wt : d.weight ≤ 200
  sh : d.showable = true
  dp : d.depth ≤ 8
theorem sy_of {d : PyData} (h : Sz 8 200 d) : Sy d := ⟨PyData.leavesShort_of_canLay0 13 d h.lay h.isn, h.wt, h.sh, h.dp⟩
theorem sy_all : ∀ {ds : List PyData}, (∀ d ∈ ds, Sy d) → PyData.leavesShortAll 13 ds = true ∧ PyData.weightAll ds ≤ ds.length * 201 ∧ PyData.showableAll ds = true ∧ PyData.depthAll ds ≤ 8
  | [], _ => by simp [PyData.leavesShortAll, PyData.weightAll, PyData.showableAll, PyData.depthAll]
  | x :: xs, h => by
    have a := h x (by simp)
    obtain ⟨b1, b3, b4, b5⟩ := sy_all (ds := xs) fun y m => h y (List.mem_cons_of_mem _ m)
    refine ⟨by simp only [PyData.leavesShortAll, a.ls, b1, Bool.and_self], ?_, by simp only [PyData.showableAll, a.sh, b4, Bool.and_self], ?_⟩
    · simp only [PyData.weightAll, List.length_cons, Nat.add_mul, Nat.one_mul]
      have := a.wt
      omega
    · simp only [PyData.depthAll]
      have := a.dp
      omega
theorem sy_table {ds : List PyData} (h : ∀ d ∈ ds, Sy d) (l : ds.length ≤ 4000) : (PyData.list ds).showable = true ∧ (PyData.list ds).depth ≤ 60 ∧ (PyData.list ds).shown.length ≤ sizeLine := by
  obtain ⟨b1, b3, b4, b5⟩ := sy_all h
  refine ⟨by simp only [PyData.showable, b4], by simp only [PyData.depth]; omega, PyData.shown_fits (B := 13) (by decide) (by decide) (by simp only [PyData.leavesShort, b1]) ?_⟩
  simp only [PyData.weight]
  omega
/-- an item of a table as the law may put it -/
def ItOk (d : PyData) : Prop := ThOk d ∧ Sy d
/-- between two changes of _law_bent -/
structure BMid (K : PySem.W.Frag) (H : Hp) (b tb : Addr) (mx : Nat) (A : Hp) : Prop where
  bk : Bk A b
  old : ∀ z o, z ≠ b → z ≠ tb → H z = some o → A z = some o
  tb : ∃ (us : List V) (ds : List PyData), A tb = some (.lst us) ∧ Dz.Dzs K (N0 b tb) A us ds ∧ (∀ d ∈ ds, ItOk d) ∧ ds.length ≤ mx
/-- the odd objects -/
structure OddAt (K : PySem.W.Frag) (b tb : Addr) (L : Addr) (A : Hp) : Prop where
  nb : L ≠ b
  nt : L ≠ tb
  at_ : ∃ ovs : List V, A L = some (.lst ovs) ∧ ovs ≠ [] ∧ ovs.length < 1000 ∧ ∀ v ∈ ovs, ∃ d, Dz.Dz K (N0 b tb) A v d ∧ ItOk d
section
variable {H A B : Hp} {b tb L : Addr} {mx my : Nat}
theorem bm_kt (hb : Bk H b) {us : List V} (ht : H tb = some (.lst us)) (u : ∀ z o, z ≠ b → z ≠ tb → H z = some o → A z = some o) : Kt K H A := fun a xs q => by
  obtain ⟨x, y, e, _⟩ := hb
  rcases q with (q | ⟨ob, q⟩) | q
  · exact .inl (.inl (u a _ (fun z => by rw [z, e] at q; cases q) (fun z => by rw [z, ht] at q; cases q) q))
  · exact .inl (.inr ⟨ob, u a _ (fun z => by rw [z, e] at q; cases q) (fun z => by rw [z, ht] at q; cases q) q⟩)
  · exact .inr q
theorem dz_bu (hA : Bk A b) (u : Bu b A B) {v : V} {d : PyData} (h : Dz.Dz K (N0 b tb) A v d) : Dz.Dz K (N0 b tb) B v d := h.kk (bk_kt hA u) (fun z o n e => ⟨n, u _ _ n.2.1 e⟩)
theorem dzs_bu (hA : Bk A b) (u : Bu b A B) {us : List V} {ds : List PyData} (h : Dz.Dzs K (N0 b tb) A us ds) : Dz.Dzs K (N0 b tb) B us ds := h.kk (bk_kt hA u) (fun z o n e => ⟨n, u _ _ n.2.1 e⟩)
theorem dzs_erase {N : Addr → Prop} : ∀ {us : List V} {ds : List PyData} (k : Nat), Dz.Dzs K N H us ds → Dz.Dzs K N H (us.eraseIdx k) (ds.eraseIdx k)
  | _, _, _, .nil => .nil
  | _, _, 0, .cons a b => b
  | _, _, k + 1, .cons a b => .cons a (dzs_erase k b)
theorem dzs_set {N : Addr → Prop} {v : V} {d : PyData} (h : Dz.Dz K N H v d) : ∀ {us : List V} {ds : List PyData} (k : Nat), Dz.Dzs K N H us ds → Dz.Dzs K N H (us.set k v) (ds.set k d)
  | _, _, _, .nil => .nil
  | _, _, 0, .cons a b => .cons h b
  | _, _, k + 1, .cons a b => .cons a (dzs_set h k b)
theorem BMid.bu (h : BMid K H b tb mx A) (u : Bu b A B) (bB : Bk B b) (n : tb ≠ b) : BMid K H b tb mx B :=
  ⟨bB, fun z o n1 n2 e => u _ _ n1 (h.old z o n1 n2 e), let ⟨us, ds, a1, a2, a3⟩ := h.tb; ⟨us, ds, u _ _ n a1, dzs_bu h.bk u a2, a3⟩⟩
theorem BMid.ks (h : BMid K H b tb mx A) (s : Same A B) (n : tb ≠ b) : BMid K H b tb mx B := h.bu (Bu.of s) (h.bk.k s) n
theorem BMid.more (h : BMid K H b tb mx A) (l : mx ≤ my) : BMid K H b tb my A := ⟨h.bk, h.old, let ⟨us, ds, a1, a2, a3, a4⟩ := h.tb; ⟨us, ds, a1, a2, a3, Nat.le_trans a4 l⟩⟩
theorem BMid.trans (h : BMid K H b tb mx A) (g : BMid K A b tb my B) : BMid K H b tb my B := ⟨g.bk, fun z o n1 n2 e => g.old z o n1 n2 (h.old z o n1 n2 e), g.tb⟩
/-- the table is changed -/
theorem BMid.put (h : BMid K H b tb mx A) {us zs : List V} {ds : List PyData} (a1 : A tb = some (.lst us)) (dz : Dz.Dzs K (N0 b tb) A zs ds) (a3 : ∀ d ∈ ds, ItOk d) (l : ds.length ≤ my) (n : tb ≠ b) : BMid K H b tb my (upd A tb (.lst zs)) := by
  have k : Kt K A (upd A tb (.lst zs)) := Kt.lst a1
  exact ⟨h.bk.bu (p := tb) Bu.set n.symm, fun z o n1 n2 e => by rw [upd_ne n2]; exact h.old z o n1 n2 e, zs, ds, upd_same, dz.kk k (fun z o m e => ⟨m, by rw [upd_ne m.2.2]; exact e⟩), a3, l⟩
theorem OddAt.bu (h : OddAt K b tb L A) (hA : Bk A b) (u : Bu b A B) : OddAt K b tb L B := by
  obtain ⟨ovs, a1, a2, a3, a4⟩ := h.at_
  exact ⟨h.nb, h.nt, ovs, u _ _ h.nb a1, a2, a3, fun v hv => let ⟨d, x, y⟩ := a4 v hv; ⟨d, dz_bu hA u x, y⟩⟩
theorem OddAt.put (h : OddAt K b tb L A) {us zs : List V} (a1 : A tb = some (.lst us)) : OddAt K b tb L (upd A tb (.lst zs)) := by
  have k : Kt K A (upd A tb (.lst zs)) := Kt.lst a1
  obtain ⟨ovs, e1, a2, a3, a4⟩ := h.at_
  exact ⟨h.nb, h.nt, ovs, by rw [upd_ne h.nt]; exact e1, a2, a3, fun v hv => let ⟨d, x, y⟩ := a4 v hv; ⟨d, x.kk k (fun z o m e => ⟨m, by rw [upd_ne m.2.2]; exact e⟩), y⟩⟩
end
theorem it_sd {r : Rm} {s : Sd} (ok : RmOk r) (so : SdOk r s) : ItOk (sdD s) := ⟨fun ps g e p hp => by
  cases e
  obtain ⟨q, hq, rfl⟩ := List.mem_map.mp hp
  exact (plT_pl (so.ok q hq)).1, sy_of ((sz_sd ok so).mono (by decide) (by decide))⟩
theorem it_not {d : PyData} (h : ∀ ps g, d ≠ .tuple [.tuple ps, g]) (s : Sz 8 200 d) : ItOk d := ⟨fun ps g e => absurd e (h ps g), sy_of s⟩
def sp_bent (K : PySem.W.Frag) : Sp := fun vs H Q _ => ∃ (b tb a l : Addr) (us : List V) (ds : List PyData) (r : Rm), vs = [.ref b, .ref tb, .ref a, .ref l] ∧ Bk H b ∧ H tb = some (.lst us) ∧ Dz.Dzs K (N0 b tb) H us ds ∧ (∀ d ∈ ds, ItOk d) ∧ ds.length ≤ 3900 ∧ RmOk r ∧ 1 ≤ r.cs.length ∧ H a = some (.lst (nV r.st)) ∧ LC K H l r.cs ∧ a ≠ b ∧ l ≠ b ∧ tb ≠ b ∧ a ≠ tb ∧ l ≠ tb ∧
  ∀ H', BMid K H b tb (ds.length + 2) H' → Q .non H'
theorem ok_bent (T : Txt K mg) : FnOk P w K mg base CX0 4 T.a_bent T.d_bent ["_law_bag_here", "_law_table", "_law_stations", "_law_cards_here"] (sp_bent K) := by
  refine T.F_bent.ok sc_bent (fun vs H Q E h => ?_) (fun cdv A outer s H vs Q E hr h => ?_)
  · obtain ⟨b, tb, a, l, us, ds, r, rfl, _⟩ := h
    rfl
  · obtain ⟨b, tb, a, l, us, ds, r, rfl, hb, htb, dus, ido, l39, ok, c1, ha, hl, nab, nlb, ntb, nat, nlt, k⟩ := h
    have lus := dus.len
    refine ⟨_, (pss_cons (ps_par (i := 4) (j := 5) rfl sc_bent.nd rfl rfl (by decide) rfl rfl (pa_cons (pe_call (ok_take T) (hr.mono (by decide)) (by rfl) T.g_take T.F_take.kp T.b_take .nil pass0 (pa_cons (pv 0) (pa_cons (pe_op op_add (pe_callB call_len_seq (by rfl) T.z_len PySem.boot_len (pa_cons (pv 1) pa_nil)) pe_int) pa_nil))) (pa_cons (pe_call (ok_take T) (hr.mono (by decide)) (by rfl) T.g_take T.F_take.kp T.b_take .nil pass0 (pa_cons (pv 0) (pa_cons pe_int pa_nil))) pa_nil)) rfl)
      (pss_cons (ps_set (i := 6) sc_bent.nd rfl (Or.inl rfl) (pe_lst (pa_cons pe_non (pa_cons pe_int (pa_cons pe_str (pa_cons (pe_tup pa_nil) (pa_cons (Dz.pe_lstZ pa_nil) (pa_cons (pe_tup (pa_cons (pe_tup pa_nil) (pa_cons (pe_tup pa_nil) pa_nil))) (pa_cons (Dz.pe_dispZ (pps_cons pe_str pe_int pps_nil) rfl rfl (by simp) (by decide)) (pa_cons (pe_tup (pa_cons pe_str (pa_cons pe_int pa_nil))) (pa_cons pe_bl pa_nil)))))))))))
      (C8.pss_cut (ps_if (PW.pt (pw_and (pt_cmpR op_eq (pv 5) pe_int (nomark _)) (pw_and1 (pt_cmpR op_lt (pv 4) (pe_callB call_len_seq (by rfl) T.z_len PySem.boot_len (pa_cons (pv 1) pa_nil)) (nomark _)))))
        (pss_one (ps_expr (pe_bm PySem.F.plainAttrs_list PySem.F.slot_list_pop PySem.F.type_list_pop mt_popAt (pv 1) (pa_cons (pv 4) pa_nil))))
        pss_nil)
      (C8.pss_cut (ps_if (PW.pt (pw_and (pt_cmpR op_eq (pv 5) pe_int (nomark _)) (pw_and1 (pt_cmpR op_lt (pv 4) (pe_callB call_len_seq (by rfl) T.z_len PySem.boot_len (pa_cons (pv 1) pa_nil)) (nomark _)))))
        (pss_one (ps_expr (pe_bm PySem.F.plainAttrs_list PySem.F.slot_list_insert PySem.F.type_list_insert mt_insert (pv 1) (pa_cons (pe_call (ok_take T) (hr.mono (by decide)) (by rfl) T.g_take T.F_take.kp T.b_take .nil pass0 (pa_cons (pv 0) (pa_cons (pe_op op_add (pe_callB call_len_seq (by rfl) T.z_len PySem.boot_len (pa_cons (pv 1) pa_nil)) pe_int) pa_nil))) (pa_cons (pe_ix ix_list (pv 1) (pv 4) (fun _ _ => rfl)) pa_nil)))))
        pss_nil)
      (C8.pss_cut (ps_if (PW.pt (pw_and (pt_cmpR op_eq (pv 5) pe_int (nomark _)) (pw_and1 (pt_cmpR op_lt (pv 4) (pe_callB call_len_seq (by rfl) T.z_len PySem.boot_len (pa_cons (pv 1) pa_nil)) (nomark _)))))
        (pss_one (ps_expr (pe_bm PySem.F.plainAttrs_list PySem.F.slot_list_append PySem.F.type_list_append mt_append (pv 1) (pa_cons (pe_bm PySem.F.plainAttrs_list PySem.F.slot_list_pop PySem.F.type_list_pop mt_popAt (pv 1) (pa_cons (pv 4) pa_nil)) pa_nil))))
        pss_nil)
      (C8.pss_cut (ps_if (pt_cmpR op_eq (pv 5) pe_int (nomark _))
        (pss_one (ps_expr (pe_bm PySem.F.plainAttrs_list PySem.F.slot_list_insert PySem.F.type_list_insert mt_insert (pv 1) (pa_cons (pv 4) (pa_cons (pe_call (ok_of T) (hr.mono (by decide)) (by rfl) T.g_of T.F_of.kp T.b_of .nil pass0 (pa_cons (pv 0) (pa_cons (pv 6) pa_nil))) pa_nil)))))
        pss_nil)
      (pss_one (ps_if (PW.pt (pw_and (pt_cmpR op_ge (pv 5) pe_int (nomark _)) (pw_and (pt_cmpR op_lt (pv 4) (pe_callB call_len_seq (by rfl) T.z_len PySem.boot_len (pa_cons (pv 1) pa_nil)) (nomark _)) (pw_and1 (pt_val (pe_call (ok_lis_standing T) (hr.mono (by decide)) (by rfl) T.g_lis_standing T.F_lis_standing.kp T.b_lis_standing .nil pass0 (pa_cons (pv 2) (pa_cons (pv 3) (pa_cons (pe_ix ix_list (pv 1) (pv 4) (fun _ _ => rfl)) (pa_cons pe_int pa_nil))))))))))
        (pss_one (ps_asg (pe_call (ok_turned T) (hr.mono (by decide)) (by rfl) T.g_turned T.F_turned.kp T.b_turned .nil pass0 (pa_cons (pv 0) (pa_cons (pe_ix ix_list (pv 1) (pv 4) (fun _ _ => rfl)) (pa_cons (pv 2) (pa_cons (pv 3) pa_nil))))) (pg_sub (pv 1) (pv 4) set_list)))
        pss_nil)))))))), ?_⟩
    refine ⟨_, rfl, _, rfl, tb, us, rfl, .inl (SqL.of htb), _, _, rfl, rfl, b, us.length + 1, rfl, hb, by omega, by omega, fun H1 at1 atl u1 b1 => ?_⟩
    refine ⟨_, rfl, b, 6, rfl, b1, by decide, by decide, fun H2 wy wyl u2 b2 => ⟨_, _, rfl, ?_⟩⟩
    have M2 : BMid K H b tb ds.length H2 := ⟨b2, fun z o n1 n2 e => (u1.trans u2) _ _ n1 e, us, ds, (u1.trans u2) _ _ ntb htb, dzs_bu hb (u1.trans u2) dus, ido, Nat.le_refl _⟩
    clear u1 u2 b1 b2
    have newN : ∀ {W : Hp} {z : Addr}, BMid K H b tb ds.length W → W z = none → z ≠ b ∧ z ≠ tb := fun {W z} M h => by
      obtain ⟨us', _, e, _⟩ := M.tb
      exact ⟨M.bk.off h, fun q => by rw [q, e] at h; cases h⟩
    refine ⟨by show 0 ≤ sizeLine; decide, fun p1 hp1 => ?_⟩
    have s1 := same_new (o := .tup []) hp1
    have e1 : Dz.Dz K (N0 b tb) (upd H2 p1 (.tup [])) (.ref p1) (.tuple []) := .inl (.tup (SqT.of upd_same) .nil)
    have M3 := M2.ks s1 ntb
    generalize upd H2 p1 (.tup []) = H3 at s1 e1 M3 ⊢
    refine ⟨by show 0 ≤ sizeLine; decide, fun p2 np2 hp2 => ?_⟩
    have s2 := same_new (o := .lst []) hp2
    have e1 := e1.ks s2
    have e2 : Dz.Dz K (N0 b tb) (upd H3 p2 (.lst [])) (.ref p2) (.list []) := .inl (.lst ⟨np2, newN M3 hp2⟩ upd_same .nil)
    have M4 := M3.ks s2 ntb
    generalize upd H3 p2 (.lst []) = H4 at s2 e1 e2 M4 ⊢
    refine ⟨by show 0 ≤ sizeLine; decide, fun p3 hp3 => ?_⟩
    have s3 := same_new (o := .tup []) hp3
    have e1 := e1.ks s3
    have e2 := e2.ks s3
    have e3 : Dz.Dn K (N0 b tb) (upd H4 p3 (.tup [])) (.ref p3) (.tuple []) := .tup (SqT.of upd_same) .nil
    have M5 := M4.ks s3 ntb
    generalize upd H4 p3 (.tup []) = H5 at s3 e1 e2 e3 M5 ⊢
    refine ⟨by show 0 ≤ sizeLine; decide, fun p4 hp4 => ?_⟩
    have s4 := same_new (o := .tup []) hp4
    have e1 := e1.ks s4
    have e2 := e2.ks s4
    have e3 := e3.ks s4
    have e4 : Dz.Dn K (N0 b tb) (upd H5 p4 (.tup [])) (.ref p4) (.tuple []) := .tup (SqT.of upd_same) .nil
    have M6 := M5.ks s4 ntb
    generalize upd H5 p4 (.tup []) = H6 at s4 e1 e2 e3 e4 M6 ⊢
    refine ⟨by show 2 ≤ sizeLine; decide, fun p5 hp5 => ?_⟩
    have s5 := same_new (o := .tup [.ref p3, .ref p4]) hp5
    have e1 := e1.ks s5
    have e2 := e2.ks s5
    have e5 : Dz.Dz K (N0 b tb) (upd H6 p5 (.tup [.ref p3, .ref p4])) (.ref p5) (.tuple [.tuple [], .tuple []]) := .inl (.tup (SqT.of upd_same) (.cons (e3.ks s5) (.cons (e4.ks s5) .nil)))
    have M7 := M6.ks s5 ntb
    clear e3 e4
    generalize upd H6 p5 (.tup [.ref p3, .ref p4]) = H7 at s5 e1 e2 e5 M7 ⊢
    refine fun D nD hD => ?_
    refine ⟨upd_same, [(Sum.inr "a", V.int 1)], rfl, by decide, ?_⟩
    have sD : Same H7 (upd (upd H7 D (.dK [])) D (.dK (mergeK [] [(Sum.inr "a", V.int 1)]))) := fun z o e => by
      have n : z ≠ D := fun q => by rw [q, hD] at e; cases e
      rw [upd_ne n, upd_ne n]
      exact e
    have e1 := e1.ks sD
    have e2 := e2.ks sD
    have e5 := e5.ks sD
    have e6 : Dz.Dz K (N0 b tb) (upd (upd H7 D (.dK [])) D (.dK (mergeK [] [(Sum.inr "a", V.int 1)]))) (.ref D) Dz.adD := .inr ⟨D, rfl, ⟨nD, newN M7 hD⟩, upd_same, rfl⟩
    have M8 := M7.ks sD ntb
    generalize upd (upd H7 D (.dK [])) D (.dK (mergeK [] [(Sum.inr "a", V.int 1)])) = H8 at sD e1 e2 e5 e6 M8 ⊢
    refine ⟨by show 2 ≤ sizeLine; decide, fun p7 hp7 => ?_⟩
    have s7 := same_new (o := .tup [.str "in", .int 0]) hp7
    have e1 := e1.ks s7
    have e2 := e2.ks s7
    have e5 := e5.ks s7
    have e6 := e6.ks s7
    have e7 : Dz.Dz K (N0 b tb) (upd H8 p7 (.tup [.str "in", .int 0])) (.ref p7) (plD (.ins 0)) := .inl (.tup (SqT.of upd_same) (.cons (.str _) (.cons (.int _) .nil)))
    have M9 := M8.ks s7 ntb
    generalize upd H8 p7 (.tup [.str "in", .int 0]) = H9 at s7 e1 e2 e5 e6 e7 M9 ⊢
    refine ⟨by show 9 ≤ sizeLine; decide, fun L hL => ?_⟩
    have sL := same_new (o := .lst [.non, .int 0, .str "", .ref p1, .ref p2, .ref p5, .ref D, .ref p7, .bl true]) hL
    have OD : OddAt K b tb L (upd H9 L (.lst [.non, .int 0, .str "", .ref p1, .ref p2, .ref p5, .ref D, .ref p7, .bl true])) := by
      refine ⟨(newN M9 hL).1, (newN M9 hL).2, _, upd_same, by simp, by simp, fun v hv => ?_⟩
      have e1 := e1.ks sL
      have e2 := e2.ks sL
      have e5 := e5.ks sL
      have e6 := e6.ks sL
      have e7 := e7.ks sL
      simp only [List.mem_cons, List.not_mem_nil, or_false] at hv
      rcases hv with rfl | rfl | rfl | rfl | rfl | rfl | rfl | rfl | rfl
      · exact ⟨_, .inl .non, it_not (fun _ _ e => by cases e) ((sz_of sh_none).mono (by decide) (by decide))⟩
      · exact ⟨_, .inl (.int _), it_not (fun _ _ e => by cases e) ((sz_int (i := 0) (by decide)).mono (by decide) (by decide))⟩
      · exact ⟨_, .inl (.str _), it_not (fun _ _ e => by cases e) (sz_w ((sh_str (t := "") ⟨by decide +kernel, by decide +kernel⟩).mono (by decide) (Nat.le_refl _)) (by decide +kernel))⟩
      · exact ⟨_, e1, it_not (fun _ _ e => by cases e) ⟨rfl, rfl, by decide +kernel, rfl, by decide +kernel⟩⟩
      · exact ⟨_, e2, it_not (fun _ _ e => by cases e) ⟨rfl, rfl, by decide +kernel, rfl, by decide +kernel⟩⟩
      · exact ⟨_, e5, (fun ps g e p hp => by cases e; cases hp), sy_of ⟨rfl, rfl, by decide +kernel, rfl, by decide +kernel⟩⟩
      · exact ⟨_, e6, (fun ps g e => by cases e), ⟨by decide +kernel, by decide +kernel, by decide +kernel, by decide +kernel⟩⟩
      · exact ⟨_, e7, it_not (fun _ _ e => by cases e) ((sz_pl (p := .ins 0) (by show 0 ≤ 8; decide)).mono (by decide) (by decide))⟩
      · exact ⟨_, .inl (.bl _), it_not (fun _ _ e => by cases e) ((sz_of (sh_bool true)).mono (by decide) (by decide))⟩
    have ML := M9.ks sL ntb
    clear e1 e2 e5 e6 e7 M2 M3 M4 M5 M6 M7 M8 M9 s1 s2 s3 s4 s5 sD s7
    generalize upd H9 L (.lst [.non, .int 0, .str "", .ref p1, .ref p2, .ref p5, .ref D, .ref p7, .bl true]) = H10 at sL OD ML ⊢
    clear sL newN
    refine ⟨fun σ' Z => σ' = [some (.ref b), some (.ref tb), some (.ref a), some (.ref l), some (.int (at1 : Nat)), some (.int (wy : Nat)), some (.ref L)] ∧ BMid K H b tb ds.length Z ∧ OddAt K b tb L Z, ?_, ?_⟩
    · obtain ⟨us1, ds1, a1, a2, a3, a4⟩ := ML.tb
      have l1 := a2.len
      refine ⟨_, rfl, rfl, _, rfl, ite2 (fun c1 => ⟨_, rfl, _, rfl, tb, us1, rfl, .inl (SqL.of a1), _, _, rfl, rfl, _, rfl, ite2 (fun c2 => ?_) (fun c2 => ⟨rfl, ML, OD⟩)⟩) (fun c1 => ⟨rfl, ML, OD⟩)⟩
      have c2 := of_decide_eq_true c2
      have lt : at1 < us1.length := by omega
      refine ⟨_, rfl, .inl ⟨rfl, _, SqL.of a1⟩, _, rfl, tb, us1, _, at1, us1[at1], rfl, rfl, a1, by omega, by omega, seqIndex_of (by omega) (by omega), List.getElem?_eq_getElem lt, rfl, ?_⟩
      refine ⟨ML.put a1 (dzs_erase at1 a2) (fun d hd => a3 d (List.mem_of_mem_eraseIdx hd)) ?_ ntb, OD.put a1⟩
      rw [List.length_eraseIdx]
      split <;> omega
    rintro σ' Z ⟨rfl, M1, O1⟩
    clear ML OD
    refine ⟨fun σ' Z => σ' = [some (.ref b), some (.ref tb), some (.ref a), some (.ref l), some (.int (at1 : Nat)), some (.int (wy : Nat)), some (.ref L)] ∧ BMid K H b tb (ds.length + 1) Z ∧ OddAt K b tb L Z, ?_, ?_⟩
    · obtain ⟨us1, ds1, a1, a2, a3, a4⟩ := M1.tb
      have l1 := a2.len
      refine ⟨_, rfl, rfl, _, rfl, ite2 (fun c1 => ⟨_, rfl, _, rfl, tb, us1, rfl, .inl (SqL.of a1), _, _, rfl, rfl, _, rfl, ite2 (fun c2 => ?_) (fun c2 => ⟨rfl, M1.more (by omega), O1⟩)⟩) (fun c1 => ⟨rfl, M1.more (by omega), O1⟩)⟩
      have c2 := of_decide_eq_true c2
      have lt : at1 < us1.length := by omega
      refine ⟨_, rfl, .inl ⟨rfl, _, SqL.of a1⟩, _, rfl, _, rfl, tb, us1, rfl, .inl (SqL.of a1), _, _, rfl, rfl, b, us1.length + 1, rfl, M1.bk, by omega, by omega, fun Y q ql u b2 => ?_⟩
      have M2 := M1.bu u b2 ntb
      have O2 := O1.bu M1.bk u
      have a1' := u _ _ ntb a1
      have a2' := dzs_bu M1.bk u a2
      obtain ⟨d, ed, dd⟩ := a2'.at (List.getElem?_eq_getElem lt)
      refine ⟨_, rfl, _, rfl, tb, us1, _, _, rfl, rfl, SqL.of a1', atI_nat (List.getElem?_eq_getElem lt), tb, us1, (q : Nat), _, rfl, rfl, a1', Nat.lt_of_le_of_lt (m := 4000) (by omega) (by decide), by omega, by omega, rfl, ?_⟩
      rw [Int.toNat_natCast]
      refine ⟨M2.put a1' (((a2'.take q).app (.cons dd .nil)).app (a2'.drop q)) (fun d hd => ?_) ?_ ntb, O2.put a1'⟩
      · rcases List.mem_append.mp hd with hd | hd
        · rcases List.mem_append.mp hd with hd | hd
          · exact a3 _ (List.mem_of_mem_take hd)
          · rw [List.mem_singleton.mp hd]
            exact a3 _ (List.mem_of_getElem? ed)
        · exact a3 _ (List.mem_of_mem_drop hd)
      · rw [List.length_append, List.length_append, List.length_take, List.length_drop, List.length_singleton]
        omega
    clear M1 O1
    rintro σ' Z ⟨rfl, M1, O1⟩
    refine ⟨fun σ' Z => σ' = [some (.ref b), some (.ref tb), some (.ref a), some (.ref l), some (.int (at1 : Nat)), some (.int (wy : Nat)), some (.ref L)] ∧ BMid K H b tb (ds.length + 1) Z ∧ OddAt K b tb L Z, ?_, ?_⟩
    · obtain ⟨us1, ds1, a1, a2, a3, a4⟩ := M1.tb
      have l1 := a2.len
      refine ⟨_, rfl, rfl, _, rfl, ite2 (fun c1 => ⟨_, rfl, _, rfl, tb, us1, rfl, .inl (SqL.of a1), _, _, rfl, rfl, _, rfl, ite2 (fun c2 => ?_) (fun c2 => ⟨rfl, M1, O1⟩)⟩) (fun c1 => ⟨rfl, M1, O1⟩)⟩
      have c2 := of_decide_eq_true c2
      have lt : at1 < us1.length := by omega
      obtain ⟨d, ed, dd⟩ := a2.at (List.getElem?_eq_getElem lt)
      have M2 := M1.put (my := ds.length) a1 (dzs_erase at1 a2) (fun d hd => a3 d (List.mem_of_mem_eraseIdx hd)) (by rw [List.length_eraseIdx]; split <;> omega) ntb
      have O2 := O1.put (zs := us1.eraseIdx at1) a1
      have dd2 : Dz.Dz K (N0 b tb) (upd Z tb (.lst (us1.eraseIdx at1))) us1[at1] d := dd.kk (Kt.lst a1) (fun z o m e => ⟨m, by rw [upd_ne m.2.2]; exact e⟩)
      have a2' : Dz.Dzs K (N0 b tb) (upd Z tb (.lst (us1.eraseIdx at1))) (us1.eraseIdx at1) (ds1.eraseIdx at1) := (dzs_erase at1 a2).kk (Kt.lst a1) (fun z o m e => ⟨m, by rw [upd_ne m.2.2]; exact e⟩)
      have le : (us1.eraseIdx at1).length < sizeLine := by
        rw [List.length_eraseIdx_of_lt lt]
        exact Nat.lt_of_le_of_lt (m := 4000) (by omega) (by decide)
      refine ⟨_, rfl, .inl ⟨rfl, _, SqL.of a1⟩, _, rfl, .inl ⟨rfl, _, SqL.of a1⟩, _, rfl, tb, us1, _, at1, us1[at1], rfl, rfl, a1, by omega, by omega, seqIndex_of (by omega) (by omega), List.getElem?_eq_getElem lt, tb, _, _, rfl, rfl, upd_same, le, rfl, ?_⟩
      refine ⟨M2.put upd_same (a2'.app (.cons dd2 .nil)) (fun d' hd => ?_) ?_ ntb, O2.put upd_same⟩
      · rcases List.mem_append.mp hd with hd | hd
        · exact a3 _ (List.mem_of_mem_eraseIdx hd)
        · rw [List.mem_singleton.mp hd]
          exact a3 _ (List.mem_of_getElem? ed)
      · rw [List.length_append, List.length_singleton, List.length_eraseIdx]
        split <;> omega
    clear M1 O1
    rintro σ' Z ⟨rfl, M1, O1⟩
    refine ⟨fun σ' Z => σ' = [some (.ref b), some (.ref tb), some (.ref a), some (.ref l), some (.int (at1 : Nat)), some (.int (wy : Nat)), some (.ref L)] ∧ BMid K H b tb (ds.length + 2) Z, ?_, ?_⟩
    · obtain ⟨us1, ds1, a1, a2, a3, a4⟩ := M1.tb
      have l1 := a2.len
      refine ⟨_, rfl, rfl, _, rfl, ite2 (fun c1 => ?_) (fun c1 => ⟨rfl, M1.more (by omega)⟩)⟩
      obtain ⟨ovs, o1, o2, o3, o4⟩ := O1.at_
      refine ⟨_, rfl, .inl ⟨rfl, _, SqL.of a1⟩, _, rfl, _, rfl, _, rfl, b, L, ovs, rfl, M1.bk, O1.nb, o1, o2, o3, fun Y v hv u b2 => ?_⟩
      obtain ⟨d, dd, id⟩ := o4 v hv
      have M2 := M1.bu u b2 ntb
      have a1' := u _ _ ntb a1
      have a2' := dzs_bu M1.bk u a2
      have dd := dz_bu M1.bk u dd
      refine ⟨tb, us1, (at1 : Nat), _, rfl, rfl, a1', Nat.lt_of_le_of_lt (m := 4000) (by omega) (by decide), by omega, by omega, rfl, ?_⟩
      rw [Int.toNat_natCast]
      refine M2.put a1' (((a2'.take at1).app (.cons dd .nil)).app (a2'.drop at1)) (fun d hd => ?_) ?_ ntb
      · rcases List.mem_append.mp hd with hd | hd
        · rcases List.mem_append.mp hd with hd | hd
          · exact a3 _ (List.mem_of_mem_take hd)
          · rw [List.mem_singleton.mp hd]
            exact id
        · exact a3 _ (List.mem_of_mem_drop hd)
      · rw [List.length_append, List.length_append, List.length_take, List.length_drop, List.length_singleton]
        omega
    clear M1 O1
    rintro σ' Z ⟨rfl, M1⟩
    obtain ⟨us1, ds1, a1, a2, a3, a4⟩ := M1.tb
    have l1 := a2.len
    obtain ⟨cvs, elc, dcs⟩ := id hl
    have ha1 := M1.old _ _ nab nat ha
    have hl1 : LC K Z l r.cs := ⟨cvs, M1.old _ _ nlb nlt elc, dcs.k (bm_kt hb htb M1.old)⟩
    refine ⟨_, rfl, _, _, rfl, rfl, _, rfl, ite2 (fun c1 => ⟨_, rfl, _, rfl, tb, us1, rfl, .inl (SqL.of a1), _, _, rfl, rfl, _, rfl, ite2 (fun c2 => ?_) (fun c2 => k _ M1)⟩) (fun c1 => k _ M1)⟩
    have c2 := of_decide_eq_true c2
    have lt : at1 < us1.length := by omega
    obtain ⟨d, ed, dd⟩ := a2.at (List.getElem?_eq_getElem lt)
    have hat := atI_nat (List.getElem?_eq_getElem lt)
    have io := a3 _ (List.mem_of_getElem? ed)
    refine ⟨_, rfl, _, rfl, _, rfl, _, rfl, tb, us1, _, _, rfl, rfl, SqL.of a1, hat, a, l, r, _, d, N0 b tb, 6, rfl, ha1, hl1, ok, dd, io.1, fun Y s => ?_⟩
    have M2 := M1.ks s ntb
    cases e6 : stdB r 6 d with
    | false => exact ⟨false, rfl, iteF (k _ M2)⟩
    | true =>
      obtain ⟨sd, rfl, so⟩ := std_sd ok e6
      have a1' := s _ _ a1
      refine ⟨true, rfl, iteT ?_⟩
      refine ⟨_, rfl, _, rfl, _, rfl, tb, us1, _, _, rfl, rfl, SqL.of a1', hat, _, rfl, _, rfl, b, a, l, _, r, sd, rfl, M2.bk, (dn_sd dd).ks s, so, ok, by assumption, s _ _ ha1, hl1.k s, nab, nlb, fun X v' d' u b2 dn th sz => ?_⟩
      have M3 := M2.bu u b2 ntb
      have a1'' := u _ _ ntb a1'
      have dz : Dz.Dz K (N0 b tb) X v' d' := .inl (Dz.Dn.kk (Kt.refl) (fun z xs n e => ⟨⟨n.2, (fun q => by
        obtain ⟨_, _, e0, _⟩ := M2.bk
        rw [q, e0] at n
        cases n.1), (fun q => by
        rw [q, a1'] at n
        cases n.1)⟩, e⟩) _ _ dn)
      refine ⟨_, rfl, _, rfl, tb, us1, _, at1, rfl, rfl, a1'', ixN_nat (by omega), ?_⟩
      refine k _ (M3.put a1'' (dzs_set dz at1 (dzs_bu M2.bk u (a2.ks s))) (fun d0 hd => ?_) (by rw [List.length_set]; omega) ntb)
      rcases List.mem_or_eq_of_mem_set hd with h | h
      · exact a3 _ h
      · rw [h]
        exact ⟨th, sy_of sz⟩
end
end K59

namespace K59
open PySem L2 Wm TL Dv
section
variable {P : Program} {w : World} {K : PySem.W.Frag} {mg : Str → Option Value} {base : Heap}
theorem new2 {H : Hp} {x dx C : Addr} (hx : H x = none) (hdx : H dx = none) (ne : dx ≠ x) : Same H (upd (upd H dx (.own x)) x (.ins C dx [])) := (same_new hdx).trans (same_new (by rw [upd_ne ne.symm]; exact hx))
theorem made_same {H H' : Hp} {x dx C : Addr} (hx : H x = none) (hdx : H dx = none) (ne : dx ≠ x) (bu : Bu x (upd (upd H dx (.own x)) x (.ins C dx [])) H') : Same H H' := fun p o e => bu _ _ (fun z => by subst z; rw [hx] at e; cases e) (new2 hx hdx ne _ _ e)
theorem ne_new {H : Hp} {p x : Addr} {o : HO} (h : H p = some o) (f : H x = none) : p ≠ x := fun z => by subst z; rw [f] at h; cases h
def sp_law (K : PySem.W.Frag) : Sp := fun vs H Q _ => ∃ (a : Addr) (ns : List Int), vs = [.ref a] ∧ SqL K H a (ns.map V.int) ∧ ns.length ≤ 63 ∧ ∀ H', Same H H' → Q (.bl true) H'
theorem ev_mem {r : Rm} {T : List Sd} {s : Sd} : ∀ {es : List Ev} {x : Bool × Ev}, evF r T s es = some x → x.2 ∈ es
  | [], _, h => by cases h
  | e :: es, x, h => by
    unfold evF at h
    split at h
    · cases h; exact List.mem_cons_self
    · split at h
      · exact List.mem_cons_of_mem _ (ev_mem h)
      · cases h; exact List.mem_cons_self
theorem tab_mem {r : Rm} {m : Nat} {T : List Sd} : ∀ {ss : List Sd} {i : Nat} {x : Bool × Nat × Ev}, tabF r m T i ss = some x → x.2.1 < i + ss.length ∧ ∃ s ∈ ss, x.2.2 ∈ alF r s.gr m
  | [], _, _, h => by cases h
  | s :: ss, i, x, h => by
    unfold tabF at h
    split at h
    · rename_i y hy
      cases h
      refine ⟨?_, s, List.mem_cons_self, ev_mem hy⟩
      rw [List.length_cons]
      show i < _
      omega
    · obtain ⟨h1, s', h2, h3⟩ := tab_mem h
      refine ⟨?_, s', List.mem_cons_of_mem _ h2, h3⟩
      rw [List.length_cons]
      omega
theorem al_num2 {r : Rm} (ok : RmOk r) {gr : List Nat} {m : Nat} {e : Ev} (h : e ∈ alF r gr m) : Num e.2 := by
  unfold alF at h
  obtain ⟨x, hx, he⟩ := List.mem_flatMap.mp h
  have e1 : e.2 = x.1 := by
    unfold alI at he
    rcases List.mem_append.mp he with h | h
    · split at h
      · rw [List.mem_singleton.mp h]
      · cases h
    · rcases List.mem_append.mp h with h | h
      · split at h
        · rw [List.mem_singleton.mp h]
        · cases h
      · split at h
        · rw [List.mem_singleton.mp h]
        · cases h
  rw [e1]
  obtain ⟨c, hc, ec⟩ := List.mem_map.mp (List.of_mem_zip hx).1
  rw [← ec]
  exact (ok.ok c hc).num
theorem rs_shows {r : Rm} (ok : RmOk r) {m : Nat} {T : List Sd} (l : T.length ≤ 4000) : Shows (rsD (tabF r m T 0 T)) := by
  cases e : tabF r m T 0 T with
  | none => exact sh_none.shows (by decide) (by decide)
  | some x =>
    obtain ⟨b, i, ev⟩ := x
    obtain ⟨h1, s, _, h3⟩ := tab_mem e
    have h1 : i < 0 + T.length := h1
    have N := al_num2 ok h3
    have hi : Sh 1 202 (.int (i : Nat)) := (sh_int (by omega)).mono (by decide) (by decide)
    have he := sh_ev ev N
    have key : ∀ w : Str, Tx w → Shows (.tuple [.str w, .int (i : Nat), evD ev]) := fun w hw => (sh_tup (n := 1) (w := 202) (k := 3) (fun d m => by
      simp only [List.mem_cons, List.not_mem_nil, or_false] at m
      rcases m with rfl | rfl | rfl
      · exact (sh_str hw).mono (by decide) (by decide)
      · exact hi
      · exact he) (Nat.le_refl _)).shows (by decide) (by decide)
    cases b
    · exact key "open" ⟨by decide +kernel, by decide +kernel⟩
    · exact key "short" ⟨by decide +kernel, by decide +kernel⟩
theorem due_shows {r : Rm} (ok : RmOk r) {m : Nat} {ds : List PyData} (l : ds.length ≤ 4000) : Shows (dueD r m ds) := by
  unfold dueD
  split
  · rename_i i e
    have li : i < ds.length := (List.findIdx?_eq_some_iff_getElem.mp e).1
    exact (sh_two (n := 0) (w := 100) (sh_str (t := "standing") ⟨by decide +kernel, by decide +kernel⟩) ((sh_int (by omega)).mono (by decide) (by decide))).shows (by decide) (by decide)
  · unfold dueT
    split
    · exact rs_shows ok (by rw [List.length_map]; exact l)
    · exact (sh_tup (n := 0) (w := 100) (k := 1) (fun d m => by
        rw [List.mem_singleton.mp m]
        exact sh_str (t := "start") ⟨by decide +kernel, by decide +kernel⟩) (Nat.le_refl _)).shows (by decide) (by decide)
theorem due_nil {r : Rm} {m : Nat} : dueD r m [] = .tuple [.str "start"] := by
  show dueT r m [] = _
  unfold dueT
  rw [if_neg (by simp)]
/-- between two turns of law -/
structure LSt (K : PySem.W.Frag) (CC RC : Addr) (H : Hp) (b sa l x Tb : Addr) (r : Rm) (us : List V) (T : List Sd) : Prop where
  bg : Bk H b
  nsa : sa ≠ b
  nl : l ≠ b
  nT : Tb ≠ b
  st : H sa = some (.lst (nV r.st))
  ls : LC K H l r.cs
  rm : RoomAt K RC CC H x r
  tb : H Tb = some (.lst us)
  dt : Dts K H us (T.map sdD)
section
variable {CC RC b sa l x Tb : Addr} {r : Rm} {us : List V} {T : List Sd} {H A : Hp}
theorem LSt.bu (h : LSt K CC RC H b sa l x Tb r us T) (u : Bu b H A) (bA : Bk A b) : LSt K CC RC A b sa l x Tb r us T := by
  have k := bk_kt (K := K) h.bg u
  obtain ⟨_, _, eb, _⟩ := h.bg
  obtain ⟨cvs, e, dc⟩ := h.ls
  exact ⟨bA, h.nsa, h.nl, h.nT, u _ _ h.nsa h.st, ⟨cvs, u _ _ h.nl e, dc.k k⟩, h.rm.lst eb u, u _ _ h.nT h.tb, h.dt.k k⟩
theorem LSt.k (h : LSt K CC RC H b sa l x Tb r us T) (s : Same H A) : LSt K CC RC A b sa l x Tb r us T := h.bu (Bu.of s) (h.bg.k s)
end
theorem ok_law (T : Txt K mg) : Rp.GOk P w K mg base CX0 12 T.a_law T.d_law ["_law_script"] (sp_law K) := by
  refine Rp.gok T.F_law sc_law (fun vs H Q E h => ?_) (fun cdv A outer s H vs Q E hg hr h => ?_)
  · obtain ⟨a, ns, rfl, _⟩ := h
    rfl
  · obtain ⟨a, ns, rfl, hS, few, k⟩ := h
    refine ⟨_, (pss_cons (ps_for PassesOwn.never rfl (pi_range1 (by rfl) T.z_range (pa_cons (pe_callB (call_max2 rfl) (by rfl) T.z_max (by decide +kernel) (pa_cons pe_int (pa_cons (pe_callB (call_min2 rfl) (by rfl) T.z_min (by decide +kernel) (pa_cons pe_int (pa_cons (pe_callB call_len_seq (by rfl) T.z_len PySem.boot_len (pa_cons (pv 0) pa_nil)) pa_nil))) pa_nil))) pa_nil)) (pg_name (i := 1) sc_law.nd rfl (Or.inl rfl))
        (pss_cons (ps_set (i := 2) sc_law.nd rfl (Or.inl rfl) (pe_call (ok_bag T) (hr.mono (by decide)) (by rfl) T.g_bag T.F_bag.kp T.b_bag .nil pass0 (pa_cons (pv 0) (pa_cons (pv 1) pa_nil))))
        (pss_cons (ps_asg (pe_call (ok_room T) (hr.mono (by decide)) (by rfl) T.g_room T.F_room.kp T.b_room .nil pass0 (pa_cons (pv 2) pa_nil)) (pg_tup rfl (pgs_cons (pg_name (i := 3) sc_law.nd rfl (Or.inl rfl)) (pgs_cons (pg_name (i := 4) sc_law.nd rfl (Or.inl rfl)) (pgs_cons (pg_name (i := 5) sc_law.nd rfl (Or.inl rfl)) pgs_nil)))))
        (pss_cons (ps_set (i := 6) sc_law.nd rfl (Or.inl rfl) (pe_make T.mk_rinit (ok_rinit T) (hr.mono (by decide)) (by rfl) T.gRC T.b_rinit .nil pass0 (pa_cons (pv 3) (pa_cons (pe_lc (own := [("_law_card", 7)]) (g := gName 7) (tt := tYes) rfl sc_law.nd (pi_list (pv 4)) (blkOk_by (own := [("_law_card", 7)]) (N := nm_law) (sc := (defScope s_law)) (by decide +kernel)) (fun _ _ _ _ _ => pg_name (i := 7) sc_law.nd rfl (Or.inl rfl)) (fun _ _ _ _ _ => pts_nil) (fun _ _ _ _ _ => (pe_call (ok_made T) (hr.mono (by decide)) (by rfl) T.g_made T.F_made.kp T.b_made .nil pass0 (pa_cons (pv 7) pa_nil)))) pa_nil))))
        (pss_cons (ps_set (i := 8) sc_law.nd rfl (Or.inl rfl) (pe_call (ok_walked T) (hr.mono (by decide)) (by rfl) T.g_walked T.F_walked.kp T.b_walked .nil pass0 (pa_cons (pv 3) (pa_cons (pv 4) (pa_cons (pv 5) pa_nil)))))
        (pss_cons (ps_for PassesOwn.never rfl (pi_range1 (by rfl) T.z_range (pa_cons pe_int pa_nil)) (pg_name (i := 9) sc_law.nd rfl (Or.inl rfl))
          (pss_cons (ps_set (i := 10) sc_law.nd rfl (Or.inl rfl) (pe_callTy Dz.call_listZ (by rfl) T.z_list (by decide +kernel) (pa_cons (pv 8) pa_nil)))
          (pss_cons (ps_for PassesOwn.never rfl (pi_range1 (by rfl) T.z_range (pa_cons (pe_callB (call_min2 rfl) (by rfl) T.z_min (by decide +kernel) (pa_cons (pv 9) (pa_cons (pe_op op_add pe_int (pe_call (ok_take T) (hr.mono (by decide)) (by rfl) T.g_take T.F_take.kp T.b_take .nil pass0 (pa_cons (pv 2) (pa_cons pe_int pa_nil)))) pa_nil))) pa_nil)) (pg_name (i := 11) sc_law.nd rfl (Or.inl rfl))
            (pss_one (ps_expr (pe_call (ok_bent T) (hr.mono (by decide)) (by rfl) T.g_bent T.F_bent.kp T.b_bent .nil pass0 (pa_cons (pv 2) (pa_cons (pv 10) (pa_cons (pv 3) (pa_cons (pv 4) pa_nil))))))))
          (pss_cons (ps_par (i := 12) (j := 13) rfl sc_law.nd rfl rfl (by decide) rfl rfl (pa_cons (pe_callB (show CallR _ _ (Dz.rReprZ K) from Dz.call_reprZ hg hr.units) (by rfl) T.z_repr (by decide +kernel) (pa_cons (pv 10) pa_nil)) (pa_cons (pe_call (ok_due T) (hr.mono (by decide)) (by rfl) T.g_due T.F_due.kp T.b_due .nil pass0 (pa_cons (pv 3) (pa_cons (pv 4) (pa_cons (pv 10) (pa_cons (pv 5) pa_nil))))) pa_nil)) rfl)
          (C8.pss_cut (ps_set (i := 14) sc_law.nd rfl (Or.inl rfl) (pe_ifExp (pt_cmpR op_eq (pe_op op_mod (pv 9) pe_int) pe_int (nomark _)) (pv 10) (pe_callTy call_tuple_of (by rfl) T.z_tuple (by decide +kernel) (pa_cons (pv 10) pa_nil))))
          (pss_cons (ps_if (PW.pt (pw_or (pt_cmpR op_ne (pe_callB (show CallR _ _ (Rp.rRepr K) from Rp.call_reprD hg hr.units) (by rfl) T.z_repr (by decide +kernel) (pa_cons (pe_callN (ok_table_fault T) (hr.mono (by decide)) (by rfl) T.g_table_fault T.F_table_fault.kp T.kb_table_fault pass0 (pa_cons (pv 6) (pa_cons (pv 14) pa_nil)) (pk_cons (pv 5) pk_nil)) pa_nil)) (pe_callB (show CallR _ _ (Rp.rRepr K) from Rp.call_reprD hg hr.units) (by rfl) T.z_repr (by decide +kernel) (pa_cons (pv 13) pa_nil)) (nomark _)) (pw_or1 (pt_cmpR op_ne (pe_callB (show CallR _ _ (Dz.rReprZ K) from Dz.call_reprZ hg hr.units) (by rfl) T.z_repr (by decide +kernel) (pa_cons (pv 10) pa_nil)) (pv 12) (nomark _)))))
            (pss_one (ps_ret pe_bl))
            pss_nil)
          (pss_cons (ps_set (i := 15) sc_law.nd rfl (Or.inl rfl) (pe_op op_sub pe_int (pv 5)))
          (pss_one (ps_if (PW.pt (pw_and (pt_cmpR op_eq (pv 9) pe_int (nomark _)) (pw_and1 (pt_cmpR op_ne (pe_callB (show CallR _ _ (Rp.rRepr K) from Rp.call_reprD hg hr.units) (by rfl) T.z_repr (by decide +kernel) (pa_cons (pe_callN (ok_table_fault T) (hr.mono (by decide)) (by rfl) T.g_table_fault T.F_table_fault.kp T.kb_table_fault pass0 (pa_cons (pv 6) (pa_cons (pv 14) pa_nil)) (pk_cons (pv 15) pk_nil)) pa_nil)) (pe_callB (show CallR _ _ (Rp.rRepr K) from Rp.call_reprD hg hr.units) (by rfl) T.z_repr (by decide +kernel) (pa_cons (pe_call (ok_due T) (hr.mono (by decide)) (by rfl) T.g_due T.F_due.kp T.b_due .nil pass0 (pa_cons (pv 3) (pa_cons (pv 4) (pa_cons (pv 10) (pa_cons (pv 15) pa_nil))))) pa_nil)) (nomark _)))))
            (pss_one (ps_ret pe_bl))
            pss_nil)))))))))
        (pss_one (ps_if (pt_cmpR op_ne (pe_callB (show CallR _ _ (Rp.rRepr K) from Rp.call_reprD hg hr.units) (by rfl) T.z_repr (by decide +kernel) (pa_cons (pe_callN (ok_table_fault T) (hr.mono (by decide)) (by rfl) T.g_table_fault T.F_table_fault.kp T.kb_table_fault pass0 (pa_cons (pv 6) (pa_cons (pe_lst pa_nil) pa_nil)) (pk_cons (pv 5) pk_nil)) pa_nil)) (pe_callB (show CallR _ _ (Rp.rRepr K) from Rp.call_reprD hg hr.units) (by rfl) T.z_repr (by decide +kernel) (pa_cons (pe_tup (pa_cons pe_str pa_nil)) pa_nil)) (nomark _))
          (pss_one (ps_ret pe_bl))
          pss_nil))))))))
      (pss_one (ps_ret pe_bl))), ?_⟩
    refine ⟨_, rfl, a, _, rfl, .inl hS, _, _, rfl, _, _, rfl, _, rfl, ?_⟩
    rw [List.length_map]
    obtain ⟨n, en, n1, n4⟩ : ∃ n : Nat, (if (if ((ns.length : Nat) : Int) < 2 then ((ns.length : Nat) : Int) else 2) > 1 then (if ((ns.length : Nat) : Int) < 2 then ((ns.length : Nat) : Int) else 2) else 1) = (n : Nat) ∧ 1 ≤ n ∧ n ≤ 2 := by
      refine ⟨if ns.length < 1 then 1 else if ns.length < 2 then ns.length else 2, ?_, ?_, ?_⟩
      all_goals repeat' split
      all_goals omega
    rw [en]
    refine ⟨by omega, by omega, ?_⟩
    rw [Int.toNat_natCast]
    refine for_range (fun i σ A => (∃ v1 v2 v3 v4 v5 v6 v7 v8 v9 v10 v11 v12 v13 v14 v15 : Option V, σ = [some (.ref a), v1, v2, v3, v4, v5, v6, v7, v8, v9, v10, v11, v12, v13, v14, v15]) ∧ Same H A) ⟨⟨none, none, none, none, none, none, none, none, none, none, none, none, none, none, none, rfl⟩, Same.refl _⟩ (fun i σ A hi hP => ?_) (fun σ A hP => ?_)
    · obtain ⟨⟨v1, v2, v3, v4, v5, v6, v7, v8, v9, v10, v11, v12, v13, v14, v15, rfl⟩, sA⟩ := hP
      rw [Int.zero_add]
      refine ⟨_, rfl, _, rfl, a, ns, i, rfl, Hf.keepL sA hS, few, by omega, fun H1 b s1 hb0 hb1 => ?_⟩
      refine ⟨_, rfl, b, rfl, hb1, fun H2 q sa l r m bu2 hb2 hq ha hl ok sm m1 m2 nab nlb => ?_⟩
      refine ⟨q, _, rfl, SqT.of hq, rfl, _, _, rfl, _, _, rfl, _, _, rfl, rfl, ?_⟩
      obtain ⟨cvs, hl7, hd7⟩ := id hl
      have lcv := hd7.len
      rw [List.length_map] at lcv
      have lcs := ok.cs6
      have st6 := ok.st6
      refine ⟨_, rfl, _, rfl, l, rfl, ⟨_, SqL.of hl7⟩, fun D hD => ?_⟩
      refine lc_it (walk_list (xs := cvs)) (fun j B => Same H2 B ∧ ∃ ys : List V, ys.length = j ∧ B D = some (.lst ys) ∧ All2 (CardAt K T.CC B) ys (r.cs.take j)) ⟨same_new hD, [], rfl, upd_same, by rw [List.take_zero]; exact .nil⟩ (fun j B _ h => SqL.of (h.1 _ _ hl7)) (fun j x B B' hj hP hY => ?_) (fun B hP => ?_)
      · obtain ⟨sB, ys, ly, hDB, hA⟩ := hP
        obtain ⟨rfl, hx⟩ := hY
        obtain ⟨cd, ed, dc⟩ := hd7.at hx
        rw [List.getElem?_map] at ed
        obtain ⟨c, ec, rfl⟩ := Option.map_eq_some_iff.mp ed
        refine ⟨rfl, yesT ⟨_, rfl, x, c, r.st, rfl, dc.ks sB, by omega, ok.st8, ok.ok c (List.mem_of_getElem? ec), fun B2 u s2 hc => ?_⟩⟩
        have hD2 := s2 _ _ hDB
        have kp : ∀ v c, CardAt K T.CC B2 v c → CardAt K T.CC (upd B2 D (.lst (ys ++ [u]))) v c := fun v c h => h.kb (Kt.lst hD2) fun p dx fs e _ _ => by
          rw [upd_ne (fun z => by subst z; rw [hD2] at e; cases e)]
          exact e
        refine ⟨ys, hD2, by rw [ly]; exact small1000 (by omega), same_mut (sB.trans s2) hD, ys ++ [u], by rw [List.length_append, ly]; rfl, upd_same, ?_⟩
        rw [tk_succ' ec]
        exact ((hA.mono fun v c h => h.k s2).snoc hc).mono kp
      obtain ⟨sB, ys, ly, hDB, hA⟩ := hP
      rw [lcv, List.take_length] at hA
      have hSB := sB _ _ ha
      refine fun x dx hx hdx ne => ?_
      have s2 := new2 (C := T.RC) hx hdx ne
      refine ⟨x, dx, sa, D, r, ys, rfl, upd_same, ne_new hSB hx, ne_new hDB hx, s2 _ _ hSB, s2 _ _ hDB, hA.mono (fun _ _ h => h.k s2), ok, fun H8 bu8 hR => ⟨rfl, ?_⟩⟩
      have s8 := sB.trans (made_same hx hdx ne bu8)
      have ha8 := s8 _ _ ha
      have hl8 := hl.k s8
      have hb8 := hb2.k s8
      have buX : Bu b H1 H8 := bu2.trans (Bu.of s8)
      have sH : Same H H1 := sA.trans s1
      have hbH : H b = none := none_of sA hb0
      clear s2 bu8 hA hDB sB hSB hD hd7 hl7 hx hdx ne bu2 hb2 hq hl ha s8 lcv
      refine ⟨_, rfl, _, rfl, _, rfl, sa, l, r, m, rfl, ha8, hl8, ok, sm, m2, fun H9 Tb us TT s9 hTn hTb dT ne ao l3 => ?_⟩
      have c1 : 1 ≤ r.cs.length := by
        have := sm.ne
        cases h : r.cs with
        | nil => exact absurd h this
        | cons _ _ => simp
      have nTb : Tb ≠ b := hb8.off hTn
      have L9 : LSt K T.CC T.RC H9 b sa l x Tb r us TT := ⟨hb8.k s9, nab, nlb, nTb, s9 _ _ ha8, hl8.k s9, hR.k s9, hTb, dT⟩
      have bu9 : Bu b H1 H9 := buX.trans (Bu.of s9)
      clear s9 hR hl8 hb8 ha8 buX hTn hTb dT
      refine ⟨_, rfl, by decide, by decide, ?_⟩
      refine for_range (fun t σ A => (∃ v9 v10 v11 v12 v13 v14 v15 : Option V, σ = [some (.ref a), some (.int (i : Nat)), some (.ref b), some (.ref sa), some (.ref l), some (.int (m : Nat)), some (.ref x), v7, some (.ref Tb), v9, v10, v11, v12, v13, v14, v15]) ∧ LSt K T.CC T.RC A b sa l x Tb r us TT ∧ Bu b H1 A) ⟨⟨_, _, _, _, _, _, _, rfl⟩, L9, bu9⟩ (fun t σ A ht hP => ?_) (fun σ A hP => ?_)
      · obtain ⟨⟨v9, v10, v11, v12, v13, v14, v15, rfl⟩, LA, buA⟩ := hP
        have ht3 : t < 3 := ht
        rw [Int.zero_add]
        refine ⟨_, rfl, Tb, us, rfl, .inl (SqL.of LA.tb), fun Lb nLb hLb => ?_⟩
        have sb := same_new (o := .lst us) hLb
        have L1 := LA.k sb
        have nLbb : Lb ≠ b := LA.bg.off hLb
        have nsL : sa ≠ Lb := fun z => by have e := LA.st; rw [z, hLb] at e; cases e
        have nlL : l ≠ Lb := fun z => by obtain ⟨_, e, _⟩ := LA.ls; rw [z, hLb] at e; cases e
        have M1 : BMid K A b Lb 3000 (upd A Lb (.lst us)) := ⟨L1.bg, fun z o n1 n2 e => sb _ _ e, us, TT.map sdD, upd_same, Dz.Dzs.ofDts L1.dt, fun d hd => by
          obtain ⟨s, hs, rfl⟩ := List.mem_map.mp hd
          exact it_sd ok (ao s hs), by rw [List.length_map]; exact l3⟩
        clear L1 sb
        generalize upd A Lb (.lst us) = A1 at M1 ⊢
        refine ⟨_, rfl, _, rfl, b, 3, rfl, M1.bk, by decide, by decide, fun A2 tk tkl u2 b2 => ?_⟩
        have M2 := M1.bu u2 b2 nLbb
        clear M1 u2 b2
        refine ⟨_, _, rfl, rfl, _, _, rfl, _, rfl, ?_⟩
        obtain ⟨n, en, n2⟩ : ∃ n : Nat, (if (1 : Int) + ((tk : Nat) : Int) < ((t : Nat) : Int) then (1 : Int) + ((tk : Nat) : Int) else ((t : Nat) : Int)) = (n : Nat) ∧ n ≤ 2 := by
          refine ⟨if 1 + tk < t then 1 + tk else t, ?_, ?_⟩
          all_goals repeat' split
          all_goals omega
        rw [en]
        refine ⟨by omega, by omega, ?_⟩
        rw [Int.toNat_natCast]
        have key : ∀ {Z : Hp} {mx : Nat}, BMid K A b Lb mx Z → LSt K T.CC T.RC Z b sa l x Tb r us TT ∧ Bu b H1 Z := fun {Z mx} MZ => by
          have uZ : Bu b A Z := fun z o nb e => MZ.old z o nb (fun q => by rw [q, hLb] at e; cases e) e
          exact ⟨LA.bu uZ MZ.bk, buA.trans uZ⟩
        refine for_range (fun j σ Z => (∃ v11 : Option V, σ = [some (.ref a), some (.int (i : Nat)), some (.ref b), some (.ref sa), some (.ref l), some (.int (m : Nat)), some (.ref x), v7, some (.ref Tb), some (.int (t : Nat)), some (.ref Lb), v11, v12, v13, v14, v15]) ∧ BMid K A b Lb (3000 + 2 * j) Z) ⟨⟨_, rfl⟩, M2⟩ (fun j σ Z hj hP => ?_) (fun σ Z hP => ?_)
        · obtain ⟨⟨v11', rfl⟩, MZ⟩ := hP
          obtain ⟨us1, ds1, a1, a2, a3, a4⟩ := MZ.tb
          have LZ := (key MZ).1
          refine ⟨_, rfl, _, rfl, _, rfl, _, rfl, b, Lb, sa, l, us1, ds1, r, rfl, MZ.bk, a1, a2, a3, by omega, ok, c1, LZ.st, LZ.ls, nab, nlb, nLbb, nsL, nlL, fun Y MY => ⟨⟨_, rfl⟩, (MZ.trans MY).more (by omega)⟩⟩
        · obtain ⟨⟨v11', rfl⟩, MZ⟩ := hP
          obtain ⟨us1, ds1, a1, a2, a3, a4⟩ := MZ.tb
          obtain ⟨LZ, buZ⟩ := key MZ
          clear key LA buA M2
          have th : ∀ d ∈ ds1, ThOk d := fun d hd => (a3 d hd).1
          have l4 : ds1.length ≤ 4000 := by omega
          obtain ⟨z1, z2, z3⟩ := sy_table (fun d hd => (a3 d hd).2) l4
          refine ⟨_, rfl, Lb, us1, ds1, N0 b Lb, rfl, nLb, fun z n => n.1, a1, a2, z1, z2, z3, ?_⟩
          refine ⟨_, rfl, _, rfl, _, rfl, _, rfl, sa, l, Lb, r, m, us1, ds1, N0 b Lb, rfl, LZ.st, LZ.ls, ok, a1, a2, th, l4, fun C dv sC dnC => ⟨_, _, rfl, ?_⟩⟩
          have SH := due_shows (m := m) ok l4
          have SHo := due_shows (m := 3 - m) ok l4
          have LC' := LZ.k sC
          have a1C := sC _ _ a1
          have a2C := a2.ks sC
          have buC := buZ.trans (Bu.of sC)
          clear LZ buZ MZ a1 a2 sC
          refine ⟨fun σ' Y => ∃ (g : Addr) (tt : Bool), σ' = [some (.ref a), some (.int (i : Nat)), some (.ref b), some (.ref sa), some (.ref l), some (.int (m : Nat)), some (.ref x), v7, some (.ref Tb), some (.int (t : Nat)), some (.ref Lb), v11', some (.str (PyData.list ds1).shown), some dv, some (.ref g), v15] ∧ Same C Y ∧ Kd.Is K tt Y g us1, ?_, ?_⟩
          · refine ⟨_, rfl, _, _, rfl, rfl, (by decide : (0 : Int) < 2), rfl, _, rfl, ite2 (fun _ => ⟨_, rfl, Lb, false, rfl, Same.refl _, SqL.of a1C⟩) (fun _ => ⟨_, rfl, Lb, us1, rfl, .inl ⟨SqL.of a1C, fun g hg => ⟨g, true, rfl, same_new hg, SqT.of upd_same⟩⟩⟩)⟩
          rintro σ' Y ⟨g, tt, rfl, sY, hg⟩
          have LY := LC'.k sY
          have a1Y := sY _ _ a1C
          have a2Y := a2C.ks sY
          have dnY := dnC.ks sY
          have buY := buC.trans (Bu.of sY)
          clear LC' a1C a2C dnC buC sY
          refine ⟨_, rfl, _, rfl, _, rfl, rfl, rfl, x, g, r, m, tt, us1, ds1, N0 b Lb, rfl, LY.rm, ok, hg, a2Y, th, l4, fun D1 dv1 s1' dn1 => ?_⟩
          refine ⟨dv1, _, rfl, Dz.Dn.toDp _ _ dn1, SH.sh, SH.nd, SH.dep, SH.fit, _, rfl, dv, _, rfl, Dz.Dn.toDp _ _ (dnY.ks s1'), SH.sh, SH.nd, SH.dep, SH.fit, rfl, _, rfl, iteN (by simp) ?_⟩
          have LD := LY.k s1'
          have a1D := s1' _ _ a1Y
          have a2D := a2Y.ks s1'
          have hgD := hg.keep s1'
          have buD := buY.trans (Bu.of s1')
          clear LY a1Y a2Y hg buY dn1 dnY s1'
          refine ⟨_, rfl, Lb, us1, ds1, N0 b Lb, rfl, nLb, fun z n => n.1, a1D, a2D, z1, z2, z3, _, rfl, rfl, _, rfl, iteN (by simp) ?_⟩
          refine ⟨_, rfl, _, _, rfl, rfl, ?_⟩
          dsimp only
          rw [show (3 : Int) - ((m : Nat) : Int) = ((3 - m : Nat) : Int) from by omega]
          refine ⟨_, rfl, rfl, _, rfl, ite2 (fun c => ?_) (fun c => ⟨⟨_, _, _, _, _, _, _, rfl⟩, LD, buD⟩)⟩
          refine ⟨_, rfl, _, rfl, _, rfl, rfl, rfl, x, g, r, 3 - m, tt, us1, ds1, N0 b Lb, rfl, LD.rm, ok, hgD, a2D, th, l4, fun E1 ev1 sE dnE => ?_⟩
          have LE := LD.k sE
          refine ⟨ev1, _, rfl, Dz.Dn.toDp _ _ dnE, SHo.sh, SHo.nd, SHo.dep, SHo.fit, _, rfl, _, rfl, _, rfl, _, rfl, sa, l, Lb, r, 3 - m, us1, ds1, N0 b Lb, rfl, LE.st, LE.ls, ok, sE _ _ a1D, a2D.ks sE, th, l4, fun F1 fv sF dnF => ?_⟩
          refine ⟨fv, _, rfl, Dz.Dn.toDp _ _ dnF, SHo.sh, SHo.nd, SHo.dep, SHo.fit, rfl, _, rfl, iteN (by simp) ?_⟩
          exact ⟨⟨_, _, _, _, _, _, _, rfl⟩, LE.k sF, buD.trans (Bu.of (sE.trans sF))⟩
      · obtain ⟨⟨v9, v10, v11, v12, v13, v14, v15, rfl⟩, LA, buA⟩ := hP
        refine ⟨_, rfl, by show 0 ≤ sizeLine; decide, fun e0 he0 => ?_⟩
        have s0 := same_new (o := .lst []) he0
        have h0 : upd A e0 (.lst []) e0 = some (.lst []) := upd_same
        have L0 := LA.k s0
        generalize upd A e0 (.lst []) = A0 at s0 h0 L0 ⊢
        refine ⟨_, rfl, rfl, rfl, x, e0, r, m, false, [], [], fun _ => True, rfl, L0.rm, ok, SqL.of h0, .nil, (fun d hd => by cases hd), by decide, fun D1 dv1 s1' dn1 => ?_⟩
        have SH := due_shows (m := m) ok (ds := []) (by decide)
        rw [due_nil] at dn1 SH
        refine ⟨dv1, _, rfl, Dz.Dn.toDp _ _ dn1, SH.sh, SH.nd, SH.dep, SH.fit, by show 1 ≤ sizeLine; decide, fun q hq => ?_⟩
        have dq : Dp K (upd D1 q (.tup [.str "start"])) (.ref q) (.tuple [.str "start"]) := .tup (SqT.of upd_same) (.cons (.str _) .nil)
        refine ⟨.ref q, _, rfl, dq, SH.sh, SH.nd, SH.dep, SH.fit, rfl, _, rfl, iteN (by simp) ?_⟩
        have buF := buA.trans (Bu.of ((s0.trans s1').trans (same_new (o := .tup [.str "start"]) hq)))
        exact ⟨⟨_, _, _, _, _, _, _, _, _, _, _, _, _, _, _, rfl⟩, fun q o e => buF q o (fun z => by rw [z, hbH] at e; cases e) (sH q o e)⟩
    · exact k _ hP.2
end
end K59

namespace Hd
open PySem PySem.W PySem.Spec PyProof.Rows L2
/-- what an object names, as far as a law's facts look -/
def kids (o : Obj) : List Addr := match o.data with
  | .dict es _ => es.toList.flatMap fun e => He.refV e.val
  | .func fd => He.refV fd.code ++ He.refV fd.kwdefaults
  | .cls cd => [cd.ns]
  | .fields vs => (match o.cls with
    | .type n => (match n == "property" with
      | true => vs.toList.flatMap He.refV
      | false => [])
    | _ => [])
  | _ => []
def nextA (g : Addr → Option Obj) (as : List Addr) : List Addr := as.flatMap fun a => match g a with
  | some o => kids o
  | none => []
/-- n levels below -/
def lev (g : Addr → Option Obj) : Nat → List Addr → List Addr
  | 0, as => as
  | n + 1, as => as ++ lev g n (nextA g as)
def asH (g : Addr → Option Obj) : List Addr := mainGlobals :: cStatics :: lev g 4 (nextA g [mainGlobals])
/-- the function at an address -/
def fdA (K : PySem.W.Frag) (a : Addr) : Option FuncData := (K.lookup a).bind fun o => match o.data with
  | .func F => some F
  | _ => none
theorem fdA_some {K : PySem.W.Frag} {a : Addr} {F : FuncData} (e : fdA K a = some F) : ∃ cl di sl, K.lookup a = some ⟨cl, di, .func F, sl⟩ := by
  obtain ⟨⟨cl, di, dt, sl⟩, l, e2⟩ := Option.bind_eq_some_iff.mp e
  cases dt with
  | func G => exact ⟨cl, di, sl, by rw [l, Option.some.inj (show some G = some F from e2)]⟩
  | _ => cases e2
theorem fdA_of {K : PySem.W.Frag} {a : Addr} {cl : Value} {di : Option Addr} {sl : Array (Option Value)} {F : FuncData} (l : K.lookup a = some ⟨cl, di, .func F, sl⟩) : fdA K a = some F := by
  unfold fdA
  rw [l] <;> rfl
/-- what the text says of a function -/
def told (F : FuncData) : (Str × Str × Arguments) × (FuncBody × Scope) × (Addr × List (Str × Addr)) × (Value × Addr) :=
  ((F.name, F.qualname, F.params), (F.body, F.scope), (F.globals, F.closure), (F.defaults, F.builtins))
abbrev FnV : Type := Option ((Str × Str × Arguments) × (FuncBody × Scope) × (Addr × List (Str × Addr)) × (Value × Addr))
structure Df where
  at_ : PySem.W.Frag → Addr
  name : Str
  qual : Str
  st : Stmt
def Df.val (d : Df) : FnV := some ((d.name, d.qual, defArgs d.st), (.stmts (defBody d.st), defScope d.st), (mainGlobals, []), (.none, builtinsNs))
def Df.ok (K : PySem.W.Frag) (d : Df) : Bool := keepIn K (.ref (d.at_ K)) && (fdA K (d.at_ K)).any fun F => codeIn K F.code d.qual
theorem Df.get {K : PySem.W.Frag} {d : Df} (e : (fdA K (d.at_ K)).map told = d.val) (c : d.ok K = true) : ∃ oc od osl kV doc pm an cdv ct,
    K.lookup (d.at_ K) = some ⟨oc, od, .func (fnOf d.name d.qual (defArgs d.st) (defBody d.st) (defScope d.st) .none kV doc pm an cdv ct), osl⟩ ∧ codeIn K cdv d.qual = true ∧ keepIn K (.ref (d.at_ K)) = true := by
  obtain ⟨kp, c2⟩ := He.ba c
  obtain ⟨F, eF, e2⟩ := Option.map_eq_some_iff.mp e
  rw [eF] at c2
  obtain ⟨cl, di, sl, l⟩ := fdA_some eF
  obtain ⟨f1, f2, f3, f4, f5, f6, f7, f8, f9, f10, f11, f12, f13, f14, f15⟩ := F
  obtain ⟨e3, e4⟩ := Prod.mk.inj e2
  obtain ⟨rfl, e5⟩ := Prod.mk.inj e3
  obtain ⟨rfl, rfl⟩ := Prod.mk.inj e5
  obtain ⟨e6, e7⟩ := Prod.mk.inj e4
  obtain ⟨rfl, rfl⟩ := Prod.mk.inj e6
  obtain ⟨e8, e9⟩ := Prod.mk.inj e7
  obtain ⟨rfl, rfl⟩ := Prod.mk.inj e8
  obtain ⟨rfl, rfl⟩ := Prod.mk.inj e9
  exact ⟨cl, di, sl, f9, f10, f11, f12, f13, f14, l, c2, kp⟩
/-- the dict of the keyword-only defaults -/
def kwA (K : PySem.W.Frag) (a : Addr) : Addr := match (fdA K a).map FuncData.kwdefaults with
  | some (.ref x) => x
  | _ => 0
def kwB (K : PySem.W.Frag) (a : Addr) : Bool := match (fdA K a).map FuncData.kwdefaults with
  | some (.ref _) => true
  | _ => false
theorem kw_eq {K : PySem.W.Frag} {a : Addr} {oc : Value} {od : Option Addr} {fd : FuncData} {sl : Array (Option Value)} (l : K.lookup a = some ⟨oc, od, .func fd, sl⟩) (h : kwB K a = true) : fd.kwdefaults = .ref (kwA K a) := by
  unfold kwB at h
  unfold kwA
  rw [fdA_of l] at h ⊢
  have h2 : (match some fd.kwdefaults with | some (.ref _) => true | _ => false) = true := h
  show fd.kwdefaults = .ref (match some fd.kwdefaults with | some (.ref x) => x | _ => 0)
  cases e : fd.kwdefaults with
  | ref x => rfl
  | _ =>
    rw [e] at h2
    cases h2
/-- the value x of the dict at a, if it is an object -/
def inA (K : PySem.W.Frag) (a : Addr) (x : Str) : Addr := match nsIn K a x with
  | some (some (.ref b)) => b
  | _ => 0
def tkA (K : PySem.W.Frag) (x : Str) : Tok := match nsIn K mainGlobals x with
  | some (some (.str _ t)) => t
  | some (some (.int _ t)) => t
  | _ => 0
/-- a property's getter, the rest of its record -/
def pgA (K : PySem.W.Frag) (y : Addr) : Addr := match recIn K y "property" with
  | some (.ref x :: _) => x
  | _ => 0
def pgR (K : PySem.W.Frag) (y : Addr) : List Value := match recIn K y "property" with
  | some (_ :: r) => r
  | _ => []
/-- an int of a class, read off the class -/
def ciB (K : PySem.W.Frag) (C : Addr) (x : Str) (i : Int) : Bool := match findCls K (.ref C) (.type "type") x with
  | some (.val (.int j _)) => decide (j = i)
  | _ => false
theorem ci_ok {K : PySem.W.Frag} {C : Addr} {x : Str} {i : Int} (h : ciB K C x i = true) : ∃ t, findCls K (.ref C) (.type "type") x = some (.val (.int i t)) := by
  unfold ciB at h
  cases e : findCls K (.ref C) (.type "type") x with
  | none =>
    rw [e] at h
    cases h
  | some c =>
    rw [e] at h
    cases c with
    | get => cases h
    | val v =>
      cases v with
      | int j t =>
        have e2 : j = i := of_decide_eq_true h
        exact ⟨t, by rw [e2]⟩
      | _ => cases h
/-! the Hook -/
abbrev Al : Type := Bool × List FnV
def obs (ds : List Df) (ex : PySem.W.Frag → Bool) (K : PySem.W.Frag) : Al := ((ds.all fun d => d.ok K) && ex K, ds.map fun d => (fdA K (d.at_ K)).map told)
def val (ds : List Df) : Al := (true, ds.map Df.val)
def Says (ds : List Df) (ex : PySem.W.Frag → Bool) (K : PySem.W.Frag) : Prop := obs ds ex K = val ds
def obsG (ds : List Df) (ex : PySem.W.Frag → Bool) (g : Addr → Option Obj) : Al := obs ds ex (He.frG g (asH g))
def hook (ds : List Df) (ex : PySem.W.Frag → Bool) : PySem.W.Hook where
  α := Al
  obs := fun s => obsG ds ex s.heap.get?
  val := fun _ => val ds
  says := fun _ h => ∃ K : PySem.W.Frag, K.In h ∧ Says ds ex K
  of := fun _ _ e => ⟨_, He.frG_in, e⟩
  keeps := fun _ _ _ y k => y.elim fun K z => ⟨K, PySem.W.Frag.In.keeps z.1 k, z.2⟩
theorem obsG_eq {ds : List Df} {ex : PySem.W.Frag → Bool} {g : Addr → Option Obj} {s : Shared} (h : ∀ a, g a = s.heap.get? a) : obsG ds ex g = (hook ds ex).obs s :=
  congrArg (obsG ds ex) (funext h)
section
variable {ds : List Df} {ex : PySem.W.Frag → Bool} {K : PySem.W.Frag}
theorem Says.exs (c : Says ds ex K) : ex K = true := (He.ba (congrArg (fun z : Al => z.1) c)).2
theorem Says.df (c : Says ds ex K) (i : Nat) {d : Df} (h : ds[i]? = some d := by rfl) : ∃ oc od osl kV doc pm an cdv ct,
    K.lookup (d.at_ K) = some ⟨oc, od, .func (fnOf d.name d.qual (defArgs d.st) (defBody d.st) (defScope d.st) .none kV doc pm an cdv ct), osl⟩ ∧ codeIn K cdv d.qual = true ∧ keepIn K (.ref (d.at_ K)) = true := by
  have c2 := (He.ba (show ((ds.all fun d => d.ok K) && ex K) = true from congrArg (fun z : Al => z.1) c)).1
  have e : ds.map (fun d => (fdA K (d.at_ K)).map told) = ds.map Df.val := congrArg (fun z : Al => z.2) c
  have m := List.mem_of_getElem? h
  exact Df.get (List.map_inj_left.mp e d m) (List.all_eq_true.mp c2 d m)
end
/-- a law of the GOk kind over a Hook's facts -/
theorem walk_gofE {l : PySem.W.OpenLaw} {n k : Nat} {q : Program} {loose : List Str} {XP : (Str → Option Value) → Heap → Prop} {YP : World → Heap → Prop} {d : DefRec} {CX : World → CXT} {x : Str}
    (hn : l.most = some n) (hn2 : n ≤ sizeLine) (hdf : d.params.defaults = []) (hr : Room k callerA)
    (F : ∀ (w : World) (mg : Str → Option Value) (fa : Addr) (h : Heap), YP w h → h.Ns mainGlobals mg → mg d.name = some (.ref fa) →
      ∃ (K : PySem.W.Frag) (fd : FuncData) (sp : Sp), K.In h ∧ (∀ (s : Shared) (u : Value), BindsTo s fd ⟨[u], []⟩ [(x, u)]) ∧
        (∀ (H : Hp) (a : Addr) (ns : List Int), ns.length ≤ n → Only H → SqL K H a (ns.map V.int) → sp [.ref a] H (fun v _ => v = .bl true) fun _ _ _ => False) ∧
        ∀ base : Heap, K.In base → base.Ns mainGlobals mg → Rp.GOk l.prog w K mg base (CX w) k fa fd [x] sp)
    (hCX : ∀ (w : World) (H : Hp) (s : Shared) (e : Value) (t : Shared), CX w [] H s (fun _ _ _ => False) e t → False) :
    PySem.W.WalkO q loose XP YP l.row.toRowW d [] (fun f vs => PySem.call f vs) := by
  refine Att.attach_call hn hdf fun w s0 s1 mg mb fa o pm cd doc a vs ns G Y ho hd hcd hmg hobj hints hlen hg => ?_
  obtain ⟨K, fd, sp, KX, hb, hsp, hF⟩ := F w mg fa _ Y G.T.g hmg
  exact Rp.law_gcall KX G.T.g G.T.b G.T.builtins G.T.nolimit hg hobj hints (Nat.le_trans hlen hn2) hr hF hb (fun H hO hS => hsp H a ns hlen hO hS) fun H e t => hCX w H s1 e t
end Hd

namespace K59
open PySem L2 Wm TL Dv PySem.W
theorem all_mk {l : PySem.W.OpenLaw} {w : World} {K : PySem.W.Frag} {h : Heap} {mg : Str → Option Value} {fa : Addr} (X : K.In h) (G : h.Ns mainGlobals mg) (hfa : mg "law" = some (.ref fa))
    {xC : Addr}
    (axC : PySem.W.nsIn K mainGlobals "Card" = some (some (.ref xC)))
    {xR : Addr}
    (axR : PySem.W.nsIn K mainGlobals "Room" = some (some (.ref xR)))
    {x_is_whole : Addr} {od_is_whole an_is_whole : Option Addr} {sl_is_whole : Array (Option Value)} {oc_is_whole dc_is_whole pm_is_whole cd_is_whole ct_is_whole : Value}
    {kV_is_whole : Value}
    (a_is_whole : PySem.W.nsIn K mainGlobals "is_whole" = some (some (.ref x_is_whole)))
    (l_is_whole : K.lookup x_is_whole = some ⟨oc_is_whole, od_is_whole, .func (PySem.W.fnOf "is_whole" "is_whole" (defArgs s_is_whole) (defBody s_is_whole) (defScope s_is_whole) .none kV_is_whole dc_is_whole pm_is_whole an_is_whole cd_is_whole ct_is_whole), sl_is_whole⟩)
    (c_is_whole : PySem.W.codeIn K cd_is_whole "is_whole" = true)
    (k_is_whole : PySem.W.keepIn K (.ref x_is_whole) = true)
    {x_is_whole_within : Addr} {od_is_whole_within an_is_whole_within : Option Addr} {sl_is_whole_within : Array (Option Value)} {oc_is_whole_within dc_is_whole_within pm_is_whole_within cd_is_whole_within ct_is_whole_within : Value}
    {kV_is_whole_within : Value}
    (a_is_whole_within : PySem.W.nsIn K mainGlobals "is_whole_within" = some (some (.ref x_is_whole_within)))
    (l_is_whole_within : K.lookup x_is_whole_within = some ⟨oc_is_whole_within, od_is_whole_within, .func (PySem.W.fnOf "is_whole_within" "is_whole_within" (defArgs s_is_whole_within) (defBody s_is_whole_within) (defScope s_is_whole_within) .none kV_is_whole_within dc_is_whole_within pm_is_whole_within an_is_whole_within cd_is_whole_within ct_is_whole_within), sl_is_whole_within⟩)
    (c_is_whole_within : PySem.W.codeIn K cd_is_whole_within "is_whole_within" = true)
    (k_is_whole_within : PySem.W.keepIn K (.ref x_is_whole_within) = true)
    {x_is_sequence : Addr} {od_is_sequence an_is_sequence : Option Addr} {sl_is_sequence : Array (Option Value)} {oc_is_sequence dc_is_sequence pm_is_sequence cd_is_sequence ct_is_sequence : Value}
    {kV_is_sequence : Value}
    (a_is_sequence : PySem.W.nsIn K mainGlobals "is_sequence" = some (some (.ref x_is_sequence)))
    (l_is_sequence : K.lookup x_is_sequence = some ⟨oc_is_sequence, od_is_sequence, .func (PySem.W.fnOf "is_sequence" "is_sequence" (defArgs s_is_sequence) (defBody s_is_sequence) (defScope s_is_sequence) .none kV_is_sequence dc_is_sequence pm_is_sequence an_is_sequence cd_is_sequence ct_is_sequence), sl_is_sequence⟩)
    (c_is_sequence : PySem.W.codeIn K cd_is_sequence "is_sequence" = true)
    (k_is_sequence : PySem.W.keepIn K (.ref x_is_sequence) = true)
    {x_is_number : Addr} {od_is_number an_is_number : Option Addr} {sl_is_number : Array (Option Value)} {oc_is_number dc_is_number pm_is_number cd_is_number ct_is_number : Value}
    {kV_is_number : Value}
    (a_is_number : PySem.W.nsIn K mainGlobals "is_number" = some (some (.ref x_is_number)))
    (l_is_number : K.lookup x_is_number = some ⟨oc_is_number, od_is_number, .func (PySem.W.fnOf "is_number" "is_number" (defArgs s_is_number) (defBody s_is_number) (defScope s_is_number) .none kV_is_number dc_is_number pm_is_number an_is_number cd_is_number ct_is_number), sl_is_number⟩)
    (c_is_number : PySem.W.codeIn K cd_is_number "is_number" = true)
    (k_is_number : PySem.W.keepIn K (.ref x_is_number) = true)
    {x_is_station : Addr} {od_is_station an_is_station : Option Addr} {sl_is_station : Array (Option Value)} {oc_is_station dc_is_station pm_is_station cd_is_station ct_is_station : Value}
    {kV_is_station : Value}
    (a_is_station : PySem.W.nsIn K mainGlobals "is_station" = some (some (.ref x_is_station)))
    (l_is_station : K.lookup x_is_station = some ⟨oc_is_station, od_is_station, .func (PySem.W.fnOf "is_station" "is_station" (defArgs s_is_station) (defBody s_is_station) (defScope s_is_station) .none kV_is_station dc_is_station pm_is_station an_is_station cd_is_station ct_is_station), sl_is_station⟩)
    (c_is_station : PySem.W.codeIn K cd_is_station "is_station" = true)
    (k_is_station : PySem.W.keepIn K (.ref x_is_station) = true)
    {x_is_crew : Addr} {od_is_crew an_is_crew : Option Addr} {sl_is_crew : Array (Option Value)} {oc_is_crew dc_is_crew pm_is_crew cd_is_crew ct_is_crew : Value}
    {kV_is_crew : Value}
    (a_is_crew : PySem.W.nsIn K mainGlobals "is_crew" = some (some (.ref x_is_crew)))
    (l_is_crew : K.lookup x_is_crew = some ⟨oc_is_crew, od_is_crew, .func (PySem.W.fnOf "is_crew" "is_crew" (defArgs s_is_crew) (defBody s_is_crew) (defScope s_is_crew) .none kV_is_crew dc_is_crew pm_is_crew an_is_crew cd_is_crew ct_is_crew), sl_is_crew⟩)
    (c_is_crew : PySem.W.codeIn K cd_is_crew "is_crew" = true)
    (k_is_crew : PySem.W.keepIn K (.ref x_is_crew) = true)
    {x_is_stations : Addr} {od_is_stations an_is_stations : Option Addr} {sl_is_stations : Array (Option Value)} {oc_is_stations dc_is_stations pm_is_stations cd_is_stations ct_is_stations : Value}
    {kV_is_stations : Value}
    (a_is_stations : PySem.W.nsIn K mainGlobals "is_stations" = some (some (.ref x_is_stations)))
    (l_is_stations : K.lookup x_is_stations = some ⟨oc_is_stations, od_is_stations, .func (PySem.W.fnOf "is_stations" "is_stations" (defArgs s_is_stations) (defBody s_is_stations) (defScope s_is_stations) .none kV_is_stations dc_is_stations pm_is_stations an_is_stations cd_is_stations ct_is_stations), sl_is_stations⟩)
    (c_is_stations : PySem.W.codeIn K cd_is_stations "is_stations" = true)
    (k_is_stations : PySem.W.keepIn K (.ref x_is_stations) = true)
    {x_is_order : Addr} {od_is_order an_is_order : Option Addr} {sl_is_order : Array (Option Value)} {oc_is_order dc_is_order pm_is_order cd_is_order ct_is_order : Value}
    {kV_is_order : Value}
    (a_is_order : PySem.W.nsIn K mainGlobals "is_order" = some (some (.ref x_is_order)))
    (l_is_order : K.lookup x_is_order = some ⟨oc_is_order, od_is_order, .func (PySem.W.fnOf "is_order" "is_order" (defArgs s_is_order) (defBody s_is_order) (defScope s_is_order) .none kV_is_order dc_is_order pm_is_order an_is_order cd_is_order ct_is_order), sl_is_order⟩)
    (c_is_order : PySem.W.codeIn K cd_is_order "is_order" = true)
    (k_is_order : PySem.W.keepIn K (.ref x_is_order) = true)
    {x_are_counts : Addr} {od_are_counts an_are_counts : Option Addr} {sl_are_counts : Array (Option Value)} {oc_are_counts dc_are_counts pm_are_counts cd_are_counts ct_are_counts : Value}
    {kV_are_counts : Value}
    (a_are_counts : PySem.W.nsIn K mainGlobals "are_counts" = some (some (.ref x_are_counts)))
    (l_are_counts : K.lookup x_are_counts = some ⟨oc_are_counts, od_are_counts, .func (PySem.W.fnOf "are_counts" "are_counts" (defArgs s_are_counts) (defBody s_are_counts) (defScope s_are_counts) .none kV_are_counts dc_are_counts pm_are_counts an_are_counts cd_are_counts ct_are_counts), sl_are_counts⟩)
    (c_are_counts : PySem.W.codeIn K cd_are_counts "are_counts" = true)
    (k_are_counts : PySem.W.keepIn K (.ref x_are_counts) = true)
    {x_is_move : Addr} {od_is_move an_is_move : Option Addr} {sl_is_move : Array (Option Value)} {oc_is_move dc_is_move pm_is_move cd_is_move ct_is_move : Value}
    {kV_is_move : Value}
    (a_is_move : PySem.W.nsIn K mainGlobals "is_move" = some (some (.ref x_is_move)))
    (l_is_move : K.lookup x_is_move = some ⟨oc_is_move, od_is_move, .func (PySem.W.fnOf "is_move" "is_move" (defArgs s_is_move) (defBody s_is_move) (defScope s_is_move) .none kV_is_move dc_is_move pm_is_move an_is_move cd_is_move ct_is_move), sl_is_move⟩)
    (c_is_move : PySem.W.codeIn K cd_is_move "is_move" = true)
    (k_is_move : PySem.W.keepIn K (.ref x_is_move) = true)
    {x_are_moves : Addr} {od_are_moves an_are_moves : Option Addr} {sl_are_moves : Array (Option Value)} {oc_are_moves dc_are_moves pm_are_moves cd_are_moves ct_are_moves : Value}
    {kV_are_moves : Value}
    (a_are_moves : PySem.W.nsIn K mainGlobals "are_moves" = some (some (.ref x_are_moves)))
    (l_are_moves : K.lookup x_are_moves = some ⟨oc_are_moves, od_are_moves, .func (PySem.W.fnOf "are_moves" "are_moves" (defArgs s_are_moves) (defBody s_are_moves) (defScope s_are_moves) .none kV_are_moves dc_are_moves pm_are_moves an_are_moves cd_are_moves ct_are_moves), sl_are_moves⟩)
    (c_are_moves : PySem.W.codeIn K cd_are_moves "are_moves" = true)
    (k_are_moves : PySem.W.keepIn K (.ref x_are_moves) = true)
    {x_cinit : Addr} {od_cinit an_cinit : Option Addr} {sl_cinit : Array (Option Value)} {oc_cinit dc_cinit pm_cinit cd_cinit ct_cinit : Value}
    {xF xO xM : Addr}
    (a_cinit : PySem.W.findIn K (.ref xC) "__init__" = some (some (.ref x_cinit)))
    (i_cinit : PySem.W.isFn K (.ref x_cinit) = true)
    (l_cinit : K.lookup x_cinit = some ⟨oc_cinit, od_cinit, .func (PySem.W.fnOf "__init__" "Card.__init__" (defArgs s_cinit) (defBody s_cinit) (defScope s_cinit) .none (.ref xF) dc_cinit pm_cinit an_cinit cd_cinit ct_cinit), sl_cinit⟩)
    (c_cinit : PySem.W.codeIn K cd_cinit "Card.__init__" = true)
    (k_cinit : PySem.W.keepIn K (.ref x_cinit) = true)
    (e_owed : PySem.W.nsIn K xF "owed" = some (some (.ref xO)))
    (e_moves : PySem.W.nsIn K xF "moves" = some (some (.ref xM)))
    {x_check_crew : Addr} {od_check_crew an_check_crew : Option Addr} {sl_check_crew : Array (Option Value)} {oc_check_crew dc_check_crew pm_check_crew cd_check_crew ct_check_crew : Value}
    {kV_check_crew : Value}
    (a_check_crew : PySem.W.nsIn K mainGlobals "check_crew" = some (some (.ref x_check_crew)))
    (l_check_crew : K.lookup x_check_crew = some ⟨oc_check_crew, od_check_crew, .func (PySem.W.fnOf "check_crew" "check_crew" (defArgs s_check_crew) (defBody s_check_crew) (defScope s_check_crew) .none kV_check_crew dc_check_crew pm_check_crew an_check_crew cd_check_crew ct_check_crew), sl_check_crew⟩)
    (c_check_crew : PySem.W.codeIn K cd_check_crew "check_crew" = true)
    (k_check_crew : PySem.W.keepIn K (.ref x_check_crew) = true)
    {x_check_card : Addr} {od_check_card an_check_card : Option Addr} {sl_check_card : Array (Option Value)} {oc_check_card dc_check_card pm_check_card cd_check_card ct_check_card : Value}
    {kV_check_card : Value}
    (a_check_card : PySem.W.nsIn K mainGlobals "check_card" = some (some (.ref x_check_card)))
    (l_check_card : K.lookup x_check_card = some ⟨oc_check_card, od_check_card, .func (PySem.W.fnOf "check_card" "check_card" (defArgs s_check_card) (defBody s_check_card) (defScope s_check_card) .none kV_check_card dc_check_card pm_check_card an_check_card cd_check_card ct_check_card), sl_check_card⟩)
    (c_check_card : PySem.W.codeIn K cd_check_card "check_card" = true)
    (k_check_card : PySem.W.keepIn K (.ref x_check_card) = true)
    {x_rinit : Addr} {od_rinit an_rinit : Option Addr} {sl_rinit : Array (Option Value)} {oc_rinit dc_rinit pm_rinit cd_rinit ct_rinit : Value}
    {kV_rinit : Value}
    (a_rinit : PySem.W.findIn K (.ref xR) "__init__" = some (some (.ref x_rinit)))
    (i_rinit : PySem.W.isFn K (.ref x_rinit) = true)
    (l_rinit : K.lookup x_rinit = some ⟨oc_rinit, od_rinit, .func (PySem.W.fnOf "__init__" "Room.__init__" (defArgs s_rinit) (defBody s_rinit) (defScope s_rinit) .none kV_rinit dc_rinit pm_rinit an_rinit cd_rinit ct_rinit), sl_rinit⟩)
    (c_rinit : PySem.W.codeIn K cd_rinit "Room.__init__" = true)
    (k_rinit : PySem.W.keepIn K (.ref x_rinit) = true)
    {x_rstart : Addr} {od_rstart an_rstart : Option Addr} {sl_rstart : Array (Option Value)} {oc_rstart dc_rstart pm_rstart cd_rstart ct_rstart : Value}
    {kV_rstart : Value}
    (a_rstart : PySem.W.findIn K (.ref xR) "start" = some (some (.ref x_rstart)))
    (i_rstart : PySem.W.isFn K (.ref x_rstart) = true)
    (l_rstart : K.lookup x_rstart = some ⟨oc_rstart, od_rstart, .func (PySem.W.fnOf "start" "Room.start" (defArgs s_rstart) (defBody s_rstart) (defScope s_rstart) .none kV_rstart dc_rstart pm_rstart an_rstart cd_rstart ct_rstart), sl_rstart⟩)
    (c_rstart : PySem.W.codeIn K cd_rstart "Room.start" = true)
    (k_rstart : PySem.W.keepIn K (.ref x_rstart) = true)
    {x_card_index : Addr} {od_card_index an_card_index : Option Addr} {sl_card_index : Array (Option Value)} {oc_card_index dc_card_index pm_card_index cd_card_index ct_card_index : Value}
    {kV_card_index : Value}
    (a_card_index : PySem.W.findIn K (.ref xR) "card_index" = some (some (.ref x_card_index)))
    (i_card_index : PySem.W.isFn K (.ref x_card_index) = true)
    (l_card_index : K.lookup x_card_index = some ⟨oc_card_index, od_card_index, .func (PySem.W.fnOf "card_index" "Room.card_index" (defArgs s_card_index) (defBody s_card_index) (defScope s_card_index) .none kV_card_index dc_card_index pm_card_index an_card_index cd_card_index ct_card_index), sl_card_index⟩)
    (c_card_index : PySem.W.codeIn K cd_card_index "Room.card_index" = true)
    (k_card_index : PySem.W.keepIn K (.ref x_card_index) = true)
    {x_card_of : Addr} {od_card_of an_card_of : Option Addr} {sl_card_of : Array (Option Value)} {oc_card_of dc_card_of pm_card_of cd_card_of ct_card_of : Value}
    {kV_card_of : Value}
    (a_card_of : PySem.W.findIn K (.ref xR) "card_of" = some (some (.ref x_card_of)))
    (i_card_of : PySem.W.isFn K (.ref x_card_of) = true)
    (l_card_of : K.lookup x_card_of = some ⟨oc_card_of, od_card_of, .func (PySem.W.fnOf "card_of" "Room.card_of" (defArgs s_card_of) (defBody s_card_of) (defScope s_card_of) .none kV_card_of dc_card_of pm_card_of an_card_of cd_card_of ct_card_of), sl_card_of⟩)
    (c_card_of : PySem.W.codeIn K cd_card_of "Room.card_of" = true)
    (k_card_of : PySem.W.keepIn K (.ref x_card_of) = true)
    {x_grade_in : Addr} {od_grade_in an_grade_in : Option Addr} {sl_grade_in : Array (Option Value)} {oc_grade_in dc_grade_in pm_grade_in cd_grade_in ct_grade_in : Value}
    {kV_grade_in : Value}
    (a_grade_in : PySem.W.findIn K (.ref xR) "grade_in" = some (some (.ref x_grade_in)))
    (i_grade_in : PySem.W.isFn K (.ref x_grade_in) = true)
    (l_grade_in : K.lookup x_grade_in = some ⟨oc_grade_in, od_grade_in, .func (PySem.W.fnOf "grade_in" "Room.grade_in" (defArgs s_grade_in) (defBody s_grade_in) (defScope s_grade_in) .none kV_grade_in dc_grade_in pm_grade_in an_grade_in cd_grade_in ct_grade_in), sl_grade_in⟩)
    (c_grade_in : PySem.W.codeIn K cd_grade_in "Room.grade_in" = true)
    (k_grade_in : PySem.W.keepIn K (.ref x_grade_in) = true)
    {x_open_count : Addr} {od_open_count an_open_count : Option Addr} {sl_open_count : Array (Option Value)} {oc_open_count dc_open_count pm_open_count cd_open_count ct_open_count : Value}
    {kV_open_count : Value}
    (a_open_count : PySem.W.nsIn K mainGlobals "open_count" = some (some (.ref x_open_count)))
    (l_open_count : K.lookup x_open_count = some ⟨oc_open_count, od_open_count, .func (PySem.W.fnOf "open_count" "open_count" (defArgs s_open_count) (defBody s_open_count) (defScope s_open_count) .none kV_open_count dc_open_count pm_open_count an_open_count cd_open_count ct_open_count), sl_open_count⟩)
    (c_open_count : PySem.W.codeIn K cd_open_count "open_count" = true)
    (k_open_count : PySem.W.keepIn K (.ref x_open_count) = true)
    {x_rallowed : Addr} {od_rallowed an_rallowed : Option Addr} {sl_rallowed : Array (Option Value)} {oc_rallowed dc_rallowed pm_rallowed cd_rallowed ct_rallowed : Value}
    {kV_rallowed : Value}
    (a_rallowed : PySem.W.findIn K (.ref xR) "allowed" = some (some (.ref x_rallowed)))
    (i_rallowed : PySem.W.isFn K (.ref x_rallowed) = true)
    (l_rallowed : K.lookup x_rallowed = some ⟨oc_rallowed, od_rallowed, .func (PySem.W.fnOf "allowed" "Room.allowed" (defArgs s_rallowed) (defBody s_rallowed) (defScope s_rallowed) .none kV_rallowed dc_rallowed pm_rallowed an_rallowed cd_rallowed ct_rallowed), sl_rallowed⟩)
    (c_rallowed : PySem.W.codeIn K cd_rallowed "Room.allowed" = true)
    (k_rallowed : PySem.W.keepIn K (.ref x_rallowed) = true)
    {x_crews_at : Addr} {od_crews_at an_crews_at : Option Addr} {sl_crews_at : Array (Option Value)} {oc_crews_at dc_crews_at pm_crews_at cd_crews_at ct_crews_at : Value}
    {kV_crews_at : Value}
    (a_crews_at : PySem.W.nsIn K mainGlobals "crews_at" = some (some (.ref x_crews_at)))
    (l_crews_at : K.lookup x_crews_at = some ⟨oc_crews_at, od_crews_at, .func (PySem.W.fnOf "crews_at" "crews_at" (defArgs s_crews_at) (defBody s_crews_at) (defScope s_crews_at) .none kV_crews_at dc_crews_at pm_crews_at an_crews_at cd_crews_at ct_crews_at), sl_crews_at⟩)
    (c_crews_at : PySem.W.codeIn K cd_crews_at "crews_at" = true)
    (k_crews_at : PySem.W.keepIn K (.ref x_crews_at) = true)
    {x_can_move : Addr} {od_can_move an_can_move : Option Addr} {sl_can_move : Array (Option Value)} {oc_can_move dc_can_move pm_can_move cd_can_move ct_can_move : Value}
    {kV_can_move : Value}
    (a_can_move : PySem.W.nsIn K mainGlobals "can_move" = some (some (.ref x_can_move)))
    (l_can_move : K.lookup x_can_move = some ⟨oc_can_move, od_can_move, .func (PySem.W.fnOf "can_move" "can_move" (defArgs s_can_move) (defBody s_can_move) (defScope s_can_move) .none kV_can_move dc_can_move pm_can_move an_can_move cd_can_move ct_can_move), sl_can_move⟩)
    (c_can_move : PySem.W.codeIn K cd_can_move "can_move" = true)
    (k_can_move : PySem.W.keepIn K (.ref x_can_move) = true)
    {x_with_grade : Addr} {od_with_grade an_with_grade : Option Addr} {sl_with_grade : Array (Option Value)} {oc_with_grade dc_with_grade pm_with_grade cd_with_grade ct_with_grade : Value}
    {kV_with_grade : Value}
    (a_with_grade : PySem.W.findIn K (.ref xR) "with_grade" = some (some (.ref x_with_grade)))
    (i_with_grade : PySem.W.isFn K (.ref x_with_grade) = true)
    (l_with_grade : K.lookup x_with_grade = some ⟨oc_with_grade, od_with_grade, .func (PySem.W.fnOf "with_grade" "Room.with_grade" (defArgs s_with_grade) (defBody s_with_grade) (defScope s_with_grade) .none kV_with_grade dc_with_grade pm_with_grade an_with_grade cd_with_grade ct_with_grade), sl_with_grade⟩)
    (c_with_grade : PySem.W.codeIn K cd_with_grade "Room.with_grade" = true)
    (k_with_grade : PySem.W.keepIn K (.ref x_with_grade) = true)
    {x_can_go_home : Addr} {od_can_go_home an_can_go_home : Option Addr} {sl_can_go_home : Array (Option Value)} {oc_can_go_home dc_can_go_home pm_can_go_home cd_can_go_home ct_can_go_home : Value}
    {kV_can_go_home : Value}
    (a_can_go_home : PySem.W.findIn K (.ref xR) "can_go_home" = some (some (.ref x_can_go_home)))
    (i_can_go_home : PySem.W.isFn K (.ref x_can_go_home) = true)
    (l_can_go_home : K.lookup x_can_go_home = some ⟨oc_can_go_home, od_can_go_home, .func (PySem.W.fnOf "can_go_home" "Room.can_go_home" (defArgs s_can_go_home) (defBody s_can_go_home) (defScope s_can_go_home) .none kV_can_go_home dc_can_go_home pm_can_go_home an_can_go_home cd_can_go_home ct_can_go_home), sl_can_go_home⟩)
    (c_can_go_home : PySem.W.codeIn K cd_can_go_home "Room.can_go_home" = true)
    (k_can_go_home : PySem.W.keepIn K (.ref x_can_go_home) = true)
    {x_close : Addr} {od_close an_close : Option Addr} {sl_close : Array (Option Value)} {oc_close dc_close pm_close cd_close ct_close : Value}
    {kV_close : Value}
    (a_close : PySem.W.findIn K (.ref xR) "close" = some (some (.ref x_close)))
    (i_close : PySem.W.isFn K (.ref x_close) = true)
    (l_close : K.lookup x_close = some ⟨oc_close, od_close, .func (PySem.W.fnOf "close" "Room.close" (defArgs s_close) (defBody s_close) (defScope s_close) .none kV_close dc_close pm_close an_close cd_close ct_close), sl_close⟩)
    (c_close : PySem.W.codeIn K cd_close "Room.close" = true)
    (k_close : PySem.W.keepIn K (.ref x_close) = true)
    {x_lift : Addr} {od_lift an_lift : Option Addr} {sl_lift : Array (Option Value)} {oc_lift dc_lift pm_lift cd_lift ct_lift : Value}
    {kV_lift : Value}
    (a_lift : PySem.W.findIn K (.ref xR) "lift" = some (some (.ref x_lift)))
    (i_lift : PySem.W.isFn K (.ref x_lift) = true)
    (l_lift : K.lookup x_lift = some ⟨oc_lift, od_lift, .func (PySem.W.fnOf "lift" "Room.lift" (defArgs s_lift) (defBody s_lift) (defScope s_lift) .none kV_lift dc_lift pm_lift an_lift cd_lift ct_lift), sl_lift⟩)
    (c_lift : PySem.W.codeIn K cd_lift "Room.lift" = true)
    (k_lift : PySem.W.keepIn K (.ref x_lift) = true)
    {x_rstep : Addr} {od_rstep an_rstep : Option Addr} {sl_rstep : Array (Option Value)} {oc_rstep dc_rstep pm_rstep cd_rstep ct_rstep : Value}
    {kV_rstep : Value}
    (a_rstep : PySem.W.findIn K (.ref xR) "step" = some (some (.ref x_rstep)))
    (i_rstep : PySem.W.isFn K (.ref x_rstep) = true)
    (l_rstep : K.lookup x_rstep = some ⟨oc_rstep, od_rstep, .func (PySem.W.fnOf "step" "Room.step" (defArgs s_rstep) (defBody s_rstep) (defScope s_rstep) .none kV_rstep dc_rstep pm_rstep an_rstep cd_rstep ct_rstep), sl_rstep⟩)
    (c_rstep : PySem.W.codeIn K cd_rstep "Room.step" = true)
    (k_rstep : PySem.W.keepIn K (.ref x_rstep) = true)
    {x_makes_short : Addr} {od_makes_short an_makes_short : Option Addr} {sl_makes_short : Array (Option Value)} {oc_makes_short dc_makes_short pm_makes_short cd_makes_short ct_makes_short : Value}
    {kV_makes_short : Value}
    (a_makes_short : PySem.W.nsIn K mainGlobals "makes_short" = some (some (.ref x_makes_short)))
    (l_makes_short : K.lookup x_makes_short = some ⟨oc_makes_short, od_makes_short, .func (PySem.W.fnOf "makes_short" "makes_short" (defArgs s_makes_short) (defBody s_makes_short) (defScope s_makes_short) .none kV_makes_short dc_makes_short pm_makes_short an_makes_short cd_makes_short ct_makes_short), sl_makes_short⟩)
    (c_makes_short : PySem.W.codeIn K cd_makes_short "makes_short" = true)
    (k_makes_short : PySem.W.keepIn K (.ref x_makes_short) = true)
    {x_is_pair : Addr} {od_is_pair an_is_pair : Option Addr} {sl_is_pair : Array (Option Value)} {oc_is_pair dc_is_pair pm_is_pair cd_is_pair ct_is_pair : Value}
    {kV_is_pair : Value}
    (a_is_pair : PySem.W.nsIn K mainGlobals "is_pair" = some (some (.ref x_is_pair)))
    (l_is_pair : K.lookup x_is_pair = some ⟨oc_is_pair, od_is_pair, .func (PySem.W.fnOf "is_pair" "is_pair" (defArgs s_is_pair) (defBody s_is_pair) (defScope s_is_pair) .none kV_is_pair dc_is_pair pm_is_pair an_is_pair cd_is_pair ct_is_pair), sl_is_pair⟩)
    (c_is_pair : PySem.W.codeIn K cd_is_pair "is_pair" = true)
    (k_is_pair : PySem.W.keepIn K (.ref x_is_pair) = true)
    {x_are_grades : Addr} {od_are_grades an_are_grades : Option Addr} {sl_are_grades : Array (Option Value)} {oc_are_grades dc_are_grades pm_are_grades cd_are_grades ct_are_grades : Value}
    {kV_are_grades : Value}
    (a_are_grades : PySem.W.nsIn K mainGlobals "are_grades" = some (some (.ref x_are_grades)))
    (l_are_grades : K.lookup x_are_grades = some ⟨oc_are_grades, od_are_grades, .func (PySem.W.fnOf "are_grades" "are_grades" (defArgs s_are_grades) (defBody s_are_grades) (defScope s_are_grades) .none kV_are_grades dc_are_grades pm_are_grades an_are_grades cd_are_grades ct_are_grades), sl_are_grades⟩)
    (c_are_grades : PySem.W.codeIn K cd_are_grades "are_grades" = true)
    (k_are_grades : PySem.W.keepIn K (.ref x_are_grades) = true)
    {x_is_place : Addr} {od_is_place an_is_place : Option Addr} {sl_is_place : Array (Option Value)} {oc_is_place dc_is_place pm_is_place cd_is_place ct_is_place : Value}
    {kV_is_place : Value}
    (a_is_place : PySem.W.nsIn K mainGlobals "is_place" = some (some (.ref x_is_place)))
    (l_is_place : K.lookup x_is_place = some ⟨oc_is_place, od_is_place, .func (PySem.W.fnOf "is_place" "is_place" (defArgs s_is_place) (defBody s_is_place) (defScope s_is_place) .none kV_is_place dc_is_place pm_is_place an_is_place cd_is_place ct_is_place), sl_is_place⟩)
    (c_is_place : PySem.W.codeIn K cd_is_place "is_place" = true)
    (k_is_place : PySem.W.keepIn K (.ref x_is_place) = true)
    {x_is_standing : Addr} {od_is_standing an_is_standing : Option Addr} {sl_is_standing : Array (Option Value)} {oc_is_standing dc_is_standing pm_is_standing cd_is_standing ct_is_standing : Value}
    {kV_is_standing : Value}
    (a_is_standing : PySem.W.nsIn K mainGlobals "is_standing" = some (some (.ref x_is_standing)))
    (l_is_standing : K.lookup x_is_standing = some ⟨oc_is_standing, od_is_standing, .func (PySem.W.fnOf "is_standing" "is_standing" (defArgs s_is_standing) (defBody s_is_standing) (defScope s_is_standing) .none kV_is_standing dc_is_standing pm_is_standing an_is_standing cd_is_standing ct_is_standing), sl_is_standing⟩)
    (c_is_standing : PySem.W.codeIn K cd_is_standing "is_standing" = true)
    (k_is_standing : PySem.W.keepIn K (.ref x_is_standing) = true)
    {x_table_fault : Addr} {od_table_fault an_table_fault : Option Addr} {sl_table_fault : Array (Option Value)} {oc_table_fault dc_table_fault pm_table_fault cd_table_fault ct_table_fault : Value}
    {kV_table_fault : Value}
    (a_table_fault : PySem.W.nsIn K mainGlobals "table_fault" = some (some (.ref x_table_fault)))
    (l_table_fault : K.lookup x_table_fault = some ⟨oc_table_fault, od_table_fault, .func (PySem.W.fnOf "table_fault" "table_fault" (defArgs s_table_fault) (defBody s_table_fault) (defScope s_table_fault) .none kV_table_fault dc_table_fault pm_table_fault an_table_fault cd_table_fault ct_table_fault), sl_table_fault⟩)
    (c_table_fault : PySem.W.codeIn K cd_table_fault "table_fault" = true)
    (k_table_fault : PySem.W.keepIn K (.ref x_table_fault) = true)
    {x_bag : Addr} {od_bag an_bag : Option Addr} {sl_bag : Array (Option Value)} {oc_bag dc_bag pm_bag cd_bag ct_bag : Value}
    {kV_bag : Value}
    (a_bag : PySem.W.nsIn K mainGlobals "_law_bag" = some (some (.ref x_bag)))
    (l_bag : K.lookup x_bag = some ⟨oc_bag, od_bag, .func (PySem.W.fnOf "_law_bag" "_law_bag" (defArgs s_bag) (defBody s_bag) (defScope s_bag) .none kV_bag dc_bag pm_bag an_bag cd_bag ct_bag), sl_bag⟩)
    (c_bag : PySem.W.codeIn K cd_bag "_law_bag" = true)
    (k_bag : PySem.W.keepIn K (.ref x_bag) = true)
    {x_take : Addr} {od_take an_take : Option Addr} {sl_take : Array (Option Value)} {oc_take dc_take pm_take cd_take ct_take : Value}
    {kV_take : Value}
    (a_take : PySem.W.nsIn K mainGlobals "_law_take" = some (some (.ref x_take)))
    (l_take : K.lookup x_take = some ⟨oc_take, od_take, .func (PySem.W.fnOf "_law_take" "_law_take" (defArgs s_take) (defBody s_take) (defScope s_take) .none kV_take dc_take pm_take an_take cd_take ct_take), sl_take⟩)
    (c_take : PySem.W.codeIn K cd_take "_law_take" = true)
    (k_take : PySem.W.keepIn K (.ref x_take) = true)
    {x_of : Addr} {od_of an_of : Option Addr} {sl_of : Array (Option Value)} {oc_of dc_of pm_of cd_of ct_of : Value}
    {kV_of : Value}
    (a_of : PySem.W.nsIn K mainGlobals "_law_of" = some (some (.ref x_of)))
    (l_of : K.lookup x_of = some ⟨oc_of, od_of, .func (PySem.W.fnOf "_law_of" "_law_of" (defArgs s_of) (defBody s_of) (defScope s_of) .none kV_of dc_of pm_of an_of cd_of ct_of), sl_of⟩)
    (c_of : PySem.W.codeIn K cd_of "_law_of" = true)
    (k_of : PySem.W.keepIn K (.ref x_of) = true)
    {x_number : Addr} {od_number an_number : Option Addr} {sl_number : Array (Option Value)} {oc_number dc_number pm_number cd_number ct_number : Value}
    {kV_number : Value}
    (a_number : PySem.W.nsIn K mainGlobals "_law_number" = some (some (.ref x_number)))
    (l_number : K.lookup x_number = some ⟨oc_number, od_number, .func (PySem.W.fnOf "_law_number" "_law_number" (defArgs s_number) (defBody s_number) (defScope s_number) .none kV_number dc_number pm_number an_number cd_number ct_number), sl_number⟩)
    (c_number : PySem.W.codeIn K cd_number "_law_number" = true)
    (k_number : PySem.W.keepIn K (.ref x_number) = true)
    {x_numbers : Addr} {od_numbers an_numbers : Option Addr} {sl_numbers : Array (Option Value)} {oc_numbers dc_numbers pm_numbers cd_numbers ct_numbers : Value}
    {kV_numbers : Value}
    (a_numbers : PySem.W.nsIn K mainGlobals "_law_numbers" = some (some (.ref x_numbers)))
    (l_numbers : K.lookup x_numbers = some ⟨oc_numbers, od_numbers, .func (PySem.W.fnOf "_law_numbers" "_law_numbers" (defArgs s_numbers) (defBody s_numbers) (defScope s_numbers) .none kV_numbers dc_numbers pm_numbers an_numbers cd_numbers ct_numbers), sl_numbers⟩)
    (c_numbers : PySem.W.codeIn K cd_numbers "_law_numbers" = true)
    (k_numbers : PySem.W.keepIn K (.ref x_numbers) = true)
    {x_cards : Addr} {od_cards an_cards : Option Addr} {sl_cards : Array (Option Value)} {oc_cards dc_cards pm_cards cd_cards ct_cards : Value}
    {kV_cards : Value}
    (a_cards : PySem.W.nsIn K mainGlobals "_law_cards" = some (some (.ref x_cards)))
    (l_cards : K.lookup x_cards = some ⟨oc_cards, od_cards, .func (PySem.W.fnOf "_law_cards" "_law_cards" (defArgs s_cards) (defBody s_cards) (defScope s_cards) .none kV_cards dc_cards pm_cards an_cards cd_cards ct_cards), sl_cards⟩)
    (c_cards : PySem.W.codeIn K cd_cards "_law_cards" = true)
    (k_cards : PySem.W.keepIn K (.ref x_cards) = true)
    {x_sent : Addr} {od_sent an_sent : Option Addr} {sl_sent : Array (Option Value)} {oc_sent dc_sent pm_sent cd_sent ct_sent : Value}
    {kV_sent : Value}
    (a_sent : PySem.W.nsIn K mainGlobals "_law_sent" = some (some (.ref x_sent)))
    (l_sent : K.lookup x_sent = some ⟨oc_sent, od_sent, .func (PySem.W.fnOf "_law_sent" "_law_sent" (defArgs s_sent) (defBody s_sent) (defScope s_sent) .none kV_sent dc_sent pm_sent an_sent cd_sent ct_sent), sl_sent⟩)
    (c_sent : PySem.W.codeIn K cd_sent "_law_sent" = true)
    (k_sent : PySem.W.keepIn K (.ref x_sent) = true)
    {x_back : Addr} {od_back an_back : Option Addr} {sl_back : Array (Option Value)} {oc_back dc_back pm_back cd_back ct_back : Value}
    {kV_back : Value}
    (a_back : PySem.W.nsIn K mainGlobals "_law_back" = some (some (.ref x_back)))
    (l_back : K.lookup x_back = some ⟨oc_back, od_back, .func (PySem.W.fnOf "_law_back" "_law_back" (defArgs s_back) (defBody s_back) (defScope s_back) .none kV_back dc_back pm_back an_back cd_back ct_back), sl_back⟩)
    (c_back : PySem.W.codeIn K cd_back "_law_back" = true)
    (k_back : PySem.W.keepIn K (.ref x_back) = true)
    {x_step : Addr} {od_step an_step : Option Addr} {sl_step : Array (Option Value)} {oc_step dc_step pm_step cd_step ct_step : Value}
    {kV_step : Value}
    (a_step : PySem.W.nsIn K mainGlobals "_law_step" = some (some (.ref x_step)))
    (l_step : K.lookup x_step = some ⟨oc_step, od_step, .func (PySem.W.fnOf "_law_step" "_law_step" (defArgs s_step) (defBody s_step) (defScope s_step) .none kV_step dc_step pm_step an_step cd_step ct_step), sl_step⟩)
    (c_step : PySem.W.codeIn K cd_step "_law_step" = true)
    (k_step : PySem.W.keepIn K (.ref x_step) = true)
    {x_start : Addr} {od_start an_start : Option Addr} {sl_start : Array (Option Value)} {oc_start dc_start pm_start cd_start ct_start : Value}
    {kV_start : Value}
    (a_start : PySem.W.nsIn K mainGlobals "_law_start" = some (some (.ref x_start)))
    (l_start : K.lookup x_start = some ⟨oc_start, od_start, .func (PySem.W.fnOf "_law_start" "_law_start" (defArgs s_start) (defBody s_start) (defScope s_start) .none kV_start dc_start pm_start an_start cd_start ct_start), sl_start⟩)
    (c_start : PySem.W.codeIn K cd_start "_law_start" = true)
    (k_start : PySem.W.keepIn K (.ref x_start) = true)
    {x_allowed : Addr} {od_allowed an_allowed : Option Addr} {sl_allowed : Array (Option Value)} {oc_allowed dc_allowed pm_allowed cd_allowed ct_allowed : Value}
    {kV_allowed : Value}
    (a_allowed : PySem.W.nsIn K mainGlobals "_law_allowed" = some (some (.ref x_allowed)))
    (l_allowed : K.lookup x_allowed = some ⟨oc_allowed, od_allowed, .func (PySem.W.fnOf "_law_allowed" "_law_allowed" (defArgs s_allowed) (defBody s_allowed) (defScope s_allowed) .none kV_allowed dc_allowed pm_allowed an_allowed cd_allowed ct_allowed), sl_allowed⟩)
    (c_allowed : PySem.W.codeIn K cd_allowed "_law_allowed" = true)
    (k_allowed : PySem.W.keepIn K (.ref x_allowed) = true)
    {x_made : Addr} {od_made an_made : Option Addr} {sl_made : Array (Option Value)} {oc_made dc_made pm_made cd_made ct_made : Value}
    {kV_made : Value}
    (a_made : PySem.W.nsIn K mainGlobals "_law_made" = some (some (.ref x_made)))
    (l_made : K.lookup x_made = some ⟨oc_made, od_made, .func (PySem.W.fnOf "_law_made" "_law_made" (defArgs s_made) (defBody s_made) (defScope s_made) .none kV_made dc_made pm_made an_made cd_made ct_made), sl_made⟩)
    (c_made : PySem.W.codeIn K cd_made "_law_made" = true)
    (k_made : PySem.W.keepIn K (.ref x_made) = true)
    {x_room : Addr} {od_room an_room : Option Addr} {sl_room : Array (Option Value)} {oc_room dc_room pm_room cd_room ct_room : Value}
    {kV_room : Value}
    (a_room : PySem.W.nsIn K mainGlobals "_law_room" = some (some (.ref x_room)))
    (l_room : K.lookup x_room = some ⟨oc_room, od_room, .func (PySem.W.fnOf "_law_room" "_law_room" (defArgs s_room) (defBody s_room) (defScope s_room) .none kV_room dc_room pm_room an_room cd_room ct_room), sl_room⟩)
    (c_room : PySem.W.codeIn K cd_room "_law_room" = true)
    (k_room : PySem.W.keepIn K (.ref x_room) = true)
    {x_walked : Addr} {od_walked an_walked : Option Addr} {sl_walked : Array (Option Value)} {oc_walked dc_walked pm_walked cd_walked ct_walked : Value}
    {kV_walked : Value}
    (a_walked : PySem.W.nsIn K mainGlobals "_law_walked" = some (some (.ref x_walked)))
    (l_walked : K.lookup x_walked = some ⟨oc_walked, od_walked, .func (PySem.W.fnOf "_law_walked" "_law_walked" (defArgs s_walked) (defBody s_walked) (defScope s_walked) .none kV_walked dc_walked pm_walked an_walked cd_walked ct_walked), sl_walked⟩)
    (c_walked : PySem.W.codeIn K cd_walked "_law_walked" = true)
    (k_walked : PySem.W.keepIn K (.ref x_walked) = true)
    {x_lis_whole : Addr} {od_lis_whole an_lis_whole : Option Addr} {sl_lis_whole : Array (Option Value)} {oc_lis_whole dc_lis_whole pm_lis_whole cd_lis_whole ct_lis_whole : Value}
    {kV_lis_whole : Value}
    (a_lis_whole : PySem.W.nsIn K mainGlobals "_law_is_whole" = some (some (.ref x_lis_whole)))
    (l_lis_whole : K.lookup x_lis_whole = some ⟨oc_lis_whole, od_lis_whole, .func (PySem.W.fnOf "_law_is_whole" "_law_is_whole" (defArgs s_lis_whole) (defBody s_lis_whole) (defScope s_lis_whole) .none kV_lis_whole dc_lis_whole pm_lis_whole an_lis_whole cd_lis_whole ct_lis_whole), sl_lis_whole⟩)
    (c_lis_whole : PySem.W.codeIn K cd_lis_whole "_law_is_whole" = true)
    (k_lis_whole : PySem.W.keepIn K (.ref x_lis_whole) = true)
    {x_lis_place : Addr} {od_lis_place an_lis_place : Option Addr} {sl_lis_place : Array (Option Value)} {oc_lis_place dc_lis_place pm_lis_place cd_lis_place ct_lis_place : Value}
    {kV_lis_place : Value}
    (a_lis_place : PySem.W.nsIn K mainGlobals "_law_is_place" = some (some (.ref x_lis_place)))
    (l_lis_place : K.lookup x_lis_place = some ⟨oc_lis_place, od_lis_place, .func (PySem.W.fnOf "_law_is_place" "_law_is_place" (defArgs s_lis_place) (defBody s_lis_place) (defScope s_lis_place) .none kV_lis_place dc_lis_place pm_lis_place an_lis_place cd_lis_place ct_lis_place), sl_lis_place⟩)
    (c_lis_place : PySem.W.codeIn K cd_lis_place "_law_is_place" = true)
    (k_lis_place : PySem.W.keepIn K (.ref x_lis_place) = true)
    {x_lis_standing : Addr} {od_lis_standing an_lis_standing : Option Addr} {sl_lis_standing : Array (Option Value)} {oc_lis_standing dc_lis_standing pm_lis_standing cd_lis_standing ct_lis_standing : Value}
    {kV_lis_standing : Value}
    (a_lis_standing : PySem.W.nsIn K mainGlobals "_law_is_standing" = some (some (.ref x_lis_standing)))
    (l_lis_standing : K.lookup x_lis_standing = some ⟨oc_lis_standing, od_lis_standing, .func (PySem.W.fnOf "_law_is_standing" "_law_is_standing" (defArgs s_lis_standing) (defBody s_lis_standing) (defScope s_lis_standing) .none kV_lis_standing dc_lis_standing pm_lis_standing an_lis_standing cd_lis_standing ct_lis_standing), sl_lis_standing⟩)
    (c_lis_standing : PySem.W.codeIn K cd_lis_standing "_law_is_standing" = true)
    (k_lis_standing : PySem.W.keepIn K (.ref x_lis_standing) = true)
    {x_due : Addr} {od_due an_due : Option Addr} {sl_due : Array (Option Value)} {oc_due dc_due pm_due cd_due ct_due : Value}
    {kV_due : Value}
    (a_due : PySem.W.nsIn K mainGlobals "_law_due" = some (some (.ref x_due)))
    (l_due : K.lookup x_due = some ⟨oc_due, od_due, .func (PySem.W.fnOf "_law_due" "_law_due" (defArgs s_due) (defBody s_due) (defScope s_due) .none kV_due dc_due pm_due an_due cd_due ct_due), sl_due⟩)
    (c_due : PySem.W.codeIn K cd_due "_law_due" = true)
    (k_due : PySem.W.keepIn K (.ref x_due) = true)
    {x_turned : Addr} {od_turned an_turned : Option Addr} {sl_turned : Array (Option Value)} {oc_turned dc_turned pm_turned cd_turned ct_turned : Value}
    {kV_turned : Value}
    (a_turned : PySem.W.nsIn K mainGlobals "_law_turned" = some (some (.ref x_turned)))
    (l_turned : K.lookup x_turned = some ⟨oc_turned, od_turned, .func (PySem.W.fnOf "_law_turned" "_law_turned" (defArgs s_turned) (defBody s_turned) (defScope s_turned) .none kV_turned dc_turned pm_turned an_turned cd_turned ct_turned), sl_turned⟩)
    (c_turned : PySem.W.codeIn K cd_turned "_law_turned" = true)
    (k_turned : PySem.W.keepIn K (.ref x_turned) = true)
    {x_bent : Addr} {od_bent an_bent : Option Addr} {sl_bent : Array (Option Value)} {oc_bent dc_bent pm_bent cd_bent ct_bent : Value}
    {kV_bent : Value}
    (a_bent : PySem.W.nsIn K mainGlobals "_law_bent" = some (some (.ref x_bent)))
    (l_bent : K.lookup x_bent = some ⟨oc_bent, od_bent, .func (PySem.W.fnOf "_law_bent" "_law_bent" (defArgs s_bent) (defBody s_bent) (defScope s_bent) .none kV_bent dc_bent pm_bent an_bent cd_bent ct_bent), sl_bent⟩)
    (c_bent : PySem.W.codeIn K cd_bent "_law_bent" = true)
    (k_bent : PySem.W.keepIn K (.ref x_bent) = true)
    {x_law : Addr} {od_law an_law : Option Addr} {sl_law : Array (Option Value)} {oc_law dc_law pm_law cd_law ct_law : Value}
    {kV_law : Value}
    (a_law : PySem.W.nsIn K mainGlobals "law" = some (some (.ref x_law)))
    (l_law : K.lookup x_law = some ⟨oc_law, od_law, .func (PySem.W.fnOf "law" "law" (defArgs s_law) (defBody s_law) (defScope s_law) .none kV_law dc_law pm_law an_law cd_law ct_law), sl_law⟩)
    (c_law : PySem.W.codeIn K cd_law "law" = true)
    (k_law : PySem.W.keepIn K (.ref x_law) = true)
    (pgC : PySem.W.plainGet K xC Str.empty = true)
    (hdC : PySem.W.hasDictIn K xC = true)
    (poC : PySem.W.plainOver K xC = true)
    (saC : PySem.W.findIn K (.ref xC) "__setattr__" = some (some (.builtin "object.__setattr__")))
    (mkC : PySem.W.makesIn K xC = true)
    (kcC : PySem.W.keepIn K (.ref xC) = true)
    (nNu : PySem.W.findIn K (.ref xC) "number" = some none)
    (nOr : PySem.W.findIn K (.ref xC) "order" = some none)
    (nCo : PySem.W.findIn K (.ref xC) "counts" = some none)
    (nOw : PySem.W.findIn K (.ref xC) "owed" = some none)
    (nMo : PySem.W.findIn K (.ref xC) "moves" = some none)
    (rdC : PySem.W.readsIn K xC (.type "type") = true)
    (gaC : PySem.W.specialIn K (.ref xC) "__getattribute__" = some (some (.builtin "type.__getattribute__")))
    (pgR : PySem.W.plainGet K xR Str.empty = true)
    (hdR : PySem.W.hasDictIn K xR = true)
    (poR : PySem.W.plainOver K xR = true)
    (saR : PySem.W.findIn K (.ref xR) "__setattr__" = some (some (.builtin "object.__setattr__")))
    (mkR : PySem.W.makesIn K xR = true)
    (kcR : PySem.W.keepIn K (.ref xR) = true)
    (nSt : PySem.W.findIn K (.ref xR) "stations" = some none)
    (nCa : PySem.W.findIn K (.ref xR) "cards" = some none)
    (nNs : PySem.W.findIn K (.ref xR) "numbers" = some none)
    {tP : Tok}
    (vG : PySem.W.findCls K (.ref xC) (.type "type") "GRADES" = some (.val (.int 3 tP)))
    {t_DIGITS : Tok}
    (n_DIGITS : PySem.W.nsIn K mainGlobals "DIGITS" = some (some (.str "123456789" t_DIGITS)))
    {t_MOST_DIGITS : Tok}
    (n_MOST_DIGITS : PySem.W.nsIn K mainGlobals "MOST_DIGITS" = some (some (.int 4 t_MOST_DIGITS)))
    {t_GREATEST_SUM : Tok}
    (n_GREATEST_SUM : PySem.W.nsIn K mainGlobals "GREATEST_SUM" = some (some (.int 24 t_GREATEST_SUM)))
    {t_MOST_CREWS : Tok}
    (n_MOST_CREWS : PySem.W.nsIn K mainGlobals "MOST_CREWS" = some (some (.int 6 t_MOST_CREWS)))
    {t_LAST_CREW : Tok}
    (n_LAST_CREW : PySem.W.nsIn K mainGlobals "LAST_CREW" = some (some (.int 5 t_LAST_CREW)))
    {t_LAST_STATION : Tok}
    (n_LAST_STATION : PySem.W.nsIn K mainGlobals "LAST_STATION" = some (some (.int 8 t_LAST_STATION)))
    {t_MOST_MOVES : Tok}
    (n_MOST_MOVES : PySem.W.nsIn K mainGlobals "MOST_MOVES" = some (some (.int 6 t_MOST_MOVES)))
    {t_IN : Tok}
    (n_IN : PySem.W.nsIn K mainGlobals "IN" = some (some (.str "in" t_IN)))
    {t_OUT : Tok}
    (n_OUT : PySem.W.nsIn K mainGlobals "OUT" = some (some (.str "out" t_OUT)))
    {t_CALL : Tok}
    (n_CALL : PySem.W.nsIn K mainGlobals "CALL" = some (some (.str "call" t_CALL)))
    {t_MORE : Tok}
    (n_MORE : PySem.W.nsIn K mainGlobals "MORE" = some (some (.str "more" t_MORE)))
    {t_BACK : Tok}
    (n_BACK : PySem.W.nsIn K mainGlobals "BACK" = some (some (.str "back" t_BACK)))
    (z_abs : PySem.W.nsIn K mainGlobals "abs" = some none)
    (z_all : PySem.W.nsIn K mainGlobals "all" = some none)
    (z_any : PySem.W.nsIn K mainGlobals "any" = some none)
    (z_bool : PySem.W.nsIn K mainGlobals "bool" = some none)
    (z_enumerate : PySem.W.nsIn K mainGlobals "enumerate" = some none)
    (z_int : PySem.W.nsIn K mainGlobals "int" = some none)
    (z_isinstance : PySem.W.nsIn K mainGlobals "isinstance" = some none)
    (z_len : PySem.W.nsIn K mainGlobals "len" = some none)
    (z_list : PySem.W.nsIn K mainGlobals "list" = some none)
    (z_max : PySem.W.nsIn K mainGlobals "max" = some none)
    (z_min : PySem.W.nsIn K mainGlobals "min" = some none)
    (z_range : PySem.W.nsIn K mainGlobals "range" = some none)
    (z_repr : PySem.W.nsIn K mainGlobals "repr" = some none)
    (z_set : PySem.W.nsIn K mainGlobals "set" = some none)
    (z_str : PySem.W.nsIn K mainGlobals "str" = some none)
    (z_sum : PySem.W.nsIn K mainGlobals "sum" = some none)
    (z_tuple : PySem.W.nsIn K mainGlobals "tuple" = some none)
    (z_zip : PySem.W.nsIn K mainGlobals "zip" = some none)
    : ∃ fd : FuncData, (∀ (s : Shared) (v : Value), BindsTo s fd ⟨[v], []⟩ [("_law_script", v)]) ∧ ∀ base : Heap, K.In base → base.Ns mainGlobals mg → Rp.GOk l.prog w K mg base CX0 12 fa fd ["_law_script"] (sp_law K) := by
  have e := hfa.symm.trans (PySem.W.mg_of X G a_law)
  cases e
  have F_is_whole := fun_mk (st := s_is_whole) l_is_whole c_is_whole k_is_whole
  have b_is_whole := F_is_whole.binds (ps := ["thing"]) fun _ _ _ _ _ _ us hl => match us, hl with | [_], _ => rfl
  have F_is_whole_within := fun_mk (st := s_is_whole_within) l_is_whole_within c_is_whole_within k_is_whole_within
  have b_is_whole_within := F_is_whole_within.binds (ps := ["thing", "low", "high"]) fun _ _ _ _ _ _ us hl => match us, hl with | [_, _, _], _ => rfl
  have F_is_sequence := fun_mk (st := s_is_sequence) l_is_sequence c_is_sequence k_is_sequence
  have b_is_sequence := F_is_sequence.binds (ps := ["thing"]) fun _ _ _ _ _ _ us hl => match us, hl with | [_], _ => rfl
  have F_is_number := fun_mk (st := s_is_number) l_is_number c_is_number k_is_number
  have b_is_number := F_is_number.binds (ps := ["thing"]) fun _ _ _ _ _ _ us hl => match us, hl with | [_], _ => rfl
  have F_is_station := fun_mk (st := s_is_station) l_is_station c_is_station k_is_station
  have b_is_station := F_is_station.binds (ps := ["thing"]) fun _ _ _ _ _ _ us hl => match us, hl with | [_], _ => rfl
  have F_is_crew := fun_mk (st := s_is_crew) l_is_crew c_is_crew k_is_crew
  have b_is_crew := F_is_crew.binds (ps := ["thing"]) fun _ _ _ _ _ _ us hl => match us, hl with | [_], _ => rfl
  have F_is_stations := fun_mk (st := s_is_stations) l_is_stations c_is_stations k_is_stations
  have b_is_stations := F_is_stations.binds (ps := ["thing"]) fun _ _ _ _ _ _ us hl => match us, hl with | [_], _ => rfl
  have F_is_order := fun_mk (st := s_is_order) l_is_order c_is_order k_is_order
  have b_is_order := F_is_order.binds (ps := ["thing"]) fun _ _ _ _ _ _ us hl => match us, hl with | [_], _ => rfl
  have F_are_counts := fun_mk (st := s_are_counts) l_are_counts c_are_counts k_are_counts
  have b_are_counts := F_are_counts.binds (ps := ["thing"]) fun _ _ _ _ _ _ us hl => match us, hl with | [_], _ => rfl
  have F_is_move := fun_mk (st := s_is_move) l_is_move c_is_move k_is_move
  have b_is_move := F_is_move.binds (ps := ["thing"]) fun _ _ _ _ _ _ us hl => match us, hl with | [_], _ => rfl
  have F_are_moves := fun_mk (st := s_are_moves) l_are_moves c_are_moves k_are_moves
  have b_are_moves := F_are_moves.binds (ps := ["thing"]) fun _ _ _ _ _ _ us hl => match us, hl with | [_], _ => rfl
  have F_cinit : FunD K "__init__" "Card.__init__" (defArgs s_cinit) (defBody s_cinit) (defScope s_cinit) [] [("owed", V.ref xO), ("moves", V.ref xM)] x_cinit _ := ⟨⟨_, _, _, _, _, _, _, _, _, _, rfl, l_cinit, c_cinit, .inl ⟨rfl, rfl⟩, .inr ⟨xF, rfl, fun q m => by
    simp only [List.mem_cons, List.not_mem_nil, or_false] at m
    rcases m with rfl | rfl
    · exact ⟨_, e_owed, rfl⟩
    · exact ⟨_, e_moves, rfl⟩⟩⟩, k_cinit⟩
  have kb2 := F_cinit.kbinds0 (ps := ["self", "number", "order", "counts", "owed", "moves"]) 3 ["counts", "owed", "moves"] [] (fun vs mz zs => vs ++ zs) (List.cons_ne_nil _ _) (fun _ h => absurd h (by simp)) (fun a b c => a.append c) fun D doc pm an cdv ct us mv ws h1 h2 h3 => match us, mv, ws, h1, h2, h3 with | [_, _, _], [], [_, _, _], _, _, _ => rfl
  obtain ⟨_, kb2⟩ := kb2
  have F_check_crew := fun_mk (st := s_check_crew) l_check_crew c_check_crew k_check_crew
  have b_check_crew := F_check_crew.binds (ps := ["card", "crew", "stations"]) fun _ _ _ _ _ _ us hl => match us, hl with | [_, _, _], _ => rfl
  have F_check_card := fun_mk (st := s_check_card) l_check_card c_check_card k_check_card
  have b_check_card := F_check_card.binds (ps := ["card", "stations"]) fun _ _ _ _ _ _ us hl => match us, hl with | [_, _], _ => rfl
  have F_rinit := fun_mk (st := s_rinit) l_rinit c_rinit k_rinit
  have b_rinit := F_rinit.binds (ps := ["self", "stations", "cards"]) fun _ _ _ _ _ _ us hl => match us, hl with | [_, _, _], _ => rfl
  have F_rstart := fun_mk (st := s_rstart) l_rstart c_rstart k_rstart
  have b_rstart := F_rstart.binds (ps := ["self"]) fun _ _ _ _ _ _ us hl => match us, hl with | [_], _ => rfl
  have F_card_index := fun_mk (st := s_card_index) l_card_index c_card_index k_card_index
  have b_card_index := F_card_index.binds (ps := ["self", "number"]) fun _ _ _ _ _ _ us hl => match us, hl with | [_, _], _ => rfl
  have F_card_of := fun_mk (st := s_card_of) l_card_of c_card_of k_card_of
  have b_card_of := F_card_of.binds (ps := ["self", "number"]) fun _ _ _ _ _ _ us hl => match us, hl with | [_, _], _ => rfl
  have F_grade_in := fun_mk (st := s_grade_in) l_grade_in c_grade_in k_grade_in
  have b_grade_in := F_grade_in.binds (ps := ["self", "standing", "number"]) fun _ _ _ _ _ _ us hl => match us, hl with | [_, _, _], _ => rfl
  have F_open_count := fun_mk (st := s_open_count) l_open_count c_open_count k_open_count
  have b_open_count := F_open_count.binds (ps := ["grades"]) fun _ _ _ _ _ _ us hl => match us, hl with | [_], _ => rfl
  have F_rallowed := fun_mk (st := s_rallowed) l_rallowed c_rallowed k_rallowed
  have b_rallowed := F_rallowed.binds (ps := ["self", "standing", "most_open"]) fun _ _ _ _ _ _ us hl => match us, hl with | [_, _, _], _ => rfl
  have F_crews_at := fun_mk (st := s_crews_at) l_crews_at c_crews_at k_crews_at
  have b_crews_at := F_crews_at.binds (ps := ["places", "wanted"]) fun _ _ _ _ _ _ us hl => match us, hl with | [_, _], _ => rfl
  have F_can_move := fun_mk (st := s_can_move) l_can_move c_can_move k_can_move
  have b_can_move := F_can_move.binds (ps := ["places", "crew", "station"]) fun _ _ _ _ _ _ us hl => match us, hl with | [_, _, _], _ => rfl
  have F_with_grade := fun_mk (st := s_with_grade) l_with_grade c_with_grade k_with_grade
  have b_with_grade := F_with_grade.binds (ps := ["self", "standing", "places", "number", "grade"]) fun _ _ _ _ _ _ us hl => match us, hl with | [_, _, _, _, _], _ => rfl
  have F_can_go_home := fun_mk (st := s_can_go_home) l_can_go_home c_can_go_home k_can_go_home
  have b_can_go_home := F_can_go_home.binds (ps := ["self", "places", "crew"]) fun _ _ _ _ _ _ us hl => match us, hl with | [_, _, _], _ => rfl
  have F_close := fun_mk (st := s_close) l_close c_close k_close
  have b_close := F_close.binds (ps := ["self", "standing", "number"]) fun _ _ _ _ _ _ us hl => match us, hl with | [_, _, _], _ => rfl
  have F_lift := fun_mk (st := s_lift) l_lift c_lift k_lift
  have b_lift := F_lift.binds (ps := ["self", "standing", "number", "grade"]) fun _ _ _ _ _ _ us hl => match us, hl with | [_, _, _, _], _ => rfl
  have F_rstep := fun_mk (st := s_rstep) l_rstep c_rstep k_rstep
  have b_rstep := F_rstep.binds (ps := ["self", "standing", "event"]) fun _ _ _ _ _ _ us hl => match us, hl with | [_, _, _], _ => rfl
  have F_makes_short := fun_mk (st := s_makes_short) l_makes_short c_makes_short k_makes_short
  have b_makes_short := F_makes_short.binds (ps := ["event", "told"]) fun _ _ _ _ _ _ us hl => match us, hl with | [_, _], _ => rfl
  have F_is_pair := fun_mk (st := s_is_pair) l_is_pair c_is_pair k_is_pair
  have b_is_pair := F_is_pair.binds (ps := ["thing"]) fun _ _ _ _ _ _ us hl => match us, hl with | [_], _ => rfl
  have F_are_grades := fun_mk (st := s_are_grades) l_are_grades c_are_grades k_are_grades
  have b_are_grades := F_are_grades.binds (ps := ["room", "thing"]) fun _ _ _ _ _ _ us hl => match us, hl with | [_, _], _ => rfl
  have F_is_place := fun_mk (st := s_is_place) l_is_place c_is_place k_is_place
  have b_is_place := F_is_place.binds (ps := ["room", "thing", "is_open"]) fun _ _ _ _ _ _ us hl => match us, hl with | [_, _, _], _ => rfl
  have F_is_standing := fun_mk (st := s_is_standing) l_is_standing c_is_standing k_is_standing
  have b_is_standing := F_is_standing.binds (ps := ["room", "thing", "most_open"]) fun _ _ _ _ _ _ us hl => match us, hl with | [_, _, _], _ => rfl
  have F_table_fault := fun_mk (st := s_table_fault) l_table_fault c_table_fault k_table_fault
  have kb_table_fault : KBn K (PySem.W.fnOf "table_fault" "table_fault" (defArgs s_table_fault) (defBody s_table_fault) (defScope s_table_fault) .none kV_table_fault dc_table_fault pm_table_fault an_table_fault cd_table_fault ct_table_fault) ["room", "table", "most_open"] 2 ["most_open"] (fun us ws => us ++ ws) (fun vs zs => vs ++ zs) := ⟨fun s us ws X l1 l2 => match us, ws, l1, l2 with | [_, _], [_], _, _ => .of_eq rfl, fun a b => a.append b⟩
  have F_bag := fun_mk (st := s_bag) l_bag c_bag k_bag
  have b_bag := F_bag.binds (ps := ["_law_script", "_law_at"]) fun _ _ _ _ _ _ us hl => match us, hl with | [_, _], _ => rfl
  have F_take := fun_mk (st := s_take) l_take c_take k_take
  have b_take := F_take.binds (ps := ["_law_bag_here", "_law_many"]) fun _ _ _ _ _ _ us hl => match us, hl with | [_, _], _ => rfl
  have F_of := fun_mk (st := s_of) l_of c_of k_of
  have b_of := F_of.binds (ps := ["_law_bag_here", "_law_some"]) fun _ _ _ _ _ _ us hl => match us, hl with | [_, _], _ => rfl
  have F_number := fun_mk (st := s_number) l_number c_number k_number
  have b_number := F_number.binds (ps := ["_law_bag_here"]) fun _ _ _ _ _ _ us hl => match us, hl with | [_], _ => rfl
  have F_numbers := fun_mk (st := s_numbers) l_numbers c_numbers k_numbers
  have b_numbers := F_numbers.binds (ps := ["_law_bag_here", "_law_many"]) fun _ _ _ _ _ _ us hl => match us, hl with | [_, _], _ => rfl
  have F_cards := fun_mk (st := s_cards) l_cards c_cards k_cards
  have b_cards := F_cards.binds (ps := ["_law_bag_here", "_law_numbers_here", "_law_stations", "_law_most_moves", "_law_way"]) fun _ _ _ _ _ _ us hl => match us, hl with | [_, _, _, _, _], _ => rfl
  have F_sent := fun_mk (st := s_sent) l_sent c_sent k_sent
  have b_sent := F_sent.binds (ps := ["_law_places", "_law_card", "_law_grade"]) fun _ _ _ _ _ _ us hl => match us, hl with | [_, _, _], _ => rfl
  have F_back := fun_mk (st := s_back) l_back c_back k_back
  have b_back := F_back.binds (ps := ["_law_places", "_law_stations", "_law_number_here"]) fun _ _ _ _ _ _ us hl => match us, hl with | [_, _, _], _ => rfl
  have F_step := fun_mk (st := s_step) l_step c_step k_step
  have b_step := F_step.binds (ps := ["_law_stations", "_law_cards_here", "_law_standing", "_law_event"]) fun _ _ _ _ _ _ us hl => match us, hl with | [_, _, _, _], _ => rfl
  have F_start := fun_mk (st := s_start) l_start c_start k_start
  have b_start := F_start.binds (ps := ["_law_stations", "_law_cards_here"]) fun _ _ _ _ _ _ us hl => match us, hl with | [_, _], _ => rfl
  have F_allowed := fun_mk (st := s_allowed) l_allowed c_allowed k_allowed
  have b_allowed := F_allowed.binds (ps := ["_law_cards_here", "_law_standing", "_law_most_open"]) fun _ _ _ _ _ _ us hl => match us, hl with | [_, _, _], _ => rfl
  have F_made := fun_mk (st := s_made) l_made c_made k_made
  have b_made := F_made.binds (ps := ["_law_card"]) fun _ _ _ _ _ _ us hl => match us, hl with | [_], _ => rfl
  have F_room := fun_mk (st := s_room) l_room c_room k_room
  have b_room := F_room.binds (ps := ["_law_bag_here"]) fun _ _ _ _ _ _ us hl => match us, hl with | [_], _ => rfl
  have F_walked := fun_mk (st := s_walked) l_walked c_walked k_walked
  have b_walked := F_walked.binds (ps := ["_law_stations", "_law_cards_here", "_law_most_open"]) fun _ _ _ _ _ _ us hl => match us, hl with | [_, _, _], _ => rfl
  have F_lis_whole := fun_mk (st := s_lis_whole) l_lis_whole c_lis_whole k_lis_whole
  have b_lis_whole := F_lis_whole.binds (ps := ["_law_thing"]) fun _ _ _ _ _ _ us hl => match us, hl with | [_], _ => rfl
  have F_lis_place := fun_mk (st := s_lis_place) l_lis_place c_lis_place k_lis_place
  have b_lis_place := F_lis_place.binds (ps := ["_law_stations", "_law_place", "_law_numbers_here"]) fun _ _ _ _ _ _ us hl => match us, hl with | [_, _, _], _ => rfl
  have F_lis_standing := fun_mk (st := s_lis_standing) l_lis_standing c_lis_standing k_lis_standing
  have b_lis_standing := F_lis_standing.binds (ps := ["_law_stations", "_law_cards_here", "_law_thing", "_law_most_open"]) fun _ _ _ _ _ _ us hl => match us, hl with | [_, _, _, _], _ => rfl
  have F_due := fun_mk (st := s_due) l_due c_due k_due
  have b_due := F_due.binds (ps := ["_law_stations", "_law_cards_here", "_law_table", "_law_most_open"]) fun _ _ _ _ _ _ us hl => match us, hl with | [_, _, _, _], _ => rfl
  have F_turned := fun_mk (st := s_turned) l_turned c_turned k_turned
  have b_turned := F_turned.binds (ps := ["_law_bag_here", "_law_standing", "_law_stations", "_law_cards_here"]) fun _ _ _ _ _ _ us hl => match us, hl with | [_, _, _, _], _ => rfl
  have F_bent := fun_mk (st := s_bent) l_bent c_bent k_bent
  have b_bent := F_bent.binds (ps := ["_law_bag_here", "_law_table", "_law_stations", "_law_cards_here"]) fun _ _ _ _ _ _ us hl => match us, hl with | [_, _, _, _], _ => rfl
  have F_law := fun_mk (st := s_law) l_law c_law k_law
  have b_law := F_law.binds (ps := ["_law_script"]) fun _ _ _ _ _ _ us hl => match us, hl with | [_], _ => rfl
  have T : Σ' T : Txt K mg, T.a_law = fa ∧ T.d_law = PySem.W.fnOf "law" "law" (defArgs s_law) (defBody s_law) (defScope s_law) .none kV_law dc_law pm_law an_law cd_law ct_law :=
    ⟨{ CC := xC, gCC := PySem.W.mg_of X G axC, clCC := ⟨pgC, hdC, poC, saC⟩,
        RC := xR, gRC := PySem.W.mg_of X G axR, clRC := ⟨pgR, hdR, poR, saR⟩,
        nNu := nNu, nOr := nOr, nCo := nCo, nOw := nOw, nMo := nMo, nSt := nSt, nCa := nCa, nNs := nNs,
        mcC := .type "type", rdC := ⟨rdC, gaC⟩, uG := _, vG := ⟨vG, ⟨_, rfl⟩⟩,
        a_is_whole := _, d_is_whole := _, F_is_whole := F_is_whole, b_is_whole := b_is_whole, g_is_whole := PySem.W.mg_of X G a_is_whole,
        a_is_whole_within := _, d_is_whole_within := _, F_is_whole_within := F_is_whole_within, b_is_whole_within := b_is_whole_within, g_is_whole_within := PySem.W.mg_of X G a_is_whole_within,
        a_is_sequence := _, d_is_sequence := _, F_is_sequence := F_is_sequence, b_is_sequence := b_is_sequence, g_is_sequence := PySem.W.mg_of X G a_is_sequence,
        a_is_number := _, d_is_number := _, F_is_number := F_is_number, b_is_number := b_is_number, g_is_number := PySem.W.mg_of X G a_is_number,
        a_is_station := _, d_is_station := _, F_is_station := F_is_station, b_is_station := b_is_station, g_is_station := PySem.W.mg_of X G a_is_station,
        a_is_crew := _, d_is_crew := _, F_is_crew := F_is_crew, b_is_crew := b_is_crew, g_is_crew := PySem.W.mg_of X G a_is_crew,
        a_is_stations := _, d_is_stations := _, F_is_stations := F_is_stations, b_is_stations := b_is_stations, g_is_stations := PySem.W.mg_of X G a_is_stations,
        a_is_order := _, d_is_order := _, F_is_order := F_is_order, b_is_order := b_is_order, g_is_order := PySem.W.mg_of X G a_is_order,
        a_are_counts := _, d_are_counts := _, F_are_counts := F_are_counts, b_are_counts := b_are_counts, g_are_counts := PySem.W.mg_of X G a_are_counts,
        a_is_move := _, d_is_move := _, F_is_move := F_is_move, b_is_move := b_is_move, g_is_move := PySem.W.mg_of X G a_is_move,
        a_are_moves := _, d_are_moves := _, F_are_moves := F_are_moves, b_are_moves := b_are_moves, g_are_moves := PySem.W.mg_of X G a_are_moves,
        a_cinit := _, d_cinit := _, F_cinit := F_cinit, mk_cinit := ⟨mkC, a_cinit, i_cinit, kcC⟩, kb_cinit := kb2, tO := xO, tM := xM,
        a_check_crew := _, d_check_crew := _, F_check_crew := F_check_crew, b_check_crew := b_check_crew, g_check_crew := PySem.W.mg_of X G a_check_crew,
        a_check_card := _, d_check_card := _, F_check_card := F_check_card, b_check_card := b_check_card, g_check_card := PySem.W.mg_of X G a_check_card,
        a_rinit := _, d_rinit := _, F_rinit := F_rinit, b_rinit := b_rinit, mk_rinit := ⟨mkR, a_rinit, i_rinit, kcR⟩,
        a_rstart := _, d_rstart := _, F_rstart := F_rstart, b_rstart := b_rstart, m_rstart := ⟨a_rstart, i_rstart, k_rstart⟩,
        a_card_index := _, d_card_index := _, F_card_index := F_card_index, b_card_index := b_card_index, m_card_index := ⟨a_card_index, i_card_index, k_card_index⟩,
        a_card_of := _, d_card_of := _, F_card_of := F_card_of, b_card_of := b_card_of, m_card_of := ⟨a_card_of, i_card_of, k_card_of⟩,
        a_grade_in := _, d_grade_in := _, F_grade_in := F_grade_in, b_grade_in := b_grade_in, m_grade_in := ⟨a_grade_in, i_grade_in, k_grade_in⟩,
        a_open_count := _, d_open_count := _, F_open_count := F_open_count, b_open_count := b_open_count, g_open_count := PySem.W.mg_of X G a_open_count,
        a_rallowed := _, d_rallowed := _, F_rallowed := F_rallowed, b_rallowed := b_rallowed, m_rallowed := ⟨a_rallowed, i_rallowed, k_rallowed⟩,
        a_crews_at := _, d_crews_at := _, F_crews_at := F_crews_at, b_crews_at := b_crews_at, g_crews_at := PySem.W.mg_of X G a_crews_at,
        a_can_move := _, d_can_move := _, F_can_move := F_can_move, b_can_move := b_can_move, g_can_move := PySem.W.mg_of X G a_can_move,
        a_with_grade := _, d_with_grade := _, F_with_grade := F_with_grade, b_with_grade := b_with_grade, m_with_grade := ⟨a_with_grade, i_with_grade, k_with_grade⟩,
        a_can_go_home := _, d_can_go_home := _, F_can_go_home := F_can_go_home, b_can_go_home := b_can_go_home, m_can_go_home := ⟨a_can_go_home, i_can_go_home, k_can_go_home⟩,
        a_close := _, d_close := _, F_close := F_close, b_close := b_close, m_close := ⟨a_close, i_close, k_close⟩,
        a_lift := _, d_lift := _, F_lift := F_lift, b_lift := b_lift, m_lift := ⟨a_lift, i_lift, k_lift⟩,
        a_rstep := _, d_rstep := _, F_rstep := F_rstep, b_rstep := b_rstep, m_rstep := ⟨a_rstep, i_rstep, k_rstep⟩,
        a_makes_short := _, d_makes_short := _, F_makes_short := F_makes_short, b_makes_short := b_makes_short, g_makes_short := PySem.W.mg_of X G a_makes_short,
        a_is_pair := _, d_is_pair := _, F_is_pair := F_is_pair, b_is_pair := b_is_pair, g_is_pair := PySem.W.mg_of X G a_is_pair,
        a_are_grades := _, d_are_grades := _, F_are_grades := F_are_grades, b_are_grades := b_are_grades, g_are_grades := PySem.W.mg_of X G a_are_grades,
        a_is_place := _, d_is_place := _, F_is_place := F_is_place, b_is_place := b_is_place, g_is_place := PySem.W.mg_of X G a_is_place,
        a_is_standing := _, d_is_standing := _, F_is_standing := F_is_standing, b_is_standing := b_is_standing, g_is_standing := PySem.W.mg_of X G a_is_standing,
        a_table_fault := _, d_table_fault := _, F_table_fault := F_table_fault, g_table_fault := PySem.W.mg_of X G a_table_fault, kb_table_fault := kb_table_fault,
        a_bag := _, d_bag := _, F_bag := F_bag, b_bag := b_bag, g_bag := PySem.W.mg_of X G a_bag,
        a_take := _, d_take := _, F_take := F_take, b_take := b_take, g_take := PySem.W.mg_of X G a_take,
        a_of := _, d_of := _, F_of := F_of, b_of := b_of, g_of := PySem.W.mg_of X G a_of,
        a_number := _, d_number := _, F_number := F_number, b_number := b_number, g_number := PySem.W.mg_of X G a_number,
        a_numbers := _, d_numbers := _, F_numbers := F_numbers, b_numbers := b_numbers, g_numbers := PySem.W.mg_of X G a_numbers,
        a_cards := _, d_cards := _, F_cards := F_cards, b_cards := b_cards, g_cards := PySem.W.mg_of X G a_cards,
        a_sent := _, d_sent := _, F_sent := F_sent, b_sent := b_sent, g_sent := PySem.W.mg_of X G a_sent,
        a_back := _, d_back := _, F_back := F_back, b_back := b_back, g_back := PySem.W.mg_of X G a_back,
        a_step := _, d_step := _, F_step := F_step, b_step := b_step, g_step := PySem.W.mg_of X G a_step,
        a_start := _, d_start := _, F_start := F_start, b_start := b_start, g_start := PySem.W.mg_of X G a_start,
        a_allowed := _, d_allowed := _, F_allowed := F_allowed, b_allowed := b_allowed, g_allowed := PySem.W.mg_of X G a_allowed,
        a_made := _, d_made := _, F_made := F_made, b_made := b_made, g_made := PySem.W.mg_of X G a_made,
        a_room := _, d_room := _, F_room := F_room, b_room := b_room, g_room := PySem.W.mg_of X G a_room,
        a_walked := _, d_walked := _, F_walked := F_walked, b_walked := b_walked, g_walked := PySem.W.mg_of X G a_walked,
        a_lis_whole := _, d_lis_whole := _, F_lis_whole := F_lis_whole, b_lis_whole := b_lis_whole, g_lis_whole := PySem.W.mg_of X G a_lis_whole,
        a_lis_place := _, d_lis_place := _, F_lis_place := F_lis_place, b_lis_place := b_lis_place, g_lis_place := PySem.W.mg_of X G a_lis_place,
        a_lis_standing := _, d_lis_standing := _, F_lis_standing := F_lis_standing, b_lis_standing := b_lis_standing, g_lis_standing := PySem.W.mg_of X G a_lis_standing,
        a_due := _, d_due := _, F_due := F_due, b_due := b_due, g_due := PySem.W.mg_of X G a_due,
        a_turned := _, d_turned := _, F_turned := F_turned, b_turned := b_turned, g_turned := PySem.W.mg_of X G a_turned,
        a_bent := _, d_bent := _, F_bent := F_bent, b_bent := b_bent, g_bent := PySem.W.mg_of X G a_bent,
        a_law := _, d_law := _, F_law := F_law, b_law := b_law, g_law := PySem.W.mg_of X G a_law,
        t_DIGITS := _, c_DIGITS := PySem.W.mg_of X G n_DIGITS,
        t_MOST_DIGITS := _, c_MOST_DIGITS := PySem.W.mg_of X G n_MOST_DIGITS,
        t_GREATEST_SUM := _, c_GREATEST_SUM := PySem.W.mg_of X G n_GREATEST_SUM,
        t_MOST_CREWS := _, c_MOST_CREWS := PySem.W.mg_of X G n_MOST_CREWS,
        t_LAST_CREW := _, c_LAST_CREW := PySem.W.mg_of X G n_LAST_CREW,
        t_LAST_STATION := _, c_LAST_STATION := PySem.W.mg_of X G n_LAST_STATION,
        t_MOST_MOVES := _, c_MOST_MOVES := PySem.W.mg_of X G n_MOST_MOVES,
        t_IN := _, c_IN := PySem.W.mg_of X G n_IN,
        t_OUT := _, c_OUT := PySem.W.mg_of X G n_OUT,
        t_CALL := _, c_CALL := PySem.W.mg_of X G n_CALL,
        t_MORE := _, c_MORE := PySem.W.mg_of X G n_MORE,
        t_BACK := _, c_BACK := PySem.W.mg_of X G n_BACK,
        z_abs := PySem.W.mg_none_of X G z_abs,
        z_all := PySem.W.mg_none_of X G z_all,
        z_any := PySem.W.mg_none_of X G z_any,
        z_bool := PySem.W.mg_none_of X G z_bool,
        z_enumerate := PySem.W.mg_none_of X G z_enumerate,
        z_int := PySem.W.mg_none_of X G z_int,
        z_isinstance := PySem.W.mg_none_of X G z_isinstance,
        z_len := PySem.W.mg_none_of X G z_len,
        z_list := PySem.W.mg_none_of X G z_list,
        z_max := PySem.W.mg_none_of X G z_max,
        z_min := PySem.W.mg_none_of X G z_min,
        z_range := PySem.W.mg_none_of X G z_range,
        z_repr := PySem.W.mg_none_of X G z_repr,
        z_set := PySem.W.mg_none_of X G z_set,
        z_str := PySem.W.mg_none_of X G z_str,
        z_sum := PySem.W.mg_none_of X G z_sum,
        z_tuple := PySem.W.mg_none_of X G z_tuple,
        z_zip := PySem.W.mg_none_of X G z_zip }, rfl, rfl⟩
  obtain ⟨T, e1, e2⟩ := T
  subst e1
  refine ⟨T.d_law, fun s v => by rw [e2]; exact .of_eq rfl, fun base _ _ => ok_law T⟩
abbrev df_is_whole : Hd.Df := ⟨fun K => (He.ga K "is_whole"), "is_whole", "is_whole", s_is_whole⟩
abbrev df_is_whole_within : Hd.Df := ⟨fun K => (He.ga K "is_whole_within"), "is_whole_within", "is_whole_within", s_is_whole_within⟩
abbrev df_is_sequence : Hd.Df := ⟨fun K => (He.ga K "is_sequence"), "is_sequence", "is_sequence", s_is_sequence⟩
abbrev df_is_number : Hd.Df := ⟨fun K => (He.ga K "is_number"), "is_number", "is_number", s_is_number⟩
abbrev df_is_station : Hd.Df := ⟨fun K => (He.ga K "is_station"), "is_station", "is_station", s_is_station⟩
abbrev df_is_crew : Hd.Df := ⟨fun K => (He.ga K "is_crew"), "is_crew", "is_crew", s_is_crew⟩
abbrev df_is_stations : Hd.Df := ⟨fun K => (He.ga K "is_stations"), "is_stations", "is_stations", s_is_stations⟩
abbrev df_is_order : Hd.Df := ⟨fun K => (He.ga K "is_order"), "is_order", "is_order", s_is_order⟩
abbrev df_are_counts : Hd.Df := ⟨fun K => (He.ga K "are_counts"), "are_counts", "are_counts", s_are_counts⟩
abbrev df_is_move : Hd.Df := ⟨fun K => (He.ga K "is_move"), "is_move", "is_move", s_is_move⟩
abbrev df_are_moves : Hd.Df := ⟨fun K => (He.ga K "are_moves"), "are_moves", "are_moves", s_are_moves⟩
abbrev df_cinit : Hd.Df := ⟨fun K => (He.ma K (He.ga K "Card") "__init__"), "__init__", "Card.__init__", s_cinit⟩
abbrev df_check_crew : Hd.Df := ⟨fun K => (He.ga K "check_crew"), "check_crew", "check_crew", s_check_crew⟩
abbrev df_check_card : Hd.Df := ⟨fun K => (He.ga K "check_card"), "check_card", "check_card", s_check_card⟩
abbrev df_rinit : Hd.Df := ⟨fun K => (He.ma K (He.ga K "Room") "__init__"), "__init__", "Room.__init__", s_rinit⟩
abbrev df_rstart : Hd.Df := ⟨fun K => (He.ma K (He.ga K "Room") "start"), "start", "Room.start", s_rstart⟩
abbrev df_card_index : Hd.Df := ⟨fun K => (He.ma K (He.ga K "Room") "card_index"), "card_index", "Room.card_index", s_card_index⟩
abbrev df_card_of : Hd.Df := ⟨fun K => (He.ma K (He.ga K "Room") "card_of"), "card_of", "Room.card_of", s_card_of⟩
abbrev df_grade_in : Hd.Df := ⟨fun K => (He.ma K (He.ga K "Room") "grade_in"), "grade_in", "Room.grade_in", s_grade_in⟩
abbrev df_open_count : Hd.Df := ⟨fun K => (He.ga K "open_count"), "open_count", "open_count", s_open_count⟩
abbrev df_rallowed : Hd.Df := ⟨fun K => (He.ma K (He.ga K "Room") "allowed"), "allowed", "Room.allowed", s_rallowed⟩
abbrev df_crews_at : Hd.Df := ⟨fun K => (He.ga K "crews_at"), "crews_at", "crews_at", s_crews_at⟩
abbrev df_can_move : Hd.Df := ⟨fun K => (He.ga K "can_move"), "can_move", "can_move", s_can_move⟩
abbrev df_with_grade : Hd.Df := ⟨fun K => (He.ma K (He.ga K "Room") "with_grade"), "with_grade", "Room.with_grade", s_with_grade⟩
abbrev df_can_go_home : Hd.Df := ⟨fun K => (He.ma K (He.ga K "Room") "can_go_home"), "can_go_home", "Room.can_go_home", s_can_go_home⟩
abbrev df_close : Hd.Df := ⟨fun K => (He.ma K (He.ga K "Room") "close"), "close", "Room.close", s_close⟩
abbrev df_lift : Hd.Df := ⟨fun K => (He.ma K (He.ga K "Room") "lift"), "lift", "Room.lift", s_lift⟩
abbrev df_rstep : Hd.Df := ⟨fun K => (He.ma K (He.ga K "Room") "step"), "step", "Room.step", s_rstep⟩
abbrev df_makes_short : Hd.Df := ⟨fun K => (He.ga K "makes_short"), "makes_short", "makes_short", s_makes_short⟩
abbrev df_is_pair : Hd.Df := ⟨fun K => (He.ga K "is_pair"), "is_pair", "is_pair", s_is_pair⟩
abbrev df_are_grades : Hd.Df := ⟨fun K => (He.ga K "are_grades"), "are_grades", "are_grades", s_are_grades⟩
abbrev df_is_place : Hd.Df := ⟨fun K => (He.ga K "is_place"), "is_place", "is_place", s_is_place⟩
abbrev df_is_standing : Hd.Df := ⟨fun K => (He.ga K "is_standing"), "is_standing", "is_standing", s_is_standing⟩
abbrev df_table_fault : Hd.Df := ⟨fun K => (He.ga K "table_fault"), "table_fault", "table_fault", s_table_fault⟩
abbrev df_bag : Hd.Df := ⟨fun K => (He.ga K "_law_bag"), "_law_bag", "_law_bag", s_bag⟩
abbrev df_take : Hd.Df := ⟨fun K => (He.ga K "_law_take"), "_law_take", "_law_take", s_take⟩
abbrev df_of : Hd.Df := ⟨fun K => (He.ga K "_law_of"), "_law_of", "_law_of", s_of⟩
abbrev df_number : Hd.Df := ⟨fun K => (He.ga K "_law_number"), "_law_number", "_law_number", s_number⟩
abbrev df_numbers : Hd.Df := ⟨fun K => (He.ga K "_law_numbers"), "_law_numbers", "_law_numbers", s_numbers⟩
abbrev df_cards : Hd.Df := ⟨fun K => (He.ga K "_law_cards"), "_law_cards", "_law_cards", s_cards⟩
abbrev df_sent : Hd.Df := ⟨fun K => (He.ga K "_law_sent"), "_law_sent", "_law_sent", s_sent⟩
abbrev df_back : Hd.Df := ⟨fun K => (He.ga K "_law_back"), "_law_back", "_law_back", s_back⟩
abbrev df_step : Hd.Df := ⟨fun K => (He.ga K "_law_step"), "_law_step", "_law_step", s_step⟩
abbrev df_start : Hd.Df := ⟨fun K => (He.ga K "_law_start"), "_law_start", "_law_start", s_start⟩
abbrev df_allowed : Hd.Df := ⟨fun K => (He.ga K "_law_allowed"), "_law_allowed", "_law_allowed", s_allowed⟩
abbrev df_made : Hd.Df := ⟨fun K => (He.ga K "_law_made"), "_law_made", "_law_made", s_made⟩
abbrev df_room : Hd.Df := ⟨fun K => (He.ga K "_law_room"), "_law_room", "_law_room", s_room⟩
abbrev df_walked : Hd.Df := ⟨fun K => (He.ga K "_law_walked"), "_law_walked", "_law_walked", s_walked⟩
abbrev df_lis_whole : Hd.Df := ⟨fun K => (He.ga K "_law_is_whole"), "_law_is_whole", "_law_is_whole", s_lis_whole⟩
abbrev df_lis_place : Hd.Df := ⟨fun K => (He.ga K "_law_is_place"), "_law_is_place", "_law_is_place", s_lis_place⟩
abbrev df_lis_standing : Hd.Df := ⟨fun K => (He.ga K "_law_is_standing"), "_law_is_standing", "_law_is_standing", s_lis_standing⟩
abbrev df_due : Hd.Df := ⟨fun K => (He.ga K "_law_due"), "_law_due", "_law_due", s_due⟩
abbrev df_turned : Hd.Df := ⟨fun K => (He.ga K "_law_turned"), "_law_turned", "_law_turned", s_turned⟩
abbrev df_bent : Hd.Df := ⟨fun K => (He.ga K "_law_bent"), "_law_bent", "_law_bent", s_bent⟩
abbrev df_law : Hd.Df := ⟨fun K => (He.ga K "law"), "law", "law", s_law⟩
def ds : List Hd.Df := [df_is_whole, df_is_whole_within, df_is_sequence, df_is_number, df_is_station, df_is_crew, df_is_stations, df_is_order, df_are_counts, df_is_move, df_are_moves, df_cinit, df_check_crew, df_check_card, df_rinit, df_rstart, df_card_index, df_card_of, df_grade_in, df_open_count, df_rallowed, df_crews_at, df_can_move, df_with_grade, df_can_go_home, df_close, df_lift, df_rstep, df_makes_short, df_is_pair, df_are_grades, df_is_place, df_is_standing, df_table_fault, df_bag, df_take, df_of, df_number, df_numbers, df_cards, df_sent, df_back, df_step, df_start, df_allowed, df_made, df_room, df_walked, df_lis_whole, df_lis_place, df_lis_standing, df_due, df_turned, df_bent, df_law]
def ex0 (K : PySem.W.Frag) : Bool := decide (PySem.W.nsIn K mainGlobals "Card" = some (some (.ref (He.ga K "Card")))) && (decide (PySem.W.nsIn K mainGlobals "Room" = some (some (.ref (He.ga K "Room")))) && (decide (PySem.W.nsIn K mainGlobals "is_whole" = some (some (.ref (He.ga K "is_whole")))) && (decide (PySem.W.nsIn K mainGlobals "is_whole_within" = some (some (.ref (He.ga K "is_whole_within")))) && (decide (PySem.W.nsIn K mainGlobals "is_sequence" = some (some (.ref (He.ga K "is_sequence")))) && (decide (PySem.W.nsIn K mainGlobals "is_number" = some (some (.ref (He.ga K "is_number")))) && (decide (PySem.W.nsIn K mainGlobals "is_station" = some (some (.ref (He.ga K "is_station")))) && (decide (PySem.W.nsIn K mainGlobals "is_crew" = some (some (.ref (He.ga K "is_crew")))) && (decide (PySem.W.nsIn K mainGlobals "is_stations" = some (some (.ref (He.ga K "is_stations")))) && (decide (PySem.W.nsIn K mainGlobals "is_order" = some (some (.ref (He.ga K "is_order")))) && (decide (PySem.W.nsIn K mainGlobals "are_counts" = some (some (.ref (He.ga K "are_counts")))) && (decide (PySem.W.nsIn K mainGlobals "is_move" = some (some (.ref (He.ga K "is_move")))) && (decide (PySem.W.nsIn K mainGlobals "are_moves" = some (some (.ref (He.ga K "are_moves")))) && (decide (PySem.W.findIn K (.ref (He.ga K "Card")) "__init__" = some (some (.ref (He.ma K (He.ga K "Card") "__init__")))) && (PySem.W.isFn K (.ref (He.ma K (He.ga K "Card") "__init__")) && (decide (PySem.W.nsIn K (Hd.kwA K (He.ma K (He.ga K "Card") "__init__")) "owed" = some (some (.ref (Hd.inA K (Hd.kwA K (He.ma K (He.ga K "Card") "__init__")) "owed")))) && (decide (PySem.W.nsIn K (Hd.kwA K (He.ma K (He.ga K "Card") "__init__")) "moves" = some (some (.ref (Hd.inA K (Hd.kwA K (He.ma K (He.ga K "Card") "__init__")) "moves")))) && (decide (PySem.W.nsIn K mainGlobals "check_crew" = some (some (.ref (He.ga K "check_crew")))) && (decide (PySem.W.nsIn K mainGlobals "check_card" = some (some (.ref (He.ga K "check_card")))) && (decide (PySem.W.findIn K (.ref (He.ga K "Room")) "__init__" = some (some (.ref (He.ma K (He.ga K "Room") "__init__")))) && (PySem.W.isFn K (.ref (He.ma K (He.ga K "Room") "__init__")) && (decide (PySem.W.findIn K (.ref (He.ga K "Room")) "start" = some (some (.ref (He.ma K (He.ga K "Room") "start")))) && (PySem.W.isFn K (.ref (He.ma K (He.ga K "Room") "start")) && (decide (PySem.W.findIn K (.ref (He.ga K "Room")) "card_index" = some (some (.ref (He.ma K (He.ga K "Room") "card_index")))) && (PySem.W.isFn K (.ref (He.ma K (He.ga K "Room") "card_index"))))))))))))))))))))))))))
def ex1 (K : PySem.W.Frag) : Bool := decide (PySem.W.findIn K (.ref (He.ga K "Room")) "card_of" = some (some (.ref (He.ma K (He.ga K "Room") "card_of")))) && (PySem.W.isFn K (.ref (He.ma K (He.ga K "Room") "card_of")) && (decide (PySem.W.findIn K (.ref (He.ga K "Room")) "grade_in" = some (some (.ref (He.ma K (He.ga K "Room") "grade_in")))) && (PySem.W.isFn K (.ref (He.ma K (He.ga K "Room") "grade_in")) && (decide (PySem.W.nsIn K mainGlobals "open_count" = some (some (.ref (He.ga K "open_count")))) && (decide (PySem.W.findIn K (.ref (He.ga K "Room")) "allowed" = some (some (.ref (He.ma K (He.ga K "Room") "allowed")))) && (PySem.W.isFn K (.ref (He.ma K (He.ga K "Room") "allowed")) && (decide (PySem.W.nsIn K mainGlobals "crews_at" = some (some (.ref (He.ga K "crews_at")))) && (decide (PySem.W.nsIn K mainGlobals "can_move" = some (some (.ref (He.ga K "can_move")))) && (decide (PySem.W.findIn K (.ref (He.ga K "Room")) "with_grade" = some (some (.ref (He.ma K (He.ga K "Room") "with_grade")))) && (PySem.W.isFn K (.ref (He.ma K (He.ga K "Room") "with_grade")) && (decide (PySem.W.findIn K (.ref (He.ga K "Room")) "can_go_home" = some (some (.ref (He.ma K (He.ga K "Room") "can_go_home")))) && (PySem.W.isFn K (.ref (He.ma K (He.ga K "Room") "can_go_home")) && (decide (PySem.W.findIn K (.ref (He.ga K "Room")) "close" = some (some (.ref (He.ma K (He.ga K "Room") "close")))) && (PySem.W.isFn K (.ref (He.ma K (He.ga K "Room") "close")) && (decide (PySem.W.findIn K (.ref (He.ga K "Room")) "lift" = some (some (.ref (He.ma K (He.ga K "Room") "lift")))) && (PySem.W.isFn K (.ref (He.ma K (He.ga K "Room") "lift")) && (decide (PySem.W.findIn K (.ref (He.ga K "Room")) "step" = some (some (.ref (He.ma K (He.ga K "Room") "step")))) && (PySem.W.isFn K (.ref (He.ma K (He.ga K "Room") "step")) && (decide (PySem.W.nsIn K mainGlobals "makes_short" = some (some (.ref (He.ga K "makes_short")))) && (decide (PySem.W.nsIn K mainGlobals "is_pair" = some (some (.ref (He.ga K "is_pair")))) && (decide (PySem.W.nsIn K mainGlobals "are_grades" = some (some (.ref (He.ga K "are_grades")))) && (decide (PySem.W.nsIn K mainGlobals "is_place" = some (some (.ref (He.ga K "is_place")))) && (decide (PySem.W.nsIn K mainGlobals "is_standing" = some (some (.ref (He.ga K "is_standing")))) && (decide (PySem.W.nsIn K mainGlobals "table_fault" = some (some (.ref (He.ga K "table_fault"))))))))))))))))))))))))))))
def ex2 (K : PySem.W.Frag) : Bool := decide (PySem.W.nsIn K mainGlobals "_law_bag" = some (some (.ref (He.ga K "_law_bag")))) && (decide (PySem.W.nsIn K mainGlobals "_law_take" = some (some (.ref (He.ga K "_law_take")))) && (decide (PySem.W.nsIn K mainGlobals "_law_of" = some (some (.ref (He.ga K "_law_of")))) && (decide (PySem.W.nsIn K mainGlobals "_law_number" = some (some (.ref (He.ga K "_law_number")))) && (decide (PySem.W.nsIn K mainGlobals "_law_numbers" = some (some (.ref (He.ga K "_law_numbers")))) && (decide (PySem.W.nsIn K mainGlobals "_law_cards" = some (some (.ref (He.ga K "_law_cards")))) && (decide (PySem.W.nsIn K mainGlobals "_law_sent" = some (some (.ref (He.ga K "_law_sent")))) && (decide (PySem.W.nsIn K mainGlobals "_law_back" = some (some (.ref (He.ga K "_law_back")))) && (decide (PySem.W.nsIn K mainGlobals "_law_step" = some (some (.ref (He.ga K "_law_step")))) && (decide (PySem.W.nsIn K mainGlobals "_law_start" = some (some (.ref (He.ga K "_law_start")))) && (decide (PySem.W.nsIn K mainGlobals "_law_allowed" = some (some (.ref (He.ga K "_law_allowed")))) && (decide (PySem.W.nsIn K mainGlobals "_law_made" = some (some (.ref (He.ga K "_law_made")))) && (decide (PySem.W.nsIn K mainGlobals "_law_room" = some (some (.ref (He.ga K "_law_room")))) && (decide (PySem.W.nsIn K mainGlobals "_law_walked" = some (some (.ref (He.ga K "_law_walked")))) && (decide (PySem.W.nsIn K mainGlobals "_law_is_whole" = some (some (.ref (He.ga K "_law_is_whole")))) && (decide (PySem.W.nsIn K mainGlobals "_law_is_place" = some (some (.ref (He.ga K "_law_is_place")))) && (decide (PySem.W.nsIn K mainGlobals "_law_is_standing" = some (some (.ref (He.ga K "_law_is_standing")))) && (decide (PySem.W.nsIn K mainGlobals "_law_due" = some (some (.ref (He.ga K "_law_due")))) && (decide (PySem.W.nsIn K mainGlobals "_law_turned" = some (some (.ref (He.ga K "_law_turned")))) && (decide (PySem.W.nsIn K mainGlobals "_law_bent" = some (some (.ref (He.ga K "_law_bent")))) && (decide (PySem.W.nsIn K mainGlobals "law" = some (some (.ref (He.ga K "law")))) && (PySem.W.plainGet K (He.ga K "Card") Str.empty && (PySem.W.hasDictIn K (He.ga K "Card") && (PySem.W.plainOver K (He.ga K "Card") && (decide (PySem.W.findIn K (.ref (He.ga K "Card")) "__setattr__" = some (some (.builtin "object.__setattr__")))))))))))))))))))))))))))
def ex3 (K : PySem.W.Frag) : Bool := PySem.W.makesIn K (He.ga K "Card") && (PySem.W.keepIn K (.ref (He.ga K "Card")) && (decide (PySem.W.findIn K (.ref (He.ga K "Card")) "number" = some none) && (decide (PySem.W.findIn K (.ref (He.ga K "Card")) "order" = some none) && (decide (PySem.W.findIn K (.ref (He.ga K "Card")) "counts" = some none) && (decide (PySem.W.findIn K (.ref (He.ga K "Card")) "owed" = some none) && (decide (PySem.W.findIn K (.ref (He.ga K "Card")) "moves" = some none) && (PySem.W.readsIn K (He.ga K "Card") (.type "type") && (decide (PySem.W.specialIn K (.ref (He.ga K "Card")) "__getattribute__" = some (some (.builtin "type.__getattribute__"))) && (PySem.W.plainGet K (He.ga K "Room") Str.empty && (PySem.W.hasDictIn K (He.ga K "Room") && (PySem.W.plainOver K (He.ga K "Room") && (decide (PySem.W.findIn K (.ref (He.ga K "Room")) "__setattr__" = some (some (.builtin "object.__setattr__"))) && (PySem.W.makesIn K (He.ga K "Room") && (PySem.W.keepIn K (.ref (He.ga K "Room")) && (decide (PySem.W.findIn K (.ref (He.ga K "Room")) "stations" = some none) && (decide (PySem.W.findIn K (.ref (He.ga K "Room")) "cards" = some none) && (decide (PySem.W.findIn K (.ref (He.ga K "Room")) "numbers" = some none) && (Hd.ciB K (He.ga K "Card") "GRADES" 3 && (decide (PySem.W.nsIn K mainGlobals "DIGITS" = some (some (.str "123456789" (Hd.tkA K "DIGITS")))) && (decide (PySem.W.nsIn K mainGlobals "MOST_DIGITS" = some (some (.int 4 (Hd.tkA K "MOST_DIGITS")))) && (decide (PySem.W.nsIn K mainGlobals "GREATEST_SUM" = some (some (.int 24 (Hd.tkA K "GREATEST_SUM")))) && (decide (PySem.W.nsIn K mainGlobals "MOST_CREWS" = some (some (.int 6 (Hd.tkA K "MOST_CREWS")))) && (decide (PySem.W.nsIn K mainGlobals "LAST_CREW" = some (some (.int 5 (Hd.tkA K "LAST_CREW")))) && (decide (PySem.W.nsIn K mainGlobals "LAST_STATION" = some (some (.int 8 (Hd.tkA K "LAST_STATION"))))))))))))))))))))))))))))
def ex4 (K : PySem.W.Frag) : Bool := decide (PySem.W.nsIn K mainGlobals "MOST_MOVES" = some (some (.int 6 (Hd.tkA K "MOST_MOVES")))) && (decide (PySem.W.nsIn K mainGlobals "IN" = some (some (.str "in" (Hd.tkA K "IN")))) && (decide (PySem.W.nsIn K mainGlobals "OUT" = some (some (.str "out" (Hd.tkA K "OUT")))) && (decide (PySem.W.nsIn K mainGlobals "CALL" = some (some (.str "call" (Hd.tkA K "CALL")))) && (decide (PySem.W.nsIn K mainGlobals "MORE" = some (some (.str "more" (Hd.tkA K "MORE")))) && (decide (PySem.W.nsIn K mainGlobals "BACK" = some (some (.str "back" (Hd.tkA K "BACK")))) && (decide (PySem.W.nsIn K mainGlobals "abs" = some none) && (decide (PySem.W.nsIn K mainGlobals "all" = some none) && (decide (PySem.W.nsIn K mainGlobals "any" = some none) && (decide (PySem.W.nsIn K mainGlobals "bool" = some none) && (decide (PySem.W.nsIn K mainGlobals "enumerate" = some none) && (decide (PySem.W.nsIn K mainGlobals "int" = some none) && (decide (PySem.W.nsIn K mainGlobals "isinstance" = some none) && (decide (PySem.W.nsIn K mainGlobals "len" = some none) && (decide (PySem.W.nsIn K mainGlobals "list" = some none) && (decide (PySem.W.nsIn K mainGlobals "max" = some none) && (decide (PySem.W.nsIn K mainGlobals "min" = some none) && (decide (PySem.W.nsIn K mainGlobals "range" = some none) && (decide (PySem.W.nsIn K mainGlobals "repr" = some none) && (decide (PySem.W.nsIn K mainGlobals "set" = some none) && (decide (PySem.W.nsIn K mainGlobals "str" = some none) && (decide (PySem.W.nsIn K mainGlobals "sum" = some none) && (decide (PySem.W.nsIn K mainGlobals "tuple" = some none) && (decide (PySem.W.nsIn K mainGlobals "zip" = some none) && (Hd.kwB K (He.ma K (He.ga K "Card") "__init__")))))))))))))))))))))))))
def exs (K : PySem.W.Frag) : Bool := ex0 K && (ex1 K && (ex2 K && (ex3 K && (ex4 K))))
theorem facts {l : PySem.W.OpenLaw} {w : World} {K : PySem.W.Frag} {h : Heap} {mg : Str → Option Value} {fa : Addr} (X : K.In h) (G : h.Ns mainGlobals mg) (hfa : mg "law" = some (.ref fa)) (c : Hd.Says ds exs K)
    : ∃ fd : FuncData, (∀ (s : Shared) (v : Value), BindsTo s fd ⟨[v], []⟩ [("_law_script", v)]) ∧ ∀ base : Heap, K.In base → base.Ns mainGlobals mg → Rp.GOk l.prog w K mg base CX0 12 fa fd ["_law_script"] (sp_law K) := by
  have r := c.exs
  have q := (He.ba r).1
  have r := (He.ba r).2
  have axC := of_decide_eq_true (He.ba q).1
  have q := (He.ba q).2
  have axR := of_decide_eq_true (He.ba q).1
  have q := (He.ba q).2
  have a_is_whole := of_decide_eq_true (He.ba q).1
  have q := (He.ba q).2
  have a_is_whole_within := of_decide_eq_true (He.ba q).1
  have q := (He.ba q).2
  have a_is_sequence := of_decide_eq_true (He.ba q).1
  have q := (He.ba q).2
  have a_is_number := of_decide_eq_true (He.ba q).1
  have q := (He.ba q).2
  have a_is_station := of_decide_eq_true (He.ba q).1
  have q := (He.ba q).2
  have a_is_crew := of_decide_eq_true (He.ba q).1
  have q := (He.ba q).2
  have a_is_stations := of_decide_eq_true (He.ba q).1
  have q := (He.ba q).2
  have a_is_order := of_decide_eq_true (He.ba q).1
  have q := (He.ba q).2
  have a_are_counts := of_decide_eq_true (He.ba q).1
  have q := (He.ba q).2
  have a_is_move := of_decide_eq_true (He.ba q).1
  have q := (He.ba q).2
  have a_are_moves := of_decide_eq_true (He.ba q).1
  have q := (He.ba q).2
  have a_cinit := of_decide_eq_true (He.ba q).1
  have q := (He.ba q).2
  have i_cinit := (He.ba q).1
  have q := (He.ba q).2
  have e_owed := of_decide_eq_true (He.ba q).1
  have q := (He.ba q).2
  have e_moves := of_decide_eq_true (He.ba q).1
  have q := (He.ba q).2
  have a_check_crew := of_decide_eq_true (He.ba q).1
  have q := (He.ba q).2
  have a_check_card := of_decide_eq_true (He.ba q).1
  have q := (He.ba q).2
  have a_rinit := of_decide_eq_true (He.ba q).1
  have q := (He.ba q).2
  have i_rinit := (He.ba q).1
  have q := (He.ba q).2
  have a_rstart := of_decide_eq_true (He.ba q).1
  have q := (He.ba q).2
  have i_rstart := (He.ba q).1
  have q := (He.ba q).2
  have a_card_index := of_decide_eq_true (He.ba q).1
  have q := (He.ba q).2
  have i_card_index := q
  have q := (He.ba r).1
  have r := (He.ba r).2
  have a_card_of := of_decide_eq_true (He.ba q).1
  have q := (He.ba q).2
  have i_card_of := (He.ba q).1
  have q := (He.ba q).2
  have a_grade_in := of_decide_eq_true (He.ba q).1
  have q := (He.ba q).2
  have i_grade_in := (He.ba q).1
  have q := (He.ba q).2
  have a_open_count := of_decide_eq_true (He.ba q).1
  have q := (He.ba q).2
  have a_rallowed := of_decide_eq_true (He.ba q).1
  have q := (He.ba q).2
  have i_rallowed := (He.ba q).1
  have q := (He.ba q).2
  have a_crews_at := of_decide_eq_true (He.ba q).1
  have q := (He.ba q).2
  have a_can_move := of_decide_eq_true (He.ba q).1
  have q := (He.ba q).2
  have a_with_grade := of_decide_eq_true (He.ba q).1
  have q := (He.ba q).2
  have i_with_grade := (He.ba q).1
  have q := (He.ba q).2
  have a_can_go_home := of_decide_eq_true (He.ba q).1
  have q := (He.ba q).2
  have i_can_go_home := (He.ba q).1
  have q := (He.ba q).2
  have a_close := of_decide_eq_true (He.ba q).1
  have q := (He.ba q).2
  have i_close := (He.ba q).1
  have q := (He.ba q).2
  have a_lift := of_decide_eq_true (He.ba q).1
  have q := (He.ba q).2
  have i_lift := (He.ba q).1
  have q := (He.ba q).2
  have a_rstep := of_decide_eq_true (He.ba q).1
  have q := (He.ba q).2
  have i_rstep := (He.ba q).1
  have q := (He.ba q).2
  have a_makes_short := of_decide_eq_true (He.ba q).1
  have q := (He.ba q).2
  have a_is_pair := of_decide_eq_true (He.ba q).1
  have q := (He.ba q).2
  have a_are_grades := of_decide_eq_true (He.ba q).1
  have q := (He.ba q).2
  have a_is_place := of_decide_eq_true (He.ba q).1
  have q := (He.ba q).2
  have a_is_standing := of_decide_eq_true (He.ba q).1
  have q := (He.ba q).2
  have a_table_fault := of_decide_eq_true q
  have q := (He.ba r).1
  have r := (He.ba r).2
  have a_bag := of_decide_eq_true (He.ba q).1
  have q := (He.ba q).2
  have a_take := of_decide_eq_true (He.ba q).1
  have q := (He.ba q).2
  have a_of := of_decide_eq_true (He.ba q).1
  have q := (He.ba q).2
  have a_number := of_decide_eq_true (He.ba q).1
  have q := (He.ba q).2
  have a_numbers := of_decide_eq_true (He.ba q).1
  have q := (He.ba q).2
  have a_cards := of_decide_eq_true (He.ba q).1
  have q := (He.ba q).2
  have a_sent := of_decide_eq_true (He.ba q).1
  have q := (He.ba q).2
  have a_back := of_decide_eq_true (He.ba q).1
  have q := (He.ba q).2
  have a_step := of_decide_eq_true (He.ba q).1
  have q := (He.ba q).2
  have a_start := of_decide_eq_true (He.ba q).1
  have q := (He.ba q).2
  have a_allowed := of_decide_eq_true (He.ba q).1
  have q := (He.ba q).2
  have a_made := of_decide_eq_true (He.ba q).1
  have q := (He.ba q).2
  have a_room := of_decide_eq_true (He.ba q).1
  have q := (He.ba q).2
  have a_walked := of_decide_eq_true (He.ba q).1
  have q := (He.ba q).2
  have a_lis_whole := of_decide_eq_true (He.ba q).1
  have q := (He.ba q).2
  have a_lis_place := of_decide_eq_true (He.ba q).1
  have q := (He.ba q).2
  have a_lis_standing := of_decide_eq_true (He.ba q).1
  have q := (He.ba q).2
  have a_due := of_decide_eq_true (He.ba q).1
  have q := (He.ba q).2
  have a_turned := of_decide_eq_true (He.ba q).1
  have q := (He.ba q).2
  have a_bent := of_decide_eq_true (He.ba q).1
  have q := (He.ba q).2
  have a_law := of_decide_eq_true (He.ba q).1
  have q := (He.ba q).2
  have pgC := (He.ba q).1
  have q := (He.ba q).2
  have hdC := (He.ba q).1
  have q := (He.ba q).2
  have poC := (He.ba q).1
  have q := (He.ba q).2
  have saC := of_decide_eq_true q
  have q := (He.ba r).1
  have r := (He.ba r).2
  have mkC := (He.ba q).1
  have q := (He.ba q).2
  have kcC := (He.ba q).1
  have q := (He.ba q).2
  have nNu := of_decide_eq_true (He.ba q).1
  have q := (He.ba q).2
  have nOr := of_decide_eq_true (He.ba q).1
  have q := (He.ba q).2
  have nCo := of_decide_eq_true (He.ba q).1
  have q := (He.ba q).2
  have nOw := of_decide_eq_true (He.ba q).1
  have q := (He.ba q).2
  have nMo := of_decide_eq_true (He.ba q).1
  have q := (He.ba q).2
  have rdC := (He.ba q).1
  have q := (He.ba q).2
  have gaC := of_decide_eq_true (He.ba q).1
  have q := (He.ba q).2
  have pgR := (He.ba q).1
  have q := (He.ba q).2
  have hdR := (He.ba q).1
  have q := (He.ba q).2
  have poR := (He.ba q).1
  have q := (He.ba q).2
  have saR := of_decide_eq_true (He.ba q).1
  have q := (He.ba q).2
  have mkR := (He.ba q).1
  have q := (He.ba q).2
  have kcR := (He.ba q).1
  have q := (He.ba q).2
  have nSt := of_decide_eq_true (He.ba q).1
  have q := (He.ba q).2
  have nCa := of_decide_eq_true (He.ba q).1
  have q := (He.ba q).2
  have nNs := of_decide_eq_true (He.ba q).1
  have q := (He.ba q).2
  obtain ⟨tP, vG⟩ := Hd.ci_ok (He.ba q).1
  have q := (He.ba q).2
  have n_DIGITS := of_decide_eq_true (He.ba q).1
  have q := (He.ba q).2
  have n_MOST_DIGITS := of_decide_eq_true (He.ba q).1
  have q := (He.ba q).2
  have n_GREATEST_SUM := of_decide_eq_true (He.ba q).1
  have q := (He.ba q).2
  have n_MOST_CREWS := of_decide_eq_true (He.ba q).1
  have q := (He.ba q).2
  have n_LAST_CREW := of_decide_eq_true (He.ba q).1
  have q := (He.ba q).2
  have n_LAST_STATION := of_decide_eq_true q
  have q := r
  have n_MOST_MOVES := of_decide_eq_true (He.ba q).1
  have q := (He.ba q).2
  have n_IN := of_decide_eq_true (He.ba q).1
  have q := (He.ba q).2
  have n_OUT := of_decide_eq_true (He.ba q).1
  have q := (He.ba q).2
  have n_CALL := of_decide_eq_true (He.ba q).1
  have q := (He.ba q).2
  have n_MORE := of_decide_eq_true (He.ba q).1
  have q := (He.ba q).2
  have n_BACK := of_decide_eq_true (He.ba q).1
  have q := (He.ba q).2
  have z_abs := of_decide_eq_true (He.ba q).1
  have q := (He.ba q).2
  have z_all := of_decide_eq_true (He.ba q).1
  have q := (He.ba q).2
  have z_any := of_decide_eq_true (He.ba q).1
  have q := (He.ba q).2
  have z_bool := of_decide_eq_true (He.ba q).1
  have q := (He.ba q).2
  have z_enumerate := of_decide_eq_true (He.ba q).1
  have q := (He.ba q).2
  have z_int := of_decide_eq_true (He.ba q).1
  have q := (He.ba q).2
  have z_isinstance := of_decide_eq_true (He.ba q).1
  have q := (He.ba q).2
  have z_len := of_decide_eq_true (He.ba q).1
  have q := (He.ba q).2
  have z_list := of_decide_eq_true (He.ba q).1
  have q := (He.ba q).2
  have z_max := of_decide_eq_true (He.ba q).1
  have q := (He.ba q).2
  have z_min := of_decide_eq_true (He.ba q).1
  have q := (He.ba q).2
  have z_range := of_decide_eq_true (He.ba q).1
  have q := (He.ba q).2
  have z_repr := of_decide_eq_true (He.ba q).1
  have q := (He.ba q).2
  have z_set := of_decide_eq_true (He.ba q).1
  have q := (He.ba q).2
  have z_str := of_decide_eq_true (He.ba q).1
  have q := (He.ba q).2
  have z_sum := of_decide_eq_true (He.ba q).1
  have q := (He.ba q).2
  have z_tuple := of_decide_eq_true (He.ba q).1
  have q := (He.ba q).2
  have z_zip := of_decide_eq_true (He.ba q).1
  have q := (He.ba q).2
  have w_cinit := q
  obtain ⟨_, _, _, kV_is_whole, _, _, _, _, _, l_is_whole, c_is_whole, k_is_whole⟩ := c.df 0 (d := df_is_whole)
  obtain ⟨_, _, _, kV_is_whole_within, _, _, _, _, _, l_is_whole_within, c_is_whole_within, k_is_whole_within⟩ := c.df 1 (d := df_is_whole_within)
  obtain ⟨_, _, _, kV_is_sequence, _, _, _, _, _, l_is_sequence, c_is_sequence, k_is_sequence⟩ := c.df 2 (d := df_is_sequence)
  obtain ⟨_, _, _, kV_is_number, _, _, _, _, _, l_is_number, c_is_number, k_is_number⟩ := c.df 3 (d := df_is_number)
  obtain ⟨_, _, _, kV_is_station, _, _, _, _, _, l_is_station, c_is_station, k_is_station⟩ := c.df 4 (d := df_is_station)
  obtain ⟨_, _, _, kV_is_crew, _, _, _, _, _, l_is_crew, c_is_crew, k_is_crew⟩ := c.df 5 (d := df_is_crew)
  obtain ⟨_, _, _, kV_is_stations, _, _, _, _, _, l_is_stations, c_is_stations, k_is_stations⟩ := c.df 6 (d := df_is_stations)
  obtain ⟨_, _, _, kV_is_order, _, _, _, _, _, l_is_order, c_is_order, k_is_order⟩ := c.df 7 (d := df_is_order)
  obtain ⟨_, _, _, kV_are_counts, _, _, _, _, _, l_are_counts, c_are_counts, k_are_counts⟩ := c.df 8 (d := df_are_counts)
  obtain ⟨_, _, _, kV_is_move, _, _, _, _, _, l_is_move, c_is_move, k_is_move⟩ := c.df 9 (d := df_is_move)
  obtain ⟨_, _, _, kV_are_moves, _, _, _, _, _, l_are_moves, c_are_moves, k_are_moves⟩ := c.df 10 (d := df_are_moves)
  obtain ⟨_, _, _, kV_cinit, _, _, _, _, _, l_cinit, c_cinit, k_cinit⟩ := c.df 11 (d := df_cinit)
  have w_cinit := Hd.kw_eq l_cinit w_cinit
  have w2_cinit : kV_cinit = .ref (Hd.kwA K (He.ma K (He.ga K "Card") "__init__")) := w_cinit
  subst w2_cinit
  obtain ⟨_, _, _, kV_check_crew, _, _, _, _, _, l_check_crew, c_check_crew, k_check_crew⟩ := c.df 12 (d := df_check_crew)
  obtain ⟨_, _, _, kV_check_card, _, _, _, _, _, l_check_card, c_check_card, k_check_card⟩ := c.df 13 (d := df_check_card)
  obtain ⟨_, _, _, kV_rinit, _, _, _, _, _, l_rinit, c_rinit, k_rinit⟩ := c.df 14 (d := df_rinit)
  obtain ⟨_, _, _, kV_rstart, _, _, _, _, _, l_rstart, c_rstart, k_rstart⟩ := c.df 15 (d := df_rstart)
  obtain ⟨_, _, _, kV_card_index, _, _, _, _, _, l_card_index, c_card_index, k_card_index⟩ := c.df 16 (d := df_card_index)
  obtain ⟨_, _, _, kV_card_of, _, _, _, _, _, l_card_of, c_card_of, k_card_of⟩ := c.df 17 (d := df_card_of)
  obtain ⟨_, _, _, kV_grade_in, _, _, _, _, _, l_grade_in, c_grade_in, k_grade_in⟩ := c.df 18 (d := df_grade_in)
  obtain ⟨_, _, _, kV_open_count, _, _, _, _, _, l_open_count, c_open_count, k_open_count⟩ := c.df 19 (d := df_open_count)
  obtain ⟨_, _, _, kV_rallowed, _, _, _, _, _, l_rallowed, c_rallowed, k_rallowed⟩ := c.df 20 (d := df_rallowed)
  obtain ⟨_, _, _, kV_crews_at, _, _, _, _, _, l_crews_at, c_crews_at, k_crews_at⟩ := c.df 21 (d := df_crews_at)
  obtain ⟨_, _, _, kV_can_move, _, _, _, _, _, l_can_move, c_can_move, k_can_move⟩ := c.df 22 (d := df_can_move)
  obtain ⟨_, _, _, kV_with_grade, _, _, _, _, _, l_with_grade, c_with_grade, k_with_grade⟩ := c.df 23 (d := df_with_grade)
  obtain ⟨_, _, _, kV_can_go_home, _, _, _, _, _, l_can_go_home, c_can_go_home, k_can_go_home⟩ := c.df 24 (d := df_can_go_home)
  obtain ⟨_, _, _, kV_close, _, _, _, _, _, l_close, c_close, k_close⟩ := c.df 25 (d := df_close)
  obtain ⟨_, _, _, kV_lift, _, _, _, _, _, l_lift, c_lift, k_lift⟩ := c.df 26 (d := df_lift)
  obtain ⟨_, _, _, kV_rstep, _, _, _, _, _, l_rstep, c_rstep, k_rstep⟩ := c.df 27 (d := df_rstep)
  obtain ⟨_, _, _, kV_makes_short, _, _, _, _, _, l_makes_short, c_makes_short, k_makes_short⟩ := c.df 28 (d := df_makes_short)
  obtain ⟨_, _, _, kV_is_pair, _, _, _, _, _, l_is_pair, c_is_pair, k_is_pair⟩ := c.df 29 (d := df_is_pair)
  obtain ⟨_, _, _, kV_are_grades, _, _, _, _, _, l_are_grades, c_are_grades, k_are_grades⟩ := c.df 30 (d := df_are_grades)
  obtain ⟨_, _, _, kV_is_place, _, _, _, _, _, l_is_place, c_is_place, k_is_place⟩ := c.df 31 (d := df_is_place)
  obtain ⟨_, _, _, kV_is_standing, _, _, _, _, _, l_is_standing, c_is_standing, k_is_standing⟩ := c.df 32 (d := df_is_standing)
  obtain ⟨_, _, _, kV_table_fault, _, _, _, _, _, l_table_fault, c_table_fault, k_table_fault⟩ := c.df 33 (d := df_table_fault)
  obtain ⟨_, _, _, kV_bag, _, _, _, _, _, l_bag, c_bag, k_bag⟩ := c.df 34 (d := df_bag)
  obtain ⟨_, _, _, kV_take, _, _, _, _, _, l_take, c_take, k_take⟩ := c.df 35 (d := df_take)
  obtain ⟨_, _, _, kV_of, _, _, _, _, _, l_of, c_of, k_of⟩ := c.df 36 (d := df_of)
  obtain ⟨_, _, _, kV_number, _, _, _, _, _, l_number, c_number, k_number⟩ := c.df 37 (d := df_number)
  obtain ⟨_, _, _, kV_numbers, _, _, _, _, _, l_numbers, c_numbers, k_numbers⟩ := c.df 38 (d := df_numbers)
  obtain ⟨_, _, _, kV_cards, _, _, _, _, _, l_cards, c_cards, k_cards⟩ := c.df 39 (d := df_cards)
  obtain ⟨_, _, _, kV_sent, _, _, _, _, _, l_sent, c_sent, k_sent⟩ := c.df 40 (d := df_sent)
  obtain ⟨_, _, _, kV_back, _, _, _, _, _, l_back, c_back, k_back⟩ := c.df 41 (d := df_back)
  obtain ⟨_, _, _, kV_step, _, _, _, _, _, l_step, c_step, k_step⟩ := c.df 42 (d := df_step)
  obtain ⟨_, _, _, kV_start, _, _, _, _, _, l_start, c_start, k_start⟩ := c.df 43 (d := df_start)
  obtain ⟨_, _, _, kV_allowed, _, _, _, _, _, l_allowed, c_allowed, k_allowed⟩ := c.df 44 (d := df_allowed)
  obtain ⟨_, _, _, kV_made, _, _, _, _, _, l_made, c_made, k_made⟩ := c.df 45 (d := df_made)
  obtain ⟨_, _, _, kV_room, _, _, _, _, _, l_room, c_room, k_room⟩ := c.df 46 (d := df_room)
  obtain ⟨_, _, _, kV_walked, _, _, _, _, _, l_walked, c_walked, k_walked⟩ := c.df 47 (d := df_walked)
  obtain ⟨_, _, _, kV_lis_whole, _, _, _, _, _, l_lis_whole, c_lis_whole, k_lis_whole⟩ := c.df 48 (d := df_lis_whole)
  obtain ⟨_, _, _, kV_lis_place, _, _, _, _, _, l_lis_place, c_lis_place, k_lis_place⟩ := c.df 49 (d := df_lis_place)
  obtain ⟨_, _, _, kV_lis_standing, _, _, _, _, _, l_lis_standing, c_lis_standing, k_lis_standing⟩ := c.df 50 (d := df_lis_standing)
  obtain ⟨_, _, _, kV_due, _, _, _, _, _, l_due, c_due, k_due⟩ := c.df 51 (d := df_due)
  obtain ⟨_, _, _, kV_turned, _, _, _, _, _, l_turned, c_turned, k_turned⟩ := c.df 52 (d := df_turned)
  obtain ⟨_, _, _, kV_bent, _, _, _, _, _, l_bent, c_bent, k_bent⟩ := c.df 53 (d := df_bent)
  obtain ⟨_, _, _, kV_law, _, _, _, _, _, l_law, c_law, k_law⟩ := c.df 54 (d := df_law)
  exact all_mk X G hfa axC axR a_is_whole l_is_whole c_is_whole k_is_whole a_is_whole_within l_is_whole_within c_is_whole_within k_is_whole_within a_is_sequence l_is_sequence c_is_sequence k_is_sequence a_is_number l_is_number c_is_number k_is_number a_is_station l_is_station c_is_station k_is_station a_is_crew l_is_crew c_is_crew k_is_crew a_is_stations l_is_stations c_is_stations k_is_stations a_is_order l_is_order c_is_order k_is_order a_are_counts l_are_counts c_are_counts k_are_counts a_is_move l_is_move c_is_move k_is_move a_are_moves l_are_moves c_are_moves k_are_moves a_cinit i_cinit l_cinit c_cinit k_cinit e_owed e_moves a_check_crew l_check_crew c_check_crew k_check_crew a_check_card l_check_card c_check_card k_check_card a_rinit i_rinit l_rinit c_rinit k_rinit a_rstart i_rstart l_rstart c_rstart k_rstart a_card_index i_card_index l_card_index c_card_index k_card_index a_card_of i_card_of l_card_of c_card_of k_card_of a_grade_in i_grade_in l_grade_in c_grade_in k_grade_in a_open_count l_open_count c_open_count k_open_count a_rallowed i_rallowed l_rallowed c_rallowed k_rallowed a_crews_at l_crews_at c_crews_at k_crews_at a_can_move l_can_move c_can_move k_can_move a_with_grade i_with_grade l_with_grade c_with_grade k_with_grade a_can_go_home i_can_go_home l_can_go_home c_can_go_home k_can_go_home a_close i_close l_close c_close k_close a_lift i_lift l_lift c_lift k_lift a_rstep i_rstep l_rstep c_rstep k_rstep a_makes_short l_makes_short c_makes_short k_makes_short a_is_pair l_is_pair c_is_pair k_is_pair a_are_grades l_are_grades c_are_grades k_are_grades a_is_place l_is_place c_is_place k_is_place a_is_standing l_is_standing c_is_standing k_is_standing a_table_fault l_table_fault c_table_fault k_table_fault a_bag l_bag c_bag k_bag a_take l_take c_take k_take a_of l_of c_of k_of a_number l_number c_number k_number a_numbers l_numbers c_numbers k_numbers a_cards l_cards c_cards k_cards a_sent l_sent c_sent k_sent a_back l_back c_back k_back a_step l_step c_step k_step a_start l_start c_start k_start a_allowed l_allowed c_allowed k_allowed a_made l_made c_made k_made a_room l_room c_room k_room a_walked l_walked c_walked k_walked a_lis_whole l_lis_whole c_lis_whole k_lis_whole a_lis_place l_lis_place c_lis_place k_lis_place a_lis_standing l_lis_standing c_lis_standing k_lis_standing a_due l_due c_due k_due a_turned l_turned c_turned k_turned a_bent l_bent c_bent k_bent a_law l_law c_law k_law pgC hdC poC saC mkC kcC nNu nOr nCo nOw nMo rdC gaC pgR hdR poR saR mkR kcR nSt nCa nNs vG n_DIGITS n_MOST_DIGITS n_GREATEST_SUM n_MOST_CREWS n_LAST_CREW n_LAST_STATION n_MOST_MOVES n_IN n_OUT n_CALL n_MORE n_BACK z_abs z_all z_any z_bool z_enumerate z_int z_isinstance z_len z_list z_max z_min z_range z_repr z_set z_str z_sum z_tuple z_zip
def lo0 : List Str := [Str.ofString "_wall", Str.ofString "WheelError", Str.ofString "BadCard", Str.ofString "BadStations", Str.ofString "NoCrew", Str.ofString "NoStation", Str.ofString "CardTwice", Str.ofString "NoCard", Str.ofString "is_whole", Str.ofString "is_whole_within", Str.ofString "is_sequence", Str.ofString "DIGITS", Str.ofString "MOST_DIGITS", Str.ofString "GREATEST_SUM", Str.ofString "is_number", Str.ofString "MOST_CREWS", Str.ofString "LAST_CREW", Str.ofString "LAST_STATION", Str.ofString "MOST_MOVES", Str.ofString "Card", Str.ofString "is_stations", Str.ofString "is_station", Str.ofString "is_crew", Str.ofString "is_order", Str.ofString "are_counts", Str.ofString "are_moves", Str.ofString "is_move", Str.ofString "IN", Str.ofString "OUT", Str.ofString "CALL", Str.ofString "MORE", Str.ofString "BACK", Str.ofString "Room", Str.ofString "check_card", Str.ofString "check_crew"]
def lo1 : List Str := [Str.ofString "crews_at", Str.ofString "can_move", Str.ofString "open_count", Str.ofString "makes_short", Str.ofString "table_fault", Str.ofString "is_standing", Str.ofString "is_pair", Str.ofString "are_grades", Str.ofString "is_place", Str.ofString "_law_bag", Str.ofString "_law_take", Str.ofString "_law_of", Str.ofString "_law_number", Str.ofString "_law_numbers", Str.ofString "_law_cards", Str.ofString "_law_sent", Str.ofString "_law_back", Str.ofString "_law_step", Str.ofString "_law_start", Str.ofString "_law_allowed", Str.ofString "_law_made", Str.ofString "_law_room", Str.ofString "_law_walked", Str.ofString "_law_is_whole", Str.ofString "_law_is_place", Str.ofString "_law_is_standing", Str.ofString "_law_due", Str.ofString "_law_turned", Str.ofString "_law_bent"]
abbrev HR : PySem.W.OpenRow := PySem.W.OpenLaw.row PySem.Challenge.rw_wheelchorus_k59_tables_of_standings_judg
def ob (s : PySem.W.SharedT) : Hd.Al := Hd.obsG ds exs (HandSHeadRun.getT s)
theorem ob_eq (s : PySem.W.SharedT) : ob s = (Hd.hook ds exs).obs s.abs := Hd.obsG_eq (HandSHeadRun.getT_eq s)
theorem run (w : World) : HandSHeadRun.RunEq HR (PySem.W.view HR.prog [72]) (Hd.hook ds exs) ob 20000 (lo0 ++ lo1) w := by
  intro os
  kernel_rfl
end K59
open PySem PySem.W PyProof.Rows in
set_option maxRecDepth 100000 in
set_option maxHeartbeats 0 in
theorem PySem.Challenge.cw_wheelchorus_k59_tables_of_standings_judg_holds : PySem.Challenge.rw_wheelchorus_k59_tables_of_standings_judg.Holds := by
  w_on; o_law
  refine HandSHeadRun.head_any (r := K59.HR) (q := view K59.HR.prog [72]) (H := Hd.hook K59.ds K59.exs) (ob := K59.ob) (M := 20000) (loose := (K59.lo0 ++ K59.lo1)) (d := HandSHeadRun.topDef K59.HR.prog 72) (kwd := []) K59.ob_eq
    (by kernel_rfl) (fun s => by kernel_rfl) K59.run (by kernel_rfl) (by kernel_rfl) (by kernel_rfl) (by rfl) (by first | assumption | decide +kernel) (by decide +kernel) ⟨rfl, rfl, rfl, rfl, rfl, by decide +kernel⟩ ?hw ?hc
  case hw => w_witness2
  case hc =>
    refine Hd.walk_gofE (l := PySem.Challenge.rw_wheelchorus_k59_tables_of_standings_judg) (n := 63) (k := 12) (x := "_law_script") (CX := fun _ => L2.CX0) rfl (by decide) (by kernel_rfl) ⟨rfl, by decide, by decide⟩ ?F (fun _ _ _ _ _ z => z)
    intro w mg fa h Y G hmg0
    obtain ⟨K, KX, c⟩ := Y
    have hmg : mg ("law" : PySem.Str) = some (.ref fa) := by
      have e : (HandSHeadRun.topDef K59.HR.prog 72).name = ("law" : PySem.Str) := by kernel_rfl
      rw [← e]
      exact hmg0
    obtain ⟨fd, hb, hF⟩ := K59.facts (l := PySem.Challenge.rw_wheelchorus_k59_tables_of_standings_judg) (w := w) KX G hmg c
    exact ⟨K, fd, K59.sp_law K, KX, hb, fun H a ns hl _ hS => ⟨a, ns, rfl, hS, hl, fun _ _ => rfl⟩, hF⟩
