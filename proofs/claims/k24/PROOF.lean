import PyProof.Rows.All
import Wide.All
import OpenK.AllK
import Wide.FinOn
import HandS.ForMost
import HandS.SlotsOwn
import HandS.Wide
import HandS.IsInst
import HandS.Style
import HandS.Zip
import HandS.Walk
import HandS.Exc
import HandS.TryOnly
import HandS.ExcOwn
import HandS.WordsExc
import HandS.ExcIs
import KE.OsGo
import HandS.Codes
import HandS.Text
import KE.IntTextLaws
import KE.KExcIs
import KE.DataEq
import KE.KTupSum
import HandS.Defaults
import HandS.MakeKw
import HandS.MakeKwOnly
import HandS.ClsMeth
import HandS.Strs
import KE.GoesMore
import HandS.TupAny
import HandS.TupMul
import HandS.TryMany
import HandS.ExcCtx
import HandS.GenOver
import HandS.GenCall
import HandS.GenYield
import HandS.GenList
import HandS.Comp
import HandS.Dict
import PySem.Challenge.RW_wheelchorus_k24_whole_tapes_parted
import HandS.FStr
set_option Elab.async false
set_option linter.all false
set_option maxRecDepth 100000
set_option maxHeartbeats 4000000
/-! Numbers as lists of digits, their rows, and where two rows part. -/
namespace Wm
open PySem L2
def codes (ds : List Nat) : List Nat := ds.map (· + 48)
def numS (ds : List Nat) : Str := ⟨(codes ds).toArray⟩
structure Dig (ds : List Nat) : Prop where
  dig : ∀ d ∈ ds, 1 ≤ d ∧ d ≤ 9
structure Num (ds : List Nat) : Prop where
  pos : 1 ≤ ds.length
  len : ds.length ≤ 4
  dig : ∀ d ∈ ds, 1 ≤ d ∧ d ≤ 9
  sum : ds.sum ≤ 24
def blk (d : Nat) : List Int := (List.replicate d [1, 0]).flatten
def rowL : List Nat → List Int
  | [] => [0, 0]
  | d :: ds => blk d ++ ([0, 0] ++ rowL ds)
structure Diff (xs ys : List Int) (k : Nat) (a b : Int) : Prop where
  one : xs[k]? = some a
  two : ys[k]? = some b
  ne : a ≠ b
  eq : ∀ j, j < k → xs[j]? = ys[j]?
theorem Diff.symm {xs ys : List Int} {k : Nat} {a b : Int} (h : Diff xs ys k a b) : Diff ys xs k b a :=
  ⟨h.two, h.one, h.ne.symm, fun j l => (h.eq j l).symm⟩
theorem Diff.cons {xs ys : List Int} {k : Nat} {a b : Int} (z : Int) (h : Diff xs ys k a b) : Diff (z :: xs) (z :: ys) (k + 1) a b := by
  refine ⟨by simpa using h.one, by simpa using h.two, h.ne, fun j l => ?_⟩
  cases j with
  | zero => rfl
  | succ j => simpa using h.eq j (by omega)
theorem Diff.app {xs ys : List Int} {k : Nat} {a b : Int} : ∀ (p : List Int), Diff xs ys k a b → Diff (p ++ xs) (p ++ ys) (p.length + k) a b
  | [], h => by simpa using h
  | z :: p, h => by
    have ih := (Diff.app p h).cons z
    have e : (z :: p).length + k = p.length + k + 1 := by simp only [List.length_cons]; omega
    rw [e]
    exact ih
theorem Diff.uniq {xs ys : List Int} {k l : Nat} {a b c d : Int} (h : Diff xs ys k a b) (g : Diff xs ys l c d) : k = l ∧ a = c ∧ b = d := by
  have e : k = l := by
    rcases Nat.lt_trichotomy k l with x | x | x
    · exact absurd (by have q := g.eq k x; rw [h.one, h.two] at q; exact Option.some.inj q) h.ne
    · exact x
    · exact absurd (by have q := h.eq l x; rw [g.one, g.two] at q; exact Option.some.inj q) g.ne
  subst e
  exact ⟨rfl, Option.some.inj (h.one.symm.trans g.one), Option.some.inj (h.two.symm.trans g.two)⟩
theorem Diff.lt1 {xs ys : List Int} {k : Nat} {a b : Int} (h : Diff xs ys k a b) : k < xs.length := (List.getElem?_eq_some_iff.mp h.one).1
theorem Diff.lt2 {xs ys : List Int} {k : Nat} {a b : Int} (h : Diff xs ys k a b) : k < ys.length := (List.getElem?_eq_some_iff.mp h.two).1
theorem blk_add (d e : Nat) : blk (d + e) = blk d ++ blk e := by
  unfold blk
  rw [← List.replicate_append_replicate, List.flatten_append]
theorem blk_succ (e : Nat) : blk (e + 1) = [1, 0] ++ blk e := by
  rw [Nat.add_comm, blk_add]
  rfl
theorem blk_len (d : Nat) : (blk d).length = 2 * d := by
  induction d with
  | zero => rfl
  | succ d ih => rw [blk_succ, List.length_append, ih]; simp only [List.length_cons, List.length_nil]; omega
theorem row_less (d e : Nat) (ds es : List Nat) (h : d < e) : Diff (rowL (d :: ds)) (rowL (e :: es)) (2 * d) 0 1 := by
  obtain ⟨f, rfl⟩ : ∃ f, e = d + (f + 1) := ⟨e - d - 1, by omega⟩
  have h0 : Diff ([0, 0] ++ rowL ds) ([1, 0] ++ (blk f ++ ([0, 0] ++ rowL es))) 0 0 1 := ⟨rfl, rfl, by decide, fun j l => absurd l (Nat.not_lt_zero _)⟩
  have h1 := h0.app (blk d)
  rw [blk_len, Nat.add_zero] at h1
  have e1 : rowL ((d + (f + 1)) :: es) = blk d ++ ([1, 0] ++ (blk f ++ ([0, 0] ++ rowL es))) := by
    show blk (d + (f + 1)) ++ _ = _
    rw [blk_add, blk_succ, List.append_assoc, List.append_assoc]
  rw [e1]
  exact h1
theorem rows_part : ∀ (ds es : List Nat), (∀ d ∈ ds, 1 ≤ d) → (∀ e ∈ es, 1 ≤ e) →
    ds = es ∨ (∃ k, Diff (rowL ds) (rowL es) k 1 0 ∧ es < ds) ∨ (∃ k, Diff (rowL ds) (rowL es) k 0 1 ∧ ds < es)
  | [], [], _, _ => .inl rfl
  | [], e :: es, _, h => by
    obtain ⟨f, rfl⟩ : ∃ f, e = f + 1 := ⟨e - 1, by have := h e (by simp); omega⟩
    refine .inr (.inr ⟨0, ⟨rfl, ?_, by decide, fun j l => absurd l (Nat.not_lt_zero _)⟩, List.nil_lt_cons _ _⟩)
    show (blk (f + 1) ++ _)[0]? = _
    rw [blk_succ]
    rfl
  | d :: ds, [], h, _ => by
    obtain ⟨f, rfl⟩ : ∃ f, d = f + 1 := ⟨d - 1, by have := h d (by simp); omega⟩
    refine .inr (.inl ⟨0, ⟨?_, rfl, by decide, fun j l => absurd l (Nat.not_lt_zero _)⟩, List.nil_lt_cons _ _⟩)
    show (blk (f + 1) ++ _)[0]? = _
    rw [blk_succ]
    rfl
  | d :: ds, e :: es, h, g => by
    rcases Nat.lt_trichotomy d e with x | x | x
    · exact .inr (.inr ⟨_, row_less d e ds es x, List.cons_lt_cons_iff.mpr (.inl x)⟩)
    · subst x
      rcases rows_part ds es (fun y m => h y (List.mem_cons_of_mem _ m)) (fun y m => g y (List.mem_cons_of_mem _ m)) with q | ⟨k, q, l⟩ | ⟨k, q, l⟩
      · exact .inl (by rw [q])
      · exact .inr (.inl ⟨_, (q.app [0, 0]).app (blk d), List.cons_lt_cons_iff.mpr (.inr ⟨rfl, l⟩)⟩)
      · exact .inr (.inr ⟨_, (q.app [0, 0]).app (blk d), List.cons_lt_cons_iff.mpr (.inr ⟨rfl, l⟩)⟩)
    · exact .inr (.inl ⟨_, (row_less e d es ds x).symm, List.cons_lt_cons_iff.mpr (.inl x)⟩)
theorem codes_lt : ∀ (ds es : List Nat), ds < es → codes ds < codes es
  | [], [], h => absurd h (List.lt_irrefl _)
  | [], _ :: _, _ => List.nil_lt_cons _ _
  | _ :: _, [], h => absurd h (List.not_lt_nil _)
  | d :: ds, e :: es, h => by
    rcases List.cons_lt_cons_iff.mp h with x | ⟨x, y⟩
    · exact List.cons_lt_cons_iff.mpr (.inl (Nat.add_lt_add_right x 48))
    · exact List.cons_lt_cons_iff.mpr (.inr ⟨by rw [x], codes_lt ds es y⟩)
theorem codes_inj : ∀ (ds es : List Nat), codes ds = codes es → ds = es
  | [], [], _ => rfl
  | [], _ :: _, h => by simp [codes] at h
  | _ :: _, [], h => by simp [codes] at h
  | d :: ds, e :: es, h => by
    have h1 : d + 48 = e + 48 := (List.cons.inj h).1
    have h2 : codes ds = codes es := (List.cons.inj h).2
    rw [codes_inj ds es h2, show d = e by omega]
theorem numS_cps (ds : List Nat) : (numS ds).cps.toList = codes ds := rfl
theorem numS_inj {ds es : List Nat} (h : numS ds = numS es) : ds = es := codes_inj _ _ (by rw [← numS_cps, h, numS_cps])
theorem numS_len (ds : List Nat) : (numS ds).length = ds.length := by
  show (codes ds).toArray.size = _
  simp [codes]
theorem lt_asymm' {a b : List Nat} (h : a < b) : ¬ b < a := fun g => List.lt_irrefl _ (List.lt_trans h g)
theorem rowL_le : ∀ ds : List Nat, (∀ d ∈ ds, d ≤ 9) → (rowL ds).length ≤ 20 * ds.length + 2
  | [], _ => by decide
  | d :: ds, h => by
    have ih := rowL_le ds fun y m => h y (List.mem_cons_of_mem _ m)
    have hd := h d (by simp)
    show (blk d ++ ([0, 0] ++ rowL ds)).length ≤ _
    rw [List.length_append, List.length_append, blk_len]
    simp only [List.length_cons, List.length_nil]
    omega
end Wm

/-! Digits as signs, texts of digits cut and joined; what a heap keeps. -/
namespace Wm
open PySem L2
theorem dig_cases {d : Nat} (h : 1 ≤ d ∧ d ≤ 9) : d = 1 ∨ d = 2 ∨ d = 3 ∨ d = 4 ∨ d = 5 ∨ d = 6 ∨ d = 7 ∨ d = 8 ∨ d = 9 := by omega
theorem dig_int {d : Nat} (h : 1 ≤ d ∧ d ≤ 9) : PySem.intText? ⟨#[d + 48]⟩ = some (d : Int) := by
  rcases dig_cases h with e | e | e | e | e | e | e | e | e <;> subst e <;> decide +kernel
theorem dig_in {d : Nat} (h : 1 ≤ d ∧ d ≤ 9) : (d + 48) ∈ ("123456789" : Str).cps.toList := by
  rcases dig_cases h with e | e | e | e | e | e | e | e | e <;> subst e <;> decide +kernel
theorem dig_str {d : Nat} (h : 1 ≤ d ∧ d ≤ 9) : ((toString (d : Int) : String) : Str) = numS [d] := by
  rcases dig_cases h with e | e | e | e | e | e | e | e | e <;> subst e <;> decide +kernel
theorem numS_app (ds es : List Nat) : numS ds ++ numS es = numS (ds ++ es) := by
  refine PyProof.Rows.ext_toList ?_
  show ((numS ds).cps ++ (numS es).cps).toList = _
  rw [Array.toList_append, numS_cps, numS_cps, numS_cps]
  simp [codes]
theorem numS_nil : numS [] = ("" : Str) := by decide +kernel
theorem numS_take (ds : List Nat) (k : Nat) : cutS (numS ds) none (some (k : Int)) = numS (ds.take k) := by
  refine PyProof.Rows.ext_toList ?_
  show ((codes ds).drop 0).take (HT.sIx (numS ds).length (numS ds).length (some (k : Int)) - 0) = codes (ds.take k)
  rw [numS_len, HT.sIx_nat, List.drop_zero, Nat.sub_zero]
  simp only [codes, ← List.map_take]
  congr 1
  rw [List.take_eq_take_iff]
  omega
theorem numS_last (ds : List Nat) : cutS (numS ds) none (some (-1)) = numS ds.dropLast := by
  refine PyProof.Rows.ext_toList ?_
  show ((codes ds).drop 0).take (HT.sIx (numS ds).length (numS ds).length (some (-1)) - 0) = codes ds.dropLast
  rw [numS_len, List.drop_zero, Nat.sub_zero, List.dropLast_eq_take]
  simp only [codes, ← List.map_take]
  have e : HT.sIx ds.length ds.length (some (-1)) = ds.length - 1 := by
    unfold HT.sIx
    simp only [show (-1 : Int) < 0 by decide, if_true]
    omega
  rw [e]
theorem numS_at (ds : List Nat) (i : Nat) (hi : i < ds.length) : (numS ds).cps[i]? = some (ds[i] + 48) := by
  show ((codes ds).toArray)[i]? = _
  simp [codes, hi]
theorem numS_size (ds : List Nat) : (numS ds).cps.size = ds.length := numS_len ds

/-! heaps -/
theorem same_new {H : Hp} {p : Addr} {o : HO} (n : H p = none) : Same H (upd H p o) := fun b u e => by
  rw [upd_ne (ne_of_none e n)]
  exact e
theorem at_old {H : Hp} {p q : Addr} {o u : HO} (h : H p = some o) (n : H q = none) : upd H q u p = some o := by
  rw [upd_ne (ne_of_none h n)]
  exact h
theorem sameT {K : PySem.W.Frag} {H H' : Hp} {a : Addr} {xs : List V} (e : Same H H') (h : SqT K H a xs) : SqT K H' a xs := by
  rcases h with (h | ⟨o, h⟩) | h
  · exact .inl (.inl (e _ _ h))
  · exact .inl (.inr ⟨o, e _ _ h⟩)
  · exact .inr h
/-- what stood stands, but for what H did not know and the object at p, which is new since -/
theorem same_mut {H H' : Hp} {p : Addr} {o : HO} (s : Same H H') (n : H p = none) : Same H (upd H' p o) := fun b u e => by
  rw [upd_ne (ne_of_none e n)]
  exact s b u e
/-- the bag's list at b, its cells at c -/
def Cel (H : Hp) (b c : Addr) : Prop := ∃ x k m z : Int, H b = some (.lst [.int x, .ref c, .int k, .int m, .int z])
structure But (b : Addr) (H H' : Hp) : Prop where
  keep : ∀ p o, p ≠ b → H p = some o → H' p = some o
  cel : ∀ c, Cel H b c → Cel H' b c
instance {b : Addr} {H H' : Hp} : CoeFun (But b H H') (fun _ => ∀ p o, p ≠ b → H p = some o → H' p = some o) := ⟨But.keep⟩
theorem But.refl (b : Addr) (H : Hp) : But b H H := ⟨fun _ _ _ h => h, fun _ h => h⟩
theorem But.trans {b : Addr} {H H1 H2 : Hp} (x : But b H H1) (y : But b H1 H2) : But b H H2 := ⟨fun p o n h => y.keep p o n (x.keep p o n h), fun c h => y.cel c (x.cel c h)⟩
theorem But.of {b : Addr} {H H' : Hp} (s : Same H H') : But b H H' := ⟨fun p o _ h => s p o h, fun _ ⟨x, k, m, z, h⟩ => ⟨x, k, m, z, s _ _ h⟩⟩
theorem But.set {b c : Addr} {H : Hp} {x k m z x' k' m' z' : Int} (hb : H b = some (.lst [.int x, .ref c, .int k, .int m, .int z])) : But b H (upd H b (.lst [.int x', .ref c, .int k', .int m', .int z'])) :=
  ⟨fun p u n h => by
    rw [upd_ne n]
    exact h, fun c2 ⟨a1, a2, a3, a4, h⟩ => by
    rw [hb] at h
    have h := Option.some.inj h
    injection h with h
    injection h with h1 h
    injection h with h2 h
    injection h2 with h2
    subst h2
    exact ⟨x', k', m', z', upd_same⟩⟩
/-- the bag of draws: its cells' list and its four numbers -/
def Bag (H : Hp) (b : Addr) (n : Nat) : Prop :=
  ∃ (c : Addr) (x k m z : Int) (ns : List Int), H b = some (.lst [.int x, .ref c, .int k, .int m, .int z]) ∧ H c = some (.lst (ns.map V.int)) ∧ 0 ≤ k ∧ 0 ≤ m ∧ m ≤ (n : Int)
theorem bag_ne {H : Hp} {b c : Addr} {x k m z : Int} {ns : List Int} (hb : H b = some (.lst [.int x, .ref c, .int k, .int m, .int z])) (hc : H c = some (.lst (ns.map V.int))) : c ≠ b := by
  intro e
  subst e
  rw [hb] at hc
  have q := Option.some.inj hc
  have q2 : ([.int x, .ref c, .int k, .int m, .int z] : List V) = ns.map V.int := by injection q
  cases ns with
  | nil => simp at q2
  | cons u r => cases r with
    | nil => simp at q2
    | cons v r => simp at q2
theorem Bag.mono {H : Hp} {b : Addr} {n m : Nat} (h : Bag H b n) (l : n ≤ m) : Bag H b m := by
  obtain ⟨c, x, k, q, z, ns, h1, h2, h3, h4, h5⟩ := h
  exact ⟨c, x, k, q, z, ns, h1, h2, h3, h4, by omega⟩
theorem Bag.keep {H H' : Hp} {b : Addr} {n : Nat} (h : Bag H b n) (s : Same H H') : Bag H' b n := by
  obtain ⟨c, x, k, q, z, ns, h1, h2, h3, h4, h5⟩ := h
  exact ⟨c, x, k, q, z, ns, s _ _ h1, s _ _ h2, h3, h4, h5⟩
theorem Cel.uniq {H : Hp} {b c d : Addr} (h : Cel H b c) (g : Cel H b d) : c = d := by
  obtain ⟨x, k, m, z, h⟩ := h
  obtain ⟨x', k', m', z', g⟩ := g
  rw [h] at g
  have g := Option.some.inj g
  injection g with g
  injection g with g1 g
  injection g with g2 g
  injection g2
theorem But.put {b D : Addr} {H H' : Hp} {o : HO} (e : But b H H') (n : H D = none) : But b H (upd H' D o) := by
  refine ⟨fun p u pb h => ?_, fun c h => ?_⟩
  · rw [upd_ne (ne_of_none h n)]
    exact e.keep p u pb h
  · have h0 := h
    obtain ⟨x, k, m, z, h⟩ := h
    obtain ⟨x', k', m', z', g⟩ := e.cel c h0
    exact ⟨x', k', m', z', by rw [upd_ne (ne_of_none h n)]; exact g⟩
theorem Bag.put {b D : Addr} {H H' : Hp} {o : HO} {n m : Nat} (bag : Bag H b n) (f : H D = none) (e : But b H H') (bag2 : Bag H' b m) : Bag (upd H' D o) b m := by
  obtain ⟨c, x, k, q, z, ns, h1, h2, h3, h4, h5⟩ := bag
  obtain ⟨c', x', k', q', z', ns', g1, g2, g3, g4, g5⟩ := bag2
  have ec : c = c' := Cel.uniq (e.cel c ⟨x, k, q, z, h1⟩) ⟨x', k', q', z', g1⟩
  subst ec
  exact ⟨c, x', k', q', z', ns', by rw [upd_ne (ne_of_none h1 f)]; exact g1, by rw [upd_ne (ne_of_none h2 f)]; exact g2, g3, g4, g5⟩
end Wm
namespace Wm
open PySem L2
theorem yesT {σ : L2.St} {H : Hp} {A B : Hp → Prop} (h : A H) : tYes σ H (fun b H3 => if b = true then A H3 else B H3) := by
  show (if true = true then A H else B H)
  rw [if_pos rfl]
  exact h
end Wm

/-! row[::2] of a list or a tuple; a loop over a list or a tuple. -/
namespace Hf
open PySem PySem.Spec PyProof.Rows L2
def ev2 {α : Type} : List α → List α
  | [] => []
  | [x] => [x]
  | x :: _ :: r => x :: ev2 r
theorem ev2_le {α : Type} : ∀ xs : List α, (ev2 xs).length ≤ xs.length
  | [] => Nat.le_refl _
  | [_] => Nat.le_refl _
  | x :: y :: r => by
    have ih := ev2_le r
    show (ev2 r).length + 1 ≤ r.length + 2
    omega
theorem ev2_mem {α : Type} {z : α} : ∀ {xs : List α}, z ∈ ev2 xs → z ∈ xs
  | [], h => h
  | [_], h => h
  | x :: y :: r, h => by
    rcases List.mem_cons.mp h with e | e
    · rw [e]; simp
    · exact List.mem_cons_of_mem _ (List.mem_cons_of_mem _ (ev2_mem e))
theorem ev2_map {α β : Type} (f : α → β) : ∀ xs : List α, ev2 (xs.map f) = (ev2 xs).map f
  | [] => rfl
  | [_] => rfl
  | x :: y :: r => by
    show f x :: ev2 (r.map f) = f x :: (ev2 r).map f
    rw [ev2_map f r]
theorem ev2_pick {α : Type} : ∀ xs : List α, (List.range ((xs.length + 1) / 2)).filterMap (fun k => xs[2 * k]?) = ev2 xs
  | [] => by simp [ev2]
  | [x] => by
    rw [show ([x].length + 1) / 2 = 1 by simp, show List.range 1 = [0] by decide]
    simp [ev2]
  | x :: y :: r => by
    have ih := ev2_pick r
    have e : ((x :: y :: r).length + 1) / 2 = (r.length + 1) / 2 + 1 := by
      show (r.length + 1 + 1 + 1) / 2 = _
      omega
    rw [e, List.range_succ_eq_map, List.filterMap_cons]
    show x :: _ = x :: ev2 r
    rw [List.filterMap_map, ← ih]
    rfl
theorem ev2_vals : ∀ {xs : List V} {us : List Value}, Vals xs us → Vals (ev2 xs) (ev2 us)
  | [], _, h => by cases h; exact .nil
  | [x], _, h => by
    cases h with
    | cons a b =>
      cases b
      exact .cons a .nil
  | x :: y :: r, _, h => by
    cases h with
    | cons a b =>
      cases b with
      | cons c d => exact .cons a (ev2_vals d)
theorem pick2 (items : Array Value) : slicePick items none none (some 2) = (ev2 items.toList).toArray := by
  have e := ev2_pick items.toList
  unfold slicePick
  have b : sliceBounds none none (some 2) items.size = (0, (items.size : Int), 2) := by
    first
    | rfl
    | simp [sliceBounds]
  rw [b]
  show ((sliceRange 0 (items.size : Int) 2).filterMap (items[·]?)).toArray = _
  have r : sliceRange 0 (items.size : Int) 2 = (List.range ((items.size + 1) / 2)).map fun k => 2 * k := by
    unfold sliceRange
    have h1 : (2 : Int) > 0 := by decide
    by_cases h : (0 : Int) < (items.size : Int)
    · have e : ((items.size : Int) - 0 + 2 - 1) / 2 = (((items.size + 1) / 2 : Nat) : Int) := by omega
      simp only [h1, if_true, h, e, Int.toNat_natCast]
      apply List.map_congr_left
      intro k _
      omega
    · have e : items.size = 0 := by omega
      simp [e]
  rw [r, List.filterMap_map]
  rw [Array.length_toList] at e
  rw [← e]
  refine congrArg List.toArray (congrArg (fun f => List.filterMap f _) (funext fun k => ?_))
  show items[2 * k]? = _
  rw [Array.getElem?_toList]
section
variable {prog : Program} {w : World} {A : Around} {E : Value → Shared → Prop} {s : Shared}
theorem places2 (n : Nat) : Builtin.Slice.slicePlaces 0 (n : Int) 2 = (n + 1) / 2 := by
  unfold Builtin.Slice.slicePlaces
  have h1 : (2 : Int) > 0 := by omega
  simp only [h1, if_true]
  split <;> omega
theorem adjust2 (n : Nat) : Builtin.Slice.sliceAdjust none none 2 (n : Int) = (0, (n : Int)) := by
  have h1 : ¬ ((2 : Int) < 0) := by omega
  unfold Builtin.Slice.sliceAdjust
  simp only [h1, if_false]
theorem sliceApplied2 {sl : Addr} {t : Tok} {n : Nat} {Q : Int × Int × Nat → Shared → Prop} (hs : s.heap.IsSliceOf sl .none .none (.int 2 t))
    (h : Q (0, 2, (n + 1) / 2) s) : wpAny (model prog w) A (Builtin.Slice.sliceApplied (.ref sl) (pure (n : Int))) Q E s := by
  obtain ⟨os, hos, hcs, hds⟩ := id hs
  unfold Builtin.Slice.sliceApplied Builtin.Slice.sliceFields
  refine wpAny_bind (wpAny_bind (wpAny_field hos hds (x := .none) rfl (wpAny_bind (wpAny_field hos hds (x := .none) rfl (wpAny_bind (wpAny_field hos hds (x := .int 2 t) rfl (wpAny_pure ?_)))))))
  refine wpAny_bind (slicePart_int ?_)
  show wpAny _ _ (if ((2 : Int) == 0) = true then _ else _) _ _ s
  rw [if_neg (by decide)]
  refine wpAny_bind (HT.slicePart_ .none (wpAny_bind (HT.slicePart_ .none (wpAny_bind (wpAny_pure ?_)))))
  show wpAny _ _ (match Builtin.Slice.sliceAdjust none none 2 (n : Int) with | (lo, hi) => pure (lo, (2 : Int), Builtin.Slice.slicePlaces lo hi 2)) _ _ s
  rw [adjust2 n]
  show wpAny _ _ (pure ((0 : Int), (2 : Int), Builtin.Slice.slicePlaces (0 : Int) (n : Int) 2)) _ _ s
  rw [places2]
  exact wpAny_pure h
theorem pick2t (xs : Array Value) : ((List.range ((xs.size + 1) / 2)).filterMap fun (m : Nat) => xs[((0 : Int) + (m : Int) * 2).toNat]?).toArray = (ev2 xs.toList).toArray := by
  have e : (fun (m : Nat) => xs[((0 : Int) + (m : Int) * 2).toNat]?) = fun m => xs.toList[2 * m]? := by
    funext m
    have : ((0 : Int) + (m : Int) * 2).toNat = 2 * m := by omega
    rw [this, Array.getElem?_toList]
  rw [e, ← ev2_pick xs.toList, Array.length_toList]
theorem getItem_tuple_2 {t sl : Addr} {tk : Tok} {items : Array Value} {Q : Value → Shared → Prop} (ht : IsTup s.heap t items) (hs : s.heap.IsSliceOf sl .none .none (.int 2 tk))
    (h : Q (.ref s.heap.objs.size) { s with heap := s.heap.push { cls := .type "tuple", data := .seq (ev2 items.toList).toArray } })
    (hsz : items.size ≤ sizeLine) : wpAny (model prog w) A (getItem (.ref t) (.ref sl)) Q E s := by
  have htake : sizeOk (.seq (ev2 items.toList).toArray) := by
    show (ev2 items.toList).toArray.size ≤ sizeLine
    rw [List.size_toArray]
    exact Nat.le_trans (ev2_le items.toList) (by rw [Array.length_toList]; exact hsz)
  obtain ⟨os, hos, hcs, hds⟩ := id hs
  have hTs : s.TypeIs (.ref sl) "slice" := ⟨os, hos, hcs⟩
  unfold getItem
  try with_reducible refine wpAny_holding ?_
  first | refine wpAny_bind (wpAny_pure ?_) | skip
  refine wpAny_bind (wpAny_sequenceKey ht.typeIs (by decide) ?_)
  refine wpAny_bind (wpAny_callSpecial?_slot (name := Str.ofString "__getitem__") ht.typeIs PyProof.Rows.slot_tuple_getitem
    (wpAny_call_entry PyProof.Rows.slot_tuple_getitem ht.typeIs entry_tuple_getitem ?_ (args_tuple_getitem _ _)))
  show wpAny _ _ (Builtin.Tuple.tupleItemsOf (.ref t) >>= _) _ _ s
  refine wpAny_bind (tupleItemsOf_ ht ?_)
  refine wpAny_bind (wpAny_typeOf hTs ?_)
  rw [if_pos (by decide)]
  refine wpAny_bind (sliceApplied2 hs ?_)
  have hno : ¬ (((0 : Int) == 0 && (2 : Int) == 1 && ((items.size + 1) / 2) == items.size) = true) := by
    intro q
    rw [Bool.and_eq_true, Bool.and_eq_true] at q
    exact absurd q.1.2 (by decide)
  show wpAny _ _ (if ((0 : Int) == 0 && (2 : Int) == 1 && ((items.size + 1) / 2) == items.size) = true then _ else _) _ _ s
  rw [if_neg hno, pick2t]
  first
    | exact wpAny_bind (m := Builtin.Tuple.tupleExact _) (wpAny_newObj_type (wpAny_pure ⟨_, rfl, wpAny_pure h⟩) htake)
    | exact wpAny_bind (m := Builtin.Tuple.tupleExact _) (wpAny_newObj_type (wpAny_bind (wpAny_pure (wpAny_pure ⟨_, rfl, wpAny_pure h⟩))) htake)
    | exact wpAny_bind (wpAny_bind (m := Builtin.Tuple.tupleExact _) (wpAny_newObj_type (wpAny_pure (wpAny_pure ⟨_, rfl, wpAny_pure h⟩)) htake))
    | exact wpAny_bind (wpAny_bind (m := Builtin.Tuple.tupleExact _) (wpAny_newObj_type (wpAny_pure ⟨_, rfl, wpAny_pure h⟩) htake))
end
section
variable {X : Cx}
def tHalf (K : PySem.W.Frag) (te : TE) : TE := fun σ H Q => te σ H fun x H1 => ∃ a xs, x = .ref a ∧ (SqL K H1 a xs ∨ SqT K H1 a xs) ∧
  ∀ p H2, (∀ b o, H1 b = some o → H2 b = some o) → H1 p = none → (SqL K H2 p (ev2 xs) ∨ SqT K H2 p (ev2 xs)) → Q (.ref p) H2
theorem new_same {H : Hp} {p : Addr} {o : HO} (n : H p = none) : ∀ b u, H b = some u → upd H p o b = some u := fun b u e => by
  rw [upd_ne (ne_of_none e n)]
  exact e
theorem pe_half {e : Expr} {te : TE} {k : Nat} {p1 p3 pos : Pos} (he : PE X e te) : PE X (.Subscript e (.Slice none none (some (.Constant (.int 2) k p1)) p3) pos) (tHalf X.K te) := by
  refine ⟨fun pins s σ H Q I h => ?_⟩
  refine Subscript_ (thn (he.run pins s σ H _ I h) fun v s1 ⟨x, H1, I1, r1, q1⟩ => ?_)
  obtain ⟨a, xs, ex, hq, q⟩ := q1
  subst ex
  cases r1
  have hst : PO X (some (.Constant (.int 2) k p1)) (tPart (tC (.int 2))) := po_some pe_int
  refine wpAny_Slice (thn (po_none.run pins s1 σ H1 (fun o H2 => o = none ∧ H2 = H1) I1 ⟨rfl, rfl⟩) fun vl s2 ⟨l, H2, I2, pl, el, e2⟩ => ?_)
  subst el e2
  refine thn (po_none.run pins s2 σ H2 (fun o H3 => o = none ∧ H3 = H2) I2 ⟨rfl, rfl⟩) fun vu s3 ⟨u, H3, I3, pu, eu, e3⟩ => ?_
  subst eu e3
  refine thn (hst.run pins s3 σ H3 (fun o H4 => o = some 2 ∧ H4 = H3) I3 ⟨2, rfl, rfl, rfl⟩) fun vs s4 ⟨o, H4, I4, ps, eo, e4⟩ => ?_
  subst eo e4
  have I5 : Inv X pins σ H4 { s4 with heap := s4.heap.push { cls := .type "slice", data := .fields #[vl, vu, vs] } } := I4.kept (t' := s4.toks) fun b ob q => Heap.get?_push_of_some _ q
  rcases hq with hx | hx
  · obtain ⟨its, r, ht, hz⟩ := I5.list hx
    have hlen := r.length
    show wpAny (model X.prog X.w) X.A (subscriptTail e (.Slice none none (some (.Constant (.int 2) k p1)) p3) (.ref a) (.ref s4.heap.objs.size)) (EP X pins σ Q) X.xe { s4 with heap := s4.heap.push { cls := .type "slice", data := .fields #[vl, vu, vs] } }
    refine tail_any (ops := [.ref a, .ref s4.heap.objs.size]) ht.isList.typeIs (PySem.slot_list_getitem.lookup) ?_ (by with_unfolding_all rfl)
    refine wpAny_getItem_list_slice ht.isList (Heap.IsSliceOf.new _ vl vu vs) pl pu ps (by decide) ?_ (by rw [List.size_toArray]; omega)
    rw [pick2]
    refine ⟨.ref _, _, I5.laid (t' := s4.toks) (o := .lst (ev2 xs)) (fun b ob q => Heap.get?_push_of_some _ q) (Nat.le_refl _) ?_, rfl, q _ _ (new_same (I5.hok.fresh (Nat.le_refl _))) (I5.hok.fresh (Nat.le_refl _)) (.inl (SqL.of upd_same))⟩
    exact ⟨Nat.le_trans (ev2_le xs) hz, _, 0, ev2_vals r, Heap.get?_push_size _ rfl⟩
  · obtain ⟨its, r, ht, hz⟩ := I5.tuple hx
    have hlen := r.length
    cases pl
    cases pu
    cases ps
    show wpAny (model X.prog X.w) X.A (subscriptTail e (.Slice none none (some (.Constant (.int 2) k p1)) p3) (.ref a) (.ref s4.heap.objs.size)) (EP X pins σ Q) X.xe { s4 with heap := s4.heap.push { cls := .type "slice", data := .fields #[Value.none, Value.none, .int 2 _] } }
    refine tail_any (ops := [.ref a, .ref s4.heap.objs.size]) ht.typeIs (PyProof.Rows.slot_tuple_getitem.lookup) ?_ (by with_unfolding_all rfl)
    refine getItem_tuple_2 ht (Heap.IsSliceOf.new _ _ _ _) ?_ (by rw [List.size_toArray]; omega)
    refine ⟨.ref _, _, I5.laid (t' := s4.toks) (o := .tup (ev2 xs)) (fun b ob q => Heap.get?_push_of_some _ q) (Nat.le_refl _) ?_, rfl, q _ _ (new_same (I5.hok.fresh (Nat.le_refl _))) (I5.hok.fresh (Nat.le_refl _)) (.inr (SqT.of upd_same))⟩
    exact ⟨Nat.le_trans (ev2_le xs) hz, _, ev2_vals r, IsTup.new _ _⟩
theorem keepL {K : PySem.W.Frag} {H H' : Hp} {a : Addr} {xs : List V} (e : Same H H') (h : SqL K H a xs) : SqL K H' a xs := by
  rcases h with (h | ⟨o, h⟩) | h
  · exact .inl (.inl (e _ _ h))
  · exact .inl (.inr ⟨o, e _ _ h⟩)
  · exact .inr h
theorem keepT {K : PySem.W.Frag} {H H' : Hp} {a : Addr} {xs : List V} (e : Same H H') (h : SqT K H a xs) : SqT K H' a xs := by
  rcases h with (h | ⟨o, h⟩) | h
  · exact .inl (.inl (e _ _ h))
  · exact .inl (.inr ⟨o, e _ _ h⟩)
  · exact .inr h
def iSeq (K : PySem.W.Frag) (tl : TE) : TI := fun σ H R => tl σ H fun x H1 => ∃ a xs, x = .ref a ∧ (SqL K H1 a xs ∨ SqT K H1 a xs) ∧
  ∀ J G, Walk J xs.length G (YAt xs) → (∀ H', Same H1 H' → G H') → R J H1
theorem pi_seq {tg l : Expr} {tl : TE} (hl : PE X l tl) : PI X tg l (iSeq X.K tl) := by
  refine ⟨fun pins s σ H R I h => ?_⟩
  refine thn (hl.run pins s σ H _ I h) fun v s1 ⟨x, H1, I1, r1, q1⟩ => ?_
  obtain ⟨a, xs, e, hq, q⟩ := q1
  subst e
  cases r1
  rcases hq with hq | hq
  · have q := q _ _ walk_list fun H' s => keepL s hq
    obtain ⟨its, rv, p, hz⟩ := I1.list hq
    refine wpAny_pyIter_list p.isList ?_
    refine ⟨s1.heap.objs.size, [s1.heap.objs.size], _, _, H1, rfl, I1.kept (t' := s1.toks) fun b o e => Heap.get?_push_of_some _ e, turn_list a _, ⟨_, Heap.get?_push_size _ rfl, rfl, rfl⟩, fun b hb => ?_, q⟩
    have e : b = s1.heap.objs.size := by simpa using hb
    subst e
    exact I1.fpOk (Nat.le_refl _) (I1.hok.fresh (Nat.le_refl _))
  · have q := q _ _ walk_tup fun H' s => keepT s hq
    obtain ⟨its, rv, p, hz⟩ := I1.tuple hq
    refine wpAny_pyIter_tuple (show s1.heap.IsTuple a its.toArray from p) ?_
    refine ⟨s1.heap.objs.size, [s1.heap.objs.size], _, _, H1, rfl, I1.kept (t' := s1.toks) fun b o e => Heap.get?_push_of_some _ e, turn_tuple a _, ⟨_, Heap.get?_push_size _ rfl, rfl, rfl⟩, fun b hb => ?_, q⟩
    have e : b = s1.heap.objs.size := by simpa using hb
    subst e
    exact I1.fpOk (Nat.le_refl _) (I1.hok.fresh (Nat.le_refl _))
end
end Hf

/-! Rows read back: strokes, steps, groups. -/
namespace Wm
open PySem L2 TL
/-- the rows of the first digits, without the two ticks at the end -/
def pre : List Nat → List Int
  | [] => []
  | d :: ds => blk d ++ ([0, 0] ++ pre ds)
theorem pre_app : ∀ (ds : List Nat) (d : Nat), pre (ds ++ [d]) = pre ds ++ (blk d ++ [0, 0])
  | [], d => by show blk d ++ ([0, 0] ++ []) = [] ++ _; simp
  | e :: ds, d => by
    show blk e ++ ([0, 0] ++ pre (ds ++ [d])) = (blk e ++ ([0, 0] ++ pre ds)) ++ _
    rw [pre_app ds d]
    simp only [List.append_assoc]
theorem pre_row : ∀ ds : List Nat, pre ds ++ [0, 0] = rowL ds
  | [] => rfl
  | d :: ds => by
    show (blk d ++ ([0, 0] ++ pre ds)) ++ _ = blk d ++ ([0, 0] ++ rowL ds)
    rw [← pre_row ds]
    simp only [List.append_assoc]
theorem blk_V (d : Nat) : (List.replicate d [V.int 1, V.int 0]).flatten = (blk d).map V.int := by
  unfold blk
  rw [List.map_flatten, List.map_replicate]
  rfl
theorem pre_le : ∀ ds : List Nat, (∀ d ∈ ds, d ≤ 9) → (pre ds).length ≤ 20 * ds.length
  | [], _ => by decide
  | d :: ds, h => by
    have ih := pre_le ds fun y m => h y (List.mem_cons_of_mem _ m)
    have hd := h d (by simp)
    show (blk d ++ ([0, 0] ++ pre ds)).length ≤ _
    rw [List.length_append, List.length_append, blk_len]
    simp only [List.length_cons, List.length_nil]
    omega
theorem take_succ_app {α : Type} {l : List α} {i : Nat} {x : α} (h : l[i]? = some x) : l.take (i + 1) = l.take i ++ [x] := by
  rw [List.take_add_one, h]
  rfl
theorem take_succ_map {α β : Type} {l : List α} {i : Nat} {x : α} (f : α → β) (h : l[i]? = some x) : (l.take i).map f ++ [f x] = (l.take (i + 1)).map f := by
  rw [take_succ_app h, List.map_append]
  rfl
theorem row_sum : ∀ ds : List Nat, (rowL ds).length = 2 * (ds.sum + ds.length + 1)
  | [] => rfl
  | d :: ds => by
    have ih := row_sum ds
    show (blk d ++ ([0, 0] ++ rowL ds)).length = _
    rw [List.length_append, List.length_append, blk_len, ih, List.sum_cons]
    simp only [List.length_cons, List.length_nil]
    omega
theorem row_le (ds : List Nat) (N : Num ds) : (rowL ds).length ≤ 100 := by
  have h := rowL_le ds fun d m => (N.dig d m).2
  have l := N.len
  omega
theorem row_bits : ∀ (ds : List Nat) (z : Int), z ∈ rowL ds → z = 0 ∨ z = 1
  | [], z, h => by
    have h : z ∈ [0, 0] := h
    simp only [List.mem_cons, List.not_mem_nil, or_false, or_self] at h
    exact .inl h
  | d :: ds, z, h => by
    have h : z ∈ blk d ++ ([0, 0] ++ rowL ds) := h
    rw [List.mem_append, List.mem_append] at h
    rcases h with h | h | h
    · obtain ⟨l, hl, hz⟩ := List.mem_flatten.mp h
      rw [(List.mem_replicate.mp hl).2] at hz
      simp only [List.mem_cons, List.not_mem_nil, or_false] at hz
      exact hz.symm
    · simp only [List.mem_cons, List.not_mem_nil, or_false, or_self] at h
      exact .inl h
    · exact row_bits ds z h
/-! strokes -/
def ones : Nat → List Int → List Nat
  | _, [] => []
  | o, x :: xs => if x = 1 then o :: ones (o + 1) xs else ones (o + 1) xs
theorem ones_app : ∀ (a : List Int) (o : Nat) (b : List Int), ones o (a ++ b) = ones o a ++ ones (o + a.length) b
  | [], o, b => rfl
  | x :: a, o, b => by
    have ih := ones_app a (o + 1) b
    have e : o + (x :: a).length = o + 1 + a.length := by rw [List.length_cons]; omega
    rw [e]
    show (if x = 1 then o :: ones (o + 1) (a ++ b) else ones (o + 1) (a ++ b)) = (if x = 1 then o :: ones (o + 1) a else ones (o + 1) a) ++ _
    rw [ih]
    by_cases c : x = 1
    · rw [if_pos c, if_pos c]; rfl
    · rw [if_neg c, if_neg c]
theorem ones_mem : ∀ (xs : List Int) (o k : Nat), k ∈ ones o xs ↔ ∃ j, k = o + j ∧ xs[j]? = some 1
  | [], o, k => by simp [ones]
  | x :: xs, o, k => by
    have ih := ones_mem xs (o + 1) k
    show k ∈ (if x = 1 then o :: ones (o + 1) xs else ones (o + 1) xs) ↔ _
    constructor
    · intro h
      by_cases c : x = 1
      · rw [if_pos c] at h
        rcases List.mem_cons.mp h with e | e
        · exact ⟨0, by omega, by rw [c]; rfl⟩
        · obtain ⟨j, e1, e2⟩ := ih.mp e
          exact ⟨j + 1, by omega, by simpa using e2⟩
      · rw [if_neg c] at h
        obtain ⟨j, e1, e2⟩ := ih.mp h
        exact ⟨j + 1, by omega, by simpa using e2⟩
    · rintro ⟨j, e1, e2⟩
      cases j with
      | zero =>
        have c : x = 1 := Option.some.inj e2
        rw [if_pos c]
        exact List.mem_cons.mpr (.inl (by omega))
      | succ j =>
        have m : k ∈ ones (o + 1) xs := ih.mpr ⟨j, by omega, by simpa using e2⟩
        by_cases c : x = 1
        · rw [if_pos c]; exact List.mem_cons_of_mem _ m
        · rw [if_neg c]; exact m
theorem ones_blk (o d : Nat) : ones o (blk (d + 1)) = ones o (blk d) ++ [o + 2 * d] := by
  rw [blk_add, ones_app, blk_len]
  rfl
theorem ones_end (a : List Int) (o : Nat) : ones o (a ++ [0, 0]) = ones o a := by
  rw [ones_app]
  show ones o a ++ [] = _
  rw [List.append_nil]
theorem step2 (s : List Nat) (d : Nat) : ones 0 (pre s ++ blk (d + 1)) = ones 0 (pre s ++ blk d) ++ [(pre s).length + 2 * d] := by
  rw [ones_app, ones_app, ones_blk, List.append_assoc, Nat.zero_add]
theorem step4 (s : List Nat) (d : Nat) : ones 0 (pre (s ++ [d]) ++ blk 1) = ones 0 (pre s ++ blk d) ++ [(pre s).length + 2 * d + 2] := by
  rw [ones_app, pre_app, ← List.append_assoc, ones_end]
  have e : ((pre s ++ blk d) ++ ([0, 0] : List Int)).length = (pre s).length + 2 * d + 2 := by
    rw [List.length_append, List.length_append, blk_len]
    rfl
  rw [e, Nat.zero_add]
  rfl
theorem ones_row (s : List Nat) (d : Nat) : ones 0 (rowL (s ++ [d])) = ones 0 (pre s ++ blk d) := by
  rw [← pre_row, pre_app, ← List.append_assoc, ones_end, ones_end]
theorem ones_inj {ds es : List Nat} (h1 : ∀ d ∈ ds, 1 ≤ d) (h2 : ∀ e ∈ es, 1 ≤ e) (h : ones 0 (rowL ds) = ones 0 (rowL es)) : ds = es := by
  rcases rows_part ds es h1 h2 with q | ⟨k, q, _⟩ | ⟨k, q, _⟩
  · exact q
  · have m : k ∈ ones 0 (rowL ds) := (ones_mem _ _ _).mpr ⟨k, by omega, q.one⟩
    rw [h] at m
    obtain ⟨j, e1, e2⟩ := (ones_mem _ _ _).mp m
    rw [show j = k by omega, q.two] at e2
    cases e2
  · have m : k ∈ ones 0 (rowL es) := (ones_mem _ _ _).mpr ⟨k, by omega, q.two⟩
    rw [← h] at m
    obtain ⟨j, e1, e2⟩ := (ones_mem _ _ _).mp m
    rw [show j = k by omega, q.one] at e2
    cases e2
def St (l : List Nat) : Prop := ∀ (k a b : Nat), l[k]? = some a → l[k + 1]? = some b → b = a + 2 ∨ b = a + 4
theorem St.cons {x : Nat} {l : List Nat} (h : ∀ y, l.head? = some y → y = x + 2 ∨ y = x + 4) (s : St l) : St (x :: l) := by
  intro k a b e1 e2
  cases k with
  | zero =>
    have e : x = a := Option.some.inj e1
    subst e
    refine h b ?_
    rw [List.head?_eq_getElem?]
    exact e2
  | succ k => exact s k a b (by simpa using e1) (by simpa using e2)
theorem steps_blk {l : List Int} (hl : ∀ o, St (ones o l) ∧ ∀ y, (ones o l).head? = some y → y = o) : ∀ (d o : Nat), St (ones o (blk d ++ ([0, 0] ++ l))) ∧ ∀ y, (ones o (blk d ++ ([0, 0] ++ l))).head? = some y → (y = o ∨ y = o + 2)
  | 0, o => by
    have h := hl (o + 2)
    exact ⟨h.1, fun y e => .inr (h.2 y e)⟩
  | d + 1, o => by
    have ih := steps_blk hl d (o + 2)
    have e : ones o (blk (d + 1) ++ ([0, 0] ++ l)) = o :: ones (o + 2) (blk d ++ ([0, 0] ++ l)) := by
      rw [blk_succ]
      rfl
    rw [e]
    refine ⟨ih.1.cons fun y q => ?_, fun y q => .inl (Option.some.inj q).symm⟩
    rcases ih.2 y q with z | z
    · exact .inl z
    · exact .inr (by omega)
theorem steps_row : ∀ (es : List Nat), (∀ d ∈ es, 1 ≤ d) → ∀ o, St (ones o (rowL es)) ∧ ∀ y, (ones o (rowL es)).head? = some y → y = o
  | [], _, o => ⟨fun k a b (e : (none : Option Nat) = some a) => (by cases e), fun y (e : (none : Option Nat) = some y) => by cases e⟩
  | d :: es, h, o => by
    have ih := steps_row es fun y m => h y (List.mem_cons_of_mem _ m)
    obtain ⟨f, rfl⟩ : ∃ f, d = f + 1 := ⟨d - 1, by have := h d (by simp); omega⟩
    have q := steps_blk ih (f + 1) o
    refine ⟨q.1, fun y e => ?_⟩
    have e' : ones o (rowL ((f + 1) :: es)) = o :: ones (o + 2) (blk f ++ ([0, 0] ++ rowL es)) := by
      show ones o (blk (f + 1) ++ _) = _
      rw [blk_succ]
      rfl
    rw [e'] at e
    exact (Option.some.inj e).symm
theorem first_row (d : Nat) (es : List Nat) (h : 1 ≤ d) : (ones 0 (rowL (d :: es)))[0]? = some 0 := by
  obtain ⟨f, rfl⟩ : ∃ f, d = f + 1 := ⟨d - 1, by omega⟩
  show (ones 0 (blk (f + 1) ++ _))[0]? = _
  rw [blk_succ]
  rfl
/-! groups -/
def gaps : List Int → List Nat
  | [] => [0]
  | z :: zs => if z = 1 then (match gaps zs with | [] => [1] | g :: gs => (g + 1) :: gs) else 0 :: gaps zs
theorem gaps_ne : ∀ zs, gaps zs ≠ []
  | [] => by simp [gaps]
  | z :: zs => by
    show (if z = 1 then (match gaps zs with | [] => [1] | g :: gs => (g + 1) :: gs) else 0 :: gaps zs) ≠ []
    by_cases c : z = 1
    · rw [if_pos c]
      split <;> simp
    · rw [if_neg c]; simp
def bits (zs : List Int) : List Nat := zs.map fun z => if z = 1 then 49 else 48
theorem joinL_cons {s : List Nat} {p : List Nat} {ps : List (List Nat)} (h : ps ≠ []) : joinL s (p :: ps) = p ++ (s ++ joinL s ps) := by
  cases ps with
  | nil => exact absurd rfl h
  | cons q r => rfl
theorem joinL_one (s p : List Nat) : joinL s [p] = p := rfl
theorem map_ne {α β : Type} {f : α → β} {l : List α} (h : l ≠ []) : l.map f ≠ [] := fun e => h (List.map_eq_nil_iff.mp e)
theorem gaps_join : ∀ zs, bits zs = joinL [48] ((gaps zs).map fun g => List.replicate g 49)
  | [] => rfl
  | z :: zs => by
    have ih := gaps_join zs
    have ne := gaps_ne zs
    show (if z = 1 then 49 else 48) :: bits zs = joinL [48] ((if z = 1 then (match gaps zs with | [] => [1] | g :: gs => (g + 1) :: gs) else 0 :: gaps zs).map _)
    by_cases c : z = 1
    · rw [if_pos c, if_pos c]
      cases e : gaps zs with
      | nil => exact absurd e ne
      | cons g gs =>
        rw [e] at ih
        rw [ih]
        cases gs with
        | nil => rfl
        | cons g2 gs => rfl
    · rw [if_neg c, if_neg c, List.map_cons, joinL_cons (map_ne ne), ← ih]
      rfl
theorem gaps_sum : ∀ zs, (gaps zs).sum ≤ zs.length ∧ (gaps zs).length ≤ zs.length + 1
  | [] => by decide
  | z :: zs => by
    have ih := gaps_sum zs
    show (if z = 1 then (match gaps zs with | [] => [1] | g :: gs => (g + 1) :: gs) else 0 :: gaps zs).sum ≤ zs.length + 1 ∧ (if z = 1 then (match gaps zs with | [] => [1] | g :: gs => (g + 1) :: gs) else 0 :: gaps zs).length ≤ zs.length + 1 + 1
    by_cases c : z = 1
    · rw [if_pos c]
      cases e : gaps zs with
      | nil => exact absurd e (gaps_ne zs)
      | cons g gs =>
        rw [e, List.sum_cons, List.length_cons] at ih
        show ((g + 1) :: gs).sum ≤ _ ∧ ((g + 1) :: gs).length ≤ _
        rw [List.sum_cons, List.length_cons]
        omega
    · rw [if_neg c, List.sum_cons, List.length_cons]
      omega
theorem mem_sum {g : Nat} : ∀ {l : List Nat}, g ∈ l → g ≤ l.sum
  | a :: l, h => by
    rw [List.sum_cons]
    rcases List.mem_cons.mp h with e | e
    · omega
    · have := mem_sum e
      omega
theorem gaps_le {zs : List Int} {g : Nat} (h : g ∈ gaps zs) : g ≤ zs.length := by
  have h1 := (gaps_sum zs).1
  have h2 : g ≤ (gaps zs).sum := mem_sum h
  omega
theorem ev2_row : ∀ ds, Hf.ev2 (rowL ds) = (match ds with | [] => [0] | d :: r => List.replicate d 1 ++ (0 :: Hf.ev2 (rowL r)))
  | [] => rfl
  | d :: r => by
    show Hf.ev2 (blk d ++ ([0, 0] ++ rowL r)) = List.replicate d 1 ++ (0 :: Hf.ev2 (rowL r))
    induction d with
    | zero => rfl
    | succ d ih =>
      rw [blk_succ, List.replicate_succ]
      show (1 : Int) :: Hf.ev2 (blk d ++ ([0, 0] ++ rowL r)) = _
      rw [ih]
      rfl
theorem gaps_rep (l : List Int) (d : Nat) : gaps (List.replicate d 1 ++ (0 :: l)) = d :: gaps l := by
  induction d with
  | zero => rfl
  | succ d ih =>
    rw [List.replicate_succ]
    show (if (1 : Int) = 1 then (match gaps (List.replicate d 1 ++ (0 :: l)) with | [] => [1] | g :: gs => (g + 1) :: gs) else _) = _
    rw [if_pos rfl, ih]
theorem gaps_row : ∀ ds, gaps (Hf.ev2 (rowL ds)) = ds ++ [0, 0]
  | [] => rfl
  | d :: r => by
    rw [ev2_row]
    show gaps (List.replicate d 1 ++ (0 :: Hf.ev2 (rowL r))) = _
    rw [gaps_rep, gaps_row r]
    rfl
end Wm

/-! Ticks of bent rows as data. -/
namespace Wm
open PySem L2
inductive Tk : PyData → Prop
  | int {i : Int} : i.natAbs < 1000000 → Tk (.int i)
  | bl (b : Bool) : Tk (.bool b)
  | non : Tk .none
  | one : Tk (.str "1")
  | lst : Tk (.list [.int 0])
def Item (K : PySem.W.Frag) (H : Hp) (x : V) : Prop := ∃ d, Dp K H x d ∧ Tk d
theorem sqL_keep {K : PySem.W.Frag} {H H' : Hp} {a : Addr} {xs : List V} (e : Same H H') (h : SqL K H a xs) : SqL K H' a xs := by
  rcases h with (h | ⟨o, h⟩) | h
  · exact .inl (.inl (e _ _ h))
  · exact .inl (.inr ⟨o, e _ _ h⟩)
  · exact .inr h
theorem tk_keep {K : PySem.W.Frag} {H H' : Hp} {x : V} {d : PyData} (e : Same H H') (h : Dp K H x d) (t : Tk d) : Dp K H' x d := by
  cases t with
  | int _ => cases h; exact .int _
  | bl b => cases h; exact .bl _
  | non => cases h; exact .non
  | one => cases h; exact .str _
  | lst =>
    cases h with
    | lst q a =>
      refine .lst (sqL_keep e q) ?_
      cases a with
      | cons b c =>
        cases b
        cases c
        exact .cons (.int _) .nil
theorem Item.keep {K : PySem.W.Frag} {H H' : Hp} {x : V} (e : Same H H') (h : Item K H x) : Item K H' x := let ⟨d, a, b⟩ := h; ⟨d, tk_keep e a b, b⟩
theorem tks_keep {K : PySem.W.Frag} {H H' : Hp} (e : Same H H') : ∀ {xs : List V} {ds : List PyData}, DpAll K H xs ds → (∀ d ∈ ds, Tk d) → DpAll K H' xs ds
  | _, _, .nil, _ => .nil
  | _, _, .cons a b, t => .cons (tk_keep e a (t _ (by simp))) (tks_keep e b fun d m => t d (List.mem_cons_of_mem _ m))
theorem items_data {K : PySem.W.Frag} {H : Hp} : ∀ {xs : List V}, (∀ x ∈ xs, Item K H x) → ∃ ds, DpAll K H xs ds ∧ (∀ d ∈ ds, Tk d) ∧ ds.length = xs.length
  | [], _ => ⟨[], .nil, by simp, rfl⟩
  | x :: xs, h => by
    obtain ⟨d, a, b⟩ := h x (by simp)
    obtain ⟨ds, c1, c2, c3⟩ := items_data (xs := xs) fun y m => h y (List.mem_cons_of_mem _ m)
    refine ⟨d :: ds, .cons a c1, fun y m => ?_, by rw [List.length_cons, List.length_cons, c3]⟩
    rcases List.mem_cons.mp m with q | q
    · rw [q]; exact b
    · exact c2 y q
theorem item_int {K : PySem.W.Frag} {H : Hp} {i : Int} (h : i.natAbs < 1000000) : Item K H (.int i) := ⟨_, .int i, .int h⟩
theorem tk_lay {d : PyData} (t : Tk d) : d.canLay0 = true ∧ d.depth ≤ 1 := by
  cases t with
  | int _ => exact ⟨by simp [PyData.canLay0], by simp [PyData.depth]⟩
  | bl b => exact ⟨by simp [PyData.canLay0], by simp [PyData.depth]⟩
  | non => exact ⟨by simp [PyData.canLay0], by simp [PyData.depth]⟩
  | one => exact ⟨by decide +kernel, by simp [PyData.depth]⟩
  | lst => exact ⟨by simp [PyData.canLay0, PyData.canLayAll0], by simp [PyData.depth, PyData.depthAll]⟩
theorem tks_lay : ∀ {ds : List PyData}, (∀ d ∈ ds, Tk d) → PyData.canLayAll0 ds = true ∧ PyData.depthAll ds ≤ 1
  | [], _ => by simp [PyData.canLayAll0, PyData.depthAll]
  | d :: ds, h => by
    have h1 := tk_lay (h d (by simp))
    have h2 := tks_lay (ds := ds) fun y m => h y (List.mem_cons_of_mem _ m)
    simp only [PyData.canLayAll0, PyData.depthAll, h1.1, h2.1, Bool.and_self, true_and]
    omega
theorem tks_shaped {ds : List PyData} (h : ∀ d ∈ ds, Tk d) : SeqAt.shaped (.list ds) = true := by
  have q := tks_lay h
  have e : decide ((PyData.list ds).depth ≤ 64) = true := decide_eq_true (by simp only [PyData.depth]; omega)
  show ((PyData.list ds).canLay0 && _) = true
  rw [e, Bool.and_true]
  exact q.1
theorem tk_show {d : PyData} (t : Tk d) : d.showable = true ∧ d.hasDict = false ∧ d.leavesShort 13 = true ∧ d.weight ≤ 30 := by
  cases t with
  | @int i h =>
    have hl : i.natAbs.log2 < 20 ∨ i = 0 := by
      by_cases z : i = 0
      · exact .inr z
      · exact .inl ((Nat.log2_lt (by omega)).mpr (by omega))
    refine ⟨decide_eq_true ?_, rfl, decide_eq_true (PyData.shown_int_le (by omega)), ?_⟩
    · rcases hl with z | z
      · omega
      · subst z; decide
    · rcases hl with z | z
      · simp only [PyData.weight]; split <;> omega
      · subst z; decide
  | bl b => exact ⟨rfl, rfl, rfl, by simp [PyData.weight]⟩
  | non => exact ⟨rfl, rfl, rfl, by simp [PyData.weight]⟩
  | one => exact ⟨rfl, rfl, by decide +kernel, by decide +kernel⟩
  | lst => exact ⟨by decide +kernel, rfl, by decide +kernel, by decide +kernel⟩
theorem tks_show : ∀ {ds : List PyData}, (∀ d ∈ ds, Tk d) → PyData.showableAll ds = true ∧ PyData.hasDictAll ds = false ∧ PyData.leavesShortAll 13 ds = true ∧ PyData.weightAll ds ≤ 31 * ds.length
  | [], _ => by simp [PyData.showableAll, PyData.hasDictAll, PyData.leavesShortAll, PyData.weightAll]
  | d :: ds, h => by
    have h1 := tk_show (h d (by simp))
    have h2 := tks_show (ds := ds) fun y m => h y (List.mem_cons_of_mem _ m)
    simp only [PyData.showableAll, PyData.hasDictAll, PyData.leavesShortAll, PyData.weightAll, h1.1, h1.2.1, h1.2.2.1, h2.1, h2.2.1, h2.2.2.1, Bool.and_self, Bool.or_self, true_and, List.length_cons]
    omega
theorem tks_shown {ds : List PyData} (h : ∀ d ∈ ds, Tk d) (l : ds.length ≤ 1000) : (PyData.list ds).shown.length ≤ sizeLine :=
  PyData.shown_fits (B := 13) (by decide) (by decide) (tks_show h).2.2.1 (Nat.le_trans (tks_show h).2.2.2 (by omega))
def isI : V → Bool
  | .int _ => true
  | _ => false
def isBit (x : V) : Bool := decide (x = .int 0) || decide (x = .int 1)
theorem all_ints {xs : List V} (h : ∀ x ∈ xs, isI x = true) : ∃ zs : List Int, xs = zs.map V.int := by
  induction xs with
  | nil => exact ⟨[], rfl⟩
  | cons x xs ih =>
    obtain ⟨zs, e⟩ := ih fun y m => h y (List.mem_cons_of_mem _ m)
    have hx := h x (by simp)
    cases x with
    | int i => exact ⟨i :: zs, by rw [e]; rfl⟩
    | _ => cases hx
theorem all_bits {xs : List V} (h : ∀ x ∈ xs, isBit x = true) : ∃ zs : List Int, xs = zs.map V.int ∧ ∀ z ∈ zs, z = 0 ∨ z = 1 := by
  induction xs with
  | nil => exact ⟨[], rfl, by simp⟩
  | cons x xs ih =>
    obtain ⟨zs, e, b⟩ := ih fun y m => h y (List.mem_cons_of_mem _ m)
    have hx := h x (by simp)
    have hc : x = .int 0 ∨ x = .int 1 := by
      rcases Bool.or_eq_true_iff.mp hx with q | q
      · exact .inl (of_decide_eq_true q)
      · exact .inr (of_decide_eq_true q)
    have : ∃ i : Int, x = .int i ∧ (i = 0 ∨ i = 1) := by
      rcases hc with q | q
      · exact ⟨0, q, .inl rfl⟩
      · exact ⟨1, q, .inr rfl⟩
    obtain ⟨i, rfl, hi⟩ := this
    refine ⟨i :: zs, by rw [e]; rfl, fun z m => ?_⟩
    rcases List.mem_cons.mp m with q | q
    · rw [q]; exact hi
    · exact b z q
/-- what isinstance asks of such a tick -/
theorem tyx_of {K : PySem.W.Frag} {H : Hp} {x : V} (h : Item K H x) : ∃ (n : String) (a b : Bool), TyX K H x (.type n) ∧ PySem.W.kitOne K (.type n) (.type "int") = some a ∧
    PySem.W.kitOne K (.type n) (.type "bool") = some b ∧ (a && !b) = isI x := by
  obtain ⟨d, h, t⟩ := h
  cases t with
  | int _ => cases h; exact ⟨"int", true, false, .base (.int _), kit_ty (by decide +kernel), kit_ty (by decide +kernel), rfl⟩
  | bl b => cases h; exact ⟨"bool", true, true, .base (.bl _), kit_ty (by decide +kernel), kit_ty (by decide +kernel), rfl⟩
  | non => cases h; exact ⟨"NoneType", false, false, .base .non, kit_ty (by decide +kernel), kit_ty (by decide +kernel), rfl⟩
  | one => cases h; exact ⟨"str", false, false, .base (.str _), kit_ty (by decide +kernel), kit_ty (by decide +kernel), rfl⟩
  | lst =>
    cases h with
    | lst q a =>
      rcases q with (q | ⟨o, q⟩) | q
      · exact ⟨"list", false, false, .base (.lst q), kit_ty (by decide +kernel), kit_ty (by decide +kernel), rfl⟩
      · exact ⟨"list", false, false, .base (.frz q), kit_ty (by decide +kernel), kit_ty (by decide +kernel), rfl⟩
      · obtain ⟨o, xs, n, e, c, _⟩ := q
        exact ⟨"list", false, false, .kList e c, kit_ty (by decide +kernel), kit_ty (by decide +kernel), rfl⟩
/-- a list or a tuple -/
def SqA (K : PySem.W.Frag) (H : Hp) (a : Addr) (xs : List V) : Prop := SqL K H a xs ∨ SqT K H a xs
theorem SqA.keep {K : PySem.W.Frag} {H H' : Hp} {a : Addr} {xs : List V} (e : Same H H') (h : SqA K H a xs) : SqA K H' a xs := h.imp (sqL_keep e) (sameT e)
end Wm

/-! Texts of digits: halves, groups, the number they tell. -/
namespace Wm
open PySem L2 TL
def oneS (g : Nat) : Str := ⟨(List.replicate g 49).toArray⟩
def bitS (z : Int) : Str := if z = 1 then "1" else "0"
def decS (g : Nat) : Str := ((toString (g : Int) : String) : Str)
theorem bit_str {z : Int} (h : z = 0 ∨ z = 1) : ((toString z : String) : Str) = bitS z := by
  rcases h with e | e <;> subst e <;> decide +kernel
theorem tl_bit (z : Int) : tl (bitS z) = [if z = 1 then 49 else 48] := by
  unfold bitS
  by_cases c : z = 1
  · rw [if_pos c, if_pos c]; decide +kernel
  · rw [if_neg c, if_neg c]; decide +kernel
theorem joinL_nil : ∀ ps : List (List Nat), joinL [] ps = ps.flatten
  | [] => rfl
  | [p] => by show p = [p].flatten; simp
  | p :: q :: r => by
    show p ++ ([] ++ joinL [] (q :: r)) = _
    rw [joinL_nil (q :: r), List.nil_append]
    rfl
theorem tl_empty : tl ("" : Str) = [] := by decide +kernel
theorem tl_zero : tl ("0" : Str) = [48] := by decide +kernel
theorem tl_join0 (ys : List Str) : tl (Txt.join "" ys) = (ys.map tl).flatten := by
  rw [join_eq, tl_join, tl_empty, joinL_nil]
theorem bits_flat : ∀ zs : List Int, ((zs.map bitS).map tl).flatten = bits zs
  | [] => rfl
  | z :: zs => by
    rw [List.map_cons, List.map_cons, List.flatten_cons, bits_flat zs, tl_bit]
    rfl
theorem halves_eq (zs : List Int) : Txt.join "" (zs.map bitS) = Txt.join "0" ((gaps zs).map oneS) := by
  refine ext_tl ?_
  rw [tl_join0, bits_flat, gaps_join, join_eq, tl_join, tl_zero, List.map_map]
  rfl
theorem groups_eq (zs : List Int) : Txt.split (Txt.join "" (zs.map bitS)) "0" = (gaps zs).map oneS := by
  rw [halves_eq]
  refine split_join (s := 48) (S := []) tl_zero (by decide +kernel) (map_ne (gaps_ne zs)) fun p hp h => ?_
  obtain ⟨g, _, rfl⟩ := List.mem_map.mp hp
  have h : 48 ∈ List.replicate g 49 := h
  exact absurd (List.mem_replicate.mp h).2 (by decide)
theorem oneS_len (g : Nat) : (oneS g).length = g := by
  rw [len_tl]
  show (List.replicate g 49).length = g
  rw [List.length_replicate]
theorem halves_len (zs : List Int) : (Txt.join "" (zs.map bitS)).length = zs.length := by
  rw [len_tl, tl_join0, bits_flat]
  unfold bits
  rw [List.length_map]
theorem len4 : ∀ g : Fin 3001, (decS g.val).length ≤ 4 := by decide +kernel
theorem dec_len {g : Nat} (h : g ≤ 3000) : (decS g).length ≤ 4 := len4 ⟨g, by omega⟩
theorem dec_sum : ∀ {gs : List Nat}, (∀ g ∈ gs, g ≤ 3000) → ((gs.map decS).map (·.length)).sum ≤ 4 * gs.length
  | [], _ => by simp
  | g :: gs, h => by
    have h1 := dec_len (h g (by simp))
    have h2 := dec_sum (gs := gs) fun y m => h y (List.mem_cons_of_mem _ m)
    rw [List.map_cons, List.map_cons, List.sum_cons, List.length_cons]
    omega
theorem join0_len (ys : List Str) : (Txt.join "" ys).length = (ys.map (·.length)).sum := by
  rw [len_tl, tl_join0]
  induction ys with
  | nil => rfl
  | cons y ys ih => rw [List.map_cons, List.flatten_cons, List.length_append, ih, List.map_cons, List.sum_cons, len_tl]
theorem bit_sum (zs : List Int) : ((zs.map bitS).map (·.length)).sum = zs.length := by rw [← join0_len, halves_len]
theorem num_text : ∀ {ds : List Nat}, (∀ d ∈ ds, 1 ≤ d ∧ d ≤ 9) → Txt.join "" (ds.map decS) = numS ds
  | [], _ => by decide +kernel
  | d :: ds, h => by
    have ih := num_text (ds := ds) fun y m => h y (List.mem_cons_of_mem _ m)
    refine ext_tl ?_
    rw [tl_join0, List.map_cons, List.map_cons, List.flatten_cons, ← tl_join0, ih]
    have e : decS d = numS [d] := dig_str (h d (by simp))
    rw [e]
    rfl
/-- the number that a row of bits tells, if it is a row -/
def told (zs : List Int) : Str := Txt.join "" ((gaps (Hf.ev2 zs)).dropLast.dropLast.map decS)
theorem told_row {ds : List Nat} (h : ∀ d ∈ ds, 1 ≤ d ∧ d ≤ 9) : told (rowL ds) = numS ds := by
  unfold told
  rw [gaps_row, ← num_text h]
  congr 2
  show (ds ++ [0, 0]).dropLast.dropLast = ds
  rw [show (ds ++ [0, 0]) = (ds ++ [0]) ++ [0] by simp, List.dropLast_concat, List.dropLast_concat]
theorem digits_codes : ("123456789" : Str).cps.toList = [49, 50, 51, 52, 53, 54, 55, 56, 57] := by decide +kernel
theorem dig_text (t : Str) (h : ∀ c ∈ tl t, c ∈ ("123456789" : Str).cps.toList) : ∃ ds : List Nat, (∀ d ∈ ds, 1 ≤ d ∧ d ≤ 9) ∧ t = numS ds := by
  have h2 : ∀ c ∈ tl t, 49 ≤ c ∧ c ≤ 57 := fun c m => by
    have q := h c m
    rw [digits_codes] at q
    simp only [List.mem_cons, List.not_mem_nil, or_false] at q
    omega
  refine ⟨(tl t).map (· - 48), fun d m => ?_, ?_⟩
  · obtain ⟨c, mc, rfl⟩ := List.mem_map.mp m
    have := h2 c mc
    omega
  · refine ext_tl ?_
    show tl t = ((tl t).map (· - 48)).map (· + 48)
    rw [List.map_map]
    refine (List.map_id _).symm.trans (List.map_congr_left fun c m => ?_)
    have := h2 c m
    show c = c - 48 + 48
    omega
theorem num_codes {ds : List Nat} (h : ∀ d ∈ ds, 1 ≤ d ∧ d ≤ 9) : ∀ c ∈ tl (numS ds), c ∈ ("123456789" : Str).cps.toList := fun c m => by
  have m : c ∈ codes ds := m
  obtain ⟨d, md, rfl⟩ := List.mem_map.mp m
  exact dig_in (h d md)
def IsNum (t : Str) : Prop := ∃ ds, Num ds ∧ t = numS ds
theorem isnum_dig {ds : List Nat} : IsNum (numS ds) ↔ Num ds :=
  ⟨fun ⟨es, N, e⟩ => by rw [numS_inj e]; exact N, fun N => ⟨ds, N, rfl⟩⟩
theorem row_inj {ds es : List Nat} (N : Num ds) (M : Num es) (h : (rowL ds).map V.int = (rowL es).map V.int) : ds = es := by
  have e : rowL ds = rowL es := by
    have q := congrArg (List.map fun v => match v with | V.int i => i | _ => 0) h
    simpa [List.map_map, Function.comp_def] using q
  exact ones_inj (fun d m => (N.dig d m).1) (fun d m => (M.dig d m).1) (by rw [e])
theorem map_int_inj {xs ys : List Int} (h : xs.map V.int = ys.map V.int) : xs = ys := by
  have q := congrArg (List.map fun v => match v with | V.int i => i | _ => 0) h
  simpa [List.map_map, Function.comp_def] using q
/-- what number_of tells of a row -/
def Told (xs : List V) (v : V) : Prop := (∃ ds, Num ds ∧ xs = (rowL ds).map V.int ∧ v = .str (numS ds)) ∨ ((∀ ds, Num ds → xs ≠ (rowL ds).map V.int) ∧ v = .non)
theorem Told.uniq {xs : List V} {v u : V} (a : Told xs v) (b : Told xs u) : v = u := by
  rcases a with ⟨ds, N, e, rfl⟩ | ⟨n, rfl⟩
  · rcases b with ⟨es, M, f, rfl⟩ | ⟨n, _⟩
    · rw [row_inj N M (e.symm.trans f)]
    · exact absurd e (n ds N)
  · rcases b with ⟨es, M, f, rfl⟩ | ⟨_, rfl⟩
    · exact absurd f (n es M)
    · rfl
theorem Told.row {ds : List Nat} {v : V} (N : Num ds) (a : Told ((rowL ds).map V.int) v) : v = .str (numS ds) := a.uniq (.inl ⟨ds, N, rfl, rfl⟩)
end Wm

/-! sum of a tuple of ints. -/
namespace Hf
open PySem PySem.Spec PyProof.Rows L2
section
variable {prog : Program} {w : World} {A : Around} {E : Value → Shared → Prop} {s : Shared} {l : Addr} {its : List Value} {ns : List Int} {Q : Value → Shared → Prop}
theorem sum_rawT (hh : A.handled = none) (hl : s.heap.IsTuple l its.toArray) (hi : IntsAre its ns)
    (h : ∀ h' tk t', (∀ b o, s.heap.get? b = some o → h'.get? b = some o) → Q (.int ns.sum t') { s with heap := h', toks := tk }) : wpAny (model prog w) A (call (.builtin "sum") [.ref l]) Q E s := by
  obtain ⟨xs, e⟩ := hi.allInts.items
  have hn : numsOf (intItems xs).toList = ns := by rw [← e]; exact hi.numsOf
  rw [nums_intItems] at hn
  rw [e] at hl
  refine PySem.W.ktm_sumG hh hl fun h' tk t' hk => ?_
  have := h h' tk t' hk
  rw [preSum_eq, List.take_of_length_le (by simp), hn]; exact this
end
section
variable {X : Cx}
def rSumA (K : PySem.W.Frag) : List V → Hp → VK → Prop := fun vs H Q => ∃ (a : Addr) (ns : List Int), vs = [V.ref a] ∧ (SqL K H a (ns.map V.int) ∨ SqT K H a (ns.map V.int)) ∧ Q (.int ns.sum) H
theorem cr_sumA (hc : X.calm = true) : CallR X (.builtin "sum") (rSumA X.K) := by
  intro pins s σ H vs us Q I r h
  obtain ⟨a, ns, rfl, hs, q⟩ := h
  rcases hs with hs | hs
  · obtain ⟨its, rv, hl, _⟩ := I.list hs
    rw [Vals.ref1 r]
    exact sum_raw (I.ok.hd hc) hl.isList rv.ints fun h' tk t' hk => ⟨.int _, H, I.kept hk, ⟨_, rfl⟩, q⟩
  · obtain ⟨its, rv, hl, _⟩ := I.tuple hs
    rw [Vals.ref1 r]
    exact sum_rawT (I.ok.hd hc) (show s.heap.IsTuple a its.toArray from hl) rv.ints fun h' tk t' hk => ⟨.int _, H, I.kept hk, ⟨_, rfl⟩, q⟩
end
end Hf

/-! Data of ints, texts and tuples of such; what keeps them. -/
namespace Dv
open PySem L2 Wm
mutual
inductive Dt (K : PySem.W.Frag) (H : Hp) : V → PyData → Prop
  | int (i : Int) : Dt K H (.int i) (.int i)
  | str (x : Str) : Dt K H (.str x) (.str x)
  | tup {a : Addr} {xs : List V} {ds : List PyData} : SqT K H a xs → Dts K H xs ds → Dt K H (.ref a) (.tuple ds)
inductive Dts (K : PySem.W.Frag) (H : Hp) : List V → List PyData → Prop
  | nil : Dts K H [] []
  | cons {v : V} {vs : List V} {d : PyData} {ds : List PyData} : Dt K H v d → Dts K H vs ds → Dts K H (v :: vs) (d :: ds)
end
/-- tuples stand -/
def Kt (K : PySem.W.Frag) (H H' : Hp) : Prop := ∀ a xs, SqT K H a xs → SqT K H' a xs
section
variable {K : PySem.W.Frag} {H H' H2 : Hp}
theorem Kt.refl : Kt K H H := fun _ _ h => h
theorem Kt.trans (a : Kt K H H') (b : Kt K H' H2) : Kt K H H2 := fun p xs h => b p xs (a p xs h)
theorem Kt.same (s : Same H H') : Kt K H H' := fun _ _ h => sameT s h
/-- a store at what is no tuple -/
theorem Kt.set {p : Addr} {o u : HO} (h : H p = some u) (n1 : ∀ xs, u ≠ .tup xs) (n2 : ∀ ob xs, u ≠ .frz ob (.tup xs)) : Kt K H (upd H p o) := fun a xs q => by
  rcases q with (q | ⟨ob, q⟩) | q
  · exact .inl (.inl (by rw [upd_ne (fun e => by subst e; rw [h] at q; exact n1 _ (Option.some.inj q))]; exact q))
  · exact .inl (.inr ⟨ob, by rw [upd_ne (fun e => by subst e; rw [h] at q; exact n2 _ _ (Option.some.inj q))]; exact q⟩)
  · exact .inr q
theorem Kt.lst {p : Addr} {o : HO} {xs : List V} (h : H p = some (.lst xs)) : Kt K H (upd H p o) := Kt.set h (fun _ q => by cases q) (fun _ _ q => by cases q)
theorem Kt.new {p : Addr} {o : HO} (h : H p = none) : Kt K H (upd H p o) := Kt.same (same_new h)
mutual
theorem Dt.keep (k : Kt K H H') : ∀ (d : PyData) (v : V), Dt K H v d → Dt K H' v d
  | .int _, _, h => by cases h; exact .int _
  | .str _, _, h => by cases h; exact .str _
  | .tuple ds, _, h => by
    cases h with
    | tup a b => exact .tup (k _ _ a) (Dts.keep k ds _ b)
  | .none, _, h => by cases h
  | .bool _, _, h => by cases h
  | .list _, _, h => by cases h
  | .dict _, _, h => by cases h
theorem Dts.keep (k : Kt K H H') : ∀ (ds : List PyData) (vs : List V), Dts K H vs ds → Dts K H' vs ds
  | [], _, h => by cases h; exact .nil
  | d :: ds, _, h => by
    cases h with
    | cons a b => exact .cons (Dt.keep k d _ a) (Dts.keep k ds _ b)
end
mutual
theorem Dt.dp : ∀ (d : PyData) (v : V), Dt K H v d → Dp K H v d
  | .int _, _, h => by cases h; exact .int _
  | .str _, _, h => by cases h; exact .str _
  | .tuple ds, _, h => by
    cases h with
    | tup a b => exact .tup a (Dts.dp ds _ b)
  | .none, _, h => by cases h
  | .bool _, _, h => by cases h
  | .list _, _, h => by cases h
  | .dict _, _, h => by cases h
theorem Dts.dp : ∀ (ds : List PyData) (vs : List V), Dts K H vs ds → DpAll K H vs ds
  | [], _, h => by cases h; exact .nil
  | d :: ds, _, h => by
    cases h with
    | cons a b => exact .cons (Dt.dp d _ a) (Dts.dp ds _ b)
end
theorem Dt.k {d : PyData} {v : V} (h : Dt K H v d) (k : Kt K H H') : Dt K H' v d := Dt.keep k _ _ h
theorem Dts.k {ds : List PyData} {vs : List V} (h : Dts K H vs ds) (k : Kt K H H') : Dts K H' vs ds := Dts.keep k _ _ h
theorem Dt.toDp {d : PyData} {v : V} (h : Dt K H v d) : Dp K H v d := Dt.dp _ _ h
theorem Dts.toDp {ds : List PyData} {vs : List V} (h : Dts K H vs ds) : DpAll K H vs ds := Dts.dp _ _ h
theorem Dt.inv {ds : List PyData} {v : V} (h : Dt K H v (.tuple ds)) : ∃ p xs, v = .ref p ∧ SqT K H p xs ∧ Dts K H xs ds := by
  cases h with
  | tup a b => exact ⟨_, _, rfl, a, b⟩
theorem Dt.str_inv {x : Str} {v : V} (h : Dt K H v (.str x)) : v = .str x := by cases h; rfl
theorem Dt.int_inv {i : Int} {v : V} (h : Dt K H v (.int i)) : v = .int i := by cases h; rfl
theorem Dts.len {ds : List PyData} {vs : List V} (h : Dts K H vs ds) : vs.length = ds.length := by
  induction ds generalizing vs with
  | nil => cases h; rfl
  | cons d ds ih =>
    cases h with
    | cons a b => rw [List.length_cons, List.length_cons, ih b]
theorem Dts.at {i : Nat} {ds : List PyData} {vs : List V} {v : V} (h : Dts K H vs ds) (g : vs[i]? = some v) : ∃ d, ds[i]? = some d ∧ Dt K H v d := by
  induction ds generalizing vs i with
  | nil =>
    cases h
    simp at g
  | cons d ds ih =>
    cases h with
    | cons a b =>
      cases i with
      | zero =>
        simp at g
        subst g
        exact ⟨d, rfl, a⟩
      | succ i => exact ih b (by simpa using g)
theorem Dts.get {i : Nat} {ds : List PyData} {vs : List V} {d : PyData} (h : Dts K H vs ds) (g : ds[i]? = some d) : ∃ v, vs[i]? = some v ∧ Dt K H v d := by
  have li := (List.getElem?_eq_some_iff.mp g).1
  obtain ⟨v, e⟩ : ∃ v, vs[i]? = some v := ⟨_, List.getElem?_eq_getElem (by rw [h.len]; exact li)⟩
  obtain ⟨d2, e2, a⟩ := h.at e
  rw [g] at e2
  cases e2
  exact ⟨v, e, a⟩
theorem Dts.app {ds es : List PyData} {vs ws : List V} (h : Dts K H vs ds) (g : Dts K H ws es) : Dts K H (vs ++ ws) (ds ++ es) := by
  induction ds generalizing vs with
  | nil => cases h; exact g
  | cons d ds ih =>
    cases h with
    | cons a b => exact .cons a (ih b)
theorem Dts.snoc {ds : List PyData} {d : PyData} {vs : List V} {v : V} (h : Dts K H vs ds) (g : Dt K H v d) : Dts K H (vs ++ [v]) (ds ++ [d]) := h.app (.cons g .nil)
theorem Dts.take {ds : List PyData} {vs : List V} (h : Dts K H vs ds) : ∀ n, Dts K H (vs.take n) (ds.take n) := by
  induction ds generalizing vs with
  | nil => cases h; intro n; simp; exact .nil
  | cons d ds ih =>
    cases h with
    | cons a b =>
      intro n
      cases n with
      | zero => exact .nil
      | succ n => exact .cons a (ih b n)
theorem Dts.drop {ds : List PyData} {vs : List V} (h : Dts K H vs ds) : ∀ n, Dts K H (vs.drop n) (ds.drop n) := by
  induction ds generalizing vs with
  | nil => cases h; intro n; simp; exact .nil
  | cons d ds ih =>
    cases h with
    | cons a b =>
      intro n
      cases n with
      | zero => exact .cons a b
      | succ n => exact ih b n
theorem dts_str : ∀ ss : List Str, Dts K H (ss.map V.str) (ss.map PyData.str)
  | [] => .nil
  | s :: ss => .cons (.str s) (dts_str ss)
theorem dts_str_inv {ss : List Str} {vs : List V} (h : Dts K H vs (ss.map PyData.str)) : vs = ss.map V.str := by
  induction ss generalizing vs with
  | nil => cases h; rfl
  | cons s ss ih =>
    cases h with
    | cons a b => rw [a.str_inv, ih b]; rfl
theorem dts_int : ∀ ns : List Int, Dts K H (ns.map V.int) (ns.map PyData.int)
  | [] => .nil
  | s :: ss => .cons (.int s) (dts_int ss)
theorem dts_int_inv {ns : List Int} {vs : List V} (h : Dts K H vs (ns.map PyData.int)) : vs = ns.map V.int := by
  induction ns generalizing vs with
  | nil => cases h; rfl
  | cons s ss ih =>
    cases h with
    | cons a b => rw [a.int_inv, ih b]; rfl
theorem dt_tup {p : Addr} {xs : List V} {ds : List PyData} (h : H p = some (.tup xs)) (g : Dts K H xs ds) : Dt K H (.ref p) (.tuple ds) := .tup (SqT.of h) g
end
/-- data that == may be asked of: texts in the line, not deep -/
def Fine (n : Nat) (d : PyData) : Prop := d.canLay0 = true ∧ d.depth ≤ n
theorem fine_int {n : Nat} (i : Int) : Fine n (.int i) := ⟨by simp [PyData.canLay0], by simp [PyData.depth]⟩
theorem fine_tup {n : Nat} {ds : List PyData} (h : ∀ d ∈ ds, Fine n d) : Fine (n + 1) (.tuple ds) := by
  have q : PyData.canLayAll0 ds = true ∧ PyData.depthAll ds ≤ n := by
    induction ds with
    | nil => simp [PyData.canLayAll0, PyData.depthAll]
    | cons d ds ih =>
      have h1 := h d (by simp)
      have h2 := ih fun y m => h y (List.mem_cons_of_mem _ m)
      simp only [PyData.canLayAll0, PyData.depthAll, h1.1, h2.1, Bool.and_self, true_and]
      have := h1.2
      have := h2.2
      omega
  exact ⟨by simp only [PyData.canLay0]; exact q.1, by simp only [PyData.depth]; have := q.2; omega⟩
theorem fine_str {n : Nat} {x : Str} (h : x.cps.all (· < 0x110000) = true) : Fine n (.str x) := ⟨by simp only [PyData.canLay0]; exact h, by simp [PyData.depth]⟩
theorem fine_num {n : Nat} {ds : List Nat} (h : ∀ d ∈ ds, d ≤ 9) : Fine n (.str (numS ds)) := by
  refine fine_str ?_
  rw [← Array.all_toList, List.all_eq_true]
  intro c m
  obtain ⟨d, md, rfl⟩ := List.mem_map.mp (show c ∈ codes ds from m)
  have := h d md
  exact decide_eq_true (by omega)
theorem Fine.shaped {n : Nat} {d : PyData} (h : Fine n d) (l : n ≤ 64) : SeqAt.shaped d = true := by
  have e : decide (d.depth ≤ 64) = true := decide_eq_true (Nat.le_trans h.2 l)
  show (d.canLay0 && _) = true
  rw [e, Bool.and_true]
  exact h.1
theorem Fine.refl {n : Nat} {d : PyData} (h : Fine n d) : PyData.eqv d d = true := SeqAt.eqv_refl d h.1
theorem Fine.mono {n m : Nat} {d : PyData} (h : Fine n d) (l : n ≤ m) : Fine m d := ⟨h.1, Nat.le_trans h.2 l⟩
end Dv

/-! A list or a tuple, told by a letter; loops over it that may write elsewhere. -/
namespace Kd
open PySem PySem.Spec PyProof.Rows L2
/-- the list or (t) the tuple at a -/
def Is (K : PySem.W.Frag) (t : Bool) (H : Hp) (a : Addr) (xs : List V) : Prop := if t = true then SqT K H a xs else SqL K H a xs
theorem Is.keep {K : PySem.W.Frag} {t : Bool} {H H' : Hp} {a : Addr} {xs : List V} (s : Same H H') (h : Is K t H a xs) : Is K t H' a xs := by
  cases t
  · exact Hf.keepL s h
  · exact Hf.keepT s h
theorem Is.sq {K : PySem.W.Frag} {t : Bool} {H : Hp} {a : Addr} {xs : List V} (h : Is K t H a xs) : SqL K H a xs ∨ SqT K H a xs := by
  cases t
  · exact .inl h
  · exact .inr h
theorem Is.tup {K : PySem.W.Frag} {H : Hp} {a : Addr} {xs : List V} (h : SqT K H a xs) : Is K true H a xs := h
theorem Is.lst {K : PySem.W.Frag} {H : Hp} {a : Addr} {xs : List V} (h : SqL K H a xs) : Is K false H a xs := h
section
variable {X : Cx}
def iSeq (K : PySem.W.Frag) (tl : TE) : TI := fun σ H R => tl σ H fun x H1 => ∃ a xs t, x = .ref a ∧ Is K t H1 a xs ∧
  ∀ J G, Walk J xs.length G (YAt xs) → (∀ H', Is K t H' a xs → G H') → R J H1
theorem pi_seq {tg l : Expr} {tl : TE} (hl : PE X l tl) : PI X tg l (iSeq X.K tl) := by
  refine ⟨fun pins s σ H R I h => ?_⟩
  refine thn (hl.run pins s σ H _ I h) fun v s1 ⟨x, H1, I1, r1, q1⟩ => ?_
  obtain ⟨a, xs, t, e, hq, q⟩ := q1
  subst e
  cases r1
  cases t with
  | false =>
    have hq : SqL X.K H1 a xs := hq
    have q := q _ _ walk_list fun H' s => s
    obtain ⟨its, rv, p, hz⟩ := I1.list hq
    refine wpAny_pyIter_list p.isList ?_
    refine ⟨s1.heap.objs.size, [s1.heap.objs.size], _, _, H1, rfl, I1.kept (t' := s1.toks) fun b o e => Heap.get?_push_of_some _ e, turn_list a _, ⟨_, Heap.get?_push_size _ rfl, rfl, rfl⟩, fun b hb => ?_, q⟩
    have e : b = s1.heap.objs.size := by simpa using hb
    subst e
    exact I1.fpOk (Nat.le_refl _) (I1.hok.fresh (Nat.le_refl _))
  | true =>
    have hq : SqT X.K H1 a xs := hq
    have q := q _ _ walk_tup fun H' s => s
    obtain ⟨its, rv, p, hz⟩ := I1.tuple hq
    refine wpAny_pyIter_tuple (show s1.heap.IsTuple a its.toArray from p) ?_
    refine ⟨s1.heap.objs.size, [s1.heap.objs.size], _, _, H1, rfl, I1.kept (t' := s1.toks) fun b o e => Heap.get?_push_of_some _ e, turn_tuple a _, ⟨_, Heap.get?_push_size _ rfl, rfl, rfl⟩, fun b hb => ?_, q⟩
    have e : b = s1.heap.objs.size := by simpa using hb
    subst e
    exact I1.fpOk (Nat.le_refl _) (I1.hok.fresh (Nat.le_refl _))
end
end Kd

/-! Comprehensions whose items are told one by one. -/
namespace Lm
open PySem L2 Wm Dv
theorem list_is {α : Type} {ys zs : List α} (l : ys.length = zs.length) (h : ∀ (i : Nat) y, ys[i]? = some y → zs[i]? = some y) : ys = zs := by
  refine List.ext_getElem? fun i => ?_
  by_cases q : i < ys.length
  · rw [h i _ (List.getElem?_eq_getElem q), List.getElem?_eq_getElem q]
  · rw [List.getElem?_eq_none (by omega), List.getElem?_eq_none (by omega)]
theorem lc_map {K : PySem.W.Frag} {J : It} {n : Nat} {G : Hp → Prop} {xs : List V} (w : Walk J n G (YAt xs)) {g : TG} {te : TE} {vs : List Nat} {σ : L2.St} {H1 : Hp} {D : Addr} {Qd : Hp → Prop} (R : Nat → V → Hp → Prop)
    (mono : ∀ i y H H', R i y H → Kt K H H' → R i y H') (hD : H1 D = none) (hn : n ≤ 1000) (hG : ∀ H', Same H1 H' → G H')
    (hs : ∀ i x H', i < n → xs[i]? = some x → Same H1 H' → ∀ (Q : V → Hp → Prop) (Z : Hp → Prop), (∀ y H4, Same H' H4 → R i y H4 → Q y H4) → g x (wipe σ vs) H' fun σ2 H2 => wipe σ2 vs = wipe σ vs ∧ tYes σ2 H2 fun b H3 => if b = true then te σ2 H3 Q else Z H3)
    (hd : ∀ H ys, Same H1 H → H D = some (.lst ys) → ys.length = n → (∀ (i : Nat) y, ys[i]? = some y → R i y H) → Qd H) :
    ∃ W : Nat → Nat → Hp → Prop, (∃ m, W 0 m (upd H1 D (.lst []))) ∧ ∀ i m H, W i m H →
      (J.stop i H ∧ Qd H) ∨ (J.go i H ∧ ∃ Nx : Hp → Prop, (∀ H', Nx H' → ∃ m', m' < m ∧ W (i + 1) m' H') ∧ ∀ x H', J.yld i H x H' → g x (wipe σ vs) H' fun σ2 H2 => wipe σ2 vs = wipe σ vs ∧ tYes σ2 H2 fun b H3 =>
        if b = true then te σ2 H3 fun y H4 => ∃ acc, H4 D = some (.lst acc) ∧ acc.length < sizeLine ∧ Nx (upd H4 D (.lst (acc ++ [y]))) else Nx H3) := by
  refine lc_it (tt := tYes) w (fun i H => Same H1 H ∧ ∃ ys : List V, ys.length = i ∧ H D = some (.lst ys) ∧ ∀ j y, ys[j]? = some y → R j y H) ⟨same_new hD, [], rfl, upd_same, fun (j : Nat) (y : V) e => by simp at e⟩ (fun i H _ h => hG H h.1) (fun i x H H' hi hP hY => ?_) (fun H hP => ?_)
  · obtain ⟨sm, ys, el, hy, hR⟩ := hP
    obtain ⟨rfl, hx⟩ := hY
    refine hs i x H' hi hx sm _ _ (fun y H4 s4 r4 => ?_)
    · refine ⟨ys, s4 _ _ hy, by rw [el]; exact small1000 (by omega), same_mut (sm.trans s4) hD, ys ++ [y], by rw [List.length_append, el]; rfl, upd_same, fun j z hz => ?_⟩
      have k5 : Kt K H4 (upd H4 D (.lst (ys ++ [y]))) := Kt.lst (s4 _ _ hy)
      by_cases lj : j < ys.length
      · rw [List.getElem?_append_left lj] at hz
        exact mono _ _ _ _ (hR j z hz) ((Kt.same s4).trans k5)
      · rw [List.getElem?_append_right (by omega)] at hz
        have e0 : j - ys.length = 0 := by
          by_cases q : j - ys.length = 0
          · exact q
          · rw [List.getElem?_eq_none (by rw [List.length_singleton]; omega)] at hz
            cases hz
        rw [e0] at hz
        have ez : y = z := by simpa using hz
        have ej : j = i := by omega
        subst ez ej
        exact mono _ _ _ _ r4 k5
  · obtain ⟨sm, ys, el, hy, hR⟩ := hP
    exact hd H ys sm hy el hR
end Lm
namespace Kx
open PySem L2
def rLen (K : PySem.W.Frag) : List V → Hp → VK → Prop := fun xs H Q => ∃ p ys, xs = [.ref p] ∧ (SqL K H p ys ∨ SqT K H p ys) ∧ Q (.int (ys.length : Nat)) H
def rTup (K : PySem.W.Frag) : List V → Hp → VK → Prop := fun xs H Q => ∃ a ys, xs = [.ref a] ∧ SqT K H a ys ∧ Q (.ref a) H
def rTupOf (K : PySem.W.Frag) : List V → Hp → VK → Prop := fun xs H Q => ∃ p ys, xs = [.ref p] ∧ ((SqL K H p ys ∧ ∀ l, H l = none → Q (.ref l) (upd H l (.tup ys))) ∨ (SqT K H p ys ∧ Q (.ref p) H))
end Kx

/-! Comprehensions whose items draw from the bag, told one by one. -/
namespace Lm
open PySem L2 Wm Dv
theorem kt_but {K : PySem.W.Frag} {H H' : Hp} {b : Addr} {n : Nat} (bag : Bag H b n) (e : But b H H') : Kt K H H' := fun a xs q => by
  obtain ⟨c, x, k, m, z, ns, hb, _⟩ := bag
  have ne : ∀ {u : HO}, H a = some u → (∀ y, u ≠ .lst y) → H' a = some u := fun {u} h n => e.keep _ _ (fun z => by subst z; rw [hb] at h; exact n _ (Option.some.inj h).symm) h
  rcases q with (q | ⟨ob, q⟩) | q
  · exact .inl (.inl (ne q fun y z => by cases z))
  · exact .inl (.inr ⟨ob, ne q fun y z => by cases z⟩)
  · exact .inr q
theorem bag_off {H : Hp} {b p : Addr} {n : Nat} (bag : Bag H b n) (h : H p = none) : p ≠ b := fun e => by
  obtain ⟨_, _, _, _, _, _, hb, _⟩ := bag
  rw [e, hb] at h
  cases h
theorem lc_bag {K : PySem.W.Frag} {J : It} {n : Nat} {G : Hp → Prop} {xs : List V} (w : Walk J n G (YAt xs)) {g : TG} {te : TE} {vs : List Nat} {σ : L2.St} {H1 : Hp} {D : Addr} {Qd : Hp → Prop} {b : Addr} {m c : Nat} (R : Nat → V → Hp → Prop)
    (mono : ∀ i y H H', R i y H → Kt K H H' → R i y H') (hD : H1 D = none) (bag : Bag H1 b m) (hn : n ≤ 1000) (hG : ∀ H', But b H1 H' → G H')
    (hs : ∀ i x H', i < n → xs[i]? = some x → But b H1 H' → Bag H' b (m + c * i) → ∀ (Q : V → Hp → Prop) (Z : Hp → Prop), (∀ y H4, But b H' H4 → Bag H4 b (m + c * (i + 1)) → R i y H4 → Q y H4) → g x (wipe σ vs) H' fun σ2 H2 => wipe σ2 vs = wipe σ vs ∧ tYes σ2 H2 fun b H3 => if b = true then te σ2 H3 Q else Z H3)
    (hd : ∀ H ys, But b H1 H → Bag H b (m + c * n) → H D = some (.lst ys) → ys.length = n → (∀ (i : Nat) y, ys[i]? = some y → R i y H) → Qd H) :
    ∃ W : Nat → Nat → Hp → Prop, (∃ m, W 0 m (upd H1 D (.lst []))) ∧ ∀ i m H, W i m H →
      (J.stop i H ∧ Qd H) ∨ (J.go i H ∧ ∃ Nx : Hp → Prop, (∀ H', Nx H' → ∃ m', m' < m ∧ W (i + 1) m' H') ∧ ∀ x H', J.yld i H x H' → g x (wipe σ vs) H' fun σ2 H2 => wipe σ2 vs = wipe σ vs ∧ tYes σ2 H2 fun b H3 =>
        if b = true then te σ2 H3 fun y H4 => ∃ acc, H4 D = some (.lst acc) ∧ acc.length < sizeLine ∧ Nx (upd H4 D (.lst (acc ++ [y]))) else Nx H3) := by
  have db := bag_off bag hD
  refine lc_it (tt := tYes) w (fun i H => But b H1 H ∧ Bag H b (m + c * i) ∧ ∃ ys : List V, ys.length = i ∧ H D = some (.lst ys) ∧ ∀ j y, ys[j]? = some y → R j y H)
    ⟨But.of (same_new hD), (bag.keep (same_new hD)).mono (by omega), [], rfl, upd_same, fun (j : Nat) (y : V) e => by simp at e⟩ (fun i H _ h => hG H h.1) (fun i x H H' hi hP hY => ?_) (fun H hP => ?_)
  · obtain ⟨bt, bg, ys, el, hy, hR⟩ := hP
    obtain ⟨rfl, hx⟩ := hY
    refine hs i x H' hi hx bt bg _ _ (fun y H4 b4 g4 r4 => ?_)
    have hy4 := b4.keep _ _ db hy
    have k5 : Kt K H4 (upd H4 D (.lst (ys ++ [y]))) := Kt.lst hy4
    refine ⟨ys, hy4, by rw [el]; exact small1000 (by omega), (bt.trans b4).put hD, Bag.put bag hD (bt.trans b4) g4, ys ++ [y], by rw [List.length_append, el]; rfl, upd_same, fun j z hz => ?_⟩
    by_cases lj : j < ys.length
    · rw [List.getElem?_append_left lj] at hz
      exact mono _ _ _ _ (hR j z hz) ((kt_but bg b4).trans k5)
    · rw [List.getElem?_append_right (by omega)] at hz
      have e0 : j - ys.length = 0 := by
        by_cases q : j - ys.length = 0
        · exact q
        · rw [List.getElem?_eq_none (by rw [List.length_singleton]; omega)] at hz
          cases hz
      rw [e0] at hz
      have ez : y = z := by simpa using hz
      have ej : j = i := by omega
      subst ez ej
      exact mono _ _ _ _ r4 k5
  · obtain ⟨bt, bg, ys, el, hy, hR⟩ := hP
    exact hd H ys bt bg hy el hR
end Lm

/-! len(set(xs)) of a list of texts: how many different ones. -/
namespace Sl
open PySem PySem.Spec PyProof.Rows
section
variable {prog : Program} {w : World} {A : Around} {E : Value → Shared → Prop} {s : Shared}
/-- c different ones among the first i: c = i just if they differ -/
def Cnt (xs : List Str) (i c : Nat) : Prop := c ≤ i ∧ (c = i ↔ (xs.take i).Nodup)
theorem cnt_zero (xs : List Str) : Cnt xs 0 0 := ⟨Nat.le_refl _, by simp⟩
theorem cnt_succ {xs : List Str} {i c : Nat} {x : Str} (h : Cnt xs i c) (hx : xs[i]? = some x) : Cnt xs (i + 1) (if decide (x ∈ xs.take i) = true then c else c + 1) := by
  obtain ⟨h1, h2⟩ := h
  have e : xs.take (i + 1) = xs.take i ++ [x] := by rw [List.take_add_one, hx]; rfl
  by_cases m : x ∈ xs.take i
  · rw [decide_eq_true m, if_pos rfl]
    refine ⟨by omega, ⟨fun z => absurd z (by omega), fun z => ?_⟩⟩
    rw [e, List.nodup_append] at z
    exact absurd rfl (z.2.2 x m x (by simp))
  · rw [decide_eq_false m, if_neg (by decide)]
    refine ⟨by omega, ?_⟩
    rw [e, List.nodup_append]
    constructor
    · intro z
      refine ⟨h2.mp (by omega), by simp, fun a ha b hb q => m ?_⟩
      rw [List.mem_singleton] at hb
      rw [← hb, ← q]
      exact ha
    · intro z
      have := h2.mpr z.1
      omega
abbrev so (led : Bool) : Obj := { cls := .type "set", dict := none, data := .set #[] 0 (.fresh 0 0 led) }
theorem at_keep {h h' : Heap} {S : Addr} {f : Str → Bool} {n : Nat} (R : h.SetOf (PySem.strKind prog w) S f n) (k : ∀ o, h.get? S = some o → h'.get? S = some o) : h'.SetOf (PySem.strKind prog w) S f n := by
  obtain ⟨o, es, ep, t, ho, r⟩ := R
  exact ⟨o, es, ep, t, k _ ho, r⟩
theorem fill {R : Result → Shared → Prop} {I : Addr} {fp wr : List Addr} {G : Array GenState → Array GenState → Prop} {n : Nat} {P : Nat → Value → Prop} {St : Nat → Shared → Prop}
    (W : WalksS prog w A.in1 I fp wr G n P St) (S : Addr) (hSf : S ∉ fp) (xs : List Str) (hsz : xs.length = n) (hb : n + 1 < scanBound) (hval : ∀ i v, P i v → ∃ x t, xs[i]? = some x ∧ v = .str x t) :
    ∀ (k i : Nat) (s : Shared), n - i = k → i ≤ n → St i s → (∃ c, Cnt xs i c ∧ s.heap.SetOf (PySem.strKind prog w) S (fun y => decide (y ∈ xs.take i)) c) →
      (∀ s' c, Moved (S :: wr) G s s' → Cnt xs n c → s'.heap.SetOf (PySem.strKind prog w) S (fun y => decide (y ∈ xs.take n)) c → R (.ok (.ret .none)) s') →
      codeAny (model prog w) A (.builtin "set.update.loop" ⟨[.ref S, .ref I], []⟩) R s := by
  have nw : S ∉ wr := fun h => hSf (W.sub _ h)
  have more : ∀ b ∈ wr, b ∈ S :: wr := fun b hb => List.mem_cons_of_mem _ hb
  intro k
  induction k with
  | zero =>
    intro i s hk hi st ⟨c, hc, hS⟩ hR
    have e : i = n := by omega
    subst e
    refine codeAny_builtin PyProof.Rows.F.entry_set_update_loop ?_
    rw [Around.under_plainId PyProof.Rows.F.plain_set_update_loop _]
    show wpAny _ A.in1 (pyNext (.ref I) >>= _) _ _ s
    refine wpAny_bind (W.done s _ _ st fun s' hm => ?_)
    show wpAny _ A.in1 (ret Value.none) _ _ s'
    exact wpAny_pure (hR s' c (hm.mono more) hc (at_keep hS fun o e => hm.heap S o nw e))
  | succ k ih =>
    intro i s hk hi st ⟨c, hc, hS⟩ hR
    have lt : i < n := by omega
    refine codeAny_builtin PyProof.Rows.F.entry_set_update_loop ?_
    rw [Around.under_plainId PyProof.Rows.F.plain_set_update_loop _]
    show wpAny _ A.in1 (pyNext (.ref I) >>= _) _ _ s
    refine wpAny_bind (W.item i s _ _ lt st fun v s' hP st' hm => ?_)
    obtain ⟨x, t, hx, rfl⟩ := hval i v hP
    have hS1 := at_keep (h' := s'.heap) hS fun o e => hm.heap S o nw e
    show wpAny _ A.in1 (holding [Value.str x t] (setAdd S (.str x t)) >>= _) _ _ s'
    refine wpAny_bind (wpAny_holding ?_)
    unfold setAdd
    refine wpAny_holding ?_
    refine wpAny_bind ((PySem.strKind prog w).pyHash (k := x) (strKind_is _ _ _ _) ?_)
    refine wpAny_setAddHashed_of (knd := PySem.strKind prog w) (s := { s' with toks := s'.toks + 1 }) (strKind_is _ _ _ _) rfl hS1 (by have := hc.1; omega) fun g same hS2 => ?_
    have hS3 := SetOf_congr (S' := fun y => decide (y ∈ xs.take (i + 1))) hS2 (fun y => by
      rw [List.take_add_one, hx]
      simp [List.mem_append]) rfl
    refine wpAny_pure ⟨plainId_quiet PyProof.Rows.F.plain_set_update_loop _, ih (i + 1) _ (by omega) lt (W.frame _ s' _ _ st' (Nat.le_succ _) fun b hb o e => ?_) ⟨_, cnt_succ hc hx, hS3⟩ fun s2 c2 m2 hc2 hS4 => ?_⟩
    · rw [same.2 b (fun h : b = S => hSf (by rw [← h]; exact hb))]
      exact e
    · refine hR s2 c2 (Moved.trans W.gtrans ((hm.mono more).then_heap (Nat.le_succ _) fun b o hb e => ?_) m2) hc2 hS4
      rw [same.2 b (fun h : b = S => hb (by rw [h]; exact List.mem_cons_self))]
      exact e
set_option maxHeartbeats 3200000 in
theorem set_strs {l : Addr} {its : Array Value} {xs : List Str} {Q : Value → Shared → Prop} (hh : A.handled = none) (hl : s.heap.IsList l its) (hi : PyProof.Rows.StrsAre its.toList xs) (hb : xs.length + 1 < scanBound)
    (q : ∀ (g : Heap) (tk c : Nat), Cnt xs xs.length c → g.SetOf (PySem.strKind prog w) s.heap.objs.size (fun y => decide (y ∈ xs.take xs.length)) c → (∀ b o, b < s.heap.objs.size → s.heap.get? b = some o → g.get? b = some o) → Q (.ref s.heap.objs.size) { s with heap := g, toks := tk }) :
    wpAny (model prog w) A (call (.type "set") [.ref l]) Q E s := by
  obtain ⟨c0, tl0, m0⟩ := PySem.F.called_set.mro
  have a1 := PySem.F.called_set.made
  have a2 := PySem.F.called_set.sub
  refine wpAny_call (codeAny_of_tree ?_)
  show wpAny _ _ (callAny (.type "set") _) _ _ _
  refine wpAny_pure ⟨Code.quiet_builtin _ (by decide +kernel), codeAny_builtin PySem.F.entry_type_call ?_⟩
  rw [Around.under_plain (weight_type_call_type "set" [.ref l] []) rfl]
  have a3 := PySem.F.called_set.notType
  have a4 := PySem.F.called_set.canCreate
  have a5 := PySem.F.typeCall_set_1 (.ref l)
  repeat (any_goals (first | assumption | wp_step))
  refine codeAny_mono (code_set_new_1 (.ref l) (E := E) (Q₁ := fun ob s₁ => ∃ led : Bool, ob = .ref s.heap.objs.size ∧ s₁ = { s with heap := s.heap.push { cls := .type "set", dict := none, data := .set #[] 0 (.fresh 0 0 led) } }) fun led => ⟨led, rfl, rfl⟩) fun r s₁ hr => ?_
  cases r with
  | error e => exact hr
  | ok fl =>
    cases fl with
    | ret ob =>
      obtain ⟨led, rfl, rfl⟩ := hr
      generalize hso : ({ cls := .type "set", dict := none, data := .set #[] 0 (.fresh 0 0 led) } : Obj) = so
      have hfr : so.isFreed = false := by rw [← hso]; rfl
      have b1 : (s.heap.push so).get? s.heap.objs.size = some so := Heap.get?_push_size _ hfr
      have b2 : Shared.TypeIs { s with heap := s.heap.push so } (.ref s.heap.objs.size) "set" := ⟨_, b1, by rw [← hso]⟩
      have b3 := PySem.F.called_set.init.lookup
      have b4 := PySem.F.called_set.init.bind (.ref s.heap.objs.size)
      repeat (any_goals (first | assumption | wp_step))
      refine codeAny_mono (codeAny_call_builtin (R := wants (fun r s₂ => r = .none ∧ ∃ g tk c, s₂ = { s with heap := g, toks := tk } ∧ Cnt xs xs.length c ∧ g.SetOf (PySem.strKind prog w) s.heap.objs.size (fun y => decide (y ∈ xs.take xs.length)) c ∧
          (∀ b o, b < s.heap.objs.size → s.heap.get? b = some o → g.get? b = some o)) E) PySem.F.called_set.init.plain PySem.F.entry_set_init (check_set_init_1 b2 ?_)) fun r₂ s₂ hr₂ => ?_
      · obtain ⟨ol, hol, hcl, nl, hdl⟩ := hl
        obtain ⟨ocls, odict, odata, oslots⟩ := ol
        simp only at hcl hdl
        subst hcl hdl
        have hol' : (s.heap.push so).get? l = some { cls := .type "list", dict := odict, data := .seq its nl, slots := oslots } := Heap.get?_push_of_some _ hol
        have c1 := PySem.F.sub_list_set
        have c2 := PySem.F.sub_list_frozenset
        have c3 : (Value.type "list" == Value.type "dict") = false := by decide
        have hl1 : (s.heap.push so).IsList l its := ⟨_, hol', rfl, nl, rfl⟩
        unfold Builtin.«set.__init__» noKeywords Builtin.Frozenset.updateFrom
        generalize hPI : pyIter = PI
        have ll : l < s.heap.objs.size := Heap.lt_size hol
        have nI : ∀ ob : Obj, l ≠ (s.heap.push ob).objs.size := fun ob => by
          rw [Heap.size_push]
          exact Nat.ne_of_lt (Nat.lt_succ_of_lt ll)
        have nS : ∀ ob : Obj, s.heap.objs.size ∉ [(s.heap.push ob).objs.size, l] := fun ob => by
          rw [Heap.size_push]
          simp only [List.mem_cons, List.mem_singleton, List.not_mem_nil, or_false, not_or]
          exact ⟨Nat.ne_of_lt (Nat.lt_succ_self _), Nat.ne_of_gt ll⟩
        have nB : ∀ (ob : Obj) (b : Addr), b < s.heap.objs.size → b ≠ (s.heap.push ob).objs.size := fun ob b lb => by
          rw [Heap.size_push]
          exact Nat.ne_of_lt (Nat.lt_succ_of_lt lb)
        subst hso
        wp_walk
        subst hPI
        refine wpAny_pyIter_list hl1 ?_
        refine wpAny_bind (wpAny_runValue ?_)
        have hh3 : A.in1.in1.in1.handled = none := by simp [hh]
        have sz : xs.length = its.size := by rw [← StrsAre.len_eq hi, Array.length_toList]
        have hval : ∀ (i : Nat) (v : Value), its[i]? = some v → ∃ x t, xs[i]? = some x ∧ v = .str x t := fun i v hv => by
          have li : i < xs.length := by
            rw [sz]
            exact (Array.getElem?_eq_some_iff.mp hv).1
          obtain ⟨t, e⟩ := SS.strs_at hi i v (by rw [Array.getElem?_toList]; exact hv)
          refine ⟨xs[i], t, List.getElem?_eq_getElem li, ?_⟩
          rw [e, List.getD_eq_getElem?_getD, List.getElem?_eq_getElem li]
          rfl
        refine fill ((Walks.list hh3 _ l (nI (so led)) its).toS) s.heap.objs.size (nS (so led)) xs sz (by rw [← sz]; exact hb) hval (its.size - 0) 0 _ (by omega) (Nat.zero_le _)
          ⟨⟨_, Heap.get?_push_size _ rfl, rfl, rfl⟩, (hl1.push _)⟩ ?hS0 ?hR
        case hS0 =>
          exact ⟨0, cnt_zero xs, PyProof.Rows.SetOf_congr ((PyProof.Rows.setObjOf_fresh (knd := PySem.strKind prog w) led).setOf (Heap.get?_push_of_some _ b1) (by unfold scanBound; omega)) (fun _ => by simp) rfl⟩
        case hR =>
          intro s' c' hm hc' hS'
          obtain ⟨g, g', d', tk', os'⟩ := s'
          have eg : g' = s.gens := hm.gens
          have ed : d' = s.drawn := hm.drawn
          have eo : os' = s.os := hm.os
          subst eg ed eo
          show wpAny _ _ _ _ _ _
          refine wpAny_pure ?_
          show wpAny _ _ (ret Value.none) _ _ _
          rw [← sz] at hc' hS'
          refine wpAny_pure ⟨rfl, g, tk', c', rfl, hc', hS', fun b o lb e => ?_⟩
          have n1 : b ≠ s.heap.objs.size := Nat.ne_of_lt lb
          have n2 := nB (so led) b lb
          exact hm.heap b o (by simp only [List.mem_cons, List.mem_singleton, List.not_mem_nil, or_false, not_or]; exact ⟨n1, n2⟩) (Heap.get?_push_of_some _ (Heap.get?_push_of_some _ e))
      · cases r₂ with
        | error e => exact hr₂
        | ok fl₂ =>
          cases fl₂ with
          | ret r =>
            obtain ⟨rfl, g, tk, c', rfl, hc', hS', hk'⟩ := hr₂
            repeat (any_goals (first | assumption | wp_step))
            exact q _ _ _ hc' hS' hk'
          | _ => exact hr₂.elim
    | _ => exact hr.elim
end
end Sl
namespace Sl
open PySem PySem.Spec PyProof.Rows L2
section
variable {X : Cx}
def tLen (K : PySem.W.Frag) (ta : TE) : TE := fun σ H Q => ta σ H fun x H1 => ∃ l, ∃ xs : List Str, x = .ref l ∧ SqL K H1 l (xs.map V.str) ∧ xs.length ≤ 4000 ∧ ∀ c, Cnt xs xs.length c → Q (.int (c : Nat)) H1
theorem pe_len {a : Expr} {ta : TE} {p p2 q pos : Pos} (hc : X.calm = true) (hg : Gl X "len") (hm : X.mg "len" = none) (hg2 : Gl X "set") (hm2 : X.mg "set" = none) (ha : PE X a ta)
    (na : starEach [a] X.env = (false, eval a X.env) :: starEach [] X.env := by rfl) : PE X (.Call (.Name "len" p) [.Call (.Name "set" p2) [a] [] q] [] pos) (tLen X.K ta) := by
  refine ⟨fun pins s σ H Q I h => ?_⟩
  refine Call_ (ld_blt I hg hm boot_len ?_)
  refine PyProof.Rows.callWith_builtin1 (PyProof.Rows.args_cons ?_ rfl) rfl rfl
  refine Call_ (ld_blt I hg2 hm2 boot_set ?_)
  refine PyProof.Rows.callWith_type1 (PyProof.Rows.args_cons (thn (ha.run pins s σ H _ I h) fun v s1 ⟨x, H1, I1, r1, q1⟩ => PyProof.Rows.args_nil ?_) na) na rfl
  obtain ⟨l, xs, ev, hq, hl, k⟩ := q1
  subst ev
  cases r1
  obtain ⟨its, r, pl, hz⟩ := I1.list hq
  refine set_strs (I1.ok.hd hc) pl.isList (by simpa using strsAre_of r) (by unfold scanBound; omega) fun g tk c hcn hS hk => ?_
  refine PyProof.Rows.args_nil ?_
  obtain ⟨o, es, ep, t, ho, hex, hd, _, _, _, hf, hn⟩ := hS
  have I2 : Inv X pins σ H1 { s1 with heap := g, toks := tk } := I1.kept fun b o e => hk b o (Heap.lt_size e) e
  have := hcn.1
  refine call_len_set ho hex hd hf (by rw [hn] <;> omega) ⟨.int (c : Nat), H1, I2.tok _, ⟨_, by rw [hn]⟩, k c hcn⟩
end
/-- xs[i], for xs[i] op= e -/
theorem get_list {X : Cx} : PGet X (rIxL X.K) := by
  intro pins s σ H o i ov iv Q I ro ri h
  obtain ⟨p, xs, k, z, rfl, rfl, hq, he, q⟩ := h
  cases ro
  obtain ⟨t, rfl⟩ := ri
  obtain ⟨its, r, pl, hz⟩ := I.list hq
  obtain ⟨j, h1, h2, h3, h4, h5⟩ := atI_get he
  obtain ⟨u, eu, ru⟩ := r.get h2
  have hl := r.length
  have hn := line63
  have fin : EP X pins σ Q u s := ⟨z, H, I, ru, q⟩
  by_cases h0 : 0 ≤ k
  · have hj : k.toNat = j := by
      rw [seqIndex_of h0 h5] at h1
      exact Option.some.inj h1
    exact wpAny_getItem_list pl.isList h0 (by omega) (by rw [hj]; simpa using eu) fin
  · have hj : (k + (its.toArray.size : Int)).toNat = j := by
      rw [seqIndex_neg (by omega) h4] at h1
      rw [List.size_toArray, ← hl]
      exact Option.some.inj h1
    exact wpAny_getItem_list_neg pl.isList (by omega) (by rw [List.size_toArray] <;> omega) (by omega) (by rw [hj]; simpa using eu) fin
end Sl

/-! xs.extend(t), t a tuple; comprehensions of two clauses by walks. -/
namespace Et
open PySem PySem.Spec PyProof.Rows L2
theorem ext_meets (l : Addr) (us : Array Value) (n : Nat) (b : Addr) (vs : Array Value) (m : Nat) (dd : Option Addr) (sl : Array (Option Value)) (h0 : ¬(!us.isEmpty && Builtin.List.listTooLong (us.size + vs.size)) = true) (h1 : us.size ≤ sizeLine) (h2 : us.size + vs.size ≤ sizeLine + 1) :
    Meets (Builtin.«list.extend» ⟨[.ref l, .ref b], []⟩) (fun _ R s => s.heap.get? l = some { cls := .type "list", dict := none, data := .seq us n, slots := #[] } ∧ s.heap.get? b = some { cls := .type "tuple", dict := dd, data := .seq vs m, slots := sl } ∧ R (.ok (.ret Value.none)) { s with heap := s.heap.update l (Obj.mapSeq fun x => x ++ vs), toks := s.toks }) :=
  .of_wp fun prog w A R s h => by
    obtain ⟨hp, g, d, tk, os⟩ := s
    obtain ⟨hl, hb, h⟩ := h
    have f1 := AutoSeq1.idx_int
    have f2 := AutoSeq1.sub_tuple_tuple
    have f3 := AutoSeq1.sub_list_list
    have f4 := AutoSeq1.sub_tuple_list
    have f5 := AutoSeq1.sub_list_tuple
    have hz' : (us ++ vs).size ≤ sizeLine + 1 := by
      rw [Array.size_append]
      exact h2
    wp_walk using (wpAny_updateSeq hl rfl (hz := h1) (_hz' := hz')), AutoSeq1.wpAny_loadPart' hl, AutoSeq1.wpAny_loadPart' hb
    exact ⟨_, rfl, h⟩
section
variable {X : Cx}
def rExtT (K : PySem.W.Frag) : V → List V → Hp → VK → Prop := fun x vs H Q => ∃ l b xs zs, x = .ref l ∧ vs = [.ref b] ∧ H l = some (.lst xs) ∧ SqT K H b zs ∧ xs.length + zs.length ≤ sizeLine ∧ Q .non (upd H l (.lst (xs ++ zs)))
theorem mt_extT : MtM X "list.extend" (rExtT X.K) := by
  intro pins s σ H x vs v us Q I rx rv h
  obtain ⟨l, b, xs, zs, rfl, rfl, hH, hB, hz, q⟩ := h
  cases rx
  obtain ⟨u, rfl, ru⟩ := rv.one
  cases ru
  obtain ⟨z, its, n, r, hl, e⟩ := I.lstM hH
  obtain ⟨its2, r2, p2, _⟩ := I.tuple hB
  obtain ⟨⟨c2, d2, a2, s2⟩, e2, k1, m, k2⟩ := p2
  simp only at k1 k2
  subst k1 k2
  have hl2 := r2.length
  have hsz : its.toArray.size + its2.toArray.size ≤ sizeLine := by
    rw [List.size_toArray, List.size_toArray]
    omega
  have hlong : ¬ (!its.toArray.isEmpty && Builtin.List.listTooLong (its.toArray.size + its2.toArray.size)) = true := by
    rw [notLongL hsz, Bool.and_false]
    exact Bool.false_ne_true
  refine call_meets F.slot_list_extend ⟨_, e, rfl⟩ F.entry_list_extend (F.args_list_extend_2 _ _) (ext_meets l its.toArray n b its2.toArray m d2 s2 hlong (by rw [List.size_toArray]; omega) (by omega)) ⟨e, e2, ?_⟩
  refine ⟨.non, _, I.lset (its' := its ++ its2) hH e (by simp) (r.append r2) ?_, rfl, q⟩
  rw [List.length_append]
  omega
end
/-- the outer clause of a comprehension of two -/
theorem out_it {J : It} {n : Nat} {G : Hp → Prop} {Y : Nat → Hp → V → Hp → Prop} (w : Walk J n G Y) {g : TG} {tt : TT} {B : (Hp → Prop) → L2.St → Hp → Prop} {vs : List Nat} {σ : L2.St} {H1 : Hp} {D : Addr} {Qd : Hp → Prop} (Pv : Nat → Hp → Prop) (h0 : Pv 0 (upd H1 D (.lst []))) (hG : ∀ i H, i ≤ n → Pv i H → G H)
    (hs : ∀ i x H H', i < n → Pv i H → Y i H x H' → g x (wipe σ vs) H' fun σ2 H2 => wipe σ2 vs = wipe σ vs ∧ tt σ2 H2 fun b H3 => if b = true then B (Pv (i + 1)) σ2 H3 else Pv (i + 1) H3) (hd : ∀ H, Pv n H → Qd H) :
    ∃ W : Nat → Nat → Hp → Prop, (∃ m, W 0 m (upd H1 D (.lst []))) ∧ ∀ i m H, W i m H →
      (J.stop i H ∧ Qd H) ∨ (J.go i H ∧ ∃ Nx : Hp → Prop, (∀ H', Nx H' → ∃ m', m' < m ∧ W (i + 1) m' H') ∧ ∀ x H', J.yld i H x H' → g x (wipe σ vs) H' fun σ2 H2 => wipe σ2 vs = wipe σ vs ∧ tt σ2 H2 fun b H3 => if b = true then B Nx σ2 H3 else Nx H3) := by
  refine ⟨fun i m H => m = n - i ∧ i ≤ n ∧ Pv i H, ⟨n, by simp, Nat.zero_le _, h0⟩, ?_⟩
  rintro i m H ⟨rfl, hi, p⟩
  have q := hG i H hi p
  by_cases lt : i < n
  · exact .inr ⟨w.goes i H lt q, Pv (i + 1), fun H' p' => ⟨n - (i + 1), by omega, rfl, lt, p'⟩, fun x H' y => hs i x H H' lt p (w.yields i H x H' lt q y)⟩
  · have e : i = n := by omega
    subst e
    exact .inl ⟨w.stops H q, hd H p⟩
/-- the inner clause -/
theorem in_it {J : It} {n : Nat} {G : Hp → Prop} {Y : Nat → Hp → V → Hp → Prop} (w : Walk J n G Y) {g : TG} {tt : TT} {te : TE} {vs : List Nat} {σ : L2.St} {H1 : Hp} {D : Addr} {Qd : Hp → Prop} (Pv : Nat → Hp → Prop) (h0 : Pv 0 H1) (hG : ∀ i H, i ≤ n → Pv i H → G H)
    (hs : ∀ i x H H', i < n → Pv i H → Y i H x H' → g x (wipe σ vs) H' fun σ2 H2 => wipe σ2 vs = wipe σ vs ∧ tt σ2 H2 fun b H3 =>
      if b = true then te σ2 H3 fun y H4 => ∃ acc, H4 D = some (.lst acc) ∧ acc.length < sizeLine ∧ Pv (i + 1) (upd H4 D (.lst (acc ++ [y]))) else Pv (i + 1) H3) (hd : ∀ H, Pv n H → Qd H) :
    ∃ W : Nat → Nat → Hp → Prop, (∃ m, W 0 m H1) ∧ ∀ i m H, W i m H →
      (J.stop i H ∧ Qd H) ∨ (J.go i H ∧ ∃ Nx : Hp → Prop, (∀ H', Nx H' → ∃ m', m' < m ∧ W (i + 1) m' H') ∧ ∀ x H', J.yld i H x H' → g x (wipe σ vs) H' fun σ2 H2 => wipe σ2 vs = wipe σ vs ∧ tt σ2 H2 fun b H3 =>
        if b = true then te σ2 H3 fun y H4 => ∃ acc, H4 D = some (.lst acc) ∧ acc.length < sizeLine ∧ Nx (upd H4 D (.lst (acc ++ [y]))) else Nx H3) := by
  refine ⟨fun i m H => m = n - i ∧ i ≤ n ∧ Pv i H, ⟨n, by simp, Nat.zero_le _, h0⟩, ?_⟩
  rintro i m H ⟨rfl, hi, p⟩
  have q := hG i H hi p
  by_cases lt : i < n
  · refine .inr ⟨w.goes i H lt q, Pv (i + 1), fun H' p' => ⟨n - (i + 1), by omega, rfl, lt, p'⟩, fun x H' y => hs i x H H' lt p (w.yields i H x H' lt q y)⟩
  · have e : i = n := by omega
    subst e
    exact .inl ⟨w.stops H q, hd H p⟩
end Et

/-! if and for in a generator def. -/
namespace Gf
open PySem PySem.Spec PyProof.Rows GenW L2
section
variable {prog : Program} {w : World} {A : Around} {R : GenEnd} {Y : Protocol} {n : Nat} {s₀ : Shared} {fs : List Frame} {s : Shared} {env : Env}
theorem seg_forLoop {target : Expr} {it : Value} {body orelse : List Stmt} {EE : Value → Shared → Prop}
    (hEE : ∀ x s', EE x s' → Seg (model prog w) A R Y n s₀ (.forLoop target it body orelse env) ((do noteFrame x env; theTreesLotGoes x : Sem Unit).wrap (fun _ => .raise x) .raise id id) fs s')
    (h : wpAny (model prog w) (A.over (.forLoop target it body orelse env) fs) (pyNext it) (fun r s₁ => match r with
      | none => Seg (model prog w) A R Y n s₀ (.forLoop target it body orelse env) (.pure (.again (.block orelse env))) fs s₁
      | some v => wpAny (model prog w) (A.over (.forLoop target it body orelse env) fs) (letOwnedTupleGo target it v) (fun _ s₂ =>
          wpAny (model prog w) (A.over (.forLoop target it body orelse env) fs) (assign target env v) (fun _ s₃ =>
            Seg (model prog w) A R Y n s₀ (.forLoop target it body orelse env) ((execs body env).wrap (fun f => match f with
              | .next | .cont => .pure (.again (.forLoop target it body orelse env))
              | .brk => .pure (.done .next)
              | .ret v => .pure (.done (.ret v))) (fun e => (do noteFrame e env; theTreesLotGoes e : Sem Unit).wrap (fun _ => .raise e) .raise id id) id id) fs s₃) EE s₂) EE s₁) EE s) :
    Seg (model prog w) A R Y n s₀ (.forLoop target it body orelse env) ((model prog w).den (.forLoop target it body orelse env)) fs s := by
  have ex : ∀ x s', EE x s' → Seg (model prog w) A R Y n s₀ (.forLoop target it body orelse env) (((do noteFrame x env; theTreesLotGoes x : Sem Unit).bind fun _ => (.raise x : Sem PySem.Fin))) fs s' := fun x s' e => by
    rw [Sem.bind_eq_wrap]
    exact hEE x s' e
  show Seg _ A R Y n s₀ _ ((forTurn target it body orelse env).onRaise (fun x => do noteFrame x env; theTreesLotGoes x)) fs s
  unfold forTurn
  rw [Sem.onRaise_eq_wrap, Sem.bind_eq_wrap', Sem.wrap_wrap]
  refine seg_wrap (wpAny_standAt ?_)
  rw [Sem.bind_eq_wrap', Sem.wrap_wrap]
  refine seg_wrap (wpAny_onRaise (wpAny_mono h (fun r s1 h1 => ?_) fun x s' hx => wpAny_standAt (ex x s' hx)))
  cases r with
  | none => exact h1
  | some v =>
    show Seg _ A R Y n s₀ _ (Sem.wrap _ _ _ _ (letOwnedTupleGo target it v >>= fun _ => _)) fs s1
    rw [Sem.bind_eq_wrap' (letOwnedTupleGo target it v), Sem.wrap_wrap]
    refine seg_wrap (wpAny_mono h1 (fun _ s2 h2 => ?_) fun x s' hx => ex x s' hx)
    rw [Sem.bind_eq_wrap' (assign target env v), Sem.wrap_wrap]
    refine seg_wrap (wpAny_mono h2 (fun _ s3 h3 => ?_) fun x s' hx => ex x s' hx)
    rw [Sem.bind_eq_wrap' (execs body env), Sem.wrap_wrap]
    rw [Sem.wrap_congr (execs body env) _ _ (K' := fun f => match f with
          | .next | .cont => .pure (.again (.forLoop target it body orelse env))
          | .brk => .pure (.done .next)
          | .ret v => .pure (.done (.ret v))) (H' := (fun e => (do noteFrame e env; theTreesLotGoes e : Sem Unit).wrap (fun _ => .raise e) .raise id id))
      (fun f => by cases f <;> rfl)
      (fun e => by first | exact Sem.bind_eq_wrap _ _ | (show (do noteFrame e env; theTreesLotGoes e : Sem Unit).bind (fun _ => .raise e) = _; rw [Sem.bind_eq_wrap]))]
    exact h3
end
section
variable {X : Cx} {pos : Pos}
def tGIf (tc : TT) (t u : TGn) : TGn := fun D ys σ H => tc σ H fun b H1 => if b = true then t D ys σ H1 else u D ys σ H1
theorem gs_if {c : Expr} {a b : List Stmt} {tc : TT} {t u : TGn} (hc : PT X c tc) (ha : GSs X a t) (hb : GSs X b u) : GS X (.If c a b pos) (tGIf tc t u) := by
  refine ⟨fun A S ip R n ys s₀ cd fs K J gd lv s σ H D g hn k hI ht => ?_⟩
  obtain ⟨acc, cc, r, I⟩ := hI
  rw [exec_If]
  rw [Sem.bind_eq_wrap', Sem.wrap_wrap]
  refine seg_wrap (wpAny_standAt ?_)
  rw [Sem.bind_eq_wrap', Sem.wrap_wrap]
  refine seg_wrap ?_
  rw [g.over]
  refine wpAny_mono (hc.run _ s σ H _ I ht) (fun d s' hd => ?_) fun x s' hx => k.exc n s₀ x s' hx
  obtain ⟨H2, I2, q⟩ := hd
  cases d with
  | true => exact ha.run A S ip R n ys s₀ cd fs K J gd lv s' σ H2 D g hn k ⟨acc, cc, r, I2⟩ q
  | false => exact hb.run A S ip R n ys s₀ cd fs K J gd lv s' σ H2 D g hn k ⟨acc, cc, r, I2⟩ q
def tGFor (wi : TI) (g : TG) (tb : TGn) : TGn := fun D ys σ H => wi σ H fun J H1 => ∃ W : Nat → Nat → List V → L2.St → Hp → Prop, (∃ m, W 0 m ys σ H1) ∧ ∀ i m ys σ H, W i m ys σ H →
  (J.stop i H ∧ D.nx ys σ H) ∨ (J.go i H ∧ ∃ N : List V → L2.St → Hp → Prop, (∀ ys' σ' H', N ys' σ' H' → ∃ m', m' < m ∧ W (i + 1) m' ys' σ' H') ∧ ∀ x H', J.yld i H x H' → g x σ H' fun σ2 H2 => tb { D with nx := N, ct := N, bk := D.nx } ys σ2 H2)
theorem gs_for {iter tg : Expr} {body : List Stmt} {wi : TI} {g : TG} {tb : TGn} (hp : PassesOwn (model X.prog X.w) X.A X.env X.xe) (hc : X.calm = true) (hi : PI X tg iter wi) (hg : PG X tg g) (hb : GSs X body tb)
    (hs : ∀ x, foldedSetIterable iter X.env x = pure x := by intro _; rfl) : GS X (.For tg iter body [] pos) (tGFor wi g tb) := by
  refine ⟨fun A S ip R n ys s₀ cd fs K J gd lv s σ H D g0 hn k hI ht => ?_⟩
  obtain ⟨acc, cc, r, I⟩ := hI
  rw [exec_For]
  simp only [hs]
  rw [Sem.bind_eq_wrap', Sem.wrap_wrap]
  refine seg_wrap (wpAny_standAt ?_)
  rw [Sem.bind_eq_wrap', Sem.wrap_wrap]
  refine seg_wrap ?_
  rw [g0.over]
  refine wpAny_mono (hi.run _ s σ H _ I ht) (fun v s1 h1 => ?_) fun x s' hx => k.exc n s₀ x s' hx
  show Seg _ _ _ _ _ _ _ (Sem.wrap _ _ _ _ (standAt iter.pos >>= _)) _ _
  rw [Sem.bind_eq_wrap', Sem.wrap_wrap]
  refine seg_wrap (wpAny_standAt ?_)
  rw [Sem.bind_eq_wrap', Sem.wrap_wrap]
  refine seg_wrap ?_
  rw [g0.over]
  refine wpAny_holding (wpAny_mono h1 (fun itv s2 h2 => ?_) fun x s' hx => k.exc n s₀ x s' hx)
  obtain ⟨it, fp, tn, JJ, H2, e, I2, T, st2, f2, W, ⟨m0, w0⟩, turn⟩ := h2
  subst e
  have stat : ∀ {acc' : Array Value} {c' : Nat} {H' : Hp}, (∀ b ∈ fp, H' b = none) → ∀ b ∈ fp, FpOk X ((S, lstObj acc' c') :: ip) H' b := fun hn b hb => by
    obtain ⟨_, a1, a2, a3, a4, a5⟩ := f2 b hb
    refine ⟨hn b hb, a1, a2, a3, a4, fun p hp => ?_⟩
    rcases List.mem_append.mp hp with hp | hp
    · exact a5 p (List.mem_append_left _ hp)
    · rcases List.mem_cons.mp hp with hp | hp
      · rw [hp]
        exact a5 (S, lstObj acc cc) (List.mem_append_right _ List.mem_cons_self)
      · exact a5 p (List.mem_append_right _ (List.mem_cons_of_mem _ hp))
  have fS : ∀ b ∈ fp, b ≠ S := fun b hb z => (f2 b hb).2.2.2.2.2 (S, lstObj acc cc) (List.mem_append_right _ List.mem_cons_self) z.symm
  refine seg_call fun p => ?_
  have gl := fun (kk : Result → Sem PySem.Fin) => gc_loop (k := kk) (c' := .forLoop tg (.ref it) body [] X.env) (l := lv []) (kp := []) (p := p) g0 rfl rfl
  have glb := fun (kk : Result → Sem PySem.Fin) => gc_loop (k := kk) (c' := .block [] X.env) (l := lv []) (kp := []) (p := p) g0 rfl rfl
  have out : ∀ {ys : List V} {σ : L2.St} {H : Hp} {s' : Shared} {hh : Heap}, GI X S (ip ++ pinsAt fp hh) ys σ H s' → GI X S ip ys σ H s' := fun ⟨a, c', r', I'⟩ => ⟨a, c', r', Inv.unpinned (pins := (S, lstObj a c') :: ip) I'⟩
  have loop : ∀ (m i n : Nat) (ys : List V) (s₀ s : Shared) (σ : L2.St) (H : Hp), n + ys.length = sizeLine → W i m ys σ H → GI X S ip ys σ H s → tn i s.heap → (∀ b ∈ fp, H b = none) →
      Seg (model X.prog X.w) A R (GY X S) n s₀ (.forLoop tg (.ref it) body [] X.env) ((model X.prog X.w).den (.forLoop tg (.ref it) body [] X.env))
        (.ret (fun r => ((match r with | .ok f => (.pure f : Sem Flow) | .error e => .raise e).onRaise (cameBack X.env)).wrap K J gd lv) none (gd false) (lv []) cd p [] :: fs) s := by
    intro m
    induction m using Nat.strongRecOn with
    | ind m ih =>
      intro i n ys s₀ s σ H hn w hI st fr
      have ee : ∀ (n : Nat) (s₀ : Shared) (x : Value) (s' : Shared), X.xe x s' → Seg (model X.prog X.w) A R (GY X S) n s₀ (.forLoop tg (.ref it) body [] X.env)
          ((do noteFrame x X.env; theTreesLotGoes x : Sem Unit).wrap (fun _ => .raise x) .raise id id)
          (.ret (fun r => ((match r with | .ok f => (.pure f : Sem Flow) | .error e => .raise e).onRaise (cameBack X.env)).wrap K J gd lv) none (gd false) (lv []) cd p [] :: fs) s' := fun n s₀ x s' hx => by
        refine seg_wrap ?_
        rw [(gl _).over]
        refine wpAny_bind (wpAny_mono (hp x s' hx) (fun _ s'' hcb => wpAny_theTreesLotGoes ?_) fun y s'' hcb => ?_)
        · exact seg_leaf (.error x) (seg_cameBack g0 k hcb)
        · exact seg_leaf (.error y) (seg_cameBack g0 k hcb)
      refine seg_forLoop (EE := X.xe) (fun x s' hx => ee n s₀ x s' hx) ?_
      rw [(gl _).over]
      obtain ⟨acc, cc, r, I⟩ := hI
      rcases turn i m ys σ H w with ⟨stop, qn⟩ | ⟨go, N, hN, step⟩
      · refine wpAny_mono (T.done X rfl rfl rfl hc i _ s σ H X.xe I (stat fr) st stop) (fun rr s4 h4 => ?_) fun x s' hx => hx
        obtain ⟨hr, I4⟩ := h4
        subst hr
        refine seg_again rfl ?_
        exact seg_leaf (.ok .next) (k.ok n ys s₀ s4 .next hn ⟨σ, H, ⟨acc, cc, r, I4⟩, qn⟩)
      · refine wpAny_mono (T.item X rfl rfl rfl hc i _ s σ H X.xe I (stat fr) st go) (fun rr s4 h4 => ?_) fun x s' hx => hx
        obtain ⟨u, hr, h4⟩ := h4
        subst hr
        refine wpAny_mono h4 (fun _ s5 h5 => ?_) fun x s' hx => hx
        obtain ⟨x, H5, I5, r5, y5, st5, fr5⟩ := h5
        have I5' := I5.pinned (stat fr5) (T.obj _ _ st5)
        refine wpAny_mono (hg.run _ s5 σ H5 x u _ I5' r5 (step x H5 y5)) (fun _ s6 h6 => ?_) fun x s' hx => hx
        obtain ⟨σ6, H6, I6, q6⟩ := h6
        have gb : GC X S (ip ++ pinsAt fp s5.heap) A (.forLoop tg (.ref it) body [] X.env) (.ret (fun r => ((match r with | .ok f => (.pure f : Sem Flow) | .error e => .raise e).onRaise (cameBack X.env)).wrap K J gd lv) none (gd false) (lv []) cd p [] :: fs) id := { gl _ with
          ip := fun q hq => by
            rcases List.mem_append.mp hq with hq | hq
            · exact g0.ip q hq
            · exact fS q.1 (of_pinsAt hq).1 }
        refine hb.run A S (ip ++ pinsAt fp s5.heap) R n ys s₀ _ _ _ _ id id s6 σ6 H6 { D with nx := N, ct := N, bk := D.nx } gb hn ⟨fun n' ys' s₀' s7 f hn' hs => ?_, fun n' s₀' x s3 hx => ee n' s₀' x s3 hx⟩ ⟨acc, cc, r, I6⟩ q6
        have again : ∀ {σ7 : L2.St} {H7 : Hp}, GI X S (ip ++ pinsAt fp s5.heap) ys' σ7 H7 s7 → N ys' σ7 H7 → Seg (model X.prog X.w) A R (GY X S) n' s₀' (.forLoop tg (.ref it) body [] X.env) (.pure (.again (.forLoop tg (.ref it) body [] X.env)))
            (.ret (fun r => ((match r with | .ok f => (.pure f : Sem Flow) | .error e => .raise e).onRaise (cameBack X.env)).wrap K J gd lv) none (gd false) (lv []) cd p [] :: fs) s7 := fun {σ7 H7} I7 n7 => by
          obtain ⟨m', hm, w7⟩ := hN ys' σ7 H7 n7
          obtain ⟨a7, c7, r7, J7⟩ := id I7
          refine seg_again rfl (ih m' hm (i + 1) n' ys' s₀' s7 σ7 H7 hn' w7 (out I7) ?_ fun b hb' => ?_)
          · exact T.keep _ _ _ st5 fun b hb' o e => (J7.pin (b, o) (List.mem_append_right _ (List.mem_cons_of_mem _ (List.mem_append_right _ (mem_pinsAt hb' e))))).1
          · obtain ⟨o, e, d⟩ := T.obj _ _ st5 b hb'
            exact (J7.pin (b, o) (List.mem_append_right _ (List.mem_cons_of_mem _ (List.mem_append_right _ (mem_pinsAt hb' e))))).2.1
        cases f with
        | next => obtain ⟨σ7, H7, I7, n7⟩ := hs; exact again I7 n7
        | cont => obtain ⟨σ7, H7, I7, n7⟩ := hs; exact again I7 n7
        | brk => obtain ⟨σ7, H7, I7, q7⟩ := hs; exact seg_leaf (.ok .next) (k.ok n' ys' s₀' s7 .next hn' ⟨σ7, H7, out I7, q7⟩)
        | ret v => obtain ⟨x7, σ7, H7, I7, r7, q7⟩ := hs; exact seg_leaf (.ok (.ret v)) (k.ok n' ys' s₀' s7 (.ret v) hn' ⟨x7, σ7, H7, out I7, r7, q7⟩)
  exact loop m0 0 n ys s₀ s2 σ H2 hn w0 ⟨acc, cc, r, I2⟩ st2 fun b hb' => (f2 b hb').1
end
end Gf
namespace Gf
open PySem PySem.Spec PyProof.Rows L2
/-- over a tuple that stays -/
theorem gfor_tup {K : PySem.W.Frag} {a : Addr} {xs : List V} {g : TG} {tb : TGn} {D : GEnds} {ys : List V} {σ : L2.St} {H : Hp} (Pv : Nat → List V → L2.St → Hp → Prop) (h0 : Pv 0 ys σ H) (hl : ∀ i ys σ H, i ≤ xs.length → Pv i ys σ H → SqT K H a xs)
    (hs : ∀ i x ys σ H, xs[i]? = some x → Pv i ys σ H → g x σ H fun σ2 H2 => tb { D with nx := Pv (i + 1), ct := Pv (i + 1), bk := D.nx } ys σ2 H2) (hd : ∀ ys σ H, Pv xs.length ys σ H → D.nx ys σ H) :
    ∃ W : Nat → Nat → List V → L2.St → Hp → Prop, (∃ m, W 0 m ys σ H) ∧ ∀ i m ys σ H, W i m ys σ H →
      ((Itt K a).stop i H ∧ D.nx ys σ H) ∨ ((Itt K a).go i H ∧ ∃ N : List V → L2.St → Hp → Prop, (∀ ys' σ' H', N ys' σ' H' → ∃ m', m' < m ∧ W (i + 1) m' ys' σ' H') ∧ ∀ x H', (Itt K a).yld i H x H' → g x σ H' fun σ2 H2 => tb { D with nx := N, ct := N, bk := D.nx } ys σ2 H2) := by
  refine ⟨fun i m ys σ H => m = xs.length - i ∧ i ≤ xs.length ∧ Pv i ys σ H, ⟨xs.length, by simp, Nat.zero_le _, h0⟩, ?_⟩
  rintro i m ys σ H ⟨rfl, hi, p⟩
  have q := hl i ys σ H hi p
  by_cases hlt : i < xs.length
  · refine .inr ⟨⟨xs, xs[i], q, by simp [hlt]⟩, Pv (i + 1), fun ys' σ' H' p' => ⟨xs.length - (i + 1), by omega, rfl, hlt, p'⟩, fun x H' y => ?_⟩
    obtain ⟨e, y⟩ := y
    subst e
    exact hs i x ys σ _ (y xs q) p
  · have e : i = xs.length := by omega
    subst e
    exact .inl ⟨⟨xs, q, Nat.le_refl _⟩, hd ys σ H p⟩
end Gf

/-! A generator def's body where its consumer does as it likes between two items: the reading of a yield is the consumer's turn. -/
namespace G3
open PySem PySem.Spec PyProof.Rows GenW L2
/-- what is renewed at each wake: the start, its abstract heap, what is wanted of an exception, pins -/
structure Rn where
  s : Shared
  H : Hp
  xe : Value → Shared → Prop
  pn : List (Addr × Obj)
/-- the context with another start and another way out -/
abbrev on (X : Cx) (ρ : Rn) : Cx := { X with s_0 := ρ.s, H_0 := ρ.H, xe := ρ.xe, pn := ρ.pn }
/-- which renewals the consumer may make, where the generator was woken last at the first state, the consumer's locals being the second -/
abbrev Fm := Shared → L2.St → Rn → Prop
/-- the consumer's turn: how many items are out, the item, the consumer's locals, the heap, what must hold behind the turn -/
abbrev Tn := Nat → V → L2.St → Hp → (L2.St → Hp → Prop) → Prop
/-- the renewed pins are none of the generator's own iterators -/
def Av (ρ : Rn) (ip : List (Addr × Obj)) : Prop := ∀ p ∈ ρ.pn, ∀ q ∈ ip, p.1 ≠ q.1
/-- how many items are out, and the consumer's locals, of which the generator only knows that they are -/
abbrev Kg := Nat × L2.St
def Mono (Y : Tn) : Prop := ∀ k x γ H P P', (∀ γ2 H2, P γ2 H2 → P' γ2 H2) → Y k x γ H P → Y k x γ H P'
def Pr (X : Cx) (F : Fm) (Y : Tn) : Protocol := fun n s₀ v s kap =>
  ∃ ρ ip σ H x k, ∃ γ : L2.St, F s₀ γ ρ ∧ Av ρ ip ∧ n + 1 + k = sizeLine ∧ RelV x v ∧ Inv (on X ρ) ip σ H s ∧ Y k x γ H fun γ2 H2 => ∀ ρ2 t, F t γ2 ρ2 → Av ρ2 ip → Inv (on X ρ2) ip σ H2 t → kap (.send .none) t
structure Ends2 where
  nx : Kg → L2.St → Hp → Prop
  rt : Kg → VK
  bk : Kg → L2.St → Hp → Prop := fun _ _ _ => False
  ct : Kg → L2.St → Hp → Prop := fun _ _ _ => False
def Ends2.to (D : Ends2) (k : Kg) : Ends := { nx := D.nx k, rt := D.rt k, bk := D.bk k, ct := D.ct k }
abbrev T2 := Ends2 → Kg → L2.St → Hp → Prop
structure Pl (X : Cx) (A : Around) (c : Code) (fs : List Frame) (gd : Bool → Bool) : Prop where
  over : A.over c fs = X.A
  split : splitAtGen fs = none
  guard : fs.any Frame.guarded = false
  gd : gd false = false
structure Nx (X : Cx) (F : Fm) (Y : Tn) (ip : List (Addr × Obj)) (A : Around) (R : GenEnd) (c : Code) (fs : List Frame) (K : Flow → Sem PySem.Fin) (J : Value → Sem PySem.Fin) (D : Ends2) : Prop where
  ok : ∀ (n : Nat) (k : Kg) (s₀ t : Shared) (f : Flow) (ρ : Rn), n + k.1 = sizeLine → F s₀ k.2 ρ → Av ρ ip → SP (on X ρ) ip (D.to k) f t → Seg (model X.prog X.w) A R (Pr X F Y) n s₀ c (K f) fs t
  exc : ∀ (n : Nat) (s₀ : Shared) (γ : L2.St) (e : Value) (t : Shared) (ρ : Rn), F s₀ γ ρ → ρ.xe e t → Seg (model X.prog X.w) A R (Pr X F Y) n s₀ c (J e) fs t
structure GT (X : Cx) (F : Fm) (Y : Tn) (m : Sem Flow) (t : T2) : Prop where
  run : ∀ (A : Around) (ip : List (Addr × Obj)) (R : GenEnd) (n : Nat) (k : Kg) (s₀ : Shared) (c : Code) (fs : List Frame) (K : Flow → Sem PySem.Fin) (J : Value → Sem PySem.Fin) (gd : Bool → Bool) (lv : List Value → List Value) (s : Shared) (σ : L2.St) (H : Hp) (D : Ends2) (ρ : Rn),
    F s₀ k.2 ρ → Av ρ ip → Pl X A c fs gd → n + k.1 = sizeLine → Nx X F Y ip A R c fs K J D → Inv (on X ρ) ip σ H s → t D k σ H → Seg (model X.prog X.w) A R (Pr X F Y) n s₀ c (m.wrap K J gd lv) fs s
abbrev GT1 (X : Cx) (F : Fm) (Y : Tn) (st : Stmt) (t : T2) : Prop := GT X F Y (exec st X.env) t
abbrev GTs (X : Cx) (F : Fm) (Y : Tn) (l : List Stmt) (t : T2) : Prop := GT X F Y (execs l X.env) t
section
variable {X : Cx} {F : Fm} {Y : Tn} {st : Stmt} {rest : List Stmt} {e : Expr} {te : TE} {yp pos : Pos}
/-- a statement that hands out nothing -/
def tP (t : TS) : T2 := fun D k σ H => t (D.to k) σ H
theorem gt_ps {t : TS} (h : ∀ s₀ γ ρ, F s₀ γ ρ → PS (on X ρ) st t) : GT1 X F Y st (tP t) := by
  refine ⟨fun A ip R n k s₀ c fs K J gd lv s σ H D ρ hF hav g hn q I ht => seg_wrap ?_⟩
  rw [g.over]
  exact wpAny_mono ((h _ _ ρ hF).run _ s σ H (D.to k) I ht) (fun f t hs => q.ok n k s₀ t f ρ hn hF hav hs) fun x t hx => q.exc n s₀ _ x t ρ hF hx
theorem gts_pss {t : TS} (h : ∀ s₀ γ ρ, F s₀ γ ρ → PSs (on X ρ) rest t) : GTs X F Y rest (tP t) := by
  refine ⟨fun A ip R n k s₀ c fs K J gd lv s σ H D ρ hF hav g hn q I ht => seg_wrap ?_⟩
  rw [g.over]
  exact wpAny_mono ((h _ _ ρ hF).run _ s σ H (D.to k) I ht) (fun f t hs => q.ok n k s₀ t f ρ hn hF hav hs) fun x t hx => q.exc n s₀ _ x t ρ hF hx
def tN : T2 := fun D k σ H => D.nx k σ H
theorem gts_nil : GTs X F Y [] tN := by
  refine ⟨fun A ip R n k s₀ c fs K J gd lv s σ H D ρ hF hav g hn q I ht => ?_⟩
  exact seg_execs_nil (q.ok n k s₀ s .next ρ hn hF hav ⟨σ, H, I, ht⟩)
def tThen (t u : T2) : T2 := fun D k σ H => t { D with nx := fun k' σ' H' => u D k' σ' H' } k σ H
theorem gts_cons {t u : T2} (a : GT1 X F Y st t) (b : GTs X F Y rest u) : GTs X F Y (st :: rest) (tThen t u) := by
  refine ⟨fun A ip R n k s₀ c fs K J gd lv s σ H D ρ hF hav g hn q I ht => seg_execs_cons ?_⟩
  refine a.run A ip R n k s₀ c fs _ J gd lv s σ H { D with nx := fun k' σ' H' => u D k' σ' H' } ρ hF hav g hn ⟨fun n1 k1 s₁ t1 f ρ2 hn1 hF1 hv1 hs => ?_, q.exc⟩ I ht
  cases f with
  | next =>
    obtain ⟨σ1, H1, I1, q1⟩ := hs
    exact b.run A ip R n1 k1 s₁ c fs K J gd lv t1 σ1 H1 D ρ2 hF1 hv1 g hn1 q I1 q1
  | brk => exact q.ok n1 k1 s₁ t1 .brk ρ2 hn1 hF1 hv1 hs
  | cont => exact q.ok n1 k1 s₁ t1 .cont ρ2 hn1 hF1 hv1 hs
  | ret u => exact q.ok n1 k1 s₁ t1 (.ret u) ρ2 hn1 hF1 hv1 hs
/-- yield e: the item is told, the consumer takes its turn -/
def tY (Y : Tn) (te : TE) : T2 := fun D k σ H => k.1 < sizeLine ∧ te σ H fun x H1 => Y k.1 x k.2 H1 fun γ H2 => D.nx (k.1 + 1, γ) σ H2
theorem gt_yield (mono : Mono Y) (he : ∀ s₀ γ ρ, F s₀ γ ρ → PE (on X ρ) e te) (hco : X.env.scope.isCoroutine = false := by rfl) (hi : interactive X.env = false := by rfl) : GT1 X F Y (.Expr (.Yield (some e) yp) pos) (tY Y te) := by
  refine ⟨fun A ip R n k s₀ c fs K J gd lv s σ H D ρ hF hav g hn q I ht => ?_⟩
  obtain ⟨hlt, ht⟩ := ht
  obtain ⟨n, rfl⟩ : ∃ m, n = m + 1 := ⟨n - 1, by omega⟩
  refine seg_Expr_Yield g.split g.gd g.guard ?_ hco hi
  rw [g.over]
  refine wpAny_mono ((he _ _ ρ hF).run _ s σ H _ I ht) (fun v t hv => ?_) fun x t hx => q.exc _ s₀ _ x t ρ hF hx
  obtain ⟨x, H1, I1, rv, y⟩ := hv
  intro kap hk
  refine ⟨ρ, ip, σ, H1, x, k.1, k.2, hF, hav, hn, rv, I1, mono _ _ _ _ _ _ (fun γ H2 q2 => ?_) y⟩
  intro ρ2 t2 hF2 hav2 I2
  refine hk .none t2 ?_
  exact q.ok n (k.1 + 1, γ) t2 t2 .next ρ2 (by show n + (k.1 + 1) = sizeLine; omega) hF2 hav2 ⟨σ, H2, I2, q2⟩
def tIf (tc : TT) (t u : T2) : T2 := fun D k σ H => tc σ H fun b H1 => if b = true then t D k σ H1 else u D k σ H1
theorem gt_if {c : Expr} {a b : List Stmt} {tc : TT} {t u : T2} (hc : ∀ s₀ γ ρ, F s₀ γ ρ → PT (on X ρ) c tc) (ha : GTs X F Y a t) (hb : GTs X F Y b u) : GT1 X F Y (.If c a b pos) (tIf tc t u) := by
  refine ⟨fun A ip R n k s₀ cd fs K J gd lv s σ H D ρ hF hav g hn q I ht => ?_⟩
  rw [exec_If]
  rw [Sem.bind_eq_wrap', Sem.wrap_wrap]
  refine seg_wrap (wpAny_standAt ?_)
  rw [Sem.bind_eq_wrap', Sem.wrap_wrap]
  refine seg_wrap ?_
  rw [g.over]
  refine wpAny_mono ((hc _ _ ρ hF).run _ s σ H _ I ht) (fun d t hd => ?_) fun x t hx => q.exc n s₀ _ x t ρ hF hx
  obtain ⟨H2, I2, q2⟩ := hd
  cases d with
  | true => exact ha.run A ip R n k s₀ cd fs K J gd lv t σ H2 D ρ hF hav g hn q I2 q2
  | false => exact hb.run A ip R n k s₀ cd fs K J gd lv t σ H2 D ρ hF hav g hn q I2 q2
theorem pl_loop {A : Around} {c c' : Code} {fs : List Frame} {gd : Bool → Bool} {kk : Result → Sem PySem.Fin} {l kp : List Value} {p : Pos} (g : Pl X A c fs gd) (hw : c'.weight = 0) (hu : c'.cUnits = 0) : Pl X A c' (.ret kk none (gd false) l c p kp :: fs) id where
  over := (over_loop hw hu).trans g.over
  split := by
    show (splitAtGen fs).map _ = none
    rw [g.split]; rfl
  guard := by
    show (gd false || fs.any Frame.guarded) = false
    rw [g.gd, g.guard]; rfl
  gd := rfl
theorem seg_back {ip : List (Addr × Obj)} {A : Around} {R : GenEnd} {c : Code} {fs : List Frame} {K : Flow → Sem PySem.Fin} {J : Value → Sem PySem.Fin} {gd : Bool → Bool} {lv : List Value → List Value} {D : Ends2} {n : Nat} {s₀ s : Shared} {e : Value} {γ : L2.St} {ρ : Rn}
    (hF : F s₀ γ ρ) (g : Pl X A c fs gd) (q : Nx X F Y ip A R c fs K J D) (h : cameBackBy (model X.prog X.w) X.A X.env ρ.xe e s) :
    Seg (model X.prog X.w) A R (Pr X F Y) n s₀ c (((Sem.raise e : Sem Flow).onRaise (cameBack X.env)).wrap K J gd lv) fs s := by
  show Seg _ _ _ _ _ _ _ (((cameBack X.env e).bind fun _ => (Sem.raise e : Sem Flow)).wrap K J gd lv) _ _
  rw [Sem.bind_eq_wrap, Sem.wrap_wrap]
  refine seg_wrap ?_
  rw [g.over]
  exact wpAny_mono h (fun _ t hx => q.exc n s₀ _ e t ρ hF hx) fun x t hx => q.exc n s₀ _ x t ρ hF hx
def tWhile (c : TT) (tb : T2) : T2 := fun D k σ H => ∃ W : Nat → Kg → L2.St → Hp → Prop, (∃ m, W m k σ H) ∧ ∀ m k σ H, W m k σ H →
  c σ H fun b H1 => if b = true then ∃ N : Kg → L2.St → Hp → Prop, (∀ k' σ' H', N k' σ' H' → ∃ m', m' < m ∧ W m' k' σ' H') ∧ tb { D with nx := N, ct := N, bk := D.nx } k σ H1 else D.nx k σ H1
theorem gt_while {test : Expr} {body : List Stmt} {tc : TT} {tb : T2} (hp : ∀ s₀ γ ρ, F s₀ γ ρ → PassesOwn (model X.prog X.w) X.A X.env ρ.xe) (hc : ∀ s₀ γ ρ, F s₀ γ ρ → PT (on X ρ) test tc) (hb : GTs X F Y body tb) : GT1 X F Y (.While test body [] pos) (tWhile tc tb) := by
  refine ⟨fun A ip R n k s₀ cd fs K J gd lv s σ H D ρ hF hav g hn q I ht => ?_⟩
  obtain ⟨W, ⟨m0, w0⟩, turn⟩ := ht
  refine seg_While fun p => ?_
  have gl := fun (kk : Result → Sem PySem.Fin) => pl_loop (kk := kk) (c' := .whileLoop test body [] X.env) (l := lv []) (kp := []) (p := p) g rfl rfl
  have loop : ∀ (m n : Nat) (k : Kg) (s₀ s : Shared) (σ : L2.St) (H : Hp) (ρ : Rn), F s₀ k.2 ρ → Av ρ ip → n + k.1 = sizeLine → W m k σ H → Inv (on X ρ) ip σ H s →
      Seg (model X.prog X.w) A R (Pr X F Y) n s₀ (.whileLoop test body [] X.env) ((model X.prog X.w).den (.whileLoop test body [] X.env))
        (.ret (fun r => ((match r with | .ok f => (.pure f : Sem Flow) | .error e => .raise e).onRaise (cameBack X.env)).wrap K J gd lv) none (gd false) (lv []) cd p [] :: fs) s := by
    intro m
    induction m using Nat.strongRecOn with
    | ind m ih =>
      intro n k s₀ s σ H ρ hF hav hn w I
      have ee : ∀ (n : Nat) (s₀ : Shared) (γ : L2.St) (x : Value) (t : Shared) (ρ2 : Rn), F s₀ γ ρ2 → ρ2.xe x t → Seg (model X.prog X.w) A R (Pr X F Y) n s₀ (.whileLoop test body [] X.env)
          ((do noteFrame x X.env; theTreesLotGoes x : Sem Unit).wrap (fun _ => .raise x) .raise id id)
          (.ret (fun r => ((match r with | .ok f => (.pure f : Sem Flow) | .error e => .raise e).onRaise (cameBack X.env)).wrap K J gd lv) none (gd false) (lv []) cd p [] :: fs) t := fun n s₀ γ x t ρ2 hF2 hx => by
        refine seg_wrap ?_
        rw [(gl _).over]
        refine wpAny_bind (wpAny_mono (hp _ _ ρ2 hF2 x t hx) (fun _ t2 hcb => wpAny_theTreesLotGoes ?_) fun y t2 hcb => ?_)
        · exact seg_leaf (.error x) (seg_back hF2 g q hcb)
        · exact seg_leaf (.error y) (seg_back hF2 g q hcb)
      refine seg_whileLoop ?_
      rw [(gl _).over]
      refine wpAny_mono ((hc _ _ ρ hF).run _ s σ H _ I (turn m k σ H w)) (fun b t hb' => ?_) fun x t hx => ee n s₀ _ x t ρ hF hx
      obtain ⟨H2, I2, q2⟩ := hb'
      cases b with
      | true =>
        obtain ⟨N, hN, q2⟩ := q2
        rw [if_pos rfl]
        refine hb.run A ip R n k s₀ _ _ _ _ id id t σ H2 { D with nx := N, ct := N, bk := D.nx } ρ hF hav (gl _) hn ⟨fun n1 k1 s₁ t1 f ρ2 hn1 hF1 hv1 hs => ?_, fun n1 s₁ γ x t1 ρ2 hF2 hx => ee n1 s₁ γ x t1 ρ2 hF2 hx⟩ I2 q2
        cases f with
        | next =>
          obtain ⟨σ3, H3, I3, n3⟩ := hs
          obtain ⟨m', hm, w3⟩ := hN k1 σ3 H3 n3
          exact seg_again rfl (ih m' hm n1 k1 s₁ t1 σ3 H3 ρ2 hF1 hv1 hn1 w3 I3)
        | cont =>
          obtain ⟨σ3, H3, I3, n3⟩ := hs
          obtain ⟨m', hm, w3⟩ := hN k1 σ3 H3 n3
          exact seg_again rfl (ih m' hm n1 k1 s₁ t1 σ3 H3 ρ2 hF1 hv1 hn1 w3 I3)
        | brk => exact seg_leaf (.ok .next) (q.ok n1 k1 s₁ t1 .next ρ2 hn1 hF1 hv1 hs)
        | ret v => exact seg_leaf (.ok (.ret v)) (q.ok n1 k1 s₁ t1 (.ret v) ρ2 hn1 hF1 hv1 hs)
      | false =>
        rw [if_neg Bool.false_ne_true]
        refine seg_execs_nil ?_
        exact seg_leaf (.ok .next) (q.ok n k s₀ t .next ρ hn hF hav ⟨σ, H2, I2, q2⟩)
  exact loop m0 n k s₀ s σ H ρ hF hav hn w0 I
def tFor2 (wi : TI) (g : TG) (tb : T2) : T2 := fun D k σ H => wi σ H fun J H1 => ∃ W : Nat → Nat → Kg → L2.St → Hp → Prop, (∃ m, W 0 m k σ H1) ∧ ∀ i m k σ H, W i m k σ H →
  (J.stop i H ∧ D.nx k σ H) ∨ (J.go i H ∧ ∃ N : Kg → L2.St → Hp → Prop, (∀ k' σ' H', N k' σ' H' → ∃ m', m' < m ∧ W (i + 1) m' k' σ' H') ∧ ∀ x H', J.yld i H x H' → g x σ H' fun σ2 H2 => tb { D with nx := N, ct := N, bk := D.nx } k σ2 H2)
theorem gt_for {iter tg : Expr} {body : List Stmt} {wi : TI} {g : TG} {tb : T2} {n0 : Nat} (hsz : ∀ s₀ γ ρ, F s₀ γ ρ → ρ.s.heap.objs.size = n0) (hp : ∀ s₀ γ ρ, F s₀ γ ρ → PassesOwn (model X.prog X.w) X.A X.env ρ.xe) (hc : X.calm = true)
    (hi : ∀ s₀ γ ρ, F s₀ γ ρ → PI (on X ρ) tg iter wi) (hg : ∀ s₀ γ ρ, F s₀ γ ρ → PG (on X ρ) tg g) (hb : GTs X F Y body tb) (hs : ∀ x, foldedSetIterable iter X.env x = pure x := by intro _; rfl) : GT1 X F Y (.For tg iter body [] pos) (tFor2 wi g tb) := by
  refine ⟨fun A ip R n k s₀ cd fs K J gd lv s σ H D ρ hF hav g0 hn q I ht => ?_⟩
  rw [exec_For]
  simp only [hs]
  rw [Sem.bind_eq_wrap', Sem.wrap_wrap]
  refine seg_wrap (wpAny_standAt ?_)
  rw [Sem.bind_eq_wrap', Sem.wrap_wrap]
  refine seg_wrap ?_
  rw [g0.over]
  refine wpAny_mono ((hi _ _ ρ hF).run _ s σ H _ I ht) (fun v s1 h1 => ?_) fun x t hx => q.exc n s₀ _ x t ρ hF hx
  show Seg _ _ _ _ _ _ _ (Sem.wrap _ _ _ _ (standAt iter.pos >>= _)) _ _
  rw [Sem.bind_eq_wrap', Sem.wrap_wrap]
  refine seg_wrap (wpAny_standAt ?_)
  rw [Sem.bind_eq_wrap', Sem.wrap_wrap]
  refine seg_wrap ?_
  rw [g0.over]
  refine wpAny_holding (wpAny_mono h1 (fun itv s2 h2 => ?_) fun x t hx => q.exc n s₀ _ x t ρ hF hx)
  obtain ⟨it, fp, tn, JJ, H2, e, I2, T, st2, f2, W, ⟨m0, w0⟩, turn⟩ := h2
  subst e
  have stat : ∀ {s₁ : Shared} {γ : L2.St} {ρ3 : Rn} {H' : Hp}, F s₁ γ ρ3 → (∀ p ∈ ρ3.pn, ∀ b ∈ fp, p.1 ≠ b) → (∀ b ∈ fp, H' b = none) → ∀ b ∈ fp, FpOk (on X ρ3) ip H' b := fun {s₁ γ ρ3 H'} hF3 hvb hn b hb => by
    obtain ⟨_, a1, a2, a3, a4, a5⟩ := f2 b hb
    refine ⟨hn b hb, a1, a2, a3.imp id fun z => ?_, a4, fun p hp => ?_⟩
    · show ρ3.s.heap.objs.size ≤ b
      rw [hsz _ _ ρ3 hF3, ← hsz _ _ ρ hF]
      exact z
    · rcases List.mem_append.mp hp with hp | hp
      · exact hvb p hp b hb
      · exact a5 p (List.mem_append_right _ hp)
  have hvb0 : ∀ p ∈ ρ.pn, ∀ b ∈ fp, p.1 ≠ b := fun p hp b hb => (f2 b hb).2.2.2.2.2 p (List.mem_append_left _ hp)
  refine seg_call fun p => ?_
  have gl := fun (kk : Result → Sem PySem.Fin) => pl_loop (kk := kk) (c' := .forLoop tg (.ref it) body [] X.env) (l := lv []) (kp := []) (p := p) g0 rfl rfl
  have loop : ∀ (m i n : Nat) (k : Kg) (s₀ s : Shared) (σ : L2.St) (H : Hp) (ρ : Rn), F s₀ k.2 ρ → Av ρ ip → (∀ p ∈ ρ.pn, ∀ b ∈ fp, p.1 ≠ b) → n + k.1 = sizeLine → W i m k σ H → Inv (on X ρ) ip σ H s → tn i s.heap → (∀ b ∈ fp, H b = none) →
      Seg (model X.prog X.w) A R (Pr X F Y) n s₀ (.forLoop tg (.ref it) body [] X.env) ((model X.prog X.w).den (.forLoop tg (.ref it) body [] X.env))
        (.ret (fun r => ((match r with | .ok f => (.pure f : Sem Flow) | .error e => .raise e).onRaise (cameBack X.env)).wrap K J gd lv) none (gd false) (lv []) cd p [] :: fs) s := by
    intro m
    induction m using Nat.strongRecOn with
    | ind m ih =>
      intro i n k s₀ s σ H ρ hF hav hvb hn w I st fr
      have ee : ∀ (n : Nat) (s₀ : Shared) (γ : L2.St) (x : Value) (t : Shared) (ρ2 : Rn), F s₀ γ ρ2 → ρ2.xe x t → Seg (model X.prog X.w) A R (Pr X F Y) n s₀ (.forLoop tg (.ref it) body [] X.env)
          ((do noteFrame x X.env; theTreesLotGoes x : Sem Unit).wrap (fun _ => .raise x) .raise id id)
          (.ret (fun r => ((match r with | .ok f => (.pure f : Sem Flow) | .error e => .raise e).onRaise (cameBack X.env)).wrap K J gd lv) none (gd false) (lv []) cd p [] :: fs) t := fun n s₀ γ x t ρ2 hF2 hx => by
        refine seg_wrap ?_
        rw [(gl _).over]
        refine wpAny_bind (wpAny_mono (hp _ _ ρ2 hF2 x t hx) (fun _ t2 hcb => wpAny_theTreesLotGoes ?_) fun y t2 hcb => ?_)
        · exact seg_leaf (.error x) (seg_back hF2 g0 q hcb)
        · exact seg_leaf (.error y) (seg_back hF2 g0 q hcb)
      refine Gf.seg_forLoop (EE := ρ.xe) (fun x t hx => ee n s₀ _ x t ρ hF hx) ?_
      rw [(gl _).over]
      rcases turn i m k σ H w with ⟨stop, qn⟩ | ⟨go, N, hN, step⟩
      · refine wpAny_mono (T.done (on X ρ) rfl rfl rfl hc i _ s σ H ρ.xe I (stat hF hvb fr) st stop) (fun rr s4 h4 => ?_) fun x t hx => hx
        obtain ⟨hr, I4⟩ := h4
        subst hr
        refine seg_again rfl ?_
        exact seg_leaf (.ok .next) (q.ok n k s₀ s4 .next ρ hn hF hav ⟨σ, H, I4, qn⟩)
      · refine wpAny_mono (T.item (on X ρ) rfl rfl rfl hc i _ s σ H ρ.xe I (stat hF hvb fr) st go) (fun rr s4 h4 => ?_) fun x t hx => hx
        obtain ⟨u, hr, h4⟩ := h4
        subst hr
        refine wpAny_mono h4 (fun _ s5 h5 => ?_) fun x t hx => hx
        obtain ⟨x, H5, I5, r5, y5, st5, fr5⟩ := h5
        have I5' := I5.pinned (stat hF hvb fr5) (T.obj _ _ st5)
        refine wpAny_mono ((hg _ _ ρ hF).run _ s5 σ H5 x u _ I5' r5 (step x H5 y5)) (fun _ s6 h6 => ?_) fun x t hx => hx
        obtain ⟨σ6, H6, I6, q6⟩ := h6
        refine hb.run A (ip ++ pinsAt fp s5.heap) R n k s₀ _ _ _ _ id id s6 σ6 H6 { D with nx := N, ct := N, bk := D.nx } ρ hF (fun p hp q hq => (List.mem_append.mp hq).elim (hav p hp q) fun z => hvb p hp q.1 (of_pinsAt z).1) (gl _) hn ⟨fun n1 k1 s₁ s7 f ρ8 hn1 hF8 hv8 hs => ?_, fun n1 s₁ γ x t1 ρ8 hF8 hx => ee n1 s₁ γ x t1 ρ8 hF8 hx⟩ I6 q6
        have again : ∀ {σ7 : L2.St} {H7 : Hp}, Inv (on X ρ8) (ip ++ pinsAt fp s5.heap) σ7 H7 s7 → N k1 σ7 H7 → Seg (model X.prog X.w) A R (Pr X F Y) n1 s₁ (.forLoop tg (.ref it) body [] X.env) (.pure (.again (.forLoop tg (.ref it) body [] X.env)))
            (.ret (fun r => ((match r with | .ok f => (.pure f : Sem Flow) | .error e => .raise e).onRaise (cameBack X.env)).wrap K J gd lv) none (gd false) (lv []) cd p [] :: fs) s7 := fun {σ7 H7} I7 n7 => by
          obtain ⟨m', hm, w7⟩ := hN k1 σ7 H7 n7
          refine seg_again rfl (ih m' hm (i + 1) n1 k1 s₁ s7 σ7 H7 ρ8 hF8 (fun p hp q hq => hv8 p hp q (List.mem_append_left _ hq)) (fun p hp b hb' => ?_) hn1 w7 (Inv.unpinned I7) ?_ fun b hb' => ?_)
          · obtain ⟨o, e, d⟩ := T.obj _ _ st5 b hb'
            exact hv8 p hp (b, o) (List.mem_append_right _ (mem_pinsAt hb' e))
          · exact T.keep _ _ _ st5 fun b hb' o e => (I7.pin (b, o) (List.mem_append_right _ (List.mem_append_right _ (mem_pinsAt hb' e)))).1
          · obtain ⟨o, e, d⟩ := T.obj _ _ st5 b hb'
            exact (I7.pin (b, o) (List.mem_append_right _ (List.mem_append_right _ (mem_pinsAt hb' e)))).2.1
        cases f with
        | next => obtain ⟨σ7, H7, I7, n7⟩ := hs; exact again I7 n7
        | cont => obtain ⟨σ7, H7, I7, n7⟩ := hs; exact again I7 n7
        | brk => obtain ⟨σ7, H7, I7, q7⟩ := hs; exact seg_leaf (.ok .next) (q.ok n1 k1 s₁ s7 .next ρ8 hn1 hF8 (fun p hp q hq => hv8 p hp q (List.mem_append_left _ hq)) ⟨σ7, H7, Inv.unpinned I7, q7⟩)
        | ret v => obtain ⟨x7, σ7, H7, I7, r7, q7⟩ := hs; exact seg_leaf (.ok (.ret v)) (q.ok n1 k1 s₁ s7 (.ret v) ρ8 hn1 hF8 (fun p hp q hq => hv8 p hp q (List.mem_append_left _ hq)) ⟨x7, σ7, H7, Inv.unpinned I7, r7, q7⟩)
  exact loop m0 0 n k s₀ s2 σ H2 ρ hF hav hvb0 hn w0 I2 st2 fun b hb' => (f2 b hb').1
end
end G3

/-! A generator def by its body: first what hands out nothing and may raise, then the rest beside a free consumer. -/
namespace G3
open PySem PySem.Spec PyProof.Rows GenW L2
/-- ρ says less than (H, h) -/
structure Sub (ρ : Rn) (H : Hp) (h : Heap) : Prop where
  sub : ∀ b o, ρ.s.heap.get? b = some o → h.get? b = some o
  nn : ∀ b o, ρ.s.heap.get? b = some o → ρ.H b = none → H b = none
  tups : ∀ b xs, ρ.H b = some (.tup xs) → H b = some (.tup xs)
  frzs : ∀ b o u, ρ.H b = some (.frz o u) → H b = some (.frz o u)
  tbls : ∀ b ps, ρ.H b = some (.tbl ps) → ∃ more, H b = some (.tbl (ps ++ more))
theorem Sub.un {ρ : Rn} {H H' : Hp} {h h' : Heap} {fs ex : List Addr} (S : Sub ρ H h) (u : Un fs ex H H' h h') : Un fs ex ρ.H H' ρ.s.heap h' where
  keep := fun b o e n nf nx => u.keep b o (S.sub b o e) (S.nn b o e n) nf nx
  slot := fun b o e n mf nx => u.slot b o (S.sub b o e) (S.nn b o e n) mf nx
  free := fun b o e n nx => u.free b o (S.sub b o e) (S.nn b o e n) nx
  there := fun b o e nx => u.there b o (S.sub b o e) nx
  tups := fun b xs e => u.tups b xs (S.tups b xs e)
  frzs := fun b o x e => u.frzs b o x (S.frzs b o x e)
  tbls := fun b ps e => by
    obtain ⟨m1, e1⟩ := S.tbls b ps e
    obtain ⟨m2, e2⟩ := u.tbls b _ e1
    exact ⟨m1 ++ m2, by rw [e2, Array.append_assoc]⟩
structure Ren (X : Cx) (ρ : Rn) : Prop where
  sub : Sub ρ X.H_0 X.s_0.heap
  sz : ρ.s.heap.objs.size = X.s_0.heap.objs.size
  os : ρ.s.os = X.s_0.os
  bs : ∀ b o, X.base.get? b = some o → ρ.s.heap.get? b = some o ∧ ρ.H b = none
  fr : ∀ b ∈ X.fs, ρ.H b = none ∧ ∀ o, X.s_0.heap.get? b = some o → ρ.s.heap.get? b = some o
theorem frames_at {base h h' : Heap} : ∀ {l : List Env}, h.FunFrames base l → (∀ b ∈ frs l, ∃ o', h'.get? b = some o' ∧ ∀ vs, o'.data ≠ .fields vs) → h'.FunFrames base l
  | [], _, _ => trivial
  | env :: r, ⟨hk, ⟨L, o, hf, hn, _, _⟩, hr⟩, k => by
    have sub : ∀ b ∈ frs r, b ∈ frs (env :: r) := fun b m => by
      unfold frs
      rw [List.filterMap_cons, hf]
      exact List.mem_cons_of_mem _ m
    obtain ⟨o', e, d⟩ := k L (by unfold frs; rw [List.filterMap_cons, hf]; exact List.mem_cons_self)
    exact ⟨hk, ⟨L, o', hf, hn, e, d⟩, frames_at hr fun b m => k b (sub b m)⟩
theorem Ren.inv {X : Cx} {ρ : Rn} {ip : List (Addr × Obj)} {σ : L2.St} {H : Hp} {s : Shared} (N : Ren X ρ) (hp : X.pn = ρ.pn) (hex : X.ex = []) (I : Inv X ip σ H s) : Inv (on X ρ) ip σ H s := by
  have ok := I.ok
  have noex : ∀ b : Addr, b ∉ X.ex := fun b z => by rw [hex] at z; cases z
  refine ⟨⟨ok.mod, ok.kind, ok.glob, ok.blt, ?_, ok.inj, ok.has, fun x c h e => ?_, ok.hd, ok.frames, ok.stk, ok.exf, N.bs, ?_, ok.noex, ok.exfs, ?_, fun b m => (N.fr b m).1⟩, I.os.trans N.os.symm, I.bare, N.sub.un I.base, I.loc, I.cell, I.free, I.freeC, ?_, I.hok, I.len⟩
  · show ρ.s.heap.objs.size ≤ _
    rw [N.sz]; exact ok.above
  · show ρ.s.heap.objs.size ≤ _
    rw [N.sz]; exact ok.cab x c h e
  · show _ ≤ ρ.s.heap.objs.size
    rw [N.sz]; exact ok.bsz
  · refine frames_at ok.funs fun b m => ?_
    obtain ⟨_, o, e, d⟩ := ok.funs.mem m
    exact ⟨o, (N.fr b m).2 o e, d⟩
  · intro p q
    have q : p ∈ ρ.pn ++ ip := q
    rw [← hp] at q
    exact I.pin p q
theorem Ren.sp {X : Cx} {ρ : Rn} {ip : List (Addr × Obj)} {D : Ends} {f : Flow} {s : Shared} (N : Ren X ρ) (hp : X.pn = ρ.pn) (hex : X.ex = []) (h : SP X ip D f s) : SP (on X ρ) ip D f s := by
  cases f with
  | next => obtain ⟨σ, H, I, q⟩ := h; exact ⟨σ, H, N.inv hp hex I, q⟩
  | brk => obtain ⟨σ, H, I, q⟩ := h; exact ⟨σ, H, N.inv hp hex I, q⟩
  | cont => obtain ⟨σ, H, I, q⟩ := h; exact ⟨σ, H, N.inv hp hex I, q⟩
  | ret u => obtain ⟨v, σ, H, I, r, q⟩ := h; exact ⟨v, σ, H, N.inv hp hex I, r, q⟩
/-- the first statements hand out nothing and may raise; then the rest -/
structure GT0 (X : Cx) (F : Fm) (Y : Tn) (l : List Stmt) (t : T2) : Prop where
  run : ∀ (A : Around) (R : GenEnd) (n : Nat) (k : Kg) (s₀ : Shared) (c : Code) (fs : List Frame) (K : Flow → Sem PySem.Fin) (J : Value → Sem PySem.Fin) (gd : Bool → Bool) (lv : List Value → List Value) (s : Shared) (σ : L2.St) (H : Hp) (D : Ends2) (ρ : Rn),
    Ren X ρ → X.pn = ρ.pn → X.ex = [] → F s₀ k.2 ρ → Pl X A c fs gd → n + k.1 = sizeLine → Nx X F Y [] A R c fs K J D → (∀ e t, X.xe e t → Seg (model X.prog X.w) A R (Pr X F Y) n s₀ c (J e) fs t) → Inv X [] σ H s → t D k σ H →
      Seg (model X.prog X.w) A R (Pr X F Y) n s₀ c ((execs l X.env).wrap K J gd lv) fs s
section
variable {X : Cx} {F : Fm} {Y : Tn} {st : Stmt} {rest : List Stmt}
theorem gt0_rest {t : T2} (h : GTs X F Y rest t) : GT0 X F Y rest t := by
  refine ⟨fun A R n k s₀ c fs K J gd lv s σ H D ρ N hp hex hF g hn q _ I ht => ?_⟩
  exact h.run A [] R n k s₀ c fs K J gd lv s σ H D ρ hF (fun _ _ _ z => nomatch z) g hn q (N.inv hp hex I) ht
def tPs (t : TS) (u : T2) : T2 := fun D k σ H => t { nx := fun σ' H' => u D k σ' H', rt := D.rt k, bk := D.bk k, ct := D.ct k } σ H
theorem gt0_cons {t : TS} {u : T2} (a : PS X st t) (b : GT0 X F Y rest u) : GT0 X F Y (st :: rest) (tPs t u) := by
  refine ⟨fun A R n k s₀ c fs K J gd lv s σ H D ρ N hp hex hF g hn q qe I ht => seg_execs_cons (seg_wrap ?_)⟩
  rw [g.over]
  refine wpAny_mono (a.run _ s σ H _ I ht) (fun f t hs => ?_) fun x t hx => qe x t hx
  have hs' := N.sp hp hex hs
  cases f with
  | next =>
    obtain ⟨σ1, H1, I1, q1⟩ := hs
    exact b.run A R n k s₀ c fs K J gd lv t σ1 H1 D ρ N hp hex hF g hn q qe I1 q1
  | brk => exact q.ok n k s₀ t .brk ρ hn hF (fun _ _ _ z => nomatch z) hs'
  | cont => exact q.ok n k s₀ t .cont ρ hn hF (fun _ _ _ z => nomatch z) hs'
  | ret u => exact q.ok n k s₀ t (.ret u) ρ hn hF (fun _ _ _ z => nomatch z) hs'
end
/-- the arguments, the heap, the consumer's locals, its turn, what is wanted at the end, the exception -/
abbrev Sp3 := List V → Hp → L2.St → Tn → (L2.St → Hp → Prop) → XK → Prop
def End3 (X : Cx) (F : Fm) (Q : L2.St → Hp → Prop) (outer : List Env) (H : Hp) (s : Shared) (E : XK) (a : Addr) (g : Nat) : GenEnd := fun _ s₀ r s1 =>
  ((r = .ok (.ret .none) ∨ r = .ok .next) ∧ ∃ ρ ip σ H', ∃ γ : L2.St, F s₀ γ ρ ∧ Inv (on X ρ) ip σ H' s1 ∧ Q γ H') ∨ ∃ e, r = .error e ∧ CX X.prog X.w outer H s E e s1 ∧ s1.heap.IsGen a g
abbrev FOk (F : Fm) (s : Shared) : Prop := ∀ s₀ γ ρ, F s₀ γ ρ → ρ.s.heap.objs.size = s.heap.objs.size ∧ ρ.xe = fun _ _ => False
/-- what the call gives: a generator that has not begun -/
structure Made3 (P : Program) (w : World) (cx : Around → XK → List (Addr × Obj) → Cx) (k : Nat) (outer : List Env) (s : Shared) (H : Hp) (sp : Sp3) (vs : List V) (s' : Shared) (a : Addr) (g : Nat) (c : Code) (go : Obj) (gl : Addr) : Prop where
  gl1 : s.heap.objs.size ≤ gl
  gl2 : gl < a
  a2 : a < s'.heap.objs.size
  at_ : s'.heap.get? a = some go
  cls : go.cls = .type "generator"
  data : ∃ vs, go.data = .fields vs
  gen : ∀ h : Heap, h.get? a = some go → h.IsGen a g
  glo : ∃ o, s'.heap.get? gl = some o
  st : s'.gens[g]? = some (.fresh c)
  os : s'.os = s.os
  bare : AllBare s'.gens
  lim : s'.heap.NoLimit
  keep : ∀ b o, s.heap.get? b = some o → s'.heap.get? b = some o
  wake : ∀ (A : Around) (s2 : Shared) (H2 : Hp) (γ : L2.St) (Y : Tn) (Q : L2.St → Hp → Prop) (E : XK) (F : Fm) (ρ : Rn), Room k A → A.frames = some outer → (∀ b o, s'.heap.get? b = some o → s2.heap.get? b = some o) → s2.os = s.os → AllBare s2.gens → HOk P w H2 s2.heap →
    (∀ b, b < s'.heap.objs.size → H2 b = H b) → Ren (cx A E ρ.pn) ρ → (∀ p ∈ ρ.pn, s2.heap.get? p.1 = some p.2 ∧ H2 p.1 = none ∧ p.1 ≠ gl ∧ p.1 ∉ frs outer ∧ ∀ v, p.2.data ≠ .cell v) → (a, go) ∈ ρ.pn → FOk F s → F s2 γ ρ → Mono Y → sp vs H2 γ Y Q E →
      Seg (model P w) A (End3 (cx A E []) F Q outer H s E a g) (Pr (cx A E []) F Y) sizeLine s2 c ((model P w).den c) [] s2
def IsMade (P : Program) (w : World) (cx : Around → XK → List (Addr × Obj) → Cx) (k : Nat) (outer : List Env) (s : Shared) (H : Hp) (sp : Sp3) (vs : List V) (u : Value) (s' : Shared) : Prop := ∃ a g c go, u = .ref a ∧ Made3 P w cx k outer s H sp vs s' a g c go s.heap.objs.size
structure GFn3 (P : Program) (w : World) (K : PySem.W.Frag) (mg : Str → Option Value) (base : Heap) (N : List Str) (qual : Str) (scope : Scope) (cdv : Value) (k : Nat) (f : Addr) (fd : FuncData) (ps : List Str) (sp : Sp3) : Prop where
  run : ∀ (A : Around) (outer : List Env) (s : Shared) (H : Hp) (args : Args) (us : List Value) (vs : List V), vs.length = ps.length → Room k A → Env0 P w K mg base A outer s H → BindsTo s fd args (ps.zip us) → Vals vs us →
    codeAny (model P w) A (.call (.ref f) args) (fun r s' => match r with | .ok (.ret u) => IsMade P w (fun A E pn => gcxOf P w K mg base N qual scope f cdv A outer s H E pn) k outer s H sp vs u s' | _ => False) s
theorem gfn3_of {P : Program} {w : World} {K : PySem.W.Frag} {mg : Str → Option Value} {base : Heap} {k : Nat} {f : Addr} {name qual : Str} {params : Arguments} {body : List Stmt} {scope : Scope} {dV kV doc pm cdv ct oc : Value} {an od : Option Addr}
    {osl : Array (Option Value)} {N ps : List Str} {sp : Sp3} (lk : K.lookup f = some ⟨oc, od, .func (PySem.W.fnOf name qual params body scope dV kV doc pm an cdv ct), osl⟩) (hcd : PySem.W.codeIn K cdv qual = true) (S : GScope N ps scope)
    (hbody : ∀ (A : Around) (outer : List Env) (s : Shared) (H H2 : Hp) (vs : List V) (γ : L2.St) (Y : Tn) (Q : L2.St → Hp → Prop) (E : XK) (pn : List (Addr × Obj)) (F : Fm), Room k (A.deeper (envOfC qual scope s.heap.objs.size f cdv)) → FOk F s → Mono Y → sp vs H2 γ Y Q E →
      ∃ t, GT0 (gcxOf P w K mg base N qual scope f cdv A outer s H E pn) F Y body t ∧ t { nx := fun k _ H' => Q k.2 H', rt := fun k v H' => v = .non ∧ Q k.2 H' } (0, γ) (start N vs) H2) :
    GFn3 P w K mg base N qual scope cdv (k + 1) f (PySem.W.fnOf name qual params body scope dV kV doc pm an cdv ct) ps sp := by
  refine ⟨fun A outer s H args us vs hl hr e0 hb r => ?_⟩
  have KX : K.In s.heap := e0.mod.kin.keeps fun b o e => (e0.bs b o e).1
  have lim : s.heap.NoLimit := e0.mod.nolimit.keeps fun b o e => (e0.bs b o e).1
  have hkind : ∀ y ∈ ps.zip us, scope.names.lookup y.1 = some .local ∨ (scope.names.lookup y.1 = some .cell ∧ ((cellsFrom (s.heap.objs.size + 1) scope.names []).lookup y.1).isSome = true) := fun ⟨n, v⟩ hy => by
    rcases S.par n (List.of_mem_zip hy).1 with q | q
    · exact .inl q
    · exact .inr ⟨q, PySem.W.cellsFrom_some _ _ _ (.inl q)⟩
  refine codeAny_call_generator hr.depth (KX _ _ lk) rfl S.co S.gen rfl (PySem.W.codeRec_of KX hcd) (hb _ _ _ _ ?_)
  refine wpAny_newFunctionEnv_cells S.kind hkind fun env he s1 x => ?_
  subst he
  have lim1 : s1.heap.NoLimit := lim.keeps x.toInCall.keep
  refine ⟨lim1, ?_⟩
  obtain ⟨h1, tk, es1, hk1⟩ := x.done
  have os1 : s1.os = s.os := by rw [es1]
  have gen1 : s1.gens = s.gens := by rw [es1]
  have lt1 : s.heap.objs.size < s1.heap.objs.size := x.toInCall.ns.lt
  have kp1 : ∀ b o, s.heap.get? b = some o → s1.heap.get? b = some o := x.toInCall.keep
  have main : ∀ (go : Obj) (nm qn : Value) (tk2 : Nat), go.cls = .type "generator" → go.data = .fields #[.int s1.gens.size 0, nm, qn] → go.slots = #[] → (∀ h : Heap, (h.push go).get? h.objs.size = some go) →
      IsMade P w (fun A E pn => gcxOf P w K mg base N qual scope f cdv A outer s H E pn) (k + 1) outer s H sp vs (.ref s1.heap.objs.size) { s1 with gens := s1.gens.push (.fresh (.func body (envOfC qual scope s.heap.objs.size f cdv))), toks := tk2, heap := s1.heap.push go } := by
    intro go nm qn tk2 hgc hgd0 hgs hgp
    have hpushed : (s1.heap.push go).get? s1.heap.objs.size = some go := hgp _
    have hgen : ∀ h : Heap, h.get? s1.heap.objs.size = some go → h.IsGen s1.heap.objs.size s1.gens.size := fun h e => ⟨go, nm, qn, e, hgc, hgd0, hgs⟩
    have szp : (s1.heap.push go).objs.size = s1.heap.objs.size + 1 := Heap.size_push ..
    refine ⟨s1.heap.objs.size, s1.gens.size, _, go, rfl, Nat.le_refl _, lt1, ?_, hpushed, hgc, ⟨_, hgd0⟩, hgen, ?_, Array.getElem?_push_size .., os1, AllBare.push (by rw [gen1]; exact e0.bare) rfl, lim1.keeps fun b o e => Heap.get?_push_of_some _ e, fun b o e => Heap.get?_push_of_some _ (kp1 b o e), ?_⟩
    · show _ < (s1.heap.push _).objs.size
      rw [szp]
      exact Nat.lt_succ_self _
    · obtain ⟨o, es, ep, e, _⟩ := x.toInCall.ns
      exact ⟨o, Heap.get?_push_of_some _ e⟩
    intro Aw s2 H2 γ Y Q E F ρ hrw hfr hk2 hos hba hok2 hsm hN hpn hmem hFO hF mono hsp
    have e0w : Env0 P w K mg base Aw outer s H := ⟨hfr, e0.mod, e0.bs, e0.bsz, e0.funs, e0.frf, e0.hok, e0.bare⟩
    obtain ⟨t, ht, hq⟩ := hbody Aw outer s H H2 vs γ Y Q E ρ.pn F (hrw.deeper _) hFO mono hsp
    have I1 : Inv (gcxOf P w K mg base N qual scope f cdv Aw outer s H E []) [] (start N vs) H s1 := inv_startG S hrw.hd e0w hl r x
    have kp2 : ∀ b o, s1.heap.get? b = some o → s2.heap.get? b = some o := fun b o e => hk2 b o (Heap.get?_push_of_some _ e)
    have sm1 : ∀ b, b < s1.heap.objs.size → H2 b = H b := fun b h => hsm b (by show _ < (s1.heap.push go).objs.size; rw [szp]; exact Nat.lt_succ_of_lt h)
    have smS : ∀ b u, H b = some u → H2 b = some u := fun b u e => by rw [sm1 b (I1.hok b u e).lt]; exact e
    have I2 : Inv (gcxOf P w K mg base N qual scope f cdv Aw outer s H E []) [] (start N vs) H2 s2 :=
      I1.call' (ch := []) (hos.trans os1.symm) ⟨fun b o e _ _ _ => kp2 b o e, fun b o e _ _ _ => ⟨o.slots, kp2 b o e⟩, fun b o e n _ => by rw [sm1 b (Heap.lt_size e)]; exact n, fun b o e _ => ⟨o, kp2 b o e⟩, fun b xs e => smS b _ e, fun b o u e => smS b _ e, fun b ps e => ⟨#[], by rw [smS b _ e]; simp⟩⟩ hok2 hba fun b z => by simp at z
    have I3 : Inv (gcxOf P w K mg base N qual scope f cdv Aw outer s H E ρ.pn) [] (start N vs) H2 s2 := Inv.pinnedG I2 fun p hp => by
      rw [List.append_nil] at hp
      exact hpn p hp
    refine seg_func ?_
    refine ht.run Aw _ sizeLine (0, γ) s2 _ [] _ _ id id s2 (start N vs) H2 _ ρ hN rfl rfl hF ⟨over_func, rfl, rfl, rfl⟩ (Nat.add_zero _) ⟨fun n k' s₀ t' fl ρ' hn hF _ hs => ?_, fun n s₀ γ' e t' ρ' hF hx => ?_⟩ (fun e t' hx => ?_) I3 hq
    · cases fl with
      | next =>
        obtain ⟨σ', H', I', hQ⟩ := hs
        exact seg_end (.ok (.ret .none)) (.inl ⟨.inl rfl, ρ', [], σ', H', k'.2, hF, I', hQ⟩)
      | brk => obtain ⟨_, _, _, q⟩ := hs; exact False.elim q
      | cont => obtain ⟨_, _, _, q⟩ := hs; exact False.elim q
      | ret u =>
        obtain ⟨v, σ', H', I', rv, ev, hQ⟩ := hs
        subst ev
        have eu : u = Value.none := rv
        subst eu
        exact seg_end (.ok (.ret .none)) (.inl ⟨.inl rfl, ρ', [], σ', H', k'.2, hF, I', hQ⟩)
    · rw [(hFO _ _ _ hF).2] at hx
      exact hx.elim
    · refine seg_wrap ?_
      rw [over_func]
      refine wpAny_mono (show wpAny (model P w) (Aw.deeper (envOfC qual scope s.heap.objs.size f cdv)) (leaving (envOfC qual scope s.heap.objs.size f cdv) e) (fun _ s'' => CX P w outer H s E e s'' ∧ ∀ p ∈ ρ.pn, s''.heap.get? p.1 = some p.2) (fun _ _ => False) t' from hx) (fun _ s'' q => ?_) fun _ s'' q => q.elim
      exact seg_end (.error e) (.inr ⟨e, rfl, q.1, hgen _ (q.2 _ hmem)⟩)
  exact main _ _ _ _ rfl rfl rfl fun h => Heap.get?_push_size _ rfl
/-- the call of such a def -/
theorem run_gfn3 {X : Cx} {N : List Str} {qual : Str} {scope : Scope} {cdv : Value} {k : Nat} {f : Addr} {fd : FuncData} {ps : List Str} {sp : Sp3} {ds : List Value} {dvs : List V} {pins : List (Addr × Obj)} {σ : L2.St} {H : Hp} {s : Shared} {us : List Value} {vs : List V} {E1 : Value → Shared → Prop}
    (F : GFn3 X.prog X.w X.K X.mg X.base N qual scope cdv k f fd ps sp) (hr : Room k X.A) (hb : Binds X.K fd ps ds) (hd : Vals dvs ds) (I : Inv X pins σ H s) (r : Vals vs us) (hl : (vs ++ dvs).length = ps.length) :
    wpAny (model X.prog X.w) X.A (call (.ref f) us) (fun u s' => IsMade X.prog X.w (fun A E pn => gcxOf X.prog X.w X.K X.mg X.base N qual scope f cdv A X.stack s H E pn) k X.stack s H sp (vs ++ dvs) u s') E1 s := by
  have r2 : Vals (vs ++ dvs) (us ++ ds) := r.append hd
  have hl2 : (us ++ ds).length = ps.length := by rw [← r2.length]; exact hl
  refine wpAny_call (codeAny_mono (F.run X.A X.stack s H ⟨us, []⟩ (us ++ ds) (vs ++ dvs) hl hr I.env0 (hb s us I.kIn hl2) r2) fun r s' hq => ?_)
  cases r with
  | error e => exact False.elim hq
  | ok fl =>
    cases fl with
    | ret u => exact hq
    | next => exact False.elim hq
    | brk => exact False.elim hq
    | cont => exact False.elim hq
end G3

/-! next(g), where the generator that has handed out an item is told to be suspended; it may raise. -/
namespace Gn3
open PySem PySem.Spec PyProof.Rows GenW L2
def Susp (gs : GenState) : Prop := ∃ k l c p fs cl, gs = .suspended k l c p fs cl
/-- what may be asked of it then -/
def After (M : Model) (A : Around) (R : GenEnd) (Y : Protocol) (gs : GenState) : Nat → Resume → Shared → Prop
  | 0 => fun _ _ => False
  | m + 1 => fun r s => gs.Goes M A R Y m r s
theorem resume2 {M : Model} {A : Around} {R : GenEnd} {Y : Protocol} {n : Nat} {E : Value → Shared → Prop} {s : Shared} {g : Nat} {gs : GenState} {r : Resume} {l : List Value} {α : Type} {k : GenResult → Sem α} {Q : α → Shared → Prop} (hg : s.gens[g]? = some gs)
    (hgo : gs.Goes M A R Y n r (s.setGen g .running)) (hR : ∀ x s₁, R n (s.setGen g .running) x s₁ → wpAny M A (k (End.ret x).result) Q E (s₁.setGen g .finished))
    (hY : ∀ v s₁ gs', Susp gs' → gs'.bare = true → Y (n - 1) (s.setGen g .running) v s₁ (After M A R Y gs' n) → wpAny M A (k (.yielded v)) Q E (s₁.setGen g gs')) : wpAny M A (.resume g r l k) Q E s := by
  intro Γ p hΓ
  rw [Sem.wp_resume]
  have woken : ∀ c, (Γ.wake c p).Woken A := fun c => hΓ.wake c p
  have fin : ∀ e₁ s₁, SegEnd R Y n (Seg.next M A R Y n) (s.setGen g .running) e₁ s₁ → e₁.quiet = true ∧ Sem.wp M Γ (k e₁.result) (fun a _ s' => Q a s') (fun e _ s' => E e s') p (s₁.setGen g e₁.genState) := by
    intro e₁ s₁ he
    cases e₁ with
    | ret x => exact ⟨rfl, hR x s₁ he Γ p hΓ⟩
    | susp v g₀ l₀ k₀ c₀ p₀ fs₀ =>
      refine ⟨he.1, hY v s₁ _ ⟨_, _, _, _, _, _, rfl⟩ (End.bare_of_quiet he.1) ?_ Γ p hΓ⟩
      cases n <;> exact he.2
  cases gs with
  | fresh c =>
    obtain ⟨rfl, hs⟩ := hgo
    obtain ⟨e₁, s₁, hr, he⟩ := seg_iff.mp hs (Γ.wake c p) p rfl (woken c)
    obtain ⟨q1, q2⟩ := fin e₁ s₁ he
    exact ⟨_, _, by unfold Wakes; rw [hg]; exact ⟨e₁, s₁, hr, q1, rfl, rfl⟩, q2⟩
  | suspended k₀ l₀ c₀ p₀ fs₀ cl =>
    obtain ⟨e₁, s₁, hr, he⟩ := seg_iff.mp hgo (Γ.wake c₀ p) p₀ rfl (woken c₀)
    obtain ⟨q1, q2⟩ := fin e₁ s₁ he
    exact ⟨_, _, by unfold Wakes; rw [hg]; exact ⟨e₁, s₁, hr, q1, rfl, rfl⟩, q2⟩
  | running => exact hgo.elim
  | finished => exact hgo.elim
/-- pyNext of a generator -/
theorem next3 {P : Program} {w : World} {A : Around} {E : Value → Shared → Prop} {s : Shared} {a : Addr} {g n : Nat} {gs : GenState} {R : GenEnd} {F : Nat → Shared → Shared → Prop} {Er : Value → Shared → Prop} {Y : Protocol} {Q : Option Value → Shared → Prop} (hh : A.handled = none)
    (hl : s.heap.NoLimit) (hroom : A.depth < recursionLimit) (hg : s.heap.IsGen a g) (hgs : s.gens[g]? = some gs)
    (hR : ∀ n s₀ r s₁, R n s₀ r s₁ → ((r = .ok (.ret .none) ∨ r = .ok .next) ∧ F n s₀ s₁) ∨ ∃ e, r = .error e ∧ Er e s₁)
    (hgo : gs.Goes (model P w) A.in1 R Y n (.send .none) (s.setGen g .running))
    (hY : ∀ v s₁ gs', Susp gs' → gs'.bare = true → Y (n - 1) (s.setGen g .running) v s₁ (After (model P w) A.in1 R Y gs' n) → Q (some v) (s₁.setGen g gs'))
    (hP : ∀ s₁, F n (s.setGen g .running) s₁ → ∀ h', (∀ b o, s₁.heap.get? b = some o → h'.get? b = some o) → Q none { s₁.setGen g .finished with heap := h' })
    (hE : ∀ e s₁, Er e s₁ → s₁.heap.IsGen a g ∧ NotStop (model P w) e s₁.heap ∧ E e (s₁.setGen g .finished)) :
    wpAny (model P w) A (pyNext (.ref a)) Q E s := by
  unfold pyNext
  refine wpAny_bind (wpAny_attempt (wpAny_callSpecial?_slot (name := Str.ofString "__next__") hg.typeIs slot_gen_next
    (wpAny_call_entry slot_gen_next hg.typeIs entry_gen_next ?_ (args_gen_next _))))
  show wpAny _ A.in1 (Builtin.Generator.genWake (.ref a) (.send .none)) _ _ s
  unfold Builtin.Generator.genWake
  refine wpAny_bind (wpAny_holding (wpAny_genNumber hg (wpAny_bind (wpAny_genState hgs ?_))))
  cases gs with
  | running => exact hgo.elim
  | finished => exact hgo.elim
  | _ =>
    refine wpAny_bind (wpAny_roomToWake hl hroom ?_)
    show wpAny _ A.in1 (.resume g (.send .none) [] _) _ _ s
    refine resume2 hgs hgo (fun x s₁ hx => ?_) (fun v s₁ gs' hs hb hv => wpAny_pure ⟨v, rfl, wpAny_pure (hY v s₁ gs' hs hb hv)⟩)
    rcases hR _ _ _ _ hx with ⟨hr, hp⟩ | ⟨e, rfl, he⟩
    · have hres : End.result (.ret x) = .returned .none := by
        rcases hr with hr | hr <;> rw [hr] <;> rfl
      first | rw [hres] | simp only [hres]
      show wpAny _ A.in1 (newExc (.type "StopIteration") [] >>= _) _ _ _
      refine wpAny_bind ?_
      simp only [newExc, newTuple]
      refine wpAny_bind (wpAny_newObj_type ?_ (by size_fits))
      refine wpAny_bind (m := firstArgMember _ _) (wpAny_of_eq (a := Value.none) (by first | rfl | (simp only [firstArgMember]; rfl)) ?_)
      refine wpAny_newObj_type ?_ (by size_fits)
      simp only [raiseNew]
      refine wpAny_bind (wpAny_bind (wpAny_handled ?_))
      first | rw [show A.in1.handled = none from hh] | rw [hh]
      refine wpAny_throw ?_
      refine wpAny_bind (wpAny_isInstance (T := "StopIteration") (b := true) ⟨_, Heap.get?_push_size _ rfl, rfl⟩ isSubtype_stop ?_)
      exact wpAny_pure (hP s₁ hp _ fun b o hb => Heap.get?_push_of_some _ (Heap.get?_push_of_some _ hb))
    · obtain ⟨hg1, hns, hq⟩ := hE e s₁ he
      obtain ⟨o, nm, qn, ho, hc, hd, hsl⟩ := hg1
      show wpAny _ A.in1 (Builtin.Generator.genLeft (.ref a) e) _ _ _
      unfold Builtin.Generator.genLeft Builtin.Generator.madeByALambda
      refine wpAny_bind (wpAny_bind (wpAny_load (o := o) ho (wpAny_pure ?_)))
      refine wpAny_bind (hns _ _ _ _ rfl ?_)
      rw [Bool.and_false, if_neg Bool.false_ne_true]
      unfold Builtin.Generator.genEscaped
      first
        | refine wpAny_bind (hns _ _ _ _ rfl ?_)
        | refine wpAny_bind (wpAny_pure (wpAny_bind (hns _ _ _ _ rfl ?_)))
      rw [if_pos (show (!false) = true from rfl)]
      first
        | refine wpAny_throw ?_
        | refine wpAny_bind (wpAny_throw ?_)
      refine wpAny_bind (hns _ _ _ _ rfl ?_)
      rw [if_neg Bool.false_ne_true]
      exact wpAny_throw hq
end Gn3

/-! What a suspended generator would do next, no other run asks: put a stuck state in its place, and each run that ends well goes the same way from the real one. -/
namespace Ni
open PySem
/-- resumed, it is stuck -/
def Stk : GenState → Prop
  | .suspended k _ _ _ _ _ => ∀ r, ∃ w, k r = .unsupported w
  | _ => False
def Rl (a b : Array GenState) : Prop := a.size = b.size ∧ ∀ i : Nat, b[i]? = a[i]? ∨ ∃ z y : GenState, a[i]? = some z ∧ Stk z ∧ b[i]? = some y ∧ y.seen = z.seen ∧ y.bare = z.bare
def Nog (a : Array GenState) : Prop := ∀ (i : Nat) k l c p fs cl, a[i]? = some (.suspended k l c p fs cl) → splitAtGen fs = none
/-- stuck ones stay, on both sides -/
def Sty (a b a' b' : Array GenState) : Prop := ∀ (i : Nat) z, a[i]? = some z → Stk z → a'[i]? = some z ∧ b'[i]? = b[i]?
def EndNog : End → Prop
  | .ret _ => True
  | .susp _ _ _ _ _ _ fs => splitAtGen fs = none
theorem no_uns {M : Model} {Γ : PySem.Ctx} {p : Pos} {t : Sem PySem.Fin} {fs : List Frame} {s s' : Shared} {e : End} {w : String} (r : Runs M Γ p t fs s e s') : t = .unsupported w → False := by
  induction r <;> intro h <;> first
    | (cases h; done)
    | (rename_i ih _; exact ih h)
    | (rename_i ih; exact ih h)
theorem Sty.refl (a b : Array GenState) : Sty a b a b := fun _ _ h _ => ⟨h, rfl⟩
theorem Sty.trans {a b a1 b1 a2 b2 : Array GenState} (h : Sty a b a1 b1) (g : Sty a1 b1 a2 b2) : Sty a b a2 b2 := fun i z e k => by
  obtain ⟨h1, h2⟩ := h i z e k
  obtain ⟨g1, g2⟩ := g i z h1 k
  exact ⟨g1, g2.trans h2⟩
theorem split_app : ∀ {fs gs : List Frame}, splitAtGen fs = none → splitAtGen gs = none → splitAtGen (fs ++ gs) = none
  | [], gs, _, h => h
  | .gen .. :: _, _, h, _ => by cases h
  | .ret .. :: fs, gs, h, g => by
    unfold splitAtGen at h
    have h' : splitAtGen fs = none := by cases e : splitAtGen fs with | none => rfl | some x => rw [e] at h; cases h
    show splitAtGen (_ :: (fs ++ gs)) = none
    unfold splitAtGen
    rw [split_app h' g]
    rfl
theorem split_tail {k : Result → Sem PySem.Fin} {h g l c p kp} {fs : List Frame} (e : splitAtGen (.ret k h g l c p kp :: fs) = none) : splitAtGen fs = none := by
  unfold splitAtGen at e
  cases q : splitAtGen fs with
  | none => rfl
  | some x => rw [q] at e; cases e
theorem Rl.at_ {a b : Array GenState} {g : Nat} {x : GenState} (R : Rl a b) (h : a[g]? = some x) (n : ¬ Stk x) : b[g]? = some x := by
  rcases R.2 g with e | ⟨z, y, e, k, _, _⟩
  · rw [e, h]
  · rw [h] at e
    rw [← Option.some.inj e] at k
    exact absurd k n
theorem Rl.set {a b : Array GenState} {g : Nat} {x : GenState} (R : Rl a b) : Rl (a.setIfInBounds g x) (b.setIfInBounds g x) := by
  refine ⟨by rw [Array.size_setIfInBounds, Array.size_setIfInBounds]; exact R.1, fun i => ?_⟩
  rw [Array.getElem?_setIfInBounds, Array.getElem?_setIfInBounds, R.1]
  by_cases e : g = i
  · rw [if_pos e, if_pos e]
    exact .inl rfl
  · rw [if_neg e, if_neg e]
    exact R.2 i
theorem Nog.set {a : Array GenState} {g : Nat} {x : GenState} (N : Nog a) (hx : ∀ k l c p fs cl, x = .suspended k l c p fs cl → splitAtGen fs = none) : Nog (a.setIfInBounds g x) := fun i k l c p fs cl h => by
  rw [Array.getElem?_setIfInBounds] at h
  by_cases e : g = i
  · rw [if_pos e] at h
    split at h
    · exact hx _ _ _ _ _ _ (Option.some.inj h)
    · cases h
  · rw [if_neg e] at h
    exact N i _ _ _ _ _ _ h
theorem Sty.set {a b : Array GenState} {g : Nat} {x y : GenState} (h : a[g]? = some y) (n : ¬ Stk y) : Sty a b (a.setIfInBounds g x) (b.setIfInBounds g x) := fun i z e k => by
  have ne : g ≠ i := fun q => by
    rw [← q, h] at e
    rw [← Option.some.inj e] at k
    exact n k
  rw [Array.getElem?_setIfInBounds, Array.getElem?_setIfInBounds, if_neg ne, if_neg ne]
  exact ⟨e, rfl⟩
theorem Sty.set2 {a b a1 b1 : Array GenState} {g : Nat} {x y : GenState} (h : a[g]? = some y) (n : ¬ Stk y) (S : Sty a b a1 b1) : Sty a b (a1.setIfInBounds g x) (b1.setIfInBounds g x) := fun i z e k => by
  have ne : g ≠ i := fun q => by
    rw [← q, h] at e
    rw [← Option.some.inj e] at k
    exact n k
  obtain ⟨s1, s2⟩ := S i z e k
  rw [Array.getElem?_setIfInBounds, Array.getElem?_setIfInBounds, if_neg ne, if_neg ne]
  exact ⟨s1, s2⟩
theorem end_nog {e : End} (h : EndNog e) : ∀ k l c p fs cl, e.genState = .suspended k l c p fs cl → splitAtGen fs = none := fun k l c p fs cl q => by
  cases e with
  | ret r => cases q
  | susp v g l0 k0 c0 p0 fs0 =>
    cases q
    exact h
theorem nog_plain {x : GenState} (h : ∀ k l c p fs cl, x ≠ .suspended k l c p fs cl) : ∀ k l c p fs cl, x = .suspended k l c p fs cl → splitAtGen fs = none := fun k l c p fs cl e => absurd e (h _ _ _ _ _ _)
/-- the same run from the real states: what is stuck stays so, and the real ones stay as they were -/
theorem ni {M : Model} {Γ : PySem.Ctx} {p : Pos} {t : Sem PySem.Fin} {fs : List Frame} {s s' : Shared} {e : End} (r : Runs M Γ p t fs s e s') : ∀ b, Rl s.gens b → Nog s.gens → splitAtGen fs = none →
    ∃ b', Runs M Γ p t fs { s with gens := b } e { s' with gens := b' } ∧ Rl s'.gens b' ∧ Sty s.gens b s'.gens b' ∧ Nog s'.gens ∧ EndNog e := by
  induction r with
  | done => intro b R N _; exact ⟨b, .done, R, .refl _ _, N, trivial⟩
  | raise => intro b R N _; exact ⟨b, .raise, R, .refl _ _, N, trivial⟩
  | again hq _ ih => intro b R N F; obtain ⟨b', r', q⟩ := ih b R N F; exact ⟨b', .again hq r', q⟩
  | rule _ ih => intro b R N F; obtain ⟨b', r', q⟩ := ih b R N F; exact ⟨b', .rule r', q⟩
  | «at» _ ih => intro b R N F; obtain ⟨b', r', q⟩ := ih b R N F; exact ⟨b', .at r', q⟩
  | load ho _ ih => intro b R N F; obtain ⟨b', r', q⟩ := ih b R N F; exact ⟨b', .load ho r', q⟩
  | update ha _ ih => intro b R N F; obtain ⟨b', r', q⟩ := ih b R N F; exact ⟨b', .update ha r', q⟩
  | loadIfAlive _ ih => intro b R N F; obtain ⟨b', r', q⟩ := ih b R N F; exact ⟨b', .loadIfAlive r', q⟩
  | point _ ih => intro b R N F; obtain ⟨b', r', q⟩ := ih b R N F; exact ⟨b', .point r', q⟩
  | alloc _ ih => intro b R N F; obtain ⟨b', r', q⟩ := ih b R N F; exact ⟨b', .alloc r', q⟩
  | fresh _ ih => intro b R N F; obtain ⟨b', r', q⟩ := ih b R N F; exact ⟨b', .fresh r', q⟩
  | ask _ ih => intro b R N F; obtain ⟨b', r', q⟩ := ih b R N F; exact ⟨b', .ask r', q⟩
  | choose hn _ ih => intro b R N F; obtain ⟨b', r', q⟩ := ih b R N F; exact ⟨b', .choose hn r', q⟩
  | os _ ih => intro b R N F; obtain ⟨b', r', q⟩ := ih b R N F; exact ⟨b', .os r', q⟩
  | handled _ ih => intro b R N F; obtain ⟨b', r', q⟩ := ih b R N F; exact ⟨b', .handled r', q⟩
  | stack _ ih => intro b R N F; obtain ⟨b', r', q⟩ := ih b R N F; exact ⟨b', .stack r', q⟩
  | thread _ ih => intro b R N F; obtain ⟨b', r', q⟩ := ih b R N F; exact ⟨b', .thread r', q⟩
  | @genState g st Γ p k s e s' hg _ ih =>
    intro b R N F
    obtain ⟨b', r', q⟩ := ih b R N F
    rcases R.2 g with eb | ⟨z, y, ez, kz, ey, se, _⟩
    · exact ⟨b', .genState (show b[g]? = some st by rw [eb, hg]) r', q⟩
    · rw [hg] at ez
      obtain rfl := Option.some.inj ez
      exact ⟨b', .genState (show b[g]? = some y from ey) (by rw [se]; exact r'), q⟩
  | @newGen Γ p k s e s' c _ ih =>
    intro b R N F
    have R2 : Rl (s.gens.push (.fresh c)) (b.push (.fresh c)) := by
      refine ⟨by rw [Array.size_push, Array.size_push, R.1], fun i => ?_⟩
      rw [Array.getElem?_push, Array.getElem?_push, R.1]
      split
      · exact .inl rfl
      · exact R.2 i
    have N2 : Nog (s.gens.push (.fresh c)) := fun i k l c p fs cl h => by
      rw [Array.getElem?_push] at h
      split at h
      · cases h
      · exact N i _ _ _ _ _ _ h
    obtain ⟨b', r', q1, q2, q3⟩ := ih _ R2 N2 F
    refine ⟨b', .newGen ?_, q1, fun i z ez kz => ?_, q3⟩
    · show Runs M Γ p (k b.size) [] _ _ _
      rw [← R.1]
      exact r'
    · have li : i < s.gens.size := (Array.getElem?_eq_some_iff.mp ez).1
      have e2 : (s.gens.push (.fresh c))[i]? = some z := by rw [Array.getElem?_push, if_neg (by omega)]; exact ez
      obtain ⟨x1, x2⟩ := q2 i z e2 kz
      refine ⟨x1, x2.trans ?_⟩
      rw [Array.getElem?_push, if_neg (by rw [← R.1]; omega)]
  | call _ _ ih1 ih2 =>
    intro b R N F
    obtain ⟨b1, r1, R1, S1, N1, _⟩ := ih1 b R N rfl
    obtain ⟨b2, r2, R2, S2, q⟩ := ih2 b1 R1 N1 rfl
    exact ⟨b2, .call r1 r2, R2, S1.trans S2, q⟩
  | callSusp _ ih =>
    intro b R N F
    obtain ⟨b1, r1, R1, S1, N1, E1⟩ := ih b R N rfl
    exact ⟨b1, .callSusp r1, R1, S1, N1, split_app E1 rfl⟩
  | yield => intro b R N _; exact ⟨b, .yield, R, .refl _ _, N, rfl⟩
  | resumeFresh hg _ hq _ ih1 ih2 =>
    intro b R N F
    have hb := R.at_ hg (fun z => z)
    obtain ⟨b1, r1, R1, S1, N1, E1⟩ := ih1 _ R.set (N.set (nog_plain fun _ _ _ _ _ _ z => by cases z)) rfl
    obtain ⟨b2, r2, R2, S2, q⟩ := ih2 _ R1.set (N1.set (end_nog E1)) rfl
    exact ⟨b2, .resumeFresh hb r1 hq r2, R2, (Sty.set2 hg (fun z => z) ((Sty.set hg (fun z => z)).trans S1)).trans S2, q⟩
  | @resumeSuspended Γ p g r l k s k₀ l₀ c₀ p₀ fs cl e₁ s₁ e s' hg hr hq _ ih1 ih2 =>
    intro b R N F
    have ns : ¬ Stk (.suspended k₀ l₀ c₀ p₀ fs cl) := fun z => by
      obtain ⟨w, ew⟩ := z r
      exact no_uns hr ew
    have hb := R.at_ hg ns
    obtain ⟨b1, r1, R1, S1, N1, E1⟩ := ih1 _ R.set (N.set (nog_plain fun _ _ _ _ _ _ z => by cases z)) (N _ _ _ _ _ _ _ hg)
    obtain ⟨b2, r2, R2, S2, q⟩ := ih2 _ R1.set (N1.set (end_nog E1)) rfl
    exact ⟨b2, .resumeSuspended hb r1 hq r2, R2, (Sty.set2 hg ns ((Sty.set hg ns).trans S1)).trans S2, q⟩
  | resumeJustStarted hg hv _ ih =>
    intro b R N F
    obtain ⟨b', r', q⟩ := ih b R N F
    exact ⟨b', .resumeJustStarted (R.at_ hg (fun z => z)) hv r', q⟩
  | resumeThrowFresh hg _ ih =>
    intro b R N F
    obtain ⟨b', r', R', S', q⟩ := ih _ R.set (N.set (nog_plain fun _ _ _ _ _ _ z => by cases z)) F
    exact ⟨b', .resumeThrowFresh (R.at_ hg (fun z => z)) r', R', (Sty.set hg (fun z => z)).trans S', q⟩
  | resumeRunning hg _ ih =>
    intro b R N F
    obtain ⟨b', r', q⟩ := ih b R N F
    exact ⟨b', .resumeRunning (R.at_ hg (fun z => z)) r', q⟩
  | resumeFinished hg _ ih =>
    intro b R N F
    obtain ⟨b', r', q⟩ := ih b R N F
    exact ⟨b', .resumeFinished (R.at_ hg (fun z => z)) r', q⟩
  | segRet _ _ ih1 ih2 =>
    intro b R N F
    obtain ⟨b1, r1, R1, S1, N1, _⟩ := ih1 b R N rfl
    obtain ⟨b2, r2, R2, S2, q⟩ := ih2 b1 R1 N1 (split_tail F)
    exact ⟨b2, .segRet r1 r2, R2, S1.trans S2, q⟩
  | segGen _ _ _ _ => intro b R N F; cases F
  | segSuspOut hs _ ih =>
    intro b R N F
    obtain ⟨b1, r1, R1, S1, N1, E1⟩ := ih b R N rfl
    exact ⟨b1, .segSuspOut hs r1, R1, S1, N1, split_app E1 F⟩
  | segSuspGen hs _ _ _ _ _ => intro b R N F; rw [F] at hs; cases hs
theorem push_all {a b : Array GenState} {c : Code} (R : Rl a b) (N : Nog a) : Rl (a.push (.fresh c)) (b.push (.fresh c)) ∧ Nog (a.push (.fresh c)) ∧ Sty a b (a.push (.fresh c)) (b.push (.fresh c)) := by
  refine ⟨⟨by rw [Array.size_push, Array.size_push, R.1], fun i => ?_⟩, fun i k l c p fs cl h => ?_, fun i z ez kz => ?_⟩
  · rw [Array.getElem?_push, Array.getElem?_push, R.1]
    split
    · exact .inl rfl
    · exact R.2 i
  · rw [Array.getElem?_push] at h
    split at h
    · cases h
    · exact N i _ _ _ _ _ _ h
  · have li : i < a.size := (Array.getElem?_eq_some_iff.mp ez).1
    refine ⟨by rw [Array.getElem?_push, if_neg (by omega)]; exact ez, ?_⟩
    rw [Array.getElem?_push, if_neg (by rw [← R.1]; omega)]
theorem wakes_ni {M : Model} {Γ : PySem.Ctx} {p : Pos} {g : Nat} {r : Resume} {s s' : Shared} {res : GenResult} (h : Wakes M Γ p g r s res s') : ∀ b, Rl s.gens b → Nog s.gens →
    ∃ b', Wakes M Γ p g r { s with gens := b } res { s' with gens := b' } ∧ Rl s'.gens b' ∧ Sty s.gens b s'.gens b' ∧ Nog s'.gens := by
  intro b R N
  unfold Wakes at h
  split at h
  · exact h.elim
  · rename_i c hg
    have hb := R.at_ hg (fun z => z)
    split at h
    · obtain ⟨e1, s1, r1, hq, rfl, rfl⟩ := h
      obtain ⟨b1, r2, R1, S1, N1, E1⟩ := ni r1 _ R.set (N.set (nog_plain fun _ _ _ _ _ _ z => by cases z)) rfl
      refine ⟨b1.setIfInBounds g e1.genState, ?_, R1.set, Sty.set2 hg (fun z => z) ((Sty.set hg (fun z => z)).trans S1), N1.set (end_nog E1)⟩
      unfold Wakes
      rw [show ({ s with gens := b } : Shared).gens[g]? = some (.fresh c) from hb]
      exact ⟨e1, _, r2, hq, rfl, rfl⟩
    · obtain ⟨rfl, rfl⟩ := h
      refine ⟨b, ?_, R, .refl _ _, N⟩
      unfold Wakes
      rw [show ({ s' with gens := b } : Shared).gens[g]? = some (.fresh c) from hb]
      rename_i v nv
      cases v <;> first | exact ⟨rfl, rfl⟩ | exact (nv rfl).elim
    · obtain ⟨rfl, rfl⟩ := h
      refine ⟨b.setIfInBounds g .finished, ?_, R.set, Sty.set hg (fun z => z), N.set (nog_plain fun _ _ _ _ _ _ z => by cases z)⟩
      unfold Wakes
      rw [show ({ s with gens := b } : Shared).gens[g]? = some (.fresh c) from hb]
      exact ⟨rfl, rfl⟩
  · rename_i k₀ l₀ c₀ p₀ fs cl hg
    obtain ⟨e1, s1, r1, hq, rfl, rfl⟩ := h
    have ns : ¬ Stk (.suspended k₀ l₀ c₀ p₀ fs cl) := fun z => by
      obtain ⟨w, ew⟩ := z r
      exact no_uns r1 ew
    have hb := R.at_ hg ns
    obtain ⟨b1, r2, R1, S1, N1, E1⟩ := ni r1 _ R.set (N.set (nog_plain fun _ _ _ _ _ _ z => by cases z)) (N _ _ _ _ _ _ _ hg)
    refine ⟨b1.setIfInBounds g e1.genState, ?_, R1.set, Sty.set2 hg ns ((Sty.set hg ns).trans S1), N1.set (end_nog E1)⟩
    unfold Wakes
    rw [show ({ s with gens := b } : Shared).gens[g]? = some (.suspended k₀ l₀ c₀ p₀ fs cl) from hb]
    exact ⟨e1, _, r2, hq, rfl, rfl⟩
  · rename_i hg
    obtain ⟨rfl, rfl⟩ := h
    refine ⟨b, ?_, R, .refl _ _, N⟩
    unfold Wakes
    rw [show ({ s' with gens := b } : Shared).gens[g]? = some .running from R.at_ hg (fun z => z)]
    exact ⟨rfl, rfl⟩
  · rename_i hg
    obtain ⟨rfl, rfl⟩ := h
    refine ⟨b, ?_, R, .refl _ _, N⟩
    unfold Wakes
    rw [show ({ s' with gens := b } : Shared).gens[g]? = some .finished from R.at_ hg (fun z => z)]
    exact ⟨rfl, rfl⟩
/-- what holds at the end from the stuck states, where the real ones go beside -/
def Bs (a b : Array GenState) (P : Shared → Prop) : Shared → Prop := fun s'' => ∃ s' b', s'' = { s' with gens := b' } ∧ P s' ∧ Rl s'.gens b' ∧ Sty a b s'.gens b'
theorem Bs.after {a b a1 b1 : Array GenState} {P : Shared → Prop} {s : Shared} (S : Sty a b a1 b1) (h : Bs a1 b1 P s) : Bs a b P s := by
  obtain ⟨s', b', e, q, R, S'⟩ := h
  exact ⟨s', b', e, q, R, S.trans S'⟩
theorem wp_mono' {α : Type} {M : Model} {Γ : PySem.Ctx} (t : Sem α) : ∀ {Q Q' : α → Pos → Shared → Prop} {E E' : Value → Pos → Shared → Prop} {p : Pos} {s : Shared}, (∀ a p s, Q a p s → Q' a p s) → (∀ a p s, E a p s → E' a p s) → Sem.wp M Γ t Q E p s → Sem.wp M Γ t Q' E' p s := by
  induction t with
  | pure a => intro Q Q' E E' p s hq he h; rw [Sem.wp] at h ⊢; exact hq _ _ _ h
  | raise e => intro Q Q' E E' p s hq he h; rw [Sem.wp] at h ⊢; exact he _ _ _ h
  | unsupported w => intro Q Q' E E' p s hq he h; rw [Sem.wp] at h; exact h.elim
  | finish w => intro Q Q' E E' p s hq he h; rw [Sem.wp] at h; exact h.elim
  | rule _ k ih => intro Q Q' E E' p s hq he h; rw [Sem.wp] at h ⊢; exact ih _ hq he h
  | «at» _ k ih => intro Q Q' E E' p s hq he h; rw [Sem.wp] at h ⊢; exact ih _ hq he h
  | load a _ k ih => intro Q Q' E E' p s hq he h; rw [Sem.wp] at h ⊢; obtain ⟨o, e, h⟩ := h; exact ⟨o, e, ih _ hq he h⟩
  | update a _ f k ih => intro Q Q' E E' p s hq he h; rw [Sem.wp] at h ⊢; exact ⟨h.1, ih _ hq he h.2⟩
  | alloc o k ih => intro Q Q' E E' p s hq he h; rw [Sem.wp] at h ⊢; exact ih _ hq he h
  | loadIfAlive a k ih => intro Q Q' E E' p s hq he h; rw [Sem.wp] at h ⊢; exact ih _ hq he h
  | point _ k ih => intro Q Q' E E' p s hq he h; rw [Sem.wp] at h ⊢; exact ih _ hq he h
  | register _ k ih => intro Q Q' E E' p s hq he h; rw [Sem.wp] at h; exact h.elim
  | fresh k ih => intro Q Q' E E' p s hq he h; rw [Sem.wp] at h ⊢; exact ih _ hq he h
  | ask k ih => intro Q Q' E E' p s hq he h; rw [Sem.wp] at h ⊢; exact ih _ hq he h
  | choose src m k ih => intro Q Q' E E' p s hq he h; rw [Sem.wp] at h ⊢; exact ⟨h.1, ih _ hq he h.2⟩
  | os q _ k ih => intro Q Q' E E' p s hq he h; rw [Sem.wp] at h ⊢; exact ih _ hq he h
  | call c hd _ _ k ih => intro Q Q' E E' p s hq he h; rw [Sem.wp] at h ⊢; obtain ⟨r, s1, h1, h2⟩ := h; exact ⟨r, s1, h1, ih _ hq he h2⟩
  | handled own k ih => intro Q Q' E E' p s hq he h; rw [Sem.wp] at h ⊢; exact ih _ hq he h
  | newGen c k ih => intro Q Q' E E' p s hq he h; rw [Sem.wp] at h ⊢; exact ih _ hq he h
  | genState g k ih => intro Q Q' E E' p s hq he h; rw [Sem.wp] at h ⊢; obtain ⟨o, e, h⟩ := h; exact ⟨o, e, ih _ hq he h⟩
  | resume g r _ k ih => intro Q Q' E E' p s hq he h; rw [Sem.wp] at h ⊢; obtain ⟨r, s1, h1, h2⟩ := h; exact ⟨r, s1, h1, ih _ hq he h2⟩
  | yield _ _ _ k ih => intro Q Q' E E' p s hq he h; rw [Sem.wp] at h; exact h.elim
  | stack k ih => intro Q Q' E E' p s hq he h; rw [Sem.wp] at h ⊢; exact ih _ hq he h
  | fork _ k ih => intro Q Q' E E' p s hq he h; rw [Sem.wp] at h; exact h.elim
  | thread k ih => intro Q Q' E E' p s hq he h; rw [Sem.wp] at h ⊢; exact ih _ hq he h
  | await _ _ _ _ k ih => intro Q Q' E E' p s hq he h; rw [Sem.wp] at h; exact h.elim
theorem wp_ni {α : Type} {M : Model} {Γ : PySem.Ctx} (t : Sem α) : ∀ (Q : α → Pos → Shared → Prop) (E : Value → Pos → Shared → Prop) (p : Pos) (s : Shared) (b : Array GenState), Rl s.gens b → Nog s.gens → Sem.wp M Γ t Q E p s →
    Sem.wp M Γ t (fun a p' => Bs s.gens b (Q a p')) (fun a p' => Bs s.gens b (E a p')) p { s with gens := b } := by
  induction t with
  | pure a => intro Q E p s b R N h; rw [Sem.wp] at h ⊢; exact ⟨s, b, rfl, h, R, .refl _ _⟩
  | raise e => intro Q E p s b R N h; rw [Sem.wp] at h ⊢; exact ⟨s, b, rfl, h, R, .refl _ _⟩
  | unsupported w => intro Q E p s b R N h; rw [Sem.wp] at h; exact h.elim
  | finish w => intro Q E p s b R N h; rw [Sem.wp] at h; exact h.elim
  | rule _ k ih => intro Q E p s b R N h; rw [Sem.wp] at h ⊢; exact ih _ _ _ _ s b R N h
  | «at» _ k ih => intro Q E p s b R N h; rw [Sem.wp] at h ⊢; exact ih _ _ _ _ s b R N h
  | load a _ k ih => intro Q E p s b R N h; rw [Sem.wp] at h ⊢; obtain ⟨o, e, h⟩ := h; exact ⟨o, e, ih _ _ _ _ s b R N h⟩
  | update a _ f k ih => intro Q E p s b R N h; rw [Sem.wp] at h ⊢; exact ⟨h.1, ih _ _ _ _ { s with heap := s.heap.update a f } b R N h.2⟩
  | alloc o k ih => intro Q E p s b R N h; rw [Sem.wp] at h ⊢; exact ih _ _ _ _ { s with heap := s.heap.push o } b R N h
  | loadIfAlive a k ih => intro Q E p s b R N h; rw [Sem.wp] at h ⊢; exact ih _ _ _ _ s b R N h
  | point _ k ih => intro Q E p s b R N h; rw [Sem.wp] at h ⊢; exact ih _ _ _ _ s b R N h
  | register _ k ih => intro Q E p s b R N h; rw [Sem.wp] at h; exact h.elim
  | fresh k ih => intro Q E p s b R N h; rw [Sem.wp] at h ⊢; exact ih _ _ _ _ { s with toks := s.toks + 1 } b R N h
  | ask k ih => intro Q E p s b R N h; rw [Sem.wp] at h ⊢; exact ih _ _ _ _ s b R N h
  | choose src m k ih => intro Q E p s b R N h; rw [Sem.wp] at h ⊢; exact ⟨h.1, ih _ _ _ _ { s with drawn := s.drawn.bump src } b R N h.2⟩
  | os q _ k ih => intro Q E p s b R N h; rw [Sem.wp] at h ⊢; exact ih _ _ _ _ { s with os := (Os.step s.os q).1 } b R N h
  | call c hd _ _ k ih =>
    intro Q E p s b R N h
    rw [Sem.wp] at h ⊢
    obtain ⟨r, s1, h1, h2⟩ := h
    obtain ⟨b1, r1, R1, S1, N1, _⟩ := ni h1 b R N rfl
    exact ⟨r, _, r1, wp_mono' _ (fun _ _ _ z => z.after S1) (fun _ _ _ z => z.after S1) (ih _ _ _ _ s1 b1 R1 N1 h2)⟩
  | handled own k ih => intro Q E p s b R N h; rw [Sem.wp] at h ⊢; exact ih _ _ _ _ s b R N h
  | newGen c k ih =>
    intro Q E p s b R N h
    rw [Sem.wp] at h ⊢
    obtain ⟨R2, N2, S2⟩ := push_all (c := c) R N
    have q := ih s.gens.size _ _ _ { s with gens := s.gens.push (.fresh c) } _ R2 N2 h
    refine wp_mono' (Q := fun a p' => Bs (s.gens.push (.fresh c)) (b.push (.fresh c)) (Q a p')) (E := fun a p' => Bs (s.gens.push (.fresh c)) (b.push (.fresh c)) (E a p')) _ (fun _ _ _ z => Bs.after S2 z) (fun _ _ _ z => Bs.after S2 z) ?_
    show Sem.wp M Γ (k b.size) _ _ _ _
    rw [← R.1]
    exact q
  | genState g k ih =>
    intro Q E p s b R N h
    rw [Sem.wp] at h ⊢
    obtain ⟨st, hg, h⟩ := h
    rcases R.2 g with eb | ⟨z, y, ez, kz, ey, se, _⟩
    · exact ⟨st, by rw [show ({ s with gens := b } : Shared).gens[g]? = b[g]? from rfl, eb, hg], ih _ _ _ _ s b R N h⟩
    · rw [hg] at ez
      obtain rfl := Option.some.inj ez
      exact ⟨y, ey, by rw [se]; exact ih _ _ _ _ s b R N h⟩
  | resume g r _ k ih =>
    intro Q E p s b R N h
    rw [Sem.wp] at h ⊢
    obtain ⟨r, s1, h1, h2⟩ := h
    obtain ⟨b1, r1, R1, S1, N1⟩ := wakes_ni h1 b R N
    exact ⟨r, _, r1, wp_mono' _ (fun _ _ _ z => z.after S1) (fun _ _ _ z => z.after S1) (ih _ _ _ _ s1 b1 R1 N1 h2)⟩
  | yield _ _ _ k ih => intro Q E p s b R N h; rw [Sem.wp] at h; exact h.elim
  | stack k ih => intro Q E p s b R N h; rw [Sem.wp] at h ⊢; exact ih _ _ _ _ s b R N h
  | fork _ k ih => intro Q E p s b R N h; rw [Sem.wp] at h; exact h.elim
  | thread k ih => intro Q E p s b R N h; rw [Sem.wp] at h ⊢; exact ih _ _ _ _ s b R N h
  | await _ _ _ _ k ih => intro Q E p s b R N h; rw [Sem.wp] at h; exact h.elim
/-- the stuck one that looks alike -/
def unk : GenState → GenState
  | .suspended _ l c p fs cl => .suspended (fun _ => .unsupported "") l c p (fs.map fun f => .ret (fun _ => .unsupported "") none false [] f.where_.1 f.where_.2 []) cl
  | x => x
theorem unk_split : ∀ fs : List Frame, splitAtGen (fs.map fun f => .ret (fun _ => .unsupported "") none false [] f.where_.1 f.where_.2 []) = none
  | [] => rfl
  | f :: fs => by
    show splitAtGen (.ret _ _ _ _ _ _ _ :: _) = none
    unfold splitAtGen
    rw [unk_split fs]
    rfl
theorem unk_nog (b : Array GenState) : Nog (b.map unk) := fun i k l c p fs cl h => by
  rw [Array.getElem?_map] at h
  obtain ⟨x, hx, e⟩ := Option.map_eq_some_iff.mp h
  cases x with
  | suspended k0 l0 c0 p0 fs0 cl0 =>
    cases e
    exact unk_split fs0
  | _ => cases e
theorem unk_rl (b : Array GenState) : Rl (b.map unk) b := by
  refine ⟨Array.size_map .., fun i => ?_⟩
  rw [Array.getElem?_map]
  cases e : b[i]? with
  | none => exact .inl rfl
  | some x =>
    cases x with
    | suspended k0 l0 c0 p0 fs0 cl0 =>
      refine .inr ⟨_, _, rfl, fun r => ⟨_, rfl⟩, rfl, ?_, rfl⟩
      show (GenStatus.suspended, some ((c0, p0) :: fs0.map Frame.where_)) = (GenStatus.suspended, some ((c0, p0) :: (fs0.map _).map Frame.where_))
      rw [List.map_map]
      rfl
    | _ => exact .inl rfl
theorem unk_bare {b : Array GenState} (h : PyProof.Rows.AllBare b) : PyProof.Rows.AllBare (b.map unk) := fun y hy => by
  obtain ⟨x, hx, rfl⟩ := Array.mem_map.mp hy
  have := h x hx
  cases x <;> exact this
theorem Rl.bare {a b : Array GenState} (R : Rl a b) (h : PyProof.Rows.AllBare a) : PyProof.Rows.AllBare b := fun y hy => by
  obtain ⟨i, hi⟩ := Array.mem_iff_getElem?.mp hy
  rcases R.2 i with e | ⟨z, y', ez, _, ey, _, eb⟩
  · rw [hi] at e
    exact h y (Array.mem_iff_getElem?.mpr ⟨i, e.symm⟩)
  · rw [hi] at ey
    rw [Option.some.inj ey, eb]
    exact h z (Array.mem_iff_getElem?.mpr ⟨i, ez⟩)
/-- the suspended ones of a stand in b -/
def Kp (a b : Array GenState) : Prop := ∀ (i : Nat) k l c p fs cl, a[i]? = some (.suspended k l c p fs cl) → b[i]? = some (.suspended k l c p fs cl)
theorem Kp.refl (a : Array GenState) : Kp a a := fun _ _ _ _ _ _ _ h => h
theorem Kp.trans {a b c : Array GenState} (h : Kp a b) (g : Kp b c) : Kp a c := fun i k l d p fs cl e => g i k l d p fs cl (h i k l d p fs cl e)
theorem sty_kp {a a' b' : Array GenState} (S : Sty (a.map unk) a a' b') : Kp a b' := fun i k l c p fs cl e => by
  have q := S i (unk (.suspended k l c p fs cl)) (by rw [Array.getElem?_map, e]; rfl) (fun r => ⟨_, rfl⟩)
  rw [q.2, e]
/-- what runs from any generators leaves the suspended ones as they were -/
theorem wpAny_ni {α : Type} {M : Model} {A : Around} {t : Sem α} {Q : α → Shared → Prop} {E : Value → Shared → Prop} {s : Shared} (h : wpAny M A t Q E { s with gens := s.gens.map unk }) :
    wpAny M A t (fun a s'' => ∃ s' b', s'' = { s' with gens := b' } ∧ Q a s' ∧ Rl s'.gens b' ∧ Kp s.gens b') (fun a s'' => ∃ s' b', s'' = { s' with gens := b' } ∧ E a s' ∧ Rl s'.gens b' ∧ Kp s.gens b') s := fun Γ p hΓ =>
  wp_mono' _ (fun _ _ _ ⟨s', b', e, q, R, S⟩ => ⟨s', b', e, q, R, sty_kp S⟩) (fun _ _ _ ⟨s', b', e, q, R, S⟩ => ⟨s', b', e, q, R, sty_kp S⟩) (wp_ni t _ _ p { s with gens := s.gens.map unk } s.gens (unk_rl _) (unk_nog _) (h Γ p hΓ))
end Ni
/-! One turn of the consumer, the walked generator untouched. -/
namespace Gl
open PySem PySem.Spec PyProof.Rows GenW L2
theorem inv_gens {X : Cx} {pins : List (Addr × Obj)} {σ : L2.St} {H : Hp} {s : Shared} {b : Array GenState} (I : Inv X pins σ H s) (hb : AllBare b) : Inv X pins σ H { s with gens := b } :=
  ⟨I.ok, I.os, hb, I.base, I.loc, I.cell, I.free, I.freeC, I.pin, I.hok, I.len⟩
/-- a statement's end with other generators -/
theorem sp_gens {X : Cx} {pins : List (Addr × Obj)} {D : Ends} {f : Flow} {s : Shared} {b : Array GenState} (h : SP X pins D f s) (hb : AllBare s.gens → AllBare b) : SP X pins D f { s with gens := b } := by
  cases f with
  | next => obtain ⟨σ, H, I, q⟩ := h; exact ⟨σ, H, inv_gens I (hb I.bare), q⟩
  | brk => obtain ⟨σ, H, I, q⟩ := h; exact ⟨σ, H, inv_gens I (hb I.bare), q⟩
  | cont => obtain ⟨σ, H, I, q⟩ := h; exact ⟨σ, H, inv_gens I (hb I.bare), q⟩
  | ret u => obtain ⟨v, σ, H, I, r, q⟩ := h; exact ⟨v, σ, H, inv_gens I (hb I.bare), r, q⟩
/-- that an exception is wanted has nothing to do with the generators -/
def Calm (X : Cx) : Prop := ∀ u s b, X.xe u s → X.xe u { s with gens := b }
/-- the body, run beside suspended generators -/
theorem body_ni {X : Cx} {body : List Stmt} {tb : TS} {pins : List (Addr × Obj)} {σ : L2.St} {H : Hp} {s : Shared} {D : Ends} (hb : PSs X body tb) (hx : Calm X) (I : Inv X pins σ H s) (h : tb D σ H) :
    wpAny (model X.prog X.w) X.A (execs body X.env) (fun f t => SP X pins D f t ∧ Ni.Kp s.gens t.gens) X.xe s := by
  refine wpAny_mono (Ni.wpAny_ni (hb.run pins { s with gens := s.gens.map Ni.unk } σ H D (inv_gens I (Ni.unk_bare I.bare)) h)) (fun f t ⟨t', b, e, q, R, k⟩ => ?_) fun u t ⟨t', b, e, q, _, _⟩ => ?_
  · subst e
    exact ⟨sp_gens q R.bare, k⟩
  · subst e
    exact hx u t' b q
theorem goes_ni {X : Cx} {tg : Expr} {g : TG} {pins : List (Addr × Obj)} {σ : L2.St} {H : Hp} {s : Shared} {x : V} {v : Value} {Q : L2.St → Hp → Prop} (hg : PG X tg g) (hx : Calm X) (I : Inv X pins σ H s) (r : RelV x v) (h : g x σ H Q) :
    wpAny (model X.prog X.w) X.A (assign tg X.env v) (fun _ t => (∃ σ2 H2, Inv X pins σ2 H2 t ∧ Q σ2 H2) ∧ Ni.Kp s.gens t.gens) X.xe s := by
  refine wpAny_mono (Ni.wpAny_ni (hg.run pins { s with gens := s.gens.map Ni.unk } σ H x v Q (inv_gens I (Ni.unk_bare I.bare)) r h)) (fun _ t ⟨t', b, e, q, R, k⟩ => ?_) fun u t ⟨t', b, e, q, _, _⟩ => ?_
  · subst e
    obtain ⟨σ2, H2, I2, q2⟩ := q
    exact ⟨⟨σ2, H2, inv_gens I2 (R.bare I2.bare), q2⟩, k⟩
  · subst e
    exact hx u t' b q
end Gl

/-! A consumer walks a generator: what the two say of one another from one item to the next. -/
namespace Lg
open PySem PySem.Spec PyProof.Rows GenW L2 G3
/-- the objects at some addresses as they stand in another heap -/
def patch (h2 : Heap) : List Addr → Heap → Heap
  | [], h => h
  | b :: l, h => patch h2 l (match h2.get? b with | some o => h.update b (fun _ => o) | none => h)
theorem patch_size (h2 : Heap) : ∀ (l : List Addr) (h : Heap), (patch h2 l h).objs.size = h.objs.size
  | [], _ => rfl
  | b :: l, h => by
    show (patch h2 l _).objs.size = _
    rw [patch_size h2 l]
    cases h2.get? b with
    | none => rfl
    | some o => exact Heap.size_after_update ..
theorem patch_other (h2 : Heap) {c : Addr} : ∀ (l : List Addr) (h : Heap), c ∉ l → (patch h2 l h).get? c = h.get? c
  | [], _, _ => rfl
  | b :: l, h, n => by
    show (patch h2 l _).get? c = _
    rw [patch_other h2 l _ (fun z => n (List.mem_cons_of_mem _ z))]
    have ne : b ≠ c := fun z => n (by rw [z]; exact List.mem_cons_self)
    cases h2.get? b with
    | none => rfl
    | some o => exact Heap.get?_update_other h _ ne
theorem alive_of {h : Heap} {a : Addr} {o : Obj} (e : h.get? a = some o) : o.isFreed = false := (Heap.get?_some_iff.mp e).2
theorem patch_at (h2 : Heap) {c : Addr} {x o : Obj} (e2 : h2.get? c = some o) : ∀ (l : List Addr) (h : Heap), c ∈ l → h.get? c = some x → (patch h2 l h).get? c = some o
  | [], _, m, _ => by cases m
  | b :: l, h, m, e => by
    show (patch h2 l _).get? c = _
    by_cases eb : b = c
    · subst eb
      rw [e2]
      have u : (h.update b (fun _ => o)).get? b = some o := Heap.get?_update_self _ e (alive_of e2)
      by_cases ml : b ∈ l
      · exact patch_at h2 e2 l _ ml u
      · show (patch h2 l _).get? b = _
        rw [patch_other h2 l _ ml]
        exact u
    · have ml : c ∈ l := (List.mem_cons.mp m).resolve_left fun z => eb z.symm
      cases h2.get? b with
      | none => exact patch_at h2 e2 l _ ml e
      | some o1 => exact patch_at h2 e2 l _ ml (by rw [Heap.get?_update_other h _ eb]; exact e)
/-- all that stands untracked and may be pinned -/
noncomputable def free (X : Cx) (H : Hp) (h : Heap) : List (Addr × Obj) := (List.range h.objs.size).filterMap fun b => match h.get? b with
  | some o => if @decide (H b = none ∧ b ≠ X.env.locals ∧ b ∉ X.fs ∧ ∀ v, o.data ≠ .cell v) (Classical.propDecidable _) = true then some (b, o) else none
  | none => none
theorem mem_free {X : Cx} {H : Hp} {h : Heap} {q : Addr × Obj} : q ∈ free X H h ↔ h.get? q.1 = some q.2 ∧ H q.1 = none ∧ q.1 ≠ X.env.locals ∧ q.1 ∉ X.fs ∧ ∀ v, q.2.data ≠ .cell v := by
  unfold free
  rw [List.mem_filterMap]
  constructor
  · rintro ⟨b, _, e⟩
    cases g : h.get? b with
    | none => rw [g] at e; cases e
    | some o =>
      rw [g] at e
      have e : (if @decide (H b = none ∧ b ≠ X.env.locals ∧ b ∉ X.fs ∧ ∀ v, o.data ≠ .cell v) (Classical.propDecidable _) = true then some (b, o) else none) = some q := e
      split at e
      · rename_i c
        have z := Option.some.inj e
        rw [← z]
        exact ⟨g, @of_decide_eq_true _ (Classical.propDecidable _) c⟩
      · cases e
  · rintro ⟨g, c⟩
    refine ⟨q.1, List.mem_range.mpr (Heap.lt_size g), ?_⟩
    rw [g]
    show (if @decide _ (Classical.propDecidable _) = true then some (q.1, q.2) else none) = some q
    rw [if_pos (@decide_eq_true _ (Classical.propDecidable _) c)]
theorem free_inv {X : Cx} {pins : List (Addr × Obj)} {σ : L2.St} {H : Hp} {s : Shared} (I : Inv X pins σ H s) : Inv X (pins ++ free X H s.heap) σ H s := I.pins_of fun p hp => by
  rcases List.mem_append.mp hp with hp | hp
  · exact I.pin p (List.mem_append_right _ hp)
  · exact mem_free.mp hp

/-- what is tracked is there -/
theorem tracked {P : Program} {w : World} {H : Hp} {h : Heap} {a : Addr} {o : HO} (x : ObjOk P w H h a o) : ∃ u, h.get? a = some u := by
  cases o with
  | lst xs => obtain ⟨_, _, _, _, e⟩ := x; exact ⟨_, e⟩
  | tup xs => obtain ⟨_, _, _, ob, e, _⟩ := x; exact ⟨_, e⟩
  | dK kvs => obtain ⟨_, _, _, _, o, _, _, e, _⟩ := x; exact ⟨_, e⟩
  | dT kvs => obtain ⟨_, _, _, _, o, _, _, e, _⟩ := x; exact ⟨_, e⟩
  | set S n => obtain ⟨o, _, _, _, e, _⟩ := x; exact ⟨_, e⟩
  | ins C dx fs => obtain ⟨_, _, _, e, _⟩ := x; exact ⟨_, e⟩
  | own y => exact x
  | xd fs => obtain ⟨_, ⟨o, _, _, e, _⟩, _⟩ := x; exact ⟨_, e⟩
  | rng lo hi => obtain ⟨_, _, _, e⟩ := x; exact ⟨_, e⟩
  | frz ob u => obtain ⟨e, _⟩ := x; exact ⟨_, e⟩
  | tbl ps => exact ⟨_, (show h.get? a = some _ from x)⟩
  | met f y => exact ⟨_, (show h.get? a = some _ from x)⟩
  | ext φ => obtain ⟨_, e, _⟩ := x; exact e
theorem get_one {h : Heap} {b : Addr} {o o' : Obj} (e : h.get? b = some o) (e' : h.get? b = some o') : o = o' := Option.some.inj (e.symm.trans e')
/-- which renewals the consumer makes -/
structure Fam (C : Shared → L2.St → Prop) (fs cs nb : List Addr) (ρ0 : Rn) (s₀ : Shared) (γ : L2.St) (ρ : Rn) : Prop where
  c : C s₀ γ
  os : ρ.s.os = ρ0.s.os
  H : ρ.H = ρ0.H
  sz : ρ.s.heap.objs.size = ρ0.s.heap.objs.size
  out : ∀ b, b ∉ fs → b ∉ cs → ρ.s.heap.get? b = ρ0.s.heap.get? b
  frm : ∀ b ∈ fs, ∀ o, ρ.s.heap.get? b = some o → ∃ sl, s₀.heap.get? b = some { o with slots := sl }
  cel : ∀ b ∈ cs, ρ.s.heap.get? b = s₀.heap.get? b
  pn : ρ.pn = pinsAt nb s₀.heap
  nbE : ∀ b ∈ nb, ∃ o, s₀.heap.get? b = some o
  xe : ρ.xe = fun _ _ => False
/-- what is between the two -/
structure Lk (X : Cx) (pins : List (Addr × Obj)) (g : Cx) (cs nb tr : List Addr) (ρ0 : Rn) : Prop where
  prog : g.prog = X.prog
  w : g.w = X.w
  base : g.base = X.base
  gex : g.ex = []
  gcell : ∀ x, g.env.cells.lookup x = none
  glX : g.env.locals ∉ X.fs ∧ g.env.locals ≠ X.env.locals
  sub : ∀ b ∈ X.fs, b ∈ g.fs
  sup : ∀ b ∈ g.fs, b = X.env.locals ∨ b ∈ X.fs
  cs1 : ∀ x c, X.env.cells.lookup x = some c → c ∈ cs ∧ c ∉ X.fs ∧ c ≠ X.env.locals
  cs2 : ∀ b ∈ cs, ∃ x, X.env.cells.lookup x = some b
  csH : ∀ b ∈ cs, ρ0.H b = none
  csT : ∀ b ∈ cs, ∃ o, ρ0.s.heap.get? b = some o
  fsT : ∀ b ∈ g.fs, ∃ o, ρ0.s.heap.get? b = some o
  loc : X.env.locals ∈ g.fs ∨ (X.env.locals ∈ nb ∧ ρ0.s.heap.get? X.env.locals = none)
  os : ρ0.s.os = X.s_0.os
  keep : ∀ b o, ((X.s_0.heap.get? b = some o ∧ X.H_0 b = none ∧ b ∉ X.ex) ∨ (b, o) ∈ X.pn ++ pins) → b ∉ g.fs → b ∉ cs → b ∈ nb ∨ (ρ0.s.heap.get? b = some o ∧ ρ0.H b = none)
  there : ∀ b o, X.s_0.heap.get? b = some o → b ∉ X.ex → b ∈ nb ∨ b ∈ tr ∨ ∃ o', ρ0.s.heap.get? b = some o'
  tups : ∀ b xs, X.H_0 b = some (.tup xs) → ρ0.H b = some (.tup xs)
  frzs : ∀ b o u, X.H_0 b = some (.frz o u) → ρ0.H b = some (.frz o u)
  tbls : ∀ b ps, X.H_0 b = some (.tbl ps) → ρ0.H b = some (.tbl ps)
  cells : ∀ b o v, ρ0.s.heap.get? b = some o → ρ0.H b = none → b ∉ g.fs → o.data = .cell v → b ∈ cs ∨ (X.s_0.heap.get? b = some o ∧ X.H_0 b = none ∧ b ∉ X.ex)
  gthere : ∀ b o, ρ0.s.heap.get? b = some o → ρ0.H b ≠ none → ∃ o', X.s_0.heap.get? b = some o' ∧ b ∉ X.ex
  gtups : ∀ b xs, ρ0.H b = some (.tup xs) → X.H_0 b = some (.tup xs)
  gfrzs : ∀ b o u, ρ0.H b = some (.frz o u) → X.H_0 b = some (.frz o u)
  gtbls : ∀ b ps, ρ0.H b = some (.tbl ps) → X.H_0 b = some (.tbl ps)
section
variable {X g : Cx} {pins ip : List (Addr × Obj)} {cs nb tr : List Addr} {ρ0 ρ : Rn} {C : Shared → L2.St → Prop} {γ γ7 σg : L2.St} {H H1 H7 : Hp} {s0 s1 s7 : Shared}
theorem Lk.nfs (L : Lk X pins g cs nb tr ρ0) {b : Addr} (n : b ∉ X.fs) (l : b ≠ X.env.locals) : b ∉ g.fs := fun z => (L.sup b z).elim l n
theorem Lk.csF (L : Lk X pins g cs nb tr ρ0) {b : Addr} (m : b ∈ cs) : b ∉ g.fs ∧ b ∉ X.fs ∧ b ≠ X.env.locals := by
  obtain ⟨x, e⟩ := L.cs2 b m
  obtain ⟨_, n, l⟩ := L.cs1 x b e
  exact ⟨L.nfs n l, n, l⟩
/-- behind the generator's turn: the consumer's own invariant -/
theorem yielded (L : Lk X pins g cs nb tr ρ0) (F : Fam C g.fs cs nb ρ0 s0 γ ρ) (I : Inv X pins γ H s0) (Ig : Inv (on g ρ) ip σg H1 s1) (ht : ∀ b ∈ tr, H1 b ≠ none) : Inv X pins γ H1 s1 := by
  have ok := I.ok
  have un := Ig.base
  have noex : ∀ b : Addr, b ∉ (on g ρ).ex := fun b z => by
    have z : b ∈ g.ex := z
    rw [L.gex] at z; cases z
  have fr : ∀ b ∈ g.fs, H1 b = none ∧ ∀ o, s0.heap.get? b = some o → ∃ sl, s1.heap.get? b = some { o with slots := sl } := fun b m => by
    obtain ⟨_, o1, e1, _⟩ := Ig.ok.funs.mem m
    obtain ⟨sl1, e2⟩ := F.frm b m o1 e1
    have n := Ig.ok.frf b m
    obtain ⟨sl2, e3⟩ := un.slot b o1 e1 n m (noex b)
    refine ⟨un.free b o1 e1 n (noex b), fun o e => ⟨sl2, ?_⟩⟩
    rw [e3, get_one e e2]
  have pinN : ∀ b ∈ nb, ∀ o, s0.heap.get? b = some o → s1.heap.get? b = some o ∧ H1 b = none := fun b m o e => by
    have q : (b, o) ∈ ρ.pn := by rw [F.pn]; exact mem_pinsAt m e
    obtain ⟨h1, h2, _⟩ := Ig.pin (b, o) (List.mem_append_left _ q)
    exact ⟨h1, h2⟩
  have rH : ∀ b, (on g ρ).H_0 b = ρ0.H b := fun b => by
    show ρ.H b = _
    rw [F.H]
  have cell : ∀ b ∈ cs, ∀ o, s0.heap.get? b = some o → s1.heap.get? b = some o ∧ H1 b = none := fun b m o e => by
    have e1 : ρ.s.heap.get? b = some o := (F.cel b m).trans e
    have n : (on g ρ).H_0 b = none := (rH b).trans (L.csH b m)
    exact ⟨un.keep b o e1 n (L.csF m).1 (noex b), un.free b o e1 n (noex b)⟩
  have locK : H1 X.env.locals = none ∧ ∀ o, s0.heap.get? X.env.locals = some o → ∃ sl, s1.heap.get? X.env.locals = some { o with slots := sl } := by
    rcases L.loc with m | ⟨m, _⟩
    · exact fr _ m
    · obtain ⟨o, e⟩ := F.nbE _ m
      exact ⟨(pinN _ m o e).2, fun o e => ⟨o.slots, (pinN _ m o e).1⟩⟩
  have old : ∀ b o, ((X.s_0.heap.get? b = some o ∧ X.H_0 b = none ∧ b ∉ X.ex) ∨ (b, o) ∈ X.pn ++ pins) → s0.heap.get? b = some o → b ∉ X.fs → b ≠ X.env.locals → s1.heap.get? b = some o ∧ H1 b = none := fun b o nd e nf nl => by
    have nfs := L.nfs nf nl
    by_cases mc : b ∈ cs
    · exact cell b mc o e
    · rcases L.keep b o nd nfs mc with m | ⟨e1, n1⟩
      · exact pinN b m o e
      · have e2 : ρ.s.heap.get? b = some o := (F.out b nfs mc).trans e1
        have n2 : (on g ρ).H_0 b = none := (rH b).trans n1
        exact ⟨un.keep b o e2 n2 nfs (noex b), un.free b o e2 n2 (noex b)⟩
  have neL : ∀ {b o}, X.s_0.heap.get? b = some o → b ≠ X.env.locals := fun {b o} e => Nat.ne_of_lt (Nat.lt_of_lt_of_le (Heap.lt_size e) ok.above)
  have cellK : ∀ x c, X.env.cells.lookup x = some c → ∀ v, s0.heap.IsCell c v → s1.heap.IsCell c v := fun x c e v ⟨o, ho, hd⟩ => ⟨o, (cell c (L.cs1 x c e).1 o ho).1, hd⟩
  refine ⟨ok, ?_, Ig.bare, ⟨fun b o e n nf nx => ?_, fun b o e n mf nx => ?_, fun b o e n nx => ?_, fun b o e nx => ?_, fun b xs e => ?_, fun b o u e => ?_, fun b ps e => ?_⟩, ?_, ?_, locK.1, ?_, ?_, ?_, I.len⟩
  · rw [Ig.os]
    show ρ.s.os = _
    rw [F.os, L.os]
  · exact (old b o (.inl ⟨e, n, nx⟩) (I.base.keep b o e n nf nx) nf (neL e)).1
  · obtain ⟨sl, e1⟩ := I.base.slot b o e n mf nx
    obtain ⟨sl2, e2⟩ := (fr b (L.sub b mf)).2 _ e1
    exact ⟨sl2, e2⟩
  · by_cases mf : b ∈ X.fs
    · exact (fr b (L.sub b mf)).1
    · exact (old b o (.inl ⟨e, n, nx⟩) (I.base.keep b o e n mf nx) mf (neL e)).2
  · obtain ⟨o1, e1⟩ := I.base.there b o e nx
    rcases L.there b o e nx with m | m | ⟨o2, e2⟩
    · exact ⟨o1, (pinN b m o1 e1).1⟩
    · cases q : H1 b with
      | none => exact absurd q (ht b m)
      | some x => exact tracked (Ig.hok b x q)
    · by_cases mf : b ∈ g.fs
      · obtain ⟨sl, q⟩ := (fr b mf).2 o1 e1
        exact ⟨_, q⟩
      · by_cases mc : b ∈ cs
        · exact ⟨o1, (cell b mc o1 e1).1⟩
        · exact un.there b o2 ((F.out b mf mc).trans e2) (noex b)
  · exact un.tups b xs ((rH b).trans (L.tups b xs e))
  · exact un.frzs b o u ((rH b).trans (L.frzs b o u e))
  · exact un.tbls b ps ((rH b).trans (L.tbls b ps e))
  · obtain ⟨m, ⟨o, es, ep, e, d, r⟩, hv⟩ := I.loc
    obtain ⟨sl, e2⟩ := locK.2 o e
    refine ⟨m, ⟨_, es, ep, e2, d, r⟩, fun i x v h1 h2 h3 => ?_⟩
    obtain ⟨u, ru, lk⟩ := hv i x v h1 h2 h3
    refine ⟨u, ru, ?_⟩
    rcases lk with q | ⟨k, c, hc, hcell⟩
    · exact .inl q
    · exact .inr ⟨k, c, hc, cellK x c hc _ hcell⟩
  · intro x c h
    obtain ⟨v, q⟩ := I.cell x c h
    exact ⟨v, cellK x c h v q⟩
  · intro x c h
    obtain ⟨v, o, ho, hd⟩ := I.cell x c h
    exact (cell c (L.cs1 x c h).1 o ho).2
  · intro p hp
    obtain ⟨h1, h2, h3, h4, h5⟩ := I.pin p hp
    obtain ⟨k1, k2⟩ := old p.1 p.2 (.inr hp) h1 h4 h3
    exact ⟨k1, k2, h3, h4, h5⟩
  · have h := Ig.hok
    rw [show (on g ρ).prog = X.prog from L.prog, show (on g ρ).w = X.w from L.w] at h
    exact h
end
end Lg
/-! Behind the consumer's turn: the generator's invariant, in a renewed context. -/
namespace Lg
open PySem PySem.Spec PyProof.Rows GenW L2 G3
/-- the renewal at t -/
def ren (ρ0 : Rn) (L nb : List Addr) (t : Shared) : Rn := ⟨{ ρ0.s with heap := patch t.heap L ρ0.s.heap }, ρ0.H, fun _ _ => False, pinsAt nb t.heap⟩
section
variable {X g : Cx} {pins ip : List (Addr × Obj)} {cs nb tr : List Addr} {ρ0 ρ : Rn} {C : Shared → L2.St → Prop} {γ γ7 σg : L2.St} {H H1 H7 : Hp} {s0 s1 s7 t : Shared}
theorem rested (L : Lk X pins g cs nb tr ρ0) (F : Fam C g.fs cs nb ρ0 s0 γ ρ) (av : Av ρ ip) (Ig : Inv (on g ρ) ip σg H1 s1) (I7 : Inv X (pins ++ free X H1 s1.heap) γ7 H7 t) (hC : C t γ7) :
    Fam C g.fs cs nb ρ0 t γ7 (ren ρ0 (g.fs ++ cs) nb t) ∧ Av (ren ρ0 (g.fs ++ cs) nb t) ip ∧ Inv (on g (ren ρ0 (g.fs ++ cs) nb t)) ip σg H7 t := by
  have ok := Ig.ok
  have un := Ig.base
  have noex : ∀ b : Addr, b ∉ (on g ρ).ex := fun b z => by
    have z : b ∈ g.ex := z
    rw [L.gex] at z; cases z
  have rH : ∀ b, (on g ρ).H_0 b = ρ0.H b := fun b => by
    show ρ.H b = _
    rw [F.H]
  have psz : (patch t.heap (g.fs ++ cs) ρ0.s.heap).objs.size = ρ0.s.heap.objs.size := patch_size ..
  have pother : ∀ {b}, b ∉ g.fs → b ∉ cs → (patch t.heap (g.fs ++ cs) ρ0.s.heap).get? b = ρ0.s.heap.get? b := fun n m => patch_other _ _ _ fun z => (List.mem_append.mp z).elim n m
  have pat : ∀ {b o o0}, b ∈ g.fs ++ cs → ρ0.s.heap.get? b = some o0 → t.heap.get? b = some o → (patch t.heap (g.fs ++ cs) ρ0.s.heap).get? b = some o := fun m e0 e => patch_at t.heap e _ _ m e0
  have pinned : ∀ {b o}, s1.heap.get? b = some o → H1 b = none → b ≠ X.env.locals → b ∉ X.fs → (∀ v, o.data ≠ .cell v) → t.heap.get? b = some o ∧ H7 b = none := fun {b o} e n l nf d => by
    obtain ⟨h1, h2, _⟩ := I7.pin (b, o) (List.mem_append_right _ (List.mem_append_right _ (mem_free.mpr ⟨e, n, l, nf, d⟩)))
    exact ⟨h1, h2⟩
  -- the frames and the cells now
  have frm : ∀ b ∈ g.fs, H7 b = none ∧ ∃ o, t.heap.get? b = some o ∧ ∀ vs, o.data ≠ .fields vs := fun b m => by
    rcases L.sup b m with rfl | m
    · obtain ⟨_, ⟨o, es, ep, e, d, _⟩, _⟩ := I7.loc
      exact ⟨I7.free, o, e, fun vs z => by rw [d] at z; cases z⟩
    · obtain ⟨_, o, e, d⟩ := I7.ok.funs.mem m
      have n := I7.ok.frf b m
      have nx : b ∉ X.ex := fun z => I7.ok.exfs b z m
      obtain ⟨sl, e1⟩ := I7.base.slot b o e n m nx
      exact ⟨I7.base.free b o e n nx, _, e1, d⟩
  have cel : ∀ b ∈ cs, H7 b = none ∧ ∃ o, t.heap.get? b = some o := fun b m => by
    obtain ⟨x, e⟩ := L.cs2 b m
    obtain ⟨v, o, q, _⟩ := I7.cell x b e
    exact ⟨I7.freeC x b e, o, q⟩
  have patL : ∀ {b}, b ∈ g.fs ++ cs → ∃ o, t.heap.get? b = some o ∧ (patch t.heap (g.fs ++ cs) ρ0.s.heap).get? b = some o := fun {b} m => by
    obtain ⟨o, e, o0, e0⟩ : ∃ o, t.heap.get? b = some o ∧ ∃ o0, ρ0.s.heap.get? b = some o0 := by
      rcases List.mem_append.mp m with m | m
      · obtain ⟨_, o, e, _⟩ := frm b m
        exact ⟨o, e, L.fsT b m⟩
      · obtain ⟨_, o, e⟩ := cel b m
        exact ⟨o, e, L.csT b m⟩
    exact ⟨o, e, pat m e0 e⟩
  have nbK : ∀ b ∈ nb, ∃ o, t.heap.get? b = some o ∧ H7 b = none ∧ b ≠ g.env.locals ∧ b ∉ g.fs ∧ (∀ v, o.data ≠ .cell v) := fun b m => by
    obtain ⟨o, e⟩ := F.nbE b m
    have q : (b, o) ∈ ρ.pn := by rw [F.pn]; exact mem_pinsAt m e
    obtain ⟨h1, h2, h3, h4, h5⟩ := Ig.pin (b, o) (List.mem_append_left _ q)
    by_cases l : b = X.env.locals
    · subst l
      obtain ⟨_, ⟨o7, es, ep, e7, d, _⟩, _⟩ := I7.loc
      exact ⟨o7, e7, I7.free, h3, h4, fun v z => by rw [d] at z; cases z⟩
    · obtain ⟨k1, k2⟩ := pinned h1 h2 l (fun z => h4 (L.sub b z)) h5
      exact ⟨o, k1, k2, h3, h4, h5⟩
  have avn : ∀ p ∈ pinsAt nb t.heap, ∀ q ∈ ip, p.1 ≠ q.1 := fun p hp q hq => by
    obtain ⟨m, _⟩ := of_pinsAt hp
    obtain ⟨o, e⟩ := F.nbE p.1 m
    exact av (p.1, o) (by rw [F.pn]; exact mem_pinsAt m e) q hq
  -- an untracked object of the start
  have old : ∀ b o, ρ0.s.heap.get? b = some o → ρ0.H b = none → b ∉ g.fs → b ∉ cs → t.heap.get? b = some o ∧ H7 b = none := fun b o e n nf nc => by
    have e1 : ρ.s.heap.get? b = some o := (F.out b nf nc).trans e
    have n1 : (on g ρ).H_0 b = none := (rH b).trans n
    have k1 := un.keep b o e1 n1 nf (noex b)
    have k2 := un.free b o e1 n1 (noex b)
    by_cases cl : ∃ v, o.data = .cell v
    · obtain ⟨v, hv⟩ := cl
      rcases L.cells b o v e n nf hv with m | ⟨z1, z2, z3⟩
      · exact absurd m nc
      · have nX : b ∉ X.fs := fun z => nf (L.sub b z)
        exact ⟨I7.base.keep b o z1 z2 nX z3, I7.base.free b o z1 z2 z3⟩
    · have l : b ≠ X.env.locals := fun z => by
        rcases L.loc with m | ⟨_, m⟩
        · exact nf (by rw [z]; exact m)
        · rw [z, m] at e; cases e
      exact pinned k1 k2 l (fun z => nf (L.sub b z)) fun v z => cl ⟨v, z⟩
  refine ⟨⟨hC, rfl, rfl, psz, fun b n m => pother n m, fun b m o e => ?_, fun b m => ?_, rfl, fun b m => ?_, rfl⟩, avn, ?_⟩
  · obtain ⟨o', e1, e2⟩ := patL (List.mem_append_left _ m)
    have e : (patch t.heap (g.fs ++ cs) ρ0.s.heap).get? b = some o := e
    exact ⟨o.slots, by rw [e1, get_one e2 e]⟩
  · obtain ⟨o', e1, e2⟩ := patL (List.mem_append_right _ m)
    exact e2.trans e1.symm
  · obtain ⟨o, e, _⟩ := nbK b m
    exact ⟨o, e⟩
  have sz0 : (patch t.heap (g.fs ++ cs) ρ0.s.heap).objs.size = ρ.s.heap.objs.size := psz.trans F.sz.symm
  have glN : g.env.locals ∉ g.fs := fun m => by
    obtain ⟨_, o, e, _⟩ := ok.funs.mem m
    exact absurd (Nat.lt_of_lt_of_le (Heap.lt_size e) ok.above) (Nat.lt_irrefl _)
  obtain ⟨mg, ⟨og, es, ep, eg, dg, rg⟩, hv⟩ := Ig.loc
  have glK := pinned eg Ig.free L.glX.2 L.glX.1 fun v z => by rw [dg] at z; cases z
  refine ⟨⟨ok.mod, ok.kind, ok.glob, ok.blt, ?_, ok.inj, ok.has, ?_, ok.hd, ok.frames, ok.stk, ok.exf, ?_, ?_, ok.noex, ok.exfs, ?_, ?_⟩, ?_, I7.bare, ⟨?_, ?_, ?_, ?_, ?_, ?_, ?_⟩, ?_, ?_, glK.2, ?_, ?_, ?_, Ig.len⟩
  · show (patch _ _ _).objs.size ≤ _
    rw [sz0]; exact ok.above
  · intro x c _ h
    rw [show (on g (ren ρ0 (g.fs ++ cs) nb t)).env.cells.lookup x = none from L.gcell x] at h
    cases h
  · intro b o e
    obtain ⟨e1, e2⟩ := ok.bs b o e
    have nf : b ∉ g.fs := ok.nofr e
    have e2' : ρ0.H b = none := (rH b).symm.trans e2
    refine ⟨?_, e2'⟩
    show (patch t.heap (g.fs ++ cs) ρ0.s.heap).get? b = some o
    by_cases mc : b ∈ cs
    · obtain ⟨o', e3, e4⟩ := patL (List.mem_append_right _ mc)
      have e5 := I7.bk b o (by rw [← L.base]; exact e)
      rw [e4, get_one e3 e5]
    · rw [pother nf mc, ← F.out b nf mc]
      exact e1
  · show _ ≤ (patch _ _ _).objs.size
    rw [sz0]; exact ok.bsz
  · refine frames_at ok.funs fun b m => ?_
    obtain ⟨_, o, e, d⟩ := frm b m
    obtain ⟨o', e1, e2⟩ := patL (List.mem_append_left _ m)
    rw [get_one e e1] at d
    exact ⟨o', e2, d⟩
  · intro b m
    exact (rH b).symm.trans (ok.frf b m)
  · show t.os = ρ0.s.os
    rw [I7.os, L.os]
  · intro b o e n nf _
    have e : (patch t.heap (g.fs ++ cs) ρ0.s.heap).get? b = some o := e
    by_cases mc : b ∈ cs
    · obtain ⟨o', e1, e2⟩ := patL (List.mem_append_right _ mc)
      rw [e1, get_one e2 e]
    · rw [pother nf mc] at e
      exact (old b o e n nf mc).1
  · intro b o e n mf _
    obtain ⟨o', e1, e2⟩ := patL (List.mem_append_left _ mf)
    have e : (patch t.heap (g.fs ++ cs) ρ0.s.heap).get? b = some o := e
    exact ⟨o.slots, by rw [e1, get_one e2 e]⟩
  · intro b o e n _
    have e : (patch t.heap (g.fs ++ cs) ρ0.s.heap).get? b = some o := e
    by_cases mf : b ∈ g.fs
    · exact (frm b mf).1
    · by_cases mc : b ∈ cs
      · exact (cel b mc).1
      · rw [pother mf mc] at e
        exact (old b o e n mf mc).2
  · intro b o e _
    have e : (patch t.heap (g.fs ++ cs) ρ0.s.heap).get? b = some o := e
    by_cases mL : b ∈ g.fs ++ cs
    · obtain ⟨o', e1, _⟩ := patL mL
      exact ⟨o', e1⟩
    · have mf : b ∉ g.fs := fun z => mL (List.mem_append_left _ z)
      have mc : b ∉ cs := fun z => mL (List.mem_append_right _ z)
      rw [pother mf mc] at e
      cases q : ρ0.H b with
      | none => exact ⟨o, (old b o e q mf mc).1⟩
      | some x =>
        obtain ⟨o1, e1, nx⟩ := L.gthere b o e (by rw [q]; simp)
        exact I7.base.there b o1 e1 nx
  · exact fun b xs e => I7.base.tups b xs (L.gtups b xs e)
  · exact fun b o u e => I7.base.frzs b o u (L.gfrzs b o u e)
  · exact fun b ps e => I7.base.tbls b ps (L.gtbls b ps e)
  · refine ⟨mg, ⟨og, es, ep, glK.1, dg, rg⟩, fun i x v h1 h2 h3 => ?_⟩
    obtain ⟨u, ru, lk⟩ := hv i x v h1 h2 h3
    refine ⟨u, ru, ?_⟩
    rcases lk with q | ⟨_, c, hc, _⟩
    · exact .inl q
    · rw [show (on g ρ).env.cells.lookup x = none from L.gcell x] at hc
      cases hc
  · intro x c h
    rw [show (on g (ren ρ0 (g.fs ++ cs) nb t)).env.cells.lookup x = none from L.gcell x] at h
    cases h
  · intro x c h
    rw [show (on g (ren ρ0 (g.fs ++ cs) nb t)).env.cells.lookup x = none from L.gcell x] at h
    cases h
  · intro p hp
    have hp : p ∈ pinsAt nb t.heap ++ ip := hp
    rcases List.mem_append.mp hp with hp | hp
    · obtain ⟨m, e⟩ := of_pinsAt hp
      obtain ⟨o, k1, k2, k3, k4, k5⟩ := nbK p.1 m
      have q := get_one k1 e
      exact ⟨e, k2, k3, k4, by rw [← q]; exact k5⟩
    · obtain ⟨h1, h2, h3, h4, h5⟩ := Ig.pin p (List.mem_append_right _ hp)
      have l : p.1 ≠ X.env.locals := fun z => by
        rcases L.loc with m | ⟨m, _⟩
        · exact h4 (by rw [z]; exact m)
        · obtain ⟨o, e⟩ := F.nbE _ m
          exact av (X.env.locals, o) (by rw [F.pn]; exact mem_pinsAt m e) p hp z.symm
      obtain ⟨k1, k2⟩ := pinned h1 h2 l (fun z => h4 (L.sub p.1 z)) h5
      exact ⟨k1, k2, h3, h4, h5⟩
  · have h := I7.hok
    rw [← L.prog, ← L.w] at h
    exact h
end
end Lg
/-! One turn: next(g), then the consumer as it likes. -/
namespace Lg
open PySem PySem.Spec PyProof.Rows GenW L2 G3
/-- where the consumer stands ahead of a turn, n items may still come -/
def LI (X : Cx) (pins : List (Addr × Obj)) (g : Cx) (F : Fm) (R : GenEnd) (Y : Tn) (a : Addr) (gi : Nat) (go : Obj) (nb : List Addr) (n : Nat) (s : Shared) : Prop :=
  ∃ γ H gs, Inv X pins γ H s ∧ s.heap.get? a = some go ∧ (∀ b ∈ nb, ∃ o, s.heap.get? b = some o) ∧ s.gens[gi]? = some gs ∧ gs.Goes (model X.prog X.w) X.A.in1 R (Pr g F Y) n (.send .none) (s.setGen gi .running)
/-- what the consumer says of itself -/
def Cc (X : Cx) (pins : List (Addr × Obj)) : Shared → L2.St → Prop := fun s γ => ∃ H, Inv X pins γ H s
section
variable {X g : Cx} {pins : List (Addr × Obj)} {cs nb tr : List Addr} {ρ0 : Rn} {Y : Tn} {Q : L2.St → Hp → Prop} {a : Addr} {gi : Nat} {go : Obj} {outer : List Env} {Hc : Hp} {sc : Shared} {E : XK}
theorem next_g {n : Nat} {s : Shared} {E1 : Value → Shared → Prop} (L : Lk X pins g cs nb tr ρ0) (mono : Mono Y) (ha : a ∈ nb) (hgen : ∀ h : Heap, h.get? a = some go → h.IsGen a gi) (hgd : ∃ vs, go.data = .fields vs) (hh : X.A.handled = none) (hroom : X.A.depth < recursionLimit)
    (hQ : ∀ γ H, Q γ H → ∀ b ∈ tr, H b ≠ none) (hY : ∀ k x γ H P, Y k x γ H P → ∀ b ∈ tr, H b ≠ none)
    (hE : ∀ e s₁, CX g.prog g.w outer Hc sc E e s₁ → NotStop (model X.prog X.w) e s₁.heap ∧ E1 e (s₁.setGen gi .finished))
    (h : LI X pins g (Fam (Cc X pins) g.fs cs nb ρ0) (End3 g (Fam (Cc X pins) g.fs cs nb ρ0) Q outer Hc sc E a gi) Y a gi go nb n s) :
    wpAny (model X.prog X.w) X.A (pyNext (.ref a)) (fun r s1 => match r with
      | none => ∃ γ H, Inv X pins γ H s1 ∧ Q γ H
      | some v => ∃ γ H x k gs', Inv X (pins ++ free X H s1.heap) γ H s1 ∧ RelV x v ∧ s1.gens[gi]? = some gs' ∧ Gn3.Susp gs' ∧ s1.heap.get? a = some go ∧
          Y k x γ H fun γ2 H2 => ∀ t, Inv X (pins ++ free X H s1.heap) γ2 H2 t → t.gens[gi]? = some gs' → ∃ m, m < n ∧ LI X pins g (Fam (Cc X pins) g.fs cs nb ρ0) (End3 g (Fam (Cc X pins) g.fs cs nb ρ0) Q outer Hc sc E a gi) Y a gi go nb m t) E1 s := by
  obtain ⟨γ0, H0, gs, I, ea, hnb, hgs, hgo⟩ := h
  have hgl : gi < s.gens.size := (Array.getElem?_eq_some_iff.mp hgs).1
  refine wpAny_gsz (n := gi + 1) hgl (Gn3.next3 (F := fun _ s₀ s1 => ∃ ρ ip σ H', ∃ γ : L2.St, Fam (Cc X pins) g.fs cs nb ρ0 s₀ γ ρ ∧ Inv (on g ρ) ip σ H' s1 ∧ Q γ H') (Er := fun e s1 => CX g.prog g.w outer Hc sc E e s1 ∧ s1.heap.IsGen a gi) hh I.nolimit hroom (hgen _ ea) hgs (fun _ _ _ _ z => z) hgo
    (fun v s₁ gs' hsu hbare hv => ?_) (fun s₁ hp h' hk => ?_) fun e s₁ he => ?_)
  · intro hsz
    obtain ⟨ρ, ip, σg, H1, x, k, γ, F, av, hn, rv, Ig, y⟩ := hv
    obtain ⟨H00, I00⟩ := F.c
    have I1 := yielded L F I00 Ig (hY _ _ _ _ _ y)
    have eas : (s.setGen gi .running).heap.get? a = some go := ea
    have q : (a, go) ∈ ρ.pn := by rw [F.pn]; exact mem_pinsAt ha eas
    obtain ⟨h1, h2, h3, h4, h5⟩ := Ig.pin (a, go) (List.mem_append_left _ q)
    have al : a ≠ X.env.locals := fun z => by
      obtain ⟨_, ⟨o7, es, ep, e7, d, _⟩, _⟩ := I1.loc
      obtain ⟨vs, hgd⟩ := hgd
      rw [z] at h1
      have q7 : go = o7 := get_one h1 e7
      rw [q7, d] at hgd; cases hgd
    have hsz1 : gi < s₁.gens.size := by
      have q : (s₁.setGen gi gs').gens.size = s₁.gens.size := setGen_size _ _ _
      have hsz' : gi + 1 ≤ (s₁.setGen gi gs').gens.size := hsz
      omega
    have I1s : Inv X (pins ++ free X H1 s₁.heap) γ H1 (s₁.setGen gi gs') := Gl.inv_gens (free_inv I1) (allBare_setGen I1.bare hbare)
    refine ⟨γ, H1, x, k, gs', I1s, rv, setGen_at hsz1, hsu, h1, mono _ _ _ _ _ _ (fun γ2 H2 z t I7 et => ?_) y⟩
    have I7 : Inv X (pins ++ free X H1 s₁.heap) γ2 H2 t := I7
    have I7r : Inv X (pins ++ free X H1 s₁.heap) γ2 H2 (t.setGen gi .running) := Gl.inv_gens I7 (allBare_setGen I7.bare rfl)
    obtain ⟨F2, av2, Ig2⟩ := rested L F av Ig I7r ⟨H2, Inv.unpinned I7r⟩
    have z := z _ _ F2 av2 Ig2
    cases n with
    | zero => exact (show False from z).elim
    | succ m =>
      have z : gs'.Goes (model X.prog X.w) X.A.in1 _ (Pr g (Fam (Cc X pins) g.fs cs nb ρ0) Y) m (.send .none) (t.setGen gi .running) := z
      refine ⟨m, Nat.lt_succ_self m, γ2, H2, gs', Inv.unpinned I7, ?_, F2.nbE, et, z⟩
      exact (I7.pin (a, go) (List.mem_append_right _ (List.mem_append_right _ (mem_free.mpr ⟨h1, h2, al, fun z => h4 (L.sub a z), h5⟩)))).1
  · intro _
    obtain ⟨ρ, ip, σg, H1, γ, F, Ig, q⟩ := hp
    obtain ⟨H00, I00⟩ := F.c
    have I1 := yielded L F I00 Ig (hQ _ _ q)
    have I2 : Inv X pins γ H1 (s₁.setGen gi .finished) := Gl.inv_gens I1 (allBare_setGen I1.bare rfl)
    exact ⟨γ, H1, I2.kept (t' := s₁.toks) hk, q⟩
  · obtain ⟨hc, hg⟩ := he
    obtain ⟨q1, q2⟩ := hE e s₁ hc
    exact ⟨hg, q1, fun _ => q2⟩
end
end Lg
/-! for over an own generator, in a def. -/
namespace Lg
open PySem PySem.Spec PyProof.Rows GenW L2 G3
theorem cells_nil : ∀ {names : List (Str × NameKind)} {n : Nat} {acc : List (Str × Addr)}, (∀ y ∈ names, y.2 ≠ .cell) → cellsFrom n names acc = acc
  | [], _, _, _ => rfl
  | (x, k) :: r, n, acc, h => by
    unfold cellsFrom
    have hk : (k == NameKind.cell) = false := by simpa using h (x, k) List.mem_cons_self
    rw [hk]
    exact cells_nil fun y hy => h y (List.mem_cons_of_mem _ hy)
/-- the consumer's own cells -/
def csOf (X : Cx) : List Addr := (X.env.cells.filter fun p => decide (X.env.cells.lookup p.1 = some p.2)).map (·.2)
theorem csOf_mem {X : Cx} {x : Str} {c : Addr} (e : X.env.cells.lookup x = some c) : c ∈ csOf X :=
  List.mem_map.mpr ⟨(x, c), List.mem_filter.mpr ⟨PySem.mem_of_lookup e, by simpa using e⟩, rfl⟩
theorem of_csOf {X : Cx} {c : Addr} (m : c ∈ csOf X) : ∃ x, X.env.cells.lookup x = some c := by
  obtain ⟨p, hp, rfl⟩ := List.mem_map.mp m
  exact ⟨p.1, by simpa using (List.mem_filter.mp hp).2⟩
/-- a cell that nobody knows: neither the consumer's nor one that stood when it was called -/
def Lost (X : Cx) (gfs : List Addr) (Hc : Hp) (sc : Shared) (b : Addr) : Prop := ∃ o v, sc.heap.get? b = some o ∧ o.data = .cell v ∧ Hc b = none ∧ b ∉ csOf X ∧ b ∉ gfs ∧ ¬ (X.s_0.heap.get? b = some o ∧ X.H_0 b = none)
open Classical in
noncomputable def rH (X : Cx) (gfs : List Addr) (Hc : Hp) (sc : Shared) : Hp := fun b => if Hc b = none ∧ ¬ Lost X gfs Hc sc b then none else some ((X.H_0 b).getD (.ext fun _ => True))
def Keeps (X : Cx) (gfs : List Addr) (Hc : Hp) (sc : Shared) (b : Addr) : Prop := rH X gfs Hc sc b = none ∨ ∃ o, X.s_0.heap.get? b = some o
open Classical in
noncomputable def rG (X : Cx) (gfs : List Addr) (Hc : Hp) (sc : Shared) : Heap := PySem.W.hideAll sc.heap ((List.range sc.heap.objs.size).filter fun b => !decide (Keeps X gfs Hc sc b))
section
variable {X : Cx} {gfs : List Addr} {Hc : Hp} {sc : Shared} {b : Addr} {o : Obj}
theorem rH_none (h : Hc b = none) (n : ¬ Lost X gfs Hc sc b) : rH X gfs Hc sc b = none := by
  unfold rH
  rw [if_pos ⟨h, n⟩]
theorem of_rH_none (h : rH X gfs Hc sc b = none) : Hc b = none ∧ ¬ Lost X gfs Hc sc b := by
  unfold rH at h
  split at h
  · assumption
  · cases h
theorem rH_some {u : HO} (h : Hc b ≠ none) (e : X.H_0 b = some u) : rH X gfs Hc sc b = some u := by
  unfold rH
  rw [if_neg (fun z => h z.1), e]
  rfl
theorem of_rH {u : HO} (h : rH X gfs Hc sc b = some u) (ne : ∀ φ, u ≠ .ext φ) : X.H_0 b = some u := by
  unfold rH at h
  split at h
  · cases h
  · cases e : X.H_0 b with
    | none => rw [e] at h; exact absurd (Option.some.inj h).symm (ne _)
    | some v => rw [e] at h; rw [← Option.some.inj h]; rfl
theorem rG_sub (e : (rG X gfs Hc sc).get? b = some o) : sc.heap.get? b = some o := PySem.W.of_hideAll _ e
theorem rG_keeps (e : (rG X gfs Hc sc).get? b = some o) : Keeps X gfs Hc sc b := by
  apply Classical.byContradiction
  intro n
  have m : b ∈ (List.range sc.heap.objs.size).filter fun b => !@decide (Keeps X gfs Hc sc b) (Classical.propDecidable _) := List.mem_filter.mpr ⟨List.mem_range.mpr (Heap.lt_size (rG_sub e)), by simpa using n⟩
  have z : (rG X gfs Hc sc).get? b = none := PySem.W.hideAll_none _ m
  rw [z] at e; cases e
theorem rG_get (k : Keeps X gfs Hc sc b) (e : sc.heap.get? b = some o) : (rG X gfs Hc sc).get? b = some o := PySem.W.hideAll_get _ e fun m => by
  have q := (List.mem_filter.mp m).2
  have : ¬ Keeps X gfs Hc sc b := by simpa using q
  exact this k
end
noncomputable def rho (X : Cx) (gfs : List Addr) (Hc : Hp) (sc : Shared) (pn : List (Addr × Obj)) : Rn := ⟨{ sc with heap := rG X gfs Hc sc }, rH X gfs Hc sc, fun _ _ => False, pn⟩
section
variable {X : Cx} {pins : List (Addr × Obj)} {σ : L2.St} {Hc : Hp} {sc : Shared} {N : List Str} {qual : Str} {scope : Scope} {f : Addr} {cdv : Value} {A : Around} {E : XK} {pn : List (Addr × Obj)} {a : Addr}
theorem lk_def (I : Inv X pins σ Hc sc) (hex : X.ex = []) (hst : X.stack = X.env :: X.outer) (hfr : X.env.frame = some X.env.locals) (hfn : ∀ x, X.fn x = true) (hgc : ∀ y ∈ scope.names, y.2 ≠ .cell) (pn' : List (Addr × Obj)) :
    Lk X pins (gcxOf X.prog X.w X.K X.mg X.base N qual scope f cdv A X.stack sc Hc E pn) (csOf X) [a] [] (rho X (frs X.stack) Hc sc pn') := by
  have fsE : frs X.stack = X.env.locals :: X.fs := by
    rw [hst]
    unfold frs
    rw [List.filterMap_cons, hfr]
    rfl
  have nx : ∀ b : Addr, b ∉ X.ex := fun b z => by rw [hex] at z; cases z
  have csF : ∀ c ∈ csOf X, c ∉ X.fs ∧ c ≠ X.env.locals ∧ Hc c = none ∧ ∃ o, sc.heap.get? c = some o := fun c m => by
    obtain ⟨x, e⟩ := of_csOf m
    refine ⟨fun z => ?_, I.cne x c e, I.freeC x c e, ?_⟩
    · obtain ⟨_, o, eo, _⟩ := I.ok.funs.mem z
      exact absurd (Nat.lt_of_lt_of_le (Heap.lt_size eo) (I.ok.cab x c (hfn x) e)) (Nat.lt_irrefl _)
    · obtain ⟨_, o, q, _⟩ := I.cell x c e
      exact ⟨o, q⟩
  have frmH : ∀ b ∈ frs X.stack, rH X (frs X.stack) Hc sc b = none := fun b m => rH_none (I.stkFree b m) fun ⟨_, _, _, _, _, _, z, _⟩ => z m
  refine ⟨rfl, rfl, rfl, rfl, fun x => ?_, ⟨I.nofs (Nat.le_refl _), Nat.ne_of_gt I.lt⟩, fun b m => ?_, fun b m => ?_, fun x c e => ⟨csOf_mem e, (csF c (csOf_mem e)).1, (csF c (csOf_mem e)).2.1⟩, fun b m => of_csOf m, fun b m => ?_, fun b m => ?_, fun b m => ?_, .inl ?_, I.os, fun b o h nf nc => .inr ?_, fun b o e _ => .inr (.inr ?_), fun b xs e => ?_, fun b o u e => ?_, fun b ps e => ?_, fun b o v e n nf hv => ?_, fun b o e n => ?_, fun b xs e => of_rH e fun _ => by simp, fun b o u e => of_rH e fun _ => by simp, fun b ps e => of_rH e fun _ => by simp⟩
  · show (cellsFrom (sc.heap.objs.size + 1) scope.names []).lookup x = none
    rw [cells_nil hgc]; rfl
  · show b ∈ frs X.stack
    rw [fsE]; exact List.mem_cons_of_mem _ m
  · have m : b ∈ frs X.stack := m
    rw [fsE] at m
    exact List.mem_cons.mp m
  · exact rH_none (csF b m).2.2.1 fun ⟨_, _, _, _, _, z, _⟩ => z m
  · obtain ⟨_, _, h, o, e⟩ := csF b m
    exact ⟨o, rG_get (.inl (rH_none h fun ⟨_, _, _, _, _, z, _⟩ => z m)) e⟩
  · have m : b ∈ frs X.stack := m
    have e : ∃ o, sc.heap.get? b = some o := by
      obtain ⟨_, o, e, _⟩ := I.stack.mem m
      exact ⟨o, e⟩
    obtain ⟨o, e⟩ := e
    exact ⟨o, rG_get (.inl (frmH b m)) e⟩
  · show X.env.locals ∈ frs X.stack
    rw [fsE]; exact List.mem_cons_self
  · have nf : b ∉ frs X.stack := nf
    rw [fsE] at nf
    have nX : b ∉ X.fs := fun z => nf (List.mem_cons_of_mem _ z)
    have both : sc.heap.get? b = some o ∧ Hc b = none ∧ ¬ Lost X (frs X.stack) Hc sc b := by
      rcases h with ⟨h1, h2, _⟩ | h
      · have k := I.base.keep b o h1 h2 nX (nx b)
        refine ⟨k, I.base.free b o h1 h2 (nx b), fun ⟨o', _, e', _, _, _, _, z⟩ => z ⟨?_, h2⟩⟩
        rw [← get_one k e']; exact h1
      · obtain ⟨h1, h2, _, _, h5⟩ := I.pin (b, o) h
        refine ⟨h1, h2, fun ⟨o', v, e', d, _⟩ => h5 v ?_⟩
        have q : o = o' := get_one h1 e'
        rw [← q] at d
        exact d
    obtain ⟨k1, k2, k3⟩ := both
    exact ⟨rG_get (.inl (rH_none k2 k3)) k1, rH_none k2 k3⟩
  · obtain ⟨o', e'⟩ := I.base.there b o e (nx b)
    exact ⟨o', rG_get (.inr ⟨o, e⟩) e'⟩
  · exact rH_some (by rw [I.base.tups b xs e]; simp) e
  · exact rH_some (by rw [I.base.frzs b o u e]; simp) e
  · obtain ⟨m, q⟩ := I.base.tbls b ps e
    exact rH_some (by rw [q]; simp) e
  · by_cases mc : b ∈ csOf X
    · exact .inl mc
    · obtain ⟨h1, h2⟩ := of_rH_none n
      have e : sc.heap.get? b = some o := rG_sub e
      by_cases z : X.s_0.heap.get? b = some o ∧ X.H_0 b = none
      · exact .inr ⟨z.1, z.2, nx b⟩
      · exact absurd ⟨o, v, e, hv, h1, mc, nf, z⟩ h2
  · rcases rG_keeps e with k | ⟨o', k⟩
    · exact absurd k n
    · exact ⟨o', k, nx b⟩
theorem ren_def (I : Inv X pins σ Hc sc) (pn' : List (Addr × Obj)) (hex : X.ex = []) : Ren (gcxOf X.prog X.w X.K X.mg X.base N qual scope f cdv A X.stack sc Hc E pn) (rho X (frs X.stack) Hc sc pn') := by
  have nx : ∀ b : Addr, b ∉ X.ex := fun b z => by rw [hex] at z; cases z
  refine ⟨⟨fun b o e => rG_sub e, fun b o _ n => (of_rH_none n).1, fun b xs e => I.base.tups b xs (of_rH e fun _ => by simp), fun b o u e => I.base.frzs b o u (of_rH e fun _ => by simp), fun b ps e => I.base.tbls b ps (of_rH e fun _ => by simp)⟩, ?_, rfl, fun b o e => ?_, fun b m => ?_⟩
  · show (PySem.W.hideAll _ _).objs.size = _
    rw [PySem.W.hideAll_size]; rfl
  · have e : X.base.get? b = some o := e
    obtain ⟨e1, n1⟩ := I.bs b o e
    obtain ⟨e0, n0⟩ := I.ok.bs b o e
    have nl : ¬ Lost X (frs X.stack) Hc sc b := fun ⟨o', _, e', _, _, _, _, z⟩ => z ⟨by rw [← get_one e1 e']; exact e0, n0⟩
    exact ⟨rG_get (.inl (rH_none n1 nl)) e1, rH_none n1 nl⟩
  · have m : b ∈ frs X.stack := m
    have h := rH_none (X := X) (gfs := frs X.stack) (sc := sc) (I.stkFree b m) fun ⟨_, _, _, _, _, _, z, _⟩ => z m
    exact ⟨h, fun o e => rG_get (.inl h) e⟩
end
end Lg
namespace Lg
open PySem PySem.Spec PyProof.Rows GenW L2 G3
/-- an expression whose value is a generator that has not begun: its arguments and the heap -/
structure PGen3 (X : Cx) (N : List Str) (qual : Str) (scope : Scope) (f : Addr) (cdv : Value) (k : Nat) (e : Expr) (tg : TA) (sp : Sp3) : Prop where
  run : ∀ (pins : List (Addr × Obj)) (s : Shared) (σ : L2.St) (H : Hp) (W : List V → Hp → Prop), Inv X pins σ H s → tg σ H W → wpAny (model X.prog X.w) X.A (eval e X.env)
    (fun u s' => ∃ vs H1 sc, Inv X pins σ H1 sc ∧ IsMade X.prog X.w (fun A E pn => gcxOf X.prog X.w X.K X.mg X.base N qual scope f cdv A X.stack sc H1 E pn) k X.stack sc H1 sp vs u s' ∧ W vs H1) X.xe s
/-- the consumer's turn -/
def Yc (g : TG) (tb : TS) (D : Ends) : Tn := fun _ x γ H P => ∃ N : L2.St → Hp → Prop, (∀ γ2 H2, N γ2 H2 → P γ2 H2) ∧ g x γ H fun σ2 H2 => tb { D with nx := N, ct := N, bk := D.nx } σ2 H2
theorem yc_mono {g : TG} {tb : TS} {D : Ends} : Mono (Yc g tb D) := fun _ _ _ _ _ _ h ⟨N, a, b⟩ => ⟨N, fun γ2 H2 z => h _ _ (a γ2 H2 z), b⟩
def tForG (tg : TA) (sp : Sp3) (E : XK) (g : TG) (tb : TS) : TS := fun D σ H => tg σ H fun vs H1 => sp vs H1 σ (Yc g tb D) D.nx E
section
variable {X : Cx} {N : List Str} {qual : Str} {scope : Scope} {f : Addr} {cdv : Value} {k : Nat} {sp : Sp3} {E : XK} {e tg : Expr} {tgn : TA} {g : TG} {body : List Stmt} {tb : TS} {pos : Pos}
theorem wpF {α : Type} {t : Sem α} {Q Q' : α → Shared → Prop} {M : Model} {A : Around} {E : Value → Shared → Prop} {s : Shared} (h : wpAny M A t Q (fun _ _ => False) s) (hQ : ∀ a s, Q a s → Q' a s) : wpAny M A t Q' E s := wpAny_mono h hQ fun _ _ z => False.elim z
theorem calm_nox {X : Cx} : Gl.Calm X.nox := fun _ _ _ z => z
/-- what leaves the generator, for its caller -/
theorem cx_exc {pins : List (Addr × Obj)} {σ : L2.St} {H1 : Hp} {sc : Shared} {gi : Nat} (hx : Passes (CX X.prog X.w) X E) (hns : NoStop X.K E) (I1 : Inv X pins σ H1 sc) : ∀ e s₁, CX X.prog X.w X.stack H1 sc E e s₁ → NotStop (model X.prog X.w) e s₁.heap ∧ X.xe e (s₁.setGen gi .finished) := fun e s' hc => by
  have kin : X.K.In s'.heap := by
    obtain ⟨a, B, H', cls, d, _, fl, _, ub, _⟩ := id hc
    refine I1.ok.mod.kin.keeps fun b o eb => fl.1 b o (ub.keep b o (I1.bs b o eb).1 (I1.bs b o eb).2 fun hm => ?_)
    rcases List.mem_cons.mp (I1.stkSub b hm) with z | z
    · have h1 := Heap.lt_size eb
      have h2 := Nat.le_trans I1.ok.bsz I1.ok.above
      rw [z] at h1
      exact absurd (Nat.lt_of_lt_of_le h1 h2) (Nat.lt_irrefl _)
    · exact I1.ok.nofr eb z
  refine ⟨notStop_of hns kin hc, hx pins σ H1 sc e _ I1 ?_⟩
  obtain ⟨a, B, H', cls, d, z1, fl, z2, ub, z3, z4, z5, z6⟩ := hc
  exact ⟨a, B, H', cls, d, z1, fl, z2, ub, z3, z4, allBare_setGen z5 rfl, z6⟩
theorem sp_wish {pins fr : List (Addr × Obj)} {D : Ends} {f : Flow} {s : Shared} (h : SP X.nox (pins ++ fr) D f s) : SP X pins D f s := by
  cases f with
  | next => obtain ⟨σ, H, I, q⟩ := h; exact ⟨σ, H, Inv.unpinned (Inv.unwish I), q⟩
  | brk => obtain ⟨σ, H, I, q⟩ := h; exact ⟨σ, H, Inv.unpinned (Inv.unwish I), q⟩
  | cont => obtain ⟨σ, H, I, q⟩ := h; exact ⟨σ, H, Inv.unpinned (Inv.unwish I), q⟩
  | ret u => obtain ⟨v, σ, H, I, r, q⟩ := h; exact ⟨v, σ, H, Inv.unpinned (Inv.unwish I), r, q⟩
/-- THE RULE -/
theorem ps_forG (hp : PassesOwn (model X.prog X.w) X.A X.env X.xe) (hc : X.calm = true) (hst : X.stack = X.env :: X.outer) (hfr : X.env.frame = some X.env.locals) (hfn : ∀ x, X.fn x = true) (hex : X.ex = []) (hgc : ∀ y ∈ scope.names, y.2 ≠ .cell) (hr : Room (k + 1) X.A)
    (hgen : PGen3 X N qual scope f cdv k e tgn sp) (hx : Passes (CX X.prog X.w) X E) (hns : NoStop X.K E) (hg : PG X.nox tg g) (hb : PSs X.nox body tb)
    (hs : ∀ x, foldedSetIterable e X.env x = pure x := by intro _; rfl) : PS X (.For tg e body [] pos) (tForG tgn sp E g tb) := by
  refine ⟨fun pins s σ H D I h => ?_⟩
  refine wpAny_For (thn (hgen.run pins s σ H _ I h) fun u s1 hu => ?_) hs
  obtain ⟨vs, H1, sc, I1, ⟨a, gi, c, go, rfl, M⟩, w⟩ := hu
  refine wpAny_pyIter_gen (M.gen _ M.at_) ?_
  have I1' : Inv X pins σ H1 s1 := I1.call' (ch := []) M.os (Un.kept M.keep) (I1.hok.kept M.keep) M.bare fun b z => by simp at z
  have L := lk_def (N := N) (qual := qual) (scope := scope) (f := f) (cdv := cdv) (A := X.A.in1) (E := E) (pn := []) (a := a) I1 hex hst hfr hfn hgc []
  have hhd : X.A.handled = none := I.ok.hd hc
  have hE := cx_exc (X := X) (gi := gi) hx hns I1
  have hfs : ∀ n s', LI X pins (gcxOf X.prog X.w X.K X.mg X.base N qual scope f cdv X.A.in1 X.stack sc H1 E []) (Fam (Cc X pins) (frs X.stack) (csOf X) [a] (rho X (frs X.stack) H1 sc [])) (End3 (gcxOf X.prog X.w X.K X.mg X.base N qual scope f cdv X.A.in1 X.stack sc H1 E []) (Fam (Cc X pins) (frs X.stack) (csOf X) [a] (rho X (frs X.stack) H1 sc [])) D.nx X.stack H1 sc E a gi) (Yc g tb D) a gi go [a] n s' →
      codeAny (model X.prog X.w) X.A (.forLoop tg (.ref a) body [] X.env) (fun r s' => match r with | .ok f => SP X pins D f s' | .error e => cameBackBy (model X.prog X.w) X.A X.env X.xe e s') s' := fun n s' h0 => by
    refine codeAny_forLoop_any (fun n s' => LI X pins (gcxOf X.prog X.w X.K X.mg X.base N qual scope f cdv X.A.in1 X.stack sc H1 E []) (Fam (Cc X pins) (frs X.stack) (csOf X) [a] (rho X (frs X.stack) H1 sc [])) (End3 (gcxOf X.prog X.w X.K X.mg X.base N qual scope f cdv X.A.in1 X.stack sc H1 E []) (Fam (Cc X pins) (frs X.stack) (csOf X) [a] (rho X (frs X.stack) H1 sc [])) D.nx X.stack H1 sc E a gi) (Yc g tb D) a gi go [a] n s') ?_ n h0
    intro n s2 h2
    refine wpAny_passesOwn hp (wpAny_mono (next_g (E1 := X.xe) L yc_mono List.mem_cons_self M.gen M.data hhd (by have := hr.dp; omega) (fun _ _ _ b z => nomatch z) (fun _ _ _ _ _ _ b z => nomatch z) hE h2) (fun r s3 h3 => ?_) fun _ _ z => z)
    cases r with
    | none =>
      obtain ⟨γ, H3, I3, q⟩ := h3
      exact wpAny_execs_nil ⟨γ, H3, I3, q⟩
    | some v =>
      obtain ⟨γ, H3, x, kk, gs', I3, rv, eg, hsu, ea, Nn, hN, hgx⟩ := h3
      obtain ⟨vsd, hdat⟩ := M.data
      refine go_of ea M.cls hdat (by decide) ?_
      refine wpF (Gl.goes_ni (X := X.nox) hg calm_nox (I3.wish _) rv hgx) fun _ s4 h4 => ?_
      obtain ⟨⟨σ4, H4, I4, q4⟩, kp4⟩ := h4
      refine wpF (Gl.body_ni (X := X.nox) hb calm_nox I4 q4) fun fl s5 h5 => ?_
      obtain ⟨h5, kp5⟩ := h5
      have eg5 : s5.gens[gi]? = some gs' := by
        obtain ⟨k0, l0, c0, p0, f0, cl0, rfl⟩ := hsu
        exact kp5 _ _ _ _ _ _ _ (kp4 _ _ _ _ _ _ _ eg)
      cases fl with
      | next =>
        obtain ⟨σ5, H5, I5, q5⟩ := h5
        exact hN _ _ q5 s5 (Inv.unwish I5) eg5
      | cont =>
        obtain ⟨σ5, H5, I5, q5⟩ := h5
        exact hN _ _ q5 s5 (Inv.unwish I5) eg5
      | brk => exact sp_wish (D := { D with nx := D.nx }) (f := .next) h5
      | ret u => exact sp_wish (D := D) (f := .ret u) h5
  refine hfs sizeLine s1 ⟨σ, H1, _, I1', M.at_, fun b m => ?_, M.st, rfl, ?_⟩
  · rw [List.mem_singleton.mp m]
    exact ⟨go, M.at_⟩
  · refine M.wake X.A.in1 (s1.setGen gi .running) H1 σ (Yc g tb D) D.nx E (Fam (Cc X pins) (frs X.stack) (csOf X) [a] (rho X (frs X.stack) H1 sc [])) (rho X (frs X.stack) H1 sc [(a, go)]) hr.in1 I.ok.frames (fun b o e => e) M.os (allBare_setGen M.bare rfl) I1'.hok (fun _ _ => rfl) (ren_def I1 _ hex) (fun p hp => ?_) List.mem_cons_self (fun _ _ _ F => ⟨?_, F.xe⟩) ?_ yc_mono w
    · rw [List.mem_singleton.mp hp]
      have sza := M.gl2
      refine ⟨M.at_, I1.hok.fresh (Nat.le_trans M.gl1 (Nat.le_of_lt M.gl2)), Nat.ne_of_gt M.gl2, ?_, fun v z => ?_⟩
      · intro z
        rcases List.mem_cons.mp (I1.stkSub a z) with z | z
        · exact absurd (Nat.lt_of_lt_of_le I1.lt (Nat.le_of_lt (show sc.heap.objs.size < a from M.gl2))) (by rw [← z]; exact Nat.lt_irrefl _)
        · exact I1.nofs (Nat.le_of_lt M.gl2) z
      · obtain ⟨vsd, hdat⟩ := M.data
        have z : go.data = .cell v := z
        rw [hdat] at z; cases z
    · rw [F.sz]
      show (PySem.W.hideAll _ _).objs.size = _
      rw [PySem.W.hideAll_size]
    · refine ⟨⟨H1, Gl.inv_gens I1' (allBare_setGen M.bare rfl)⟩, rfl, rfl, rfl, fun _ _ _ => rfl, fun b m o e => ⟨o.slots, M.keep b o (rG_sub e)⟩, fun b m => ?_, ?_, fun b m => ?_, rfl⟩
      · obtain ⟨o, e⟩ := L.csT b m
        have e : (rG X (frs X.stack) H1 sc).get? b = some o := e
        show (rG X (frs X.stack) H1 sc).get? b = s1.heap.get? b
        rw [e, M.keep b o (rG_sub e)]
      · show [(a, go)] = pinsAt [a] s1.heap
        unfold pinsAt
        rw [List.filterMap_cons, M.at_]
        rfl
      · rw [List.mem_singleton.mp m]
        exact ⟨go, M.at_⟩
end
end Lg
/-! calls that make a generator -/
namespace Lg
open PySem PySem.Spec PyProof.Rows GenW L2 G3
section
variable {X : Cx} {N : List Str} {qual : Str} {scope : Scope} {f C : Addr} {cdv : Value} {k : Nat} {sp : Sp3} {fd : FuncData} {ps : List Str} {dvs : List V} {ds : List Value} {x m : Str} {p pos pos' apos : Pos} {o : Expr} {ta : TE}
def tCallG3 (n : Nat) (dvs : List V) (t : TA) : TA := fun σ H W => t σ H fun vs H1 => (vs ++ dvs).length = n ∧ W (vs ++ dvs) H1
def tMethG3 (C : Addr) (m : Str) (n : Nat) (dvs : List V) (ta : TE) (t : TA) : TA := fun σ H W => ta σ H fun x H1 => ∃ a dx fs, x = .ref a ∧ H1 a = some (.ins C dx fs) ∧ fs.lookup m = none ∧
  t σ H1 fun vs H2 => (x :: (vs ++ dvs)).length = n ∧ W (x :: (vs ++ dvs)) H2
/-- f(e, ..) of a generator def -/
theorem pgen3_call {e : Expr} {es : List Expr} {t : TA} (F : GFn3 X.prog X.w X.K X.mg X.base N qual scope cdv k f fd ps sp) (hr : Room k X.A) (hg : Gl X x) (hm : X.mg x = some (.ref f)) (hk : PySem.W.keepIn X.K (.ref f) = true) (hb : Binds X.K fd ps ds) (hd : Vals dvs ds)
    (ha : PA X (e :: es) t) (hdb : (x == ("__debug__" : Str)) = false := by decide) (he : starEach (e :: es) X.env = (false, eval e X.env) :: starEach es X.env := by rfl) (hpl : (backTo pos' (starEach es X.env)).any (·.1) = false := by rfl) :
    PGen3 X N qual scope f cdv k (.Call (.Name x p) (e :: es) [] pos') (tCallG3 ps.length dvs t) sp := by
  refine ⟨fun pins s σ H W I h => ?_⟩
  refine wpAny_Call_Name_kw (ld_glob I hg hm ?_ hdb)
  refine PySem.W.callWith_K (h₀ := X.base) I.ok.mod.kin hk (thn (ha.run pos' pins s σ H _ I h) fun us s1 ⟨vs, H1, I1, r, hl, q⟩ => ⟨I1.kIn, ?_⟩) he hpl
  exact thn (run_gfn3 F hr hb hd I1 r hl) fun u s' hu => ⟨_, H1, s1, I1, hu, q⟩
/-- o.m(e, ..) of a generator method -/
theorem pgen3_meth {pl : Sem Bool} {e : Expr} {es : List Expr} {t : TA} (he : PE X o ta) (c : Cls X.K C) (hm : Meth X.K C m f) (F : GFn3 X.prog X.w X.K X.mg X.base N qual scope cdv k f fd ps sp) (hr : Room k X.A) (hb : Binds X.K fd ps ds) (hd : Vals dvs ds) (ha : PA X (e :: es) t)
    (hst : starEach (e :: es) X.env = (false, eval e X.env) :: starEach es X.env := by rfl) (hpl : (backTo pos' (starEach es X.env)).any (·.1) = false := by rfl)
    (ht : eval (.Call (.Attribute o m apos) (e :: es) [] pos') X.env = (do
      let ov ← eval o X.env
      standAt apos.atName
      let (f, first) ← holding [ov] (getMethod ov m pl)
      callWith pos' f first (backTo pos' (starEach (e :: es) X.env)) (backToKw pos' (keywordEach [] X.env))) := by rfl) :
    PGen3 X N qual scope f cdv k (.Call (.Attribute o m apos) (e :: es) [] pos') (tMethG3 C m ps.length dvs ta t) sp := by
  refine ⟨fun pins s σ H W I h => ?_⟩
  refine PySem.W.methodCall_KW (pl := pl) (thn (he.run pins s σ H _ I h) fun u s1 ⟨x, H1, I1, rx, a, dx, fs, ex, ea, l, q⟩ => ?_) ht
  subst ex
  obtain rfl : u = Value.ref a := rx
  refine getmeth_ok I1 ea c hm l ?_
  refine PySem.W.callWith_K (first := [.ref a]) (h₀ := X.base) I.ok.mod.kin hm.kp (thn (ha.run pos' pins s1 σ H1 _ I1 q) fun us s2 ⟨vs, H2, I2, r, hl, q2⟩ => ⟨I2.kIn, ?_⟩) hst hpl
  exact thn (run_gfn3 (us := .ref a :: us) (vs := .ref a :: vs) F hr hb hd I2 (.cons rfl r) hl) fun u s' hu => ⟨_, H2, s2, I2, hu, q2⟩
/-- o.m() of a generator method -/
theorem pgen3_meth0 {pl : Sem Bool} (he : PE X o ta) (c : Cls X.K C) (hm : Meth X.K C m f) (F : GFn3 X.prog X.w X.K X.mg X.base N qual scope cdv k f fd ps sp) (hr : Room k X.A) (hb : Binds X.K fd ps ds) (hd : Vals dvs ds)
    (ht : eval (.Call (.Attribute o m apos) [] [] pos') X.env = (do
      let ov ← eval o X.env
      standAt apos.atName
      let (f, first) ← holding [ov] (getMethod ov m pl)
      callWith pos' f first (backTo pos' (starEach [] X.env)) (backToKw pos' (keywordEach [] X.env))) := by rfl) :
    PGen3 X N qual scope f cdv k (.Call (.Attribute o m apos) [] [] pos') (tMethG3 C m ps.length dvs ta tNil) sp := by
  refine ⟨fun pins s σ H W I h => ?_⟩
  refine PySem.W.methodCall_KW (pl := pl) (thn (he.run pins s σ H _ I h) fun u s1 ⟨x, H1, I1, rx, a, dx, fs, ex, ea, l, q⟩ => ?_) ht
  subst ex
  obtain rfl : u = Value.ref a := rx
  refine getmeth_ok I1 ea c hm l ?_
  have q : (V.ref a :: ([] ++ dvs)).length = ps.length ∧ W (.ref a :: ([] ++ dvs)) H1 := q
  exact PySem.W.callWith_K0 (first := [.ref a]) I1.kIn hm.kp (thn (run_gfn3 (us := [.ref a]) (vs := [.ref a]) F hr hb hd I1 (.cons rfl .nil) q.1) fun u s' hu => ⟨_, H1, s1, I1, hu, q.2⟩)
end
end Lg

/-! [elt for target in gen(..)]: a comprehension over an own generator that raises nothing. -/
namespace Lg
open PySem PySem.Spec PyProof.Rows GenW L2 G3
def Kept (sc : Shared) (a D b : Addr) : Prop := b = a ∨ b = D ∨ ∃ o, sc.heap.get? b = some o
open Classical in
/-- the block's start: what stood ahead of the call, the generator, the new list -/
noncomputable def hid (sc : Shared) (a D : Addr) (h : Heap) : Heap := PySem.W.hideAll h ((List.range h.objs.size).filter fun b => !decide (Kept sc a D b))
section
variable {sc : Shared} {a D b : Addr} {h : Heap} {o : Obj}
theorem hid_sub (e : (hid sc a D h).get? b = some o) : h.get? b = some o := PySem.W.of_hideAll _ e
theorem hid_keeps (e : (hid sc a D h).get? b = some o) : Kept sc a D b := by
  apply Classical.byContradiction
  intro n
  have m : b ∈ (List.range h.objs.size).filter fun b => !@decide (Kept sc a D b) (Classical.propDecidable _) := List.mem_filter.mpr ⟨List.mem_range.mpr (Heap.lt_size (hid_sub e)), by simpa using n⟩
  have z : (hid sc a D h).get? b = none := PySem.W.hideAll_none _ m
  rw [z] at e; cases e
theorem hid_get (k : Kept sc a D b) (e : h.get? b = some o) : (hid sc a D h).get? b = some o := PySem.W.hideAll_get _ e fun m => by
  have q := (List.mem_filter.mp m).2
  have : ¬ Kept sc a D b := by simpa using q
  exact this k
theorem hid_size : (hid sc a D h).objs.size = h.objs.size := PySem.W.hideAll_size ..
end
section
variable {X : Cx} {pins : List (Addr × Obj)} {σ : L2.St}
theorem pts_ni {ifs : List Expr} {tt : TT} {H : Hp} {s : Shared} {Q : Bool → Hp → Prop} (ht : PTs X ifs tt) (hx : Gl.Calm X) (I : Inv X pins σ H s) (h : tt σ H Q) :
    wpAny (model X.prog X.w) X.A (forIn ifs true fun c r => if r = true then do let ok ← isTrue c X.env (eval c X.env); pure (ForInStep.yield ok) else pure (ForInStep.yield r)) (fun b t => (∃ H', Inv X pins σ H' t ∧ Q b H') ∧ Ni.Kp s.gens t.gens) X.xe s := by
  refine wpAny_mono (Ni.wpAny_ni (ht.run pins { s with gens := s.gens.map Ni.unk } σ H Q (Gl.inv_gens I (Ni.unk_bare I.bare)) h)) (fun _ t ⟨t', b, e, q, R, k⟩ => ?_) fun u t ⟨t', b, e, q, _, _⟩ => ?_
  · subst e
    obtain ⟨H2, I2, q2⟩ := q
    exact ⟨⟨H2, Gl.inv_gens I2 (R.bare I2.bare), q2⟩, k⟩
  · subst e
    exact hx u t' b q
theorem pe_ni {elt : Expr} {te : TE} {H : Hp} {s : Shared} {Q : VK} (he : PE X elt te) (hx : Gl.Calm X) (I : Inv X pins σ H s) (h : te σ H Q) :
    wpAny (model X.prog X.w) X.A (eval elt X.env) (fun u t => (∃ v H', Inv X pins σ H' t ∧ RelV v u ∧ Q v H') ∧ Ni.Kp s.gens t.gens) X.xe s := by
  refine wpAny_mono (Ni.wpAny_ni (he.run pins { s with gens := s.gens.map Ni.unk } σ H Q (Gl.inv_gens I (Ni.unk_bare I.bare)) h)) (fun _ t ⟨t', b, e, q, R, k⟩ => ?_) fun u t ⟨t', b, e, q, _, _⟩ => ?_
  · subst e
    obtain ⟨v, H2, I2, q2⟩ := q
    exact ⟨⟨v, H2, Gl.inv_gens I2 (R.bare I2.bare), q2⟩, k⟩
  · subst e
    exact hx u t' b q
theorem app_ni {E : Value → Shared → Prop} {D : Addr} {xs : List V} {y : V} {v : Value} {H : Hp} {s : Shared} (I : Inv X pins σ H s) (hD : H D = some (.lst xs)) (hz : xs.length < sizeLine) (r : RelV y v) :
    wpAny (model X.prog X.w) X.A (call (.builtin "list.append") [.ref D, v]) (fun _ t => Inv X pins σ (upd H D (.lst (xs ++ [y]))) t ∧ Ni.Kp s.gens t.gens) E s := by
  refine wpAny_mono (Ni.wpAny_ni (app_ok (E := fun _ _ => False) (Q := fun _ t => Inv X pins σ (upd H D (.lst (xs ++ [y]))) t) (Gl.inv_gens I (Ni.unk_bare I.bare)) hD hz r fun s' I' => I')) (fun _ t ⟨t', b, e, q, R, k⟩ => ?_) fun u t ⟨t', b, e, q, _, _⟩ => q.elim
  subst e
  exact ⟨Gl.inv_gens q (R.bare q.bare), k⟩
/-- the block's turn -/
def Yl (D : Addr) (g : TG) (tt : TT) (te : TE) (vs : List Nat) : Tn := fun _ x γ H P => H D ≠ none ∧ ∃ N : L2.St → Hp → Prop, (∀ γ2 H2, N γ2 H2 → P γ2 H2) ∧ g x γ H fun σ2 H2 => (wipe σ2 vs = γ ∧ tt σ2 H2 fun b H3 =>
  if b = true then te σ2 H3 fun y H4 => ∃ acc, H4 D = some (.lst acc) ∧ acc.length < sizeLine ∧ N γ (upd H4 D (.lst (acc ++ [y]))) else N γ H3)
theorem yl_mono {D : Addr} {g : TG} {tt : TT} {te : TE} {vs : List Nat} : Mono (Yl D g tt te vs) := fun _ _ _ _ _ _ h ⟨d, N, a, b⟩ => ⟨d, N, fun γ2 H2 z => h _ _ (a γ2 H2 z), b⟩
def tLcG (tg : TA) (sp : Sp3) (g : TG) (tt : TT) (te : TE) (vs : List Nat) : TE := fun σ H Q => tg σ H fun args H1 => ∀ D, H1 D = none → sp args (upd H1 D (.lst [])) (wipe σ vs) (Yl D g tt te vs) (fun _ H2 => H2 D ≠ none ∧ Q (.ref D) H2) fun _ _ _ => False
end
section
variable {X : Cx} {pins : List (Addr × Obj)} {σ : L2.St} {Hc H3 : Hp} {sc s1 s3 : Shared} {N : List Str} {qual : Str} {gsc scope : Scope} {f : Addr} {cdv : Value} {A : Around} {E : XK} {pn : List (Addr × Obj)} {a D : Addr} {go : Obj} {ce : Env}
/-- what is between the block and the generator -/
theorem lk_blk (I : Inv X pins σ Hc sc) (hfn : ∀ x, X.fn x = true) (hgc : ∀ y ∈ gsc.names, y.2 ≠ .cell) (k3 : ∀ b o, sc.heap.get? b = some o → s3.heap.get? b = some o) (a1 : sc.heap.objs.size < a) (aD : a < D) (hn : ∀ b, b ≠ D → H3 b = Hc b) (hD : ∃ xs, H3 D = some (.lst xs)) (os3 : s3.os = sc.os) (cL : D < ce.locals)
    (hce : ∀ x c, ce.cells.lookup x = some c → ∃ y, X.env.cells.lookup y = some c) (pn' : List (Addr × Obj)) :
    Lk (X.blk { s3 with heap := hid sc a D s3.heap } H3 scope ce []) [] (gcxOf X.prog X.w X.K X.mg X.base N qual gsc f cdv A X.stack sc Hc E pn) (csOf (X.blk { s3 with heap := hid sc a D s3.heap } H3 scope ce [])) [a, ce.locals] [D] ⟨sc, Hc, fun _ _ => False, pn'⟩ := by
  have scD : sc.heap.objs.size < D := Nat.lt_trans a1 aD
  have scC : sc.heap.objs.size < ce.locals := Nat.lt_trans scD cL
  have old : ∀ b o, sc.heap.get? b = some o → b < sc.heap.objs.size := fun b o e => Heap.lt_size e
  have neD : ∀ b o, sc.heap.get? b = some o → b ≠ D := fun b o e => Nat.ne_of_lt (Nat.lt_trans (old b o e) scD)
  have keepH : ∀ b o, sc.heap.get? b = some o → (hid sc a D s3.heap).get? b = some o := fun b o e => hid_get (.inr (.inr ⟨o, e⟩)) (k3 b o e)
  have cel : ∀ b ∈ csOf (X.blk { s3 with heap := hid sc a D s3.heap } H3 scope ce []), Hc b = none ∧ b ∉ frs X.stack ∧ (∃ o, sc.heap.get? b = some o) := fun b m => by
    obtain ⟨x, e⟩ := of_csOf m
    obtain ⟨y, e⟩ := hce x b e
    obtain ⟨_, o, q, _⟩ := I.cell y b e
    refine ⟨I.freeC y b e, fun z => ?_, o, q⟩
    rcases List.mem_cons.mp (I.stkSub b z) with z | z
    · exact I.cne y b e z
    · obtain ⟨_, o, eo, _⟩ := I.ok.funs.mem z
      exact absurd (Nat.lt_of_lt_of_le (Heap.lt_size eo) (I.ok.cab y b (hfn y) e)) (Nat.lt_irrefl _)
  have HcD : Hc D = none := I.hok.fresh (Nat.le_of_lt scD)
  have HcN : ∀ b u, Hc b = some u → H3 b = some u := fun b u e => by
    rw [hn b (fun z => by rw [z, HcD] at e; cases e)]; exact e
  have HNc : ∀ b u, H3 b = some u → (∀ xs, u ≠ .lst xs) → Hc b = some u := fun b u e n => by
    rw [← hn b (fun z => by
      obtain ⟨xs, q⟩ := hD
      rw [z, q] at e
      exact n xs (Option.some.inj e).symm)]
    exact e
  refine ⟨rfl, rfl, rfl, rfl, fun x => ?_, ⟨?_, ?_⟩, fun b m => m, fun b m => .inr m, fun x c e => ⟨csOf_mem e, (cel c (csOf_mem e)).2.1, ?_⟩, fun b m => of_csOf m, fun b m => (cel b m).1, fun b m => (cel b m).2.2, fun b m => ?_, .inr ⟨by simp, ?_⟩, os3.symm, fun b o h nf nc => ?_, fun b o e _ => ?_, fun b xs e => HNc b _ e (fun _ => by simp), fun b o u e => HNc b _ e (fun _ => by simp), fun b ps e => HNc b _ e (fun _ => by simp), fun b o v e n nf hv => .inr ?_, fun b o e n => ?_, fun b xs e => HcN b _ e, fun b o u e => HcN b _ e, fun b ps e => HcN b _ e⟩
  · show (cellsFrom (sc.heap.objs.size + 1) gsc.names []).lookup x = none
    rw [cells_nil hgc]; rfl
  · intro z
    have z : sc.heap.objs.size ∈ frs X.stack := z
    rcases List.mem_cons.mp (I.stkSub _ z) with z | z
    · exact absurd I.lt (by rw [← z]; exact Nat.lt_irrefl _)
    · exact I.nofs (Nat.le_refl _) z
  · exact Nat.ne_of_lt scC
  · obtain ⟨o, q⟩ := (cel c (csOf_mem e)).2.2
    exact Nat.ne_of_lt (Nat.lt_trans (old c o q) scC)
  · have m : b ∈ frs X.stack := m
    obtain ⟨_, o, e, _⟩ := I.stack.mem m
    exact ⟨o, e⟩
  · show sc.heap.get? ce.locals = none
    cases q : sc.heap.get? ce.locals with
    | none => rfl
    | some o => exact absurd (Nat.lt_trans (old _ o q) scC) (Nat.lt_irrefl _)
  · rcases h with ⟨h1, h2, _⟩ | h
    · have h1 : (hid sc a D s3.heap).get? b = some o := h1
      have h2 : H3 b = none := h2
      rcases hid_keeps h1 with z | z | ⟨o', z⟩
      · exact .inl (by rw [z]; exact List.mem_cons_self)
      · obtain ⟨xs, q⟩ := hD
        rw [z, q] at h2; cases h2
      · refine .inr ⟨?_, ?_⟩
        · rw [get_one h1 (keepH b o' z)]; exact z
        · show Hc b = none
          rw [← hn b (neD b o' z)]; exact h2
    · exact absurd (show (b, o) ∈ ([] : List (Addr × Obj)) ++ [] from h) (by simp)
  · have e : (hid sc a D s3.heap).get? b = some o := e
    rcases hid_keeps e with z | z | ⟨o', z⟩
    · exact .inl (by rw [z]; exact List.mem_cons_self)
    · exact .inr (.inl (by rw [z]; exact List.mem_cons_self))
    · exact .inr (.inr ⟨o', z⟩)
  · have e : sc.heap.get? b = some o := e
    have n : Hc b = none := n
    refine ⟨keepH b o e, ?_, fun z => by cases z⟩
    show H3 b = none
    rw [hn b (neD b o e)]; exact n
  · have e : sc.heap.get? b = some o := e
    exact ⟨o, keepH b o e, fun z => by cases z⟩
theorem ren_id (I : Inv X pins σ Hc sc) (pn' : List (Addr × Obj)) : Ren (gcxOf X.prog X.w X.K X.mg X.base N qual gsc f cdv A X.stack sc Hc E pn') ⟨sc, Hc, fun _ _ => False, pn'⟩ := by
  refine ⟨⟨fun b o e => e, fun b o _ n => n, fun b xs e => e, fun b o u e => e, fun b ps e => ⟨#[], by have e : Hc b = some (.tbl ps) := e; show Hc b = _; rw [e]; simp⟩⟩, rfl, rfl, fun b o e => I.bs b o e, fun b m => ⟨I.stkFree b m, fun o e => e⟩⟩
theorem closed_mem {scope : Scope} {n : Nat} (ok : ∀ y ∈ scope.names, y.2 = .free → ∃ c, X.env.cells.lookup y.1 = some c) (hnc : ∀ y ∈ scope.names, y.2 ≠ .cell) {x : Str} {c : Addr} (e : (cellsFrom n scope.names (cloFrom X.env.cells scope.names [])).lookup x = some c) : ∃ y, X.env.cells.lookup y = some c := by
  rw [cells_nil hnc] at e
  rcases cloFrom_mem (PySem.mem_of_lookup e) with hm | ⟨h1, rfl⟩
  · cases hm
  · obtain ⟨c, hc⟩ := ok _ h1 rfl
    exact ⟨_, by rw [hc]; rfl⟩
/-- THE RULE -/
theorem pe_lcG {k : Nat} {e elt tg : Expr} {ifs : List Expr} {own : List (Str × Nat)} {pos : Pos} {tgn : TA} {sp : Sp3} {g : TG} {tt : TT} {te : TE} (hc : X.calm = true) (hN : X.N.Nodup) (hex : X.ex = []) (hfn : ∀ x, X.fn x = true) (hgc : ∀ y ∈ gsc.names, y.2 ≠ .cell) (hnc : ∀ y ∈ scope.names, y.2 ≠ .cell) (hr : Room (k + 1) X.A)
    (hgen : PGen3 X N qual gsc f cdv k e tgn sp) (ok : BlkOk X.N X.env.scope scope own)
    (hg : ∀ (s : Shared) (H : Hp) (C : Addr) (cl : List (Str × Addr)) (fp : List Addr), PG (X.blk s H scope (compEnvC scope cl C X.env) fp) tg g) (ht : ∀ (s : Shared) (H : Hp) (C : Addr) (cl : List (Str × Addr)) (fp : List Addr), PTs (X.blk s H scope (compEnvC scope cl C X.env) fp) ifs tt)
    (he : ∀ (s : Shared) (H : Hp) (C : Addr) (cl : List (Str × Addr)) (fp : List Addr), PE (X.blk s H scope (compEnvC scope cl C X.env) fp) elt te) (hs : ∀ x, foldedSetIterable e X.env x = pure x := by intro _; rfl) :
    PE X (.ListComp elt [⟨tg, e, ifs, 0⟩] scope pos) (tLcG tgn sp g tt te (own.map (·.2))) := by
  refine ⟨fun pins s σ H Q I0 h => ?_⟩
  rw [eval_ListComp]
  have hfree : ∀ y ∈ scope.names, y.2 = .free → ∃ c, X.env.cells.lookup y.1 = some c := fun y hy e => by
    rcases ok.free y hy e with k | k
    · exact I0.ok.has _ (.inl k)
    · exact I0.ok.has _ (.inr k)
  refine wpAny_comprehension_free (use := none) rfl hs (closure_ok hfree) ok.kind (fun y hy e => by rw [ok.uniq y hy, e]) (thn (hgen.run pins s σ H _ I0 h) fun u s1 hu => ?_)
  obtain ⟨vs, H1, sc, I1, ⟨a, gi, c, go, rfl, M⟩, w⟩ := hu
  refine wpAny_pyIter_gen (M.gen _ M.at_) ?_
  have I2 : Inv X pins σ H1 s1 := I1.call' (ch := []) M.os (Un.kept M.keep) (I1.hok.kept M.keep) M.bare fun b z => by simp at z
  refine wpAny_newObj_type (newEnv_comp ?_) (by show 0 ≤ sizeLine; decide)
  generalize hD : s1.heap.objs.size = D
  have hDn : H1 D = none := I2.hok.fresh (Nat.le_of_eq hD)
  have w0 := w D hDn
  have aD : a < D := by rw [← hD]; exact M.a2
  have sca : sc.heap.objs.size < a := M.gl2
  have scD : sc.heap.objs.size < D := Nat.lt_trans sca aD
  generalize hs3 : ({ s1 with heap := s1.heap.push { cls := .type "list", data := .seq ([] : List Value).toArray } } : Shared) = s3
  have I3 : Inv X pins σ (upd H1 D (.lst [])) s3 := by
    rw [← hs3]
    refine I2.laid (t' := s1.toks) (fun b o e => Heap.get?_push_of_some _ e) (Nat.le_of_eq hD) ⟨Nat.zero_le _, [], 0, .nil, ?_⟩
    rw [← hD]
    exact Heap.get?_push_size _ rfl
  have h3 : s3.heap = s1.heap.push { cls := .type "list", data := .seq ([] : List Value).toArray } := by rw [← hs3]
  have k13 : ∀ b o, s1.heap.get? b = some o → s3.heap.get? b = some o := fun b o e => by rw [h3]; exact Heap.get?_push_of_some _ e
  have k03 : ∀ b o, sc.heap.get? b = some o → s3.heap.get? b = some o := fun b o e => k13 b o (M.keep b o e)
  have sz3 : D < s3.heap.objs.size := by rw [h3, Heap.size_push, hD]; exact Nat.lt_succ_self _
  have os3 : s3.os = sc.os := by rw [← hs3]; exact M.os
  have g3 : s3.gens = s1.gens := by rw [← hs3]
  have hn3 : ∀ b, b ≠ D → (upd H1 D (.lst [])) b = H1 b := fun b n => upd_ne n
  have hD3 : (upd H1 D (.lst [])) D = some (.lst []) := upd_same
  have I4 := block_start (fp := []) I3 ok hN (fun b hb => by cases hb)
  have pg := hg { s3 with heap := hid sc a D s3.heap } (upd H1 D (.lst [])) s3.heap.objs.size (cellsFrom (s3.heap.objs.size + 1) scope.names (cloFrom X.env.cells scope.names [])) []
  have pt := ht { s3 with heap := hid sc a D s3.heap } (upd H1 D (.lst [])) s3.heap.objs.size (cellsFrom (s3.heap.objs.size + 1) scope.names (cloFrom X.env.cells scope.names [])) []
  have pe := he { s3 with heap := hid sc a D s3.heap } (upd H1 D (.lst [])) s3.heap.objs.size (cellsFrom (s3.heap.objs.size + 1) scope.names (cloFrom X.env.cells scope.names [])) []
  show codeAny _ _ (.compStart (.ListComp elt [⟨tg, e, ifs, 0⟩] scope pos) 0 (.ref a) (.ref D) (compEnvC scope (cellsFrom (s3.heap.objs.size + 1) scope.names (cloFrom X.env.cells scope.names [])) s3.heap.objs.size X.env)) (compPost (model X.prog X.w) X.A X.xe none _ (.ref D) s3.heap.objs.size) { s3 with heap := pushCells (s3.heap.push { cls := .type "dict", data := .dict #[] }) scope.names }
  have hcell : ∀ x c, (compEnvC scope (cellsFrom (s3.heap.objs.size + 1) scope.names (cloFrom X.env.cells scope.names [])) s3.heap.objs.size X.env).cells.lookup x = some c → ∃ y, X.env.cells.lookup y = some c := fun x c e => closed_mem hfree hnc e
  generalize hce : compEnvC scope (cellsFrom (s3.heap.objs.size + 1) scope.names (cloFrom X.env.cells scope.names [])) s3.heap.objs.size X.env = ce at I4 pg pt pe hcell ⊢
  have cL : ce.locals = s3.heap.objs.size := by subst hce; rfl
  generalize hH3 : upd H1 D (.lst []) = H3 at I3 I4 pg pt pe w0 hn3 hD3
  have k34 : ∀ b o, s3.heap.get? b = some o → (pushCells (s3.heap.push { cls := .type "dict", data := .dict #[] }) scope.names).get? b = some o := fun b o e => pushCells_keeps _ _ _ _ (Heap.get?_push_of_some _ e)
  generalize hs4 : ({ s3 with heap := pushCells (s3.heap.push { cls := .type "dict", data := .dict #[] }) scope.names } : Shared) = s4 at I4 ⊢
  have k34 : ∀ b o, s3.heap.get? b = some o → s4.heap.get? b = some o := fun b o e => by rw [← hs4]; exact k34 b o e
  have os4 : s4.os = sc.os := by rw [← hs4]; exact os3
  have g4 : s4.gens = s1.gens := by rw [← hs4]; exact g3
  have fsB : ∀ b, b ∈ frs X.stack → b < sc.heap.objs.size ∧ ∃ o, sc.heap.get? b = some o := fun b m => by
    obtain ⟨_, o, e, _⟩ := I1.stack.mem m
    exact ⟨Heap.lt_size e, o, e⟩
  have neD : ∀ {b}, b < sc.heap.objs.size → b ≠ D := fun h => Nat.ne_of_lt (Nat.lt_trans h scD)
  have RB : Ren (X.blk s3 H3 scope ce []) ⟨{ s3 with heap := hid sc a D s3.heap }, H3, fun _ _ => False, []⟩ := by
    refine ⟨⟨fun b o e => hid_sub e, fun b o _ n => n, fun b xs e => e, fun b o u e => e, fun b ps e => ⟨#[], by simpa using e⟩⟩, hid_size, rfl, fun b o e => ?_, fun b m => ?_⟩
    · obtain ⟨e1, n1⟩ := I1.bs b o e
      exact ⟨hid_get (.inr (.inr ⟨o, e1⟩)) (k03 b o e1), by show H3 b = none; rw [hn3 b (neD (Heap.lt_size e1))]; exact n1⟩
    · obtain ⟨l, o1, e1⟩ := fsB b m
      exact ⟨by show H3 b = none; rw [hn3 b (neD l)]; exact I1.stkFree b m, fun o e => hid_get (.inr (.inr ⟨o1, e1⟩)) e⟩
  have I5 : Inv (X.blk { s3 with heap := hid sc a D s3.heap } H3 scope ce []) [] (wipe σ (own.map (·.2))) H3 s4 := RB.inv rfl rfl I4
  have L := lk_blk (N := N) (qual := qual) (gsc := gsc) (scope := scope) (f := f) (cdv := cdv) (A := X.A.in1) (E := fun _ _ _ => False) (pn := []) (s3 := s3) (H3 := H3) (ce := ce) I1 hfn hgc k03 sca aD hn3 ⟨_, hD3⟩ os3 (by rw [cL]; exact sz3) hcell []
  have calmB : Gl.Calm (X.blk { s3 with heap := hid sc a D s3.heap } H3 scope ce []) := fun _ _ _ z => z
  have hhd : X.A.handled = none := I1.ok.hd hc
  have hE : ∀ e s₁, CX X.prog X.w X.stack H1 sc (fun _ _ _ => False) e s₁ → False := fun e s₁ hc => by
    obtain ⟨_, _, _, _, _, _, _, _, _, _, _, _, z⟩ := hc
    exact z
  have main : ∀ n s', LI (X.blk { s3 with heap := hid sc a D s3.heap } H3 scope ce []) [] (gcxOf X.prog X.w X.K X.mg X.base N qual gsc f cdv X.A.in1 X.stack sc H1 (fun _ _ _ => False) []) (Fam (Cc (X.blk { s3 with heap := hid sc a D s3.heap } H3 scope ce []) []) (frs X.stack) (csOf (X.blk { s3 with heap := hid sc a D s3.heap } H3 scope ce [])) [a, ce.locals] ⟨sc, H1, fun _ _ => False, []⟩) (End3 (gcxOf X.prog X.w X.K X.mg X.base N qual gsc f cdv X.A.in1 X.stack sc H1 (fun _ _ _ => False) []) (Fam (Cc (X.blk { s3 with heap := hid sc a D s3.heap } H3 scope ce []) []) (frs X.stack) (csOf (X.blk { s3 with heap := hid sc a D s3.heap } H3 scope ce [])) [a, ce.locals] ⟨sc, H1, fun _ _ => False, []⟩) (fun _ H2 => H2 D ≠ none ∧ Q (.ref D) H2) X.stack H1 sc (fun _ _ _ => False) a gi) (Yl D g tt te (own.map (·.2))) a gi go [a, ce.locals] n s' → codeAny (model X.prog X.w) X.A (.compLoop (.ListComp elt [⟨tg, e, ifs, 0⟩] scope pos) 0 (.ref a) (.ref D) ce) (compPost (model X.prog X.w) X.A X.xe none (EP X pins σ Q) (.ref D) s3.heap.objs.size) s' := fun n0 s' h0 => by
    refine compLoop_any (fun n s' => LI (X.blk { s3 with heap := hid sc a D s3.heap } H3 scope ce []) [] (gcxOf X.prog X.w X.K X.mg X.base N qual gsc f cdv X.A.in1 X.stack sc H1 (fun _ _ _ => False) []) (Fam (Cc (X.blk { s3 with heap := hid sc a D s3.heap } H3 scope ce []) []) (frs X.stack) (csOf (X.blk { s3 with heap := hid sc a D s3.heap } H3 scope ce [])) [a, ce.locals] ⟨sc, H1, fun _ _ => False, []⟩) (End3 (gcxOf X.prog X.w X.K X.mg X.base N qual gsc f cdv X.A.in1 X.stack sc H1 (fun _ _ _ => False) []) (Fam (Cc (X.blk { s3 with heap := hid sc a D s3.heap } H3 scope ce []) []) (frs X.stack) (csOf (X.blk { s3 with heap := hid sc a D s3.heap } H3 scope ce [])) [a, ce.locals] ⟨sc, H1, fun _ _ => False, []⟩) (fun _ H2 => H2 D ≠ none ∧ Q (.ref D) H2) X.stack H1 sc (fun _ _ _ => False) a gi) (Yl D g tt te (own.map (·.2))) a gi go [a, ce.locals] n s') ?_ n0 h0
    intro n s5 h5
    refine wpAny_mono (next_g (X := (X.blk { s3 with heap := hid sc a D s3.heap } H3 scope ce [])) L yl_mono List.mem_cons_self M.gen M.data hhd (by have := hr.dp; show X.A.depth < recursionLimit; omega) (fun γ H q b m => by rw [List.mem_singleton.mp m]; exact q.1) (fun k x γ H P y b m => by rw [List.mem_singleton.mp m]; exact y.1) (fun e s₁ hc => (hE e s₁ hc).elim) h5) (fun r s6 h6 => ?_) fun _ _ z => z
    cases r with
    | none =>
      obtain ⟨γ, H6, I6, hD6, q⟩ := h6
      have S : Sub ⟨sc, H1, fun _ _ => False, []⟩ H3 (hid sc a D s3.heap) := by
        refine ⟨fun b o e => hid_get (.inr (.inr ⟨o, e⟩)) (k03 b o e), fun b o e n => by rw [hn3 b (neD (Heap.lt_size e))]; exact n, fun b xs e => ?_, fun b o u e => ?_, fun b ps e => ⟨#[], ?_⟩⟩
        · rw [hn3 b (fun z => by rw [z] at e; have e : H1 D = _ := e; rw [hDn] at e; cases e)]; exact e
        · rw [hn3 b (fun z => by rw [z] at e; have e : H1 D = _ := e; rw [hDn] at e; cases e)]; exact e
        · rw [hn3 b (fun z => by rw [z] at e; have e : H1 D = _ := e; rw [hDn] at e; cases e)]
          have e : H1 b = some (.tbl ps) := e
          rw [e]; simp
      have I7 : Inv X pins σ H6 s6 := I1.call' (ch := []) (I6.os.trans os3) (S.un I6.base) I6.hok I6.bare fun b z => by simp at z
      have nC : H6 s3.heap.objs.size = none := by
        have z : H6 ce.locals = none := I6.free
        rw [cL] at z
        exact z
      obtain ⟨m, hn, _⟩ := I6.loc
      have hn : s6.heap.Ns ce.locals m := hn
      rw [cL] at hn
      refine ⟨m, hn, fun h'' sb => ?_⟩
      obtain ⟨f0, f1, f2, f3, f4, f5⟩ := I1.fpOk (H' := H6) (b := s3.heap.objs.size) (Nat.le_of_lt (Nat.lt_trans scD sz3)) nC
      exact ⟨.ref D, H6, I7.turned (t' := s6.toks) (fun b o hb e => (sb.2 b hb).trans e) f0 f1 f3 f4 f5, rfl, q⟩
    | some v =>
      obtain ⟨γ, H6, x, kk, gs', I6, rv, eg, hsu, ea, hD6, Nn, hN2, hgx⟩ := h6
      obtain ⟨vsd, hdat⟩ := M.data
      refine go_of ea M.cls hdat (by decide) ?_
      refine wpF (Gl.goes_ni (X := (X.blk { s3 with heap := hid sc a D s3.heap } H3 scope ce [])) pg calmB I6 rv hgx) fun _ s7 h7 => ?_
      obtain ⟨⟨σ7, H7, I7, hw7, q7⟩, kp7⟩ := h7
      refine wpF (pts_ni (X := (X.blk { s3 with heap := hid sc a D s3.heap } H3 scope ce [])) pt calmB I7 q7) fun b s8 h8 => ?_
      obtain ⟨⟨H8, I8, q8⟩, kp8⟩ := h8
      have eg8 : s8.gens[gi]? = some gs' := by
        obtain ⟨k0, l0, c0, p0, f0, cl0, rfl⟩ := hsu
        exact kp8 _ _ _ _ _ _ _ (kp7 _ _ _ _ _ _ _ eg)
      have back : ∀ {t : Shared} {Ht : Hp}, Inv (X.blk { s3 with heap := hid sc a D s3.heap } H3 scope ce []) ([] ++ free (X.blk { s3 with heap := hid sc a D s3.heap } H3 scope ce []) H6 s6.heap) σ7 Ht t → Inv (X.blk { s3 with heap := hid sc a D s3.heap } H3 scope ce []) ([] ++ free (X.blk { s3 with heap := hid sc a D s3.heap } H3 scope ce []) H6 s6.heap) γ Ht t := fun {t Ht} It => by
        have hl : γ.length = σ7.length := by rw [← hw7, wipe_length]
        refine It.weak hl fun j v e => ?_
        rw [← hw7] at e
        exact (wipe_some e).1
      cases b with
      | false =>
        simp only [Bool.false_eq_true, if_false] at q8 ⊢
        exact hN2 _ _ q8 s8 (back I8) eg8
      | true =>
        simp only [if_true] at q8 ⊢
        refine wpF (pe_ni (X := (X.blk { s3 with heap := hid sc a D s3.heap } H3 scope ce [])) pe calmB I8 q8) fun z s9 h9 => ?_
        obtain ⟨⟨yv, H9, I9, r9, acc, hD9, hz9, nx⟩, kp9⟩ := h9
        refine wpF (app_ni (X := (X.blk { s3 with heap := hid sc a D s3.heap } H3 scope ce [])) (E := fun _ _ => False) I9 hD9 hz9 r9) fun _ s10 ⟨I10, kp10⟩ => ?_
        have eg10 : s10.gens[gi]? = some gs' := by
          obtain ⟨k0, l0, c0, p0, f0, cl0, rfl⟩ := hsu
          exact kp10 _ _ _ _ _ _ _ (kp9 _ _ _ _ _ _ _ eg8)
        exact hN2 _ _ nx s10 (back I10) eg10
  suffices loop : codeAny (model X.prog X.w) X.A (.compLoop (.ListComp elt [⟨tg, e, ifs, 0⟩] scope pos) 0 (.ref a) (.ref D) ce) (compPost (model X.prog X.w) X.A X.xe none (EP X pins σ Q) (.ref D) s3.heap.objs.size) s4 from codeAny_compStart_list loop (wpAny_pyIter_gen (M.gen _ (k34 _ _ (k13 _ _ M.at_))) loop)
  have ea4 : s4.heap.get? a = some go := k34 _ _ (k13 _ _ M.at_)
  obtain ⟨oC, eC, dC⟩ : ∃ oC, s4.heap.get? ce.locals = some oC ∧ ∀ v, oC.data ≠ .cell v := by
    obtain ⟨_, ⟨o, es, ep, e, d, _⟩, _⟩ := I5.loc
    exact ⟨o, e, fun v z => by rw [d] at z; cases z⟩
  have nbE : ∀ b ∈ [a, ce.locals], ∃ o, s4.heap.get? b = some o := fun b m => by
    rcases List.mem_cons.mp m with z | m
    · exact ⟨go, by rw [z]; exact ea4⟩
    · exact ⟨oC, by rw [List.mem_singleton.mp m]; exact eC⟩
  have gs4 : s4.gens[gi]? = some (.fresh c) := by rw [g4]; exact M.st
  have wp : ∀ p ∈ pinsAt [a, ce.locals] s4.heap, (s4.setGen gi .running).heap.get? p.1 = some p.2 ∧ H3 p.1 = none ∧ p.1 ≠ sc.heap.objs.size ∧ p.1 ∉ frs X.stack ∧ ∀ v, p.2.data ≠ .cell v := fun p hp => by
    obtain ⟨m, e⟩ := of_pinsAt hp
    rcases List.mem_cons.mp m with z | m
    · have eg : p.2 = go := get_one e (by rw [z]; exact ea4)
      refine ⟨e, ?_, ?_, ?_, fun v q => ?_⟩
      · rw [z, hn3 a (Nat.ne_of_lt aD)]; exact I1.hok.fresh (Nat.le_of_lt sca)
      · rw [z]; exact Nat.ne_of_gt sca
      · intro q
        rw [z] at q
        exact absurd (Nat.lt_trans (fsB a q).1 sca) (Nat.lt_irrefl _)
      · obtain ⟨vsd, hdat⟩ := M.data
        rw [eg, hdat] at q; cases q
    · have z := List.mem_singleton.mp m
      have eg : p.2 = oC := get_one e (by rw [z]; exact eC)
      have scC : sc.heap.objs.size < ce.locals := by rw [cL]; exact Nat.lt_trans scD sz3
      refine ⟨e, ?_, ?_, ?_, fun v q => dC v (by rw [← eg]; exact q)⟩
      · rw [z]; exact I5.free
      · rw [z]; exact Nat.ne_of_gt scC
      · intro q
        rw [z] at q
        exact absurd (Nat.lt_trans (fsB _ q).1 scC) (Nat.lt_irrefl _)
  have hF : (Fam (Cc (X.blk { s3 with heap := hid sc a D s3.heap } H3 scope ce []) []) (frs X.stack) (csOf (X.blk { s3 with heap := hid sc a D s3.heap } H3 scope ce [])) [a, ce.locals] ⟨sc, H1, fun _ _ => False, []⟩) (s4.setGen gi .running) (wipe σ (own.map (·.2))) ⟨sc, H1, fun _ _ => False, pinsAt [a, ce.locals] s4.heap⟩ := by
    refine ⟨⟨H3, Gl.inv_gens I5 (allBare_setGen I5.bare rfl)⟩, rfl, rfl, rfl, fun _ _ _ => rfl, fun b m o e => ⟨o.slots, k34 b o (k03 b o e)⟩, fun b m => ?_, rfl, nbE, rfl⟩
    obtain ⟨o, e⟩ := L.csT b m
    have e : sc.heap.get? b = some o := e
    show sc.heap.get? b = s4.heap.get? b
    rw [e, k34 b o (k03 b o e)]
  have wk := M.wake X.A.in1 (s4.setGen gi .running) H3 (wipe σ (own.map (·.2))) (Yl D g tt te (own.map (·.2))) (fun _ H2 => H2 D ≠ none ∧ Q (.ref D) H2) (fun _ _ _ => False) (Fam (Cc (X.blk { s3 with heap := hid sc a D s3.heap } H3 scope ce []) []) (frs X.stack) (csOf (X.blk { s3 with heap := hid sc a D s3.heap } H3 scope ce [])) [a, ce.locals] ⟨sc, H1, fun _ _ => False, []⟩) ⟨sc, H1, fun _ _ => False, pinsAt [a, ce.locals] s4.heap⟩
  have wk := wk hr.in1 I1.ok.frames (fun b o e => k34 b o (k13 b o e)) os4
  have wk := wk (allBare_setGen I5.bare rfl) I5.hok (fun b l => hn3 b (fun z => by rw [z, ← hD] at l; exact Nat.lt_irrefl _ l))
  have wk := wk (ren_id I1 _)
  have wk := wk wp (mem_pinsAt List.mem_cons_self ea4)
  have wk := wk (fun _ _ _ F => ⟨F.sz, F.xe⟩)
  have wk := wk hF yl_mono w0
  exact main sizeLine s4 ⟨wipe σ (own.map (·.2)), H3, _, I5, ea4, nbE, gs4, rfl, wk⟩
end
end Lg

/-! (x,) * k, k from 1 to 6000. -/
namespace Tm
open PySem PySem.Spec PyProof.Rows L2
theorem mul_one (l : Addr) (items : Array Value) (n : Nat) (dd : Option Addr) (sl : Array (Option Value)) (x : Int) (u : Tok) (c0 : (decide (x < -(2 ^ 63)) || decide (x ≥ 2 ^ 63)) = false) (c1 : (items.isEmpty || x == 1) = true) :
    Meets (Builtin.«tuple.__mul__» ⟨[.ref l, .int x u], []⟩) (fun _ R s => s.heap.get? l = some { cls := .type "tuple", dict := dd, data := .seq items n, slots := sl } ∧ R (.ok (.ret (Value.ref l))) s) :=
  .of_wp fun prog w A R s h => by
    obtain ⟨hp, g, d, tk, os⟩ := s
    obtain ⟨hl, h⟩ := h
    have f1 := AutoSeq1.idx_int
    wp_walk using wpAny_loadPart' hl
    repeat (first
      | (refine wpAny_ite_false (decide_eq_false (by rw [c0]; exact Bool.false_ne_true)) ?_; wp_walk using wpAny_loadPart' hl)
      | (refine wpAny_ite_true (decide_eq_true c1) ?_; wp_walk using wpAny_loadPart' hl))
    exact ⟨_, rfl, h⟩
def rRep1 (K : PySem.W.Frag) : R2 := fun x y H Q => ∃ (l : Addr) (k : Int) (z : V), x = .ref l ∧ y = .int k ∧ SqT K H l [z] ∧ 1 ≤ k ∧ k ≤ 6000 ∧ (k = 1 → Q (.ref l) H) ∧ (k ≠ 1 → ∀ p, H p = none → Q (.ref p) (upd H p (.tup (List.replicate k.toNat z))))
theorem flat_one {α : Type} (z : α) : ∀ n, (List.replicate n [z]).flatten = List.replicate n z
  | 0 => rfl
  | n + 1 => by rw [List.replicate_succ, List.flatten_cons, flat_one z n]; rfl
theorem op_rep1 {X : Cx} : OpR X (binaryOp .Mult) (rRep1 X.K) := by
  intro pins s σ H x y v u Q I rx ry h
  obtain ⟨l, k, z, rfl, rfl, hT, h1, h2, q1, q2⟩ := h
  cases rx
  obtain ⟨t, rfl⟩ := ry
  obtain ⟨its, r, ⟨⟨cls, dd, data, sl⟩, ho, hc, n, hd⟩, hs⟩ := I.tuple hT
  simp only at hc hd
  subst hc hd
  obtain ⟨w, rfl⟩ : ∃ w, its = [w] := by
    cases r with
    | cons a b => cases b; exact ⟨_, rfl⟩
  have c0 : (decide (k < -(2 ^ 63)) || decide (k ≥ 2 ^ 63)) = false := by
    rw [decide_eq_false (by omega), decide_eq_false (by omega)] <;> rfl
  by_cases k1 : k = 1
  · subst k1
    exact wpAny_binaryOp_repeat_ref (T := "tuple") (U := "int") (by decide) ⟨_, ho, rfl⟩ (fun s' => typeIs_int s' 1 t) noFill_tuple_mul F.fills_int_mul F.slot_int_rmul repeat_tuple F.slot_int_index.lookup
      (call_meets F.slot_int_rmul (typeIs_int s 1 t) F.entry_int_rmul (F.args_int_rmul_2 _ _) (int_rmul_tuple 1 t l [w].toArray n dd sl)
        ⟨ho, rfl, ⟨_, ho, rfl⟩, call_meets F.slot_tuple_mul ⟨_, ho, rfl⟩ F.entry_tuple_mul (F.args_tuple_mul_2 _ _) (mul_one l [w].toArray n dd sl 1 t c0 (by rfl)) ⟨ho, ⟨.ref l, H, I, rfl, q1 rfl⟩⟩⟩)
  · have flen : (List.replicate k.toNat [w]).flatten.length ≤ sizeLine := by
      rw [flat_one, List.length_replicate, sizeLine_eq]; omega
    have c1 : ([w].toArray.isEmpty || k == 1) = false := by
      rw [show [w].toArray.isEmpty = false from rfl, Bool.false_or]
      exact beq_eq_false_iff_ne.mpr k1
    have c2 : (decide (k ≤ 0) || [w].toArray.isEmpty) = false := by
      rw [show [w].toArray.isEmpty = false from rfl, Bool.or_false]
      exact decide_eq_false (by omega)
    have sz : (([w].toArray.size : Nat) : Int) = 1 := rfl
    have c4 : Builtin.Tuple.tupleTooMany ((([w].toArray.size : Nat) : Int) * k) = false := by
      unfold Builtin.Tuple.tupleTooMany
      rw [sizeLine_eq, sz]
      exact decide_eq_false (by omega)
    refine wpAny_binaryOp_repeat_ref (T := "tuple") (U := "int") (by decide) ⟨_, ho, rfl⟩ (fun s' => typeIs_int s' k t) noFill_tuple_mul F.fills_int_mul F.slot_int_rmul repeat_tuple F.slot_int_index.lookup
      (call_meets F.slot_int_rmul (typeIs_int s k t) F.entry_int_rmul (F.args_int_rmul_2 _ _) (int_rmul_tuple k t l [w].toArray n dd sl)
        ⟨ho, rfl, ⟨_, ho, rfl⟩, call_meets F.slot_tuple_mul ⟨_, ho, rfl⟩ F.entry_tuple_mul (F.args_tuple_mul_2 _ _) (tuple_mulW l [w].toArray n dd sl k t c0 c1 c2 (by rw [sz]; omega) c4 (by rw [size_rep, List.size_toArray]; exact flen)) ⟨ho, ?_⟩⟩)
    rw [size_rep]
    refine ⟨.ref s.heap.objs.size, _, I.laid (t' := s.toks) (o := .tup (List.replicate k.toNat z)) (fun b ob q => Heap.get?_push_of_some _ q) (Nat.le_refl _) ?_, rfl, q2 k1 _ (I.hok.fresh (Nat.le_refl _))⟩
    have rr := r.rep k.toNat
    rw [flat_one, flat_one] at rr
    rw [flat_one]
    exact ⟨by rw [List.length_replicate, sizeLine_eq]; omega, _, rr, IsTup.new _ _⟩
end Tm

namespace K24
open PySem L2
def top (i : Nat) : Stmt := PySem.Challenge.pw_wheelchorus_k24_whole_tapes_parted.main.body.getD i (.Pass ⟨0, 0, 0, 0⟩)
abbrev s_is_whole : Stmt := top 1
abbrev s_is_whole_within : Stmt := top 2
abbrev s_is_number : Stmt := top 11
abbrev s_check_number : Stmt := top 12
abbrev s_blocks : Stmt := top 13
abbrev s_row_of : Stmt := top 14
abbrev s_length_of : Stmt := top 15
abbrev s_number_of : Stmt := top 16
abbrev s_is_tape : Stmt := top 20
abbrev s_run_end : Stmt := top 23
abbrev s_piece_end : Stmt := top 22
abbrev s_piece_between : Stmt := top 24
abbrev s_walk_pieces : Stmt := top 21
abbrev s_pieces : Stmt := top 25
abbrev s_piece_ticks : Stmt := top 26
abbrev s_rounds_on : Stmt := top 27
abbrev s_source : Stmt := top 29
abbrev s_draw : Stmt := top 30
abbrev s_number : Stmt := top 31
abbrev s_row : Stmt := top 32
abbrev s_word : Stmt := top 33
abbrev s_signs : Stmt := top 34
abbrev s_tape : Stmt := top 35
abbrev s_fives : Stmt := top 36
abbrev s_due : Stmt := top 37
abbrev s_kind : Stmt := top 38
abbrev s_walk : Stmt := top 39
abbrev s_thing : Stmt := top 41
abbrev s_things : Stmt := top 40
abbrev s_law : Stmt := top 42
abbrev nm_is_whole : List Str := ["thing"]
theorem sc_is_whole : FnScope nm_is_whole ["thing"] (defScope s_is_whole) :=
  ⟨rfl, rfl, rfl, by decide +kernel, rfl, by decide +kernel, by decide +kernel⟩
abbrev nm_is_whole_within : List Str := ["thing", "low", "high"]
theorem sc_is_whole_within : FnScope nm_is_whole_within ["thing", "low", "high"] (defScope s_is_whole_within) :=
  ⟨rfl, rfl, rfl, by decide +kernel, rfl, by decide +kernel, by decide +kernel⟩
abbrev nm_is_number : List Str := ["thing", "letter"]
theorem sc_is_number : FnScope nm_is_number ["thing"] (defScope s_is_number) :=
  ⟨rfl, rfl, rfl, by decide +kernel, rfl, by decide +kernel, by decide +kernel⟩
abbrev nm_check_number : List Str := ["thing"]
theorem sc_check_number : FnScope nm_check_number ["thing"] (defScope s_check_number) :=
  ⟨rfl, rfl, rfl, by decide +kernel, rfl, by decide +kernel, by decide +kernel⟩
abbrev nm_blocks : List Str := ["number", "letter"]
theorem sc_blocks : FnScope nm_blocks ["number"] (defScope s_blocks) :=
  ⟨rfl, rfl, rfl, by decide +kernel, rfl, by decide +kernel, by decide +kernel⟩
abbrev nm_row_of : List Str := ["number", "row", "strokes"]
theorem sc_row_of : FnScope nm_row_of ["number"] (defScope s_row_of) :=
  ⟨rfl, rfl, rfl, by decide +kernel, rfl, by decide +kernel, by decide +kernel⟩
abbrev nm_length_of : List Str := ["number", "sizes"]
theorem sc_length_of : FnScope nm_length_of ["number"] (defScope s_length_of) :=
  ⟨rfl, rfl, rfl, by decide +kernel, rfl, by decide +kernel, by decide +kernel⟩
abbrev nm_number_of : List Str := ["row", "sign", "halves", "groups", "number", "group"]
theorem sc_number_of : FnScope nm_number_of ["row"] (defScope s_number_of) :=
  ⟨rfl, rfl, rfl, by decide +kernel, rfl, by decide +kernel, by decide +kernel⟩
abbrev nm_is_tape : List Str := ["thing", "sign"]
theorem sc_is_tape : FnScope nm_is_tape ["thing"] (defScope s_is_tape) :=
  ⟨rfl, rfl, rfl, by decide +kernel, rfl, by decide +kernel, by decide +kernel⟩
abbrev nm_run_end : List Str := ["tape", "at", "end"]
theorem sc_run_end : FnScope nm_run_end ["tape", "at"] (defScope s_run_end) :=
  ⟨rfl, rfl, rfl, by decide +kernel, rfl, by decide +kernel, by decide +kernel⟩
abbrev nm_piece_end : List Str := ["tape", "at", "closed", "end"]
theorem sc_piece_end : FnScope nm_piece_end ["tape", "at"] (defScope s_piece_end) :=
  ⟨rfl, rfl, rfl, by decide +kernel, rfl, by decide +kernel, by decide +kernel⟩
abbrev nm_piece_between : List Str := ["tape", "at", "end", "many", "signs", "number"]
theorem sc_piece_between : FnScope nm_piece_between ["tape", "at", "end"] (defScope s_piece_between) :=
  ⟨rfl, rfl, rfl, by decide +kernel, rfl, by decide +kernel, by decide +kernel⟩
abbrev nm_walk_pieces : List Str := ["tape", "at", "end"]
theorem sc_walk_pieces : GScope nm_walk_pieces ["tape"] (defScope s_walk_pieces) :=
  ⟨rfl, rfl, rfl, by decide +kernel, rfl, by decide +kernel, by decide +kernel⟩
abbrev nm_pieces : List Str := ["tape", "_", "piece"]
theorem sc_pieces : FnScope nm_pieces ["tape"] (defScope s_pieces) :=
  ⟨rfl, rfl, rfl, by decide +kernel, rfl, by decide +kernel, by decide +kernel⟩
abbrev nm_piece_ticks : List Str := ["piece", "word", "worth"]
theorem sc_piece_ticks : FnScope nm_piece_ticks ["piece"] (defScope s_piece_ticks) :=
  ⟨rfl, rfl, rfl, by decide +kernel, rfl, by decide +kernel, by decide +kernel⟩
abbrev nm_rounds_on : List Str := ["tape", "found", "at", "piece"]
theorem sc_rounds_on : FnScope nm_rounds_on ["tape"] (defScope s_rounds_on) :=
  ⟨rfl, rfl, rfl, by decide +kernel, rfl, by decide +kernel, by decide +kernel⟩
abbrev nm_source : List Str := ["_law_script", "_law_cells", "_law_cell"]
theorem sc_source : FnScope nm_source ["_law_script"] (defScope s_source) :=
  ⟨rfl, rfl, rfl, by decide +kernel, rfl, by decide +kernel, by decide +kernel⟩
abbrev nm_draw : List Str := ["_law_source_here", "_law_many", "_law_cell"]
theorem sc_draw : FnScope nm_draw ["_law_source_here", "_law_many"] (defScope s_draw) :=
  ⟨rfl, rfl, rfl, by decide +kernel, rfl, by decide +kernel, by decide +kernel⟩
abbrev nm_number : List Str := ["_law_source_here", "_law_many", "_law_top", "_law_left", "_law_word_here", "_law_k", "_law_digit"]
theorem sc_number : FnScope nm_number ["_law_source_here"] (defScope s_number) :=
  ⟨rfl, rfl, rfl, by decide +kernel, rfl, by decide +kernel, by decide +kernel⟩
abbrev nm_row : List Str := ["_law_number_here", "_law_row_here", "_law_digit"]
theorem sc_row : FnScope nm_row ["_law_number_here"] (defScope s_row) :=
  ⟨rfl, rfl, rfl, by decide +kernel, rfl, by decide +kernel, by decide +kernel⟩
abbrev nm_word : List Str := ["_law_signs_here", "_law_word_here", "_law_size", "_law_at", "_law_digit"]
theorem sc_word : FnScope nm_word ["_law_signs_here"] (defScope s_word) :=
  ⟨rfl, rfl, rfl, by decide +kernel, rfl, by decide +kernel, by decide +kernel⟩
abbrev nm_signs : List Str := ["_law_source_here", "_law_kind_here", "_law_row_here", "_law_at", "_law_many", "_law_top", "_law_k"]
theorem sc_signs : FnScope nm_signs ["_law_source_here"] (defScope s_signs) :=
  ⟨rfl, rfl, rfl, by decide +kernel, rfl, by decide +kernel, by decide +kernel⟩
abbrev nm_tape : List Str := ["_law_source_here", "_law_most", "_law_found", "_law_k", "_law_more"]
theorem sc_tape : FnScope nm_tape ["_law_source_here", "_law_most"] (defScope s_tape) :=
  ⟨rfl, rfl, rfl, by decide +kernel, rfl, by decide +kernel, by decide +kernel⟩
abbrev nm_fives : List Str := ["_law_signs_here", "_law_found", "_law_at"]
theorem sc_fives : FnScope nm_fives ["_law_signs_here"] (defScope s_fives) :=
  ⟨rfl, rfl, rfl, by decide +kernel, rfl, by decide +kernel, by decide +kernel⟩
abbrev nm_due : List Str := ["_law_tape_here", "_law_at", "_law_end", "_law_signs_here", "_law_last", "_law_alike", "_law_fives_here", "_law_place", "_law_word_here"]
theorem sc_due : FnScope nm_due ["_law_tape_here", "_law_at", "_law_end"] (defScope s_due) :=
  ⟨rfl, rfl, rfl, by decide +kernel, rfl, by decide +kernel, by decide +kernel⟩
abbrev nm_kind : List Str := ["_law_piece"]
theorem sc_kind : FnScope nm_kind ["_law_piece"] (defScope s_kind) :=
  ⟨rfl, rfl, rfl, by decide +kernel, rfl, by decide +kernel, by decide +kernel⟩
abbrev nm_walk : List Str := ["_law_tape_here", "_law_at", "_law_told", "_law_rounds", "_law_begin", "_law_piece", "_law_end", "_law_found", "_law_heard"]
theorem sc_walk : FnScope nm_walk ["_law_tape_here"] (defScope s_walk) :=
  ⟨rfl, rfl, rfl, by decide +kernel, rfl, by decide +kernel, by decide +kernel⟩
abbrev nm_thing : List Str := ["_law_odd", "_law_told"]
theorem sc_thing : FnScope nm_thing ["_law_odd"] (defScope s_thing) :=
  ⟨rfl, rfl, rfl, by decide +kernel, rfl, by decide +kernel, by decide +kernel⟩
abbrev nm_things : List Str := ["_law_source_here", "_law_tape_here", "_law_at", "_law_odd", "_law_wrong"]
theorem sc_things : FnScope nm_things ["_law_source_here", "_law_tape_here"] (defScope s_things) :=
  ⟨rfl, rfl, rfl, by decide +kernel, rfl, by decide +kernel, by decide +kernel⟩
abbrev nm_law : List Str := ["_law_script", "_law_source_here", "_law_k", "_law_tape_here", "_law_at", "_law_most"]
theorem sc_law : FnScope nm_law ["_law_script"] (defScope s_law) :=
  ⟨rfl, rfl, rfl, by decide +kernel, rfl, by decide +kernel, by decide +kernel⟩
set_option genInjectivity false in
set_option genSizeOf false in
set_option genSizeOfSpec false in
structure Txt (K : PySem.W.Frag) (mg : Str → Option Value) where
  SG : Addr
  gSG : mg "Sign" = some (.ref SG)
  mc : Value
  rd : ClX.CRead K SG mc
  uC : Value
  uB : Value
  uK : Value
  vC : ClX.CVal K SG mc "CLOSED" (.int 0) uC
  vB : ClX.CVal K SG mc "BROKEN" (.int 1) uB
  vK : ClX.CVal K SG mc "KEY" (.int 2) uK
  a_is_whole : Addr
  d_is_whole : FuncData
  F_is_whole : Fun K "is_whole" "is_whole" s_is_whole a_is_whole d_is_whole
  b_is_whole : Binds K d_is_whole ["thing"] []
  g_is_whole : mg "is_whole" = some (.ref a_is_whole)
  a_is_whole_within : Addr
  d_is_whole_within : FuncData
  F_is_whole_within : Fun K "is_whole_within" "is_whole_within" s_is_whole_within a_is_whole_within d_is_whole_within
  b_is_whole_within : Binds K d_is_whole_within ["thing", "low", "high"] []
  g_is_whole_within : mg "is_whole_within" = some (.ref a_is_whole_within)
  a_is_number : Addr
  d_is_number : FuncData
  F_is_number : Fun K "is_number" "is_number" s_is_number a_is_number d_is_number
  b_is_number : Binds K d_is_number ["thing"] []
  g_is_number : mg "is_number" = some (.ref a_is_number)
  a_check_number : Addr
  d_check_number : FuncData
  F_check_number : Fun K "check_number" "check_number" s_check_number a_check_number d_check_number
  b_check_number : Binds K d_check_number ["thing"] []
  g_check_number : mg "check_number" = some (.ref a_check_number)
  a_blocks : Addr
  d_blocks : FuncData
  F_blocks : Fun K "blocks" "blocks" s_blocks a_blocks d_blocks
  b_blocks : Binds K d_blocks ["number"] []
  g_blocks : mg "blocks" = some (.ref a_blocks)
  a_row_of : Addr
  d_row_of : FuncData
  F_row_of : Fun K "row_of" "row_of" s_row_of a_row_of d_row_of
  b_row_of : Binds K d_row_of ["number"] []
  g_row_of : mg "row_of" = some (.ref a_row_of)
  a_length_of : Addr
  d_length_of : FuncData
  F_length_of : Fun K "length_of" "length_of" s_length_of a_length_of d_length_of
  b_length_of : Binds K d_length_of ["number"] []
  g_length_of : mg "length_of" = some (.ref a_length_of)
  a_number_of : Addr
  d_number_of : FuncData
  F_number_of : Fun K "number_of" "number_of" s_number_of a_number_of d_number_of
  b_number_of : Binds K d_number_of ["row"] []
  g_number_of : mg "number_of" = some (.ref a_number_of)
  a_is_tape : Addr
  d_is_tape : FuncData
  F_is_tape : Fun K "is_tape" "is_tape" s_is_tape a_is_tape d_is_tape
  b_is_tape : Binds K d_is_tape ["thing"] []
  g_is_tape : mg "is_tape" = some (.ref a_is_tape)
  a_run_end : Addr
  d_run_end : FuncData
  F_run_end : Fun K "run_end" "run_end" s_run_end a_run_end d_run_end
  b_run_end : Binds K d_run_end ["tape", "at"] []
  g_run_end : mg "run_end" = some (.ref a_run_end)
  a_piece_end : Addr
  d_piece_end : FuncData
  F_piece_end : Fun K "piece_end" "piece_end" s_piece_end a_piece_end d_piece_end
  b_piece_end : Binds K d_piece_end ["tape", "at"] []
  g_piece_end : mg "piece_end" = some (.ref a_piece_end)
  a_piece_between : Addr
  d_piece_between : FuncData
  F_piece_between : Fun K "piece_between" "piece_between" s_piece_between a_piece_between d_piece_between
  b_piece_between : Binds K d_piece_between ["tape", "at", "end"] []
  g_piece_between : mg "piece_between" = some (.ref a_piece_between)
  a_walk_pieces : Addr
  d_walk_pieces : FuncData
  F_walk_pieces : Fun K "walk_pieces" "walk_pieces" s_walk_pieces a_walk_pieces d_walk_pieces
  b_walk_pieces : Binds K d_walk_pieces ["tape"] []
  g_walk_pieces : mg "walk_pieces" = some (.ref a_walk_pieces)
  a_pieces : Addr
  d_pieces : FuncData
  F_pieces : Fun K "pieces" "pieces" s_pieces a_pieces d_pieces
  b_pieces : Binds K d_pieces ["tape"] []
  g_pieces : mg "pieces" = some (.ref a_pieces)
  a_piece_ticks : Addr
  d_piece_ticks : FuncData
  F_piece_ticks : Fun K "piece_ticks" "piece_ticks" s_piece_ticks a_piece_ticks d_piece_ticks
  b_piece_ticks : Binds K d_piece_ticks ["piece"] []
  g_piece_ticks : mg "piece_ticks" = some (.ref a_piece_ticks)
  a_rounds_on : Addr
  d_rounds_on : FuncData
  F_rounds_on : Fun K "rounds_on" "rounds_on" s_rounds_on a_rounds_on d_rounds_on
  b_rounds_on : Binds K d_rounds_on ["tape"] []
  g_rounds_on : mg "rounds_on" = some (.ref a_rounds_on)
  a_source : Addr
  d_source : FuncData
  F_source : Fun K "_law_source" "_law_source" s_source a_source d_source
  b_source : Binds K d_source ["_law_script"] []
  g_source : mg "_law_source" = some (.ref a_source)
  a_draw : Addr
  d_draw : FuncData
  F_draw : Fun K "_law_draw" "_law_draw" s_draw a_draw d_draw
  b_draw : Binds K d_draw ["_law_source_here", "_law_many"] []
  g_draw : mg "_law_draw" = some (.ref a_draw)
  a_number : Addr
  d_number : FuncData
  F_number : Fun K "_law_number" "_law_number" s_number a_number d_number
  b_number : Binds K d_number ["_law_source_here"] []
  g_number : mg "_law_number" = some (.ref a_number)
  a_row : Addr
  d_row : FuncData
  F_row : Fun K "_law_row" "_law_row" s_row a_row d_row
  b_row : Binds K d_row ["_law_number_here"] []
  g_row : mg "_law_row" = some (.ref a_row)
  a_word : Addr
  d_word : FuncData
  F_word : Fun K "_law_word" "_law_word" s_word a_word d_word
  b_word : Binds K d_word ["_law_signs_here"] []
  g_word : mg "_law_word" = some (.ref a_word)
  a_signs : Addr
  d_signs : FuncData
  F_signs : Fun K "_law_signs" "_law_signs" s_signs a_signs d_signs
  b_signs : Binds K d_signs ["_law_source_here"] []
  g_signs : mg "_law_signs" = some (.ref a_signs)
  a_tape : Addr
  d_tape : FuncData
  F_tape : Fun K "_law_tape" "_law_tape" s_tape a_tape d_tape
  b_tape : Binds K d_tape ["_law_source_here", "_law_most"] []
  g_tape : mg "_law_tape" = some (.ref a_tape)
  a_fives : Addr
  d_fives : FuncData
  F_fives : Fun K "_law_fives" "_law_fives" s_fives a_fives d_fives
  b_fives : Binds K d_fives ["_law_signs_here"] []
  g_fives : mg "_law_fives" = some (.ref a_fives)
  a_due : Addr
  d_due : FuncData
  F_due : Fun K "_law_due" "_law_due" s_due a_due d_due
  b_due : Binds K d_due ["_law_tape_here", "_law_at", "_law_end"] []
  g_due : mg "_law_due" = some (.ref a_due)
  a_kind : Addr
  d_kind : FuncData
  F_kind : Fun K "_law_kind" "_law_kind" s_kind a_kind d_kind
  b_kind : Binds K d_kind ["_law_piece"] []
  g_kind : mg "_law_kind" = some (.ref a_kind)
  a_walk : Addr
  d_walk : FuncData
  F_walk : Fun K "_law_walk" "_law_walk" s_walk a_walk d_walk
  b_walk : Binds K d_walk ["_law_tape_here"] []
  g_walk : mg "_law_walk" = some (.ref a_walk)
  a_thing : Addr
  d_thing : FuncData
  F_thing : Fun K "_law_thing" "_law_thing" s_thing a_thing d_thing
  b_thing : Binds K d_thing ["_law_odd"] []
  g_thing : mg "_law_thing" = some (.ref a_thing)
  a_things : Addr
  d_things : FuncData
  F_things : Fun K "_law_things" "_law_things" s_things a_things d_things
  b_things : Binds K d_things ["_law_source_here", "_law_tape_here"] []
  g_things : mg "_law_things" = some (.ref a_things)
  a_law : Addr
  d_law : FuncData
  F_law : Fun K "law" "law" s_law a_law d_law
  b_law : Binds K d_law ["_law_script"] []
  g_law : mg "law" = some (.ref a_law)
  t_DIGITS : Tok
  c_DIGITS : mg "DIGITS" = some (.str "123456789" t_DIGITS)
  t_MOST_DIGITS : Tok
  c_MOST_DIGITS : mg "MOST_DIGITS" = some (.int 4 t_MOST_DIGITS)
  t_GREATEST_SUM : Tok
  c_GREATEST_SUM : mg "GREATEST_SUM" = some (.int 24 t_GREATEST_SUM)
  t_CLOSED_END : Tok
  c_CLOSED_END : mg "CLOSED_END" = some (.int 5 t_CLOSED_END)
  t_MOST_SIGNS : Tok
  c_MOST_SIGNS : mg "MOST_SIGNS" = some (.int 3000 t_MOST_SIGNS)
  z_abs : mg "abs" = none
  z_all : mg "all" = none
  z_bool : mg "bool" = none
  z_int : mg "int" = none
  z_isinstance : mg "isinstance" = none
  z_len : mg "len" = none
  z_list : mg "list" = none
  z_min : mg "min" = none
  z_range : mg "range" = none
  z_str : mg "str" = none
  z_sum : mg "sum" = none
  z_tuple : mg "tuple" = none
end K24

/-! The promises. -/
namespace K24
open PySem L2 Wm TL Dv
/-- the cells: two lists of whole numbers, a seed, a count of draws -/
def Src (H : Hp) (s a b : Addr) : Prop :=
  ∃ (x m : Int) (ns ms : List Int), H s = some (.lst [.ref a, .ref b, .int x, .int m]) ∧ H a = some (.lst (ns.map V.int)) ∧ H b = some (.lst (ms.map V.int)) ∧ a ≠ b ∧ a ≠ s ∧ b ≠ s ∧ 0 ≤ m
structure But2 (s a : Addr) (H H' : Hp) : Prop where
  keep : ∀ p o, p ≠ s → p ≠ a → H p = some o → H' p = some o
def rowV (ds : List Nat) : List V := (rowL ds).map V.int
/-- single things and what holds things -/
inductive Od (K : PySem.W.Frag) (H : Hp) : V → Prop
  | int (i : Int) : Od K H (.int i)
  | bl (b : Bool) : Od K H (.bl b)
  | non : Od K H .non
  | str (t : Str) : Od K H (.str t)
  | tup {p : Addr} {xs : List V} : SqT K H p xs → Od K H (.ref p)
  | lst {p : Addr} {xs : List V} : H p = some (.lst xs) → Od K H (.ref p)
def inR (lo hi : Int) : V → Bool
  | .int i => decide (lo ≤ i) && decide (i ≤ hi)
  | _ => false
/-- what is no tuple -/
inductive Nt (K : PySem.W.Frag) (H : Hp) : V → Prop
  | int (i : Int) : Nt K H (.int i)
  | bl (b : Bool) : Nt K H (.bl b)
  | non : Nt K H .non
  | str (t : Str) : Nt K H (.str t)
  | lst {p : Addr} {xs : List V} : H p = some (.lst xs) → Nt K H (.ref p)
def sp_is_whole (K : PySem.W.Frag) : Sp := fun vs H Q _ => ∃ x, vs = [x] ∧ Od K H x ∧ Q (.bl (isI x)) H
def sp_is_whole_within (K : PySem.W.Frag) : Sp := fun vs H Q _ => ∃ (x : V) (lo hi : Int), vs = [x, .int lo, .int hi] ∧ Od K H x ∧ Q (.bl (inR lo hi x)) H
def sp_is_number (K : PySem.W.Frag) : Sp := fun vs H Q _ => ∃ (t : Str), t.length ≤ 100000 ∧ vs = [.str t] ∧ ∀ H' b, Same H H' → (b = true ↔ IsNum t) → Q (.bl b) H'
def sp_check_number (K : PySem.W.Frag) : Sp := fun vs H Q _ => ∃ (ds : List Nat), Num ds ∧ vs = [.str (numS ds)] ∧ ∀ H', Same H H' → Q .non H'
def sp_blocks (K : PySem.W.Frag) : Sp := fun vs H Q _ => ∃ (ds : List Nat), Num ds ∧ vs = [.str (numS ds)] ∧ ∀ H' p, Same H H' → H p = none → H' p = some (.tup (ds.map fun (d : Nat) => V.int (d : Int))) → Q (.ref p) H'
def sp_row_of (K : PySem.W.Frag) : Sp := fun vs H Q _ => ∃ (ds : List Nat), Num ds ∧ vs = [.str (numS ds)] ∧ ∀ H' p, Same H H' → H p = none → H' p = some (.tup ((rowL ds).map V.int)) → Q (.ref p) H'
def sp_length_of (K : PySem.W.Frag) : Sp := fun vs H Q _ => ∃ (ds : List Nat), Num ds ∧ vs = [.str (numS ds)] ∧ ∀ H', Same H H' → Q (.int ((rowL ds).length : Nat)) H'
def sp_number_of (K : PySem.W.Frag) : Sp := fun vs H Q _ => ∃ (p : Addr) (zs : List Int), vs = [.ref p] ∧ SqT K H p (zs.map V.int) ∧ zs.length ≤ 3000 ∧ ∀ H' v, Same H H' → Told (zs.map V.int) v → Q v H'
def sp_is_tape (K : PySem.W.Frag) : Sp := fun vs H Q _ => ∃ x, vs = [x] ∧ ((∃ p xs, x = .ref p ∧ SqT K H p xs ∧ (∀ x ∈ xs, Od K H x) ∧ xs.length ≤ 6000 ∧ ∀ H', Same H H' → Q (.bl (decide (xs.length ≤ 3000) && xs.all (inR 0 2))) H') ∨ (Nt K H x ∧ Q (.bl false) H))
/-- a tape's signs -/
structure Tape (ts : List Int) : Prop where
  sg : ∀ t ∈ ts, 0 ≤ t ∧ t ≤ 2
  few : ts.length ≤ 3000
/-- how many of the signs are alike -/
def runN (c : Int) (l : List Int) : Nat := (l.takeWhile fun t => decide (t = c)).length
/-- how far a piece with a stroke goes; c closed signs stand behind it -/
def brkN : Nat → List Int → Nat
  | _, [] => 0
  | c, t :: r => if t ≠ 2 ∧ c < 5 then 1 + brkN (if t = 0 then c + 1 else 0) r else 0
/-- where the piece that begins at i ends -/
def endP (ts : List Int) (i : Nat) : Nat := match ts[i]? with
  | none => i
  | some c => if c = 1 then i + brkN 0 (ts.drop i) else i + runN c (ts.drop i)
def sp_run_end (K : PySem.W.Frag) : Sp := fun vs H Q _ => ∃ (p : Addr) (ts : List Int) (i : Nat) (c : Int), vs = [.ref p, .int (i : Nat)] ∧ SqT K H p (ts.map V.int) ∧ ts.length ≤ 3000 ∧ ts[i]? = some c ∧ Q (.int (i + runN c (ts.drop i) : Nat)) H
def sp_piece_end (K : PySem.W.Frag) : Sp := fun vs H Q _ => ∃ (p : Addr) (ts : List Int) (i : Nat), vs = [.ref p, .int (i : Nat)] ∧ SqT K H p (ts.map V.int) ∧ ts.length ≤ 3000 ∧ i < ts.length ∧ Q (.int (endP ts i : Nat)) H
def cut (ts : List Int) (i e : Nat) : List Int := (ts.take e).drop i
def last5 (l : List Int) : List Int := l.drop (l.length - 5)
/-- what a piece tells -/
inductive PcOk (ts : List Int) (i e : Nat) : V → V → Prop
  | key : ts[i]? = some 2 → PcOk ts i e (.str "key") (.int ((e : Int) - i))
  | quiet : ts[i]? = some 0 → PcOk ts i e (.str "quiet") (.int ((e : Int) - i))
  | begun : ts[i]? = some 1 → (1 : Int) ∈ last5 (cut ts i e) → e = ts.length → PcOk ts i e (.str "begun") (.int ((e : Int) - i))
  | spoilt : ts[i]? = some 1 → (1 : Int) ∈ last5 (cut ts i e) → e ≠ ts.length → PcOk ts i e (.str "spoilt") (.int ((e : Int) - i))
  | odd : ts[i]? = some 1 → (1 : Int) ∉ last5 (cut ts i e) → (∀ ds, Num ds → cut ts i e ≠ rowL ds) → PcOk ts i e (.str "odd") (.int ((e : Int) - i))
  | round {ds : List Nat} : ts[i]? = some 1 → (1 : Int) ∉ last5 (cut ts i e) → Num ds → cut ts i e = rowL ds → PcOk ts i e (.str "round") (.str (numS ds))
def PcAt (H : Hp) (v : V) (x y : V) : Prop := ∃ p, v = .ref p ∧ H p = some (.tup [x, y])
def sp_piece_between (K : PySem.W.Frag) : Sp := fun vs H Q _ => ∃ (p : Addr) (ts : List Int) (i e : Nat), vs = [.ref p, .int (i : Nat), .int (e : Nat)] ∧ SqT K H p (ts.map V.int) ∧ Tape ts ∧ i < e ∧ e ≤ ts.length ∧
  ∀ H' v x y, Same H H' → PcAt H' v x y → PcOk ts i e x y → Q v H'
def sp_piece_ticks (K : PySem.W.Frag) : Sp := fun vs H Q _ => ∃ (v x y : V) (ts : List Int) (i e : Nat), vs = [v] ∧ PcAt H v x y ∧ PcOk ts i e x y ∧ i ≤ e ∧ e ≤ ts.length ∧ ∀ H', Same H H' → Q (.int ((e : Int) - i)) H'
/-- where the k-th piece begins -/
def posP (ts : List Int) : Nat → Nat
  | 0 => 0
  | k + 1 => endP ts (posP ts k)
/-- all stands but at B -/
def Bt (B : Addr → Prop) (H H' : Hp) : Prop := ∀ q o, ¬ B q → H q = some o → H' q = some o
def isL : HO → Prop
  | .lst _ => True
  | _ => False
/-- the consumer is free between two pieces -/
def sp3_walk (K : PySem.W.Frag) : G3.Sp3 := fun vs H γ Y Q _ => ∃ (p : Addr) (ts : List Int) (J : Nat → L2.St → Hp → Prop) (B : Addr → Prop), vs = [.ref p] ∧ SqT K H p (ts.map V.int) ∧ Tape ts ∧
  J 0 γ H ∧ (∀ k γ H, J k γ H → ∀ q, B q → ∃ o, H q = some o ∧ isL o) ∧
  (∀ k n γ H H' v w x y, posP ts k < ts.length → J k γ H → Same H H' → (∃ q, v = .ref q ∧ H' q = some (.tup [.int (posP ts k : Nat), w])) → PcAt H' w x y → PcOk ts (posP ts k) (posP ts (k + 1)) x y → Y n v γ H' fun γ2 H2 => J (k + 1) γ2 H2 ∧ Bt B H' H2) ∧
  ∀ k γ H H', posP ts k = ts.length → J k γ H → Same H H' → Q γ H'
/-- the pieces of a tape -/
structure Pcs (ts : List Int) (k : Nat) (cs : List (V × V)) : Prop where
  len : cs.length = k
  lt : ∀ j < k, posP ts j < ts.length
  at_ : ∀ j x y, cs[j]? = some (x, y) → PcOk ts (posP ts j) (posP ts (j + 1)) x y
inductive PcsAt (H : Hp) : List V → List (V × V) → Prop
  | nil : PcsAt H [] []
  | cons {v : V} {c : V × V} {vs : List V} {cs : List (V × V)} : PcAt H v c.1 c.2 → PcsAt H vs cs → PcsAt H (v :: vs) (c :: cs)
def sp_pieces (K : PySem.W.Frag) : Sp := fun vs H Q _ => ∃ (p : Addr) (ts : List Int), vs = [.ref p] ∧ SqT K H p (ts.map V.int) ∧ Tape ts ∧ ∀ H' r us cs k, Same H H' → H' r = some (.tup us) → PcsAt H' us cs → Pcs ts k cs → posP ts k = ts.length → Q (.ref r) H'
/-- the rounds among k pieces: the last tick and the number -/
def rnds (ts : List Int) : List (V × V) → Nat → List (Int × V)
  | [], _ => []
  | c :: cs, j => (if c.1 = .str "round" then [(((posP ts (j + 1) : Nat) : Int) - 1, c.2)] else []) ++ rnds ts cs (j + 1)
inductive RdsAt (H : Hp) : List V → List (Int × V) → Prop
  | nil : RdsAt H [] []
  | cons {p : Addr} {c : Int × V} {vs : List V} {cs : List (Int × V)} : H p = some (.tup [.int c.1, c.2]) → RdsAt H vs cs → RdsAt H (.ref p :: vs) (c :: cs)
def sp_rounds_on (K : PySem.W.Frag) : Sp := fun vs H Q _ => ∃ (p : Addr) (ts : List Int), vs = [.ref p] ∧ SqT K H p (ts.map V.int) ∧ Tape ts ∧ ∀ H' r us cs k, Same H H' → H' r = some (.tup us) → Pcs ts k cs → posP ts k = ts.length → RdsAt H' us (rnds ts cs 0) → Q (.ref r) H'
def sp_source (K : PySem.W.Frag) : Sp := fun vs H Q _ => ∃ (a : Addr) (ns : List Int), vs = [.ref a] ∧ SqL K H a (ns.map V.int) ∧ ns.length ≤ 63 ∧ ∀ H' s a b, Same H H' → Src H' s a b → H s = none → H a = none → Q (.ref s) H'
def sp_draw (K : PySem.W.Frag) : Sp := fun vs H Q _ => ∃ (s a b : Addr) (lim : Int), vs = [.ref s, .int lim] ∧ 0 < lim ∧ lim < 1073741824 ∧ Src H s a b ∧
  ∀ H' (d : Int), 0 ≤ d → d < lim → Src H' s a b → But2 s a H H' → Q (.int d) H'
def sp_number (K : PySem.W.Frag) : Sp := fun vs H Q _ => ∃ (s a b : Addr), vs = [.ref s] ∧ Src H s a b ∧ ∀ H' (ds : List Nat), Num ds → Src H' s a b → But2 s a H H' → Q (.str (numS ds)) H'
def sp_row (K : PySem.W.Frag) : Sp := fun vs H Q _ => ∃ (ds : List Nat), Num ds ∧ vs = [.str (numS ds)] ∧ ∀ H' p, Same H H' → H p = none → H' p = some (.tup (rowV ds)) → Q (.ref p) H'
def sp_word (K : PySem.W.Frag) : Sp := fun vs H Q _ => ∃ (p : Addr) (zs : List Int), vs = [.ref p] ∧ SqT K H p (zs.map V.int) ∧ zs.length ≤ 3000 ∧ ∀ H' v, Same H H' → Told (zs.map V.int) v → Q v H'
def sp_signs (K : PySem.W.Frag) : Sp := fun vs H Q _ => ∃ (s a b : Addr), vs = [.ref s] ∧ Src H s a b ∧ ∀ H' p (ts : List Int), (∀ t ∈ ts, 0 ≤ t ∧ t ≤ 2) → ts.length ≤ 100 → SqT K H' p (ts.map V.int) → Src H' s a b → But2 s a H H' → Q (.ref p) H'
def sp_tape (K : PySem.W.Frag) : Sp := fun vs H Q _ => ∃ (s a b : Addr), vs = [.ref s, .int 15] ∧ Src H s a b ∧ ∀ H' p (ts : List Int), Tape ts → ts.length ≤ 2800 → SqT K H' p (ts.map V.int) → Src H' s a b → But2 s a H H' → Q (.ref p) H'
/-- where five closed signs end -/
def fives (l : List Int) : List Nat := ((List.range l.length).filter fun i => decide ((l.drop i).take 5 = [0, 0, 0, 0, 0])).map (· + 5)
def sp_fives (K : PySem.W.Frag) : Sp := fun vs H Q _ => ∃ (p : Addr) (ts : List Int), vs = [.ref p] ∧ SqT K H p (ts.map V.int) ∧ ts.length ≤ 3000 ∧ ∀ H' r, Same H H' → H' r = some (.lst ((fives ts).map fun (n : Nat) => V.int (n : Nat))) → Q (.ref r) H'
def sp_due (K : PySem.W.Frag) : Sp := fun vs H Q _ => ∃ (p : Addr) (ts : List Int) (i e : Nat) (x y : V), vs = [.ref p, .int (i : Nat), .int (e : Nat)] ∧ SqT K H p (ts.map V.int) ∧ Tape ts ∧ i < ts.length ∧ e = endP ts i ∧ PcOk ts i e x y ∧ ∀ H' v, Same H H' → PcAt H' v x y → Q v H'
def sp_kind (K : PySem.W.Frag) : Sp := fun vs H Q _ => ∃ (v x y : V) (ts : List Int) (i e : Nat), vs = [v] ∧ PcAt H v x y ∧ PcOk ts i e x y ∧ Q (.bl true) H
def sp_walk (K : PySem.W.Frag) : Sp := fun vs H Q _ => ∃ (p : Addr) (ts : List Int), vs = [.ref p] ∧ SqT K H p (ts.map V.int) ∧ Tape ts ∧ ∀ H', Same H H' → Q (.bl true) H'
/-- odd things, and the one tuple of them -/
inductive Ot (K : PySem.W.Frag) (H : Hp) : V → Prop
  | nt {x : V} : Nt K H x → inR 0 2 x = false → Ot K H x
  | tup {p : Addr} : SqT K H p [.int 1] → Ot K H (.ref p)
def sp_thing (K : PySem.W.Frag) : Sp := fun vs H Q _ => ∃ x d, vs = [x] ∧ Dp K H x d ∧ SeqAt.shaped d = true ∧ ((Nt K H x ∧ PyData.eqv d (.tuple [.int 1]) = false) ∨ ∃ p, x = .ref p ∧ SqT K H p [.int 1] ∧ PyData.eqv d (.tuple [.int 1]) = true) ∧ ∀ H', Same H H' → Q (.bl true) H'
def sp_things (K : PySem.W.Frag) : Sp := fun vs H Q _ => ∃ (s a b p : Addr) (ts : List Int), vs = [.ref s, .ref p] ∧ Src H s a b ∧ SqT K H p (ts.map V.int) ∧ Tape ts ∧ ts.length ≤ 2800 ∧ ∀ H', Src H' s a b → But2 s a H H' → Q (.bl true) H'
def sp_law (K : PySem.W.Frag) : Sp := fun vs H Q _ => ∃ (a : Addr) (ns : List Int), vs = [.ref a] ∧ SqL K H a (ns.map V.int) ∧ ns.length ≤ 63 ∧ ∀ H', Q (.bl true) H'
end K24

namespace K24
open PySem L2 Wm TL Dv
section
variable {P : Program} {w : World} {K : PySem.W.Frag} {mg : Str → Option Value} {base : Heap}
theorem small_len {n : Nat} (h : n ≤ 100000) : n ≤ sizeLine := by
  have : (100000 : Nat) ≤ sizeLine := by decide
  omega
theorem sum_cast : ∀ ds : List Nat, (ds.map fun (d : Nat) => (d : Int)).sum = ((ds.sum : Nat) : Int)
  | [] => rfl
  | d :: ds => by
    rw [List.map_cons, List.sum_cons, List.sum_cons, sum_cast ds]
    omega
def letters (t : Str) : List Bool := (tl t).map fun c => decide (c ∈ ("123456789" : Str).cps.toList)
theorem letters_all {t : Str} : (letters t).all id = true ↔ ∀ c ∈ tl t, c ∈ ("123456789" : Str).cps.toList := by
  unfold letters
  rw [List.all_map, List.all_eq_true]
  constructor
  · intro h c m
    exact of_decide_eq_true (h c m)
  · intro h c m
    exact decide_eq_true (h c m)
theorem cps_at {t : Str} {i c : Nat} (h : t.cps[i]? = some c) : (tl t)[i]? = some c := by
  rw [← h]
  exact Array.getElem?_toList ..
theorem ok_is_number (T : Txt K mg) : FnOk P w K mg base CX0 1 T.a_is_number T.d_is_number ["thing"] (sp_is_number K) := by
  refine T.F_is_number.ok sc_is_number (fun vs H Q E h => ?_) (fun cdv A outer s H vs Q E hr h => ?_)
  · obtain ⟨t, _, rfl, _⟩ := h
    rfl
  · obtain ⟨t, hz, rfl, k⟩ := h
    have hl : t.length = (tl t).length := len_tl t
    have numlen : IsNum t → 1 ≤ t.length ∧ t.length ≤ 4 := fun ⟨ds, N, e⟩ => by
      rw [e, numS_len]
      exact ⟨N.pos, N.len⟩
    refine ⟨_, (pss_cons (ps_if (PW.pt (pw_or (pt_not (pt_val (pe_callB call_isi (by rfl) T.z_isinstance (by decide +kernel) (pa_cons (pv 0) (pa_cons (pe_bltn (v := V.ty "str") (by rfl) T.z_str (by decide +kernel) rfl) pa_nil))))) (pw_or1 (pt_not (pt_chain op_le op_le pe_int (pe_callB call_len_str (by rfl) T.z_len PySem.boot_len (pa_cons (pv 0) pa_nil)) (pe_glob (v := V.int 4) rfl T.c_MOST_DIGITS ⟨_, rfl⟩))))))
        (pss_one (ps_ret pe_bl))
        pss_nil)
      (pss_cons (ps_if (pt_not (pt_val (pe_callB (cr_all rfl) (by rfl) T.z_all (by decide +kernel) (pa_cons (pe_lc (own := [("letter", 1)]) (g := gName 1) (tt := tYes) rfl sc_is_number.nd (pi_str (pv 0)) (blkOk_by (own := [("letter", 1)]) (N := nm_is_number) (sc := (defScope s_is_number)) (by decide +kernel)) (fun _ _ _ _ _ => pg_name (i := 1) sc_is_number.nd rfl (Or.inl rfl)) (fun _ _ _ _ _ => pts_nil) (fun _ _ _ _ _ => (pe_cmpR op_in_sign (pv 1) (pe_glob (v := V.str "123456789") rfl T.c_DIGITS ⟨_, rfl⟩) rfl))) pa_nil))))
        (pss_one (ps_ret pe_bl))
        pss_nil)
      (pss_one (ps_ret (pe_cmpR op_le (pe_callB (cr_sum rfl) (by rfl) T.z_sum (by decide +kernel) (pa_cons (pe_lc (own := [("letter", 1)]) (g := gName 1) (tt := tYes) rfl sc_is_number.nd (pi_str (pv 0)) (blkOk_by (own := [("letter", 1)]) (N := nm_is_number) (sc := (defScope s_is_number)) (by decide +kernel)) (fun _ _ _ _ _ => pg_name (i := 1) sc_is_number.nd rfl (Or.inl rfl)) (fun _ _ _ _ _ => pts_nil) (fun _ _ _ _ _ => (pe_callTy call_int_str (by rfl) T.z_int (by decide +kernel) (pa_cons (pv 1) pa_nil)))) pa_nil)) (pe_glob (v := V.int 24) rfl T.c_GREATEST_SUM ⟨_, rfl⟩) (nomark _)))))), ?_⟩
    refine ⟨_, rfl, _, _, _, _, true, rfl, .ty "str", .base (.str _), kit_ty (by decide +kernel), true, rfl, ?_⟩
    refine iteF ?_
    refine ⟨_, rfl, _, rfl, small_len hz, _, _, rfl, rfl, _, rfl, ?_⟩
    refine ite2 (fun c1 => ?_) (fun c1 => ?_)
    case refine_2 =>
      have c1' : ¬ (1 : Int) ≤ (t.length : Nat) := fun z => c1 (decide_eq_true z)
      refine ⟨false, rfl, iteT ?_⟩
      exact k _ _ (Same.refl _) ⟨fun z => (by cases z), fun z => absurd (numlen z).1 (by omega)⟩
    have c1' : (1 : Int) ≤ (t.length : Nat) := of_decide_eq_true c1
    refine ⟨_, _, rfl, rfl, _, rfl, ?_⟩
    by_cases c2 : ((t.length : Nat) : Int) ≤ 4
    case neg =>
      rw [decide_eq_false c2]
      refine iteT ?_
      exact k _ _ (Same.refl _) ⟨fun z => (by cases z), fun z => absurd (numlen z).2 (by omega)⟩
    rw [decide_eq_true c2]
    refine iteF ?_
    refine ⟨_, rfl, _, rfl, fun D hD => ?_⟩
    have hsz : t.cps.size = (tl t).length := hl
    refine lc_it walk_str (fun i H' => Same H H' ∧ H' D = some (.lst (((letters t).take i).map V.bl))) ⟨same_new hD, upd_same⟩ (fun _ _ _ _ => trivial) (fun i x H1 H' hi hP hY => ?_) (fun H1 hP => ?_)
    · obtain ⟨sm, hL⟩ := hP
      obtain ⟨rfl, c, hc, rfl⟩ := hY
      have hc2 : (letters t)[i]? = some (decide (c ∈ ("123456789" : Str).cps.toList)) := by
        unfold letters
        rw [List.getElem?_map, cps_at hc]
        rfl
      refine ⟨rfl, yesT ?_⟩
      refine ⟨_, rfl, _, _, rfl, rfl, _, hL, by rw [List.length_map, List.length_take]; exact small1000 (by omega), ?_⟩
      refine ⟨same_mut sm hD, ?_⟩
      rw [upd_same, take_succ_map _ hc2]
    · obtain ⟨sm, hL⟩ := hP
      have ell : (letters t).length = t.cps.size := by unfold letters; rw [List.length_map, hsz]
      rw [← ell, List.take_length] at hL
      refine ⟨D, letters t, rfl, SqL.of hL, _, rfl, ?_⟩
      by_cases c3 : (letters t).all id = true
      case neg =>
        rw [Bool.not_eq_true] at c3
        rw [c3]
        refine iteT ?_
        refine k _ _ sm ⟨fun z => (by cases z), fun ⟨ds, N, e⟩ => ?_⟩
        have q := letters_all.mpr (by rw [e]; exact num_codes N.dig : ∀ c ∈ tl t, c ∈ ("123456789" : Str).cps.toList)
        rw [c3] at q
        cases q
      rw [c3]
      refine iteF ?_
      obtain ⟨ds, dig, et⟩ := dig_text t (letters_all.mp c3)
      subst et
      rw [numS_len] at c1' c2
      refine ⟨_, rfl, _, rfl, fun D2 hD2 => ?_⟩
      refine lc_it walk_str (fun i H' => Same H H' ∧ H' D2 = some (.lst ((ds.take i).map fun (d : Nat) => V.int (d : Int)))) ⟨sm.trans (same_new hD2), upd_same⟩ (fun _ _ _ _ => trivial) (fun i x H2 H' hi hP hY => ?_) (fun H2 hP => ?_)
      · obtain ⟨sm2, hl2⟩ := hP
        obtain ⟨rfl, c, hc, rfl⟩ := hY
        rw [numS_size] at hi
        rw [numS_at ds i hi] at hc
        have hc' := (Option.some.inj hc).symm
        subst hc'
        refine ⟨rfl, yesT ?_⟩
        refine ⟨_, rfl, _, _, rfl, dig_int (dig _ (List.getElem_mem hi)), (by show 1 ≤ 640; decide), _, hl2, by rw [List.length_map, List.length_take]; exact small1000 (by omega), ?_⟩
        refine ⟨same_mut sm2 (sm.free hD2), ?_⟩
        rw [upd_same, take_succ_map _ (List.getElem?_eq_getElem hi)]
      · obtain ⟨sm2, hl2⟩ := hP
        rw [numS_size, List.take_length] at hl2
        refine ⟨D2, ds.map fun (d : Nat) => (d : Int), rfl, SqL.of (by rw [hl2, List.map_map]; rfl), _, _, rfl, rfl, ?_⟩
        rw [sum_cast]
        refine k _ _ sm2 ?_
        rw [isnum_dig]
        constructor
        · intro z
          have z' : ((ds.sum : Nat) : Int) ≤ 24 := of_decide_eq_true z
          exact ⟨by omega, by omega, dig, by omega⟩
        · intro N
          exact decide_eq_true (show ((ds.sum : Nat) : Int) ≤ 24 by have := N.sum; omega)
theorem ok_check_number (T : Txt K mg) : FnOk P w K mg base CX0 2 T.a_check_number T.d_check_number ["thing"] (sp_check_number K) := by
  refine T.F_check_number.ok sc_check_number (fun vs H Q E h => ?_) (fun cdv A outer s H vs Q E hr h => ?_)
  · obtain ⟨ds, _, rfl, _⟩ := h
    rfl
  · obtain ⟨ds, N, rfl, k⟩ := h
    refine ⟨_, (pss_one (ps_if (pt_not (pt_val (pe_call (ok_is_number T) (hr.mono (by decide)) (by rfl) T.g_is_number T.F_is_number.kp T.b_is_number .nil pass0 (pa_cons (pv 0) pa_nil))))
        (pss_one ps_never)
        pss_nil)), ?_⟩
    have hlen := N.len
    refine ⟨_, rfl, numS ds, by rw [numS_len]; omega, rfl, fun H1 b s1 hb => ?_⟩
    have e : b = true := hb.mpr ⟨ds, N, rfl⟩
    subst e
    refine ⟨true, rfl, iteF ?_⟩
    exact k _ s1
theorem ok_blocks (T : Txt K mg) : FnOk P w K mg base CX0 3 T.a_blocks T.d_blocks ["number"] (sp_blocks K) := by
  refine T.F_blocks.ok sc_blocks (fun vs H Q E h => ?_) (fun cdv A outer s H vs Q E hr h => ?_)
  · obtain ⟨ds, _, rfl, _⟩ := h
    rfl
  · obtain ⟨ds, N, rfl, k⟩ := h
    have hlen := N.len
    refine ⟨_, (pss_cons (ps_expr (pe_call (ok_check_number T) (hr.mono (by decide)) (by rfl) T.g_check_number T.F_check_number.kp T.b_check_number .nil pass0 (pa_cons (pv 0) pa_nil)))
      (pss_one (ps_ret (pe_callTy call_tuple_of (by rfl) T.z_tuple (by decide +kernel) (pa_cons (pe_lc (own := [("letter", 1)]) (g := gName 1) (tt := tYes) rfl sc_blocks.nd (pi_str (pv 0)) (blkOk_by (own := [("letter", 1)]) (N := nm_blocks) (sc := (defScope s_blocks)) (by decide +kernel)) (fun _ _ _ _ _ => pg_name (i := 1) sc_blocks.nd rfl (Or.inl rfl)) (fun _ _ _ _ _ => pts_nil) (fun _ _ _ _ _ => (pe_callTy call_int_str (by rfl) T.z_int (by decide +kernel) (pa_cons (pv 1) pa_nil)))) pa_nil))))), ?_⟩
    refine ⟨_, rfl, ds, N, rfl, fun H1 s1 => ?_⟩
    refine ⟨_, rfl, _, rfl, fun D hD => ?_⟩
    refine lc_it walk_str (fun i H' => Same H1 H' ∧ H' D = some (.lst ((ds.take i).map fun (d : Nat) => V.int (d : Int)))) ⟨same_new hD, upd_same⟩ (fun _ _ _ _ => trivial) (fun i x H2 H' hi hP hY => ?_) (fun H2 hP => ?_)
    · obtain ⟨sm2, hl2⟩ := hP
      obtain ⟨rfl, c, hc, rfl⟩ := hY
      rw [numS_size] at hi
      rw [numS_at ds i hi] at hc
      have hc' := (Option.some.inj hc).symm
      subst hc'
      refine ⟨rfl, yesT ?_⟩
      refine ⟨_, rfl, _, _, rfl, dig_int (N.dig _ (List.getElem_mem hi)), (by show 1 ≤ 640; decide), _, hl2, by rw [List.length_map, List.length_take]; exact small1000 (by omega), ?_⟩
      refine ⟨same_mut sm2 hD, ?_⟩
      rw [upd_same, take_succ_map _ (List.getElem?_eq_getElem hi)]
    · obtain ⟨sm2, hl2⟩ := hP
      rw [numS_size, List.take_length] at hl2
      refine ⟨D, _, rfl, .inl ⟨SqL.of hl2, fun p hp => ?_⟩⟩
      exact k _ p ((s1.trans sm2).trans (same_new hp)) ((s1.trans sm2).free hp) upd_same
theorem ok_row_of (T : Txt K mg) : FnOk P w K mg base CX0 4 T.a_row_of T.d_row_of ["number"] (sp_row_of K) := by
  refine T.F_row_of.ok sc_row_of (fun vs H Q E h => ?_) (fun cdv A outer s H vs Q E hr h => ?_)
  · obtain ⟨ds, _, rfl, _⟩ := h
    rfl
  · obtain ⟨ds, N, rfl, k⟩ := h
    have hlen := N.len
    refine ⟨_, (pss_cons (ps_set (i := 1) sc_row_of.nd rfl (Or.inl rfl) (pe_lst pa_nil))
      (pss_cons (ps_for PassesOwn.never rfl (pi_tup (pe_call (ok_blocks T) (hr.mono (by decide)) (by rfl) T.g_blocks T.F_blocks.kp T.b_blocks .nil pass0 (pa_cons (pv 0) pa_nil))) (pg_name (i := 2) sc_row_of.nd rfl (Or.inl rfl))
        (pss_cons (ps_expr (pe_bm PySem.F.plainAttrs_list PySem.F.slot_list_extend PySem.F.type_list_extend mt_extend (pv 1) (pa_cons (pe_op op_rep (pe_lst (pa_cons pe_int (pa_cons pe_int pa_nil))) (pv 2)) pa_nil)))
        (pss_one (ps_expr (pe_bm PySem.F.plainAttrs_list PySem.F.slot_list_extend PySem.F.type_list_extend mt_extend (pv 1) (pa_cons (pe_lst (pa_cons pe_int (pa_cons pe_int pa_nil))) pa_nil))))))
      (pss_cons (ps_expr (pe_bm PySem.F.plainAttrs_list PySem.F.slot_list_extend PySem.F.type_list_extend mt_extend (pv 1) (pa_cons (pe_lst (pa_cons pe_int (pa_cons pe_int pa_nil))) pa_nil)))
      (pss_one (ps_ret (pe_callTy call_tuple_of (by rfl) T.z_tuple (by decide +kernel) (pa_cons (pv 1) pa_nil))))))), ?_⟩
    refine ⟨Nat.zero_le _, fun r hr0 => ?_⟩
    refine ⟨_, rfl, ds, N, rfl, fun H1 t s1 ht0 ht => ?_⟩
    have hrt : r ≠ t := fun e => by
      rw [e] at hr0
      have := ne_of_none (upd_same (H := H) (a := r) (o := .lst [])) ht0
      exact this e
    have hr1 : H1 r = some (.lst []) := s1 _ _ upd_same
    have sH : Same H H1 := (same_new hr0).trans s1
    refine ⟨t, rfl, ⟨_, SqT.of ht⟩, ?_⟩
    refine for_tup (xs := ds.map fun (d : Nat) => V.int (d : Int)) (fun i σ H2 => ∃ v, σ = [some (.str (numS ds)), some (.ref r), v] ∧ Same H H2 ∧ H2 t = some (.tup (ds.map fun (d : Nat) => V.int (d : Int))) ∧ H2 r = some (.lst ((Wm.pre (ds.take i)).map V.int)))
      ⟨_, rfl, sH, ht, hr1⟩ (fun i σ H2 _ hP => ?_) (fun i x σ H2 hx hP => ?_) (fun σ H2 hP => ?_)
    · obtain ⟨v, rfl, _, h2, _⟩ := hP
      exact SqT.of h2
    · obtain ⟨v, rfl, sm, h2, h3⟩ := hP
      have hi : i < ds.length := by
        have := (List.getElem?_eq_some_iff.mp hx).1
        rw [List.length_map] at this
        exact this
      have ex : x = .int (ds[i] : Nat) := by
        rw [List.getElem?_map, List.getElem?_eq_getElem hi] at hx
        exact (Option.some.inj hx).symm
      subst ex
      have hd := N.dig _ (List.getElem_mem hi)
      have hp9 := pre_le (ds.take i) fun d m => (N.dig d (List.mem_of_mem_take m)).2
      rw [List.length_take] at hp9
      have hrn : H r = none := hr0
      -- row.extend([1, 0] * strokes)
      refine ⟨.ref r, rfl, .inl ⟨rfl, _, SqL.of h3⟩, by decide, fun a ha => ?_⟩
      refine ⟨_, rfl, a, _, _, rfl, rfl, upd_same, by omega, by omega, by rw [Int.toNat_natCast]; show 2 * ds[i] ≤ _; exact Nat.le_of_lt (small1000 (by omega)), fun b hb => ?_⟩
      rw [Int.toNat_natCast, blk_V]
      have ra : r ≠ a := ne_of_none h3 ha
      have rb : r ≠ b := ne_of_none (at_old h3 ha) hb
      refine ⟨r, b, _, _, rfl, rfl, at_old (at_old h3 ha) hb, upd_same, ?_, ?_⟩
      · rw [List.length_map, List.length_map, blk_len]
        exact Nat.le_of_lt (small1000 (by omega))
      -- row.extend([0, 0])
      have h4 : upd (upd (upd H2 a (.lst [.int 1, .int 0])) b (.lst ((blk ds[i]).map V.int))) r (.lst ((Wm.pre (ds.take i)).map V.int ++ (blk ds[i]).map V.int)) r = some (.lst ((Wm.pre (ds.take i)).map V.int ++ (blk ds[i]).map V.int)) := upd_same
      refine ⟨.ref r, rfl, .inl ⟨rfl, _, SqL.of h4⟩, by decide, fun c hc => ?_⟩
      refine ⟨r, c, _, _, rfl, rfl, at_old h4 hc, upd_same, ?_, ?_⟩
      · rw [List.length_append, List.length_map, List.length_map, blk_len]
        exact Nat.le_of_lt (small1000 (by simp only [List.length_cons, List.length_nil]; omega))
      refine ⟨_, rfl, ?_, ?_, ?_⟩
      · have s2 : Same H2 (upd (upd H2 a (.lst [.int 1, .int 0])) b (.lst ((blk ds[i]).map V.int))) := (same_new ha).trans (same_new hb)
        have s3 : Same H (upd (upd (upd H2 a (.lst [.int 1, .int 0])) b (.lst ((blk ds[i]).map V.int))) r (.lst ((Wm.pre (ds.take i)).map V.int ++ (blk ds[i]).map V.int))) := same_mut (sm.trans s2) hrn
        exact same_mut (s3.trans (same_new hc)) hrn
      · rw [upd_ne hrt.symm]
        refine at_old ?_ hc
        rw [upd_ne hrt.symm]
        exact at_old (at_old h2 ha) hb
      · rw [upd_same, take_succ_app (List.getElem?_eq_getElem hi), pre_app]
        simp only [List.map_append, List.append_assoc]
        rfl
    · obtain ⟨v, rfl, sm, h2, h3⟩ := hP
      rw [List.length_map, List.take_length] at h3
      have hp9 := pre_le ds fun d m => (N.dig d m).2
      refine ⟨.ref r, rfl, .inl ⟨rfl, _, SqL.of h3⟩, by decide, fun a ha => ?_⟩
      refine ⟨r, a, _, _, rfl, rfl, at_old h3 ha, upd_same, ?_, ?_⟩
      · rw [List.length_map]
        exact Nat.le_of_lt (small1000 (by simp only [List.length_cons, List.length_nil]; omega))
      refine ⟨.ref r, rfl, r, _, rfl, .inl ⟨SqL.of upd_same, fun p hp => ?_⟩⟩
      have s2 : Same H (upd (upd H2 a (.lst [.int 0, .int 0])) r (.lst ((Wm.pre ds).map V.int ++ [.int 0, .int 0]))) := same_mut (sm.trans (same_new ha)) hr0
      refine k _ p (s2.trans (same_new hp)) (s2.free hp) ?_
      rw [upd_same, ← pre_row ds, List.map_append]
      rfl
theorem ok_length_of (T : Txt K mg) : FnOk P w K mg base CX0 4 T.a_length_of T.d_length_of ["number"] (sp_length_of K) := by
  refine T.F_length_of.ok sc_length_of (fun vs H Q E h => ?_) (fun cdv A outer s H vs Q E hr h => ?_)
  · obtain ⟨ds, _, rfl, _⟩ := h
    rfl
  · obtain ⟨ds, N, rfl, k⟩ := h
    refine ⟨_, (pss_cons (ps_set (i := 1) sc_length_of.nd rfl (Or.inl rfl) (pe_call (ok_blocks T) (hr.mono (by decide)) (by rfl) T.g_blocks T.F_blocks.kp T.b_blocks .nil pass0 (pa_cons (pv 0) pa_nil)))
      (pss_one (ps_ret (pe_op op_mul pe_int (pe_op op_add (pe_op op_add (pe_callB (Hf.cr_sumA rfl) (by rfl) T.z_sum (by decide +kernel) (pa_cons (pv 1) pa_nil)) (pe_callB call_len_seq (by rfl) T.z_len PySem.boot_len (pa_cons (pv 1) pa_nil))) pe_int))))), ?_⟩
    refine ⟨_, rfl, ds, N, rfl, fun H1 p s1 p0 hp => ?_⟩
    have hlen := N.len
    have hs := N.sum
    refine ⟨_, rfl, p, ds.map fun (d : Nat) => (d : Int), rfl, .inr (SqT.of (by rw [hp, List.map_map]; rfl)), ?_⟩
    rw [sum_cast]
    refine ⟨_, rfl, p, _, rfl, .inr (SqT.of hp), _, _, rfl, rfl, _, _, rfl, rfl, 2, _, rfl, rfl, .inl ⟨by decide, by decide⟩, ?_⟩
    have e : (2 : Int) * (((ds.sum : Nat) : Int) + (((ds.map fun (d : Nat) => V.int (d : Int)).length : Nat) : Int) + 1) = (((rowL ds).length : Nat) : Int) := by
      rw [row_sum, List.length_map]
      omega
    show Q (V.int ((2 : Int) * (((ds.sum : Nat) : Int) + (((ds.map fun (d : Nat) => V.int (d : Int)).length : Nat) : Int) + 1))) H1
    rw [e]
    exact k _ s1
end
end K24

namespace K24
open PySem L2 Wm TL Dv
section
variable {P : Program} {w : World} {K : PySem.W.Frag} {mg : Str → Option Value} {base : Heap}
theorem ifT {c : Bool} {A B : Prop} (e : c = true) (h : A) : if c = true then A else B := by rw [e]; exact h
theorem ifF {c : Bool} {A B : Prop} (e : c = false) (h : B) : if c = true then A else B := by rw [e]; exact h
theorem tup_ty {H : Hp} {p : Addr} {xs : List V} (h : SqT K H p xs) : TyX K H (.ref p) (.type "tuple") := by
  rcases h with (h | ⟨o, h⟩) | ⟨o, its, n, e, c, _⟩
  · exact .base (.tup h)
  · exact .fTuple h
  · exact .kTuple e c
theorem od_ty {H : Hp} {x : V} (h : Od K H x) : ∃ (n : String) (a b : Bool), TyX K H x (.type n) ∧ PySem.W.kitOne K (.type n) (.type "int") = some a ∧ PySem.W.kitOne K (.type n) (.type "bool") = some b ∧ (a && !b) = isI x := by
  cases h with
  | int _ => exact ⟨"int", true, false, .base (.int _), kit_ty (by decide +kernel), kit_ty (by decide +kernel), rfl⟩
  | bl b => exact ⟨"bool", true, true, .base (.bl _), kit_ty (by decide +kernel), kit_ty (by decide +kernel), rfl⟩
  | non => exact ⟨"NoneType", false, false, .base .non, kit_ty (by decide +kernel), kit_ty (by decide +kernel), rfl⟩
  | str t => exact ⟨"str", false, false, .base (.str _), kit_ty (by decide +kernel), kit_ty (by decide +kernel), rfl⟩
  | tup h => exact ⟨"tuple", false, false, tup_ty h, kit_ty (by decide +kernel), kit_ty (by decide +kernel), rfl⟩
  | lst h => exact ⟨"list", false, false, .base (.lst h), kit_ty (by decide +kernel), kit_ty (by decide +kernel), rfl⟩
theorem bool_and {a b c : Bool} (h : (a && !b) = c) (ha : a = true) : (!b) = c := by
  subst ha
  exact h
theorem ok_is_whole (T : Txt K mg) : FnOk P w K mg base CX0 1 T.a_is_whole T.d_is_whole ["thing"] (sp_is_whole K) := by
  refine T.F_is_whole.ok sc_is_whole (fun vs H Q E h => ?_) (fun cdv A outer s H vs Q E hr h => ?_)
  · obtain ⟨x, rfl, _⟩ := h
    rfl
  · obtain ⟨x, rfl, it, k⟩ := h
    obtain ⟨n, a, b, ty, k1, k2, e⟩ := od_ty it
    refine ⟨_, (pss_one (ps_ret (pe_and (pe_callB call_isi (by rfl) T.z_isinstance (by decide +kernel) (pa_cons (pv 0) (pa_cons (pe_bltn (v := V.ty "int") (by rfl) T.z_int (by decide +kernel) rfl) pa_nil))) (pe_one (pe_not (pe_callB call_isi (by rfl) T.z_isinstance (by decide +kernel) (pa_cons (pv 0) (pa_cons (pe_bltn (v := V.ty "bool") (by rfl) T.z_bool (by decide +kernel) rfl) pa_nil)))))))), ?_⟩
    refine ⟨_, rfl, _, _, _, _, a, rfl, .ty "int", ty, k1, a, rfl, ?_⟩
    refine ite2 (fun c => ?_) (fun c => ?_)
    · refine ⟨_, rfl, _, _, _, _, b, rfl, .ty "bool", ty, k2, b, rfl, ?_⟩
      rw [bool_and e c]
      exact k
    · have ha : a = false := by cases a with | false => rfl | true => exact absurd rfl c
      subst ha
      have e' : false = isI x := e
      rw [e']
      exact k
theorem inr_not {lo hi : Int} {x : V} (h : isI x ≠ true) : inR lo hi x = false := by
  cases x with
  | int i => exact absurd rfl h
  | _ => rfl
theorem ok_is_whole_within (T : Txt K mg) : FnOk P w K mg base CX0 2 T.a_is_whole_within T.d_is_whole_within ["thing", "low", "high"] (sp_is_whole_within K) := by
  refine T.F_is_whole_within.ok sc_is_whole_within (fun vs H Q E h => ?_) (fun cdv A outer s H vs Q E hr h => ?_)
  · obtain ⟨x, lo, hi, rfl, _⟩ := h
    rfl
  · obtain ⟨x, lo, hi, rfl, it, k⟩ := h
    refine ⟨_, (pss_one (ps_ret (pe_and (pe_call (ok_is_whole T) (hr.mono (by decide)) (by rfl) T.g_is_whole T.F_is_whole.kp T.b_is_whole .nil pass0 (pa_cons (pv 0) pa_nil)) (pe_one (pe_chain op_le op_le (pv 1) (pv 0) (pv 2)))))), ?_⟩
    refine ⟨_, rfl, x, rfl, it, _, rfl, ?_⟩
    refine ite2 (fun c => ?_) (fun c => ?_)
    · cases x with
      | int i =>
        have k : Q (.bl (decide (lo ≤ i) && decide (i ≤ hi))) H := k
        refine ⟨_, rfl, _, rfl, _, _, rfl, rfl, _, rfl, ite2 (fun c2 => ?_) (fun c2 => ?_)⟩
        · refine ⟨_, rfl, _, _, rfl, rfl, ?_⟩
          rw [c2, Bool.true_and] at k
          exact k
        · have c3 : decide (lo ≤ i) = false := by
            cases q : decide (lo ≤ i) with
            | false => rfl
            | true => exact absurd q c2
          rw [c3, Bool.false_and] at k
          exact k
      | _ => cases c
    · rw [inr_not c] at k
      exact k
theorem Od.k {H H' : Hp} {x : V} (h : Od K H x) (s : Same H H') : Od K H' x := by
  cases h with
  | int i => exact .int i
  | bl b => exact .bl b
  | non => exact .non
  | str t => exact .str t
  | tup h => exact .tup (sameT s h)
  | lst h => exact .lst (s _ _ h)
theorem map_take_succ {α β : Type} {l : List α} {f : α → β} {i : Nat} {x : α} (h : l[i]? = some x) : (l.map f).take (i + 1) = (l.map f).take i ++ [f x] := by
  rw [List.take_succ, List.getElem?_map, h]
  rfl
theorem small6 {n : Nat} (h : n ≤ 6000) : n < sizeLine := Nat.lt_of_le_of_lt h (by decide)
theorem ok_is_tape (T : Txt K mg) : FnOk P w K mg base CX0 3 T.a_is_tape T.d_is_tape ["thing"] (sp_is_tape K) := by
  refine T.F_is_tape.ok sc_is_tape (fun vs H Q E h => ?_) (fun cdv A outer s H vs Q E hr h => ?_)
  · obtain ⟨x, rfl, _⟩ := h
    rfl
  · obtain ⟨x, rfl, h⟩ := h
    refine ⟨_, (pss_cons (ps_if (PW.pt (pw_or (pt_not (pt_val (pe_callB call_isi (by rfl) T.z_isinstance (by decide +kernel) (pa_cons (pv 0) (pa_cons (pe_bltn (v := V.ty "tuple") (by rfl) T.z_tuple (by decide +kernel) rfl) pa_nil))))) (pw_or1 (pt_cmpR op_gt (pe_callB call_len_seq (by rfl) T.z_len PySem.boot_len (pa_cons (pv 0) pa_nil)) (pe_glob (v := V.int 3000) rfl T.c_MOST_SIGNS ⟨_, rfl⟩) (nomark _)))))
        (pss_one (ps_ret pe_bl))
        pss_nil)
      (pss_one (ps_ret (pe_callB (cr_all rfl) (by rfl) T.z_all (by decide +kernel) (pa_cons (pe_lc (own := [("sign", 1)]) (g := gName 1) (tt := tYes) rfl sc_is_tape.nd (pi_tup (pv 0)) (blkOk_by (own := [("sign", 1)]) (N := nm_is_tape) (sc := (defScope s_is_tape)) (by decide +kernel)) (fun _ _ _ _ _ => pg_name (i := 1) sc_is_tape.nd rfl (Or.inl rfl)) (fun _ _ _ _ _ => pts_nil) (fun _ _ _ _ _ => (pe_call (ok_is_whole_within T) (hr.mono (by decide)) (by rfl) T.g_is_whole_within T.F_is_whole_within.kp T.b_is_whole_within .nil pass0 (pa_cons (pv 1) (pa_cons (show PE _ _ (ClX.tCVal K (tC (V.ref T.SG)) "CLOSED") from ClX.pe_cval (pe_glob (v := V.ref T.SG) (by rfl) T.gSG rfl)) (pa_cons (show PE _ _ (ClX.tCVal K (tC (V.ref T.SG)) "KEY") from ClX.pe_cval (pe_glob (v := V.ref T.SG) (by rfl) T.gSG rfl)) pa_nil)))))) pa_nil))))), ?_⟩
    rcases h with ⟨p, xs, rfl, hp, od, few, k⟩ | ⟨nt, k⟩
    · refine ⟨_, rfl, _, _, _, _, true, rfl, .ty "tuple", tup_ty hp, kit_ty (by decide +kernel), true, rfl, iteF ?_⟩
      refine ⟨_, rfl, _, _, rfl, .inr hp, ?_⟩
      by_cases l3 : xs.length ≤ 3000
      · refine ⟨_, _, rfl, rfl, _, rfl, ifF (decide_eq_false (by omega)) ?_⟩
        refine ⟨_, rfl, p, rfl, ⟨_, hp⟩, fun D hD => ?_⟩
        rw [decide_eq_true l3, Bool.true_and] at k
        refine lc_tup (xs := xs) (fun j A => Same H A ∧ A D = some (.lst (((xs.map (inR 0 2)).take j).map V.bl))) ⟨same_new hD, upd_same⟩ (fun j A _ hP => sameT hP.1 hp) (fun j z A hz hP => ?_) (fun H1 hP => ?_)
        · obtain ⟨sA, hL⟩ := hP
          refine ⟨rfl, yesT ?_⟩
          refine ⟨_, rfl, T.SG, T.mc, _, _, rfl, T.rd, T.vC, T.SG, T.mc, _, _, rfl, T.rd, T.vK, z, 0, 2, rfl, (od z (List.mem_of_getElem? hz)).k sA, ?_⟩
          refine ⟨_, hL, by rw [List.length_map, List.length_take, List.length_map]; exact small6 (by omega), same_mut sA hD, ?_⟩
          rw [upd_same, map_take_succ hz, List.map_append]
          rfl
        · obtain ⟨sA, hL⟩ := hP
          rw [← List.length_map (f := inR 0 2), List.take_length] at hL
          refine ⟨D, xs.map (inR 0 2), rfl, SqL.of hL, ?_⟩
          rw [List.all_map]
          exact k _ sA
      · refine ⟨_, _, rfl, rfl, _, rfl, ifT (decide_eq_true (by omega)) ?_⟩
        rw [decide_eq_false l3, Bool.false_and] at k
        exact k _ (Same.refl _)
    · cases nt with
      | int i => exact ⟨_, rfl, _, _, _, _, false, rfl, .ty "tuple", .base (.int _), kit_ty (by decide +kernel), false, rfl, iteT (iteT k)⟩
      | bl i => exact ⟨_, rfl, _, _, _, _, false, rfl, .ty "tuple", .base (.bl _), kit_ty (by decide +kernel), false, rfl, iteT (iteT k)⟩
      | non => exact ⟨_, rfl, _, _, _, _, false, rfl, .ty "tuple", .base .non, kit_ty (by decide +kernel), false, rfl, iteT (iteT k)⟩
      | str i => exact ⟨_, rfl, _, _, _, _, false, rfl, .ty "tuple", .base (.str _), kit_ty (by decide +kernel), false, rfl, iteT (iteT k)⟩
      | lst h => exact ⟨_, rfl, _, _, _, _, false, rfl, .ty "tuple", .base (.lst h), kit_ty (by decide +kernel), false, rfl, iteT (iteT k)⟩
end
end K24

namespace K24
open PySem L2 Wm TL Dv
section
variable {P : Program} {w : World} {K : PySem.W.Frag} {mg : Str → Option Value} {base : Heap}
theorem bit_int (i : Int) : isBit (.int i) = (decide (0 ≤ i) && decide (i ≤ 1)) := by
  unfold isBit
  rw [Bool.eq_iff_iff, Bool.or_eq_true_iff, Bool.and_eq_true_iff, decide_eq_true_iff, decide_eq_true_iff, decide_eq_true_iff, decide_eq_true_iff]
  constructor
  · rintro (h | h)
    · cases h; omega
    · cases h; omega
  · rintro ⟨h1, h2⟩
    by_cases z : i = 0
    · exact .inl (by rw [z])
    · exact .inr (by rw [show i = 1 by omega])
theorem eqv_ints_iff : ∀ a b : List Int, PyData.eqvAll (a.map PyData.int) (b.map PyData.int) = decide (a = b)
  | [], [] => by simp [PyData.eqvAll]
  | [], _ :: _ => by simp [PyData.eqvAll]
  | _ :: _, [] => by simp [PyData.eqvAll]
  | x :: a, y :: b => by
    have ih := eqv_ints_iff a b
    simp only [List.map_cons, PyData.eqvAll, PyData.eqv, ih]
    rw [Bool.eq_iff_iff]
    simp
theorem eqv_tup_iff (a b : List Int) : PyData.eqv (.tuple (a.map PyData.int)) (.tuple (b.map PyData.int)) = decide (a = b) := by
  simp only [PyData.eqv]
  exact eqv_ints_iff a b
theorem eqv_lst_iff (a b : List Int) : PyData.eqv (.list (a.map PyData.int)) (.list (b.map PyData.int)) = decide (a = b) := by
  simp only [PyData.eqv]
  exact eqv_ints_iff a b
theorem shaped_ints (ns : List Int) : SeqAt.shaped (.tuple (ns.map PyData.int)) = true := by
  have h := PySem.W.ke_shaped_ints ns
  simp only [SeqAt.shaped, PyData.canLay0, PyData.depth] at h ⊢
  exact h
theorem dp_ints {H : Hp} : ∀ ns : List Int, DpAll K H (ns.map V.int) (ns.map PyData.int)
  | [] => .nil
  | n :: ns => .cons (.int n) (dp_ints ns)
theorem cut2 (l : List V) : cutV l none (some (-2)) = l.dropLast.dropLast := by
  unfold cutV
  rw [HT.sIx_none, List.drop_zero, Nat.sub_zero, List.dropLast_eq_take, List.dropLast_eq_take, List.take_take, List.length_take]
  have e : HT.sIx l.length l.length (some (-2)) = l.length - 2 := by
    unfold HT.sIx
    simp only [show (-2 : Int) < 0 by decide, if_true]
    omega
  rw [e]
  congr 1
  omega
theorem mapV_at {xs : List Int} {i : Nat} {v : V} (h : (xs.map V.int)[i]? = some v) : ∃ x, xs[i]? = some x ∧ v = .int x := by
  rw [List.getElem?_map] at h
  cases e : xs[i]? with
  | none =>
    rw [e] at h
    cases h
  | some x =>
    rw [e] at h
    exact ⟨x, rfl, (Option.some.inj h).symm⟩
theorem mapS_at {xs : List Str} {i : Nat} {v : V} (h : (xs.map V.str)[i]? = some v) : ∃ x, xs[i]? = some x ∧ v = .str x := by
  rw [List.getElem?_map] at h
  cases e : xs[i]? with
  | none =>
    rw [e] at h
    cases h
  | some x =>
    rw [e] at h
    exact ⟨x, rfl, (Option.some.inj h).symm⟩
theorem told_bits {zs : List Int} {ds : List Nat} {b : Bool} (N : Num ds) (e : told zs = numS ds) (hb : b = decide (rowL ds = zs)) :
    (b = true → Told (zs.map V.int) (.str (told zs))) ∧ (b = false → Told (zs.map V.int) .non) := by
  constructor
  · intro q
    rw [hb] at q
    have q' := of_decide_eq_true q
    exact .inl ⟨ds, N, by rw [q'], by rw [e]⟩
  · intro q
    rw [hb] at q
    have q' := of_decide_eq_false q
    refine .inr ⟨fun es M f => ?_, rfl⟩
    have f' := map_int_inj f
    subst f'
    rw [told_row M.dig] at e
    exact q' (by rw [numS_inj e])
theorem told_none {zs : List Int} (h : ¬ IsNum (told zs)) : Told (zs.map V.int) .non :=
  .inr ⟨fun es M f => by
    have f' := map_int_inj f
    subst f'
    rw [told_row M.dig] at h
    exact h ⟨es, M, rfl⟩, rfl⟩
theorem told_odd {xs : List V} (h : (xs.map isBit).all id ≠ true) : Told xs .non := by
  refine .inr ⟨fun es M f => h ?_, rfl⟩
  rw [f, List.map_map, List.all_map, List.all_eq_true]
  intro z m
  rcases row_bits es z m with q | q <;> subst q <;> rfl
theorem bits_of {xs : List V} (h : (xs.map isBit).all id = true) : ∀ x ∈ xs, isBit x = true := by
  rw [List.all_map, List.all_eq_true] at h
  exact h
theorem log_bit {z : Int} (h : z = 0 ∨ z = 1) : z.natAbs.log2 < 1920 := by
  rcases h with e | e <;> subst e <;> decide
theorem log_small {n : Nat} (h : n ≤ 3000) : ((n : Nat) : Int).natAbs.log2 < 1920 := by
  rw [Int.natAbs_natCast]
  by_cases z : n = 0
  · subst z; decide
  · exact Nat.lt_trans ((Nat.log2_lt z).mpr (show n < 2 ^ 12 by omega)) (by decide)
theorem len_join {zs : List Int} : (Txt.join "" (zs.map bitS)).length = zs.length := halves_len zs
theorem ok_number_of (T : Txt K mg) : FnOk P w K mg base CX0 5 T.a_number_of T.d_number_of ["row"] (sp_number_of K) := by
  refine T.F_number_of.ok sc_number_of (fun vs H Q E h => ?_) (fun cdv A outer s H vs Q E hr h => ?_)
  · obtain ⟨p, xs, rfl, _⟩ := h
    rfl
  · obtain ⟨p, zs0, rfl, hS0, hlen, kk⟩ := h
    have it : ∀ x ∈ zs0.map V.int, Od K H x ∧ inR 0 1 x = isBit x := fun x m => by
      obtain ⟨i, _, rfl⟩ := List.mem_map.mp m
      exact ⟨.int i, (bit_int i).symm⟩
    have hS : SqA K H p (zs0.map V.int) := .inr hS0
    rw [← List.length_map (f := V.int)] at hlen
    generalize zs0.map V.int = xs at hS it hlen kk
    clear hS0
    refine ⟨_, (pss_cons (ps_if (pt_not (pt_val (pe_callB (cr_all rfl) (by rfl) T.z_all (by decide +kernel) (pa_cons (pe_lc (own := [("sign", 1)]) (g := gName 1) (tt := tYes) rfl sc_number_of.nd (Hf.pi_seq (pv 0)) (blkOk_by (own := [("sign", 1)]) (N := nm_number_of) (sc := (defScope s_number_of)) (by decide +kernel)) (fun _ _ _ _ _ => pg_name (i := 1) sc_number_of.nd rfl (Or.inl rfl)) (fun _ _ _ _ _ => pts_nil) (fun _ _ _ _ _ => (pe_call (ok_is_whole_within T) (hr.mono (by decide)) (by rfl) T.g_is_whole_within T.F_is_whole_within.kp T.b_is_whole_within .nil pass0 (pa_cons (pv 1) (pa_cons pe_int (pa_cons pe_int pa_nil)))))) pa_nil))))
        (pss_one (ps_ret pe_non))
        pss_nil)
      (pss_cons (ps_set (i := 2) sc_number_of.nd rfl (Or.inl rfl) (pe_join pe_str (pe_lc (own := [("sign", 1)]) (g := gName 1) (tt := tYes) rfl sc_number_of.nd (Hf.pi_seq (Hf.pe_half (pv 0))) (blkOk_by (own := [("sign", 1)]) (N := nm_number_of) (sc := (defScope s_number_of)) (by decide +kernel)) (fun _ _ _ _ _ => pg_name (i := 1) sc_number_of.nd rfl (Or.inl rfl)) (fun _ _ _ _ _ => pts_nil) (fun _ _ _ _ _ => (pe_callTy call_str_int (by rfl) T.z_str (by decide +kernel) (pa_cons (pv 1) pa_nil))))))
      (pss_cons (ps_set (i := 3) sc_number_of.nd rfl (Or.inl rfl) (pe_split (pv 2) pe_str))
      (pss_cons (ps_set (i := 4) sc_number_of.nd rfl (Or.inl rfl) (pe_join pe_str (pe_lc (own := [("group", 5)]) (g := gName 5) (tt := tYes) rfl sc_number_of.nd (pi_list (pe_slice sl_list (pv 3) po_none (po_some (pe_un un_neg pe_int)))) (blkOk_by (own := [("group", 5)]) (N := nm_number_of) (sc := (defScope s_number_of)) (by decide +kernel)) (fun _ _ _ _ _ => pg_name (i := 5) sc_number_of.nd rfl (Or.inl rfl)) (fun _ _ _ _ _ => pts_nil) (fun _ _ _ _ _ => (pe_callTy call_str_int (by rfl) T.z_str (by decide +kernel) (pa_cons (pe_callB call_len_str (by rfl) T.z_len PySem.boot_len (pa_cons (pv 5) pa_nil)) pa_nil))))))
      (pss_cons (ps_if (PW.pt (pw_and (pt_val (pe_call (ok_is_number T) (hr.mono (by decide)) (by rfl) T.g_is_number T.F_is_number.kp T.b_is_number .nil pass0 (pa_cons (pv 4) pa_nil))) (pw_and1 (pt_cmpR (op_eqD hr.units) (pe_call (ok_row_of T) (hr.mono (by decide)) (by rfl) T.g_row_of T.F_row_of.kp T.b_row_of .nil pass0 (pa_cons (pv 4) pa_nil)) (pe_callTy call_tuple_of (by rfl) T.z_tuple (by decide +kernel) (pa_cons (pv 0) pa_nil)) (nomark _)))))
        (pss_one (ps_ret (pv 4)))
        pss_nil)
      (pss_one (ps_ret pe_non))))))), ?_⟩
    refine ⟨_, rfl, p, xs, rfl, hS, fun J G wk g => ?_⟩
    intro D hD
    refine lc_it wk (fun i H' => Same H H' ∧ H' D = some (.lst (((xs.map isBit).take i).map V.bl))) ⟨same_new hD, upd_same⟩ (fun _ _ _ hP => g _ hP.1) (fun i x H1 H' hi hP hY => ?_) (fun H1 hP => ?_)
    · obtain ⟨sm, hL⟩ := hP
      obtain ⟨rfl, hx⟩ := hY
      have hx2 : (xs.map isBit)[i]? = some (isBit x) := by rw [List.getElem?_map, hx]; rfl
      refine ⟨rfl, yesT ?_⟩
      refine ⟨_, rfl, x, 0, 1, rfl, (it x (List.mem_of_getElem? hx)).1.k sm, ?_⟩
      rw [(it x (List.mem_of_getElem? hx)).2]
      refine ⟨_, hL, by rw [List.length_map, List.length_take]; exact small6 (by omega), same_mut sm hD, ?_⟩
      rw [upd_same, take_succ_map _ hx2]
    · obtain ⟨sm, hL⟩ := hP
      rw [← List.length_map (f := isBit), List.take_length] at hL
      refine ⟨D, xs.map isBit, rfl, SqL.of hL, _, rfl, ?_⟩
      by_cases c : (xs.map isBit).all id = true
      case neg =>
        rw [Bool.not_eq_true] at c
        rw [c]
        refine iteT ?_
        exact kk _ _ sm (told_odd (by rw [c]; decide))
      rw [c]
      refine iteF ?_
      obtain ⟨zs, rfl, hz⟩ := all_bits (bits_of c)
      rw [List.length_map] at hlen
      have hel := Hf.ev2_le zs
      refine ⟨⟨_, rfl⟩, ?_⟩
      refine ⟨_, rfl, p, _, rfl, hS.keep sm, fun q H2 s2 q0 hq => ?_⟩
      rw [Hf.ev2_map] at hq
      refine ⟨q, _, rfl, hq, fun J2 G2 wk2 g2 => ?_⟩
      intro D2 hD2
      rw [List.length_map] at wk2
      have sA := sm.trans s2
      refine lc_it wk2 (fun i H' => Same H2 H' ∧ H' D2 = some (.lst ((((Hf.ev2 zs).map bitS).take i).map V.str))) ⟨same_new hD2, upd_same⟩ (fun i H' _ hP => g2 _ hP.1) (fun i x H3 H' hi hP hY => ?_) (fun H3 hP => ?_)
      · obtain ⟨sm3, hL3⟩ := hP
        obtain ⟨rfl, hx⟩ := hY
        obtain ⟨z, hz1, rfl⟩ := mapV_at hx
        have hb := hz z (Hf.ev2_mem (List.mem_of_getElem? hz1))
        have hx2 : ((Hf.ev2 zs).map bitS)[i]? = some (bitS z) := by rw [List.getElem?_map, hz1]; rfl
        refine ⟨rfl, yesT ?_⟩
        refine ⟨_, rfl, z, rfl, log_bit hb, ?_⟩
        refine ⟨_, hL3, by rw [List.length_map, List.length_take]; exact small6 (by omega), same_mut sm3 hD2, ?_⟩
        rw [upd_same, bit_str hb, take_succ_map _ hx2]
      · obtain ⟨sm3, hL3⟩ := hP
        have sB := sA.trans sm3
        rw [← List.length_map (f := bitS), List.take_length] at hL3
        refine ⟨"", D2, _, rfl, rfl, .inl (SqL.of hL3), ?_, ?_⟩
        · have z0 : ("" : Str).length = 0 := by decide +kernel
          rw [bit_sum, List.length_map, z0]
          omega
        refine ⟨_, rfl, ⟨_, rfl⟩, ?_⟩
        refine ⟨_, _, rfl, rfl, by decide, by rw [halves_len]; exact small_len (by omega), fun g hg => ?_⟩
        rw [groups_eq]
        refine ⟨⟨_, rfl⟩, ?_⟩
        refine ⟨.ref g, rfl, 2, rfl, -2, rfl, g, _, rfl, SqL.of upd_same, fun q2 hq2 => ?_⟩
        rw [cut2]
        have eg : (List.map V.str ((gaps (Hf.ev2 zs)).map oneS)).dropLast.dropLast = ((gaps (Hf.ev2 zs)).dropLast.dropLast.map oneS).map V.str := by
          rw [List.map_dropLast, List.map_dropLast, List.map_dropLast, List.map_dropLast]
        rw [eg]
        have hgs : ∀ n ∈ (gaps (Hf.ev2 zs)).dropLast.dropLast, n ≤ 3000 := fun n m => by
          have := gaps_le (List.dropLast_subset _ (List.dropLast_subset _ m))
          omega
        have hgl : (gaps (Hf.ev2 zs)).dropLast.dropLast.length ≤ 3000 := by
          have := (gaps_sum (Hf.ev2 zs)).2
          rw [List.length_dropLast, List.length_dropLast]
          omega
        have etold : Txt.join "" ((gaps (Hf.ev2 zs)).dropLast.dropLast.map decS) = told zs := rfl
        generalize (gaps (Hf.ev2 zs)).dropLast.dropLast = gs at hgs hgl etold
        have sC := (sB.trans (same_new (o := .lst (List.map V.str ((gaps (Hf.ev2 zs)).map oneS))) hg)).trans (same_new (o := .lst (List.map V.str (gs.map oneS))) hq2)
        refine ⟨q2, rfl, ⟨_, SqL.of upd_same⟩, fun D3 hD3 => ?_⟩
        have hfree := sC.free hD3
        refine lc_list (xs := (gs.map oneS).map V.str) (fun i H' => (H' q2 = some (.lst ((gs.map oneS).map V.str)) ∧ Same H H') ∧ H' D3 = some (.lst (((gs.map decS).take i).map V.str))) ⟨⟨at_old upd_same hD3, sC.trans (same_new hD3)⟩, upd_same⟩ (fun i H' _ hP => SqL.of hP.1.1) (fun i x H4 hx hP => ?_) (fun H4 hP => ?_)
        · obtain ⟨⟨hq4, sm4⟩, hL4⟩ := hP
          obtain ⟨y, hy, rfl⟩ := mapS_at hx
          rw [List.getElem?_map] at hy
          obtain ⟨n, hn, rfl⟩ := Option.map_eq_some_iff.mp hy
          have hn1000 := hgs n (List.mem_of_getElem? hn)
          have hx2 : (gs.map decS)[i]? = some (decS n) := by rw [List.getElem?_map, hn]; rfl
          have hi := (List.getElem?_eq_some_iff.mp hn).1
          refine ⟨rfl, yesT ?_⟩
          refine ⟨_, rfl, _, rfl, by rw [oneS_len]; exact small_len (by omega), ?_⟩
          rw [oneS_len]
          refine ⟨_, rfl, log_small hn1000, ?_⟩
          refine ⟨_, hL4, by rw [List.length_map, List.length_take]; exact small6 (by omega), ⟨?_, same_mut sm4 hfree⟩, ?_⟩
          · rw [upd_ne (ne_of_none upd_same hD3)]
            exact hq4
          · rw [upd_same]
            exact congrArg (fun l => some (HO.lst l)) (take_succ_map V.str hx2)
        · obtain ⟨⟨hq4, sm4⟩, hL4⟩ := hP
          rw [List.length_map, show (gs.map oneS).length = (gs.map decS).length by rw [List.length_map, List.length_map], List.take_length] at hL4
          refine ⟨"", D3, gs.map decS, rfl, rfl, .inl (SqL.of hL4), ?_, ?_⟩
          · have z0 : ("" : Str).length = 0 := by decide +kernel
            have := dec_sum hgs
            rw [List.length_map, z0]
            omega
          rw [etold]
          refine ⟨_, rfl, told zs, ?_, rfl, fun H5 b s5 hb => ⟨b, rfl, ?_⟩⟩
          · rw [← etold, join0_len]
            have := dec_sum hgs
            omega
          have s05 := sm4.trans s5
          cases b with
          | false =>
            refine iteF ?_
            refine iteF ?_
            exact kk _ _ s05 (told_none fun z => by have := hb.mpr z; cases this)
          | true =>
            refine iteT ?_
            obtain ⟨ds, N, eds⟩ := hb.mp rfl
            refine ⟨_, rfl, ds, N, by rw [eds]; rfl, fun H6 r s6 r0 hr => ?_⟩
            have s06 := s05.trans s6
            have fin : ∀ (b : Bool), b = decide (rowL ds = zs) → (b = true → Told (zs.map V.int) (.str (told zs))) ∧ (b = false → Told (zs.map V.int) .non) := fun b e => told_bits N eds e
            have hr' : ∀ H7, Same H6 H7 → Dp K H7 (.ref r) (.tuple ((rowL ds).map PyData.int)) := fun H7 s7 => .tup (SqT.of (s7 _ _ hr)) (dp_ints _)
            rcases hS.keep s06 with hS6 | hS6
            · refine ⟨_, rfl, p, _, rfl, .inl ⟨hS6, fun l hl => ?_⟩⟩
              refine ⟨_, _, hr' _ (same_new hl), .tup (SqT.of upd_same) (dp_ints _), shaped_ints _, shaped_ints _, _, rfl, ?_⟩
              rw [eqv_tup_iff]
              have f := fin _ rfl
              refine ite2 (fun e => ?_) (fun e => ?_)
              · exact ⟨_, rfl, kk _ _ (s06.trans (same_new hl)) (f.1 e)⟩
              · exact kk _ _ (s06.trans (same_new hl)) (f.2 (Bool.not_eq_true _ ▸ e))
            · refine ⟨_, rfl, p, _, rfl, .inr ⟨hS6, ?_⟩⟩
              refine ⟨_, _, hr' _ (Same.refl _), .tup hS6 (dp_ints _), shaped_ints _, shaped_ints _, _, rfl, ?_⟩
              rw [eqv_tup_iff]
              have f := fin _ rfl
              refine ite2 (fun e => ?_) (fun e => ?_)
              · exact ⟨_, rfl, kk _ _ s06 (f.1 e)⟩
              · exact kk _ _ s06 (f.2 (Bool.not_eq_true _ ▸ e))
end
end K24

namespace K24
open PySem L2 Wm TL Dv
section
variable {P : Program} {w : World} {K : PySem.W.Frag} {mg : Str → Option Value} {base : Heap}
theorem ne_go {x y : V} {R S : Prop} (h1 : x ≠ y → R) (h2 : x = y → S) : if (!decide (x = y)) = true then R else S := by
  by_cases e : x = y
  · rw [if_neg (by simp [e])]; exact h2 e
  · rw [if_pos (by simp [e])]; exact h1 e
theorem drop_cons {α : Type} {l : List α} {e : Nat} {t : α} (h : l[e]? = some t) : l.drop e = t :: l.drop (e + 1) := by
  obtain ⟨h1, h2⟩ := List.getElem?_eq_some_iff.mp h
  rw [List.drop_eq_getElem_cons h1, h2]
theorem drop_nil {α : Type} {l : List α} {e : Nat} (h : l.length ≤ e) : l.drop e = [] := List.drop_eq_nil_of_le h
theorem run_step {c : Int} {ts : List Int} {e : Nat} (h : ts[e]? = some c) : runN c (ts.drop e) = runN c (ts.drop (e + 1)) + 1 := by
  rw [drop_cons h]
  unfold runN
  rw [List.takeWhile_cons, if_pos (decide_eq_true rfl)]
  rfl
theorem run_stop {c d : Int} {ts : List Int} {e : Nat} (h : ts[e]? = some d) (n : d ≠ c) : runN c (ts.drop e) = 0 := by
  rw [drop_cons h]
  unfold runN
  rw [List.takeWhile_cons, if_neg (by simpa using n)]
  rfl
theorem run_end {c : Int} {ts : List Int} {e : Nat} (h : ts.length ≤ e) : runN c (ts.drop e) = 0 := by
  rw [drop_nil h]
  rfl
theorem mapi {ts : List Int} {i : Nat} {c : Int} (h : ts[i]? = some c) : (ts.map V.int)[i]? = some (.int c) := by rw [List.getElem?_map, h]; rfl
theorem small3 {n : Nat} (h : n ≤ 6000) : (n : Nat) < sizeLine := Nat.lt_of_le_of_lt h (by decide)
theorem ok_run_end (T : Txt K mg) : FnOk P w K mg base CX0 1 T.a_run_end T.d_run_end ["tape", "at"] (sp_run_end K) := by
  refine T.F_run_end.ok sc_run_end (fun vs H Q E h => ?_) (fun cdv A outer s H vs Q E hr h => ?_)
  · obtain ⟨p, ts, i, c, rfl, _⟩ := h
    rfl
  · obtain ⟨p, ts, i, c, rfl, hp, few, hc, k⟩ := h
    refine ⟨_, (pss_cons (ps_set (i := 2) sc_run_end.nd rfl (Or.inl rfl) (pv 1))
      (C8.pss_cut (ps_while PassesOwn.never (PW.pt (pw_and (pt_cmpR op_lt (pv 2) (pe_callB call_len_seq (by rfl) T.z_len PySem.boot_len (pa_cons (pv 0) pa_nil)) (nomark _)) (pw_and1 (pt_cmpR op_eq (pe_ix ix_tup (pv 0) (pv 2) (fun _ _ => rfl)) (pe_ix ix_tup (pv 0) (pv 1) (fun _ _ => rfl)) (nomark _)))))
        (pss_one (ps_aug (i := 2) sc_run_end.nd rfl (Or.inl rfl) pe_int ip_add)))
      (pss_one (ps_ret (pv 2))))), ?_⟩
    have hi := (List.getElem?_eq_some_iff.mp hc).1
    refine ⟨_, rfl, ?_⟩
    refine ⟨fun σ A => A = H ∧ σ = [some (.ref p), some (.int (i : Nat)), some (.int (i + runN c (ts.drop i) : Nat))], ?_, ?_⟩
    · refine ⟨fun m σ A => A = H ∧ ∃ e : Nat, m + e = ts.length ∧ σ = [some (.ref p), some (.int (i : Nat)), some (.int (e : Nat))] ∧ e + runN c (ts.drop e) = i + runN c (ts.drop i), ⟨ts.length - i, rfl, i, by omega, rfl, rfl⟩, ?_⟩
      rintro m σ A ⟨rfl, e, hm, rfl, he⟩
      refine ⟨_, rfl, _, rfl, _, _, rfl, .inr hp, _, _, rfl, rfl, _, rfl, ite2 (fun c1 => ?_) (fun c1 => ?_)⟩
      · have c1 := of_decide_eq_true c1
        rw [List.length_map] at c1
        have le : e < ts.length := by omega
        have ht := List.getElem?_eq_getElem le
        generalize ts[e] = t at ht
        refine ⟨_, rfl, _, rfl, p, _, _, _, rfl, rfl, hp, atI_nat (j := e) (mapi ht), _, rfl, _, rfl, p, _, _, _, rfl, rfl, hp, atI_nat (j := i) (mapi hc), rfl, _, rfl, ite2 (fun c2 => ?_) (fun c2 => ?_)⟩
        · have c2 : t = c := V.int.inj (of_decide_eq_true c2)
          subst c2
          have st := run_step ht
          refine ⟨fun σ A' => A' = A ∧ ∃ e' : Nat, m - 1 + e' = ts.length ∧ σ = [some (.ref p), some (.int (i : Nat)), some (.int (e' : Nat))] ∧ e' + runN t (ts.drop e') = i + runN t (ts.drop i), fun σ' H' h => ⟨m - 1, by omega, h⟩, ?_⟩
          exact ⟨_, rfl, _, _, rfl, rfl, rfl, e + 1, by omega, rfl, by omega⟩
        · have c2 : t ≠ c := fun z => c2 (decide_eq_true (by rw [z]))
          have st := run_stop ht c2
          exact ⟨rfl, by rw [← he, st]; rfl⟩
      · have c1 : ¬ ((e : Nat) : Int) < (ts.length : Nat) := fun z => c1 (decide_eq_true (by rw [List.length_map]; exact z))
        have st := run_end (c := c) (ts := ts) (e := e) (by omega)
        exact ⟨rfl, by rw [← he, st]; rfl⟩
    · rintro σ A ⟨rfl, rfl⟩
      exact ⟨_, rfl, k⟩
theorem brk_step {k : Nat} {t : Int} {ts : List Int} {e : Nat} (h : ts[e]? = some t) (n : t ≠ 2) (l : k < 5) : brkN k (ts.drop e) = brkN (if t = 0 then k + 1 else 0) (ts.drop (e + 1)) + 1 := by
  rw [drop_cons h]
  show (if t ≠ 2 ∧ k < 5 then 1 + brkN (if t = 0 then k + 1 else 0) (ts.drop (e + 1)) else 0) = _
  rw [if_pos ⟨n, l⟩]
  exact Nat.add_comm _ _
theorem brk_stop {k : Nat} {t : Int} {ts : List Int} {e : Nat} (h : ts[e]? = some t) (n : t = 2 ∨ 5 ≤ k) : brkN k (ts.drop e) = 0 := by
  rw [drop_cons h]
  show (if t ≠ 2 ∧ k < 5 then 1 + brkN (if t = 0 then k + 1 else 0) (ts.drop (e + 1)) else 0) = _
  rw [if_neg]
  rintro ⟨a, b⟩
  rcases n with n | n
  · exact a n
  · omega
theorem brk_end {k : Nat} {ts : List Int} {e : Nat} (h : ts.length ≤ e) : brkN k (ts.drop e) = 0 := by
  rw [drop_nil h]
  rfl
theorem endP_one {ts : List Int} {i : Nat} (h : ts[i]? = some 1) : endP ts i = i + brkN 0 (ts.drop i) := by
  unfold endP
  rw [h]
  exact if_pos rfl
theorem endP_ne {ts : List Int} {i : Nat} {c : Int} (h : ts[i]? = some c) (n : c ≠ 1) : endP ts i = i + runN c (ts.drop i) := by
  unfold endP
  rw [h]
  exact if_neg n
theorem ok_piece_end (T : Txt K mg) : FnOk P w K mg base CX0 2 T.a_piece_end T.d_piece_end ["tape", "at"] (sp_piece_end K) := by
  refine T.F_piece_end.ok sc_piece_end (fun vs H Q E h => ?_) (fun cdv A outer s H vs Q E hr h => ?_)
  · obtain ⟨p, ts, i, rfl, _⟩ := h
    rfl
  · obtain ⟨p, ts, i, rfl, hp, few, hi, k⟩ := h
    refine ⟨_, (pss_cons (ps_if (pt_cmpR op_ne (pe_ix ix_tup (pv 0) (pv 1) (fun _ _ => rfl)) (show PE _ _ (ClX.tCVal K (tC (V.ref T.SG)) "BROKEN") from ClX.pe_cval (pe_glob (v := V.ref T.SG) (by rfl) T.gSG rfl)) (nomark _))
        (pss_one (ps_ret (pe_call (ok_run_end T) (hr.mono (by decide)) (by rfl) T.g_run_end T.F_run_end.kp T.b_run_end .nil pass0 (pa_cons (pv 0) (pa_cons (pv 1) pa_nil)))))
        pss_nil)
      (pss_cons (ps_set (i := 2) sc_piece_end.nd rfl (Or.inl rfl) pe_int)
      (pss_cons (ps_set (i := 3) sc_piece_end.nd rfl (Or.inl rfl) (pv 1))
      (C8.pss_cut (ps_while PassesOwn.never (PW.pt (pw_and (pt_cmpR op_lt (pv 3) (pe_callB call_len_seq (by rfl) T.z_len PySem.boot_len (pa_cons (pv 0) pa_nil)) (nomark _)) (pw_and (pt_cmpR op_ne (pe_ix ix_tup (pv 0) (pv 3) (fun _ _ => rfl)) (show PE _ _ (ClX.tCVal K (tC (V.ref T.SG)) "KEY") from ClX.pe_cval (pe_glob (v := V.ref T.SG) (by rfl) T.gSG rfl)) (nomark _)) (pw_and1 (pt_cmpR op_lt (pv 2) (pe_glob (v := V.int 5) rfl T.c_CLOSED_END ⟨_, rfl⟩) (nomark _))))))
        (pss_cons (ps_set (i := 2) sc_piece_end.nd rfl (Or.inl rfl) (pe_ifExp (pt_cmpR op_eq (pe_ix ix_tup (pv 0) (pv 3) (fun _ _ => rfl)) (show PE _ _ (ClX.tCVal K (tC (V.ref T.SG)) "CLOSED") from ClX.pe_cval (pe_glob (v := V.ref T.SG) (by rfl) T.gSG rfl)) (nomark _)) (pe_op op_add (pv 2) pe_int) pe_int))
        (pss_one (ps_aug (i := 3) sc_piece_end.nd rfl (Or.inl rfl) pe_int ip_add))))
      (pss_one (ps_ret (pv 3))))))), ?_⟩
    have hc := List.getElem?_eq_getElem hi
    generalize ts[i] = c at hc
    refine ⟨_, rfl, _, rfl, p, _, _, _, rfl, rfl, hp, atI_nat (j := i) (mapi hc), T.SG, T.mc, _, _, rfl, T.rd, T.vB, rfl, _, rfl, ne_go (fun n => ?_) fun e1 => ?_⟩
    · have n : c ≠ 1 := fun z => n (by rw [z])
      rw [endP_ne hc n] at k
      exact ⟨_, rfl, _, rfl, p, ts, i, c, rfl, hp, few, hc, k⟩
    · have e1 : c = 1 := V.int.inj e1
      subst e1
      rw [endP_one hc] at k
      refine ⟨_, rfl, ?_⟩
      refine ⟨fun σ A => A = H ∧ ∃ v, σ = [some (.ref p), some (.int (i : Nat)), v, some (.int (i + brkN 0 (ts.drop i) : Nat))], ?_, ?_⟩
      · refine ⟨fun m σ A => A = H ∧ ∃ e q : Nat, m + e = ts.length ∧ σ = [some (.ref p), some (.int (i : Nat)), some (.int (q : Nat)), some (.int (e : Nat))] ∧ e + brkN q (ts.drop e) = i + brkN 0 (ts.drop i), ⟨ts.length - i, rfl, i, 0, by omega, rfl, rfl⟩, ?_⟩
        rintro m σ A ⟨rfl, e, q, hm, rfl, he⟩
        refine ⟨_, rfl, _, rfl, _, _, rfl, .inr hp, _, _, rfl, rfl, _, rfl, ite2 (fun c1 => ?_) (fun c1 => ?_)⟩
        · have c1 := of_decide_eq_true c1
          rw [List.length_map] at c1
          have le : e < ts.length := by omega
          have ht := List.getElem?_eq_getElem le
          generalize ts[e] = t at ht
          refine ⟨_, rfl, _, rfl, p, _, _, _, rfl, rfl, hp, atI_nat (j := e) (mapi ht), T.SG, T.mc, _, _, rfl, T.rd, T.vK, rfl, _, rfl, ne_go (fun n2 => ?_) fun e2 => ?_⟩
          · have n2 : t ≠ 2 := fun z => n2 (by rw [z])
            refine ⟨_, rfl, _, _, rfl, rfl, _, rfl, ite2 (fun c3 => ?_) (fun c3 => ?_)⟩
            · have c3 := of_decide_eq_true c3
              have l5 : q < 5 := by omega
              have st := brk_step ht n2 l5
              refine ⟨fun σ A' => A' = A ∧ ∃ e' q' : Nat, m - 1 + e' = ts.length ∧ σ = [some (.ref p), some (.int (i : Nat)), some (.int (q' : Nat)), some (.int (e' : Nat))] ∧ e' + brkN q' (ts.drop e') = i + brkN 0 (ts.drop i), fun σ' H' h => ⟨m - 1, by omega, h⟩, ?_⟩
              refine ⟨_, rfl, _, rfl, p, _, _, _, rfl, rfl, hp, atI_nat (j := e) (mapi ht), T.SG, T.mc, _, _, rfl, T.rd, T.vC, rfl, _, rfl, ite2 (fun c4 => ?_) (fun c4 => ?_)⟩
              · have c4 : t = 0 := V.int.inj (of_decide_eq_true c4)
                rw [if_pos c4] at st
                exact ⟨_, rfl, _, _, rfl, rfl, _, rfl, _, _, rfl, rfl, rfl, e + 1, q + 1, by omega, rfl, by omega⟩
              · have c4 : t ≠ 0 := fun z => c4 (decide_eq_true (by rw [z]))
                rw [if_neg c4] at st
                exact ⟨_, rfl, _, _, rfl, rfl, rfl, e + 1, 0, by omega, rfl, by omega⟩
            · have c3 : 5 ≤ q := by
                have : ¬ ((q : Nat) : Int) < 5 := fun z => c3 (decide_eq_true z)
                omega
              exact ⟨rfl, _, by rw [← he, brk_stop ht (.inr c3)]; rfl⟩
          · exact ⟨rfl, _, by rw [← he, brk_stop ht (.inl (V.int.inj e2))]; rfl⟩
        · have c1 : ¬ ((e : Nat) : Int) < (ts.length : Nat) := fun z => c1 (decide_eq_true (by rw [List.length_map]; exact z))
          exact ⟨rfl, _, by rw [← he, brk_end (by omega)]; rfl⟩
      · rintro σ A ⟨rfl, v, rfl⟩
        exact ⟨_, rfl, k⟩
end
end K24

namespace K24
open PySem L2 Wm TL Dv
section
variable {P : Program} {w : World} {K : PySem.W.Frag} {mg : Str → Option Value} {base : Heap}
theorem slG {H : Hp} {p : Addr} {ts : List Int} {lo hi : Option Int} {Q : VK} (hp : SqT K H p (ts.map V.int))
    (k : ∀ H' q, Same H H' → SqT K H' q (((ts.drop (HT.sIx ts.length 0 lo)).take (HT.sIx ts.length ts.length hi - HT.sIx ts.length 0 lo)).map V.int) → Q (.ref q) H') : rSlA K (.ref p) lo hi H Q := by
  refine ⟨p, _, rfl, hp, fun ⟨h1, h2⟩ => ?_, fun _ q hq => ?_⟩
  · rw [List.length_map] at h1 h2
    refine k H p (Same.refl _) ?_
    rw [h1, h2, List.drop_zero, Nat.sub_zero, List.take_length]
    exact hp
  · refine k _ q (same_new hq) (SqT.of ?_)
    rw [upd_same]
    unfold cutV
    rw [List.length_map, List.map_take, List.map_drop]
theorem cut_eq {ts : List Int} {i e : Nat} : cut ts i e = (ts.drop i).take (e - i) := List.drop_take ..
theorem slC {H : Hp} {p : Addr} {ts : List Int} {i e : Nat} {Q : VK} (hp : SqT K H p (ts.map V.int)) (le : e ≤ ts.length) (li : i ≤ ts.length) (k : ∀ H' q, Same H H' → SqT K H' q ((cut ts i e).map V.int) → Q (.ref q) H') : rSlA K (.ref p) (some (i : Nat)) (some (e : Nat)) H Q := slG hp fun H' q s h => k H' q s (by
  rw [HT.sIx_nat, HT.sIx_nat, Nat.min_eq_left li, Nat.min_eq_left le] at h
  rw [cut_eq]
  exact h)
theorem sl5 {H : Hp} {p : Addr} {ts : List Int} {Q : VK} (hp : SqT K H p (ts.map V.int)) (k : ∀ H' q, Same H H' → SqT K H' q ((last5 ts).map V.int) → Q (.ref q) H') : rSlA K (.ref p) (some (-5)) none H Q := slG hp fun H' q s h => k H' q s (by
  have e5 : HT.sIx ts.length 0 (some (-5)) = ts.length - 5 := by
    show (if (-5 : Int) < 0 then (-5 + (ts.length : Int)).toNat else min (-5 : Int).toNat ts.length) = _
    rw [if_pos (by decide)]
    omega
  rw [e5, HT.sIx_none, List.take_of_length_le (by rw [List.length_drop]; omega)] at h
  exact h)
theorem inV_int (c : Int) (ts : List Int) : inV (.int c) (ts.map V.int) = decide (c ∈ ts) := by
  unfold inV
  rw [Bool.eq_iff_iff, decide_eq_true_iff]
  simp only [List.any_map, List.any_eq_true, Function.comp]
  constructor
  · rintro ⟨x, m, e⟩
    have e : (x == c) = true := e
    have : x = c := by simpa using e
    exact this ▸ m
  · intro m
    exact ⟨c, m, by show (c == c) = true; simp⟩
theorem flat_map (ts : List Int) : (ts.map V.int).all flatV = true := by
  rw [List.all_eq_true]
  intro v m
  obtain ⟨i, _, rfl⟩ := List.mem_map.mp m
  rfl
theorem cut_len {ts : List Int} {i e : Nat} (l : e ≤ ts.length) : (cut ts i e).length = e - i := by
  unfold cut
  rw [List.length_drop, List.length_take, Nat.min_eq_left l]
theorem PcAt.k {H H' : Hp} {v x y : V} (h : PcAt H v x y) (s : Same H H') : PcAt H' v x y := by
  obtain ⟨p, e, q⟩ := h
  exact ⟨p, e, s _ _ q⟩
theorem ok_piece_between (T : Txt K mg) : FnOk P w K mg base CX0 6 T.a_piece_between T.d_piece_between ["tape", "at", "end"] (sp_piece_between K) := by
  refine T.F_piece_between.ok sc_piece_between (fun vs H Q E h => ?_) (fun cdv A outer s H vs Q E hr h => ?_)
  · obtain ⟨p, ts, i, e, rfl, _⟩ := h
    rfl
  · obtain ⟨p, ts, i, e, rfl, hp, tp, l1, l2, k⟩ := h
    refine ⟨_, (pss_cons (ps_set (i := 3) sc_piece_between.nd rfl (Or.inl rfl) (pe_op op_sub (pv 2) (pv 1)))
      (pss_cons (ps_if (pt_cmpR op_eq (pe_ix ix_tup (pv 0) (pv 1) (fun _ _ => rfl)) (show PE _ _ (ClX.tCVal K (tC (V.ref T.SG)) "KEY") from ClX.pe_cval (pe_glob (v := V.ref T.SG) (by rfl) T.gSG rfl)) (nomark _))
        (pss_one (ps_ret (pe_tup (pa_cons pe_str (pa_cons (pv 3) pa_nil)))))
        pss_nil)
      (pss_cons (ps_if (pt_cmpR op_eq (pe_ix ix_tup (pv 0) (pv 1) (fun _ _ => rfl)) (show PE _ _ (ClX.tCVal K (tC (V.ref T.SG)) "CLOSED") from ClX.pe_cval (pe_glob (v := V.ref T.SG) (by rfl) T.gSG rfl)) (nomark _))
        (pss_one (ps_ret (pe_tup (pa_cons pe_str (pa_cons (pv 3) pa_nil)))))
        pss_nil)
      (pss_cons (ps_set (i := 4) sc_piece_between.nd rfl (Or.inl rfl) (pe_slice sl_tupA (pv 0) (po_some (pv 1)) (po_some (pv 2))))
      (pss_cons (ps_if (pt_cmpR op_in_seq (show PE _ _ (ClX.tCVal K (tC (V.ref T.SG)) "BROKEN") from ClX.pe_cval (pe_glob (v := V.ref T.SG) (by rfl) T.gSG rfl)) (pe_slice sl_tupA (pv 4) (po_some (pe_un un_neg (pe_glob (v := V.int 5) rfl T.c_CLOSED_END ⟨_, rfl⟩))) po_none) rfl)
        (pss_one (ps_ret (pe_ifExp (pt_cmpR op_eq (pv 2) (pe_callB call_len_seq (by rfl) T.z_len PySem.boot_len (pa_cons (pv 0) pa_nil)) (nomark _)) (pe_tup (pa_cons pe_str (pa_cons (pv 3) pa_nil))) (pe_tup (pa_cons pe_str (pa_cons (pv 3) pa_nil))))))
        pss_nil)
      (pss_cons (ps_set (i := 5) sc_piece_between.nd rfl (Or.inl rfl) (pe_call (ok_number_of T) (hr.mono (by decide)) (by rfl) T.g_number_of T.F_number_of.kp T.b_number_of .nil pass0 (pa_cons (pv 4) pa_nil)))
      (pss_one (ps_ret (pe_ifExp (pt_cmpR op_isN (pv 5) pe_non (nomark _)) (pe_tup (pa_cons pe_str (pa_cons (pv 3) pa_nil))) (pe_tup (pa_cons pe_str (pa_cons (pv 5) pa_nil)))))))))))), ?_⟩
    have hi : i < ts.length := by omega
    have hc := List.getElem?_eq_getElem hi
    have rg := tp.sg _ (List.getElem_mem hi)
    generalize ts[i] = c at hc rg
    have tup : ∀ {A : Hp} (w : Str), Same H A → PcOk ts i e (.str w) (.int ((e : Int) - i)) → ∀ r, A r = none → Q (.ref r) (upd A r (.tup [.str w, .int ((e : Nat) - (i : Nat))])) := fun w sA ok r hr => k _ _ _ _ (sA.trans (same_new hr)) ⟨r, rfl, upd_same⟩ ok
    refine ⟨_, rfl, _, rfl, _, _, rfl, rfl, ?_⟩
    refine ⟨_, rfl, _, rfl, p, _, _, _, rfl, rfl, hp, atI_nat (j := i) (mapi hc), T.SG, T.mc, _, _, rfl, T.rd, T.vK, rfl, _, rfl, ite2 (fun c1 => ?_) (fun c1 => ?_)⟩
    · have e1 : c = 2 := V.int.inj (of_decide_eq_true c1)
      subst e1
      exact ⟨_, rfl, by show 2 ≤ sizeLine; decide, tup "key" (Same.refl _) (.key hc)⟩
    refine ⟨_, rfl, _, rfl, p, _, _, _, rfl, rfl, hp, atI_nat (j := i) (mapi hc), T.SG, T.mc, _, _, rfl, T.rd, T.vC, rfl, _, rfl, ite2 (fun c2 => ?_) (fun c2 => ?_)⟩
    · have e1 : c = 0 := V.int.inj (of_decide_eq_true c2)
      subst e1
      exact ⟨_, rfl, by show 2 ≤ sizeLine; decide, tup "quiet" (Same.refl _) (.quiet hc)⟩
    have e1 : c = 1 := by
      have n1 : c ≠ 2 := fun z => c1 (decide_eq_true (by rw [z]))
      have n2 : c ≠ 0 := fun z => c2 (decide_eq_true (by rw [z]))
      omega
    subst e1
    refine ⟨_, rfl, _, rfl, _, rfl, _, rfl, _, rfl, slC hp l2 (by omega) fun A q sA hq => ?_⟩
    refine ⟨T.SG, T.mc, _, _, rfl, T.rd, T.vB, _, rfl, 5, rfl, -5, rfl, ?_⟩
    dsimp only [tNoPart]
    refine sl5 (K := K) hq fun B q2 sB hq2 => ⟨q2, _, rfl, .inr hq2, rfl, flat_map _, _, rfl, ?_⟩
    rw [inV_int]
    refine ite2 (fun c3 => ?_) (fun c3 => ?_)
    · have c3 := of_decide_eq_true c3
      have sAB := sA.trans sB
      refine ⟨_, rfl, _, rfl, _, _, rfl, .inr (sameT sAB hp), rfl, _, rfl, ite2 (fun c4 => ?_) (fun c4 => ?_)⟩
      · have c4 := V.int.inj (of_decide_eq_true c4)
        rw [List.length_map] at c4
        exact ⟨_, rfl, by show 2 ≤ sizeLine; decide, tup "begun" sAB (.begun hc c3 (by omega))⟩
      · have c4 : e ≠ ts.length := fun z => c4 (decide_eq_true (by rw [z, List.length_map]))
        exact ⟨_, rfl, by show 2 ≤ sizeLine; decide, tup "spoilt" sAB (.spoilt hc c3 c4)⟩
    · have c3 : (1 : Int) ∉ last5 (cut ts i e) := fun z => c3 (decide_eq_true z)
      have few := tp.few
      refine ⟨_, rfl, q, cut ts i e, rfl, sameT sB hq, by rw [cut_len l2]; omega, fun D v sD tv => ?_⟩
      have sD2 := (sA.trans sB).trans sD
      rcases tv with ⟨ds, N, ec, rfl⟩ | ⟨no, rfl⟩
      · refine ⟨_, rfl, rfl, _, rfl, ?_⟩
        rw [show decide (V.str (numS ds) = V.non) = false from decide_eq_false fun z => V.noConfusion z]
        refine iteF ⟨_, rfl, by show 2 ≤ sizeLine; decide, fun r hr => k _ _ _ _ (sD2.trans (same_new hr)) ⟨r, rfl, upd_same⟩ (.round hc c3 N (map_int_inj ec))⟩
      · exact ⟨_, rfl, rfl, _, rfl, iteT ⟨_, rfl, by show 2 ≤ sizeLine; decide, tup "odd" sD2 (.odd hc c3 fun ds N z => no ds N (by rw [z]))⟩⟩
theorem ok_piece_ticks (T : Txt K mg) : FnOk P w K mg base CX0 5 T.a_piece_ticks T.d_piece_ticks ["piece"] (sp_piece_ticks K) := by
  refine T.F_piece_ticks.ok sc_piece_ticks (fun vs H Q E h => ?_) (fun cdv A outer s H vs Q E hr h => ?_)
  · obtain ⟨v, x, y, ts, i, e, rfl, _⟩ := h
    rfl
  · obtain ⟨v, x, y, ts, i, e, rfl, ⟨p, rfl, hp⟩, ok, l1, l2, k⟩ := h
    refine ⟨_, (pss_cons (ps_asg (pv 0) (pg_tup rfl (pgs_cons (pg_name (i := 1) sc_piece_ticks.nd rfl (Or.inl rfl)) (pgs_cons (pg_name (i := 2) sc_piece_ticks.nd rfl (Or.inl rfl)) pgs_nil))))
      (pss_one (ps_ret (pe_ifExp (pt_cmpR op_eq (pv 1) pe_str (nomark _)) (pe_call (ok_length_of T) (hr.mono (by decide)) (by rfl) T.g_length_of T.F_length_of.kp T.b_length_of .nil pass0 (pa_cons (pv 2) pa_nil)) (pv 2))))), ?_⟩
    refine ⟨_, rfl, p, _, rfl, SqT.of hp, rfl, _, _, rfl, _, _, rfl, rfl, ?_⟩
    cases ok with
    | @round ds hc _ N ec =>
      refine ⟨_, rfl, rfl, _, rfl, iteT ⟨_, rfl, ds, N, rfl, fun A sA => ?_⟩⟩
      have z := cut_len (ts := ts) (i := i) l2
      rw [ec] at z
      rw [show (((rowL ds).length : Nat) : Int) = (e : Int) - i by omega]
      exact k _ sA
    | key => exact ⟨_, rfl, rfl, _, rfl, iteF ⟨_, rfl, k _ (Same.refl _)⟩⟩
    | quiet => exact ⟨_, rfl, rfl, _, rfl, iteF ⟨_, rfl, k _ (Same.refl _)⟩⟩
    | begun => exact ⟨_, rfl, rfl, _, rfl, iteF ⟨_, rfl, k _ (Same.refl _)⟩⟩
    | spoilt => exact ⟨_, rfl, rfl, _, rfl, iteF ⟨_, rfl, k _ (Same.refl _)⟩⟩
    | odd => exact ⟨_, rfl, rfl, _, rfl, iteF ⟨_, rfl, k _ (Same.refl _)⟩⟩
end
end K24

namespace K24
open PySem L2 Wm TL Dv
section
variable {P : Program} {w : World} {K : PySem.W.Frag} {mg : Str → Option Value} {base : Heap}
theorem ixN_ofNat {n j : Nat} (hj : j < n) : ixN n (j : Int) = some j := by
  unfold ixN
  rw [if_pos (by omega), if_pos (by omega)]; simp
theorem eqv_nil : ∀ ds : List PyData, PyData.eqv (.list ds) (.list []) = decide (ds = [])
  | [] => by simp [PyData.eqv, PyData.eqvAll]
  | d :: ds => by simp [PyData.eqv, PyData.eqvAll]
theorem shaped_il (ns : List Int) : SeqAt.shaped (.list (ns.map PyData.int)) = true := PySem.W.ke_shaped_ints ns
theorem dp_intsH {H : Hp} : ∀ ns : List Int, DpAll K H (ns.map V.int) (ns.map PyData.int)
  | [] => .nil
  | n :: ns => .cons (.int n) (dp_intsH ns)
theorem But2.refl {s a : Addr} {H : Hp} : But2 s a H H := ⟨fun _ _ _ _ h => h⟩
theorem But2.trans {s a : Addr} {H H1 H2 : Hp} (x : But2 s a H H1) (y : But2 s a H1 H2) : But2 s a H H2 := ⟨fun p o n1 n2 h => y.keep p o n1 n2 (x.keep p o n1 n2 h)⟩
theorem But2.of {s a : Addr} {H H' : Hp} (e : Same H H') : But2 s a H H' := ⟨fun p o _ _ h => e p o h⟩
theorem But2.set1 {s a : Addr} {H : Hp} {o : HO} : But2 s a H (upd H s o) := ⟨fun p u n _ h => by rw [upd_ne n]; exact h⟩
theorem But2.set2 {s a : Addr} {H : Hp} {o : HO} : But2 s a H (upd H a o) := ⟨fun p u _ n h => by rw [upd_ne n]; exact h⟩
theorem fmod_in {x l : Int} (h : 0 < l) : 0 ≤ x.fmod l ∧ x.fmod l < l := by
  rw [Int.fmod_eq_emod_of_nonneg x (Int.le_of_lt h)]
  exact ⟨Int.emod_nonneg x (by omega), Int.emod_lt_of_pos x h⟩
theorem mapV_atH {xs : List Int} {i : Nat} {v : V} (h : (xs.map V.int)[i]? = some v) : ∃ x, xs[i]? = some x ∧ v = .int x := by
  rw [List.getElem?_map] at h
  obtain ⟨x, hx, rfl⟩ := Option.map_eq_some_iff.mp h
  exact ⟨x, hx, rfl⟩
theorem ints_of {ys : List V} (h : ∀ (i : Nat) y, ys[i]? = some y → ∃ z : Int, y = .int z) : ∃ zs : List Int, ys = zs.map V.int := by
  induction ys with
  | nil => exact ⟨[], rfl⟩
  | cons y ys ih =>
    obtain ⟨zs, e⟩ := ih fun i z hz => h (i + 1) z (by simpa using hz)
    obtain ⟨z, e2⟩ := h 0 y rfl
    exact ⟨z :: zs, by rw [e, e2]; rfl⟩
theorem ok_source (T : Txt K mg) : FnOk P w K mg base CX0 1 T.a_source T.d_source ["_law_script"] (sp_source K) := by
  refine T.F_source.ok sc_source (fun vs H Q E h => ?_) (fun cdv A outer s H vs Q E hr h => ?_)
  · obtain ⟨a, ns, rfl, _⟩ := h
    rfl
  · obtain ⟨a, ns, rfl, hS, hlen, k⟩ := h
    refine ⟨_, (pss_cons (ps_setLc (i := 1) (own := [("_law_cell", 2)]) (g := gName 2) (tt := tYes) rfl sc_source.nd rfl rfl (sw_true rfl rfl rfl (by decide +kernel)) (pi_list (pe_slice sl_list (pv 0) po_none (po_some pe_int))) (blkOk_by (own := [("_law_cell", 2)]) (N := nm_source) (sc := (defScope s_source)) (by decide +kernel)) (fun _ _ _ _ _ => pg_name (i := 2) sc_source.nd rfl (Or.inl rfl)) (fun _ _ _ _ _ => pts_nil) (fun _ _ _ _ _ => (pe_op op_add (pe_op op_mul pe_int (pe_callB call_abs (by rfl) T.z_abs (by decide +kernel) (pa_cons (pe_callTy call_int1 (by rfl) T.z_int (by decide +kernel) (pa_cons (pv 2) pa_nil)) pa_nil))) (pe_callTy call_int1 (by rfl) T.z_int (by decide +kernel) (pa_cons (pe_cmpR op_lt (pe_callTy call_int1 (by rfl) T.z_int (by decide +kernel) (pa_cons (pv 2) pa_nil)) pe_int (nomark _)) pa_nil)))))
      (pss_one (ps_ret (pe_lst (pa_cons (pe_lc (own := [("_law_cell", 2)]) (g := gName 2) rfl sc_source.nd (pi_list (pv 1)) (blkOk_by (own := [("_law_cell", 2)]) (N := nm_source) (sc := (defScope s_source)) (by decide +kernel)) (fun _ _ _ _ _ => pg_name (i := 2) sc_source.nd rfl (Or.inl rfl)) (fun _ _ _ _ _ => (pts_one (pt_cmpR op_ge (pv 2) (pe_op op_pow pe_int pe_int) (nomark _)))) (fun _ _ _ _ _ => (pv 2))) (pa_cons (pe_lc (own := [("_law_cell", 2)]) (g := gName 2) rfl sc_source.nd (pi_list (pv 1)) (blkOk_by (own := [("_law_cell", 2)]) (N := nm_source) (sc := (defScope s_source)) (by decide +kernel)) (fun _ _ _ _ _ => pg_name (i := 2) sc_source.nd rfl (Or.inl rfl)) (fun _ _ _ _ _ => (pts_one (pt_cmpR op_lt (pv 2) (pe_op op_pow pe_int pe_int) (nomark _)))) (fun _ _ _ _ _ => (pv 2))) (pa_cons pe_int (pa_cons pe_int pa_nil)))))))), ?_⟩
    refine ⟨.ref a, rfl, 63, rfl, a, _, rfl, hS, fun p hp => ?_⟩
    have lc : (cutV (ns.map V.int) none (some 63)).length ≤ 63 := Nat.le_trans (cutV_length _ _ _) (by rw [List.length_map]; exact hlen)
    have ic : ∀ (i : Nat) v, (cutV (ns.map V.int) none (some 63))[i]? = some v → ∃ z : Int, v = .int z := fun i v hv => by
      have m := List.mem_of_mem_drop (List.mem_of_mem_take (List.mem_of_getElem? hv))
      obtain ⟨z, _, e⟩ := List.mem_map.mp m
      exact ⟨z, e.symm⟩
    generalize cutV (ns.map V.int) none (some 63) = cs at lc ic
    have hcs : upd H p (.lst cs) p = some (.lst cs) := upd_same
    refine ⟨p, rfl, ⟨_, SqL.of hcs⟩, fun D hD => ?_⟩
    refine Lm.lc_map (K := K) walk_list (fun _ y _ => ∃ z : Int, y = .int z) (fun _ _ _ _ h _ => h) hD (by omega) (fun H' s => SqL.of (s _ _ hcs)) (fun i x H' hi hx sm Q2 Z q => ?_) (fun H2 ys s2 hy ly hR => ?_)
    · obtain ⟨z, rfl⟩ := ic i x hx
      refine ⟨rfl, yesT ?_⟩
      exact ⟨_, rfl, .inl ⟨_, rfl, _, rfl, _, _, rfl, rfl, .inl ⟨by decide, by decide⟩, _, rfl, .inl ⟨_, rfl, _, _, rfl, rfl, .inr ⟨_, rfl, _, _, rfl, rfl, q _ _ (Same.refl _) ⟨_, rfl⟩⟩⟩⟩⟩
    obtain ⟨zs, rfl⟩ := ints_of hR
    rw [List.length_map] at ly
    have lz : zs.length ≤ 63 := by omega
    have s02 : Same H H2 := (same_new hp).trans s2
    refine ⟨_, rfl, D, rfl, ⟨_, SqL.of hy⟩, fun A1 hA1 => ?_⟩
    refine lc_list (xs := zs.map V.int) (fun i H' => Same H2 H' ∧ ∃ qs : List Int, qs.length ≤ i ∧ H' A1 = some (.lst (qs.map V.int))) ⟨same_new hA1, [], Nat.le_refl _, upd_same⟩ (fun i H3 _ hP => SqL.of (hP.1 _ _ hy)) (fun i x H3 hx hP => ?_) (fun H3 hP => ?_)
    · obtain ⟨sm, qs, eq, hq⟩ := hP
      obtain ⟨z, hz, rfl⟩ := mapV_atH hx
      have hi := (List.getElem?_eq_some_iff.mp hz).1
      refine ⟨rfl, ?_⟩
      refine ⟨_, rfl, _, _, rfl, rfl, ⟨by decide, by decide, by decide⟩, _, _, rfl, rfl, _, rfl, ite2 (fun c => ?_) (fun c => ?_)⟩
      · exact ⟨_, rfl, _, hq, by rw [List.length_map]; exact small1000 (by omega), same_mut sm hA1, qs ++ [z], by rw [List.length_append, List.length_singleton]; omega, by rw [upd_same, List.map_append]; rfl⟩
      · exact ⟨sm, qs, by omega, hq⟩
    obtain ⟨s3, q1, _, h1⟩ := hP
    refine ⟨_, rfl, D, rfl, ⟨_, SqL.of (s3 _ _ hy)⟩, fun A2 hA2 => ?_⟩
    refine lc_list (xs := zs.map V.int) (fun i H' => Same H3 H' ∧ ∃ qs : List Int, qs.length ≤ i ∧ H' A2 = some (.lst (qs.map V.int))) ⟨same_new hA2, [], Nat.le_refl _, upd_same⟩ (fun i H4 _ hP => SqL.of (hP.1 _ _ (s3 _ _ hy))) (fun i x H4 hx hP => ?_) (fun H4 hP => ?_)
    · obtain ⟨sm, qs, eq, hq⟩ := hP
      obtain ⟨z, hz, rfl⟩ := mapV_atH hx
      have hi := (List.getElem?_eq_some_iff.mp hz).1
      refine ⟨rfl, ?_⟩
      refine ⟨_, rfl, _, _, rfl, rfl, ⟨by decide, by decide, by decide⟩, _, _, rfl, rfl, _, rfl, ite2 (fun c => ?_) (fun c => ?_)⟩
      · exact ⟨_, rfl, _, hq, by rw [List.length_map]; exact small1000 (by omega), same_mut sm hA2, qs ++ [z], by rw [List.length_append, List.length_singleton]; omega, by rw [upd_same, List.map_append]; rfl⟩
      · exact ⟨sm, qs, by omega, hq⟩
    obtain ⟨s4, q2, _, h2⟩ := hP
    refine ⟨by show 4 ≤ sizeLine; decide, fun s hs => ?_⟩
    have h14 := s4 _ _ h1
    have s04 := (s02.trans s3).trans s4
    refine k _ s A1 A2 (s04.trans (same_new hs)) ⟨1, 0, q1, q2, upd_same, at_old h14 hs, at_old h2 hs, (fun e => ?_), (fun e => ?_), (fun e => ?_), by decide⟩ (s04.free hs) (s02.free hA1)
    · rw [e] at h1
      rw [hA2] at h1
      cases h1
    · rw [e] at h14
      rw [hs] at h14
      cases h14
    · rw [e] at h2
      rw [hs] at h2
      cases h2
theorem ok_draw (T : Txt K mg) : FnOk P w K mg base CX0 1 T.a_draw T.d_draw ["_law_source_here", "_law_many"] (sp_draw K) := by
  refine T.F_draw.ok sc_draw (fun vs H Q E h => ?_) (fun cdv A outer s H vs Q E hr h => ?_)
  · obtain ⟨s, a, b, lim, rfl, _⟩ := h
    rfl
  · obtain ⟨s, a, b, lim, rfl, l0, l1, ⟨x, m, ns, ms, hs, ha, hb, nab, nas, nbs, m0⟩, kk⟩ := h
    refine ⟨_, (C8.pss_cut (ps_while PassesOwn.never (PW.pt (pw_and (pt_cmpR (op_neD hr.units) (pe_ix ix_list (pv 0) pe_int (fun _ _ => rfl)) (pe_lst pa_nil) (nomark _)) (pw_and1 (pt_cmpR op_eq (pe_ix ix_list (pe_ix ix_list (pv 0) pe_int (fun _ _ => rfl)) pe_int (fun _ _ => rfl)) pe_int (nomark _)))))
        (pss_one (ps_expr (pe_bm PySem.F.plainAttrs_list PySem.F.slot_list_pop PySem.F.type_list_pop mt_popAt (pe_ix ix_list (pv 0) pe_int (fun _ _ => rfl)) (pa_cons pe_int pa_nil)))))
      (pss_cons (ps_if (pt_cmpR (op_neD hr.units) (pe_ix ix_list (pv 0) pe_int (fun _ _ => rfl)) (pe_lst pa_nil) (nomark _))
        (pss_cons (ps_set (i := 2) sc_draw.nd rfl (Or.inl rfl) (pe_ix ix_list (pe_ix ix_list (pv 0) pe_int (fun _ _ => rfl)) pe_int (fun _ _ => rfl)))
        (pss_cons (ps_asg (pe_op op_fdivN (pv 2) (pv 1)) (pg_sub (pe_ix ix_list (pv 0) pe_int (fun _ _ => rfl)) pe_int set_list))
        (pss_one (ps_ret (pe_op op_modN (pe_callTy call_int1 (by rfl) T.z_int (by decide +kernel) (pa_cons (pv 2) pa_nil)) (pv 1))))))
        pss_nil)
      (pss_cons (ps_augS (pv 0) pe_int Sl.get_list pe_int ip_add set_list)
      (pss_cons (ps_set (i := 2) sc_draw.nd rfl (Or.inl rfl) pe_int)
      (C8.pss_cut (ps_if (pt_cmpR (op_neD hr.units) (pe_ix ix_list (pv 0) pe_int (fun _ _ => rfl)) (pe_lst pa_nil) (nomark _))
        (pss_one (ps_set (i := 2) sc_draw.nd rfl (Or.inl rfl) (pe_ix ix_list (pe_ix ix_list (pv 0) pe_int (fun _ _ => rfl)) (pe_op op_modN (pe_callTy call_int1 (by rfl) T.z_int (by decide +kernel) (pa_cons (pe_ix ix_list (pv 0) pe_int (fun _ _ => rfl)) pa_nil)) (pe_callB call_len_seq (by rfl) T.z_len PySem.boot_len (pa_cons (pe_ix ix_list (pv 0) pe_int (fun _ _ => rfl)) pa_nil))) (fun _ _ => rfl))))
        pss_nil)
      (pss_cons (ps_asg (pe_op op_modN (pe_callTy call_int1 (by rfl) T.z_int (by decide +kernel) (pa_cons (pe_op op_add (pe_op op_add (pe_op op_mul (pe_ix ix_list (pv 0) pe_int (fun _ _ => rfl)) pe_int) (pe_op op_mul (pv 2) pe_int)) (pe_op op_mul (pe_ix ix_list (pv 0) pe_int (fun _ _ => rfl)) pe_int)) pa_nil)) pe_int) (pg_sub (pv 0) pe_int set_list))
      (pss_one (ps_ret (pe_op op_modN (pe_callTy call_int1 (by rfl) T.z_int (by decide +kernel) (pa_cons (pe_op op_fdivN (pe_ix ix_list (pv 0) pe_int (fun _ _ => rfl)) pe_int) pa_nil)) (pv 1)))))))))), ?_⟩
    refine ⟨fun σ H1 => ∃ ns : List Int, σ = [some (.ref s), some (.int lim), none] ∧ But2 s a H H1 ∧ H1 s = some (.lst [.ref a, .ref b, .int x, .int m]) ∧ H1 a = some (.lst (ns.map V.int)) ∧ H1 b = some (.lst (ms.map V.int)), ?_, ?_⟩
    · refine ⟨fun k σ H1 => ∃ ns : List Int, ns.length = k ∧ σ = [some (.ref s), some (.int lim), none] ∧ But2 s a H H1 ∧ H1 s = some (.lst [.ref a, .ref b, .int x, .int m]) ∧ H1 a = some (.lst (ns.map V.int)) ∧ H1 b = some (.lst (ms.map V.int)), ⟨_, ns, rfl, rfl, But2.refl, hs, ha, hb⟩, ?_⟩
      clear hs ha hb
      rintro k σ H1 ⟨ns, rfl, rfl, but, hs, ha, hb⟩
      refine ⟨_, rfl, s, _, 0, _, rfl, rfl, SqL.of hs, atI_nat (j := 0) rfl, Nat.zero_le _, fun E1 hE1 => ?_⟩
      refine ⟨_, _, .lst (SqL.of (at_old ha hE1)) (dp_intsH ns), .lst (SqL.of upd_same) .nil, shaped_il _, by decide +kernel, _, rfl, ?_⟩
      rw [eqv_nil]
      have but1 : But2 s a H (upd H1 E1 (.lst [])) := but.trans (But2.of (same_new hE1))
      have hs1 := at_old (u := .lst []) hs hE1
      have ha1 := at_old (u := .lst []) ha hE1
      have hb1 := at_old (u := .lst []) hb hE1
      generalize upd H1 E1 (.lst []) = H2 at *
      cases ns with
      | nil =>
        refine iteF ?_
        exact iteF ⟨[], rfl, but1, hs1, ha1, hb1⟩
      | cons z r =>
        refine iteT ?_
        refine ⟨_, rfl, s, _, 0, _, rfl, rfl, SqL.of hs1, atI_nat (j := 0) rfl, a, _, 0, _, rfl, rfl, SqL.of ha1, atI_nat (j := 0) rfl, rfl, _, rfl, ite2 (fun c => ?_) (fun c => ?_)⟩
        · refine ⟨fun σ H1 => ∃ ns : List Int, ns.length = r.length ∧ σ = [some (.ref s), some (.int lim), none] ∧ But2 s a H H1 ∧ H1 s = some (.lst [.ref a, .ref b, .int x, .int m]) ∧ H1 a = some (.lst (ns.map V.int)) ∧ H1 b = some (.lst (ms.map V.int)), fun σ' H' h => ⟨r.length, by simp, h⟩, ?_⟩
          refine ⟨_, rfl, s, _, 0, _, rfl, rfl, SqL.of hs1, atI_nat (j := 0) rfl, .inl ⟨rfl, _, SqL.of ha1⟩, a, _, 0, 0, _, rfl, rfl, ha1, by decide, by decide, (ixN_seq (ixN_ofNat (j := 0) (by simp))).1, rfl, ?_⟩
          exact ⟨r, rfl, rfl, but1.trans But2.set2, by rw [upd_ne (Ne.symm nas)]; exact hs1, upd_same, by rw [upd_ne (Ne.symm nab)]; exact hb1⟩
        · exact ⟨z :: r, rfl, but1, hs1, ha1, hb1⟩
    clear hs ha hb
    rintro σ H0 ⟨ns, rfl, but0, hs0, ha0, hb0⟩
    refine ⟨_, rfl, s, _, 0, _, rfl, rfl, SqL.of hs0, atI_nat (j := 0) rfl, Nat.zero_le _, fun E1 hE1 => ?_⟩
    refine ⟨_, _, .lst (SqL.of (at_old ha0 hE1)) (dp_intsH ns), .lst (SqL.of upd_same) .nil, shaped_il _, by decide +kernel, _, rfl, ?_⟩
    rw [eqv_nil]
    have but : But2 s a H (upd H0 E1 (.lst [])) := but0.trans (But2.of (same_new hE1))
    have hs := at_old (u := .lst []) hs0 hE1
    have ha := at_old (u := .lst []) ha0 hE1
    have hb := at_old (u := .lst []) hb0 hE1
    generalize upd H0 E1 (.lst []) = H1 at *
    cases ns with
    | cons z r =>
      refine iteT ?_
      refine ⟨_, rfl, s, _, 0, _, rfl, rfl, SqL.of hs, atI_nat (j := 0) rfl, a, _, 0, _, rfl, rfl, SqL.of ha, atI_nat (j := 0) rfl, ?_⟩
      refine ⟨_, rfl, _, rfl, _, _, rfl, rfl, ⟨by omega, by omega⟩, _, rfl, s, _, 0, _, rfl, rfl, SqL.of hs, atI_nat (j := 0) rfl, a, _, 0, 0, rfl, rfl, ha, ixN_ofNat (j := 0) (by simp), ?_⟩
      refine ⟨_, rfl, .inl ⟨_, rfl, _, rfl, _, _, rfl, rfl, by omega, ?_⟩⟩
      refine kk _ _ (fmod_in l0).1 (fmod_in l0).2 ⟨x, m, (z.fdiv lim) :: r, ms, ?_, upd_same, ?_, nab, nas, nbs, m0⟩ (but.trans But2.set2)
      · rw [upd_ne (Ne.symm nas)]
        exact hs
      · rw [upd_ne (Ne.symm nab)]
        exact hb
    | nil =>
      refine iteF ?_
      refine ⟨_, rfl, s, _, 3, _, rfl, rfl, SqL.of hs, atI_nat (j := 3) rfl, _, _, rfl, rfl, s, _, 3, 3, rfl, rfl, hs, rfl, ?_⟩
      have but2 : But2 s a H (upd H1 s (.lst [.ref a, .ref b, .int x, .int (m + 1)])) := but.trans But2.set1
      have hs2 : upd H1 s (.lst [.ref a, .ref b, .int x, .int (m + 1)]) s = some (.lst [.ref a, .ref b, .int x, .int (m + 1)]) := upd_same
      have ha2 : upd H1 s (.lst [.ref a, .ref b, .int x, .int (m + 1)]) a = some (.lst []) := by rw [upd_ne nas]; exact ha
      have hb2 : upd H1 s (.lst [.ref a, .ref b, .int x, .int (m + 1)]) b = some (.lst (ms.map V.int)) := by rw [upd_ne nbs]; exact hb
      show _
      refine ⟨fun σ H2 => ∃ c : Int, σ = [some (.ref s), some (.int lim), some (.int c)] ∧ But2 s a H H2 ∧ H2 s = some (.lst [.ref a, .ref b, .int x, .int (m + 1)]) ∧ H2 a = some (.lst []) ∧ H2 b = some (.lst (ms.map V.int)), ?_, ?_⟩
      · refine ⟨_, rfl, s, _, 1, _, rfl, rfl, SqL.of hs2, atI_nat (j := 1) rfl, Nat.zero_le _, fun E2 hE2 => ?_⟩
        refine ⟨_, _, .lst (SqL.of (at_old hb2 hE2)) (dp_intsH ms), .lst (SqL.of upd_same) .nil, shaped_il _, by decide +kernel, _, rfl, ?_⟩
        rw [eqv_nil]
        have but3 := but2.trans (But2.of (same_new (o := .lst []) hE2))
        have hs3 := at_old (u := .lst []) hs2 hE2
        have ha3 := at_old (u := .lst []) ha2 hE2
        have hb3 := at_old (u := .lst []) hb2 hE2
        cases ms with
        | nil =>
          refine iteF ?_
          exact ⟨5, rfl, but3, hs3, ha3, hb3⟩
        | cons z r =>
          refine iteT ?_
          have lp : (0 : Int) < ((((z :: r).map V.int).length : Nat) : Int) := by rw [List.length_map, List.length_cons]; omega
          have fi := fmod_in (x := m + 1) lp
          have hlt : ((m + 1).fmod ((((z :: r).map V.int).length : Nat) : Int)).toNat < (z :: r).length := by rw [List.length_map] at fi ⊢; omega
          have hg : ((z :: r).map V.int)[((m + 1).fmod ((((z :: r).map V.int).length : Nat) : Int)).toNat]? = some (.int (z :: r)[((m + 1).fmod ((((z :: r).map V.int).length : Nat) : Int)).toNat]) := by rw [List.getElem?_map, List.getElem?_eq_getElem hlt]; rfl
          refine ⟨_, rfl, s, _, 1, _, rfl, rfl, SqL.of hs3, atI_nat (j := 1) rfl, _, rfl, s, _, 3, _, rfl, rfl, SqL.of hs3, atI_nat (j := 3) rfl, .inl ⟨_, rfl, _, rfl, s, _, 1, _, rfl, rfl, SqL.of hs3, atI_nat (j := 1) rfl, b, _, rfl, .inl (SqL.of hb3), _, _, rfl, rfl, by omega, b, _, _, _, rfl, rfl, SqL.of hb3, at_of (by omega) hg, ?_⟩⟩
          exact ⟨_, rfl, but3, hs3, ha3, hb3⟩
      · rintro σ H2 ⟨c, rfl, but, hs, ha, hb⟩
        refine ⟨_, rfl, s, _, 2, _, rfl, rfl, SqL.of hs, atI_nat (j := 2) rfl, _, _, rfl, rfl, .inr ⟨by decide, by decide⟩, _, rfl, _, _, rfl, rfl, .inr ⟨by decide, by decide⟩, _, _, rfl, rfl, ?_⟩
        refine ⟨_, rfl, s, _, 3, _, rfl, rfl, SqL.of hs, atI_nat (j := 3) rfl, _, _, rfl, rfl, .inr ⟨by decide, by decide⟩, _, _, rfl, rfl, .inl ⟨_, rfl, _, _, rfl, rfl, by omega, _, rfl, s, _, 2, 2, rfl, rfl, hs, rfl, ?_⟩⟩
        refine ⟨_, rfl, s, _, 2, _, rfl, rfl, SqL.of upd_same, atI_nat (j := 2) rfl, _, _, rfl, rfl, ⟨by decide, by decide⟩, .inl ⟨_, rfl, _, rfl, _, _, rfl, rfl, by omega, ?_⟩⟩
        refine kk _ _ (fmod_in l0).1 (fmod_in l0).2 ⟨_, m + 1, [], ms, upd_same, ?_, ?_, nab, nas, nbs, by omega⟩ (but.trans But2.set1)
        · rw [upd_ne nas]
          exact ha
        · rw [upd_ne nbs]
          exact hb
end
end K24

namespace K24
open PySem L2 Wm TL Dv
section
variable {P : Program} {w : World} {K : PySem.W.Frag} {mg : Str → Option Value} {base : Heap}
theorem dig_log {d : Nat} (h : 1 ≤ d ∧ d ≤ 9) : ((d : Int)).natAbs.log2 < 1920 := by
  rcases dig_cases h with e | e | e | e | e | e | e | e | e <;> subst e <;> decide +kernel
theorem sum_snoc (ds : List Nat) (d : Nat) : (ds ++ [d]).sum = ds.sum + d := by
  rw [List.sum_append]
  simp
theorem len_snoc (ds : List Nat) (d : Nat) : (ds ++ [d]).length = ds.length + 1 := by simp
theorem dig_snoc {ds : List Nat} {d : Nat} (h : ∀ y ∈ ds, 1 ≤ y ∧ y ≤ 9) (g : 1 ≤ d ∧ d ≤ 9) : ∀ y ∈ ds ++ [d], 1 ≤ y ∧ y ≤ 9 := fun y m => by
  rcases List.mem_append.mp m with m | m
  · exact h y m
  · rw [List.mem_singleton.mp m]
    exact g
theorem Src.keep {H H' : Hp} {s a b : Addr} (h : Src H s a b) (e : Same H H') : Src H' s a b := by
  obtain ⟨x, y, ns, ms, h1, h2, h3, h4⟩ := h
  exact ⟨x, y, ns, ms, e _ _ h1, e _ _ h2, e _ _ h3, h4⟩
theorem ok_number (T : Txt K mg) : FnOk P w K mg base CX0 2 T.a_number T.d_number ["_law_source_here"] (sp_number K) := by
  refine T.F_number.ok sc_number (fun vs H Q E h => ?_) (fun cdv A outer s H vs Q E hr h => ?_)
  · obtain ⟨s0, a, b, rfl, _⟩ := h
    rfl
  · obtain ⟨s0, a, b, rfl, hbag, kk⟩ := h
    refine ⟨_, (pss_cons (ps_set (i := 1) sc_number.nd rfl (Or.inl rfl) (pe_op op_add pe_int (pe_call (ok_draw T) (hr.mono (by decide)) (by rfl) T.g_draw T.F_draw.kp T.b_draw .nil pass0 (pa_cons (pv 0) (pa_cons pe_int pa_nil)))))
      (C8.pss_cut (ps_set (i := 2) sc_number.nd rfl (Or.inl rfl) (pe_ifExp (pt_cmpR op_gt (pe_call (ok_draw T) (hr.mono (by decide)) (by rfl) T.g_draw T.F_draw.kp T.b_draw .nil pass0 (pa_cons (pv 0) (pa_cons pe_int pa_nil))) pe_int (nomark _)) pe_int pe_int))
      (pss_cons (ps_set (i := 3) sc_number.nd rfl (Or.inl rfl) pe_int)
      (pss_cons (ps_set (i := 4) sc_number.nd rfl (Or.inl rfl) pe_str)
      (pss_cons (ps_for PassesOwn.never rfl (pi_range1 (by rfl) T.z_range (pa_cons (pv 1) pa_nil)) (pg_name (i := 5) sc_number.nd rfl (Or.inl rfl))
        (pss_cons (ps_set (i := 6) sc_number.nd rfl (Or.inl rfl) (pe_op op_add pe_int (pe_call (ok_draw T) (hr.mono (by decide)) (by rfl) T.g_draw T.F_draw.kp T.b_draw .nil pass0 (pa_cons (pv 0) (pa_cons (pe_callB (call_min2 rfl) (by rfl) T.z_min (by decide +kernel) (pa_cons (pv 2) (pa_cons (pe_op op_sub (pv 3) (pe_op op_sub (pe_op op_sub (pv 1) pe_int) (pv 5))) pa_nil))) pa_nil)))))
        (pss_cons (ps_set (i := 4) sc_number.nd rfl (Or.inl rfl) (pe_op op_add_str (pv 4) (pe_callTy call_str_int (by rfl) T.z_str (by decide +kernel) (pa_cons (pv 6) pa_nil))))
        (pss_one (ps_set (i := 3) sc_number.nd rfl (Or.inl rfl) (pe_op op_sub (pv 3) (pv 6)))))))
      (pss_one (ps_ret (pv 4)))))))), ?_⟩
    refine ⟨_, rfl, s0, a, b, 4, rfl, by decide, by decide, hbag, fun H1 d1 g0 g1 bag1 but1 => ?_⟩
    refine ⟨_, _, rfl, rfl, ?_⟩
    obtain ⟨many, em⟩ : ∃ many : Nat, (1 : Int) + d1 = (many : Nat) := ⟨(1 + d1).toNat, by omega⟩
    try dsimp only
    rw [em]
    have m1 : 1 ≤ many := by omega
    have m4 : many ≤ 4 := by omega
    refine ⟨fun σ H2 => ∃ top : Int, σ = [some (.ref s0), some (.int (many : Nat)), some (.int top), none, none, none, none] ∧ 3 ≤ top ∧ top ≤ 9 ∧ Src H2 s0 a b ∧ But2 s0 a H H2, ?_, ?_⟩
    · refine ⟨_, rfl, s0, a, b, 5, rfl, by decide, by decide, bag1, fun H2 way w0 w1 bag2 but2 => ?_⟩
      refine ⟨_, _, rfl, rfl, _, rfl, ite2 (fun c => ?_) (fun c => ?_)⟩
      · exact ⟨3, rfl, by decide, by decide, bag2, but1.trans but2⟩
      · exact ⟨9, rfl, by decide, by decide, bag2, but1.trans but2⟩
    rintro σ H3 ⟨top, rfl, t3, t9, bag3, but3⟩
    clear bag1 but1 hbag
    refine ⟨_, rfl, _, rfl, by omega, by omega, ?_⟩
    rw [Int.toNat_natCast]
    refine for_range (fun i σ H' => ∃ (ds : List Nat) (vk vd : Option V), σ = [some (.ref s0), some (.int (many : Nat)), some (.int top), some (.int (24 - (ds.sum : Nat))), some (.str (numS ds)), vk, vd] ∧
      ds.length = i ∧ (∀ d ∈ ds, 1 ≤ d ∧ d ≤ 9) ∧ ds.sum + (many - i) ≤ 24 ∧ Src H' s0 a b ∧ But2 s0 a H H')
      ⟨[], none, none, by rw [numS_nil]; rfl, rfl, fun _ m => absurd m (List.not_mem_nil), by show 0 + (many - 0) ≤ 24; omega, bag3, but3⟩ (fun i σ H' hi hP => ?_) (fun σ H' hP => ?_)
    · obtain ⟨ds, vk, vd, rfl, el, hd, hs, bag, but⟩ := hP
      have eL : ((24 : Int) - (ds.sum : Nat)) - ((many : Nat) - 1 - (0 + (i : Nat))) = ((24 - ds.sum - (many - 1 - i) : Nat) : Int) := by omega
      refine ⟨_, rfl, _, rfl, _, rfl, _, rfl, _, _, rfl, rfl, _, rfl, _, _, rfl, rfl, _, _, rfl, rfl, _, _, rfl, ?_⟩
      (try dsimp only; rw [eL])
      generalize hlim : (if ((24 - ds.sum - (many - 1 - i) : Nat) : Int) < top then ((24 - ds.sum - (many - 1 - i) : Nat) : Int) else top) = lim
      have lim1 : 1 ≤ lim ∧ lim ≤ 9 ∧ lim ≤ ((24 - ds.sum - (many - 1 - i) : Nat) : Int) := by
        rw [← hlim]
        split <;> omega
      refine ⟨s0, a, b, lim, rfl, by omega, by omega, bag, fun H3 g q0 q1 bag4 but4 => ?_⟩
      refine ⟨_, _, rfl, rfl, ?_⟩
      have mid : ∃ d : Nat, (1 : Int) + g = (d : Nat) ∧ (1 ≤ d ∧ d ≤ 9) ∧ ds.sum + d + (many - 1 - i) ≤ 24 := ⟨(1 + g).toNat, by omega, by omega, by omega⟩
      obtain ⟨d, ed, hd9, hsum⟩ := mid
      (try dsimp only; rw [ed])
      refine ⟨_, rfl, _, rfl, _, rfl, dig_log hd9, _, _, rfl, rfl, ?_, ?_⟩
      · rw [dig_str hd9, numS_len, numS_len]
        exact Nat.le_of_lt (small1000 (by show ds.length + 1 ≤ 1000; omega))
      rw [dig_str hd9, numS_app]
      refine ⟨_, rfl, _, rfl, _, _, rfl, rfl, ?_⟩
      have e3 : (24 : Int) - (ds.sum : Nat) - (d : Nat) = 24 - ((ds ++ [d]).sum : Nat) := by rw [sum_snoc]; omega
      (try dsimp only; rw [e3])
      exact ⟨ds ++ [d], _, _, rfl, by rw [len_snoc, el], dig_snoc hd hd9, by rw [sum_snoc]; omega, bag4, but.trans but4⟩
    · obtain ⟨ds, vk, vd, rfl, el, hd, hs, bag, but⟩ := hP
      refine ⟨_, rfl, kk _ ds ⟨by omega, by omega, hd, by omega⟩ bag but⟩
end
end K24

namespace K24
open PySem L2 Wm TL Dv
section
variable {P : Program} {w : World} {K : PySem.W.Frag} {mg : Str → Option Value} {base : Heap}
theorem ok_row (T : Txt K mg) : FnOk P w K mg base CX0 1 T.a_row T.d_row ["_law_number_here"] (sp_row K) := by
  refine T.F_row.ok sc_row (fun vs H Q E h => ?_) (fun cdv A outer s H vs Q E hr h => ?_)
  · obtain ⟨ds, _, rfl, _⟩ := h
    rfl
  · obtain ⟨ds, N, rfl, k⟩ := h
    have hlen := N.len
    refine ⟨_, (pss_cons (ps_set (i := 1) sc_row.nd rfl (Or.inl rfl) (pe_lst pa_nil))
      (pss_cons (ps_for PassesOwn.never rfl (pi_str (pv 0)) (pg_name (i := 2) sc_row.nd rfl (Or.inl rfl))
        (pss_one (ps_set (i := 1) sc_row.nd rfl (Or.inl rfl) (pe_op op_cat (pe_op op_cat (pv 1) (pe_op op_rep (pe_lst (pa_cons pe_int (pa_cons pe_int pa_nil))) (pe_callTy call_int_str (by rfl) T.z_int (by decide +kernel) (pa_cons (pv 2) pa_nil)))) (pe_lst (pa_cons pe_int (pa_cons pe_int pa_nil)))))))
      (pss_one (ps_ret (pe_callTy call_tuple_of (by rfl) T.z_tuple (by decide +kernel) (pa_cons (pe_op op_cat (pv 1) (pe_lst (pa_cons pe_int (pa_cons pe_int pa_nil)))) pa_nil)))))), ?_⟩
    refine ⟨Nat.zero_le _, fun r0 hr0 => ?_⟩
    refine ⟨_, rfl, _, rfl, ?_⟩
    refine for_it walk_str (fun i σ H' => ∃ r v, σ = [some (.str (numS ds)), some (.ref r), v] ∧ H r = none ∧ Same H H' ∧ H' r = some (.lst ((Wm.pre (ds.take i)).map V.int))) ⟨r0, _, rfl, hr0, same_new hr0, upd_same⟩ (fun _ _ _ _ _ => trivial) (fun i x σ H1 H' hi hP hY => ?_) (fun σ H1 hP => ?_)
    · obtain ⟨r, v, rfl, hr, sm, h3⟩ := hP
      obtain ⟨rfl, c, hc, rfl⟩ := hY
      rw [numS_size] at hi
      rw [numS_at ds i hi] at hc
      have hc' := (Option.some.inj hc).symm
      subst hc'
      have hd := N.dig _ (List.getElem_mem hi)
      have hp9 := pre_le (ds.take i) fun d m => (N.dig d (List.mem_of_mem_take m)).2
      rw [List.length_take] at hp9
      have hb2 : (blk ds[i]).length = 2 * ds[i] := blk_len _
      refine ⟨.ref r, rfl, by decide, fun a ha => ?_⟩
      refine ⟨_, rfl, _, _, rfl, dig_int hd, (by show 1 ≤ 640; decide), a, _, _, rfl, rfl, upd_same, by omega, by omega, by rw [Int.toNat_natCast]; show 2 * ds[i] ≤ _; exact Nat.le_of_lt (small1000 (by omega)), fun b hb => ?_⟩
      rw [Int.toNat_natCast, blk_V]
      have h3b := at_old (u := .lst ((blk ds[i]).map V.int)) (at_old (u := .lst [.int 1, .int 0]) h3 ha) hb
      refine ⟨r, b, _, _, rfl, rfl, h3b, upd_same, by rw [List.length_map, List.length_map, hb2]; exact Nat.le_of_lt (small1000 (by omega)), fun q hq => ?_⟩
      refine ⟨by decide, fun z hz => ?_⟩
      refine ⟨q, z, _, _, rfl, rfl, at_old upd_same hz, upd_same, by rw [List.length_append, List.length_map, List.length_map, hb2]; exact Nat.le_of_lt (small1000 (by simp only [List.length_cons, List.length_nil]; omega)), fun e he => ?_⟩
      have sA : Same H (upd (upd (upd (upd H' a (.lst [.int 1, .int 0])) b (.lst ((blk ds[i]).map V.int))) q (.lst ((Wm.pre (ds.take i)).map V.int ++ (blk ds[i]).map V.int))) z (.lst [.int 0, .int 0])) := (((sm.trans (same_new ha)).trans (same_new hb)).trans (same_new hq)).trans (same_new hz)
      refine ⟨e, _, rfl, sA.free he, sA.trans (same_new he), ?_⟩
      rw [upd_same, take_succ_app (List.getElem?_eq_getElem hi), pre_app]
      simp only [List.map_append, List.append_assoc]
      rfl
    · obtain ⟨r, v, rfl, hr, sm, h3⟩ := hP
      rw [numS_size, List.take_length] at h3
      have hp9 := pre_le ds fun d m => (N.dig d m).2
      refine ⟨.ref r, rfl, by decide, fun a ha => ?_⟩
      refine ⟨r, a, _, _, rfl, rfl, at_old h3 ha, upd_same, by rw [List.length_map]; exact Nat.le_of_lt (small1000 (by simp only [List.length_cons, List.length_nil]; omega)), fun q hq => ?_⟩
      have sA := (sm.trans (same_new (o := .lst [.int 0, .int 0]) ha))
      refine ⟨q, _, rfl, .inl ⟨SqL.of upd_same, fun t ht => ?_⟩⟩
      refine k _ t ((sA.trans (same_new hq)).trans (same_new ht)) ((sA.trans (same_new hq)).free ht) ?_
      unfold rowV
      rw [upd_same, ← pre_row ds, List.map_append]
      rfl
end
end K24

namespace K24
open PySem L2 Wm TL Dv
section
variable {P : Program} {w : World} {K : PySem.W.Frag} {mg : Str → Option Value} {base : Heap}
theorem src_ne {H : Hp} {s a b L : Addr} (S : Src H s a b) (h : H L = none) : L ≠ s ∧ L ≠ a ∧ L ≠ b := by
  obtain ⟨_, _, _, _, h1, h2, h3, _⟩ := S
  exact ⟨(fun z => by rw [z, h1] at h; cases h), (fun z => by rw [z, h2] at h; cases h), (fun z => by rw [z, h3] at h; cases h)⟩
theorem src_tup {H : Hp} {s a b p : Addr} {o : HO} (S : Src H s a b) (h : H p = some o) (n : ¬ isL o) : p ≠ s ∧ p ≠ a := by
  obtain ⟨_, _, _, _, h1, h2, h3, _⟩ := S
  exact ⟨(fun z => by rw [z, h1] at h; cases h; exact n trivial), (fun z => by rw [z, h2] at h; cases h; exact n trivial)⟩
theorem But2.sq {H H' : Hp} {s a b p : Addr} {xs : List V} (B : But2 s a H H') (S : Src H s a b) (h : SqT K H p xs) : SqT K H' p xs := by
  rcases h with (h | ⟨o, h⟩) | h
  · obtain ⟨n1, n2⟩ := src_tup S h id
    exact .inl (.inl (B.keep _ _ n1 n2 h))
  · obtain ⟨n1, n2⟩ := src_tup S h id
    exact .inl (.inr ⟨o, B.keep _ _ n1 n2 h⟩)
  · exact .inr h
theorem catG {H : Hp} {p q : Addr} {ts us : List Int} {Q : VK} (hp : SqT K H p (ts.map V.int)) (hq : SqT K H q (us.map V.int)) (l : ts.length + us.length ≤ 20000)
    (k : ∀ H' r, Same H H' → SqT K H' r ((ts ++ us).map V.int) → Q (.ref r) H') : rCatA K (.ref p) (.ref q) H Q := by
  refine ⟨p, q, _, _, rfl, rfl, hp, hq, by rw [List.length_map, List.length_map]; exact Nat.le_trans l (by decide), fun h => ?_, fun _ h => ?_, fun _ _ r hr => ?_⟩
  · have h : ts = [] := List.map_eq_nil_iff.mp h
    subst h
    exact k H q (Same.refl _) hq
  · have h : us = [] := List.map_eq_nil_iff.mp h
    subst h
    exact k H p (Same.refl _) (by rw [List.append_nil]; exact hp)
  · exact k _ r (same_new hr) (SqT.of (by rw [upd_same, List.map_append]))
theorem rep1 {H : Hp} {l : Addr} {c k : Int} {n : Nat} {Q : VK} (hl : SqT K H l [.int c]) (e : k = (n : Nat)) (h1 : 1 ≤ n) (h2 : n ≤ 6000) (q : ∀ H' r, Same H H' → SqT K H' r ((List.replicate n c).map V.int) → Q (.ref r) H') : Tm.rRep1 K (.ref l) (.int k) H Q := by
  subst e
  refine ⟨l, _, _, rfl, rfl, hl, by omega, by omega, fun z => ?_, fun _ p hp => ?_⟩
  · have z : n = 1 := by omega
    subst z
    exact q H l (Same.refl _) hl
  · refine q _ p (same_new hp) (SqT.of ?_)
    rw [upd_same, Int.toNat_natCast, List.map_replicate]
/-- the signs of some tape -/
structure Sg (ts : List Int) : Prop where
  sg : ∀ t ∈ ts, 0 ≤ t ∧ t ≤ 2
  few : ts.length ≤ 100
theorem sg_row {ds : List Nat} (N : Num ds) : Sg (rowL ds) := ⟨fun t m => by rcases row_bits ds t m with z | z <;> rw [z] <;> decide, row_le ds N⟩
theorem Sg.part {ts : List Int} (h : Sg ts) (a b : Nat) : Sg ((ts.drop a).take b) := ⟨fun t m => h.sg t (List.mem_of_mem_drop (List.mem_of_mem_take m)), by rw [List.length_take, List.length_drop]; have := h.few; omega⟩
theorem row_pos (ds : List Nat) : 0 < (rowL ds).length := by rw [row_sum]; omega
theorem ok_signs (T : Txt K mg) : FnOk P w K mg base CX0 3 T.a_signs T.d_signs ["_law_source_here"] (sp_signs K) := by
  refine T.F_signs.ok sc_signs (fun vs H Q E h => ?_) (fun cdv A outer s H vs Q E hr h => ?_)
  · obtain ⟨s, a, b, rfl, _⟩ := h
    rfl
  · obtain ⟨s, a, b, rfl, S0, kk⟩ := h
    have k : ∀ H' p (ts : List Int), Sg ts → SqT K H' p (ts.map V.int) → Src H' s a b → But2 s a H H' → Q (.ref p) H' := fun H' p ts g => kk H' p ts g.sg g.few
    refine ⟨_, (pss_cons (ps_set (i := 1) sc_signs.nd rfl (Or.inl rfl) (pe_call (ok_draw T) (hr.mono (by decide)) (by rfl) T.g_draw T.F_draw.kp T.b_draw .nil pass0 (pa_cons (pv 0) (pa_cons pe_int pa_nil))))
      (pss_cons (ps_if (pt_cmpR op_lt (pv 1) pe_int (nomark _))
        (pss_one (ps_ret (pe_call (ok_row T) (hr.mono (by decide)) (by rfl) T.g_row T.F_row.kp T.b_row .nil pass0 (pa_cons (pe_call (ok_number T) (hr.mono (by decide)) (by rfl) T.g_number T.F_number.kp T.b_number .nil pass0 (pa_cons (pv 0) pa_nil)) pa_nil))))
        pss_nil)
      (pss_cons (ps_if (pt_cmpR op_eq (pv 1) pe_int (nomark _))
        (pss_one (ps_ret (pe_op (show OpR _ _ (Tm.rRep1 K) from Tm.op_rep1) (pe_tup (pa_cons pe_int pa_nil)) (pe_op op_add pe_int (pe_call (ok_draw T) (hr.mono (by decide)) (by rfl) T.g_draw T.F_draw.kp T.b_draw .nil pass0 (pa_cons (pv 0) (pa_cons pe_int pa_nil)))))))
        pss_nil)
      (pss_cons (ps_if (pt_cmpR op_eq (pv 1) pe_int (nomark _))
        (pss_one (ps_ret (pe_op (show OpR _ _ (Tm.rRep1 K) from Tm.op_rep1) (pe_tup (pa_cons pe_int pa_nil)) (pe_op op_add pe_int (pe_call (ok_draw T) (hr.mono (by decide)) (by rfl) T.g_draw T.F_draw.kp T.b_draw .nil pass0 (pa_cons (pv 0) (pa_cons pe_int pa_nil)))))))
        pss_nil)
      (pss_cons (ps_if (pt_cmpR op_eq (pv 1) pe_int (nomark _))
        (pss_cons (ps_set (i := 2) sc_signs.nd rfl (Or.inl rfl) (pe_call (ok_row T) (hr.mono (by decide)) (by rfl) T.g_row T.F_row.kp T.b_row .nil pass0 (pa_cons (pe_call (ok_number T) (hr.mono (by decide)) (by rfl) T.g_number T.F_number.kp T.b_number .nil pass0 (pa_cons (pv 0) pa_nil)) pa_nil)))
        (pss_one (ps_ret (pe_slice sl_tupA (pv 2) po_none (po_some (pe_call (ok_draw T) (hr.mono (by decide)) (by rfl) T.g_draw T.F_draw.kp T.b_draw .nil pass0 (pa_cons (pv 0) (pa_cons (pe_callB call_len_seq (by rfl) T.z_len PySem.boot_len (pa_cons (pv 2) pa_nil)) pa_nil))))))))
        pss_nil)
      (pss_cons (ps_if (pt_cmpR op_eq (pv 1) pe_int (nomark _))
        (pss_cons (ps_set (i := 2) sc_signs.nd rfl (Or.inl rfl) (pe_call (ok_row T) (hr.mono (by decide)) (by rfl) T.g_row T.F_row.kp T.b_row .nil pass0 (pa_cons (pe_call (ok_number T) (hr.mono (by decide)) (by rfl) T.g_number T.F_number.kp T.b_number .nil pass0 (pa_cons (pv 0) pa_nil)) pa_nil)))
        (pss_cons (ps_set (i := 3) sc_signs.nd rfl (Or.inl rfl) (pe_call (ok_draw T) (hr.mono (by decide)) (by rfl) T.g_draw T.F_draw.kp T.b_draw .nil pass0 (pa_cons (pv 0) (pa_cons (pe_callB call_len_seq (by rfl) T.z_len PySem.boot_len (pa_cons (pv 2) pa_nil)) pa_nil))))
        (pss_one (ps_ret (pe_op op_catA (pe_op op_catA (pe_slice sl_tupA (pv 2) po_none (po_some (pv 3))) (pe_tup (pa_cons (pe_op op_sub pe_int (pe_ix ix_tup (pv 2) (pv 3) (fun _ _ => rfl))) pa_nil))) (pe_slice sl_tupA (pv 2) (po_some (pe_op op_add (pv 3) pe_int)) po_none))))))
        pss_nil)
      (pss_cons (ps_set (i := 4) sc_signs.nd rfl (Or.inl rfl) (pe_op op_add pe_int (pe_call (ok_draw T) (hr.mono (by decide)) (by rfl) T.g_draw T.F_draw.kp T.b_draw .nil pass0 (pa_cons (pv 0) (pa_cons pe_int pa_nil)))))
      (C8.pss_cut (ps_set (i := 5) sc_signs.nd rfl (Or.inr rfl) (pe_ifExp (pt_cmpR op_eq (pv 1) pe_int (nomark _)) pe_int pe_int))
      (pss_one (ps_ret (pe_callTy call_tuple_of (by rfl) T.z_tuple (by decide +kernel) (pa_cons (pe_lc (own := [("_law_k", 6)]) (g := gName 6) (tt := tYes) rfl sc_signs.nd (pi_range1 (by rfl) T.z_range (pa_cons (pv 4) pa_nil)) (blkOk_by (own := [("_law_k", 6)]) (N := nm_signs) (sc := (defScope s_signs)) (by decide +kernel)) (fun _ _ _ _ _ => pg_name (i := 6) sc_signs.nd rfl (Or.inl rfl)) (fun _ _ _ _ _ => pts_nil) (fun _ _ _ _ _ => (pe_call (ok_draw T) (hr.mono (by decide)) (by rfl) T.g_draw T.F_draw.kp T.b_draw .nil pass0 (pa_cons (pv 0) (pa_cons (pv 5) pa_nil))))) pa_nil)))))))))))), ?_⟩
    refine ⟨_, rfl, s, a, b, 9, rfl, by decide, by decide, S0, fun H1 d d0 d9 S1 b1 => ?_⟩
    refine ⟨_, rfl, _, _, rfl, rfl, _, rfl, ite2 (fun c => ?_) (fun c => ?_)⟩
    · refine ⟨_, rfl, s, a, b, rfl, S1, fun H2 ds N S2 b2 => ⟨ds, N, rfl, fun H3 p s3 _ hp => ?_⟩⟩
      exact k H3 p (rowL ds) (sg_row N) (SqT.of hp) (S2.keep s3) ((b1.trans b2).trans (.of s3))
    have fill : ∀ (c : Int) (lim : Nat) {A : Hp} {l : Addr}, 0 ≤ c → c ≤ 2 → A l = some (.tup [.int c]) → Same H1 A → ∀ (B : Hp) (z : Int), 0 ≤ z → z < 30 → Src B s a b → But2 s a A B → Tm.rRep1 K (.ref l) (.int (1 + z)) B Q := fun c lim A l c0 c2 hl sA B z z0 z1 SB bB => by
      refine rep1 (n := (1 + z).toNat) (bB.sq (S1.keep sA) (SqT.of hl)) (by omega) (by omega) (by omega) fun H' r s' hr => ?_
      exact k H' r _ ⟨fun t m => by rw [(List.mem_replicate.mp m).2]; exact ⟨c0, c2⟩, by rw [List.length_replicate]; omega⟩ hr (SB.keep s') (((b1.trans (.of sA)).trans bB).trans (.of s'))
    refine ⟨_, rfl, rfl, _, rfl, ite2 (fun c => ?_) (fun c => ?_)⟩
    · refine ⟨by show 1 ≤ sizeLine; decide, fun l hl => ?_⟩
      have sl := same_new (o := .tup [.int 0]) hl
      refine ⟨_, rfl, s, a, b, 30, rfl, by decide, by decide, S1.keep sl, fun H2 z z0 z1 S2 b2 => ⟨_, _, rfl, rfl, ?_⟩⟩
      exact fill 0 0 (by decide) (by decide) upd_same sl H2 z z0 z1 S2 b2
    refine ⟨_, rfl, rfl, _, rfl, ite2 (fun c => ?_) (fun c => ?_)⟩
    · refine ⟨by show 1 ≤ sizeLine; decide, fun l hl => ?_⟩
      have sl := same_new (o := .tup [.int 2]) hl
      refine ⟨_, rfl, s, a, b, 4, rfl, by decide, by decide, S1.keep sl, fun H2 z z0 z1 S2 b2 => ⟨_, _, rfl, rfl, ?_⟩⟩
      exact fill 2 0 (by decide) (by decide) upd_same sl H2 z z0 (by omega) S2 b2
    refine ⟨_, rfl, rfl, _, rfl, ite2 (fun c => ?_) (fun c => ?_)⟩
    · refine ⟨_, rfl, s, a, b, rfl, S1, fun H2 ds N S2 b2 => ⟨ds, N, rfl, fun H3 p s3 _ hp => ?_⟩⟩
      have hp : SqT K H3 p ((rowL ds).map V.int) := SqT.of hp
      have S3 := S2.keep s3
      have rp := row_pos ds
      have rl := row_le ds N
      refine ⟨_, rfl, _, rfl, _, rfl, _, _, rfl, .inr hp, s, a, b, _, rfl, by rw [List.length_map]; omega, by rw [List.length_map]; omega, S3, fun H4 z z0 z1 S4 b4 => ?_⟩
      refine ⟨_, rfl, slG (b4.sq S3 hp) fun H5 q s5 hq => ?_⟩
      exact k H5 q _ ((sg_row N).part _ _) hq (S4.keep s5) ((((b1.trans b2).trans (.of s3)).trans b4).trans (.of s5))
    refine ⟨_, rfl, rfl, _, rfl, ite2 (fun c => ?_) (fun c => ?_)⟩
    · refine ⟨_, rfl, s, a, b, rfl, S1, fun H2 ds N S2 b2 => ⟨ds, N, rfl, fun H3 p s3 _ hp => ?_⟩⟩
      have hp : SqT K H3 p ((rowL ds).map V.int) := SqT.of hp
      have S3 := S2.keep s3
      have rp := row_pos ds
      have rl := row_le ds N
      refine ⟨_, rfl, _, rfl, _, _, rfl, .inr hp, s, a, b, _, rfl, by rw [List.length_map]; omega, by rw [List.length_map]; omega, S3, fun H4 z z0 z1 S4 b4 => ?_⟩
      rw [List.length_map] at z1
      obtain ⟨j, rfl⟩ : ∃ j : Nat, z = (j : Nat) := ⟨z.toNat, by omega⟩
      have jl : j < (rowL ds).length := by omega
      have hj := List.getElem?_eq_getElem jl
      have bj := (sg_row N).sg _ (List.getElem_mem jl)
      have bj2 := row_bits ds _ (List.getElem_mem jl)
      generalize (rowL ds)[j] = t at hj bj bj2
      have hp4 := b4.sq S3 hp
      refine ⟨_, rfl, _, rfl, _, rfl, slG hp4 fun H5 q s5 hq => ?_⟩
      refine ⟨_, rfl, _, rfl, p, _, _, _, rfl, rfl, sameT s5 hp4, atI_nat (j := j) (mapi hj), _, _, rfl, rfl, by show 1 ≤ sizeLine; decide, fun r hr => ?_⟩
      have s6 := same_new (o := .tup [.int (1 - t)]) hr
      have one : SqT K (upd H5 r (.tup [.int (1 - t)])) r ([1 - t].map V.int) := SqT.of upd_same
      have sub1 := (sg_row N).part (HT.sIx (rowL ds).length 0 none) (HT.sIx (rowL ds).length (rowL ds).length (some (j : Nat)) - HT.sIx (rowL ds).length 0 none)
      refine catG (sameT s6 hq) one (by have := sub1.few; simp only [List.length_cons, List.length_nil]; omega) fun H6 q2 s7 hq2 => ?_
      refine ⟨_, rfl, _, rfl, _, _, rfl, rfl, _, rfl, ?_⟩
      dsimp only [tNoPart]
      refine slG (sameT ((s5.trans s6).trans s7) hp4) fun H8 q3 s8 hq3 => ?_
      have s58 := ((s5.trans s6).trans s7).trans s8
      rw [HT.sIx_none] at hq2
      have e1 : HT.sIx (rowL ds).length (rowL ds).length (some ((j : Nat) : Int)) = j := by rw [HT.sIx_nat]; omega
      have e2 : HT.sIx (rowL ds).length 0 (some (((j : Nat) : Int) + 1)) = j + 1 := by
        rw [show ((j : Nat) : Int) + 1 = ((j + 1 : Nat) : Int) by omega, HT.sIx_nat]; omega
      rw [e1] at hq2
      rw [e2, HT.sIx_none] at hq3
      have l1 : ((rowL ds).drop 0 |>.take (j - 0)).length = j := by rw [List.length_take, List.length_drop]; omega
      refine catG (sameT s8 hq2) hq3 (by rw [List.length_append, l1, List.length_take, List.length_drop]; simp only [List.length_cons, List.length_nil]; omega) fun H9 q4 s9 hq4 => ?_
      refine k H9 q4 _ ⟨fun x m => ?_, ?_⟩ hq4 (S4.keep (s58.trans s9)) ((((b1.trans b2).trans (.of s3)).trans b4).trans (.of (s58.trans s9)))
      · rcases List.mem_append.mp m with m | m
        · rcases List.mem_append.mp m with m | m
          · exact ((sg_row N).part 0 (j - 0)).sg x m
          · rw [List.mem_singleton.mp m]
            rcases bj2 with z | z <;> rw [z] <;> decide
        · exact ((sg_row N).part _ _).sg x m
      · rw [List.length_append, List.length_append, l1, List.length_take, List.length_drop]
        simp only [List.length_cons, List.length_nil]
        omega
    refine ⟨_, rfl, s, a, b, 12, rfl, by decide, by decide, S1, fun H2 z z0 z1 S2 b2 => ⟨_, _, rfl, rfl, ?_⟩⟩
    obtain ⟨mn, emn⟩ : ∃ mn : Nat, (1 : Int) + z = (mn : Nat) := ⟨(1 + z).toNat, by omega⟩
    (try dsimp only)
    rw [emn]
    refine ⟨fun σ A => A = H2 ∧ ∃ tp : Int, 2 ≤ tp ∧ tp ≤ 3 ∧ σ = [some (.ref s), some (.int d), none, none, some (.int (mn : Nat)), some (.int tp), none], ?_, ?_⟩
    · exact ⟨_, rfl, rfl, _, rfl, ite2 (fun _ => ⟨rfl, 2, by decide, by decide, rfl⟩) (fun _ => ⟨rfl, 3, by decide, by decide, rfl⟩)⟩
    rintro σ A ⟨rfl, tp, t2, t3, rfl⟩
    refine ⟨_, rfl, _, rfl, by omega, by omega, fun D hD => ?_⟩
    rw [Int.toNat_natCast]
    have nD := src_ne S2 hD
    refine lc_range (fun i A' => ∃ ts : List Int, ts.length = i ∧ (∀ t ∈ ts, 0 ≤ t ∧ t ≤ 2) ∧ A' D = some (.lst (ts.map V.int)) ∧ Src A' s a b ∧ But2 s a A A') ⟨[], rfl, fun t m => (by cases m), upd_same, S2.keep (same_new hD), .of (same_new hD)⟩ (fun i A' hi hP => ?_) (fun A' hP => ?_)
    · obtain ⟨ts, lt, rg, hL, SA, bA⟩ := hP
      refine ⟨rfl, yesT ?_⟩
      refine ⟨_, rfl, _, rfl, s, a, b, tp, rfl, by omega, by omega, SA, fun A2 g g0 g1 S3 b3 => ?_⟩
      have hL2 := b3.keep _ _ nD.1 nD.2.1 hL
      refine ⟨_, hL2, by rw [List.length_map]; exact small6 (by omega), ts ++ [g], by rw [List.length_append, lt]; rfl, fun t m => ?_, ?_, ?_, ⟨fun q o n1 n2 e => ?_⟩⟩
      · rcases List.mem_append.mp m with m | m
        · exact rg t m
        · rw [List.mem_singleton.mp m]; omega
      · rw [upd_same, List.map_append]; rfl
      · obtain ⟨x, m, ns, ms, e1, e2, e3, e4⟩ := S3
        exact ⟨x, m, ns, ms, by rw [upd_ne (Ne.symm nD.1)]; exact e1, by rw [upd_ne (Ne.symm nD.2.1)]; exact e2, by rw [upd_ne (Ne.symm nD.2.2)]; exact e3, e4⟩
      · rw [upd_ne (fun z => by rw [z, hD] at e; cases e)]
        exact (bA.trans b3).keep q o n1 n2 e
    · obtain ⟨ts, lt, rg, hL, SA, bA⟩ := hP
      refine ⟨D, _, rfl, .inl ⟨SqL.of hL, fun r hr => ?_⟩⟩
      exact k _ r ts ⟨rg, by omega⟩ (SqT.of upd_same) (SA.keep (same_new hr)) (((b1.trans b2).trans bA).trans (.of (same_new hr)))
end
end K24

namespace K24
open PySem L2 Wm TL Dv
section
variable {P : Program} {w : World} {K : PySem.W.Frag} {mg : Str → Option Value} {base : Heap}
theorem eqvAll_ints : ∀ a b : List Int, PyData.eqvAll (a.map PyData.int) (b.map PyData.int) = decide (a = b)
  | [], [] => by simp [PyData.eqvAll]
  | [], y :: b => by simp [PyData.eqvAll]
  | x :: a, [] => by simp [PyData.eqvAll]
  | x :: a, y :: b => by
    rw [List.map_cons, List.map_cons, PyData.eqvAll, eqvAll_ints a b]
    by_cases h : x = y
    · subst h
      simp [PyData.eqv]
    · simp [PyData.eqv, h]
theorem eqvT (a b : List Int) : PyData.eqv (.tuple (a.map PyData.int)) (.tuple (b.map PyData.int)) = decide (a = b) := by
  rw [PyData.eqv, eqvAll_ints]
theorem lay_ints : ∀ l : List Int, PyData.canLayAll0 (l.map PyData.int) = true ∧ PyData.depthAll (l.map PyData.int) = 0
  | [] => ⟨rfl, rfl⟩
  | a :: l => by
    have ih := lay_ints l
    simp [PyData.canLayAll0, PyData.depthAll, PyData.canLay0, PyData.depth, ih.1, ih.2]
theorem shapeT (a : List Int) : SeqAt.shaped (.tuple (a.map PyData.int)) = true :=
  Fine.shaped (n := 1) ⟨by simp only [PyData.canLay0]; exact (lay_ints a).1, by simp only [PyData.depth]; rw [(lay_ints a).2]; decide⟩ (by decide)
theorem eqT {H : Hp} {p q : Addr} {a b : List Int} {Q : VK} (hp : SqT K H p (a.map V.int)) (hq : SqT K H q (b.map V.int)) (k : Q (.bl (decide (a = b))) H) : rEqD K (.ref p) (.ref q) H Q := by
  refine ⟨_, _, .tup hp (dp_ints a), .tup hq (dp_ints b), shapeT a, shapeT b, ?_⟩
  rw [eqvT]
  exact k
theorem neT {H : Hp} {p q : Addr} {a b : List Int} {Q : VK} (hp : SqT K H p (a.map V.int)) (hq : SqT K H q (b.map V.int)) (k : Q (.bl (!decide (a = b))) H) : rNeD K (.ref p) (.ref q) H Q := by
  refine ⟨_, _, .tup hp (dp_ints a), .tup hq (dp_ints b), shapeT a, shapeT b, ?_⟩
  rw [eqvT]
  exact k
def fiveP (l : List Int) (i : Nat) : Bool := decide ((l.drop i).take 5 = [0, 0, 0, 0, 0])
theorem fives_eq (l : List Int) : fives l = ((List.range l.length).filter (fiveP l)).map (· + 5) := rfl
theorem ok_fives (T : Txt K mg) : FnOk P w K mg base CX0 1 T.a_fives T.d_fives ["_law_signs_here"] (sp_fives K) := by
  refine T.F_fives.ok sc_fives (fun vs H Q E h => ?_) (fun cdv A outer s H vs Q E hr h => ?_)
  · obtain ⟨p, ts, rfl, _⟩ := h
    rfl
  · obtain ⟨p, ts, rfl, hp, few, k⟩ := h
    refine ⟨_, (pss_cons (ps_set (i := 1) sc_fives.nd rfl (Or.inl rfl) (pe_lst pa_nil))
      (pss_cons (ps_for PassesOwn.never rfl (pi_range1 (by rfl) T.z_range (pa_cons (pe_callB call_len_seq (by rfl) T.z_len PySem.boot_len (pa_cons (pv 0) pa_nil)) pa_nil)) (pg_name (i := 2) sc_fives.nd rfl (Or.inl rfl))
        (pss_one (ps_if (pt_cmpR (op_eqD hr.units) (pe_callTy call_tuple_of (by rfl) T.z_tuple (by decide +kernel) (pa_cons (pe_slice sl_tupA (pv 0) (po_some (pv 2)) (po_some (pe_op op_add (pv 2) pe_int))) pa_nil)) (pe_tup (pa_cons pe_int (pa_cons pe_int (pa_cons pe_int (pa_cons pe_int (pa_cons pe_int pa_nil)))))) (nomark _))
          (pss_one (ps_expr (pe_bm PySem.F.plainAttrs_list PySem.F.slot_list_append PySem.F.type_list_append mt_append (pv 1) (pa_cons (pe_op op_add (pv 2) pe_int) pa_nil))))
          pss_nil)))
      (pss_one (ps_ret (pv 1))))), ?_⟩
    refine ⟨by show 0 ≤ sizeLine; decide, fun D hD => ?_⟩
    have sD := same_new (o := .lst []) hD
    refine ⟨_, rfl, _, _, rfl, .inr (sameT sD hp), _, rfl, by rw [List.length_map]; omega, by rw [List.length_map]; omega, ?_⟩
    rw [List.length_map, Int.toNat_natCast]
    refine for_range (fun i σ A => Same H A ∧ (∃ v2, σ = [some (.ref p), some (.ref D), v2]) ∧ A D = some (.lst ((((List.range i).filter (fiveP ts)).map (· + 5)).map fun (n : Nat) => V.int (n : Nat)))) ⟨sD, ⟨none, rfl⟩, upd_same⟩ (fun i σ A hi hP => ?_) (fun σ A hP => ?_)
    · obtain ⟨sA, ⟨v2, rfl⟩, hL⟩ := hP
      have hpA := sameT sA hp
      rw [Int.zero_add]
      refine ⟨_, rfl, _, rfl, _, rfl, _, rfl, _, _, rfl, rfl, _, rfl, slG hpA fun B q sB hq => ?_⟩
      have e1 : HT.sIx ts.length 0 (some ((i : Nat) : Int)) = i := by rw [HT.sIx_nat]; omega
      have e2 : HT.sIx ts.length ts.length (some (((i : Nat) : Int) + 5)) = min (i + 5) ts.length := by
        rw [show ((i : Nat) : Int) + 5 = ((i + 5 : Nat) : Int) by omega, HT.sIx_nat]
      rw [e1, e2] at hq
      have e3 : (ts.drop i).take (min (i + 5) ts.length - i) = (ts.drop i).take 5 := by
        rw [List.take_eq_take_iff, List.length_drop]
        omega
      rw [e3] at hq
      refine ⟨q, _, rfl, .inr ⟨hq, ?_⟩⟩
      refine ⟨by show 5 ≤ sizeLine; decide, fun r hr => ?_⟩
      have sr := same_new (o := .tup [.int 0, .int 0, .int 0, .int 0, .int 0]) hr
      refine eqT (b := [0, 0, 0, 0, 0]) (sameT sr hq) (SqT.of upd_same) ⟨_, rfl, ?_⟩
      have sAr := (sA.trans sB).trans sr
      have hLr := (sB.trans sr) _ _ hL
      have fl : ((List.range i).filter (fiveP ts)).length ≤ i := by have := List.length_filter_le (fiveP ts) (List.range i); rw [List.length_range] at this; exact this
      refine ite2 (fun c => ?_) (fun c => ?_)
      · refine ⟨_, rfl, .inl ⟨rfl, _, SqL.of hLr⟩, _, rfl, _, _, rfl, rfl, D, _, _, rfl, rfl, hLr, small6 (by rw [List.length_map, List.length_map]; omega), ?_⟩
        refine ⟨fun x o e => ?_, ⟨_, rfl⟩, ?_⟩
        · rw [upd_ne (fun z => by rw [z, hD] at e; cases e)]; exact sAr _ _ e
        · rw [upd_same, List.range_succ, List.filter_append, List.filter_cons, if_pos (show fiveP ts i = true from c)]
          rw [List.map_append, List.map_append]
          rfl
      · refine ⟨sAr, ⟨_, rfl⟩, ?_⟩
        rw [hLr, List.range_succ, List.filter_append, List.filter_cons, if_neg (show ¬ fiveP ts i = true from c)]
        simp
    · obtain ⟨sA, ⟨v2, rfl⟩, hL⟩ := hP
      exact ⟨_, rfl, k A D sA hL⟩
end
end K24

namespace K24
open PySem L2 Wm TL Dv
section
variable {P : Program} {w : World} {K : PySem.W.Frag} {mg : Str → Option Value} {base : Heap}
theorem blk_zero : blk 0 = [] := rfl
theorem blk_cons (d : Nat) : blk (d + 1) = 1 :: 0 :: blk d := by
  unfold blk
  rw [List.replicate_succ, List.flatten_cons]
  rfl
theorem blk_snoc (d : Nat) : blk (d + 1) = blk d ++ [1, 0] := by
  induction d with
  | zero => rfl
  | succ d ih =>
    have e : blk (d + 1 + 1) = 1 :: 0 :: (blk d ++ [1, 0]) := by rw [blk_cons (d + 1), ih]
    rw [e, blk_cons]
    rfl
theorem blk_pre {X r : List Int} : ∀ {k d : Nat}, blk d ++ 0 :: X = blk k ++ r → k ≤ d ∧ r = blk (d - k) ++ 0 :: X
  | 0, d, h => ⟨Nat.zero_le _, by rw [blk_zero, List.nil_append] at h; rw [Nat.sub_zero]; exact h.symm⟩
  | k + 1, 0, h => by
    rw [blk_zero, blk_cons] at h
    simp at h
  | k + 1, d + 1, h => by
    rw [blk_cons, blk_cons] at h
    have h : blk d ++ 0 :: X = blk k ++ r := by simpa using h
    obtain ⟨a, b⟩ := blk_pre h
    exact ⟨by omega, by rw [b, show d + 1 - (k + 1) = d - k by omega]⟩
theorem pre_cons (d : Nat) (ds : List Nat) : Wm.pre (d :: ds) = blk d ++ 0 :: 0 :: Wm.pre ds := rfl
/-- a row read from the left -/
theorem parse : ∀ {ds es : List Nat} {k : Nat} {r : List Int}, (∀ d ∈ ds, 1 ≤ d) → Wm.pre es ++ [0, 0] = Wm.pre ds ++ (blk k ++ r) →
    (∃ d q, es = ds ++ d :: q ∧ k ≤ d ∧ r = blk (d - k) ++ 0 :: 0 :: (Wm.pre q ++ [0, 0])) ∨ (es = ds ∧ k = 0 ∧ r = [0, 0])
  | [], [], k, r, _, h => by
    refine .inr ⟨rfl, ?_⟩
    cases k with
    | zero => exact ⟨rfl, by simpa [Wm.pre, blk_zero] using h.symm⟩
    | succ k =>
      rw [blk_cons] at h
      simp [Wm.pre] at h
  | [], d :: es, k, r, _, h => by
    rw [pre_cons, List.append_assoc] at h
    obtain ⟨a, b⟩ := blk_pre (X := 0 :: (Wm.pre es ++ [0, 0])) (k := k) (r := r) (d := d) (by simpa [Wm.pre] using h)
    exact .inl ⟨d, es, rfl, a, b⟩
  | e :: ds, [], k, r, pos, h => by
    have e1 := pos e List.mem_cons_self
    obtain ⟨n, rfl⟩ : ∃ n, e = n + 1 := ⟨e - 1, by omega⟩
    rw [pre_cons, blk_cons] at h
    simp [Wm.pre] at h
  | e :: ds, d :: es, k, r, pos, h => by
    rw [pre_cons, pre_cons, List.append_assoc, List.append_assoc] at h
    obtain ⟨a, b⟩ := blk_pre (X := 0 :: (Wm.pre es ++ [0, 0])) (k := e) (r := 0 :: 0 :: (Wm.pre ds ++ (blk k ++ r))) (d := d) (by simpa using h)
    cases z : d - e with
    | succ n =>
      rw [z, blk_cons] at b
      simp at b
    | zero =>
      rw [z, blk_zero] at b
      have b : Wm.pre es ++ [0, 0] = Wm.pre ds ++ (blk k ++ r) := by simpa using b.symm
      have ed : d = e := by omega
      subst ed
      rcases parse (fun x m => pos x (List.mem_cons_of_mem _ m)) b with ⟨d', q, h1, h2, h3⟩ | ⟨h1, h2, h3⟩
      · exact .inl ⟨d', q, by rw [h1]; rfl, h2, h3⟩
      · exact .inr ⟨by rw [h1], h2, h3⟩
/-- the word so far -/
structure Rd (zs : List Int) (ds : List Nat) (k j : Nat) : Prop where
  dig : ∀ d ∈ ds, 1 ≤ d ∧ d ≤ 9
  eq : zs.take j = Wm.pre ds ++ blk k
  le : j ≤ zs.length
/-- the next two signs let the reading go on -/
def Go (zs : List Int) (k j : Nat) : Prop := j + 1 < zs.length ∧ ((zs[j]? = some 1 ∧ zs[j + 1]? = some 0) ∨ (zs[j]? = some 0 ∧ zs[j + 1]? = some 0 ∧ 0 < k ∧ k < 10))
theorem take2 {zs : List Int} {j : Nat} {a b : Int} (h1 : zs[j]? = some a) (h2 : zs[j + 1]? = some b) : zs.take (j + 2) = zs.take j ++ [a, b] := by
  rw [List.take_succ, h2, List.take_succ, h1]
  simp
theorem Rd.one {zs : List Int} {ds : List Nat} {k j : Nat} (h : Rd zs ds k j) (h1 : zs[j]? = some 1) (h2 : zs[j + 1]? = some 0) : Rd zs ds (k + 1) (j + 2) := by
  refine ⟨h.dig, ?_, (List.getElem?_eq_some_iff.mp h2).1⟩
  rw [take2 h1 h2, h.eq, blk_snoc, List.append_assoc]
theorem Rd.two {zs : List Int} {ds : List Nat} {k j : Nat} (h : Rd zs ds k j) (h1 : zs[j]? = some 0) (h2 : zs[j + 1]? = some 0) (k0 : 0 < k) (k9 : k < 10) : Rd zs (ds ++ [k]) 0 (j + 2) := by
  refine ⟨fun d m => ?_, ?_, (List.getElem?_eq_some_iff.mp h2).1⟩
  · rcases List.mem_append.mp m with m | m
    · exact h.dig d m
    · rw [List.mem_singleton.mp m]; omega
  · rw [take2 h1 h2, h.eq, pre_app, blk_zero, List.append_nil, List.append_assoc]
/-- where the reading stops, a row has been read whole -/
theorem Rd.stop {zs : List Int} {ds : List Nat} {k j : Nat} (h : Rd zs ds k j) (n : ¬ Go zs k j) {es : List Nat} (N : Num es) (e : zs = rowL es) : es = ds := by
  have eq : Wm.pre es ++ [0, 0] = Wm.pre ds ++ (blk k ++ zs.drop j) := by
    rw [pre_row, ← e, ← List.append_assoc, ← h.eq, List.take_append_drop]
  rcases parse (fun d m => (h.dig d m).1) eq with ⟨d, q, h1, h2, h3⟩ | ⟨h1, _, _⟩
  · exfalso
    apply n
    have dd := N.dig d (by rw [h1]; simp)
    have at0 : ∀ i, zs[j + i]? = (zs.drop j)[i]? := fun i => by rw [List.getElem?_drop]
    have l : j + 1 < zs.length := by
      have : (zs.drop j).length ≥ 2 := by rw [h3]; simp; omega
      rw [List.length_drop] at this
      omega
    refine ⟨l, ?_⟩
    cases z : d - k with
    | zero =>
      rw [z, blk_zero, List.nil_append] at h3
      refine .inr ⟨?_, ?_, by omega, by omega⟩
      · have := at0 0
        rw [h3] at this
        exact this
      · have := at0 1
        rw [h3] at this
        exact this
    | succ m =>
      rw [z, blk_cons] at h3
      refine .inl ⟨?_, ?_⟩
      · have := at0 0
        rw [h3] at this
        exact this
      · have := at0 1
        rw [h3] at this
        exact this
  · exact h1
end
end K24

namespace K24
open PySem L2 Wm TL Dv
section
variable {P : Program} {w : World} {K : PySem.W.Frag} {mg : Str → Option Value} {base : Heap}
theorem pre_ge : ∀ ds : List Nat, ds.length ≤ (Wm.pre ds).length
  | [] => Nat.le_refl _
  | d :: ds => by
    have := pre_ge ds
    rw [pre_cons]
    simp only [List.length_cons, List.length_append]
    omega
theorem Rd.few {zs : List Int} {ds : List Nat} {k j : Nat} (h : Rd zs ds k j) : ds.length ≤ zs.length := by
  have a := pre_ge ds
  have b : (zs.take j).length = (Wm.pre ds ++ blk k).length := by rw [h.eq]
  rw [List.length_take, List.length_append] at b
  omega
theorem ok_word (T : Txt K mg) : FnOk P w K mg base CX0 2 T.a_word T.d_word ["_law_signs_here"] (sp_word K) := by
  refine T.F_word.ok sc_word (fun vs H Q E h => ?_) (fun cdv A outer s H vs Q E hr h => ?_)
  · obtain ⟨p, zs, rfl, _⟩ := h
    rfl
  · obtain ⟨p, zs, rfl, hp, few, kk⟩ := h
    refine ⟨_, (pss_cons (ps_set (i := 1) sc_word.nd rfl (Or.inl rfl) pe_str)
      (pss_cons (ps_set (i := 2) sc_word.nd rfl (Or.inl rfl) pe_int)
      (pss_cons (ps_set (i := 3) sc_word.nd rfl (Or.inl rfl) pe_int)
      (C8.pss_cut (ps_while PassesOwn.never (pt_cmpR op_lt (pe_op op_add (pv 3) pe_int) (pe_callB call_len_seq (by rfl) T.z_len PySem.boot_len (pa_cons (pv 0) pa_nil)) (nomark _))
        (C8.pss_cut (ps_if (PW.pt (pw_and (pt_cmpR op_eq (pe_ix ix_tup (pv 0) (pv 3) (fun _ _ => rfl)) pe_int (nomark _)) (pw_and1 (pt_cmpR op_eq (pe_ix ix_tup (pv 0) (pe_op op_add (pv 3) pe_int) (fun _ _ => rfl)) pe_int (nomark _)))))
          (pss_one (ps_set (i := 2) sc_word.nd rfl (Or.inl rfl) (pe_op op_add (pv 2) pe_int)))
          (pss_one (ps_if (PW.pt (pw_and (pt_cmpR op_eq (pe_ix ix_tup (pv 0) (pv 3) (fun _ _ => rfl)) pe_int (nomark _)) (pw_and (pt_cmpR op_eq (pe_ix ix_tup (pv 0) (pe_op op_add (pv 3) pe_int) (fun _ _ => rfl)) pe_int (nomark _)) (pw_and1 (pt_chain op_lt op_lt pe_int (pv 2) pe_int)))))
            (pss_cons (ps_set (i := 1) sc_word.nd rfl (Or.inl rfl) (pe_op op_add_str (pv 1) (pe_callTy call_str_int (by rfl) T.z_str (by decide +kernel) (pa_cons (pv 2) pa_nil))))
            (pss_one (ps_set (i := 2) sc_word.nd rfl (Or.inl rfl) pe_int)))
            (pss_one ps_break))))
        (pss_one (ps_set (i := 3) sc_word.nd rfl (Or.inl rfl) (pe_op op_add (pv 3) pe_int)))))
      (pss_cons (ps_if (PW.pt (pw_or (pt_cmpR op_eq (pv 1) pe_str (nomark _)) (pw_or (pt_cmpR op_gt (pe_callB call_len_str (by rfl) T.z_len PySem.boot_len (pa_cons (pv 1) pa_nil)) pe_int (nomark _)) (pw_or (pt_cmpR op_gt (pe_callB (cr_sum rfl) (by rfl) T.z_sum (by decide +kernel) (pa_cons (pe_lc (own := [("_law_digit", 4)]) (g := gName 4) (tt := tYes) rfl sc_word.nd (pi_str (pv 1)) (blkOk_by (own := [("_law_digit", 4)]) (N := nm_word) (sc := (defScope s_word)) (by decide +kernel)) (fun _ _ _ _ _ => pg_name (i := 4) sc_word.nd rfl (Or.inl rfl)) (fun _ _ _ _ _ => pts_nil) (fun _ _ _ _ _ => (pe_callTy call_int_str (by rfl) T.z_int (by decide +kernel) (pa_cons (pv 4) pa_nil)))) pa_nil)) pe_int (nomark _)) (pw_or1 (pt_cmpR (op_neD hr.units) (pe_call (ok_row T) (hr.mono (by decide)) (by rfl) T.g_row T.F_row.kp T.b_row .nil pass0 (pa_cons (pv 1) pa_nil)) (pe_callTy call_tuple_of (by rfl) T.z_tuple (by decide +kernel) (pa_cons (pv 0) pa_nil)) (nomark _)))))))
        (pss_one (ps_ret pe_non))
        pss_nil)
      (pss_one (ps_ret (pv 1)))))))), ?_⟩
    refine ⟨fun σ A => A = H ∧ ∃ (ds : List Nat) (k j : Nat), σ = [some (.ref p), some (.str (numS ds)), some (.int (k : Nat)), some (.int (j : Nat)), none] ∧ Rd zs ds k j ∧ ¬ Go zs k j, ?_, ?_⟩
    · refine ⟨fun m σ A => A = H ∧ ∃ (ds : List Nat) (k j : Nat), m + j = zs.length ∧ σ = [some (.ref p), some (.str (numS ds)), some (.int (k : Nat)), some (.int (j : Nat)), none] ∧ Rd zs ds k j, ⟨zs.length, rfl, [], 0, 0, rfl, by rw [numS_nil]; rfl, fun d m => (by cases m), rfl, Nat.zero_le _⟩, ?_⟩
      rintro m σ A ⟨rfl, ds, k, j, hm, rfl, R⟩
      have lds := R.few
      refine ⟨_, rfl, _, _, rfl, rfl, _, rfl, _, _, rfl, .inr hp, _, _, rfl, rfl, _, rfl, ite2 (fun c1 => ?_) (fun c1 => ?_)⟩
      · have c1 := of_decide_eq_true c1
        rw [List.length_map] at c1
        have l1 : j + 1 < zs.length := by omega
        have ha := List.getElem?_eq_getElem (show j < zs.length by omega)
        have hb := List.getElem?_eq_getElem l1
        generalize zs[j] = a at ha
        generalize zs[j + 1] = b at hb
        have ia := atI_nat (j := j) (mapi ha)
        have ib : atI (zs.map V.int) (((j : Nat) : Int) + 1) = some (.int b) := by
          rw [show ((j : Nat) : Int) + 1 = ((j + 1 : Nat) : Int) by omega]
          exact atI_nat (j := j + 1) (mapi hb)
        refine ⟨fun σ A' => A' = A ∧ ∃ (ds : List Nat) (k j' : Nat), m - 2 + j' = zs.length ∧ σ = [some (.ref p), some (.str (numS ds)), some (.int (k : Nat)), some (.int (j' : Nat)), none] ∧ Rd zs ds k j', fun σ' H' h => ⟨m - 2, by omega, h⟩, ?_⟩
        refine ⟨fun σ A' => A' = A ∧ ∃ (ds : List Nat) (k : Nat), σ = [some (.ref p), some (.str (numS ds)), some (.int (k : Nat)), some (.int (j : Nat)), none] ∧ Rd zs ds k (j + 2), ?_, ?_⟩
        · by_cases h10 : a = 1 ∧ b = 0
          · obtain ⟨rfl, rfl⟩ := h10
            exact ⟨_, rfl, _, rfl, p, _, _, _, rfl, rfl, hp, ia, rfl, _, rfl, ifT (decide_eq_true rfl) ⟨_, rfl, _, rfl, _, _, rfl, rfl, p, _, _, _, rfl, rfl, hp, ib, rfl, _, rfl, ifT (decide_eq_true rfl) ⟨_, rfl, _, _, rfl, rfl, rfl, ds, k + 1, rfl, R.one ha hb⟩⟩⟩
          · have stop : ¬ (a = 0 ∧ b = 0 ∧ 0 < k ∧ k < 10) → ¬ Go zs k j := fun h ⟨_, g⟩ => by
              rw [ha, hb] at g
              rcases g with ⟨g1, g2⟩ | ⟨g1, g2, g3⟩
              · exact h10 ⟨Option.some.inj g1, Option.some.inj g2⟩
              · exact h ⟨Option.some.inj g1, Option.some.inj g2, g3⟩
            have nei : ∀ {x y : Int}, x ≠ y → decide (V.int x = V.int y) = false := fun n => decide_eq_false fun z => n (V.int.inj z)
            rcases Classical.em (a = 1) with a1 | a1
            all_goals first
              | refine ⟨_, rfl, _, rfl, p, _, _, _, rfl, rfl, hp, ia, rfl, _, rfl, ifT (decide_eq_true (by rw [a1])) ⟨_, rfl, _, rfl, _, _, rfl, rfl, p, _, _, _, rfl, rfl, hp, ib, rfl, _, rfl, ifF (nei fun z => h10 ⟨a1, z⟩) ?_⟩⟩
              | refine ⟨_, rfl, _, rfl, p, _, _, _, rfl, rfl, hp, ia, rfl, _, rfl, ifF (nei a1) ?_⟩
            all_goals
              by_cases a0 : a = 0
              · by_cases b0 : b = 0
                · by_cases k0 : 0 < k
                  · by_cases k9 : k < 10
                    · subst a0 b0
                      refine ⟨_, rfl, _, rfl, p, _, _, _, rfl, rfl, hp, ia, rfl, _, rfl, ifT (decide_eq_true rfl) ⟨_, rfl, _, rfl, _, _, rfl, rfl, p, _, _, _, rfl, rfl, hp, ib, rfl, _, rfl, ifT (decide_eq_true rfl) ⟨_, rfl, _, _, rfl, rfl, _, rfl, ifT (decide_eq_true (by omega)) ⟨_, _, rfl, rfl, _, rfl, ifT (decide_eq_true (by omega)) ?_⟩⟩⟩⟩
                      have hd9 : 1 ≤ k ∧ k ≤ 9 := by omega
                      refine ⟨_, rfl, _, rfl, _, rfl, dig_log hd9, _, _, rfl, rfl, ?_, ?_⟩
                      · rw [dig_str hd9, numS_len, numS_len]
                        exact Nat.le_of_lt (small6 (by show ds.length + 1 ≤ 6000; omega))
                      rw [dig_str hd9, numS_app]
                      exact ⟨rfl, ds ++ [k], 0, rfl, R.two ha hb k0 k9⟩
                    · subst a0 b0
                      exact ⟨_, rfl, _, rfl, p, _, _, _, rfl, rfl, hp, ia, rfl, _, rfl, ifT (decide_eq_true rfl) ⟨_, rfl, _, rfl, _, _, rfl, rfl, p, _, _, _, rfl, rfl, hp, ib, rfl, _, rfl, ifT (decide_eq_true rfl) ⟨_, rfl, _, _, rfl, rfl, _, rfl, ifT (decide_eq_true (by omega)) ⟨_, _, rfl, rfl, _, rfl, ifF (decide_eq_false (by omega)) ⟨rfl, ds, k, j, rfl, R, stop fun z => k9 z.2.2.2⟩⟩⟩⟩⟩
                  · subst a0 b0
                    exact ⟨_, rfl, _, rfl, p, _, _, _, rfl, rfl, hp, ia, rfl, _, rfl, ifT (decide_eq_true rfl) ⟨_, rfl, _, rfl, _, _, rfl, rfl, p, _, _, _, rfl, rfl, hp, ib, rfl, _, rfl, ifT (decide_eq_true rfl) ⟨_, rfl, _, _, rfl, rfl, _, rfl, ifF (decide_eq_false (by omega)) ⟨_, rfl, iteF ⟨rfl, ds, k, j, rfl, R, stop fun z => k0 z.2.2.1⟩⟩⟩⟩⟩
                · exact ⟨_, rfl, _, rfl, p, _, _, _, rfl, rfl, hp, ia, rfl, _, rfl, ifT (decide_eq_true (by rw [a0])) ⟨_, rfl, _, rfl, _, _, rfl, rfl, p, _, _, _, rfl, rfl, hp, ib, rfl, _, rfl, ifF (nei b0) ⟨rfl, ds, k, j, rfl, R, stop fun z => b0 z.2.1⟩⟩⟩
              · exact ⟨_, rfl, _, rfl, p, _, _, _, rfl, rfl, hp, ia, rfl, _, rfl, ifF (nei a0) ⟨rfl, ds, k, j, rfl, R, stop fun z => a0 z.1⟩⟩
        · rintro σ A' ⟨rfl, ds', k', rfl, R'⟩
          have l2 := R'.le
          exact ⟨_, rfl, _, _, rfl, rfl, rfl, ds', k', j + 2, by omega, rfl, R'⟩
      · have c1 : ¬ ((j : Nat) : Int) + 1 < (zs.length : Nat) := fun z => c1 (decide_eq_true (by rw [List.length_map]; exact z))
        exact ⟨rfl, ds, k, j, rfl, R, fun g => by have := g.1; omega⟩
    · rintro σ A ⟨rfl, ds, k, j, rfl, R, n⟩
      have lds := R.few
      have only : ∀ {es : List Nat}, Num es → zs = rowL es → es = ds := fun N e => R.stop n N e
      have no : (∀ es, Num es → zs = rowL es → False) → ∀ A', Same A A' → Q .non A' := fun h A' s => kk A' _ s (.inr ⟨fun es N z => h es N (map_int_inj z), rfl⟩)
      refine ⟨_, rfl, rfl, _, rfl, ite2 (fun c1 => ?_) (fun c1 => ?_)⟩
      · have c1 : numS ds = "" := V.str.inj (of_decide_eq_true c1)
        refine no (fun es N e => ?_) _ (Same.refl _)
        have l := numS_len ds
        rw [c1, ← only N e] at l
        have := N.pos
        have z : ("" : Str).length = 0 := by decide +kernel
        omega
      have c1 : ds ≠ [] := fun z => c1 (decide_eq_true (by rw [z, numS_nil]))
      have p1 : 1 ≤ ds.length := by
        cases ds with
        | nil => exact absurd rfl c1
        | cons a b => simp
      refine ⟨_, rfl, _, rfl, small_len (by rw [numS_len]; omega), _, _, rfl, rfl, _, rfl, ite2 (fun c2 => ?_) (fun c2 => ?_)⟩
      · have c2 := of_decide_eq_true c2
        rw [numS_len] at c2
        refine no (fun es N e => ?_) _ (Same.refl _)
        have := N.len
        rw [only N e] at this
        omega
      have c2 : ds.length ≤ 4 := by
        have : ¬ ((4 : Int) < ((numS ds).length : Nat)) := fun z => c2 (decide_eq_true z)
        rw [numS_len] at this
        omega
      refine ⟨_, rfl, _, rfl, fun D hD => ?_⟩
      refine lc_it walk_str (fun i A' => Same A A' ∧ A' D = some (.lst ((ds.take i).map fun (d : Nat) => V.int (d : Int)))) ⟨same_new hD, upd_same⟩ (fun _ _ _ _ => trivial) (fun i x A1 A' hi hP hY => ?_) (fun A1 hP => ?_)
      · obtain ⟨sm, hl⟩ := hP
        obtain ⟨rfl, c, hc, rfl⟩ := hY
        rw [numS_size] at hi
        rw [numS_at ds i hi] at hc
        have hc' := (Option.some.inj hc).symm
        subst hc'
        refine ⟨rfl, yesT ?_⟩
        refine ⟨_, rfl, _, _, rfl, dig_int (R.dig _ (List.getElem_mem hi)), (by show 1 ≤ 640; decide), _, hl, by rw [List.length_map, List.length_take]; exact small6 (by omega), ?_⟩
        refine ⟨same_mut sm hD, ?_⟩
        rw [upd_same, take_succ_map _ (List.getElem?_eq_getElem hi)]
      · obtain ⟨sm, hl⟩ := hP
        rw [numS_size, List.take_length] at hl
        refine ⟨D, ds.map fun (d : Nat) => (d : Int), rfl, SqL.of (by rw [hl, List.map_map]; rfl), _, _, rfl, rfl, _, rfl, ?_⟩
        rw [sum_cast]
        refine ite2 (fun c3 => ?_) (fun c3 => ?_)
        · have c3 : (24 : Int) < ((ds.sum : Nat) : Int) := of_decide_eq_true c3
          refine no (fun es N e => ?_) _ sm
          have := N.sum
          rw [only N e] at this
          omega
        have c3 : ds.sum ≤ 24 := by
          have : ¬ ((24 : Int) < ((ds.sum : Nat) : Int)) := fun z => c3 (decide_eq_true z)
          omega
        have N : Num ds := ⟨p1, c2, R.dig, c3⟩
        refine ⟨_, rfl, ds, N, rfl, fun B r s2 _ hr => ?_⟩
        have hp2 := sameT (sm.trans s2) hp
        refine ⟨_, rfl, p, _, rfl, .inr ⟨hp2, neT (a := rowL ds) (b := zs) (SqT.of hr) hp2 ⟨_, rfl, ?_⟩⟩⟩
        by_cases e : rowL ds = zs
        · rw [decide_eq_true e]
          exact iteF ⟨_, rfl, kk _ _ (sm.trans s2) (.inl ⟨ds, N, by rw [e], rfl⟩)⟩
        · rw [decide_eq_false e]
          refine iteT (no (fun es N2 e2 => ?_) _ (sm.trans s2))
          rw [only N2 e2] at e2
          exact e e2.symm
end
end K24

namespace K24
open PySem L2 Wm TL Dv
section
variable {P : Program} {w : World} {K : PySem.W.Frag} {mg : Str → Option Value} {base : Heap}
theorem passF {X : Cx} : Passes (CX X.prog X.w) X (fun _ _ _ => False) := fun _ _ _ _ _ _ _ hc => by
  obtain ⟨_, _, _, _, _, _, _, _, _, _, _, _, z⟩ := hc
  exact z.elim
theorem noStopF {K : PySem.W.Frag} : NoStop K (fun _ _ _ => False) := fun _ _ _ h => h.elim
theorem run_le (c : Int) : ∀ l : List Int, runN c l ≤ l.length := fun l => (List.takeWhile_sublist _).length_le
theorem brk_le : ∀ (k : Nat) (l : List Int), brkN k l ≤ l.length
  | _, [] => Nat.le_refl _
  | k, t :: r => by
    have := brk_le (if t = 0 then k + 1 else 0) r
    show (if t ≠ 2 ∧ k < 5 then 1 + brkN (if t = 0 then k + 1 else 0) r else 0) ≤ r.length + 1
    split <;> omega
theorem endP_in {ts : List Int} {i : Nat} (h : i < ts.length) : i < endP ts i ∧ endP ts i ≤ ts.length := by
  have hc := List.getElem?_eq_getElem h
  generalize ts[i] = c at hc
  by_cases c1 : c = 1
  · subst c1
    rw [endP_one hc]
    have a := brk_step (k := 0) hc (by decide) (by decide)
    have b := brk_le 0 (ts.drop i)
    rw [List.length_drop] at b
    omega
  · rw [endP_ne hc c1]
    have a := run_step hc
    have b := run_le c (ts.drop i)
    rw [List.length_drop] at b
    omega
theorem pos_succ (ts : List Int) (k : Nat) : posP ts (k + 1) = endP ts (posP ts k) := rfl
theorem endP_big {ts : List Int} {i : Nat} (h : ts.length ≤ i) : endP ts i = i := by
  unfold endP
  rw [List.getElem?_eq_none h]
theorem pos_le (ts : List Int) : ∀ k, posP ts k ≤ ts.length
  | 0 => Nat.zero_le _
  | k + 1 => by
    have ih := pos_le ts k
    rw [pos_succ]
    by_cases h : posP ts k < ts.length
    · exact (endP_in h).2
    · rw [endP_big (by omega)]; exact ih
theorem pos_mono {ts : List Int} {k : Nat} (h : posP ts k < ts.length) : posP ts k < posP ts (k + 1) := (endP_in h).1
theorem Bt.tup {B : Addr → Prop} {H H' : Hp} (bt : Bt B H H') (hs : ∀ q, B q → ∃ o, H q = some o ∧ isL o) {p : Addr} {o : HO} (h : H p = some o) (n : ¬ isL o) : H' p = some o := bt p o (fun z => by
  obtain ⟨o', e, s⟩ := hs p z
  rw [h] at e
  cases e
  exact n s) h
theorem Bt.sq {B : Addr → Prop} {H H' : Hp} (bt : Bt B H H') (hs : ∀ q, B q → ∃ o, H q = some o ∧ isL o) {a : Addr} {xs : List V} (h : SqT K H a xs) : SqT K H' a xs := by
  rcases h with (h | ⟨o, h⟩) | h
  · exact .inl (.inl (bt.tup hs h id))
  · exact .inl (.inr ⟨o, bt.tup hs h id⟩)
  · exact .inr h
theorem ok3_walk_pieces (T : Txt K mg) : G3.GFn3 P w K mg base nm_walk_pieces "walk_pieces" (defScope s_walk_pieces) T.d_walk_pieces.code 8 T.a_walk_pieces T.d_walk_pieces ["tape"] (sp3_walk K) := by
  obtain ⟨oc, od, kV, doc, pm, an, cdv, ct, osl, e, lk, hcd⟩ := T.F_walk_pieces.ex
  rw [e] at lk
  rw [e]
  refine G3.gfn3_of (N := nm_walk_pieces) lk hcd sc_walk_pieces (fun A outer s H0 H vs γ Y Q E pn F hr hF mono h => ?_)
  obtain ⟨p, ts, J, B, rfl, hp, tp, j0, jB, jY, jQ⟩ := h
  refine ⟨_, (G3.gt0_rest (G3.gts_cons (G3.gt_ps (fun _ _ _ _ => (ps_set (i := 1) sc_walk_pieces.nd rfl (Or.inl rfl) pe_int))) (G3.gts_cons (G3.gt_while (fun _ _ _ h => by rw [(hF _ _ _ h).2]; exact PassesOwn.never) (fun _ _ _ _ => (pt_cmpR op_lt (pv 1) (pe_callB (show CallR _ _ (Kx.rLen K) from call_len_seq) (by rfl) T.z_len PySem.boot_len (pa_cons (pv 0) pa_nil)) (nomark _))) (G3.gts_cons (G3.gt_ps (fun _ _ _ _ => (ps_set (i := 2) sc_walk_pieces.nd rfl (Or.inl rfl) (pe_call (ok_piece_end T) (hr.mono (by decide)) (by rfl) T.g_piece_end T.F_piece_end.kp T.b_piece_end .nil pass0 (pa_cons (pv 0) (pa_cons (pv 1) pa_nil)))))) (G3.gts_cons (G3.gt_yield mono (fun _ _ _ _ => (pe_tup (pa_cons (pv 1) (pa_cons (pe_call (ok_piece_between T) (hr.mono (by decide)) (by rfl) T.g_piece_between T.F_piece_between.kp T.b_piece_between .nil pass0 (pa_cons (pv 0) (pa_cons (pv 1) (pa_cons (pv 2) pa_nil)))) pa_nil))))) (G3.gts_cons (G3.gt_ps (fun _ _ _ _ => (ps_set (i := 1) sc_walk_pieces.nd rfl (Or.inl rfl) (pv 2)))) G3.gts_nil)))) G3.gts_nil))), ?_⟩
  refine ⟨fun m k σ A => m + posP ts k.1 = ts.length ∧ k.1 ≤ posP ts k.1 ∧ (∃ v2, σ = [some (.ref p), some (.int (posP ts k.1 : Nat)), v2]) ∧ SqT K A p (ts.map V.int) ∧ ∃ A0, J k.1 k.2 A0 ∧ Same A0 A, ⟨ts.length, by rfl, Nat.le_refl _, ⟨_, rfl⟩, hp, H, j0, Same.refl _⟩, ?_⟩
  rintro m ⟨k, γ⟩ σ A ⟨hm, kl, ⟨v2, rfl⟩, hp1, A0, jA, sA⟩
  have hm : m + posP ts k = ts.length := hm
  have kl : k ≤ posP ts k := kl
  have jA : J k γ A0 := jA
  have few := tp.few
  refine ⟨_, rfl, _, rfl, _, _, rfl, .inr hp1, _, _, rfl, rfl, _, rfl, ite2 (fun c1 => ?_) (fun c1 => ?_)⟩
  · have c1 := of_decide_eq_true c1
    rw [List.length_map] at c1
    have lt : posP ts k < ts.length := by omega
    have en := endP_in lt
    have mo := pos_mono lt
    refine ⟨fun k' σ' A' => m - (posP ts (k + 1) - posP ts k) + posP ts k'.1 = ts.length ∧ k'.1 ≤ posP ts k'.1 ∧ (∃ v2, σ' = [some (.ref p), some (.int (posP ts k'.1 : Nat)), v2]) ∧ SqT K A' p (ts.map V.int) ∧ ∃ A0, J k'.1 k'.2 A0 ∧ Same A0 A', fun k' σ' A' h => ⟨_, by omega, h⟩, ?_⟩
    refine ⟨_, rfl, _, rfl, p, ts, posP ts k, rfl, hp1, few, lt, ?_⟩
    refine ⟨Nat.lt_of_le_of_lt (show k ≤ 6000 by omega) (by decide), ?_⟩
    refine ⟨_, rfl, _, rfl, _, rfl, _, rfl, p, ts, posP ts k, endP ts (posP ts k), rfl, hp1, tp, en.1, en.2, fun A1 v x y s1 pc ok => ⟨by show 2 ≤ sizeLine; decide, fun r hr => ?_⟩⟩
    have s2 := same_new (o := .tup [.int (posP ts k : Nat), v]) hr
    have sT := (sA.trans s1).trans s2
    refine mono _ _ _ _ _ _ (fun γ2 H2 q => ?_) (jY k k γ A0 _ (.ref r) v x y lt jA sT ⟨r, rfl, upd_same⟩ (pc.k s2) ok)
    obtain ⟨q1, q2⟩ := q
    have hb : ∀ q, B q → ∃ o, (upd A1 r (.tup [.int (posP ts k : Nat), v])) q = some o ∧ isL o := fun q z => by
      obtain ⟨o, e, l⟩ := jB k γ A0 jA q z
      exact ⟨o, sT _ _ e, l⟩
    refine ⟨_, rfl, ?_⟩
    refine ⟨?_, ?_, ⟨_, rfl⟩, q2.sq hb (sameT (s1.trans s2) hp1), H2, q1, Same.refl _⟩
    · show m - (posP ts (k + 1) - posP ts k) + posP ts (k + 1) = ts.length
      have := pos_le ts (k + 1)
      omega
    · show k + 1 ≤ posP ts (k + 1)
      omega
  · have c1 : ¬ ((posP ts k : Nat) : Int) < (ts.length : Nat) := fun z => c1 (decide_eq_true (by rw [List.length_map]; exact z))
    exact jQ k γ A0 A (by omega) jA sA
end
end K24

namespace K24
open PySem L2 Wm TL Dv
section
variable {P : Program} {w : World} {K : PySem.W.Frag} {mg : Str → Option Value} {base : Heap}
/-- five closed signs from q on -/
def Win (ts : List Int) (q : Nat) : Prop := ∀ j < 5, ts[q + j]? = some 0
/-- what stands behind the walk from i to e, c closed signs last -/
structure Wk (ts : List Int) (i e c : Nat) : Prop where
  le : i ≤ e
  top : e ≤ ts.length
  no2 : ∀ q, i ≤ q → q < e → ts[q]? ≠ some 2
  c5 : c ≤ 5
  ce : c ≤ e - i
  z : ∀ j, 1 ≤ j → j ≤ c → ts[e - j]? = some 0
  nz : c < e - i → ts[e - c - 1]? ≠ some 0
  win : ∀ q, i ≤ q → q + 5 ≤ e → Win ts q → q + 5 = e
theorem Wk.start {ts : List Int} {i : Nat} (h : i ≤ ts.length) : Wk ts i i 0 :=
  ⟨Nat.le_refl _, h, fun q a b => absurd b (by omega), by omega, by omega, fun j a b => by omega, fun h => by omega, fun q a b _ => by omega⟩
theorem Wk.step {ts : List Int} {i e c : Nat} {t : Int} (h : Wk ts i e c) (ht : ts[e]? = some t) (n : t ≠ 2) (l : c < 5) : Wk ts i (e + 1) (if t = 0 then c + 1 else 0) := by
  have a := h.le
  have b := (List.getElem?_eq_some_iff.mp ht).1
  have ce := h.ce
  have notwin : ∀ q, i ≤ q → q + 5 ≤ e → ¬ Win ts q := fun q h1 h2 w => by
    have e5 := h.win q h1 h2 w
    have := h.nz (by omega)
    have k := w (4 - c) (by omega)
    rw [show q + (4 - c) = e - c - 1 by omega] at k
    exact this k
  by_cases z : t = 0
  · rw [if_pos z]
    refine ⟨by omega, b, fun q h1 h2 => ?_, by omega, by omega, fun j h1 h2 => ?_, fun h1 => ?_, fun q h1 h2 w => ?_⟩
    · by_cases eq : q = e
      · rw [eq, ht]
        intro k
        exact n (Option.some.inj k)
      · exact h.no2 q h1 (by omega)
    · by_cases j1 : j = 1
      · rw [j1, show e + 1 - 1 = e by omega, ht, z]
      · rw [show e + 1 - j = e - (j - 1) by omega]
        exact h.z (j - 1) (by omega) (by omega)
    · rw [show e + 1 - (c + 1) - 1 = e - c - 1 by omega]
      exact h.nz (by omega)
    · by_cases q5 : q + 5 ≤ e
      · exact absurd w (notwin q h1 q5)
      · omega
  · rw [if_neg z]
    refine ⟨by omega, b, fun q h1 h2 => ?_, by omega, by omega, fun j h1 h2 => by omega, fun h1 => ?_, fun q h1 h2 w => ?_⟩
    · by_cases eq : q = e
      · rw [eq, ht]
        intro k
        exact n (Option.some.inj k)
      · exact h.no2 q h1 (by omega)
    · rw [show e + 1 - 0 - 1 = e by omega, ht]
      intro k
      exact z (Option.some.inj k)
    · by_cases q5 : q + 5 ≤ e
      · exact absurd w (notwin q h1 q5)
      · have k := w 4 (by decide)
        rw [show q + 4 = e by omega, ht] at k
        exact absurd (Option.some.inj k) z
theorem Wk.fin {ts : List Int} {i : Nat} : ∀ (m e c : Nat), m + e = ts.length → Wk ts i e c → ∃ c', Wk ts i (e + brkN c (ts.drop e)) c' ∧ (e + brkN c (ts.drop e) = ts.length ∨ ts[e + brkN c (ts.drop e)]? = some 2 ∨ c' = 5)
  | 0, e, c, hm, h => by
    rw [brk_end (by omega)]
    exact ⟨c, h, .inl (by omega)⟩
  | m + 1, e, c, hm, h => by
    have ht := List.getElem?_eq_getElem (show e < ts.length by omega)
    generalize ts[e] = t at ht
    by_cases n : t = 2
    · rw [brk_stop ht (.inl n)]
      exact ⟨c, h, .inr (.inl (by rw [Nat.add_zero, ht, n]))⟩
    · by_cases l : c < 5
      · have s := h.step ht n l
        have := Wk.fin m (e + 1) _ (by omega) s
        rw [brk_step ht n l, show ∀ x : Nat, e + (x + 1) = e + 1 + x by intro x; omega]
        exact this
      · rw [brk_stop ht (.inr (by omega))]
        exact ⟨c, h, .inr (.inr (by have := h.c5; omega))⟩
theorem cut_at {ts : List Int} {i e q : Nat} (h : i + q < e) : (cut ts i e)[q]? = ts[i + q]? := by
  unfold cut
  rw [List.getElem?_drop, List.getElem?_take, if_pos h]
theorem win_cut {ts : List Int} {i e q : Nat} (l : e ≤ ts.length) (le : i ≤ e) : fiveP (cut ts i e) q = true ↔ i + q + 5 ≤ e ∧ Win ts (i + q) := by
  have cl := cut_len (i := i) l
  unfold fiveP
  rw [decide_eq_true_iff]
  constructor
  · intro h
    have hl : (((cut ts i e).drop q).take 5).length = 5 := by rw [h]; rfl
    rw [List.length_take, List.length_drop, cl] at hl
    refine ⟨by omega, fun j hj => ?_⟩
    have g : (((cut ts i e).drop q).take 5)[j]? = some 0 := by
      rw [h]
      rcases (show j = 0 ∨ j = 1 ∨ j = 2 ∨ j = 3 ∨ j = 4 by omega) with z | z | z | z | z <;> subst z <;> rfl
    rw [List.getElem?_take, if_pos hj, List.getElem?_drop, cut_at (by omega)] at g
    rw [Nat.add_assoc]
    exact g
  · rintro ⟨h1, h2⟩
    refine List.ext_getElem? fun j => ?_
    rw [List.getElem?_take]
    by_cases hj : j < 5
    · rw [if_pos hj, List.getElem?_drop, cut_at (by omega), ← Nat.add_assoc, h2 j hj]
      rcases (show j = 0 ∨ j = 1 ∨ j = 2 ∨ j = 3 ∨ j = 4 by omega) with z | z | z | z | z <;> subst z <;> rfl
    · rw [if_neg hj]
      rw [List.getElem?_eq_none (by simp only [List.length_cons, List.length_nil]; omega)]
theorem mem_at {l : List Int} {x : Int} (m : x ∈ l) : ∃ q, q < l.length ∧ l[q]? = some x := by
  obtain ⟨q, h, e⟩ := List.mem_iff_getElem.mp m
  exact ⟨q, h, by rw [List.getElem?_eq_getElem h, e]⟩
theorem mem_fives {l : List Int} {n : Nat} : n ∈ fives l ↔ ∃ q, q < l.length ∧ fiveP l q = true ∧ n = q + 5 := by
  rw [fives_eq, List.mem_map]
  constructor
  · rintro ⟨q, m, e⟩
    obtain ⟨m1, m2⟩ := List.mem_filter.mp m
    exact ⟨q, List.mem_range.mp m1, m2, e.symm⟩
  · rintro ⟨q, h1, h2, e⟩
    exact ⟨q, List.mem_filter.mpr ⟨List.mem_range.mpr h1, h2⟩, e.symm⟩
/-- what is told of a piece with a stroke -/
theorem brk_told {ts : List Int} {i : Nat} (tp : Tape ts) (h : ts[i]? = some 1) :
    (2 : Int) ∉ cut ts i (endP ts i) ∧ (∀ n ∈ fives (cut ts i (endP ts i)), n = (cut ts i (endP ts i)).length) ∧ (fives (cut ts i (endP ts i)) = [] ↔ (1 : Int) ∈ last5 (cut ts i (endP ts i))) ∧ ((1 : Int) ∈ last5 (cut ts i (endP ts i)) → endP ts i = ts.length ∨ ts[endP ts i]? = some 2) := by
  have hi := (List.getElem?_eq_some_iff.mp h).1
  obtain ⟨c, W, st⟩ := Wk.fin (ts := ts) (ts.length - i) i 0 (by omega) (Wk.start (Nat.le_of_lt hi))
  have en := endP_in hi
  rw [← endP_one h] at W st
  generalize endP ts i = e at W st en
  have cl := cut_len (ts := ts) (i := i) en.2
  have c5 := W.c5
  have ce := W.ce
  have w2 : ∀ n ∈ fives (cut ts i e), n = e - i ∧ Win ts (e - 5) ∧ i + 5 ≤ e := fun n m => by
    obtain ⟨q, h1, h2, h3⟩ := mem_fives.mp m
    obtain ⟨a1, a2⟩ := (win_cut en.2 (by omega)).mp h2
    have := W.win (i + q) (by omega) a1 a2
    exact ⟨by omega, by rw [show e - 5 = i + q by omega]; exact a2, by omega⟩
  have lt5 : c < 5 → fives (cut ts i e) = [] ∧ (1 : Int) ∈ last5 (cut ts i e) := fun l => by
    have cl2 : c < e - i := by
      by_cases z : c = e - i
      · exfalso
        have := W.z c (by omega) (Nat.le_refl _)
        rw [show e - c = i by omega, h] at this
        cases this
      · omega
    have nz := W.nz cl2
    constructor
    · cases q : fives (cut ts i e) with
      | nil => rfl
      | cons n r =>
        exfalso
        obtain ⟨_, a2, a3⟩ := w2 n (by rw [q]; exact List.mem_cons_self)
        have k := a2 (4 - c) (by omega)
        rw [show e - 5 + (4 - c) = e - c - 1 by omega] at k
        exact nz k
    · have pl : e - c - 1 < ts.length := by omega
      have hp := List.getElem?_eq_getElem pl
      have rg := tp.sg _ (List.getElem_mem pl)
      have n2 := W.no2 (e - c - 1) (by omega) (by omega)
      generalize ts[e - c - 1] = t at hp rg
      have t1 : t = 1 := by
        have a : t ≠ 0 := fun z => nz (by rw [hp, z])
        have b : t ≠ 2 := fun z => n2 (by rw [hp, z])
        omega
      subst t1
      have at1 : (cut ts i e)[e - c - 1 - i]? = some 1 := by
        rw [cut_at (by omega), show i + (e - c - 1 - i) = e - c - 1 by omega, hp]
      unfold last5
      refine List.mem_of_getElem? (i := e - c - 1 - i - ((cut ts i e).length - 5)) ?_
      rw [List.getElem?_drop, cl, show e - i - 5 + (e - c - 1 - i - (e - i - 5)) = e - c - 1 - i by omega]
      exact at1
  have eq5 : c = 5 → fives (cut ts i e) ≠ [] ∧ (1 : Int) ∉ last5 (cut ts i e) := fun l => by
    subst l
    constructor
    · intro z
      have m : e - i - 5 + 5 ∈ fives (cut ts i e) := mem_fives.mpr ⟨e - i - 5, by rw [cl]; omega, (win_cut en.2 (by omega)).mpr ⟨by omega, fun j hj => by
        rw [show i + (e - i - 5) + j = e - (5 - j) by omega]
        exact W.z (5 - j) (by omega) (by omega)⟩, rfl⟩
      rw [z] at m
      cases m
    · intro m
      unfold last5 at m
      obtain ⟨q, h1, h2⟩ := mem_at m
      rw [List.length_drop, cl] at h1
      rw [List.getElem?_drop, cl, cut_at (by omega), show i + (e - i - 5 + q) = e - (5 - q) by omega, W.z (5 - q) (by omega) (by omega)] at h2
      cases h2
  refine ⟨fun m => ?_, fun n m => by rw [cl]; exact (w2 n m).1, ?_, fun m => ?_⟩
  · obtain ⟨q, h1, h2⟩ := mem_at m
    rw [cl] at h1
    rw [cut_at (by omega)] at h2
    exact W.no2 (i + q) (by omega) (by omega) h2
  · by_cases l : c < 5
    · exact ⟨fun _ => (lt5 l).2, fun _ => (lt5 l).1⟩
    · have z := eq5 (by omega)
      exact ⟨fun a => absurd a z.1, fun a => absurd a z.2⟩
  · rcases st with s | s | s
    · exact .inl s
    · exact .inr s
    · exact absurd m (eq5 s).2
/-- what is told of a piece of signs alike -/
theorem run_told {ts : List Int} {i : Nat} {c : Int} (h : ts[i]? = some c) (n : c ≠ 1) : cut ts i (endP ts i) = List.replicate (endP ts i - i) c ∧ (endP ts i = ts.length ∨ ∃ d, ts[endP ts i]? = some d ∧ d ≠ c) := by
  have hi := (List.getElem?_eq_some_iff.mp h).1
  rw [endP_ne h n, cut_eq, show i + runN c (ts.drop i) - i = runN c (ts.drop i) by omega]
  have key : ∀ l : List Int, l.take (runN c l) = List.replicate (runN c l) c ∧ (runN c l = l.length ∨ ∃ d, l[runN c l]? = some d ∧ d ≠ c) := fun l => by
    induction l with
    | nil => exact ⟨rfl, .inl rfl⟩
    | cons t l ih =>
      by_cases e : t = c
      · subst e
        have r : runN t (t :: l) = runN t l + 1 := by
          unfold runN
          rw [List.takeWhile_cons, if_pos (decide_eq_true rfl)]
          rfl
        rw [r]
        refine ⟨by rw [List.take_succ_cons, ih.1, List.replicate_succ], ?_⟩
        rcases ih.2 with a | ⟨d, a, b⟩
        · exact .inl (by rw [a]; rfl)
        · exact .inr ⟨d, by rw [List.getElem?_cons_succ]; exact a, b⟩
      · have r : runN c (t :: l) = 0 := by
          unfold runN
          rw [List.takeWhile_cons, if_neg (by simpa using e)]
          rfl
        rw [r]
        exact ⟨rfl, .inr ⟨t, rfl, e⟩⟩
  obtain ⟨k1, k2⟩ := key (ts.drop i)
  refine ⟨k1, ?_⟩
  rcases k2 with a | ⟨d, a, b⟩
  · rw [List.length_drop] at a
    exact .inl (by omega)
  · rw [List.getElem?_drop] at a
    exact .inr ⟨d, a, b⟩
end
end K24

namespace K24
open PySem L2 Wm TL Dv
section
variable {P : Program} {w : World} {K : PySem.W.Frag} {mg : Str → Option Value} {base : Heap}
theorem PcsAt.k {H H' : Hp} {vs : List V} {cs : List (V × V)} (h : PcsAt H vs cs) (s : Same H H') : PcsAt H' vs cs := by
  induction h with
  | nil => exact .nil
  | cons a _ ih => exact .cons (a.k s) ih
theorem PcsAt.app {H : Hp} {vs us : List V} {cs ds : List (V × V)} (h : PcsAt H vs cs) (g : PcsAt H us ds) : PcsAt H (vs ++ us) (cs ++ ds) := by
  induction h with
  | nil => exact g
  | cons a _ ih => exact .cons a ih
theorem PcsAt.len {H : Hp} {vs : List V} {cs : List (V × V)} (h : PcsAt H vs cs) : vs.length = cs.length := by
  induction h with
  | nil => rfl
  | cons _ _ ih => simp [ih]
/-- one list changes -/
theorem PcsAt.lk {H H' : Hp} {D : Addr} {xs : List V} {vs : List V} {cs : List (V × V)} (h : PcsAt H vs cs) (hD : H D = some (.lst xs)) (b : ∀ q o, q ≠ D → H q = some o → H' q = some o) : PcsAt H' vs cs := by
  induction h with
  | nil => exact .nil
  | cons a _ ih =>
    obtain ⟨p, e, q⟩ := a
    exact .cons ⟨p, e, b _ _ (fun z => by rw [z, hD] at q; cases q) q⟩ ih
theorem Pcs.nil (ts : List Int) : Pcs ts 0 [] := ⟨rfl, fun j h => absurd h (Nat.not_lt_zero j), fun j x y h => by cases h⟩
theorem Pcs.snoc {ts : List Int} {k : Nat} {cs : List (V × V)} {x y : V} (h : Pcs ts k cs) (l : posP ts k < ts.length) (ok : PcOk ts (posP ts k) (posP ts (k + 1)) x y) : Pcs ts (k + 1) (cs ++ [(x, y)]) := by
  refine ⟨by rw [List.length_append, h.len]; rfl, fun j hj => ?_, fun j x' y' e => ?_⟩
  · by_cases c : j = k
    · rw [c]; exact l
    · exact h.lt j (by omega)
  · by_cases c : j < k
    · rw [List.getElem?_append_left (by rw [h.len]; exact c)] at e
      exact h.at_ j x' y' e
    · rw [List.getElem?_append_right (by rw [h.len]; omega), h.len] at e
      cases z : j - k with
      | zero =>
        rw [z] at e
        have e := Option.some.inj e
        cases e
        rw [show j = k by omega]
        exact ok
      | succ n => rw [z] at e; cases e
theorem Pcs.few {ts : List Int} {k : Nat} {cs : List (V × V)} (h : Pcs ts k cs) : k ≤ ts.length := by
  have go : ∀ j, j ≤ k → j ≤ posP ts j := fun j => by
    induction j with
    | zero => exact fun _ => Nat.zero_le _
    | succ j ih =>
      intro hj
      have := ih (by omega)
      have := pos_mono (h.lt j (by omega))
      omega
  exact Nat.le_trans (go k (Nat.le_refl _)) (pos_le ts k)
theorem ok_pieces (T : Txt K mg) : FnOk P w K mg base CX0 10 T.a_pieces T.d_pieces ["tape"] (sp_pieces K) := by
  refine T.F_pieces.ok sc_pieces (fun vs H Q E h => ?_) (fun cdv A outer s H vs Q E hr h => ?_)
  · obtain ⟨p, ts, rfl, _⟩ := h
    rfl
  · obtain ⟨p, ts, rfl, hp, tp, kk⟩ := h
    refine ⟨_, (pss_one (ps_ret (pe_callTy call_tuple_of (by rfl) T.z_tuple (by decide +kernel) (pa_cons (Lg.pe_lcG (own := [("_", 1), ("piece", 2)]) (g := gTup K 2 (gCons (gName 1) (gCons (gName 2) gNil))) (tt := tYes) rfl sc_pieces.nd rfl (fun _ => rfl) (by decide +kernel) (by decide +kernel) (hr.mono (by decide)) (Lg.pgen3_call (ok3_walk_pieces T) (hr.mono (by decide)) (by rfl) T.g_walk_pieces T.F_walk_pieces.kp T.b_walk_pieces .nil (pa_cons (pv 0) pa_nil)) (blkOk_by (own := [("_", 1), ("piece", 2)]) (N := nm_pieces) (sc := (defScope s_pieces)) (by decide +kernel)) (fun _ _ _ _ _ => (pg_tup rfl (pgs_cons (pg_name (i := 1) sc_pieces.nd rfl (Or.inl rfl)) (pgs_cons (pg_name (i := 2) sc_pieces.nd rfl (Or.inl rfl)) pgs_nil)))) (fun _ _ _ _ _ => pts_nil) (fun _ _ _ _ _ => (pv 2))) pa_nil)))), ?_⟩
    refine ⟨_, rfl, rfl, fun D hD => ?_⟩
    have sD := same_new (o := .lst []) hD
    refine ⟨p, ts, fun k γ A => Same H A ∧ γ = [some (.ref p), none, none] ∧ ∃ us cs, A D = some (.lst us) ∧ PcsAt A us cs ∧ Pcs ts k cs, fun q => q = D, rfl, sameT sD hp, tp, ⟨sD, rfl, [], [], upd_same, .nil, Pcs.nil ts⟩, fun k γ A h q z => ?_, fun k n γ A A' v w x y lt hP s1 hv hw ok => ?_, fun k γ A A' he hP s1 => ?_⟩
    · obtain ⟨_, _, us, cs, e, _⟩ := h
      exact ⟨.lst us, by rw [z]; exact e, trivial⟩
    · obtain ⟨sA, rfl, us, cs, hL, pc, pk⟩ := hP
      obtain ⟨r, rfl, hr⟩ := hv
      have fu := pk.few
      have lu := pc.len
      have lk := pk.len
      have few := tp.few
      have hL1 := s1 _ _ hL
      refine ⟨by rw [hL1]; simp, _, fun _ _ h => h, r, _, rfl, SqT.of hr, rfl, _, _, rfl, _, _, rfl, rfl, rfl, yesT ?_⟩
      refine ⟨_, rfl, us, hL1, small6 (by omega), ?_, fun q o n e => by rw [upd_ne n]; exact e⟩
      have offD : ∀ q o, q ≠ D → A' q = some o → upd A' D (.lst (us ++ [w])) q = some o := fun q o n e => by rw [upd_ne n]; exact e
      refine ⟨fun q o e => ?_, rfl, us ++ [w], cs ++ [(x, y)], upd_same, ((pc.k s1).lk hL1 offD).app (.cons ?_ .nil), pk.snoc lt ok⟩
      · refine offD q o (fun z => ?_) ((sA.trans s1) _ _ e)
        rw [z, hD] at e; cases e
      · obtain ⟨p2, e2, q2⟩ := hw
        exact ⟨p2, e2, offD _ _ (fun z => by rw [z, hL1] at q2; cases q2) q2⟩
    · obtain ⟨sA, rfl, us, cs, hL, pc, pk⟩ := hP
      have hL1 := s1 _ _ hL
      refine ⟨by rw [hL1]; simp, D, _, rfl, .inl ⟨SqL.of hL1, fun t ht => ?_⟩⟩
      exact kk _ t us cs k ((sA.trans s1).trans (same_new ht)) upd_same ((pc.k s1).k (same_new ht)) pk he
end
end K24

namespace K24
open PySem L2 Wm TL Dv
section
variable {P : Program} {w : World} {K : PySem.W.Frag} {mg : Str → Option Value} {base : Heap}
theorem rnds_snoc (ts : List Int) (c : V × V) : ∀ (cs : List (V × V)) (j : Nat), rnds ts (cs ++ [c]) j = rnds ts cs j ++ rnds ts [c] (j + cs.length)
  | [], j => rfl
  | d :: cs, j => by
    have ih := rnds_snoc ts c cs (j + 1)
    show (if d.1 = .str "round" then [(((posP ts (j + 1) : Nat) : Int) - 1, d.2)] else []) ++ rnds ts (cs ++ [c]) (j + 1) = ((if d.1 = .str "round" then [(((posP ts (j + 1) : Nat) : Int) - 1, d.2)] else []) ++ rnds ts cs (j + 1)) ++ _
    rw [ih, List.append_assoc, show j + 1 + cs.length = j + (d :: cs).length by simp only [List.length_cons]; omega]
theorem RdsAt.k {H H' : Hp} {vs : List V} {cs : List (Int × V)} (h : RdsAt H vs cs) (s : Same H H') : RdsAt H' vs cs := by
  induction h with
  | nil => exact .nil
  | cons a _ ih => exact .cons (s _ _ a) ih
theorem RdsAt.lk {H H' : Hp} {D : Addr} {xs : List V} {vs : List V} {cs : List (Int × V)} (h : RdsAt H vs cs) (hD : H D = some (.lst xs)) (b : ∀ q o, q ≠ D → H q = some o → H' q = some o) : RdsAt H' vs cs := by
  induction h with
  | nil => exact .nil
  | cons a _ ih => exact .cons (b _ _ (fun z => by rw [z, hD] at a; cases a) a) ih
theorem RdsAt.app {H : Hp} {vs us : List V} {cs ds : List (Int × V)} (h : RdsAt H vs cs) (g : RdsAt H us ds) : RdsAt H (vs ++ us) (cs ++ ds) := by
  induction h with
  | nil => exact g
  | cons a _ ih => exact .cons a ih
theorem RdsAt.len {H : Hp} {vs : List V} {cs : List (Int × V)} (h : RdsAt H vs cs) : vs.length = cs.length := by
  induction h with
  | nil => rfl
  | cons _ _ ih => simp [ih]
theorem rnds_len (ts : List Int) : ∀ (cs : List (V × V)) (j : Nat), (rnds ts cs j).length ≤ cs.length
  | [], _ => Nat.le_refl _
  | c :: cs, j => by
    have := rnds_len ts cs (j + 1)
    show ((if c.1 = .str "round" then [(((posP ts (j + 1) : Nat) : Int) - 1, c.2)] else []) ++ rnds ts cs (j + 1)).length ≤ cs.length + 1
    rw [List.length_append]
    split
    · simp only [List.length_cons, List.length_nil]; omega
    · simp only [List.length_nil]; omega
theorem eq_str_of {ts : List Int} {i e : Nat} {x y : V} (h : PcOk ts i e x y) : ∃ t : Str, x = .str t := by
  cases h <;> exact ⟨_, rfl⟩
theorem ok_rounds_on (T : Txt K mg) : FnOk P w K mg base CX0 10 T.a_rounds_on T.d_rounds_on ["tape"] (sp_rounds_on K) := by
  refine T.F_rounds_on.ok sc_rounds_on (fun vs H Q E h => ?_) (fun cdv A outer s H vs Q E hr h => ?_)
  · obtain ⟨p, ts, rfl, _⟩ := h
    rfl
  · obtain ⟨p, ts, rfl, hp, tp, kk⟩ := h
    refine ⟨_, (pss_cons (ps_set (i := 1) sc_rounds_on.nd rfl (Or.inl rfl) (pe_lst pa_nil))
      (pss_cons (Lg.ps_forG PassesOwn.never rfl rfl rfl (fun _ => rfl) rfl (by decide +kernel) (hr.mono (by decide)) (Lg.pgen3_call (ok3_walk_pieces T) (hr.mono (by decide)) (by rfl) T.g_walk_pieces T.F_walk_pieces.kp T.b_walk_pieces .nil (pa_cons (pv 0) pa_nil)) passF noStopF (pg_tup rfl (pgs_cons (pg_name (i := 2) sc_rounds_on.nd rfl (Or.inl rfl)) (pgs_cons (pg_name (i := 3) sc_rounds_on.nd rfl (Or.inl rfl)) pgs_nil))) (pss_one (ps_if (pt_cmpR op_eq (pe_ix ix_tup (pv 3) pe_int (fun _ _ => rfl)) pe_str (nomark _))
          (pss_one (ps_expr (pe_bm PySem.F.plainAttrs_list PySem.F.slot_list_append PySem.F.type_list_append mt_append (pv 1) (pa_cons (pe_tup (pa_cons (pe_op op_sub (pe_op op_add (pv 2) (pe_call (ok_piece_ticks T) (hr.mono (by decide)) (by rfl) T.g_piece_ticks T.F_piece_ticks.kp T.b_piece_ticks .nil pass0 (pa_cons (pv 3) pa_nil))) pe_int) (pa_cons (pe_ix ix_tup (pv 3) pe_int (fun _ _ => rfl)) pa_nil))) pa_nil))))
          pss_nil)))
      (pss_one (ps_ret (pe_callTy call_tuple_of (by rfl) T.z_tuple (by decide +kernel) (pa_cons (pv 1) pa_nil)))))), ?_⟩
    refine ⟨by show 0 ≤ sizeLine; decide, fun D hD => ?_⟩
    have sD := same_new (o := .lst []) hD
    refine ⟨_, rfl, rfl, ?_⟩
    refine ⟨p, ts, fun k γ A => Same H A ∧ (∃ v2 v3, γ = [some (.ref p), some (.ref D), v2, v3]) ∧ ∃ us cs, A D = some (.lst us) ∧ RdsAt A us (rnds ts cs 0) ∧ Pcs ts k cs, fun q => q = D, rfl, sameT sD hp, tp, ⟨sD, ⟨none, none, rfl⟩, [], [], upd_same, .nil, Pcs.nil ts⟩, fun k γ A h q z => ?_, fun k n γ A A' v w x y lt hP s1 hv hw ok => ?_, fun k γ A A' he hP s1 => ?_⟩
    · obtain ⟨_, _, us, cs, e, _⟩ := h
      exact ⟨.lst us, by rw [z]; exact e, trivial⟩
    · obtain ⟨sA, ⟨v2, v3, rfl⟩, us, cs, hL, rd, pk⟩ := hP
      obtain ⟨r, rfl, hr⟩ := hv
      have fu := pk.few
      have lu := rd.len
      have ln := rnds_len ts cs 0
      have lk := pk.len
      have few := tp.few
      have hL1 := s1 _ _ hL
      obtain ⟨p2, rfl, hp2⟩ := id hw
      obtain ⟨w0, rfl⟩ := eq_str_of ok
      have en := pos_mono lt
      have snoc := rnds_snoc ts (.str w0, y) cs 0
      rw [lk, Nat.zero_add] at snoc
      refine ⟨_, fun _ _ h => h, r, _, rfl, SqT.of hr, rfl, _, _, rfl, _, _, rfl, rfl, ?_⟩
      refine ⟨_, rfl, p2, _, 0, _, rfl, rfl, SqT.of hp2, atI_nat (j := 0) rfl, rfl, _, rfl, ite2 (fun c => ?_) (fun c => ?_)⟩
      · have c := of_decide_eq_true c
        refine ⟨_, rfl, .inl ⟨rfl, _, SqL.of hL1⟩, ?_⟩
        refine ⟨_, rfl, _, rfl, _, _, _, ts, posP ts k, posP ts (k + 1), rfl, hw, ok, by omega, pos_le ts _, fun A1 s2 => ?_⟩
        refine ⟨_, _, rfl, rfl, _, _, rfl, rfl, _, rfl, p2, _, 1, _, rfl, rfl, SqT.of (s2 _ _ hp2), atI_nat (j := 1) rfl, by show 2 ≤ sizeLine; decide, fun t ht => ?_⟩
        have s3 := s2.trans (same_new (o := .tup [.int (((posP ts k : Nat) : Int) + (((posP ts (k + 1) : Nat) : Int) - (posP ts k : Nat)) - 1), y]) ht)
        have hL3 := s3 _ _ hL1
        have e3 : upd A1 t (.tup [.int (((posP ts k : Nat) : Int) + (((posP ts (k + 1) : Nat) : Int) - (posP ts k : Nat)) - 1), y]) t = some (.tup [.int (((posP ts (k + 1) : Nat) : Int) - 1), y]) := by
          rw [upd_same, show ((posP ts k : Nat) : Int) + (((posP ts (k + 1) : Nat) : Int) - (posP ts k : Nat)) - 1 = ((posP ts (k + 1) : Nat) : Int) - 1 by omega]
        refine ⟨D, _, _, rfl, rfl, hL3, small6 (by omega), ?_⟩
        generalize upd A1 t (.tup [.int (((posP ts k : Nat) : Int) + (((posP ts (k + 1) : Nat) : Int) - (posP ts k : Nat)) - 1), y]) = A2 at s3 hL3 e3 ⊢
        have offD : ∀ q o, q ≠ D → A2 q = some o → upd A2 D (.lst (us ++ [.ref t])) q = some o := fun q o n e => by rw [upd_ne n]; exact e
        refine ⟨⟨fun q o e => ?_, ⟨_, _, rfl⟩, us ++ [.ref t], cs ++ [(.str w0, y)], upd_same, ?_, pk.snoc lt ok⟩, fun q o n e => offD q o n (s3 _ _ e)⟩
        · refine offD q o (fun z => ?_) (((sA.trans s1).trans s3) _ _ e)
          rw [z, hD] at e; cases e
        · rw [snoc, show rnds ts [(V.str w0, y)] k = [(((posP ts (k + 1) : Nat) : Int) - 1, y)] from by show (if V.str w0 = .str "round" then _ else []) ++ [] = _; rw [if_pos c]; rfl]
          exact ((rd.k (s1.trans s3)).lk hL3 offD).app (.cons (offD _ _ (fun z => by rw [z, hL3] at e3; cases e3) e3) .nil)
      · have c : ¬ V.str w0 = .str "round" := fun z => c (decide_eq_true z)
        refine ⟨⟨sA.trans s1, ⟨_, _, rfl⟩, us, cs ++ [(.str w0, y)], hL1, ?_, pk.snoc lt ok⟩, fun q o _ e => e⟩
        rw [snoc, show rnds ts [(V.str w0, y)] k = [] from by show (if V.str w0 = .str "round" then _ else []) ++ [] = []; rw [if_neg c]; rfl, List.append_nil]
        exact rd.k s1
    · obtain ⟨sA, ⟨v2, v3, rfl⟩, us, cs, hL, rd, pk⟩ := hP
      have hL1 := s1 _ _ hL
      refine ⟨_, rfl, D, _, rfl, .inl ⟨SqL.of hL1, fun t ht => ?_⟩⟩
      exact kk _ t us cs k ((sA.trans s1).trans (same_new ht)) upd_same pk he ((rd.k s1).k (same_new ht))
end
end K24

namespace K24
open PySem L2 Wm TL Dv
section
variable {P : Program} {w : World} {K : PySem.W.Frag} {mg : Str → Option Value} {base : Heap}
theorem ok_tape (T : Txt K mg) : FnOk P w K mg base CX0 4 T.a_tape T.d_tape ["_law_source_here", "_law_most"] (sp_tape K) := by
  refine T.F_tape.ok sc_tape (fun vs H Q E h => ?_) (fun cdv A outer s H vs Q E hr h => ?_)
  · obtain ⟨s, a, b, rfl, _⟩ := h
    rfl
  · obtain ⟨s, a, b, rfl, S0, kk⟩ := h
    refine ⟨_, (pss_cons (ps_set (i := 2) sc_tape.nd rfl (Or.inl rfl) (pe_tup pa_nil))
      (pss_cons (ps_for PassesOwn.never rfl (pi_range1 (by rfl) T.z_range (pa_cons (pe_call (ok_draw T) (hr.mono (by decide)) (by rfl) T.g_draw T.F_draw.kp T.b_draw .nil pass0 (pa_cons (pv 0) (pa_cons (pv 1) pa_nil))) pa_nil)) (pg_name (i := 3) sc_tape.nd rfl (Or.inl rfl))
        (pss_cons (ps_set (i := 4) sc_tape.nd rfl (Or.inl rfl) (pe_call (ok_signs T) (hr.mono (by decide)) (by rfl) T.g_signs T.F_signs.kp T.b_signs .nil pass0 (pa_cons (pv 0) pa_nil)))
        (pss_cons (ps_set (i := 2) sc_tape.nd rfl (Or.inl rfl) (pe_op op_catA (pv 2) (pv 4)))
        (pss_one (ps_if (pt_cmpR op_eq (pe_call (ok_draw T) (hr.mono (by decide)) (by rfl) T.g_draw T.F_draw.kp T.b_draw .nil pass0 (pa_cons (pv 0) (pa_cons pe_int pa_nil))) pe_int (nomark _))
          (pss_one (ps_set (i := 2) sc_tape.nd rfl (Or.inl rfl) (pe_op op_catA (pv 2) (pv 4))))
          pss_nil)))))
      (pss_one (ps_ret (pv 2))))), ?_⟩
    refine ⟨by show 0 ≤ sizeLine; decide, fun f0 hf0 => ?_⟩
    have sf := same_new (o := .tup []) hf0
    refine ⟨_, rfl, _, rfl, s, a, b, 15, rfl, by decide, by decide, S0.keep sf, fun H1 d d0 d1 S1 b1 => ?_⟩
    obtain ⟨m, rfl⟩ : ∃ m : Nat, d = (m : Nat) := ⟨d.toNat, by omega⟩
    refine ⟨_, rfl, by omega, by omega, ?_⟩
    rw [Int.toNat_natCast]
    have b01 := (But2.of (s := s) (a := a) sf).trans b1
    have hf1 : SqT K H1 f0 (([] : List Int).map V.int) := b1.sq (S0.keep sf) (SqT.of upd_same)
    refine for_range (fun i σ A => ∃ (f : Addr) (ts : List Int) (v3 v4 : Option V), σ = [some (.ref s), some (.int 15), some (.ref f), v3, v4] ∧ SqT K A f (ts.map V.int) ∧ (∀ t ∈ ts, 0 ≤ t ∧ t ≤ 2) ∧ ts.length ≤ 200 * i ∧ Src A s a b ∧ But2 s a H A)
      ⟨f0, [], none, none, rfl, hf1, fun t m => (by cases m), Nat.zero_le _, S1, b01⟩ (fun i σ A hi hP => ?_) (fun σ A hP => ?_)
    · obtain ⟨f, ts, v3, v4, rfl, hf, rg, lt, SA, bA⟩ := hP
      refine ⟨_, rfl, s, a, b, rfl, SA, fun A1 p us ug ul hp S2 b2 => ?_⟩
      have hfA := b2.sq SA hf
      refine ⟨_, rfl, _, rfl, catG hfA hp (by omega) fun A2 r s3 hr => ?_⟩
      have S3 := S2.keep s3
      have rg2 : ∀ t ∈ ts ++ us, 0 ≤ t ∧ t ≤ 2 := fun t m => (List.mem_append.mp m).elim (rg t) (ug t)
      refine ⟨_, rfl, s, a, b, 3, rfl, by decide, by decide, S3, fun A3 d2 _ _ S4 b4 => ?_⟩
      have hr4 := b4.sq S3 hr
      have hp4 := b4.sq S3 (sameT s3 hp)
      have bAll := ((bA.trans b2).trans (.of s3)).trans b4
      have ll : (ts ++ us).length ≤ 200 * i + 100 := by rw [List.length_append]; omega
      refine ⟨rfl, _, rfl, ite2 (fun c => ?_) (fun c => ?_)⟩
      · refine ⟨_, rfl, _, rfl, catG hr4 hp4 (by omega) fun A5 r2 s5 hr2 => ?_⟩
        exact ⟨r2, _, _, _, rfl, hr2, fun t m => (List.mem_append.mp m).elim (rg2 t) (ug t), by rw [List.length_append]; omega, S4.keep s5, bAll.trans (.of s5)⟩
      · exact ⟨r, _, _, _, rfl, hr4, rg2, by omega, S4, bAll⟩
    · obtain ⟨f, ts, v3, v4, rfl, hf, rg, lt, SA, bA⟩ := hP
      exact ⟨_, rfl, kk A f ts ⟨rg, by omega⟩ (by omega) hf SA bA⟩
theorem ok_kind (T : Txt K mg) : FnOk P w K mg base CX0 1 T.a_kind T.d_kind ["_law_piece"] (sp_kind K) := by
  refine T.F_kind.ok sc_kind (fun vs H Q E h => ?_) (fun cdv A outer s H vs Q E hr h => ?_)
  · obtain ⟨v, x, y, ts, i, e, rfl, _⟩ := h
    rfl
  · obtain ⟨v, x, y, ts, i, e, rfl, ⟨p, rfl, hp⟩, ok, k⟩ := h
    refine ⟨_, (pss_cons (ps_if (PW.pt (pw_or (pt_not (pt_val (pe_callB call_isi (by rfl) T.z_isinstance (by decide +kernel) (pa_cons (pv 0) (pa_cons (pe_bltn (v := V.ty "tuple") (by rfl) T.z_tuple (by decide +kernel) rfl) pa_nil))))) (pw_or (pt_cmpR op_ne (pe_callB call_len_seq (by rfl) T.z_len PySem.boot_len (pa_cons (pv 0) pa_nil)) pe_int (nomark _)) (pw_or1 (pt_not (pt_val (pe_callB call_isi (by rfl) T.z_isinstance (by decide +kernel) (pa_cons (pe_ix ix_tup (pv 0) pe_int (fun _ _ => rfl)) (pa_cons (pe_bltn (v := V.ty "str") (by rfl) T.z_str (by decide +kernel) rfl) pa_nil)))))))))
        (pss_one (ps_ret pe_bl))
        pss_nil)
      (pss_cons (ps_if (pt_cmpR op_eq (pe_ix ix_tup (pv 0) pe_int (fun _ _ => rfl)) pe_str (nomark _))
        (pss_one (ps_ret (pe_callB call_isi (by rfl) T.z_isinstance (by decide +kernel) (pa_cons (pe_ix ix_tup (pv 0) pe_int (fun _ _ => rfl)) (pa_cons (pe_bltn (v := V.ty "str") (by rfl) T.z_str (by decide +kernel) rfl) pa_nil)))))
        pss_nil)
      (pss_one (ps_ret (pe_and (pe_callB call_isi (by rfl) T.z_isinstance (by decide +kernel) (pa_cons (pe_ix ix_tup (pv 0) pe_int (fun _ _ => rfl)) (pa_cons (pe_bltn (v := V.ty "int") (by rfl) T.z_int (by decide +kernel) rfl) pa_nil))) (pe_one (pe_not (pe_callB call_isi (by rfl) T.z_isinstance (by decide +kernel) (pa_cons (pe_ix ix_tup (pv 0) pe_int (fun _ _ => rfl)) (pa_cons (pe_bltn (v := V.ty "bool") (by rfl) T.z_bool (by decide +kernel) rfl) pa_nil)))))))))), ?_⟩
    refine ⟨_, rfl, _, _, _, _, true, rfl, .ty "tuple", .base (.tup hp), kit_ty (by decide +kernel), true, rfl, iteF ?_⟩
    refine ⟨_, rfl, _, _, rfl, .inr (SqT.of hp), rfl, _, rfl, ne_go (fun n => absurd rfl n) fun _ => ?_⟩
    have str : ∀ (w : Str), TyX K H (.str w) (.type "str") := fun w => .base (.str _)
    cases ok with
    | round hc _ N ec =>
      refine ⟨_, rfl, p, _, 0, _, rfl, rfl, SqT.of hp, atI_nat (j := 0) rfl, _, _, _, _, true, rfl, .ty "str", str _, kit_ty (by decide +kernel), true, rfl, iteF ?_⟩
      refine ⟨_, rfl, p, _, 0, _, rfl, rfl, SqT.of hp, atI_nat (j := 0) rfl, rfl, _, rfl, iteT ?_⟩
      exact ⟨_, rfl, p, _, 1, _, rfl, rfl, SqT.of hp, atI_nat (j := 1) rfl, _, _, _, _, true, rfl, .ty "str", str _, kit_ty (by decide +kernel), k⟩
    | _ =>
      refine ⟨_, rfl, p, _, 0, _, rfl, rfl, SqT.of hp, atI_nat (j := 0) rfl, _, _, _, _, true, rfl, .ty "str", str _, kit_ty (by decide +kernel), true, rfl, iteF ?_⟩
      refine ⟨_, rfl, p, _, 0, _, rfl, rfl, SqT.of hp, atI_nat (j := 0) rfl, rfl, _, rfl, iteF ?_⟩
      refine ⟨_, rfl, p, _, 1, _, rfl, rfl, SqT.of hp, atI_nat (j := 1) rfl, _, _, _, _, true, rfl, .ty "int", .base (.int _), kit_ty (by decide +kernel), true, rfl, iteT ?_⟩
      exact ⟨_, rfl, p, _, 1, _, rfl, rfl, SqT.of hp, atI_nat (j := 1) rfl, _, _, _, _, false, rfl, .ty "bool", .base (.int _), kit_ty (by decide +kernel), false, rfl, k⟩
end
end K24

namespace K24
open PySem L2 Wm TL Dv
section
variable {P : Program} {w : World} {K : PySem.W.Frag} {mg : Str → Option Value} {base : Heap}
theorem dp_nats {H : Hp} (ns : List Nat) : DpAll K H (ns.map fun (n : Nat) => V.int (n : Nat)) ((ns.map fun (n : Nat) => ((n : Nat) : Int)).map PyData.int) := by
  have := dp_ints (K := K) (H := H) (ns.map fun (n : Nat) => ((n : Nat) : Int))
  rw [List.map_map] at this
  exact this
theorem nei {x y : Int} (n : x ≠ y) : decide (V.int x = V.int y) = false := decide_eq_false fun z => n (V.int.inj z)
theorem ok_due (T : Txt K mg) : FnOk P w K mg base CX0 3 T.a_due T.d_due ["_law_tape_here", "_law_at", "_law_end"] (sp_due K) := by
  refine T.F_due.ok sc_due (fun vs H Q E h => ?_) (fun cdv A outer s H vs Q E hr h => ?_)
  · obtain ⟨p, ts, i, e, x, y, rfl, _⟩ := h
    rfl
  · obtain ⟨p, ts, i, e, x, y, rfl, hp, tp, hi, he, ok, k⟩ := h
    refine ⟨_, (pss_cons (ps_set (i := 3) sc_due.nd rfl (Or.inr rfl) (pe_slice sl_tupA (pv 0) (po_some (pv 1)) (po_some (pv 2))))
      (pss_cons (ps_set (i := 4) sc_due.nd rfl (Or.inl rfl) (pe_cmpR op_eq (pv 2) (pe_callB call_len_seq (by rfl) T.z_len PySem.boot_len (pa_cons (pv 0) pa_nil)) (nomark _)))
      (pss_cons (ps_if (pt_cmpR op_ne (pe_ix ix_tup (pv 3) pe_int (fun _ _ => rfl)) pe_int (nomark _))
        (pss_cons (ps_set (i := 5) sc_due.nd rfl (Or.inl rfl) (pe_and (pe_cmpR (op_eqD hr.units) (pv 3) (pe_op (show OpR _ _ (Tm.rRep1 K) from Tm.op_rep1) (pe_tup (pa_cons (pe_ix ix_tup (pv 3) pe_int (fun _ _ => rfl)) pa_nil)) (pe_callB call_len_seq (by rfl) T.z_len PySem.boot_len (pa_cons (pv 3) pa_nil))) (nomark _)) (pe_one (pe_or (pv 4) (pe_one (pe_cmpR op_ne (pe_ix ix_tup (pv 0) (pv 2) (fun _ _ => rfl)) (pe_ix ix_tup (pv 3) pe_int (fun _ _ => rfl)) (nomark _)))))))
        (pss_one (ps_ret (pe_ifExp (pt_val (pv 5)) (pe_tup (pa_cons (pe_ifExp (pt_cmpR op_eq (pe_ix ix_tup (pv 3) pe_int (fun _ _ => rfl)) pe_int (nomark _)) pe_str pe_str) (pa_cons (pe_op op_sub (pv 2) (pv 1)) pa_nil))) pe_non))))
        pss_nil)
      (pss_cons (ps_set (i := 6) sc_due.nd rfl (Or.inl rfl) (pe_call (ok_fives T) (hr.mono (by decide)) (by rfl) T.g_fives T.F_fives.kp T.b_fives .nil pass0 (pa_cons (pv 3) pa_nil)))
      (pss_cons (ps_if (PW.pt (pw_or (pt_cmpR op_in_seq pe_int (pv 3) rfl) (pw_or1 (pt_cmpR (op_neD hr.units) (pe_lc (own := [("_law_place", 7)]) (g := gName 7) rfl sc_due.nd (pi_list (pv 6)) (blkOk_by (own := [("_law_place", 7)]) (N := nm_due) (sc := (defScope s_due)) (by decide +kernel)) (fun _ _ _ _ _ => pg_name (i := 7) sc_due.nd rfl (Or.inl rfl)) (fun _ _ _ _ _ => (pts_one (pt_cmpR op_lt (pv 7) (pe_callB (show CallR _ _ (Kx.rLen K) from call_len_seq) (by rfl) T.z_len PySem.boot_len (pa_cons (pv 3) pa_nil)) (nomark _)))) (fun _ _ _ _ _ => (pv 7))) (pe_lst pa_nil) (nomark _)))))
        (pss_one (ps_ret pe_non))
        pss_nil)
      (pss_cons (ps_if (pt_cmpR (op_neD hr.units) (pv 6) (pe_lst pa_nil) (nomark _))
        (pss_cons (ps_set (i := 8) sc_due.nd rfl (Or.inl rfl) (pe_call (ok_word T) (hr.mono (by decide)) (by rfl) T.g_word T.F_word.kp T.b_word .nil pass0 (pa_cons (pv 3) pa_nil)))
        (pss_one (ps_ret (pe_ifExp (pt_cmpR op_isN (pv 8) pe_non (nomark _)) (pe_tup (pa_cons pe_str (pa_cons (pe_op op_sub (pv 2) (pv 1)) pa_nil))) (pe_tup (pa_cons pe_str (pa_cons (pv 8) pa_nil)))))))
        pss_nil)
      (pss_cons (ps_if (pt_val (pv 4))
        (pss_one (ps_ret (pe_tup (pa_cons pe_str (pa_cons (pe_op op_sub (pv 2) (pv 1)) pa_nil)))))
        pss_nil)
      (pss_one (ps_ret (pe_ifExp (pt_cmpR op_eq (pe_ix ix_tup (pv 0) (pv 2) (fun _ _ => rfl)) pe_int (nomark _)) (pe_tup (pa_cons pe_str (pa_cons (pe_op op_sub (pv 2) (pv 1)) pa_nil))) pe_non)))))))))), ?_⟩
    have en := endP_in hi
    rw [← he] at en
    have few := tp.few
    have cl := cut_len (ts := ts) (i := i) en.2
    have hc := List.getElem?_eq_getElem hi
    generalize ts[i] = c at hc
    have h0 : (cut ts i e)[0]? = some c := by rw [cut_at (by omega), Nat.add_zero]; exact hc
    refine ⟨_, rfl, _, rfl, _, rfl, _, rfl, _, rfl, slC hp en.2 (by omega) fun A q sA hq => ?_⟩
    have hpA := sameT sA hp
    refine ⟨_, rfl, _, rfl, _, _, rfl, .inr hpA, rfl, ?_⟩
    have i0 := atI_nat (j := 0) (mapi h0)
    have last : decide (V.int (e : Nat) = V.int ((ts.map V.int).length : Nat)) = decide (e = ts.length) := decide_eq_decide.mpr ⟨fun z => by have := V.int.inj z; rw [List.length_map] at this; omega, fun z => by rw [List.length_map, z]⟩
    rw [last]
    have pair : ∀ {B : Hp} (w : Str), Same H B → x = .str w → y = .int ((e : Int) - i) → ∀ r, B r = none → Q (.ref r) (upd B r (.tup [.str w, .int (((e : Nat) : Int) - (i : Nat))])) := fun w sB ex ey r hr => k _ _ (sB.trans (same_new hr)) ⟨r, rfl, by rw [ex, ey]; exact upd_same⟩
    by_cases c1 : c = 1
    · subst c1
      refine ⟨_, rfl, q, _, 0, _, rfl, rfl, hq, i0, rfl, _, rfl, ne_go (fun n => absurd rfl n) fun _ => ?_⟩
      obtain ⟨t1, t2, t3, t4⟩ := brk_told tp hc
      rw [← he] at t1 t2 t3 t4
      refine ⟨_, rfl, q, cut ts i e, rfl, hq, by rw [cl]; omega, fun B D sB hD => ?_⟩
      have hqB := sameT sB hq
      refine ⟨_, rfl, q, _, rfl, .inr hqB, rfl, flat_map _, _, rfl, ?_⟩
      rw [inV_int, decide_eq_false t1]
      refine iteF ?_
      refine ⟨_, rfl, D, rfl, ⟨_, SqL.of hD⟩, fun L hL => ?_⟩
      refine lc_list (xs := (fives (cut ts i e)).map fun (n : Nat) => V.int (n : Nat)) (fun j A' => Same B A' ∧ A' L = some (.lst [])) ⟨same_new hL, upd_same⟩ (fun j A' _ hP => SqL.of (hP.1 _ _ hD)) (fun j z A' hz hP => ?_) (fun A' hP => ?_)
      · obtain ⟨s1, hL1⟩ := hP
        rw [List.getElem?_map] at hz
        obtain ⟨n, hn, rfl⟩ := Option.map_eq_some_iff.mp hz
        have en2 := t2 n (List.mem_of_getElem? hn)
        refine ⟨rfl, _, rfl, _, rfl, _, _, rfl, .inr (sameT s1 hqB), _, _, rfl, rfl, ?_⟩
        have lt0 : decide (((n : Nat) : Int) < (((cut ts i e).map V.int).length : Nat)) = false := decide_eq_false (by rw [List.length_map]; omega)
        exact ⟨_, rfl, ifF lt0 ⟨s1, hL1⟩⟩
      · obtain ⟨s1, hL1⟩ := hP
        have sAA := (sA.trans sB).trans s1
        refine ⟨by show 0 ≤ sizeLine; decide, fun M hM => ?_⟩
        have s2 := same_new (o := .lst []) hM
        refine ⟨.list [], .list [], .lst (SqL.of (s2 _ _ hL1)) .nil, .lst (SqL.of upd_same) .nil, by decide, by decide, _, rfl, iteF ?_⟩
        have sM := sAA.trans s2
        have hD2 := s2 _ _ (s1 _ _ hD)
        have hq2 := sameT (s1.trans s2) hqB
        generalize upd A' M (.lst []) = A2 at sM hD2 hq2 ⊢
        refine ⟨_, rfl, by show 0 ≤ sizeLine; decide, fun M2 hM2 => ?_⟩
        have s3 := same_new (o := .lst []) hM2
        refine ⟨_, _, .lst (SqL.of (s3 _ _ hD2)) (dp_nats _), .lst (SqL.of upd_same) .nil, shaped_il _, by decide, _, rfl, ?_⟩
        rw [eqv_nil]
        have sM3 := sM.trans s3
        have hq3 := sameT s3 hq2
        generalize upd A2 M2 (.lst []) = A3 at sM3 hq3 ⊢
        by_cases f0 : fives (cut ts i e) = []
        · have m1 := t3.mp f0
          refine ifF (by simp [f0]) ⟨_, rfl, _, rfl, ?_⟩
          cases ok with
          | key z => rw [hc] at z; exact absurd (Option.some.inj z) (by decide)
          | quiet z => rw [hc] at z; exact absurd (Option.some.inj z) (by decide)
          | odd _ z => exact absurd m1 z
          | round _ z => exact absurd m1 z
          | begun _ _ z =>
            rw [decide_eq_true z]
            exact iteT ⟨_, rfl, _, rfl, _, _, rfl, rfl, by show 2 ≤ sizeLine; decide, pair "begun" sM3 rfl rfl⟩
          | spoilt _ _ z =>
            rw [decide_eq_false z]
            have h2 := (t4 m1).resolve_left z
            refine iteF ⟨_, rfl, _, rfl, p, _, _, _, rfl, rfl, sameT sM3 hp, atI_nat (j := e) (mapi h2), rfl, _, rfl, iteT ?_⟩
            exact ⟨_, rfl, _, rfl, _, _, rfl, rfl, by show 2 ≤ sizeLine; decide, pair "spoilt" sM3 rfl rfl⟩
        · have m1 : (1 : Int) ∉ last5 (cut ts i e) := fun z => f0 (t3.mpr z)
          refine ifT (by simp [f0]) ⟨_, rfl, q, cut ts i e, rfl, hq3, by rw [cl]; omega, fun C v sC tv => ?_⟩
          have sC3 := sM3.trans sC
          cases ok with
          | key z => rw [hc] at z; exact absurd (Option.some.inj z) (by decide)
          | quiet z => rw [hc] at z; exact absurd (Option.some.inj z) (by decide)
          | begun _ z => exact absurd z m1
          | spoilt _ z => exact absurd z m1
          | odd _ _ no =>
            have ev : v = .non := by
              rcases tv with ⟨ds, N, z, _⟩ | ⟨_, z⟩
              · exact absurd (map_int_inj z) (no ds N)
              · exact z
            subst ev
            exact ⟨_, rfl, rfl, _, rfl, iteT ⟨_, rfl, _, rfl, _, _, rfl, rfl, by show 2 ≤ sizeLine; decide, pair "odd" sC3 rfl rfl⟩⟩
          | @round ds _ _ N z =>
            rw [z] at tv
            have ev := Told.row N tv
            subst ev
            refine ⟨_, rfl, rfl, _, rfl, ?_⟩
            rw [show decide (V.str (numS ds) = V.non) = false from decide_eq_false fun z => V.noConfusion z]
            exact iteF ⟨_, rfl, by show 2 ≤ sizeLine; decide, fun r hr => k _ _ (sC3.trans (same_new hr)) ⟨r, rfl, upd_same⟩⟩
    · refine ⟨_, rfl, q, _, 0, _, rfl, rfl, hq, i0, rfl, _, rfl, ne_go (fun _ => ?_) fun z => absurd (V.int.inj z) c1⟩
      obtain ⟨r1, r2⟩ := run_told hc c1
      rw [← he] at r1 r2
      refine ⟨_, rfl, ?_⟩
      refine ⟨_, rfl, q, _, 0, _, rfl, rfl, hq, i0, by show 1 ≤ sizeLine; decide, fun r hr => ?_⟩
      have sr := same_new (o := .tup [.int c]) hr
      have hqr := sameT sr hq
      refine ⟨_, rfl, _, _, rfl, .inr hqr, ?_⟩
      refine rep1 (n := e - i) (SqT.of upd_same) (by rw [List.length_map, cl]) (by omega) (by omega) fun B r3 sB hr3 => ?_
      refine eqT (sameT sB hqr) hr3 ⟨_, rfl, ?_⟩
      rw [decide_eq_true r1]
      refine iteT ?_
      have sBB := (sA.trans sr).trans sB
      have hqB := sameT sB hqr
      have hpB := sameT sBB hp
      rcases Classical.em (e = ts.length) with el | el
      all_goals first
        | refine ⟨_, rfl, _, rfl, ifT (decide_eq_true el) ?_⟩
        | (obtain ⟨d, hd, nd⟩ := r2.resolve_left el
           refine ⟨_, rfl, _, rfl, ifF (decide_eq_false el) ⟨_, rfl, _, rfl, p, _, _, _, rfl, rfl, hpB, atI_nat (j := e) (mapi hd), _, rfl, q, _, 0, _, rfl, rfl, hqB, i0, rfl, ?_⟩⟩
           rw [nei nd])
      all_goals
        cases ok with
        | key z =>
          have c2 : c = 2 := by rw [hc] at z; exact Option.some.inj z
          subst c2
          exact ⟨_, rfl, _, rfl, ifT rfl ⟨_, rfl, q, _, 0, _, rfl, rfl, hqB, i0, rfl, _, rfl, ifT (decide_eq_true rfl) ⟨_, rfl, _, rfl, _, _, rfl, rfl, by show 2 ≤ sizeLine; decide, pair "key" sBB rfl rfl⟩⟩⟩
        | quiet z =>
          have c2 : c = 0 := by rw [hc] at z; exact Option.some.inj z
          subst c2
          exact ⟨_, rfl, _, rfl, ifT rfl ⟨_, rfl, q, _, 0, _, rfl, rfl, hqB, i0, rfl, _, rfl, ifF (nei (by decide)) ⟨_, rfl, _, rfl, _, _, rfl, rfl, by show 2 ≤ sizeLine; decide, pair "quiet" sBB rfl rfl⟩⟩⟩
        | begun z => rw [hc] at z; exact absurd (Option.some.inj z) c1
        | spoilt z => rw [hc] at z; exact absurd (Option.some.inj z) c1
        | odd z => rw [hc] at z; exact absurd (Option.some.inj z) c1
        | round z => rw [hc] at z; exact absurd (Option.some.inj z) c1
end
end K24

namespace K24
open PySem L2 Wm TL Dv
section
variable {P : Program} {w : World} {K : PySem.W.Frag} {mg : Str → Option Value} {base : Heap}
theorem str_fine {n : Nat} {t : Str} (h : ∀ c ∈ tl t, c < 1114112) : Fine n (.str t) := by
  refine ⟨?_, Nat.zero_le _⟩
  show PyData.strOk t = true
  unfold PyData.strOk
  rw [← Array.all_toList, List.all_eq_true]
  exact fun c m => decide_eq_true (h c m)
theorem num_fine {n : Nat} {ds : List Nat} (N : Num ds) : Fine n (.str (numS ds)) := str_fine fun c m => by
  have m : c ∈ codes ds := m
  obtain ⟨d, md, rfl⟩ := List.mem_map.mp m
  have := (N.dig d md).2
  omega
theorem int_fine {n : Nat} (i : Int) : Fine n (.int i) := ⟨rfl, Nat.zero_le _⟩
theorem pair_fine {a b : PyData} (h : Fine 0 a) (g : Fine 0 b) : Fine 1 (.tuple [a, b]) := by
  refine ⟨?_, ?_⟩
  · simp only [PyData.canLay0, PyData.canLayAll0, h.1, g.1, Bool.and_self]
  · have := h.2
    have := g.2
    simp only [PyData.depth, PyData.depthAll]
    omega
theorem pc_data {ts : List Int} {i e : Nat} {x y : V} (ok : PcOk ts i e x y) : ∃ d, Fine 1 d ∧ ∀ (A : Hp) (v : V), PcAt A v x y → Dp K A v d := by
  have go : ∀ {w : Str} {b : V} {dv : PyData}, (∀ c ∈ tl w, c < 1114112) → Fine 0 dv → (∀ A, Dp K A b dv) → ∃ d, Fine 1 d ∧ ∀ (A : Hp) (v : V), PcAt A v (.str w) b → Dp K A v d := fun {w b dv} hw hf hd =>
    ⟨.tuple [.str w, dv], pair_fine (str_fine hw) hf, fun A v ⟨p, e1, q⟩ => by rw [e1]; exact .tup (SqT.of q) (.cons (.str _) (.cons (hd A) .nil))⟩
  cases ok with
  | key => exact go (by decide +kernel) (int_fine _) fun A => .int _
  | quiet => exact go (by decide +kernel) (int_fine _) fun A => .int _
  | begun => exact go (by decide +kernel) (int_fine _) fun A => .int _
  | spoilt => exact go (by decide +kernel) (int_fine _) fun A => .int _
  | odd => exact go (by decide +kernel) (int_fine _) fun A => .int _
  | round _ _ N => exact go (by decide +kernel) (num_fine N) fun A => .str _
theorem pc_uniq {ts : List Int} {i e : Nat} {x y x' y' : V} (a : PcOk ts i e x y) (b : PcOk ts i e x' y') : x = x' ∧ y = y' := by
  have ne : ∀ {u v : Int}, ts[i]? = some u → ts[i]? = some v → u ≠ v → False := fun h g n => n (Option.some.inj (h.symm.trans g))
  cases a with
  | key h => cases b with
    | key => exact ⟨rfl, rfl⟩
    | quiet g => exact (ne h g (by decide)).elim
    | begun g => exact (ne h g (by decide)).elim
    | spoilt g => exact (ne h g (by decide)).elim
    | odd g => exact (ne h g (by decide)).elim
    | round g => exact (ne h g (by decide)).elim
  | quiet h => cases b with
    | key g => exact (ne h g (by decide)).elim
    | quiet => exact ⟨rfl, rfl⟩
    | begun g => exact (ne h g (by decide)).elim
    | spoilt g => exact (ne h g (by decide)).elim
    | odd g => exact (ne h g (by decide)).elim
    | round g => exact (ne h g (by decide)).elim
  | begun h h2 h3 => cases b with
    | key g => exact (ne h g (by decide)).elim
    | quiet g => exact (ne h g (by decide)).elim
    | begun => exact ⟨rfl, rfl⟩
    | spoilt _ _ g => exact absurd h3 g
    | odd _ g => exact absurd h2 g
    | round _ g => exact absurd h2 g
  | spoilt h h2 h3 => cases b with
    | key g => exact (ne h g (by decide)).elim
    | quiet g => exact (ne h g (by decide)).elim
    | begun _ _ g => exact absurd g h3
    | spoilt => exact ⟨rfl, rfl⟩
    | odd _ g => exact absurd h2 g
    | round _ g => exact absurd h2 g
  | odd h h2 h3 => cases b with
    | key g => exact (ne h g (by decide)).elim
    | quiet g => exact (ne h g (by decide)).elim
    | begun _ g => exact absurd g h2
    | spoilt _ g => exact absurd g h2
    | odd => exact ⟨rfl, rfl⟩
    | round _ _ N g => exact absurd g (h3 _ N)
  | round h h2 N h3 => cases b with
    | key g => exact (ne h g (by decide)).elim
    | quiet g => exact (ne h g (by decide)).elim
    | begun _ g => exact absurd g h2
    | spoilt _ g => exact absurd g h2
    | odd _ _ g => exact absurd h3 (g _ N)
    | round _ _ M g =>
      have := row_inj N M (by rw [← h3, ← g])
      rw [this]
      exact ⟨rfl, rfl⟩
theorem Pcs.uniq {ts : List Int} {k k' : Nat} {cs cs' : List (V × V)} (h : Pcs ts k cs) (g : Pcs ts k' cs') (e : posP ts k = ts.length) (e' : posP ts k' = ts.length) : cs = cs' := by
  have kk : k = k' := by
    rcases Nat.lt_trichotomy k k' with l | l | l
    · have := g.lt k l; omega
    · exact l
    · have := h.lt k' l; omega
  subst kk
  refine List.ext_getElem? fun j => ?_
  by_cases l : j < k
  · have a := List.getElem?_eq_getElem (show j < cs.length by rw [h.len]; exact l)
    have b := List.getElem?_eq_getElem (show j < cs'.length by rw [g.len]; exact l)
    rw [a, b]
    generalize cs[j]'(by rw [h.len]; exact l) = c1 at a
    generalize cs'[j]'(by rw [g.len]; exact l) = c2 at b
    obtain ⟨u1, u2⟩ := pc_uniq (h.at_ j c1.1 c1.2 a) (g.at_ j c2.1 c2.2 b)
    exact congrArg some (Prod.ext u1 u2)
  · rw [List.getElem?_eq_none (by rw [h.len]; omega), List.getElem?_eq_none (by rw [g.len]; omega)]
theorem all_fine {ds : List PyData} (h : ∀ d ∈ ds, Fine 1 d) : Fine 2 (.tuple ds) := fine_tup h
theorem pcs_data : ∀ {cs : List (V × V)}, (∀ c ∈ cs, ∃ ts i e, PcOk ts i e c.1 c.2) → ∃ ds, (∀ d ∈ ds, Fine 1 d) ∧ ∀ (A : Hp) (us : List V), PcsAt A us cs → DpAll K A us ds
  | [], _ => ⟨[], fun d m => (by cases m), fun A us h => (by cases h; exact .nil)⟩
  | c :: cs, h => by
    obtain ⟨ds, f, g⟩ := pcs_data (cs := cs) fun x m => h x (List.mem_cons_of_mem _ m)
    obtain ⟨ts, i, e, ok⟩ := h c List.mem_cons_self
    obtain ⟨d, fd, gd⟩ := pc_data (K := K) ok
    refine ⟨d :: ds, fun x m => ?_, fun A us hu => ?_⟩
    · rcases List.mem_cons.mp m with z | m
      · rw [z]; exact fd
      · exact f x m
    · cases hu with
      | cons a b => exact .cons (gd A _ a) (g A _ b)
theorem Pcs.oks {ts : List Int} {k : Nat} {cs : List (V × V)} (h : Pcs ts k cs) : ∀ c ∈ cs, ∃ ts i e, PcOk ts i e c.1 c.2 := fun c m => by
  obtain ⟨j, hj, e⟩ := List.mem_iff_getElem.mp m
  exact ⟨ts, _, _, h.at_ j c.1 c.2 (by rw [List.getElem?_eq_getElem hj, e])⟩
theorem rds_data {ts : List Int} : ∀ {cs : List (V × V)} (j : Nat), (∀ c ∈ cs, ∃ ts i e, PcOk ts i e c.1 c.2) → ∃ ds, (∀ d ∈ ds, Fine 1 d) ∧ ∀ (A : Hp) (us : List V), RdsAt A us (rnds ts cs j) → DpAll K A us ds
  | [], _, _ => ⟨[], fun d m => (by cases m), fun A us h => (by cases h; exact .nil)⟩
  | c :: cs, j, h => by
    obtain ⟨ds, f, g⟩ := rds_data (ts := ts) (cs := cs) (j + 1) fun x m => h x (List.mem_cons_of_mem _ m)
    obtain ⟨ts', i, e, ok⟩ := h c List.mem_cons_self
    by_cases r : c.1 = .str "round"
    · have er : rnds ts (c :: cs) j = (((posP ts (j + 1) : Nat) : Int) - 1, c.2) :: rnds ts cs (j + 1) := by
        show (if c.1 = .str "round" then _ else []) ++ _ = _
        rw [if_pos r]
        rfl
      obtain ⟨es, N, ey⟩ : ∃ es, Num es ∧ c.2 = .str (numS es) := by
        obtain ⟨x, y⟩ := c
        cases ok with
        | round _ _ N => exact ⟨_, N, rfl⟩
        | _ => cases V.str.inj r
      refine ⟨.tuple [.int (((posP ts (j + 1) : Nat) : Int) - 1), .str (numS es)] :: ds, fun x m => ?_, fun A us hu => ?_⟩
      · rcases List.mem_cons.mp m with z | m
        · rw [z]; exact pair_fine (int_fine _) (num_fine N)
        · exact f x m
      · rw [er, ey] at hu
        cases hu with
        | cons a b => exact .cons (.tup (SqT.of a) (.cons (.int _) (.cons (.str _) .nil))) (g A _ b)
    · have er : rnds ts (c :: cs) j = rnds ts cs (j + 1) := by
        show (if c.1 = .str "round" then _ else []) ++ _ = _
        rw [if_neg r]
        rfl
      exact ⟨ds, f, fun A us hu => g A us (by rw [er] at hu; exact hu)⟩
end
end K24

namespace K24
open PySem L2 Wm TL Dv
section
variable {P : Program} {w : World} {K : PySem.W.Frag} {mg : Str → Option Value} {base : Heap}
theorem pos_int (ts : List Int) (k : Nat) : ((posP ts k : Nat) : Int) + (((posP ts (k + 1) : Nat) : Int) - (posP ts k : Nat)) = ((posP ts (k + 1) : Nat) : Int) := by omega
theorem ok_walk (T : Txt K mg) : FnOk P w K mg base CX0 11 T.a_walk T.d_walk ["_law_tape_here"] (sp_walk K) := by
  refine T.F_walk.ok sc_walk (fun vs H Q E h => ?_) (fun cdv A outer s H vs Q E hr h => ?_)
  · obtain ⟨p, ts, rfl, _⟩ := h
    rfl
  · obtain ⟨p, ts, rfl, hp, tp, kk⟩ := h
    refine ⟨_, (pss_cons (ps_set (i := 1) sc_walk.nd rfl (Or.inl rfl) pe_int)
      (pss_cons (ps_set (i := 2) sc_walk.nd rfl (Or.inl rfl) (pe_lst pa_nil))
      (pss_cons (ps_set (i := 3) sc_walk.nd rfl (Or.inl rfl) (pe_lst pa_nil))
      (pss_cons (Lg.ps_forG PassesOwn.never rfl rfl rfl (fun _ => rfl) rfl (by decide +kernel) (hr.mono (by decide)) (Lg.pgen3_call (ok3_walk_pieces T) (hr.mono (by decide)) (by rfl) T.g_walk_pieces T.F_walk_pieces.kp T.b_walk_pieces .nil (pa_cons (pv 0) pa_nil)) passF noStopF (pg_tup rfl (pgs_cons (pg_name (i := 4) sc_walk.nd rfl (Or.inl rfl)) (pgs_cons (pg_name (i := 5) sc_walk.nd rfl (Or.inl rfl)) pgs_nil))) (pss_cons (ps_if (PW.pt (pw_or (pt_cmpR op_ne (pv 4) (pv 1) (nomark _)) (pw_or1 (pt_not (pt_val (pe_call (ok_kind T) (hr.mono (by decide)) (by rfl) T.g_kind T.F_kind.kp T.b_kind .nil pass0 (pa_cons (pv 5) pa_nil)))))))
          (pss_one (ps_ret pe_bl))
          pss_nil)
        (pss_cons (ps_set (i := 6) sc_walk.nd rfl (Or.inl rfl) (pe_op op_add (pv 1) (pe_call (ok_piece_ticks T) (hr.mono (by decide)) (by rfl) T.g_piece_ticks T.F_piece_ticks.kp T.b_piece_ticks .nil pass0 (pa_cons (pv 5) pa_nil))))
        (pss_cons (ps_if (PW.pt (pw_or (pt_not (pt_chain op_lt op_le (pv 1) (pv 6) (pe_callB call_len_seq (by rfl) T.z_len PySem.boot_len (pa_cons (pv 0) pa_nil)))) (pw_or1 (pt_cmpR (op_neD hr.units) (pe_call (ok_due T) (hr.mono (by decide)) (by rfl) T.g_due T.F_due.kp T.b_due .nil pass0 (pa_cons (pv 0) (pa_cons (pv 1) (pa_cons (pv 6) pa_nil)))) (pv 5) (nomark _)))))
          (pss_one (ps_ret pe_bl))
          pss_nil)
        (pss_cons (ps_expr (pe_bm PySem.F.plainAttrs_list PySem.F.slot_list_append PySem.F.type_list_append mt_append (pv 2) (pa_cons (pv 5) pa_nil)))
        (C8.pss_cut (ps_if (pt_cmpR op_eq (pe_ix ix_tup (pv 5) pe_int (fun _ _ => rfl)) pe_str (nomark _))
          (pss_one (ps_expr (pe_bm PySem.F.plainAttrs_list PySem.F.slot_list_append PySem.F.type_list_append mt_append (pv 3) (pa_cons (pe_tup (pa_cons (pe_op op_sub (pv 6) pe_int) (pa_cons (pe_ix ix_tup (pv 5) pe_int (fun _ _ => rfl)) pa_nil))) pa_nil))))
          pss_nil)
        (pss_one (ps_set (i := 1) sc_walk.nd rfl (Or.inl rfl) (pv 6)))))))))
      (pss_cons (ps_set (i := 7) sc_walk.nd rfl (Or.inl rfl) (pe_call (ok_pieces T) (hr.mono (by decide)) (by rfl) T.g_pieces T.F_pieces.kp T.b_pieces .nil pass0 (pa_cons (pv 0) pa_nil)))
      (pss_cons (ps_set (i := 8) sc_walk.nd rfl (Or.inl rfl) (pe_call (ok_rounds_on T) (hr.mono (by decide)) (by rfl) T.g_rounds_on T.F_rounds_on.kp T.b_rounds_on .nil pass0 (pa_cons (pv 0) pa_nil)))
      (pss_cons (ps_if (PW.pt (pw_or (pt_not (pt_val (pe_callB call_isi (by rfl) T.z_isinstance (by decide +kernel) (pa_cons (pv 7) (pa_cons (pe_bltn (v := V.ty "tuple") (by rfl) T.z_tuple (by decide +kernel) rfl) pa_nil))))) (pw_or1 (pt_not (pt_val (pe_callB call_isi (by rfl) T.z_isinstance (by decide +kernel) (pa_cons (pv 8) (pa_cons (pe_bltn (v := V.ty "tuple") (by rfl) T.z_tuple (by decide +kernel) rfl) pa_nil))))))))
        (pss_one (ps_ret pe_bl))
        pss_nil)
      (pss_one (ps_ret (pe_and (pe_cmpR op_eq (pv 1) (pe_callB call_len_seq (by rfl) T.z_len PySem.boot_len (pa_cons (pv 0) pa_nil)) (nomark _)) (pe_and (pe_cmpR (op_eqD hr.units) (pv 7) (pe_callTy call_tuple_of (by rfl) T.z_tuple (by decide +kernel) (pa_cons (pv 2) pa_nil)) (nomark _)) (pe_one (pe_cmpR (op_eqD hr.units) (pv 8) (pe_callTy call_tuple_of (by rfl) T.z_tuple (by decide +kernel) (pa_cons (pv 3) pa_nil)) (nomark _)))))))))))))), ?_⟩
    have few := tp.few
    refine ⟨by show 0 ≤ sizeLine; decide, fun TL hTL => ?_⟩
    have s1 := same_new (o := .lst []) hTL
    have e1 : upd H TL (.lst []) TL = some (.lst []) := upd_same
    generalize upd H TL (.lst []) = H1 at s1 e1 ⊢
    refine ⟨by show 0 ≤ sizeLine; decide, fun RL hRL => ?_⟩
    have s2 := same_new (o := .lst []) hRL
    have e2 : upd H1 RL (.lst []) RL = some (.lst []) := upd_same
    have neL : TL ≠ RL := fun z => by rw [z, hRL] at e1; cases e1
    have e1' := s2 _ _ e1
    have hRL0 : H RL = none := by
      cases q : H RL with
      | none => rfl
      | some o => rw [s1 _ _ q] at hRL; cases hRL
    generalize upd H1 RL (.lst []) = H2 at s2 e2 e1' ⊢
    have s12 := s1.trans s2
    refine ⟨_, rfl, rfl, ?_⟩
    refine ⟨p, ts, fun k γ A => Same H A ∧ (∃ v4 v5 v6 v7 v8, γ = [some (.ref p), some (.int (posP ts k : Nat)), some (.ref TL), some (.ref RL), v4, v5, v6, v7, v8]) ∧ ∃ us rs cs, A TL = some (.lst us) ∧ PcsAt A us cs ∧ Pcs ts k cs ∧ A RL = some (.lst rs) ∧ RdsAt A rs (rnds ts cs 0), fun q => q = TL ∨ q = RL, rfl, sameT s12 hp, tp,
      ⟨s12, ⟨none, none, none, none, none, rfl⟩, [], [], [], e1', .nil, Pcs.nil ts, e2, .nil⟩, fun k γ A h q z => ?_, fun k n γ A A' v w x y lt hP t1 hv hw ok => ?_, fun k γ A A' he hP t1 => ?_⟩
    · obtain ⟨_, _, us, rs, cs, a, _, _, b, _⟩ := h
      rcases z with z | z
      · exact ⟨.lst us, by rw [z]; exact a, trivial⟩
      · exact ⟨.lst rs, by rw [z]; exact b, trivial⟩
    · obtain ⟨sA, ⟨v4, v5, v6, v7, v8, rfl⟩, us, rs, cs, hT, pc, pk, hR, rd⟩ := hP
      obtain ⟨r, rfl, hr⟩ := hv
      have fu := pk.few
      have lu := pc.len
      have lr := rd.len
      have ln := rnds_len ts cs 0
      have lk := pk.len
      have hT1 := t1 _ _ hT
      have hR1 := t1 _ _ hR
      have sA1 := sA.trans t1
      have hpA := sameT sA1 hp
      obtain ⟨p2, rfl, hp2⟩ := id hw
      obtain ⟨w0, rfl⟩ := eq_str_of ok
      have en := pos_mono lt
      have ple := pos_le ts (k + 1)
      have snoc := rnds_snoc ts (.str w0, y) cs 0
      rw [lk, Nat.zero_add] at snoc
      refine ⟨_, fun _ _ h => h, r, _, rfl, SqT.of hr, rfl, _, _, rfl, _, _, rfl, rfl, ?_⟩
      refine ⟨_, rfl, _, rfl, rfl, _, rfl, ne_go (fun n => absurd rfl n) fun _ => ⟨_, rfl, _, _, _, ts, _, _, rfl, hw, ok, _, rfl, iteF ?_⟩⟩
      refine ⟨_, rfl, _, rfl, _, _, _, ts, _, _, rfl, hw, ok, by omega, ple, fun A2 t2 => ⟨_, _, rfl, rfl, ?_⟩⟩
      (try dsimp only)
      rw [pos_int]
      have pc2 := (pc.k t1).k t2
      have rd2 := (rd.k t1).k t2
      have hT2 := t2 _ _ hT1
      have hR2 := t2 _ _ hR1
      refine ⟨_, rfl, _, rfl, _, _, rfl, rfl, _, rfl, ifT (decide_eq_true (by omega)) ⟨_, rfl, _, _, rfl, .inr (sameT t2 hpA), _, _, rfl, rfl, _, rfl, ifF (by rw [decide_eq_true (by rw [List.length_map]; omega)]; rfl) ?_⟩⟩
      refine ⟨_, rfl, _, rfl, _, rfl, p, ts, posP ts k, posP ts (k + 1), .str w0, y, rfl, sameT t2 hpA, tp, lt, rfl, ok, fun A3 v3 t3 pc3 => ?_⟩
      obtain ⟨d, fd, gd⟩ := pc_data (K := K) ok
      have hw3 := (hw.k t2).k t3
      refine ⟨_, rfl, d, d, gd _ _ pc3, gd _ _ hw3, fd.shaped (by decide), fd.shaped (by decide), _, rfl, ?_⟩
      rw [fd.refl]
      refine iteF ?_
      have hT3 := t3 _ _ hT2
      have hR3 := t3 _ _ hR2
      have t13 := (t1.trans t2).trans t3
      refine ⟨_, rfl, .inl ⟨rfl, _, SqL.of hT3⟩, _, rfl, TL, _, _, rfl, rfl, hT3, small6 (by omega), ?_⟩
      have offT : ∀ q o, q ≠ TL → A3 q = some o → upd A3 TL (.lst (us ++ [.ref p2])) q = some o := fun q o n e => by rw [upd_ne n]; exact e
      have eT : upd A3 TL (.lst (us ++ [.ref p2])) TL = some (.lst (us ++ [.ref p2])) := upd_same
      have pc4 : PcsAt (upd A3 TL (.lst (us ++ [.ref p2]))) (us ++ [.ref p2]) (cs ++ [(.str w0, y)]) := ((pc2.k t3).lk hT3 offT).app (.cons ⟨p2, rfl, offT _ _ (fun z => by rw [z] at hp2; rw [hp2] at hT1; cases hT1) ((t2.trans t3) _ _ hp2)⟩ .nil)
      have rd4 := (rd2.k t3).lk hT3 offT
      have hR4 := offT _ _ (Ne.symm neL) hR3
      have hp4 : upd A3 TL (.lst (us ++ [.ref p2])) p2 = some (.tup [.str w0, y]) := offT _ _ (fun z => by rw [z] at hp2; rw [hp2] at hT1; cases hT1) ((t2.trans t3) _ _ hp2)
      have bt4 : ∀ q o, q ≠ TL → A' q = some o → upd A3 TL (.lst (us ++ [.ref p2])) q = some o := fun q o n e => offT q o n ((t2.trans t3) _ _ e)
      generalize upd A3 TL (.lst (us ++ [.ref p2])) = A4 at eT pc4 rd4 hR4 hp4 bt4 ⊢
      refine ⟨fun σ B => (∃ v4 v5 v7 v8, σ = [some (.ref p), some (.int (posP ts k : Nat)), some (.ref TL), some (.ref RL), v4, v5, some (.int (posP ts (k + 1) : Nat)), v7, v8]) ∧ (∀ q o, q ≠ TL → q ≠ RL → A' q = some o → B q = some o) ∧ ∃ rs, B TL = some (.lst (us ++ [.ref p2])) ∧ PcsAt B (us ++ [.ref p2]) (cs ++ [(.str w0, y)]) ∧ B RL = some (.lst rs) ∧ RdsAt B rs (rnds ts (cs ++ [(.str w0, y)]) 0), ?_, ?_⟩
      · refine ⟨_, rfl, p2, _, 0, _, rfl, rfl, SqT.of hp4, atI_nat (j := 0) rfl, rfl, _, rfl, ite2 (fun c => ?_) (fun c => ?_)⟩
        · have c := of_decide_eq_true c
          refine ⟨_, rfl, .inl ⟨rfl, _, SqL.of hR4⟩, _, rfl, _, _, rfl, rfl, _, rfl, p2, _, 1, _, rfl, rfl, SqT.of hp4, atI_nat (j := 1) rfl, by show 2 ≤ sizeLine; decide, fun t ht => ?_⟩
          have t5 := same_new (o := .tup [.int (((posP ts (k + 1) : Nat) : Int) - 1), y]) ht
          have e5 : upd A4 t (.tup [.int (((posP ts (k + 1) : Nat) : Int) - 1), y]) t = some (.tup [.int (((posP ts (k + 1) : Nat) : Int) - 1), y]) := upd_same
          refine ⟨RL, _, _, rfl, rfl, t5 _ _ hR4, small6 (by omega), ?_⟩
          have hR5 := t5 _ _ hR4
          have hT5 := t5 _ _ eT
          have pc5 := pc4.k t5
          have rd5 := rd4.k t5
          have bt5 : ∀ q o, q ≠ TL → A' q = some o → upd A4 t (.tup [.int (((posP ts (k + 1) : Nat) : Int) - 1), y]) q = some o := fun q o n e => t5 _ _ (bt4 q o n e)
          generalize upd A4 t (.tup [.int (((posP ts (k + 1) : Nat) : Int) - 1), y]) = A5 at e5 hR5 hT5 pc5 rd5 bt5 ⊢
          have offR : ∀ q o, q ≠ RL → A5 q = some o → upd A5 RL (.lst (rs ++ [.ref t])) q = some o := fun q o n e => by rw [upd_ne n]; exact e
          refine ⟨⟨_, _, _, _, rfl⟩, fun q o n1 n2 e => offR q o n2 (bt5 q o n1 e), rs ++ [.ref t], offR _ _ neL hT5, pc5.lk hR5 offR, upd_same, ?_⟩
          rw [snoc, show rnds ts [(V.str w0, y)] k = [(((posP ts (k + 1) : Nat) : Int) - 1, y)] from by show (if V.str w0 = .str "round" then _ else []) ++ [] = _; rw [if_pos c]; rfl]
          exact (rd5.lk hR5 offR).app (.cons (offR _ _ (fun z => by rw [z, hR5] at e5; cases e5) e5) .nil)
        · have c : ¬ V.str w0 = .str "round" := fun z => c (decide_eq_true z)
          refine ⟨⟨_, _, _, _, rfl⟩, fun q o n1 _ e => bt4 q o n1 e, rs, eT, pc4, hR4, ?_⟩
          rw [snoc, show rnds ts [(V.str w0, y)] k = [] from by show (if V.str w0 = .str "round" then _ else []) ++ [] = []; rw [if_neg c]; rfl, List.append_nil]
          exact rd4
      · rintro σ B ⟨⟨v4, v5, v7, v8, rfl⟩, bB, rs2, b1, b2, b3, b4⟩
        refine ⟨_, rfl, ⟨fun q o e => ?_, ⟨_, _, _, _, _, rfl⟩, us ++ [.ref p2], rs2, cs ++ [(.str w0, y)], b1, b2, pk.snoc lt ok, b3, b4⟩, fun q o n e => bB q o (fun z => n (.inl z)) (fun z => n (.inr z)) e⟩
        refine bB q o (fun z => ?_) (fun z => ?_) (sA1 _ _ e)
        · rw [z, hTL] at e; cases e
        · rw [z, hRL0] at e; cases e
    · obtain ⟨sA, ⟨v4, v5, v6, v7, v8, rfl⟩, us, rs, cs, hT, pc, pk, hR, rd⟩ := hP
      have hT1 := t1 _ _ hT
      have hR1 := t1 _ _ hR
      have sA1 := sA.trans t1
      have hpA := sameT sA1 hp
      refine ⟨_, rfl, p, ts, rfl, hpA, tp, fun B1 r us2 cs2 k2 t2 hr pc2 pk2 he2 => ?_⟩
      refine ⟨_, rfl, p, ts, rfl, sameT t2 hpA, tp, fun B2 r2 us3 cs3 k3 t3 hr2 pk3 he3 rd3 => ?_⟩
      have ec2 := pk2.uniq pk he2 he
      have ec3 := pk3.uniq pk he3 he
      subst ec2 ec3
      have hr' := t3 _ _ hr
      obtain ⟨ds, f1, g1⟩ := pcs_data (K := K) pk.oks
      obtain ⟨rs', f2, g2⟩ := rds_data (K := K) (ts := ts) 0 pk.oks
      have t23 := t2.trans t3
      refine ⟨_, rfl, _, _, _, _, true, rfl, .ty "tuple", .base (.tup hr'), kit_ty (by decide +kernel), true, rfl, iteF ?_⟩
      refine ⟨_, rfl, _, _, _, _, true, rfl, .ty "tuple", .base (.tup hr2), kit_ty (by decide +kernel), true, rfl, iteF ?_⟩
      refine ⟨_, rfl, _, rfl, _, _, rfl, .inr (sameT t23 hpA), rfl, _, rfl, ifT (decide_eq_true (by rw [List.length_map, he])) ?_⟩
      refine ⟨_, rfl, _, rfl, TL, _, rfl, .inl ⟨SqL.of (t23 _ _ hT1), fun t ht => ?_⟩⟩
      have t4 := same_new (o := .tup us) ht
      have F1 := all_fine f1
      refine ⟨.tuple ds, .tuple ds, .tup (SqT.of (t4 _ _ hr')) (g1 _ _ ((pc2.k t3).k t4)), .tup (SqT.of upd_same) (g1 _ _ (((pc.k t1).k t23).k t4)), F1.shaped (by decide), F1.shaped (by decide), _, rfl, ?_⟩
      rw [F1.refl]
      refine iteT ?_
      refine ⟨_, rfl, _, rfl, RL, _, rfl, .inl ⟨SqL.of (t4 _ _ (t23 _ _ hR1)), fun t' ht' => ?_⟩⟩
      have t5 := same_new (o := .tup rs) ht'
      have F2 := all_fine f2
      refine ⟨.tuple rs', .tuple rs', .tup (SqT.of (t5 _ _ (t4 _ _ hr2))) (g2 _ _ ((rd3.k t4).k t5)), .tup (SqT.of upd_same) (g2 _ _ ((((rd.k t1).k t23).k t4).k t5)), F2.shaped (by decide), F2.shaped (by decide), ?_⟩
      rw [F2.refl]
      exact kk _ (((sA1.trans t23).trans t4).trans t5)
end
end K24

namespace K24
open PySem L2 Wm TL Dv
section
variable {P : Program} {w : World} {K : PySem.W.Frag} {mg : Str → Option Value} {base : Heap}
mutual
theorem Dp.ks {K : PySem.W.Frag} {H H' : Hp} (s : Same H H') : ∀ (d : PyData) (v : V), Dp K H v d → Dp K H' v d
  | .none, _, h => by cases h; exact .non
  | .bool _, _, h => by cases h; exact .bl _
  | .int _, _, h => by cases h; exact .int _
  | .str _, _, h => by cases h; exact .str _
  | .tuple ds, _, h => by
    cases h with
    | tup a b => exact .tup (sameT s a) (DpAll.ks s ds _ b)
  | .list ds, _, h => by
    cases h with
    | lst a b => exact .lst (sqL_keep s a) (DpAll.ks s ds _ b)
  | .dict _, _, h => by cases h
theorem DpAll.ks {K : PySem.W.Frag} {H H' : Hp} (s : Same H H') : ∀ (ds : List PyData) (vs : List V), DpAll K H vs ds → DpAll K H' vs ds
  | [], _, h => by cases h; exact .nil
  | d :: ds, _, h => by
    cases h with
    | cons a b => exact .cons (Dp.ks s d _ a) (DpAll.ks s ds _ b)
end
theorem catV {H : Hp} {p q : Addr} {xs ys : List V} {Q : VK} (hp : SqT K H p xs) (hq : SqT K H q ys) (l : xs.length + ys.length ≤ 20000)
    (k : ∀ H' r, Same H H' → SqT K H' r (xs ++ ys) → Q (.ref r) H') : rCatA K (.ref p) (.ref q) H Q := by
  refine ⟨p, q, _, _, rfl, rfl, hp, hq, Nat.le_trans l (by decide), fun h => ?_, fun _ h => ?_, fun _ _ r hr => ?_⟩
  · subst h
    exact k H q (Same.refl _) hq
  · subst h
    exact k H p (Same.refl _) (by rw [List.append_nil]; exact hp)
  · exact k _ r (same_new hr) (SqT.of upd_same)
theorem Nt.od {H : Hp} {x : V} (h : Nt K H x) : Od K H x := by
  cases h with
  | int i => exact .int i
  | bl b => exact .bl b
  | non => exact .non
  | str t => exact .str t
  | lst h => exact .lst h
theorem bl_ty {H : Hp} (b : Bool) : TyX K H (.bl b) (.type "bool") := .base (.bl _)
theorem ok_thing (T : Txt K mg) : FnOk P w K mg base CX0 4 T.a_thing T.d_thing ["_law_odd"] (sp_thing K) := by
  refine T.F_thing.ok sc_thing (fun vs H Q E h => ?_) (fun cdv A outer s H vs Q E hr h => ?_)
  · obtain ⟨x, d, rfl, _⟩ := h
    rfl
  · obtain ⟨x, d, rfl, hd, sd, h, k⟩ := h
    refine ⟨_, (pss_cons (ps_set (i := 1) sc_thing.nd rfl (Or.inl rfl) (pe_call (ok_is_tape T) (hr.mono (by decide)) (by rfl) T.g_is_tape T.F_is_tape.kp T.b_is_tape .nil pass0 (pa_cons (pv 0) pa_nil)))
      (pss_one (ps_ret (pe_and (pe_callB call_isi (by rfl) T.z_isinstance (by decide +kernel) (pa_cons (pv 1) (pa_cons (pe_bltn (v := V.ty "bool") (by rfl) T.z_bool (by decide +kernel) rfl) pa_nil))) (pe_one (pe_cmpR op_eq (pv 1) (pe_cmpR (op_eqD hr.units) (pv 0) (pe_tup (pa_cons pe_int pa_nil)) (nomark _)) (nomark _))))))), ?_⟩
    have eq : ∀ (A : Hp), Same H A → ∀ r, A r = none → ∀ {R : VK}, R (.bl (PyData.eqv d (.tuple [.int 1]))) (upd A r (.tup [.int 1])) → rEqD K x (.ref r) (upd A r (.tup [.int 1])) R := fun A sA r hr R q =>
      ⟨d, .tuple [.int 1], Dp.ks (sA.trans (same_new hr)) _ _ hd, .tup (SqT.of upd_same) (.cons (.int 1) .nil), sd, by decide +kernel, q⟩
    rcases h with ⟨nt, e⟩ | ⟨p, rfl, hp, e⟩
    · refine ⟨_, rfl, x, rfl, .inr ⟨nt, ?_⟩⟩
      refine ⟨_, rfl, _, _, _, _, true, rfl, .ty "bool", bl_ty false, kit_ty (by decide +kernel), true, rfl, iteT ?_⟩
      refine ⟨_, rfl, _, rfl, by show 1 ≤ sizeLine; decide, fun r hr => eq H (Same.refl _) r hr ⟨rfl, ?_⟩⟩
      rw [e]
      exact k _ (same_new hr)
    · refine ⟨_, rfl, _, rfl, .inl ⟨p, [.int 1], rfl, hp, fun x m => by rw [List.mem_singleton.mp m]; exact .int 1, by decide, fun A sA => ?_⟩⟩
      refine ⟨_, rfl, _, _, _, _, true, rfl, .ty "bool", bl_ty _, kit_ty (by decide +kernel), true, rfl, iteT ?_⟩
      refine ⟨_, rfl, _, rfl, by show 1 ≤ sizeLine; decide, fun r hr => eq A sA r hr ⟨rfl, ?_⟩⟩
      rw [e]
      exact k _ (sA.trans (same_new hr))
/-- an odd thing: what is asked of it -/
structure Thing (K : PySem.W.Frag) (H : Hp) (v : V) (d : PyData) : Prop where
  od : Od K H v
  no : inR 0 2 v = false
  dp : Dp K H v d
  sh : SeqAt.shaped d = true
  kind : (Nt K H v ∧ PyData.eqv d (.tuple [.int 1]) = false) ∨ ∃ p, v = .ref p ∧ SqT K H p [.int 1] ∧ PyData.eqv d (.tuple [.int 1]) = true
theorem thing_at {H : Hp} {t l : Addr} {g : Int} (ht : H t = some (.tup [.int 1])) (hl : H l = some (.lst [.int 0])) (g0 : 0 ≤ g) (g1 : g < 10) :
    ∃ v d, atI [V.non, .bl true, .bl false, .int 3, .int (-1), .str "1", .str "", .ref t, .ref l, .int 100000000000000000000] g = some v ∧ Thing K H v d := by
  have c : g = 0 ∨ g = 1 ∨ g = 2 ∨ g = 3 ∨ g = 4 ∨ g = 5 ∨ g = 6 ∨ g = 7 ∨ g = 8 ∨ g = 9 := by omega
  rcases c with z | z | z | z | z | z | z | z | z | z <;> subst z
  · exact ⟨_, .none, rfl, .non, rfl, .non, by decide +kernel, .inl ⟨.non, by decide +kernel⟩⟩
  · exact ⟨_, .bool true, rfl, .bl _, rfl, .bl _, by decide +kernel, .inl ⟨.bl _, by decide +kernel⟩⟩
  · exact ⟨_, .bool false, rfl, .bl _, rfl, .bl _, by decide +kernel, .inl ⟨.bl _, by decide +kernel⟩⟩
  · exact ⟨_, .int 3, rfl, .int _, by decide +kernel, .int _, by decide +kernel, .inl ⟨.int _, by decide +kernel⟩⟩
  · exact ⟨_, .int (-1), rfl, .int _, by decide +kernel, .int _, by decide +kernel, .inl ⟨.int _, by decide +kernel⟩⟩
  · exact ⟨_, .str "1", rfl, .str _, rfl, .str _, by decide +kernel, .inl ⟨.str _, by decide +kernel⟩⟩
  · exact ⟨_, .str "", rfl, .str _, rfl, .str _, by decide +kernel, .inl ⟨.str _, by decide +kernel⟩⟩
  · exact ⟨_, .tuple [.int 1], rfl, .tup (SqT.of ht), rfl, .tup (SqT.of ht) (.cons (.int 1) .nil), by decide +kernel, .inr ⟨t, rfl, SqT.of ht, by decide +kernel⟩⟩
  · exact ⟨_, .list [.int 0], rfl, .lst hl, rfl, .lst (SqL.of hl) (.cons (.int 0) .nil), by decide +kernel, .inl ⟨.lst hl, by decide +kernel⟩⟩
  · exact ⟨_, .int 100000000000000000000, rfl, .int _, by decide +kernel, .int _, by decide +kernel, .inl ⟨.int _, by decide +kernel⟩⟩
theorem Nt.k {H H' : Hp} {x : V} (h : Nt K H x) (s : Same H H') : Nt K H' x := by
  cases h with
  | int i => exact .int i
  | bl b => exact .bl b
  | non => exact .non
  | str t => exact .str t
  | lst h => exact .lst (s _ _ h)
theorem Thing.k {H H' : Hp} {v : V} {d : PyData} (h : Thing K H v d) (s : Same H H') : Thing K H' v d :=
  ⟨h.od.k s, h.no, Dp.ks s _ _ h.dp, h.sh, h.kind.imp (fun z => ⟨z.1.k s, z.2⟩) fun ⟨p, a, b, c⟩ => ⟨p, a, sameT s b, c⟩⟩
theorem tape_all {ts : List Int} (h : ∀ t ∈ ts, 0 ≤ t ∧ t ≤ 2) : (ts.map V.int).all (inR 0 2) = true := by
  rw [List.all_map, List.all_eq_true]
  intro t m
  have := h t m
  show (decide (0 ≤ t) && decide (t ≤ 2)) = true
  rw [decide_eq_true this.1, decide_eq_true this.2]
  rfl
theorem ints_od {H : Hp} (ts : List Int) : ∀ x ∈ ts.map V.int, Od K H x := fun x m => by
  obtain ⟨i, _, rfl⟩ := List.mem_map.mp m
  exact .int i
theorem ok_things (T : Txt K mg) : FnOk P w K mg base CX0 5 T.a_things T.d_things ["_law_source_here", "_law_tape_here"] (sp_things K) := by
  refine T.F_things.ok sc_things (fun vs H Q E h => ?_) (fun cdv A outer s H vs Q E hr h => ?_)
  · obtain ⟨s, a, b, p, ts, rfl, _⟩ := h
    rfl
  · obtain ⟨s, a, b, p, ts, rfl, S0, hp, tp, few, kk⟩ := h
    refine ⟨_, (pss_cons (ps_set (i := 2) sc_things.nd rfl (Or.inl rfl) (pe_call (ok_draw T) (hr.mono (by decide)) (by rfl) T.g_draw T.F_draw.kp T.b_draw .nil pass0 (pa_cons (pv 0) (pa_cons (pe_op op_add (pe_callB call_len_seq (by rfl) T.z_len PySem.boot_len (pa_cons (pv 1) pa_nil)) pe_int) pa_nil))))
      (pss_cons (ps_set (i := 3) sc_things.nd rfl (Or.inl rfl) (pe_ix ix_list (pe_lst (pa_cons pe_non (pa_cons pe_bl (pa_cons pe_bl (pa_cons pe_int (pa_cons (pe_un un_neg pe_int) (pa_cons pe_str (pa_cons pe_str (pa_cons (pe_tup (pa_cons pe_int pa_nil)) (pa_cons (pe_lst (pa_cons pe_int pa_nil)) (pa_cons (pe_op op_pow pe_int pe_int) pa_nil))))))))))) (pe_call (ok_draw T) (hr.mono (by decide)) (by rfl) T.g_draw T.F_draw.kp T.b_draw .nil pass0 (pa_cons (pv 0) (pa_cons pe_int pa_nil))) (fun _ _ => rfl)))
      (pss_cons (ps_set (i := 4) sc_things.nd rfl (Or.inl rfl) (pe_op op_catA (pe_op op_catA (pe_slice sl_tupA (pv 1) po_none (po_some (pv 2))) (pe_tup (pa_cons (pv 3) pa_nil))) (pe_slice sl_tupA (pv 1) (po_some (pv 2)) po_none)))
      (pss_cons (ps_if (PW.pt (pw_or (pt_cmpR op_notBl (pe_call (ok_is_tape T) (hr.mono (by decide)) (by rfl) T.g_is_tape T.F_is_tape.kp T.b_is_tape .nil pass0 (pa_cons (pv 1) pa_nil)) pe_bl (nomark _)) (pw_or (pt_cmpR op_notBl (pe_call (ok_is_tape T) (hr.mono (by decide)) (by rfl) T.g_is_tape T.F_is_tape.kp T.b_is_tape .nil pass0 (pa_cons (pv 4) pa_nil)) pe_bl (nomark _)) (pw_or1 (pt_cmpR op_notBl (pe_call (ok_is_tape T) (hr.mono (by decide)) (by rfl) T.g_is_tape T.F_is_tape.kp T.b_is_tape .nil pass0 (pa_cons (pe_callTy call_list_of (by rfl) T.z_list (by decide +kernel) (pa_cons (pv 1) pa_nil)) pa_nil)) pe_bl (nomark _))))))
        (pss_one (ps_ret pe_bl))
        pss_nil)
      (pss_one (ps_ret (pe_call (ok_thing T) (hr.mono (by decide)) (by rfl) T.g_thing T.F_thing.kp T.b_thing .nil pass0 (pa_cons (pv 3) pa_nil)))))))), ?_⟩
    refine ⟨_, rfl, _, rfl, _, _, rfl, .inr hp, _, _, rfl, rfl, s, a, b, _, rfl, by rw [List.length_map]; omega, by rw [List.length_map]; omega, S0, fun H1 z z0 z1 S1 b1 => ?_⟩
    rw [List.length_map] at z1
    obtain ⟨j, rfl⟩ : ∃ j : Nat, z = (j : Nat) := ⟨z.toNat, by omega⟩
    have hp1 := b1.sq S0 hp
    refine ⟨1, rfl, by show 1 ≤ sizeLine; decide, fun t ht => ?_⟩
    have t1 := same_new (o := .tup [.int 1]) ht
    have e1 : upd H1 t (.tup [.int 1]) t = some (.tup [.int 1]) := upd_same
    generalize upd H1 t (.tup [.int 1]) = H2 at t1 e1 ⊢
    refine ⟨by show 1 ≤ sizeLine; decide, fun l hl => ?_⟩
    have t2 := same_new (o := .lst [.int 0]) hl
    have e2 : upd H2 l (.lst [.int 0]) l = some (.lst [.int 0]) := upd_same
    have S2 := S1.keep t1
    have nl := src_ne S2 hl
    have e12 := t2 _ _ e1
    generalize upd H2 l (.lst [.int 0]) = H3 at t2 e2 e12 ⊢
    refine ⟨_, _, rfl, rfl, ⟨by decide, by decide, by decide⟩, ?_⟩
    have pw : (10 : Int) ^ (20 : Int).toNat = 100000000000000000000 := by decide
    (try dsimp only)
    rw [pw]
    refine ⟨by show 10 ≤ sizeLine; decide, fun M hM => ?_⟩
    have S3 := S2.keep t2
    have nM := src_ne S3 hM
    have t3 := same_new (o := .lst [V.non, .bl true, .bl false, .int 3, .int (-1), .str "1", .str "", .ref t, .ref l, .int 100000000000000000000]) hM
    have e3 : upd H3 M (.lst [V.non, .bl true, .bl false, .int 3, .int (-1), .str "1", .str "", .ref t, .ref l, .int 100000000000000000000]) M = some (.lst [V.non, .bl true, .bl false, .int 3, .int (-1), .str "1", .str "", .ref t, .ref l, .int 100000000000000000000]) := upd_same
    have t13 := (t1.trans t2).trans t3
    have hp3 := sameT t13 hp1
    have e13 := t3 _ _ e12
    have e23 := t3 _ _ e2
    have S4 := S3.keep t3
    generalize upd H3 M (.lst [V.non, .bl true, .bl false, .int 3, .int (-1), .str "1", .str "", .ref t, .ref l, .int 100000000000000000000]) = H4 at t3 e3 t13 hp3 e13 e23 S4 ⊢
    refine ⟨_, rfl, s, a, b, 10, rfl, by decide, by decide, S4, fun H5 g g0 g1 S5 b5 => ?_⟩
    obtain ⟨v, d, hat, th⟩ := thing_at (K := K) (b5.keep _ _ (src_tup S4 e13 id).1 (src_tup S4 e13 id).2 e13) (b5.keep _ _ nl.1 nl.2.1 e23) g0 g1
    refine ⟨M, _, g, _, rfl, rfl, SqL.of (b5.keep _ _ nM.1 nM.2.1 e3), hat, ?_⟩
    have hp5 := b5.sq S4 hp3
    have b05 := (b1.trans (.of t13)).trans b5
    refine ⟨_, rfl, _, rfl, _, rfl, slG hp5 fun H6 q1 t6 hq1 => ?_⟩
    refine ⟨_, rfl, by show 1 ≤ sizeLine; decide, fun r hr => ?_⟩
    have t7 := same_new (o := .tup [v]) hr
    have l6 : ∀ x y : Nat, ((ts.drop x).take y).length ≤ 2800 := fun x y => by rw [List.length_take, List.length_drop]; omega
    refine catV (sameT t7 hq1) (SqT.of upd_same) (by rw [List.length_map]; have := l6 (HT.sIx ts.length 0 none) (HT.sIx ts.length ts.length (some ((j : Nat) : Int)) - HT.sIx ts.length 0 none); simp only [List.length_cons, List.length_nil]; omega) fun H8 q2 t8 hq2 => ?_
    refine ⟨_, rfl, _, rfl, _, rfl, ?_⟩
    dsimp only [tNoPart]
    have t68 := (t6.trans t7).trans t8
    refine slG (sameT t68 hp5) fun H9 q3 t9 hq3 => ?_
    have lx := l6 (HT.sIx ts.length 0 none) (HT.sIx ts.length ts.length (some ((j : Nat) : Int)) - HT.sIx ts.length 0 none)
    have ly := l6 (HT.sIx ts.length 0 (some ((j : Nat) : Int))) (HT.sIx ts.length ts.length none - HT.sIx ts.length 0 (some ((j : Nat) : Int)))
    generalize (ts.drop (HT.sIx ts.length 0 none)).take (HT.sIx ts.length ts.length (some ((j : Nat) : Int)) - HT.sIx ts.length 0 none) = us at hq1 hq2 lx
    generalize (ts.drop (HT.sIx ts.length 0 (some ((j : Nat) : Int)))).take (HT.sIx ts.length ts.length none - HT.sIx ts.length 0 (some ((j : Nat) : Int))) = ws at hq3 ly
    refine catV (sameT t9 hq2) hq3 (by rw [List.length_append, List.length_map, List.length_map]; simp only [List.length_cons, List.length_nil]; omega) fun H10 q4 t10 hq4 => ?_
    have t610 := (t68.trans t9).trans t10
    have hpA := sameT t610 hp5
    have thA := th.k t610
    have SA := S5.keep t610
    have bA := b05.trans (.of t610)
    refine ⟨_, rfl, _, rfl, .inl ⟨p, _, rfl, hpA, ints_od ts, by rw [List.length_map]; omega, fun A t11 => ⟨_, _, rfl, rfl, _, rfl, ifF ?_ ?_⟩⟩⟩
    · have l3 : (ts.map V.int).length ≤ 3000 := by rw [List.length_map]; omega
      rw [tape_all tp.sg, decide_eq_true l3]
      rfl
    refine ⟨_, rfl, _, rfl, .inl ⟨q4, _, rfl, sameT t11 hq4, fun x m => ?_, by simp only [List.length_append, List.length_map, List.length_cons, List.length_nil]; omega, fun A2 t12 => ⟨_, _, rfl, rfl, _, rfl, ifF ?_ ?_⟩⟩⟩
    · rcases List.mem_append.mp m with m | m
      · rcases List.mem_append.mp m with m | m
        · exact ints_od us x m
        · rw [List.mem_singleton.mp m]; exact thA.od.k t11
      · exact ints_od ws x m
    · rw [List.all_append, List.all_append, List.all_cons, thA.no]
      simp
    have hp12 := sameT (t11.trans t12) hpA
    refine ⟨_, rfl, p, _, rfl, .inr hp12, fun u hu => ?_⟩
    have t13' := same_new (o := .lst (ts.map V.int)) hu
    refine ⟨_, rfl, .inr ⟨.lst upd_same, _, _, rfl, rfl, _, rfl, iteF ?_⟩⟩
    have tA := (t11.trans t12).trans t13'
    have thB := thA.k tA
    exact ⟨_, rfl, v, d, rfl, thB.dp, thB.sh, thB.kind, fun B sB => kk B ((SA.keep tA).keep sB) (bA.trans (.of (tA.trans sB)))⟩
end
end K24

namespace K24
open PySem L2 Wm TL Dv
section
variable {P : Program} {w : World} {K : PySem.W.Frag} {mg : Str → Option Value} {base : Heap}
def big (n : Nat) : List Int := List.replicate n 0 ++ [1]
theorem big_len (n : Nat) : (big n).length = n + 1 := by unfold big; rw [List.length_append, List.length_replicate]; rfl
theorem big_run : ∀ n, runN 0 (big n) = n
  | 0 => rfl
  | n + 1 => by
    have e : big (n + 1) = 0 :: big n := rfl
    rw [e]
    unfold runN
    rw [List.takeWhile_cons, if_pos (decide_eq_true rfl)]
    have := big_run n
    unfold runN at this
    simp [this]
theorem big_at {n i : Nat} (h : i < n) : (big n)[i]? = some 0 := by
  unfold big
  rw [List.getElem?_append_left (by rw [List.length_replicate]; exact h), List.getElem?_replicate, if_pos h]
theorem big_end (n : Nat) : (big n)[n]? = some 1 := by
  unfold big
  rw [List.getElem?_append_right (by rw [List.length_replicate]; exact Nat.le_refl _), List.length_replicate, Nat.sub_self]
  rfl
theorem big_drop (n : Nat) : (big n).drop n = [1] := by
  unfold big
  rw [List.drop_append_of_le_length (by rw [List.length_replicate]; exact Nat.le_refl _), List.drop_of_length_le (by rw [List.length_replicate]; exact Nat.le_refl _)]
  rfl
theorem big_pos1 {n : Nat} (h : 0 < n) : posP (big n) 1 = n := by
  show endP (big n) 0 = n
  rw [endP_ne (big_at h) (by decide), List.drop_zero, big_run, Nat.zero_add]
theorem big_pos2 {n : Nat} (h : 0 < n) : posP (big n) 2 = n + 1 := by
  rw [pos_succ, big_pos1 h, endP_one (big_end n), big_drop]
  rfl
theorem big_cut (n : Nat) : cut (big n) n (n + 1) = [1] := by
  rw [cut_eq, big_drop, show n + 1 - n = 1 by omega]
  rfl
theorem big_pcs {n : Nat} (h : 0 < n) : Pcs (big n) 2 [(.str "quiet", .int (n : Nat)), (.str "begun", .int 1)] := by
  refine ⟨rfl, fun j hj => ?_, fun j x y e => ?_⟩
  · rcases (show j = 0 ∨ j = 1 by omega) with z | z <;> subst z
    · rw [big_len]; exact Nat.succ_pos _
    · rw [big_pos1 h, big_len]; exact Nat.lt_succ_self _
  · match j, e with
    | 0, e =>
      cases e
      rw [big_pos1 h]
      have q := PcOk.quiet (ts := big n) (i := posP (big n) 0) (e := n) (big_at h)
      rw [show ((n : Int) - (posP (big n) 0 : Nat)) = (n : Nat) from by show (n : Int) - ((0 : Nat) : Int) = _; omega] at q
      exact q
    | 1, e =>
      cases e
      rw [big_pos1 h, big_pos2 h]
      have q := PcOk.begun (ts := big n) (i := n) (e := n + 1) (big_end n) (by rw [big_cut]; decide) (big_len n).symm
      rw [show (((n + 1 : Nat) : Int) - (n : Nat)) = 1 by omega] at q
      exact q
    | j + 2, e => cases e
theorem big_tape {n : Nat} (h : n < 3000) : Tape (big n) := ⟨fun t m => by
  unfold big at m
  rcases List.mem_append.mp m with m | m
  · rw [(List.mem_replicate.mp m).2]; decide
  · rw [List.mem_singleton.mp m]; decide, by rw [big_len]; omega⟩
theorem Tape.part {ts : List Int} (h : Tape ts) (a b : Nat) : Tape ((ts.drop a).take b) := ⟨fun t m => h.sg t (List.mem_of_mem_drop (List.mem_of_mem_take m)), by rw [List.length_take, List.length_drop]; have := h.few; omega⟩
theorem ok_law (T : Txt K mg) : FnOk P w K mg base CX0 12 T.a_law T.d_law ["_law_script"] (sp_law K) := by
  refine T.F_law.ok sc_law (fun vs H Q E h => ?_) (fun cdv A outer s H vs Q E hr h => ?_)
  · obtain ⟨a, zs, rfl, _⟩ := h
    rfl
  · obtain ⟨a0, zs, rfl, hS, hl, k⟩ := h
    refine ⟨_, (pss_cons (ps_set (i := 1) sc_law.nd rfl (Or.inl rfl) (pe_call (ok_source T) (hr.mono (by decide)) (by rfl) T.g_source T.F_source.kp T.b_source .nil pass0 (pa_cons (pv 0) pa_nil)))
      (pss_cons (ps_if (pt_cmpR (op_neD hr.units) (pe_tup (pa_cons (show PE _ _ (ClX.tCVal K (tC (V.ref T.SG)) "CLOSED") from ClX.pe_cval (pe_glob (v := V.ref T.SG) (by rfl) T.gSG rfl)) (pa_cons (show PE _ _ (ClX.tCVal K (tC (V.ref T.SG)) "BROKEN") from ClX.pe_cval (pe_glob (v := V.ref T.SG) (by rfl) T.gSG rfl)) (pa_cons (show PE _ _ (ClX.tCVal K (tC (V.ref T.SG)) "KEY") from ClX.pe_cval (pe_glob (v := V.ref T.SG) (by rfl) T.gSG rfl)) pa_nil)))) (pe_tup (pa_cons pe_int (pa_cons pe_int (pa_cons pe_int pa_nil)))) (nomark _))
        (pss_one (ps_ret pe_bl))
        pss_nil)
      (pss_cons (ps_for PassesOwn.never rfl (pi_range1 (by rfl) T.z_range (pa_cons pe_int pa_nil)) (pg_name (i := 2) sc_law.nd rfl (Or.inl rfl))
        (pss_cons (ps_set (i := 3) sc_law.nd rfl (Or.inl rfl) (pe_call (ok_tape T) (hr.mono (by decide)) (by rfl) T.g_tape T.F_tape.kp T.b_tape .nil pass0 (pa_cons (pv 1) (pa_cons pe_int pa_nil))))
        (pss_cons (ps_if (PW.pt (pw_or (pt_not (pt_val (pe_call (ok_walk T) (hr.mono (by decide)) (by rfl) T.g_walk T.F_walk.kp T.b_walk .nil pass0 (pa_cons (pv 3) pa_nil)))) (pw_or1 (pt_not (pt_val (pe_call (ok_things T) (hr.mono (by decide)) (by rfl) T.g_things T.F_things.kp T.b_things .nil pass0 (pa_cons (pv 1) (pa_cons (pv 3) pa_nil))))))))
          (pss_one (ps_ret pe_bl))
          pss_nil)
        (pss_cons (ps_set (i := 4) sc_law.nd rfl (Or.inl rfl) (pe_call (ok_draw T) (hr.mono (by decide)) (by rfl) T.g_draw T.F_draw.kp T.b_draw .nil pass0 (pa_cons (pv 1) (pa_cons (pe_op op_add (pe_callB call_len_seq (by rfl) T.z_len PySem.boot_len (pa_cons (pv 3) pa_nil)) pe_int) pa_nil))))
        (pss_one (ps_if (PW.pt (pw_or (pt_not (pt_val (pe_call (ok_walk T) (hr.mono (by decide)) (by rfl) T.g_walk T.F_walk.kp T.b_walk .nil pass0 (pa_cons (pe_slice sl_tupA (pv 3) (po_some (pv 4)) po_none) pa_nil)))) (pw_or1 (pt_not (pt_val (pe_call (ok_walk T) (hr.mono (by decide)) (by rfl) T.g_walk T.F_walk.kp T.b_walk .nil pass0 (pa_cons (pe_slice sl_tupA (pv 3) po_none (po_some (pv 4))) pa_nil)))))))
          (pss_one (ps_ret pe_bl))
          pss_nil))))))
      (pss_cons (ps_if (pt_cmpR op_gt (pe_call (ok_draw T) (hr.mono (by decide)) (by rfl) T.g_draw T.F_draw.kp T.b_draw .nil pass0 (pa_cons (pv 1) (pa_cons pe_int pa_nil))) pe_int (nomark _))
        (pss_one (ps_ret pe_bl))
        pss_nil)
      (pss_cons (ps_set (i := 5) sc_law.nd rfl (Or.inl rfl) (pe_op op_catA (pe_op (show OpR _ _ (Tm.rRep1 K) from Tm.op_rep1) (pe_tup (pa_cons pe_int pa_nil)) pe_int) (pe_tup (pa_cons pe_int pa_nil))))
      (pss_one (ps_ret (pe_and (pe_cmpR op_isBl (pe_call (ok_is_tape T) (hr.mono (by decide)) (by rfl) T.g_is_tape T.F_is_tape.kp T.b_is_tape .nil pass0 (pa_cons (pv 5) pa_nil)) pe_bl (nomark _)) (pe_and (pe_cmpR op_isBl (pe_call (ok_is_tape T) (hr.mono (by decide)) (by rfl) T.g_is_tape T.F_is_tape.kp T.b_is_tape .nil pass0 (pa_cons (pe_op op_catA (pv 5) (pe_tup (pa_cons pe_int pa_nil))) pa_nil)) pe_bl (nomark _)) (pe_one (pe_cmpR (op_eqD hr.units) (pe_call (ok_pieces T) (hr.mono (by decide)) (by rfl) T.g_pieces T.F_pieces.kp T.b_pieces .nil pass0 (pa_cons (pv 5) pa_nil)) (pe_tup (pa_cons (pe_tup (pa_cons pe_str (pa_cons pe_int pa_nil))) (pa_cons (pe_tup (pa_cons pe_str (pa_cons pe_int pa_nil))) pa_nil))) (nomark _)))))))))))), ?_⟩
    refine ⟨_, rfl, a0, zs, rfl, hS, hl, fun H1 s a b s1 S1 _ _ => ?_⟩
    refine ⟨T.SG, T.mc, _, _, rfl, T.rd, T.vC, T.SG, T.mc, _, _, rfl, T.rd, T.vB, T.SG, T.mc, _, _, rfl, T.rd, T.vK, by show 3 ≤ sizeLine; decide, fun t ht => ?_⟩
    refine ⟨by show 3 ≤ sizeLine; decide, fun u hu => ?_⟩
    have t1 := same_new (o := .tup [.int 0, .int 1, .int 2]) ht
    have t2 := same_new (o := .tup [.int 0, .int 1, .int 2]) hu
    refine neT (a := [0, 1, 2]) (b := [0, 1, 2]) (SqT.of (t2 _ _ upd_same)) (SqT.of upd_same) ⟨_, rfl, ifF (by decide) ?_⟩
    have S2 := S1.keep (t1.trans t2)
    refine ⟨2, rfl, by decide, by decide, ?_⟩
    refine for_range (fun i σ A => (∃ v2 v3 v4, σ = [some (.ref a0), some (.ref s), v2, v3, v4, none]) ∧ Src A s a b) ⟨⟨none, none, none, rfl⟩, S2⟩ (fun i σ A hi hP => ?_) (fun σ A hP => ?_)
    · obtain ⟨⟨v2, v3, v4, rfl⟩, SA⟩ := hP
      refine ⟨_, rfl, s, a, b, rfl, SA, fun A1 p ts tp few hp SA1 b1 => ?_⟩
      refine ⟨_, rfl, p, ts, rfl, hp, tp, fun A2 c2 => ⟨_, rfl, iteF ?_⟩⟩
      refine ⟨_, rfl, _, rfl, s, a, b, p, ts, rfl, SA1.keep c2, sameT c2 hp, tp, few, fun A3 SA3 b3 => ⟨_, rfl, iteF ?_⟩⟩
      have hp3 := b3.sq (SA1.keep c2) (sameT c2 hp)
      refine ⟨_, rfl, _, rfl, _, _, rfl, .inr hp3, _, _, rfl, rfl, s, a, b, _, rfl, by rw [List.length_map]; omega, by rw [List.length_map]; omega, SA3, fun A4 z z0 z1 SA4 b4 => ?_⟩
      have hp4 := b4.sq SA3 hp3
      refine ⟨_, rfl, _, rfl, z, rfl, ?_⟩
      dsimp only [tNoPart]
      refine slG hp4 fun A5 q c5 hq => ⟨q, _, rfl, hq, tp.part _ _, fun A6 c6 => ⟨_, rfl, iteF ?_⟩⟩
      refine ⟨_, rfl, _, rfl, z, rfl, slG (sameT (c5.trans c6) hp4) fun A7 q2 c7 hq2 => ⟨q2, _, rfl, hq2, tp.part _ _, fun A8 c8 => ⟨_, rfl, iteF ?_⟩⟩⟩
      exact ⟨⟨_, _, _, rfl⟩, SA4.keep (((c5.trans c6).trans c7).trans c8)⟩
    · obtain ⟨⟨v2, v3, v4, rfl⟩, SA⟩ := hP
      refine ⟨_, rfl, s, a, b, 12, rfl, by decide, by decide, SA, fun A1 z z0 z1 SA1 b1 => ⟨_, _, rfl, rfl, _, rfl, ite2 (fun c => k _) (fun c => ?_)⟩⟩
      refine ⟨by show 1 ≤ sizeLine; decide, fun l hl => ?_⟩
      dsimp only [tC]
      refine rep1 (k := 2999) (n := 2999) (SqT.of upd_same) rfl (by decide) (by decide) fun B r c1 hr => ?_
      refine ⟨by show 1 ≤ sizeLine; decide, fun u hu => ?_⟩
      have c2 := same_new (o := .tup [.int 1]) hu
      refine catG (us := [1]) (sameT c2 hr) (SqT.of upd_same) (by rw [List.length_replicate]; decide) fun C q c3 hq => ?_
      have hq : SqT K C q ((big 2999).map V.int) := hq
      have tb := big_tape (n := 2999) (by decide)
      have lb := big_len 2999
      refine ⟨_, rfl, _, rfl, .inl ⟨q, _, rfl, hq, ints_od _, by rw [List.length_map, lb]; decide, fun D c4 => ⟨_, _, rfl, rfl, _, rfl, ifT ?_ ?_⟩⟩⟩
      · have l3 : ((big 2999).map V.int).length ≤ 3000 := by rw [List.length_map, lb]; decide
        rw [tape_all tb.sg, decide_eq_true l3]
        rfl
      refine ⟨_, rfl, by show 1 ≤ sizeLine; decide, fun u2 hu2 => ?_⟩
      have c5 := same_new (o := .tup [.int 0]) hu2
      refine catG (us := [0]) (sameT (c4.trans c5) hq) (SqT.of upd_same) (by rw [lb]; decide) fun C2 q2 c6 hq2 => ?_
      refine ⟨_, rfl, .inl ⟨q2, _, rfl, hq2, ints_od _, by rw [List.length_map, List.length_append, lb]; decide, fun D2 c7 => ⟨_, _, rfl, rfl, _, rfl, ifT ?_ ?_⟩⟩⟩
      · have l3 : ¬ ((big 2999 ++ [0]).map V.int).length ≤ 3000 := by rw [List.length_map, List.length_append, lb]; decide
        rw [decide_eq_false l3]
        rfl
      have cc := ((c4.trans c5).trans c6).trans c7
      refine ⟨_, rfl, q, big 2999, rfl, sameT cc hq, tb, fun D3 r3 us cs k3 c8 hr3 pc pk he => ?_⟩
      have ec := pk.uniq (big_pcs (n := 2999) (by decide)) he (by rw [big_pos2 (by decide), lb])
      subst ec
      refine ⟨by show 2 ≤ sizeLine; decide, fun t1 h1 => ⟨by show 2 ≤ sizeLine; decide, fun t2 h2 => ⟨by show 2 ≤ sizeLine; decide, fun t3 h3 => ?_⟩⟩⟩
      have d1 := same_new (o := .tup [.str "quiet", .int 2999]) h1
      have d2 := same_new (o := .tup [.str "begun", .int 1]) h2
      have d3 := same_new (o := .tup [.ref t1, .ref t2]) h3
      have dd := (d1.trans d2).trans d3
      have pd := pc.k dd
      have hr4 := dd _ _ hr3
      have x1 := d3 _ _ (d2 _ _ (show upd D3 t1 (.tup [.str "quiet", .int 2999]) t1 = some (.tup [.str "quiet", .int 2999]) from upd_same))
      have x2 := d3 _ _ (show upd (upd D3 t1 (.tup [.str "quiet", .int 2999])) t2 (.tup [.str "begun", .int 1]) t2 = some (.tup [.str "begun", .int 1]) from upd_same)
      cases pd with
      | cons p1 pr => cases pr with
        | cons p2 pn =>
          cases pn
          obtain ⟨w1, rfl, w1h⟩ := p1
          obtain ⟨w2, rfl, w2h⟩ := p2
          refine ⟨.tuple [.tuple [.str "quiet", .int 2999], .tuple [.str "begun", .int 1]], .tuple [.tuple [.str "quiet", .int 2999], .tuple [.str "begun", .int 1]], .tup (SqT.of hr4) (.cons (.tup (SqT.of w1h) (.cons (.str _) (.cons (.int _) .nil))) (.cons (.tup (SqT.of w2h) (.cons (.str _) (.cons (.int _) .nil))) .nil)), .tup (SqT.of upd_same) (.cons (.tup (SqT.of x1) (.cons (.str _) (.cons (.int _) .nil))) (.cons (.tup (SqT.of x2) (.cons (.str _) (.cons (.int _) .nil))) .nil)), by decide +kernel, by decide +kernel, ?_⟩
          rw [show PyData.eqv (.tuple [.tuple [.str "quiet", .int 2999], .tuple [.str "begun", .int 1]]) (.tuple [.tuple [.str "quiet", .int 2999], .tuple [.str "begun", .int 1]]) = true by decide +kernel]
          exact k _
end
end K24

namespace K24
open PySem L2 Wm TL Dv PySem.W
theorem all_mk {l : PySem.W.OpenLaw} {w : World} {K : PySem.W.Frag} {h : Heap} {mg : Str → Option Value} {fa : Addr} (X : K.In h) (G : h.Ns mainGlobals mg) (hfa : mg "law" = some (.ref fa))
    {x_is_whole : Addr} {od_is_whole an_is_whole : Option Addr} {sl_is_whole : Array (Option Value)} {oc_is_whole dc_is_whole pm_is_whole cd_is_whole ct_is_whole : Value}
    {kV_is_whole : Value}
    (a_is_whole : PySem.W.nsIn K mainGlobals "is_whole" = some (some (.ref x_is_whole)))
    (l_is_whole : K.lookup x_is_whole = some ⟨oc_is_whole, od_is_whole, .func (PySem.W.fnOf "is_whole" "is_whole" (defArgs s_is_whole) (defBody s_is_whole) (defScope s_is_whole) .none kV_is_whole dc_is_whole pm_is_whole an_is_whole cd_is_whole ct_is_whole), sl_is_whole⟩)
    (c_is_whole : PySem.W.codeIn K cd_is_whole "is_whole" = true)
    (k_is_whole : PySem.W.keepIn K (.ref x_is_whole) = true)
    {x_is_whole_within : Addr} {od_is_whole_within an_is_whole_within : Option Addr} {sl_is_whole_within : Array (Option Value)} {oc_is_whole_within dc_is_whole_within pm_is_whole_within cd_is_whole_within ct_is_whole_within : Value}
    {kV_is_whole_within : Value}
    (a_is_whole_within : PySem.W.nsIn K mainGlobals "is_whole_within" = some (some (.ref x_is_whole_within)))
    (l_is_whole_within : K.lookup x_is_whole_within = some ⟨oc_is_whole_within, od_is_whole_within, .func (PySem.W.fnOf "is_whole_within" "is_whole_within" (defArgs s_is_whole_within) (defBody s_is_whole_within) (defScope s_is_whole_within) .none kV_is_whole_within dc_is_whole_within pm_is_whole_within an_is_whole_within cd_is_whole_within ct_is_whole_within), sl_is_whole_within⟩)
    (c_is_whole_within : PySem.W.codeIn K cd_is_whole_within "is_whole_within" = true)
    (k_is_whole_within : PySem.W.keepIn K (.ref x_is_whole_within) = true)
    {x_is_number : Addr} {od_is_number an_is_number : Option Addr} {sl_is_number : Array (Option Value)} {oc_is_number dc_is_number pm_is_number cd_is_number ct_is_number : Value}
    {kV_is_number : Value}
    (a_is_number : PySem.W.nsIn K mainGlobals "is_number" = some (some (.ref x_is_number)))
    (l_is_number : K.lookup x_is_number = some ⟨oc_is_number, od_is_number, .func (PySem.W.fnOf "is_number" "is_number" (defArgs s_is_number) (defBody s_is_number) (defScope s_is_number) .none kV_is_number dc_is_number pm_is_number an_is_number cd_is_number ct_is_number), sl_is_number⟩)
    (c_is_number : PySem.W.codeIn K cd_is_number "is_number" = true)
    (k_is_number : PySem.W.keepIn K (.ref x_is_number) = true)
    {x_check_number : Addr} {od_check_number an_check_number : Option Addr} {sl_check_number : Array (Option Value)} {oc_check_number dc_check_number pm_check_number cd_check_number ct_check_number : Value}
    {kV_check_number : Value}
    (a_check_number : PySem.W.nsIn K mainGlobals "check_number" = some (some (.ref x_check_number)))
    (l_check_number : K.lookup x_check_number = some ⟨oc_check_number, od_check_number, .func (PySem.W.fnOf "check_number" "check_number" (defArgs s_check_number) (defBody s_check_number) (defScope s_check_number) .none kV_check_number dc_check_number pm_check_number an_check_number cd_check_number ct_check_number), sl_check_number⟩)
    (c_check_number : PySem.W.codeIn K cd_check_number "check_number" = true)
    (k_check_number : PySem.W.keepIn K (.ref x_check_number) = true)
    {x_blocks : Addr} {od_blocks an_blocks : Option Addr} {sl_blocks : Array (Option Value)} {oc_blocks dc_blocks pm_blocks cd_blocks ct_blocks : Value}
    {kV_blocks : Value}
    (a_blocks : PySem.W.nsIn K mainGlobals "blocks" = some (some (.ref x_blocks)))
    (l_blocks : K.lookup x_blocks = some ⟨oc_blocks, od_blocks, .func (PySem.W.fnOf "blocks" "blocks" (defArgs s_blocks) (defBody s_blocks) (defScope s_blocks) .none kV_blocks dc_blocks pm_blocks an_blocks cd_blocks ct_blocks), sl_blocks⟩)
    (c_blocks : PySem.W.codeIn K cd_blocks "blocks" = true)
    (k_blocks : PySem.W.keepIn K (.ref x_blocks) = true)
    {x_row_of : Addr} {od_row_of an_row_of : Option Addr} {sl_row_of : Array (Option Value)} {oc_row_of dc_row_of pm_row_of cd_row_of ct_row_of : Value}
    {kV_row_of : Value}
    (a_row_of : PySem.W.nsIn K mainGlobals "row_of" = some (some (.ref x_row_of)))
    (l_row_of : K.lookup x_row_of = some ⟨oc_row_of, od_row_of, .func (PySem.W.fnOf "row_of" "row_of" (defArgs s_row_of) (defBody s_row_of) (defScope s_row_of) .none kV_row_of dc_row_of pm_row_of an_row_of cd_row_of ct_row_of), sl_row_of⟩)
    (c_row_of : PySem.W.codeIn K cd_row_of "row_of" = true)
    (k_row_of : PySem.W.keepIn K (.ref x_row_of) = true)
    {x_length_of : Addr} {od_length_of an_length_of : Option Addr} {sl_length_of : Array (Option Value)} {oc_length_of dc_length_of pm_length_of cd_length_of ct_length_of : Value}
    {kV_length_of : Value}
    (a_length_of : PySem.W.nsIn K mainGlobals "length_of" = some (some (.ref x_length_of)))
    (l_length_of : K.lookup x_length_of = some ⟨oc_length_of, od_length_of, .func (PySem.W.fnOf "length_of" "length_of" (defArgs s_length_of) (defBody s_length_of) (defScope s_length_of) .none kV_length_of dc_length_of pm_length_of an_length_of cd_length_of ct_length_of), sl_length_of⟩)
    (c_length_of : PySem.W.codeIn K cd_length_of "length_of" = true)
    (k_length_of : PySem.W.keepIn K (.ref x_length_of) = true)
    {x_number_of : Addr} {od_number_of an_number_of : Option Addr} {sl_number_of : Array (Option Value)} {oc_number_of dc_number_of pm_number_of cd_number_of ct_number_of : Value}
    {kV_number_of : Value}
    (a_number_of : PySem.W.nsIn K mainGlobals "number_of" = some (some (.ref x_number_of)))
    (l_number_of : K.lookup x_number_of = some ⟨oc_number_of, od_number_of, .func (PySem.W.fnOf "number_of" "number_of" (defArgs s_number_of) (defBody s_number_of) (defScope s_number_of) .none kV_number_of dc_number_of pm_number_of an_number_of cd_number_of ct_number_of), sl_number_of⟩)
    (c_number_of : PySem.W.codeIn K cd_number_of "number_of" = true)
    (k_number_of : PySem.W.keepIn K (.ref x_number_of) = true)
    {x_is_tape : Addr} {od_is_tape an_is_tape : Option Addr} {sl_is_tape : Array (Option Value)} {oc_is_tape dc_is_tape pm_is_tape cd_is_tape ct_is_tape : Value}
    {kV_is_tape : Value}
    (a_is_tape : PySem.W.nsIn K mainGlobals "is_tape" = some (some (.ref x_is_tape)))
    (l_is_tape : K.lookup x_is_tape = some ⟨oc_is_tape, od_is_tape, .func (PySem.W.fnOf "is_tape" "is_tape" (defArgs s_is_tape) (defBody s_is_tape) (defScope s_is_tape) .none kV_is_tape dc_is_tape pm_is_tape an_is_tape cd_is_tape ct_is_tape), sl_is_tape⟩)
    (c_is_tape : PySem.W.codeIn K cd_is_tape "is_tape" = true)
    (k_is_tape : PySem.W.keepIn K (.ref x_is_tape) = true)
    {x_run_end : Addr} {od_run_end an_run_end : Option Addr} {sl_run_end : Array (Option Value)} {oc_run_end dc_run_end pm_run_end cd_run_end ct_run_end : Value}
    {kV_run_end : Value}
    (a_run_end : PySem.W.nsIn K mainGlobals "run_end" = some (some (.ref x_run_end)))
    (l_run_end : K.lookup x_run_end = some ⟨oc_run_end, od_run_end, .func (PySem.W.fnOf "run_end" "run_end" (defArgs s_run_end) (defBody s_run_end) (defScope s_run_end) .none kV_run_end dc_run_end pm_run_end an_run_end cd_run_end ct_run_end), sl_run_end⟩)
    (c_run_end : PySem.W.codeIn K cd_run_end "run_end" = true)
    (k_run_end : PySem.W.keepIn K (.ref x_run_end) = true)
    {x_piece_end : Addr} {od_piece_end an_piece_end : Option Addr} {sl_piece_end : Array (Option Value)} {oc_piece_end dc_piece_end pm_piece_end cd_piece_end ct_piece_end : Value}
    {kV_piece_end : Value}
    (a_piece_end : PySem.W.nsIn K mainGlobals "piece_end" = some (some (.ref x_piece_end)))
    (l_piece_end : K.lookup x_piece_end = some ⟨oc_piece_end, od_piece_end, .func (PySem.W.fnOf "piece_end" "piece_end" (defArgs s_piece_end) (defBody s_piece_end) (defScope s_piece_end) .none kV_piece_end dc_piece_end pm_piece_end an_piece_end cd_piece_end ct_piece_end), sl_piece_end⟩)
    (c_piece_end : PySem.W.codeIn K cd_piece_end "piece_end" = true)
    (k_piece_end : PySem.W.keepIn K (.ref x_piece_end) = true)
    {x_piece_between : Addr} {od_piece_between an_piece_between : Option Addr} {sl_piece_between : Array (Option Value)} {oc_piece_between dc_piece_between pm_piece_between cd_piece_between ct_piece_between : Value}
    {kV_piece_between : Value}
    (a_piece_between : PySem.W.nsIn K mainGlobals "piece_between" = some (some (.ref x_piece_between)))
    (l_piece_between : K.lookup x_piece_between = some ⟨oc_piece_between, od_piece_between, .func (PySem.W.fnOf "piece_between" "piece_between" (defArgs s_piece_between) (defBody s_piece_between) (defScope s_piece_between) .none kV_piece_between dc_piece_between pm_piece_between an_piece_between cd_piece_between ct_piece_between), sl_piece_between⟩)
    (c_piece_between : PySem.W.codeIn K cd_piece_between "piece_between" = true)
    (k_piece_between : PySem.W.keepIn K (.ref x_piece_between) = true)
    {x_walk_pieces : Addr} {od_walk_pieces an_walk_pieces : Option Addr} {sl_walk_pieces : Array (Option Value)} {oc_walk_pieces dc_walk_pieces pm_walk_pieces cd_walk_pieces ct_walk_pieces : Value}
    {kV_walk_pieces : Value}
    (a_walk_pieces : PySem.W.nsIn K mainGlobals "walk_pieces" = some (some (.ref x_walk_pieces)))
    (l_walk_pieces : K.lookup x_walk_pieces = some ⟨oc_walk_pieces, od_walk_pieces, .func (PySem.W.fnOf "walk_pieces" "walk_pieces" (defArgs s_walk_pieces) (defBody s_walk_pieces) (defScope s_walk_pieces) .none kV_walk_pieces dc_walk_pieces pm_walk_pieces an_walk_pieces cd_walk_pieces ct_walk_pieces), sl_walk_pieces⟩)
    (c_walk_pieces : PySem.W.codeIn K cd_walk_pieces "walk_pieces" = true)
    (k_walk_pieces : PySem.W.keepIn K (.ref x_walk_pieces) = true)
    {x_pieces : Addr} {od_pieces an_pieces : Option Addr} {sl_pieces : Array (Option Value)} {oc_pieces dc_pieces pm_pieces cd_pieces ct_pieces : Value}
    {kV_pieces : Value}
    (a_pieces : PySem.W.nsIn K mainGlobals "pieces" = some (some (.ref x_pieces)))
    (l_pieces : K.lookup x_pieces = some ⟨oc_pieces, od_pieces, .func (PySem.W.fnOf "pieces" "pieces" (defArgs s_pieces) (defBody s_pieces) (defScope s_pieces) .none kV_pieces dc_pieces pm_pieces an_pieces cd_pieces ct_pieces), sl_pieces⟩)
    (c_pieces : PySem.W.codeIn K cd_pieces "pieces" = true)
    (k_pieces : PySem.W.keepIn K (.ref x_pieces) = true)
    {x_piece_ticks : Addr} {od_piece_ticks an_piece_ticks : Option Addr} {sl_piece_ticks : Array (Option Value)} {oc_piece_ticks dc_piece_ticks pm_piece_ticks cd_piece_ticks ct_piece_ticks : Value}
    {kV_piece_ticks : Value}
    (a_piece_ticks : PySem.W.nsIn K mainGlobals "piece_ticks" = some (some (.ref x_piece_ticks)))
    (l_piece_ticks : K.lookup x_piece_ticks = some ⟨oc_piece_ticks, od_piece_ticks, .func (PySem.W.fnOf "piece_ticks" "piece_ticks" (defArgs s_piece_ticks) (defBody s_piece_ticks) (defScope s_piece_ticks) .none kV_piece_ticks dc_piece_ticks pm_piece_ticks an_piece_ticks cd_piece_ticks ct_piece_ticks), sl_piece_ticks⟩)
    (c_piece_ticks : PySem.W.codeIn K cd_piece_ticks "piece_ticks" = true)
    (k_piece_ticks : PySem.W.keepIn K (.ref x_piece_ticks) = true)
    {x_rounds_on : Addr} {od_rounds_on an_rounds_on : Option Addr} {sl_rounds_on : Array (Option Value)} {oc_rounds_on dc_rounds_on pm_rounds_on cd_rounds_on ct_rounds_on : Value}
    {kV_rounds_on : Value}
    (a_rounds_on : PySem.W.nsIn K mainGlobals "rounds_on" = some (some (.ref x_rounds_on)))
    (l_rounds_on : K.lookup x_rounds_on = some ⟨oc_rounds_on, od_rounds_on, .func (PySem.W.fnOf "rounds_on" "rounds_on" (defArgs s_rounds_on) (defBody s_rounds_on) (defScope s_rounds_on) .none kV_rounds_on dc_rounds_on pm_rounds_on an_rounds_on cd_rounds_on ct_rounds_on), sl_rounds_on⟩)
    (c_rounds_on : PySem.W.codeIn K cd_rounds_on "rounds_on" = true)
    (k_rounds_on : PySem.W.keepIn K (.ref x_rounds_on) = true)
    {x_source : Addr} {od_source an_source : Option Addr} {sl_source : Array (Option Value)} {oc_source dc_source pm_source cd_source ct_source : Value}
    {kV_source : Value}
    (a_source : PySem.W.nsIn K mainGlobals "_law_source" = some (some (.ref x_source)))
    (l_source : K.lookup x_source = some ⟨oc_source, od_source, .func (PySem.W.fnOf "_law_source" "_law_source" (defArgs s_source) (defBody s_source) (defScope s_source) .none kV_source dc_source pm_source an_source cd_source ct_source), sl_source⟩)
    (c_source : PySem.W.codeIn K cd_source "_law_source" = true)
    (k_source : PySem.W.keepIn K (.ref x_source) = true)
    {x_draw : Addr} {od_draw an_draw : Option Addr} {sl_draw : Array (Option Value)} {oc_draw dc_draw pm_draw cd_draw ct_draw : Value}
    {kV_draw : Value}
    (a_draw : PySem.W.nsIn K mainGlobals "_law_draw" = some (some (.ref x_draw)))
    (l_draw : K.lookup x_draw = some ⟨oc_draw, od_draw, .func (PySem.W.fnOf "_law_draw" "_law_draw" (defArgs s_draw) (defBody s_draw) (defScope s_draw) .none kV_draw dc_draw pm_draw an_draw cd_draw ct_draw), sl_draw⟩)
    (c_draw : PySem.W.codeIn K cd_draw "_law_draw" = true)
    (k_draw : PySem.W.keepIn K (.ref x_draw) = true)
    {x_number : Addr} {od_number an_number : Option Addr} {sl_number : Array (Option Value)} {oc_number dc_number pm_number cd_number ct_number : Value}
    {kV_number : Value}
    (a_number : PySem.W.nsIn K mainGlobals "_law_number" = some (some (.ref x_number)))
    (l_number : K.lookup x_number = some ⟨oc_number, od_number, .func (PySem.W.fnOf "_law_number" "_law_number" (defArgs s_number) (defBody s_number) (defScope s_number) .none kV_number dc_number pm_number an_number cd_number ct_number), sl_number⟩)
    (c_number : PySem.W.codeIn K cd_number "_law_number" = true)
    (k_number : PySem.W.keepIn K (.ref x_number) = true)
    {x_row : Addr} {od_row an_row : Option Addr} {sl_row : Array (Option Value)} {oc_row dc_row pm_row cd_row ct_row : Value}
    {kV_row : Value}
    (a_row : PySem.W.nsIn K mainGlobals "_law_row" = some (some (.ref x_row)))
    (l_row : K.lookup x_row = some ⟨oc_row, od_row, .func (PySem.W.fnOf "_law_row" "_law_row" (defArgs s_row) (defBody s_row) (defScope s_row) .none kV_row dc_row pm_row an_row cd_row ct_row), sl_row⟩)
    (c_row : PySem.W.codeIn K cd_row "_law_row" = true)
    (k_row : PySem.W.keepIn K (.ref x_row) = true)
    {x_word : Addr} {od_word an_word : Option Addr} {sl_word : Array (Option Value)} {oc_word dc_word pm_word cd_word ct_word : Value}
    {kV_word : Value}
    (a_word : PySem.W.nsIn K mainGlobals "_law_word" = some (some (.ref x_word)))
    (l_word : K.lookup x_word = some ⟨oc_word, od_word, .func (PySem.W.fnOf "_law_word" "_law_word" (defArgs s_word) (defBody s_word) (defScope s_word) .none kV_word dc_word pm_word an_word cd_word ct_word), sl_word⟩)
    (c_word : PySem.W.codeIn K cd_word "_law_word" = true)
    (k_word : PySem.W.keepIn K (.ref x_word) = true)
    {x_signs : Addr} {od_signs an_signs : Option Addr} {sl_signs : Array (Option Value)} {oc_signs dc_signs pm_signs cd_signs ct_signs : Value}
    {kV_signs : Value}
    (a_signs : PySem.W.nsIn K mainGlobals "_law_signs" = some (some (.ref x_signs)))
    (l_signs : K.lookup x_signs = some ⟨oc_signs, od_signs, .func (PySem.W.fnOf "_law_signs" "_law_signs" (defArgs s_signs) (defBody s_signs) (defScope s_signs) .none kV_signs dc_signs pm_signs an_signs cd_signs ct_signs), sl_signs⟩)
    (c_signs : PySem.W.codeIn K cd_signs "_law_signs" = true)
    (k_signs : PySem.W.keepIn K (.ref x_signs) = true)
    {x_tape : Addr} {od_tape an_tape : Option Addr} {sl_tape : Array (Option Value)} {oc_tape dc_tape pm_tape cd_tape ct_tape : Value}
    {kV_tape : Value}
    (a_tape : PySem.W.nsIn K mainGlobals "_law_tape" = some (some (.ref x_tape)))
    (l_tape : K.lookup x_tape = some ⟨oc_tape, od_tape, .func (PySem.W.fnOf "_law_tape" "_law_tape" (defArgs s_tape) (defBody s_tape) (defScope s_tape) .none kV_tape dc_tape pm_tape an_tape cd_tape ct_tape), sl_tape⟩)
    (c_tape : PySem.W.codeIn K cd_tape "_law_tape" = true)
    (k_tape : PySem.W.keepIn K (.ref x_tape) = true)
    {x_fives : Addr} {od_fives an_fives : Option Addr} {sl_fives : Array (Option Value)} {oc_fives dc_fives pm_fives cd_fives ct_fives : Value}
    {kV_fives : Value}
    (a_fives : PySem.W.nsIn K mainGlobals "_law_fives" = some (some (.ref x_fives)))
    (l_fives : K.lookup x_fives = some ⟨oc_fives, od_fives, .func (PySem.W.fnOf "_law_fives" "_law_fives" (defArgs s_fives) (defBody s_fives) (defScope s_fives) .none kV_fives dc_fives pm_fives an_fives cd_fives ct_fives), sl_fives⟩)
    (c_fives : PySem.W.codeIn K cd_fives "_law_fives" = true)
    (k_fives : PySem.W.keepIn K (.ref x_fives) = true)
    {x_due : Addr} {od_due an_due : Option Addr} {sl_due : Array (Option Value)} {oc_due dc_due pm_due cd_due ct_due : Value}
    {kV_due : Value}
    (a_due : PySem.W.nsIn K mainGlobals "_law_due" = some (some (.ref x_due)))
    (l_due : K.lookup x_due = some ⟨oc_due, od_due, .func (PySem.W.fnOf "_law_due" "_law_due" (defArgs s_due) (defBody s_due) (defScope s_due) .none kV_due dc_due pm_due an_due cd_due ct_due), sl_due⟩)
    (c_due : PySem.W.codeIn K cd_due "_law_due" = true)
    (k_due : PySem.W.keepIn K (.ref x_due) = true)
    {x_kind : Addr} {od_kind an_kind : Option Addr} {sl_kind : Array (Option Value)} {oc_kind dc_kind pm_kind cd_kind ct_kind : Value}
    {kV_kind : Value}
    (a_kind : PySem.W.nsIn K mainGlobals "_law_kind" = some (some (.ref x_kind)))
    (l_kind : K.lookup x_kind = some ⟨oc_kind, od_kind, .func (PySem.W.fnOf "_law_kind" "_law_kind" (defArgs s_kind) (defBody s_kind) (defScope s_kind) .none kV_kind dc_kind pm_kind an_kind cd_kind ct_kind), sl_kind⟩)
    (c_kind : PySem.W.codeIn K cd_kind "_law_kind" = true)
    (k_kind : PySem.W.keepIn K (.ref x_kind) = true)
    {x_walk : Addr} {od_walk an_walk : Option Addr} {sl_walk : Array (Option Value)} {oc_walk dc_walk pm_walk cd_walk ct_walk : Value}
    {kV_walk : Value}
    (a_walk : PySem.W.nsIn K mainGlobals "_law_walk" = some (some (.ref x_walk)))
    (l_walk : K.lookup x_walk = some ⟨oc_walk, od_walk, .func (PySem.W.fnOf "_law_walk" "_law_walk" (defArgs s_walk) (defBody s_walk) (defScope s_walk) .none kV_walk dc_walk pm_walk an_walk cd_walk ct_walk), sl_walk⟩)
    (c_walk : PySem.W.codeIn K cd_walk "_law_walk" = true)
    (k_walk : PySem.W.keepIn K (.ref x_walk) = true)
    {x_thing : Addr} {od_thing an_thing : Option Addr} {sl_thing : Array (Option Value)} {oc_thing dc_thing pm_thing cd_thing ct_thing : Value}
    {kV_thing : Value}
    (a_thing : PySem.W.nsIn K mainGlobals "_law_thing" = some (some (.ref x_thing)))
    (l_thing : K.lookup x_thing = some ⟨oc_thing, od_thing, .func (PySem.W.fnOf "_law_thing" "_law_thing" (defArgs s_thing) (defBody s_thing) (defScope s_thing) .none kV_thing dc_thing pm_thing an_thing cd_thing ct_thing), sl_thing⟩)
    (c_thing : PySem.W.codeIn K cd_thing "_law_thing" = true)
    (k_thing : PySem.W.keepIn K (.ref x_thing) = true)
    {x_things : Addr} {od_things an_things : Option Addr} {sl_things : Array (Option Value)} {oc_things dc_things pm_things cd_things ct_things : Value}
    {kV_things : Value}
    (a_things : PySem.W.nsIn K mainGlobals "_law_things" = some (some (.ref x_things)))
    (l_things : K.lookup x_things = some ⟨oc_things, od_things, .func (PySem.W.fnOf "_law_things" "_law_things" (defArgs s_things) (defBody s_things) (defScope s_things) .none kV_things dc_things pm_things an_things cd_things ct_things), sl_things⟩)
    (c_things : PySem.W.codeIn K cd_things "_law_things" = true)
    (k_things : PySem.W.keepIn K (.ref x_things) = true)
    {x_law : Addr} {od_law an_law : Option Addr} {sl_law : Array (Option Value)} {oc_law dc_law pm_law cd_law ct_law : Value}
    {kV_law : Value}
    (a_law : PySem.W.nsIn K mainGlobals "law" = some (some (.ref x_law)))
    (l_law : K.lookup x_law = some ⟨oc_law, od_law, .func (PySem.W.fnOf "law" "law" (defArgs s_law) (defBody s_law) (defScope s_law) .none kV_law dc_law pm_law an_law cd_law ct_law), sl_law⟩)
    (c_law : PySem.W.codeIn K cd_law "law" = true)
    (k_law : PySem.W.keepIn K (.ref x_law) = true)
    {xS : Addr} {tC tB tK : Tok}
    (aSG : PySem.W.nsIn K mainGlobals "Sign" = some (some (.ref xS)))
    (rdS : PySem.W.readsIn K xS (.type "type") = true)
    (gaS : PySem.W.specialIn K (.ref xS) "__getattribute__" = some (some (.builtin "type.__getattribute__")))
    (vC : PySem.W.findCls K (.ref xS) (.type "type") "CLOSED" = some (.val (.int 0 tC)))
    (vB : PySem.W.findCls K (.ref xS) (.type "type") "BROKEN" = some (.val (.int 1 tB)))
    (vK : PySem.W.findCls K (.ref xS) (.type "type") "KEY" = some (.val (.int 2 tK)))
    {t_DIGITS : Tok}
    (n_DIGITS : PySem.W.nsIn K mainGlobals "DIGITS" = some (some (.str "123456789" t_DIGITS)))
    {t_MOST_DIGITS : Tok}
    (n_MOST_DIGITS : PySem.W.nsIn K mainGlobals "MOST_DIGITS" = some (some (.int 4 t_MOST_DIGITS)))
    {t_GREATEST_SUM : Tok}
    (n_GREATEST_SUM : PySem.W.nsIn K mainGlobals "GREATEST_SUM" = some (some (.int 24 t_GREATEST_SUM)))
    {t_CLOSED_END : Tok}
    (n_CLOSED_END : PySem.W.nsIn K mainGlobals "CLOSED_END" = some (some (.int 5 t_CLOSED_END)))
    {t_MOST_SIGNS : Tok}
    (n_MOST_SIGNS : PySem.W.nsIn K mainGlobals "MOST_SIGNS" = some (some (.int 3000 t_MOST_SIGNS)))
    (z_abs : PySem.W.nsIn K mainGlobals "abs" = some none)
    (z_all : PySem.W.nsIn K mainGlobals "all" = some none)
    (z_bool : PySem.W.nsIn K mainGlobals "bool" = some none)
    (z_int : PySem.W.nsIn K mainGlobals "int" = some none)
    (z_isinstance : PySem.W.nsIn K mainGlobals "isinstance" = some none)
    (z_len : PySem.W.nsIn K mainGlobals "len" = some none)
    (z_list : PySem.W.nsIn K mainGlobals "list" = some none)
    (z_min : PySem.W.nsIn K mainGlobals "min" = some none)
    (z_range : PySem.W.nsIn K mainGlobals "range" = some none)
    (z_str : PySem.W.nsIn K mainGlobals "str" = some none)
    (z_sum : PySem.W.nsIn K mainGlobals "sum" = some none)
    (z_tuple : PySem.W.nsIn K mainGlobals "tuple" = some none)
    : ∃ fd : FuncData, (∀ (s : Shared) (v : Value), BindsTo s fd ⟨[v], []⟩ [("_law_script", v)]) ∧ ∀ base : Heap, K.In base → base.Ns mainGlobals mg → FnOk l.prog w K mg base CX0 12 fa fd ["_law_script"] (sp_law K) := by
  have e := hfa.symm.trans (PySem.W.mg_of X G a_law)
  cases e
  have F_is_whole := fun_mk (st := s_is_whole) l_is_whole c_is_whole k_is_whole
  have b_is_whole := F_is_whole.binds (ps := ["thing"]) fun _ _ _ _ _ _ us hl => match us, hl with | [_], _ => rfl
  have F_is_whole_within := fun_mk (st := s_is_whole_within) l_is_whole_within c_is_whole_within k_is_whole_within
  have b_is_whole_within := F_is_whole_within.binds (ps := ["thing", "low", "high"]) fun _ _ _ _ _ _ us hl => match us, hl with | [_, _, _], _ => rfl
  have F_is_number := fun_mk (st := s_is_number) l_is_number c_is_number k_is_number
  have b_is_number := F_is_number.binds (ps := ["thing"]) fun _ _ _ _ _ _ us hl => match us, hl with | [_], _ => rfl
  have F_check_number := fun_mk (st := s_check_number) l_check_number c_check_number k_check_number
  have b_check_number := F_check_number.binds (ps := ["thing"]) fun _ _ _ _ _ _ us hl => match us, hl with | [_], _ => rfl
  have F_blocks := fun_mk (st := s_blocks) l_blocks c_blocks k_blocks
  have b_blocks := F_blocks.binds (ps := ["number"]) fun _ _ _ _ _ _ us hl => match us, hl with | [_], _ => rfl
  have F_row_of := fun_mk (st := s_row_of) l_row_of c_row_of k_row_of
  have b_row_of := F_row_of.binds (ps := ["number"]) fun _ _ _ _ _ _ us hl => match us, hl with | [_], _ => rfl
  have F_length_of := fun_mk (st := s_length_of) l_length_of c_length_of k_length_of
  have b_length_of := F_length_of.binds (ps := ["number"]) fun _ _ _ _ _ _ us hl => match us, hl with | [_], _ => rfl
  have F_number_of := fun_mk (st := s_number_of) l_number_of c_number_of k_number_of
  have b_number_of := F_number_of.binds (ps := ["row"]) fun _ _ _ _ _ _ us hl => match us, hl with | [_], _ => rfl
  have F_is_tape := fun_mk (st := s_is_tape) l_is_tape c_is_tape k_is_tape
  have b_is_tape := F_is_tape.binds (ps := ["thing"]) fun _ _ _ _ _ _ us hl => match us, hl with | [_], _ => rfl
  have F_run_end := fun_mk (st := s_run_end) l_run_end c_run_end k_run_end
  have b_run_end := F_run_end.binds (ps := ["tape", "at"]) fun _ _ _ _ _ _ us hl => match us, hl with | [_, _], _ => rfl
  have F_piece_end := fun_mk (st := s_piece_end) l_piece_end c_piece_end k_piece_end
  have b_piece_end := F_piece_end.binds (ps := ["tape", "at"]) fun _ _ _ _ _ _ us hl => match us, hl with | [_, _], _ => rfl
  have F_piece_between := fun_mk (st := s_piece_between) l_piece_between c_piece_between k_piece_between
  have b_piece_between := F_piece_between.binds (ps := ["tape", "at", "end"]) fun _ _ _ _ _ _ us hl => match us, hl with | [_, _, _], _ => rfl
  have F_walk_pieces := fun_mk (st := s_walk_pieces) l_walk_pieces c_walk_pieces k_walk_pieces
  have b_walk_pieces := F_walk_pieces.binds (ps := ["tape"]) fun _ _ _ _ _ _ us hl => match us, hl with | [_], _ => rfl
  have F_pieces := fun_mk (st := s_pieces) l_pieces c_pieces k_pieces
  have b_pieces := F_pieces.binds (ps := ["tape"]) fun _ _ _ _ _ _ us hl => match us, hl with | [_], _ => rfl
  have F_piece_ticks := fun_mk (st := s_piece_ticks) l_piece_ticks c_piece_ticks k_piece_ticks
  have b_piece_ticks := F_piece_ticks.binds (ps := ["piece"]) fun _ _ _ _ _ _ us hl => match us, hl with | [_], _ => rfl
  have F_rounds_on := fun_mk (st := s_rounds_on) l_rounds_on c_rounds_on k_rounds_on
  have b_rounds_on := F_rounds_on.binds (ps := ["tape"]) fun _ _ _ _ _ _ us hl => match us, hl with | [_], _ => rfl
  have F_source := fun_mk (st := s_source) l_source c_source k_source
  have b_source := F_source.binds (ps := ["_law_script"]) fun _ _ _ _ _ _ us hl => match us, hl with | [_], _ => rfl
  have F_draw := fun_mk (st := s_draw) l_draw c_draw k_draw
  have b_draw := F_draw.binds (ps := ["_law_source_here", "_law_many"]) fun _ _ _ _ _ _ us hl => match us, hl with | [_, _], _ => rfl
  have F_number := fun_mk (st := s_number) l_number c_number k_number
  have b_number := F_number.binds (ps := ["_law_source_here"]) fun _ _ _ _ _ _ us hl => match us, hl with | [_], _ => rfl
  have F_row := fun_mk (st := s_row) l_row c_row k_row
  have b_row := F_row.binds (ps := ["_law_number_here"]) fun _ _ _ _ _ _ us hl => match us, hl with | [_], _ => rfl
  have F_word := fun_mk (st := s_word) l_word c_word k_word
  have b_word := F_word.binds (ps := ["_law_signs_here"]) fun _ _ _ _ _ _ us hl => match us, hl with | [_], _ => rfl
  have F_signs := fun_mk (st := s_signs) l_signs c_signs k_signs
  have b_signs := F_signs.binds (ps := ["_law_source_here"]) fun _ _ _ _ _ _ us hl => match us, hl with | [_], _ => rfl
  have F_tape := fun_mk (st := s_tape) l_tape c_tape k_tape
  have b_tape := F_tape.binds (ps := ["_law_source_here", "_law_most"]) fun _ _ _ _ _ _ us hl => match us, hl with | [_, _], _ => rfl
  have F_fives := fun_mk (st := s_fives) l_fives c_fives k_fives
  have b_fives := F_fives.binds (ps := ["_law_signs_here"]) fun _ _ _ _ _ _ us hl => match us, hl with | [_], _ => rfl
  have F_due := fun_mk (st := s_due) l_due c_due k_due
  have b_due := F_due.binds (ps := ["_law_tape_here", "_law_at", "_law_end"]) fun _ _ _ _ _ _ us hl => match us, hl with | [_, _, _], _ => rfl
  have F_kind := fun_mk (st := s_kind) l_kind c_kind k_kind
  have b_kind := F_kind.binds (ps := ["_law_piece"]) fun _ _ _ _ _ _ us hl => match us, hl with | [_], _ => rfl
  have F_walk := fun_mk (st := s_walk) l_walk c_walk k_walk
  have b_walk := F_walk.binds (ps := ["_law_tape_here"]) fun _ _ _ _ _ _ us hl => match us, hl with | [_], _ => rfl
  have F_thing := fun_mk (st := s_thing) l_thing c_thing k_thing
  have b_thing := F_thing.binds (ps := ["_law_odd"]) fun _ _ _ _ _ _ us hl => match us, hl with | [_], _ => rfl
  have F_things := fun_mk (st := s_things) l_things c_things k_things
  have b_things := F_things.binds (ps := ["_law_source_here", "_law_tape_here"]) fun _ _ _ _ _ _ us hl => match us, hl with | [_, _], _ => rfl
  have F_law := fun_mk (st := s_law) l_law c_law k_law
  have b_law := F_law.binds (ps := ["_law_script"]) fun _ _ _ _ _ _ us hl => match us, hl with | [_], _ => rfl
  have T : Σ' T : Txt K mg, T.a_law = fa ∧ T.d_law = PySem.W.fnOf "law" "law" (defArgs s_law) (defBody s_law) (defScope s_law) .none kV_law dc_law pm_law an_law cd_law ct_law :=
    ⟨{ SG := xS, gSG := PySem.W.mg_of X G aSG, mc := .type "type", rd := ⟨rdS, gaS⟩, uC := _, uB := _, uK := _, vC := ⟨vC, ⟨_, rfl⟩⟩, vB := ⟨vB, ⟨_, rfl⟩⟩, vK := ⟨vK, ⟨_, rfl⟩⟩,
        a_is_whole := _, d_is_whole := _, F_is_whole := F_is_whole, b_is_whole := b_is_whole, g_is_whole := PySem.W.mg_of X G a_is_whole,
        a_is_whole_within := _, d_is_whole_within := _, F_is_whole_within := F_is_whole_within, b_is_whole_within := b_is_whole_within, g_is_whole_within := PySem.W.mg_of X G a_is_whole_within,
        a_is_number := _, d_is_number := _, F_is_number := F_is_number, b_is_number := b_is_number, g_is_number := PySem.W.mg_of X G a_is_number,
        a_check_number := _, d_check_number := _, F_check_number := F_check_number, b_check_number := b_check_number, g_check_number := PySem.W.mg_of X G a_check_number,
        a_blocks := _, d_blocks := _, F_blocks := F_blocks, b_blocks := b_blocks, g_blocks := PySem.W.mg_of X G a_blocks,
        a_row_of := _, d_row_of := _, F_row_of := F_row_of, b_row_of := b_row_of, g_row_of := PySem.W.mg_of X G a_row_of,
        a_length_of := _, d_length_of := _, F_length_of := F_length_of, b_length_of := b_length_of, g_length_of := PySem.W.mg_of X G a_length_of,
        a_number_of := _, d_number_of := _, F_number_of := F_number_of, b_number_of := b_number_of, g_number_of := PySem.W.mg_of X G a_number_of,
        a_is_tape := _, d_is_tape := _, F_is_tape := F_is_tape, b_is_tape := b_is_tape, g_is_tape := PySem.W.mg_of X G a_is_tape,
        a_run_end := _, d_run_end := _, F_run_end := F_run_end, b_run_end := b_run_end, g_run_end := PySem.W.mg_of X G a_run_end,
        a_piece_end := _, d_piece_end := _, F_piece_end := F_piece_end, b_piece_end := b_piece_end, g_piece_end := PySem.W.mg_of X G a_piece_end,
        a_piece_between := _, d_piece_between := _, F_piece_between := F_piece_between, b_piece_between := b_piece_between, g_piece_between := PySem.W.mg_of X G a_piece_between,
        a_walk_pieces := _, d_walk_pieces := _, F_walk_pieces := F_walk_pieces, b_walk_pieces := b_walk_pieces, g_walk_pieces := PySem.W.mg_of X G a_walk_pieces,
        a_pieces := _, d_pieces := _, F_pieces := F_pieces, b_pieces := b_pieces, g_pieces := PySem.W.mg_of X G a_pieces,
        a_piece_ticks := _, d_piece_ticks := _, F_piece_ticks := F_piece_ticks, b_piece_ticks := b_piece_ticks, g_piece_ticks := PySem.W.mg_of X G a_piece_ticks,
        a_rounds_on := _, d_rounds_on := _, F_rounds_on := F_rounds_on, b_rounds_on := b_rounds_on, g_rounds_on := PySem.W.mg_of X G a_rounds_on,
        a_source := _, d_source := _, F_source := F_source, b_source := b_source, g_source := PySem.W.mg_of X G a_source,
        a_draw := _, d_draw := _, F_draw := F_draw, b_draw := b_draw, g_draw := PySem.W.mg_of X G a_draw,
        a_number := _, d_number := _, F_number := F_number, b_number := b_number, g_number := PySem.W.mg_of X G a_number,
        a_row := _, d_row := _, F_row := F_row, b_row := b_row, g_row := PySem.W.mg_of X G a_row,
        a_word := _, d_word := _, F_word := F_word, b_word := b_word, g_word := PySem.W.mg_of X G a_word,
        a_signs := _, d_signs := _, F_signs := F_signs, b_signs := b_signs, g_signs := PySem.W.mg_of X G a_signs,
        a_tape := _, d_tape := _, F_tape := F_tape, b_tape := b_tape, g_tape := PySem.W.mg_of X G a_tape,
        a_fives := _, d_fives := _, F_fives := F_fives, b_fives := b_fives, g_fives := PySem.W.mg_of X G a_fives,
        a_due := _, d_due := _, F_due := F_due, b_due := b_due, g_due := PySem.W.mg_of X G a_due,
        a_kind := _, d_kind := _, F_kind := F_kind, b_kind := b_kind, g_kind := PySem.W.mg_of X G a_kind,
        a_walk := _, d_walk := _, F_walk := F_walk, b_walk := b_walk, g_walk := PySem.W.mg_of X G a_walk,
        a_thing := _, d_thing := _, F_thing := F_thing, b_thing := b_thing, g_thing := PySem.W.mg_of X G a_thing,
        a_things := _, d_things := _, F_things := F_things, b_things := b_things, g_things := PySem.W.mg_of X G a_things,
        a_law := _, d_law := _, F_law := F_law, b_law := b_law, g_law := PySem.W.mg_of X G a_law,
        t_DIGITS := _, c_DIGITS := PySem.W.mg_of X G n_DIGITS,
        t_MOST_DIGITS := _, c_MOST_DIGITS := PySem.W.mg_of X G n_MOST_DIGITS,
        t_GREATEST_SUM := _, c_GREATEST_SUM := PySem.W.mg_of X G n_GREATEST_SUM,
        t_CLOSED_END := _, c_CLOSED_END := PySem.W.mg_of X G n_CLOSED_END,
        t_MOST_SIGNS := _, c_MOST_SIGNS := PySem.W.mg_of X G n_MOST_SIGNS,
        z_abs := PySem.W.mg_none_of X G z_abs,
        z_all := PySem.W.mg_none_of X G z_all,
        z_bool := PySem.W.mg_none_of X G z_bool,
        z_int := PySem.W.mg_none_of X G z_int,
        z_isinstance := PySem.W.mg_none_of X G z_isinstance,
        z_len := PySem.W.mg_none_of X G z_len,
        z_list := PySem.W.mg_none_of X G z_list,
        z_min := PySem.W.mg_none_of X G z_min,
        z_range := PySem.W.mg_none_of X G z_range,
        z_str := PySem.W.mg_none_of X G z_str,
        z_sum := PySem.W.mg_none_of X G z_sum,
        z_tuple := PySem.W.mg_none_of X G z_tuple }, rfl, rfl⟩
  obtain ⟨T, e1, e2⟩ := T
  subst e1
  refine ⟨T.d_law, fun s v => by rw [e2]; exact .of_eq rfl, fun base _ _ => ok_law T⟩
theorem walk {l : PySem.W.OpenLaw} {q : Program} {loose : List Str} {XP : (Str → Option Value) → Heap → Prop} {YP : World → Heap → Prop} {d : DefRec} {K : Params → PySem.W.Frag} (hn : l.most = some 63) (hdf : d.params.defaults = [])
    (hY : ∀ (w : World) (h : Heap), YP w h → (K w.params).In h)
    (F : ∀ (w : World) (mg : Str → Option Value) (fa : Addr) (h : Heap), (K w.params).In h → h.Ns mainGlobals mg → mg d.name = some (.ref fa) →
      ∃ fd : FuncData, (∀ (s : Shared) (u : Value), BindsTo s fd ⟨[u], []⟩ [("_law_script", u)]) ∧ ∀ base : Heap, (K w.params).In base → base.Ns mainGlobals mg → FnOk l.prog w (K w.params) mg base CX0 12 fa fd ["_law_script"] (sp_law (K w.params))) :
    PySem.W.WalkO q loose XP YP l.row.toRowW d [] (fun f vs => PySem.call f vs) :=
  L2.walk_of (n := 63) (k := 12) (x := "_law_script") (CX := fun _ => CX0) (sp := fun w => sp_law (K w.params)) hn (by decide) hdf ⟨rfl, by decide, by decide⟩ hY F (fun _ _ a ns hl _ hS => ⟨a, ns, rfl, hS, hl, fun _ => rfl⟩) fun _ _ _ _ _ z => z
end K24

open PySem PySem.W PyProof.Rows in
set_option maxRecDepth 100000 in
set_option maxHeartbeats 0 in
theorem PySem.Challenge.cw_wheelchorus_k24_whole_tapes_parted_holds : PySem.Challenge.rw_wheelchorus_k24_whole_tapes_parted.Holds := by
  w_on; o_law; k_head; (case hw => w_witness2)
  k_fill
  refine K24.walk (l := PySem.Challenge.rw_wheelchorus_k24_whole_tapes_parted) rfl rfl (fun w h Y => PySem.W.kIn_of Y) ?F
  case F =>
    intro w mg fa h KX G hmg
    refine' K24.all_mk KX G hmg ?a_is_whole ?l_is_whole ?c_is_whole ?k_is_whole ?a_is_whole_within ?l_is_whole_within ?c_is_whole_within ?k_is_whole_within ?a_is_number ?l_is_number ?c_is_number ?k_is_number ?a_check_number ?l_check_number ?c_check_number ?k_check_number ?a_blocks ?l_blocks ?c_blocks ?k_blocks ?a_row_of ?l_row_of ?c_row_of ?k_row_of ?a_length_of ?l_length_of ?c_length_of ?k_length_of ?a_number_of ?l_number_of ?c_number_of ?k_number_of ?a_is_tape ?l_is_tape ?c_is_tape ?k_is_tape ?a_run_end ?l_run_end ?c_run_end ?k_run_end ?a_piece_end ?l_piece_end ?c_piece_end ?k_piece_end ?a_piece_between ?l_piece_between ?c_piece_between ?k_piece_between ?a_walk_pieces ?l_walk_pieces ?c_walk_pieces ?k_walk_pieces ?a_pieces ?l_pieces ?c_pieces ?k_pieces ?a_piece_ticks ?l_piece_ticks ?c_piece_ticks ?k_piece_ticks ?a_rounds_on ?l_rounds_on ?c_rounds_on ?k_rounds_on ?a_source ?l_source ?c_source ?k_source ?a_draw ?l_draw ?c_draw ?k_draw ?a_number ?l_number ?c_number ?k_number ?a_row ?l_row ?c_row ?k_row ?a_word ?l_word ?c_word ?k_word ?a_signs ?l_signs ?c_signs ?k_signs ?a_tape ?l_tape ?c_tape ?k_tape ?a_fives ?l_fives ?c_fives ?k_fives ?a_due ?l_due ?c_due ?k_due ?a_kind ?l_kind ?c_kind ?k_kind ?a_walk ?l_walk ?c_walk ?k_walk ?a_thing ?l_thing ?c_thing ?k_thing ?a_things ?l_things ?c_things ?k_things ?a_law ?l_law ?c_law ?k_law ?aSG ?rdS ?gaS ?vC ?vB ?vK ?n_DIGITS ?n_MOST_DIGITS ?n_GREATEST_SUM ?n_CLOSED_END ?n_MOST_SIGNS ?z_abs ?z_all ?z_bool ?z_int ?z_isinstance ?z_len ?z_list ?z_min ?z_range ?z_str ?z_sum ?z_tuple
    (case a_is_whole => k_is)
    (case l_is_whole => k_is)
    (case c_is_whole => k_is)
    (case k_is_whole => k_is)
    (case a_is_whole_within => k_is)
    (case l_is_whole_within => k_is)
    (case c_is_whole_within => k_is)
    (case k_is_whole_within => k_is)
    (case a_is_number => k_is)
    (case l_is_number => k_is)
    (case c_is_number => k_is)
    (case k_is_number => k_is)
    (case a_check_number => k_is)
    (case l_check_number => k_is)
    (case c_check_number => k_is)
    (case k_check_number => k_is)
    (case a_blocks => k_is)
    (case l_blocks => k_is)
    (case c_blocks => k_is)
    (case k_blocks => k_is)
    (case a_row_of => k_is)
    (case l_row_of => k_is)
    (case c_row_of => k_is)
    (case k_row_of => k_is)
    (case a_length_of => k_is)
    (case l_length_of => k_is)
    (case c_length_of => k_is)
    (case k_length_of => k_is)
    (case a_number_of => k_is)
    (case l_number_of => k_is)
    (case c_number_of => k_is)
    (case k_number_of => k_is)
    (case a_is_tape => k_is)
    (case l_is_tape => k_is)
    (case c_is_tape => k_is)
    (case k_is_tape => k_is)
    (case a_run_end => k_is)
    (case l_run_end => k_is)
    (case c_run_end => k_is)
    (case k_run_end => k_is)
    (case a_piece_end => k_is)
    (case l_piece_end => k_is)
    (case c_piece_end => k_is)
    (case k_piece_end => k_is)
    (case a_piece_between => k_is)
    (case l_piece_between => k_is)
    (case c_piece_between => k_is)
    (case k_piece_between => k_is)
    (case a_walk_pieces => k_is)
    (case l_walk_pieces => k_is)
    (case c_walk_pieces => k_is)
    (case k_walk_pieces => k_is)
    (case a_pieces => k_is)
    (case l_pieces => k_is)
    (case c_pieces => k_is)
    (case k_pieces => k_is)
    (case a_piece_ticks => k_is)
    (case l_piece_ticks => k_is)
    (case c_piece_ticks => k_is)
    (case k_piece_ticks => k_is)
    (case a_rounds_on => k_is)
    (case l_rounds_on => k_is)
    (case c_rounds_on => k_is)
    (case k_rounds_on => k_is)
    (case a_source => k_is)
    (case l_source => k_is)
    (case c_source => k_is)
    (case k_source => k_is)
    (case a_draw => k_is)
    (case l_draw => k_is)
    (case c_draw => k_is)
    (case k_draw => k_is)
    (case a_number => k_is)
    (case l_number => k_is)
    (case c_number => k_is)
    (case k_number => k_is)
    (case a_row => k_is)
    (case l_row => k_is)
    (case c_row => k_is)
    (case k_row => k_is)
    (case a_word => k_is)
    (case l_word => k_is)
    (case c_word => k_is)
    (case k_word => k_is)
    (case a_signs => k_is)
    (case l_signs => k_is)
    (case c_signs => k_is)
    (case k_signs => k_is)
    (case a_tape => k_is)
    (case l_tape => k_is)
    (case c_tape => k_is)
    (case k_tape => k_is)
    (case a_fives => k_is)
    (case l_fives => k_is)
    (case c_fives => k_is)
    (case k_fives => k_is)
    (case a_due => k_is)
    (case l_due => k_is)
    (case c_due => k_is)
    (case k_due => k_is)
    (case a_kind => k_is)
    (case l_kind => k_is)
    (case c_kind => k_is)
    (case k_kind => k_is)
    (case a_walk => k_is)
    (case l_walk => k_is)
    (case c_walk => k_is)
    (case k_walk => k_is)
    (case a_thing => k_is)
    (case l_thing => k_is)
    (case c_thing => k_is)
    (case k_thing => k_is)
    (case a_things => k_is)
    (case l_things => k_is)
    (case c_things => k_is)
    (case k_things => k_is)
    (case a_law => k_is)
    (case l_law => k_is)
    (case c_law => k_is)
    (case k_law => k_is)
    (case aSG => k_is)
    (case rdS => k_is)
    (case gaS => k_is)
    (case vC => k_is)
    (case vB => k_is)
    (case vK => k_is)
    (case n_DIGITS => k_is)
    (case n_MOST_DIGITS => k_is)
    (case n_GREATEST_SUM => k_is)
    (case n_CLOSED_END => k_is)
    (case n_MOST_SIGNS => k_is)
    (case z_abs => k_is)
    (case z_all => k_is)
    (case z_bool => k_is)
    (case z_int => k_is)
    (case z_isinstance => k_is)
    (case z_len => k_is)
    (case z_list => k_is)
    (case z_min => k_is)
    (case z_range => k_is)
    (case z_str => k_is)
    (case z_sum => k_is)
    (case z_tuple => k_is)
