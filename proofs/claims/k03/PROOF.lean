import PyProof.Rows.All
import Wide.All
import OpenK.AllK
import Wide.FinOn
import HandS.Base
import HandS.Call
import HandS.List
import HandS.Words
import HandS.WordsList
import HandS.Text
import HandS.Comp
import HandS.IsInst
import HandS.AnyAll
import HandS.Set
import HandS.SetKeys
import HandS.Style
import HandS.Dict
import HandS.Walk
import HandS.WordsDict
import HandS.More
import HandS.FStr
import KE.KExcSuper
import KE.KSuper
import HandS.Exc
import HandS.ExcSuper
import HandS.Ends
import HandS.ExcCtx
import HandS.HotCalls
import HandS.ExcIs
import KE.KExcIs
import HandS.ExcOwn
import HandS.Codes
import HandS.WordsExc
import HandS.RaiseMore
import HandS.TryOnly
import HandS.EndTab
import HandS.Head0
import HandS.Head1
import HandS.Head2
import HandS.HeadEnd
import HandS.HeadHook4
import HandS.HeadWalk
import PySem.Challenge.RW_loopmover_k03_rows_counted
set_option Elab.async false
set_option linter.all false
set_option maxRecDepth 100000
set_option maxHeartbeats 4000000
/-! Names, values and rows, in plain Lean. -/
namespace Lm
open PySem
/-- the words that no name is, by their codes -/
def bars : List (List Nat) := [[115, 97, 121], [119, 104, 101, 110], [108, 111, 111, 112], [97, 103, 97, 105, 110], [101, 110, 100]]
def sameL : List Nat → List Nat → Bool
  | [], [] => true
  | a :: r, b :: s => Nat.beq a b && sameL r s
  | _, _ => false
theorem sameL_iff : ∀ {l m : List Nat}, sameL l m = true ↔ l = m
  | [], [] => by simp [sameL]
  | [], _ :: _ => by simp [sameL]
  | _ :: _, [] => by simp [sameL]
  | a :: r, b :: s => by
    show (Nat.beq a b && sameL r s) = true ↔ _
    rw [Bool.and_eq_true, sameL_iff, Nat.beq_eq, List.cons.injEq]
def isBar (l : List Nat) : Bool := bars.any (sameL l)
def lettersB : List Nat → Bool
  | [] => true
  | c :: r => Nat.ble 97 c && (Nat.ble c 122 && lettersB r)
/-- codes that make a name -/
def GoodL (l : List Nat) : Bool := Nat.ble 1 l.length && Nat.ble l.length 6 && lettersB l && !isBar l
def Good (s : Str) : Prop := GoodL s.cps.toList = true
def ltr (i : Nat) : Nat := 97 + i % 26
/-- six letters, five apart -/
def tailN (c : Nat) : List Nat := [ltr (c + 1), ltr (c + 6), ltr (c + 11), ltr (c + 16), ltr (c + 21), ltr (c + 26)]
/-- one letter in the place of one of the six -/
def w1 (c k place size : Nat) : List Nat := (tailN c).take place ++ ltr (c + 5 * k) :: ((tailN c).drop (place + 1)).take (size - (place + 1))
def w2 (c k t : Nat) : List Nat := ltr (c + 7 * (k / 4)) :: (tailN c).take (k % 4 + t)
def w0 (a u m : Nat) : List Nat := ltr a :: [ltr u, ltr (u + 3), ltr (u + 6), ltr (u + 9), ltr (u + 12)].take m
def below (n : Nat) (f : Nat → Bool) : Bool := (List.range n).all f
theorem below_at {n : Nat} {f : Nat → Bool} (h : below n f = true) {i : Nat} (hi : i < n) : f i = true :=
  List.all_eq_true.mp h i (List.mem_range.mpr hi)
theorem w1_all : below 26 (fun c => below 16 fun k => below 7 fun size => below size fun place => GoodL (w1 c k place size)) = true := by decide +kernel
theorem w2_all : below 26 (fun c => below 16 fun k => below 3 fun t => GoodL (w2 c k t)) = true := by decide +kernel
theorem w0_all : below 26 (fun a => below 26 fun u => below 6 fun m => GoodL (w0 a u m)) = true := by decide +kernel
theorem w1_ok {c k place size : Nat} (h1 : c < 26) (h2 : k < 16) (h3 : size < 7) (h4 : place < size) : GoodL (w1 c k place size) = true :=
  below_at (below_at (below_at (below_at w1_all h1) h2) h3) h4
theorem w2_ok {c k t : Nat} (h1 : c < 26) (h2 : k < 16) (h3 : t < 3) : GoodL (w2 c k t) = true := below_at (below_at (below_at w2_all h1) h2) h3
theorem w0_ok {a u m : Nat} (h1 : a < 26) (h2 : u < 26) (h3 : m < 6) : GoodL (w0 a u m) = true := below_at (below_at (below_at w0_all h1) h2) h3
end Lm
/-! Rows as they stand in the heap. -/
namespace Lm
open PySem L2
/-- a def that lets nothing out, as its callers need it -/
structure Df (P : Program) (w : World) (K : PySem.W.Frag) (mg : Str → Option Value) (base : Heap) (x : Str) (k : Nat) (f : Addr) (fd : FuncData) (ps : List Str) (sp : Sp) : Prop where
  ok : FnOk P w K mg base CX0 k f fd ps sp
  m : mg x = some (.ref f)
  kp : PySem.W.keepIn K (.ref f) = true
  b : Binds K fd ps []
theorem pe_df {X : Cx} {x : Str} {k : Nat} {f : Addr} {fd : FuncData} {ps : List Str} {sp : Sp} {e : Expr} {es : List Expr} {p pos : Pos} {t : TA} (D : Df X.prog X.w X.K X.mg X.base x k f fd ps sp) (hr : Room k X.A) (ha : PA X (e :: es) t) (hg : Gl X x := by rfl)
    (hdb : (x == ("__debug__" : Str)) = false := by decide) (he : starEach (e :: es) X.env = (false, eval e X.env) :: starEach es X.env := by rfl) (hpl : (backTo pos (starEach es X.env)).any (·.1) = false := by rfl) :
    PE X (.Call (.Name x p) (e :: es) [] pos) (tCall sp [] E0 t) := pe_call D.ok hr hg D.m D.kp D.b .nil pass0 ha hdb he hpl
/-- no test in a comprehension -/
theorem kept {A B : Prop} (h : A) : (fun b : Bool => if b = true then A else B) true := by
  show if true = true then A else B
  rw [if_pos rfl]
  exact h
/-- a value of a row: a name or a number -/
inductive Vl where
  | nm (s : Str)
  | nu (i : Int)
def Vl.v : Vl → V
  | .nm s => .str s
  | .nu i => .int i
def Vl.ok (ss : List Str) : Vl → Prop
  | .nm s => s ∈ ss
  | .nu i => 0 ≤ i ∧ i < 1000000
/-- a row; a block's test is any value -/
inductive Row where
  | lt (to sg : Str) (a b : Vl)
  | sy (a : Vl)
  | bk (kd : Str) (ts : V) (rs : List Row)
def signs : List Str := ["+", "-", "*", "<", "/"]
def kinds : List Str := ["when", "loop", "again"]
mutual
/-- the rows lean on the names ss alone, no list in them is long -/
def Row.ok (ss : List Str) : Row → Prop
  | .lt to sg a b => to ∈ ss ∧ sg ∈ signs ∧ a.ok ss ∧ b.ok ss
  | .sy a => a.ok ss
  | .bk kd ts rs => kd ∈ kinds ∧ (∃ s, ts = .str s ∧ s ∈ ss) ∧ rs.length ≤ 2000 ∧ oks ss rs
def oks (ss : List Str) : List Row → Prop
  | [] => True
  | r :: rs => r.ok ss ∧ oks ss rs
end
mutual
def Row.dep : Row → Nat
  | .lt _ _ _ _ => 0
  | .sy _ => 0
  | .bk _ _ rs => deps rs + 1
def deps : List Row → Nat
  | [] => 0
  | r :: rs => max r.dep (deps rs)
end
mutual
/-- how many rows -/
def Row.tot : Row → Nat
  | .lt _ _ _ _ => 1
  | .sy _ => 1
  | .bk _ _ rs => tots rs + 1
def tots : List Row → Nat
  | [] => 0
  | r :: rs => r.tot + tots rs
end
theorem Row.tot_pos : ∀ r : Row, 1 ≤ r.tot
  | .lt _ _ _ _ => Nat.le_refl 1
  | .sy _ => Nat.le_refl 1
  | .bk _ _ rs => by
    show 1 ≤ tots rs + 1
    omega
theorem tots_app : ∀ {rs qs : List Row}, tots (rs ++ qs) = tots rs + tots qs
  | [], qs => (Nat.zero_add _).symm
  | r :: rs, qs => by
    show r.tot + tots (rs ++ qs) = (r.tot + tots rs) + tots qs
    rw [tots_app, Nat.add_assoc]
theorem len_tots : ∀ rs : List Row, rs.length ≤ tots rs
  | [] => Nat.le_refl 0
  | r :: rs => by
    have h1 := r.tot_pos
    have h2 := len_tots rs
    show rs.length + 1 ≤ r.tot + tots rs
    omega
mutual
/-- the row stands at v -/
def RowAt (K : PySem.W.Frag) (H : Hp) : Row → V → Prop
  | .lt to sg a b, v => ∃ p, v = .ref p ∧ SqT K H p [.str "let", .str to, .str sg, a.v, b.v]
  | .sy a, v => ∃ p, v = .ref p ∧ SqT K H p [.str "say", a.v]
  | .bk kd ts rs, v => ∃ p l vs, v = .ref p ∧ SqT K H p [.str kd, ts, .ref l] ∧ SqL K H l vs ∧ AllAt K H rs vs
def AllAt (K : PySem.W.Frag) (H : Hp) : List Row → List V → Prop
  | [], vs => vs = []
  | r :: rs, vs => ∃ v ws, vs = v :: ws ∧ RowAt K H r v ∧ AllAt K H rs ws
end
/-- the rows stand in the list at l -/
def RowsAt (K : PySem.W.Frag) (H : Hp) (l : Addr) (rs : List Row) : Prop := ∃ vs, SqL K H l vs ∧ AllAt K H rs vs
/-- the same, in a list of the heap's own -/
def RowsL (K : PySem.W.Frag) (H : Hp) (l : Addr) (rs : List Row) : Prop := ∃ vs, H l = some (.lst vs) ∧ AllAt K H rs vs
theorem RowsL.rows {K : PySem.W.Frag} {H : Hp} {l : Addr} {rs : List Row} (h : RowsL K H l rs) : RowsAt K H l rs := let ⟨vs, h1, h2⟩ := h; ⟨vs, SqL.of h1, h2⟩
/-- what stood stands; tables may have grown -/
structure Kp (H H' : Hp) : Prop where
  at_ : ∀ b o, H b = some o → (∀ ps, o ≠ .tbl ps) → H' b = some o
  tb : ∀ b ps, H b = some (.tbl ps) → ∃ qs, H' b = some (.tbl qs)
theorem Same.kp {H H' : Hp} (h : Same H H') : Kp H H' := ⟨fun b o e _ => h b o e, fun b ps e => ⟨ps, h _ _ e⟩⟩
theorem Kp.refl (H : Hp) : Kp H H := Same.kp (Same.refl H)
theorem Kp.trans {H H1 H2 : Hp} (a : Kp H H1) (b : Kp H1 H2) : Kp H H2 := ⟨fun c o e n => b.at_ c o (a.at_ c o e n) n, fun c ps e => let ⟨qs, q⟩ := a.tb c ps e; b.tb c qs q⟩
theorem Kp.free {H H' : Hp} (k : Kp H H') {p : Addr} (h : H' p = none) : H p = none := by
  cases q : H p with
  | none => rfl
  | some o =>
    cases o with
    | tbl ps =>
      obtain ⟨qs, e⟩ := k.tb p ps q
      rw [h] at e
      cases e
    | _ =>
      have e := k.at_ p _ q (fun ps z => by cases z)
      rw [h] at e
      cases e
theorem Kp.put {H H' : Hp} (k : Kp H H') {p : Addr} (h : H p = none) (o : HO) : Kp H (upd H' p o) := ⟨fun b u e n => by rw [upd_ne (ne_of_none e h)]; exact k.at_ b u e n, fun b ps e => by rw [upd_ne (ne_of_none e h)]; exact k.tb b ps e⟩
theorem same_new {H : Hp} {p : Addr} (h : H p = none) (o : HO) : Same H (upd H p o) := fun b u q => by rw [upd_ne (ne_of_none q h)]; exact q
theorem Kp.sqL {K : PySem.W.Frag} {H H' : Hp} {a : Addr} {xs : List V} (e : Kp H H') (h : SqL K H a xs) : SqL K H' a xs := by
  rcases h with (h | ⟨o, h⟩) | h
  · exact .inl (.inl (e.at_ _ _ h (fun _ q => by cases q)))
  · exact .inl (.inr ⟨o, e.at_ _ _ h (fun _ q => by cases q)⟩)
  · exact .inr h
theorem Kp.sqT {K : PySem.W.Frag} {H H' : Hp} {a : Addr} {xs : List V} (e : Kp H H') (h : SqT K H a xs) : SqT K H' a xs := by
  rcases h with (h | ⟨o, h⟩) | h
  · exact .inl (.inl (e.at_ _ _ h (fun _ q => by cases q)))
  · exact .inl (.inr ⟨o, e.at_ _ _ h (fun _ q => by cases q)⟩)
  · exact .inr h
mutual
theorem RowAt.mono {K : PySem.W.Frag} {H H' : Hp} (e : Kp H H') : ∀ (r : Row) (v : V), RowAt K H r v → RowAt K H' r v
  | .lt _ _ _ _, _, ⟨p, h1, h2⟩ => ⟨p, h1, e.sqT h2⟩
  | .sy _, _, ⟨p, h1, h2⟩ => ⟨p, h1, e.sqT h2⟩
  | .bk _ _ rs, _, ⟨p, l, vs, h1, h2, h3, h4⟩ => ⟨p, l, vs, h1, e.sqT h2, e.sqL h3, AllAt.mono e rs vs h4⟩
theorem AllAt.mono {K : PySem.W.Frag} {H H' : Hp} (e : Kp H H') : ∀ (rs : List Row) (vs : List V), AllAt K H rs vs → AllAt K H' rs vs
  | [], _, h => h
  | r :: rs, _, ⟨v, ws, h1, h2, h3⟩ => ⟨v, ws, h1, RowAt.mono e r v h2, AllAt.mono e rs ws h3⟩
end
theorem RowsAt.mono {K : PySem.W.Frag} {H H' : Hp} (e : Kp H H') {l : Addr} {rs : List Row} (h : RowsAt K H l rs) : RowsAt K H' l rs :=
  let ⟨vs, h1, h2⟩ := h; ⟨vs, e.sqL h1, AllAt.mono e rs vs h2⟩
theorem RowsL.mono {K : PySem.W.Frag} {H H' : Hp} (e : Kp H H') {l : Addr} {rs : List Row} (h : RowsL K H l rs) : RowsL K H' l rs :=
  let ⟨vs, h1, h2⟩ := h; ⟨vs, e.at_ _ _ h1 (fun _ q => by cases q), AllAt.mono e rs vs h2⟩
theorem AllAt.len {K : PySem.W.Frag} {H : Hp} : ∀ {rs : List Row} {vs : List V}, AllAt K H rs vs → vs.length = rs.length
  | [], _, h => by
    have e : _ = [] := h
    rw [e]
    rfl
  | r :: rs, _, ⟨v, ws, h1, _, h3⟩ => by rw [h1, List.length_cons, List.length_cons, AllAt.len h3]
theorem AllAt.app {K : PySem.W.Frag} {H : Hp} : ∀ {rs qs : List Row} {vs ws : List V}, AllAt K H rs vs → AllAt K H qs ws → AllAt K H (rs ++ qs) (vs ++ ws)
  | [], _, _, _, h, q => by
    have e : _ = [] := h
    rw [e]
    exact q
  | r :: rs, _, _, _, ⟨v, us, h1, h2, h3⟩, q => by
    rw [h1]
    exact ⟨v, us ++ _, rfl, h2, AllAt.app h3 q⟩
theorem AllAt.one {K : PySem.W.Frag} {H : Hp} {r : Row} {v : V} (h : RowAt K H r v) : AllAt K H [r] [v] := ⟨v, [], rfl, h, rfl⟩
theorem AllAt.at {K : PySem.W.Frag} {H : Hp} : ∀ {rs : List Row} {vs : List V} {i : Nat} {v : V}, AllAt K H rs vs → vs[i]? = some v → ∃ r, rs[i]? = some r ∧ RowAt K H r v
  | [], _, i, v, h, e => by
    have e' : _ = [] := h
    rw [e'] at e
    cases e
  | r :: rs, _, 0, v, ⟨v', ws, h1, h2, h3⟩, e => by
    rw [h1] at e
    cases e
    exact ⟨r, rfl, h2⟩
  | r :: rs, _, i + 1, v, ⟨v', ws, h1, h2, h3⟩, e => by
    rw [h1] at e
    exact AllAt.at (rs := rs) h3 (by simpa using e)
theorem oks_app {ss : List Str} : ∀ {rs qs : List Row}, oks ss rs → oks ss qs → oks ss (rs ++ qs)
  | [], _, _, q => q
  | _ :: _, _, ⟨h1, h2⟩, q => ⟨h1, oks_app h2 q⟩
theorem oks_at {ss : List Str} : ∀ {rs : List Row} {i : Nat} {r : Row}, oks ss rs → rs[i]? = some r → r.ok ss
  | [], _, _, _, e => by cases e
  | _ :: _, 0, _, h, e => by
    cases e
    exact h.1
  | _ :: _, _ + 1, _, h, e => oks_at h.2 e
theorem deps_app : ∀ {rs qs : List Row}, deps (rs ++ qs) = max (deps rs) (deps qs)
  | [], qs => by
    show deps qs = max 0 (deps qs)
    omega
  | r :: rs, qs => by
    show max r.dep (deps (rs ++ qs)) = max (max r.dep (deps rs)) (deps qs)
    rw [deps_app]
    omega
theorem dep_at : ∀ {rs : List Row} {i : Nat} {r : Row}, rs[i]? = some r → r.dep ≤ deps rs
  | [], _, _, e => by cases e
  | r :: rs, 0, _, e => by
    cases e
    exact Nat.le_max_left _ _
  | r :: rs, _ + 1, _, e => Nat.le_trans (dep_at (rs := rs) e) (Nat.le_max_right _ _)
/-- built-in names that the top leaves alone -/
structure Bn (mg : Str → Option Value) : Prop where
  len : mg "len" = none
  range : mg "range" = none
  isinstance : mg "isinstance" = none
  list : mg "list" = none
  tuple : mg "tuple" = none
  str : mg "str" = none
  int : mg "int" = none
  bool : mg "bool" = none
  all : mg "all" = none
end Lm
/-! The sixteen names. -/
namespace Lm
open PySem L2
def abc : Str := "abcdefghijklmnopqrstuvwxyz"
theorem abc_all : below 26 (fun n => abc.cps.toList[n]? == some (97 + n)) = true := by decide +kernel
theorem abc_at {z : Int} (h0 : 0 ≤ z) (h1 : z < 26) : atI abc.cps.toList z = some (97 + z.toNat) :=
  at_nat' h0 (by simpa using below_at abc_all (i := z.toNat) (by omega))
where
  at_nat' {xs : List Nat} {z : Int} {v : Nat} (h0 : 0 ≤ z) (h : xs[z.toNat]? = some v) : atI xs z = some v := by
    have q : atI xs ((z.toNat : Nat) : Int) = some v := atI_nat h
    rw [show ((z.toNat : Nat) : Int) = z by omega] at q
    exact q
theorem yes {σ : St} {H : Hp} {Q : Bool → Hp → Prop} (h : Q true H) : tYes σ H Q := h
/-- one letter as a text -/
def one (n : Nat) : Str := ⟨#[n]⟩
theorem abc_mod (z : Int) : atI abc.cps.toList (z % 26) = some (97 + (z % 26).toNat) := abc_at (Int.emod_nonneg _ (by decide)) (Int.emod_lt_of_pos _ (by decide))
theorem ltr_int (c : Int) (m : Nat) : 97 + ((c + (m : Int)) % 26).toNat = ltr ((c % 26).toNat + m) := by
  unfold ltr
  omega
theorem app_toList (x y : Str) : (x ++ y).cps.toList = x.cps.toList ++ y.cps.toList := by
  show (x.cps ++ y.cps).toList = _
  simp
theorem len_toList (x : Str) : x.length = x.cps.toList.length := by simp [Str.length]
theorem one_toList (n : Nat) : (one n).cps.toList = [n] := rfl
theorem cut_head (z : Str) (k : Nat) (h : k ≤ z.length) : (cutS z none (some (k : Int))).cps.toList = z.cps.toList.take k := by
  unfold cutS
  rw [HT.sIx_nat]
  show ((z.cps.toList.drop 0).take (min k z.length - 0)).toArray.toList = _
  rw [List.drop_zero, Nat.sub_zero, Nat.min_eq_left h]
theorem cut_mid (z : Str) (j k : Nat) (h : j ≤ z.length) (h2 : k ≤ z.length) : (cutS z (some (j : Int)) (some (k : Int))).cps.toList = (z.cps.toList.drop j).take (k - j) := by
  unfold cutS
  rw [HT.sIx_nat, HT.sIx_nat, Nat.min_eq_left h, Nat.min_eq_left h2]
theorem cut_len (z : Str) (lo hi : Option Int) : (cutS z lo hi).length ≤ z.length := by
  rw [len_toList, len_toList z]
  unfold cutS
  simp only [List.toList_toArray, List.length_take, List.length_drop]
  omega
theorem good_len {s : Str} (h : Good s) : 1 ≤ s.length ∧ s.length ≤ 6 := by
  unfold Good GoodL at h
  simp only [Bool.and_eq_true] at h
  obtain ⟨⟨⟨h1, h2⟩, _⟩, _⟩ := h
  rw [len_toList]
  exact ⟨Nat.le_of_ble_eq_true h1, Nat.le_of_ble_eq_true h2⟩
theorem app_len (x y : Str) : (x ++ y).length = x.length + y.length := by
  rw [len_toList, app_toList, List.length_append, ← len_toList, ← len_toList]
/-- the six letters as a text -/
def tailS (c : Nat) : Str := ⟨#[ltr (c + 1), ltr (c + 6), ltr (c + 11), ltr (c + 16), ltr (c + 21), ltr (c + 26)]⟩
theorem tailS_list (c : Nat) : (tailS c).cps.toList = tailN c := rfl
theorem tailS_len (c : Nat) : (tailS c).length = 6 := rfl
/-- the first i of the six letters, one a text -/
def tl (c : Nat) (i : Nat) : List Str := [one (ltr (c + 1)), one (ltr (c + 6)), one (ltr (c + 11)), one (ltr (c + 16)), one (ltr (c + 21)), one (ltr (c + 26))].take i
theorem tl_more (c : Nat) : ∀ i : Nat, i < 6 → tl c (i + 1) = tl c i ++ [one (ltr (c + (5 * i + 1)))]
  | 0, _ => rfl
  | 1, _ => rfl
  | 2, _ => rfl
  | 3, _ => rfl
  | 4, _ => rfl
  | 5, _ => rfl
  | _ + 6, h => absurd h (by omega)
theorem tl_len (c : Nat) {i : Nat} (h : i ≤ 6) : (tl c i).length = i := by
  unfold tl
  rw [List.length_take]
  show min i 6 = i
  omega
theorem nul_str : ("" : Str) = Str.empty := by decide +kernel
theorem tl_join (c : Nat) : Txt.join "" (tl c 6) = tailS c := by
  rw [nul_str]
  show Builtin.Str.glued Str.empty (tl c 6) = tailS c
  unfold tl tailS one Builtin.Str.glued Str.empty
  simp
theorem tl_sum (c : Nat) : ((tl c 6).map (·.length)).sum + (tl c 6).length * Str.length ("" : Str) ≤ 16777216 := by
  rw [nul_str]
  show 6 + 6 * 0 ≤ 16777216
  decide
theorem w0_more (a u : Nat) : ∀ i : Nat, i < 5 → w0 a u (i + 1) = w0 a u i ++ [ltr (u + 3 * i)]
  | 0, _ => rfl
  | 1, _ => rfl
  | 2, _ => rfl
  | 3, _ => rfl
  | 4, _ => rfl
  | _ + 5, h => absurd h (by omega)
theorem w0_len (a u : Nat) {i : Nat} (h : i < 6) : (w0 a u i).length = i + 1 := by
  unfold w0
  rw [List.length_cons, List.length_take]
  show min i 5 + 1 = i + 1
  omega
/-- the words that may stand for a name -/
def tens : List Str := ["whens", "essay", "reloop", "let", "ends", "sayer", "loops", "send", "agains", "awhen"]
theorem tens_good : ∀ s ∈ tens, Good s := by
  have h : tens.all (fun s => GoodL s.cps.toList) = true := by decide +kernel
  exact fun s hs => List.all_eq_true.mp h s hs
/-- case by case, the word of one turn -/
theorem word1 {c : Nat} (hc : c < 26) {k place size : Nat} (hk : k < 16) (hs : size < 7) (hp : place < size) :
    Good (cutS (tailS c) none (some (place : Int)) ++ one (ltr (c + 5 * k)) ++ cutS (tailS c) (some ((place : Int) + 1)) (some (size : Int))) := by
  have e : ((place : Int) + 1) = ((place + 1 : Nat) : Int) := by omega
  unfold Good
  rw [app_toList, app_toList, cut_head _ _ (by rw [tailS_len]; omega), e, cut_mid _ _ _ (by rw [tailS_len]; omega) (by rw [tailS_len]; omega), one_toList, tailS_list, List.append_assoc]
  exact w1_ok hc hk hs hp
theorem word2 {c : Nat} (hc : c < 26) {k t : Nat} (hk : k < 16) (ht : t < 3) : Good (one (ltr (c + 7 * (k / 4))) ++ cutS (tailS c) none (some ((k % 4 + t : Nat) : Int))) := by
  unfold Good
  rw [app_toList, cut_head _ _ (by rw [tailS_len]; omega), one_toList, tailS_list]
  exact w2_ok hc hk ht
end Lm
/-! A program while it is built: lists that are open, one in another, on a stack. -/
namespace Lm
open PySem L2
/-- the open lists around `child`, from within outwards; Hc: what is closed -/
def Outs (K : PySem.W.Frag) (ss : List Str) (m : Nat) (Hc H : Hp) : Addr → List (Addr × List Row) → Prop
  | _, [] => True
  | child, q :: o => (∃ (vs : List V) (t : Addr) (kd ts : Str), H q.1 = some (.lst (vs ++ [.ref t])) ∧ AllAt K Hc q.2 vs ∧ Hc t = some (.tup [.str kd, .str ts, .ref child]) ∧ kd ∈ kinds ∧ ts ∈ ss) ∧
    oks ss q.2 ∧ q.2.length ≤ m ∧ deps q.2 + o.length ≤ 3 ∧ Outs K ss m Hc H q.1 o
theorem Outs.mono {K : PySem.W.Frag} {ss : List Str} {m m' : Nat} {Hc Hc' H H' : Hp} (hm : m ≤ m') (hs : Same Hc Hc') : ∀ {o : List (Addr × List Row)} {c : Addr}, (∀ b ∈ o.map (·.1), H' b = H b) → Outs K ss m Hc H c o → Outs K ss m' Hc' H' c o
  | [], _, _, _ => True.intro
  | q :: o, c, hb, ⟨⟨vs, t, kd, ts, h1, h2, h3, h4, h5⟩, h6, h7, h8, h9⟩ =>
    ⟨⟨vs, t, kd, ts, by rw [hb q.1 (by simp)]; exact h1, AllAt.mono (Same.kp hs) _ _ h2, hs _ _ h3, h4, h5⟩, h6, Nat.le_trans h7 hm, h8, Outs.mono hm hs (fun b h => hb b (by simp only [List.map_cons, List.mem_cons]; exact .inr h)) h9⟩
/-- how many rows stand in the open lists, their blocks with them -/
def outs : List (Addr × List Row) → Nat
  | [] => 0
  | q :: o => tots q.2 + 1 + outs o
/-- the open lists' addresses -/
abbrev opens (l : Addr) (o : List (Addr × List Row)) : List Addr := l :: o.map (·.1)
structure Prog (K : PySem.W.Frag) (ss : List Str) (m : Nat) (H0 Hc H : Hp) (S T l : Addr) (rs : List Row) (o : List (Addr × List Row)) (ts : List Str) : Prop where
  old : Same H0 Hc
  cl : Same Hc H
  inn : ∃ vs, H l = some (.lst vs) ∧ AllAt K Hc rs vs
  out : Outs K ss m Hc H l o
  no : ∀ b ∈ S :: T :: opens l o, Hc b = none
  nd : (S :: T :: opens l o).Nodup
  ok : oks ss rs
  dep : deps rs + o.length ≤ 3
  wid : rs.length ≤ m
  num : tots rs + outs o ≤ m
  st : H S = some (.lst ((opens l o).reverse.map V.ref))
  te : H T = some (.lst (ts.map V.str))
  tok : ∀ t ∈ ts, t = "" ∨ t ∈ ss
section
variable {K : PySem.W.Frag} {ss : List Str} {m : Nat} {H0 Hc H : Hp} {S T l : Addr} {rs : List Row} {o : List (Addr × List Row)} {ts : List Str}
theorem Outs.some : ∀ {o : List (Addr × List Row)} {c : Addr}, Outs K ss m Hc H c o → ∀ b ∈ o.map (·.1), ∃ xs, H b = some (.lst xs)
  | [], _, _, b, hb => by cases hb
  | q :: o, c, ⟨⟨vs, t, kd, ts, h1, _⟩, _, _, _, h9⟩, b, hb => by
    rcases List.mem_cons.mp (by simpa using hb : b ∈ q.1 :: o.map (·.1)) with e | e
    · rw [e]
      exact ⟨_, h1⟩
    · exact Outs.some h9 b e
theorem Prog.there (h : Prog K ss m H0 Hc H S T l rs o ts) : ∀ b ∈ S :: T :: opens l o, ∃ xs, H b = some (.lst xs) := fun b hb => by
  rcases List.mem_cons.mp hb with e | hb
  · rw [e]
    exact ⟨_, h.st⟩
  rcases List.mem_cons.mp hb with e | hb
  · rw [e]
    exact ⟨_, h.te⟩
  rcases List.mem_cons.mp hb with e | hb
  · rw [e]
    obtain ⟨vs, h1, _⟩ := h.inn
    exact ⟨_, h1⟩
  · exact Outs.some h.out b hb
theorem Prog.apart (h : Prog K ss m H0 Hc H S T l rs o ts) {p : Addr} (hp : H p = none) : ∀ b ∈ S :: T :: opens l o, b ≠ p := fun b hb => by
  obtain ⟨xs, e⟩ := h.there b hb
  exact ne_of_none e hp
theorem Prog.same (h : Prog K ss m H0 Hc H S T l rs o ts) : Same H0 H := h.old.trans h.cl
theorem Prog.more (h : Prog K ss m H0 Hc H S T l rs o ts) {m' : Nat} (hm : m ≤ m') : Prog K ss m' H0 Hc H S T l rs o ts :=
  { h with out := Outs.mono hm (Same.refl _) (fun _ _ => rfl) h.out, wid := Nat.le_trans h.wid hm, num := Nat.le_trans h.num hm }
/-- a new object that will not change -/
theorem Prog.alloc (h : Prog K ss m H0 Hc H S T l rs o ts) {p : Addr} (hp : H p = none) (u : HO) : Prog K ss m H0 (upd Hc p u) (upd H p u) S T l rs o ts := by
  have hcp : Hc p = none := h.cl.free hp
  have ap := h.apart hp
  have s1 : Same Hc (upd Hc p u) := same_new hcp u
  have ne : ∀ b ∈ S :: T :: opens l o, upd H p u b = H b := fun b hb => upd_ne (ap b hb)
  obtain ⟨vs, e1, e2⟩ := h.inn
  refine ⟨h.old.trans s1, fun b x hb => ?_, ⟨vs, ?_, AllAt.mono (Same.kp s1) _ _ e2⟩, Outs.mono (Nat.le_refl _) s1 (fun b hb => ne b ?_) h.out, fun b hb => ?_, h.nd, h.ok, h.dep, h.wid, h.num, ?_, ?_, h.tok⟩
  · by_cases e : b = p
    · rw [e, upd_same] at hb
      rw [e, upd_same]
      exact hb
    · rw [upd_ne e] at hb
      rw [upd_ne e]
      exact h.cl b x hb
  · rw [ne l (by simp)]
    exact e1
  · exact List.mem_cons_of_mem _ (List.mem_cons_of_mem _ (List.mem_cons_of_mem _ hb))
  · rw [upd_ne (ap b hb)]
    exact h.no b hb
  · rw [ne S (by simp)]
    exact h.st
  · rw [ne T (by simp)]
    exact h.te
theorem Prog.nST (h : Prog K ss m H0 Hc H S T l rs o ts) : S ≠ T ∧ S ≠ l ∧ T ≠ l ∧ (∀ b ∈ o.map (·.1), b ≠ S ∧ b ≠ T ∧ b ≠ l) := by
  have h1 := h.nd
  simp only [opens, List.nodup_cons, List.mem_cons, not_or] at h1
  obtain ⟨⟨a1, a2, a3⟩, ⟨b1, b2⟩, c1, _⟩ := h1
  exact ⟨a1, a2, b1, fun b hb => ⟨fun e => a3 (e ▸ hb), fun e => b2 (e ▸ hb), fun e => c1 (e ▸ hb)⟩⟩
/-- what is written to an open list, to the stack or to the tests leaves what is closed -/
theorem Prog.cl_upd (h : Prog K ss m H0 Hc H S T l rs o ts) {b : Addr} (hb : b ∈ S :: T :: opens l o) (u : HO) : Same Hc (upd H b u) := fun c x hc => by
  rw [upd_ne (ne_of_none hc (h.no b hb))]
  exact h.cl c x hc
/-- a row behind those of the innermost list -/
theorem Prog.app (h : Prog K ss m H0 Hc H S T l rs o ts) {r : Row} {v : V} {vs : List V} (hl : H l = some (.lst vs)) (hr : RowAt K Hc r v) (hok : r.ok ss) (hd : r.dep + o.length ≤ 3) (h1 : r.tot = 1) :
    Prog K ss (m + 1) H0 Hc (upd H l (.lst (vs ++ [v]))) S T l (rs ++ [r]) o ts := by
  obtain ⟨vs', e1, e2⟩ := h.inn
  have ev : vs' = vs := by
    have z := e1.symm.trans hl
    cases z
    rfl
  subst ev
  obtain ⟨n1, n2, n3, n4⟩ := h.nST
  refine ⟨h.old, h.cl_upd (by simp) _, ⟨_, upd_same, e2.app (AllAt.one hr)⟩, Outs.mono (Nat.le_succ _) (Same.refl _) (fun b hb => upd_ne (n4 b hb).2.2) h.out, h.no, h.nd, oks_app h.ok ⟨hok, True.intro⟩, ?_, ?_, ?_, ?_, ?_, h.tok⟩
  · rw [deps_app]
    have := h.dep
    show max (deps rs) (max r.dep 0) + o.length ≤ 3
    omega
  · rw [List.length_append]
    exact Nat.succ_le_succ h.wid
  · have := h.num
    rw [tots_app]
    show tots rs + (r.tot + 0) + outs o ≤ m + 1
    omega
  · rw [upd_ne n2]
    exact h.st
  · rw [upd_ne n3]
    exact h.te
theorem Prog.tests (h : Prog K ss m H0 Hc H S T l rs o ts) {ts' : List Str} (ht : ∀ t ∈ ts', t = "" ∨ t ∈ ss) : Prog K ss m H0 Hc (upd H T (.lst (ts'.map V.str))) S T l rs o ts' := by
  obtain ⟨vs, e1, e2⟩ := h.inn
  obtain ⟨n1, n2, n3, n4⟩ := h.nST
  exact ⟨h.old, h.cl_upd (by simp) _, ⟨vs, by rw [upd_ne n3.symm]; exact e1, e2⟩, Outs.mono (Nat.le_refl _) (Same.refl _) (fun b hb => upd_ne (n4 b hb).2.1) h.out, h.no, h.nd, h.ok, h.dep, h.wid, h.num, by rw [upd_ne n1]; exact h.st, upd_same, ht⟩
/-- a block opens: q its list, p its row -/
theorem Prog.push (h : Prog K ss m H0 Hc H S T l rs o ts) {p q : Addr} {kd te : Str} {vs : List V} (hl : H l = some (.lst vs)) (hq : H q = none) (hp : (upd H q (.lst [])) p = none) (hk : kd ∈ kinds) (hte : te ∈ ss) (h3 : o.length < 3) :
    Prog K ss (m + 1) H0 (upd Hc p (.tup [.str kd, .str te, .ref q])) (upd (upd (upd (upd H q (.lst [])) p (.tup [.str kd, .str te, .ref q])) l (.lst (vs ++ [.ref p]))) S (.lst ((opens l o).reverse.map V.ref ++ [.ref q]))) S T q [] ((l, rs) :: o) ts := by
  obtain ⟨vs', e1, e2⟩ := h.inn
  have ev : vs' = vs := by
    have z := e1.symm.trans hl
    cases z
    rfl
  subst ev
  obtain ⟨n1, n2, n3, n4⟩ := h.nST
  have npq : p ≠ q := fun e => by rw [e, upd_same] at hp; cases hp
  have hp0 : H p = none := by rw [upd_ne npq] at hp; exact hp
  have aq := h.apart hq
  have ap := h.apart hp0
  have hcp : Hc p = none := h.cl.free hp0
  have hcq : Hc q = none := h.cl.free hq
  have s1 : Same Hc (upd Hc p (.tup [.str kd, .str te, .ref q])) := same_new hcp _
  have mS : S ∈ S :: T :: opens l o := by simp
  have mT : T ∈ S :: T :: opens l o := by simp
  have ml : l ∈ S :: T :: opens l o := by simp
  have mo : ∀ b ∈ o.map (·.1), b ∈ S :: T :: opens l o := fun b hb => List.mem_cons_of_mem _ (List.mem_cons_of_mem _ (List.mem_cons_of_mem _ hb))
  refine ⟨h.old.trans s1, fun b x hb => ?_, ⟨[], ?_, rfl⟩, ⟨⟨vs', p, kd, te, ?_, AllAt.mono (Same.kp s1) _ _ e2, upd_same, hk, hte⟩, h.ok, Nat.le_succ_of_le h.wid, h.dep, Outs.mono (Nat.le_succ _) s1 (fun b hb => ?_) h.out⟩, fun b hb => ?_, ?_, True.intro, ?_, Nat.zero_le _, ?_, ?_, ?_, h.tok⟩
  · by_cases e : b = p
    · rw [e, upd_same] at hb
      rw [e, upd_ne (ap S mS).symm, upd_ne (ap l ml).symm, upd_same]
      exact hb
    · rw [upd_ne e] at hb
      have hS := ne_of_none hb (h.no S mS)
      have hL := ne_of_none hb (h.no l ml)
      have hQ := ne_of_none hb hcq
      rw [upd_ne hS, upd_ne hL, upd_ne e, upd_ne hQ]
      exact h.cl b x hb
  · rw [upd_ne (aq S mS).symm, upd_ne (aq l ml).symm, upd_ne npq.symm, upd_same]
  · rw [upd_ne n2.symm, upd_same]
  · obtain ⟨z1, z2, z3⟩ := n4 b hb
    rw [upd_ne z1, upd_ne z3, upd_ne (ap b (mo b hb)), upd_ne (aq b (mo b hb))]
  · have hb' : b = q ∨ b ∈ S :: T :: opens l o := by
      simp only [opens, List.map_cons, List.mem_cons] at hb ⊢
      rcases hb with e | e | e | e | e
      · exact .inr (.inl e)
      · exact .inr (.inr (.inl e))
      · exact .inl e
      · exact .inr (.inr (.inr (.inl e)))
      · exact .inr (.inr (.inr (.inr e)))
    rcases hb' with e | e
    · rw [e, upd_ne npq.symm]
      exact hcq
    · rw [upd_ne (ap b e)]
      exact h.no b e
  · have h1 := h.nd
    have hq1 : ¬ q ∈ S :: T :: opens l o := fun z => (aq q z) rfl
    simp only [opens, List.map_cons, List.nodup_cons, List.mem_cons, not_or] at h1 hq1 ⊢
    obtain ⟨⟨a1, a2, a3⟩, ⟨b1, b2⟩, c1, c2⟩ := h1
    obtain ⟨q1, q2, q3, q4⟩ := hq1
    exact ⟨⟨a1, Ne.symm q1, a2, a3⟩, ⟨Ne.symm q2, b1, b2⟩, ⟨q3, q4⟩, c1, c2⟩
  · show 0 + (o.length + 1) ≤ 3
    omega
  · have := h.num
    show 0 + (tots rs + 1 + outs o) ≤ m + 1
    omega
  · rw [upd_same]
    simp [opens]
  · rw [upd_ne n1.symm, upd_ne n3, upd_ne (ap T mT), upd_ne (aq T mT)]
    exact h.te
theorem Prog.pushes (h : Prog K ss m H0 Hc H S T l rs o ts) {p q : Addr} (kd te : Str) {vs : List V} (hl : H l = some (.lst vs)) (hq : H q = none) (hp : (upd H q (.lst [])) p = none) :
    (upd (upd H q (.lst [])) p (.tup [.str kd, .str te, .ref q])) l = some (.lst vs) ∧
    (upd (upd (upd H q (.lst [])) p (.tup [.str kd, .str te, .ref q])) l (.lst (vs ++ [.ref p]))) S = some (.lst ((opens l o).reverse.map V.ref)) ∧
    (upd (upd (upd H q (.lst [])) p (.tup [.str kd, .str te, .ref q])) l (.lst (vs ++ [.ref p]))) p = some (.tup [.str kd, .str te, .ref q]) := by
  have npq : p ≠ q := fun e => by rw [e, upd_same] at hp; cases hp
  have hp0 : H p = none := by rw [upd_ne npq] at hp; exact hp
  have aq := h.apart hq
  have ap := h.apart hp0
  obtain ⟨n1, n2, n3, n4⟩ := h.nST
  refine ⟨?_, ?_, ?_⟩
  · rw [upd_ne (ap l (by simp)), upd_ne (aq l (by simp))]
    exact hl
  · rw [upd_ne n2, upd_ne (ap S (by simp)), upd_ne (aq S (by simp))]
    exact h.st
  · rw [upd_ne (ap l (by simp)).symm, upd_same]
theorem Prog.roomS (h : Prog K ss m H0 Hc H S T l rs o ts) : ((opens l o).reverse.map V.ref).length < sizeLine := by
  have := h.dep
  rw [List.length_map, List.length_reverse]
  exact small1000 (by show (o.map (·.1)).length + 1 ≤ 1000; rw [List.length_map]; omega)
/-- a block closes -/
theorem Prog.pop {q : Addr × List Row} (h : Prog K ss m H0 Hc H S T l rs (q :: o) ts) (hm : m ≤ 2000) :
    ∃ Hc' kd te, Prog K ss (m + 1) H0 Hc' (upd H S (.lst ((opens q.1 o).reverse.map V.ref))) S T q.1 (q.2 ++ [.bk kd (.str te) rs]) o ts := by
  obtain ⟨vs, e1, e2⟩ := h.inn
  obtain ⟨⟨ws, t, kd, te, g1, g2, g3, g4, g5⟩, g6, g7, g8, g9⟩ := h.out
  obtain ⟨n1, n2, n3, n4⟩ := h.nST
  have hcl : Hc l = none := h.no l (by simp)
  have s1 : Same Hc (upd Hc l (.lst vs)) := same_new hcl _
  obtain ⟨z1, z2, z3⟩ := n4 q.1 (by simp)
  have nb : ∀ b ∈ o.map (·.1), b ≠ S ∧ b ≠ T ∧ b ≠ l := fun b hb => n4 b (by simp only [List.map_cons, List.mem_cons]; exact .inr hb)
  refine ⟨upd Hc l (.lst vs), kd, te, h.old.trans s1, fun b x hb => ?_, ⟨_, by rw [upd_ne z1]; exact g1, (AllAt.mono (Same.kp s1) _ _ g2).app (AllAt.one ⟨t, l, vs, rfl, SqT.of (s1 _ _ g3), SqL.of upd_same, AllAt.mono (Same.kp s1) _ _ e2⟩)⟩,
    Outs.mono (Nat.le_succ _) s1 (fun b hb => upd_ne (nb b hb).1) g9, fun b hb => ?_, ?_, oks_app g6 ⟨⟨g4, ⟨te, rfl, g5⟩, Nat.le_trans h.wid hm, h.ok⟩, True.intro⟩, ?_, ?_, ?_, upd_same, ?_, h.tok⟩
  · by_cases e : b = l
    · rw [e, upd_same] at hb
      rw [e, upd_ne n2.symm]
      exact e1.trans hb
    · rw [upd_ne e] at hb
      rw [upd_ne (ne_of_none hb (h.no S (by simp)))]
      exact h.cl b x hb
  · have hbl : b ≠ l := by
      rcases List.mem_cons.mp hb with e | hb
      · rw [e]; exact n2
      rcases List.mem_cons.mp hb with e | hb
      · rw [e]; exact n3
      rcases List.mem_cons.mp hb with e | hb
      · rw [e]; exact z3
      · exact (nb b hb).2.2
    rw [upd_ne hbl]
    refine h.no b ?_
    simp only [opens, List.map_cons, List.mem_cons] at hb ⊢
    rcases hb with e | e | e | e
    · exact .inl e
    · exact .inr (.inl e)
    · exact .inr (.inr (.inr (.inl e)))
    · exact .inr (.inr (.inr (.inr e)))
  · have h1 := h.nd
    simp only [opens, List.map_cons, List.nodup_cons, List.mem_cons, not_or] at h1 ⊢
    obtain ⟨⟨a1, a2, a3, a4⟩, ⟨b1, b2, b3⟩, c1, d1, d2⟩ := h1
    exact ⟨⟨a1, a3, a4⟩, ⟨b2, b3⟩, d1, d2⟩
  · have hd : deps rs + (o.length + 1) ≤ 3 := h.dep
    rw [deps_app]
    show max (deps q.2) (max (deps rs + 1) 0) + o.length ≤ 3
    omega
  · rw [List.length_append]
    exact Nat.succ_le_succ g7
  · have hn : tots rs + (tots q.2 + 1 + outs o) ≤ m := h.num
    rw [tots_app]
    show tots q.2 + (tots rs + 1 + 0) + outs o ≤ m + 1
    omega
  · rw [upd_ne n1.symm]
    exact h.te
end
end Lm
/-! Kinds of values; things that are alike; rows that are thin; rows in further blocks. -/
namespace Lm
open PySem L2
theorem ty_list {K : PySem.W.Frag} {H : Hp} {a : Addr} {xs : List V} (h : SqL K H a xs) : TyX K H (.ref a) (.type "list") := by
  rcases h with (h | ⟨o, h⟩) | ⟨o, its, n, h1, h2, _⟩
  · exact .base (.lst h)
  · exact .base (.frz h)
  · exact .kList h1 h2
theorem ty_tuple {K : PySem.W.Frag} {H : Hp} {a : Addr} {xs : List V} (h : SqT K H a xs) : TyX K H (.ref a) (.type "tuple") := by
  rcases h with (h | ⟨o, h⟩) | ⟨o, its, n, h1, h2, _⟩
  · exact .base (.tup h)
  · exact .fTuple h
  · exact .kTuple h1 h2
theorem ty_int {K : PySem.W.Frag} {H : Hp} (i : Int) : TyX K H (.int i) (.type "int") := .base (.int i)
theorem ty_str {K : PySem.W.Frag} {H : Hp} (x : Str) : TyX K H (.str x) (.type "str") := .base (.str x)
theorem ty_bl {K : PySem.W.Frag} {H : Hp} (b : Bool) : TyX K H (.bl b) (.type "bool") := .base (.bl b)
/-- x and y are data of one form, at most n deep -/
def Alk (K : PySem.W.Frag) (H : Hp) : Nat → V → V → Prop
  | 0, _, _ => False
  | n + 1, x, y => (∃ s, x = .str s ∧ y = .str s) ∨ (∃ i, x = .int i ∧ y = .int i) ∨
    (∃ p q xs ys, x = .ref p ∧ y = .ref q ∧ SqL K H p xs ∧ SqL K H q ys ∧ xs.length = ys.length ∧ xs.length ≤ 10000 ∧ ∀ (i : Nat) (a b : V), xs[i]? = some a → ys[i]? = some b → Alk K H n a b) ∨
    (∃ p q xs ys, x = .ref p ∧ y = .ref q ∧ SqT K H p xs ∧ SqT K H q ys ∧ xs.length = ys.length ∧ xs.length ≤ 10000 ∧ ∀ (i : Nat) (a b : V), xs[i]? = some a → ys[i]? = some b → Alk K H n a b)
theorem Alk.mono {K : PySem.W.Frag} {H H' : Hp} (e : Kp H H') : ∀ {n m : Nat} {x y : V}, n ≤ m → Alk K H n x y → Alk K H' m x y
  | 0, _, _, _, _, h => h.elim
  | _ + 1, 0, _, _, hm, _ => absurd hm (by omega)
  | n + 1, m + 1, x, y, hm, h => by
    rcases h with h | h | ⟨p, q, xs, ys, h1, h2, h3, h4, h5, h6, h7⟩ | ⟨p, q, xs, ys, h1, h2, h3, h4, h5, h6, h7⟩
    · exact .inl h
    · exact .inr (.inl h)
    · exact .inr (.inr (.inl ⟨p, q, xs, ys, h1, h2, e.sqL h3, e.sqL h4, h5, h6, fun i a b ha hb => Alk.mono e (Nat.le_of_succ_le_succ hm) (h7 i a b ha hb)⟩))
    · exact .inr (.inr (.inr ⟨p, q, xs, ys, h1, h2, e.sqT h3, e.sqT h4, h5, h6, fun i a b ha hb => Alk.mono e (Nat.le_of_succ_le_succ hm) (h7 i a b ha hb)⟩))
theorem Alk.up {K : PySem.W.Frag} {H : Hp} {n m : Nat} {x y : V} (h : Alk K H n x y) (hm : n ≤ m) : Alk K H m x y := h.mono (Kp.refl H) hm
theorem alk_str {K : PySem.W.Frag} {H : Hp} {n : Nat} (s : Str) : Alk K H (n + 1) (.str s) (.str s) := Or.inl ⟨s, rfl, rfl⟩
theorem alk_int {K : PySem.W.Frag} {H : Hp} {n : Nat} (i : Int) : Alk K H (n + 1) (.int i) (.int i) := Or.inr (.inl ⟨i, rfl, rfl⟩)
theorem alk_vl {K : PySem.W.Frag} {H : Hp} {n : Nat} : ∀ x : Vl, Alk K H (n + 1) x.v x.v
  | .nm s => alk_str s
  | .nu i => alk_int i
theorem get_nil {α : Type} {i : Nat} {a : α} (h : ([] : List α)[i]? = some a) : False := by simp at h
mutual
theorem RowAt.alk {K : PySem.W.Frag} {H : Hp} {ss : List Str} : ∀ (r : Row) {v u : V}, r.ok ss → RowAt K H r v → RowAt K H r u → Alk K H (2 * r.dep + 2) v u
  | .lt to sg x y, v, u, ok, ⟨p, h1, h2⟩, ⟨q, g1, g2⟩ => by
    refine Or.inr (.inr (.inr ⟨p, q, _, _, h1, g1, h2, g2, rfl, by simp, fun i a b ha hb => ?_⟩))
    rw [ha] at hb
    cases hb
    match i, ha with
    | 0, ha => cases ha; exact alk_str _
    | 1, ha => cases ha; exact alk_str _
    | 2, ha => cases ha; exact alk_str _
    | 3, ha => cases ha; exact alk_vl _
    | 4, ha => cases ha; exact alk_vl _
    | i + 5, ha => exact (get_nil (i := i) ha).elim
  | .sy x, v, u, ok, ⟨p, h1, h2⟩, ⟨q, g1, g2⟩ => by
    refine Or.inr (.inr (.inr ⟨p, q, _, _, h1, g1, h2, g2, rfl, by simp, fun i a b ha hb => ?_⟩))
    rw [ha] at hb
    cases hb
    match i, ha with
    | 0, ha => cases ha; exact alk_str _
    | 1, ha => cases ha; exact alk_vl _
    | i + 2, ha => exact (get_nil (i := i) ha).elim
  | .bk kd ts rs, v, u, ⟨_, ⟨s, es, _⟩, hlen, hok⟩, ⟨p, l, vs, h1, h2, h3, h4⟩, ⟨q, k, us, g1, g2, g3, g4⟩ => by
    refine Or.inr (.inr (.inr ⟨p, q, _, _, h1, g1, h2, g2, rfl, by simp, fun i a b ha hb => ?_⟩))
    match i, ha, hb with
    | 0, ha, hb => cases ha; cases hb; exact alk_str _
    | 1, ha, hb => cases ha; cases hb; rw [es]; exact alk_str _
    | 2, ha, hb =>
      cases ha; cases hb
      have d : (Row.bk kd ts rs).dep = deps rs + 1 := rfl
      rw [d]
      exact Or.inr (.inr (.inl ⟨l, k, vs, us, rfl, rfl, h3, g3, by rw [h4.len, g4.len], by rw [h4.len]; omega, fun i a b ha hb => AllAt.alk rs hok h4 g4 ha hb⟩))
    | i + 3, ha, hb => exact (get_nil (i := i) ha).elim
theorem AllAt.alk {K : PySem.W.Frag} {H : Hp} {ss : List Str} : ∀ (rs : List Row) {vs us : List V} {i : Nat} {a b : V}, oks ss rs → AllAt K H rs vs → AllAt K H rs us → vs[i]? = some a → us[i]? = some b → Alk K H (2 * deps rs + 2) a b
  | [], vs, us, i, a, b, _, h, _, ha, _ => by
    have e : vs = [] := h
    rw [e] at ha
    exact (get_nil ha).elim
  | r :: rs, _, _, 0, a, b, ok, ⟨v, ws, h1, h2, h3⟩, ⟨u, zs, g1, g2, g3⟩, ha, hb => by
    rw [h1] at ha
    rw [g1] at hb
    cases ha
    cases hb
    have d : deps (r :: rs) = max r.dep (deps rs) := rfl
    exact (RowAt.alk r ok.1 h2 g2).up (by omega)
  | r :: rs, _, _, i + 1, a, b, ok, ⟨v, ws, h1, h2, h3⟩, ⟨u, zs, g1, g2, g3⟩, ha, hb => by
    rw [h1] at ha
    rw [g1] at hb
    have d : deps (r :: rs) = max r.dep (deps rs) := rfl
    exact (AllAt.alk rs ok.2 h3 g3 (by simpa using ha) (by simpa using hb)).up (by omega)
end
theorem RowsAt.alk {K : PySem.W.Frag} {H : Hp} {ss : List Str} {rs : List Row} {l k : Addr} (ok : oks ss rs) (hl : rs.length ≤ 10000) (h : RowsAt K H l rs) (g : RowsAt K H k rs) : Alk K H (2 * deps rs + 3) (.ref l) (.ref k) := by
  obtain ⟨vs, h3, h4⟩ := h
  obtain ⟨us, g3, g4⟩ := g
  exact Or.inr (.inr (.inl ⟨l, k, vs, us, rfl, rfl, h3, g3, by rw [h4.len, g4.len], by rw [h4.len]; exact hl, fun i a b ha hb => AllAt.alk rs ok h4 g4 ha hb⟩))
theorem take_one {α : Type} {l : List α} {i : Nat} {x : α} (h : l[i]? = some x) : l.take (i + 1) = l.take i ++ [x] := by
  rw [List.take_add_one, h]
  rfl
/-- the heap Hc is a part of H that stays; Hc' and H' are theirs later: nothing of H comes into it -/
structure Part (Hc H Hc' H' : Hp) : Prop where
  all : Same H H'
  cl : Same Hc Hc'
  sub : Same Hc' H'
  no : ∀ b o, H b = some o → Hc b = none → Hc' b = none
theorem Part.refl {Hc H : Hp} (h : Same Hc H) : Part Hc H Hc H := ⟨Same.refl _, Same.refl _, h, fun _ _ _ h => h⟩
theorem Part.trans {Hc H Hd G He F : Hp} (p : Part Hc H Hd G) (q : Part Hd G He F) : Part Hc H He F :=
  ⟨p.all.trans q.all, p.cl.trans q.cl, q.sub, fun b o h1 h2 => q.no b o (p.all b o h1) (p.no b o h1 h2)⟩
/-- a new object that stays -/
theorem Part.new {Hc H : Hp} (h : Same Hc H) {p : Addr} (hp : H p = none) (u : HO) : Part Hc H (upd Hc p u) (upd H p u) := by
  have hcp : Hc p = none := h.free hp
  refine ⟨same_new hp u, same_new hcp u, fun b x hb => ?_, fun b o h1 h2 => ?_⟩
  · by_cases e : b = p
    · rw [e, upd_same] at hb
      rw [e, upd_same]
      exact hb
    · rw [upd_ne e] at hb
      rw [upd_ne e]
      exact h b x hb
  · rw [upd_ne (ne_of_none h1 hp)]
    exact h2
/-- a new object that will change -/
theorem Part.open {Hc H : Hp} (h : Same Hc H) {p : Addr} (hp : H p = none) (u : HO) : Part Hc H Hc (upd H p u) :=
  ⟨same_new hp u, Same.refl _, h.trans (same_new hp u), fun _ _ _ h => h⟩
mutual
/-- no list in it is long -/
def Row.thin : Row → Prop
  | .lt _ _ _ _ => True
  | .sy _ => True
  | .bk _ _ rs => rs.length ≤ 2000 ∧ thins rs
def thins : List Row → Prop
  | [] => True
  | r :: rs => r.thin ∧ thins rs
end
mutual
theorem Row.ok_thin {ss : List Str} : ∀ (r : Row), r.ok ss → r.thin
  | .lt _ _ _ _, _ => True.intro
  | .sy _, _ => True.intro
  | .bk _ _ rs, ⟨_, _, h, g⟩ => ⟨h, oks_thins rs g⟩
theorem oks_thins {ss : List Str} : ∀ (rs : List Row), oks ss rs → thins rs
  | [], _ => True.intro
  | r :: rs, ⟨h, g⟩ => ⟨Row.ok_thin r h, oks_thins rs g⟩
end
theorem thins_at : ∀ {rs : List Row} {i : Nat} {r : Row}, thins rs → rs[i]? = some r → r.thin
  | [], _, _, _, e => by cases e
  | _ :: _, 0, _, h, e => by
    cases e
    exact h.1
  | _ :: _, _ + 1, _, h, e => thins_at h.2 e
theorem thins_app : ∀ {rs qs : List Row}, thins rs → thins qs → thins (rs ++ qs)
  | [], _, _, q => q
  | _ :: _, _, ⟨h1, h2⟩, q => ⟨h1, thins_app h2 q⟩
/-- qs is rs in n further blocks, each about the next -/
inductive Wrap (ss : List Str) (rs : List Row) : Nat → List Row → Prop where
  | base : Wrap ss rs 0 rs
  | next {n : Nat} {qs : List Row} {kd te : Str} : Wrap ss rs n qs → kd ∈ kinds → te ∈ ss → Wrap ss rs (n + 1) [.bk kd (.str te) qs]
theorem Wrap.len {ss : List Str} {rs qs : List Row} {n : Nat} (h : Wrap ss rs n qs) (hl : rs.length ≤ 2000) : qs.length ≤ 2000 := by
  cases h with
  | base => exact hl
  | next => show 1 ≤ 2000; decide
theorem Wrap.ok {ss : List Str} {rs qs : List Row} {n : Nat} (h : Wrap ss rs n qs) (hl : rs.length ≤ 2000) (ok : oks ss rs) : oks ss qs := by
  induction h with
  | base => exact ok
  | next h1 h2 h3 ih => exact ⟨⟨h2, ⟨_, rfl, h3⟩, h1.len hl, ih⟩, True.intro⟩
theorem Wrap.thin {ss : List Str} {rs qs : List Row} {n : Nat} (h : Wrap ss rs n qs) (hl : rs.length ≤ 2000) (ok : thins rs) : thins qs := by
  induction h with
  | base => exact ok
  | next h1 h2 h3 ih => exact ⟨⟨h1.len hl, ih⟩, True.intro⟩
theorem Wrap.deps {ss : List Str} {rs qs : List Row} {n : Nat} (h : Wrap ss rs n qs) : Lm.deps qs = Lm.deps rs + n := by
  induction h with
  | base => rfl
  | @next n qs kd te h1 h2 h3 ih =>
    show max (Lm.deps qs + 1) 0 = _
    omega
theorem Wrap.tots {ss : List Str} {rs qs : List Row} {n : Nat} (h : Wrap ss rs n qs) : Lm.tots qs = Lm.tots rs + n := by
  induction h with
  | base => rfl
  | @next n qs kd te h1 h2 h3 ih =>
    show Lm.tots qs + 1 + 0 = _
    omega
end Lm
/-! A test of each letter; tables that grow. -/
namespace Lm
open PySem PySem.Spec PyProof.Rows L2 GxR
theorem lt_one (a b : Nat) : decide (([a] : List Nat) < [b]) = decide (a < b) := by
  by_cases h : a < b
  · rw [decide_eq_true h]
    exact decide_eq_true (List.Lex.rel h)
  · rw [decide_eq_false h]
    refine decide_eq_false fun z => h ?_
    cases z with
    | rel q => exact q
    | cons q => cases q
def letter (c : Nat) : Bool := decide (97 ≤ c) && decide (c ≤ 122)
/-- 'a' <= x <= 'z' -/
theorem elt_letter {prog : Program} {w : World} {scope : Scope} {x : Str} {j k : Nat} {p1 p2 p3 p4 : Pos} (hk : scope.kind = .function) (hl : scope.names.lookup x = some .local) (hd : (x == ("__debug__" : Str)) = false := by decide) :
    EltP prog w scope x (.Compare (.Constant (.str "a") j p1) [.LtE, .LtE] [.Name x p2, .Constant (.str "z") k p3] p4) letter := by
  intro cenv A' E' c t s₂ m₂ hs hn hm
  refine Compare_chain (Calls.Constant_str (chain_link (wpAny_Name (wpAny_loadName_local (by rw [hs]; exact hk) (show cenv.scope.names.lookup x = some .local by rw [hs]; exact hl) hn hm ?_) hd))) (by with_unfolding_all rfl)
  refine PySem.P.le_str (wpAny_truthy_bool ?_)
  have e1 : decide ((⟨#[c]⟩ : Str).cps.toList < ("a" : Str).cps.toList) = decide (c < 97) := lt_one c 97
  have e2 : decide (("z" : Str).cps.toList < (⟨#[c]⟩ : Str).cps.toList) = decide (122 < c) := lt_one 122 c
  rw [e1]
  by_cases h : c < 97
  · have z : letter c = false := by unfold letter; rw [decide_eq_false (by omega)]; rfl
    rw [decide_eq_true h, z]
    exact ite_ff ⟨rfl, keeps_tok _ _⟩
  · rw [decide_eq_false h]
    refine ite_tt (chain_last (Calls.Constant_str (PySem.P.le_str ?_)))
    rw [e2]
    refine ⟨?_, keeps_tok _ _⟩
    unfold letter
    rw [decide_eq_true (by omega : 97 ≤ c), Bool.true_and]
    by_cases g : 122 < c
    · rw [decide_eq_true g, decide_eq_false (by omega)]; rfl
    · rw [decide_eq_false g, decide_eq_true (by omega)]; rfl
theorem ble_dec (a b : Nat) : Nat.ble a b = decide (a ≤ b) := by
  rw [Bool.eq_iff_iff, decide_eq_true_eq]
  exact ⟨Nat.le_of_ble_eq_true, Nat.ble_eq_true_of_le⟩
theorem letters_all : ∀ l : List Nat, lettersB l = l.all letter
  | [] => rfl
  | c :: r => by
    show (Nat.ble 97 c && (Nat.ble c 122 && lettersB r)) = (letter c && r.all letter)
    rw [letters_all r, ← Bool.and_assoc, ble_dec, ble_dec]
    rfl
/-- the table has grown, all else is as it was -/
theorem tabbed_kp {P : Addr} {H H' : Hp} (hP : TabG H P) (h : Tabbed P H H') : Kp H H' := ⟨fun b o e n => by
  have hb : b ≠ P := fun z => by
    obtain ⟨ps, q, _⟩ := hP
    rw [z, q] at e
    cases e
    exact n ps rfl
  rw [h.2 b hb]
  exact e, fun b ps e => by
  by_cases hb : b = P
  · obtain ⟨qs, q, _⟩ := h.1
    rw [hb]
    exact ⟨qs, q⟩
  · exact ⟨ps, by rw [h.2 b hb]; exact e⟩⟩
theorem tab_upd {P b : Addr} {H : Hp} {o : HO} (hP : TabG H P) (hb : P ≠ b) : TabG (upd H b o) P := by
  obtain ⟨ps, q, r⟩ := hP
  exact ⟨ps, by rw [upd_ne hb]; exact q, r⟩
theorem tab_ne {P b : Addr} {H : Hp} {o : HO} (hP : TabG H P) (hb : H b = some o) (n : ∀ ps, o ≠ .tbl ps) : P ≠ b := fun z => by
  obtain ⟨ps, q, _⟩ := hP
  rw [z, hb] at q
  cases q
  exact n ps rfl
theorem tab_free {P b : Addr} {H : Hp} (hP : TabG H P) (hb : H b = none) : P ≠ b := fun z => by
  obtain ⟨ps, q, _⟩ := hP
  rw [z, hb] at q
  cases q
theorem tab_new {P b : Addr} {H : Hp} {o : HO} (hP : TabG H P) (hb : H b = none) : TabG (upd H b o) P := tab_upd hP (tab_free hP hb)
theorem tab_same {P : Addr} {H H' : Hp} (hP : TabG H P) (h : Same H H') : TabG H' P := by
  obtain ⟨ps, q, r⟩ := hP
  exact ⟨ps, h _ _ q, r⟩
theorem Tabbed.refl {P : Addr} {H : Hp} (hP : TabG H P) : Tabbed P H H := ⟨hP, fun _ _ => rfl⟩
def barsS : List Str := ["say", "when", "loop", "again", "end"]
theorem str_eq {x y : Str} (h : x.cps.toList = y.cps.toList) : x = y := by
  obtain ⟨a⟩ := x
  obtain ⟨b⟩ := y
  have e : a = b := Array.toList_inj.mp h
  rw [e]
theorem bars_in (s : Str) : inV (.str s) (barsS.map V.str) = isBar s.cps.toList := by
  have h : ∀ y : Str, eqV (.str y) (.str s) = sameL s.cps.toList y.cps.toList := fun y => by
    show (y == s) = _
    rw [Bool.eq_iff_iff, beq_iff_eq, sameL_iff]
    exact ⟨fun e => by rw [e], fun e => (str_eq e).symm⟩
  have e : bars = barsS.map (fun y => y.cps.toList) := by decide +kernel
  unfold inV isBar
  rw [e, List.any_map, List.any_map]
  exact congrArg (fun f => List.any barsS f) (funext fun y => h y)
/-- a def whose code object is told -/
theorem ok_code {P : Program} {w : World} {K : PySem.W.Frag} {mg : Str → Option Value} {base : Heap} {x qual : Str} {st : Stmt} {f : Addr} {fd : FuncData} {N ps : List Str} {k : Nat} {sp : Sp} (F : Fun K x qual st f fd) (S : FnScope N ps (defScope st))
    (len : ∀ vs H Q E, sp vs H Q E → vs.length = ps.length)
    (hbody : ∀ (A : Around) (outer : List Env) (s : Shared) (H : Hp) (vs : List V) (Q : VK) (E : XK), Room k (A.deeper (envOfC qual (defScope st) s.heap.objs.size f fd.code)) → sp vs H Q E →
      ∃ t, PSs (cxOf CX0 P w K mg base N qual (defScope st) f fd.code A outer s H E).nox (defBody st) t ∧ t { nx := fun _ H' => Q .non H', rt := Q } (L2.start N vs) H) : FnOk P w K mg base CX0 (k + 1) f fd ps sp := by
  obtain ⟨oc, od, kV, doc, pm, an, cdv, ct, osl, rfl, lk, hcd⟩ := F.ex
  exact fn_of lk hcd S len fun A outer s H vs Q E hr h => let ⟨t, h1, h2⟩ := hbody A outer s H vs Q E hr h; ⟨t, h1.nox, h2⟩
/-- is it a name -/
def isNm : V → Bool
  | .str s => GoodL s.cps.toList
  | _ => false
end Lm
set_option maxHeartbeats 2000000
/-! Sets of texts whose order of walking is known to end: made, filled, sorted. -/
namespace Lm
open PySem PySem.Spec PyProof.Rows L2
/-- the text of an entry -/
def txt (e : Int × Value) : Str := match e.2 with
  | .str x _ => x
  | _ => Str.empty
def TxtE (w : World) (e : Int × Value) : Prop := ∃ x tk, e.2 = Value.str x tk ∧ e.1 = hashStr w x
/-- at a stands a set of texts: its members, how many they are -/
structure TxtRaw (w : World) (S : Str → Bool) (n : Nat) (o : Obj) (es : Array (Int × Value)) (ep : Nat) (t : SetTable) : Prop where
  ex : o.ExactSet
  dat : o.data = .set es ep t
  ent : ∀ e ∈ es.toList, TxtE w e
  nd : (es.toList.map txt).Nodup
  mem : ∀ x, S x = true ↔ x ∈ es.toList.map txt
  few : es.size < scanBound
  fit : t.fits es.size = true
  num : es.size = n
  ris : Ris t.place.toList
  led : w.params.followText "set-order" = true ∨ t.led = true
def TxtSet (w : World) (h : Heap) (a : Addr) (S : Str → Bool) (n : Nat) : Prop := ∃ o es ep t, h.get? a = some o ∧ TxtRaw w S n o es ep t
section
variable {P : Program} {w : World} {h h' : Heap} {a : Addr} {S : Str → Bool} {n : Nat}
theorem txt_elems {l : List (Int × Value)} (g : ∀ e ∈ l, TxtE w e) : ElemsOf (PySem.strKind P w) l := by
  intro e he
  obtain ⟨x, tk, q1, q2⟩ := g e he
  exact ⟨⟨x, by rw [q1]; exact strKind_is P w x tk, q2⟩, by rw [q1]; rfl⟩
theorem txt_is {e : Int × Value} (g : TxtE w e) (x : Str) : (PySem.strKind P w).is x e.2 = true ↔ txt e = x := by
  obtain ⟨y, tk, q1, _⟩ := g
  have e1 : txt e = y := by
    unfold txt
    rw [q1]
  rw [e1, q1]
  constructor
  · intro z
    have z' : Value.isStrOf x (.str y tk) = true := z
    obtain ⟨u, eu⟩ := Value.isStrOf_shape z'
    injection eu with e2 _
  · rintro rfl
    exact strKind_is P w y tk
theorem txt_mem {l : List (Int × Value)} (g : ∀ e ∈ l, TxtE w e) (x : Str) : x ∈ l.map txt ↔ ∃ e ∈ l, (PySem.strKind P w).is x e.2 = true := by
  constructor
  · intro hx
    obtain ⟨e, he, q⟩ := List.mem_map.mp hx
    exact ⟨e, he, (txt_is (g e he) x).mpr q⟩
  · rintro ⟨e, he, q⟩
    exact List.mem_map.mpr ⟨e, he, (txt_is (g e he) x).mp q⟩
theorem TxtSet.setOf (R : TxtSet w h a S n) : h.SetOf (PySem.strKind P w) a S n :=
  let ⟨o, es, ep, t, ho, r⟩ := R
  ⟨o, es, ep, t, ho, r.ex, r.dat, txt_elems r.ent, fun x => (r.mem x).trans (txt_mem r.ent x), r.few, r.fit, r.num⟩
theorem txt_fresh {h : Heap} (w : World) : TxtSet w (h.push { cls := .type "set", dict := none, data := .set #[] 0 (.fresh 0 0 (!w.params.followText "set-order")) }) h.objs.size (fun _ => false) 0 := by
  refine ⟨_, #[], 0, _, Heap.get?_push_size _ rfl, ⟨⟨rfl, rfl, rfl⟩, rfl, fun e he => by simp at he, by simp, fun k => by simp, by decide, rfl, rfl, List.Pairwise.nil, ?_⟩⟩
  show _ ∨ (!w.params.followText "set-order") = true
  cases w.params.followText "set-order" with
  | false => exact Or.inr rfl
  | true => exact Or.inl rfl
end
section
variable {P : Program} {w : World} {A : Around} {E : Value → Shared → Prop} {s : Shared} {a : Addr} {S : Str → Bool} {n : Nat}
theorem put_at {h : Heap} {o : Obj} {es es' : Array (Int × Value)} {ep : Nat} {t t' : SetTable} (ho : h.get? a = some o) (hd : o.data = .set es ep t) : (h.update a (Obj.putSet es' t')).get? a = some { o with data := .set es' (ep + 1) t' } := by
  have z := Heap.get?_update_self (Obj.putSet es' t') ho (by rw [putSet_of es' t' hd]; rfl)
  rwa [putSet_of es' t' hd] at z
/-- what is laid is stored; a table that is too full is laid anew -/
theorem txt_tail {g : Bool → Sem Unit} (hg : ∀ (b : Bool) (s₁ : Shared) (Q' : Unit → Shared → Prop), Q' () s₁ → wpAny (model P w) A (g b) Q' E s₁)
    {o : Obj} {es : Array (Int × Value)} {ep : Nat} {t : SetTable} (ho : s.heap.get? a = some o) (hex : o.ExactSet) (hd : o.data = .set es ep t) {eN : Array (Int × Value)} {tN : SetTable} {S' : Str → Bool}
    (q1 : ∀ e ∈ eN.toList, TxtE w e) (q2 : (eN.toList.map txt).Nodup) (q3 : ∀ x, S' x = true ↔ x ∈ eN.toList.map txt) (q4 : eN.size < scanBound) (q5 : tN.fits eN.size = true) (q6 : Ris tN.place.toList)
    (q7 : w.params.followText "set-order" = true ∨ tN.led = true) {dum : Bool} {R : Option Bool → Shared → Prop} (hR : ∀ h', Heap.SameBut a s.heap h' → TxtSet w h' a S' eN.size → R (some true) { s with heap := h' }) :
    wpAny (model P w) A (do
      storeSet a eN tN
      if (!dum && tN.tooFull) = true then do
        g (relayAll tN eN (SetTable.grown eN.size)).2.2
        storeSet a (relayAll tN eN (SetTable.grown eN.size)).1 (relayAll tN eN (SetTable.grown eN.size)).2.1
        pure (some true)
      else pure (some true)) R E s := by
  have b1 := Heap.SameBut.update s.heap a (Obj.putSet eN tN)
  have a1 := put_at (es' := eN) (t' := tN) ho hd
  refine wpAny_bind (wpAny_storeSet_of ho hd ?_ (fits_of_scanBound q4))
  by_cases c : (!dum && tN.tooFull) = true
  · rw [if_pos c]
    have z1 := relayAll_perm tN eN (SetTable.grown eN.size)
    have z2 := relayAll_fits tN eN (SetTable.grown eN.size)
    have z3 := relayAll_ris tN eN (SetTable.grown eN.size)
    have z4 := relayAll_led tN eN (SetTable.grown eN.size)
    revert z1 z2 z3 z4
    generalize relayAll tN eN (SetTable.grown eN.size) = Z
    obtain ⟨eM, tM, gv⟩ := Z
    intro z1 z2 z3 z4
    dsimp only at z1 z2 z3 z4 ⊢
    have z5 : eM.size = eN.size := by rw [← Array.length_toList, z1.length_eq, Array.length_toList]
    have z6 : eM.size < scanBound := by rw [z5]; exact q4
    refine wpAny_bind (hg gv _ _ (wpAny_bind (wpAny_storeSet_of a1 rfl ?_ (fits_of_scanBound z6))))
    have a2 := put_at (es' := eM) (t' := tM) a1 rfl
    exact wpAny_pure (hR _ (b1.trans (Heap.SameBut.update _ a _)) ⟨_, eM, _, tM, a2, ⟨hex, rfl, fun e he => q1 e (z1.mem_iff.mp he), (z1.map txt).nodup_iff.mpr q2, fun x => (q3 x).trans (z1.map txt).mem_iff.symm, z6, z2, z5, z3, q7.imp id (fun z => z4.trans z)⟩⟩)
  · rw [if_neg c]
    exact wpAny_pure (hR _ b1 ⟨_, eN, _, tN, a1, ⟨hex, rfl, q1, q2, q3, q4, q5, rfl, q6, q7⟩⟩)
theorem txt_hashed {x : Str} {tk : Tok} {Q : Bool → Shared → Prop} (R : TxtSet w s.heap a S n) (room : n + 1 < scanBound)
    (hQ : ∀ h', Heap.SameBut a s.heap h' → TxtSet w h' a (fun y => S y || decide (y = x)) (if S x = true then n else n + 1) → Q (!S x) { s with heap := h' }) :
    wpAny (model P w) A (setAddHashed a (.str x tk) ((PySem.strKind P w).hash x)) Q E s := by
  obtain ⟨o, es, ep, t, ho, r⟩ := R
  have key : (PySem.strKind P w).is x (.str x tk) = true := strKind_is P w x tk
  have sc : (Value.str x tk).scannable = true := rfl
  have el : ElemsOf (PySem.strKind P w) es.toList := txt_elems r.ent
  unfold setAddHashed setAddHashedIn
  refine wpAny_holding (wpAny_bind (wpAny_setState_of ho r.dat r.fit ?_))
  dsimp only
  rw [byScan_of sc r.few el]
  simp only [↓reduceIte]
  unfold setAddByScan
  refine wpAny_bind (wpAny_bind (wpAny_rule (wpAny_bind (wpAny_setScan_of key ho r.dat r.fit el ?_))))
  cases hfi : List.findIdx? (fun e => (PySem.strKind P w).is x e.2) es.toList with
  | some j =>
    obtain ⟨hj, pj, _⟩ := List.findIdx?_eq_some_iff_getElem.mp hfi
    have inS : S x = true := (r.mem x).mpr ((txt_mem (P := P) (w := w) r.ent x).mpr ⟨es.toList[j], List.getElem_mem hj, pj⟩)
    have z := hQ s.heap (Heap.SameBut.refl a s.heap) ⟨o, es, ep, t, ho, { r with mem := fun y => ?_, num := by rw [if_pos inS]; exact r.num }⟩
    · rw [inS] at z
      dsimp only
      exact wpAny_pure (wpAny_pure z)
    · rw [Bool.or_eq_true, decide_eq_true_eq, ← r.mem y]
      exact ⟨fun c => c.elim id fun e => by rw [e]; exact inS, Or.inl⟩
  | none =>
    have notIn : x ∉ es.toList.map txt := fun c => by
      obtain ⟨e, he, q⟩ := (txt_mem (P := P) (w := w) r.ent x).mp c
      have d := List.findIdx?_eq_none_iff.mp hfi e he
      rw [q] at d
      exact Bool.noConfusion d
    have notS : S x = false := Bool.eq_false_iff.mpr fun c => notIn ((r.mem x).mp c)
    have gave : ∀ (b : Bool) {s₁ : Shared} {Q' : Unit → Shared → Prop}, Q' () s₁ → wpAny (model P w) A (match b with | true => rule "set.scan.the-table-gave-way" | false => pure ()) Q' E s₁ := by
      intro b s₁ Q' q
      cases b with
      | true => exact wpAny_rule q
      | false => exact wpAny_pure q
    dsimp only
    have z1 := layNew_perm t es ((PySem.strKind P w).hash x) (.str x tk)
    have z2 := layNew_fits t es ((PySem.strKind P w).hash x) (.str x tk)
    have z3 := layNew_ris t es ((PySem.strKind P w).hash x) (.str x tk) r.ris
    have z4 := layNew_led t es ((PySem.strKind P w).hash x) (.str x tk)
    revert z1 z2 z3 z4
    generalize layNew t es ((PySem.strKind P w).hash x) (.str x tk) = Z
    obtain ⟨eN, tN, dum, gv⟩ := Z
    intro z1 z2 z3 z4
    dsimp only at z1 z2 z3 z4 ⊢
    rw [Array.toList_push] at z1
    have pc : eN.toList.Perm (((PySem.strKind P w).hash x, Value.str x tk) :: es.toList) := z1.trans (List.perm_append_singleton _ _)
    have pk : (eN.toList.map txt).Perm (x :: es.toList.map txt) := pc.map txt
    have q1 : ∀ e ∈ eN.toList, TxtE w e := by
      intro e he
      rcases List.mem_cons.mp (pc.mem_iff.mp he) with c | c
      · exact ⟨x, tk, by rw [c], by rw [c]; rfl⟩
      · exact r.ent e c
    have q2 : (eN.toList.map txt).Nodup := pk.nodup_iff.mpr (List.nodup_cons.mpr ⟨notIn, r.nd⟩)
    have q3 : ∀ y, (S y || decide (y = x)) = true ↔ y ∈ eN.toList.map txt := by
      intro y
      rw [pk.mem_iff, List.mem_cons, Bool.or_eq_true, decide_eq_true_eq, r.mem y, or_comm]
    have sz : eN.size = n + 1 := by rw [← Array.length_toList, pc.length_eq, List.length_cons, Array.length_toList, r.num]
    have q4 : eN.size < scanBound := by rw [sz]; exact room
    have q7 : w.params.followText "set-order" = true ∨ tN.led = true := r.led.imp id fun c => by rw [z4]; exact c
    have done : ∀ h', Heap.SameBut a s.heap h' → TxtSet w h' a (fun y => S y || decide (y = x)) eN.size → Q true { s with heap := h' } := by
      intro h' sb c
      have z := hQ h' sb
      rw [notS] at z
      rw [sz] at c
      exact z c
    have give : ∀ (b : Bool) (s₁ : Shared) (Q' : Unit → Shared → Prop), Q' () s₁ → wpAny (model P w) A (match b with | true => rule "set.scan.the-table-gave-way" | false => pure ()) Q' E s₁ := fun b s₁ Q' q => gave b q
    refine wpAny_bind (gave gv ?_)
    split
    · refine wpAny_bind ?_
      rw [hashByValue_scannable 8 sc]
      refine wpAny_pure (txt_tail give ho r.ex r.dat q1 q2 q3 q4 ?_ ?_ ?_ fun h' sb c => ?_)
      · split
        · exact SetTable.fits_plain_off z2
        · exact z2
      · split <;> exact z3
      · split <;> exact q7
      · dsimp only
        exact wpAny_pure (done h' sb c)
    · refine wpAny_bind (wpAny_pure ?_)
      simp only [↓reduceIte]
      refine txt_tail give ho r.ex r.dat q1 q2 q3 q4 z2 z3 q7 fun h' sb c => ?_
      dsimp only
      exact wpAny_pure (done h' sb c)
/-- found.add(x) -/
theorem txt_add {x : Str} {tk : Tok} {Q : Value → Shared → Prop} (R : TxtSet w s.heap a S n) (room : n + 1 < scanBound)
    (hQ : ∀ h', Heap.SameBut a s.heap h' → TxtSet w h' a (fun y => S y || decide (y = x)) (if S x = true then n else n + 1) → Q .none { s with heap := h', toks := s.toks + 1 }) :
    wpAny (model P w) A (call (.builtin "set.add") [.ref a, .str x tk]) Q E s := by
  refine wpAny_call_entry F.slot_set_add (TxtSet.setOf (P := P) R).typeIs F.entry_set_add ?_ (F.args_set_add_2 _ _)
  unfold Builtin.«set.add» Builtin.Frozenset.oneOther
  simp only [List.isEmpty_nil, bind_assoc]
  unfold Builtin.Frozenset.addrOf setAdd
  refine wpAny_bind (wpAny_pure ?_)
  try dsimp only
  refine wpAny_bind (wpAny_pure ?_)
  try dsimp only
  refine wpAny_bind (wpAny_holding (wpAny_bind ((PySem.strKind P w).pyHash (k := x) (strKind_is P w x tk) ?_)))
  refine txt_hashed (s := { s with toks := s.toks + 1 }) R room fun h' sb c => ?_
  show wpAny _ _ (ret Value.none) _ _ _
  exact wpAny_pure ⟨_, rfl, hQ h' sb c⟩
theorem strs_of : ∀ (l : List (Int × Value)), (∀ e ∈ l, TxtE w e) → StrsAre (l.map (·.2)) (l.map txt)
  | [], _ => .nil
  | e :: l, h => by
    obtain ⟨x, tk, q, _⟩ := h e List.mem_cons_self
    have e1 : txt e = x := by unfold txt; rw [q]
    rw [List.map_cons, List.map_cons, e1, q]
    exact .cons x tk (strs_of l fun u hu => h u (List.mem_cons_of_mem _ hu))
theorem strs_perm : ∀ {vs us : List Value} {xs : List Str}, vs.Perm us → StrsAre us xs → ∃ ys, StrsAre vs ys ∧ ys.Perm xs := by
  intro vs us xs p
  induction p generalizing xs with
  | nil => exact fun h => ⟨xs, h, List.Perm.refl _⟩
  | cons v _ ih =>
    intro h
    cases h with
    | cons x t r =>
      obtain ⟨ys, h1, h2⟩ := ih r
      exact ⟨x :: ys, .cons x t h1, h2.cons x⟩
  | swap v u l =>
    intro h
    cases h with
    | cons x t r =>
      cases r with
      | cons y t' r => exact ⟨y :: x :: _, .cons y t' (.cons x t r), List.Perm.swap _ _ _⟩
  | trans _ _ ih1 ih2 =>
    intro h
    obtain ⟨ys, h1, h2⟩ := ih2 h
    obtain ⟨zs, g1, g2⟩ := ih1 h1
    exact ⟨zs, g1, g2.trans h2⟩
theorem strs_len : ∀ {vs : List Value} {xs : List Str}, StrsAre vs xs → vs.length = xs.length
  | _, _, .nil => rfl
  | _, _, .cons _ _ r => by rw [List.length_cons, List.length_cons, strs_len r]
/-- sorted(found), fewer than 64 members -/
theorem txt_sorted {Q : Value → Shared → Prop} (R : TxtSet w s.heap a S n) (hh : A.handled = none) (h64 : n < 64)
    (hQ : ∀ s' p (out : Array Value) (c : Nat) (ys : List Str), (∀ b o, s.heap.get? b = some o → s'.heap.get? b = some o) → s'.gens = s.gens → s'.os = s.os → s.heap.objs.size ≤ p →
      s'.heap.get? p = some (seqObj "list" out c) → StrsAre out.toList ys → sortedS ys = true → ys.Nodup → (∀ x, x ∈ ys ↔ S x = true) → ys.length = n → Q (.ref p) s') :
    wpAny (model P w) A (call (.builtin "sorted") [.ref a]) Q E s := by
  obtain ⟨o, es, ep, t, ho, r⟩ := R
  refine Calls.call_function_entry kind_sorted plain_sorted entry_sorted (args_sorted1 _) ?_
  unfold Builtin.«sorted»
  refine wpAny_bind (m := checkCount "sorted" 1 1 _) (wpAny_pure (wpAny_bind (collect_set (A := A.in1) hh ⟨o, ho, r.ex.1, r.dat⟩ r.fit r.few r.ris r.led fun s1 vs k1 hz g1 o1 pm => ?_)))
  obtain ⟨xs, x1, x2⟩ := strs_perm pm (strs_of (w := w) es.toList r.ent)
  have lv : vs.length = n := by rw [pm.length_eq, List.length_map, Array.length_toList, r.num]
  have at1 : (s1.heap.push (seqObj "list" vs.toArray 0)).get? s1.heap.objs.size = some (seqObj "list" vs.toArray 0) := Heap.get?_push_size _ rfl
  refine wpAny_bind (wpAny_newList ?_ (by rw [lv, sizeLine_eq]; omega))
  refine wpAny_bind (wpAny_holding (wpAny_call_entry slot_list_sort ⟨_, at1, rfl⟩ entry_list_sort (list_sort_treeK strKind_oneLt at1 x1.keysOf (fun v₁ v₂ rest e => keyKind_strs (by rw [← e]; exact x1)) (by rw [lv]; exact h64) fun st' hp hs => ?_) (args_list_sort _)))
  obtain ⟨ys, y1, y2, y3⟩ := sorted_out_str x1 hp hs
  obtain ⟨c, hc⟩ := sortedHeap_at (vs := vs) (out := (arrOf st').map (·.2)) at1
  have pn : ys.Perm (es.toList.map txt) := y2.trans x2
  refine ⟨_, rfl, wpAny_pure ⟨_, rfl, hQ _ s1.heap.objs.size _ c ys (fun b u e => ?_) g1 o1 hz hc y1 y3 (pn.nodup_iff.mpr r.nd) (fun x => by rw [pn.mem_iff, ← r.mem x]) ?_⟩⟩
  · have old := k1 b u e
    have lt := Heap.lt_size old
    show (sortedHeap (s1.heap.push (seqObj "list" vs.toArray 0)) s1.heap.objs.size vs ((arrOf st').map (·.2))).get? b = some u
    rw [sortedHeap_old (Nat.ne_of_lt lt) (by rw [size_push']; exact Nat.lt_succ_of_lt lt)]
    exact Heap.get?_push_of_some _ old
  · rw [pn.length_eq, List.length_map, Array.length_toList, r.num]
end
/-! ### the layer's rules -/
/-- the set of texts at a -/
def SetX (w : World) (a : Addr) (S : Str → Bool) (n : Nat) : HO := .ext fun h => TxtSet w h a S n
section
variable {X : Cx}
theorem setX_new {P : Program} {w : World} {H : Hp} {h : Heap} {a : Addr} {S : Str → Bool} {n : Nat} (R : TxtSet w h a S n) : ObjOk P w H h a (SetX w a S n) := by
  have ⟨o, _, _, _, ho, _⟩ := R
  exact ⟨R, ⟨o, ho⟩, fun h1 h2 ⟨o, es, ep, t, e, r⟩ k => ⟨o, es, ep, t, k o e, r⟩⟩
theorem setX_get {pins : List (Addr × Obj)} {σ : L2.St} {H : Hp} {s : Shared} {a : Addr} {S : Str → Bool} {n : Nat} (I : Inv X pins σ H s) (ha : H a = some (SetX X.w a S n)) : TxtSet X.w s.heap a S n := (I.hok a _ ha).1
def rSet0X (w : World) : List V → Hp → VK → Prop := fun xs H Q => xs = [] ∧ ∀ p, H p = none → Q (.ref p) (upd H p (SetX w p (fun _ => false) 0))
theorem cr_set0X : CallR X (.type "set") (rSet0X X.w) := by
  intro pins s σ H xs us Q I r h
  obtain ⟨rfl, q⟩ := h
  cases r
  exact setR_new fun _ => ⟨.ref _, _, I.laid (t' := s.toks) (fun b u e => Heap.get?_push_of_some _ e) (Nat.le_refl _) (setX_new (txt_fresh X.w)), rfl, q _ (I.hok.fresh (Nat.le_refl _))⟩
def rSAddX (w : World) : V → List V → Hp → VK → Prop := fun x xs H Q => ∃ (a : Addr) (z : Str) (S : Str → Bool) (n : Nat), x = V.ref a ∧ xs = [.str z] ∧ H a = some (SetX w a S n) ∧ n + 1 < scanBound ∧
  Q .non (upd H a (SetX w a (fun y => S y || decide (y = z)) (if S z = true then n else n + 1)))
theorem mt_saddX : MtR X "set.add" (rSAddX X.w) := by
  intro pins s σ H x xs v us Q I rx rxs h
  obtain ⟨a, z, S, n, rfl, rfl, ha, room, q⟩ := h
  cases rx
  cases rxs with
  | cons ry rt =>
    cases rt
    obtain ⟨tk, rfl⟩ := ry
    refine txt_add (setX_get I ha) room fun h' sb c => ?_
    have he : ∃ u, h'.get? a = some u := let ⟨o, _, _, _, ho, _⟩ := c; ⟨o, ho⟩
    exact ⟨.non, _, I.write (e := a) (t' := s.toks + 1) (by rw [ha]; trivial) (Or.inl rfl) (fun b u hb hu => (sb.2 b hb).trans hu) he (setX_new c), rfl, q⟩
def tSAddX (w : World) (to : TE) (t : TA) : TE := fun σ H Q => to σ H fun x H1 => (∃ a S n, x = V.ref a ∧ H1 a = some (SetX w a S n)) ∧ t σ H1 fun xs H2 => rSAddX w x xs H2 Q
theorem pe_saddX {o e : Expr} {es : List Expr} {to : TE} {t : TA} {apos cpos : Pos} (ho : PE X o to) (ha : PA X (e :: es) t) (hbase : attributeBase o "add" X.env (eval o X.env) = eval o X.env := by rfl)
    (hfew : ((backTo cpos (starEach (e :: es) X.env)).all (fun x => !x.1) && (backToKw cpos (keywordEach [] X.env)).all (fun x => x.1.isSome) && decide ((e :: es).length + ([] : List Keyword).length + (if ([] : List Keyword).isEmpty then 0 else 1) < 30)) = true := by rfl)
    (hline : (apos.endLine == cpos.line) = true := by rfl) (hst : starEach (e :: es) X.env = (false, eval e X.env) :: starEach es X.env := by rfl) (hpl : (backTo cpos (starEach es X.env)).any (·.1) = false := by rfl) :
    PE X (.Call (.Attribute o "add" apos) (e :: es) [] cpos) (tSAddX X.w to t) := by
  refine ⟨fun pins s σ H Q I h => wpAny_Call_method_late hbase hfew hline rfl (thn (ho.run pins s σ H _ I h) fun v s1 ⟨x, H1, I1, r1, ty, q1⟩ => ?_)⟩
  obtain ⟨a, S, n, rfl, hka⟩ := ty
  have hS := TxtSet.setOf (P := X.prog) (setX_get I1 hka)
  cases r1
  refine ⟨"set", "set.add", F.plainAttrs_set, F.slot_set_add, F.type_set_add, hS.typeIs, hS.noDict, ?_⟩
  have hA := ha.run cpos pins s1 σ H1 _ I1 q1
  rw [hst] at hA ⊢
  exact Calls.callWith_builtin (by show (false || (backTo cpos (starEach es X.env)).any (·.1)) = false; rw [hpl]; rfl) (Calls.evalArgs_plain (thn hA fun us s2 ⟨vs, H2, I2, r2, q2⟩ => mt_saddX pins s2 σ H2 (.ref a) vs (.ref a) us Q I2 rfl r2 q2))
/-- sorted(found), fewer than 64 members -/
def rSortX (w : World) : List V → Hp → VK → Prop := fun vs H Q => ∃ (a : Addr) (S : Str → Bool) (n : Nat), vs = [V.ref a] ∧ H a = some (SetX w a S n) ∧ n < 64 ∧
  ∀ (ys : List Str) (p : Addr), sortedS ys = true → ys.Nodup → (∀ x, x ∈ ys ↔ S x = true) → H p = none → Q (.ref p) (upd H p (.lst (ys.map V.str)))
theorem cr_sortX (hc : X.calm = true) : CallR X (.builtin "sorted") (rSortX X.w) := by
  intro pins s σ H vs us Q I r h
  obtain ⟨a, S, n, rfl, ha, h64, q⟩ := h
  rw [Vals.ref1 r]
  refine txt_sorted (setX_get I ha) (I.ok.hd hc) h64 fun s' p out c ys k g o hp hg hi hs hnd hm hl => ?_
  have free : H p = none := I.hok.fresh hp
  have fits : (ys.map V.str).length ≤ sizeLine := by rw [List.length_map, hl, sizeLine_eq]; omega
  have J : Inv X pins σ (upd H p (.lst (ys.map V.str))) { s with heap := s'.heap, gens := s'.gens, drawn := s'.drawn, toks := s'.toks } :=
    I.call (ch := []) (Un.laid k hp free) (I.hok.laid k hp ⟨fits, out.toList, c, vals_of_strs hi, hg⟩) (by rw [g]; exact I.bare) (fun _ z => by cases z)
  have e : s' = { s with heap := s'.heap, gens := s'.gens, drawn := s'.drawn, toks := s'.toks } := by
    obtain ⟨_, _, _, _, _⟩ := s'
    obtain ⟨_, _, _, _, _⟩ := s
    cases o
    rfl
  rw [e]
  exact ⟨.ref p, _, J, rfl, q ys p hs hnd hm free⟩
end
end Lm
/-! Rows one behind another, at any depth; what one row asks for, sets, may do. -/
namespace Lm
open PySem L2
theorem ifT {c : Bool} {A B : Prop} (hc : c = true) (h : A) : if c = true then A else B := (if_pos hc).symm ▸ h
theorem ifF {c : Bool} {A B : Prop} (hc : c = false) (h : B) : if c = true then A else B := by
  subst hc
  exact iteF h
mutual
def Row.flat : Row → List Row
  | .lt to sg a b => [.lt to sg a b]
  | .sy a => [.sy a]
  | .bk kd ts rs => .bk kd ts rs :: flats rs
def flats : List Row → List Row
  | [] => []
  | r :: rs => r.flat ++ flats rs
end
mutual
theorem Row.flat_len : ∀ r : Row, r.flat.length = r.tot
  | .lt _ _ _ _ => rfl
  | .sy _ => rfl
  | .bk _ _ rs => by
    show (flats rs).length + 1 = tots rs + 1
    rw [flats_len rs]
theorem flats_len : ∀ rs : List Row, (flats rs).length = tots rs
  | [] => rfl
  | r :: rs => by
    show (r.flat ++ flats rs).length = r.tot + tots rs
    rw [List.length_append, Row.flat_len r, flats_len rs]
end
/-- the values that one row asks for -/
def Row.asks : Row → List V
  | .lt _ _ a b => [a.v, b.v]
  | .sy a => [a.v]
  | .bk _ ts _ => [ts]
def Vl.nought : Vl → Bool
  | .nm _ => true
  | .nu i => decide (i = 0)
def Row.fails : Row → Bool
  | .lt _ sg _ b => decide (sg = "/") && b.nought
  | _ => false
def Row.says : Row → Bool
  | .sy _ => true
  | _ => false
theorem kd_let {kd : Str} (h : kd ∈ kinds) : decide (V.str kd = V.str "let") = false := by
  simp only [kinds, List.mem_cons, List.not_mem_nil, or_false] at h
  rcases h with e | e | e <;> (rw [e]; decide +kernel)
theorem kd_say {kd : Str} (h : kd ∈ kinds) : decide (V.str kd = V.str "say") = false := by
  simp only [kinds, List.mem_cons, List.not_mem_nil, or_false] at h
  rcases h with e | e | e <;> (rw [e]; decide +kernel)
theorem kd_in {kd : Str} (h : kd ∈ kinds) : inV (.str kd) (kinds.map V.str) = true := by
  simp only [kinds, List.mem_cons, List.not_mem_nil, or_false] at h
  rcases h with e | e | e <;> (rw [e]; decide +kernel)
theorem let_in : inV (.str "let") (kinds.map V.str) = false := by decide +kernel
theorem say_in : inV (.str "say") (kinds.map V.str) = false := by decide +kernel
theorem kinds_flat : (kinds.map V.str).all flatV = true := by decide +kernel
theorem oks_flats {ss : List Str} : ∀ {rs : List Row}, oks ss rs → oks ss (flats rs)
  | rs, h => go rs h
where
  go1 : ∀ (r : Row), r.ok ss → oks ss r.flat
    | .lt _ _ _ _, h => ⟨h, True.intro⟩
    | .sy _, h => ⟨h, True.intro⟩
    | .bk _ _ rs, h => ⟨h, go rs h.2.2.2⟩
  go : ∀ (rs : List Row), oks ss rs → oks ss (flats rs)
    | [], _ => True.intro
    | r :: rs, h => oks_app (go1 r h.1) (go rs h.2)
theorem flats_app : ∀ {rs qs : List Row}, flats (rs ++ qs) = flats rs ++ flats qs
  | [], _ => rfl
  | r :: rs, qs => by
    show r.flat ++ flats (rs ++ qs) = (r.flat ++ flats rs) ++ flats qs
    rw [flats_app, List.append_assoc]
end Lm
/-! What is found, name by name. -/
namespace Lm
open PySem L2
theorem nodup_le : ∀ {l m : List Str}, l.Nodup → (∀ x ∈ l, x ∈ m) → l.length ≤ m.length
  | [], _, _, _ => Nat.zero_le _
  | x :: l, m, nd, h => by
    obtain ⟨h1, h2⟩ := List.nodup_cons.mp nd
    have hx : x ∈ m := h x List.mem_cons_self
    have ih := nodup_le (l := l) (m := m.erase x) h2 fun y hy => (List.mem_erase_of_ne (fun e => h1 (by rw [← e]; exact hy))).mpr (h y (List.mem_cons_of_mem _ hy))
    rw [List.length_erase_of_mem hx] at ih
    have := List.length_pos_of_mem hx
    show l.length + 1 ≤ m.length
    omega
/-- at F a set of the texts ns, all of them of ss -/
structure Fnd (w : World) (F : Addr) (H : Hp) (ss ns : List Str) : Prop where
  at_ : ∃ S n, H F = some (SetX w F S n) ∧ (∀ x, S x = true ↔ x ∈ ns) ∧ n = ns.length
  nd : ns.Nodup
  sub : ∀ x ∈ ns, x ∈ ss
theorem Fnd.few {w : World} {F : Addr} {H : Hp} {ss ns : List Str} (h : Fnd w F H ss ns) (hs : ss.length ≤ 60) : ns.length ≤ 60 := Nat.le_trans (nodup_le h.nd h.sub) hs
theorem Fnd.kp {w : World} {F : Addr} {H H' : Hp} {ss ns : List Str} (h : Fnd w F H ss ns) (k : Kp H H') : Fnd w F H' ss ns :=
  let ⟨S, n, h1, h2, h3⟩ := h.at_; ⟨⟨S, n, k.at_ _ _ h1 (fun ps q => by cases q), h2, h3⟩, h.nd, h.sub⟩
theorem Fnd.add {w : World} {F : Addr} {H : Hp} {ss ns : List Str} (h : Fnd w F H ss ns) (hs : ss.length ≤ 60) {z : Str} (hz : z ∈ ss) : ∃ S n ns', H F = some (SetX w F S n) ∧ n + 1 < scanBound ∧
    Fnd w F (upd H F (SetX w F (fun y => S y || decide (y = z)) (if S z = true then n else n + 1))) ss ns' ∧ ∀ x, x ∈ ns' ↔ x ∈ ns ∨ x = z := by
  obtain ⟨S, n, h1, h2, h3⟩ := h.at_
  have few := h.few hs
  have hb : n + 1 < scanBound := by
    rw [h3]
    show ns.length + 1 < 4096
    omega
  by_cases c : z ∈ ns
  · have cS : S z = true := (h2 z).mpr c
    refine ⟨S, n, ns, h1, hb, ⟨⟨_, _, upd_same, fun x => ?_, by rw [if_pos cS]; exact h3⟩, h.nd, h.sub⟩, fun x => ⟨Or.inl, fun e => e.elim id fun e => by rw [e]; exact c⟩⟩
    rw [Bool.or_eq_true, decide_eq_true_eq, h2 x]
    exact ⟨fun e => e.elim id fun e => by rw [e]; exact c, Or.inl⟩
  · have cS : ¬ S z = true := fun e => c ((h2 z).mp e)
    refine ⟨S, n, ns ++ [z], h1, hb, ⟨⟨_, _, upd_same, fun x => ?_, by rw [if_neg cS, List.length_append, h3]; rfl⟩, ?_, fun x hx => ?_⟩, fun x => ?_⟩
    · rw [Bool.or_eq_true, decide_eq_true_eq, h2 x, List.mem_append, List.mem_singleton]
    · rw [List.nodup_append]
      exact ⟨h.nd, by simp, fun a ha b hb e => c (by rw [List.mem_singleton.mp hb] at e; rw [← e]; exact ha)⟩
    · rcases List.mem_append.mp hx with e | e
      · exact h.sub x e
      · rw [List.mem_singleton.mp e]
        exact hz
    · rw [List.mem_append, List.mem_singleton]
/-- the name that one row sets -/
def Row.sets : Row → List Str
  | .lt to _ _ _ => [to]
  | _ => []
theorem Vl.ok_v {ss : List Str} : ∀ {x : Vl}, x.ok ss → (∃ s, x.v = .str s ∧ s ∈ ss) ∨ ∃ i, x.v = .int i
  | .nm s, h => .inl ⟨s, rfl, h⟩
  | .nu i, _ => .inr ⟨i, rfl⟩
theorem Row.asks_ok {ss : List Str} {r : Row} (h : r.ok ss) {v : V} (hv : v ∈ r.asks) : (∃ s, v = .str s ∧ s ∈ ss) ∨ ∃ i, v = .int i := by
  match r, h, hv with
  | .lt to sg a b, h, hv =>
    rcases List.mem_cons.mp hv with e | e
    · rw [e]; exact Vl.ok_v h.2.2.1
    · rw [List.mem_singleton.mp e]; exact Vl.ok_v h.2.2.2
  | .sy a, h, hv => rw [List.mem_singleton.mp hv]; exact Vl.ok_v h
  | .bk kd ts rs, h, hv =>
    obtain ⟨s, e, hs⟩ := h.2.1
    rw [List.mem_singleton.mp hv]
    exact .inl ⟨s, e, hs⟩
/-- the names that some of the rows asks for -/
def askN (rs : List Row) (x : Str) : Prop := ∃ r ∈ rs, V.str x ∈ r.asks
def setN (rs : List Row) (x : Str) : Prop := ∃ r ∈ rs, x ∈ r.sets
theorem askN_one {rs : List Row} {i : Nat} {r : Row} (h : rs[i]? = some r) (x : Str) : askN (rs.take (i + 1)) x ↔ askN (rs.take i) x ∨ V.str x ∈ r.asks := by
  unfold askN
  rw [take_one h]
  simp only [List.mem_append, List.mem_singleton]
  constructor
  · rintro ⟨q, h1 | h1, h2⟩
    · exact .inl ⟨q, h1, h2⟩
    · rw [h1] at h2; exact .inr h2
  · rintro (⟨q, h1, h2⟩ | h2)
    · exact ⟨q, .inl h1, h2⟩
    · exact ⟨r, .inr rfl, h2⟩
theorem setN_one {rs : List Row} {i : Nat} {r : Row} (h : rs[i]? = some r) (x : Str) : setN (rs.take (i + 1)) x ↔ setN (rs.take i) x ∨ x ∈ r.sets := by
  unfold setN
  rw [take_one h]
  simp only [List.mem_append, List.mem_singleton]
  constructor
  · rintro ⟨q, h1 | h1, h2⟩
    · exact .inl ⟨q, h1, h2⟩
    · rw [h1] at h2; exact .inr h2
  · rintro (⟨q, h1, h2⟩ | h2)
    · exact ⟨q, .inl h1, h2⟩
    · exact ⟨r, .inr rfl, h2⟩
end Lm
/-! Sorted lists of texts are one; what the law gathers. -/
namespace Lm
open PySem L2 PyProof.Rows
theorem ltc (a b : Str) : Spec.ltCps a.cps.toList b.cps.toList = decide (a.cps.toList < b.cps.toList) := PyProof.Rows.ltCps_eq _ _
theorem rising_pw : ∀ (r : List Str) (p : Str), risingS p r = true → (p :: r).Pairwise (fun a b => ¬ b.cps.toList < a.cps.toList)
  | [], p, _ => by simp
  | x :: r, p, h => by
    have h' : (!Spec.ltCps x.cps.toList p.cps.toList && risingS x r) = true := h
    rw [Bool.and_eq_true, ltc] at h'
    have h1 : ¬ x.cps.toList < p.cps.toList := by
      intro z
      rw [decide_eq_true z] at h'
      exact Bool.noConfusion h'.1
    have ih := rising_pw r x h'.2
    refine List.pairwise_cons.mpr ⟨fun y hy => ?_, ih⟩
    rcases List.mem_cons.mp hy with e | hy
    · rw [e]; exact h1
    · intro z
      have h2 := (List.pairwise_cons.mp ih).1 y hy
      rcases List.le_iff_lt_or_eq.mp (List.not_lt.mp h2) with q | q
      · exact h1 (List.lt_trans q z)
      · rw [← q] at z
        exact h1 z
theorem sorted_pw {l : List Str} (h : sortedS l = true) : l.Pairwise (fun a b => ¬ b.cps.toList < a.cps.toList) := by
  cases l with
  | nil => exact List.Pairwise.nil
  | cons x r => exact rising_pw r x h
theorem sorted_one {l m : List Str} (h1 : sortedS l = true) (h2 : sortedS m = true) (n1 : l.Nodup) (n2 : m.Nodup) (h : ∀ x, x ∈ l ↔ x ∈ m) : l = m :=
  List.Perm.eq_of_pairwise (fun a b _ _ q1 q2 => str_eq (List.le_antisymm (List.not_lt.mp q1) (List.not_lt.mp q2))) (sorted_pw h1) (sorted_pw h2) ((List.perm_ext_iff_of_nodup n1 n2).mpr h)
theorem alk_strs {K : PySem.W.Frag} {H : Hp} {p q : Addr} {ys : List Str} (h1 : SqL K H p (ys.map V.str)) (h2 : SqL K H q (ys.map V.str)) (hl : ys.length ≤ 10000) : Alk K H 2 (.ref p) (.ref q) := by
  refine Or.inr (.inr (.inl ⟨p, q, _, _, rfl, rfl, h1, h2, rfl, by rw [List.length_map]; exact hl, fun i a b ha hb => ?_⟩))
  rw [ha] at hb
  cases hb
  rw [List.getElem?_map] at ha
  cases e : ys[i]? with
  | none => rw [e] at ha; cases ha
  | some y =>
    rw [e] at ha
    cases ha
    exact alk_str y
/-- a dict whose values are all True -/
def dkv (ks : List Key) : List (Key × V) := ks.map fun k => (k, V.bl true)
theorem dkv_keys (ks : List Key) : (dkv ks).map (·.1) = ks := by
  unfold dkv
  rw [List.map_map]
  exact List.map_id ks
theorem dkv_put (ks : List Key) (k : Key) : ∃ ks', putK (dkv ks) k (V.bl true) = dkv ks' ∧ (ks.Nodup → ks'.Nodup) ∧ (∀ j, j ∈ ks' ↔ j ∈ ks ∨ j = k) ∧ ks'.length ≤ ks.length + 1 := by
  have ea : ((dkv ks).any fun kv => decide (kv.1 = k)) = true ↔ k ∈ ks := by
    unfold dkv
    rw [List.any_map, List.any_eq_true]
    exact ⟨fun ⟨x, h1, h2⟩ => by rw [← of_decide_eq_true h2]; exact h1, fun h => ⟨k, h, decide_eq_true rfl⟩⟩
  by_cases h : k ∈ ks
  · refine ⟨ks, ?_, id, fun j => ⟨Or.inl, fun e => e.elim id fun e => by rw [e]; exact h⟩, Nat.le_succ _⟩
    unfold putK
    rw [if_pos (ea.mpr h)]
    unfold dkv
    rw [List.map_map]
    refine List.map_congr_left fun x _ => ?_
    show (if x = k then (x, V.bl true) else (x, V.bl true)) = (x, V.bl true)
    split <;> rfl
  · refine ⟨ks ++ [k], ?_, fun n => ?_, fun j => by rw [List.mem_append, List.mem_singleton], by rw [List.length_append]; exact Nat.le_refl _⟩
    · unfold putK
      rw [if_neg (fun z => h (ea.mp z))]
      unfold dkv
      rw [List.map_append]
      rfl
    · rw [List.nodup_append]
      exact ⟨n, by simp, fun a ha b hb e => h (by rw [List.mem_singleton.mp hb] at e; rw [← e]; exact ha)⟩
/-- the keys that some of the rows asks for -/
def askK (rs : List Row) (k : Key) : Prop := ∃ r ∈ rs, kV k ∈ r.asks
def setK (rs : List Row) (k : Key) : Prop := ∃ r ∈ rs, ∃ x ∈ r.sets, k = Sum.inr x
theorem askK_app (rs qs : List Row) (k : Key) : askK (rs ++ qs) k ↔ askK rs k ∨ askK qs k := by
  unfold askK
  simp only [List.mem_append]
  exact ⟨fun ⟨r, h, q⟩ => h.elim (fun h => .inl ⟨r, h, q⟩) fun h => .inr ⟨r, h, q⟩, fun h => h.elim (fun ⟨r, h, q⟩ => ⟨r, .inl h, q⟩) fun ⟨r, h, q⟩ => ⟨r, .inr h, q⟩⟩
theorem setK_app (rs qs : List Row) (k : Key) : setK (rs ++ qs) k ↔ setK rs k ∨ setK qs k := by
  unfold setK
  simp only [List.mem_append]
  exact ⟨fun ⟨r, h, q⟩ => h.elim (fun h => .inl ⟨r, h, q⟩) fun h => .inr ⟨r, h, q⟩, fun h => h.elim (fun ⟨r, h, q⟩ => ⟨r, .inl h, q⟩) fun ⟨r, h, q⟩ => ⟨r, .inr h, q⟩⟩
theorem askK_one (r : Row) (k : Key) : askK [r] k ↔ kV k ∈ r.asks := by simp [askK]
theorem setK_one (r : Row) (k : Key) : setK [r] k ↔ ∃ x ∈ r.sets, k = Sum.inr x := by simp [setK]
theorem askK_N (rs : List Row) (x : Str) : askK rs (Sum.inr x) ↔ askN rs x := Iff.rfl
theorem setK_N (rs : List Row) (x : Str) : setK rs (Sum.inr x) ↔ setN rs x := by
  unfold setK setN
  exact ⟨fun ⟨r, h, y, hy, e⟩ => ⟨r, h, by cases e; exact hy⟩, fun ⟨r, h, hx⟩ => ⟨r, h, x, hx, rfl⟩⟩
theorem kV_inj {j k : Key} (h : kV j = kV k) : j = k := by
  cases j with
  | inl a =>
    cases k with
    | inl b => rw [V.int.inj h]
    | inr b => cases h
  | inr a =>
    cases k with
    | inl b => cases h
    | inr b => rw [V.str.inj h]
theorem Vl.key : ∀ x : Vl, ∃ k, x.v = kV k
  | .nm s => ⟨Sum.inr s, rfl⟩
  | .nu i => ⟨Sum.inl i, rfl⟩
theorem flats_take {rs : List Row} {i : Nat} {r : Row} (h : rs[i]? = some r) : flats (rs.take (i + 1)) = flats (rs.take i) ++ r.flat := by
  rw [take_one h, flats_app]
  show flats (rs.take i) ++ (r.flat ++ []) = _
  rw [List.append_nil]
theorem tots_take {rs : List Row} {i : Nat} {r : Row} (h : rs[i]? = some r) : tots (rs.take (i + 1)) = tots (rs.take i) + r.tot := by
  rw [take_one h, tots_app]
  show tots (rs.take i) + (r.tot + 0) = _
  rw [Nat.add_zero]
theorem tots_take_le (rs : List Row) (i : Nat) : tots (rs.take i) ≤ tots rs := by
  have h := tots_app (rs := rs.take i) (qs := rs.drop i)
  rw [List.take_append_drop] at h
  omega
theorem upd_self {H : Hp} {a : Addr} {o : HO} (h : H a = some o) : upd H a o = H := by
  funext b
  by_cases e : b = a
  · rw [e, upd_same, h]
  · rw [upd_ne e]
end Lm
/-! What a run is, step by step. -/
namespace Lm
open PySem L2
/-- the values of the names -/
abbrev Wh := Str → Option Int
def Wh.get (ρ : Wh) : V → Int
  | .str s => (ρ s).getD 0
  | .int i => i
  | _ => 0
def Wh.set (ρ : Wh) (s : Str) (i : Int) : Wh := fun x => if x = s then some i else ρ x
def comeTo (sg : Str) (a b : Int) : Int :=
  if sg = "+" then (a + b) % 1000000 else if sg = "-" then (a - b) % 1000000 else if sg = "*" then a * b % 1000000 else if sg = "<" then (if a < b then 1 else 0) else a.fdiv b
structure Tale where
  ρ : Wh
  said : List Int
  steps : Nat
def Tale.tick (t : Tale) : Tale := { t with steps := t.steps + 1 }
inductive Ed where
  | done | long | nought
  deriving DecidableEq
def Ed.txt : Ed → Str
  | .done => "done"
  | .long => "too long"
  | .nought => "by nought"
inductive Cmd where
  | one (r : Row)
  | all (rs : List Row)
  | lp (ts : V) (rs : List Row)
/-- what is done, with at most m steps -/
inductive Does (m : Nat) : Cmd → Tale → Tale → Ed → Prop
  | letLong {to sg : Str} {a b : Vl} {t : Tale} : m ≤ t.steps → Does m (.one (.lt to sg a b)) t t .long
  | letNought {to sg : Str} {a b : Vl} {t : Tale} : t.steps < m → sg = "/" → t.ρ.get b.v = 0 → Does m (.one (.lt to sg a b)) t t.tick .nought
  | letDone {to sg : Str} {a b : Vl} {t : Tale} : t.steps < m → ¬ (sg = "/" ∧ t.ρ.get b.v = 0) → Does m (.one (.lt to sg a b)) t { t.tick with ρ := t.ρ.set to (comeTo sg (t.ρ.get a.v) (t.ρ.get b.v)) } .done
  | sayLong {a t} : m ≤ t.steps → Does m (.one (.sy a)) t t .long
  | sayDone {a t} : t.steps < m → Does m (.one (.sy a)) t { t.tick with said := t.said ++ [t.ρ.get a.v] } .done
  | whenLong {kd : Str} {ts : V} {rs : List Row} {t : Tale} : kd = "when" → m ≤ t.steps → Does m (.one (.bk kd ts rs)) t t .long
  | whenNo {kd : Str} {ts : V} {rs : List Row} {t : Tale} : kd = "when" → t.steps < m → t.ρ.get ts = 0 → Does m (.one (.bk kd ts rs)) t t.tick .done
  | whenIn {kd : Str} {ts : V} {rs : List Row} {t t1 : Tale} {e : Ed} : kd = "when" → t.steps < m → t.ρ.get ts ≠ 0 → Does m (.all rs) t.tick t1 e → Does m (.one (.bk kd ts rs)) t t1 e
  | loop {kd : Str} {ts : V} {rs : List Row} {t t1 : Tale} {e : Ed} : kd = "loop" → Does m (.lp ts rs) t t1 e → Does m (.one (.bk kd ts rs)) t t1 e
  | again {kd : Str} {ts : V} {rs : List Row} {t t1 t2 : Tale} {e : Ed} : kd = "again" → Does m (.all rs) t t1 .done → Does m (.lp ts rs) t1 t2 e → Does m (.one (.bk kd ts rs)) t t2 e
  | againStop {kd : Str} {ts : V} {rs : List Row} {t t1 : Tale} {e : Ed} : kd = "again" → Does m (.all rs) t t1 e → e ≠ .done → Does m (.one (.bk kd ts rs)) t t1 e
  | lpLong {ts rs t} : m ≤ t.steps → Does m (.lp ts rs) t t .long
  | lpNo {ts rs t} : t.steps < m → t.ρ.get ts = 0 → Does m (.lp ts rs) t t.tick .done
  | lpRound {ts rs t t1 t2 e} : t.steps < m → t.ρ.get ts ≠ 0 → Does m (.all rs) t.tick t1 .done → Does m (.lp ts rs) t1 t2 e → Does m (.lp ts rs) t t2 e
  | lpStop {ts rs t t1 e} : t.steps < m → t.ρ.get ts ≠ 0 → Does m (.all rs) t.tick t1 e → e ≠ .done → Does m (.lp ts rs) t t1 e
  | nil {t} : Does m (.all []) t t .done
  | cons {r rs t t1 t2 e} : Does m (.one r) t t1 .done → Does m (.all rs) t1 t2 e → Does m (.all (r :: rs)) t t2 e
  | consStop {r rs t t1 e} : Does m (.one r) t t1 e → e ≠ .done → Does m (.all (r :: rs)) t t1 e
theorem wl : ¬ ("when" : Str) = "loop" := by decide +kernel
theorem wa : ¬ ("when" : Str) = "again" := by decide +kernel
theorem la : ¬ ("loop" : Str) = "again" := by decide +kernel
theorem Does.det {m : Nat} {c : Cmd} {t t1 t2 : Tale} {e1 e2 : Ed} (h : Does m c t t1 e1) : Does m c t t2 e2 → t1 = t2 ∧ e1 = e2 := by
  have no1 : ∀ {n : Nat}, n < m → m ≤ n → False := fun h1 h2 => by omega
  induction h generalizing t2 e2 with
  | letLong h1 =>
    intro h2
    cases h2 with
    | letLong => exact ⟨rfl, rfl⟩
    | letNought g1 => exact (no1 g1 h1).elim
    | letDone g1 => exact (no1 g1 h1).elim
  | letNought h1 h3 h4 =>
    intro h2
    cases h2 with
    | letLong g1 => exact (no1 h1 g1).elim
    | letNought => exact ⟨rfl, rfl⟩
    | letDone _ g2 => exact (g2 ⟨h3, h4⟩).elim
  | letDone h1 h3 =>
    intro h2
    cases h2 with
    | letLong g1 => exact (no1 h1 g1).elim
    | letNought _ g2 g3 => exact (h3 ⟨g2, g3⟩).elim
    | letDone => exact ⟨rfl, rfl⟩
  | sayLong h1 =>
    intro h2
    cases h2 with
    | sayLong => exact ⟨rfl, rfl⟩
    | sayDone g1 => exact (no1 g1 h1).elim
  | sayDone h1 =>
    intro h2
    cases h2 with
    | sayLong g1 => exact (no1 h1 g1).elim
    | sayDone => exact ⟨rfl, rfl⟩
  | whenLong hk h1 =>
    intro h2
    cases h2 with
    | whenLong => exact ⟨rfl, rfl⟩
    | whenNo _ g1 => exact (no1 g1 h1).elim
    | whenIn _ g1 => exact (no1 g1 h1).elim
    | loop g => exact (wl (hk.symm.trans g)).elim
    | again g => exact (wa (hk.symm.trans g)).elim
    | againStop g => exact (wa (hk.symm.trans g)).elim
  | whenNo hk h1 h3 =>
    intro h2
    cases h2 with
    | whenLong _ g1 => exact (no1 h1 g1).elim
    | whenNo => exact ⟨rfl, rfl⟩
    | whenIn _ _ g1 => exact (g1 h3).elim
    | loop g => exact (wl (hk.symm.trans g)).elim
    | again g => exact (wa (hk.symm.trans g)).elim
    | againStop g => exact (wa (hk.symm.trans g)).elim
  | whenIn hk h1 h3 _ ih =>
    intro h2
    cases h2 with
    | whenLong _ g1 => exact (no1 h1 g1).elim
    | whenNo _ _ g1 => exact (h3 g1).elim
    | whenIn _ _ _ g1 => exact ih g1
    | loop g => exact (wl (hk.symm.trans g)).elim
    | again g => exact (wa (hk.symm.trans g)).elim
    | againStop g => exact (wa (hk.symm.trans g)).elim
  | loop hk _ ih =>
    intro h2
    cases h2 with
    | whenLong g => exact (wl (g.symm.trans hk)).elim
    | whenNo g => exact (wl (g.symm.trans hk)).elim
    | whenIn g => exact (wl (g.symm.trans hk)).elim
    | loop _ g => exact ih g
    | again g => exact (la (hk.symm.trans g)).elim
    | againStop g => exact (la (hk.symm.trans g)).elim
  | again hk _ _ ih1 ih2 =>
    intro h2
    cases h2 with
    | whenLong g => exact (wa (g.symm.trans hk)).elim
    | whenNo g => exact (wa (g.symm.trans hk)).elim
    | whenIn g => exact (wa (g.symm.trans hk)).elim
    | loop g => exact (la (g.symm.trans hk)).elim
    | again _ g1 g2 =>
      obtain ⟨rfl, _⟩ := ih1 g1
      exact ih2 g2
    | againStop _ g1 g2 =>
      obtain ⟨_, e⟩ := ih1 g1
      exact (g2 e.symm).elim
  | againStop hk _ hn ih =>
    intro h2
    cases h2 with
    | whenLong g => exact (wa (g.symm.trans hk)).elim
    | whenNo g => exact (wa (g.symm.trans hk)).elim
    | whenIn g => exact (wa (g.symm.trans hk)).elim
    | loop g => exact (la (g.symm.trans hk)).elim
    | again _ g1 g2 =>
      obtain ⟨_, e⟩ := ih g1
      exact (hn e).elim
    | againStop _ g1 g2 => exact ih g1
  | lpLong h1 =>
    intro h2
    cases h2 with
    | lpLong => exact ⟨rfl, rfl⟩
    | lpNo g1 => exact (no1 g1 h1).elim
    | lpRound g1 => exact (no1 g1 h1).elim
    | lpStop g1 => exact (no1 g1 h1).elim
  | lpNo h1 h3 =>
    intro h2
    cases h2 with
    | lpLong g1 => exact (no1 h1 g1).elim
    | lpNo => exact ⟨rfl, rfl⟩
    | lpRound _ g1 => exact (g1 h3).elim
    | lpStop _ g1 => exact (g1 h3).elim
  | lpRound h1 h3 _ _ ih1 ih2 =>
    intro h2
    cases h2 with
    | lpLong g1 => exact (no1 h1 g1).elim
    | lpNo _ g1 => exact (h3 g1).elim
    | lpRound _ _ g1 g2 =>
      obtain ⟨rfl, _⟩ := ih1 g1
      exact ih2 g2
    | lpStop _ _ g1 g2 =>
      obtain ⟨_, e⟩ := ih1 g1
      exact (g2 e.symm).elim
  | lpStop h1 h3 _ hn ih =>
    intro h2
    cases h2 with
    | lpLong g1 => exact (no1 h1 g1).elim
    | lpNo _ g1 => exact (h3 g1).elim
    | lpRound _ _ g1 g2 =>
      obtain ⟨_, e⟩ := ih g1
      exact (hn e).elim
    | lpStop _ _ g1 g2 => exact ih g1
  | nil =>
    intro h2
    cases h2
    exact ⟨rfl, rfl⟩
  | cons _ _ ih1 ih2 =>
    intro h2
    cases h2 with
    | cons g1 g2 =>
      obtain ⟨rfl, _⟩ := ih1 g1
      exact ih2 g2
    | consStop g1 g2 =>
      obtain ⟨_, e⟩ := ih1 g1
      exact (g2 e.symm).elim
  | consStop _ hn ih =>
    intro h2
    cases h2 with
    | cons g1 g2 =>
      obtain ⟨_, e⟩ := ih g1
      exact (hn e).elim
    | consStop g1 g2 => exact ih g1
/-- the steps do not fall, and never pass the most -/
theorem Does.steps {m : Nat} {c : Cmd} {t t1 : Tale} {e : Ed} (h : Does m c t t1 e) : t.steps ≤ t1.steps ∧ (t.steps ≤ m → t1.steps ≤ m) := by
  have tk : ∀ t : Tale, t.tick.steps = t.steps + 1 := fun _ => rfl
  induction h with
  | letLong h1 => exact ⟨Nat.le_refl _, id⟩
  | letNought h1 => exact ⟨Nat.le_succ _, fun _ => h1⟩
  | letDone h1 => exact ⟨Nat.le_succ _, fun _ => h1⟩
  | sayLong => exact ⟨Nat.le_refl _, id⟩
  | sayDone h1 => exact ⟨Nat.le_succ _, fun _ => h1⟩
  | whenLong => exact ⟨Nat.le_refl _, id⟩
  | whenNo _ h1 => exact ⟨Nat.le_succ _, fun _ => h1⟩
  | whenIn _ h1 _ _ ih => rw [tk] at ih; omega
  | loop _ _ ih => exact ih
  | again _ _ _ ih1 ih2 => omega
  | againStop _ _ _ ih => exact ih
  | lpLong => exact ⟨Nat.le_refl _, id⟩
  | lpNo h1 => exact ⟨Nat.le_succ _, fun _ => h1⟩
  | lpRound h1 _ _ _ ih1 ih2 => rw [tk] at ih1; omega
  | lpStop h1 _ _ _ ih => rw [tk] at ih; omega
  | nil => exact ⟨Nat.le_refl _, id⟩
  | cons _ _ ih1 ih2 => omega
  | consStop _ _ ih => exact ih
/-! ### values in a dict -/
/-- values from 0 to 999999 -/
def Wh.small (ρ : Wh) : Prop := ∀ x v, ρ x = some v → 0 ≤ v ∧ v < 1000000
theorem Wh.small.at {ρ : Wh} (h : ρ.small) (s : Str) : 0 ≤ (ρ s).getD 0 ∧ (ρ s).getD 0 < 1000000 := by
  cases e : ρ s with
  | none => exact ⟨Int.le_refl _, by decide⟩
  | some v => exact h s v e
theorem Wh.small.vl {ρ : Wh} (h : ρ.small) {ss : List Str} : ∀ {x : Vl}, x.ok ss → 0 ≤ ρ.get x.v ∧ ρ.get x.v < 1000000
  | .nm s, _ => h.at s
  | .nu i, hi => hi
theorem Wh.small.put {ρ : Wh} (h : ρ.small) {s : Str} {i : Int} (h0 : 0 ≤ i) (h1 : i < 1000000) : (ρ.set s i).small := fun x v e => by
  unfold Wh.set at e
  by_cases c : x = s
  · rw [if_pos c] at e
    cases e
    exact ⟨h0, h1⟩
  · rw [if_neg c] at e
    exact h x v e
theorem comeTo_small {sg : Str} {a b : Int} (ha : 0 ≤ a ∧ a < 1000000) (hb : 0 ≤ b ∧ b < 1000000) : 0 ≤ comeTo sg a b ∧ comeTo sg a b < 1000000 := by
  unfold comeTo
  split
  · exact ⟨Int.emod_nonneg _ (by decide), Int.emod_lt_of_pos _ (by decide)⟩
  split
  · exact ⟨Int.emod_nonneg _ (by decide), Int.emod_lt_of_pos _ (by decide)⟩
  split
  · exact ⟨Int.emod_nonneg _ (by decide), Int.emod_lt_of_pos _ (by decide)⟩
  split
  · split <;> exact ⟨by decide, by decide⟩
  · rw [Int.fdiv_eq_ediv_of_nonneg _ hb.1]
    exact ⟨Int.ediv_nonneg ha.1 hb.1, Int.lt_of_le_of_lt (Int.ediv_le_self _ ha.1) ha.2⟩
/-- at d a dict of the values ρ, at most n of them -/
structure DV (o : HO) (ρ : Wh) (n : Nat) : Prop where
  ex : ∃ kvs : List (Key × V), o = .dK kvs ∧ (kvs.map (·.1)).Nodup ∧ (∀ k ∈ kvs.map (·.1), ∃ x, k = Sum.inr x) ∧ (∀ x, valV kvs (Sum.inr x) = (ρ x).map V.int) ∧ kvs.length ≤ n
theorem DV.nil : DV (.dK []) (fun _ => none) 0 := ⟨⟨[], rfl, List.nodup_nil, fun k h => absurd h List.not_mem_nil, fun x => rfl, Nat.le_refl _⟩⟩
theorem putK_keys (kvs : List (Key × V)) (k : Key) (v : V) : (putK kvs k v).map (·.1) = if (valV kvs k).isSome then kvs.map (·.1) else kvs.map (·.1) ++ [k] := by
  cases e : valV kvs k with
  | none =>
    rw [putK_new v e, List.map_append]
    rfl
  | some u =>
    unfold putK
    have h := valV_any k kvs
    rw [e] at h
    have h' : (kvs.any fun kv => decide (kv.1 = k)) = true := h
    rw [if_pos h', List.map_map]
    refine (List.map_congr_left fun x _ => ?_).trans rfl
    show (if x.1 = k then (x.1, v) else x).1 = x.1
    split <;> rfl
theorem DV.put {kvs : List (Key × V)} {ρ : Wh} {n : Nat} (h : DV (.dK kvs) ρ n) (s : Str) (i : Int) : DV (.dK (putK kvs (Sum.inr s) (.int i))) (ρ.set s i) (n + 1) := by
  obtain ⟨kvs', e, h1, h2, h3, h4⟩ := h.ex
  cases e
  refine ⟨⟨_, rfl, ?_, ?_, fun x => ?_, Nat.le_trans (length_putK _ _ _) (Nat.succ_le_succ h4)⟩⟩
  · cases e : valV kvs (Sum.inr s) with
    | none => exact nd_putK _ h1 e
    | some u =>
      rw [putK_keys, e]
      exact h1
  · rw [putK_keys]
    intro k hk
    split at hk
    · exact h2 k hk
    · rcases List.mem_append.mp hk with z | z
      · exact h2 k z
      · exact ⟨s, List.mem_singleton.mp z⟩
  · rw [valV_put]
    unfold Wh.set
    by_cases c : x = s
    · rw [if_pos (by rw [c]), if_pos c]
      rfl
    · rw [if_neg (fun z => c (Sum.inr.inj z)), if_neg c]
      exact h3 x
theorem DV.more {o : HO} {ρ : Wh} {n m : Nat} (h : DV o ρ n) (hm : n ≤ m) : DV o ρ m := let ⟨kvs, a, b, c, d, e⟩ := h.ex; ⟨⟨kvs, a, b, c, d, Nat.le_trans e hm⟩⟩
theorem DV.get {kvs : List (Key × V)} {ρ : Wh} {n : Nat} (h : DV (.dK kvs) ρ n) (s : Str) : (valV kvs (Sum.inr s)).getD (.int 0) = .int ((ρ s).getD 0) := by
  obtain ⟨kvs', e, h1, h2, h3, h4⟩ := h.ex
  cases e
  rw [h3]
  cases ρ s <;> rfl
end Lm
namespace Lm
open PySem L2
theorem lkc {α : Type} (f g : Str) (y : α) (fs : List (Str × α)) : ((f, y) :: fs).lookup g = if g = f then some y else fs.lookup g := by
  by_cases h : g = f
  · subst h
    simp [List.lookup]
  · have e : (g == f) = false := by simpa using h
    rw [if_neg h]
    simp [List.lookup, e]
theorem put_same (f : Str) (v x : V) (r : List (Str × V)) : putF f v ((f, x) :: r) = (f, v) :: r := if_pos rfl
theorem put_next {f g : Str} (h : ¬ g = f) (v x : V) (r : List (Str × V)) : putF f v ((g, x) :: r) = (g, x) :: putF f v r := if_neg h
theorem put_end (f : Str) (v : V) : putF f v [] = [(f, v)] := rfl
/-- the attributes of a run -/
def pf (d s : Addr) (m n : Int) (e : Str) : List (Str × V) := [("worths", .ref d), ("most", .int m), ("steps", .int n), ("said", .ref s), ("ending", .str e)]
section
variable (d s : Addr) (m n : Int) (e : Str)
theorem pf_worths : (pf d s m n e).lookup ("worths" : Str) = some (.ref d) := by
  unfold pf
  rw [lkc, if_pos rfl]
theorem pf_most : (pf d s m n e).lookup ("most" : Str) = some (.int m) := by
  unfold pf
  rw [lkc, if_neg (by decide +kernel), lkc, if_pos rfl]
theorem pf_steps : (pf d s m n e).lookup ("steps" : Str) = some (.int n) := by
  unfold pf
  rw [lkc, if_neg (by decide +kernel), lkc, if_neg (by decide +kernel), lkc, if_pos rfl]
theorem pf_said : (pf d s m n e).lookup ("said" : Str) = some (.ref s) := by
  unfold pf
  rw [lkc, if_neg (by decide +kernel), lkc, if_neg (by decide +kernel), lkc, if_neg (by decide +kernel), lkc, if_pos rfl]
theorem pf_ending : (pf d s m n e).lookup ("ending" : Str) = some (.str e) := by
  unfold pf
  rw [lkc, if_neg (by decide +kernel), lkc, if_neg (by decide +kernel), lkc, if_neg (by decide +kernel), lkc, if_neg (by decide +kernel), lkc, if_pos rfl]
def pfN : List Str := ["worths", "most", "steps", "said", "ending"]
theorem pf_no {x : Str} (h : x ∉ pfN) : (pf d s m n e).lookup x = none := by
  simp only [pfN, List.mem_cons, List.not_mem_nil, or_false, not_or] at h
  unfold pf
  rw [lkc, if_neg h.1, lkc, if_neg h.2.1, lkc, if_neg h.2.2.1, lkc, if_neg h.2.2.2.1, lkc, if_neg h.2.2.2.2]
  rfl
theorem pf_tick (j : Int) : putF "steps" (.int j) (pf d s m n e) = pf d s m j e := by
  unfold pf
  rw [put_next (by decide +kernel), put_next (by decide +kernel), put_same]
theorem pf_end (z : Str) : putF "ending" (.str z) (pf d s m n e) = pf d s m n z := by
  unfold pf
  rw [put_next (by decide +kernel), put_next (by decide +kernel), put_next (by decide +kernel), put_next (by decide +kernel), put_same]
theorem pf_made : putF "ending" (.str e) (putF "said" (.ref s) (putF "steps" (.int n) (putF "most" (.int m) (putF "worths" (.ref d) [])))) = pf d s m n e := by
  unfold pf
  repeat (first | rw [put_end] | rw [put_next (by decide +kernel)])
theorem pf_len : (pf d s m n e).length < 1000 := by
  show 5 < 1000
  decide
end
/-- a run stands at p; Hc: what stood before -/
structure Pr (C : Addr) (Hc H : Hp) (p d s : Addr) (m : Nat) (t : Tale) (e : Str) : Prop where
  ob : ∃ dx, H p = some (.ins C dx (pf d s m t.steps e))
  dc : ∃ kvs, H d = some (.dK kvs) ∧ DV (.dK kvs) t.ρ (100 + t.steps)
  sd : H s = some (.lst (t.said.map V.int))
  sl : t.said.length ≤ t.steps
  st : t.steps ≤ m
  sm : t.ρ.small
  cl : Same Hc H
  cp : Hc p = none
  cd : Hc d = none
  cs : Hc s = none
  mm : m ≤ 100000
section
variable {C : Addr} {Hc H : Hp} {p d s : Addr} {m : Nat} {t : Tale} {e : Str}
theorem Pr.ne (h : Pr C Hc H p d s m t e) : p ≠ d ∧ p ≠ s ∧ d ≠ s := by
  obtain ⟨dx, h1⟩ := h.ob
  obtain ⟨kvs, h2, _⟩ := h.dc
  have h3 := h.sd
  exact ⟨ne_of h1 h2 (by intro z; cases z), ne_of h1 h3 (by intro z; cases z), ne_of h2 h3 (by intro z; cases z)⟩
theorem Pr.keep (h : Pr C Hc H p d s m t e) {b : Addr} (hb : Hc b = none) (o : HO) : Same Hc (upd H b o) := fun c x hc => by
  rw [upd_ne (ne_of_none hc hb)]
  exact h.cl c x hc
theorem Pr.ended (h : Pr C Hc H p d s m t e) {dx : Addr} (z : Str) : Pr C Hc (upd H p (.ins C dx (putF "ending" (.str z) (pf d s m t.steps e)))) p d s m t z := by
  obtain ⟨n1, n2, n3⟩ := h.ne
  obtain ⟨kvs, h2, h3⟩ := h.dc
  exact ⟨⟨dx, by rw [upd_same, pf_end]⟩, ⟨kvs, by rw [upd_ne n1.symm]; exact h2, h3⟩, by rw [upd_ne n2.symm]; exact h.sd, h.sl, h.st, h.sm, h.keep h.cp _, h.cp, h.cd, h.cs, h.mm⟩
theorem Pr.ticked (h : Pr C Hc H p d s m t e) {dx : Addr} (hm : t.steps < m) : Pr C Hc (upd H p (.ins C dx (putF "steps" (.int ((t.steps : Int) + 1)) (pf d s m t.steps e)))) p d s m t.tick e := by
  obtain ⟨n1, n2, n3⟩ := h.ne
  obtain ⟨kvs, h2, h3⟩ := h.dc
  exact ⟨⟨dx, by rw [upd_same, pf_tick]; rfl⟩, ⟨kvs, by rw [upd_ne n1.symm]; exact h2, h3.more (Nat.le_succ _)⟩, by rw [upd_ne n2.symm]; exact h.sd, Nat.le_succ_of_le h.sl, hm, h.sm, h.keep h.cp _, h.cp, h.cd, h.cs, h.mm⟩
/-- behind a step something more is said -/
theorem Pr.says (h : Pr C Hc H p d s m t.tick e) (hl : t.said.length ≤ t.steps) (i : Int) : Pr C Hc (upd H s (.lst (t.said.map V.int ++ [.int i]))) p d s m { t.tick with said := t.said ++ [i] } e := by
  obtain ⟨n1, n2, n3⟩ := h.ne
  obtain ⟨kvs, h2, h3⟩ := h.dc
  obtain ⟨dx, h1⟩ := h.ob
  exact ⟨⟨dx, by rw [upd_ne n2]; exact h1⟩, ⟨kvs, by rw [upd_ne n3]; exact h2, h3⟩, by rw [upd_same, List.map_append]; rfl, by rw [List.length_append]; exact Nat.succ_le_succ hl, h.st, h.sm, h.keep h.cs _, h.cp, h.cd, h.cs, h.mm⟩
/-- behind a step a name gets a value -/
theorem Pr.puts (h : Pr C Hc H p d s m t.tick e) {kvs : List (Key × V)} (hd : H d = some (.dK kvs)) (hv : DV (.dK kvs) t.ρ (100 + t.steps)) (to : Str) {i : Int} (h0 : 0 ≤ i) (h1 : i < 1000000) :
    Pr C Hc (upd H d (.dK (putK kvs (Sum.inr to) (.int i)))) p d s m { t.tick with ρ := t.ρ.set to i } e := by
  obtain ⟨n1, n2, n3⟩ := h.ne
  obtain ⟨dx, g1⟩ := h.ob
  exact ⟨⟨dx, by rw [upd_ne n1]; exact g1⟩, ⟨_, upd_same, hv.put to i⟩, by rw [upd_ne n3.symm]; exact h.sd, h.sl, h.st, h.sm.put h0 h1, h.keep h.cd _, h.cp, h.cd, h.cs, h.mm⟩
end
theorem Does.app {m : Nat} : ∀ {xs ys : List Row} {t t1 t2 : Tale} {e : Ed}, Does m (.all xs) t t1 .done → Does m (.all ys) t1 t2 e → Does m (.all (xs ++ ys)) t t2 e
  | [], ys, t, t1, t2, e, h, g => by
    cases h
    exact g
  | x :: xs, ys, t, t1, t2, e, h, g => by
    cases h with
    | cons h1 h2 => exact .cons h1 (Does.app h2 g)
    | consStop _ h2 => exact absurd rfl h2
/-- behind the rows so far one row that goes on -/
theorem Does.step {m : Nat} {rs : List Row} {i : Nat} {r : Row} {t t1 t2 : Tale} (h : Does m (.all (rs.take i)) t t1 .done) (hi : rs[i]? = some r) (g : Does m (.one r) t1 t2 .done) : Does m (.all (rs.take (i + 1))) t t2 .done := by
  rw [take_one hi]
  exact h.app (.cons g .nil)
/-- or that ends the run -/
theorem Does.stop {m : Nat} {rs : List Row} {i : Nat} {r : Row} {t t1 t2 : Tale} {e : Ed} (h : Does m (.all (rs.take i)) t t1 .done) (hi : rs[i]? = some r) (g : Does m (.one r) t1 t2 e) (he : e ≠ .done) : Does m (.all rs) t t2 e := by
  have e1 : rs = rs.take i ++ r :: rs.drop (i + 1) := by
    have := List.take_append_drop i rs
    have h2 : rs.drop i = r :: rs.drop (i + 1) := by
      obtain ⟨hl, hx⟩ := List.getElem?_eq_some_iff.mp hi
      rw [List.drop_eq_getElem_cons hl, hx]
    rw [← h2, this]
  rw [e1]
  exact h.app (.consStop g he)
theorem Does.round {m : Nat} {kd : Str} {ts : V} {rs : List Row} {t t1 t2 : Tale} {e : Ed} (hk : kd = "again") (h : Does m (.all rs) t t1 .done) (hm : t1.steps < m) (hx : t1.ρ.get ts ≠ 0) (g : Does m (.one (.bk kd ts rs)) t1.tick t2 e) : Does m (.one (.bk kd ts rs)) t t2 e := by
  cases g with
  | whenLong z => exact absurd (z.symm.trans hk) wa
  | whenNo z => exact absurd (z.symm.trans hk) wa
  | whenIn z => exact absurd (z.symm.trans hk) wa
  | loop z => exact absurd (z.symm.trans hk) la
  | again _ g1 g2 => exact .again hk h (.lpRound hm hx g1 g2)
  | againStop _ g1 g2 => exact .again hk h (.lpStop hm hx g1 g2)
theorem none_left {P : Program} {w : World} {K : PySem.W.Frag} {mg : Str → Option Value} {base : Heap} {f : Addr} {fd : FuncData} {k : Nat} {ps : List Str} {sp : Sp} (no : ∀ vs H Q E, ¬ sp vs H Q E) : FnOk P w K mg base CX0 k f fd ps sp :=
  ⟨fun vs H Q E h => absurd h (no vs H Q E), fun A outer s H args us vs Q E _ _ _ _ h => absurd h (no vs H Q E)⟩
/-- a method by its name -/
structure Mt (K : PySem.W.Frag) (C : Addr) (x q : Str) (st : Stmt) (ps : List Str) (f : Addr) (fd : FuncData) : Prop where
  fn : Fun K x q st f fd
  me : Meth K C x f
  b : Binds K fd ps []
theorem DV.nodupV {kvs : List (Key × V)} {ρ : Wh} {n : Nat} (h : DV (.dK kvs) ρ n) {i : Nat} {k : Key} {v : V} (hi : kvs[i]? = some (k, v)) : valV kvs k = some v := by
  obtain ⟨kvs', e, h1, _⟩ := h.ex
  cases e
  exact val_nodup h1 (k, v) (List.mem_of_getElem? hi)
theorem nodup_len {α : Type} [DecidableEq α] : ∀ {l m : List α}, l.Nodup → (∀ x ∈ l, x ∈ m) → l.length ≤ m.length
  | [], _, _, _ => Nat.zero_le _
  | x :: l, m, nd, h => by
    obtain ⟨h1, h2⟩ := List.nodup_cons.mp nd
    have hx : x ∈ m := h x List.mem_cons_self
    have ih := nodup_len (l := l) (m := m.erase x) h2 fun y hy => (List.mem_erase_of_ne (fun e => h1 (by rw [← e]; exact hy))).mpr (h y (List.mem_cons_of_mem _ hy))
    rw [List.length_erase_of_mem hx] at ih
    have := List.length_pos_of_mem hx
    show l.length + 1 ≤ m.length
    omega
theorem DV.same {ka kb : List (Key × V)} {ρ : Wh} {n m : Nat} (a : DV (.dK ka) ρ n) (b : DV (.dK kb) ρ m) : ka.length = kb.length ∧ ∀ p ∈ kb, ∃ x z, p = (Sum.inr x, V.int z) ∧ valV ka (Sum.inr x) = some (V.int z) := by
  have sub : ∀ {la lb : List (Key × V)} {n m : Nat}, DV (.dK la) ρ n → DV (.dK lb) ρ m → ∀ p ∈ la, ∃ x z, p = (Sum.inr x, V.int z) ∧ valV lb (Sum.inr x) = some (V.int z) := fun {la lb _ _} ha hb p hp => by
    obtain ⟨l1, e1, a1, a2, a3, a4⟩ := ha.ex
    obtain ⟨l2, e2, b1, b2, b3, b4⟩ := hb.ex
    cases e1
    cases e2
    obtain ⟨x, ex⟩ := a2 p.1 (List.mem_map_of_mem hp)
    have q := val_nodup a1 p hp
    rw [ex, a3] at q
    cases ez : ρ x with
    | none => rw [ez] at q; cases q
    | some z =>
      rw [ez] at q
      have q2 : V.int z = p.2 := Option.some.inj q
      exact ⟨x, z, Prod.ext ex q2.symm, by rw [b3, ez]; rfl⟩
  have le : ∀ {la lb : List (Key × V)} {n m : Nat}, DV (.dK la) ρ n → DV (.dK lb) ρ m → la.length ≤ lb.length := fun {la lb _ _} ha hb => by
    obtain ⟨l1, e1, a1, _⟩ := ha.ex
    cases e1
    have z := nodup_len (m := lb.map (·.1)) a1 fun k hk => by
      obtain ⟨p, hp, rfl⟩ := List.mem_map.mp hk
      obtain ⟨x, z, e, q⟩ := sub ha hb p hp
      rw [e]
      exact valV_in q
    rw [List.length_map, List.length_map] at z
    exact z
  exact ⟨Nat.le_antisymm (le a b) (le b a), sub b a⟩
/-- a new object, by a name for the heap with it -/
theorem newH {H : Hp} {p : Addr} (hp : H p = none) (o : HO) : ∃ H', upd H p o = H' ∧ Same H H' ∧ H' p = some o := ⟨_, rfl, same_new hp o, upd_same⟩
/-- a change at a place that is not of the base -/
theorem same_put {B H : Hp} (s : Same B H) {p : Addr} (hp : B p = none) (o : HO) : Same B (upd H p o) := fun b u hb => by
  rw [upd_ne (ne_of_none hb hp)]
  exact s b u hb
theorem DV.few {kvs : List (Key × V)} {ρ : Wh} {n : Nat} (h : DV (.dK kvs) ρ n) : kvs.length ≤ n := by
  obtain ⟨kvs', e, _, _, _, hl⟩ := h.ex
  cases e
  exact hl
theorem DV.tight {kvs : List (Key × V)} {ρ : Wh} {n : Nat} (h : DV (.dK kvs) ρ n) : DV (.dK kvs) ρ kvs.length := by
  obtain ⟨kvs', e, h1, h2, h3, _⟩ := h.ex
  cases e
  exact ⟨⟨kvs, rfl, h1, h2, h3, Nat.le_refl _⟩⟩
end Lm
/-! What goes ahead. -/
namespace Lm
open PySem L2
/-- the row r goes ahead; st: the rows that stay so far, be: those behind it -/
def Goes (st : List Row) (r : Row) (be : List Row) : Prop :=
  ∃ to sg a b, r = .lt to sg a b ∧ (flats st).any Row.fails = false ∧ (r.fails = true → (flats st).any Row.says = false) ∧ ¬ setN (flats st) to ∧ ¬ setN (flats be) to ∧ ¬ askN (flats st) to ∧
    ∀ x, V.str x ∈ r.asks → x ≠ to ∧ ¬ setN (flats st) x ∧ ¬ setN (flats be) x
open Classical in
/-- those that go ahead, those that stay -/
noncomputable def parts (st : List Row) : List Row → List Row × List Row
  | [] => ([], [])
  | r :: rs => if Goes st r rs then (r :: (parts st rs).1, (parts st rs).2) else ((parts (st ++ [r]) rs).1, r :: (parts (st ++ [r]) rs).2)
theorem parts_go {st : List Row} {r : Row} {rs : List Row} (h : Goes st r rs) : parts st (r :: rs) = (r :: (parts st rs).1, (parts st rs).2) := if_pos h
theorem parts_no {st : List Row} {r : Row} {rs : List Row} (h : ¬ Goes st r rs) : parts st (r :: rs) = ((parts (st ++ [r]) rs).1, r :: (parts (st ++ [r]) rs).2) := if_neg h
/-- behind some of the rows -/
structure Mid (rs be ah st : List Row) : Prop where
  one : (parts [] rs).1 = ah ++ (parts st be).1
  two : (parts [] rs).2 = st ++ (parts st be).2
theorem Mid.start (rs : List Row) : Mid rs rs [] [] := ⟨rfl, rfl⟩
theorem Mid.go {rs be ah st : List Row} {r : Row} (h : Mid rs (r :: be) ah st) (g : Goes st r be) : Mid rs be (ah ++ [r]) st := by
  obtain ⟨h1, h2⟩ := h
  rw [parts_go g] at h1 h2
  exact ⟨by rw [h1, List.append_assoc]; rfl, h2⟩
theorem Mid.no {rs be ah st : List Row} {r : Row} (h : Mid rs (r :: be) ah st) (g : ¬ Goes st r be) : Mid rs be ah (st ++ [r]) := by
  obtain ⟨h1, h2⟩ := h
  rw [parts_no g] at h1 h2
  exact ⟨h1, by rw [h2, List.append_assoc]; rfl⟩
theorem Mid.end_ {rs ah st : List Row} (h : Mid rs [] ah st) : (parts [] rs).1 = ah ∧ (parts [] rs).2 = st := by
  obtain ⟨h1, h2⟩ := h
  exact ⟨h1.trans (List.append_nil _), h2.trans (List.append_nil _)⟩
theorem setN_app (rs qs : List Row) (x : Str) : setN (rs ++ qs) x ↔ setN rs x ∨ setN qs x := by
  unfold setN
  simp only [List.mem_append]
  exact ⟨fun ⟨r, h, q⟩ => h.elim (fun h => .inl ⟨r, h, q⟩) fun h => .inr ⟨r, h, q⟩, fun h => h.elim (fun ⟨r, h, q⟩ => ⟨r, .inl h, q⟩) fun ⟨r, h, q⟩ => ⟨r, .inr h, q⟩⟩
theorem askN_app (rs qs : List Row) (x : Str) : askN (rs ++ qs) x ↔ askN rs x ∨ askN qs x := by
  unfold askN
  simp only [List.mem_append]
  exact ⟨fun ⟨r, h, q⟩ => h.elim (fun h => .inl ⟨r, h, q⟩) fun h => .inr ⟨r, h, q⟩, fun h => h.elim (fun ⟨r, h, q⟩ => ⟨r, .inl h, q⟩) fun ⟨r, h, q⟩ => ⟨r, .inr h, q⟩⟩
theorem flats_cons (r : Row) (rs : List Row) : flats (r :: rs) = r.flat ++ flats rs := rfl
theorem flats_one (r : Row) : flats [r] = r.flat := by
  show r.flat ++ [] = _
  rw [List.append_nil]
theorem setN_nil (x : Str) : ¬ setN [] x := fun ⟨r, h, _⟩ => by cases h
theorem setN_let (to sg : Str) (a b : Vl) (x : Str) : setN (Row.lt to sg a b).flat x ↔ x = to := by
  show setN [Row.lt to sg a b] x ↔ _
  unfold setN
  constructor
  · rintro ⟨r, h1, h2⟩
    rw [List.mem_singleton.mp h1] at h2
    exact List.mem_singleton.mp h2
  · rintro rfl
    exact ⟨_, List.mem_singleton.mpr rfl, List.mem_singleton.mpr rfl⟩
open Classical in
/-- how many of the rows set a name -/
noncomputable def cnt : List Row → Str → Nat
  | [], _ => 0
  | r :: rs, x => (if setN r.flat x then 1 else 0) + cnt rs x
theorem cnt_app : ∀ (rs qs : List Row) (x : Str), cnt (rs ++ qs) x = cnt rs x + cnt qs x
  | [], qs, x => (Nat.zero_add _).symm
  | r :: rs, qs, x => by
    show _ + cnt (rs ++ qs) x = (_ + cnt rs x) + cnt qs x
    rw [cnt_app rs qs x, Nat.add_assoc]
open Classical in
theorem cnt_zero : ∀ (rs : List Row) (x : Str), cnt rs x = 0 ↔ ¬ setN (flats rs) x
  | [], x => ⟨fun _ => setN_nil x, fun _ => rfl⟩
  | r :: rs, x => by
    rw [flats_cons, setN_app, not_or, ← cnt_zero rs x]
    show (if setN r.flat x then 1 else 0) + cnt rs x = 0 ↔ _
    by_cases h : setN r.flat x
    · rw [if_pos h]
      exact ⟨fun z => by omega, fun z => absurd h z.1⟩
    · rw [if_neg h]
      exact ⟨fun z => ⟨h, by omega⟩, fun z => by omega⟩
open Classical in
theorem cnt_let (st be : List Row) (to sg : Str) (a b : Vl) (x : Str) : cnt (st ++ .lt to sg a b :: be) x = cnt st x + (if x = to then 1 else 0) + cnt be x := by
  rw [cnt_app]
  show _ + ((if setN (Row.lt to sg a b).flat x then 1 else 0) + cnt be x) = _
  by_cases h : x = to
  · rw [if_pos ((setN_let to sg a b x).mpr h), if_pos h]
    omega
  · rw [if_neg (fun z => h ((setN_let to sg a b x).mp z)), if_neg h]
    omega
open Classical in
theorem cnt_one (rs : List Row) (r : Row) (x : Str) : cnt (rs ++ [r]) x = cnt rs x + (if setN r.flat x then 1 else 0) := by
  rw [cnt_app]
  show _ + (_ + 0) = _
  rw [Nat.add_zero]
/-- the attributes of a look -/
def lf (g d : Addr) (fl sp : Bool) : List (Str × V) := [("setters", .ref g), ("asked", .ref d), ("failing", .bl fl), ("speaking", .bl sp)]
section
variable (g d : Addr) (fl sp : Bool)
theorem lf_setters : (lf g d fl sp).lookup ("setters" : Str) = some (.ref g) := by
  unfold lf
  rw [lkc, if_pos rfl]
theorem lf_asked : (lf g d fl sp).lookup ("asked" : Str) = some (.ref d) := by
  unfold lf
  rw [lkc, if_neg (by decide +kernel), lkc, if_pos rfl]
theorem lf_failing : (lf g d fl sp).lookup ("failing" : Str) = some (.bl fl) := by
  unfold lf
  rw [lkc, if_neg (by decide +kernel), lkc, if_neg (by decide +kernel), lkc, if_pos rfl]
theorem lf_speaking : (lf g d fl sp).lookup ("speaking" : Str) = some (.bl sp) := by
  unfold lf
  rw [lkc, if_neg (by decide +kernel), lkc, if_neg (by decide +kernel), lkc, if_neg (by decide +kernel), lkc, if_pos rfl]
def lfN : List Str := ["setters", "asked", "failing", "speaking"]
theorem lf_no {x : Str} (h : x ∉ lfN) : (lf g d fl sp).lookup x = none := by
  simp only [lfN, List.mem_cons, List.not_mem_nil, or_false, not_or] at h
  unfold lf
  rw [lkc, if_neg h.1, lkc, if_neg h.2.1, lkc, if_neg h.2.2.1, lkc, if_neg h.2.2.2]
  rfl
theorem lf_put_f (b : Bool) : putF "failing" (.bl b) (lf g d fl sp) = lf g d b sp := by
  unfold lf
  rw [put_next (by decide +kernel), put_next (by decide +kernel), put_same]
theorem lf_put_s (b : Bool) : putF "speaking" (.bl b) (lf g d fl sp) = lf g d fl b := by
  unfold lf
  rw [put_next (by decide +kernel), put_next (by decide +kernel), put_next (by decide +kernel), put_same]
theorem lf_made : putF "speaking" (.bl sp) (putF "failing" (.bl fl) (putF "asked" (.ref d) (putF "setters" (.ref g) []))) = lf g d fl sp := by
  unfold lf
  repeat (first | rw [put_end] | rw [put_next (by decide +kernel)])
theorem lf_len : (lf g d fl sp).length < 1000 := by
  show 4 < 1000
  decide
end
/-- a look stands at p; st: what stays so far, be: what is still to be looked at -/
structure LookAt (C : Addr) (Hc H : Hp) (p g d : Addr) (st be : List Row) : Prop where
  ob : ∃ dx, H p = some (.ins C dx (lf g d ((flats st).any Row.fails) ((flats st).any Row.says)))
  ngd : g ≠ d
  sg : ∃ kvs ρ, H g = some (.dK kvs) ∧ DV (.dK kvs) ρ 500000 ∧ kvs.length + be.length ≤ 400000 ∧ ∀ x, (ρ x).getD 0 = (cnt (st ++ be) x : Int)
  ask : ∃ ks : List Key, H d = some (.dK (dkv ks)) ∧ ks.Nodup ∧ ks.length ≤ 100 * st.length ∧ (∀ k ∈ ks, ∃ x, k = Sum.inr x) ∧ ∀ x, Sum.inr x ∈ ks ↔ askN (flats st) x
  cl : Same Hc H
  cp : Hc p = none
  cg : Hc g = none
  cd : Hc d = none
theorem LookAt.ne {C : Addr} {Hc H : Hp} {p g d : Addr} {st be : List Row} (h : LookAt C Hc H p g d st be) : p ≠ g ∧ p ≠ d ∧ g ≠ d := by
  obtain ⟨dx, h1⟩ := h.ob
  obtain ⟨kvs, ρ, h2, _⟩ := h.sg
  obtain ⟨ks, h3, _⟩ := h.ask
  exact ⟨ne_of h1 h2 (by intro z; cases z), ne_of h1 h3 (by intro z; cases z), h.ngd⟩
theorem LookAt.same {C : Addr} {Hc H H' : Hp} {p g d : Addr} {st be : List Row} (s : Same H H') (h : LookAt C Hc H p g d st be) : LookAt C Hc H' p g d st be :=
  ⟨let ⟨dx, e⟩ := h.ob; ⟨dx, s _ _ e⟩, h.ngd, let ⟨k, ρ, a, b, c, e⟩ := h.sg; ⟨k, ρ, s _ _ a, b, c, e⟩, let ⟨k, a, b, c, e, f⟩ := h.ask; ⟨k, s _ _ a, b, c, e, f⟩, h.cl.trans s, h.cp, h.cg, h.cd⟩
theorem setN_in' {ss : List Str} {rs : List Row} (h : oks ss rs) {x : Str} (hx : setN rs x) : x ∈ ss := by
  obtain ⟨r, hr, hv⟩ := hx
  obtain ⟨i, hi, e⟩ := List.getElem_of_mem hr
  have ho : r.ok ss := oks_at (i := i) h (by rw [List.getElem?_eq_getElem hi, e])
  match r, ho, hv with
  | .lt to sg a b, ho, hv =>
    rw [List.mem_singleton.mp hv]
    exact ho.1
  | .sy a, _, hv => cases hv
  | .bk kd ts qs, _, hv => cases hv
theorem askN_in' {ss : List Str} {rs : List Row} (h : oks ss rs) {x : Str} (hx : askN rs x) : x ∈ ss := by
  obtain ⟨r, hr, hv⟩ := hx
  obtain ⟨i, hi, e⟩ := List.getElem_of_mem hr
  have ho : r.ok ss := oks_at (i := i) h (by rw [List.getElem?_eq_getElem hi, e])
  rcases Row.asks_ok ho hv with ⟨s, e, hs⟩ | ⟨z, e⟩
  · rw [V.str.inj e]
    exact hs
  · cases e
end Lm
/-! The moved program; rows whose lists are their own. -/
namespace Lm
open PySem L2
/-- rows and their values, taken apart in order -/
inductive Cut : List Row → List V → List Row → List V → List Row → List V → Prop
  | nil : Cut [] [] [] [] [] []
  | left {rs ah st : List Row} {vs us ws : List V} {r : Row} {v : V} : Cut rs vs ah us st ws → Cut (rs ++ [r]) (vs ++ [v]) (ah ++ [r]) (us ++ [v]) st ws
  | right {rs ah st : List Row} {vs us ws : List V} {r : Row} {v : V} : Cut rs vs ah us st ws → Cut (rs ++ [r]) (vs ++ [v]) ah us (st ++ [r]) (ws ++ [v])
theorem AllAt.unsnoc {K : PySem.W.Frag} {H : Hp} : ∀ {rs : List Row} {vs : List V} {r : Row} {v : V}, AllAt K H (rs ++ [r]) (vs ++ [v]) → AllAt K H rs vs ∧ RowAt K H r v
  | [], vs, r, v, ⟨u, ws, h1, h2, h3⟩ => by
    have e : ws = [] := h3
    subst e
    cases vs with
    | nil =>
      cases h1
      exact ⟨rfl, h2⟩
    | cons a b =>
      have := congrArg List.length h1
      simp at this
  | q :: rs, vs, r, v, ⟨u, ws, h1, h2, h3⟩ => by
    cases vs with
    | nil =>
      have e : ws = [] := (List.cons.inj h1).2.symm
      subst e
      have := h3.len
      simp at this
    | cons a b =>
      have h1' : a :: (b ++ [v]) = u :: ws := h1
      have e1 : u = a := (List.cons.inj h1').1.symm
      have e2 : ws = b ++ [v] := (List.cons.inj h1').2.symm
      subst e1
      subst e2
      obtain ⟨g1, g2⟩ := AllAt.unsnoc h3
      exact ⟨⟨_, _, rfl, h2, g1⟩, g2⟩
theorem AllAt.take {K : PySem.W.Frag} {H : Hp} : ∀ {rs : List Row} {vs : List V} (i : Nat), AllAt K H rs vs → AllAt K H (rs.take i) (vs.take i)
  | [], vs, i, h => by
    have e : vs = [] := h
    subst e
    rw [List.take_nil, List.take_nil]
    rfl
  | r :: rs, _, 0, _ => rfl
  | r :: rs, _, i + 1, ⟨v, ws, h1, h2, h3⟩ => by
    subst h1
    exact ⟨v, ws.take i, rfl, h2, h3.take i⟩
theorem Cut.at_ {K : PySem.W.Frag} {H : Hp} {rs ah st : List Row} {vs us ws : List V} (h : Cut rs vs ah us st ws) : AllAt K H rs vs → AllAt K H ah us ∧ AllAt K H st ws := by
  induction h with
  | nil => exact fun _ => ⟨rfl, rfl⟩
  | left h ih =>
    intro a
    obtain ⟨a1, a2⟩ := a.unsnoc
    obtain ⟨i1, i2⟩ := ih a1
    exact ⟨i1.app (AllAt.one a2), i2⟩
  | right h ih =>
    intro a
    obtain ⟨a1, a2⟩ := a.unsnoc
    obtain ⟨i1, i2⟩ := ih a1
    exact ⟨i1, i2.app (AllAt.one a2)⟩
/-! ### rows whose lists are their own -/
mutual
/-- F: the places of the lists in it, each once; none is of B -/
def OwnR (K : PySem.W.Frag) (B H : Hp) : Row → V → (Addr → Prop) → Prop
  | .lt to sg a b, v, F => RowAt K H (.lt to sg a b) v ∧ ∀ c, ¬ F c
  | .sy a, v, F => RowAt K H (.sy a) v ∧ ∀ c, ¬ F c
  | .bk kd ts rs, v, F => ∃ (p l : Addr) (vs : List V) (G : Addr → Prop), v = .ref p ∧ SqT K H p [.str kd, ts, .ref l] ∧ H l = some (.lst vs) ∧ B l = none ∧ OwnRs K B H rs vs G ∧ ¬ G l ∧ ∀ c, F c ↔ c = l ∨ G c
def OwnRs (K : PySem.W.Frag) (B H : Hp) : List Row → List V → (Addr → Prop) → Prop
  | [], vs, F => vs = [] ∧ ∀ c, ¬ F c
  | r :: rs, vs, F => ∃ (v : V) (ws : List V) (F1 F2 : Addr → Prop), vs = v :: ws ∧ OwnR K B H r v F1 ∧ OwnRs K B H rs ws F2 ∧ (∀ c, F1 c → F2 c → False) ∧ ∀ c, F c ↔ F1 c ∨ F2 c
end
mutual
theorem OwnR.row {K : PySem.W.Frag} {B H : Hp} : ∀ (r : Row) {v : V} {F : Addr → Prop}, OwnR K B H r v F → RowAt K H r v
  | .lt _ _ _ _, _, _, h => h.1
  | .sy _, _, _, h => h.1
  | .bk _ _ rs, _, _, ⟨p, l, vs, G, h1, h2, h3, h4, h5, _⟩ => ⟨p, l, vs, h1, h2, SqL.of h3, OwnRs.all rs h5⟩
theorem OwnRs.all {K : PySem.W.Frag} {B H : Hp} : ∀ (rs : List Row) {vs : List V} {F : Addr → Prop}, OwnRs K B H rs vs F → AllAt K H rs vs
  | [], _, _, h => h.1
  | r :: rs, _, _, ⟨v, ws, F1, F2, h1, h2, h3, _⟩ => ⟨v, ws, h1, OwnR.row r h2, OwnRs.all rs h3⟩
end
mutual
theorem OwnR.out {K : PySem.W.Frag} {B H : Hp} : ∀ (r : Row) {v : V} {F : Addr → Prop}, OwnR K B H r v F → ∀ c, F c → B c = none ∧ ∃ xs, H c = some (.lst xs)
  | .lt _ _ _ _, _, _, h, c, hc => absurd hc (h.2 c)
  | .sy _, _, _, h, c, hc => absurd hc (h.2 c)
  | .bk _ _ rs, _, _, ⟨p, l, vs, G, h1, h2, h3, h4, h5, h6, h7⟩, c, hc => by
    rcases (h7 c).mp hc with e | e
    · rw [e]
      exact ⟨h4, _, h3⟩
    · exact OwnRs.out rs h5 c e
theorem OwnRs.out {K : PySem.W.Frag} {B H : Hp} : ∀ (rs : List Row) {vs : List V} {F : Addr → Prop}, OwnRs K B H rs vs F → ∀ c, F c → B c = none ∧ ∃ xs, H c = some (.lst xs)
  | [], _, _, h, c, hc => absurd hc (h.2 c)
  | r :: rs, _, _, ⟨v, ws, F1, F2, h1, h2, h3, h4, h5⟩, c, hc => by
    rcases (h5 c).mp hc with e | e
    · exact OwnR.out r h2 c e
    · exact OwnRs.out rs h3 c e
end
mutual
/-- what is changed elsewhere leaves it -/
theorem OwnR.keep {K : PySem.W.Frag} {B B' H H' : Hp} (hB : ∀ c, B c = none → B' c = none) (hT : ∀ p xs, SqT K H p xs → SqT K H' p xs) : ∀ (r : Row) {v : V} {F : Addr → Prop}, (∀ c, F c → H' c = H c) → OwnR K B H r v F → OwnR K B' H' r v F
  | .lt _ _ _ _, _, _, _, ⟨⟨p, h1, h2⟩, h3⟩ => ⟨⟨p, h1, hT _ _ h2⟩, h3⟩
  | .sy _, _, _, _, ⟨⟨p, h1, h2⟩, h3⟩ => ⟨⟨p, h1, hT _ _ h2⟩, h3⟩
  | .bk _ _ rs, _, _, hF, ⟨p, l, vs, G, h1, h2, h3, h4, h5, h6, h7⟩ =>
    ⟨p, l, vs, G, h1, hT _ _ h2, by rw [hF l ((h7 l).mpr (.inl rfl))]; exact h3, hB _ h4, OwnRs.keep hB hT rs (fun c hc => hF c ((h7 c).mpr (.inr hc))) h5, h6, h7⟩
theorem OwnRs.keep {K : PySem.W.Frag} {B B' H H' : Hp} (hB : ∀ c, B c = none → B' c = none) (hT : ∀ p xs, SqT K H p xs → SqT K H' p xs) : ∀ (rs : List Row) {vs : List V} {F : Addr → Prop}, (∀ c, F c → H' c = H c) → OwnRs K B H rs vs F → OwnRs K B' H' rs vs F
  | [], _, _, _, h => h
  | r :: rs, _, _, hF, ⟨v, ws, F1, F2, h1, h2, h3, h4, h5⟩ =>
    ⟨v, ws, F1, F2, h1, OwnR.keep hB hT r (fun c hc => hF c ((h5 c).mpr (.inl hc))) h2, OwnRs.keep hB hT rs (fun c hc => hF c ((h5 c).mpr (.inr hc))) h3, h4, h5⟩
end
/-- the heap has grown -/
theorem OwnRs.grow {K : PySem.W.Frag} {B B' H H' : Hp} {rs : List Row} {vs : List V} {F : Addr → Prop} (hB : ∀ c, B c = none → B' c = none) (s : Same H H') (h : OwnRs K B H rs vs F) : OwnRs K B' H' rs vs F :=
  OwnRs.keep hB (fun p xs q => Kp.sqT (Same.kp s) q) rs (fun c hc => by
    obtain ⟨_, xs, e⟩ := OwnRs.out rs h c hc
    rw [e, s _ _ e]) h
theorem OwnRs.nil {K : PySem.W.Frag} {B H : Hp} : OwnRs K B H [] [] (fun _ => False) := ⟨rfl, fun _ h => h⟩
theorem OwnRs.app {K : PySem.W.Frag} {B H : Hp} : ∀ {rs qs : List Row} {vs ws : List V} {F G : Addr → Prop}, OwnRs K B H rs vs F → OwnRs K B H qs ws G → (∀ c, F c → G c → False) → OwnRs K B H (rs ++ qs) (vs ++ ws) (fun c => F c ∨ G c)
  | [], qs, vs, ws, F, G, ⟨h1, h2⟩, g, _ => by
    subst h1
    refine OwnRs.cong (F := G) (fun c => ⟨Or.inr, fun h => h.elim (fun z => absurd z (h2 c)) id⟩) g
  | r :: rs, qs, vs, ws, F, G, ⟨v, us, F1, F2, h1, h2, h3, h4, h5⟩, g, hd => by
    subst h1
    have ih := OwnRs.app h3 g (fun c a b => hd c ((h5 c).mpr (.inr a)) b)
    exact ⟨v, us ++ ws, F1, fun c => F2 c ∨ G c, rfl, h2, ih, fun c a b => b.elim (h4 c a) (hd c ((h5 c).mpr (.inl a))), fun c => by
      show (F c ∨ G c) ↔ F1 c ∨ (F2 c ∨ G c)
      rw [h5 c, or_assoc]⟩
where
  OwnRs.cong {K : PySem.W.Frag} {B H : Hp} : ∀ {rs : List Row} {vs : List V} {F G : Addr → Prop}, (∀ c, F c ↔ G c) → OwnRs K B H rs vs F → OwnRs K B H rs vs G
    | [], _, _, _, h, ⟨a, b⟩ => ⟨a, fun c z => b c ((h c).mpr z)⟩
    | r :: rs, _, _, _, h, ⟨v, ws, F1, F2, h1, h2, h3, h4, h5⟩ => ⟨v, ws, F1, F2, h1, h2, h3, h4, fun c => (h c).symm.trans (h5 c)⟩
theorem OwnRs.one {K : PySem.W.Frag} {B H : Hp} {r : Row} {v : V} {F : Addr → Prop} (h : OwnR K B H r v F) : OwnRs K B H [r] [v] F := ⟨v, [], F, fun _ => False, rfl, h, OwnRs.nil, fun _ _ h => h, fun c => ⟨Or.inl, fun h => h.elim id False.elim⟩⟩
theorem OwnRs.unsnoc {K : PySem.W.Frag} {B H : Hp} : ∀ {rs : List Row} {vs : List V} {r : Row} {v : V} {F : Addr → Prop}, OwnRs K B H (rs ++ [r]) (vs ++ [v]) F → ∃ F1 F2, OwnRs K B H rs vs F1 ∧ OwnR K B H r v F2 ∧ (∀ c, F1 c → F2 c → False) ∧ ∀ c, F c ↔ F1 c ∨ F2 c
  | [], vs, r, v, F, ⟨u, ws, F1, F2, h1, h2, ⟨h3, h3'⟩, h4, h5⟩ => by
    subst h3
    cases vs with
    | nil =>
      cases h1
      exact ⟨fun _ => False, F1, OwnRs.nil, h2, fun _ h _ => h, fun c => (h5 c).trans ⟨fun h => h.elim .inr fun z => absurd z (h3' c), fun h => h.elim False.elim .inl⟩⟩
    | cons a b =>
      have := congrArg List.length h1
      simp at this
  | q :: rs, vs, r, v, F, ⟨u, ws, F1, F2, h1, h2, h3, h4, h5⟩ => by
    cases vs with
    | nil =>
      have e : ws = [] := (List.cons.inj h1).2.symm
      subst e
      have := (OwnRs.all _ h3).len
      simp at this
    | cons a b =>
      have h1' : a :: (b ++ [v]) = u :: ws := h1
      have e1 : u = a := (List.cons.inj h1').1.symm
      have e2 : ws = b ++ [v] := (List.cons.inj h1').2.symm
      subst e1
      subst e2
      obtain ⟨G1, G2, g1, g2, g3, g4⟩ := OwnRs.unsnoc h3
      refine ⟨fun c => F1 c ∨ G1 c, G2, ⟨_, _, F1, G1, rfl, h2, g1, fun c x y => h4 c x ((g4 c).mpr (.inl y)), fun _ => Iff.rfl⟩, g2, fun c x y => x.elim (fun z => h4 c z ((g4 c).mpr (.inr y))) (fun z => g3 c z y), fun c => ?_⟩
      show F c ↔ (F1 c ∨ G1 c) ∨ G2 c
      rw [h5 c, g4 c, or_assoc]
/-- taken apart, what goes ahead and what stays is each its own -/
theorem Cut.own {K : PySem.W.Frag} {B H : Hp} {rs ah st : List Row} {vs us ws : List V} (h : Cut rs vs ah us st ws) : ∀ {F : Addr → Prop}, OwnRs K B H rs vs F → ∃ F1 F2, OwnRs K B H ah us F1 ∧ OwnRs K B H st ws F2 ∧ (∀ c, F1 c → F2 c → False) ∧ ∀ c, F1 c ∨ F2 c → F c := by
  induction h with
  | nil => exact fun _ => ⟨_, _, OwnRs.nil, OwnRs.nil, fun _ h _ => h, fun c h => h.elim False.elim False.elim⟩
  | left h ih =>
    intro F a
    obtain ⟨G1, G2, g1, g2, g3, g4⟩ := a.unsnoc
    obtain ⟨F1, F2, f1, f2, f3, f4⟩ := ih g1
    exact ⟨_, F2, f1.app (OwnRs.one g2) (fun c x y => g3 c (f4 c (.inl x)) y), f2, fun c x y => x.elim (fun z => f3 c z y) (fun z => g3 c (f4 c (.inr y)) z), fun c x => (g4 c).mpr (x.elim (fun z => z.elim (fun y => .inl (f4 c (.inl y))) .inr) (fun y => .inl (f4 c (.inr y))))⟩
  | right h ih =>
    intro F a
    obtain ⟨G1, G2, g1, g2, g3, g4⟩ := a.unsnoc
    obtain ⟨F1, F2, f1, f2, f3, f4⟩ := ih g1
    exact ⟨F1, _, f1, f2.app (OwnRs.one g2) (fun c x y => g3 c (f4 c (.inr x)) y), fun c x y => y.elim (fun z => f3 c x z) (fun z => g3 c (f4 c (.inl x)) z), fun c x => (g4 c).mpr (x.elim (fun y => .inl (f4 c (.inl y))) (fun z => z.elim (fun y => .inl (f4 c (.inr y))) .inr))⟩
/-! ### the moved program -/
open Classical in
noncomputable def mvB (kd : Str) (ts : V) (body : List Row) : List Row :=
  if kd = "when" then [.bk "when" ts body] else
  if kd = "loop" then (if (parts [] body).1 = [] then [.bk "loop" ts (parts [] body).2] else [.bk "when" ts ((parts [] body).1 ++ [.bk "again" ts (parts [] body).2])])
  else (parts [] body).1 ++ [.bk "again" ts (parts [] body).2]
mutual
noncomputable def Row.mv : Row → List Row
  | .lt to sg a b => [.lt to sg a b]
  | .sy a => [.sy a]
  | .bk kd ts rs => mvB kd ts (mvs rs)
noncomputable def mvs : List Row → List Row
  | [] => []
  | r :: rs => r.mv ++ mvs rs
end
theorem mvs_app : ∀ (rs qs : List Row), mvs (rs ++ qs) = mvs rs ++ mvs qs
  | [], qs => rfl
  | r :: rs, qs => by
    show r.mv ++ mvs (rs ++ qs) = (r.mv ++ mvs rs) ++ mvs qs
    rw [mvs_app rs qs, List.append_assoc]
theorem mvs_one (r : Row) : mvs [r] = r.mv := by
  show r.mv ++ [] = _
  rw [List.append_nil]
theorem mvs_take {rs : List Row} {i : Nat} {r : Row} (h : rs[i]? = some r) : mvs (rs.take (i + 1)) = mvs (rs.take i) ++ r.mv := by
  rw [take_one h, mvs_app, mvs_one]
/-! how much there is -/
theorem parts_tots : ∀ (rs st : List Row), tots (parts st rs).1 + tots (parts st rs).2 = tots rs
  | [], _ => rfl
  | r :: rs, st => by
    by_cases h : Goes st r rs
    · rw [parts_go h]
      have := parts_tots rs st
      show (r.tot + tots (parts st rs).1) + tots (parts st rs).2 = r.tot + tots rs
      omega
    · rw [parts_no h]
      have := parts_tots rs (st ++ [r])
      show tots (parts (st ++ [r]) rs).1 + (r.tot + tots (parts (st ++ [r]) rs).2) = r.tot + tots rs
      omega
theorem parts_deps : ∀ (rs st : List Row), deps (parts st rs).1 = 0 ∧ deps (parts st rs).2 ≤ deps rs
  | [], _ => ⟨rfl, Nat.le_refl _⟩
  | r :: rs, st => by
    by_cases h : Goes st r rs
    · rw [parts_go h]
      obtain ⟨h1, h2⟩ := parts_deps rs st
      obtain ⟨to, sg, a, b, e, _⟩ := h
      subst e
      refine ⟨?_, ?_⟩
      · show max 0 (deps (parts st rs).1) = 0
        omega
      · show deps (parts st rs).2 ≤ max 0 (deps rs)
        omega
    · rw [parts_no h]
      obtain ⟨h1, h2⟩ := parts_deps rs (st ++ [r])
      refine ⟨h1, ?_⟩
      show max r.dep (deps (parts (st ++ [r]) rs).2) ≤ max r.dep (deps rs)
      omega
theorem parts_oks {ss : List Str} : ∀ (rs st : List Row), oks ss rs → oks ss (parts st rs).1 ∧ oks ss (parts st rs).2
  | [], _, _ => ⟨True.intro, True.intro⟩
  | r :: rs, st, ⟨h1, h2⟩ => by
    by_cases h : Goes st r rs
    · rw [parts_go h]
      obtain ⟨g1, g2⟩ := parts_oks rs st h2
      exact ⟨⟨h1, g1⟩, g2⟩
    · rw [parts_no h]
      obtain ⟨g1, g2⟩ := parts_oks rs (st ++ [r]) h2
      exact ⟨g1, h1, g2⟩
theorem parts_len : ∀ (rs st : List Row), (parts st rs).1.length + (parts st rs).2.length = rs.length
  | [], _ => rfl
  | r :: rs, st => by
    by_cases h : Goes st r rs
    · rw [parts_go h]
      have := parts_len rs st
      show (parts st rs).1.length + 1 + (parts st rs).2.length = rs.length + 1
      omega
    · rw [parts_no h]
      have := parts_len rs (st ++ [r])
      show (parts (st ++ [r]) rs).1.length + ((parts (st ++ [r]) rs).2.length + 1) = rs.length + 1
      omega
theorem mvB_tots (kd : Str) (ts : V) (body : List Row) : tots (mvB kd ts body) ≤ tots body + 2 := by
  have h := parts_tots body []
  unfold mvB
  split
  · show tots body + 1 + 0 ≤ _
    omega
  · split
    · split
      · show tots (parts [] body).2 + 1 + 0 ≤ _
        omega
      · show tots ((parts [] body).1 ++ [.bk "again" ts (parts [] body).2]) + 1 + 0 ≤ _
        rw [tots_app]
        show tots (parts [] body).1 + (tots (parts [] body).2 + 1 + 0) + 1 + 0 ≤ _
        omega
    · rw [tots_app]
      show tots (parts [] body).1 + (tots (parts [] body).2 + 1 + 0) ≤ _
      omega
theorem mvB_deps (kd : Str) (ts : V) (body : List Row) : deps (mvB kd ts body) ≤ deps body + 2 := by
  obtain ⟨h1, h2⟩ := parts_deps body []
  unfold mvB
  split
  · show max (deps body + 1) 0 ≤ _
    omega
  · split
    · split
      · show max (deps (parts [] body).2 + 1) 0 ≤ _
        omega
      · show max (deps ((parts [] body).1 ++ [.bk "again" ts (parts [] body).2]) + 1) 0 ≤ _
        rw [deps_app]
        show max (max (deps (parts [] body).1) (max (deps (parts [] body).2 + 1) 0) + 1) 0 ≤ _
        omega
    · rw [deps_app]
      show max (deps (parts [] body).1) (max (deps (parts [] body).2 + 1) 0) ≤ _
      omega
mutual
theorem Row.mv_tots : ∀ r : Row, tots r.mv ≤ 2 * r.tot
  | .lt _ _ _ _ => by show 1 + 0 ≤ 2; omega
  | .sy _ => by show 1 + 0 ≤ 2; omega
  | .bk kd ts rs => by
    have h1 := mvB_tots kd ts (mvs rs)
    have h2 := mvs_tots rs
    show tots (mvB kd ts (mvs rs)) ≤ 2 * (tots rs + 1)
    omega
theorem mvs_tots : ∀ rs : List Row, tots (mvs rs) ≤ 2 * tots rs
  | [] => Nat.le_refl _
  | r :: rs => by
    have h1 := Row.mv_tots r
    have h2 := mvs_tots rs
    show tots (r.mv ++ mvs rs) ≤ 2 * (r.tot + tots rs)
    rw [tots_app]
    omega
end
mutual
theorem Row.mv_deps : ∀ r : Row, deps r.mv ≤ 2 * r.dep
  | .lt _ _ _ _ => Nat.le_refl _
  | .sy _ => Nat.le_refl _
  | .bk kd ts rs => by
    have h1 := mvB_deps kd ts (mvs rs)
    have h2 := mvs_deps rs
    show deps (mvB kd ts (mvs rs)) ≤ 2 * (deps rs + 1)
    omega
theorem mvs_deps : ∀ rs : List Row, deps (mvs rs) ≤ 2 * deps rs
  | [] => Nat.le_refl _
  | r :: rs => by
    have h1 := Row.mv_deps r
    have h2 := mvs_deps rs
    show deps (r.mv ++ mvs rs) ≤ 2 * max r.dep (deps rs)
    rw [deps_app]
    omega
end
theorem mvB_ok {ss : List Str} {kd te : Str} {body : List Row} (hk : kd ∈ kinds) (ht : te ∈ ss) (ok : oks ss body) (hl : tots body ≤ 1900) : oks ss (mvB kd (.str te) body) := by
  obtain ⟨h1, h2⟩ := parts_oks body [] ok
  have hp := parts_tots body []
  have l0 := len_tots body
  have l1 := len_tots (parts [] body).1
  have l2 := len_tots (parts [] body).2
  unfold mvB
  split
  · exact ⟨⟨by decide +kernel, ⟨_, rfl, ht⟩, by omega, ok⟩, True.intro⟩
  · split
    · split
      · exact ⟨⟨by decide +kernel, ⟨_, rfl, ht⟩, by omega, h2⟩, True.intro⟩
      · exact ⟨⟨by decide +kernel, ⟨_, rfl, ht⟩, by rw [List.length_append]; show _ + 1 ≤ 2000; omega, oks_app h1 ⟨⟨by decide +kernel, ⟨_, rfl, ht⟩, by omega, h2⟩, True.intro⟩⟩, True.intro⟩
    · exact oks_app h1 ⟨⟨by decide +kernel, ⟨_, rfl, ht⟩, by omega, h2⟩, True.intro⟩
mutual
theorem Row.mv_ok {ss : List Str} : ∀ r : Row, r.ok ss → r.tot ≤ 900 → oks ss r.mv
  | .lt _ _ _ _, h, _ => ⟨h, True.intro⟩
  | .sy _, h, _ => ⟨h, True.intro⟩
  | .bk kd ts rs, ⟨h1, ⟨x, h2, h3⟩, h4, h5⟩, hl => by
    have ht := mvs_tots rs
    have hl' : tots rs + 1 ≤ 900 := hl
    subst h2
    exact mvB_ok h1 h3 (mvs_ok rs h5 (by omega)) (by omega)
theorem mvs_ok {ss : List Str} : ∀ rs : List Row, oks ss rs → tots rs ≤ 900 → oks ss (mvs rs)
  | [], _, _ => True.intro
  | r :: rs, ⟨h1, h2⟩, hl => by
    have hl' : r.tot + tots rs ≤ 900 := hl
    exact oks_app (Row.mv_ok r h1 (by omega)) (mvs_ok rs h2 (by omega))
end
theorem sqT_upd {K : PySem.W.Frag} {H : Hp} {D : Addr} {us : List V} {o : HO} (e : H D = some (.lst us)) {p : Addr} {xs : List V} (h : SqT K H p xs) : SqT K (upd H D o) p xs := by
  rcases h with (h | ⟨u, h⟩) | h
  · exact .inl (.inl (by rw [upd_ne (ne_of h e (by intro z; cases z))]; exact h))
  · exact .inl (.inr ⟨u, by rw [upd_ne (ne_of h e (by intro z; cases z))]; exact h⟩)
  · exact .inr h
end Lm
/-! Moved once is enough. -/
namespace Lm
open PySem L2
theorem parts_set {x : Str} : ∀ (be st : List Row), (setN (flats st) x ∨ askN (flats st) x) → setN (flats be) x → setN (flats (parts st be).2) x
  | [], _, _, h => h
  | q :: be, st, hx, h => by
    rw [flats_cons, setN_app] at h
    by_cases g : Goes st q be
    · rw [parts_go g]
      obtain ⟨to, sg, a, b, rfl, _, _, n1, _, n2, _⟩ := g
      rcases h with h | h
      · have e := (setN_let to sg a b x).mp h
        subst e
        exact absurd hx (fun z => z.elim n1 n2)
      · exact parts_set be st hx h
    · rw [parts_no g]
      show setN (flats (q :: (parts (st ++ [q]) be).2)) x
      rw [flats_cons, setN_app]
      rcases h with h | h
      · exact .inl h
      · refine .inr (parts_set be (st ++ [q]) ?_ h)
        rw [flats_app, setN_app, askN_app]
        exact hx.elim (fun z => .inl (.inl z)) fun z => .inr (.inl z)
theorem Goes.back {st be : List Row} {r : Row} (h : Goes st r (parts (st ++ [r]) be).2) : Goes st r be := by
  obtain ⟨to, sg, a, b, rfl, h1, h2, h3, h4, h5, h6⟩ := h
  refine ⟨to, sg, a, b, rfl, h1, h2, h3, fun z => h4 (parts_set be _ (.inl ?_) z), h5, fun x hx => ⟨(h6 x hx).1, (h6 x hx).2.1, fun z => (h6 x hx).2.2 (parts_set be _ (.inr ?_) z)⟩⟩
  · rw [flats_app, setN_app, flats_one]
    exact .inr ((setN_let to sg a b to).mpr rfl)
  · rw [flats_app, askN_app, flats_one]
    exact .inr ⟨_, List.mem_singleton.mpr rfl, hx⟩
/-- of those that stay none goes ahead -/
theorem parts_again : ∀ (be st : List Row), parts st (parts st be).2 = ([], (parts st be).2)
  | [], st => rfl
  | r :: be, st => by
    by_cases g : Goes st r be
    · rw [parts_go g]
      exact parts_again be st
    · rw [parts_no g]
      show parts st (r :: (parts (st ++ [r]) be).2) = _
      rw [parts_no (fun z => g z.back), parts_again be (st ++ [r])]
theorem parts_stay : ∀ (rs st : List Row), (parts st rs).1 = [] → (parts st rs).2 = rs
  | [], _, _ => rfl
  | r :: rs, st, h => by
    by_cases g : Goes st r rs
    · rw [parts_go g] at h
      cases h
    · rw [parts_no g] at h ⊢
      show r :: (parts (st ++ [r]) rs).2 = _
      rw [parts_stay rs (st ++ [r]) h]
mutual
/-- nothing is left to move -/
def Row.still : Row → Prop
  | .lt _ _ _ _ => True
  | .sy _ => True
  | .bk kd ts rs => stills rs ∧ (kd = "when" ∨ (kd = "loop" ∨ kd = "again") ∧ (parts [] rs).1 = [])
def stills : List Row → Prop
  | [] => True
  | r :: rs => r.still ∧ stills rs
end
theorem stills_app : ∀ {rs qs : List Row}, stills rs → stills qs → stills (rs ++ qs)
  | [], _, _, h => h
  | r :: rs, _, ⟨h1, h2⟩, h => ⟨h1, stills_app h2 h⟩
theorem parts_still : ∀ (rs st : List Row), stills rs → stills (parts st rs).1 ∧ stills (parts st rs).2
  | [], _, _ => ⟨True.intro, True.intro⟩
  | r :: rs, st, ⟨h1, h2⟩ => by
    by_cases g : Goes st r rs
    · rw [parts_go g]
      obtain ⟨a, b⟩ := parts_still rs st h2
      exact ⟨⟨h1, a⟩, b⟩
    · rw [parts_no g]
      obtain ⟨a, b⟩ := parts_still rs (st ++ [r]) h2
      exact ⟨a, h1, b⟩
theorem again_still (ts : V) {body : List Row} (h : stills body) : (Row.bk "again" ts (parts [] body).2).still :=
  ⟨(parts_still body [] h).2, .inr ⟨.inr rfl, by rw [parts_again body []]⟩⟩
theorem mvB_still (kd : Str) (ts : V) {body : List Row} (h : stills body) : stills (mvB kd ts body) := by
  obtain ⟨h1, h2⟩ := parts_still body [] h
  unfold mvB
  split
  · exact ⟨⟨h, .inl rfl⟩, True.intro⟩
  · split
    · split
      · exact ⟨⟨h2, .inr ⟨.inl rfl, by rw [parts_again body []]⟩⟩, True.intro⟩
      · exact ⟨⟨stills_app h1 ⟨again_still ts h, True.intro⟩, .inl rfl⟩, True.intro⟩
    · exact stills_app h1 ⟨again_still ts h, True.intro⟩
mutual
theorem Row.mv_still : ∀ r : Row, stills r.mv
  | .lt _ _ _ _ => ⟨True.intro, True.intro⟩
  | .sy _ => ⟨True.intro, True.intro⟩
  | .bk kd ts rs => mvB_still kd ts (mvs_still rs)
theorem mvs_still : ∀ rs : List Row, stills (mvs rs)
  | [] => True.intro
  | r :: rs => stills_app (Row.mv_still r) (mvs_still rs)
end
mutual
theorem Row.still_mv : ∀ r : Row, r.still → r.mv = [r]
  | .lt _ _ _ _, _ => rfl
  | .sy _, _ => rfl
  | .bk kd ts rs, ⟨h1, h2⟩ => by
    show mvB kd ts (mvs rs) = _
    rw [stills_mvs rs h1]
    rcases h2 with e | ⟨e | e, h⟩
    · subst e
      exact if_pos rfl
    · subst e
      refine (if_neg (by decide)).trans ((if_pos rfl).trans ((if_pos h).trans ?_))
      rw [parts_stay rs [] h]
    · subst e
      refine (if_neg (by decide)).trans ((if_neg (by decide)).trans ?_)
      rw [h, parts_stay rs [] h]
      rfl
theorem stills_mvs : ∀ rs : List Row, stills rs → mvs rs = rs
  | [], _ => rfl
  | r :: rs, ⟨h1, h2⟩ => by
    show r.mv ++ mvs rs = _
    rw [Row.still_mv r h1, stills_mvs rs h2]
    rfl
end
theorem mvs_mvs (rs : List Row) : mvs (mvs rs) = mvs rs := stills_mvs _ (mvs_still rs)
end Lm
/-! What is left of rows; data of lets; a part of the heap with one more. -/
namespace Lm
open PySem L2
theorem AllAt.drop {K : PySem.W.Frag} {H : Hp} : ∀ {rs : List Row} {vs : List V} (i : Nat), AllAt K H rs vs → AllAt K H (rs.drop i) (vs.drop i)
  | [], vs, i, h => by
    have e : vs = [] := h
    subst e
    rw [List.drop_nil, List.drop_nil]
    rfl
  | r :: rs, _, 0, h => h
  | r :: rs, _, i + 1, ⟨v, ws, h1, h2, h3⟩ => by
    subst h1
    exact h3.drop i
theorem oks_left {ss : List Str} : ∀ {rs qs : List Row}, oks ss (rs ++ qs) → oks ss rs
  | [], _, _ => True.intro
  | _ :: _, _, ⟨h1, h2⟩ => ⟨h1, oks_left h2⟩
theorem oks_drop {ss : List Str} : ∀ {rs : List Row} (i : Nat), oks ss rs → oks ss (rs.drop i)
  | [], i, h => by rw [List.drop_nil]; exact h
  | _ :: _, 0, h => h
  | _ :: rs, i + 1, h => oks_drop (rs := rs) i h.2
theorem oks_take {ss : List Str} : ∀ {rs : List Row} (i : Nat), oks ss rs → oks ss (rs.take i)
  | [], i, h => by rw [List.take_nil]; exact h
  | _ :: _, 0, _ => True.intro
  | _ :: rs, i + 1, h => ⟨h.1, oks_take (rs := rs) i h.2⟩
theorem tots_drop_le (rs : List Row) (i : Nat) : tots (rs.drop i) ≤ tots rs := by
  have h := tots_app (rs := rs.take i) (qs := rs.drop i)
  rw [List.take_append_drop] at h
  omega
theorem deps_drop_le (rs : List Row) (i : Nat) : deps (rs.drop i) ≤ deps rs := by
  have h := deps_app (rs := rs.take i) (qs := rs.drop i)
  rw [List.take_append_drop] at h
  omega
theorem Mid.st_ok {ss : List Str} {rs be ah st : List Row} (h : Mid rs be ah st) (ok : oks ss rs) : oks ss st := oks_left (qs := (parts st be).2) (by rw [← h.two]; exact (parts_oks rs [] ok).2)
theorem Mid.st_tots {rs be ah st : List Row} (h : Mid rs be ah st) : tots st ≤ tots rs := by
  have h1 := parts_tots rs []
  have h2 := h.two
  rw [h2, tots_app] at h1
  omega
theorem Mid.st_deps {rs be ah st : List Row} (h : Mid rs be ah st) : deps st ≤ deps rs := by
  have h1 := (parts_deps rs []).2
  have h2 := h.two
  rw [h2, deps_app] at h1
  omega
theorem cut_drop (xs : List V) (i : Nat) {z : Int} (hz : z = (i : Int)) : cutV xs (some z) none = xs.drop i := by
  subst hz
  unfold cutV
  rw [HT.sIx_nat]
  show (xs.drop (min i xs.length)).take (xs.length - min i xs.length) = _
  by_cases h : i ≤ xs.length
  · rw [Nat.min_eq_left h]
    exact List.take_of_length_le (by rw [List.length_drop]; exact Nat.le_refl _)
  · rw [Nat.min_eq_right (by omega), Nat.sub_self, List.take_zero, List.drop_eq_nil_of_le (by omega)]
theorem drop_one {α : Type} {l : List α} {i : Nat} {x : α} (h : l[i]? = some x) : l.drop i = x :: l.drop (i + 1) := by
  obtain ⟨hl, hx⟩ := List.getElem?_eq_some_iff.mp h
  rw [List.drop_eq_getElem_cons hl, hx]
/-- one more object that stays -/
theorem Part.add {Hc H Hc' H' : Hp} (p : Part Hc H Hc' H') {a : Addr} {o : HO} (hc : Hc a = none) (h : H a = none) (e : H' a = some o) : Part Hc H (upd Hc' a o) H' :=
  ⟨p.all, fun b u q => by rw [upd_ne (ne_of_none q hc)]; exact p.cl b u q, fun b u q => by
    by_cases z : b = a
    · rw [z, upd_same] at q
      rw [z, ← q]
      exact e
    · rw [upd_ne z] at q
      exact p.sub b u q, fun b u q n => by rw [upd_ne (ne_of_none q h)]; exact p.no b u q n⟩
theorem Part.grown {Hc H H' : Hp} (h : Same Hc H) (s : Same H H') : Part Hc H Hc H' := ⟨s, Same.refl _, h.trans s, fun _ _ _ z => z⟩
theorem parts_lets : ∀ (rs st : List Row), ∀ r ∈ (parts st rs).1, ∃ to sg a b, r = Row.lt to sg a b
  | [], _, r, h => by cases h
  | q :: rs, st, r, h => by
    by_cases g : Goes st q rs
    · rw [parts_go g] at h
      rcases List.mem_cons.mp h with e | e
      · obtain ⟨to, sg, a, b, e2, _⟩ := g
        exact ⟨to, sg, a, b, e.trans e2⟩
      · exact parts_lets rs st r e
    · rw [parts_no g] at h
      exact parts_lets rs (st ++ [q]) r h
theorem letters_le : ∀ {l : List Nat}, lettersB l = true → ∀ c ∈ l, c < 1114112
  | [], _, c, h => by cases h
  | d :: l, hb, c, h => by
    have hb' : (Nat.ble 97 d && (Nat.ble d 122 && lettersB l)) = true := hb
    rw [Bool.and_eq_true, Bool.and_eq_true] at hb'
    rcases List.mem_cons.mp h with e | e
    · have := Nat.le_of_ble_eq_true hb'.2.1
      rw [e]
      omega
    · exact letters_le hb'.2.2 c e
theorem good_letters {s : Str} (h : Good s) : lettersB s.cps.toList = true := by
  unfold Good GoodL at h
  simp only [Bool.and_eq_true] at h
  exact h.1.2
theorem good_strOk {s : Str} (h : Good s) : PyData.strOk s = true := by
  unfold PyData.strOk
  rw [← Array.all_toList, List.all_eq_true]
  exact fun c hc => decide_eq_true (letters_le (good_letters h) c hc)
def Vl.dat : Vl → PyData
  | .nm s => .str s
  | .nu i => .int i
theorem Vl.dp {K : PySem.W.Frag} {H : Hp} : ∀ x : Vl, Dp K H x.v x.dat
  | .nm s => .str s
  | .nu i => .int i
theorem Vl.dat_ok {ss : List Str} (hg : ∀ s ∈ ss, Good s) : ∀ {x : Vl}, x.ok ss → x.dat.canLay0 = true
  | .nm s, h => by
    show PyData.canLay0 (.str s) = true
    unfold PyData.canLay0
    exact good_strOk (hg s h)
  | .nu i, _ => by
    show PyData.canLay0 (.int i) = true
    unfold PyData.canLay0
    rfl
theorem Vl.dat_depth : ∀ x : Vl, x.dat.depth = 0
  | .nm s => by
    show PyData.depth (.str s) = 0
    unfold PyData.depth
    rfl
  | .nu i => by
    show PyData.depth (.int i) = 0
    unfold PyData.depth
    rfl
theorem sign_strOk : ∀ sg ∈ signs, PyData.strOk sg = true := by
  have h : signs.all (fun s => PyData.strOk s) = true := by decide +kernel
  exact fun s hs => List.all_eq_true.mp h s hs
def letD (to sg : Str) (a b : Vl) : PyData := .tuple [.str "let", .str to, .str sg, a.dat, b.dat]
theorem letD_ok {ss : List Str} (hg : ∀ s ∈ ss, Good s) {to sg : Str} {a b : Vl} (h : (Row.lt to sg a b).ok ss) : (letD to sg a b).canLay0 = true ∧ (letD to sg a b).depth = 1 := by
  obtain ⟨h1, h2, h3, h4⟩ := h
  constructor
  · have e1 : PyData.canLay0 (.str "let") = true := by unfold PyData.canLay0; decide +kernel
    have e2 : PyData.canLay0 (.str to) = true := by unfold PyData.canLay0; exact good_strOk (hg _ h1)
    have e3 : PyData.canLay0 (.str sg) = true := by unfold PyData.canLay0; exact sign_strOk _ h2
    unfold letD
    simp only [PyData.canLay0, PyData.canLayAll0] at e1 e2 e3 ⊢
    rw [e1, e2, e3, Vl.dat_ok hg h3, Vl.dat_ok hg h4]
    rfl
  · unfold letD
    simp only [PyData.depth, PyData.depthAll]
    rw [Vl.dat_depth, Vl.dat_depth]
    rfl
theorem lets_dp {K : PySem.W.Frag} {H : Hp} {ss : List Str} (hg : ∀ s ∈ ss, Good s) : ∀ {rs : List Row} {vs : List V}, (∀ r ∈ rs, ∃ to sg a b, r = Row.lt to sg a b) → oks ss rs → AllAt K H rs vs → ∃ ds : List PyData, DpAll K H vs ds ∧ PyData.canLayAll0 ds = true ∧ PyData.depthAll ds ≤ 1 ∧ ds.length = rs.length
  | [], vs, _, _, h => by
    have e : vs = [] := h
    subst e
    exact ⟨[], .nil, by unfold PyData.canLayAll0; rfl, by unfold PyData.depthAll; decide, rfl⟩
  | r :: rs, _, hl, ok, ⟨v, ws, h1, h2, h3⟩ => by
    subst h1
    obtain ⟨to, sg, a, b, rfl⟩ := hl r List.mem_cons_self
    obtain ⟨p, e1, e2⟩ := h2
    subst e1
    obtain ⟨ds, d1, d2, d3, d4⟩ := lets_dp hg (fun q hq => hl q (List.mem_cons_of_mem _ hq)) ok.2 h3
    obtain ⟨k1, k2⟩ := letD_ok hg ok.1
    refine ⟨letD to sg a b :: ds, .cons (.tup e2 (.cons (.str _) (.cons (.str _) (.cons (.str _) (.cons a.dp (.cons b.dp .nil)))))) d1, ?_, ?_, by rw [List.length_cons, List.length_cons, d4]⟩
    · unfold PyData.canLayAll0
      rw [k1, d2]
      rfl
    · unfold PyData.depthAll
      rw [k2]
      omega
theorem shaped_list {ds : List PyData} (h1 : PyData.canLayAll0 ds = true) (h2 : PyData.depthAll ds ≤ 1) : SeqAt.shaped (.list ds) = true := by
  unfold SeqAt.shaped
  rw [Bool.and_eq_true]
  refine ⟨by unfold PyData.canLay0; exact h1, decide_eq_true ?_⟩
  unfold PyData.depth
  omega
theorem eqv_nil : ∀ ds : List PyData, PyData.eqv (.list ds) (.list []) = decide (ds.length = 0)
  | [] => by
    unfold PyData.eqv PyData.eqvAll
    rfl
  | d :: ds => by
    unfold PyData.eqv PyData.eqvAll
    rw [decide_eq_false (by rw [List.length_cons]; omega)]
/-- what changes elsewhere leaves a tuple -/
theorem sqT_off {K : PySem.W.Frag} {H H' : Hp} {F : Addr → Prop} (f : ∀ c o, H c = some o → ¬ F c → H' c = some o) (hF : ∀ c, F c → ∃ xs, H c = some (.lst xs)) {p : Addr} {xs : List V} (h : SqT K H p xs) : SqT K H' p xs := by
  have no : ∀ {o : HO}, H p = some o → (∀ xs, o ≠ .lst xs) → ¬ F p := fun e n q => by
    obtain ⟨xs, e2⟩ := hF p q
    rw [e] at e2
    exact n xs (Option.some.inj e2)
  rcases h with (h | ⟨u, h⟩) | h
  · exact .inl (.inl (f _ _ h (no h (fun _ z => by cases z))))
  · exact .inl (.inr ⟨u, f _ _ h (no h (fun _ z => by cases z))⟩)
  · exact .inr h
theorem own_bk {K : PySem.W.Frag} {B H : Hp} {p l : Addr} {kd : Str} {ts : V} {rs : List Row} {xs : List V} {F : Addr → Prop} (hp : SqT K H p [.str kd, ts, .ref l]) (hl : H l = some (.lst xs)) (hB : B l = none) (h : OwnRs K B H rs xs F) (hF : ¬ F l) : OwnR K B H (.bk kd ts rs) (.ref p) (fun c => c = l ∨ F c) :=
  ⟨p, l, xs, F, rfl, hp, hl, hB, h, hF, fun _ => Iff.rfl⟩
theorem cut_take (xs : List V) (i : Nat) {z : Int} (hz : z = (i : Int)) : cutV xs none (some z) = xs.take i := by
  subst hz
  unfold cutV
  rw [HT.sIx_nat]
  show (xs.drop 0).take (min i xs.length - 0) = _
  rw [List.drop_zero, Nat.sub_zero]
  by_cases h : i ≤ xs.length
  · rw [Nat.min_eq_left h]
  · rw [Nat.min_eq_right (by omega), List.take_length, List.take_of_length_le (by omega)]
theorem Vl.more {ss ss' : List Str} (h : ∀ s ∈ ss, s ∈ ss') : ∀ {x : Vl}, x.ok ss → x.ok ss'
  | .nm s, q => h s q
  | .nu _, q => q
mutual
theorem Row.more {ss ss' : List Str} (h : ∀ s ∈ ss, s ∈ ss') : ∀ (r : Row), r.ok ss → r.ok ss'
  | .lt _ _ _ _, ⟨a, b, c, d⟩ => ⟨h _ a, b, Vl.more h c, Vl.more h d⟩
  | .sy _, q => Vl.more h q
  | .bk _ _ rs, ⟨a, ⟨s, e, b⟩, c, d⟩ => ⟨a, ⟨s, e, h _ b⟩, c, oks_more h rs d⟩
theorem oks_more {ss ss' : List Str} (h : ∀ s ∈ ss, s ∈ ss') : ∀ (rs : List Row), oks ss rs → oks ss' rs
  | [], _ => True.intro
  | r :: rs, ⟨a, b⟩ => ⟨Row.more h r a, oks_more h rs b⟩
end
theorem all_true (n : Nat) : (List.replicate n true).all id = true := by simp
theorem ints_dp {K : PySem.W.Frag} {H : Hp} : ∀ xs : List Int, DpAll K H (xs.map V.int) (xs.map PyData.int) ∧ PyData.canLayAll0 (xs.map PyData.int) = true ∧ PyData.depthAll (xs.map PyData.int) = 0 ∧ PyData.eqvAll (xs.map PyData.int) (xs.map PyData.int) = true
  | [] => ⟨.nil, by show PyData.canLayAll0 [] = true; unfold PyData.canLayAll0; rfl, by show PyData.depthAll [] = 0; unfold PyData.depthAll; rfl, by show PyData.eqvAll [] [] = true; unfold PyData.eqvAll; rfl⟩
  | x :: xs => by
    obtain ⟨h1, h2, h3, h4⟩ := ints_dp (K := K) (H := H) xs
    refine ⟨.cons (.int x) h1, ?_, ?_, ?_⟩
    · show PyData.canLayAll0 (.int x :: xs.map PyData.int) = true
      unfold PyData.canLayAll0
      rw [h2]
      unfold PyData.canLay0
      rfl
    · show PyData.depthAll (.int x :: xs.map PyData.int) = 0
      unfold PyData.depthAll
      rw [h3]
      unfold PyData.depth
      rfl
    · show PyData.eqvAll (.int x :: xs.map PyData.int) (.int x :: xs.map PyData.int) = true
      unfold PyData.eqvAll
      rw [h4]
      unfold PyData.eqv
      simp
theorem ints_same {K : PySem.W.Frag} {H : Hp} {p q : Addr} {xs : List Int} (h1 : SqL K H p (xs.map V.int)) (h2 : SqL K H q (xs.map V.int)) : ∃ d, Dp K H (.ref p) d ∧ Dp K H (.ref q) d ∧ SeqAt.shaped d = true ∧ PyData.eqv d d = true := by
  obtain ⟨a1, a2, a3, a4⟩ := ints_dp (K := K) (H := H) xs
  refine ⟨.list (xs.map PyData.int), .lst h1 a1, .lst h2 a1, shaped_list a2 (by omega), ?_⟩
  unfold PyData.eqv
  exact a4
end Lm
/-! The law's own tale of a run: a dict. -/
namespace Lm
open PySem L2
def tk (d s : Addr) (n m : Int) (e : Str) : List (Key × V) := [(Sum.inr "values", .ref d), (Sum.inr "said", .ref s), (Sum.inr "steps", .int n), (Sum.inr "most", .int m), (Sum.inr "ending", .str e)]
theorem kne {x y : Str} (h : ¬ x = y) : ¬ (Sum.inr x : Key) = Sum.inr y := fun z => h (Sum.inr.inj z)
section
variable (d s : Addr) (n m : Int) (e : Str)
theorem tk_values : valV (tk d s n m e) (Sum.inr "values") = some (.ref d) := by
  unfold tk
  rw [valV_pos rfl]
theorem tk_said : valV (tk d s n m e) (Sum.inr "said") = some (.ref s) := by
  unfold tk
  rw [valV_neg (kne (by decide +kernel)), valV_pos rfl]
theorem tk_steps : valV (tk d s n m e) (Sum.inr "steps") = some (.int n) := by
  unfold tk
  rw [valV_neg (kne (by decide +kernel)), valV_neg (kne (by decide +kernel)), valV_pos rfl]
theorem tk_most : valV (tk d s n m e) (Sum.inr "most") = some (.int m) := by
  unfold tk
  rw [valV_neg (kne (by decide +kernel)), valV_neg (kne (by decide +kernel)), valV_neg (kne (by decide +kernel)), valV_pos rfl]
theorem tk_ending : valV (tk d s n m e) (Sum.inr "ending") = some (.str e) := by
  unfold tk
  rw [valV_neg (kne (by decide +kernel)), valV_neg (kne (by decide +kernel)), valV_neg (kne (by decide +kernel)), valV_neg (kne (by decide +kernel)), valV_pos rfl]
theorem putK_hit {kvs : List (Key × V)} {k : Key} (v : V) (h : (valV kvs k).isSome = true) : putK kvs k v = kvs.map (fun kv => if kv.1 = k then (kv.1, v) else kv) := by
  unfold putK
  rw [valV_any]
  exact if_pos h
theorem tk_tick (j : Int) : putK (tk d s n m e) (Sum.inr "steps") (.int j) = tk d s j m e := by
  rw [putK_hit _ (by rw [tk_steps]; rfl)]
  unfold tk
  dsimp only [List.map]
  rw [if_neg (kne (by decide +kernel)), if_neg (kne (by decide +kernel)), if_pos rfl, if_neg (kne (by decide +kernel)), if_neg (kne (by decide +kernel))]
theorem tk_end (z : Str) : putK (tk d s n m e) (Sum.inr "ending") (.str z) = tk d s n m z := by
  rw [putK_hit _ (by rw [tk_ending]; rfl)]
  unfold tk
  dsimp only [List.map]
  rw [if_neg (kne (by decide +kernel)), if_neg (kne (by decide +kernel)), if_neg (kne (by decide +kernel)), if_neg (kne (by decide +kernel)), if_pos rfl]
end
theorem merge_nodup : ∀ (more acc : List (Key × V)), ((acc ++ more).map (·.1)).Nodup → mergeK acc more = acc ++ more
  | [], acc, _ => (List.append_nil acc).symm
  | p :: r, acc, h => by
    have no : valV acc p.1 = none := by
      cases e : valV acc p.1 with
      | none => rfl
      | some u =>
        have hin := valV_in e
        rw [List.map_append, List.nodup_append] at h
        exact absurd rfl (h.2.2 _ hin _ (by simp))
    have e1 : acc ++ p :: r = (acc ++ [p]) ++ r := by simp
    show mergeK (putK acc p.1 p.2) r = _
    rw [putK_new _ no, e1]
    exact merge_nodup r _ (by rw [e1] at h; exact h)
theorem tk_made (d s : Addr) (n m : Int) (e : Str) : mergeK [] (tk d s n m e) = tk d s n m e := by
  refine merge_nodup _ [] ?_
  show ([Sum.inr "values", Sum.inr "said", Sum.inr "steps", Sum.inr "most", Sum.inr "ending"] : List Key).Nodup
  decide +kernel
/-- a tale stands at a; Hc: what stood before -/
structure Tl (Hc H : Hp) (a d s : Addr) (m : Nat) (t : Tale) (e : Str) : Prop where
  ob : H a = some (.dK (tk d s t.steps m e))
  nad : a ≠ d
  dc : ∃ kvs, H d = some (.dK kvs) ∧ DV (.dK kvs) t.ρ (100 + t.steps)
  sd : H s = some (.lst (t.said.map V.int))
  sl : t.said.length ≤ t.steps
  st : t.steps ≤ m
  sm : t.ρ.small
  cl : Same Hc H
  ca : Hc a = none
  cd : Hc d = none
  cs : Hc s = none
  mm : m ≤ 100000
section
variable {Hc H : Hp} {a d s : Addr} {m : Nat} {t : Tale} {e : Str}
theorem Tl.ne (h : Tl Hc H a d s m t e) : a ≠ d ∧ a ≠ s ∧ d ≠ s := by
  obtain ⟨kvs, h2, _⟩ := h.dc
  exact ⟨h.nad, ne_of h.ob h.sd (by intro z; cases z), ne_of h2 h.sd (by intro z; cases z)⟩
theorem Tl.keep (h : Tl Hc H a d s m t e) {b : Addr} (hb : Hc b = none) (o : HO) : Same Hc (upd H b o) := fun c x hc => by
  rw [upd_ne (ne_of_none hc hb)]
  exact h.cl c x hc
theorem Tl.ended (h : Tl Hc H a d s m t e) (z : Str) : Tl Hc (upd H a (.dK (putK (tk d s t.steps m e) (Sum.inr "ending") (.str z)))) a d s m t z := by
  obtain ⟨n1, n2, n3⟩ := h.ne
  obtain ⟨kvs, h2, h3⟩ := h.dc
  exact ⟨by rw [upd_same, tk_end], h.nad, ⟨kvs, by rw [upd_ne n1.symm]; exact h2, h3⟩, by rw [upd_ne n2.symm]; exact h.sd, h.sl, h.st, h.sm, h.keep h.ca _, h.ca, h.cd, h.cs, h.mm⟩
theorem Tl.ticked (h : Tl Hc H a d s m t e) (hm : t.steps < m) : Tl Hc (upd H a (.dK (putK (tk d s t.steps m e) (Sum.inr "steps") (.int ((t.steps : Int) + 1))))) a d s m t.tick e := by
  obtain ⟨n1, n2, n3⟩ := h.ne
  obtain ⟨kvs, h2, h3⟩ := h.dc
  exact ⟨by rw [upd_same, tk_tick]; rfl, h.nad, ⟨kvs, by rw [upd_ne n1.symm]; exact h2, h3.more (Nat.le_succ _)⟩, by rw [upd_ne n2.symm]; exact h.sd, Nat.le_succ_of_le h.sl, hm, h.sm, h.keep h.ca _, h.ca, h.cd, h.cs, h.mm⟩
theorem Tl.says (h : Tl Hc H a d s m t.tick e) (hl : t.said.length ≤ t.steps) (i : Int) : Tl Hc (upd H s (.lst (t.said.map V.int ++ [.int i]))) a d s m { t.tick with said := t.said ++ [i] } e := by
  obtain ⟨n1, n2, n3⟩ := h.ne
  obtain ⟨kvs, h2, h3⟩ := h.dc
  exact ⟨by rw [upd_ne n2]; exact h.ob, h.nad, ⟨kvs, by rw [upd_ne n3]; exact h2, h3⟩, by rw [upd_same, List.map_append]; rfl, by rw [List.length_append]; exact Nat.succ_le_succ hl, h.st, h.sm, h.keep h.cs _, h.ca, h.cd, h.cs, h.mm⟩
theorem Tl.puts (h : Tl Hc H a d s m t.tick e) {kvs : List (Key × V)} (hv : DV (.dK kvs) t.ρ (100 + t.steps)) (to : Str) {i : Int} (h0 : 0 ≤ i) (h1 : i < 1000000) :
    Tl Hc (upd H d (.dK (putK kvs (Sum.inr to) (.int i)))) a d s m { t.tick with ρ := t.ρ.set to i } e := by
  obtain ⟨n1, n2, n3⟩ := h.ne
  exact ⟨by rw [upd_ne n1]; exact h.ob, h.nad, ⟨_, upd_same, hv.put to i⟩, by rw [upd_ne n3.symm]; exact h.sd, h.sl, h.st, h.sm.put h0 h1, h.keep h.cd _, h.ca, h.cd, h.cs, h.mm⟩
end
/-- what a turn of a block's test does -/
structure Turns (m : Nat) (kd x : Str) (rs : List Row) (c : Cmd) : Prop where
  long : ∀ t, m ≤ t.steps → Does m c t t .long
  no : ∀ t, t.steps < m → t.ρ.get (.str x) = 0 → Does m c t t.tick .done
  stop : ∀ t t1 e, t.steps < m → t.ρ.get (.str x) ≠ 0 → Does m (.all rs) t.tick t1 e → e ≠ .done → Does m c t t1 e
  once : ∀ t t1, kd = "when" → t.steps < m → t.ρ.get (.str x) ≠ 0 → Does m (.all rs) t.tick t1 .done → Does m c t t1 .done
  round : ∀ t t1 t2 e, ¬ kd = "when" → t.steps < m → t.ρ.get (.str x) ≠ 0 → Does m (.all rs) t.tick t1 .done → Does m c t1 t2 e → Does m c t t2 e
theorem turns_when {m : Nat} {x : Str} {rs : List Row} : Turns m "when" x rs (.one (.bk "when" (.str x) rs)) :=
  ⟨fun _ => .whenLong rfl, fun _ => .whenNo rfl, fun _ _ _ h1 h2 h3 _ => .whenIn rfl h1 h2 h3, fun _ _ _ h1 h2 h3 => .whenIn rfl h1 h2 h3, fun _ _ _ _ h => absurd rfl h⟩
theorem turns_lp {m : Nat} {kd x : Str} {rs : List Row} (hk : ¬ kd = "when") : Turns m kd x rs (.lp (.str x) rs) :=
  ⟨fun _ => .lpLong, fun _ => .lpNo, fun _ _ _ => .lpStop, fun _ _ h => absurd h hk, fun _ _ _ _ _ => .lpRound⟩
theorem Vl.ok_mono {ss ts : List Str} (h : ∀ x ∈ ss, x ∈ ts) : ∀ {x : Vl}, x.ok ss → x.ok ts
  | .nm _, hx => h _ hx
  | .nu _, hx => hx
mutual
theorem Row.ok_mono {ss ts : List Str} (h : ∀ x ∈ ss, x ∈ ts) : ∀ (r : Row), r.ok ss → r.ok ts
  | .lt _ _ _ _, ⟨h1, h2, h3, h4⟩ => ⟨h _ h1, h2, Vl.ok_mono h h3, Vl.ok_mono h h4⟩
  | .sy _, h1 => Vl.ok_mono h h1
  | .bk _ _ rs, ⟨h1, ⟨x, h2, h3⟩, h4, h5⟩ => ⟨h1, ⟨x, h2, h _ h3⟩, h4, oks_mono h rs h5⟩
theorem oks_mono {ss ts : List Str} (h : ∀ x ∈ ss, x ∈ ts) : ∀ (rs : List Row), oks ss rs → oks ts rs
  | [], _ => True.intro
  | r :: rs, ⟨h1, h2⟩ => ⟨Row.ok_mono h r h1, oks_mono h rs h2⟩
end
end Lm
/-! The moved program: the same tale in no more steps. -/
namespace Lm
open PySem L2
/-- a run with as many steps as are wanted: the values behind it, what is said, the steps, whether it is done -/
inductive Rn : Cmd → Wh → Wh → List Int → Nat → Bool → Prop
  | letNo {to sg : Str} {a b : Vl} {ρ : Wh} : sg = "/" → ρ.get b.v = 0 → Rn (.one (.lt to sg a b)) ρ ρ [] 1 false
  | letDo {to sg : Str} {a b : Vl} {ρ : Wh} : ¬ (sg = "/" ∧ ρ.get b.v = 0) → Rn (.one (.lt to sg a b)) ρ (ρ.set to (comeTo sg (ρ.get a.v) (ρ.get b.v))) [] 1 true
  | say {a : Vl} {ρ : Wh} : Rn (.one (.sy a)) ρ ρ [ρ.get a.v] 1 true
  | whenNo {kd : Str} {ts : V} {rs : List Row} {ρ : Wh} : kd = "when" → ρ.get ts = 0 → Rn (.one (.bk kd ts rs)) ρ ρ [] 1 true
  | whenIn {kd : Str} {ts : V} {rs : List Row} {ρ ρ1 : Wh} {o : List Int} {n : Nat} {e : Bool} : kd = "when" → ρ.get ts ≠ 0 → Rn (.all rs) ρ ρ1 o n e → Rn (.one (.bk kd ts rs)) ρ ρ1 o (n + 1) e
  | loop {kd : Str} {ts : V} {rs : List Row} {ρ ρ1 : Wh} {o : List Int} {n : Nat} {e : Bool} : kd = "loop" → Rn (.lp ts rs) ρ ρ1 o n e → Rn (.one (.bk kd ts rs)) ρ ρ1 o n e
  | again {kd : Str} {ts : V} {rs : List Row} {ρ ρ1 ρ2 : Wh} {o1 o2 : List Int} {n1 n2 : Nat} {e : Bool} : kd = "again" → Rn (.all rs) ρ ρ1 o1 n1 true → Rn (.lp ts rs) ρ1 ρ2 o2 n2 e → Rn (.one (.bk kd ts rs)) ρ ρ2 (o1 ++ o2) (n1 + n2) e
  | againNo {kd : Str} {ts : V} {rs : List Row} {ρ ρ1 : Wh} {o : List Int} {n : Nat} : kd = "again" → Rn (.all rs) ρ ρ1 o n false → Rn (.one (.bk kd ts rs)) ρ ρ1 o n false
  | lpNo {ts : V} {rs : List Row} {ρ : Wh} : ρ.get ts = 0 → Rn (.lp ts rs) ρ ρ [] 1 true
  | lpIn {ts : V} {rs : List Row} {ρ ρ1 ρ2 : Wh} {o1 o2 : List Int} {n1 n2 : Nat} {e : Bool} : ρ.get ts ≠ 0 → Rn (.all rs) ρ ρ1 o1 n1 true → Rn (.lp ts rs) ρ1 ρ2 o2 n2 e → Rn (.lp ts rs) ρ ρ2 (o1 ++ o2) (n1 + n2 + 1) e
  | lpStop {ts : V} {rs : List Row} {ρ ρ1 : Wh} {o : List Int} {n : Nat} : ρ.get ts ≠ 0 → Rn (.all rs) ρ ρ1 o n false → Rn (.lp ts rs) ρ ρ1 o (n + 1) false
  | nil {ρ : Wh} : Rn (.all []) ρ ρ [] 0 true
  | cons {r : Row} {rs : List Row} {ρ ρ1 ρ2 : Wh} {o1 o2 : List Int} {n1 n2 : Nat} {e : Bool} : Rn (.one r) ρ ρ1 o1 n1 true → Rn (.all rs) ρ1 ρ2 o2 n2 e → Rn (.all (r :: rs)) ρ ρ2 (o1 ++ o2) (n1 + n2) e
  | consNo {r : Row} {rs : List Row} {ρ ρ1 : Wh} {o : List Int} {n : Nat} : Rn (.one r) ρ ρ1 o n false → Rn (.all (r :: rs)) ρ ρ1 o n false
def Cmd.rows : Cmd → List Row
  | .one r => [r]
  | .all rs => rs
  | .lp ts rs => [.bk "loop" ts rs]
def Cmd.asks (c : Cmd) (x : Str) : Prop := askN (flats c.rows) x
def Cmd.sets (c : Cmd) (x : Str) : Prop := setN (flats c.rows) x
theorem flats_bk (kd : Str) (ts : V) (rs : List Row) : flats [.bk kd ts rs] = .bk kd ts rs :: flats rs := flats_one _
theorem setN_bk {kd : Str} {ts : V} {rs : List Row} {x : Str} : setN (flats [.bk kd ts rs]) x ↔ setN (flats rs) x := by
  rw [flats_bk]
  unfold setN
  simp only [List.mem_cons]
  exact ⟨fun ⟨r, h, q⟩ => h.elim (fun e => by rw [e] at q; cases q) fun h => ⟨r, h, q⟩, fun ⟨r, h, q⟩ => ⟨r, .inr h, q⟩⟩
theorem askN_bk {kd : Str} {ts : V} {rs : List Row} {x : Str} : askN (flats [.bk kd ts rs]) x ↔ ts = V.str x ∨ askN (flats rs) x := by
  rw [flats_bk]
  unfold askN
  simp only [List.mem_cons]
  exact ⟨fun ⟨r, h, q⟩ => h.elim (fun e => by rw [e] at q; exact .inl (List.mem_singleton.mp q).symm) fun h => .inr ⟨r, h, q⟩, fun h => h.elim (fun e => ⟨_, .inl rfl, List.mem_singleton.mpr e.symm⟩) fun ⟨r, h, q⟩ => ⟨r, .inr h, q⟩⟩
theorem setN_cons {r : Row} {rs : List Row} {x : Str} : setN (flats (r :: rs)) x ↔ setN (flats [r]) x ∨ setN (flats rs) x := by rw [flats_cons, setN_app, flats_one]
theorem askN_cons {r : Row} {rs : List Row} {x : Str} : askN (flats (r :: rs)) x ↔ askN (flats [r]) x ∨ askN (flats rs) x := by rw [flats_cons, askN_app, flats_one]
theorem setN_lt {to sg : Str} {a b : Vl} {x : Str} : setN (flats [.lt to sg a b]) x ↔ x = to := by rw [flats_one]; exact setN_let to sg a b x
theorem askN_lt {to sg : Str} {a b : Vl} {x : Str} : askN (flats [.lt to sg a b]) x ↔ V.str x ∈ [a.v, b.v] := by
  rw [flats_one]
  show askN [Row.lt to sg a b] x ↔ _
  unfold askN
  exact ⟨fun ⟨r, h, q⟩ => by rw [List.mem_singleton.mp h] at q; exact q, fun h => ⟨_, List.mem_singleton.mpr rfl, h⟩⟩
theorem askN_sy {a : Vl} {x : Str} : askN (flats [.sy a]) x ↔ a.v = V.str x := by
  rw [flats_one]
  show askN [Row.sy a] x ↔ _
  unfold askN
  exact ⟨fun ⟨r, h, q⟩ => by rw [List.mem_singleton.mp h] at q; exact (List.mem_singleton.mp q).symm, fun h => ⟨_, List.mem_singleton.mpr rfl, List.mem_singleton.mpr h.symm⟩⟩
theorem Wh.get_same {ρ τ : Wh} {v : V} (h : ∀ x, v = V.str x → ρ x = τ x) : ρ.get v = τ.get v := by
  cases v with
  | str x =>
    show (ρ x).getD 0 = (τ x).getD 0
    rw [h x rfl]
  | _ => rfl
/-- what isn't set stays -/
theorem Rn.frame {c : Cmd} {ρ ρ' : Wh} {o : List Int} {n : Nat} {e : Bool} (h : Rn c ρ ρ' o n e) {x : Str} : ¬ c.sets x → ρ' x = ρ x := by
  induction h with
  | letNo _ _ => exact fun _ => rfl
  | letDo _ =>
    intro hx
    unfold Wh.set
    rw [if_neg (fun e => hx (setN_lt.mpr e))]
  | say => exact fun _ => rfl
  | whenNo _ _ => exact fun _ => rfl
  | whenIn _ _ _ ih => exact fun hx => ih (fun z => hx (setN_bk.mpr z))
  | loop _ _ ih => exact fun hx => ih (fun z => hx (setN_bk.mpr (setN_bk.mp z)))
  | again _ _ _ ih1 ih2 => exact fun hx => (ih2 (fun z => hx (setN_bk.mpr (setN_bk.mp z)))).trans (ih1 (fun z => hx (setN_bk.mpr z)))
  | againNo _ _ ih => exact fun hx => ih (fun z => hx (setN_bk.mpr z))
  | lpNo _ => exact fun _ => rfl
  | lpIn _ _ _ ih1 ih2 => exact fun hx => (ih2 hx).trans (ih1 (fun z => hx (setN_bk.mpr z)))
  | lpStop _ _ ih => exact fun hx => ih (fun z => hx (setN_bk.mpr z))
  | nil => exact fun _ => rfl
  | cons _ _ ih1 ih2 => exact fun hx => (ih2 (fun z => hx (setN_cons.mpr (.inr z)))).trans (ih1 (fun z => hx (setN_cons.mpr (.inl z))))
  | consNo _ ih => exact fun hx => ih (fun z => hx (setN_cons.mpr (.inl z)))
/-- what isn't read matters not -/
theorem Rn.agree {D : Str → Prop} {c : Cmd} {ρ ρ' : Wh} {o : List Int} {n : Nat} {e : Bool} (h : Rn c ρ ρ' o n e) : ∀ τ : Wh, (∀ x, ¬ D x → ρ x = τ x) → (∀ x, c.asks x → ¬ D x) → ∃ τ', Rn c τ τ' o n e ∧ ∀ x, ¬ D x → ρ' x = τ' x := by
  induction h with
  | @letNo to sg a b ρ h1 h2 =>
    intro τ hs ha
    have e2 : ρ.get b.v = τ.get b.v := Wh.get_same fun x hx => hs x (ha x (askN_lt.mpr (by simp [hx])))
    exact ⟨τ, .letNo h1 (e2 ▸ h2), hs⟩
  | @letDo to sg a b ρ h1 =>
    intro τ hs ha
    have e1 : ρ.get a.v = τ.get a.v := Wh.get_same fun x hx => hs x (ha x (askN_lt.mpr (by simp [hx])))
    have e2 : ρ.get b.v = τ.get b.v := Wh.get_same fun x hx => hs x (ha x (askN_lt.mpr (by simp [hx])))
    refine ⟨_, .letDo (by rw [← e2]; exact h1), fun x hx => ?_⟩
    rw [e1, e2]
    unfold Wh.set
    split
    · rfl
    · exact hs x hx
  | @say a ρ =>
    intro τ hs ha
    have e1 : ρ.get a.v = τ.get a.v := Wh.get_same fun x hx => hs x (ha x (askN_sy.mpr hx))
    rw [e1]
    exact ⟨τ, .say, hs⟩
  | @whenNo kd ts rs ρ hk h1 =>
    intro τ hs ha
    have e1 : ρ.get ts = τ.get ts := Wh.get_same fun x hx => hs x (ha x (askN_bk.mpr (.inl hx)))
    exact ⟨τ, .whenNo hk (e1 ▸ h1), hs⟩
  | @whenIn kd ts rs ρ ρ1 o n e hk h1 _ ih =>
    intro τ hs ha
    have e1 : ρ.get ts = τ.get ts := Wh.get_same fun x hx => hs x (ha x (askN_bk.mpr (.inl hx)))
    obtain ⟨τ', g1, g2⟩ := ih τ hs fun x hx => ha x (askN_bk.mpr (.inr hx))
    exact ⟨τ', .whenIn hk (e1 ▸ h1) g1, g2⟩
  | loop hk _ ih =>
    intro τ hs ha
    obtain ⟨τ', g1, g2⟩ := ih τ hs fun x hx => ha x (askN_bk.mpr (askN_bk.mp hx))
    exact ⟨τ', .loop hk g1, g2⟩
  | again hk _ _ ih1 ih2 =>
    intro τ hs ha
    obtain ⟨τ1, g1, g2⟩ := ih1 τ hs fun x hx => ha x (askN_bk.mpr (.inr hx))
    obtain ⟨τ2, g3, g4⟩ := ih2 τ1 g2 fun x hx => ha x (askN_bk.mpr (askN_bk.mp hx))
    exact ⟨τ2, .again hk g1 g3, g4⟩
  | againNo hk _ ih =>
    intro τ hs ha
    obtain ⟨τ1, g1, g2⟩ := ih τ hs fun x hx => ha x (askN_bk.mpr (.inr hx))
    exact ⟨τ1, .againNo hk g1, g2⟩
  | @lpNo ts rs ρ h1 =>
    intro τ hs ha
    have e1 : ρ.get ts = τ.get ts := Wh.get_same fun x hx => hs x (ha x (askN_bk.mpr (.inl hx)))
    exact ⟨τ, .lpNo (e1 ▸ h1), hs⟩
  | @lpIn ts rs ρ ρ1 ρ2 o1 o2 n1 n2 e h1 _ _ ih1 ih2 =>
    intro τ hs ha
    have e1 : ρ.get ts = τ.get ts := Wh.get_same fun x hx => hs x (ha x (askN_bk.mpr (.inl hx)))
    obtain ⟨τ1, g1, g2⟩ := ih1 τ hs fun x hx => ha x (askN_bk.mpr (.inr hx))
    obtain ⟨τ2, g3, g4⟩ := ih2 τ1 g2 ha
    exact ⟨τ2, .lpIn (e1 ▸ h1) g1 g3, g4⟩
  | @lpStop ts rs ρ ρ1 o n h1 _ ih =>
    intro τ hs ha
    have e1 : ρ.get ts = τ.get ts := Wh.get_same fun x hx => hs x (ha x (askN_bk.mpr (.inl hx)))
    obtain ⟨τ1, g1, g2⟩ := ih τ hs fun x hx => ha x (askN_bk.mpr (.inr hx))
    exact ⟨τ1, .lpStop (e1 ▸ h1) g1, g2⟩
  | nil => exact fun τ hs _ => ⟨τ, .nil, hs⟩
  | cons _ _ ih1 ih2 =>
    intro τ hs ha
    obtain ⟨τ1, g1, g2⟩ := ih1 τ hs fun x hx => ha x (askN_cons.mpr (.inl hx))
    obtain ⟨τ2, g3, g4⟩ := ih2 τ1 g2 fun x hx => ha x (askN_cons.mpr (.inr hx))
    exact ⟨τ2, .cons g1 g3, g4⟩
  | consNo _ ih =>
    intro τ hs ha
    obtain ⟨τ1, g1, g2⟩ := ih τ hs fun x hx => ha x (askN_cons.mpr (.inl hx))
    exact ⟨τ1, .consNo g1, g2⟩
theorem any_bk {p : Row → Bool} {kd : Str} {ts : V} {rs : List Row} (hp : p (.bk kd ts rs) = false) : (flats [.bk kd ts rs]).any p = (flats rs).any p := by
  rw [flats_bk, List.any_cons, hp, Bool.false_or]
theorem any_cons {p : Row → Bool} {r : Row} {rs : List Row} : (flats (r :: rs)).any p = ((flats [r]).any p || (flats rs).any p) := by rw [flats_cons, List.any_append, flats_one]
theorem Rn.quiet {c : Cmd} {ρ ρ' : Wh} {o : List Int} {n : Nat} {e : Bool} (h : Rn c ρ ρ' o n e) : (flats c.rows).any Row.says = false → o = [] := by
  induction h with
  | letNo _ _ => exact fun _ => rfl
  | letDo _ => exact fun _ => rfl
  | say => exact fun z => by cases z
  | whenNo _ _ => exact fun _ => rfl
  | whenIn _ _ _ ih => exact fun z => ih ((any_bk rfl).symm.trans z)
  | loop _ _ ih => exact fun z => ih ((any_bk rfl).trans ((any_bk rfl).symm.trans z))
  | again _ _ _ ih1 ih2 =>
    intro z
    rw [ih1 ((any_bk rfl).symm.trans z), ih2 ((any_bk rfl).trans ((any_bk rfl).symm.trans z))]
    rfl
  | againNo _ _ ih => exact fun z => ih ((any_bk rfl).symm.trans z)
  | lpNo _ => exact fun _ => rfl
  | lpIn _ _ _ ih1 ih2 =>
    intro z
    rw [ih1 ((any_bk rfl).symm.trans z), ih2 z]
    rfl
  | lpStop _ _ ih => exact fun z => ih ((any_bk rfl).symm.trans z)
  | nil => exact fun _ => rfl
  | cons _ _ ih1 ih2 =>
    intro z
    have z' := any_cons.symm.trans z
    rw [Bool.or_eq_false_iff] at z'
    rw [ih1 z'.1, ih2 z'.2]
    rfl
  | consNo _ ih =>
    intro z
    have z' := any_cons.symm.trans z
    rw [Bool.or_eq_false_iff] at z'
    exact ih z'.1
theorem Rn.fails {c : Cmd} {ρ ρ' : Wh} {o : List Int} {n : Nat} {e : Bool} (h : Rn c ρ ρ' o n e) : e = false → (flats c.rows).any Row.fails = true := by
  induction h with
  | @letNo to sg a b ρ h1 h2 =>
    intro _
    have hb : b.nought = true := by
      match b, h2 with
      | .nm s, _ => rfl
      | .nu i, h2 => exact decide_eq_true h2
    show (flats [Row.lt to sg a b]).any Row.fails = true
    rw [flats_one]
    show ((decide (sg = "/") && b.nought) || false) = true
    rw [decide_eq_true h1, hb]
    rfl
  | letDo _ => exact fun z => by cases z
  | say => exact fun z => by cases z
  | whenNo _ _ => exact fun z => by cases z
  | whenIn _ _ _ ih => exact fun z => (any_bk rfl).trans (ih z)
  | loop _ _ ih => exact fun z => (any_bk rfl).trans ((any_bk rfl).symm.trans (ih z))
  | again _ _ _ _ ih2 => exact fun z => (any_bk rfl).trans ((any_bk rfl).symm.trans (ih2 z))
  | againNo _ _ ih => exact fun z => (any_bk rfl).trans (ih z)
  | lpNo _ => exact fun z => by cases z
  | lpIn _ _ _ _ ih2 => exact fun z => ih2 z
  | lpStop _ _ ih => exact fun z => (any_bk rfl).trans (ih z)
  | nil => exact fun z => by cases z
  | @cons r rs ρ ρ1 ρ2 o1 o2 n1 n2 e _ _ _ ih2 =>
    intro z
    have z2 : (flats rs).any Row.fails = true := ih2 z
    show (flats (r :: rs)).any Row.fails = true
    rw [any_cons, z2, Bool.or_true]
  | @consNo r rs ρ ρ1 o n _ ih =>
    intro z
    have z2 : (flats [r]).any Row.fails = true := ih z
    show (flats (r :: rs)).any Row.fails = true
    rw [any_cons, z2, Bool.true_or]
theorem flats_lets : ∀ {l : List Row}, (∀ q ∈ l, ∃ to sg a b, q = Row.lt to sg a b) → flats l = l
  | [], _ => rfl
  | q :: l, h => by
    obtain ⟨to, sg, a, b, e⟩ := h q List.mem_cons_self
    rw [flats_cons, flats_lets (fun p hp => h p (List.mem_cons_of_mem _ hp)), e]
    rfl
theorem parts_set1 {x : Str} : ∀ (be st : List Row), setN (flats (parts st be).1) x → setN (flats be) x
  | [], _, h => h
  | r :: be, st, h => by
    by_cases g : Goes st r be
    · rw [parts_go g] at h
      rcases setN_cons.mp h with h | h
      · exact setN_cons.mpr (.inl h)
      · exact setN_cons.mpr (.inr (parts_set1 be st h))
    · rw [parts_no g] at h
      exact setN_cons.mpr (.inr (parts_set1 be _ h))
theorem parts_set2 {x : Str} : ∀ (be st : List Row), setN (flats (parts st be).2) x → setN (flats be) x
  | [], _, h => h
  | r :: be, st, h => by
    by_cases g : Goes st r be
    · rw [parts_go g] at h
      exact setN_cons.mpr (.inr (parts_set2 be st h))
    · rw [parts_no g] at h
      rcases setN_cons.mp h with h | h
      · exact setN_cons.mpr (.inl h)
      · exact setN_cons.mpr (.inr (parts_set2 be _ h))
/-- q goes ahead of the rows st that stay -/
structure Past (st : List Row) (q : Row) : Prop where
  fl : (flats st).any Row.fails = false
  sy : q.fails = true → (flats st).any Row.says = false
  nt : ∀ x, x ∈ q.sets → ¬ setN (flats st) x ∧ ¬ askN (flats st) x
  ak : ∀ x, V.str x ∈ q.asks → ¬ setN (flats st) x
theorem Past.of {st be : List Row} {q : Row} (h : Goes st q be) : Past st q := by
  obtain ⟨to, sg, a, b, rfl, h1, h2, h3, h4, h5, h6⟩ := h
  exact ⟨h1, h2, fun x hx => by rw [List.mem_singleton.mp hx]; exact ⟨h3, h5⟩, fun x hx => (h6 x hx).2.1⟩
theorem Past.less {st : List Row} {r q : Row} (h : Past (st ++ [r]) q) : Past st q ∧ Past [r] q := by
  have f := h.fl
  rw [flats_app, List.any_append, Bool.or_eq_false_iff] at f
  have s : q.fails = true → (flats st).any Row.says = false ∧ (flats [r]).any Row.says = false := fun z => by
    have s := h.sy z
    rw [flats_app, List.any_append, Bool.or_eq_false_iff] at s
    exact s
  have e1 : ∀ x, setN (flats (st ++ [r])) x ↔ setN (flats st) x ∨ setN (flats [r]) x := fun x => by rw [flats_app, setN_app]
  have e2 : ∀ x, askN (flats (st ++ [r])) x ↔ askN (flats st) x ∨ askN (flats [r]) x := fun x => by rw [flats_app, askN_app]
  refine ⟨⟨f.1, fun z => (s z).1, fun x hx => ⟨fun z => (h.nt x hx).1 ((e1 x).mpr (.inl z)), fun z => (h.nt x hx).2 ((e2 x).mpr (.inl z))⟩, fun x hx z => h.ak x hx ((e1 x).mpr (.inl z))⟩,
    ⟨f.2, fun z => (s z).2, fun x hx => ⟨fun z => (h.nt x hx).1 ((e1 x).mpr (.inr z)), fun z => (h.nt x hx).2 ((e2 x).mpr (.inr z))⟩, fun x hx z => h.ak x hx ((e1 x).mpr (.inr z))⟩⟩
theorem parts_past : ∀ (be st : List Row) (q : Row), q ∈ (parts st be).1 → Past st q
  | [], _, q, h => by cases h
  | r :: be, st, q, h => by
    by_cases g : Goes st r be
    · rw [parts_go g] at h
      rcases List.mem_cons.mp h with e | h
      · rw [e]
        exact Past.of g
      · exact parts_past be st q h
    · rw [parts_no g] at h
      exact (parts_past be _ q h).less.1
theorem parts_past1 {be st : List Row} {r q : Row} (h : q ∈ (parts (st ++ [r]) be).1) : Past [r] q := (parts_past be _ q h).less.2
/-- names that a row that goes ahead has to do with are set by none that stays -/
theorem parts_off {x : Str} : ∀ (be st : List Row) (q : Row), q ∈ (parts st be).1 → (x ∈ q.sets ∨ V.str x ∈ q.asks) → ¬ setN (flats (parts st be).2) x
  | [], _, q, h, _ => by cases h
  | r :: be, st, q, h, hx => by
    by_cases g : Goes st r be
    · rw [parts_go g] at h ⊢
      rcases List.mem_cons.mp h with e | h
      · obtain ⟨to, sg, a, b, rfl, h1, h2, h3, h4, h5, h6⟩ := g
        subst e
        intro z
        have z' := parts_set2 be st z
        rcases hx with hx | hx
        · rw [List.mem_singleton.mp hx] at z'
          exact h4 z'
        · exact (h6 x hx).2.2 z'
      · exact parts_off be st q h hx
    · rw [parts_no g] at h ⊢
      intro z
      rcases setN_cons.mp z with z | z
      · have p := parts_past1 h
        exact hx.elim (fun hx => (p.nt x hx).1 z) (fun hx => p.ak x hx z)
      · exact parts_off be _ q h hx z
/-- a row that stays, behind those that go ahead -/
theorem swap {r : Row} {ah : List Row} {σ ρ1 α1 : Wh} {o1 : List Int} {n1 m1 : Nat} (hl : ∀ q ∈ ah, ∃ to sg a b, q = Row.lt to sg a b) (hp : ∀ q ∈ ah, Past [r] q) (h1 : Rn (.one r) σ ρ1 o1 n1 true) (h2 : Rn (.all ah) ρ1 α1 [] m1 true) :
    ∃ α, Rn (.all ah) σ α [] m1 true ∧ Rn (.one r) α α1 o1 n1 true := by
  have fl := flats_lets hl
  have set_ : ∀ x, setN (flats ah) x → ¬ setN (flats [r]) x ∧ ¬ askN (flats [r]) x := fun x h => by
    rw [fl] at h
    obtain ⟨q, hq, hx⟩ := h
    exact (hp q hq).nt x hx
  have ask_ : ∀ x, askN (flats ah) x → ¬ setN (flats [r]) x := fun x h => by
    rw [fl] at h
    obtain ⟨q, hq, hx⟩ := h
    exact (hp q hq).ak x hx
  obtain ⟨α, g1, g2⟩ := h2.agree (D := fun x => setN (flats [r]) x) σ (fun x hx => h1.frame (c := .one r) hx) ask_
  obtain ⟨β, g3, g4⟩ := h1.agree (D := fun x => setN (flats ah) x) α (fun x hx => (g1.frame (c := .all ah) hx).symm) (fun x hx z => (set_ x z).2 hx)
  have e : β = α1 := by
    funext x
    by_cases hx : setN (flats ah) x
    · rw [g3.frame (c := .one r) (set_ x hx).1, g2 x (set_ x hx).1]
    · rw [← g4 x hx, h2.frame (c := .all ah) hx]
  rw [e] at g3
  exact ⟨α, g1, g3⟩
/-- the rows of a body, done once: those that go ahead first -/
theorem parts_run : ∀ (be st : List Row) {σ σ' : Wh} {out : List Int} {n : Nat} {e : Bool}, Rn (.all be) σ σ' out n e →
    (∃ α n2, Rn (.all (parts st be).1) σ α [] (parts st be).1.length true ∧ Rn (.all (parts st be).2) α σ' out n2 e ∧ (parts st be).1.length + n2 = n) ∨ (e = false ∧ out = [] ∧ ∃ w n', Rn (.all (parts st be).1) σ w [] n' false ∧ n' ≤ n)
  | [], st, σ, σ', out, n, e, h => by
    cases h
    exact .inl ⟨σ, 0, .nil, .nil, rfl⟩
  | r :: be, st, σ, σ', out, n, e, h => by
    by_cases g : Goes st r be
    · rw [parts_go g]
      obtain ⟨to, sg, a, b, rfl, _⟩ := g
      cases h with
      | cons h1 h2 =>
        cases h1 with
        | letDo hn =>
          rcases parts_run be st h2 with ⟨α, m2, a1, a2, a3⟩ | ⟨a1, a2, w, n', a3, a4⟩
          · refine .inl ⟨α, m2, ?_, a2, ?_⟩
            · have := Rn.cons (.letDo hn) a1
              rw [Nat.add_comm] at this
              exact this
            · show (parts st be).1.length + 1 + m2 = _
              omega
          · exact .inr ⟨a1, a2, w, 1 + n', .cons (.letDo hn) a3, by omega⟩
      | consNo h1 =>
        cases h1 with
        | letNo h3 h4 => exact .inr ⟨rfl, rfl, _, 1, .consNo (.letNo h3 h4), Nat.le_refl _⟩
    · rw [parts_no g]
      have lets := parts_lets be (st ++ [r])
      cases h with
      | cons h1 h2 =>
        rcases parts_run be (st ++ [r]) h2 with ⟨α, m2, a1, a2, a3⟩ | ⟨a1, a2, w, n', a3, a4⟩
        · obtain ⟨β, b1, b2⟩ := swap lets (fun q hq => parts_past1 hq) h1 a1
          exact .inl ⟨β, _, b1, .cons b2 a2, by show (parts (st ++ [r]) be).1.length + _ = _; omega⟩
        · subst a1
          subst a2
          have fl := flats_lets lets
          have z := a3.fails rfl
          rw [show (Cmd.all (parts (st ++ [r]) be).1).rows = (parts (st ++ [r]) be).1 from rfl, fl, List.any_eq_true] at z
          obtain ⟨q, hq, hf⟩ := z
          have quiet := h1.quiet ((parts_past1 hq).sy hf)
          subst quiet
          obtain ⟨w', c1, _⟩ := a3.agree (D := fun x => setN (flats [r]) x) σ (fun x hx => h1.frame (c := .one r) hx) (fun x hx => by
            have hx' : askN (flats (parts (st ++ [r]) be).1) x := hx
            rw [fl] at hx'
            obtain ⟨q, hq, hx'⟩ := hx'
            exact (parts_past1 hq).ak x hx')
          exact .inr ⟨rfl, rfl, w', n', c1, by omega⟩
      | consNo h1 =>
        have em : (parts (st ++ [r]) be).1 = [] := List.eq_nil_iff_forall_not_mem.mpr fun q hq => by
          have z := h1.fails rfl
          rw [show (Cmd.one r).rows = [r] from rfl, (parts_past1 hq).fl] at z
          cases z
        rw [em]
        exact .inl ⟨σ, n, .nil, .consNo h1, Nat.zero_add _⟩
/-- what goes ahead would come to the same -/
def Settled (ah : List Row) (σ : Wh) : Prop := ∀ to sg a b, Row.lt to sg a b ∈ ah → ¬ (sg = "/" ∧ σ.get b.v = 0) ∧ σ to = some (comeTo sg (σ.get a.v) (σ.get b.v))
theorem Settled.keep {ah : List Row} {σ σ' : Wh} (h : Settled ah σ) (f : ∀ q ∈ ah, ∀ x, (x ∈ q.sets ∨ V.str x ∈ q.asks) → σ' x = σ x) : Settled ah σ' := fun to sg a b hm => by
  obtain ⟨h1, h2⟩ := h to sg a b hm
  have ea : σ'.get a.v = σ.get a.v := Wh.get_same fun x hx => f _ hm x (.inr (by show V.str x ∈ [a.v, b.v]; simp [hx]))
  have eb : σ'.get b.v = σ.get b.v := Wh.get_same fun x hx => f _ hm x (.inr (by show V.str x ∈ [a.v, b.v]; simp [hx]))
  rw [ea, eb, f _ hm to (.inl (List.mem_singleton.mpr rfl))]
  exact ⟨h1, h2⟩
theorem parts_settled : ∀ (be st : List Row) {σ α : Wh} {out : List Int} {n : Nat}, Rn (.all (parts st be).1) σ α out n true → Settled (parts st be).1 α
  | [], _, _, _, _, _, _ => fun _ _ _ _ h => by cases h
  | r :: be, st, σ, α, out, n, h => by
    by_cases g : Goes st r be
    · rw [parts_go g] at h ⊢
      obtain ⟨to, sg, a, b, rfl, g1, g2, g3, g4, g5, g6⟩ := g
      cases h with
      | cons h1 h2 =>
        cases h1 with
        | letDo hn =>
          have ih := parts_settled be st h2
          intro to' sg' a' b' hm
          rcases List.mem_cons.mp hm with e | hm
          · cases e
            have off : ∀ x, ¬ setN (flats be) x → α x = (σ.set to (comeTo sg (σ.get a.v) (σ.get b.v))) x := fun x hx => h2.frame (c := .all (parts st be).1) (fun z => hx (parts_set1 be st z))
            have rd : ∀ x, V.str x ∈ [a.v, b.v] → α x = σ x := fun x hx => by
              obtain ⟨n1, n2, n3⟩ := g6 x hx
              rw [off x n3]
              unfold Wh.set
              rw [if_neg n1]
            have ea : α.get a.v = σ.get a.v := Wh.get_same fun x hx => rd x (by simp [hx])
            have eb : α.get b.v = σ.get b.v := Wh.get_same fun x hx => rd x (by simp [hx])
            rw [ea, eb, off to g4]
            refine ⟨hn, ?_⟩
            unfold Wh.set
            rw [if_pos rfl]
          · exact ih to' sg' a' b' hm
    · rw [parts_no g] at h ⊢
      exact parts_settled be _ h
/-- a later round: what went ahead needn't be done -/
theorem parts_round : ∀ (be st : List Row) {σ σ' : Wh} {out : List Int} {n : Nat} {e : Bool}, Settled (parts st be).1 σ → Rn (.all be) σ σ' out n e → ∃ n', Rn (.all (parts st be).2) σ σ' out n' e ∧ n' ≤ n ∧ (e = true → n = n' + (parts st be).1.length)
  | [], st, σ, σ', out, n, e, _, h => by
    cases h
    exact ⟨0, .nil, Nat.le_refl _, fun _ => rfl⟩
  | r :: be, st, σ, σ', out, n, e, hs, h => by
    by_cases g : Goes st r be
    · rw [parts_go g] at hs ⊢
      obtain ⟨to, sg, a, b, rfl, _⟩ := g
      obtain ⟨s1, s2⟩ := hs to sg a b List.mem_cons_self
      have hs' : Settled (parts st be).1 σ := fun to sg a b hm => hs to sg a b (List.mem_cons_of_mem _ hm)
      cases h with
      | cons h1 h2 =>
        cases h1 with
        | letDo hn =>
          have same : σ.set to (comeTo sg (σ.get a.v) (σ.get b.v)) = σ := by
            funext x
            unfold Wh.set
            split
            · rename_i ex
              rw [ex, s2]
            · rfl
          rw [same] at h2
          obtain ⟨n', a1, a2, a3⟩ := parts_round be st hs' h2
          exact ⟨n', a1, by omega, fun z => by have := a3 z; show _ = n' + ((parts st be).1.length + 1); omega⟩
      | consNo h1 =>
        cases h1 with
        | letNo h3 h4 => exact absurd ⟨h3, h4⟩ s1
    · rw [parts_no g] at hs ⊢
      cases h with
      | cons h1 h2 =>
        have hs' : Settled (parts (st ++ [r]) be).1 _ := hs.keep fun q hq x hx => h1.frame (c := .one r) fun z => hx.elim (fun hx => ((parts_past1 hq).nt x hx).1 z) (fun hx => (parts_past1 hq).ak x hx z)
        obtain ⟨n', a1, a2, a3⟩ := parts_round be _ hs' h2
        exact ⟨_, .cons h1 a1, by omega, fun z => by have := a3 z; show _ = _ + (parts (st ++ [r]) be).1.length; omega⟩
      | consNo h1 => exact ⟨n, .consNo h1, Nat.le_refl _, fun z => by cases z⟩
theorem Settled.round {be : List Row} {σ σ' : Wh} {out : List Int} {n : Nat} {e : Bool} (h : Settled (parts [] be).1 σ) (r : Rn (.all (parts [] be).2) σ σ' out n e) : Settled (parts [] be).1 σ' :=
  h.keep fun q hq x hx => r.frame (c := .all (parts [] be).2) (parts_off be [] q hq hx)
theorem lp_moved {ts : V} {be : List Row} {c : Cmd} {σ σ' : Wh} {out : List Int} {n : Nat} {e : Bool} (h : Rn c σ σ' out n e) : c = .lp ts be → Settled (parts [] be).1 σ → ∃ n', Rn (.lp ts (parts [] be).2) σ σ' out n' e ∧ n' ≤ n := by
  induction h with
  | lpNo h1 =>
    intro hc hs
    cases hc
    exact ⟨1, .lpNo h1, Nat.le_refl _⟩
  | lpIn h1 h2 _ _ ih =>
    intro hc hs
    cases hc
    obtain ⟨m1, a1, a2, _⟩ := parts_round be [] hs h2
    obtain ⟨m2, b1, b2⟩ := ih rfl (hs.round a1)
    exact ⟨_, .lpIn h1 a1 b1, by omega⟩
  | lpStop h1 h2 _ =>
    intro hc hs
    cases hc
    obtain ⟨m1, a1, a2, _⟩ := parts_round be [] hs h2
    exact ⟨_, .lpStop h1 a1, by omega⟩
  | _ => intro hc; cases hc
theorem Rn.app {xs ys : List Row} {ρ ρ1 ρ2 : Wh} {o1 o2 : List Int} {n1 n2 : Nat} {e : Bool} : Rn (.all xs) ρ ρ1 o1 n1 true → Rn (.all ys) ρ1 ρ2 o2 n2 e → Rn (.all (xs ++ ys)) ρ ρ2 (o1 ++ o2) (n1 + n2) e := by
  induction xs generalizing ρ o1 n1 with
  | nil =>
    intro h g
    cases h
    rw [Nat.zero_add]
    exact g
  | cons x xs ih =>
    intro h g
    cases h with
    | cons h1 h2 =>
      have := Rn.cons h1 (ih h2 g)
      rw [← Nat.add_assoc, ← List.append_assoc] at this
      exact this
theorem Rn.appNo {xs ys : List Row} {ρ ρ1 : Wh} {o : List Int} {n : Nat} : Rn (.all xs) ρ ρ1 o n false → Rn (.all (xs ++ ys)) ρ ρ1 o n false := by
  induction xs generalizing ρ o n with
  | nil =>
    intro h
    cases h
  | cons x xs ih =>
    intro h
    cases h with
    | cons h1 h2 => exact .cons h1 (ih h2)
    | consNo h1 => exact .consNo h1
theorem Rn.single {r : Row} {ρ ρ1 : Wh} {o : List Int} {n : Nat} {e : Bool} (h : Rn (.one r) ρ ρ1 o n e) : Rn (.all [r]) ρ ρ1 o n e := by
  cases e with
  | false => exact .consNo h
  | true =>
    have := Rn.cons h .nil
    rw [List.append_nil] at this
    exact this
/-- the rows that go ahead stand ahead of an again -/
theorem again_moved {ts : V} {be : List Row} {σ σ' : Wh} {out : List Int} {n : Nat} {e : Bool} (h : Rn (.one (.bk "again" ts be)) σ σ' out n e) :
    ∃ σ'' n', Rn (.all ((parts [] be).1 ++ [.bk "again" ts (parts [] be).2])) σ σ'' out n' e ∧ n' ≤ n ∧ (e = true → σ'' = σ') := by
  cases h with
  | whenNo hk => exact absurd hk.symm wa
  | whenIn hk => exact absurd hk.symm wa
  | loop hk => exact absurd hk.symm la
  | again _ h1 h2 =>
    rcases parts_run be [] h1 with ⟨α, m2, a1, a2, a3⟩ | ⟨a1, _⟩
    · obtain ⟨m3, b1, b2⟩ := lp_moved h2 rfl ((parts_settled be [] a1).round a2)
      exact ⟨σ', _, a1.app (Rn.single (.again rfl a2 b1)), by omega, fun _ => rfl⟩
    · cases a1
  | againNo _ h1 =>
    rcases parts_run be [] h1 with ⟨α, m2, a1, a2, a3⟩ | ⟨_, a2, w, n', a3, a4⟩
    · exact ⟨σ', _, a1.app (Rn.single (.againNo rfl a2)), by omega, fun _ => rfl⟩
    · subst a2
      exact ⟨w, n', a3.appNo, a4, fun z => by cases z⟩
/-- the second tells the same as the first, in no more steps -/
structure Sim (c d : Cmd) : Prop where
  run : ∀ {σ σ' : Wh} {out : List Int} {n : Nat} {e : Bool}, Rn c σ σ' out n e → ∃ σ'' n', Rn d σ σ'' out n' e ∧ n' ≤ n ∧ (e = true → σ'' = σ')
theorem Sim.one (r : Row) : Sim (.one r) (.all [r]) := ⟨fun h => ⟨_, _, Rn.single h, Nat.le_refl _, fun _ => rfl⟩⟩
theorem Sim.trans {a b c : Cmd} (h : Sim a b) (g : Sim b c) : Sim a c := ⟨fun r => by
  obtain ⟨σ1, n1, a1, a2, a3⟩ := h.run r
  obtain ⟨σ2, n2, b1, b2, b3⟩ := g.run a1
  exact ⟨σ2, n2, b1, by omega, fun z => (b3 z).trans (a3 z)⟩⟩
theorem Sim.cons {r : Row} {rs qs ps : List Row} (h : Sim (.one r) (.all qs)) (g : Sim (.all rs) (.all ps)) : Sim (.all (r :: rs)) (.all (qs ++ ps)) := by
  refine ⟨fun x => ?_⟩
  cases x with
  | cons h1 h2 =>
    obtain ⟨σ1, n1, a1, a2, a3⟩ := h.run h1
    obtain ⟨σ2, n2, b1, b2, b3⟩ := g.run h2
    rw [a3 rfl] at a1
    exact ⟨σ2, _, a1.app b1, by omega, b3⟩
  | consNo h1 =>
    obtain ⟨σ1, n1, a1, a2, a3⟩ := h.run h1
    exact ⟨σ1, _, a1.appNo, a2, a3⟩
theorem Sim.lp {ts : V} {b b' : List Row} (g : Sim (.all b) (.all b')) {c : Cmd} {σ σ' : Wh} {out : List Int} {n : Nat} {e : Bool} (h : Rn c σ σ' out n e) : c = .lp ts b → ∃ σ'' n', Rn (.lp ts b') σ σ'' out n' e ∧ n' ≤ n ∧ (e = true → σ'' = σ') := by
  induction h with
  | lpNo h1 =>
    intro hc
    cases hc
    exact ⟨_, 1, .lpNo h1, Nat.le_refl _, fun _ => rfl⟩
  | lpIn h1 h2 _ _ ih =>
    intro hc
    cases hc
    obtain ⟨σ1, m1, a1, a2, a3⟩ := g.run h2
    obtain ⟨σ2, m2, b1, b2, b3⟩ := ih rfl
    rw [a3 rfl] at a1
    exact ⟨σ2, _, .lpIn h1 a1 b1, by omega, b3⟩
  | lpStop h1 h2 _ =>
    intro hc
    cases hc
    obtain ⟨σ1, m1, a1, a2, a3⟩ := g.run h2
    exact ⟨σ1, _, .lpStop h1 a1, by omega, fun z => by cases z⟩
  | _ => intro hc; cases hc
theorem Sim.block {kd : Str} {ts : V} {b b' : List Row} (g : Sim (.all b) (.all b')) : Sim (.one (.bk kd ts b)) (.one (.bk kd ts b')) := by
  refine ⟨fun h => ?_⟩
  cases h with
  | whenNo hk h1 => exact ⟨_, _, .whenNo hk h1, Nat.le_refl _, fun _ => rfl⟩
  | whenIn hk h1 h2 =>
    obtain ⟨σ1, m1, a1, a2, a3⟩ := g.run h2
    exact ⟨σ1, _, .whenIn hk h1 a1, by omega, a3⟩
  | loop hk h1 =>
    obtain ⟨σ1, m1, a1, a2, a3⟩ := g.lp h1 rfl
    exact ⟨σ1, _, .loop hk a1, a2, a3⟩
  | again hk h1 h2 =>
    obtain ⟨σ1, m1, a1, a2, a3⟩ := g.run h1
    obtain ⟨σ2, m2, b1, b2, b3⟩ := g.lp h2 rfl
    rw [a3 rfl] at a1
    exact ⟨σ2, _, .again hk a1 b1, by omega, b3⟩
  | againNo hk h1 =>
    obtain ⟨σ1, m1, a1, a2, a3⟩ := g.run h1
    exact ⟨σ1, _, .againNo hk a1, a2, a3⟩
theorem mvB_sim {kd : Str} {ts : V} {b : List Row} (hk : kd ∈ kinds) : Sim (.one (.bk kd ts b)) (.all (mvB kd ts b)) := by
  simp only [kinds, List.mem_cons, List.not_mem_nil, or_false] at hk
  by_cases cw : kd = "when"
  · subst cw
    rw [show mvB "when" ts b = [.bk "when" ts b] from if_pos rfl]
    exact Sim.one _
  by_cases cl : kd = "loop"
  · subst cl
    by_cases c0 : (parts [] b).1 = []
    · rw [show mvB "loop" ts b = [.bk "loop" ts (parts [] b).2] from (if_neg cw).trans ((if_pos rfl).trans (if_pos c0)), parts_stay b [] c0]
      exact Sim.one _
    · rw [show mvB "loop" ts b = [.bk "when" ts ((parts [] b).1 ++ [.bk "again" ts (parts [] b).2])] from (if_neg cw).trans ((if_pos rfl).trans (if_neg c0))]
      refine ⟨fun h => ?_⟩
      cases h with
      | whenNo hk => exact absurd hk cw
      | whenIn hk => exact absurd hk cw
      | again hk => exact absurd hk la
      | againNo hk => exact absurd hk la
      | loop _ h1 =>
        cases h1 with
        | lpNo h1 => exact ⟨_, _, Rn.single (.whenNo rfl h1), Nat.le_refl _, fun _ => rfl⟩
        | lpIn h1 h2 h3 =>
          obtain ⟨σ1, m1, a1, a2, a3⟩ := again_moved (.again rfl h2 h3)
          exact ⟨σ1, _, Rn.single (.whenIn rfl h1 a1), by omega, a3⟩
        | lpStop h1 h2 =>
          obtain ⟨σ1, m1, a1, a2, a3⟩ := again_moved (.againNo rfl h2)
          exact ⟨σ1, _, Rn.single (.whenIn rfl h1 a1), by omega, a3⟩
  · have ca : kd = "again" := hk.elim (fun z => absurd z cw) fun h => h.elim (fun z => absurd z cl) id
    subst ca
    rw [show mvB "again" ts b = (parts [] b).1 ++ [.bk "again" ts (parts [] b).2] from (if_neg cw).trans (if_neg cl)]
    exact ⟨fun h => again_moved h⟩
mutual
theorem Row.mv_sim {ss : List Str} : ∀ r : Row, r.ok ss → Sim (.one r) (.all r.mv)
  | .lt _ _ _ _, _ => Sim.one _
  | .sy _, _ => Sim.one _
  | .bk kd ts rs, ⟨h1, _, _, h4⟩ => (mvs_sim rs h4).block.trans (mvB_sim h1)
theorem mvs_sim {ss : List Str} : ∀ rs : List Row, oks ss rs → Sim (.all rs) (.all (mvs rs))
  | [], _ => ⟨fun h => ⟨_, _, h, Nat.le_refl _, fun _ => rfl⟩⟩
  | r :: rs, ⟨h1, h2⟩ => (Row.mv_sim r h1).cons (mvs_sim rs h2)
end
/-! ### with a number of steps -/
theorem Does.rn {m : Nat} {c : Cmd} {t t' : Tale} {e : Ed} (h : Does m c t t' e) : e ≠ .long → ∃ out n, Rn c t.ρ t'.ρ out n (decide (e = .done)) ∧ t'.said = t.said ++ out ∧ t'.steps = t.steps + n := by
  induction h with
  | letLong _ => exact fun z => absurd rfl z
  | letNought _ h2 h3 => exact fun _ => ⟨[], 1, .letNo h2 h3, (List.append_nil _).symm, rfl⟩
  | letDone _ h2 => exact fun _ => ⟨[], 1, .letDo h2, (List.append_nil _).symm, rfl⟩
  | sayLong _ => exact fun z => absurd rfl z
  | sayDone _ => exact fun _ => ⟨_, 1, .say, rfl, rfl⟩
  | whenLong _ _ => exact fun z => absurd rfl z
  | whenNo hk _ h2 => exact fun _ => ⟨[], 1, .whenNo hk h2, (List.append_nil _).symm, rfl⟩
  | whenIn hk _ h2 _ ih =>
    intro z
    obtain ⟨o, n, a1, a2, a3⟩ := ih z
    exact ⟨o, n + 1, .whenIn hk h2 a1, a2, by rw [a3]; show _ + 1 + n = _; omega⟩
  | loop hk _ ih =>
    intro z
    obtain ⟨o, n, a1, a2, a3⟩ := ih z
    exact ⟨o, n, .loop hk a1, a2, a3⟩
  | again hk _ _ ih1 ih2 =>
    intro z
    obtain ⟨o1, n1, a1, a2, a3⟩ := ih1 (by decide)
    obtain ⟨o2, n2, b1, b2, b3⟩ := ih2 z
    exact ⟨o1 ++ o2, n1 + n2, .again hk a1 b1, by rw [b2, a2, List.append_assoc], by rw [b3, a3]; omega⟩
  | @againStop kd ts rs t t1 e hk _ hn ih =>
    intro z
    obtain ⟨o, n, a1, a2, a3⟩ := ih z
    rw [decide_eq_false hn] at a1 ⊢
    exact ⟨o, n, .againNo hk a1, a2, a3⟩
  | lpLong _ => exact fun z => absurd rfl z
  | lpNo _ h2 => exact fun _ => ⟨[], 1, .lpNo h2, (List.append_nil _).symm, rfl⟩
  | lpRound _ h2 _ _ ih1 ih2 =>
    intro z
    obtain ⟨o1, n1, a1, a2, a3⟩ := ih1 (by decide)
    obtain ⟨o2, n2, b1, b2, b3⟩ := ih2 z
    exact ⟨o1 ++ o2, n1 + n2 + 1, .lpIn h2 a1 b1, by rw [b2, a2, List.append_assoc]; rfl, by rw [b3, a3]; show _ + 1 + n1 + n2 = _; omega⟩
  | lpStop _ h2 _ hn ih =>
    intro z
    obtain ⟨o, n, a1, a2, a3⟩ := ih z
    rw [decide_eq_false hn] at a1 ⊢
    exact ⟨o, n + 1, .lpStop h2 a1, a2, by rw [a3]; show _ + 1 + n = _; omega⟩
  | nil => exact fun _ => ⟨[], 0, .nil, (List.append_nil _).symm, rfl⟩
  | cons _ _ ih1 ih2 =>
    intro z
    obtain ⟨o1, n1, a1, a2, a3⟩ := ih1 (by decide)
    obtain ⟨o2, n2, b1, b2, b3⟩ := ih2 z
    exact ⟨o1 ++ o2, n1 + n2, .cons a1 b1, by rw [b2, a2, List.append_assoc], by rw [b3, a3]; omega⟩
  | consStop _ hn ih =>
    intro z
    obtain ⟨o, n, a1, a2, a3⟩ := ih z
    rw [decide_eq_false hn] at a1 ⊢
    exact ⟨o, n, .consNo a1, a2, a3⟩
def edOf (e : Bool) : Ed := if e = true then .done else .nought
theorem edOf_no : edOf false ≠ .done := by decide
theorem Rn.does {c : Cmd} {ρ ρ' : Wh} {o : List Int} {n : Nat} {e : Bool} (h : Rn c ρ ρ' o n e) : ∀ (m k : Nat) (s : List Int), k + n ≤ m → Does m c ⟨ρ, s, k⟩ ⟨ρ', s ++ o, k + n⟩ (edOf e) := by
  induction h with
  | letNo h1 h2 =>
    intro m k s hm
    rw [List.append_nil]
    exact .letNought (t := ⟨_, s, k⟩) (by show k < m; omega) h1 h2
  | letDo h1 =>
    intro m k s hm
    rw [List.append_nil]
    exact .letDone (t := ⟨_, s, k⟩) (by show k < m; omega) h1
  | say =>
    intro m k s hm
    exact .sayDone (t := ⟨_, s, k⟩) (by show k < m; omega)
  | whenNo hk h1 =>
    intro m k s hm
    rw [List.append_nil]
    exact .whenNo (t := ⟨_, s, k⟩) hk (by show k < m; omega) h1
  | @whenIn kd ts rs ρ ρ1 o n e hk h1 _ ih =>
    intro m k s hm
    have := ih m (k + 1) s (by omega)
    rw [show k + 1 + n = k + (n + 1) by omega] at this
    exact .whenIn (t := ⟨_, s, k⟩) hk (by show k < m; omega) h1 this
  | loop hk _ ih =>
    intro m k s hm
    exact .loop hk (ih m k s hm)
  | @again kd ts rs ρ ρ1 ρ2 o1 o2 n1 n2 e hk _ _ ih1 ih2 =>
    intro m k s hm
    have a := ih1 m k s (by omega)
    have b := ih2 m (k + n1) (s ++ o1) (by omega)
    rw [List.append_assoc, Nat.add_assoc] at b
    exact .again hk a b
  | againNo hk _ ih =>
    intro m k s hm
    exact .againStop hk (ih m k s hm) edOf_no
  | lpNo h1 =>
    intro m k s hm
    rw [List.append_nil]
    exact .lpNo (t := ⟨_, s, k⟩) (by show k < m; omega) h1
  | @lpIn ts rs ρ ρ1 ρ2 o1 o2 n1 n2 e h1 _ _ ih1 ih2 =>
    intro m k s hm
    have a := ih1 m (k + 1) s (by omega)
    have b := ih2 m (k + 1 + n1) (s ++ o1) (by omega)
    rw [List.append_assoc, show k + 1 + n1 + n2 = k + (n1 + n2 + 1) by omega] at b
    exact .lpRound (t := ⟨_, s, k⟩) (by show k < m; omega) h1 a b
  | @lpStop ts rs ρ ρ1 o n h1 _ ih =>
    intro m k s hm
    have a := ih m (k + 1) s (by omega)
    rw [show k + 1 + n = k + (n + 1) by omega] at a
    exact .lpStop (t := ⟨_, s, k⟩) (by show k < m; omega) h1 a edOf_no
  | nil =>
    intro m k s hm
    rw [List.append_nil]
    exact .nil
  | @cons r rs ρ ρ1 ρ2 o1 o2 n1 n2 e _ _ ih1 ih2 =>
    intro m k s hm
    have a := ih1 m k s (by omega)
    have b := ih2 m (k + n1) (s ++ o1) (by omega)
    rw [List.append_assoc, Nat.add_assoc] at b
    exact .cons a b
  | consNo _ ih =>
    intro m k s hm
    exact .consStop (ih m k s hm) edOf_no
theorem edOf_dec {e : Ed} (h : e ≠ .long) : edOf (decide (e = .done)) = e := by
  cases e with
  | done => rfl
  | long => exact absurd rfl h
  | nought => rfl
/-- the moved program tells the same in no more steps -/
theorem same_tale {ss : List Str} {rs : List Row} (ok : oks ss rs) {m : Nat} {t0 t : Tale} {e : Ed} (h : Does m (.all rs) t0 t e) (he : e ≠ .long) : ∃ t', Does t.steps (.all (mvs rs)) t0 t' e ∧ t'.said = t.said ∧ t'.steps ≤ t.steps ∧ (e = .done → t'.ρ = t.ρ) := by
  obtain ⟨out, n, a1, a2, a3⟩ := h.rn he
  obtain ⟨σ, n', b1, b2, b3⟩ := (mvs_sim rs ok).run a1
  have c := b1.does t.steps t0.steps t0.said (by omega)
  rw [edOf_dec he] at c
  exact ⟨_, c, a2.symm, by show t0.steps + n' ≤ _; omega, fun z => b3 (decide_eq_true z)⟩
end Lm
/-! The sixteen names differ. -/
namespace Lm
open PySem L2
/-- how the words are made -/
inductive Sh where
  | a (c place size : Nat)
  | b (c t : Nat)
  | d (c u v : Nat)
def Sh.ok : Sh → Prop
  | .a c place size => c < 26 ∧ place < size ∧ size < 7
  | .b c t => c < 26 ∧ t < 3
  | .d c u v => c < 26 ∧ u < 26 ∧ v < 6
def Sh.word : Sh → Nat → List Nat
  | .a c place size, k => w1 c k place size
  | .b c t, k => w2 c k t
  | .d c u v, k => w0 ((c + 5 * k) % 26) ((u + k) % 26) ((v + k) % 6)
theorem tail_at (c : Nat) : ∀ p : Nat, p < 6 → (tailN c)[p]? = some (ltr (c + 5 * p + 1))
  | 0, _ => rfl
  | 1, _ => rfl
  | 2, _ => rfl
  | 3, _ => rfl
  | 4, _ => rfl
  | 5, _ => rfl
  | p + 6, h => absurd h (by omega)
theorem w1_place {c k place size : Nat} (h : place < size) (h2 : size < 7) : (w1 c k place size)[place]? = some (ltr (c + 5 * k)) := by
  have hl : ((tailN c).take place).length = place := by
    rw [List.length_take]
    show min place 6 = place
    omega
  unfold w1
  rw [List.getElem?_append_right (by omega), hl, Nat.sub_self]
  rfl
theorem w1_else {c k place size p : Nat} (h : place < size) (h2 : size < 7) (hp : p < size) (hn : p ≠ place) : (w1 c k place size)[p]? = some (ltr (c + 5 * p + 1)) := by
  have hl : ((tailN c).take place).length = place := by
    rw [List.length_take]
    show min place 6 = place
    omega
  unfold w1
  by_cases c1 : p < place
  · rw [List.getElem?_append_left (by omega), List.getElem?_take, if_pos c1]
    exact tail_at c p (by omega)
  · rw [List.getElem?_append_right (by omega), hl]
    obtain ⟨q, rfl⟩ : ∃ q, p = place + 1 + q := ⟨p - place - 1, by omega⟩
    rw [show place + 1 + q - place = q + 1 by omega, List.getElem?_cons_succ, List.getElem?_take, if_pos (by omega), List.getElem?_drop]
    exact tail_at c _ (by omega)
theorem ltr_eq {i j : Nat} (h : some (ltr i) = some (ltr j)) : i % 26 = j % 26 := by
  have e : ltr i = ltr j := Option.some.inj h
  unfold ltr at e
  omega
theorem word_inj {s : Sh} (hs : s.ok) {i j : Nat} (hi : i < 16) (hj : j < 16) (h : s.word i = s.word j) : i = j := by
  cases s with
  | a c place size =>
    obtain ⟨h1, h2, h3⟩ := hs
    have e : (w1 c i place size)[place]? = (w1 c j place size)[place]? := congrArg (fun l => l[place]?) h
    rw [w1_place h2 h3, w1_place h2 h3] at e
    have := ltr_eq e
    omega
  | b c t =>
    obtain ⟨h1, h2⟩ := hs
    have e : (w2 c i t)[0]? = (w2 c j t)[0]? := congrArg (fun l => l[0]?) h
    have e1 := ltr_eq (show some (ltr (c + 7 * (i / 4))) = some (ltr (c + 7 * (j / 4))) from e)
    have e2 : (w2 c i t).length = (w2 c j t).length := congrArg List.length h
    unfold w2 at e2
    rw [List.length_cons, List.length_cons, List.length_take, List.length_take] at e2
    have e3 : min (i % 4 + t) 6 + 1 = min (j % 4 + t) 6 + 1 := e2
    omega
  | d c u v =>
    obtain ⟨h1, h2, h3⟩ := hs
    have e : (w0 ((c + 5 * i) % 26) ((u + i) % 26) ((v + i) % 6))[0]? = (w0 ((c + 5 * j) % 26) ((u + j) % 26) ((v + j) % 6))[0]? := congrArg (fun l => l[0]?) h
    have e1 := ltr_eq (show some (ltr ((c + 5 * i) % 26)) = some (ltr ((c + 5 * j) % 26)) from e)
    omega
/-- a text whose letters at p and q are not n apart -/
def apartL (l : List Nat) (p q n : Nat) : Bool := match l[p]?, l[q]? with
  | some x, some y => decide ((x + n) % 26 ≠ y % 26)
  | _, _ => false
theorem apart_no {l : List Nat} {p q n x : Nat} (h : apartL l p q n = true) (hp : l[p]? = some (ltr x)) (hq : l[q]? = some (ltr (x + n))) : False := by
  unfold apartL at h
  rw [hp, hq] at h
  have h' : (ltr x + n) % 26 ≠ ltr (x + n) % 26 := of_decide_eq_true h
  apply h'
  unfold ltr
  omega
/-- it is no such word -/
def oddL (l : List Nat) : Bool := apartL l 1 2 5 && apartL l 1 2 3 && decide (3 ≤ l.length)
/-- one letter changed: two others are wrong -/
def oddA (l : List Nat) : Bool := (List.range l.length).all fun place => (place != 1 && place != 2 && apartL l 1 2 5) || (place != 0 && place != 2 && apartL l 0 2 10) || (place != 0 && place != 1 && apartL l 0 1 5) || (place != 2 && place != 3 && apartL l 2 3 5)
theorem word_odd {s : Sh} (hs : s.ok) {i : Nat} {l : List Nat} (h1 : oddL l = true) (h2 : oddA l = true) : s.word i ≠ l := by
  intro h
  unfold oddL at h1
  obtain ⟨h12, h3⟩ := Bool.and_eq_true_iff.mp h1
  obtain ⟨h5, h4⟩ := Bool.and_eq_true_iff.mp h12
  have hl : 3 ≤ l.length := of_decide_eq_true h3
  cases s with
  | a c place size =>
    obtain ⟨g1, g2, g3⟩ := hs
    have hw : w1 c i place size = l := h
    have len : l.length = size := by
      rw [← hw]
      unfold w1
      rw [List.length_append, List.length_cons, List.length_take, List.length_take, List.length_drop]
      show min place 6 + (min (size - (place + 1)) (6 - (place + 1)) + 1) = size
      omega
    have at_ : ∀ p, p < size → p ≠ place → l[p]? = some (ltr (c + 5 * p + 1)) := fun p hp hn => by
      rw [← hw]
      exact w1_else g2 g3 hp hn
    have z := List.all_eq_true.mp h2 place (List.mem_range.mpr (by omega))
    simp only [Bool.or_eq_true, Bool.and_eq_true, bne_iff_ne] at z
    rcases z with ((⟨⟨n1, n2⟩, ha⟩ | ⟨⟨n1, n2⟩, ha⟩) | ⟨⟨n1, n2⟩, ha⟩) | ⟨⟨n1, n2⟩, ha⟩
    · exact apart_no ha (at_ 1 (by omega) (Ne.symm n1)) (by rw [at_ 2 (by omega) (Ne.symm n2)])
    · exact apart_no ha (at_ 0 (by omega) (Ne.symm n1)) (by rw [at_ 2 (by omega) (Ne.symm n2)])
    · exact apart_no ha (at_ 0 (by omega) (Ne.symm n1)) (by rw [at_ 1 (by omega) (Ne.symm n2)])
    · have h3l : 3 < size := by
        unfold apartL at ha
        cases e : l[3]? with
        | none =>
          rw [e] at ha
          cases q : l[2]? <;> rw [q] at ha <;> cases ha
        | some y =>
          have := (List.getElem?_eq_some_iff.mp e).1
          omega
      exact apart_no ha (at_ 2 (by omega) (Ne.symm n1)) (by rw [at_ 3 h3l (Ne.symm n2)])
  | b c t =>
    have hw : w2 c i t = l := h
    have len : l.length = min (i % 4 + t) 6 + 1 := by
      rw [← hw]
      unfold w2
      rw [List.length_cons, List.length_take]
      rfl
    have at_ : ∀ p, p + 1 < l.length → l[p + 1]? = some (ltr (c + 5 * p + 1)) := fun p hp => by
      rw [← hw]
      unfold w2
      rw [List.getElem?_cons_succ, List.getElem?_take, if_pos (by omega)]
      exact tail_at c p (by omega)
    exact apart_no h5 (at_ 0 (by omega)) (by rw [at_ 1 (by omega)])
  | d c u v =>
    have hw : w0 ((c + 5 * i) % 26) ((u + i) % 26) ((v + i) % 6) = l := h
    have at1 : l[1]? = some (ltr ((u + i) % 26)) := by
      rw [← hw]
      rw [← hw] at hl
      unfold w0 at hl ⊢
      rw [List.length_cons, List.length_take] at hl
      rw [List.getElem?_cons_succ, List.getElem?_take, if_pos (by omega)]
      rfl
    have at2 : l[2]? = some (ltr ((u + i) % 26 + 3)) := by
      rw [← hw]
      rw [← hw] at hl
      unfold w0 at hl ⊢
      rw [List.length_cons, List.length_take] at hl
      rw [List.getElem?_cons_succ, List.getElem?_take, if_pos (by omega)]
      rfl
    exact apart_no h4 at1 at2
theorem tens_odd : tens.all (fun t => oddL t.cps.toList && oddA t.cps.toList) = true := by decide +kernel
/-- the names: words of one shape, one of them perhaps a word of the ten -/
structure Nms (sh : Sh) (j8 : Nat) (ss : List Str) : Prop where
  ok : sh.ok
  lt : j8 < 8
  at_ : ∀ (j : Nat) (s : Str), ss[j]? = some s → s.cps.toList = sh.word j ∨ (j = j8 ∧ s ∈ tens)
theorem Nms.nodup {sh : Sh} {j8 : Nat} {ss : List Str} (h : Nms sh j8 ss) (hl : ss.length = 16) : ss.Nodup := by
  refine List.pairwise_iff_getElem.mpr fun i j hi hj hij e => ?_
  obtain ⟨s, hs, es⟩ : ∃ s, ss[i]? = some s ∧ s = ss[i] := ⟨_, List.getElem?_eq_getElem hi, rfl⟩
  have hs2 : ss[j]? = some s := by rw [List.getElem?_eq_getElem hj, es, e]
  have no : ∀ k, s.cps.toList = sh.word k → s ∈ tens → False := fun k e1 e2 => by
    have z := List.all_eq_true.mp tens_odd s e2
    obtain ⟨z1, z2⟩ := Bool.and_eq_true_iff.mp z
    exact word_odd h.ok z1 z2 e1.symm
  rcases h.at_ i s hs with a | ⟨a1, a2⟩
  · rcases h.at_ j s hs2 with b | ⟨b1, b2⟩
    · have := word_inj h.ok (by omega) (by omega) (a.symm.trans b)
      omega
    · exact no i a b2
  · rcases h.at_ j s hs2 with b | ⟨b1, b2⟩
    · exact no j b a2
    · omega
def shOf (c : Int) : Sh := if c % 3 = 1 then .a (c / 72 % 26).toNat (c / 18 % (1 + c / 3 % 6)).toNat (1 + c / 3 % 6).toNat else if c % 3 = 2 then .b (c / 72 % 26).toNat (c / 18 % 3).toNat else .d (c / 72 % 26).toNat (c / 7 % 26).toNat (c / 26 % 6).toNat
theorem shOf_ok (c : Int) : (shOf c).ok := by
  unfold shOf
  split
  · have h1 := Int.emod_nonneg (c / 18) (b := 1 + c / 3 % 6) (by omega)
    have h2 := Int.emod_lt_of_pos (c / 18) (b := 1 + c / 3 % 6) (by omega)
    exact ⟨by omega, by omega, by omega⟩
  · split
    · exact ⟨by omega, by omega⟩
    · exact ⟨by omega, by omega, by omega⟩
theorem word1L {c : Nat} {k place size : Nat} (hs : size < 7) (hp : place < size) : (cutS (tailS c) none (some (place : Int)) ++ one (ltr (c + 5 * k)) ++ cutS (tailS c) (some ((place : Int) + 1)) (some (size : Int))).cps.toList = w1 c k place size := by
  have e : ((place : Int) + 1) = ((place + 1 : Nat) : Int) := by omega
  rw [app_toList, app_toList, cut_head _ _ (by rw [tailS_len]; omega), e, cut_mid _ _ _ (by rw [tailS_len]; omega) (by rw [tailS_len]; omega), one_toList, tailS_list, List.append_assoc]
  rfl
theorem word2L {c : Nat} {k t : Nat} (ht : t < 3) : (one (ltr (c + 7 * (k / 4))) ++ cutS (tailS c) none (some ((k % 4 + t : Nat) : Int))).cps.toList = w2 c k t := by
  rw [app_toList, cut_head _ _ (by rw [tailS_len]; omega), one_toList, tailS_list]
  rfl
end Lm
/-! One loop, counted down: how many steps are saved. -/
namespace Lm
open PySem L2
/-- a let or a say -/
def Row.flat1 : Row → Prop
  | .bk _ _ _ => False
  | _ => True
theorem simple_total : ∀ (rs : List Row), (∀ r ∈ rs, r.flat1) → ∀ ρ : Wh, ∃ ρ' o n e, Rn (.all rs) ρ ρ' o n e ∧ n ≤ rs.length
  | [], _, ρ => ⟨ρ, [], 0, true, .nil, Nat.le_refl _⟩
  | r :: rs, h, ρ => by
    have one : ∃ ρ' o e, Rn (.one r) ρ ρ' o 1 e := by
      have hr := h r List.mem_cons_self
      match r, hr with
      | .lt to sg a b, _ =>
        by_cases c : sg = "/" ∧ ρ.get b.v = 0
        · exact ⟨_, _, _, .letNo c.1 c.2⟩
        · exact ⟨_, _, _, .letDo c⟩
      | .sy a, _ => exact ⟨_, _, _, .say⟩
      | .bk _ _ _, z => exact z.elim
    obtain ⟨ρ1, o1, e1, h1⟩ := one
    cases e1 with
    | false => exact ⟨ρ1, o1, 1, false, .consNo h1, by rw [List.length_cons]; omega⟩
    | true =>
      obtain ⟨ρ2, o2, n2, e2, h2, h3⟩ := simple_total rs (fun q hq => h q (List.mem_cons_of_mem _ hq)) ρ1
      exact ⟨ρ2, _, 1 + n2, e2, .cons h1 h2, by rw [List.length_cons]; omega⟩
theorem Rn.split {xs ys : List Row} : ∀ {ρ ρ2 : Wh} {o : List Int} {n : Nat}, Rn (.all (xs ++ ys)) ρ ρ2 o n true → ∃ ρ1 o1 n1 o2 n2, Rn (.all xs) ρ ρ1 o1 n1 true ∧ Rn (.all ys) ρ1 ρ2 o2 n2 true := by
  induction xs with
  | nil =>
    intro ρ ρ2 o n h
    exact ⟨ρ, [], 0, o, n, .nil, h⟩
  | cons x xs ih =>
    intro ρ ρ2 o n h
    cases h with
    | cons h1 h2 =>
      obtain ⟨ρ1, o1, n1, o2, n2, a1, a2⟩ := ih h2
      exact ⟨ρ1, _, _, o2, n2, .cons h1 a1, a2⟩
/-- a body that counts x down -/
structure Down (x : Str) (be : List Row) : Prop where
  ex : ∃ pre : List Row, be = pre ++ [.lt x "-" (.nm x) (.nu 1)] ∧ (∀ r ∈ pre, r.flat1) ∧ ¬ setN (flats pre) x
theorem Down.simple {x : Str} {be : List Row} (h : Down x be) : ∀ r ∈ be, r.flat1 := by
  obtain ⟨pre, rfl, h1, _⟩ := h.ex
  intro r hr
  rcases List.mem_append.mp hr with e | e
  · exact h1 r e
  · rw [List.mem_singleton.mp e]
    exact True.intro
theorem Down.dec {x : Str} {be : List Row} (h : Down x be) {ρ ρ' : Wh} {o : List Int} {n : Nat} (r : Rn (.all be) ρ ρ' o n true) : ρ'.get (.str x) = (ρ.get (.str x) - 1) % 1000000 := by
  obtain ⟨pre, rfl, h1, h2⟩ := h.ex
  obtain ⟨ρ1, o1, n1, o2, n2, a1, a2⟩ := r.split
  have e1 : ρ1.get (.str x) = ρ.get (.str x) := Wh.get_same fun y hy => by
    cases hy
    exact a1.frame (c := .all pre) h2
  cases a2 with
  | cons b1 b2 =>
    cases b2
    cases b1 with
    | letDo _ =>
      rw [← e1]
      show ((ρ1.set x _) x).getD 0 = _
      unfold Wh.set
      rw [if_pos rfl]
      show comeTo "-" (ρ1.get (.str x)) 1 = _
      unfold comeTo
      rw [if_neg (by decide), if_pos rfl]
/-- what is left of a loop that counts down, with what it saves -/
theorem lp_total {x : Str} {be : List Row} (h : Down x be) : ∀ (k : Nat), k ≤ 10 → ∀ σ : Wh, σ.get (.str x) = (k : Int) → Settled (parts [] be).1 σ → ∃ σ' o n n' e, Rn (.lp (.str x) be) σ σ' o n e ∧ n ≤ k * (be.length + 1) + 1 ∧ Rn (.lp (.str x) (parts [] be).2) σ σ' o n' e ∧ n' ≤ n ∧ (e = true → n = n' + (parts [] be).1.length * k)
  | 0, _, σ, hk, _ => ⟨σ, [], 1, 1, true, .lpNo hk, by omega, .lpNo hk, Nat.le_refl _, fun _ => by omega⟩
  | k + 1, hk10, σ, hk, hs => by
    have ne : σ.get (.str x) ≠ 0 := by rw [hk]; omega
    obtain ⟨σ1, o1, n1, e1, a1, a2⟩ := simple_total be h.simple σ
    obtain ⟨m1, b1, b2, b3⟩ := parts_round be [] hs a1
    have mul : (k + 1) * (be.length + 1) = k * (be.length + 1) + (be.length + 1) := Nat.succ_mul _ _
    cases e1 with
    | false => exact ⟨σ1, o1, n1 + 1, m1 + 1, false, .lpStop ne a1, by omega, .lpStop ne b1, by omega, fun z => by cases z⟩
    | true =>
      have d := h.dec a1
      rw [hk] at d
      have hk1 : σ1.get (.str x) = (k : Int) := by omega
      obtain ⟨σ2, o2, n2, m2, e2, c1, c2, c3, c4, c5⟩ := lp_total h k (by omega) σ1 hk1 (hs.round b1)
      have b3' := b3 rfl
      refine ⟨σ2, _, _, _, e2, .lpIn ne a1 c1, by omega, .lpIn ne b1 c3, by omega, fun z => ?_⟩
      have := c5 z
      have mul2 : (parts [] be).1.length * (k + 1) = (parts [] be).1.length * k + (parts [] be).1.length := Nat.mul_succ _ _
      omega
def begin_ (x : Str) (k : Int) : Row := .lt x "+" (.nu k) (.nu 0)
def oneP (x : Str) (k : Int) (be : List Row) : List Row := [begin_ x k, .bk "when" (.str x) [.bk "again" (.str x) be]]
noncomputable def othP (x : Str) (k : Int) (be : List Row) : List Row := [begin_ x k, .bk "when" (.str x) ((parts [] be).1 ++ [.bk "again" (.str x) (parts [] be).2])]
theorem begin_does (x : Str) {k : Int} (h0 : 0 ≤ k) (h1 : k < 1000000) (ρ : Wh) : Rn (.one (begin_ x k)) ρ (ρ.set x k) [] 1 true := by
  have e : comeTo "+" (ρ.get (Vl.nu k).v) (ρ.get (Vl.nu 0).v) = k := by
    show comeTo "+" k 0 = k
    unfold comeTo
    rw [if_pos rfl]
    omega
  have r := Rn.letDo (to := x) (sg := "+") (a := .nu k) (b := .nu 0) (ρ := ρ) (fun z => absurd z.1 (by decide))
  rw [e] at r
  exact r
/-- both programs to their end -/
theorem loop_saves {x : Str} {be : List Row} (h : Down x be) (hl : be.length ≤ 100) {k : Int} (h0 : 0 ≤ k) (h6 : k ≤ 6) (ρ : Wh) :
    ∃ ρ1 ρ2 o n n2 e, Rn (.all (oneP x k be)) ρ ρ1 o n e ∧ n ≤ 5000 ∧ Rn (.all (othP x k be)) ρ ρ2 o n2 e ∧ n2 ≤ n ∧ (e = true → ρ2 = ρ1 ∧ n = n2 + (parts [] be).1.length * (k - 1).toNat) := by
  have b := begin_does x h0 (by omega) ρ
  have gx : (ρ.set x k).get (.str x) = k := by
    show ((ρ.set x k) x).getD 0 = k
    unfold Wh.set
    rw [if_pos rfl]
    rfl
  by_cases c : k = 0
  · have g0 : (ρ.set x k).get (.str x) = 0 := gx.trans c
    exact ⟨_, _, _, _, _, true, .cons b (Rn.single (.whenNo rfl g0)), by decide, .cons b (Rn.single (.whenNo rfl g0)), Nat.le_refl _, fun _ => ⟨rfl, by rw [c]; rfl⟩⟩
  have ne : (ρ.set x k).get (.str x) ≠ 0 := fun z => c (gx.symm.trans z)
  obtain ⟨j, ej⟩ : ∃ j : Nat, k = (j : Int) + 1 := ⟨(k - 1).toNat, by omega⟩
  obtain ⟨σ1, o1, n1, e1, a1, a2⟩ := simple_total be h.simple (ρ.set x k)
  have hjn : (k - 1).toNat = j := by omega
  rw [hjn]
  have jb : j ≤ 5 := by omega
  have mul5 : j * (be.length + 1) ≤ 5 * 101 := Nat.mul_le_mul jb (by omega)
  cases e1 with
  | false =>
    rcases parts_run be [] a1 with ⟨α, m2, b1, b2, b3⟩ | ⟨_, b2, w, n', b3, b4⟩
    · exact ⟨_, _, _, _, _, false, .cons b (Rn.single (.whenIn rfl ne (Rn.single (.againNo rfl a1)))), by omega, .cons b (Rn.single (.whenIn rfl ne (b1.app (Rn.single (.againNo rfl b2))))), by omega, fun z => by cases z⟩
    · subst b2
      exact ⟨_, _, _, _, _, false, .cons b (Rn.single (.whenIn rfl ne (Rn.single (.againNo rfl a1)))), by omega, .cons b (Rn.single (.whenIn rfl ne b3.appNo)), by omega, fun z => by cases z⟩
  | true =>
    rcases parts_run be [] a1 with ⟨α, m2, b1, b2, b3⟩ | ⟨z, _⟩
    · have d := h.dec a1
      rw [gx] at d
      have hk1 : σ1.get (.str x) = (j : Int) := by omega
      have st := (parts_settled be [] b1).round b2
      obtain ⟨σ2, o2, n2, n2', e2, c1, c2, c3, c4, c5⟩ := lp_total h j (by omega) σ1 hk1 st
      refine ⟨_, _, _, _, _, e2, .cons b (Rn.single (.whenIn rfl ne (Rn.single (.again rfl a1 c1)))), by omega, .cons b (Rn.single (.whenIn rfl ne (b1.app (Rn.single (.again rfl b2 c3))))), by omega, fun z => ⟨rfl, ?_⟩⟩
      have := c5 z
      omega
    · cases z
/-- x stands for no name of two z behind one letter -/
def zzL : List Nat → Bool
  | [_, b, c] => Nat.beq b 122 && Nat.beq c 122
  | _ => false
theorem zz1 : below 26 (fun c => below 7 fun size => below size fun place => !zzL (w1 c 15 place size)) = true := by decide +kernel
theorem zz2 : below 26 (fun c => below 3 fun t => !zzL (w2 c 15 t)) = true := by decide +kernel
theorem zz0 : below 26 (fun a => below 26 fun u => below 6 fun m => !zzL (w0 a u m)) = true := by decide +kernel
theorem word_zz {s : Sh} (hs : s.ok) : zzL (s.word 15) = false := by
  have no : ∀ b : Bool, (!b) = true → b = false := by decide
  cases s with
  | a c place size => exact no _ (below_at (below_at (below_at zz1 hs.1) hs.2.2) hs.2.1)
  | b c t => exact no _ (below_at (below_at zz2 hs.1) hs.2)
  | d c u v => exact no _ (below_at (below_at (below_at zz0 (Nat.mod_lt _ (by decide))) (Nat.mod_lt _ (by decide))) (Nat.mod_lt _ (by decide)))
def zz25 : List Str := (List.range 25).map fun k => (⟨#[97 + k]⟩ : Str) ++ "zz"
theorem zz25_in {i : Nat} (h : i < 25) : (⟨#[97 + i]⟩ : Str) ++ "zz" ∈ zz25 := List.mem_map.mpr ⟨i, List.mem_range.mpr h, rfl⟩
theorem zz25_zz : zz25.all (fun s => zzL s.cps.toList) = true := by decide +kernel
theorem nodup_at {α : Type} : ∀ {l : List α}, l.Nodup → ∀ {i j : Nat} {x : α}, l[i]? = some x → l[j]? = some x → i = j
  | [], _, _, _, _, h, _ => by cases h
  | y :: l, nd, 0, 0, _, _, _ => rfl
  | y :: l, nd, 0, j + 1, x, h1, h2 => by
    cases h1
    exact absurd (List.mem_of_getElem? (by simpa using h2)) (List.nodup_cons.mp nd).1
  | y :: l, nd, i + 1, 0, x, h1, h2 => by
    cases h2
    exact absurd (List.mem_of_getElem? (by simpa using h1)) (List.nodup_cons.mp nd).1
  | y :: l, nd, i + 1, j + 1, x, h1, h2 => by rw [nodup_at (List.nodup_cons.mp nd).2 (i := i) (j := j) (x := x) (by simpa using h1) (by simpa using h2)]
theorem Nms.last {sh : Sh} {j8 : Nat} {ss : List Str} (h : Nms sh j8 ss) (hl : ss.length = 16) {x : Str} (hx : ss[15]? = some x) : x ∉ zz25 ∧ ∀ j s, j < 8 → ss[j]? = some s → s ≠ x := by
  constructor
  · intro hz
    have z := List.all_eq_true.mp zz25_zz x hz
    rcases h.at_ 15 x hx with e | ⟨e, _⟩
    · rw [e, word_zz h.ok] at z
      cases z
    · have := h.lt
      omega
  · intro j s hj hs e
    have nd := h.nodup hl
    obtain ⟨l1, e1⟩ := List.getElem?_eq_some_iff.mp hs
    obtain ⟨l2, e2⟩ := List.getElem?_eq_some_iff.mp hx
    have := (nodup_at nd hs (by rw [hx, e]))
    omega
end Lm
/-! Rows as lines: what is written, what a line writes. -/
namespace Lm
open PySem L2
def Vl.tx : Vl → Str
  | .nm s => s
  | .nu i => Str.ofString (toString i)
/-- the words of a row's own line -/
def Row.words : Row → List Str
  | .lt to sg a b => [to, "=", a.tx, sg, b.tx]
  | .sy a => ["say", a.tx]
  | .bk kd ts _ => [kd, match ts with | .str x => x | _ => ""]
def Row.line (r : Row) : Str := Txt.join " " r.words
mutual
def Row.lines : Row → List Str
  | .lt to sg a b => [(Row.lt to sg a b).line]
  | .sy a => [(Row.sy a).line]
  | .bk kd ts rs => (Row.bk kd ts rs).line :: (liness rs ++ [("end" : Str)])
def liness : List Row → List Str
  | [] => []
  | r :: rs => r.lines ++ liness rs
end
theorem liness_app : ∀ (rs qs : List Row), liness (rs ++ qs) = liness rs ++ liness qs
  | [], _ => rfl
  | r :: rs, qs => by
    show r.lines ++ liness (rs ++ qs) = (r.lines ++ liness rs) ++ liness qs
    rw [liness_app, List.append_assoc]
theorem liness_one (r : Row) : liness [r] = r.lines := List.append_nil _
theorem liness_take {rs : List Row} {i : Nat} {r : Row} (h : rs[i]? = some r) : liness (rs.take (i + 1)) = liness (rs.take i) ++ r.lines := by rw [take_one h, liness_app, liness_one]
mutual
theorem Row.lines_len : ∀ r : Row, r.lines.length ≤ 2 * r.tot
  | .lt _ _ _ _ => (by show 1 ≤ 2; decide)
  | .sy _ => (by show 1 ≤ 2; decide)
  | .bk kd ts rs => by
    have := liness_len rs
    show (_ :: (liness rs ++ [("end" : Str)])).length ≤ 2 * (tots rs + 1)
    rw [List.length_cons, List.length_append]
    show (liness rs).length + 1 + 1 ≤ _
    omega
theorem liness_len : ∀ rs : List Row, (liness rs).length ≤ 2 * tots rs
  | [] => Nat.le_refl _
  | r :: rs => by
    have h1 := Row.lines_len r
    have h2 := liness_len rs
    show (r.lines ++ liness rs).length ≤ 2 * (r.tot + tots rs)
    rw [List.length_append]
    omega
end
/-! ### texts by their signs -/
theorem sp_len : Str.length (" " : Str) = 1 := by decide +kernel
theorem sp_list : (" " : Str).cps.toList = [32] := by decide +kernel
theorem join2 (a b : Str) : (Txt.join " " [a, b]).cps.toList = a.cps.toList ++ 32 :: b.cps.toList := by
  rw [TL.join_eq]
  show (a ++ " " ++ b).cps.toList = _
  rw [app_toList, app_toList, sp_list, List.append_assoc]
  rfl
theorem join5 (a b c d e : Str) : (Txt.join " " [a, b, c, d, e]).cps.toList = a.cps.toList ++ 32 :: (b.cps.toList ++ 32 :: (c.cps.toList ++ 32 :: (d.cps.toList ++ 32 :: e.cps.toList))) := by
  rw [TL.join_eq]
  show (a ++ " " ++ (b ++ " " ++ (c ++ " " ++ (d ++ " " ++ e)))).cps.toList = _
  simp only [app_toList, sp_list, List.append_assoc]
  rfl
/-- a text without a blank, short -/
structure Wd (s : Str) : Prop where
  no : 32 ∉ s.cps.toList
  len : s.length ≤ 8
theorem good_wd {s : Str} (h : Good s) : Wd s := by
  refine ⟨fun hm => ?_, by have := (good_len h).2; omega⟩
  have all : ∀ {l : List Nat}, lettersB l = true → ∀ c ∈ l, 97 ≤ c := fun {l} => by
    induction l with
    | nil => intro _ c hc; cases hc
    | cons d l ih =>
      intro hb c hc
      have hb' : (Nat.ble 97 d && (Nat.ble d 122 && lettersB l)) = true := hb
      rw [Bool.and_eq_true, Bool.and_eq_true] at hb'
      rcases List.mem_cons.mp hc with e | e
      · rw [e]; exact Nat.le_of_ble_eq_true hb'.1
      · exact ih hb'.2.2 c e
  have := all (good_letters h) 32 hm
  omega
theorem nat_of {i : Int} (h0 : 0 ≤ i) : ∃ n : Nat, i = (n : Int) := ⟨i.toNat, by omega⟩
theorem num_list {n : Nat} : (Vl.nu (n : Int)).tx.cps.toList = TL.numL n := TL.tl_num n
theorem num_len {n : Nat} (h : n < 1000000) : (Vl.nu (n : Int)).tx.length ≤ 6 := by
  rw [len_toList, num_list]
  exact TL.numL_len (by decide) h
theorem Vl.wd {ss : List Str} (hg : ∀ s ∈ ss, Good s) : ∀ {x : Vl}, x.ok ss → Wd x.tx
  | .nm s, h => good_wd (hg s h)
  | .nu i, h => by
    obtain ⟨n, rfl⟩ := nat_of h.1
    refine ⟨by rw [num_list]; exact TL.numL_free (.inl (by decide)), ?_⟩
    have := num_len (n := n) (by have := h.2; omega)
    omega
theorem sign_wd : ∀ sg ∈ signs, Wd sg := by
  have h : signs.all (fun s => !(s.cps.toList.contains 32) && decide (s.length ≤ 8)) = true := by decide +kernel
  intro sg hs
  have := List.all_eq_true.mp h sg hs
  rw [Bool.and_eq_true] at this
  refine ⟨fun hm => ?_, of_decide_eq_true this.2⟩
  have e : sg.cps.toList.contains 32 = true := List.contains_iff_mem.mpr hm
  rw [e] at this
  exact Bool.noConfusion this.1
theorem kind_wd : ∀ kd ∈ kinds, Wd kd := by
  have h : kinds.all (fun s => !(s.cps.toList.contains 32) && decide (s.length ≤ 8)) = true := by decide +kernel
  intro sg hs
  have := List.all_eq_true.mp h sg hs
  rw [Bool.and_eq_true] at this
  refine ⟨fun hm => ?_, of_decide_eq_true this.2⟩
  have e : sg.cps.toList.contains 32 = true := List.contains_iff_mem.mpr hm
  rw [e] at this
  exact Bool.noConfusion this.1
theorem eq_wd : Wd "=" := ⟨by decide +kernel, by decide +kernel⟩
theorem say_wd : Wd "say" := ⟨by decide +kernel, by decide +kernel⟩
theorem Row.words_wd {ss : List Str} (hg : ∀ s ∈ ss, Good s) : ∀ {r : Row}, r.ok ss → ∀ w ∈ r.words, Wd w
  | .lt to sg a b, ⟨h1, h2, h3, h4⟩, w, hw => by
    simp only [Row.words, List.mem_cons, List.not_mem_nil, or_false] at hw
    rcases hw with e | e | e | e | e <;> rw [e]
    · exact good_wd (hg _ h1)
    · exact eq_wd
    · exact Vl.wd hg h3
    · exact sign_wd _ h2
    · exact Vl.wd hg h4
  | .sy a, h, w, hw => by
    simp only [Row.words, List.mem_cons, List.not_mem_nil, or_false] at hw
    rcases hw with e | e <;> rw [e]
    · exact say_wd
    · exact Vl.wd hg h
  | .bk kd ts rs, ⟨h1, ⟨x, h2, h3⟩, _, _⟩, w, hw => by
    subst h2
    simp only [Row.words, List.mem_cons, List.not_mem_nil, or_false] at hw
    rcases hw with e | e <;> rw [e]
    · exact kind_wd _ h1
    · exact good_wd (hg _ h3)
theorem line_split {ss : List Str} (hg : ∀ s ∈ ss, Good s) {r : Row} (h : r.ok ss) : Txt.split r.line " " = r.words := by
  refine TL.split_join (s := 32) (S := []) sp_list (by decide +kernel) ?_ fun p hp => (Row.words_wd hg h p hp).no
  cases r <;> exact fun z => by cases z
theorem line_len {ss : List Str} (hg : ∀ s ∈ ss, Good s) : ∀ {r : Row}, r.ok ss → r.line.length ≤ 60
  | .lt to sg a b, h => by
    have w := Row.words_wd hg h
    rw [len_toList]
    show (Txt.join " " [to, "=", a.tx, sg, b.tx]).cps.toList.length ≤ 60
    rw [join5]
    simp only [List.length_append, List.length_cons]
    have h1 := (w to (by simp [Row.words])).len
    have h2 := (w "=" (by simp [Row.words])).len
    have h3 := (w a.tx (by simp [Row.words])).len
    have h4 := (w sg (by simp [Row.words])).len
    have h5 := (w b.tx (by simp [Row.words])).len
    rw [len_toList] at h1 h2 h3 h4 h5
    omega
  | .sy a, h => by
    have w := Row.words_wd hg h
    rw [len_toList]
    show (Txt.join " " ["say", a.tx]).cps.toList.length ≤ 60
    rw [join2]
    simp only [List.length_append, List.length_cons]
    have h1 := (w "say" (by simp [Row.words])).len
    have h2 := (w a.tx (by simp [Row.words])).len
    rw [len_toList] at h1 h2
    omega
  | .bk kd ts rs, h => by
    have w := Row.words_wd hg h
    obtain ⟨_, ⟨x, h2, _⟩, _⟩ := h
    subst h2
    rw [len_toList]
    show (Txt.join " " [kd, x]).cps.toList.length ≤ 60
    rw [join2]
    simp only [List.length_append, List.length_cons]
    have h1 := (w kd (by simp [Row.words])).len
    have h2 := (w x (by simp [Row.words])).len
    rw [len_toList] at h1 h2
    omega
/-! ### what a word is -/
def digitB (c : Nat) : Bool := decide (48 ≤ c) && decide (c ≤ 57)
def NumLB (l : List Nat) : Bool := decide (1 ≤ l.length) && decide (l.length ≤ 6) && !(decide (l.head? = some 48) && decide (1 < l.length)) && l.all digitB
def isNum (s : Str) : Bool := NumLB s.cps.toList
theorem num_head : ∀ n : Nat, 0 < n → ∃ c r, TL.numL n = c :: r ∧ c ≠ 48 := by
  intro n
  induction n using Nat.strongRecOn with
  | _ n ih =>
    intro h0
    by_cases h : n < 10
    · exact ⟨48 + n, [], TL.numL_lt h, by omega⟩
    · obtain ⟨c, r, e, hc⟩ := ih (n / 10) (by omega) (by omega)
      exact ⟨c, r ++ [48 + n % 10], by rw [TL.numL_step (by omega), e]; rfl, hc⟩
theorem num_isNum {n : Nat} (h : n < 1000000) : isNum (Vl.nu (n : Int)).tx = true := by
  have hl := num_len h
  rw [len_toList] at hl
  unfold isNum NumLB
  rw [num_list] at hl ⊢
  have h1 : 1 ≤ (TL.numL n).length := by
    have := TL.numL_ne n
    cases e : TL.numL n with
    | nil => exact absurd e this
    | cons c r => rw [List.length_cons]; omega
  have h3 : (decide ((TL.numL n).head? = some 48) && decide (1 < (TL.numL n).length)) = false := by
    by_cases h0 : n = 0
    · subst h0
      rw [TL.numL_lt (by decide)]
      rfl
    · obtain ⟨c, r, e, hc⟩ := num_head n (by omega)
      rw [e]
      have : decide ((c :: r).head? = some 48) = false := decide_eq_false fun z => hc (Option.some.inj z)
      rw [this, Bool.false_and]
  have h4 : (TL.numL n).all digitB = true := List.all_eq_true.mpr fun c hc => by
    have := TL.numL_digits n c hc
    unfold digitB
    rw [decide_eq_true this.1, decide_eq_true this.2]
    rfl
  rw [decide_eq_true h1, decide_eq_true hl, h3, h4]
  rfl
theorem good_notNum {s : Str} (h : Good s) : isNum s = false := by
  have h1 := (good_len h).1
  have h2 := good_letters h
  rw [len_toList] at h1
  unfold isNum NumLB
  cases e : s.cps.toList with
  | nil => rw [e] at h1; exact absurd h1 (by decide)
  | cons c r =>
    rw [e] at h2
    have h2' : (Nat.ble 97 c && (Nat.ble c 122 && lettersB r)) = true := h2
    rw [Bool.and_eq_true] at h2'
    have h97 := Nat.le_of_ble_eq_true h2'.1
    have : digitB c = false := by
      unfold digitB
      rw [decide_eq_false (by omega : ¬ c ≤ 57), Bool.and_false]
    rw [List.all_cons, this, Bool.false_and, Bool.and_false]
theorem num_notName {n : Nat} : isNm (.str (Vl.nu (n : Int)).tx) = false := by
  show GoodL (Vl.nu (n : Int)).tx.cps.toList = false
  rw [num_list]
  cases e : TL.numL n with
  | nil => exact absurd e (TL.numL_ne n)
  | cons c r =>
    have hc := TL.numL_digits n c (by rw [e]; exact List.mem_cons_self)
    have : lettersB (c :: r) = false := by
      show (Nat.ble 97 c && _) = false
      rw [show Nat.ble 97 c = false from by rw [ble_dec]; exact decide_eq_false (by omega), Bool.false_and]
    unfold GoodL
    rw [this, Bool.and_false, Bool.false_and]
/-- the number that a word writes -/
theorem num_int {n : Nat} (h : n < 1000000) : PySem.intText? (Vl.nu (n : Int)).tx = some (n : Int) := TL.int_num (by have := TL.numL_len (n := n) (k := 6) (by decide) h; omega)
end Lm
/-! What a line writes; lines read one by one. -/
namespace Lm
open PySem L2
def worthy (s : Str) : Bool := isNm (.str s) || isNum s
def worth (s : Str) : Vl := if isNum s = true then .nu ((NumText.digitsVal s.cps.toList : Nat) : Int) else .nm s
def parseW : List Str → Option Row
  | [to, mark, one, sg, oth] => if (isNm (.str to) && decide (mark = "=") && inV (.str sg) (signs.map V.str) && worthy one && worthy oth) = true then some (.lt to sg (worth one) (worth oth)) else none
  | [w, p] => if (decide (w = "say") && worthy p) = true then some (.sy (worth p)) else if (inV (.str w) (kinds.map V.str) && isNm (.str p)) = true then some (.bk w (.str p) []) else none
  | _ => none
def Row.head : Row → Row
  | .bk kd ts _ => .bk kd ts []
  | r => r
theorem num_all {s : Str} (h : isNum s = true) : NumText.AllDigits s.cps.toList ∧ s.cps.toList ≠ [] ∧ s.length ≤ 6 := by
  unfold isNum NumLB at h
  simp only [Bool.and_eq_true, decide_eq_true_eq] at h
  obtain ⟨⟨⟨h1, h2⟩, _⟩, h4⟩ := h
  refine ⟨fun c hc => ?_, fun e => by rw [e] at h1; exact absurd h1 (by decide), by rw [len_toList]; exact h2⟩
  have := List.all_eq_true.mp h4 c hc
  unfold digitB at this
  rw [Bool.and_eq_true, decide_eq_true_eq, decide_eq_true_eq] at this
  exact this
theorem num_text {s : Str} (h : isNum s = true) : PySem.intText? s = some ((NumText.digitsVal s.cps.toList : Nat) : Int) := by
  obtain ⟨h1, h2, h3⟩ := num_all h
  exact PySem.intText_digits h1 h2 (by omega)
theorem worth_nm {s : Str} (h : Good s) : worth s = .nm s := by
  unfold worth
  rw [good_notNum h]
  exact if_neg (by decide)
theorem worth_nu {n : Nat} (h : n < 1000000) : worth (Vl.nu (n : Int)).tx = .nu (n : Int) := by
  unfold worth
  rw [num_isNum h, if_pos rfl, num_list, TL.numL_val]
theorem worth_tx {ss : List Str} (hg : ∀ s ∈ ss, Good s) : ∀ {x : Vl}, x.ok ss → worthy x.tx = true ∧ worth x.tx = x
  | .nm s, h => ⟨by show (isNm (.str s) || isNum s) = true; rw [show isNm (.str s) = true from hg s h, Bool.true_or], worth_nm (hg s h)⟩
  | .nu i, h => by
    obtain ⟨n, rfl⟩ := nat_of h.1
    have hn : n < 1000000 := by have := h.2; omega
    exact ⟨by unfold worthy; rw [num_isNum hn, Bool.or_true], worth_nu hn⟩
theorem sign_in' {sg : Str} (h : sg ∈ signs) : inV (.str sg) (signs.map V.str) = true := by
  simp only [signs, List.mem_cons, List.not_mem_nil, or_false] at h
  rcases h with e | e | e | e | e <;> (rw [e]; decide +kernel)
theorem kd_notSay {kd : Str} (h : kd ∈ kinds) : decide (kd = "say") = false := by
  simp only [kinds, List.mem_cons, List.not_mem_nil, or_false] at h
  rcases h with e | e | e <;> (rw [e]; decide +kernel)
theorem parse_words {ss : List Str} (hg : ∀ s ∈ ss, Good s) : ∀ {r : Row}, r.ok ss → parseW r.words = some r.head
  | .lt to sg a b, ⟨h1, h2, h3, h4⟩ => by
    obtain ⟨a1, a2⟩ := worth_tx hg h3
    obtain ⟨b1, b2⟩ := worth_tx hg h4
    show (if (isNm (.str to) && decide (("=" : Str) = "=") && inV (.str sg) (signs.map V.str) && worthy a.tx && worthy b.tx) = true then some (Row.lt to sg (worth a.tx) (worth b.tx)) else none) = some (.lt to sg a b)
    rw [show isNm (.str to) = true from hg to h1, decide_eq_true rfl, sign_in' h2, a1, b1, a2, b2]
    exact if_pos rfl
  | .sy a, h => by
    obtain ⟨a1, a2⟩ := worth_tx hg h
    show (if (decide (("say" : Str) = "say") && worthy a.tx) = true then some (Row.sy (worth a.tx)) else _) = some (.sy a)
    rw [decide_eq_true rfl, a1, a2]
    exact if_pos rfl
  | .bk kd ts rs, ⟨h1, ⟨x, h2, h3⟩, _, _⟩ => by
    subst h2
    show (if (decide (kd = "say") && worthy x) = true then some (Row.sy (worth x)) else if (inV (.str kd) (kinds.map V.str) && isNm (.str x)) = true then some (Row.bk kd (.str x) []) else none) = some (.bk kd (.str x) [])
    rw [kd_notSay h1, Bool.false_and, kd_in h1, show isNm (.str x) = true from hg x h3]
    exact (if_neg (by decide)).trans (if_pos rfl)
/-- what is open: the rows ahead of the block, its word, its test -/
abbrev Open := List Row × Str × Str
/-- one line more -/
def rstep (st : List Row × List Open) (line : Str) : Option (List Row × List Open) :=
  if line = "end" then match st.2 with
    | [] => none
    | (q, kd, te) :: ar => some (q ++ [.bk kd (.str te) st.1], ar)
  else match parseW (Txt.split line " ") with
    | none => none
    | some (.bk kd (.str te) _) => if 20 ≤ st.2.length then none else some ([], (st.1, kd, te) :: st.2)
    | some r => some (st.1 ++ [r], st.2)
def rsteps : List Str → List Row × List Open → Option (List Row × List Open)
  | [], st => some st
  | x :: xs, st => (rstep st x).bind (rsteps xs)
theorem rsteps_app : ∀ (xs ys : List Str) (st : List Row × List Open), rsteps (xs ++ ys) st = (rsteps xs st).bind (rsteps ys)
  | [], ys, st => rfl
  | x :: xs, ys, st => by
    show (rstep st x).bind (rsteps (xs ++ ys)) = ((rstep st x).bind (rsteps xs)).bind (rsteps ys)
    cases rstep st x with
    | none => rfl
    | some st' => exact rsteps_app xs ys st'
theorem rsteps_one (x : Str) (st : List Row × List Open) : rsteps [x] st = rstep st x := by
  show (rstep st x).bind _ = _
  cases rstep st x <;> rfl
theorem line_notEnd {ss : List Str} (hg : ∀ s ∈ ss, Good s) {r : Row} (h : r.ok ss) : r.line ≠ "end" := by
  intro e
  have hs := line_split hg h
  rw [e] at hs
  have : (Txt.split "end" " ").length = 1 := by decide +kernel
  rw [hs] at this
  cases r <;> cases this
theorem rstep_row {ss : List Str} (hg : ∀ s ∈ ss, Good s) {r : Row} (h : r.ok ss) (hf : ∀ kd ts rs, r ≠ .bk kd ts rs) (cur : List Row) (ar : List Open) : rstep (cur, ar) r.line = some (cur ++ [r], ar) := by
  unfold rstep
  rw [if_neg (line_notEnd hg h), line_split hg h, parse_words hg h]
  cases r with
  | lt to sg a b => rfl
  | sy a => rfl
  | bk kd ts rs => exact absurd rfl (hf kd ts rs)
theorem rstep_block {ss : List Str} (hg : ∀ s ∈ ss, Good s) {kd te : Str} {rs : List Row} (h : (Row.bk kd (.str te) rs).ok ss) (cur : List Row) {ar : List Open} (hl : ar.length < 20) : rstep (cur, ar) (Row.bk kd (.str te) rs).line = some ([], (cur, kd, te) :: ar) := by
  unfold rstep
  rw [if_neg (line_notEnd hg h), line_split hg h, parse_words hg h]
  exact if_neg (by show ¬ 20 ≤ ar.length; omega)
theorem rstep_end (cur q : List Row) (kd te : Str) (ar : List Open) : rstep (cur, (q, kd, te) :: ar) "end" = some (q ++ [.bk kd (.str te) cur], ar) := by
  unfold rstep
  rw [if_pos rfl]
mutual
theorem rsteps_row {ss : List Str} (hg : ∀ s ∈ ss, Good s) : ∀ (r : Row) (cur : List Row) (ar : List Open), r.ok ss → ar.length + r.dep ≤ 20 → rsteps r.lines (cur, ar) = some (cur ++ [r], ar)
  | .lt to sg a b, cur, ar, h, _ => by
    show rsteps [_] _ = _
    rw [rsteps_one, rstep_row hg h (fun _ _ _ z => by cases z)]
  | .sy a, cur, ar, h, _ => by
    show rsteps [_] _ = _
    rw [rsteps_one, rstep_row hg h (fun _ _ _ z => by cases z)]
  | .bk kd ts rs, cur, ar, h, hd => by
    obtain ⟨x, e, _⟩ := h.2.1
    subst e
    have hd' : ar.length + (deps rs + 1) ≤ 20 := hd
    show (rstep (cur, ar) _).bind (rsteps (liness rs ++ [("end" : Str)])) = _
    rw [rstep_block hg h cur (by omega)]
    show rsteps (liness rs ++ [("end" : Str)]) ([], (cur, kd, x) :: ar) = _
    rw [rsteps_app, rsteps_rows hg rs [] ((cur, kd, x) :: ar) h.2.2.2 (by rw [List.length_cons]; omega)]
    show rsteps [("end" : Str)] ([] ++ rs, (cur, kd, x) :: ar) = _
    rw [rsteps_one, rstep_end, List.nil_append]
theorem rsteps_rows {ss : List Str} (hg : ∀ s ∈ ss, Good s) : ∀ (rs cur : List Row) (ar : List Open), oks ss rs → ar.length + deps rs ≤ 20 → rsteps (liness rs) (cur, ar) = some (cur ++ rs, ar)
  | [], cur, ar, _, _ => by
    rw [List.append_nil]
    rfl
  | r :: rs, cur, ar, h, hd => by
    have hd' : ar.length + max r.dep (deps rs) ≤ 20 := hd
    show rsteps (r.lines ++ liness rs) (cur, ar) = _
    rw [rsteps_app, rsteps_row hg r cur ar h.1 (by omega)]
    show rsteps (liness rs) (cur ++ [r], ar) = _
    rw [rsteps_rows hg rs (cur ++ [r]) ar h.2 (by omega), List.append_assoc]
    rfl
end
/-- behind some of the lines -/
theorem rsteps_take {ls : List Str} {i : Nat} {x : Str} (h : ls[i]? = some x) (st : List Row × List Open) : rsteps (ls.take (i + 1)) st = (rsteps (ls.take i) st).bind fun s => rstep s x := by
  rw [take_one h, rsteps_app]
  congr 1
  funext s
  exact rsteps_one x s
theorem rsteps_pre {ls : List Str} {st fin : List Row × List Open} (h : rsteps ls st = some fin) (i : Nat) : ∃ s, rsteps (ls.take i) st = some s := by
  rw [← List.take_append_drop i ls, rsteps_app] at h
  cases e : rsteps (ls.take i) st with
  | none => rw [e] at h; cases h
  | some s => exact ⟨s, rfl⟩
/-! ### tables that grow -/
/-- what stood stands, but that both tables may have grown -/
structure Tq (T1 T2 : Addr) (H H' : Hp) : Prop where
  a : GxR.TabG H' T1
  b : GxR.TabG H' T2
  kp : Kp H H'
def Tz (T1 T2 : Addr) (H : Hp) : Prop := GxR.TabG H T1 ∧ GxR.TabG H T2
theorem Tq.refl {T1 T2 : Addr} {H : Hp} (h : Tz T1 T2 H) : Tq T1 T2 H H := ⟨h.1, h.2, Kp.refl H⟩
theorem Tq.tz {T1 T2 : Addr} {H H' : Hp} (h : Tq T1 T2 H H') : Tz T1 T2 H' := ⟨h.a, h.b⟩
theorem Tq.trans {T1 T2 : Addr} {H H1 H2 : Hp} (a : Tq T1 T2 H H1) (b : Tq T1 T2 H1 H2) : Tq T1 T2 H H2 := ⟨b.a, b.b, a.kp.trans b.kp⟩
theorem Tq.same {T1 T2 : Addr} {H H' : Hp} (h : Tz T1 T2 H) (s : Same H H') : Tq T1 T2 H H' := ⟨tab_same h.1 s, tab_same h.2 s, Same.kp s⟩
theorem tab_other {P T : Addr} {H H' : Hp} (hT : GxR.TabG H T) (h : GxR.Tabbed P H H') : GxR.TabG H' T := by
  by_cases e : T = P
  · rw [e]
    exact h.1
  · obtain ⟨ps, q, r⟩ := hT
    exact ⟨ps, by rw [h.2 T e]; exact q, r⟩
theorem Tq.of1 {T1 T2 : Addr} {H H' : Hp} (z : Tz T1 T2 H) (h : GxR.Tabbed T1 H H') : Tq T1 T2 H H' := ⟨h.1, tab_other z.2 h, tabbed_kp z.1 h⟩
theorem Tq.of2 {T1 T2 : Addr} {H H' : Hp} (z : Tz T1 T2 H) (h : GxR.Tabbed T2 H H') : Tq T1 T2 H H' := ⟨tab_other z.1 h, h.1, tabbed_kp z.2 h⟩
theorem Tz.put {T1 T2 b : Addr} {H : Hp} {o o' : HO} (z : Tz T1 T2 H) (hb : H b = some o) (n : ∀ ps, o ≠ .tbl ps) : Tz T1 T2 (upd H b o') := ⟨tab_upd z.1 (tab_ne z.1 hb n), tab_upd z.2 (tab_ne z.2 hb n)⟩
/-- a row that a line wrote, new -/
def MadeAt (H H' : Hp) : Row → V → Prop
  | .lt to sg a b, v => ∃ p, v = .ref p ∧ H p = none ∧ H' p = some (.tup [.str "let", .str to, .str sg, a.v, b.v])
  | .sy a, v => ∃ p, v = .ref p ∧ H p = none ∧ H' p = some (.tup [.str "say", a.v])
  | .bk kd ts _, v => ∃ p l, v = .ref p ∧ H p = none ∧ H l = none ∧ p ≠ l ∧ H' p = some (.tup [.str kd, ts, .ref l]) ∧ H' l = some (.lst [])
/-! ### a reader at work -/
/-- the open lists around `child`, from within outwards -/
def OutR (K : PySem.W.Frag) (Hc H : Hp) : Addr → List (Addr × Open) → Prop
  | _, [] => True
  | child, q :: o => (∃ (vs : List V) (t : Addr), H q.1 = some (.lst (vs ++ [.ref t])) ∧ AllAt K Hc q.2.1 vs ∧ Hc t = some (.tup [.str q.2.2.1, .str q.2.2.2, .ref child])) ∧ OutR K Hc H q.1 o
theorem OutR.mono {K : PySem.W.Frag} {Hc Hc' H H' : Hp} (hs : Kp Hc Hc') : ∀ {o : List (Addr × Open)} {c : Addr}, (∀ b ∈ o.map (·.1), H' b = H b) → OutR K Hc H c o → OutR K Hc' H' c o
  | [], _, _, _ => True.intro
  | q :: o, c, hb, ⟨⟨vs, t, h1, h2, h3⟩, h4⟩ => ⟨⟨vs, t, by rw [hb q.1 (by simp)]; exact h1, AllAt.mono hs _ _ h2, hs.at_ _ _ h3 (fun _ z => by cases z)⟩, OutR.mono hs (fun b h => hb b (by simp only [List.map_cons, List.mem_cons]; exact .inr h)) h4⟩
theorem OutR.some_ {K : PySem.W.Frag} {Hc H : Hp} : ∀ {o : List (Addr × Open)} {c : Addr}, OutR K Hc H c o → ∀ b ∈ o.map (·.1), ∃ xs, H b = some (.lst xs)
  | [], _, _, b, hb => by cases hb
  | q :: o, c, ⟨⟨vs, t, h1, _⟩, h4⟩, b, hb => by
    rcases List.mem_cons.mp (by simpa using hb : b ∈ q.1 :: o.map (·.1)) with e | e
    · rw [e]
      exact ⟨_, h1⟩
    · exact OutR.some_ h4 b e
/-- the attributes of a reader -/
def rf (l A : Addr) : List (Str × V) := [("rows", .ref l), ("around", .ref A)]
theorem rf_rows (l A : Addr) : (rf l A).lookup ("rows" : Str) = some (.ref l) := by
  unfold rf
  rw [lkc, if_pos rfl]
theorem rf_around (l A : Addr) : (rf l A).lookup ("around" : Str) = some (.ref A) := by
  unfold rf
  rw [lkc, if_neg (by decide +kernel), lkc, if_pos rfl]
theorem rf_no {x : Str} (l A : Addr) (h1 : x ≠ "rows") (h2 : x ≠ "around") : (rf l A).lookup x = none := by
  unfold rf
  rw [lkc, if_neg h1, lkc, if_neg h2]
  rfl
theorem rf_put (l A l' : Addr) : putF "rows" (.ref l') (rf l A) = rf l' A := by
  unfold rf
  rw [put_same]
theorem rf_made (l A : Addr) : putF "around" (.ref A) (putF "rows" (.ref l) []) = rf l A := by
  unfold rf
  repeat (first | rw [put_end] | rw [put_next (by decide +kernel)])
structure Rdr (K : PySem.W.Frag) (C p dx A : Addr) (Hc H : Hp) (l : Addr) (cur : List Row) (ar : List (Addr × Open)) : Prop where
  ob : H p = some (.ins C dx (rf l A))
  ar_ : H A = some (.lst ((ar.map (·.1)).reverse.map V.ref))
  cur_ : ∃ vs, H l = some (.lst vs) ∧ AllAt K Hc cur vs
  out : OutR K Hc H l ar
  no : ∀ b ∈ p :: A :: l :: ar.map (·.1), Hc b = none
  nd : (p :: A :: l :: ar.map (·.1)).Nodup
  cl : Kp Hc H
section
variable {K : PySem.W.Frag} {C p dx A : Addr} {Hc H : Hp} {l : Addr} {cur : List Row} {ar : List (Addr × Open)}
theorem Rdr.there (h : Rdr K C p dx A Hc H l cur ar) : ∀ b ∈ p :: A :: l :: ar.map (·.1), ∃ o, H b = some o ∧ ∀ ps, o ≠ .tbl ps := fun b hb => by
  rcases List.mem_cons.mp hb with e | hb
  · rw [e]
    exact ⟨_, h.ob, fun _ z => by cases z⟩
  rcases List.mem_cons.mp hb with e | hb
  · rw [e]
    exact ⟨_, h.ar_, fun _ z => by cases z⟩
  rcases List.mem_cons.mp hb with e | hb
  · rw [e]
    obtain ⟨vs, h1, _⟩ := h.cur_
    exact ⟨_, h1, fun _ z => by cases z⟩
  · obtain ⟨xs, e⟩ := OutR.some_ h.out b hb
    exact ⟨_, e, fun _ z => by cases z⟩
/-- the heap has grown -/
theorem Rdr.kp (h : Rdr K C p dx A Hc H l cur ar) {H' : Hp} (k : Kp H H') : Rdr K C p dx A Hc H' l cur ar := by
  have st : ∀ b ∈ p :: A :: l :: ar.map (·.1), H' b = H b := fun b hb => by
    obtain ⟨o, e, n⟩ := h.there b hb
    rw [e, k.at_ b o e n]
  obtain ⟨vs, c1, c2⟩ := h.cur_
  exact ⟨by rw [st p (by simp)]; exact h.ob, by rw [st A (by simp)]; exact h.ar_, ⟨vs, by rw [st l (by simp)]; exact c1, c2⟩, OutR.mono (Kp.refl _) (fun b hb => st b (List.mem_cons_of_mem _ (List.mem_cons_of_mem _ (List.mem_cons_of_mem _ hb)))) h.out, h.no, h.nd, h.cl.trans k⟩
/-- one more object that stays -/
theorem Rdr.add (h : Rdr K C p dx A Hc H l cur ar) {b : Addr} {o : HO} (e : H b = some o) (hb : b ∉ p :: A :: l :: ar.map (·.1)) (hc : Hc b = none) : Rdr K C p dx A (upd Hc b o) H l cur ar := by
  have s : Kp Hc (upd Hc b o) := (Kp.refl Hc).put hc o
  obtain ⟨vs, c1, c2⟩ := h.cur_
  exact ⟨h.ob, h.ar_, ⟨vs, c1, AllAt.mono s _ _ c2⟩, OutR.mono s (fun _ _ => rfl) h.out, fun c hcm => by rw [upd_ne (fun z => hb (by rw [← z]; exact hcm))]; exact h.no c hcm, h.nd, ⟨fun c u q n => by
    by_cases z : c = b
    · rw [z, upd_same] at q
      rw [z, ← q]
      exact e
    · rw [upd_ne z] at q
      exact h.cl.at_ c u q n, fun c ps q => by
    by_cases z : c = b
    · rw [z, upd_same] at q
      rw [z]
      rw [Option.some.inj q] at e
      exact ⟨ps, e⟩
    · rw [upd_ne z] at q
      exact h.cl.tb c ps q⟩⟩
theorem Rdr.ne (h : Rdr K C p dx A Hc H l cur ar) : p ≠ A ∧ p ≠ l ∧ A ≠ l ∧ ∀ b ∈ ar.map (·.1), b ≠ p ∧ b ≠ A ∧ b ≠ l := by
  have h1 := h.nd
  simp only [List.nodup_cons, List.mem_cons, not_or] at h1
  obtain ⟨⟨a1, a2, a3⟩, ⟨b1, b2⟩, c1, _⟩ := h1
  exact ⟨a1, a2, b1, fun b hb => ⟨fun e => a3 (e ▸ hb), fun e => b2 (e ▸ hb), fun e => c1 (e ▸ hb)⟩⟩
/-- a row is put behind the open ones -/
theorem Rdr.app (h : Rdr K C p dx A Hc H l cur ar) {vs : List V} (e : H l = some (.lst vs)) {r : Row} {v : V} (hr : RowAt K Hc r v) : Rdr K C p dx A Hc (upd H l (.lst (vs ++ [v]))) l (cur ++ [r]) ar := by
  obtain ⟨n1, n2, n3, n4⟩ := h.ne
  obtain ⟨ws, c1, c2⟩ := h.cur_
  rw [e] at c1
  cases c1
  have hl := h.no l (by simp)
  exact ⟨by rw [upd_ne n2]; exact h.ob, by rw [upd_ne n3]; exact h.ar_, ⟨_, upd_same, c2.app (AllAt.one hr)⟩, OutR.mono (Kp.refl _) (fun b hb => upd_ne (n4 b hb).2.2) h.out, h.no, h.nd, h.cl.put hl _⟩
/-- a block opens: its row t, with the list c -/
theorem Rdr.push (h : Rdr K C p dx A Hc H l cur ar) {vs : List V} (e : H l = some (.lst vs)) {t c : Addr} {kd te : Str} (ht : H t = some (.tup [.str kd, .str te, .ref c])) (hct : Hc t = none) (htn : t ∉ p :: A :: l :: ar.map (·.1)) (ec : H c = some (.lst [])) (hcc : Hc c = none) (hcn : c ∉ p :: A :: l :: ar.map (·.1)) (htc : t ≠ c) :
    Rdr K C p dx A (upd Hc t (.tup [.str kd, .str te, .ref c])) (upd (upd (upd H l (.lst (vs ++ [.ref t]))) A (.lst ((ar.map (·.1)).reverse.map V.ref ++ [.ref l]))) p (.ins C dx (rf c A))) c [] ((l, cur, kd, te) :: ar) := by
  have h1 := h.add ht htn hct
  obtain ⟨n1, n2, n3, n4⟩ := h.ne
  have hc' : ∀ b ∈ p :: A :: l :: ar.map (·.1), b ≠ c := fun b hb z => hcn (z ▸ hb)
  have cp := hc' p (by simp)
  have cA := hc' A (by simp)
  have cl := hc' l (by simp)
  obtain ⟨ws, c1, c2⟩ := h1.cur_
  rw [e] at c1
  cases c1
  have off : ∀ b ∈ ar.map (·.1), upd (upd (upd H l (.lst (vs ++ [.ref t]))) A (.lst ((ar.map (·.1)).reverse.map V.ref ++ [.ref l]))) p (.ins C dx (rf c A)) b = H b := fun b hb => by
    obtain ⟨m1, m2, m3⟩ := n4 b hb
    rw [upd_ne m1, upd_ne m2, upd_ne m3]
  refine ⟨upd_same, ?_, ⟨[], ?_, rfl⟩, ⟨⟨vs, t, ?_, c2, upd_same⟩, OutR.mono (Kp.refl _) off h1.out⟩, fun b hb => ?_, ?_, ?_⟩
  · rw [upd_ne n1.symm, upd_same]
    simp
  · rw [upd_ne cp.symm, upd_ne cA.symm, upd_ne cl.symm]
    exact ec
  · show upd (upd (upd H l _) A _) p _ l = _
    rw [upd_ne n2.symm, upd_ne n3.symm, upd_same]
  · simp only [List.map_cons, List.mem_cons] at hb
    rcases hb with z | z | z | z | z
    · rw [z]; exact h1.no p (by simp)
    · rw [z]; exact h1.no A (by simp)
    · rw [z, upd_ne htc.symm]; exact hcc
    · rw [z]; exact h1.no l (by simp)
    · exact h1.no b (by simp only [List.mem_cons]; exact .inr (.inr (.inr z)))
  · have hn := h.nd
    simp only [List.map_cons, List.nodup_cons, List.mem_cons, not_or] at hn ⊢
    obtain ⟨⟨a1, a2, a3⟩, ⟨b1, b2⟩, d1, d2⟩ := hn
    exact ⟨⟨a1, cp, a2, a3⟩, ⟨cA, b1, b2⟩, ⟨cl.symm, fun z => hcn (List.mem_cons_of_mem _ (List.mem_cons_of_mem _ (List.mem_cons_of_mem _ z)))⟩, d1, d2⟩
  · exact ((h1.cl.put (h1.no l (by simp)) _).put (h1.no A (by simp)) _).put (h1.no p (by simp)) _
/-- a block ends -/
theorem Rdr.pop {q : Addr × Open} (h : Rdr K C p dx A Hc H l cur (q :: ar)) : ∃ Hc', Rdr K C p dx A Hc' (upd (upd H A (.lst ((ar.map (·.1)).reverse.map V.ref))) p (.ins C dx (rf q.1 A))) q.1 (q.2.1 ++ [.bk q.2.2.1 (.str q.2.2.2) cur]) ar ∧ Kp Hc Hc' := by
  obtain ⟨n1, n2, n3, n4⟩ := h.ne
  obtain ⟨⟨vs, t, g1, g2, g3⟩, g4⟩ := h.out
  obtain ⟨ws, c1, c2⟩ := h.cur_
  have hl := h.no l (by simp)
  have s : Kp Hc (upd Hc l (.lst ws)) := (Kp.refl Hc).put hl _
  obtain ⟨m1, m2, m3⟩ := n4 q.1 (by simp)
  have off : ∀ b ∈ ar.map (·.1), upd (upd H A (.lst ((ar.map (·.1)).reverse.map V.ref))) p (.ins C dx (rf q.1 A)) b = H b := fun b hb => by
    obtain ⟨m1, m2, _⟩ := n4 b (by simp only [List.map_cons, List.mem_cons]; exact .inr hb)
    rw [upd_ne m1, upd_ne m2]
  refine ⟨upd Hc l (.lst ws), ⟨upd_same, by rw [upd_ne n1.symm, upd_same], ⟨vs ++ [.ref t], by rw [upd_ne m1, upd_ne m2]; exact g1, (AllAt.mono s _ _ g2).app (AllAt.one ⟨t, l, ws, rfl, SqT.of (s.at_ _ _ g3 (fun _ z => by cases z)), SqL.of upd_same, AllAt.mono s _ _ c2⟩)⟩, OutR.mono s off g4, fun b hb => ?_, ?_, ?_⟩, s⟩
  · have hbl : b ≠ l := by
      rcases List.mem_cons.mp hb with z | hb
      · rw [z]; exact n2
      rcases List.mem_cons.mp hb with z | hb
      · rw [z]; exact n3
      · exact (n4 b (by simpa using hb)).2.2
    rw [upd_ne hbl]
    refine h.no b ?_
    simp only [List.map_cons, List.mem_cons] at hb ⊢
    rcases hb with z | z | z | z
    · exact .inl z
    · exact .inr (.inl z)
    · exact .inr (.inr (.inr (.inl z)))
    · exact .inr (.inr (.inr (.inr z)))
  · have hn := h.nd
    simp only [List.map_cons, List.nodup_cons, List.mem_cons, not_or] at hn ⊢
    obtain ⟨⟨a1, a2, a3, a4⟩, ⟨b1, b2, b3⟩, ⟨d1, d2⟩, e1, e2⟩ := hn
    exact ⟨⟨a1, a3, a4⟩, ⟨b2, b3⟩, e1, e2⟩
  · have kc : Kp (upd Hc l (.lst ws)) H := ⟨fun b u hb n => by
      by_cases z : b = l
      · rw [z, upd_same] at hb
        rw [z, ← hb]
        exact c1
      · rw [upd_ne z] at hb
        exact h.cl.at_ b u hb n, fun b ps hb => by
      by_cases z : b = l
      · rw [z, upd_same] at hb
        cases hb
      · rw [upd_ne z] at hb
        exact h.cl.tb b ps hb⟩
    exact (kc.put (by rw [upd_ne n3]; exact h.no A (by simp)) _).put (by rw [upd_ne n2]; exact h.no p (by simp)) _
end
end Lm
/-! Things that may stand in a program, good or not; how they are looked at. -/
namespace Lm
open PySem L2 GxR
/-- a thing: flat, a tuple, a list, an empty dict -/
inductive Th where
  | v (x : V)
  | tp (xs : List Th)
  | ls (xs : List Th)
  | dc
def flt : V → Prop
  | .int _ => True
  | .str s => s.length ≤ 1000
  | .bl _ => True
  | .non => True
  | _ => False
mutual
def ThAt (K : PySem.W.Frag) (H : Hp) : Th → V → Prop
  | .v x, y => y = x ∧ flt x
  | .tp xs, y => ∃ p vs, y = .ref p ∧ SqT K H p vs ∧ ThsAt K H xs vs
  | .ls xs, y => ∃ p vs, y = .ref p ∧ SqL K H p vs ∧ ThsAt K H xs vs
  | .dc, y => ∃ p, y = .ref p ∧ H p = some (.dK [])
def ThsAt (K : PySem.W.Frag) (H : Hp) : List Th → List V → Prop
  | [], vs => vs = []
  | x :: xs, vs => ∃ v t, vs = v :: t ∧ ThAt K H x v ∧ ThsAt K H xs t
end
mutual
theorem ThAt.mono {K : PySem.W.Frag} {H H' : Hp} (e : Kp H H') : ∀ (t : Th) (v : V), ThAt K H t v → ThAt K H' t v
  | .v x, v, h => h
  | .tp xs, v, ⟨p, vs, h1, h2, h3⟩ => ⟨p, vs, h1, e.sqT h2, ThsAt.mono e xs vs h3⟩
  | .ls xs, v, ⟨p, vs, h1, h2, h3⟩ => ⟨p, vs, h1, e.sqL h2, ThsAt.mono e xs vs h3⟩
  | .dc, v, ⟨p, h1, h2⟩ => ⟨p, h1, e.at_ p _ h2 (fun ps z => by cases z)⟩
theorem ThsAt.mono {K : PySem.W.Frag} {H H' : Hp} (e : Kp H H') : ∀ (ts : List Th) (vs : List V), ThsAt K H ts vs → ThsAt K H' ts vs
  | [], vs, h => h
  | t :: ts, vs, ⟨v, us, h1, h2, h3⟩ => ⟨v, us, h1, ThAt.mono e t v h2, ThsAt.mono e ts us h3⟩
end
theorem ThsAt.len {K : PySem.W.Frag} {H : Hp} : ∀ {ts : List Th} {vs : List V}, ThsAt K H ts vs → vs.length = ts.length
  | [], vs, h => by rw [show vs = [] from h]; rfl
  | t :: ts, vs, ⟨v, us, h1, _, h3⟩ => by rw [h1, List.length_cons, List.length_cons, ThsAt.len h3]
theorem ThsAt.at {K : PySem.W.Frag} {H : Hp} : ∀ {ts : List Th} {vs : List V} {i : Nat} {v : V}, ThsAt K H ts vs → vs[i]? = some v → ∃ t, ts[i]? = some t ∧ ThAt K H t v
  | [], vs, i, v, h, e => by
    rw [show vs = [] from h] at e
    cases e
  | t :: ts, vs, 0, v, ⟨u, us, h1, h2, _⟩, e => by
    rw [h1] at e
    cases e
    exact ⟨t, rfl, h2⟩
  | t :: ts, vs, i + 1, v, ⟨u, us, h1, _, h3⟩, e => by
    rw [h1] at e
    exact ThsAt.at (ts := ts) (i := i) h3 e
theorem ThsAt.app {K : PySem.W.Frag} {H : Hp} : ∀ {ts us : List Th} {vs ws : List V}, ThsAt K H ts vs → ThsAt K H us ws → ThsAt K H (ts ++ us) (vs ++ ws)
  | [], us, vs, ws, h, k => by
    rw [show vs = [] from h]
    exact k
  | t :: ts, us, vs, ws, ⟨v, r, h1, h2, h3⟩, k => ⟨v, r ++ ws, by rw [h1]; rfl, h2, ThsAt.app h3 k⟩
/-- the type of a thing -/
def Th.ty : Th → String
  | .v (.int _) => "int"
  | .v (.str _) => "str"
  | .v (.bl _) => "bool"
  | .v _ => "NoneType"
  | .tp _ => "tuple"
  | .ls _ => "list"
  | .dc => "dict"
theorem ThAt.ty {K : PySem.W.Frag} {H : Hp} : ∀ {t : Th} {v : V}, ThAt K H t v → TyX K H v (.type t.ty)
  | .v (.int i), v, ⟨h, _⟩ => by rw [h]; exact ty_int i
  | .v (.str s), v, ⟨h, _⟩ => by rw [h]; exact ty_str s
  | .v (.bl b), v, ⟨h, _⟩ => by rw [h]; exact ty_bl b
  | .v .non, v, ⟨h, _⟩ => by rw [h]; exact .base .non
  | .v (.byt _), v, ⟨_, h⟩ => h.elim
  | .v (.flt _), v, ⟨_, h⟩ => h.elim
  | .v (.ref _), v, ⟨_, h⟩ => h.elim
  | .v (.ty _), v, ⟨_, h⟩ => h.elim
  | .tp xs, v, ⟨p, vs, h1, h2, _⟩ => by rw [h1]; exact ty_tuple h2
  | .ls xs, v, ⟨p, vs, h1, h2, _⟩ => by rw [h1]; exact ty_list h2
  | .dc, v, ⟨p, h1, h2⟩ => by rw [h1]; exact .base (.dK h2)
def Th.isS : Th → Bool
  | .v (.str _) => true
  | _ => false
theorem Th.kit {K : PySem.W.Frag} (t : Th) (n : String) {b : Bool} (h : kitB t.ty n = some b) : PySem.W.kitOne K (.type t.ty) (.type n) = some b := kit_ty h
theorem Th.kit_str (t : Th) : kitB t.ty "str" = some t.isS := by
  match t with
  | .v (.int i) => exact (by decide +kernel : kitB "int" "str" = some false)
  | .v (.str s) => exact (by decide +kernel : kitB "str" "str" = some true)
  | .v (.bl b) => exact (by decide +kernel : kitB "bool" "str" = some false)
  | .v .non => exact (by decide +kernel : kitB "NoneType" "str" = some false)
  | .v (.byt b) => exact (by decide +kernel : kitB "NoneType" "str" = some false)
  | .v (.flt b) => exact (by decide +kernel : kitB "NoneType" "str" = some false)
  | .v (.ref b) => exact (by decide +kernel : kitB "NoneType" "str" = some false)
  | .v (.ty b) => exact (by decide +kernel : kitB "NoneType" "str" = some false)
  | .tp xs => exact (by decide +kernel : kitB "tuple" "str" = some false)
  | .ls xs => exact (by decide +kernel : kitB "list" "str" = some false)
  | .dc => exact (by decide +kernel : kitB "dict" "str" = some false)
def Th.isI : Th → Bool
  | .v (.int _) => true
  | .v (.bl _) => true
  | _ => false
theorem Th.kit_int (t : Th) : kitB t.ty "int" = some t.isI := by
  match t with
  | .v (.int i) => exact (by decide +kernel : kitB "int" "int" = some true)
  | .v (.str s) => exact (by decide +kernel : kitB "str" "int" = some false)
  | .v (.bl b) => exact (by decide +kernel : kitB "bool" "int" = some true)
  | .v .non => exact (by decide +kernel : kitB "NoneType" "int" = some false)
  | .v (.byt b) => exact (by decide +kernel : kitB "NoneType" "int" = some false)
  | .v (.flt b) => exact (by decide +kernel : kitB "NoneType" "int" = some false)
  | .v (.ref b) => exact (by decide +kernel : kitB "NoneType" "int" = some false)
  | .v (.ty b) => exact (by decide +kernel : kitB "NoneType" "int" = some false)
  | .tp xs => exact (by decide +kernel : kitB "tuple" "int" = some false)
  | .ls xs => exact (by decide +kernel : kitB "list" "int" = some false)
  | .dc => exact (by decide +kernel : kitB "dict" "int" = some false)
def Th.isB : Th → Bool
  | .v (.bl _) => true
  | _ => false
theorem Th.kit_bool (t : Th) : kitB t.ty "bool" = some t.isB := by
  match t with
  | .v (.int i) => exact (by decide +kernel : kitB "int" "bool" = some false)
  | .v (.str s) => exact (by decide +kernel : kitB "str" "bool" = some false)
  | .v (.bl b) => exact (by decide +kernel : kitB "bool" "bool" = some true)
  | .v .non => exact (by decide +kernel : kitB "NoneType" "bool" = some false)
  | .v (.byt b) => exact (by decide +kernel : kitB "NoneType" "bool" = some false)
  | .v (.flt b) => exact (by decide +kernel : kitB "NoneType" "bool" = some false)
  | .v (.ref b) => exact (by decide +kernel : kitB "NoneType" "bool" = some false)
  | .v (.ty b) => exact (by decide +kernel : kitB "NoneType" "bool" = some false)
  | .tp xs => exact (by decide +kernel : kitB "tuple" "bool" = some false)
  | .ls xs => exact (by decide +kernel : kitB "list" "bool" = some false)
  | .dc => exact (by decide +kernel : kitB "dict" "bool" = some false)
def Th.isT : Th → Bool
  | .tp _ => true
  | _ => false
theorem Th.kit_tuple (t : Th) : kitB t.ty "tuple" = some t.isT := by
  match t with
  | .v (.int i) => exact (by decide +kernel : kitB "int" "tuple" = some false)
  | .v (.str s) => exact (by decide +kernel : kitB "str" "tuple" = some false)
  | .v (.bl b) => exact (by decide +kernel : kitB "bool" "tuple" = some false)
  | .v .non => exact (by decide +kernel : kitB "NoneType" "tuple" = some false)
  | .v (.byt b) => exact (by decide +kernel : kitB "NoneType" "tuple" = some false)
  | .v (.flt b) => exact (by decide +kernel : kitB "NoneType" "tuple" = some false)
  | .v (.ref b) => exact (by decide +kernel : kitB "NoneType" "tuple" = some false)
  | .v (.ty b) => exact (by decide +kernel : kitB "NoneType" "tuple" = some false)
  | .tp xs => exact (by decide +kernel : kitB "tuple" "tuple" = some true)
  | .ls xs => exact (by decide +kernel : kitB "list" "tuple" = some false)
  | .dc => exact (by decide +kernel : kitB "dict" "tuple" = some false)
def Th.isL : Th → Bool
  | .ls _ => true
  | _ => false
theorem Th.kit_list (t : Th) : kitB t.ty "list" = some t.isL := by
  match t with
  | .v (.int i) => exact (by decide +kernel : kitB "int" "list" = some false)
  | .v (.str s) => exact (by decide +kernel : kitB "str" "list" = some false)
  | .v (.bl b) => exact (by decide +kernel : kitB "bool" "list" = some false)
  | .v .non => exact (by decide +kernel : kitB "NoneType" "list" = some false)
  | .v (.byt b) => exact (by decide +kernel : kitB "NoneType" "list" = some false)
  | .v (.flt b) => exact (by decide +kernel : kitB "NoneType" "list" = some false)
  | .v (.ref b) => exact (by decide +kernel : kitB "NoneType" "list" = some false)
  | .v (.ty b) => exact (by decide +kernel : kitB "NoneType" "list" = some false)
  | .tp xs => exact (by decide +kernel : kitB "tuple" "list" = some false)
  | .ls xs => exact (by decide +kernel : kitB "list" "list" = some true)
  | .dc => exact (by decide +kernel : kitB "dict" "list" = some false)
/-! ### what is refused -/
inductive Cls where
  | row
  | name
  | num
  | deep (n : Nat)
deriving DecidableEq
def Th.isN : Th → Bool
  | .v x => isNm x
  | _ => false
def Th.isNum : Th → Bool
  | .v (.int i) => decide (0 ≤ i) && decide (i ≤ 999999)
  | _ => false
def Th.isSg : Th → Bool
  | .v (.str s) => inV (.str s) (signs.map V.str)
  | _ => false
def ckName (t : Th) : Option Cls := if t.isN then none else some .name
def ckSign (t : Th) : Option Cls := if t.isSg then none else some .row
def ckWorth (t : Th) : Option Cls := if t.isS then ckName t else if t.isNum then none else some .num
def lens (s : Str) : Option Nat := if s = "let" then some 5 else if s = "say" then some 2 else if s = "when" then some 3 else if s = "loop" then some 3 else if s = "again" then some 3 else none
/-- its form is one of the forms -/
def Th.form : Th → Bool
  | .tp (.v (.str s) :: xs) => decide (lens s = some (xs.length + 1))
  | _ => false
def isBlk (s : Str) : Bool := inV (.str s) (kinds.map V.str)
def ckLet : List Th → Option Cls
  | [a, b, c, e] => match ckName a with
    | some x => some x
    | none => match ckSign b with
      | some x => some x
      | none => match ckWorth c with
        | some x => some x
        | none => ckWorth e
  | _ => some .row
mutual
def lkRow : Nat → Th → Nat → Except Cls Nat
  | m, .tp (.v (.str s) :: a :: xs), n =>
    if Th.form (.tp (.v (.str s) :: a :: xs)) then
      if isBlk s then (match m with
        | 0 => .error (.deep n)
        | m + 1 => match ckName a with
          | some c => .error c
          | none => match xs with
            | r :: _ => lkRows m r (n + 1)
            | [] => .error .row)
      else match (if s = "let" then ckLet (a :: xs) else ckWorth a) with
        | some c => .error c
        | none => .ok (n + 1)
    else .error .row
  | _, _, _ => .error .row
def lkRows : Nat → Th → Nat → Except Cls Nat
  | m, .ls xs, n => lkAll m xs n
  | _, _, _ => .error .row
def lkAll : Nat → List Th → Nat → Except Cls Nat
  | _, [], n => .ok n
  | m, x :: xs, n => match lkRow m x n with
    | .error c => .error c
    | .ok k => lkAll m xs k
end
theorem lkRow_noform {m n : Nat} : ∀ {t : Th}, t.form = false → lkRow m t n = .error .row
  | .v x, _ => by unfold lkRow; rfl
  | .ls xs, _ => by unfold lkRow; rfl
  | .dc, _ => by unfold lkRow; rfl
  | .tp [], _ => by unfold lkRow; rfl
  | .tp [x], _ => by
    cases x with
    | v y => cases y <;> (unfold lkRow; rfl)
    | tp _ => unfold lkRow; rfl
    | ls _ => unfold lkRow; rfl
    | dc => unfold lkRow; rfl
  | .tp (.v (.str s) :: a :: xs), h => by
    unfold lkRow
    rw [if_neg (by rw [h]; exact Bool.false_ne_true)]
  | .tp (.v (.int s) :: a :: xs), h => by unfold lkRow; rfl
  | .tp (.v (.bl s) :: a :: xs), h => by unfold lkRow; rfl
  | .tp (.v (.non) :: a :: xs), h => by unfold lkRow; rfl
  | .tp (.v (.byt s) :: a :: xs), h => by unfold lkRow; rfl
  | .tp (.v (.flt s) :: a :: xs), h => by unfold lkRow; rfl
  | .tp (.v (.ref s) :: a :: xs), h => by unfold lkRow; rfl
  | .tp (.v (.ty s) :: a :: xs), h => by unfold lkRow; rfl
  | .tp (.tp s :: a :: xs), h => by unfold lkRow; rfl
  | .tp (.ls s :: a :: xs), h => by unfold lkRow; rfl
  | .tp (.dc :: a :: xs), h => by unfold lkRow; rfl
end Lm
/-! an own error whose __init__ says super().__init__(f'..{place}..') and self.place = place -/
namespace DeepX
open PySem PySem.W PySem.Calls PyProof.Rows PySem.HandSPX
def iA (p1 p2 : Pos) : Arguments := { posonlyargs := [], args := [{ arg := "self", annotation := none, pos := p1 }, { arg := "place", annotation := none, pos := p2 }], vararg := none, kwonlyargs := [], kw_defaults := [], kwarg := none, defaults := [] }
structure Ps where
  p1 : Pos
  p2 : Pos
  p3 : Pos
  p4 : Pos
  p5 : Pos
  p6 : Pos
  p7 : Pos
  p8 : Pos
  p9 : Pos
  p10 : Pos
  p11 : Pos
  p12 : Pos
  p13 : Pos
  p14 : Pos
def iJ (t1 t2 : Str) (p : Ps) : Expr := .JoinedStr [.Constant (.str t1) 0 p.p4, .FormattedValue (.Name "place" p.p5) (-1) none p.p6, .Constant (.str t2) 0 p.p7] p.p8
def iC (t1 t2 : Str) (p : Ps) : Expr := .Call (.Attribute (.Call (.Name "super" p.p1) [] [] p.p2) "__init__" p.p3) [iJ t1 t2 p] [] p.p9
def iB (t1 t2 : Str) (p : Ps) : List Stmt := [.Expr (iC t1 t2 p) p.p10, .Assign [.Attribute (.Name "self" p.p11) "place" p.p12] (.Name "place" p.p13) p.p14]
def iS : Scope := { kind := .function, names := [(PySem.Str.ofString "self", .local), (PySem.Str.ofString "place", .local), (PySem.Str.ofString "__class__", .free), (PySem.Str.ofString "super", .globalImplicit)], isGenerator := false, isCoroutine := false, more := [] }
theorem kSelf : iS.names.lookup ("self" : Str) = some .local := by decide +kernel
theorem kPlace : iS.names.lookup ("place" : Str) = some .local := by decide +kernel
theorem kSuper : iS.names.lookup ("super" : Str) = some .globalImplicit := by decide +kernel
theorem kClass : iS.names.lookup ("__class__" : Str) = some .free := by decide +kernel
/-- what the written part says of the class at C (its name cn), and of its __init__, at fI -/
structure DeepTxt (P : Program) (K : Frag) (mg : Str → Option Value) (cn : Str) (t1 t2 : Str) (C fI : Addr) : Prop where
  gC : mg cn = some (.ref C)
  gS : mg "super" = none
  cls : ∃ nm q N bs bm sn sub ab col dd k0 k1 k2 k3 k5, K.lookup C = some (excClassObj nm q C N bs bm true sn sub ab col dd k0 k1 k2 k3 k5 "ValueError.__new__") ∧ refsVE bm = true
  sa : findIn K (.ref C) "__setattr__" = some (some (.builtin "object.__setattr__"))
  ga : findIn K (.ref C) "__getattribute__" = some (some (.builtin "BaseException.__getattribute__"))
  gg : findIn K (.ref C) "__getattr__" = some none
  noN : findIn K (.ref C) "place" = some none
  iC : findIn K (.ref C) "__init__" = some (some (.ref fI))
  tC : typeIn K (.ref fI) = some (.type "function")
  kC : keepIn K (.ref C) = true
  exC : subIn K (.ref C) (.type "BaseException") = some true
  veC : subIn K (.ref C) (.type "ValueError") = some true
  tyC : typeIn K (.ref C) = some (.type "type")
  hdC : hasDictIn K C = true
  seC : mroIn K C (.ref C) = some true
  opq : nsIn K cStatics "thirdparty.any" = some none
  sup : ks_superIn K C C "__init__" = some (some (.builtin "ValueError.__init__"))
  fn : ∃ (oc : Value) (od : Option Addr) (doc pm : Value) (an : Option Addr) (cda : Addr) (ct : Value) (osl : Array (Option Value)) (qn : Str) (p1 p2 : Pos) (p : Ps) (cc : Addr) (cl : Value) (cld : Option Addr) (csl : Array (Option Value)) (ccl : Value) (cdd : Option Addr) (vs : Array Value) (ccs : Array (Option Value)) (file : Str) (tf : Tok),
    K.lookup fI = some ⟨oc, od, .func (ksFn "__init__" qn (iA p1 p2) (iB t1 t2 p) iS .none .none doc pm an (.ref cda) ct cc), osl⟩ ∧ codeIn K (.ref cda) qn = true ∧
    K.lookup cda = some ⟨ccl, cdd, .fields vs, ccs⟩ ∧ vs[2]? = some (.str file tf) ∧ ((P.main.file : Str) == file) = true ∧ (p.p3.endLine == p.p9.line) = true ∧ K.lookup cc = some ⟨cl, cld, .cell (some (.ref C)), csl⟩
  top : (P.main.scope.names.lookup ("super" : Str)).isSome = false
/-- what __init__ leaves of a fresh exception at x -/
structure InitEnd (h h' : Heap) (x C dx : Addr) (v : Value) : Prop where
  keep : ∀ b o, b ≠ x → h.get? b = some o → h'.get? b = some o
  obj : ∃ t1 : Addr, h'.get? x = some { cls := .ref C, dict := some dx, data := .fields #[.ref t1, .none, .none, .none, .bool false, .none] }
  dbig : h.objs.size ≤ dx
  dne : dx ≠ x
  ns : h'.Ns1 dx (fun y => if y = "place" then some v else none)
/-- a made one -/
structure OwnMade (h h' : Heap) (e C d : Addr) (v : Value) : Prop where
  keep : ∀ b o, h.get? b = some o → h'.get? b = some o
  new : h.objs.size ≤ e
  obj : ∃ oe vs, h'.get? e = some oe ∧ oe.cls = .ref C ∧ oe.dict = some d ∧ oe.data = .fields vs ∧ vs[1]? = some .none ∧ vs[2]? = some .none
  dbig : h.objs.size ≤ d
  dne : d ≠ e
  ns : h'.Ns1 d (fun y => if y = "place" then some v else none)
theorem ldS {M : Model} {s : Shared} {env : Env} {m : Str → Option Value} {x : Str} {pos : Pos} {v : Value} {Q : Value → Shared → Prop} {A : Around} {E : Value → Shared → Prop} (hn : s.heap.Ns env.locals m) (hv : m x = some v) (h : Q v s)
    (hk : env.scope.kind = .function := by rfl) (hl : env.kindOf x = some .local := by rfl) (hd : (x == ("__debug__" : Str)) = false := by decide) :
    wpAny M A (eval (.Name x pos) env) Q E s := wpAny_Name (wpAny_loadName_local hk hl hn hv h) hd
theorem eval_meth1 (o : Expr) (name : Str) (e : Expr) (p3 p9 : Pos) (env : Env) (hs : starEach [e] env = [(false, eval e env)]) (h : (p3.endLine == p9.line) = true) : ∃ pl, eval (.Call (.Attribute o name p3) [e] [] p9) env = (do
      let ov ← attributeBase o name env (eval o env)
      standAt p3.atName
      let (f, first) ← holding [ov] (getMethod ov name pl)
      callWith p9 f first (backTo p9 (starEach [e] env)) []) := by
  have q : ∀ few, methodCallPos few o env p3 p9 = pure p9 := fun few => by
    unfold methodCallPos
    rw [h, Bool.or_true]
    rfl
  have k : backToKw p9 (keywordEach [] env) = [] := rfl
  refine ⟨(do return (← importBound o env).getD true), ?_⟩
  rw [arm_eval_Call]
  unfold methodCall
  simp only [q, pure_bind, k]
  rw [hs]
  rfl
theorem ns_other {h h' : Heap} {L : Addr} {m : Str → Option Value} (hn : h.Ns L m) (k : ∀ o, h.get? L = some o → h'.get? L = some o) : h'.Ns L m := by
  obtain ⟨oL, es, ep, hL, r⟩ := hn
  exact ⟨oL, es, ep, k _ hL, r⟩
theorem ns_keeps {h h' : Heap} {L : Addr} {m : Str → Option Value} (hn : h.Ns L m) (k : ∀ b o, h.get? b = some o → h'.get? b = some o) : h'.Ns L m := hn.keeps k
section
variable {prog : Program} {w : World} {A : Around} {E : Value → Shared → Prop} {h : Heap} {g : Array GenState} {d : Drawn} {t : Nat} {os : OsState}
variable {nm q : Str} {C N : Addr} {bs bm : List Value} {hdct : Bool} {sn : List Str} {sub : List Value} {ab : Bool} {col : Option Bool} {dd : Option Addr} {k0 k1 k2 k3 k5 : Option Value}
/-- the bound ValueError.__init__ is called -/
theorem call_bwVE {u e t0 : Addr} {rest : List Value} {Q : Value → Shared → Prop}
    (hC : h.get? C = some (excClassObj nm q C N bs bm hdct sn sub ab col dd k0 k1 k2 k3 k5 "ValueError.__new__")) (he : h.get? e = some (excO C t0)) (hu : h.get? u = some (kxs_mw "ValueError.__init__" e)) (hrest : rest.length ≤ sizeLine)
    (hq : ∀ h' t1, (∀ b o, b ≠ e → h.get? b = some o → h'.get? b = some o) → h'.get? e = some (excO C t1) → Q .none ⟨h', g, d, t, os⟩) :
    wpAny (model prog w) A (call (.ref u) rest) Q E ⟨h, g, d, t, os⟩ := by
  refine wpAny_call (codeAny_of_tree ?_)
  show wpAny _ A.in1 (callAny (.ref u) ⟨rest, []⟩) _ _ _
  simp only [callAny]
  refine wpAny_bind (wpAny_load hu ?_)
  simp only [kxs_mw, show (Value.type "method-wrapper" == Value.type "method" || Value.type "method-wrapper" == Value.type "builtin_function_or_method" || Value.type "method-wrapper" == Value.type "method-wrapper") = true by decide, if_true]
  refine W.KFB.if_so (by decide) ?_
  refine wpAny_bind (ESX.check_bound F.excBase_ValueError hC he rfl ?_)
  refine wpAny_bind (wpAny_pure (wpAny_pure ?_))
  refine ⟨Code.quiet_builtin _ (by decide +kernel), codeAny_builtin F.excBase_ValueError.initEntry ?_⟩
  rw [Around.under_plainId F.excBase_ValueError.init.plain _]
  wp_walk
  refine hq _ h.objs.size (fun b o hb ho => ?_) ?_
  · rw [Heap.get?_update_other _ _ (Ne.symm hb)]
    exact Heap.get?_push_of_some _ ho
  · rw [Heap.get?_update_self _ (Heap.get?_push_of_some _ he) rfl]
    rfl
end
section
variable {prog : Program} {w : World} {A : Around} {E : Value → Shared → Prop} {R : Result → Shared → Prop} {s : Shared} {K : Frag} {mg : Str → Option Value} {C fI : Addr} {cn t1 t2 : Str} {base : Heap}
theorem deep_init (T : DeepTxt prog K mg cn t1 t2 C fI) (BM : L2.Mod K mg base) (bk : ∀ b o, base.get? b = some o → s.heap.get? b = some o) {x t0 : Addr} {i : Int} {ti : Tok} (hi : i.natAbs.log2 < 1920) (ht1 : t1.length ≤ 1000) (ht2 : t2.length ≤ 1000)
    (hlim : s.heap.NoLimit) (hx : s.heap.get? x = some (excO C t0)) (hnb : base.get? x = none) (hroom : A.depth < recursionLimit)
    (hq : ∀ h' tk dx, InitEnd s.heap h' x C dx (.int i ti) → R (.ok (.ret .none)) { s with heap := h', toks := tk }) :
    codeAny (model prog w) A (.call (.ref fI) ⟨[.ref x, .int i ti], []⟩) R s := by
  have X : K.In s.heap := BM.kin.keeps bk
  obtain ⟨oc, od, doc, pm, an, cda, ct, osl, qn, p1, p2, p, cc, cl, cld, csl, ccl, cdd, vs, ccs, file, tf, ho, hcd, hcode, hvs, hfile, hpos, hcell⟩ := T.fn
  obtain ⟨nm, q, N, bs, bm, sn, sub, ab, col, dd, k0, k1, k2, k3, k5, hC, hbm⟩ := T.cls
  obtain ⟨mb, hb1, hb2⟩ := BM.blt
  have hcl : clsIn K C = some { name := nm, bases := bs, mro := .ref C :: bm, ns := N, qualname := q, hasDict := true, slotNames := sn, subclasses := sub, abstract := ab, collection := col, hasDel := false } := by unfold clsIn; rw [hC] <;> rfl
  refine ks_codeAny_call_defAt (fd := ksFn "__init__" qn (iA p1 p2) (iB t1 t2 p) iS .none .none doc pm an (.ref cda) ct cc) (body := iB t1 t2 p) (binds := [("self", .ref x), ("place", .int i ti)]) hroom (X _ _ ho) rfl hlim (codeRec_of X hcd) rfl
    (BindsTo.of_eq (by first | rfl | with_unfolding_all rfl)) (by show ∀ x ∈ iS.names, x.2 ≠ NameKind.cell; decide +kernel) (by intro y hy; simp only [List.mem_cons, List.not_mem_nil, or_false] at hy; rcases hy with rfl | rfl <;> (first | rfl | exact (by decide +kernel : iS.names.lookup (PySem.Str.ofString "self") = some .local) | exact (by decide +kernel : iS.names.lookup (PySem.Str.ofString "place") = some .local))) (fun h₁ hns hk₁ => ?_) rfl rfl rfl
  have X₁ : K.In h₁ := X.keeps hk₁
  have bk₁ : ∀ b o, base.get? b = some o → h₁.get? b = some o := fun b o e => hk₁ b o (bk b o e)
  have hx₁ := hk₁ _ _ hx
  refine ks_wpAt_execs_cons ?_
  obtain ⟨pl, hpl⟩ := eval_meth1 (.Call (.Name "super" p.p1) [] [] p.p2) "__init__" (iJ t1 t2 p) p.p3 p.p9 (callEnv (ksFn "__init__" qn (iA p1 p2) (iB t1 t2 p) iS .none .none doc pm an (.ref cda) ct cc) s.heap.objs.size fI) (by rfl) hpos
  refine ks_wpAt_Expr_any (ks_wpAt_MethodCall (pl := pl) ?_ hpl)
  refine ks_wpAt_super_base (env := callEnv (ksFn "__init__" qn (iA p1 p2) (iB t1 t2 p) iS .none .none doc pm an (.ref cda) ct cc) s.heap.objs.size fI) kSuper kClass (by decide +kernel) rfl (X₁ _ _ ho) rfl rfl rfl (X₁ _ _ hcode) rfl hvs hfile T.top ?_
  refine ks_loadName_global rfl kSuper (loadGlobal_builtin (BM.glob.keeps bk₁) T.gS (hb1.keeps bk₁) ((hb2 _ (by decide +kernel)).trans (by first | boot_by_name | rfl | kernel_rfl)) ⟨rfl, ?_⟩)
  refine wpAny_loadName_free rfl kClass rfl ⟨_, X₁ _ _ hcell, rfl⟩ ?_
  refine wpAny_loadName_local rfl kSelf hns (v := .ref x) (by first | rfl | with_unfolding_all rfl | kernel_rfl) ?_
  refine ks_wpAny_isType_cls (X₁ _ _ hC) rfl ⟨rfl, ?_⟩
  refine ks_wpAny_call_super (X₁ _ _ hC) rfl hx₁ rfl (fun c e => by cases e) (looks_mroIn X₁ T.seC) (fun h₂ hso k₂ => ?_)
  have X₂ : K.In h₂ := X₁.keeps k₂
  have hx₂ := k₂ _ _ hx₁
  have hxC : x ≠ C := fun z => by
    have y := X₁ _ _ hC
    rw [← z, hx₁] at y
    cases y
  have IX : InstAt h₂ x (excO C t0) C none := ⟨hx₂, rfl, rfl, trivial⟩
  have hsup : alongIn K "__init__" (((.ref C :: bm : List Value).dropWhile (· != .ref C)).drop 1) = some (some (.builtin "ValueError.__init__")) := by
    have y := T.sup
    unfold ks_superIn at y
    rw [hcl] at y
    exact y
  refine kxs_getMethod kxs_ValueError hso (looks_opaque X₂ T.opq) (l₀ := .ref C :: bm) (fun A Q E s k q => wpAny_bind ((looks_clsIn X₂ hcl) A _ E s k (wpAny_pure q))) rfl X₂ hsup (IX.type.andThen (looks_subIn X₂ T.veC)) hxC (by decide +kernel) ?_
  refine kxs_callWith (i := "ValueError.__init__") (x := x) (by rfl) (evalArgs_plain ?_)
  refine spliced_cons ?_
  have L1 : s.heap.objs.size < h₁.objs.size := hns.lt
  have k₃ : ∀ b o, h₁.get? b = some o → (h₂.push (kxs_mw "ValueError.__init__" x)).get? b = some o := fun b o e => Heap.get?_push_of_some _ (k₂ b o e)
  have hns₃ := hns.keeps k₃
  refine wpAny_JoinedStr (pos := p.p8) ?_
  have li : (Str.ofString (toString i)).length ≤ 1921 := by
    have e := int_text_length_le (k := 1920) (by decide) hi
    rw [PySem.ofString_length]
    exact e
  have z1 : (Str.empty ++ t1).length ≤ 1000 := by
    rw [Str.length_append]
    have : Str.empty.length = 0 := rfl
    omega
  have z2 : (Str.empty ++ t1 ++ Str.ofString (toString i)).length ≤ 3000 := by
    rw [Str.length_append]
    omega
  have z3 : (Str.empty ++ t1 ++ Str.ofString (toString i) ++ t2).length ≤ 4000 := by
    rw [Str.length_append]
    omega
  refine wpAny_Constant_str ⟨t1, _, rfl, by rw [sizeLine_eq]; omega, ?_⟩
  refine wpAny_FormattedValue_plain (ldS hns₃ (v := .int i ti) (by first | rfl | with_unfolding_all rfl | kernel_rfl) (wpAny_formatField_int hi ⟨Str.ofString (toString i), _, rfl, by rw [sizeLine_eq]; omega, ?_⟩) rfl kPlace)
  refine wpAny_Constant_str ⟨t2, _, rfl, by rw [sizeLine_eq]; omega, ?_⟩
  refine ⟨by rw [sizeLine_eq]; omega, ?_⟩
  refine spliced_nil ⟨Heap.get?_push_at rfl rfl, ?_⟩
  refine call_bwVE (t0 := t0) (k₃ _ _ (X₁ _ _ hC)) (k₃ _ _ hx₁) (Heap.get?_push_at rfl rfl) (by show 1 ≤ sizeLine; rw [sizeLine_eq]; omega) (fun h₄ u4 k₄ hx₄ => ?_)
  refine wpAt_of_wpAny ?_
  have hxL : s.heap.objs.size ≠ x := Nat.ne_of_gt (Heap.lt_size hx)
  have kb : ∀ b o, base.get? b = some o → h₄.get? b = some o := fun b o e => k₄ b o (fun z => by rw [z, hnb] at e; cases e) (k₃ _ _ (bk₁ b o e))
  have X₄ : K.In h₄ := BM.kin.keeps kb
  have hns₄ := ns_other hns₃ (h' := h₄) fun o e => k₄ _ o hxL e
  refine wpAny_execs_cons (plainObj_wpAny_Assign_Attribute ?_)
  refine ldS (v := .int i ti) hns₄ (by first | rfl | with_unfolding_all rfl | kernel_rfl) (ldS (v := .ref x) hns₄ (by first | rfl | with_unfolding_all rfl | kernel_rfl) ?_ rfl kSelf) rfl kPlace
  refine set_plain X₄ (ox := excO C u4) (od := none) ⟨hx₄, rfl, rfl, trivial⟩ T.sa ?_
  refine exc_osa X₄ hx₄ hcl (show refsVE (.ref C :: bm) = true from hbm) rfl T.noN (fun h₅ tk₅ dx k₅ dn dne hx₅ hn₅ => ?_)
  have z5 : s.heap.objs.size ≤ dx := by
    obtain ⟨oL, es, ep, hL, r⟩ := hns₄
    have y : s.heap.objs.size < h₄.objs.size := Heap.lt_size hL
    exact Nat.le_trans (Nat.le_of_lt y) dn
  exact wpAny_execs_nil (hq h₅ tk₅ dx ⟨fun b o hb e => k₅ b o hb (k₄ b o hb (k₃ b o (hk₁ b o e))), ⟨u4, hx₅⟩, z5, dne, hn₅⟩)
theorem deep_made (T : DeepTxt prog K mg cn t1 t2 C fI) (BM : L2.Mod K mg base) (bk : ∀ b o, base.get? b = some o → s.heap.get? b = some o) {i : Int} {ti : Tok} (hi : i.natAbs.log2 < 1920) (ht1 : t1.length ≤ 1000) (ht2 : t2.length ≤ 1000) (hlim : s.heap.NoLimit) (hroom : A.depth + 1 < recursionLimit)
    (hq : ∀ h' tk e d, OwnMade s.heap h' e C d (.int i ti) → R (.ok (.ret (.ref e))) { s with heap := h', toks := tk }) :
    codeAny (model prog w) A (.call (.ref C) ⟨[.int i ti], []⟩) R s := by
  have X : K.In s.heap := BM.kin.keeps bk
  obtain ⟨nm, q, N, bs, bm, sn, sub, ab, col, dd, k0, k1, k2, k3, k5, hC, hbm⟩ := T.cls
  obtain ⟨hp, g, dr, tk, os⟩ := s
  have k : ∀ b o, hp.get? b = some o → ((hp.push (kdv_tup [.int i ti])).push (excO C hp.objs.size)).get? b = some o := fun b o e => Heap.get?_push_of_some _ (Heap.get?_push_of_some _ e)
  have hget : ((hp.push (kdv_tup [.int i ti])).push (excO C hp.objs.size)).get? (hp.objs.size + 1) = some (excO C hp.objs.size) := by heap_get
  have hnb : base.get? (hp.objs.size + 1) = none := by
    cases e : base.get? (hp.objs.size + 1) with
    | none => rfl
    | some o =>
      have z : hp.get? (hp.objs.size + 1) = some o := bk _ _ e
      exact absurd (Nat.lt_of_succ_lt (Heap.lt_size z)) (Nat.lt_irrefl _)
  refine call_own F.excBase_ValueError (fun X => refsVE_contains X bm hbm) (X _ _ hC) (looks_findIn X T.iC) (fun self => bind_fn X self T.tC) (by show 1 ≤ sizeLine; rw [sizeLine_eq]; omega) ?_
  refine deep_init (s := ⟨(hp.push (kdv_tup [.int i ti])).push (excO C hp.objs.size), g, dr, tk, os⟩) T BM (fun b o e => k b o (bk b o e)) hi ht1 ht2 (hlim.keeps k) hget hnb ?_ fun h' tk' dx ⟨k', hx, dn, dne, hns⟩ => ?_
  · show A.depth + 1 < recursionLimit
    exact hroom
  · have old : ∀ b o, hp.get? b = some o → h'.get? b = some o := fun b o e => k' b o (Nat.ne_of_lt (Nat.lt_succ_of_lt (Heap.lt_size e))) (k b o e)
    have z : hp.objs.size + 1 + 1 ≤ dx := by
      first
        | (simpa only [Heap.size_push] using dn)
        | exact dn
        | (have q := dn; rw [Heap.size_push, Heap.size_push] at q; exact q)
    obtain ⟨t1, hx⟩ := hx
    exact ⟨rfl, hq h' tk' (hp.objs.size + 1) dx ⟨old, Nat.le_succ _, ⟨_, _, hx, rfl, rfl, rfl, rfl, rfl⟩, Nat.le_trans (Nat.le_trans (Nat.le_succ _) (Nat.le_succ _)) z, dne, hns⟩⟩
end
end DeepX
namespace L2
open PySem PySem.Spec PyProof.Rows
theorem relO_deep {v : V} {v' : Value} (r : RelV v v') (f : Str) : RelO (List.lookup f [(("place" : Str), v)]) (if f = "place" then some v' else none) := by
  by_cases hw : f = "place"
  · subst hw
    rw [if_pos rfl]
    have q : List.lookup ("place" : Str) [(("place" : Str), v)] = some v := by simp [List.lookup]
    rw [q]
    exact r
  · rw [if_neg hw]
    have qw : (f == ("place" : Str)) = false := by simpa using hw
    have q2 : List.lookup f [(("place" : Str), v)] = none := by simp [List.lookup, qw]
    rw [q2]
    trivial
section
variable {X : Cx} {C fI : Addr} {cn t1 t2 : Str}
/-- C(e) -/
def tMkDeep (C : Addr) (ta : TA) : St → Hp → XK → Prop := fun σ H Q => ta σ H fun vs H1 => ∃ i : Int, vs = [.int i] ∧ i.natAbs.log2 < 1920 ∧ ∀ d, H1 d = none → Q (.ref C) (some d) (upd H1 d (.xd [(("place" : Str), .int i)]))
theorem pmk_deep {a : Expr} {ta : TA} {p pos : Pos} {k : Nat} (T : DeepX.DeepTxt X.prog X.K X.mg cn t1 t2 C fI) (hr : Room k X.A) (ha : PA X [a] ta) (ht1 : t1.length ≤ 1000) (ht2 : t2.length ≤ 1000) (hdb : (cn == ("__debug__" : Str)) = false) (hg : Gl X cn := by rfl)
    (he : starEach (a :: []) X.env = (false, eval a X.env) :: starEach [] X.env := by rfl) (hpl : (backTo pos (starEach [] X.env)).any (·.1) = false := by rfl) :
    PMk X (.Call (.Name cn p) [a] [] pos) (tMkDeep C ta) := by
  intro pins s σ H Q I h
  refine wpAny_Call_Name_kw (ld_glob I hg T.gC ?_ hdb)
  refine PySem.W.callWith_K (h₀ := X.base) I.ok.mod.kin T.kC (thn (ha.run pos pins s σ H _ I h) fun us s1 hh => ?_) he hpl
  obtain ⟨vs, H1, I1, r1, i, ev, hi, q1⟩ := hh
  subst ev
  refine ⟨I1.kIn, ?_⟩
  cases r1 with
  | cons rv rn =>
    rename_i v' us'
    cases rn
    obtain ⟨ti, rfl⟩ := rv
    show wpAny _ _ (call (.ref C) [.int i ti]) _ _ _
    have hlim := I1.nolimit
    have bk := I1.bk
    obtain ⟨hp, g, dr, tk, os⟩ := s1
    refine wpAny_call (DeepX.deep_made T I1.ok.mod bk hi ht1 ht2 hlim (by have := hr.dp; omega) fun h' tk' e d M => ?_)
    show MkP X pins σ Q (.ref e) ⟨h', g, dr, tk', os⟩
    obtain ⟨oe, fv, hoe, hc, hd, hdat, h1, _⟩ := M.obj
    have hns := M.ns
    obtain ⟨G', g1, g2⟩ := restrict h' fun b => decide (b ≠ e)
    have gk : ∀ b, b ≠ e → G'.get? b = h'.get? b := fun b hb => g1 b (decide_eq_true hb)
    have ge : G'.get? e = none := g2 e (by simp)
    have old : ∀ b o, hp.get? b = some o → G'.get? b = some o := fun b o q => (gk b (Nat.ne_of_lt (Nat.lt_of_lt_of_le (Heap.lt_size q) M.new))).trans (M.keep b o q)
    have ob : ObjOk X.prog X.w (upd H1 d (.xd [(("place" : Str), .int i)])) G' d (.xd [(("place" : Str), .int i)]) :=
      ⟨_, hns.at (fun o q => (gk d M.dne).trans q), fun f => relO_deep (v := .int i) (v' := .int i ti) (show RelV (.int i) (.int i ti) from ⟨ti, rfl⟩) f⟩
    have J : Inv X pins σ (upd H1 d (.xd [(("place" : Str), .int i)])) ⟨G', g, dr, tk', os⟩ := I1.laid (t' := tk') old M.dbig ob
    refine ⟨e, oe, fv, ⟨G', g, dr, tk', os⟩, _, .ref C, some d, rfl, J, fun b o q => ?_, ge, hoe, ⟨hc, hd⟩, hdat, h1, ?_, rfl, I1.bare, raises_own T.exC T.tyC, q1 d (I1.hok.fresh M.dbig)⟩
    · by_cases hb : b = e
      · have q' : G'.get? b = some o := q
        rw [hb, ge] at q'; cases q'
      · exact (gk b hb).symm.trans q
    · rw [upd_ne (Ne.symm M.dne)]
      exact I1.hok.fresh M.new
/-- raise C(e) -/
def tRaiseDeep (C : Addr) (W : WX) (ta : TA) : TS := fun _ σ H => tMkDeep C ta σ H fun cls d H' => W cls d σ H'
theorem ps_raiseDeep {a : Expr} {ta : TA} {W : WX} {p pos pos2 : Pos} {k : Nat} (hc : X.calm = true) (T : DeepX.DeepTxt X.prog X.K X.mg cn t1 t2 C fI) (hr : Room k X.A) (tk : Takes X W) (ha : PA X [a] ta) (ht1 : t1.length ≤ 1000) (ht2 : t2.length ≤ 1000) (hdb : (cn == ("__debug__" : Str)) = false) (hg : Gl X cn := by rfl)
    (he : starEach (a :: []) X.env = (false, eval a X.env) :: starEach [] X.env := by rfl) (hpl : (backTo pos (starEach [] X.env)).any (·.1) = false := by rfl) :
    PS X (.Raise (some (.Call (.Name cn p) [a] [] pos)) none pos2) (tRaiseDeep C W ta) := ps_raise hc tk (pmk_deep T hr ha ht1 ht2 hdb hg he hpl)
/-- e.place, e the exception that the suite holds (at a; its class cls, its dict d) -/
def tByDeep (C : Addr) (a : Addr) (cls : Value) (d : Option Addr) (te : TE) : TE := fun σ H Q => te σ H fun x H1 => x = .ref a ∧ cls = .ref C ∧ ∃ (dd : Addr) (v : V), d = some dd ∧ H1 dd = some (.xd [(("place" : Str), v)]) ∧ Q v H1
theorem pe_byDeep {a : Addr} {oe : Obj} {cls : Value} {d : Option Addr} {pn : List (Addr × Obj)} {e : Expr} {te : TE} {pos : Pos} (T : DeepX.DeepTxt X.prog X.K X.mg cn t1 t2 C fI) (hz : Zc cls d oe) (hf : ∃ vs, oe.data = .fields vs) (he : PE (X.suite a ((a, oe) :: pn)) e te)
    (hb : attributeBase e "place" X.env (eval e X.env) = eval e X.env := by rfl) :
    PE (X.suite a ((a, oe) :: pn)) (.Attribute e "place" pos) (tByDeep C a cls d te) := by
  refine ⟨fun pins s σ H Q I h => ?_⟩
  refine attr_of hb (thn (he.run pins s σ H _ I h) fun u s1 hh => ?_)
  obtain ⟨x, H1, I1, rx, ex, ec, dd, v, ed, ea, q⟩ := hh
  subst ex
  obtain rfl : u = Value.ref a := rx
  subst ec
  subst ed
  obtain ⟨ha, _⟩ := I1.pin (a, oe) (List.mem_append_left _ List.mem_cons_self)
  obtain ⟨vs, hd⟩ := hf
  have hx : ObjOk X.prog X.w H1 s1.heap dd (.xd [(("place" : Str), v)]) := I1.hok dd _ ea
  obtain ⟨mA, hns, hr⟩ := hx
  obtain ⟨od, ho, hl⟩ := lookIn_ns hns
  have l : List.lookup ("place" : Str) [(("place" : Str), v)] = some v := by simp [List.lookup]
  obtain ⟨u, hu, ru⟩ := RelO.some_of (v := v) (o := mA "place") (by rw [← l]; exact hr "place")
  have J : PySem.W.InstAt s1.heap a oe C (some od) := ⟨ha, hz.1, by unfold PySem.W.notCls; rw [hd] <;> rfl, by rw [hz.2]; exact ho⟩
  exact HandSPX.exc_get I1.kIn J T.ga T.gg T.exC (PySem.W.findObj_own T.hdC T.noN rfl (by rw [hl, hu])) (handed_of ru) ⟨v, H1, I1.tok _, ru, q⟩
end
end L2
/-! The own errors of LmD, with what is known of their context: none. -/
namespace L2
open PySem PySem.Spec PyProof.Rows
section
variable {X : Cx} {C fI : Addr} {cn t1 t2 : Str}
theorem pmk_deepN {a : Expr} {ta : TA} {p pos : Pos} {k : Nat} (T : DeepX.DeepTxt X.prog X.K X.mg cn t1 t2 C fI) (hr : L2H.RoomH k X.A) (ha : PA X [a] ta) (ht1 : t1.length ≤ 1000) (ht2 : t2.length ≤ 1000) (hdb : (cn == ("__debug__" : Str)) = false) (hg : Gl X cn := by rfl)
    (he : starEach (a :: []) X.env = (false, eval a X.env) :: starEach [] X.env := by rfl) (hpl : (backTo pos (starEach [] X.env)).any (·.1) = false := by rfl) :
    L2N.PMk X (.Call (.Name cn p) [a] [] pos) (tMkDeep C ta) := by
  intro pins s σ H Q I h
  refine wpAny_Call_Name_kw (ld_glob I hg T.gC ?_ hdb)
  refine PySem.W.callWith_K (h₀ := X.base) I.ok.mod.kin T.kC (thn (ha.run pos pins s σ H _ I h) fun us s1 hh => ?_) he hpl
  obtain ⟨vs, H1, I1, r1, i, ev, hi, q1⟩ := hh
  subst ev
  refine ⟨I1.kIn, ?_⟩
  cases r1 with
  | cons rv rn =>
    rename_i v' us'
    cases rn
    obtain ⟨ti, rfl⟩ := rv
    show wpAny _ _ (call (.ref C) [.int i ti]) _ _ _
    have hlim := I1.nolimit
    have bk := I1.bk
    obtain ⟨hp, g, dr, tk, os⟩ := s1
    refine wpAny_call (DeepX.deep_made T I1.ok.mod bk hi ht1 ht2 hlim (by have := hr.dp; omega) fun h' tk' e d M => ?_)
    show L2N.MkP X pins σ Q (.ref e) ⟨h', g, dr, tk', os⟩
    obtain ⟨oe, fv, hoe, hc, hd, hdat, h1, h2⟩ := M.obj
    have hns := M.ns
    obtain ⟨G', g1, g2⟩ := restrict h' fun b => decide (b ≠ e)
    have gk : ∀ b, b ≠ e → G'.get? b = h'.get? b := fun b hb => g1 b (decide_eq_true hb)
    have ge : G'.get? e = none := g2 e (by simp)
    have old : ∀ b o, hp.get? b = some o → G'.get? b = some o := fun b o q => (gk b (Nat.ne_of_lt (Nat.lt_of_lt_of_le (Heap.lt_size q) M.new))).trans (M.keep b o q)
    have ob : ObjOk X.prog X.w (upd H1 d (.xd [(("place" : Str), .int i)])) G' d (.xd [(("place" : Str), .int i)]) :=
      ⟨_, hns.at (fun o q => (gk d M.dne).trans q), fun f => relO_deep (v := .int i) (v' := .int i ti) (show RelV (.int i) (.int i ti) from ⟨ti, rfl⟩) f⟩
    have J : Inv X pins σ (upd H1 d (.xd [(("place" : Str), .int i)])) ⟨G', g, dr, tk', os⟩ := I1.laid (t' := tk') old M.dbig ob
    refine ⟨e, oe, fv, ⟨G', g, dr, tk', os⟩, _, .ref C, some d, rfl, J, fun b o q => ?_, ge, hoe, ⟨hc, hd, fun vs' e' => by
      have e2 : fv = vs' := Data.fields.inj (hdat.symm.trans e')
      rw [← e2]
      exact h2⟩, hdat, h1, ?_, rfl, I1.bare, raises_own T.exC T.tyC, q1 d (I1.hok.fresh M.dbig)⟩
    · by_cases hb : b = e
      · have q' : G'.get? b = some o := q
        rw [hb, ge] at q'; cases q'
      · exact (gk b hb).symm.trans q
    · rw [upd_ne (Ne.symm M.dne)]
      exact I1.hok.fresh M.new
end
end L2
/-! isinstance of a caught error that may have a dict of its own; a text once or not at all. -/
namespace Lm
open PySem PySem.Spec PyProof.Rows L2
/-- isinstance(e, c), e the error that the suite holds: its class cls, its dict dd -/
def rIsA (K : PySem.W.Frag) (a : Addr) (cls : Value) (dd : Option Addr) : List V → Hp → VK → Prop := fun xs H Q => ∃ (D : Addr) (c : V) (cv : Value) (b : Bool), xs = [.ref a, c] ∧ cls = .ref D ∧ ExcC K D ∧ (∀ d, dd = some d → ∃ fs, H d = some (.xd fs)) ∧ (∀ u, RelV c u → u = cv) ∧ PySem.W.kitOne K (.ref D) cv = some b ∧ Q (.bl b) H
theorem call_isA {X : Cx} {a : Addr} {cls : Value} {dd : Option Addr} {oe : Obj} {pn : List (Addr × Obj)} (hz : Zc cls dd oe) (hf : ∃ vs, oe.data = .fields vs) : CallR (X.suite a ((a, oe) :: pn)) (.builtin "isinstance") (rIsA X.K a cls dd) := by
  intro pins s σ H xs us Q I r h
  obtain ⟨D, c, cv, b, rfl, rfl, C, hd, hcv, e, q⟩ := h
  cases r with
  | cons rx rr =>
    cases rr with
    | cons rt rr =>
      cases rr
      cases rx
      have ec := hcv _ rt
      subst ec
      obtain ⟨hget, _⟩ := I.pin (a, oe) (List.mem_append.mpr (.inl List.mem_cons_self))
      obtain ⟨vs, hv⟩ := hf
      have J : ∃ od, PySem.W.InstAt s.heap a oe D od := by
        obtain ⟨h1, h2⟩ := hz
        cases dd with
        | none => exact ⟨none, hget, h1, by unfold PySem.W.notCls; rw [hv] <;> rfl, by rw [h2]; exact True.intro⟩
        | some d =>
          obtain ⟨fs, ef⟩ := hd d rfl
          have hx : ObjOk X.prog X.w H s.heap d (.xd fs) := I.hok d _ ef
          obtain ⟨mA, hns, _⟩ := hx
          obtain ⟨od, ho, _⟩ := lookIn_ns hns
          exact ⟨some od, hget, h1, by unfold PySem.W.notCls; rw [hv] <;> rfl, by rw [h2]; exact ho⟩
      obtain ⟨od, J⟩ := J
      exact PySem.W.kia_one (PySem.W.kitx_exc (by obtain ⟨cd, hc, _⟩ := PySem.W.any_some C.hd; rw [hc]; rfl) C.hg C.hk C.hs C.ha C.hn C.ht C.hm) I.kIn J e (fun z => nomatch z) fun tk => ⟨.bl b, H, I.kept (t' := tk) fun _ _ z => z, rfl, q⟩
/-- a text, once or not at all -/
theorem op_mul_s {X : Cx} : OpR X (binaryOp .Mult) (fun x y H Q => ∃ (z : Str) (b : Bool), x = .str z ∧ y = .int (if b then 1 else 0) ∧ z.length ≤ 1000 ∧ Q (.str (if b then z else Str.empty)) H) := by
  intro pins s σ H x y v u Q I rx ry h
  obtain ⟨z, b, rfl, rfl, hz, q⟩ := h
  obtain ⟨t, rfl⟩ := rx
  obtain ⟨t', rfl⟩ := ry
  have hs : z.length ≤ sizeLine := by rw [sizeLine_eq]; omega
  cases b with
  | false => exact PySem.P.mul_str_none (by decide) (by decide) ⟨.str Str.empty, H, I.tok _, ⟨_, rfl⟩, q⟩
  | true =>
    refine PySem.P.mul_str (n := 1) (by decide) (fun _ e => by exact absurd e (by simp)) (fun _ e => by exact absurd e (by simp)) ?_
    rw [if_neg (by decide), if_pos (by simp)]
    exact ⟨.str z, H, I, ⟨_, rfl⟩, q⟩
end Lm
/-! Where an exception is handled: a loop over a list. -/
namespace HotX
open PySem PySem.Spec PyProof.Rows
section
variable {prog : Program} {w : World} {A : Around} {E : Value → Shared → Prop} {s : Shared}
/-- the end of a list's iterator, while an exception is handled -/
theorem pyNext_list_end_hot {it l x1 : Addr} {i : Nat} {items : Array Value} {Q : Option Value → Shared → Prop} (hot : HotAt A x1 s.heap) (hne : x1 ≠ it)
    (hit : s.heap.IsListIter it l i) (hl : s.heap.IsList l items) (hx : items[i]? = none)
    (hQ : ∀ h', Heap.ExtBut it s.heap h' → Q none { s with heap := h' }) : wpAny (model prog w) A (pyNext (.ref it)) Q E s := by
  obtain ⟨o, ho, hc, hd⟩ := id hit
  obtain ⟨ol, hol, _, nl, hdl⟩ := hl
  obtain ⟨hh, o1, vs1, h1, d1, c1⟩ := hot
  unfold pyNext
  refine wpAny_bind (wpAny_attempt (wpAny_callSpecial?_slot (name := Str.ofString "__next__") hit.typeIs slot_listiter_next
    (wpAny_call_entry slot_listiter_next hit.typeIs entry_listiter_next ?_ (args_listiter_next _))))
  show wpAny _ _ (field (.ref it) 0 >>= _) _ _ s
  refine wpAny_bind (wpAny_field ho hd (x := .ref l) rfl ?_)
  show wpAny _ _ (if (Value.ref l == Value.none) = true then _ else _) _ _ s
  rw [if_neg (show ¬ ((Value.ref l == Value.none) = true) from Bool.false_ne_true)]
  show wpAny _ _ (field (.ref it) 1 >>= _) _ _ s
  refine wpAny_bind (wpAny_field ho hd (x := .int i 0) rfl ?_)
  show wpAny _ _ (seqItems? (.ref l) >>= _) _ _ s
  refine wpAny_bind (wpAny_seqItems hol hdl ?_)
  simp only [Int.toNat_natCast, hx]
  refine wpAny_bind (wpAny_rule (wpAny_bind (wpAny_setField ho hd (by simp) ?_)))
  show wpAny _ _ (newExc (.type "StopIteration") [] >>= _) _ _ _
  refine wpAny_bind ?_
  simp only [newExc, newTuple]
  refine wpAny_bind (wpAny_newObj_type ?_ (by size_fits))
  refine wpAny_bind (m := firstArgMember _ _) (wpAny_of_eq (a := Value.none) (by first | rfl | (simp only [firstArgMember]; rfl)) ?_)
  refine wpAny_newObj_type ?_ (by size_fits)
  have h1' := (Heap.get?_update_other s.heap (Obj.mapFields (·.setIfInBounds 0 .none)) (Ne.symm hne)).trans h1
  refine raiseNew_hot ⟨hh, o1, vs1, Heap.get?_push_of_some _ (Heap.get?_push_of_some _ ?_), d1, c1⟩ ?_ (Heap.get?_push_size _ rfl) rfl (by first | (simp; done) | (simp; omega) | (simp only [Array.size_append]; simp; omega)) ?_
  · exact h1'
  · exact Nat.ne_of_lt (Heap.lt_size (Heap.get?_push_of_some _ h1'))
  · refine wpAny_bind (wpAny_isInstance (T := "StopIteration") (b := true) ⟨_, Heap.get?_update_self _ (Heap.get?_push_size _ rfl) rfl, rfl⟩ isSubtype_stop ?_)
    refine wpAny_pure (hQ _ fun b u hb e => ?_)
    have e' := (Heap.get?_update_other s.heap (Obj.mapFields (·.setIfInBounds 0 .none)) (Ne.symm hb)).trans e
    exact (Heap.get?_update_other _ _ (Nat.ne_of_gt (Heap.lt_size (Heap.get?_push_of_some _ e')))).trans (Heap.get?_push_of_some _ (Heap.get?_push_of_some _ e'))
end
end HotX
namespace L2H
open PySem PySem.Spec PyProof.Rows L2 HotX
theorem turn_listH {P : Program} {w : World} {K : PySem.W.Frag} {tg : Expr} (a it : Addr) : TurnH P w K tg (Itl K a) [it] it (fun i h => h.IsListIter it a i) where
  mem := by simp
  obj := (L2.turn_list (P := P) (w := w) (K := K) (tg := tg) a it).obj
  keep := (L2.turn_list (P := P) (w := w) (K := K) (tg := tg) a it).keep
  item := by
    intro X hP hw hK hc i pins s σ H E I hf st hg
    subst hP hw hK
    obtain ⟨xs, x, hq, hx⟩ := hg
    obtain ⟨its, rv, p, hz⟩ := I.list hq
    obtain ⟨u, hu, ru⟩ := rv.get hx
    obtain ⟨f0, f1, f2, f3, f4, f5⟩ := hf it (by simp)
    refine wpAny_pyNext_list_item st p.isList (x := u) (by simpa using hu) fun h' st' sb => ?_
    have I1 : Inv X pins σ H { s with heap := h' } := I.turned (t' := s.toks) (fun b o hb e => (sb.2 b hb).trans e) f0 f1 f3 f4 f5
    obtain ⟨o, e, c, d⟩ := id st'
    exact ⟨u, rfl, go_of (s := { s with heap := h' }) e c d (by decide) ⟨x, H, I1, ru, ⟨rfl, fun ys hy => by rw [I.list_inj hy hq]; exact hx⟩, st', fun b hb => (hf b hb).1⟩⟩
  done := by
    intro X hP hw hK hc i pins s σ H E I hf st hg
    subst hP hw hK
    obtain ⟨xs, hq, hx⟩ := hg
    obtain ⟨its, rv, p, hz⟩ := I.list hq
    obtain ⟨f0, f1, f2, f3, f4, f5⟩ := hf it (by simp)
    have hl := rv.length
    obtain ⟨p1, ⟨hh, v1, e1, c1⟩, hp1⟩ := hc
    have hot : HotAt X.A p1.1 s.heap := ⟨hh, p1.2, v1, (I.pin p1 (List.mem_append_left _ hp1)).1, e1, c1⟩
    have hne : p1.1 ≠ it := f5 p1 (List.mem_append_left _ hp1)
    exact pyNext_list_end_hot hot hne st p.isList (by simp; omega) fun h' eb => ⟨rfl, I.turned (t' := s.toks) (fun b o hb e => eb b o hb e) f0 f1 f3 f4 f5⟩
  self := fun _ _ _ _ _ st h => wpAny_pyIter_listiter st h
theorem pi_listH {X : Cx} {tg l : Expr} {tl : TE} (hl : PE X l tl) : PIH X tg l (iList X.K tl) := by
  refine ⟨fun pins s σ H R I h => ?_⟩
  refine thn (hl.run pins s σ H _ I h) fun v s1 ⟨x, H1, I1, r1, q1⟩ => ?_
  obtain ⟨a, e, ⟨xs, hq⟩, q⟩ := q1
  subst e
  cases r1
  obtain ⟨its, rv, p, hz⟩ := I1.list hq
  refine wpAny_pyIter_list p.isList ?_
  refine ⟨s1.heap.objs.size, [s1.heap.objs.size], _, _, H1, rfl, I1.kept (t' := s1.toks) fun b o e => Heap.get?_push_of_some _ e, turn_listH a _, ⟨_, Heap.get?_push_size _ rfl, rfl, rfl⟩, fun b hb => ?_, q⟩
  have e : b = s1.heap.objs.size := by simpa using hb
  subst e
  exact I1.fpOk (Nat.le_refl _) (I1.hok.fresh (Nat.le_refl _))
end L2H
/-! Where an exception is handled: a test of each letter by a generator expression. -/
namespace HotX
open PySem PySem.Spec PyProof.Rows
section
variable {prog : Program} {w : World} {A : Around} {E : Value → Shared → Prop} {s : Shared}
/-- a StopIteration is made and raised there; what stood stands -/
theorem stop_hot {α : Type} {x1 : Addr} {o1 : Obj} {vs1 : Array Value} {Q : α → Shared → Prop} (hh : A.handled = some (.ref x1)) (h1 : s.heap.get? x1 = some o1) (d1 : o1.data = .fields vs1) (c1 : vs1[2]? = some .none)
    (hE : ∀ (h' : Heap) (e : Addr), (∀ b o, s.heap.get? b = some o → h'.get? b = some o) → (∃ o, h'.get? e = some o ∧ o.cls = .type "StopIteration") → E (.ref e) { s with heap := h' }) :
    wpAny (model prog w) A (do let e ← newExc (.type "StopIteration") []; raiseNew e : Sem α) Q E s := by
  refine wpAny_bind ?_
  simp only [newExc, newTuple]
  refine wpAny_bind (wpAny_newObj_type ?_ (by size_fits))
  refine wpAny_bind (m := firstArgMember _ _) (wpAny_of_eq (a := Value.none) (by first | rfl | (simp only [firstArgMember]; rfl)) ?_)
  refine wpAny_newObj_type ?_ (by size_fits)
  refine raiseNew_hot ⟨hh, o1, vs1, Heap.get?_push_of_some _ (Heap.get?_push_of_some _ h1), d1, c1⟩ (Nat.ne_of_lt (Heap.lt_size (Heap.get?_push_of_some _ h1))) (Heap.get?_push_size _ rfl) rfl (by first | (simp; done) | (simp; omega) | (simp only [Array.size_append]; simp; omega)) ?_
  refine hE _ _ (fun b o e => ?_) ⟨_, Heap.get?_update_self _ (Heap.get?_push_size _ rfl) rfl, rfl⟩
  rw [Heap.get?_update_other _ _ (Nat.ne_of_gt (Heap.lt_size (Heap.get?_push_of_some _ e)))]
  exact Heap.get?_push_of_some _ (Heap.get?_push_of_some _ e)
theorem pyNext_ascii_end_hot {it x1 : Addr} {x : Str} {t : Tok} {i : Nat} {o1 : Obj} {vs1 : Array Value} {Q : Option Value → Shared → Prop} (hh : A.handled = some (.ref x1)) (h1 : s.heap.get? x1 = some o1) (d1 : o1.data = .fields vs1) (c1 : vs1[2]? = some .none) (hne : x1 ≠ it)
    (hit : s.heap.IsStrIter it "str_ascii_iterator" x t i) (hx : x.cps[i]? = none)
    (hQ : ∀ h', Heap.ExtBut it s.heap h' → Q none { s with heap := h' }) : wpAny (model prog w) A (pyNext (.ref it)) Q E s := by
  obtain ⟨o, ho, hc, hd⟩ := id hit
  unfold pyNext
  refine wpAny_bind (wpAny_attempt (wpAny_callSpecial?_slot (name := Str.ofString "__next__") hit.typeIs F.slot_str_ascii_iterator_next
    (wpAny_call_entry F.slot_str_ascii_iterator_next hit.typeIs F.entry_str_ascii_iterator_next ?_ (F.args_str_ascii_iterator_next_1 _))))
  show wpAny _ _ (field (.ref it) 0 >>= _) _ _ s
  refine wpAny_bind (wpAny_field ho hd (x := .str x t) rfl ?_)
  show wpAny _ _ (field (.ref it) 1 >>= _) _ _ s
  refine wpAny_bind (wpAny_field ho hd (x := .int i 0) rfl ?_)
  simp only [Int.toNat_natCast, hx]
  refine wpAny_bind (wpAny_rule (wpAny_bind (wpAny_setField ho hd (by simp) (wpAny_bind (wpAny_letGo ?_)))))
  have h1' := (Heap.get?_update_other s.heap (Obj.mapFields (·.setIfInBounds 0 .none)) (Ne.symm hne)).trans h1
  refine stop_hot hh h1' d1 c1 fun h' e hk he => ?_
  refine wpAny_bind (wpAny_isInstance (T := "StopIteration") (b := true) he isSubtype_stop ?_)
  exact wpAny_pure (hQ _ fun b u hb e' => hk b u ((Heap.get?_update_other s.heap (Obj.mapFields (·.setIfInBounds 0 .none)) (Ne.symm hb)).trans e'))
/-- the letters of a text, walked there -/
theorem walks_hot {x1 : Addr} {o1 : Obj} {vs1 : Array Value} (d1 : o1.data = .fields vs1) (c1 : vs1[2]? = some .none) {I : Addr} (hne : x1 ≠ I) (x : Str) (t : Tok) (A : Around) (hh : A.handled = some (.ref x1)) :
    Walks prog w A I [I, x1] [I] x.cps.size (SignAt x) (fun i h => h.IsStrIter I "str_ascii_iterator" x t i ∧ h.get? x1 = some o1) where
  sub := fun b hb => by
    rw [List.mem_singleton.mp hb]
    simp
  frame := fun _ _ _ ⟨⟨o, ho, r⟩, st⟩ hk => ⟨⟨o, hk I (by simp) o ho, r⟩, hk x1 (by simp) o1 st⟩
  item := fun i s Q E hi st hQ => by
    refine wpAny_pyNext_ascii_item st.1 (c := x.cps[i]) (by simp [hi]) fun h' hit' hs' => ?_
    have ne1 : x1 ≠ I := hne
    exact hQ _ h' (s.toks + 1) ⟨_, _, by simp [hi], rfl⟩ ⟨hit', hs'.extBut x1 o1 ne1 st.2⟩ fun b o hb e => hs'.extBut b o (fun h => hb (by simp [h])) e
  done := fun s Q E st hQ => pyNext_ascii_end_hot hh st.2 d1 c1 hne st.1 (by simp) fun h' he' => hQ h' s.toks fun b o hb e => he' b o (fun h => hb (by simp [h])) e
  self := fun _ _ _ _ st hQ => wpAny_pyIter_striter_ascii st.1 hQ
end
end HotX
/-! Where an exception is handled: a generator expression without a condition, walked. -/
namespace HotX
open PySem PySem.Spec PyProof.Rows
abbrev every : Nat → Bool := fun _ => true
section
variable {prog : Program} {w : World} {A : Around}
/-- the element, whatever is handled -/
def EltQ (prog : Program) (w : World) (cenv : Env) (x : Str) (elt : Expr) (P F : Nat → Value → Prop) : Prop :=
  ∀ (A' : Around) (E' : Value → Shared → Prop) (i : Nat) (v : Value) (s₂ : Shared) (m₂ : Str → Option Value), P i v → s₂.heap.Ns cenv.locals m₂ → m₂ x = some v → wpAny (model prog w) A' (eval elt cenv) (fun y s₃ => F i y ∧ Keeps s₂ s₃) E' s₂
theorem loop_hot {hv : Option Value} {elt iter : Expr} {x : Str} {px : Pos} {scope : Scope} {pos : Pos} {I : Addr} {fp wr : List Addr} {n₀ : Nat} {P F : Nat → Value → Prop} {St₀ : Nat → Heap → Prop} {cenv : Env}
    (hh : A.handled = hv) (W₀ : ∀ A' : Around, A'.handled = hv → Walks prog w A' I fp wr n₀ P St₀) (hx : cenv.kindOf x = some .local) (hp : (cenv.scope.kind == .class || (cenv.scope.kind == .module && cenv.locals != cenv.globals)) = false)
    (hco : cenv.scope.isCoroutine = false) (hCf : cenv.locals ∉ fp) (hq : EltQ prog w cenv x elt P F) :
    ∀ (k i : Nat) (s₀ s : Shared) (m : Str → Option Value), n₀ - i = k → i ≤ n₀ → St₀ i s.heap → s.heap.Ns cenv.locals m → GenSince cenv.locals wr s₀ s →
      Seg (model prog w) A (fun n s₀ r s₁ => r = .ok .next ∧ (n = 0 ∧ GenSince cenv.locals wr s₀ s₁)) (genProto cenv.locals fp wr every n₀ F) (passing every n₀ i).length s₀
        (.compLoop (.GeneratorExp elt [⟨.Name x px, iter, [], 0⟩] scope pos) 0 (.ref I) .none cenv)
        ((model prog w).den (.compLoop (.GeneratorExp elt [⟨.Name x px, iter, [], 0⟩] scope pos) 0 (.ref I) .none cenv)) [] s := by
  have over : (A.over (.compLoop (.GeneratorExp elt [⟨.Name x px, iter, [], 0⟩] scope pos) 0 (.ref I) .none cenv) []).handled = hv := hh
  have WA := W₀ A hh
  have hCw : cenv.locals ∉ wr := fun h => hCf (WA.sub _ h)
  intro k
  induction k with
  | zero =>
    intro i s₀ s m hk hi hst hn since
    obtain rfl : i = n₀ := by omega
    show Seg _ A _ _ _ s₀ _ ((compTurn (.GeneratorExp elt [⟨.Name x px, iter, [], 0⟩] scope pos) 0 (.ref I) .none cenv).onRaise (leaving cenv)) [] s
    rw [compTurn_gen, Sem.onRaise_eq_wrap]
    refine seg_bind_wrap (wpAny_standAt (seg_bind_wrap ((W₀ _ over).done s _ _ hst fun h' tk keep => ?_)))
    exact seg_end (.ok .next) ⟨rfl, by rw [passing_end]; rfl, since.step fun b o _ hw e => keep b o hw e⟩
  | succ k ih =>
    intro i s₀ s m hk hi hst hn since
    have hlt : i < n₀ := by omega
    show Seg _ A _ _ _ s₀ _ ((compTurn (.GeneratorExp elt [⟨.Name x px, iter, [], 0⟩] scope pos) 0 (.ref I) .none cenv).onRaise (leaving cenv)) [] s
    rw [compTurn_gen, Sem.onRaise_eq_wrap]
    refine seg_bind_wrap (wpAny_standAt (seg_bind_wrap ((W₀ _ over).item i s _ _ hlt hst fun v h₁ tk₁ pv st₁ keep₁ => ?_)))
    refine seg_bind_wrap (wpAny_of_eq (rfl : letOwnedTupleGo (.Name x px) (.ref I) v = pure ()) ?_)
    refine seg_bind_wrap (wpAny_assign_Name (wpAny_storeName_local hx (hn.at' fun o e => keep₁ _ o hCw e) (fun h₂ ns₂ same₂ => ?_) hp))
    have on₂ : ∀ b o, b ≠ cenv.locals → b ∉ wr → s.heap.get? b = some o → h₂.get? b = some o := fun b o n1 n2 e => same₂.extBut b o n1 (keep₁ b o n2 e)
    have st₂ : St₀ (i + 1) h₂ := WA.frame _ _ _ st₁ fun b hb o e => same₂.extBut b o (fun h => hCf (h ▸ hb)) e
    simp only [List.forIn_nil]
    refine seg_bind_wrap (wpAny_pure ?_)
    simp only [if_true]
    rw [passing_true hlt rfl, List.length_cons]
    have hy : ∀ v, yieldOut cenv v = yieldValue v := fun v => by simp only [yieldOut, hco, Bool.false_eq_true, if_false]
    simp only [hy]
    rw [Sem.bind_eq_wrap', Sem.bind_eq_wrap', Sem.wrap_wrap, Sem.wrap_wrap]
    refine seg_wrap (wpAny_mono (hq _ _ i v _ _ pv ns₂ (by simp)) (fun y s₄ h₄ => ?_) fun _ _ e => e)
    obtain ⟨fy, h₄, tk₄, rfl, keep₄⟩ := h₄
    refine seg_at (seg_yield rfl rfl rfl ⟨⟨i, passing_here hlt rfl, fy⟩, since.step fun b o n1 n2 e => keep₄ b o (on₂ b o n1 n2 e), fun s'' al => ?_⟩)
    exact seg_again rfl (ih (i + 1) s'' s'' _ (by omega) hlt (WA.frame _ _ _ st₂ fun b hb o e => al b (List.mem_cons_of_mem _ hb) o (keep₄ b o e))
      ((ns₂.keeps keep₄).at' fun o e => al _ (List.mem_cons_self ..) o e) (GenSince.refl _ _ _))
theorem start_hot {hv : Option Value} {elt iter : Expr} {x : Str} {px : Pos} {scope : Scope} {pos : Pos} {I : Addr} {fp wr : List Addr} {n₀ : Nat} {P F : Nat → Value → Prop} {St₀ : Nat → Heap → Prop} {cenv : Env}
    (hh : A.handled = hv) (W₀ : ∀ A' : Around, A'.handled = hv → Walks prog w A' I fp wr n₀ P St₀) (hx : cenv.kindOf x = some .local) (hp : (cenv.scope.kind == .class || (cenv.scope.kind == .module && cenv.locals != cenv.globals)) = false)
    (hco : cenv.scope.isCoroutine = false) (hCf : cenv.locals ∉ fp) (hq : EltQ prog w cenv x elt P F) (s : Shared) (m : Str → Option Value) (hst : St₀ 0 s.heap) (hn : s.heap.Ns cenv.locals m) :
    Seg (model prog w) A (fun n s₀ r s₁ => r = .ok .next ∧ (n = 0 ∧ GenSince cenv.locals wr s₀ s₁)) (genProto cenv.locals fp wr every n₀ F) (passing every n₀ 0).length s
      (.compStart (.GeneratorExp elt [⟨.Name x px, iter, [], 0⟩] scope pos) 0 (.ref I) .none cenv)
      ((model prog w).den (.compStart (.GeneratorExp elt [⟨.Name x px, iter, [], 0⟩] scope pos) 0 (.ref I) .none cenv)) [] s := by
  have over : (A.over (.compStart (.GeneratorExp elt [⟨.Name x px, iter, [], 0⟩] scope pos) 0 (.ref I) .none cenv) []).handled = hv := hh
  have loop := loop_hot (iter := iter) (px := px) (scope := scope) (pos := pos) hh W₀ hx hp hco hCf hq n₀ 0 s s m (Nat.sub_zero _) (Nat.zero_le _) hst hn (GenSince.refl _ _ _)
  show Seg _ A _ _ _ s _ ((compStart (.GeneratorExp elt [⟨.Name x px, iter, [], 0⟩] scope pos) 0 (.ref I) .none cenv).onRaise (leaving cenv)) [] s
  unfold compStart
  rw [Sem.onRaise_eq_wrap]
  show Seg _ A _ _ _ s _ ((ask >>= _).wrap _ _ _ _) [] s
  refine seg_bind_wrap (wpAny_askSetting ?_)
  split
  · exact seg_again rfl loop
  · first
      | exact seg_bind_wrap (wpAny_rule (seg_bind_wrap (wpAny_standAt (seg_bind_wrap ((W₀ _ over).self 0 s _ _ hst (seg_again rfl loop))))))
      | (refine seg_bind_wrap (wpAny_rule ?_); show Seg _ A _ _ _ s _ ((standAt iter.pos >>= _).wrap _ _ _ _) [] s; exact seg_bind_wrap (wpAny_standAt (seg_bind_wrap ((W₀ _ over).self 0 s _ _ hst (seg_again rfl loop)))))
end
section
variable {prog : Program} {w : World} {A : Around} {E : Value → Shared → Prop} {s : Shared}
theorem stop_hot2 {α β : Type} {x1 : Addr} {o1 : Obj} {vs1 : Array Value} {k : α → Sem β} {Q : β → Shared → Prop} (hh : A.handled = some (.ref x1)) (h1 : s.heap.get? x1 = some o1) (d1 : o1.data = .fields vs1) (c1 : vs1[2]? = some .none)
    (hE : ∀ (h' : Heap) (e : Addr), (∀ b o, s.heap.get? b = some o → h'.get? b = some o) → (∃ o, h'.get? e = some o ∧ o.cls = .type "StopIteration") → E (.ref e) { s with heap := h' }) :
    wpAny (model prog w) A (newExc (.type "StopIteration") [] >>= fun e => (raiseNew e : Sem α) >>= k) Q E s := by
  have q := stop_hot (prog := prog) (w := w) (α := α) (Q := fun _ _ => False) (E := E) hh h1 d1 c1 hE
  have e : (newExc (.type "StopIteration") [] >>= fun e => (raiseNew e : Sem α) >>= k) = ((do let e ← newExc (.type "StopIteration") []; raiseNew e : Sem α) >>= k) := by
    first
      | exact (bind_assoc ..).symm
      | simp
  rw [e]
  exact wpAny_bind (wpAny_mono q (fun _ _ z => z.elim) fun _ _ z => z)
/-- the next of such a generator, there -/
theorem gen_next_hot {a x1 C : Addr} {o1 : Obj} {vs1 : Array Value} {g n : Nat} {gs : GenState} {wr : List Addr} {Y : Protocol} {Q : Option Value → Shared → Prop} (hh : A.handled = some (.ref x1)) (h1 : s.heap.get? x1 = some o1) (d1 : o1.data = .fields vs1) (c1 : vs1[2]? = some .none) (n1 : x1 ≠ C) (n2 : x1 ∉ wr)
    (hl : s.heap.NoLimit) (hroom : A.depth < recursionLimit) (hg : s.heap.IsGen a g) (hgs : s.gens[g]? = some gs)
    (hgo : gs.Goes (model prog w) A.in1 (fun n s₀ r s₁ => r = .ok .next ∧ (n = 0 ∧ GenSince C wr s₀ s₁)) Y n (.send .none) (s.setGen g .running))
    (hY : ∀ v s₁ gs', gs'.bare = true → Y (n - 1) (s.setGen g .running) v s₁ (fun r' s'' => match n with
        | 0 => False
        | m + 1 => gs'.Goes (model prog w) A.in1 (fun n s₀ r s₁ => r = .ok .next ∧ (n = 0 ∧ GenSince C wr s₀ s₁)) Y m r' s'') → Q (some v) (s₁.setGen g gs'))
    (hP : ∀ s₁, n = 0 ∧ GenSince C wr (s.setGen g .running) s₁ → ∀ h', (∀ b o, s₁.heap.get? b = some o → h'.get? b = some o) → Q none { s₁.setGen g .finished with heap := h' }) :
    wpAny (model prog w) A (pyNext (.ref a)) Q E s := by
  unfold pyNext
  refine wpAny_bind (wpAny_attempt (wpAny_callSpecial?_slot (name := Str.ofString "__next__") hg.typeIs slot_gen_next
    (wpAny_call_entry slot_gen_next hg.typeIs entry_gen_next ?_ (args_gen_next _))))
  show wpAny _ A.in1 (Builtin.Generator.genWake (.ref a) (.send .none)) _ _ s
  unfold Builtin.Generator.genWake
  refine wpAny_bind (wpAny_holding (wpAny_genNumber hg (wpAny_bind (wpAny_genState hgs ?_))))
  cases gs with
  | running => exact hgo.elim
  | finished => exact hgo.elim
  | _ =>
    refine wpAny_bind (wpAny_roomToWake hl hroom ?_)
    show wpAny _ A.in1 (.resume g (.send .none) [] _) _ _ s
    refine wpAny_resumeQ hgs hgo (fun x s₁ hx => ?_) (fun v s₁ gs' hb hv => ?_)
    · obtain ⟨rfl, hp⟩ := hx
      have h1' : s₁.heap.get? x1 = some o1 := by
        obtain ⟨_, h₁, tk₁, rfl, hk₁⟩ := hp
        exact hk₁ x1 o1 n1 n2 h1
      show wpAny _ A.in1 (newExc (.type "StopIteration") [] >>= _) _ _ _
      have hE : ∀ (h' : Heap) (e : Addr), (∀ b o, s₁.heap.get? b = some o → h'.get? b = some o) → (∃ o, h'.get? e = some o ∧ o.cls = .type "StopIteration") → wpAny (model prog w) A (isInstance (.ref e) (.type "StopIteration") >>= fun b => if b = true then pure none else throw (.ref e)) Q E { s₁.setGen g .finished with heap := h' } := fun h' e hk he => by
        refine wpAny_bind (wpAny_isInstance (T := "StopIteration") (b := true) he isSubtype_stop ?_)
        exact wpAny_pure (hP s₁ hp h' hk)
      first
        | exact stop_hot2 (A := A.in1) hh h1' d1 c1 hE
        | exact stop_hot (A := A.in1) hh h1' d1 c1 hE
    · exact wpAny_pure ⟨v, rfl, wpAny_pure (hY v s₁ gs' hb hv)⟩
end
end HotX
/-! Where an exception is handled: all(test for x in a text). -/
namespace HotX
open PySem PySem.Spec PyProof.Rows
section
variable {prog : Program} {w : World} {A : Around}
/-- the generator's states there -/
def GenHot (prog : Program) (w : World) (A : Around) (a : Addr) (g : Nat) (C : Addr) (fp wr : List Addr) (n₀ : Nat) (F : Nat → Value → Prop) (x1 : Addr) (o1 : Obj) (j : Nat) (s : Shared) : Prop := GenAt prog w A a g C fp wr every n₀ F j s ∧ s.heap.get? x1 = some o1
theorem gen_walks_hot {x1 : Addr} {o1 : Obj} {vs1 : Array Value} (hh : A.handled = some (.ref x1)) (d1 : o1.data = .fields vs1) (c1 : vs1[2]? = some .none) (a : Addr) (g : Nat) (C : Addr) (fp wr : List Addr) (n₀ : Nat) (F : Nat → Value → Prop) (haC : a ≠ C) (haf : a ∉ fp) (hsub : ∀ b ∈ wr, b ∈ fp)
    (hroom : A.depth < recursionLimit) (hcs : cStatics ∈ fp) (hcC : cStatics ≠ C) (hcw : cStatics ∉ wr) (hx : x1 ∈ fp) (n1 : x1 ≠ C) (n2 : x1 ∉ wr) :
    WalksS prog w A a (a :: C :: fp) (C :: wr) (GenOnlyQ g) (passing every n₀ 0).length (fun j y => ∃ i, (passing every n₀ 0)[j]? = some i ∧ F i y) (GenHot prog w A a g C fp wr n₀ F x1 o1) where
  sub := fun b hb => by
    rcases List.mem_cons.mp hb with e | hb
    · rw [e]
      simp
    · exact List.mem_cons_of_mem _ (List.mem_cons_of_mem _ (hsub b hb))
  grefl := fun _ => .inl rfl
  gtrans := fun _ _ _ p q => p.trans q
  frame := fun j s h' tk ⟨⟨⟨o, nm, qn, ho, r⟩, ⟨mc, hns, hnn⟩, gs, hgs, hgo⟩, st⟩ _ hk =>
    ⟨⟨⟨o, nm, qn, hk a (List.mem_cons_self ..) o ho, r⟩, ⟨mc, hns.at' fun o e => hk cStatics (List.mem_cons_of_mem _ (List.mem_cons_of_mem _ hcs)) o e, hnn⟩,
      gs, hgs, fun s'' hal => hgo s'' fun b hb o e => hal b hb o (hk b (List.mem_cons_of_mem _ hb) o e)⟩, hk x1 (List.mem_cons_of_mem _ (List.mem_cons_of_mem _ hx)) o1 st⟩
  item := fun j s Q E hj st hQ => by
    obtain ⟨⟨hg, hl, gs, hgs, hgo⟩, st⟩ := st
    obtain ⟨m, hm⟩ : ∃ m, (passing every n₀ 0).length - j = m + 1 := ⟨(passing every n₀ 0).length - j - 1, by omega⟩
    rw [hm] at hgo
    refine wpAny_with_toks (Nat.le_refl s.toks) ?_
    refine gen_next_hot hh st d1 c1 n1 n2 hl hroom hg hgs (hgo _ fun _ _ _ e => e) (fun v s₁ gs' hb hv => ?_) (fun s₁ hp h' hk => ?_)
    · obtain ⟨⟨i, hi, hF⟩, ⟨h₁, tk₁, rfl, keep₁⟩, on⟩ := hv
      rw [show (passing every n₀ 0).length - 1 - (m + 1 - 1) = j from by omega] at hi
      have haw : a ∉ wr := fun h => haf (hsub a h)
      obtain ⟨o, nm, qn, ho, r⟩ := hg
      obtain ⟨mc, hns, hnn⟩ := hl
      intro htk
      have here := setGen_self (x := gs') (setGen_self (s := s) (x := .running) hgs)
      refine hQ v _ ⟨i, hi, hF⟩ ⟨⟨⟨o, nm, qn, keep₁ a o haC haw ho, r⟩, ⟨mc, hns.at' fun o e => keep₁ cStatics o hcC hcw e, hnn⟩, gs', here, fun s'' hal => ?_⟩, keep₁ x1 o1 n1 n2 st⟩
        ⟨fun b o hb e => keep₁ b o (fun h => hb (h ▸ List.mem_cons_self ..)) (fun h => hb (List.mem_cons_of_mem _ h)) e, GenOnlyQ.of ((GenOnly.setGen s g .running).trans (GenOnly.setGen _ g gs')) here hb, rfl, rfl, htk⟩
      rw [show (passing every n₀ 0).length - (j + 1) = m from by omega]
      exact on s'' hal
    · exact absurd hp.1 (Nat.succ_ne_zero m)
  done := fun s Q E st hQ => by
    obtain ⟨⟨hg, hl, gs, hgs, hgo⟩, st⟩ := st
    rw [Nat.sub_self] at hgo
    refine wpAny_with_toks (Nat.le_refl s.toks) ?_
    refine gen_next_hot hh st d1 c1 n1 n2 hl hroom hg hgs (hgo _ fun _ _ _ e => e) (fun v s₁ gs' hb hv => ?_) (fun s₁ hp h' hk => ?_)
    · exact False.elim (hv.2.2 s₁ fun _ _ _ e => e)
    · obtain ⟨_, h₁, tk₁, rfl, keep₁⟩ := hp
      intro htk
      exact hQ _ ⟨fun b o hb e => hk b o (keep₁ b o (fun h => hb (h ▸ List.mem_cons_self ..)) (fun h => hb (List.mem_cons_of_mem _ h)) e), GenOnlyQ.of ((GenOnly.setGen s g .running).trans (GenOnly.setGen _ g .finished)) (setGen_self (setGen_self hgs)) rfl, rfl, rfl, htk⟩
  self := fun _ _ _ _ st hQ => wpAny_pyIter_gen st.1.1 hQ
theorem gen_fresh_hot {hv : Option Value} {elt iter : Expr} {x : Str} {px : Pos} {scope : Scope} {pos : Pos} {I a : Addr} {g : Nat} {fp wr : List Addr} {n₀ : Nat} {P F : Nat → Value → Prop} {St₀ : Nat → Heap → Prop} {cenv : Env}
    (hh : A.handled = hv) (W₀ : ∀ A' : Around, A'.handled = hv → Walks prog w A' I fp wr n₀ P St₀) (hx : cenv.kindOf x = some .local) (hp : (cenv.scope.kind == .class || (cenv.scope.kind == .module && cenv.locals != cenv.globals)) = false)
    (hco : cenv.scope.isCoroutine = false) (hCf : cenv.locals ∉ fp) {s : Shared} {m : Str → Option Value} (hq : EltQ prog w cenv x elt P F)
    (hg : s.heap.IsGen a g) (hgs : s.gens[g]? = some (.fresh (.compStart (.GeneratorExp elt [⟨.Name x px, iter, [], 0⟩] scope pos) 0 (.ref I) .none cenv)))
    (hst : St₀ 0 s.heap) (hn : s.heap.Ns cenv.locals m) (hl : s.heap.NoLimit) : GenAt prog w A a g cenv.locals fp wr every n₀ F 0 s :=
  ⟨hg, hl, _, hgs, fun s'' al => ⟨rfl, start_hot (A := A.in1) hh W₀ hx hp hco hCf hq s'' m ((W₀ A hh).frame _ _ _ hst fun b hb o e => al b (List.mem_cons_of_mem _ hb) o e) (hn.at' fun o e => al _ (List.mem_cons_self ..) o e)⟩⟩
end
end HotX
/-! all(test for x in e) where an exception is handled, e a plain text. -/
namespace GxR
open PySem PySem.Spec PyProof.Rows L2 HotX
section
variable {X : Cx} {pins : List (Addr × Obj)} {σ : L2.St} {H : Hp} {s : Shared}
theorem gen_strH {c P : Addr} {elt iter : Expr} {x : Str} {px gpos : Pos} {scope : Scope} {pb : Nat → Bool} {te : TE} {k : Nat} {Q' : Value → Shared → Prop} {R : Str → Hp → Prop}
    (hr : L2H.RoomH k X.A) (hot : L2H.HotC X) (TB : TabB X.base X.mg c P) (hcode : X.env.code = .ref c) (S : GenS X.env scope x) (hi : PE X iter te) (hel : EltP X.prog X.w scope x elt pb)
    (hs : ∀ v, genFold iter X.env v = pure v) (I : Inv X pins σ H s) (h : te σ H fun v H1 => ∃ a : Str, v = .str a ∧ a.cps.all (· < 128) = true ∧ TabG H1 P ∧ R a H1)
    (hQ : ∀ a H1 g s5, R a H1 → Ready X pins σ H1 P a pb g s5 → Q' (.ref g) s5) :
    wpAny (model X.prog X.w) X.A (eval (.GeneratorExp elt [⟨.Name x px, iter, [], 0⟩] scope gpos) X.env) Q' X.xe s := by
  obtain ⟨p1, ⟨hh, v1, d1, c1⟩, hp1⟩ := hot
  have hroom : X.A.depth < recursionLimit := by have := hr.dp; omega
  refine wpAny_GeneratorExp_make S.co (closure_ok S.free) S.cell S.dot S.kind hroom ?_ hs
  refine thn (hi.run pins s σ H _ I h) fun xv s1 ⟨v, H1, I1, r1, q1⟩ => ?_
  obtain ⟨a, rfl, hasc, ⟨ps, hP, ht⟩, q1⟩ := q1
  obtain ⟨t, rfl⟩ := _root_.id r1
  have pin1 := I1.pin p1 (List.mem_append_left _ hp1)
  refine wpAny_pyIter_ascii hasc ?_
  generalize ho : ({ cls := .type "str_ascii_iterator", data := .fields #[.str a t, .int 0 0] } : Obj) = o
  have hst0 : (s1.heap.push o).IsStrIter s1.heap.objs.size "str_ascii_iterator" a t 0 := ⟨_, Heap.get?_push_size _ (by rw [← ho]; rfl), by rw [← ho], by rw [← ho]; rfl⟩
  have hPs : s1.heap.get? P = some { cls := .none, data := .fields ps } := I1.hok P _ hP
  have hPlt : P < s1.heap.objs.size := Heap.lt_size hPs
  have hP2 : (s1.heap.push o).get? P = some { cls := .none, data := .fields ps } := Heap.get?_push_of_some _ hPs
  have cd : PySem.W.CodeHd (s1.heap.push o) c P := TB.code.keeps fun b u e => Heap.get?_push_of_some _ (I1.bk b u e)
  have lim2 : (s1.heap.push o).NoLimit := I1.nolimit.push o
  have hcP : cStatics ≠ P := fun e => by
    obtain ⟨_, hns, _⟩ := I1.nolimit
    obtain ⟨o', es, ep, ho, hd, _⟩ := hns
    rw [e, hPs] at ho
    cases ho
    cases hd
  have n1P : p1.1 ≠ P := fun e => by
    have z := pin1.2.1
    rw [e, hP] at z
    cases z
  have hcl : cStatics < s1.heap.objs.size := let ⟨_, hns, _⟩ := I1.nolimit; hns.lt
  have sz2 : (s1.heap.push o).objs.size = s1.heap.objs.size + 1 := Heap.size_push ..
  have cont : ∀ (code : Value) (h3 : Heap) (tk : Nat) (ps' : Array Value), Heap.ExtBut P (s1.heap.push o) h3 → (s1.heap.push o).objs.size ≤ h3.objs.size → h3.get? P = some { cls := .none, data := .fields ps' } → (∃ more, ps' = ps ++ more) → TriplesOk ps'.toList →
      wpAny (model X.prog X.w) X.A (builtinsFor X.env.globals X.env.builtins) (fun bi s₄ =>
        ∀ h', h'.Ns s₄.heap.objs.size (fun y => if y = ".0" then some (.ref s1.heap.objs.size) else none) → Heap.SameBut s₄.heap.objs.size (s₄.heap.push { cls := .type "frame", data := .dict #[] }) h' →
          Q' (.ref h'.objs.size) { s₄ with
            gens := s₄.gens.push (.fresh (.compStart (.GeneratorExp elt [⟨.Name x px, iter, [], 0⟩] scope gpos) 0 (.ref s1.heap.objs.size) .none (genEnv scope (cloFrom X.env.cells scope.names []) s₄.heap.objs.size code bi X.env))),
            toks := s₄.toks + 1 + 1 + 1,
            heap := h'.push { cls := .type "generator", data := .fields #[.int s₄.gens.size 0, .str "<genexpr>" (s₄.toks + 1), .str (X.env.qual ++ "<genexpr>") (s₄.toks + 1 + 1)] } }) X.xe { s1 with heap := h3, toks := tk } := by
    intro code h3 tk ps' hx hsz hP3 hmore ht3
    obtain ⟨bm, ob, e1, e2, e3, e4, e5, e6, e7, e8⟩ := TB.bm
    have keep3 : ∀ b u, b ≠ P → s1.heap.get? b = some u → h3.get? b = some u := fun b u hb e => hx b u hb (Heap.get?_push_of_some _ e)
    refine wpAny_builtinsFor (m := X.mg) (by rw [I1.ok.glob]; exact ((I1.mod.glob.keeps I1.bk).push o).extBut hx TB.gP) e1 e2 (keep3 _ _ e4 (I1.bk _ _ e5)) e6 e7 e8 ?_
    intro h' hn' hs'
    have hszh : h'.objs.size = h3.objs.size + 1 := by rw [hs'.1, Heap.size_push]
    have keep' : ∀ b u, h3.get? b = some u → h'.get? b = some u := fun b u e => hs'.extBut b u (Nat.ne_of_lt (Heap.lt_size e)) (Heap.get?_push_of_some _ e)
    have keep5 : ∀ (og : Obj) b u, h3.get? b = some u → (h'.push og).get? b = some u := fun og b u e => Heap.get?_push_of_some _ (keep' b u e)
    have hp13 : h3.get? p1.1 = some p1.2 := keep3 _ _ n1P pin1.1
    have n1I : p1.1 ≠ s1.heap.objs.size := Nat.ne_of_lt (Heap.lt_size pin1.1)
    have lt1 : p1.1 < h3.objs.size := Heap.lt_size hp13
    have ltI : s1.heap.objs.size < h3.objs.size := by omega
    have stI : h3.IsStrIter s1.heap.objs.size "str_ascii_iterator" a t 0 := by
      obtain ⟨o', e, r⟩ := hst0
      exact ⟨o', hx _ _ (Nat.ne_of_gt hPlt) e, r⟩
    have W₀ : ∀ A' : Around, A'.handled = some (.ref p1.1) → Walks X.prog X.w A' s1.heap.objs.size (List.range h3.objs.size) [s1.heap.objs.size] a.cps.size (SignAt a) (fun i h => h.IsStrIter s1.heap.objs.size "str_ascii_iterator" a t i ∧ h.get? p1.1 = some p1.2) :=
      fun A' hA => (walks_hot d1 c1 n1I a t A' hA).mono_fp fun b hb => List.mem_range.mpr (by
        rcases List.mem_cons.mp hb with e | e
        · rw [e]
          exact ltI
        · rw [List.mem_singleton.mp e]
          exact lt1)
    have lim3 : h3.NoLimit := lim2.extBut hx hcP
    have hcl3 : cStatics < h3.objs.size := let ⟨_, hn, _⟩ := lim3; hn.lt
    have W5 := gen_walks_hot (prog := X.prog) (w := X.w) (A := X.A.in4) hh d1 c1 h'.objs.size s1.gens.size h3.objs.size (List.range h3.objs.size) [s1.heap.objs.size] a.cps.size (fun i y => ∃ cc, a.cps[i]? = some cc ∧ y = .bool (pb cc))
      (by rw [hszh]; exact Nat.succ_ne_self _) (fun hm => by have := List.mem_range.mp hm; omega) (fun b hb => List.mem_range.mpr (by rw [List.mem_singleton.mp hb]; exact ltI)) hroom (List.mem_range.mpr hcl3) (Nat.ne_of_lt hcl3) (fun z => Nat.ne_of_lt hcl (List.mem_singleton.mp z)) (List.mem_range.mpr lt1) (Nat.ne_of_lt lt1) (fun z => n1I (List.mem_singleton.mp z))
    have hq : ∀ bi, EltQ X.prog X.w (genEnv scope (cloFrom X.env.cells scope.names []) h3.objs.size code bi X.env) x elt (SignAt a) (fun i y => ∃ cc, a.cps[i]? = some cc ∧ y = .bool (pb cc)) := fun bi A' E' i v s₂ m₂ ⟨cc, u, hcc, e⟩ hn hm =>
      wpAny_mono (hel _ A' E' cc u s₂ m₂ rfl hn (by rw [hm, e])) (fun y s3 r => ⟨⟨cc, hcc, r.1⟩, r.2⟩) fun _ _ e => e
    simp only [every, passing_true, List.length_range] at W5
    refine hQ a H1 h'.objs.size _ q1 ⟨_, _, _, _, _, W5.in4_1, ⟨gen_fresh_hot (A := X.A.in4) (cenv := genEnv scope (cloFrom X.env.cells scope.names []) h3.objs.size code _ X.env) (m := fun y => if y = ".0" then some (.ref s1.heap.objs.size) else none) hh W₀ S.loc (by simp [genEnv, S.kind]) S.co (fun hm => Nat.lt_irrefl _ (List.mem_range.mp hm)) (hq _)
      ⟨_, _, _, Heap.get?_push_size _ rfl, rfl, rfl, rfl⟩ (Array.getElem?_push_size ..) ⟨?_, keep5 _ _ _ hp13⟩ (hn'.push _) (lim3.keeps (keep5 _)), keep5 _ _ _ hp13⟩, ?_, fun s' hm => ?_⟩
    · obtain ⟨o', e, r⟩ := stI
      exact ⟨o', keep5 _ _ _ e, r⟩
    · intro j y sj Qj Ej hy hQj
      obtain ⟨i, hij, cc, hcc, rfl⟩ := hy
      obtain ⟨hj, ej⟩ := List.getElem?_eq_some_iff.mp hij
      rw [List.getElem_range] at ej
      subst ej
      have e9 : a.cps.toList[j]? = some cc := by rw [Array.getElem?_toList]; exact hcc
      have hQ2 : Qj (trF pb a.cps.toList j) sj := hQj
      rw [trF_some e9] at hQ2
      exact wpAny_truthy_bool hQ2
    · obtain ⟨more, em⟩ := hmore
      have nwr : ∀ b u, s1.heap.get? b = some u → b ∉ h3.objs.size :: [s1.heap.objs.size] := fun b u e hb => by
        have hl := Heap.lt_size e
        rcases List.mem_cons.mp hb with z | z
        · rw [z] at hl
          have h9 : (h3.objs.size : Nat) < s1.heap.objs.size := hl
          omega
        · rw [List.mem_singleton.mp z] at hl
          exact Nat.lt_irrefl _ hl
      have J := inv_tab (more := more) (h' := s'.heap) (g' := s'.gens) (d' := s'.drawn) (t' := s'.toks) I1 hP (fun b u hb e => hm.heap b u (nwr b u e) (keep5 _ b u (keep3 b u hb e)))
        (by rw [← em]; exact hm.heap P _ (nwr P _ hPs) (keep5 _ P _ hP3)) (AllBare.movedS (I1.bare.push rfl) hm)
      rw [sh_eta s1 s' hm.os] at J
      exact ⟨upd H1 P (.tbl (ps ++ more)), ⟨⟨ps ++ more, upd_same, by rw [← em]; exact ht3⟩, fun b hb => upd_ne hb⟩, J⟩
  refine ⟨lim2, ?_⟩
  cases hf : codeAmong gpos ps.toList with
  | none =>
    refine wpAny_genexprCodeX hcode (cd.code hP2 ht) (cd.tab hP2) hf fun c' h' tk hx hge hlt hco' _ htab' _ => ?_
    obtain ⟨o1, vs, f1, tf, fl, tg, inF, tx, tt, op, _, _, _, _, _, _, _, _, _, htr, _⟩ := hco'
    exact cont _ h' tk _ hx (Nat.le_trans hge (Nat.le_of_lt hlt)) htab'.2 ⟨_, rfl⟩ htr
  | some cv =>
    refine wpAny_genexprCode_hit hcode (cd.code hP2 ht) hf ?_
    exact cont cv (s1.heap.push o) s1.toks ps (Heap.ExtBut.refl _ _) (Nat.le_refl _) hP2 ⟨#[], by simp⟩ ht
def tAllH (P : Addr) (pb : Nat → Bool) (te : TE) : TE := fun σ H Q => te σ H fun v H1 => ∃ a : Str, v = .str a ∧ a.cps.all (· < 128) = true ∧ TabG H1 P ∧ ∀ H2, Tabbed P H1 H2 → Q (.bl (a.cps.toList.all pb)) H2
theorem pe_allH {c P : Addr} {elt iter : Expr} {x : Str} {px p pos gpos : Pos} {scope : Scope} {pb : Nat → Bool} {te : TE} {k : Nat}
    (hr : L2H.RoomH k X.A) (hot : L2H.HotC X) (hg : Gl X "all") (hm : X.mg "all" = none) (hb : bootBuiltins "all" = some (.builtin "all")) (TB : TabB X.base X.mg c P) (hcode : X.env.code = .ref c) (S : GenS X.env scope x) (hi : PE X iter te) (hel : EltP X.prog X.w scope x elt pb)
    (hs : ∀ v, genFold iter X.env v = pure v)
    (he : starEach [.GeneratorExp elt [⟨.Name x px, iter, [], 0⟩] scope gpos] X.env = (false, eval (.GeneratorExp elt [⟨.Name x px, iter, [], 0⟩] scope gpos) X.env) :: starEach [] X.env := by rfl) :
    PE X (.Call (.Name "all" p) [.GeneratorExp elt [⟨.Name x px, iter, [], 0⟩] scope gpos] [] pos) (tAllH P pb te) := by
  refine ⟨fun pins s σ H Q I h => ?_⟩
  refine wpAny_Call_Name_kw (ld_blt I hg hm hb (PyProof.Rows.callWith_builtin1 ?_ he (by rfl)))
  rw [he]
  show wpAny _ _ (spliced ((false, eval (.GeneratorExp elt [⟨.Name x px, iter, [], 0⟩] scope gpos) X.env) :: backTo pos (starEach [] X.env))) _ _ s
  refine Calls.spliced_cons (gen_strH (R := fun a H1 => ∀ H2, Tabbed P H1 H2 → Q (.bl (a.cps.toList.all pb)) H2) hr hot TB hcode S hi hel hs I h fun a H1 g s5 hR ⟨fp, wr, G, F, S0, W, hst, htr, hI⟩ => ?_)
  refine Calls.spliced_nil (call_all_walkS (W.self 0 _ _ _ hst ⟨g, fp, wr, G, _, F, S0, _, rfl, W, hst, htr, fun s' hmv => ?_⟩))
  obtain ⟨H2, hT, J⟩ := hI s' hmv
  refine ⟨.bl _, H2, J, rfl, ?_⟩
  rw [all_signs a pb]
  exact hR H2 hT
end
end GxR
/-! Defs that run where an exception is handled, and defs whose errors have no context. -/
namespace Lm
open PySem PySem.Spec PyProof.Rows L2 GxR
section
variable {P : Program} {w : World} {K : PySem.W.Frag} {mg : Str → Option Value} {base : Heap} {x qual : Str} {st : Stmt} {f : Addr} {fd : FuncData} {N ps : List Str} {k : Nat} {sp : Sp} {CX : CXT}
/-- a def's promise where an exception is handled -/
theorem okH (F : Fun K x qual st f fd) (S : FnScope N ps (defScope st)) (len : ∀ vs H Q E, sp vs H Q E → vs.length = ps.length)
    (hbody : ∀ (A : Around) (outer : List Env) (s : Shared) (H : Hp) (vs : List V) (Q : VK) (E : XK) (p : Addr × Obj), L2H.HotC (L2H.cxH CX P w K mg base N qual (defScope st) f fd.code A outer s H E p) → L2H.RoomH k (A.deeper (envOfC qual (defScope st) s.heap.objs.size f fd.code)) → sp vs H Q E →
      ∃ t, PSs (L2H.cxH CX P w K mg base N qual (defScope st) f fd.code A outer s H E p) (defBody st) t ∧ t { nx := fun _ H' => Q .non H', rt := Q } (L2.start N vs) H) : L2H.FnH P w K mg base CX (k + 1) f fd ps sp := by
  obtain ⟨oc, od, kV, doc, pm, an, cdv, ct, osl, rfl, lk, hcd⟩ := F.ex
  exact L2H.fn_ofH lk hcd S len fun A outer s H vs Q E p hot hr h => hbody A outer s H vs Q E p ⟨p, hot, List.mem_singleton.mpr rfl⟩ hr h
/-- a def whose errors have no context -/
theorem okN (F : Fun K x qual st f fd) (S : FnScope N ps (defScope st)) (len : ∀ vs H Q E, sp vs H Q E → vs.length = ps.length)
    (hbody : ∀ (cdv : Value) (A : Around) (outer : List Env) (s : Shared) (H : Hp) (vs : List V) (Q : VK) (E : XK), Room k (A.deeper (envOfC qual (defScope st) s.heap.objs.size f cdv)) → sp vs H Q E →
      ∃ t, PSs (cxOf (L2N.CX P w) P w K mg base N qual (defScope st) f cdv A outer s H E) (defBody st) t ∧ t { nx := fun _ H' => Q .non H', rt := Q } (L2.start N vs) H) : FnOk P w K mg base (L2N.CX P w) (k + 1) f fd ps sp := by
  obtain ⟨oc, od, kV, doc, pm, an, cdv, ct, osl, rfl, lk, hcd⟩ := F.ex
  exact fn_of lk hcd S len fun A outer s H vs Q E hr hsp => hbody cdv A outer s H vs Q E hr hsp
end
/-- as callers need them -/
structure Dh (P : Program) (w : World) (K : PySem.W.Frag) (mg : Str → Option Value) (base : Heap) (CX : CXT) (x : Str) (k : Nat) (f : Addr) (fd : FuncData) (ps : List Str) (sp : Sp) : Prop where
  ok : L2H.FnH P w K mg base CX k f fd ps sp
  m : mg x = some (.ref f)
  kp : PySem.W.keepIn K (.ref f) = true
  b : Binds K fd ps []
structure Dn (P : Program) (w : World) (K : PySem.W.Frag) (mg : Str → Option Value) (base : Heap) (x : Str) (k : Nat) (f : Addr) (fd : FuncData) (ps : List Str) (sp : Sp) : Prop where
  ok : FnOk P w K mg base (L2N.CX P w) k f fd ps sp
  m : mg x = some (.ref f)
  kp : PySem.W.keepIn K (.ref f) = true
  b : Binds K fd ps []
section
variable {X : Cx} {x : Str} {k : Nat} {f : Addr} {fd : FuncData} {ps : List Str} {sp : Sp} {e : Expr} {es : List Expr} {p pos : Pos} {t : TA} {W : WX}
/-- a call that lets nothing out, there -/
theorem pe_dh (D : Dh X.prog X.w X.K X.mg X.base CX0 x k f fd ps sp) (hr : L2H.RoomH k X.A) (hot : L2H.HotC X) (ha : PA X (e :: es) t) (hg : Gl X x := by rfl)
    (hdb : (x == ("__debug__" : Str)) = false := by decide) (he : starEach (e :: es) X.env = (false, eval e X.env) :: starEach es X.env := by rfl) (hpl : (backTo pos (starEach es X.env)).any (·.1) = false := by rfl) :
    PE X (.Call (.Name x p) (e :: es) [] pos) (tCallS sp (fun _ => E0) t) := L2H.pe_callH D.ok hr hot hg D.m D.kp D.b (fun _ _ _ _ _ _ _ h => h.elim) ha hdb he hpl
/-- a call that may raise, there -/
theorem pe_dhx (D : Dh X.prog X.w X.K X.mg X.base (L2.CX X.prog X.w) x k f fd ps sp) (hr : L2H.RoomH k X.A) (hot : L2H.HotC X) (tk : L2.Takes X W) (ha : PA X (e :: es) t) (hg : Gl X x := by rfl)
    (hdb : (x == ("__debug__" : Str)) = false := by decide) (he : starEach (e :: es) X.env = (false, eval e X.env) :: starEach es X.env := by rfl) (hpl : (backTo pos (starEach es X.env)).any (·.1) = false := by rfl) :
    PE X (.Call (.Name x p) (e :: es) [] pos) (tCallS sp (WE W) t) := L2H.pe_callH D.ok hr hot hg D.m D.kp D.b (fun σ => L2.passAt tk σ) ha hdb he hpl
/-- a call whose errors have no context -/
theorem pe_dn (D : Dn X.prog X.w X.K X.mg X.base x k f fd ps sp) (hr : Room k X.A) (tk : L2N.Takes X W) (ha : PA X (e :: es) t) (hg : Gl X x := by rfl)
    (hdb : (x == ("__debug__" : Str)) = false := by decide) (he : starEach (e :: es) X.env = (false, eval e X.env) :: starEach es X.env := by rfl) (hpl : (backTo pos (starEach es X.env)).any (·.1) = false := by rfl) :
    PE X (.Call (.Name x p) (e :: es) [] pos) (tCallS sp (WE W) t) := pe_callS D.ok hr hg D.m D.kp D.b (fun σ => L2N.passAt tk σ) ha hdb he hpl
end
/-! ### how deep, how many -/
mutual
/-- too deep at once, or so many looked at -/
def Row.looks : Row → Nat → Nat → Bool × Nat
  | .lt _ _ _ _, _, m => (false, m + 1)
  | .sy _, _, m => (false, m + 1)
  | .bk _ _ rs, d, m => if d = 20 then (true, m) else lookss rs (d + 1) (m + 1)
def lookss : List Row → Nat → Nat → Bool × Nat
  | [], _, m => (false, m)
  | r :: rs, d, m => if (r.looks d m).1 = true then r.looks d m else lookss rs d (r.looks d m).2
end
mutual
/-- what is looked at is as it should be -/
def Row.vis (ss : List Str) : Nat → Row → Prop
  | _, .lt to sg a b => (Row.lt to sg a b).ok ss
  | _, .sy a => (Row.sy a).ok ss
  | d, .bk kd ts rs => kd ∈ kinds ∧ rs.length ≤ 2000 ∧ (d ≠ 20 → (∃ x, ts = .str x ∧ x ∈ ss) ∧ viss ss (d + 1) rs)
def viss (ss : List Str) : Nat → List Row → Prop
  | _, [] => True
  | d, r :: rs => r.vis ss d ∧ viss ss d rs
end
mutual
theorem Row.ok_vis {ss : List Str} : ∀ (r : Row) (d : Nat), r.ok ss → r.vis ss d
  | .lt _ _ _ _, _, h => h
  | .sy _, _, h => h
  | .bk kd ts rs, d, ⟨h1, h2, h3, h4⟩ => ⟨h1, h3, fun _ => ⟨h2, oks_viss rs (d + 1) h4⟩⟩
theorem oks_viss {ss : List Str} : ∀ (rs : List Row) (d : Nat), oks ss rs → viss ss d rs
  | [], _, _ => True.intro
  | r :: rs, d, h => ⟨Row.ok_vis r d h.1, oks_viss rs d h.2⟩
end
theorem viss_app {ss : List Str} {d : Nat} : ∀ {rs qs : List Row}, viss ss d rs → viss ss d qs → viss ss d (rs ++ qs)
  | [], _, _, q => q
  | _ :: _, _, ⟨h1, h2⟩, q => ⟨h1, viss_app h2 q⟩
theorem viss_at {ss : List Str} {d : Nat} : ∀ {rs : List Row} {i : Nat} {r : Row}, viss ss d rs → rs[i]? = some r → r.vis ss d
  | [], _, _, _, e => by cases e
  | _ :: _, 0, _, h, e => by
    cases e
    exact h.1
  | _ :: _, _ + 1, _, h, e => viss_at h.2 (by simpa using e)
theorem good_ascii {s : Str} (h : Good s) : s.cps.all (· < 128) = true := by
  have all : ∀ {l : List Nat}, lettersB l = true → ∀ c ∈ l, c < 128 := fun {l} => by
    induction l with
    | nil => intro _ c hc; cases hc
    | cons d l ih =>
      intro hb c hc
      have hb' : (Nat.ble 97 d && (Nat.ble d 122 && lettersB l)) = true := hb
      rw [Bool.and_eq_true, Bool.and_eq_true] at hb'
      rcases List.mem_cons.mp hc with e | e
      · have := Nat.le_of_ble_eq_true hb'.2.1
        omega
      · exact ih hb'.2.2 c e
  rw [← Array.all_toList, List.all_eq_true]
  exact fun c hc => decide_eq_true (all (good_letters h) c hc)
end Lm
/-! ### the text by places -/
namespace Lm
open PySem L2
def topS (i : Nat) : Stmt := PySem.Challenge.pw_loopmover_k03_rows_counted.main.body.getD i (.Pass ⟨0, 0, 0, 0⟩)
abbrev s_cell : Stmt := topS 26
abbrev s_names : Stmt := topS 28
/-- a list of names that are good -/
def NamesAt (K : PySem.W.Frag) (H : Hp) (a : Addr) (ss : List Str) : Prop := SqL K H a (ss.map V.str) ∧ ss.length = 16
theorem NamesAt.mono {K : PySem.W.Frag} {H H' : Hp} {a : Addr} {ss : List Str} (e : Kp H H') (h : NamesAt K H a ss) : NamesAt K H' a ss := ⟨e.sqL h.1, h.2⟩
theorem NamesAt.at {K : PySem.W.Frag} {H : Hp} {a : Addr} {ss : List Str} (h : NamesAt K H a ss) {z : Int} (h0 : 0 ≤ z) (h1 : z < 16) : ∃ s, s ∈ ss ∧ atI (ss.map V.str) z = some (.str s) := by
  have hk : z.toNat < ss.length := by rw [h.2]; omega
  refine ⟨ss[z.toNat], List.getElem_mem hk, at_of (j := z.toNat) (by omega) ?_⟩
  rw [List.getElem?_map, List.getElem?_eq_getElem hk]
  all_goals rfl
def spCell (K : PySem.W.Frag) : Sp := fun vs H Q _ => ∃ (a : Addr) (ns : List Int) (k : Int), vs = [.ref a, .int k] ∧ SqL K H a (ns.map V.int) ∧ 0 ≤ k ∧ ∀ z : Int, Q (.int z) H
section
variable {P : Program} {w : World} {K : PySem.W.Frag} {mg : Str → Option Value} {base : Heap} {f : Addr} {fd : FuncData}
theorem sc_cell : FnScope ["_law_script", "_law_k"] ["_law_script", "_law_k"] (defScope s_cell) := ⟨rfl, rfl, rfl, by decide +kernel, rfl, by decide +kernel, by decide +kernel⟩
theorem ok_cell (F : Fun K "_law_cell_at" "_law_cell_at" s_cell f fd) (ml : mg "len" = none) : FnOk P w K mg base CX0 1 f fd ["_law_script", "_law_k"] (spCell K) := by
  refine F.ok sc_cell (fun vs H Q E h => ?_) (fun cdv A outer s H vs Q E hr h => ?_)
  · obtain ⟨a, ns, k, rfl, _⟩ := h
    rfl
  obtain ⟨a, ns, k, rfl, hS, h0, q⟩ := h
  refine ⟨_, pss_cons (ps_if (pt_cmpR op_lt (pv 1) (pe_callB call_len_seq rfl ml PySem.boot_len (pa_cons (pv 0) pa_nil)) (nomark _)) (pss_one (ps_ret (pe_ix ix_list (pv 0) (pv 1) (fun _ _ => rfl)))) pss_nil)
    (pss_one (ps_ret pe_int)), ?_⟩
  refine ⟨_, rfl, _, rfl, a, _, rfl, .inl hS, _, _, rfl, rfl, _, rfl, ?_⟩
  refine ite2 (fun c => ?_) (fun c => ?_)
  · have c' : k < (((ns.map V.int).length : Nat) : Int) := of_decide_eq_true c
    rw [List.length_map] at c'
    have hk : k.toNat < ns.length := by omega
    exact ⟨_, rfl, _, rfl, a, _, _, _, rfl, rfl, hS, at_of (j := k.toNat) (v := .int ns[k.toNat]) (by omega) (by rw [List.getElem?_map, List.getElem?_eq_getElem hk]; all_goals rfl), q _⟩
  · exact q 0
end
end Lm
namespace Lm
open PySem L2
abbrev s_mixed : Stmt := topS 27
abbrev s_value : Stmt := topS 29
abbrev s_let : Stmt := topS 30
def spMixed : Sp := fun vs H Q _ => ∃ c k : Int, vs = [.int c, .int k] ∧ ∀ z : Int, 0 ≤ z → z < 2147483647 → Q (.int z) H
def spValue (K : PySem.W.Frag) : Sp := fun vs H Q _ => ∃ (k n : Int) (a : Addr) (ss : List Str), vs = [.int k, .int n, .ref a] ∧ 0 ≤ k ∧ k < 16 ∧ NamesAt K H a ss ∧ ∀ x : Vl, x.ok ss → Q x.v H
def spLet (K : PySem.W.Frag) : Sp := fun vs H Q _ => ∃ (n : Int) (a : Addr) (ss : List Str), vs = [.int n, .ref a] ∧ NamesAt K H a ss ∧
  ∀ (p : Addr) (to sg : Str) (x y : Vl) (H' : Hp), H p = none → (Row.lt to sg x y).ok ss → H' = upd H p (.tup [.str "let", .str to, .str sg, x.v, y.v]) → Q (.ref p) H'
/-- the same, with where the name stands -/
def spLetC (K : PySem.W.Frag) : Sp := fun vs H Q _ => ∃ (n : Int) (a : Addr) (ss : List Str), vs = [.int n, .ref a] ∧ NamesAt K H a ss ∧
  ∀ (p : Addr) (to sg : Str) (x y : Vl) (H' : Hp), H p = none → (Row.lt to sg x y).ok ss → (∃ j, j < 8 ∧ ss[j]? = some to) → H' = upd H p (.tup [.str "let", .str to, .str sg, x.v, y.v]) → Q (.ref p) H'
theorem NamesAt.where_ {K : PySem.W.Frag} {H : Hp} {a : Addr} {ss : List Str} (h : NamesAt K H a ss) {z : Int} (h0 : 0 ≤ z) (h1 : z < 16) : ∃ s, ss[z.toNat]? = some s ∧ atI (ss.map V.str) z = some (.str s) := by
  have hk : z.toNat < ss.length := by rw [h.2]; omega
  refine ⟨ss[z.toNat], List.getElem?_eq_getElem hk, at_of (j := z.toNat) (by omega) ?_⟩
  rw [List.getElem?_map, List.getElem?_eq_getElem hk]
  all_goals rfl
section
variable {P : Program} {w : World} {K : PySem.W.Frag} {mg : Str → Option Value} {base : Heap} {f : Addr} {fd : FuncData}
theorem sc_mixed : FnScope ["_law_cell", "_law_k", "_law_number"] ["_law_cell", "_law_k"] (defScope s_mixed) := ⟨rfl, rfl, rfl, by decide +kernel, rfl, by decide +kernel, by decide +kernel⟩
theorem ok_mixed (F : Fun K "_law_mixed" "_law_mixed" s_mixed f fd) : FnOk P w K mg base CX0 1 f fd ["_law_cell", "_law_k"] spMixed := by
  refine F.ok sc_mixed (fun vs H Q E h => ?_) (fun cdv A outer s H vs Q E hr h => ?_)
  · obtain ⟨c, k, rfl, _⟩ := h
    rfl
  obtain ⟨c, k, rfl, q⟩ := h
  refine ⟨_, pss_cons (ps_set (i := 2) sc_mixed.nd rfl (Or.inl rfl) (pe_op op_mod (pe_op op_mul (pe_op op_add (pe_op op_add (pv 0) (pe_op op_mul pe_int (pv 1))) pe_int) pe_int) pe_int))
    (pss_one (ps_ret (pe_op op_mod (pe_op op_mul (pv 2) (pv 2)) pe_int))), ?_⟩
  have h1 : 0 ≤ ((c + 7 * k + 3) * 48271) % 2147483647 := Int.emod_nonneg _ (by decide)
  have h2 : ((c + 7 * k + 3) * 48271) % 2147483647 < 2147483647 := Int.emod_lt_of_pos _ (by decide)
  refine ⟨_, rfl, _, rfl, _, _, rfl, rfl, .inl ⟨by decide, by decide⟩, _, _, rfl, rfl, _, _, rfl, rfl, _, _, rfl, rfl, .inr ⟨by decide, by decide⟩, _, _, rfl, rfl, (by show (0 : Int) < 2147483647; decide), _, rfl, _, rfl, _, _, rfl, rfl, .inl ⟨by omega, by omega⟩, _, _, rfl, rfl, (by show (0 : Int) < 2147483647; decide), ?_⟩
  exact q _ (Int.emod_nonneg _ (by decide)) (Int.emod_lt_of_pos _ (by decide))
theorem sc_value : FnScope ["_law_kind", "_law_number", "_law_names_here"] ["_law_kind", "_law_number", "_law_names_here"] (defScope s_value) := ⟨rfl, rfl, rfl, by decide +kernel, rfl, by decide +kernel, by decide +kernel⟩
theorem ok_value (F : Fun K "_law_value" "_law_value" s_value f fd) : FnOk P w K mg base CX0 1 f fd ["_law_kind", "_law_number", "_law_names_here"] (spValue K) := by
  refine F.ok sc_value (fun vs H Q E h => ?_) (fun cdv A outer s H vs Q E hr h => ?_)
  · obtain ⟨k, n, a, ss, rfl, _⟩ := h
    rfl
  obtain ⟨k, n, a, ss, rfl, h0, h1, hN, q⟩ := h
  refine ⟨_, pss_cons (ps_if (pt_cmpR op_lt (pv 0) pe_int (nomark _)) (pss_one (ps_ret (pe_ix ix_list (pv 2) (pv 0) (fun _ _ => rfl)))) pss_nil)
    (pss_cons (ps_if (pt_cmpR op_lt (pv 0) pe_int (nomark _)) (pss_one (ps_ret (pe_op op_sub (pv 0) pe_int))) pss_nil)
    (pss_one (ps_ret (pe_op op_mod (pv 1) pe_int)))), ?_⟩
  refine ⟨_, rfl, _, _, rfl, rfl, _, rfl, ?_⟩
  refine ite2 (fun c => ?_) (fun c => ?_)
  · obtain ⟨s, hs, es⟩ := hN.at h0 h1
    exact ⟨_, rfl, _, rfl, a, _, _, _, rfl, rfl, hN.1, es, q (.nm s) hs⟩
  have c' : ¬ k < 11 := of_decide_eq_false (Bool.eq_false_iff.mpr c)
  refine ⟨_, rfl, _, _, rfl, rfl, _, rfl, ?_⟩
  refine ite2 (fun d => ?_) (fun d => ?_)
  · have d' : k < 14 := of_decide_eq_true d
    exact ⟨_, rfl, _, _, rfl, rfl, q (.nu (k - 11)) ⟨by omega, by omega⟩⟩
  · exact ⟨_, rfl, _, _, rfl, rfl, (by show (0 : Int) < 1000000; decide), q (.nu (n % 1000000)) ⟨Int.emod_nonneg _ (by decide), Int.emod_lt_of_pos _ (by decide)⟩⟩
theorem sc_let : FnScope ["_law_number", "_law_names_here", "_law_one", "_law_other"] ["_law_number", "_law_names_here"] (defScope s_let) := ⟨rfl, rfl, rfl, by decide +kernel, rfl, by decide +kernel, by decide +kernel⟩
theorem sign_at (z : Int) (h0 : 0 ≤ z) (h1 : z < 5) : ∃ c : Nat, atI (Str.cps "+-*</").toList z = some c ∧ (⟨#[c]⟩ : Str) ∈ signs := by
  obtain ⟨n, rfl⟩ : ∃ n : Nat, z = (n : Int) := ⟨z.toNat, by omega⟩
  match n, h1 with
  | 0, _ => exact ⟨43, by decide +kernel, by decide +kernel⟩
  | 1, _ => exact ⟨45, by decide +kernel, by decide +kernel⟩
  | 2, _ => exact ⟨42, by decide +kernel, by decide +kernel⟩
  | 3, _ => exact ⟨60, by decide +kernel, by decide +kernel⟩
  | 4, _ => exact ⟨47, by decide +kernel, by decide +kernel⟩
  | n + 5, h => exact absurd h (by omega)
theorem ok_letC {fv : Addr} {dv : FuncData} (F : Fun K "_law_let" "_law_let" s_let f fd) (V : Df P w K mg base "_law_value" 1 fv dv ["_law_kind", "_law_number", "_law_names_here"] (spValue K)) :
    FnOk P w K mg base CX0 2 f fd ["_law_number", "_law_names_here"] (spLetC K) := by
  refine F.ok sc_let (fun vs H Q E h => ?_) (fun cdv A outer s H vs Q E hr h => ?_)
  · obtain ⟨n, a, ss, rfl, _⟩ := h
    rfl
  obtain ⟨n, a, ss, rfl, hN, q⟩ := h
  refine ⟨_, pss_cons (ps_set (i := 2) sc_let.nd rfl (Or.inl rfl) (pe_df V hr (pa_cons (pe_op op_mod (pe_op op_fdiv (pv 0) pe_int) pe_int) (pa_cons (pe_op op_fdiv (pv 0) pe_int) (pa_cons (pv 1) pa_nil)))))
    (pss_cons (ps_set (i := 3) sc_let.nd rfl (Or.inl rfl) (pe_df V hr (pa_cons (pe_op op_mod (pe_op op_fdiv (pv 0) pe_int) pe_int) (pa_cons (pe_op op_fdiv (pv 0) pe_int) (pa_cons (pv 1) pa_nil)))))
    (pss_one (ps_ret (pe_tup (pa_cons pe_str (pa_cons (pe_ix ix_list (pv 1) (pe_op op_mod (pv 0) pe_int) (fun _ _ => rfl)) (pa_cons (pe_ix ix_str pe_str (pe_op op_mod (pe_op op_fdiv (pv 0) pe_int) pe_int) (fun _ _ => rfl)) (pa_cons (pv 2) (pa_cons (pv 3) pa_nil))))))))), ?_⟩
  refine ⟨_, rfl, _, _, rfl, rfl, ⟨by decide, by decide⟩, _, _, rfl, rfl, (by show (0 : Int) < 16; decide), _, rfl, _, _, rfl, rfl, ⟨by decide, by decide⟩, _, rfl, _, _, a, ss, rfl, Int.emod_nonneg _ (by decide), Int.emod_lt_of_pos _ (by decide), hN, fun x hx => ?_⟩
  refine ⟨_, rfl, _, _, rfl, rfl, ⟨by decide, by decide⟩, _, _, rfl, rfl, (by show (0 : Int) < 16; decide), _, rfl, _, _, rfl, rfl, ⟨by decide, by decide⟩, _, rfl, _, _, a, ss, rfl, Int.emod_nonneg _ (by decide), Int.emod_lt_of_pos _ (by decide), hN, fun y hy => ?_⟩
  obtain ⟨to, wto, eto⟩ := hN.where_ (z := n % 8) (Int.emod_nonneg _ (by decide)) (by have := Int.emod_lt_of_pos n (b := 8) (by decide); omega)
  obtain ⟨c, hc, hsg⟩ := sign_at (n / 8 % 5) (Int.emod_nonneg _ (by decide)) (Int.emod_lt_of_pos _ (by decide))
  refine ⟨_, rfl, _, rfl, _, _, rfl, rfl, (by show (0 : Int) < 8; decide), a, _, _, _, rfl, rfl, hN.1, eto, _, rfl, _, _, rfl, rfl, ⟨by decide, by decide⟩, _, _, rfl, rfl, (by show (0 : Int) < 5; decide), _, _, c, rfl, rfl, (by decide +kernel), hc, _, rfl, _, rfl, (by show 5 ≤ sizeLine; decide), fun p hp => ?_⟩
  exact q p to ⟨#[c]⟩ x y _ hp ⟨List.mem_of_getElem? wto, hsg, hx, hy⟩ ⟨(n % 8).toNat, by have h1 := Int.emod_nonneg n (b := 8) (by decide); have h2 := Int.emod_lt_of_pos n (b := 8) (by decide); omega, wto⟩ rfl
theorem ok_let {fv : Addr} {dv : FuncData} (F : Fun K "_law_let" "_law_let" s_let f fd) (V : Df P w K mg base "_law_value" 1 fv dv ["_law_kind", "_law_number", "_law_names_here"] (spValue K)) :
    FnOk P w K mg base CX0 2 f fd ["_law_number", "_law_names_here"] (spLet K) :=
  (ok_letC F V).imp fun _ _ _ _ ⟨n, a, ss, e, h1, k⟩ => ⟨n, a, ss, e, h1, fun p to sg x y H' hp ok _ e => k p to sg x y H' hp ok e⟩
end
end Lm
namespace Lm
open PySem L2
def spNames : Sp := fun vs H Q _ => ∃ c : Int, vs = [.int c] ∧ ∀ (l : Addr) (ss : List Str) (H' : Hp), Same H H' → H l = none → H' l = some (.lst (ss.map V.str)) → ss.length = 16 → (∀ s ∈ ss, Good s) → Q (.ref l) H'
section
variable {P : Program} {w : World} {K : PySem.W.Frag} {mg : Str → Option Value} {base : Heap} {f : Addr} {fd : FuncData}
abbrev nNames : List Str := ["_law_cell", "_law_letters", "_law_some", "_law_size", "_law_j", "_law_tail", "_law_k", "_law_word", "_law_place", "_law_words"]
theorem sc_names : FnScope nNames ["_law_cell"] (defScope s_names) := ⟨rfl, rfl, rfl, by decide +kernel, rfl, by decide +kernel, by decide +kernel⟩
theorem ok_names (F : Fun K "_law_names" "_law_names" s_names f fd) (mr : mg "range" = none) : FnOk P w K mg base CX0 1 f fd ["_law_cell"] spNames := by
  refine F.ok sc_names (fun vs H Q E h => ?_) (fun cdv A outer s H vs Q E hr h => ?_)
  · obtain ⟨c, rfl, _⟩ := h
    rfl
  obtain ⟨c, rfl, q⟩ := h
  have nd := sc_names.nd
  refine ⟨_, pss_cons (ps_set (i := 1) nd rfl (Or.inr rfl) pe_str) <|
    pss_cons (ps_set (i := 2) nd rfl (Or.inl rfl) (pe_lst pa_nil)) <|
    pss_cons (ps_set (i := 3) nd rfl (Or.inl rfl) (pe_op op_add pe_int (pe_op op_mod (pe_op op_fdiv (pv 0) pe_int) pe_int))) <|
    pss_cons (ps_set (i := 5) nd rfl (Or.inl rfl) (pe_join pe_str (pe_lc (own := [("_law_j", 4)]) (g := gName 4) rfl nd (pi_range1 rfl mr (pa_cons pe_int pa_nil)) (blkOk_by (N := nNames) (sc := defScope s_names) (by decide +kernel))
      (fun _ _ _ _ _ => pg_name (i := 4) nd rfl (Or.inl rfl)) (fun _ _ _ _ _ => pts_nil)
      (fun _ _ _ _ _ => pe_ix ix_str (pv 1) (pe_op op_mod (pe_op op_add (pe_op op_add (pe_op op_fdiv (pv 0) pe_int) (pe_op op_mul pe_int (pv 4))) pe_int) pe_int) (fun _ _ => rfl))))) <|
    pss_cons (ps_for PassesOwn.never rfl (pi_range1 rfl mr (pa_cons pe_int pa_nil)) (pg_name (i := 6) nd rfl (Or.inl rfl))
      (pss_cons (ps_set (i := 7) nd rfl (Or.inl rfl) (pe_ix ix_str (pv 1) (pe_op op_mod (pe_op op_add (pe_op op_fdiv (pv 0) pe_int) (pe_op op_mul pe_int (pv 6))) pe_int) (fun _ _ => rfl))) <|
      pss_cons (ps_if (pt_cmpR op_eq (pe_op op_mod (pv 0) pe_int) pe_int (nomark _))
        (pss_cons (ps_set (i := 8) nd rfl (Or.inl rfl) (pe_op op_mod (pe_op op_fdiv (pv 0) pe_int) (pv 3))) <|
          pss_one (ps_set (i := 7) nd rfl (Or.inl rfl) (pe_op op_add_str (pe_op op_add_str (pe_slice sl_str (pv 5) po_none (po_some (pv 8))) (pv 7)) (pe_slice sl_str (pv 5) (po_some (pe_op op_add (pv 8) pe_int)) (po_some (pv 3))))))
        (pss_one (ps_if (pt_cmpR op_eq (pe_op op_mod (pv 0) pe_int) pe_int (nomark _))
          (pss_cons (ps_set (i := 7) nd rfl (Or.inl rfl) (pe_ix ix_str (pv 1) (pe_op op_mod (pe_op op_add (pe_op op_fdiv (pv 0) pe_int) (pe_op op_mul pe_int (pe_op op_fdiv (pv 6) pe_int))) pe_int) (fun _ _ => rfl))) <|
            pss_one (ps_set (i := 7) nd rfl (Or.inl rfl) (pe_op op_add_str (pv 7) (pe_slice sl_str (pv 5) po_none (po_some (pe_op op_add (pe_op op_mod (pv 6) pe_int) (pe_op op_mod (pe_op op_fdiv (pv 0) pe_int) pe_int)))))))
          (pss_one (ps_for PassesOwn.never rfl (pi_range1 rfl mr (pa_cons (pe_op op_mod (pe_op op_add (pe_op op_fdiv (pv 0) pe_int) (pv 6)) pe_int) pa_nil)) (pg_name (i := 4) nd rfl (Or.inl rfl))
            (pss_one (ps_set (i := 7) nd rfl (Or.inl rfl) (pe_op op_add_str (pv 7) (pe_ix ix_str (pv 1) (pe_op op_mod (pe_op op_add (pe_op op_add (pe_op op_fdiv (pv 0) pe_int) (pe_op op_mul pe_int (pv 4))) (pv 6)) pe_int) (fun _ _ => rfl)))))))))) <|
      pss_one (ps_expr (pe_bm PySem.F.plainAttrs_list PySem.F.slot_list_append PySem.F.type_list_append mt_append (pv 2) (pa_cons (pv 7) pa_nil))))) <|
    pss_cons (ps_if (pt_cmpR op_eq (pe_op op_mod (pv 0) pe_int) pe_int (nomark _))
      (pss_cons (ps_set (i := 9) nd rfl (Or.inl rfl) (pe_lst (pa_cons pe_str (pa_cons pe_str (pa_cons pe_str (pa_cons pe_str (pa_cons pe_str (pa_cons pe_str (pa_cons pe_str (pa_cons pe_str (pa_cons pe_str (pa_cons pe_str pa_nil)))))))))))) <|
        pss_one (ps_asg (pe_ix ix_list (pv 9) (pe_op op_mod (pe_op op_fdiv (pv 0) pe_int) pe_int) (fun _ _ => rfl)) (pg_sub (pv 2) (pe_op op_mod (pe_op op_fdiv (pv 0) pe_int) pe_int) set_list)))
      pss_nil) <|
    pss_one (ps_ret (pv 2)), ?_⟩
  have hc26 : (c / 72 % 26).toNat < 26 := by omega
  have code1 : ∀ i : Nat, atI abc.cps.toList ((c / 72 + 5 * (0 + (i : Int)) + 1) % 26) = some (ltr ((c / 72 % 26).toNat + (5 * i + 1))) := fun i => (abc_mod _).trans (congrArg some (by unfold ltr; omega))
  have code2 : ∀ i : Nat, atI abc.cps.toList ((c / 72 + 5 * (0 + (i : Int))) % 26) = some (ltr ((c / 72 % 26).toNat + 5 * i)) := fun i => (abc_mod _).trans (congrArg some (by unfold ltr; omega))
  have code3 : ∀ i : Nat, atI abc.cps.toList ((c / 72 + 7 * ((0 + (i : Int)) / 4)) % 26) = some (ltr ((c / 72 % 26).toNat + 7 * (i / 4))) := fun i => (abc_mod _).trans (congrArg some (by unfold ltr; omega))
  have code4 : ∀ i j : Nat, atI abc.cps.toList ((c / 7 + 3 * (0 + (j : Int)) + (0 + (i : Int))) % 26) = some (ltr (((c / 7 + (i : Int)) % 26).toNat + 3 * j)) := fun i j => (abc_mod _).trans (congrArg some (by unfold ltr; omega))
  have abcLen : abc.length ≤ sizeLine := by decide +kernel
  refine ⟨(by show 0 ≤ sizeLine; decide), fun L hL => ?_⟩
  have sL : Same H (upd H L (.lst [])) := same_new hL _
  refine ⟨_, rfl, _, _, rfl, rfl, ⟨by decide, by decide⟩, _, _, rfl, rfl, (by show (0 : Int) < 6; decide), _, _, rfl, rfl, ?_⟩
  refine ⟨⟨_, rfl⟩, 6, rfl, by decide, by decide, fun D hD => lc_range (lo := 0) (n := 6) (fun i H' => H' D = some (.lst ((tl (c / 72 % 26).toNat i).map V.str)) ∧ Same (upd H L (.lst [])) H') ⟨upd_same, same_new hD _⟩ ?_ ?_⟩
  · intro i H1 hi ⟨e1, s1⟩
    refine ⟨rfl, yes (iteT ?_)⟩
    refine ⟨_, rfl, _, rfl, _, _, rfl, rfl, ⟨by decide, by decide⟩, _, rfl, _, _, rfl, rfl, .inl ⟨by decide, by decide⟩, _, _, rfl, rfl, _, _, rfl, rfl, _, _, rfl, rfl, (by show (0 : Int) < 26; decide), _, _, _, rfl, rfl, abcLen, code1 i, _, e1, ?_, ?_, ?_⟩
    · rw [List.length_map, tl_len _ (by omega)]
      exact small1000 (by omega)
    · rw [upd_same, tl_more _ i hi, List.map_append]
      rfl
    · exact fun b o hb => by rw [upd_ne (ne_of_none hb hD)]; exact s1 b o hb
  intro H1 ⟨e1, s1⟩
  refine ⟨_, D, tl (c / 72 % 26).toNat 6, rfl, rfl, .inl (SqL.of e1), tl_sum _, ?_⟩
  rw [tl_join]
  have s2 : Same H H1 := sL.trans s1
  have e2 : H1 L = some (.lst []) := s1 _ _ upd_same
  have sz1 : 0 ≤ 1 + c / 3 % 6 := by omega
  have sz2 : 1 + c / 3 % 6 < 7 := by omega
  obtain ⟨size, esz⟩ : ∃ n : Nat, 1 + c / 3 % 6 = (n : Int) := ⟨(1 + c / 3 % 6).toNat, by omega⟩
  refine ⟨16, rfl, by decide, by decide, for_range (lo := 0) (n := 16) (fun i σ H' => ∃ (ss : List Str) (vj vk vw vp : Option V), σ = [some (.int c), some (.str abc), some (.ref L), some (.int (1 + c / 3 % 6)), vj, some (.str (tailS (c / 72 % 26).toNat)), vk, vw, vp, none] ∧
    Same H H' ∧ H' L = some (.lst (ss.map V.str)) ∧ ss.length = i ∧ ∀ s ∈ ss, Good s) ⟨[], none, none, none, none, rfl, s2, e2, rfl, fun s hs => by cases hs⟩ ?_ ?_⟩
  · rintro i σ H2 hi ⟨ss, vj, vk, vw, vp, rfl, s3, e3, hlen, hgood⟩
    have fin : ∀ (s : Str) (vj vk vp : Option V), Good s → ∃ (ss' : List Str) (vj' vk' vw' vp' : Option V), [some (V.int c), some (.str abc), some (.ref L), some (.int (1 + c / 3 % 6)), vj, some (.str (tailS (c / 72 % 26).toNat)), vk, some (.str s), vp, none] = [some (V.int c), some (.str abc), some (.ref L), some (.int (1 + c / 3 % 6)), vj', some (.str (tailS (c / 72 % 26).toNat)), vk', vw', vp', none] ∧
        Same H (upd H2 L (.lst (ss.map V.str ++ [.str s]))) ∧ (upd H2 L (.lst (ss.map V.str ++ [.str s]))) L = some (.lst (ss'.map V.str)) ∧ ss'.length = i + 1 ∧ ∀ s ∈ ss', Good s := fun s vj vk vp hs => by
      refine ⟨ss ++ [s], _, _, _, _, rfl, fun b o hb => by rw [upd_ne (ne_of_none hb hL)]; exact s3 b o hb, ?_, by rw [List.length_append, hlen]; rfl, fun z hz => ?_⟩
      · rw [upd_same, List.map_append]
        all_goals rfl
      · rcases List.mem_append.mp hz with h1 | h1
        · exact hgood z h1
        · rw [List.mem_singleton.mp h1]
          exact hs
    have room : (ss.map V.str).length < sizeLine := by
      rw [List.length_map, hlen]
      exact small1000 (by omega)
    refine ⟨_, rfl, _, rfl, _, _, rfl, rfl, ⟨by decide, by decide⟩, _, rfl, _, _, rfl, rfl, .inl ⟨by decide, by decide⟩, _, _, rfl, rfl, _, _, rfl, rfl, (by show (0 : Int) < 26; decide), _, _, _, rfl, rfl, abcLen, code2 i, ?_⟩
    refine ⟨_, rfl, _, _, rfl, rfl, (by show (0 : Int) < 3; decide), rfl, _, rfl, ?_⟩
    refine ite2 (fun c1 => ?_) (fun c1 => ?_)
    · -- one letter in the place of another
      obtain ⟨place, epl⟩ : ∃ n : Nat, c / 18 % (1 + c / 3 % 6) = (n : Int) := ⟨(c / 18 % (1 + c / 3 % 6)).toNat, by have := Int.emod_nonneg (c / 18) (b := 1 + c / 3 % 6) (by omega); omega⟩
      have hpl : place < size := by have := Int.emod_lt_of_pos (c / 18) (b := 1 + c / 3 % 6) (by omega); omega
      refine ⟨_, rfl, _, _, rfl, rfl, ⟨by decide, by decide⟩, _, rfl, _, _, rfl, rfl, (by show (0 : Int) < 1 + c / 3 % 6; omega), ?_⟩
      have g := word1 hc26 hi (by omega : size < 7) hpl
      rw [← epl, ← esz] at g
      refine ⟨_, rfl, _, rfl, _, rfl, _, rfl, (by rw [tailS_len]; decide), _, rfl, _, _, rfl, rfl, ?_, ?_⟩
      · have := cut_len (tailS (c / 72 % 26).toNat) none (some (c / 18 % (1 + c / 3 % 6)))
        rw [tailS_len] at this
        exact Nat.le_of_lt (small1000 (Nat.le_trans (Nat.add_le_add this (Nat.le_refl _)) (by show 6 + 1 ≤ 1000; decide)))
      refine ⟨_, rfl, _, rfl, _, _, rfl, rfl, _, rfl, _, rfl, _, rfl, _, rfl, (by rw [tailS_len]; decide), _, _, rfl, rfl, ?_, ?_⟩
      · have h9 := (good_len g).2
        rw [app_len] at h9
        exact Nat.le_of_lt (small1000 (Nat.le_trans h9 (by decide)))
      refine ⟨_, rfl, .inl ⟨rfl, _, SqL.of e3⟩, _, rfl, L, _, _, rfl, rfl, e3, room, ?_⟩
      exact fin _ _ _ _ g
    refine ⟨_, rfl, _, _, rfl, rfl, (by show (0 : Int) < 3; decide), rfl, _, rfl, ?_⟩
    refine ite2 (fun c2 => ?_) (fun c2 => ?_)
    · -- a letter and the first of the six
      have g := word2 hc26 hi (by omega : (c / 18 % 3).toNat < 3)
      have ek : ((i % 4 + (c / 18 % 3).toNat : Nat) : Int) = (0 + (i : Int)) % 4 + c / 18 % 3 := by omega
      rw [ek] at g
      refine ⟨_, rfl, _, rfl, _, _, rfl, rfl, ⟨by decide, by decide⟩, _, rfl, _, _, rfl, rfl, ⟨by decide, by decide⟩, _, _, rfl, rfl, .inl ⟨by decide, by decide⟩, _, _, rfl, rfl, _, _, rfl, rfl, (by show (0 : Int) < 26; decide), _, _, _, rfl, rfl, abcLen, code3 i, ?_⟩
      refine ⟨_, rfl, _, rfl, _, rfl, _, _, rfl, rfl, (by show (0 : Int) < 4; decide), _, rfl, _, _, rfl, rfl, ⟨by decide, by decide⟩, _, _, rfl, rfl, (by show (0 : Int) < 3; decide), _, _, rfl, rfl, _, rfl, _, rfl, (by rw [tailS_len]; decide), _, _, rfl, rfl, ?_, ?_⟩
      · have h9 := (good_len g).2
        rw [app_len] at h9
        exact Nat.le_of_lt (small1000 (Nat.le_trans h9 (by decide)))
      refine ⟨_, rfl, .inl ⟨rfl, _, SqL.of e3⟩, _, rfl, L, _, _, rfl, rfl, e3, room, ?_⟩
      exact fin _ _ _ _ g
    · -- letters three apart
      have hm0 : 0 ≤ (c / 26 + (0 + (i : Int))) % 6 := Int.emod_nonneg _ (by decide)
      have hm1 : (c / 26 + (0 + (i : Int))) % 6 < 6 := Int.emod_lt_of_pos _ (by decide)
      refine ⟨_, rfl, _, _, rfl, rfl, ⟨by decide, by decide⟩, _, rfl, _, _, rfl, rfl, _, _, rfl, rfl, (by show (0 : Int) < 6; decide), _, rfl, by omega, by omega, ?_⟩
      refine for_range (lo := 0) (fun j σ H' => ∃ (vj : Option V) (s : Str), σ = [some (.int c), some (.str abc), some (.ref L), some (.int (1 + c / 3 % 6)), vj, some (.str (tailS (c / 72 % 26).toNat)), some (.int (0 + (i : Int))), some (.str s), vp, none] ∧ H' = H2 ∧
        s.cps.toList = w0 (((c / 72 % 26).toNat + 5 * i) % 26) (((c / 7 + (i : Int)) % 26).toNat) j) ⟨_, _, rfl, rfl, ?_⟩ ?_ ?_
      · show [ltr _] = [ltr _]
        unfold ltr
        rw [Nat.mod_mod]
      · rintro j σ H3 hj ⟨vj, s, rfl, rfl, es⟩
        have hj5 : j < 5 := by omega
        refine ⟨_, rfl, _, rfl, _, rfl, _, _, rfl, rfl, ⟨by decide, by decide⟩, _, rfl, _, _, rfl, rfl, .inl ⟨by decide, by decide⟩, _, _, rfl, rfl, _, rfl, _, _, rfl, rfl, _, _, rfl, rfl, (by show (0 : Int) < 26; decide), _, _, _, rfl, rfl, abcLen, code4 i j, _, _, rfl, rfl, ?_, ?_⟩
        · rw [len_toList, es, w0_len _ _ (by omega)]
          exact Nat.le_of_lt (small1000 (by show j + 1 + 1 ≤ 1000; omega))
        · refine ⟨_, _, rfl, rfl, ?_⟩
          rw [app_toList, es, w0_more _ _ j hj5]
      · rintro σ H3 ⟨vj, s, rfl, rfl, es⟩
        have g : Good s := by
          unfold Good
          rw [es]
          exact w0_ok (by omega) (by omega) (by omega)
        refine ⟨_, rfl, .inl ⟨rfl, _, SqL.of e3⟩, _, rfl, L, _, _, rfl, rfl, e3, room, ?_⟩
        exact fin _ _ _ _ g
  · rintro σ H2 ⟨ss, vj, vk, vw, vp, rfl, s3, e3, hlen, hgood⟩
    refine ⟨_, rfl, _, _, rfl, rfl, (by show (0 : Int) < 5; decide), rfl, _, rfl, ?_⟩
    refine ite2 (fun c1 => ?_) (fun c1 => ?_)
    · refine ⟨(by show 10 ≤ sizeLine; decide), fun p hp => ?_⟩
      have e4 : (upd H2 p (.lst (tens.map V.str))) L = some (.lst (ss.map V.str)) := by
        rw [upd_ne (ne_of_none e3 hp)]
        exact e3
      obtain ⟨j, ej⟩ : ∃ j : Nat, c / 40 % 10 = (j : Int) := ⟨(c / 40 % 10).toNat, by omega⟩
      have hj : j < tens.length := by show j < 10; omega
      obtain ⟨j8, ej8⟩ : ∃ j : Nat, c / 5 % 8 = (j : Int) := ⟨(c / 5 % 8).toNat, by omega⟩
      have hj8 : ixN (ss.map V.str).length (c / 5 % 8) = some j8 := by
        unfold ixN
        rw [List.length_map, hlen, ej8, if_pos (by omega), if_pos (by omega)]
        simp
      refine ⟨_, rfl, _, rfl, _, _, rfl, rfl, ⟨by decide, by decide⟩, _, _, rfl, rfl, (by show (0 : Int) < 10; decide), p, tens.map V.str, _, _, rfl, rfl, SqL.of upd_same, at_of (j := j) (v := .str tens[j]) ej (by rw [List.getElem?_map, List.getElem?_eq_getElem hj]; all_goals rfl), ?_⟩
      refine ⟨_, rfl, _, rfl, _, _, rfl, rfl, ⟨by decide, by decide⟩, _, _, rfl, rfl, (by show (0 : Int) < 8; decide), L, _, _, j8, rfl, rfl, e4, hj8, ?_⟩
      refine ⟨_, rfl, q L (ss.set j8 tens[j]) _ (fun b o hb => ?_) hL ?_ (by rw [List.length_set]; exact hlen) fun s hs => ?_⟩
      · rw [upd_ne (ne_of_none hb hL), upd_ne (ne_of_none (s3 b o hb) hp)]
        exact s3 b o hb
      · rw [upd_same, List.map_set]
      · rcases List.mem_or_eq_of_mem_set hs with h1 | h1
        · exact hgood s h1
        · rw [h1]
          exact tens_good _ (List.getElem_mem hj)
    · exact ⟨_, rfl, q L ss H2 s3 hL e3 hlen hgood⟩
end
end Lm
namespace Lm
open PySem L2
abbrev s_closed : Stmt := topS 31
abbrev s_opened : Stmt := topS 32
def spClosed (K : PySem.W.Frag) : Sp := fun vs H Q _ => ∃ (S T l : Addr) (ss : List Str) (m : Nat) (H0 Hc : Hp) (rs : List Row) (q : Addr × List Row) (o : List (Addr × List Row)) (ts : List Str) (t : Str), vs = [.ref S, .ref T] ∧
  Prog K ss m H0 Hc H S T l rs (q :: o) (ts ++ [t]) ∧ m + 2 ≤ 1000 ∧ ∀ (H' Hc' : Hp) (rs' : List Row), Prog K ss (m + 2) H0 Hc' H' S T q.1 rs' o ts → Q .non H'
def spOpened (K : PySem.W.Frag) : Sp := fun vs H Q _ => ∃ (n : Int) (a S T l : Addr) (ss : List Str) (m : Nat) (H0 Hc : Hp) (rs : List Row) (o : List (Addr × List Row)) (ts : List Str), vs = [.int n, .ref a, .ref S, .ref T] ∧
  NamesAt K H0 a ss ∧ Prog K ss m H0 Hc H S T l rs o ts ∧ o.length < 3 ∧ ts.length = o.length ∧ m + 2 ≤ 1000 ∧
  ∀ (H' Hc' : Hp) (q : Addr) (rs' : List Row) (ts' : List Str), Prog K ss (m + 2) H0 Hc' H' S T q [] ((l, rs') :: o) ts' → ts'.length = o.length + 1 → Q .non H'
section
variable {P : Program} {w : World} {K : PySem.W.Frag} {mg : Str → Option Value} {base : Heap} {f : Addr} {fd : FuncData}
theorem top_at {l : Addr} {o : List (Addr × List Row)} : atI ((opens l o).reverse.map V.ref) (-1) = some (.ref l) := by
  have e : (opens l o).reverse.map V.ref = (o.map (·.1)).reverse.map V.ref ++ [.ref l] := by simp [opens]
  rw [e]
  exact atI_last _ _
theorem sc_closed : FnScope ["_law_stack", "_law_tests", "_law_test"] ["_law_stack", "_law_tests"] (defScope s_closed) := ⟨rfl, rfl, rfl, by decide +kernel, rfl, by decide +kernel, by decide +kernel⟩
theorem ok_closed (F : Fun K "_law_closed" "_law_closed" s_closed f fd) : FnOk P w K mg base CX0 1 f fd ["_law_stack", "_law_tests"] (spClosed K) := by
  refine F.ok sc_closed (fun vs H Q E h => ?_) (fun cdv A outer s H vs Q E hr h => ?_)
  · obtain ⟨S, T, l, ss, m, H0, Hc, rs, q, o, ts, t, rfl, _⟩ := h
    rfl
  obtain ⟨S, T, l, ss, m, H0, Hc, rs, q, o, ts, t, rfl, hP, hm, k⟩ := h
  have nd := sc_closed.nd
  refine ⟨_, pss_cons (ps_set (i := 2) nd rfl (Or.inl rfl) (pe_bm0 PySem.F.plainAttrs_list PySem.F.slot_list_pop PySem.F.type_list_pop mt_pop (pv 1))) <|
    pss_cons (ps_if (pt_cmpR op_ne (pv 2) pe_str (nomark _))
      (pss_one (ps_expr (pe_bm PySem.F.plainAttrs_list PySem.F.slot_list_append PySem.F.type_list_append mt_append (pe_ix ix_list (pv 0) (pe_un un_neg pe_int) (fun _ _ => rfl))
        (pa_cons (pe_tup (pa_cons pe_str (pa_cons (pv 2) (pa_cons pe_str (pa_cons (pv 2) (pa_cons pe_int pa_nil)))))) pa_nil)))) pss_nil) <|
    pss_one (ps_expr (pe_bm0 PySem.F.plainAttrs_list PySem.F.slot_list_pop PySem.F.type_list_pop mt_pop (pv 0))), ?_⟩
  obtain ⟨n1, n2, n3, n4⟩ := hP.nST
  have eT : ((ts ++ [t]).map V.str).dropLast = ts.map V.str := by simp
  have eS : ((opens l (q :: o)).reverse.map V.ref).dropLast = (opens q.1 o).reverse.map V.ref := by simp [opens]
  have lS : ((opens l (q :: o)).reverse.map V.ref)[((opens l (q :: o)).reverse.map V.ref).length - 1]? = some (.ref l) := by simp [opens]
  have hP1 : Prog K ss m H0 Hc (upd H T (.lst (ts.map V.str))) S T l rs (q :: o) ts := hP.tests fun z hz => hP.tok z (by simp [hz])
  have fin : ∀ (H1 Hc1 : Hp) (rs1 : List Row) (m1 : Nat), m1 ≤ m + 1 → Prog K ss m1 H0 Hc1 H1 S T l rs1 (q :: o) ts → Q .non (upd H1 S (.lst ((opens l (q :: o)).reverse.map V.ref).dropLast)) := fun H1 Hc1 rs1 m1 h1 h2 => by
    rw [eS]
    obtain ⟨Hc2, kd, te, h3⟩ := h2.pop (by omega)
    exact k _ Hc2 _ (h3.more (by omega))
  refine ⟨_, rfl, .inl ⟨rfl, _, SqL.of hP.te⟩, T, _, .str t, rfl, rfl, hP.te, by simp, ?_⟩
  rw [eT]
  refine ⟨_, rfl, rfl, _, rfl, ?_⟩
  refine ite2 (fun c => ?_) (fun c => ?_)
  · have ht : t ∈ ss := by
      rcases hP.tok t (by simp) with e | e
      · rw [e] at c
        simp at c
      · exact e
    obtain ⟨vs, el, _⟩ := hP1.inn
    refine ⟨_, rfl, _, rfl, S, _, _, .ref l, rfl, rfl, SqL.of hP1.st, top_at, .inl ⟨rfl, _, SqL.of el⟩, _, rfl, _, rfl, (by show 5 ≤ sizeLine; decide), fun p hp => ?_⟩
    have hP2 := hP1.alloc hp (.tup [.str "let", .str t, .str "-", .str t, .int 1])
    obtain ⟨vs2, el2, ea2⟩ := hP2.inn
    have room : vs2.length < sizeLine := by
      rw [ea2.len]
      exact small1000 (Nat.le_trans hP2.wid (by omega))
    refine ⟨l, vs2, _, rfl, rfl, el2, room, ?_⟩
    have hP3 := hP2.app (r := .lt t "-" (.nm t) (.nu 1)) (v := .ref p) el2 ⟨p, rfl, SqT.of upd_same⟩ ⟨ht, by decide +kernel, ht, by decide, by decide⟩ (by show 0 + _ ≤ 3; have := hP2.dep; omega) rfl
    exact ⟨_, rfl, .inl ⟨rfl, _, SqL.of hP3.st⟩, S, _, .ref l, rfl, rfl, hP3.st, lS, fin _ _ _ _ (Nat.le_refl _) hP3⟩
  · exact ⟨_, rfl, .inl ⟨rfl, _, SqL.of hP1.st⟩, S, _, .ref l, rfl, rfl, hP1.st, lS, fin _ _ _ _ (Nat.le_succ _) hP1⟩
theorem sc_opened : FnScope ["_law_number", "_law_names_here", "_law_stack", "_law_tests", "_law_kind", "_law_test"] ["_law_number", "_law_names_here", "_law_stack", "_law_tests"] (defScope s_opened) := ⟨rfl, rfl, rfl, by decide +kernel, rfl, by decide +kernel, by decide +kernel⟩
theorem ok_opened (F : Fun K "_law_opened" "_law_opened" s_opened f fd) (ml : mg "len" = none) (mx : mg "max" = none) (mi : mg "int" = none) : FnOk P w K mg base CX0 1 f fd ["_law_number", "_law_names_here", "_law_stack", "_law_tests"] (spOpened K) := by
  refine F.ok sc_opened (fun vs H Q E h => ?_) (fun cdv A outer s H vs Q E hr h => ?_)
  · obtain ⟨n, a, S, T, l, ss, m, H0, Hc, rs, o, ts, rfl, _⟩ := h
    rfl
  obtain ⟨n, a, S, T, l, ss, m, H0, Hc, rs, o, ts, rfl, hN, hP, h3, htl, hm, k⟩ := h
  have nd := sc_opened.nd
  refine ⟨_, pss_cons (ps_set (i := 4) nd rfl (Or.inl rfl) (pe_ix ix_list (pe_lst (pa_cons pe_str (pa_cons pe_str (pa_cons pe_str (pa_cons pe_str pa_nil))))) (pe_op op_mod (pv 0) pe_int) (fun _ _ => rfl))) <|
    pss_cons (ps_set (i := 5) nd rfl (Or.inl rfl) (pe_ix ix_list (pv 1) (pe_op op_mod (pe_op op_fdiv (pv 0) pe_int) pe_int) (fun _ _ => rfl))) <|
    pss_cons (ps_expr (pe_bm PySem.F.plainAttrs_list PySem.F.slot_list_append PySem.F.type_list_append mt_append (pv 3) (pa_cons pe_str pa_nil))) <|
    pss_cons (ps_if (pt_cmpR op_gt (pe_op op_mod (pe_op op_fdiv (pv 0) pe_int) pe_int) pe_int (nomark _))
      (pss_cons (ps_set (i := 5) nd rfl (Or.inl rfl) (pe_ix ix_list (pv 1) (pe_op op_add pe_int (pe_callB call_len_seq rfl ml PySem.boot_len (pa_cons (pv 3) pa_nil))) (fun _ _ => rfl))) <|
        pss_cons (ps_asg (pv 5) (pg_sub (pv 3) (pe_un un_neg pe_int) set_list)) <|
        pss_one (ps_expr (pe_bm PySem.F.plainAttrs_list PySem.F.slot_list_append PySem.F.type_list_append mt_append (pe_ix ix_list (pv 2) (pe_un un_neg pe_int) (fun _ _ => rfl))
          (pa_cons (pe_tup (pa_cons pe_str (pa_cons (pv 5) (pa_cons pe_str (pa_cons (pe_callB (call_max2 rfl) rfl mx (by decide +kernel) (pa_cons (pe_op op_mod (pe_op op_fdiv (pv 0) pe_int) pe_int)
            (pa_cons (pe_callTy call_int1 rfl mi (by decide +kernel) (pa_cons (pe_cmpR op_eq (pv 4) pe_str (nomark _)) pa_nil)) pa_nil))) (pa_cons pe_int pa_nil)))))) pa_nil)))) pss_nil) <|
    pss_cons (ps_expr (pe_bm PySem.F.plainAttrs_list PySem.F.slot_list_append PySem.F.type_list_append mt_append (pe_ix ix_list (pv 2) (pe_un un_neg pe_int) (fun _ _ => rfl)) (pa_cons (pe_tup (pa_cons (pv 4) (pa_cons (pv 5) (pa_cons (pe_lst pa_nil) pa_nil)))) pa_nil))) <|
    pss_one (ps_expr (pe_bm PySem.F.plainAttrs_list PySem.F.slot_list_append PySem.F.type_list_append mt_append (pv 2)
      (pa_cons (pe_ix ix_tup (pe_ix ix_list (pe_ix ix_list (pv 2) (pe_un un_neg pe_int) (fun _ _ => rfl)) (pe_un un_neg pe_int) (fun _ _ => rfl)) pe_int (fun _ _ => rfl)) pa_nil))), ?_⟩
  obtain ⟨n1, n2, n3, n4⟩ := hP.nST
  obtain ⟨kd, hkd, ekd⟩ : ∃ kd, kd ∈ kinds ∧ atI ([.str "when", .str "loop", .str "again", .str "loop"] : List V) (n % 4) = some (.str kd) := by
    have h0 : 0 ≤ n % 4 := Int.emod_nonneg _ (by decide)
    have h1 : n % 4 < 4 := Int.emod_lt_of_pos _ (by decide)
    obtain ⟨j, ej⟩ : ∃ j : Nat, n % 4 = (j : Int) := ⟨(n % 4).toNat, by omega⟩
    rw [ej]
    match j, (by omega : j < 4) with
    | 0, _ => exact ⟨"when", by decide +kernel, atI_nat rfl⟩
    | 1, _ => exact ⟨"loop", by decide +kernel, atI_nat rfl⟩
    | 2, _ => exact ⟨"again", by decide +kernel, atI_nat rfl⟩
    | 3, _ => exact ⟨"loop", by decide +kernel, atI_nat rfl⟩
    | j + 4, h => exact absurd h (by omega)
  refine ⟨(by show 4 ≤ sizeLine; decide), fun p0 hp0 => ?_⟩
  have hP0 := hP.alloc hp0 (.lst [.str "when", .str "loop", .str "again", .str "loop"])
  have hN0 := hN.mono (Same.kp hP0.same)
  obtain ⟨te, hte, ete⟩ := hN0.at (z := n / 64 % 8) (Int.emod_nonneg _ (by decide)) (by have := Int.emod_lt_of_pos (n / 64) (b := 8) (by decide); omega)
  have hP1 := hP0.tests (ts' := ts ++ [("" : Str)]) fun z hz => by
    rcases List.mem_append.mp hz with e | e
    · exact hP.tok z e
    · exact .inl (List.mem_singleton.mp e)
  have hN1 := hN.mono (Same.kp hP1.same)
  have eT1 : (ts ++ [("" : Str)]).map V.str = ts.map V.str ++ [.str ""] := by simp
  refine ⟨_, rfl, _, _, rfl, rfl, (by show (0 : Int) < 4; decide), p0, _, _, _, rfl, rfl, SqL.of upd_same, ekd, _, rfl, _, rfl, _, _, rfl, rfl, ⟨by decide, by decide⟩, _, _, rfl, rfl, (by show (0 : Int) < 8; decide), a, _, _, _, rfl, rfl, hN0.1, ete, ?_⟩
  refine ⟨_, rfl, .inl ⟨rfl, _, SqL.of hP0.te⟩, T, _, _, rfl, rfl, hP0.te, ?_, ?_⟩
  · rw [List.length_map]
    exact small1000 (by omega)
  rw [← eT1]
  -- the block's own row and the stack
  have fin : ∀ (H1 Hc1 : Hp) (rs1 : List Row) (ts1 : List Str) (m1 : Nat) (te1 : Str), m1 ≤ m + 1 → te1 ∈ ss → ts1.length = o.length + 1 → Prog K ss m1 H0 Hc1 H1 S T l rs1 o ts1 →
      ∀ (xs : List V) (b q p : Addr) (vs : List V), H1 q = none → (upd H1 q (.lst [])) p = none → H1 l = some (.lst vs) →
        Q .non (upd (upd (upd (upd H1 q (.lst [])) p (.tup [.str kd, .str te1, .ref q])) l (.lst (vs ++ [.ref p]))) S (.lst ((opens l o).reverse.map V.ref ++ [.ref q]))) :=
    fun H1 Hc1 rs1 ts1 m1 te1 h1 h2 h3' h4 xs b q p vs hq hp hl => k _ _ q rs1 ts1 ((h4.push hl hq hp hkd h2 (by omega)).more (by omega)) h3'
  refine ⟨_, rfl, _, _, rfl, rfl, ⟨by decide, by decide⟩, _, _, rfl, rfl, (by show (0 : Int) < 4; decide), _, _, rfl, rfl, _, rfl, ?_⟩
  refine ite2 (fun c => ?_) (fun c => ?_)
  · -- a test of its own, counted down
    have htl1 : (ts ++ [("" : Str)]).length = o.length + 1 := by rw [List.length_append, htl]; rfl
    obtain ⟨t2, ht2, et2⟩ := hN1.at (z := 11 + (((ts ++ [("" : Str)]).map V.str).length : Int)) (by omega) (by rw [List.length_map, htl1]; omega)
    have hP2 := hP1.tests (ts' := ts ++ [t2]) fun z hz => by
      rcases List.mem_append.mp hz with e | e
      · exact hP.tok z e
      · exact .inr (by rw [List.mem_singleton.mp e]; exact ht2)
    rw [upd_upd] at hP2
    have eix : ixN ((ts ++ [("" : Str)]).map V.str).length (-1) = some ts.length := by
      unfold ixN
      rw [List.length_map, List.length_append, if_neg (by decide), if_pos (by simp; omega)]
      simp
      omega
    have eset : ((ts ++ [("" : Str)]).map V.str).set ts.length (.str t2) = (ts ++ [t2]).map V.str := by simp
    obtain ⟨vs2, el3, ea3⟩ := hP2.inn
    refine ⟨_, rfl, _, rfl, T, _, rfl, .inl (SqL.of upd_same), _, _, rfl, rfl, a, _, _, _, rfl, rfl, hN1.1, et2, ?_⟩
    refine ⟨_, rfl, _, rfl, _, rfl, T, _, _, _, rfl, rfl, upd_same, eix, ?_⟩
    rw [eset, upd_upd]
    refine ⟨_, rfl, _, rfl, S, _, _, .ref l, rfl, rfl, SqL.of hP2.st, top_at, .inl ⟨rfl, _, SqL.of el3⟩, _, rfl, _, rfl, _, _, rfl, rfl, ⟨by decide, by decide⟩, _, _, rfl, rfl, (by show (0 : Int) < 4; decide), _, rfl, rfl, .inr ⟨_, rfl, ?_⟩⟩
    have hz0 : 0 ≤ n / 4 % 4 := Int.emod_nonneg _ (by decide)
    have hz1 : n / 4 % 4 < 4 := Int.emod_lt_of_pos _ (by decide)
    have hz : ∀ k : Bool, 0 ≤ (if (if k = true then (1 : Int) else 0) > n / 4 % 4 then (if k = true then (1 : Int) else 0) else n / 4 % 4) ∧ (if (if k = true then (1 : Int) else 0) > n / 4 % 4 then (if k = true then (1 : Int) else 0) else n / 4 % 4) < 1000000 := fun k => by
      cases k
      · rw [if_neg Bool.false_ne_true]
        split <;> omega
      · rw [if_pos rfl]
        split <;> omega
    refine ⟨_, _, rfl, (by show 5 ≤ sizeLine; decide), fun p1 hp1 => ?_⟩
    have hP3 := hP2.alloc hp1 (.tup [.str "let", .str t2, .str "+", .int (if (if decide (V.str kd = V.str "again") = true then (1 : Int) else 0) > n / 4 % 4 then (if decide (V.str kd = V.str "again") = true then (1 : Int) else 0) else n / 4 % 4), .int 0])
    obtain ⟨vs4, el4, ea4⟩ := hP3.inn
    have hP4 := hP3.app (r := .lt t2 "+" (.nu _) (.nu 0)) (v := .ref p1) el4 ⟨p1, rfl, SqT.of upd_same⟩ ⟨ht2, by decide +kernel, hz _, by decide, by decide⟩ (by show 0 + _ ≤ 3; have := hP3.dep; omega) rfl
    refine ⟨l, vs4, _, rfl, rfl, el4, by rw [ea4.len]; exact small1000 (Nat.le_trans hP3.wid (by omega)), ?_⟩
    have htl2 : (ts ++ [t2]).length = o.length + 1 := by rw [List.length_append, htl]; rfl
    obtain ⟨vs1, el1, ea1⟩ := hP4.inn
    refine ⟨_, rfl, _, rfl, S, _, _, .ref l, rfl, rfl, SqL.of hP4.st, top_at, .inl ⟨rfl, _, SqL.of el1⟩, _, rfl, _, rfl, (by show 0 ≤ sizeLine; decide), fun q hq => ⟨(by show 3 ≤ sizeLine; decide), fun p hp => ?_⟩⟩
    obtain ⟨el8, eS8, eP8⟩ := hP4.pushes kd t2 el1 hq hp
    refine ⟨l, vs1, _, rfl, rfl, el8, by rw [ea1.len]; exact small1000 (Nat.le_trans hP4.wid (by omega)), ?_⟩
    exact ⟨_, rfl, .inl ⟨rfl, _, SqL.of eS8⟩, _, rfl, _, rfl, S, _, _, .ref l, rfl, rfl, SqL.of eS8, top_at, _, rfl, l, _, _, .ref p, rfl, rfl, SqL.of upd_same, atI_last _ _, p, _, _, .ref q, rfl, rfl, SqT.of eP8, atI_nat rfl, S, _, _, rfl, rfl, eS8, hP4.roomS, fin _ _ _ _ (m + 1) t2 (Nat.le_refl _) ht2 htl2 hP4 [] q q p vs1 hq hp el1⟩
  · have htl1 : (ts ++ [("" : Str)]).length = o.length + 1 := by rw [List.length_append, htl]; rfl
    obtain ⟨vs1, el1, ea1⟩ := hP1.inn
    refine ⟨_, rfl, _, rfl, S, _, _, .ref l, rfl, rfl, SqL.of hP1.st, top_at, .inl ⟨rfl, _, SqL.of el1⟩, _, rfl, _, rfl, (by show 0 ≤ sizeLine; decide), fun q hq => ⟨(by show 3 ≤ sizeLine; decide), fun p hp => ?_⟩⟩
    obtain ⟨el8, eS8, eP8⟩ := hP1.pushes kd te el1 hq hp
    refine ⟨l, vs1, _, rfl, rfl, el8, by rw [ea1.len]; exact small1000 (Nat.le_trans hP1.wid (by omega)), ?_⟩
    exact ⟨_, rfl, .inl ⟨rfl, _, SqL.of eS8⟩, _, rfl, _, rfl, S, _, _, .ref l, rfl, rfl, SqL.of eS8, top_at, _, rfl, l, _, _, .ref p, rfl, rfl, SqL.of upd_same, atI_last _ _, p, _, _, .ref q, rfl, rfl, SqT.of eP8, atI_nat rfl, S, _, _, rfl, rfl, eS8, hP1.roomS, fin _ _ _ _ m te (Nat.le_succ _) hte htl1 hP1 [] q q p vs1 hq hp el1⟩
end
end Lm
namespace Lm
open PySem L2
abbrev s_program : Stmt := topS 33
def spProgram (K : PySem.W.Frag) : Sp := fun vs H Q _ => ∃ (c a : Addr) (ns : List Int) (ss : List Str), vs = [.ref c, .ref a] ∧ SqL K H c (ns.map V.int) ∧ ns.length ≤ 63 ∧ NamesAt K H a ss ∧
  ∀ (H' : Hp) (l : Addr) (rs : List Row), Same H H' → H l = none → RowsL K H' l rs → oks ss rs → deps rs ≤ 3 → tots rs ≤ 140 → Q (.ref l) H'
/-- the same, with what stands but for the list itself -/
def spProgramC (K : PySem.W.Frag) : Sp := fun vs H Q _ => ∃ (c a : Addr) (ns : List Int) (ss : List Str), vs = [.ref c, .ref a] ∧ SqL K H c (ns.map V.int) ∧ ns.length ≤ 63 ∧ NamesAt K H a ss ∧
  ∀ (H' Hc : Hp) (l : Addr) (rs : List Row) (us : List V), Same H Hc → Same Hc H' → Hc l = none → H l = none → H' l = some (.lst us) → AllAt K Hc rs us → oks ss rs → deps rs ≤ 3 → tots rs ≤ 140 → Q (.ref l) H'
section
variable {P : Program} {w : World} {K : PySem.W.Frag} {mg : Str → Option Value} {base : Heap} {f : Addr} {fd : FuncData}
theorem sc_program : FnScope ["_law_cells", "_law_names_here", "_law_stack", "_law_tests", "_law_k", "_law_number", "_law_way"] ["_law_cells", "_law_names_here"] (defScope s_program) := ⟨rfl, rfl, rfl, by decide +kernel, rfl, by decide +kernel, by decide +kernel⟩
theorem ok_programC {fm fo fc fv fl : Addr} {dm do_ dc dv dl : FuncData} (F : Fun K "_law_program" "_law_program" s_program f fd) (ml : mg "len" = none) (mr : mg "range" = none)
    (M : Df P w K mg base "_law_mixed" 1 fm dm ["_law_cell", "_law_k"] spMixed) (O : Df P w K mg base "_law_opened" 1 fo do_ ["_law_number", "_law_names_here", "_law_stack", "_law_tests"] (spOpened K))
    (C : Df P w K mg base "_law_closed" 1 fc dc ["_law_stack", "_law_tests"] (spClosed K)) (DV : Df P w K mg base "_law_value" 1 fv dv ["_law_kind", "_law_number", "_law_names_here"] (spValue K))
    (DL : Df P w K mg base "_law_let" 2 fl dl ["_law_number", "_law_names_here"] (spLet K)) : FnOk P w K mg base CX0 3 f fd ["_law_cells", "_law_names_here"] (spProgramC K) := by
  refine F.ok sc_program (fun vs H Q E h => ?_) (fun cdv A outer s H vs Q E hr h => ?_)
  · obtain ⟨c, a, ns, ss, rfl, _⟩ := h
    rfl
  obtain ⟨c, a, ns, ss, rfl, hS, h63, hN, k⟩ := h
  have nd := sc_program.nd
  have hr1 : Room 1 _ := hr.mono (by decide)
  refine ⟨_, pss_cons (ps_set (i := 2) nd rfl (Or.inl rfl) (pe_lst (pa_cons (pe_lst pa_nil) pa_nil))) <|
    pss_cons (ps_set (i := 3) nd rfl (Or.inl rfl) (pe_lst pa_nil)) <|
    pss_cons (ps_for PassesOwn.never rfl (pi_range1 rfl mr (pa_cons (pe_callB call_len_seq rfl ml PySem.boot_len (pa_cons (pv 0) pa_nil)) pa_nil)) (pg_name (i := 4) nd rfl (Or.inl rfl))
      (pss_cons (ps_set (i := 5) nd rfl (Or.inl rfl) (pe_df M hr1 (pa_cons (pe_ix ix_list (pv 0) (pv 4) (fun _ _ => rfl)) (pa_cons (pv 4) pa_nil)))) <|
      pss_cons (ps_set (i := 6) nd rfl (Or.inl rfl) (pe_op op_mod (pv 5) pe_int)) <|
      pss_cons (ps_set (i := 5) nd rfl (Or.inl rfl) (pe_op op_fdiv (pv 5) pe_int)) <|
      pss_one (ps_if (PW.pt (pw_and (pt_cmpR op_lt (pv 6) pe_int (nomark _)) (pw_and1 (pt_cmpR op_lt (pe_callB call_len_seq rfl ml PySem.boot_len (pa_cons (pv 3) pa_nil)) pe_int (nomark _)))))
        (pss_one (ps_expr (pe_df O hr1 (pa_cons (pv 5) (pa_cons (pv 1) (pa_cons (pv 2) (pa_cons (pv 3) pa_nil)))))))
        (pss_one (ps_if (PW.pt (pw_and (pt_cmpR op_eq (pv 6) pe_int (nomark _)) (pw_and1 (pt_cmpR op_gt (pe_callB call_len_seq rfl ml PySem.boot_len (pa_cons (pv 3) pa_nil)) pe_int (nomark _)))))
          (pss_one (ps_expr (pe_df C hr1 (pa_cons (pv 2) (pa_cons (pv 3) pa_nil)))))
          (pss_one (ps_if (pt_cmpR op_eq (pv 6) pe_int (nomark _))
            (pss_one (ps_expr (pe_bm PySem.F.plainAttrs_list PySem.F.slot_list_append PySem.F.type_list_append mt_append (pe_ix ix_list (pv 2) (pe_un un_neg pe_int) (fun _ _ => rfl))
              (pa_cons (pe_tup (pa_cons pe_str (pa_cons (pe_df DV hr1 (pa_cons (pe_op op_mod (pv 5) pe_int) (pa_cons (pe_op op_fdiv (pv 5) pe_int) (pa_cons (pv 1) pa_nil)))) pa_nil))) pa_nil))))
            (pss_one (ps_expr (pe_bm PySem.F.plainAttrs_list PySem.F.slot_list_append PySem.F.type_list_append mt_append (pe_ix ix_list (pv 2) (pe_un un_neg pe_int) (fun _ _ => rfl))
              (pa_cons (pe_df DL hr (pa_cons (pv 5) (pa_cons (pv 1) pa_nil))) pa_nil))))))))))) <|
    pss_cons (ps_while PassesOwn.never (pt_cmpR op_gt (pe_callB call_len_seq rfl ml PySem.boot_len (pa_cons (pv 3) pa_nil)) pe_int (nomark _))
      (pss_one (ps_expr (pe_df C hr1 (pa_cons (pv 2) (pa_cons (pv 3) pa_nil)))))) <|
    pss_one (ps_ret (pe_ix ix_list (pv 2) pe_int (fun _ _ => rfl))), ?_⟩
  refine ⟨(by show 0 ≤ sizeLine; decide), fun l hl => ⟨(by show 1 ≤ sizeLine; decide), fun S hS0 => ⟨(by show 0 ≤ sizeLine; decide), fun T hT => ?_⟩⟩⟩
  have nSl : S ≠ l := fun e => by rw [e, upd_same] at hS0; cases hS0
  have nTS : T ≠ S := fun e => by rw [e, upd_same] at hT; cases hT
  have hT1 : (upd H l (.lst [])) T = none := by rw [upd_ne nTS] at hT; exact hT
  have nTl : T ≠ l := fun e => by rw [e, upd_same] at hT1; cases hT1
  have eS : H S = none := by rw [upd_ne nSl] at hS0; exact hS0
  have eT : H T = none := by rw [upd_ne nTl] at hT1; exact hT1
  have hP : Prog K ss (2 * 0) H H (upd (upd (upd H l (.lst [])) S (.lst [.ref l])) T (.lst [])) S T l [] [] [] :=
    ⟨Same.refl _, (same_new hl _).trans ((same_new hS0 _).trans (same_new hT _)), ⟨[], by rw [upd_ne nTl.symm, upd_ne nSl.symm, upd_same], rfl⟩, True.intro,
      fun b hb => by
        simp only [opens, List.map_nil, List.mem_cons, List.not_mem_nil, or_false] at hb
        rcases hb with e | e | e <;> (rw [e]; assumption),
      by simp [opens, nSl, nTS.symm, nTl], True.intro, by decide, by decide, by decide, by rw [upd_ne nTS.symm, upd_same]; rfl, upd_same, fun t ht => by cases ht⟩
  have hN0 : ∀ {H'}, Same H H' → NamesAt K H' a ss := fun e => hN.mono (Same.kp e)
  refine ⟨_, rfl, c, _, rfl, .inl (hP.same.seq hS), _, rfl, (by rw [List.length_map]; omega), (by rw [List.length_map]; omega), for_range (lo := 0) (n := (((ns.map V.int).length : Nat) : Int).toNat) (fun i σ H' => ∃ (Hc : Hp) (l1 : Addr) (rs1 : List Row) (o1 : List (Addr × List Row)) (ts1 : List Str) (v4 v5 v6 : Option V),
    σ = [some (.ref c), some (.ref a), some (.ref S), some (.ref T), v4, v5, v6] ∧ Prog K ss (2 * i) H Hc H' S T l1 rs1 o1 ts1 ∧ ts1.length = o1.length) ⟨H, l, [], [], [], none, none, none, rfl, hP, rfl⟩ ?_ ?_⟩
  · rintro i σ H1 hi ⟨Hc, l1, rs1, o1, ts1, v4, v5, v6, rfl, hP1, htl1⟩
    rw [List.length_map] at hi
    have hi' : i < ns.length := by omega
    obtain ⟨vs1, el1, ea1⟩ := hP1.inn
    have hN1 := hN0 hP1.same
    have room1 : vs1.length < sizeLine := by
      rw [ea1.len]
      exact small1000 (Nat.le_trans hP1.wid (by omega))
    have hend : ∀ (H2 Hc2 : Hp) (l2 : Addr) (rs2 : List Row) (o2 : List (Addr × List Row)) (ts2 : List Str) (m2 : Nat), m2 ≤ 2 * (i + 1) → Prog K ss m2 H Hc2 H2 S T l2 rs2 o2 ts2 → ts2.length = o2.length → ∀ v4 v5 v6 : Option V,
        ∃ (Hc : Hp) (l1 : Addr) (rs1 : List Row) (o1 : List (Addr × List Row)) (ts1 : List Str) (w4 w5 w6 : Option V), [some (V.ref c), some (V.ref a), some (V.ref S), some (V.ref T), v4, v5, v6] = [some (V.ref c), some (V.ref a), some (V.ref S), some (V.ref T), w4, w5, w6] ∧ Prog K ss (2 * (i + 1)) H Hc H2 S T l1 rs1 o1 ts1 ∧ ts1.length = o1.length :=
      fun H2 Hc2 l2 rs2 o2 ts2 m2 hm hp ht v4 v5 v6 => ⟨Hc2, l2, rs2, o2, ts2, v4, v5, v6, rfl, hp.more hm, ht⟩
    refine ⟨_, rfl, _, rfl, c, _, _, _, rfl, rfl, hP1.same.seq hS, at_of (j := i) (v := .int ns[i]) (by omega) (by rw [List.getElem?_map, List.getElem?_eq_getElem hi']; all_goals rfl), _, rfl, _, _, rfl, fun n hn0 hn1 => ?_⟩
    refine ⟨_, rfl, _, _, rfl, rfl, (by show (0 : Int) < 9; decide), _, rfl, _, _, rfl, rfl, ⟨by decide, by decide⟩, ?_⟩
    refine ⟨_, rfl, _, _, rfl, rfl, _, rfl, ?_⟩
    refine ite2 (fun c1 => ?_) (fun c1 => ?_)
    · refine ⟨_, rfl, T, _, rfl, .inl (SqL.of hP1.te), _, _, rfl, rfl, _, rfl, ?_⟩
      refine ite2 (fun c2 => ?_) (fun c2 => ?_)
      · -- a block opens
        have c2' : (((ts1.map V.str).length : Nat) : Int) < 3 := of_decide_eq_true c2
        rw [List.length_map] at c2'
        refine ⟨_, rfl, _, rfl, _, rfl, _, rfl, _, a, S, T, l1, ss, 2 * i, H, Hc, rs1, o1, ts1, rfl, hN, hP1, by omega, htl1, by omega, fun H2 Hc2 q rs2 ts2 hP2 ht2 => ?_⟩
        exact hend _ _ _ _ _ _ _ (by omega) hP2 ht2 _ _ _
      ·
        refine ⟨_, rfl, rfl, _, rfl, ?_⟩
        refine ite2 (fun c2 => ?_) (fun c2 => ?_)
        · refine ⟨_, rfl, T, _, rfl, .inl (SqL.of hP1.te), _, _, rfl, rfl, _, rfl, ?_⟩
          refine ite2 (fun c3 => ?_) (fun c3 => ?_)
          · -- a block closes
            have c3' : (((ts1.map V.str).length : Nat) : Int) > 0 := of_decide_eq_true c3
            rw [List.length_map] at c3'
            obtain ⟨q1, o1', rfl⟩ : ∃ q o', o1 = q :: o' := by
              cases o1 with
              | nil => rw [htl1] at c3'; simp at c3'
              | cons q o' => exact ⟨q, o', rfl⟩
            obtain ⟨ts2, t2, rfl⟩ : ∃ ts2 t2, ts1 = ts2 ++ [t2] := by
              rcases List.eq_nil_or_concat ts1 with e | ⟨u, v, e⟩
              · rw [e] at htl1; cases htl1
              · exact ⟨u, v, by rw [e, List.concat_eq_append]⟩
            refine ⟨_, rfl, _, rfl, S, T, l1, ss, 2 * i, H, Hc, rs1, q1, o1', ts2, t2, rfl, hP1, by omega, fun H2 Hc2 rs2 hP2 => ?_⟩
            exact hend _ _ _ _ _ _ _ (by omega) hP2 (by rw [List.length_append] at htl1; exact Nat.succ.inj htl1) _ _ _
          ·
            refine ⟨_, rfl, rfl, _, rfl, ?_⟩
            refine ite2 (fun c3 => ?_) (fun c3 => ?_)
            · -- say
              refine ⟨_, rfl, _, rfl, S, _, _, .ref l1, rfl, rfl, SqL.of hP1.st, top_at, .inl ⟨rfl, _, SqL.of el1⟩, _, rfl, _, _, rfl, rfl, (by show (0 : Int) < 16; decide), _, rfl, _, _, rfl, rfl, ⟨by decide, by decide⟩, _, rfl, _, _, a, ss, rfl, Int.emod_nonneg _ (by decide), Int.emod_lt_of_pos _ (by decide), hN1, fun x hx => ⟨(by show 2 ≤ sizeLine; decide), fun p hp => ?_⟩⟩
              have hP2 := hP1.alloc hp (.tup [.str "say", x.v])
              have el2 : (upd H1 p (.tup [.str "say", x.v])) l1 = some (.lst vs1) := by
                rw [upd_ne (hP1.apart hp l1 (by simp))]
                exact el1
              have hP3 := hP2.app (r := .sy x) (v := .ref p) el2 ⟨p, rfl, SqT.of upd_same⟩ hx (by show 0 + _ ≤ 3; have := hP2.dep; omega) rfl
              exact ⟨l1, vs1, _, rfl, rfl, el2, room1, hend _ _ _ _ _ _ _ (by omega) hP3 htl1 _ _ _⟩
            · -- let
              refine ⟨_, rfl, _, rfl, S, _, _, .ref l1, rfl, rfl, SqL.of hP1.st, top_at, .inl ⟨rfl, _, SqL.of el1⟩, _, rfl, _, rfl, _, a, ss, rfl, hN1, fun p to sg x y H2 hp hok eH => ?_⟩
              subst eH
              have hP2 := hP1.alloc hp (.tup [.str "let", .str to, .str sg, x.v, y.v])
              have el2 : (upd H1 p (.tup [.str "let", .str to, .str sg, x.v, y.v])) l1 = some (.lst vs1) := by
                rw [upd_ne (hP1.apart hp l1 (by simp))]
                exact el1
              have hP3 := hP2.app (r := .lt to sg x y) (v := .ref p) el2 ⟨p, rfl, SqT.of upd_same⟩ hok (by show 0 + _ ≤ 3; have := hP2.dep; omega) rfl
              exact ⟨l1, vs1, _, rfl, rfl, el2, room1, hend _ _ _ _ _ _ _ (by omega) hP3 htl1 _ _ _⟩
        · refine iteF ?_
          refine ⟨_, rfl, rfl, _, rfl, ?_⟩
          refine ite2 (fun c3 => ?_) (fun c3 => ?_)
          · -- say
            refine ⟨_, rfl, _, rfl, S, _, _, .ref l1, rfl, rfl, SqL.of hP1.st, top_at, .inl ⟨rfl, _, SqL.of el1⟩, _, rfl, _, _, rfl, rfl, (by show (0 : Int) < 16; decide), _, rfl, _, _, rfl, rfl, ⟨by decide, by decide⟩, _, rfl, _, _, a, ss, rfl, Int.emod_nonneg _ (by decide), Int.emod_lt_of_pos _ (by decide), hN1, fun x hx => ⟨(by show 2 ≤ sizeLine; decide), fun p hp => ?_⟩⟩
            have hP2 := hP1.alloc hp (.tup [.str "say", x.v])
            have el2 : (upd H1 p (.tup [.str "say", x.v])) l1 = some (.lst vs1) := by
              rw [upd_ne (hP1.apart hp l1 (by simp))]
              exact el1
            have hP3 := hP2.app (r := .sy x) (v := .ref p) el2 ⟨p, rfl, SqT.of upd_same⟩ hx (by show 0 + _ ≤ 3; have := hP2.dep; omega) rfl
            exact ⟨l1, vs1, _, rfl, rfl, el2, room1, hend _ _ _ _ _ _ _ (by omega) hP3 htl1 _ _ _⟩
          · -- let
            refine ⟨_, rfl, _, rfl, S, _, _, .ref l1, rfl, rfl, SqL.of hP1.st, top_at, .inl ⟨rfl, _, SqL.of el1⟩, _, rfl, _, rfl, _, a, ss, rfl, hN1, fun p to sg x y H2 hp hok eH => ?_⟩
            subst eH
            have hP2 := hP1.alloc hp (.tup [.str "let", .str to, .str sg, x.v, y.v])
            have el2 : (upd H1 p (.tup [.str "let", .str to, .str sg, x.v, y.v])) l1 = some (.lst vs1) := by
              rw [upd_ne (hP1.apart hp l1 (by simp))]
              exact el1
            have hP3 := hP2.app (r := .lt to sg x y) (v := .ref p) el2 ⟨p, rfl, SqT.of upd_same⟩ hok (by show 0 + _ ≤ 3; have := hP2.dep; omega) rfl
            exact ⟨l1, vs1, _, rfl, rfl, el2, room1, hend _ _ _ _ _ _ _ (by omega) hP3 htl1 _ _ _⟩
    · refine iteF ?_
      refine ⟨_, rfl, rfl, _, rfl, ?_⟩
      refine ite2 (fun c2 => ?_) (fun c2 => ?_)
      · refine ⟨_, rfl, T, _, rfl, .inl (SqL.of hP1.te), _, _, rfl, rfl, _, rfl, ?_⟩
        refine ite2 (fun c3 => ?_) (fun c3 => ?_)
        · -- a block closes
          have c3' : (((ts1.map V.str).length : Nat) : Int) > 0 := of_decide_eq_true c3
          rw [List.length_map] at c3'
          obtain ⟨q1, o1', rfl⟩ : ∃ q o', o1 = q :: o' := by
            cases o1 with
            | nil => rw [htl1] at c3'; simp at c3'
            | cons q o' => exact ⟨q, o', rfl⟩
          obtain ⟨ts2, t2, rfl⟩ : ∃ ts2 t2, ts1 = ts2 ++ [t2] := by
            rcases List.eq_nil_or_concat ts1 with e | ⟨u, v, e⟩
            · rw [e] at htl1; cases htl1
            · exact ⟨u, v, by rw [e, List.concat_eq_append]⟩
          refine ⟨_, rfl, _, rfl, S, T, l1, ss, 2 * i, H, Hc, rs1, q1, o1', ts2, t2, rfl, hP1, by omega, fun H2 Hc2 rs2 hP2 => ?_⟩
          exact hend _ _ _ _ _ _ _ (by omega) hP2 (by rw [List.length_append] at htl1; exact Nat.succ.inj htl1) _ _ _
        ·
          refine ⟨_, rfl, rfl, _, rfl, ?_⟩
          refine ite2 (fun c3 => ?_) (fun c3 => ?_)
          · -- say
            refine ⟨_, rfl, _, rfl, S, _, _, .ref l1, rfl, rfl, SqL.of hP1.st, top_at, .inl ⟨rfl, _, SqL.of el1⟩, _, rfl, _, _, rfl, rfl, (by show (0 : Int) < 16; decide), _, rfl, _, _, rfl, rfl, ⟨by decide, by decide⟩, _, rfl, _, _, a, ss, rfl, Int.emod_nonneg _ (by decide), Int.emod_lt_of_pos _ (by decide), hN1, fun x hx => ⟨(by show 2 ≤ sizeLine; decide), fun p hp => ?_⟩⟩
            have hP2 := hP1.alloc hp (.tup [.str "say", x.v])
            have el2 : (upd H1 p (.tup [.str "say", x.v])) l1 = some (.lst vs1) := by
              rw [upd_ne (hP1.apart hp l1 (by simp))]
              exact el1
            have hP3 := hP2.app (r := .sy x) (v := .ref p) el2 ⟨p, rfl, SqT.of upd_same⟩ hx (by show 0 + _ ≤ 3; have := hP2.dep; omega) rfl
            exact ⟨l1, vs1, _, rfl, rfl, el2, room1, hend _ _ _ _ _ _ _ (by omega) hP3 htl1 _ _ _⟩
          · -- let
            refine ⟨_, rfl, _, rfl, S, _, _, .ref l1, rfl, rfl, SqL.of hP1.st, top_at, .inl ⟨rfl, _, SqL.of el1⟩, _, rfl, _, rfl, _, a, ss, rfl, hN1, fun p to sg x y H2 hp hok eH => ?_⟩
            subst eH
            have hP2 := hP1.alloc hp (.tup [.str "let", .str to, .str sg, x.v, y.v])
            have el2 : (upd H1 p (.tup [.str "let", .str to, .str sg, x.v, y.v])) l1 = some (.lst vs1) := by
              rw [upd_ne (hP1.apart hp l1 (by simp))]
              exact el1
            have hP3 := hP2.app (r := .lt to sg x y) (v := .ref p) el2 ⟨p, rfl, SqT.of upd_same⟩ hok (by show 0 + _ ≤ 3; have := hP2.dep; omega) rfl
            exact ⟨l1, vs1, _, rfl, rfl, el2, room1, hend _ _ _ _ _ _ _ (by omega) hP3 htl1 _ _ _⟩
      · refine iteF ?_
        refine ⟨_, rfl, rfl, _, rfl, ?_⟩
        refine ite2 (fun c3 => ?_) (fun c3 => ?_)
        · -- say
          refine ⟨_, rfl, _, rfl, S, _, _, .ref l1, rfl, rfl, SqL.of hP1.st, top_at, .inl ⟨rfl, _, SqL.of el1⟩, _, rfl, _, _, rfl, rfl, (by show (0 : Int) < 16; decide), _, rfl, _, _, rfl, rfl, ⟨by decide, by decide⟩, _, rfl, _, _, a, ss, rfl, Int.emod_nonneg _ (by decide), Int.emod_lt_of_pos _ (by decide), hN1, fun x hx => ⟨(by show 2 ≤ sizeLine; decide), fun p hp => ?_⟩⟩
          have hP2 := hP1.alloc hp (.tup [.str "say", x.v])
          have el2 : (upd H1 p (.tup [.str "say", x.v])) l1 = some (.lst vs1) := by
            rw [upd_ne (hP1.apart hp l1 (by simp))]
            exact el1
          have hP3 := hP2.app (r := .sy x) (v := .ref p) el2 ⟨p, rfl, SqT.of upd_same⟩ hx (by show 0 + _ ≤ 3; have := hP2.dep; omega) rfl
          exact ⟨l1, vs1, _, rfl, rfl, el2, room1, hend _ _ _ _ _ _ _ (by omega) hP3 htl1 _ _ _⟩
        · -- let
          refine ⟨_, rfl, _, rfl, S, _, _, .ref l1, rfl, rfl, SqL.of hP1.st, top_at, .inl ⟨rfl, _, SqL.of el1⟩, _, rfl, _, rfl, _, a, ss, rfl, hN1, fun p to sg x y H2 hp hok eH => ?_⟩
          subst eH
          have hP2 := hP1.alloc hp (.tup [.str "let", .str to, .str sg, x.v, y.v])
          have el2 : (upd H1 p (.tup [.str "let", .str to, .str sg, x.v, y.v])) l1 = some (.lst vs1) := by
            rw [upd_ne (hP1.apart hp l1 (by simp))]
            exact el1
          have hP3 := hP2.app (r := .lt to sg x y) (v := .ref p) el2 ⟨p, rfl, SqT.of upd_same⟩ hok (by show 0 + _ ≤ 3; have := hP2.dep; omega) rfl
          exact ⟨l1, vs1, _, rfl, rfl, el2, room1, hend _ _ _ _ _ _ _ (by omega) hP3 htl1 _ _ _⟩
  · rintro σ H1 ⟨Hc, l1, rs1, o1, ts1, v4, v5, v6, rfl, hP1, htl1⟩
    rw [List.length_map] at hP1
    refine ⟨fun m σ H' => ∃ (Hc : Hp) (l1 : Addr) (rs1 : List Row) (o1 : List (Addr × List Row)) (ts1 : List Str) (n : Nat), m = o1.length ∧ σ = [some (.ref c), some (.ref a), some (.ref S), some (.ref T), v4, v5, v6] ∧ Prog K ss n H Hc H' S T l1 rs1 o1 ts1 ∧ ts1.length = o1.length ∧ n + 2 * o1.length ≤ 140, ⟨_, Hc, l1, rs1, o1, ts1, _, rfl, rfl, hP1, htl1, by have := hP1.dep; omega⟩, ?_⟩
    rintro m σ H2 ⟨Hc2, l2, rs2, o2, ts2, n2, rfl, rfl, hP2, htl2, hn2⟩
    refine ⟨_, rfl, T, _, rfl, .inl (SqL.of hP2.te), _, _, rfl, rfl, _, rfl, ?_⟩
    refine ite2 (fun c3 => ?_) (fun c3 => ?_)
    · have c3' : (((ts2.map V.str).length : Nat) : Int) > 0 := of_decide_eq_true c3
      rw [List.length_map] at c3'
      obtain ⟨q2, o2', rfl⟩ : ∃ q o', o2 = q :: o' := by
        cases o2 with
        | nil => rw [htl2] at c3'; simp at c3'
        | cons q o' => exact ⟨q, o', rfl⟩
      obtain ⟨ts3, t3, rfl⟩ : ∃ ts3 t3, ts2 = ts3 ++ [t3] := by
        rcases List.eq_nil_or_concat ts2 with e | ⟨u, v, e⟩
        · rw [e] at htl2; cases htl2
        · exact ⟨u, v, by rw [e, List.concat_eq_append]⟩
      have hn3 : n2 + 2 * (o2'.length + 1) ≤ 140 := hn2
      refine ⟨_, fun _ _ z => ⟨o2'.length, Nat.lt_succ_self _, z⟩, ?_⟩
      refine ⟨_, rfl, _, rfl, S, T, l2, ss, n2, H, Hc2, rs2, q2, o2', ts3, t3, rfl, hP2, by omega, fun H3 Hc3 rs3 hP3 => ?_⟩
      exact ⟨Hc3, q2.1, rs3, o2', ts3, n2 + 2, rfl, rfl, hP3, by rw [List.length_append] at htl2; exact Nat.succ.inj htl2, by omega⟩
    · have c3' : ¬ (((ts2.map V.str).length : Nat) : Int) > 0 := of_decide_eq_false (Bool.eq_false_iff.mpr c3)
      rw [List.length_map] at c3'
      obtain rfl : o2 = [] := List.length_eq_zero_iff.mp (by omega)
      obtain ⟨vs2, el2, ea2⟩ := hP2.inn
      have hl2 : H l2 = none := hP2.old.free (hP2.no l2 (by simp))
      refine ⟨_, rfl, S, _, _, .ref l2, rfl, rfl, SqL.of hP2.st, atI_nat (j := 0) rfl, k H2 Hc2 l2 rs2 vs2 hP2.old hP2.cl (hP2.no l2 (by simp)) hl2 el2 ea2 hP2.ok (by have := hP2.dep; simpa using this) (by have h9 : tots rs2 + 0 ≤ n2 := hP2.num; omega)⟩
theorem ok_program {fm fo fc fv fl : Addr} {dm do_ dc dv dl : FuncData} (F : Fun K "_law_program" "_law_program" s_program f fd) (ml : mg "len" = none) (mr : mg "range" = none)
    (M : Df P w K mg base "_law_mixed" 1 fm dm ["_law_cell", "_law_k"] spMixed) (O : Df P w K mg base "_law_opened" 1 fo do_ ["_law_number", "_law_names_here", "_law_stack", "_law_tests"] (spOpened K))
    (C : Df P w K mg base "_law_closed" 1 fc dc ["_law_stack", "_law_tests"] (spClosed K)) (DV : Df P w K mg base "_law_value" 1 fv dv ["_law_kind", "_law_number", "_law_names_here"] (spValue K))
    (DL : Df P w K mg base "_law_let" 2 fl dl ["_law_number", "_law_names_here"] (spLet K)) : FnOk P w K mg base CX0 3 f fd ["_law_cells", "_law_names_here"] (spProgram K) :=
  (ok_programC F ml mr M O C DV DL).imp fun _ _ _ _ ⟨c, a, ns, ss, e, h1, h2, h3, k⟩ => ⟨c, a, ns, ss, e, h1, h2, h3, fun H' Hc l rs us s1 s2 _ hl el ea => k H' l rs (s1.trans s2) hl ⟨us, el, AllAt.mono (Same.kp s2) _ _ ea⟩⟩
end
end Lm
namespace Lm
open PySem L2
abbrev s_nested : Stmt := topS 37
def spNested (K : PySem.W.Frag) : Sp := fun vs H Q _ => ∃ (l a : Addr) (n c : Int) (ss : List Str) (rs : List Row), vs = [.ref l, .int n, .ref a, .int c] ∧ RowsL K H l rs ∧ NamesAt K H a ss ∧ 0 ≤ n ∧ n ≤ 40 ∧
  ∀ (H' : Hp) (l' : Addr) (rs' : List Row), Same H H' → RowsL K H' l' rs' → Wrap ss rs n.toNat rs' → Q (.ref l') H'
section
variable {P : Program} {w : World} {K : PySem.W.Frag} {mg : Str → Option Value} {base : Heap} {f : Addr} {fd : FuncData}
theorem sc_nested : FnScope ["_law_rows", "_law_count", "_law_names_here", "_law_cell", "_law_k"] ["_law_rows", "_law_count", "_law_names_here", "_law_cell"] (defScope s_nested) := ⟨rfl, rfl, rfl, by decide +kernel, rfl, by decide +kernel, by decide +kernel⟩
theorem kind3_at (z : Int) : ∃ kd, kd ∈ kinds ∧ atI ([.str "when", .str "loop", .str "again"] : List V) (z % 3) = some (.str kd) := by
  have h0 : 0 ≤ z % 3 := Int.emod_nonneg _ (by decide)
  have h1 : z % 3 < 3 := Int.emod_lt_of_pos _ (by decide)
  obtain ⟨j, ej⟩ : ∃ j : Nat, z % 3 = (j : Int) := ⟨(z % 3).toNat, by omega⟩
  rw [ej]
  match j, (by omega : j < 3) with
  | 0, _ => exact ⟨"when", by decide +kernel, atI_nat rfl⟩
  | 1, _ => exact ⟨"loop", by decide +kernel, atI_nat rfl⟩
  | 2, _ => exact ⟨"again", by decide +kernel, atI_nat rfl⟩
  | j + 3, h => exact absurd h (by omega)
theorem ok_nested {fm : Addr} {dm : FuncData} (F : Fun K "_law_nested" "_law_nested" s_nested f fd) (mr : mg "range" = none) (M : Df P w K mg base "_law_mixed" 1 fm dm ["_law_cell", "_law_k"] spMixed) :
    FnOk P w K mg base CX0 2 f fd ["_law_rows", "_law_count", "_law_names_here", "_law_cell"] (spNested K) := by
  refine F.ok sc_nested (fun vs H Q E h => ?_) (fun cdv A outer s H vs Q E hr h => ?_)
  · obtain ⟨l, a, n, c, ss, rs, rfl, _⟩ := h
    rfl
  obtain ⟨l, a, n, c, ss, rs, rfl, hR, hN, h0, h40, k⟩ := h
  have nd := sc_nested.nd
  refine ⟨_, pss_cons (ps_for PassesOwn.never rfl (pi_range1 rfl mr (pa_cons (pv 1) pa_nil)) (pg_name (i := 4) nd rfl (Or.inl rfl))
      (pss_one (ps_set (i := 0) nd rfl (Or.inl rfl) (pe_lst (pa_cons (pe_tup (pa_cons (pe_ix ix_list (pe_lst (pa_cons pe_str (pa_cons pe_str (pa_cons pe_str pa_nil)))) (pe_op op_mod (pe_df M hr (pa_cons (pv 3) (pa_cons (pv 4) pa_nil))) pe_int) (fun _ _ => rfl))
        (pa_cons (pe_ix ix_list (pv 2) (pe_op op_mod (pe_op op_fdiv (pe_df M hr (pa_cons (pv 3) (pa_cons (pv 4) pa_nil))) pe_int) pe_int) (fun _ _ => rfl)) (pa_cons (pv 0) pa_nil)))) pa_nil))))) <|
    pss_one (ps_ret (pv 0)), ?_⟩
  refine ⟨_, rfl, _, rfl, by omega, by omega, for_range (lo := 0) (n := n.toNat) (fun i σ H' => ∃ (l1 : Addr) (rs1 : List Row) (v4 : Option V), σ = [some (.ref l1), some (.int n), some (.ref a), some (.int c), v4] ∧ Same H H' ∧ RowsL K H' l1 rs1 ∧ Wrap ss rs i rs1)
    ⟨l, rs, none, rfl, Same.refl _, hR, .base⟩ ?_ ?_⟩
  · rintro i σ H1 hi ⟨l1, rs1, v4, rfl, s1, hR1, hW⟩
    refine ⟨(by show 3 ≤ sizeLine; decide), fun p0 hp0 => ?_⟩
    have s2 := s1.trans (same_new hp0 (.lst [.str "when", .str "loop", .str "again"]))
    refine ⟨_, rfl, _, rfl, _, _, rfl, fun z1 _ _ => ?_⟩
    obtain ⟨kd, hkd, ekd⟩ := kind3_at z1
    have hN2 := hN.mono (Same.kp s2)
    refine ⟨_, _, rfl, rfl, (by show (0 : Int) < 3; decide), p0, _, _, _, rfl, rfl, SqL.of upd_same, ekd, _, rfl, _, rfl, _, rfl, _, _, rfl, fun z2 _ _ => ?_⟩
    obtain ⟨te, hte, ete⟩ := hN2.at (z := z2 / 3 % 8) (Int.emod_nonneg _ (by decide)) (by have := Int.emod_lt_of_pos (z2 / 3) (b := 8) (by decide); omega)
    refine ⟨_, _, rfl, rfl, ⟨by decide, by decide⟩, _, _, rfl, rfl, (by show (0 : Int) < 8; decide), a, _, _, _, rfl, rfl, hN2.1, ete, _, rfl, (by show 3 ≤ sizeLine; decide), fun p hp => ⟨(by show 1 ≤ sizeLine; decide), fun q hq => ?_⟩⟩
    have s3 := same_new hp (.tup [.str kd, .str te, .ref l1])
    have s4 := same_new hq (.lst [.ref p])
    obtain ⟨vs1, e1, e2⟩ := hR1.mono (Same.kp (((same_new hp0 _).trans s3).trans s4))
    exact ⟨q, [.bk kd (.str te) rs1], _, rfl, (s2.trans s3).trans s4, ⟨[.ref p], upd_same, AllAt.one ⟨p, l1, vs1, rfl, SqT.of (s4 _ _ upd_same), SqL.of e1, e2⟩⟩, .next hW hkd hte⟩
  · rintro σ H1 ⟨l1, rs1, v4, rfl, s1, hR1, hW⟩
    exact ⟨_, rfl, k H1 l1 rs1 s1 hR1 hW⟩
end
end Lm
namespace Lm
open PySem L2
abbrev s_copied : Stmt := topS 36
def spCopied (K : PySem.W.Frag) (n : Nat) : Sp := fun vs H Q _ => ∃ (l : Addr) (rs : List Row) (Hc : Hp), vs = [.ref l] ∧ Same Hc H ∧ RowsAt K Hc l rs ∧ deps rs < n ∧ rs.length ≤ 2000 ∧ thins rs ∧
  ∀ (Hc' H' : Hp) (l' : Addr), Part Hc H Hc' H' → RowsAt K Hc' l' rs → Q (.ref l') H'
section
variable {P : Program} {w : World} {K : PySem.W.Frag} {mg : Str → Option Value} {base : Heap} {f : Addr} {fd : FuncData}
theorem sc_copied : FnScope ["_law_rows", "_law_made", "_law_row"] ["_law_rows"] (defScope s_copied) := ⟨rfl, rfl, rfl, by decide +kernel, rfl, by decide +kernel, by decide +kernel⟩
theorem ok_copied {n : Nat} (F : Fun K "_law_copied" "_law_copied" s_copied f fd) (ml : mg "len" = none) (G : Df P w K mg base "_law_copied" n f fd ["_law_rows"] (spCopied K n)) : FnOk P w K mg base CX0 (n + 1) f fd ["_law_rows"] (spCopied K (n + 1)) := by
  refine F.ok sc_copied (fun vs H Q E h => ?_) (fun cdv A outer s H vs Q E hr h => ?_)
  · obtain ⟨l, rs, Hc, rfl, _⟩ := h
    rfl
  obtain ⟨l, rs, Hc, rfl, hc, hR, hd, hlen, hth, k⟩ := h
  have nd := sc_copied.nd
  refine ⟨_, pss_cons (ps_set (i := 1) nd rfl (Or.inl rfl) (pe_lst pa_nil)) <|
    pss_cons (ps_for PassesOwn.never rfl (pi_list (pv 0)) (pg_name (i := 2) nd rfl (Or.inl rfl))
      (pss_one (ps_if (pt_cmpR op_eq (pe_callB call_len_seq rfl ml PySem.boot_len (pa_cons (pv 2) pa_nil)) pe_int (nomark _))
        (pss_one (ps_expr (pe_bm PySem.F.plainAttrs_list PySem.F.slot_list_append PySem.F.type_list_append mt_append (pv 1)
          (pa_cons (pe_tup (pa_cons (pe_ix ix_tup (pv 2) pe_int (fun _ _ => rfl)) (pa_cons (pe_ix ix_tup (pv 2) pe_int (fun _ _ => rfl)) (pa_cons (pe_df G hr (pa_cons (pe_ix ix_tup (pv 2) pe_int (fun _ _ => rfl)) pa_nil)) pa_nil)))) pa_nil))))
        (pss_one (ps_expr (pe_bm PySem.F.plainAttrs_list PySem.F.slot_list_append PySem.F.type_list_append mt_append (pv 1) (pa_cons (pv 2) pa_nil))))))) <|
    pss_one (ps_ret (pv 1)), ?_⟩
  obtain ⟨vs, eS, eA⟩ := hR
  refine ⟨(by show 0 ≤ sizeLine; decide), fun D hD => ?_⟩
  have p0 : Part Hc H Hc (upd H D (.lst [])) := Part.open hc hD _
  have eS0 := hc.seq eS
  refine ⟨_, rfl, l, rfl, ⟨_, p0.all.seq eS0⟩, for_list (K := K) (a := l) (xs := vs) (fun i σ H' => ∃ (v2 : Option V) (us : List V) (Hd : Hp), σ = [some (.ref l), some (.ref D), v2] ∧ Same H H' ∧ Same Hc Hd ∧ Same Hd H' ∧ (∀ b o, H b = some o → Hc b = none → Hd b = none) ∧ Hd D = none ∧ H' D = some (.lst us) ∧ AllAt K Hd (rs.take i) us)
    ⟨none, [], Hc, rfl, p0.all, Same.refl _, p0.sub, fun _ _ _ h => h, hc.free hD, upd_same, rfl⟩ (fun i σ H' _ ⟨_, _, _, _, s1, _⟩ => s1.seq eS0) ?_ ?_⟩
  · rintro i v σ H1 hi ⟨v2, us, Hd, rfl, s1, s2, s3, s4, s5, eD, eU⟩
    obtain ⟨r, hri, hRow⟩ := eA.at hi
    have hRow1 := RowAt.mono (Same.kp s2) r v hRow
    have room : us.length < sizeLine := by
      rw [eU.len, List.length_take]
      exact Nat.lt_of_le_of_lt (Nat.le_trans (Nat.min_le_right _ _) hlen) (by decide)
    have fin : ∀ (Hd' H2 : Hp) (v' : V) (w2 : Option V), Part Hd H1 Hd' H2 → RowAt K Hd' r v' → H2 D = some (.lst us) ∧ ∃ (v2 : Option V) (us' : List V) (He : Hp), [some (V.ref l), some (V.ref D), w2] = [some (V.ref l), some (V.ref D), v2] ∧ Same H (upd H2 D (.lst (us ++ [v']))) ∧ Same Hc He ∧ Same He (upd H2 D (.lst (us ++ [v']))) ∧
        (∀ b o, H b = some o → Hc b = none → He b = none) ∧ He D = none ∧ (upd H2 D (.lst (us ++ [v']))) D = some (.lst us') ∧ AllAt K He (rs.take (i + 1)) us' := fun Hd' H2 v' w2 pt hrow => by
      have hD2 : Hd' D = none := pt.no D _ eD s5
      refine ⟨pt.all _ _ eD, w2, us ++ [v'], Hd', rfl, fun b o hb => ?_, s2.trans pt.cl, fun b o hb => ?_, fun b o h1 h2 => pt.no b o (s1 b o h1) (s4 b o h1 h2), hD2, upd_same, ?_⟩
      · rw [upd_ne (ne_of_none hb hD)]
        exact pt.all _ _ (s1 b o hb)
      · rw [upd_ne (ne_of_none hb hD2)]
        exact pt.sub b o hb
      · rw [take_one hri]
        exact (AllAt.mono (Same.kp pt.cl) _ _ eU).app (AllAt.one hrow)
    match r, hri, hRow, hRow1, fin with
    | .lt to sg x y, hri, ⟨p, h1, h2⟩, hRow1, fin =>
      subst h1
      refine ⟨_, rfl, p, _, rfl, .inr (Kp.sqT (Same.kp (hc.trans s1)) h2), rfl, _, rfl, ?_⟩
      refine ite2 (fun c => absurd (V.int.inj (of_decide_eq_true c)) (by show ¬ ((5 : Nat) : Int) = 3; decide)) (fun c => ?_)
      exact ⟨_, rfl, .inl ⟨rfl, _, SqL.of eD⟩, _, rfl, D, us, _, rfl, rfl, eD, room, (fin Hd H1 _ _ (Part.refl s3) hRow1).2⟩
    | .sy x, hri, ⟨p, h1, h2⟩, hRow1, fin =>
      subst h1
      refine ⟨_, rfl, p, _, rfl, .inr (Kp.sqT (Same.kp (hc.trans s1)) h2), rfl, _, rfl, ?_⟩
      refine ite2 (fun c => absurd (V.int.inj (of_decide_eq_true c)) (by show ¬ ((2 : Nat) : Int) = 3; decide)) (fun c => ?_)
      exact ⟨_, rfl, .inl ⟨rfl, _, SqL.of eD⟩, _, rfl, D, us, _, rfl, rfl, eD, room, (fin Hd H1 _ _ (Part.refl s3) hRow1).2⟩
    | .bk kd ts qs, hri, ⟨p, l2, ws, h1, h2, h3, h4⟩, hRow1, fin =>
      subst h1
      have hT := Kp.sqT (Same.kp (hc.trans s1)) h2
      have hdep : deps qs + 1 ≤ deps rs := dep_at hri
      obtain ⟨hq1, hq2⟩ : qs.length ≤ 2000 ∧ thins qs := thins_at hth hri
      refine ⟨_, rfl, p, _, rfl, .inr hT, rfl, _, rfl, ?_⟩
      refine ite2 (fun c => ?_) (fun c => absurd (decide_eq_true (rfl : V.int 3 = V.int 3)) c)
      refine ⟨_, rfl, .inl ⟨rfl, _, SqL.of eD⟩, _, rfl, p, _, _, _, rfl, rfl, hT, atI_nat (j := 0) rfl, _, rfl, p, _, _, _, rfl, rfl, hT, atI_nat (j := 1) rfl, _, rfl, p, _, _, _, rfl, rfl, hT, atI_nat (j := 2) rfl, l2, qs, Hd, rfl, s3, RowsAt.mono (Same.kp s2) ⟨ws, h3, h4⟩, by omega, hq1, hq2, fun He H2 l3 pt hR3 => ?_⟩
      refine ⟨(by show 3 ≤ sizeLine; decide), fun q hq => ?_⟩
      have pn := Part.new pt.sub hq (.tup [.str kd, ts, .ref l3])
      obtain ⟨zs, g1, g2⟩ := hR3.mono (Same.kp pn.cl)
      obtain ⟨f1, f2⟩ := fin _ _ (.ref q) (some (.ref p)) (pt.trans pn) ⟨q, l3, zs, rfl, SqT.of upd_same, g1, g2⟩
      exact ⟨D, us, _, rfl, rfl, f1, room, f2⟩
  · rintro σ H1 ⟨v2, us, Hd, rfl, s1, s2, s3, s4, s5, eD, eU⟩
    rw [eA.len, List.take_length] at eU
    have sD : Same Hd (upd Hd D (.lst us)) := same_new s5 _
    refine ⟨_, rfl, k (upd Hd D (.lst us)) H1 D ⟨s1, s2.trans sD, fun b o hb => ?_, fun b o h1 h2 => ?_⟩ ⟨us, SqL.of upd_same, AllAt.mono (Same.kp sD) _ _ eU⟩⟩
    · by_cases e : b = D
      · rw [e, upd_same] at hb
        rw [e, ← hb]
        exact eD
      · rw [upd_ne e] at hb
        exact s3 b o hb
    · rw [upd_ne (ne_of_none h1 hD)]
      exact s4 b o h1 h2
theorem all_copied (F : Fun K "_law_copied" "_law_copied" s_copied f fd) (m : mg "_law_copied" = some (.ref f)) (b : Binds K fd ["_law_rows"] []) (ml : mg "len" = none) : ∀ n, FnOk P w K mg base CX0 n f fd ["_law_rows"] (spCopied K n)
  | 0 => none_left fun vs H Q E ⟨l, rs, Hc, _, _, _, h, _⟩ => absurd h (Nat.not_lt_zero _)
  | n + 1 => ok_copied F ml ⟨all_copied F m b ml n, m, F.kp, b⟩
end
end Lm
namespace Lm
open PySem L2
abbrev s_whole : Stmt := topS 34
def spWhole : Sp := fun vs H Q _ => ∃ i : Int, vs = [.int i] ∧ Q (.bl true) H
section
variable {P : Program} {w : World} {K : PySem.W.Frag} {mg : Str → Option Value} {base : Heap} {f : Addr} {fd : FuncData}
theorem sc_whole : FnScope ["_law_found"] ["_law_found"] (defScope s_whole) := ⟨rfl, rfl, rfl, by decide +kernel, rfl, by decide +kernel, by decide +kernel⟩
theorem ok_whole (F : Fun K "_law_whole" "_law_whole" s_whole f fd) (B : Bn mg) : FnOk P w K mg base CX0 1 f fd ["_law_found"] spWhole := by
  refine F.ok sc_whole (fun vs H Q E h => ?_) (fun cdv A outer s H vs Q E hr h => ?_)
  · obtain ⟨i, rfl, _⟩ := h
    rfl
  obtain ⟨i, rfl, k⟩ := h
  refine ⟨_, pss_one (ps_ret (pe_and (pe_callB call_isi rfl B.isinstance (by decide +kernel) (pa_cons (pv 0) (pa_cons (pe_bltn (v := .ty "int") rfl B.int (by decide +kernel) rfl) pa_nil)))
    (pe_one (pe_not (pe_callB call_isi rfl B.isinstance (by decide +kernel) (pa_cons (pv 0) (pa_cons (pe_bltn (v := .ty "bool") rfl B.bool (by decide +kernel) rfl) pa_nil))))))), ?_⟩
  exact ⟨_, rfl, _, _, _, _, true, rfl, .ty _, ty_int _, kit_ty (by decide +kernel), _, rfl, iteT ⟨_, rfl, _, _, _, _, false, rfl, .ty _, ty_int _, kit_ty (by decide +kernel), _, rfl, k⟩⟩
end
end Lm
namespace Lm
open PySem L2
abbrev s_alike : Stmt := topS 35
def spAlike (K : PySem.W.Frag) (n : Nat) : Sp := fun vs H Q _ => ∃ x y : V, vs = [x, y] ∧ Alk K H n x y ∧ ∀ H' : Hp, Same H H' → Q (.bl true) H'
section
variable {P : Program} {w : World} {K : PySem.W.Frag} {mg : Str → Option Value} {base : Heap} {f : Addr} {fd : FuncData}
abbrev nAlike : List Str := ["_law_found", "_law_due", "_law_k"]
theorem sc_alike : FnScope nAlike ["_law_found", "_law_due"] (defScope s_alike) := ⟨rfl, rfl, rfl, by decide +kernel, rfl, by decide +kernel, by decide +kernel⟩
theorem ok_alike {n : Nat} {fw : Addr} {dw : FuncData} (F : Fun K "_law_alike" "_law_alike" s_alike f fd) (B : Bn mg) (W : Df P w K mg base "_law_whole" 1 fw dw ["_law_found"] spWhole)
    (G : Df P w K mg base "_law_alike" (n + 1) f fd ["_law_found", "_law_due"] (spAlike K n)) : FnOk P w K mg base CX0 (n + 2) f fd ["_law_found", "_law_due"] (spAlike K (n + 1)) := by
  refine F.ok sc_alike (fun vs H Q E h => ?_) (fun cdv A outer s H vs Q E hr h => ?_)
  · obtain ⟨x, y, rfl, _⟩ := h
    rfl
  obtain ⟨x, y, rfl, hA, k⟩ := h
  have nd := sc_alike.nd
  have hr1 : Room 1 _ := hr.mono (by omega)
  refine ⟨_, pss_cons (ps_if (PW.pt (pw_or (pt_val (pe_callB call_isi rfl B.isinstance (by decide +kernel) (pa_cons (pv 1) (pa_cons (pe_bltn (v := .ty "list") rfl B.list (by decide +kernel) rfl) pa_nil))))
        (pw_or1 (pt_val (pe_callB call_isi rfl B.isinstance (by decide +kernel) (pa_cons (pv 1) (pa_cons (pe_bltn (v := .ty "tuple") rfl B.tuple (by decide +kernel) rfl) pa_nil)))))))
      (pss_cons (ps_if (PW.pt (pw_and (pt_val (pe_callB call_isi rfl B.isinstance (by decide +kernel) (pa_cons (pv 1) (pa_cons (pe_bltn (v := .ty "list") rfl B.list (by decide +kernel) rfl) pa_nil))))
          (pw_and1 (pt_not (pt_val (pe_callB call_isi rfl B.isinstance (by decide +kernel) (pa_cons (pv 0) (pa_cons (pe_bltn (v := .ty "list") rfl B.list (by decide +kernel) rfl) pa_nil))))))))
          (pss_one (ps_ret pe_bl)) pss_nil) <|
        pss_cons (ps_if (PW.pt (pw_and (pt_val (pe_callB call_isi rfl B.isinstance (by decide +kernel) (pa_cons (pv 1) (pa_cons (pe_bltn (v := .ty "tuple") rfl B.tuple (by decide +kernel) rfl) pa_nil))))
          (pw_and1 (pt_not (pt_val (pe_callB call_isi rfl B.isinstance (by decide +kernel) (pa_cons (pv 0) (pa_cons (pe_bltn (v := .ty "tuple") rfl B.tuple (by decide +kernel) rfl) pa_nil))))))))
          (pss_one (ps_ret pe_bl)) pss_nil) <|
        pss_cons (ps_if (pt_cmpR op_ne (pe_callB call_len_seq rfl B.len PySem.boot_len (pa_cons (pv 0) pa_nil)) (pe_callB call_len_seq rfl B.len PySem.boot_len (pa_cons (pv 1) pa_nil)) (nomark _)) (pss_one (ps_ret pe_bl)) pss_nil) <|
        pss_one (ps_ret (pe_callB (cr_all rfl) rfl B.all (by decide +kernel) (pa_cons (pe_lc (own := [("_law_k", 2)]) (g := gName 2) rfl nd (pi_range1 rfl B.range (pa_cons (pe_callB call_len_seq rfl B.len PySem.boot_len (pa_cons (pv 1) pa_nil)) pa_nil))
          (blkOk_by (N := nAlike) (sc := defScope s_alike) (by decide +kernel)) (fun _ _ _ _ _ => pg_name (i := 2) nd rfl (Or.inl rfl)) (fun _ _ _ _ _ => pts_nil)
          (fun _ _ _ _ _ => pe_df G hr (pa_cons (pe_ix (r := rIx K) (show IxR _ (rIx K) from ix_seq) (pv 0) (pv 2) (fun _ _ => rfl)) (pa_cons (pe_ix (r := rIx K) (show IxR _ (rIx K) from ix_seq) (pv 1) (pv 2) (fun _ _ => rfl)) pa_nil)))) pa_nil)))) pss_nil) <|
    pss_cons (ps_if (pt_val (pe_callB call_isi rfl B.isinstance (by decide +kernel) (pa_cons (pv 1) (pa_cons (pe_bltn (v := .ty "str") rfl B.str (by decide +kernel) rfl) pa_nil))))
      (pss_one (ps_ret (pe_and (pe_callB call_isi rfl B.isinstance (by decide +kernel) (pa_cons (pv 0) (pa_cons (pe_bltn (v := .ty "str") rfl B.str (by decide +kernel) rfl) pa_nil))) (pe_one (pe_cmpR op_eq (pv 0) (pv 1) (nomark _)))))) pss_nil) <|
    pss_one (ps_ret (pe_and (pe_df W hr1 (pa_cons (pv 0) pa_nil)) (pe_one (pe_cmpR op_eq (pv 0) (pv 1) (nomark _))))), ?_⟩
  rcases hA with ⟨z, rfl, rfl⟩ | ⟨z, rfl, rfl⟩ | ⟨p, q, xs, ys, rfl, rfl, h3, h4, h5, h6, h7⟩ | ⟨p, q, xs, ys, rfl, rfl, h3, h4, h5, h6, h7⟩
  · refine ⟨_, rfl, _, _, _, _, false, rfl, .ty _, ty_str _, kit_ty (by decide +kernel), _, rfl, iteF ⟨_, rfl, _, _, _, _, false, rfl, .ty _, ty_str _, kit_ty (by decide +kernel), _, rfl, iteF ?_⟩⟩
    refine ⟨_, rfl, _, _, _, _, true, rfl, .ty _, ty_str _, kit_ty (by decide +kernel), _, rfl, iteT ?_⟩
    refine ⟨_, rfl, _, _, _, _, true, rfl, .ty _, ty_str _, kit_ty (by decide +kernel), _, rfl, iteT ⟨_, rfl, _, rfl, rfl, ?_⟩⟩
    show Q (.bl (decide (V.str z = V.str z))) H
    rw [decide_eq_true rfl]
    exact k H (Same.refl _)
  · refine ⟨_, rfl, _, _, _, _, false, rfl, .ty _, ty_int _, kit_ty (by decide +kernel), _, rfl, iteF ⟨_, rfl, _, _, _, _, false, rfl, .ty _, ty_int _, kit_ty (by decide +kernel), _, rfl, iteF ?_⟩⟩
    refine ⟨_, rfl, _, _, _, _, false, rfl, .ty _, ty_int _, kit_ty (by decide +kernel), _, rfl, iteF ?_⟩
    refine ⟨_, rfl, z, rfl, _, rfl, iteT ⟨_, rfl, _, rfl, rfl, ?_⟩⟩
    show Q (.bl (decide (V.int z = V.int z))) H
    rw [decide_eq_true rfl]
    exact k H (Same.refl _)
  · -- lists
    refine ⟨_, rfl, _, _, _, _, true, rfl, .ty _, ty_list h4, kit_ty (by decide +kernel), _, rfl, iteT (iteT ?_)⟩
    refine ⟨_, rfl, _, _, _, _, true, rfl, .ty _, ty_list h4, kit_ty (by decide +kernel), _, rfl, iteT ⟨_, rfl, _, _, _, _, true, rfl, .ty _, ty_list h3, kit_ty (by decide +kernel), _, rfl, iteF ?_⟩⟩
    refine ⟨_, rfl, _, _, _, _, false, rfl, .ty _, ty_list h4, kit_ty (by decide +kernel), _, rfl, iteF (iteF ?_)⟩
    refine ⟨_, rfl, p, _, rfl, .inl h3, _, rfl, q, _, rfl, .inl h4, rfl, _, rfl, iteNS (by rw [h5]) ?_⟩
    refine ⟨_, rfl, q, _, rfl, .inl h4, _, rfl, by omega, by omega, fun D hD => lc_range (lo := 0) (n := ((ys.length : Nat) : Int).toNat) (fun i H' => H' D = some (.lst ((List.replicate i true).map V.bl)) ∧ Same H H') ⟨upd_same, same_new hD _⟩ ?_ ?_⟩
    · intro i H1 hi ⟨e1, s1⟩
      have hiy : i < ys.length := by omega
      have hix : i < xs.length := by omega
      refine ⟨rfl, yes (iteT ?_)⟩
      refine ⟨_, rfl, _, rfl, .inl ⟨p, _, _, xs[i], rfl, rfl, Kp.sqL (Same.kp s1) h3, at_of (j := i) (v := xs[i]) (by omega) (List.getElem?_eq_getElem _), _, rfl, _, rfl, .inl ⟨q, _, _, ys[i], rfl, rfl, Kp.sqL (Same.kp s1) h4, at_of (j := i) (v := ys[i]) (by omega) (List.getElem?_eq_getElem _), xs[i], ys[i], rfl, (h7 i _ _ (List.getElem?_eq_getElem _) (List.getElem?_eq_getElem _)).mono (Same.kp s1) (Nat.le_refl _), fun H2 s2 => ?_⟩⟩⟩
      refine ⟨_, s2 _ _ e1, ?_, ?_, fun b o hb => ?_⟩
      · rw [List.length_map, List.length_replicate]
        exact Nat.lt_of_lt_of_le hi (by rw [sizeLine_eq]; omega)
      · rw [upd_same, List.replicate_succ', List.map_append]
        rfl
      · rw [upd_ne (ne_of_none hb hD)]
        exact s2 b o (s1 b o hb)
    · intro H1 ⟨e1, s1⟩
      refine ⟨D, _, rfl, SqL.of e1, ?_⟩
      rw [all_true]
      exact k H1 s1
  · -- tuples
    refine ⟨_, rfl, _, _, _, _, false, rfl, .ty _, ty_tuple h4, kit_ty (by decide +kernel), _, rfl, iteF ⟨_, rfl, _, _, _, _, true, rfl, .ty _, ty_tuple h4, kit_ty (by decide +kernel), _, rfl, iteT ?_⟩⟩
    refine ⟨_, rfl, _, _, _, _, false, rfl, .ty _, ty_tuple h4, kit_ty (by decide +kernel), _, rfl, iteF (iteF ?_)⟩
    refine ⟨_, rfl, _, _, _, _, true, rfl, .ty _, ty_tuple h4, kit_ty (by decide +kernel), _, rfl, iteT ⟨_, rfl, _, _, _, _, true, rfl, .ty _, ty_tuple h3, kit_ty (by decide +kernel), _, rfl, iteF ?_⟩⟩
    refine ⟨_, rfl, p, _, rfl, .inr h3, _, rfl, q, _, rfl, .inr h4, rfl, _, rfl, iteNS (by rw [h5]) ?_⟩
    refine ⟨_, rfl, q, _, rfl, .inr h4, _, rfl, by omega, by omega, fun D hD => lc_range (lo := 0) (n := ((ys.length : Nat) : Int).toNat) (fun i H' => H' D = some (.lst ((List.replicate i true).map V.bl)) ∧ Same H H') ⟨upd_same, same_new hD _⟩ ?_ ?_⟩
    · intro i H1 hi ⟨e1, s1⟩
      have hiy : i < ys.length := by omega
      have hix : i < xs.length := by omega
      refine ⟨rfl, yes (iteT ?_)⟩
      refine ⟨_, rfl, _, rfl, .inr (.inl ⟨p, _, _, xs[i], rfl, rfl, Kp.sqT (Same.kp s1) h3, at_of (j := i) (v := xs[i]) (by omega) (List.getElem?_eq_getElem _), _, rfl, _, rfl, .inr (.inl ⟨q, _, _, ys[i], rfl, rfl, Kp.sqT (Same.kp s1) h4, at_of (j := i) (v := ys[i]) (by omega) (List.getElem?_eq_getElem _), xs[i], ys[i], rfl, (h7 i _ _ (List.getElem?_eq_getElem _) (List.getElem?_eq_getElem _)).mono (Same.kp s1) (Nat.le_refl _), fun H2 s2 => ?_⟩)⟩)⟩
      refine ⟨_, s2 _ _ e1, ?_, ?_, fun b o hb => ?_⟩
      · rw [List.length_map, List.length_replicate]
        exact Nat.lt_of_lt_of_le hi (by rw [sizeLine_eq]; omega)
      · rw [upd_same, List.replicate_succ', List.map_append]
        rfl
      · rw [upd_ne (ne_of_none hb hD)]
        exact s2 b o (s1 b o hb)
    · intro H1 ⟨e1, s1⟩
      refine ⟨D, _, rfl, SqL.of e1, ?_⟩
      rw [all_true]
      exact k H1 s1
theorem all_alike {fw : Addr} {dw : FuncData} (F : Fun K "_law_alike" "_law_alike" s_alike f fd) (m : mg "_law_alike" = some (.ref f)) (b : Binds K fd ["_law_found", "_law_due"] []) (B : Bn mg) (W : Df P w K mg base "_law_whole" 1 fw dw ["_law_found"] spWhole) :
    ∀ n, FnOk P w K mg base CX0 (n + 1) f fd ["_law_found", "_law_due"] (spAlike K n)
  | 0 => none_left fun vs H Q E ⟨x, y, _, h, _⟩ => h
  | n + 1 => ok_alike F B W ⟨all_alike F m b B W n, m, F.kp, b⟩
end
end Lm
namespace Lm
open PySem L2 GxR
abbrev s_is_name : Stmt := topS 15
/-- what the top's constants are -/
structure Cn (K : PySem.W.Frag) (mg : Str → Option Value) (aB aK : Addr) : Prop where
  barred : mg "BARRED" = some (.ref aB)
  barredT : ∀ H, SqT K H aB (barsS.map V.str)
  blocks : mg "BLOCKS" = some (.ref aK)
  blocksT : ∀ H, SqT K H aK (kinds.map V.str)
  longest : ∃ t, mg "LONGEST_NAME" = some (.int 6 t)
def spIsName (P : Addr) : Sp := fun vs H Q _ => ∃ x : V, vs = [x] ∧ ((∃ s, x = .str s ∧ s.length ≤ sizeLine) ∨ ∃ i, x = .int i) ∧ TabG H P ∧ ∀ H', Tabbed P H H' → Q (.bl (isNm x)) H'
section
variable {P : Program} {w : World} {K : PySem.W.Frag} {mg : Str → Option Value} {base : Heap} {f aB aK c T : Addr} {fd : FuncData}
theorem sc_is_name : FnScope ["thing"] ["thing"] (defScope s_is_name) := ⟨rfl, rfl, rfl, by decide +kernel, rfl, by decide +kernel, by decide +kernel⟩
theorem ok_is_name (F : Fun K "is_name" "is_name" s_is_name f fd) (B : Bn mg) (C : Cn K mg aB aK) (TB : TabB base mg c T) (hc : fd.code = .ref c) : FnOk P w K mg base CX0 2 f fd ["thing"] (spIsName T) := by
  refine ok_code F sc_is_name (fun vs H Q E h => ?_) (fun A outer s H vs Q E hr h => ?_)
  · obtain ⟨x, rfl, _⟩ := h
    rfl
  obtain ⟨x, rfl, hx, hT, k⟩ := h
  obtain ⟨t6, h6⟩ := C.longest
  refine ⟨_, pss_cons (ps_if (PW.pt (pw_or (pt_not (pt_val (pe_callB call_isi rfl B.isinstance (by decide +kernel) (pa_cons (pv 0) (pa_cons (pe_bltn (v := .ty "str") rfl B.str (by decide +kernel) rfl) pa_nil)))))
      (pw_or1 (pt_cmpR op_in_seq (pv 0) (pe_glob (v := .ref aB) rfl C.barred rfl) (by rfl))))) (pss_one (ps_ret pe_bl)) pss_nil) <|
    pss_cons (ps_if (pt_not (pt_chain op_le op_le pe_int (pe_callB call_len_str rfl B.len PySem.boot_len (pa_cons (pv 0) pa_nil)) (pe_glob (v := .int 6) rfl h6 ⟨_, rfl⟩))) (pss_one (ps_ret pe_bl)) pss_nil) <|
    pss_one (ps_ret (pe_allS hr rfl B.all (by decide +kernel) TB hc ⟨rfl, rfl, by decide +kernel, by decide +kernel, by decide +kernel, fun y hy e => by exfalso; revert y; decide +kernel⟩ (pv 0) (elt_letter rfl (by decide +kernel)) (fun _ => rfl))), ?_⟩
  rcases hx with ⟨z, rfl, hz⟩ | ⟨i, rfl⟩
  · have eN : isNm (.str z) = (Nat.ble 1 z.cps.toList.length && Nat.ble z.cps.toList.length 6 && lettersB z.cps.toList && !isBar z.cps.toList) := rfl
    rw [← len_toList] at eN
    refine ⟨_, rfl, _, _, _, _, true, rfl, .ty _, ty_str _, kit_ty (by decide +kernel), _, rfl, iteF ⟨_, rfl, aB, _, rfl, .inr (C.barredT _), rfl, by decide +kernel, _, rfl, ?_⟩⟩
    refine ite2 (fun c1 => ?_) (fun c1 => ?_)
    · have c1' : inV (.str z) (barsS.map V.str) = true := c1
      rw [bars_in] at c1'
      rw [c1', Bool.not_true, Bool.and_false] at eN
      have q := k H (Tabbed.refl hT)
      rw [eN] at q
      exact q
    have c1' : inV (.str z) (barsS.map V.str) = false := Bool.eq_false_iff.mpr c1
    rw [bars_in] at c1'
    rw [c1', Bool.not_false, Bool.and_true, ble_dec, ble_dec] at eN
    refine ⟨_, rfl, z, rfl, hz, _, _, rfl, rfl, _, rfl, ?_⟩
    refine ite2 (fun c2 => ?_) (fun c2 => ?_)
    · have c2' : (1 : Int) ≤ (z.length : Int) := of_decide_eq_true c2
      have n1 : decide (1 ≤ z.length) = true := decide_eq_true (by omega)
      rw [n1, Bool.true_and] at eN
      refine ⟨_, _, rfl, rfl, _, rfl, ?_⟩
      refine ite2 (fun c3 => ?_) (fun c3 => ?_)
      · have c3' : decide ((z.length : Int) ≤ 6) = false := by
          cases q : decide ((z.length : Int) ≤ 6) with
          | false => rfl
          | true =>
            have c4 : (!decide ((z.length : Int) ≤ 6)) = true := c3
            rw [q] at c4
            cases c4
        have n2 : decide (z.length ≤ 6) = false := decide_eq_false (by have := of_decide_eq_false c3'; omega)
        rw [n2, Bool.false_and] at eN
        have q := k H (Tabbed.refl hT)
        rw [eN] at q
        exact q
      · have c3' : (z.length : Int) ≤ 6 := by
          cases q : decide ((z.length : Int) ≤ 6) with
          | true => exact of_decide_eq_true q
          | false =>
            have c4 : ¬ (!decide ((z.length : Int) ≤ 6)) = true := c3
            rw [q] at c4
            exact absurd rfl c4
        have n2 : decide (z.length ≤ 6) = true := decide_eq_true (by omega)
        rw [n2, Bool.true_and, letters_all] at eN
        refine ⟨_, rfl, z, rfl, hT, fun H' hH => ?_⟩
        have q := k H' hH
        rw [eN] at q
        exact q
    · have n1 : decide (1 ≤ z.length) = false := decide_eq_false (fun e => c2 (decide_eq_true (by show (1 : Int) ≤ (z.length : Int); omega)))
      rw [n1, Bool.false_and, Bool.false_and] at eN
      have q := k H (Tabbed.refl hT)
      rw [eN] at q
      exact ⟨_, rfl, iteT q⟩
  · exact ⟨_, rfl, _, _, _, _, false, rfl, .ty _, ty_int _, kit_ty (by decide +kernel), _, rfl, iteT (iteT (k H (Tabbed.refl hT)))⟩
end
end Lm
namespace Lm
open PySem PySem.Spec PyProof.Rows L2 GxR
abbrev s_is_number : Stmt := topS 16
abbrev s_check_form : Stmt := topS 17
abbrev s_check_name : Stmt := topS 18
abbrev s_check_sign : Stmt := topS 19
abbrev s_check_worth : Stmt := topS 20
abbrev s_check_let : Stmt := topS 21
theorem ps_no {X : Cx} {st : Stmt} : PS X st (fun _ _ _ => False) := ⟨fun _ _ _ _ _ _ h => h.elim⟩
def spGNm (T : Addr) : Sp := fun vs H Q _ => ∃ z : Str, vs = [.str z] ∧ Good z ∧ Tz T T H ∧ ∀ H', Tq T T H H' → Q (.bl true) H'
def spGNo (T : Addr) : Sp := fun vs H Q _ => ∃ z : Str, vs = [.str z] ∧ Good z ∧ Tz T T H ∧ ∀ H', Tq T T H H' → Q .non H'
def spGNum : Sp := fun vs H Q _ => ∃ i : Int, vs = [.int i] ∧ 0 ≤ i ∧ i < 1000000 ∧ Q (.bl true) H
def spGSg : Sp := fun vs H Q _ => ∃ sg : Str, vs = [.str sg] ∧ sg ∈ signs ∧ Q .non H
def spGW (T : Addr) : Sp := fun vs H Q _ => ∃ (x : Vl) (ss : List Str), vs = [x.v] ∧ x.ok ss ∧ (∀ s ∈ ss, Good s) ∧ Tz T T H ∧ ∀ H', Tq T T H H' → Q .non H'
def spGLet (K : PySem.W.Frag) (T : Addr) : Sp := fun vs H Q _ => ∃ (v : V) (to sg : Str) (a b : Vl) (ss : List Str), vs = [v] ∧ RowAt K H (.lt to sg a b) v ∧ (Row.lt to sg a b).ok ss ∧ (∀ s ∈ ss, Good s) ∧ Tz T T H ∧ ∀ H', Tq T T H H' → Q .non H'
def spGForm (K : PySem.W.Frag) : Sp := fun vs H Q _ => ∃ (v : V) (r : Row) (ss : List Str) (d : Nat), vs = [v] ∧ RowAt K H r v ∧ r.vis ss d ∧ Q .non H
theorem sc_is_number : FnScope ["thing"] ["thing"] (defScope s_is_number) := ⟨rfl, rfl, rfl, by decide +kernel, rfl, by decide +kernel, by decide +kernel⟩
theorem sc_check_form : FnScope ["row", "word"] ["row"] (defScope s_check_form) := ⟨rfl, rfl, rfl, by decide +kernel, rfl, by decide +kernel, by decide +kernel⟩
theorem sc_check_name : FnScope ["thing"] ["thing"] (defScope s_check_name) := ⟨rfl, rfl, rfl, by decide +kernel, rfl, by decide +kernel, by decide +kernel⟩
theorem sc_check_sign : FnScope ["thing"] ["thing"] (defScope s_check_sign) := ⟨rfl, rfl, rfl, by decide +kernel, rfl, by decide +kernel, by decide +kernel⟩
theorem sc_check_worth : FnScope ["thing"] ["thing"] (defScope s_check_worth) := ⟨rfl, rfl, rfl, by decide +kernel, rfl, by decide +kernel, by decide +kernel⟩
theorem sc_check_let : FnScope ["row"] ["row"] (defScope s_check_let) := ⟨rfl, rfl, rfl, by decide +kernel, rfl, by decide +kernel, by decide +kernel⟩
theorem sign_flat : (signs.map V.str).all flatV = true := by decide
section
variable {P : Program} {w : World} {K : PySem.W.Frag} {mg : Str → Option Value} {base : Heap} {f aB aK aS aL c T fn f2 f3 f4 : Addr} {fd dn d2 d3 d4 : FuncData}
/-- is_name of a name -/
theorem name_good (I : FnOk P w K mg base CX0 2 f fd ["thing"] (spIsName T)) : FnOk P w K mg base CX0 2 f fd ["thing"] (spGNm T) :=
  I.imp fun vs H Q E ⟨s, e, g, hT, k⟩ => ⟨.str s, e, .inl ⟨s, rfl, Nat.le_trans (good_len g).2 (by decide)⟩, hT.1, fun H' h => by
    have q := k H' (Tq.of1 hT h)
    rw [show isNm (.str s) = true from g]
    exact q⟩
theorem ok_nameH (F : Fun K "is_name" "is_name" s_is_name f fd) (B : Bn mg) (C : Cn K mg aB aK) (TB : TabB base mg c T) (hc : fd.code = .ref c) : L2H.FnH P w K mg base CX0 2 f fd ["thing"] (spGNm T) := by
  refine okH F sc_is_name (fun vs H Q E h => ?_) (fun A outer s H vs Q E p hot hr h => ?_)
  · obtain ⟨x, rfl, _⟩ := h
    rfl
  obtain ⟨z, rfl, hz, hT, k⟩ := h
  obtain ⟨t6, h6⟩ := C.longest
  have hl := good_len hz
  have hl2 : z.length ≤ sizeLine := Nat.le_trans hl.2 (by decide)
  refine ⟨_, pss_cons (ps_if (PW.pt (pw_or (pt_not (pt_val (pe_callB call_isi rfl B.isinstance (by decide +kernel) (pa_cons (pv 0) (pa_cons (pe_bltn (v := .ty "str") rfl B.str (by decide +kernel) rfl) pa_nil)))))
      (pw_or1 (pt_cmpR op_in_seq (pv 0) (pe_glob (v := .ref aB) rfl C.barred rfl) (by rfl))))) (pss_one ps_no) pss_nil) <|
    pss_cons (ps_if (pt_not (pt_chain op_le op_le pe_int (pe_callB call_len_str rfl B.len PySem.boot_len (pa_cons (pv 0) pa_nil)) (pe_glob (v := .int 6) rfl h6 ⟨_, rfl⟩))) (pss_one ps_no) pss_nil) <|
    pss_one (ps_ret (pe_allH hr hot rfl B.all (by decide +kernel) TB hc ⟨rfl, rfl, by decide +kernel, by decide +kernel, by decide +kernel, fun y hy e => by exfalso; revert y; decide +kernel⟩ (pv 0) (elt_letter rfl (by decide +kernel)) (fun _ => rfl))), ?_⟩
  have eB : inV (.str z) (barsS.map V.str) = false := by
    rw [bars_in]
    have h' : GoodL z.cps.toList = true := hz
    unfold GoodL at h'
    have := (Bool.and_eq_true_iff.mp h').2
    cases q : isBar z.cps.toList with
    | false => rfl
    | true => rw [q] at this; cases this
  refine ⟨_, rfl, _, _, _, _, true, rfl, .ty _, ty_str _, kit_ty (by decide +kernel), _, rfl, iteF ⟨_, rfl, aB, _, rfl, .inr (C.barredT _), rfl, by decide +kernel, _, rfl, ifF eB ?_⟩⟩
  refine ⟨_, rfl, z, rfl, hl2, _, _, rfl, rfl, _, rfl, ifT (decide_eq_true (by show (1 : Int) ≤ (z.length : Int); omega)) ?_⟩
  refine ⟨_, _, rfl, rfl, _, rfl, ifF (by rw [decide_eq_true (by show (z.length : Int) ≤ 6; omega)]; rfl) ?_⟩
  refine ⟨_, rfl, z, rfl, good_ascii hz, hT.1, fun H' hH => ?_⟩
  have q := k H' (Tq.of1 hT hH)
  rw [show z.cps.toList.all letter = true from by rw [← letters_all]; exact good_letters hz]
  exact q
theorem ok_gnum (F : Fun K "is_number" "is_number" s_is_number f fd) (B : Bn mg) {th : Tok} (hh : mg "HIGHEST_NUMBER" = some (.int 999999 th)) : FnOk P w K mg base CX0 1 f fd ["thing"] spGNum := by
  refine F.ok sc_is_number (fun vs H Q E h => ?_) (fun cdv A outer s H vs Q E hr h => ?_)
  · obtain ⟨i, rfl, _⟩ := h
    rfl
  obtain ⟨i, rfl, h0, h1, k⟩ := h
  refine ⟨_, pss_cons (ps_if (PW.pt (pw_or (pt_not (pt_val (pe_callB call_isi rfl B.isinstance (by decide +kernel) (pa_cons (pv 0) (pa_cons (pe_bltn (v := .ty "int") rfl B.int (by decide +kernel) rfl) pa_nil)))))
      (pw_or1 (pt_val (pe_callB call_isi rfl B.isinstance (by decide +kernel) (pa_cons (pv 0) (pa_cons (pe_bltn (v := .ty "bool") rfl B.bool (by decide +kernel) rfl) pa_nil))))))) (pss_one ps_no) pss_nil) <|
    pss_one (ps_ret (pe_chain op_le op_le pe_int (pv 0) (pe_glob (v := .int 999999) rfl hh ⟨_, rfl⟩))), ?_⟩
  refine ⟨_, rfl, _, _, _, _, true, rfl, .ty _, ty_int _, kit_ty (by decide +kernel), _, rfl, iteF ⟨_, rfl, _, _, _, _, false, rfl, .ty _, ty_int _, kit_ty (by decide +kernel), _, rfl, iteF ?_⟩⟩
  refine ⟨_, rfl, _, _, rfl, rfl, _, rfl, ifT (decide_eq_true h0) ⟨_, _, rfl, rfl, ?_⟩⟩
  show Q (.bl (decide (i ≤ 999999))) H
  rw [decide_eq_true (by omega : i ≤ 999999)]
  exact k
theorem ok_gname (F : Fun K "check_name" "check_name" s_check_name f fd) (DN : Df P w K mg base "is_name" 2 fn dn ["thing"] (spGNm T)) : FnOk P w K mg base CX0 3 f fd ["thing"] (spGNo T) := by
  refine F.ok sc_check_name (fun vs H Q E h => ?_) (fun cdv A outer s H vs Q E hr h => ?_)
  · obtain ⟨z, rfl, _⟩ := h
    rfl
  obtain ⟨z, rfl, hz, hT, k⟩ := h
  refine ⟨_, pss_one (ps_if (pt_not (pt_val (pe_df DN hr (pa_cons (pv 0) pa_nil)))) (pss_one ps_no) pss_nil), ?_⟩
  exact ⟨_, rfl, z, rfl, hz, hT, fun H' t => ⟨_, rfl, ifF (by rfl) (k H' t)⟩⟩
theorem ok_gsign (F : Fun K "check_sign" "check_sign" s_check_sign f fd) (B : Bn mg) (gS : mg "SIGNS" = some (.ref aS)) (hS : ∀ H, SqT K H aS (signs.map V.str)) : FnOk P w K mg base CX0 1 f fd ["thing"] spGSg := by
  refine F.ok sc_check_sign (fun vs H Q E h => ?_) (fun cdv A outer s H vs Q E hr h => ?_)
  · obtain ⟨z, rfl, _⟩ := h
    rfl
  obtain ⟨sg, rfl, hsg, k⟩ := h
  refine ⟨_, pss_one (ps_if (PW.pt (pw_or (pt_not (pt_val (pe_callB call_isi rfl B.isinstance (by decide +kernel) (pa_cons (pv 0) (pa_cons (pe_bltn (v := .ty "str") rfl B.str (by decide +kernel) rfl) pa_nil)))))
      (pw_or1 (pt_cmpR op_notIn_seq (pv 0) (pe_glob (v := .ref aS) rfl gS rfl) (by rfl))))) (pss_one ps_no) pss_nil), ?_⟩
  exact ⟨_, rfl, _, _, _, _, true, rfl, .ty _, ty_str _, kit_ty (by decide +kernel), _, rfl, iteF ⟨_, rfl, aS, _, rfl, .inr (hS _), rfl, sign_flat, _, rfl, ifF (by show (!inV (V.str sg) (signs.map V.str)) = false; rw [sign_in' hsg]; rfl) k⟩⟩
theorem ok_gworth (F : Fun K "check_worth" "check_worth" s_check_worth f fd) (B : Bn mg) (D1 : Df P w K mg base "check_name" 3 f2 d2 ["thing"] (spGNo T)) (D2 : Df P w K mg base "is_number" 1 f3 d3 ["thing"] spGNum) : FnOk P w K mg base CX0 4 f fd ["thing"] (spGW T) := by
  refine F.ok sc_check_worth (fun vs H Q E h => ?_) (fun cdv A outer s H vs Q E hr h => ?_)
  · obtain ⟨x, ss, rfl, _⟩ := h
    rfl
  obtain ⟨x, ss, rfl, hx, hg, hT, k⟩ := h
  have hr1 : Room 1 _ := hr.mono (by decide)
  refine ⟨_, pss_one (ps_if (pt_val (pe_callB call_isi rfl B.isinstance (by decide +kernel) (pa_cons (pv 0) (pa_cons (pe_bltn (v := .ty "str") rfl B.str (by decide +kernel) rfl) pa_nil))))
      (pss_one (ps_expr (pe_df D1 hr (pa_cons (pv 0) pa_nil))))
      (pss_one (ps_if (pt_not (pt_val (pe_df D2 hr1 (pa_cons (pv 0) pa_nil)))) (pss_one ps_no) pss_nil))), ?_⟩
  cases x with
  | nm s => exact ⟨_, rfl, _, _, _, _, true, rfl, .ty _, ty_str _, kit_ty (by decide +kernel), _, rfl, iteT ⟨_, rfl, s, rfl, hg s hx, hT, fun H' t => k H' t⟩⟩
  | nu i => exact ⟨_, rfl, _, _, _, _, false, rfl, .ty _, ty_int _, kit_ty (by decide +kernel), _, rfl, iteF ⟨_, rfl, i, rfl, hx.1, hx.2, _, rfl, ifF (by rfl) (k H (Tq.refl hT))⟩⟩
theorem ok_glet (F : Fun K "check_let" "check_let" s_check_let f fd) (D1 : Df P w K mg base "check_name" 3 f2 d2 ["thing"] (spGNo T)) (D2 : Df P w K mg base "check_sign" 1 f3 d3 ["thing"] spGSg) (D3 : Df P w K mg base "check_worth" 4 f4 d4 ["thing"] (spGW T)) : FnOk P w K mg base CX0 5 f fd ["row"] (spGLet K T) := by
  refine F.ok sc_check_let (fun vs H Q E h => ?_) (fun cdv A outer s H vs Q E hr h => ?_)
  · obtain ⟨v, to, sg, a, b, ss, rfl, _⟩ := h
    rfl
  obtain ⟨v, to, sg, a, b, ss, rfl, ⟨q, rfl, hq⟩, hok, hg, hT, k⟩ := h
  have hr1 : Room 1 _ := hr.mono (by decide)
  have hr3 : Room 3 _ := hr.mono (by decide)
  refine ⟨_, pss_cons (ps_expr (pe_df D1 hr3 (pa_cons (pe_ix ix_tup (pv 0) pe_int (fun _ _ => rfl)) pa_nil))) <| pss_cons (ps_expr (pe_df D2 hr1 (pa_cons (pe_ix ix_tup (pv 0) pe_int (fun _ _ => rfl)) pa_nil))) <|
    pss_cons (ps_expr (pe_df D3 hr (pa_cons (pe_ix ix_tup (pv 0) pe_int (fun _ _ => rfl)) pa_nil))) <| pss_one (ps_expr (pe_df D3 hr (pa_cons (pe_ix ix_tup (pv 0) pe_int (fun _ _ => rfl)) pa_nil))), ?_⟩
  refine ⟨_, rfl, q, _, _, _, rfl, rfl, hq, atI_nat (j := 1) rfl, to, rfl, hg to hok.1, hT, fun H1 t1 => ?_⟩
  refine ⟨_, rfl, q, _, _, _, rfl, rfl, t1.kp.sqT hq, atI_nat (j := 2) rfl, sg, rfl, hok.2.1, ?_⟩
  refine ⟨_, rfl, q, _, _, _, rfl, rfl, t1.kp.sqT hq, atI_nat (j := 3) rfl, a, ss, rfl, hok.2.2.1, hg, t1.tz, fun H2 t2 => ?_⟩
  refine ⟨_, rfl, q, _, _, _, rfl, rfl, (t1.trans t2).kp.sqT hq, atI_nat (j := 4) rfl, b, ss, rfl, hok.2.2.2, hg, t2.tz, fun H3 t3 => ?_⟩
  exact k H3 ((t1.trans t2).trans t3)
theorem ok_gnumH (F : Fun K "is_number" "is_number" s_is_number f fd) (B : Bn mg) {th : Tok} (hh : mg "HIGHEST_NUMBER" = some (.int 999999 th)) : L2H.FnH P w K mg base CX0 1 f fd ["thing"] spGNum := by
  refine okH F sc_is_number (fun vs H Q E h => ?_) (fun A outer s H vs Q E p hot hr h => ?_)
  · obtain ⟨i, rfl, _⟩ := h
    rfl
  obtain ⟨i, rfl, h0, h1, k⟩ := h
  refine ⟨_, pss_cons (ps_if (PW.pt (pw_or (pt_not (pt_val (pe_callB call_isi rfl B.isinstance (by decide +kernel) (pa_cons (pv 0) (pa_cons (pe_bltn (v := .ty "int") rfl B.int (by decide +kernel) rfl) pa_nil)))))
      (pw_or1 (pt_val (pe_callB call_isi rfl B.isinstance (by decide +kernel) (pa_cons (pv 0) (pa_cons (pe_bltn (v := .ty "bool") rfl B.bool (by decide +kernel) rfl) pa_nil))))))) (pss_one ps_no) pss_nil) <|
    pss_one (ps_ret (pe_chain op_le op_le pe_int (pv 0) (pe_glob (v := .int 999999) rfl hh ⟨_, rfl⟩))), ?_⟩
  refine ⟨_, rfl, _, _, _, _, true, rfl, .ty _, ty_int _, kit_ty (by decide +kernel), _, rfl, iteF ⟨_, rfl, _, _, _, _, false, rfl, .ty _, ty_int _, kit_ty (by decide +kernel), _, rfl, iteF ?_⟩⟩
  refine ⟨_, rfl, _, _, rfl, rfl, _, rfl, ifT (decide_eq_true h0) ⟨_, _, rfl, rfl, ?_⟩⟩
  show Q (.bl (decide (i ≤ 999999))) H
  rw [decide_eq_true (by omega : i ≤ 999999)]
  exact k
theorem ok_gnameH (F : Fun K "check_name" "check_name" s_check_name f fd) (DN : Dh P w K mg base CX0 "is_name" 2 fn dn ["thing"] (spGNm T)) : L2H.FnH P w K mg base CX0 3 f fd ["thing"] (spGNo T) := by
  refine okH F sc_check_name (fun vs H Q E h => ?_) (fun A outer s H vs Q E p hot hr h => ?_)
  · obtain ⟨z, rfl, _⟩ := h
    rfl
  obtain ⟨z, rfl, hz, hT, k⟩ := h
  refine ⟨_, pss_one (ps_if (pt_not (pt_val (pe_dh DN hr hot (pa_cons (pv 0) pa_nil)))) (pss_one ps_no) pss_nil), ?_⟩
  exact ⟨_, rfl, z, rfl, hz, hT, fun H' t => ⟨_, rfl, ifF (by rfl) (k H' t)⟩⟩
theorem ok_gsignH (F : Fun K "check_sign" "check_sign" s_check_sign f fd) (B : Bn mg) (gS : mg "SIGNS" = some (.ref aS)) (hS : ∀ H, SqT K H aS (signs.map V.str)) : L2H.FnH P w K mg base CX0 1 f fd ["thing"] spGSg := by
  refine okH F sc_check_sign (fun vs H Q E h => ?_) (fun A outer s H vs Q E p hot hr h => ?_)
  · obtain ⟨z, rfl, _⟩ := h
    rfl
  obtain ⟨sg, rfl, hsg, k⟩ := h
  refine ⟨_, pss_one (ps_if (PW.pt (pw_or (pt_not (pt_val (pe_callB call_isi rfl B.isinstance (by decide +kernel) (pa_cons (pv 0) (pa_cons (pe_bltn (v := .ty "str") rfl B.str (by decide +kernel) rfl) pa_nil)))))
      (pw_or1 (pt_cmpR op_notIn_seq (pv 0) (pe_glob (v := .ref aS) rfl gS rfl) (by rfl))))) (pss_one ps_no) pss_nil), ?_⟩
  exact ⟨_, rfl, _, _, _, _, true, rfl, .ty _, ty_str _, kit_ty (by decide +kernel), _, rfl, iteF ⟨_, rfl, aS, _, rfl, .inr (hS _), rfl, sign_flat, _, rfl, ifF (by show (!inV (V.str sg) (signs.map V.str)) = false; rw [sign_in' hsg]; rfl) k⟩⟩
theorem ok_gworthH (F : Fun K "check_worth" "check_worth" s_check_worth f fd) (B : Bn mg) (D1 : Dh P w K mg base CX0 "check_name" 3 f2 d2 ["thing"] (spGNo T)) (D2 : Dh P w K mg base CX0 "is_number" 1 f3 d3 ["thing"] spGNum) : L2H.FnH P w K mg base CX0 4 f fd ["thing"] (spGW T) := by
  refine okH F sc_check_worth (fun vs H Q E h => ?_) (fun A outer s H vs Q E p hot hr h => ?_)
  · obtain ⟨x, ss, rfl, _⟩ := h
    rfl
  obtain ⟨x, ss, rfl, hx, hg, hT, k⟩ := h
  have hr1 : L2H.RoomH 1 _ := hr.mono (by decide)
  refine ⟨_, pss_one (ps_if (pt_val (pe_callB call_isi rfl B.isinstance (by decide +kernel) (pa_cons (pv 0) (pa_cons (pe_bltn (v := .ty "str") rfl B.str (by decide +kernel) rfl) pa_nil))))
      (pss_one (ps_expr (pe_dh D1 hr hot (pa_cons (pv 0) pa_nil))))
      (pss_one (ps_if (pt_not (pt_val (pe_dh D2 hr1 hot (pa_cons (pv 0) pa_nil)))) (pss_one ps_no) pss_nil))), ?_⟩
  cases x with
  | nm s => exact ⟨_, rfl, _, _, _, _, true, rfl, .ty _, ty_str _, kit_ty (by decide +kernel), _, rfl, iteT ⟨_, rfl, s, rfl, hg s hx, hT, fun H' t => k H' t⟩⟩
  | nu i => exact ⟨_, rfl, _, _, _, _, false, rfl, .ty _, ty_int _, kit_ty (by decide +kernel), _, rfl, iteF ⟨_, rfl, i, rfl, hx.1, hx.2, _, rfl, ifF (by rfl) (k H (Tq.refl hT))⟩⟩
theorem ok_gletH (F : Fun K "check_let" "check_let" s_check_let f fd) (D1 : Dh P w K mg base CX0 "check_name" 3 f2 d2 ["thing"] (spGNo T)) (D2 : Dh P w K mg base CX0 "check_sign" 1 f3 d3 ["thing"] spGSg) (D3 : Dh P w K mg base CX0 "check_worth" 4 f4 d4 ["thing"] (spGW T)) : L2H.FnH P w K mg base CX0 5 f fd ["row"] (spGLet K T) := by
  refine okH F sc_check_let (fun vs H Q E h => ?_) (fun A outer s H vs Q E p hot hr h => ?_)
  · obtain ⟨v, to, sg, a, b, ss, rfl, _⟩ := h
    rfl
  obtain ⟨v, to, sg, a, b, ss, rfl, ⟨q, rfl, hq⟩, hok, hg, hT, k⟩ := h
  have hr1 : L2H.RoomH 1 _ := hr.mono (by decide)
  have hr3 : L2H.RoomH 3 _ := hr.mono (by decide)
  refine ⟨_, pss_cons (ps_expr (pe_dh D1 hr3 hot (pa_cons (pe_ix ix_tup (pv 0) pe_int (fun _ _ => rfl)) pa_nil))) <| pss_cons (ps_expr (pe_dh D2 hr1 hot (pa_cons (pe_ix ix_tup (pv 0) pe_int (fun _ _ => rfl)) pa_nil))) <|
    pss_cons (ps_expr (pe_dh D3 hr hot (pa_cons (pe_ix ix_tup (pv 0) pe_int (fun _ _ => rfl)) pa_nil))) <| pss_one (ps_expr (pe_dh D3 hr hot (pa_cons (pe_ix ix_tup (pv 0) pe_int (fun _ _ => rfl)) pa_nil))), ?_⟩
  refine ⟨_, rfl, q, _, _, _, rfl, rfl, hq, atI_nat (j := 1) rfl, to, rfl, hg to hok.1, hT, fun H1 t1 => ?_⟩
  refine ⟨_, rfl, q, _, _, _, rfl, rfl, t1.kp.sqT hq, atI_nat (j := 2) rfl, sg, rfl, hok.2.1, ?_⟩
  refine ⟨_, rfl, q, _, _, _, rfl, rfl, t1.kp.sqT hq, atI_nat (j := 3) rfl, a, ss, rfl, hok.2.2.1, hg, t1.tz, fun H2 t2 => ?_⟩
  refine ⟨_, rfl, q, _, _, _, rfl, rfl, (t1.trans t2).kp.sqT hq, atI_nat (j := 4) rfl, b, ss, rfl, hok.2.2.2, hg, t2.tz, fun H3 t3 => ?_⟩
  exact k H3 ((t1.trans t2).trans t3)
end
end Lm
namespace Lm
open PySem PySem.Spec PyProof.Rows L2 GxR
abbrev s_row : Stmt := topS 22
abbrev s_rows : Stmt := topS 23
abbrev s_checked : Stmt := topS 24
/-- LENGTHS as it is written -/
structure LenK (K : PySem.W.Frag) (w : World) (mg : Str → Option Value) (aL : Addr) : Prop where
  m : mg "LENGTHS" = some (.ref aL)
  d : ∃ es n, KDict K w aL es n
  get : ∀ s : Str, ∃ r, PySem.W.nsIn K aL s = some r ∧ (match lens s with | none => r = none | some k => ∃ tk, r = some (.int (k : Int) tk))
theorem LenK.none_ {K : PySem.W.Frag} {w : World} {mg : Str → Option Value} {aL : Addr} (L : LenK K w mg aL) {s : Str} (h : lens s = none) : PySem.W.nsIn K aL s = some none := by
  obtain ⟨r, e, q⟩ := L.get s
  rw [h] at q
  rw [e, show r = none from q]
theorem LenK.some_ {K : PySem.W.Frag} {w : World} {mg : Str → Option Value} {aL : Addr} (L : LenK K w mg aL) {s : Str} {k : Nat} (h : lens s = some k) : ∃ tk, PySem.W.nsIn K aL s = some (some (.int (k : Int) tk)) := by
  obtain ⟨r, e, q⟩ := L.get s
  rw [h] at q
  obtain ⟨tk, q⟩ := (show ∃ tk, r = some (.int (k : Int) tk) from q)
  exact ⟨tk, by rw [e, q]⟩
theorem LenK.kd {K : PySem.W.Frag} {w : World} {mg : Str → Option Value} {aL : Addr} (L : LenK K w mg aL) {s : Str} {k : Nat} (h : lens s = some k) : KDct K w aL s (.int (k : Int)) := by
  obtain ⟨es, n, D⟩ := L.d
  obtain ⟨tk, e⟩ := L.some_ h
  exact ⟨es, n, _, D.at_, D.lit, e, ⟨tk, rfl⟩⟩
theorem lens_let : lens "let" = some 5 := by decide +kernel
theorem lens_say : lens "say" = some 2 := by decide +kernel
theorem lens_kd {kd : Str} (h : kd ∈ kinds) : lens kd = some 3 := by
  simp only [kinds, List.mem_cons, List.not_mem_nil, or_false] at h
  rcases h with e | e | e <;> (rw [e]; decide +kernel)
theorem log_nat {n : Nat} (h : n ≤ 100000) : (n : Int).natAbs.log2 < 1920 := by
  by_cases z : (n : Int).natAbs = 0
  · rw [z]
    decide
  · exact Nat.lt_of_lt_of_le ((Nat.log2_lt z).mpr (show (n : Int).natAbs < 2 ^ 20 by omega)) (by decide)
def TErr (TD : Addr) (H : Hp) (n : Nat) (cls : Value) (d : Option Addr) : Prop := cls = .ref TD ∧ ∃ dd, d = some dd ∧ H dd = some (.xd [(("place" : Str), .int (n : Int))])
/-- what a look comes to -/
def LkOut (T TD : Addr) (H : Hp) (Q : VK) (E : XK) (o : Bool × Nat) : Prop :=
  (o.1 = false → ∀ H', Tq T T H H' → Q (.int (o.2 : Int)) H') ∧ (o.1 = true → ∀ H' cls d, Tq T T H H' → TErr TD H' o.2 cls d → E cls d H')
def spRow3 (K : PySem.W.Frag) (T TD : Addr) (n : Nat) : Sp := fun vs H Q E => ∃ (v : V) (r : Row) (ss : List Str) (d m : Nat), vs = [v, .int (m : Int), .int (d : Int)] ∧ RowAt K H r v ∧ r.vis ss d ∧ (∀ s ∈ ss, Good s) ∧ d ≤ 20 ∧ m + r.tot ≤ 100000 ∧ r.dep ≤ n ∧ Tz T T H ∧ LkOut T TD H Q E (r.looks d m)
def spRows3 (K : PySem.W.Frag) (T TD : Addr) (n : Nat) : Sp := fun vs H Q E => ∃ (l : Addr) (rs : List Row) (ss : List Str) (d m : Nat), vs = [.ref l, .int (m : Int), .int (d : Int)] ∧ RowsAt K H l rs ∧ viss ss d rs ∧ (∀ s ∈ ss, Good s) ∧ d ≤ 20 ∧ m + tots rs ≤ 100000 ∧ deps rs < n ∧ Tz T T H ∧ LkOut T TD H Q E (lookss rs d m)
def spChk3 (K : PySem.W.Frag) (T TD : Addr) (n : Nat) : Sp := fun vs H Q E => ∃ (l : Addr) (rs : List Row) (ss : List Str), vs = [.ref l] ∧ RowsAt K H l rs ∧ viss ss 0 rs ∧ (∀ s ∈ ss, Good s) ∧ tots rs ≤ 100000 ∧ deps rs < n ∧ Tz T T H ∧ LkOut T TD H Q E (lookss rs 0 0)
mutual
theorem Row.looks_le : ∀ (r : Row) (d m : Nat), (r.looks d m).2 ≤ m + r.tot
  | .lt _ _ _ _, _, m => Nat.le_refl _
  | .sy _, _, m => Nat.le_refl _
  | .bk kd ts rs, d, m => by
    show (if d = 20 then (true, m) else lookss rs (d + 1) (m + 1)).2 ≤ m + (tots rs + 1)
    by_cases c : d = 20
    · rw [if_pos c]
      show m ≤ _
      omega
    · rw [if_neg c]
      have := lookss_le rs (d + 1) (m + 1)
      omega
theorem lookss_le : ∀ (rs : List Row) (d m : Nat), (lookss rs d m).2 ≤ m + tots rs
  | [], _, m => Nat.le_refl _
  | r :: rs, d, m => by
    have h1 := Row.looks_le r d m
    have h2 := lookss_le rs d (r.looks d m).2
    show (if (r.looks d m).1 = true then r.looks d m else lookss rs d (r.looks d m).2).2 ≤ m + (r.tot + tots rs)
    by_cases c : (r.looks d m).1 = true
    · rw [if_pos c]
      omega
    · rw [if_neg c]
      omega
end
theorem sc_row : FnScope ["row", "looked", "depth"] ["row", "looked", "depth"] (defScope s_row) := ⟨rfl, rfl, rfl, by decide +kernel, rfl, by decide +kernel, by decide +kernel⟩
theorem sc_rows : FnScope ["rows", "looked", "depth", "row"] ["rows", "looked", "depth"] (defScope s_rows) := ⟨rfl, rfl, rfl, by decide +kernel, rfl, by decide +kernel, by decide +kernel⟩
theorem sc_checked : FnScope ["rows"] ["rows"] (defScope s_checked) := ⟨rfl, rfl, rfl, by decide +kernel, rfl, by decide +kernel, by decide +kernel⟩
section
variable {P : Program} {w : World} {K : PySem.W.Frag} {mg : Str → Option Value} {base : Heap} {f aK aL T TD fI f1 f2 f3 f4 f5 : Addr} {fd d1 d2 d3 d4 d5 : FuncData}
theorem ok_gform (F : Fun K "check_form" "check_form" s_check_form f fd) (B : Bn mg) (L : LenK K w mg aL) : FnOk P w K mg base CX0 1 f fd ["row"] (spGForm K) := by
  obtain ⟨es, n, D⟩ := L.d
  refine F.ok sc_check_form (fun vs H Q E h => ?_) (fun cdv A outer s H vs Q E hr h => ?_)
  · obtain ⟨v, r, ss, d, rfl, _⟩ := h
    rfl
  obtain ⟨v, r, ss, d, rfl, hR, hv, k⟩ := h
  have nd := sc_check_form.nd
  obtain ⟨q, z, us, rfl, h2, hz⟩ : ∃ (q : Addr) (z : Str) (us : List V), v = .ref q ∧ SqT K H q (.str z :: us) ∧ lens z = some (us.length + 1) := by
    match r, hR, hv with
    | .lt to sg a b, ⟨q, e, h⟩, _ => exact ⟨q, _, _, e, h, lens_let⟩
    | .sy a, ⟨q, e, h⟩, _ => exact ⟨q, _, _, e, h, lens_say⟩
    | .bk kd ts rs, ⟨q, l, us, e, h, _⟩, hv => exact ⟨q, _, _, e, h, lens_kd hv.1⟩
  refine ⟨_, pss_cons (ps_if (PW.pt (pw_or (pt_not (pt_val (pe_callB call_isi rfl B.isinstance (by decide +kernel) (pa_cons (pv 0) (pa_cons (pe_bltn (v := .ty "tuple") rfl B.tuple (by decide +kernel) rfl) pa_nil)))))
      (pw_or1 (pt_cmpR op_eq (pe_callB call_len_seq rfl B.len PySem.boot_len (pa_cons (pv 0) pa_nil)) pe_int (nomark _))))) (pss_one ps_no) pss_nil) <|
    pss_cons (ps_set (i := 1) nd rfl (Or.inl rfl) (pe_ix ix_tup (pv 0) pe_int (fun _ _ => rfl))) <|
    pss_cons (ps_if (PW.pt (pw_or (pt_not (pt_val (pe_callB call_isi rfl B.isinstance (by decide +kernel) (pa_cons (pv 1) (pa_cons (pe_bltn (v := .ty "str") rfl B.str (by decide +kernel) rfl) pa_nil)))))
      (pw_or1 (pt_cmpR (op_notIn_kd D) (pv 1) (pe_glob (v := .ref aL) rfl L.m rfl) (by rfl))))) (pss_one ps_no) pss_nil) <|
    pss_one (ps_if (pt_cmpR op_ne (pe_callB call_len_seq rfl B.len PySem.boot_len (pa_cons (pv 0) pa_nil)) (pe_ix ix_kdict (pe_glob (v := .ref aL) rfl L.m rfl) (pv 1) (fun _ _ => rfl)) (nomark _)) (pss_one ps_no) pss_nil), ?_⟩
  refine ⟨_, rfl, _, _, _, _, true, rfl, .ty _, ty_tuple h2, kit_ty (by decide +kernel), _, rfl, iteF ?_⟩
  refine ⟨_, rfl, q, _, rfl, .inr h2, rfl, _, rfl, ifF (decide_eq_false fun e => by
    have e2 := V.int.inj e
    rw [List.length_cons] at e2
    omega) ?_⟩
  refine ⟨_, rfl, q, _, _, _, rfl, rfl, h2, atI_nat (j := 0) rfl, ?_⟩
  obtain ⟨tk, e⟩ := L.some_ hz
  refine ⟨_, rfl, _, _, _, _, true, rfl, .ty _, ty_str _, kit_ty (by decide +kernel), _, rfl, iteF ⟨_, rfl, z, _, rfl, rfl, e, _, rfl, iteF ?_⟩⟩
  refine ⟨_, rfl, q, _, rfl, .inr h2, _, rfl, aL, z, _, rfl, rfl, L.kd hz, rfl, _, rfl, ifF ?_ k⟩
  rw [List.length_cons, decide_eq_true rfl]
  rfl
theorem ok_gformH (F : Fun K "check_form" "check_form" s_check_form f fd) (B : Bn mg) (L : LenK K w mg aL) : L2H.FnH P w K mg base CX0 1 f fd ["row"] (spGForm K) := by
  obtain ⟨es, n, D⟩ := L.d
  refine okH F sc_check_form (fun vs H Q E h => ?_) (fun A outer s H vs Q E p hot hr h => ?_)
  · obtain ⟨v, r, ss, d, rfl, _⟩ := h
    rfl
  obtain ⟨v, r, ss, d, rfl, hR, hv, k⟩ := h
  have nd := sc_check_form.nd
  obtain ⟨q, z, us, rfl, h2, hz⟩ : ∃ (q : Addr) (z : Str) (us : List V), v = .ref q ∧ SqT K H q (.str z :: us) ∧ lens z = some (us.length + 1) := by
    match r, hR, hv with
    | .lt to sg a b, ⟨q, e, h⟩, _ => exact ⟨q, _, _, e, h, lens_let⟩
    | .sy a, ⟨q, e, h⟩, _ => exact ⟨q, _, _, e, h, lens_say⟩
    | .bk kd ts rs, ⟨q, l, us, e, h, _⟩, hv => exact ⟨q, _, _, e, h, lens_kd hv.1⟩
  refine ⟨_, pss_cons (ps_if (PW.pt (pw_or (pt_not (pt_val (pe_callB call_isi rfl B.isinstance (by decide +kernel) (pa_cons (pv 0) (pa_cons (pe_bltn (v := .ty "tuple") rfl B.tuple (by decide +kernel) rfl) pa_nil)))))
      (pw_or1 (pt_cmpR op_eq (pe_callB call_len_seq rfl B.len PySem.boot_len (pa_cons (pv 0) pa_nil)) pe_int (nomark _))))) (pss_one ps_no) pss_nil) <|
    pss_cons (ps_set (i := 1) nd rfl (Or.inl rfl) (pe_ix ix_tup (pv 0) pe_int (fun _ _ => rfl))) <|
    pss_cons (ps_if (PW.pt (pw_or (pt_not (pt_val (pe_callB call_isi rfl B.isinstance (by decide +kernel) (pa_cons (pv 1) (pa_cons (pe_bltn (v := .ty "str") rfl B.str (by decide +kernel) rfl) pa_nil)))))
      (pw_or1 (pt_cmpR (op_notIn_kd D) (pv 1) (pe_glob (v := .ref aL) rfl L.m rfl) (by rfl))))) (pss_one ps_no) pss_nil) <|
    pss_one (ps_if (pt_cmpR op_ne (pe_callB call_len_seq rfl B.len PySem.boot_len (pa_cons (pv 0) pa_nil)) (pe_ix ix_kdict (pe_glob (v := .ref aL) rfl L.m rfl) (pv 1) (fun _ _ => rfl)) (nomark _)) (pss_one ps_no) pss_nil), ?_⟩
  refine ⟨_, rfl, _, _, _, _, true, rfl, .ty _, ty_tuple h2, kit_ty (by decide +kernel), _, rfl, iteF ?_⟩
  refine ⟨_, rfl, q, _, rfl, .inr h2, rfl, _, rfl, ifF (decide_eq_false fun e => by
    have e2 := V.int.inj e
    rw [List.length_cons] at e2
    omega) ?_⟩
  refine ⟨_, rfl, q, _, _, _, rfl, rfl, h2, atI_nat (j := 0) rfl, ?_⟩
  obtain ⟨tk, e⟩ := L.some_ hz
  refine ⟨_, rfl, _, _, _, _, true, rfl, .ty _, ty_str _, kit_ty (by decide +kernel), _, rfl, iteF ⟨_, rfl, z, _, rfl, rfl, e, _, rfl, iteF ?_⟩⟩
  refine ⟨_, rfl, q, _, rfl, .inr h2, _, rfl, aL, z, _, rfl, rfl, L.kd hz, rfl, _, rfl, ifF ?_ k⟩
  rw [List.length_cons, decide_eq_true rfl]
  rfl
theorem ok_row3 {n : Nat} {td : Tok} (F : Fun K "look_at_row" "look_at_row" s_row f fd) (C1 : mg "BLOCKS" = some (.ref aK)) (C2 : ∀ H, SqT K H aK (kinds.map V.str)) (hd : mg "DEEPEST_BLOCK" = some (.int 20 td)) (TT : DeepX.DeepTxt P K mg "TooDeep" "the block at " " lies too deep" TD fI)
    (D1 : Df P w K mg base "check_form" 1 f1 d1 ["row"] (spGForm K)) (D2 : Df P w K mg base "check_name" 3 f2 d2 ["thing"] (spGNo T)) (D3 : Df P w K mg base "check_worth" 4 f3 d3 ["thing"] (spGW T)) (D4 : Df P w K mg base "check_let" 5 f4 d4 ["row"] (spGLet K T)) (D5 : Dn P w K mg base "look_at_rows" (2 * n + 5) f5 d5 ["rows", "looked", "depth"] (spRows3 K T TD n)) :
    FnOk P w K mg base (L2N.CX P w) (2 * n + 6) f fd ["row", "looked", "depth"] (spRow3 K T TD n) := by
  refine okN F sc_row (fun vs H Q E h => ?_) (fun cdv A outer s H vs Q E hr h => ?_)
  · obtain ⟨v, r, ss, d, m, rfl, _⟩ := h
    rfl
  obtain ⟨v, r, ss, d, m, rfl, hR, hv, hg, hd20, hm, hn, hT, k⟩ := h
  have hr5 : Room 5 _ := hr.mono (by omega)
  have hr4 : Room 4 _ := hr.mono (by omega)
  have hr3 : Room 3 _ := hr.mono (by omega)
  have hr1 : Room 1 _ := hr.mono (by omega)
  refine ⟨_, pss_cons (ps_expr (pe_df D1 hr1 (pa_cons (pv 0) pa_nil))) <|
    pss_cons (ps_if (pt_cmpR op_in_seq (pe_ix ix_tup (pv 0) pe_int (fun _ _ => rfl)) (pe_glob (v := .ref aK) rfl C1 rfl) (by rfl))
      (pss_cons (ps_if (pt_cmpR op_eq (pv 2) (pe_glob (v := .int 20) rfl hd ⟨_, rfl⟩) (nomark _)) (pss_one (L2N.ps_raise rfl (L2N.takes_of rfl rfl rfl rfl) (pmk_deepN TT (L2H.roomH_of hr3) (pa_cons (pv 1) pa_nil) (by decide +kernel) (by decide +kernel) (by decide +kernel)))) pss_nil) <|
       pss_cons (ps_expr (pe_df D2 hr3 (pa_cons (pe_ix ix_tup (pv 0) pe_int (fun _ _ => rfl)) pa_nil))) <|
       pss_one (ps_ret (pe_dn D5 hr (L2N.takes_of rfl rfl rfl rfl) (pa_cons (pe_ix ix_tup (pv 0) pe_int (fun _ _ => rfl)) (pa_cons (pe_op op_add (pv 1) pe_int) (pa_cons (pe_op op_add (pv 2) pe_int) pa_nil)))))) pss_nil) <|
    pss_cons (ps_if (pt_cmpR op_eq (pe_ix ix_tup (pv 0) pe_int (fun _ _ => rfl)) pe_str (nomark _)) (pss_one (ps_expr (pe_df D4 hr5 (pa_cons (pv 0) pa_nil)))) (pss_one (ps_expr (pe_df D3 hr4 (pa_cons (pe_ix ix_tup (pv 0) pe_int (fun _ _ => rfl)) pa_nil))))) <|
    pss_one (ps_ret (pe_op op_add (pv 1) pe_int)), ?_⟩
  refine ⟨_, rfl, v, r, ss, d, rfl, hR, hv, ?_⟩
  match r, hR, hv, hm, hn, k with
  | .lt to sg a b, ⟨q, e, hq⟩, hv, hm, hn, k =>
    subst e
    refine ⟨_, rfl, q, _, _, _, rfl, rfl, hq, atI_nat (j := 0) rfl, aK, _, rfl, .inr (C2 _), rfl, kinds_flat, _, rfl, ifF let_in ?_⟩
    refine ⟨_, rfl, q, _, _, _, rfl, rfl, hq, atI_nat (j := 0) rfl, rfl, _, rfl, ifT (decide_eq_true rfl) ?_⟩
    exact ⟨_, rfl, .ref q, to, sg, a, b, ss, rfl, ⟨q, rfl, hq⟩, hv, hg, hT, fun H1 t1 => ⟨_, rfl, _, _, rfl, rfl, k.1 rfl H1 t1⟩⟩
  | .sy a, ⟨q, e, hq⟩, hv, hm, hn, k =>
    subst e
    refine ⟨_, rfl, q, _, _, _, rfl, rfl, hq, atI_nat (j := 0) rfl, aK, _, rfl, .inr (C2 _), rfl, kinds_flat, _, rfl, ifF say_in ?_⟩
    refine ⟨_, rfl, q, _, _, _, rfl, rfl, hq, atI_nat (j := 0) rfl, rfl, _, rfl, ifF (show decide (V.str "say" = V.str "let") = false by decide +kernel) ?_⟩
    exact ⟨_, rfl, q, _, _, _, rfl, rfl, hq, atI_nat (j := 1) rfl, a, ss, rfl, hv, hg, hT, fun H1 t1 => ⟨_, rfl, _, _, rfl, rfl, k.1 rfl H1 t1⟩⟩
  | .bk kd ts rs, ⟨q, l, us, e, hq, hl, hA⟩, hv, hm, hn, k =>
    subst e
    obtain ⟨hk, _, hin⟩ := hv
    have ek : (Row.bk kd ts rs).looks d m = if d = 20 then (true, m) else lookss rs (d + 1) (m + 1) := rfl
    have hm' : m + (tots rs + 1) ≤ 100000 := hm
    have hn' : deps rs + 1 ≤ n := hn
    rw [ek] at k
    refine ⟨_, rfl, q, _, _, _, rfl, rfl, hq, atI_nat (j := 0) rfl, aK, _, rfl, .inr (C2 _), rfl, kinds_flat, _, rfl, ifT (kd_in hk) ?_⟩
    refine ⟨_, rfl, rfl, _, rfl, ?_⟩
    by_cases c : d = 20
    · rw [if_pos c] at k
      refine ifT (decide_eq_true (by rw [c]; rfl)) ?_
      exact ⟨_, rfl, (m : Int), rfl, log_nat (by omega), fun dd hdd => k.2 rfl _ _ _ (Tq.same hT (same_new hdd _)) ⟨rfl, dd, rfl, upd_same⟩⟩
    · rw [if_neg c] at k
      obtain ⟨⟨x, rfl, hx⟩, hvs⟩ := hin c
      refine ifF (decide_eq_false fun z => c (by have := V.int.inj z; omega)) ?_
      refine ⟨_, rfl, q, _, _, _, rfl, rfl, hq, atI_nat (j := 1) rfl, x, rfl, hg x hx, hT, fun H1 t1 => ?_⟩
      refine ⟨_, rfl, q, _, _, _, rfl, rfl, t1.kp.sqT hq, atI_nat (j := 2) rfl, _, rfl, _, _, rfl, rfl, _, rfl, _, _, rfl, rfl, l, rs, ss, d + 1, m + 1, rfl, (show RowsAt K H l rs from ⟨us, hl, hA⟩).mono t1.kp, hvs, hg, by omega, by omega, by omega, t1.tz, fun e H2 t2 => k.1 e H2 (t1.trans t2), fun e H2 cls dd t2 r2 => k.2 e H2 cls dd (t1.trans t2) r2⟩
theorem ok_rows3 {n : Nat} (F : Fun K "look_at_rows" "look_at_rows" s_rows f fd) (B : Bn mg) (D1 : Dn P w K mg base "look_at_row" (2 * n + 6) f1 d1 ["row", "looked", "depth"] (spRow3 K T TD n)) : FnOk P w K mg base (L2N.CX P w) (2 * (n + 1) + 5) f fd ["rows", "looked", "depth"] (spRows3 K T TD (n + 1)) := by
  refine okN F sc_rows (fun vs H Q E h => ?_) (fun cdv A outer s H vs Q E hr h => ?_)
  · obtain ⟨l, rs, ss, d, m, rfl, _⟩ := h
    rfl
  obtain ⟨l, rs, ss, d, m, rfl, ⟨us, hl, hA⟩, hv, hg, hd20, hm, hn, hT, k⟩ := h
  have nd := sc_rows.nd
  refine ⟨_, pss_cons (ps_if (pt_not (pt_val (pe_callB call_isi rfl B.isinstance (by decide +kernel) (pa_cons (pv 0) (pa_cons (pe_bltn (v := .ty "list") rfl B.list (by decide +kernel) rfl) pa_nil))))) (pss_one ps_no) pss_nil) <|
    pss_cons (ps_for (passes_of rfl) rfl (pi_list (pv 0)) (pg_name (i := 3) nd rfl (Or.inl rfl)) (pss_one (ps_set (i := 1) nd rfl (Or.inl rfl) (pe_dn D1 hr (L2N.takes_of rfl rfl rfl rfl) (pa_cons (pv 3) (pa_cons (pv 1) (pa_cons (pv 2) pa_nil))))))) <|
    pss_one (ps_ret (pv 1)), ?_⟩
  refine ⟨_, rfl, _, _, _, _, true, rfl, .ty _, ty_list hl, kit_ty (by decide +kernel), _, rfl, iteF ?_⟩
  refine ⟨_, rfl, l, rfl, ⟨_, hl⟩, for_list (K := K) (a := l) (xs := us) (fun i σ H' => ∃ (mi : Nat) (v3 : Option V), σ = [some (.ref l), some (.int (mi : Int)), some (.int (d : Int)), v3] ∧ Tq T T H H' ∧ lookss rs d m = lookss (rs.drop i) d mi ∧ mi + tots (rs.drop i) ≤ 100000)
    ⟨m, none, rfl, Tq.refl hT, rfl, hm⟩ (fun i σ H' _ ⟨_, _, _, t, _⟩ => t.kp.sqL hl) ?_ ?_⟩
  · rintro i v σ H1 hi ⟨mi, v3, rfl, t1, ek, em⟩
    obtain ⟨r, hri, hrow⟩ := hA.at hi
    have hrv := viss_at hv hri
    rw [drop_one hri] at ek em
    have em' : mi + (r.tot + tots (rs.drop (i + 1))) ≤ 100000 := em
    have ek' : lookss rs d m = if (r.looks d mi).1 = true then r.looks d mi else lookss (rs.drop (i + 1)) d (r.looks d mi).2 := ek
    have hdr := dep_at hri
    have hle := Row.looks_le r d mi
    refine ⟨_, rfl, _, rfl, _, rfl, v, r, ss, d, mi, rfl, RowAt.mono t1.kp r v hrow, hrv, hg, hd20, by omega, by omega, t1.tz, fun e H2 t2 => ?_, fun e H2 cls dd t2 r2 => ?_⟩
    · rw [e, if_neg (by decide)] at ek'
      exact ⟨(r.looks d mi).2, _, rfl, t1.trans t2, ek', by omega⟩
    · rw [if_pos e] at ek'
      refine k.2 (by rw [ek']; exact e) H2 cls dd (t1.trans t2) ?_
      rw [ek']
      exact r2
  · rintro σ H1 ⟨mi, v3, rfl, t1, ek, em⟩
    rw [hA.len, List.drop_length] at ek
    have ek' : lookss rs d m = (false, mi) := ek
    rw [ek'] at k
    exact ⟨_, rfl, k.1 rfl H1 t1⟩
theorem ok_chk3 {n j : Nat} (F : Fun K "checked" "checked" s_checked f fd) (D : Dn P w K mg base "look_at_rows" j f1 d1 ["rows", "looked", "depth"] (spRows3 K T TD n)) : FnOk P w K mg base (L2N.CX P w) (j + 1) f fd ["rows"] (spChk3 K T TD n) := by
  refine okN F sc_checked (fun vs H Q E h => ?_) (fun cdv A outer s H vs Q E hr h => ?_)
  · obtain ⟨l, rs, ss, rfl, _⟩ := h
    rfl
  obtain ⟨l, rs, ss, rfl, hR, hv, hg, hm, hn, hT, k⟩ := h
  refine ⟨_, pss_one (ps_ret (pe_dn D hr (L2N.takes_of rfl rfl rfl rfl) (pa_cons (pv 0) (pa_cons pe_int (pa_cons pe_int pa_nil))))), ?_⟩
  exact ⟨_, rfl, l, rs, ss, 0, 0, rfl, hR, hv, hg, by decide, by omega, hn, hT, k⟩
theorem ok_row3H {n : Nat} {td : Tok} (F : Fun K "look_at_row" "look_at_row" s_row f fd) (C1 : mg "BLOCKS" = some (.ref aK)) (C2 : ∀ H, SqT K H aK (kinds.map V.str)) (hd : mg "DEEPEST_BLOCK" = some (.int 20 td)) (TT : DeepX.DeepTxt P K mg "TooDeep" "the block at " " lies too deep" TD fI)
    (D1 : Dh P w K mg base CX0 "check_form" 1 f1 d1 ["row"] (spGForm K)) (D2 : Dh P w K mg base CX0 "check_name" 3 f2 d2 ["thing"] (spGNo T)) (D3 : Dh P w K mg base CX0 "check_worth" 4 f3 d3 ["thing"] (spGW T)) (D4 : Dh P w K mg base CX0 "check_let" 5 f4 d4 ["row"] (spGLet K T)) (D5 : Dh P w K mg base (L2.CX P w) "look_at_rows" (2 * n + 5) f5 d5 ["rows", "looked", "depth"] (spRows3 K T TD n)) :
    L2H.FnH P w K mg base (L2.CX P w) (2 * n + 6) f fd ["row", "looked", "depth"] (spRow3 K T TD n) := by
  refine okH F sc_row (fun vs H Q E h => ?_) (fun A outer s H vs Q E p hot hr h => ?_)
  · obtain ⟨v, r, ss, d, m, rfl, _⟩ := h
    rfl
  obtain ⟨v, r, ss, d, m, rfl, hR, hv, hg, hd20, hm, hn, hT, k⟩ := h
  have hr5 : L2H.RoomH 5 _ := hr.mono (by omega)
  have hr4 : L2H.RoomH 4 _ := hr.mono (by omega)
  have hr3 : L2H.RoomH 3 _ := hr.mono (by omega)
  have hr1 : L2H.RoomH 1 _ := hr.mono (by omega)
  refine ⟨_, pss_cons (ps_expr (pe_dh D1 hr1 hot (pa_cons (pv 0) pa_nil))) <|
    pss_cons (ps_if (pt_cmpR op_in_seq (pe_ix ix_tup (pv 0) pe_int (fun _ _ => rfl)) (pe_glob (v := .ref aK) rfl C1 rfl) (by rfl))
      (pss_cons (ps_if (pt_cmpR op_eq (pv 2) (pe_glob (v := .int 20) rfl hd ⟨_, rfl⟩) (nomark _)) (pss_one (L2H.ps_raiseH hot (L2.takes_of rfl rfl rfl rfl) (pmk_deepN TT hr3 (pa_cons (pv 1) pa_nil) (by decide +kernel) (by decide +kernel) (by decide +kernel)))) pss_nil) <|
       pss_cons (ps_expr (pe_dh D2 hr3 hot (pa_cons (pe_ix ix_tup (pv 0) pe_int (fun _ _ => rfl)) pa_nil))) <|
       pss_one (ps_ret (pe_dhx D5 hr hot (L2.takes_of rfl rfl rfl rfl) (pa_cons (pe_ix ix_tup (pv 0) pe_int (fun _ _ => rfl)) (pa_cons (pe_op op_add (pv 1) pe_int) (pa_cons (pe_op op_add (pv 2) pe_int) pa_nil)))))) pss_nil) <|
    pss_cons (ps_if (pt_cmpR op_eq (pe_ix ix_tup (pv 0) pe_int (fun _ _ => rfl)) pe_str (nomark _)) (pss_one (ps_expr (pe_dh D4 hr5 hot (pa_cons (pv 0) pa_nil)))) (pss_one (ps_expr (pe_dh D3 hr4 hot (pa_cons (pe_ix ix_tup (pv 0) pe_int (fun _ _ => rfl)) pa_nil))))) <|
    pss_one (ps_ret (pe_op op_add (pv 1) pe_int)), ?_⟩
  refine ⟨_, rfl, v, r, ss, d, rfl, hR, hv, ?_⟩
  match r, hR, hv, hm, hn, k with
  | .lt to sg a b, ⟨q, e, hq⟩, hv, hm, hn, k =>
    subst e
    refine ⟨_, rfl, q, _, _, _, rfl, rfl, hq, atI_nat (j := 0) rfl, aK, _, rfl, .inr (C2 _), rfl, kinds_flat, _, rfl, ifF let_in ?_⟩
    refine ⟨_, rfl, q, _, _, _, rfl, rfl, hq, atI_nat (j := 0) rfl, rfl, _, rfl, ifT (decide_eq_true rfl) ?_⟩
    exact ⟨_, rfl, .ref q, to, sg, a, b, ss, rfl, ⟨q, rfl, hq⟩, hv, hg, hT, fun H1 t1 => ⟨_, rfl, _, _, rfl, rfl, k.1 rfl H1 t1⟩⟩
  | .sy a, ⟨q, e, hq⟩, hv, hm, hn, k =>
    subst e
    refine ⟨_, rfl, q, _, _, _, rfl, rfl, hq, atI_nat (j := 0) rfl, aK, _, rfl, .inr (C2 _), rfl, kinds_flat, _, rfl, ifF say_in ?_⟩
    refine ⟨_, rfl, q, _, _, _, rfl, rfl, hq, atI_nat (j := 0) rfl, rfl, _, rfl, ifF (show decide (V.str "say" = V.str "let") = false by decide +kernel) ?_⟩
    exact ⟨_, rfl, q, _, _, _, rfl, rfl, hq, atI_nat (j := 1) rfl, a, ss, rfl, hv, hg, hT, fun H1 t1 => ⟨_, rfl, _, _, rfl, rfl, k.1 rfl H1 t1⟩⟩
  | .bk kd ts rs, ⟨q, l, us, e, hq, hl, hA⟩, hv, hm, hn, k =>
    subst e
    obtain ⟨hk, _, hin⟩ := hv
    have ek : (Row.bk kd ts rs).looks d m = if d = 20 then (true, m) else lookss rs (d + 1) (m + 1) := rfl
    have hm' : m + (tots rs + 1) ≤ 100000 := hm
    have hn' : deps rs + 1 ≤ n := hn
    rw [ek] at k
    refine ⟨_, rfl, q, _, _, _, rfl, rfl, hq, atI_nat (j := 0) rfl, aK, _, rfl, .inr (C2 _), rfl, kinds_flat, _, rfl, ifT (kd_in hk) ?_⟩
    refine ⟨_, rfl, rfl, _, rfl, ?_⟩
    by_cases c : d = 20
    · rw [if_pos c] at k
      refine ifT (decide_eq_true (by rw [c]; rfl)) ?_
      exact ⟨_, rfl, (m : Int), rfl, log_nat (by omega), fun dd hdd => k.2 rfl _ _ _ (Tq.same hT (same_new hdd _)) ⟨rfl, dd, rfl, upd_same⟩⟩
    · rw [if_neg c] at k
      obtain ⟨⟨x, rfl, hx⟩, hvs⟩ := hin c
      refine ifF (decide_eq_false fun z => c (by have := V.int.inj z; omega)) ?_
      refine ⟨_, rfl, q, _, _, _, rfl, rfl, hq, atI_nat (j := 1) rfl, x, rfl, hg x hx, hT, fun H1 t1 => ?_⟩
      refine ⟨_, rfl, q, _, _, _, rfl, rfl, t1.kp.sqT hq, atI_nat (j := 2) rfl, _, rfl, _, _, rfl, rfl, _, rfl, _, _, rfl, rfl, l, rs, ss, d + 1, m + 1, rfl, (show RowsAt K H l rs from ⟨us, hl, hA⟩).mono t1.kp, hvs, hg, by omega, by omega, by omega, t1.tz, fun e H2 t2 => k.1 e H2 (t1.trans t2), fun e H2 cls dd t2 r2 => k.2 e H2 cls dd (t1.trans t2) r2⟩
theorem ok_rows3H {n : Nat} (F : Fun K "look_at_rows" "look_at_rows" s_rows f fd) (B : Bn mg) (D1 : Dh P w K mg base (L2.CX P w) "look_at_row" (2 * n + 6) f1 d1 ["row", "looked", "depth"] (spRow3 K T TD n)) : L2H.FnH P w K mg base (L2.CX P w) (2 * (n + 1) + 5) f fd ["rows", "looked", "depth"] (spRows3 K T TD (n + 1)) := by
  refine okH F sc_rows (fun vs H Q E h => ?_) (fun A outer s H vs Q E p hot hr h => ?_)
  · obtain ⟨l, rs, ss, d, m, rfl, _⟩ := h
    rfl
  obtain ⟨l, rs, ss, d, m, rfl, ⟨us, hl, hA⟩, hv, hg, hd20, hm, hn, hT, k⟩ := h
  have nd := sc_rows.nd
  refine ⟨_, pss_cons (ps_if (pt_not (pt_val (pe_callB call_isi rfl B.isinstance (by decide +kernel) (pa_cons (pv 0) (pa_cons (pe_bltn (v := .ty "list") rfl B.list (by decide +kernel) rfl) pa_nil))))) (pss_one ps_no) pss_nil) <|
    pss_cons (L2H.ps_forH (passes_of rfl) hot (L2H.pi_listH (pv 0)) (pg_name (i := 3) nd rfl (Or.inl rfl)) (pss_one (ps_set (i := 1) nd rfl (Or.inl rfl) (pe_dhx D1 hr hot (L2.takes_of rfl rfl rfl rfl) (pa_cons (pv 3) (pa_cons (pv 1) (pa_cons (pv 2) pa_nil))))))) <|
    pss_one (ps_ret (pv 1)), ?_⟩
  refine ⟨_, rfl, _, _, _, _, true, rfl, .ty _, ty_list hl, kit_ty (by decide +kernel), _, rfl, iteF ?_⟩
  refine ⟨_, rfl, l, rfl, ⟨_, hl⟩, for_list (K := K) (a := l) (xs := us) (fun i σ H' => ∃ (mi : Nat) (v3 : Option V), σ = [some (.ref l), some (.int (mi : Int)), some (.int (d : Int)), v3] ∧ Tq T T H H' ∧ lookss rs d m = lookss (rs.drop i) d mi ∧ mi + tots (rs.drop i) ≤ 100000)
    ⟨m, none, rfl, Tq.refl hT, rfl, hm⟩ (fun i σ H' _ ⟨_, _, _, t, _⟩ => t.kp.sqL hl) ?_ ?_⟩
  · rintro i v σ H1 hi ⟨mi, v3, rfl, t1, ek, em⟩
    obtain ⟨r, hri, hrow⟩ := hA.at hi
    have hrv := viss_at hv hri
    rw [drop_one hri] at ek em
    have em' : mi + (r.tot + tots (rs.drop (i + 1))) ≤ 100000 := em
    have ek' : lookss rs d m = if (r.looks d mi).1 = true then r.looks d mi else lookss (rs.drop (i + 1)) d (r.looks d mi).2 := ek
    have hdr := dep_at hri
    have hle := Row.looks_le r d mi
    refine ⟨_, rfl, _, rfl, _, rfl, v, r, ss, d, mi, rfl, RowAt.mono t1.kp r v hrow, hrv, hg, hd20, by omega, by omega, t1.tz, fun e H2 t2 => ?_, fun e H2 cls dd t2 r2 => ?_⟩
    · rw [e, if_neg (by decide)] at ek'
      exact ⟨(r.looks d mi).2, _, rfl, t1.trans t2, ek', by omega⟩
    · rw [if_pos e] at ek'
      refine k.2 (by rw [ek']; exact e) H2 cls dd (t1.trans t2) ?_
      rw [ek']
      exact r2
  · rintro σ H1 ⟨mi, v3, rfl, t1, ek, em⟩
    rw [hA.len, List.drop_length] at ek
    have ek' : lookss rs d m = (false, mi) := ek
    rw [ek'] at k
    exact ⟨_, rfl, k.1 rfl H1 t1⟩
theorem ok_chk3H {n j : Nat} (F : Fun K "checked" "checked" s_checked f fd) (D : Dh P w K mg base (L2.CX P w) "look_at_rows" j f1 d1 ["rows", "looked", "depth"] (spRows3 K T TD n)) : L2H.FnH P w K mg base (L2.CX P w) (j + 1) f fd ["rows"] (spChk3 K T TD n) := by
  refine okH F sc_checked (fun vs H Q E h => ?_) (fun A outer s H vs Q E p hot hr h => ?_)
  · obtain ⟨l, rs, ss, rfl, _⟩ := h
    rfl
  obtain ⟨l, rs, ss, rfl, hR, hv, hg, hm, hn, hT, k⟩ := h
  refine ⟨_, pss_one (ps_ret (pe_dhx D hr hot (L2.takes_of rfl rfl rfl rfl) (pa_cons (pv 0) (pa_cons pe_int (pa_cons pe_int pa_nil))))), ?_⟩
  exact ⟨_, rfl, l, rs, ss, 0, 0, rfl, hR, hv, hg, by decide, by omega, hn, hT, k⟩
end
end Lm
namespace Lm
open PySem PySem.Spec PyProof.Rows L2 GxR
abbrev s_looked : Stmt := topS 38
abbrev s_refused : Stmt := topS 39
def spLooked (K : PySem.W.Frag) (n : Nat) : Sp := fun vs H Q _ => ∃ (l : Addr) (rs : List Row) (d m : Nat), vs = [.ref l, .int (d : Int), .int (m : Int)] ∧ RowsAt K H l rs ∧ deps rs < n ∧ ∀ (H' : Hp) (q : Addr), Same H H' → H' q = some (.lst [.bl (lookss rs d m).1, .int ((lookss rs d m).2 : Int)]) → Q (.ref q) H'
/-- what an except clause and isinstance find of the error -/
structure Rx3 (K : PySem.W.Frag) (mg : Str → Option Value) (TD LE BL R1 R2 R3 : Addr) : Prop where
  gL : mg "LoopError" = some (.ref LE)
  gB : mg "BadLine" = some (.ref BL)
  g1 : mg "BadRow" = some (.ref R1)
  g2 : mg "BadName" = some (.ref R2)
  g3 : mg "BadNumber" = some (.ref R3)
  gV : mg "ValueError" = none
  exm : PySem.W.exmOne K (.ref TD) (.ref LE) = some true
  exT : PySem.W.exmOne K (.ref TD) (.ref TD) = some true
  exc : ExcC K TD
  k1 : PySem.W.kitOne K (.ref TD) (.ref R1) = some false
  k2 : PySem.W.kitOne K (.ref TD) (.ref R2) = some false
  k3 : PySem.W.kitOne K (.ref TD) (.ref R3) = some false
  kB : PySem.W.kitOne K (.ref TD) (.ref BL) = some false
  kV : PySem.W.kitOne K (.ref TD) (.type "ValueError") = some true
def spRefused (K : PySem.W.Frag) (T : Addr) (n : Nat) : Sp := fun vs H Q _ => ∃ (l : Addr) (rs : List Row) (ss : List Str), vs = [.ref l] ∧ RowsAt K H l rs ∧ viss ss 0 rs ∧ (∀ s ∈ ss, Good s) ∧ tots rs ≤ 100000 ∧ deps rs < n ∧ Tz T T H ∧ (lookss rs 0 0).1 = true ∧ ∀ H', Q (.bl true) H'
section
variable {P : Program} {w : World} {K : PySem.W.Frag} {mg : Str → Option Value} {base : Heap} {f f1 f2 T TD LE BL R1 R2 R3 : Addr} {fd d1 d2 : FuncData}
theorem sc_looked : FnScope ["_law_rows", "_law_deep", "_law_many", "_law_row", "_law_found"] ["_law_rows", "_law_deep", "_law_many"] (defScope s_looked) := ⟨rfl, rfl, rfl, by decide +kernel, rfl, by decide +kernel, by decide +kernel⟩
theorem ok_looked {n : Nat} (F : Fun K "_law_looked" "_law_looked" s_looked f fd) (ml : mg "len" = none) (G : Df P w K mg base "_law_looked" n f fd ["_law_rows", "_law_deep", "_law_many"] (spLooked K n)) : FnOk P w K mg base CX0 (n + 1) f fd ["_law_rows", "_law_deep", "_law_many"] (spLooked K (n + 1)) := by
  refine F.ok sc_looked (fun vs H Q E h => ?_) (fun cdv A outer s H vs Q E hr h => ?_)
  · obtain ⟨l, rs, d, m, rfl, _⟩ := h
    rfl
  obtain ⟨l, rs, d, m, rfl, ⟨us, hl, hA⟩, hn, k⟩ := h
  have nd := sc_looked.nd
  refine ⟨_, pss_cons (ps_for PassesOwn.never rfl (pi_list (pv 0)) (pg_name (i := 3) nd rfl (Or.inl rfl))
      (pss_one (ps_if (pt_cmpR op_ne (pe_callB call_len_seq rfl ml PySem.boot_len (pa_cons (pv 3) pa_nil)) pe_int (nomark _)) (pss_one (ps_set (i := 2) nd rfl (Or.inl rfl) (pe_op op_add (pv 2) pe_int)))
        (pss_one (ps_if (pt_cmpR op_eq (pv 1) pe_int (nomark _)) (pss_one (ps_ret (pe_lst (pa_cons pe_bl (pa_cons (pv 2) pa_nil)))))
          (pss_cons (ps_set (i := 4) nd rfl (Or.inl rfl) (pe_df G hr (pa_cons (pe_ix ix_tup (pv 3) pe_int (fun _ _ => rfl)) (pa_cons (pe_op op_add (pv 1) pe_int) (pa_cons (pe_op op_add (pv 2) pe_int) pa_nil))))) <|
           pss_cons (ps_if (pt_val (pe_ix ix_list (pv 4) pe_int (fun _ _ => rfl))) (pss_one (ps_ret (pv 4))) pss_nil) <|
           pss_one (ps_set (i := 2) nd rfl (Or.inl rfl) (pe_ix ix_list (pv 4) pe_int (fun _ _ => rfl))))))))) <|
    pss_one (ps_ret (pe_lst (pa_cons pe_bl (pa_cons (pv 2) pa_nil)))), ?_⟩
  refine ⟨_, rfl, l, rfl, ⟨_, hl⟩, for_list (K := K) (a := l) (xs := us) (fun i σ H' => ∃ (mi : Nat) (v3 v4 : Option V), σ = [some (.ref l), some (.int (d : Int)), some (.int (mi : Int)), v3, v4] ∧ Same H H' ∧ lookss rs d m = lookss (rs.drop i) d mi)
    ⟨m, none, none, rfl, Same.refl H, rfl⟩ (fun i σ H' _ ⟨_, _, _, _, t, _⟩ => t.seq hl) ?_ ?_⟩
  · rintro i v σ H1 hi ⟨mi, v3, v4, rfl, t1, ek⟩
    obtain ⟨r, hri, hrow⟩ := hA.at hi
    have hrow1 := RowAt.mono (Same.kp t1) r v hrow
    rw [drop_one hri] at ek
    have ek' : lookss rs d m = if (r.looks d mi).1 = true then r.looks d mi else lookss (rs.drop (i + 1)) d (r.looks d mi).2 := ek
    have hdr := dep_at hri
    match r, hrow1, ek', hdr with
    | .lt to sg a b, ⟨q, e, hq⟩, ek', hdr =>
      subst e
      refine ⟨_, rfl, q, _, rfl, .inr hq, rfl, _, rfl, ifT (by show (!decide (V.int ((5 : Nat) : Int) = V.int 3)) = true; decide) ?_⟩
      exact ⟨_, rfl, _, _, rfl, rfl, mi + 1, _, _, rfl, t1, by rw [ek']; exact if_neg (by show ¬ false = true; decide)⟩
    | .sy a, ⟨q, e, hq⟩, ek', hdr =>
      subst e
      refine ⟨_, rfl, q, _, rfl, .inr hq, rfl, _, rfl, ifT (by show (!decide (V.int ((2 : Nat) : Int) = V.int 3)) = true; decide) ?_⟩
      exact ⟨_, rfl, _, _, rfl, rfl, mi + 1, _, _, rfl, t1, by rw [ek']; exact if_neg (by show ¬ false = true; decide)⟩
    | .bk kd ts qs, ⟨q, l2, ws, e, hq, hl2, hA2⟩, ek', hdr =>
      subst e
      have eb : (Row.bk kd ts qs).looks d mi = if d = 20 then (true, mi) else lookss qs (d + 1) (mi + 1) := rfl
      rw [eb] at ek'
      have hdr' : deps qs + 1 ≤ deps rs := hdr
      refine ⟨_, rfl, q, _, rfl, .inr hq, rfl, _, rfl, ifF (by show (!decide (V.int ((3 : Nat) : Int) = V.int 3)) = false; decide) ?_⟩
      refine ⟨_, rfl, rfl, _, rfl, ?_⟩
      by_cases c : d = 20
      · rw [if_pos c] at ek'
        have ek2 : lookss rs d m = (true, mi) := ek'
        refine ifT (decide_eq_true (by rw [c]; rfl)) ⟨_, rfl, (by show 2 ≤ sizeLine; decide), fun p hp => k _ p (t1.trans (same_new hp _)) ?_⟩
        rw [upd_same, ek2]
      · rw [if_neg c] at ek'
        refine ifF (decide_eq_false fun z => c (by have := V.int.inj z; omega)) ?_
        refine ⟨_, rfl, q, _, _, _, rfl, rfl, hq, atI_nat (j := 2) rfl, _, rfl, _, _, rfl, rfl, _, rfl, _, _, rfl, rfl, l2, qs, d + 1, mi + 1, rfl, ⟨ws, hl2, hA2⟩, by omega, fun H2 p t2 ep => ?_⟩
        refine ⟨_, rfl, p, _, _, _, rfl, rfl, SqL.of ep, atI_nat (j := 0) rfl, _, rfl, ?_⟩
        refine ite2 (fun c2 => ?_) (fun c2 => ?_)
        · have c2' : (lookss qs (d + 1) (mi + 1)).1 = true := c2
          rw [if_pos c2'] at ek'
          exact ⟨_, rfl, k H2 p (t1.trans t2) (by rw [ek']; exact ep)⟩
        · have c2' : ¬ (lookss qs (d + 1) (mi + 1)).1 = true := c2
          rw [if_neg c2'] at ek'
          exact ⟨_, rfl, p, _, _, _, rfl, rfl, SqL.of ep, atI_nat (j := 1) rfl, _, _, _, rfl, t1.trans t2, ek'⟩
  · rintro σ H1 ⟨mi, v3, v4, rfl, t1, ek⟩
    rw [hA.len, List.drop_length] at ek
    have ek' : lookss rs d m = (false, mi) := ek
    exact ⟨_, rfl, (by show 2 ≤ sizeLine; decide), fun p hp => k _ p (t1.trans (same_new hp _)) (by rw [upd_same, ek'])⟩
theorem all_looked (F : Fun K "_law_looked" "_law_looked" s_looked f fd) (m : mg "_law_looked" = some (.ref f)) (b : Binds K fd ["_law_rows", "_law_deep", "_law_many"] []) (ml : mg "len" = none) : ∀ n, FnOk P w K mg base CX0 n f fd ["_law_rows", "_law_deep", "_law_many"] (spLooked K n)
  | 0 => none_left fun vs H Q E ⟨l, rs, d, m, _, _, h, _⟩ => absurd h (Nat.not_lt_zero _)
  | n + 1 => ok_looked F ml ⟨all_looked F m b ml n, m, F.kp, b⟩
theorem sc_refused : FnScope ["_law_rows", "e", "_law_others"] ["_law_rows"] (defScope s_refused) := ⟨rfl, rfl, rfl, by decide +kernel, rfl, by decide +kernel, by decide +kernel⟩
theorem ok_refusedH {n j : Nat} (F : Fun K "_law_refused_by_any" "_law_refused_by_any" s_refused f fd) (B : Bn mg) (X : Rx3 K mg TD LE BL R1 R2 R3) (D : Dh P w K mg base (L2.CX P w) "checked" j f1 d1 ["rows"] (spChk3 K T TD n)) : L2H.FnH P w K mg base CX0 (j + 1) f fd ["_law_rows"] (spRefused K T n) := by
  refine okH F sc_refused (fun vs H Q E h => ?_) (fun A outer s H vs Q E p hot hr h => ?_)
  · obtain ⟨l, rs, ss, rfl, _⟩ := h
    rfl
  obtain ⟨l, rs, ss, rfl, hR, hv, hg, hm, hn, hT, hk, k⟩ := h
  have nd := sc_refused.nd
  refine ⟨_, pss_cons (L2H.ps_try_asH (i := 1) rfl rfl nd rfl rfl ⟨rfl, by decide, .inl X.gL⟩ takes0 (fun W pn xe sub tk _ => pss_one (ps_expr (pe_dhx D hr (let ⟨p, h1, h2⟩ := hot; ⟨p, h1, sub p h2⟩) tk (pa_cons (pv 0) pa_nil))))
      (fun a oe cls d pn hz hf => pss_cons (ps_set (i := 2) nd rfl (Or.inl rfl) (pe_or (pe_callB (call_isA hz hf) rfl B.isinstance (by decide +kernel) (pa_cons (pv 1) (pa_cons (pe_glob (v := .ref R1) rfl X.g1 rfl) pa_nil)))
          (pe_or (pe_callB (call_isA hz hf) rfl B.isinstance (by decide +kernel) (pa_cons (pv 1) (pa_cons (pe_glob (v := .ref R2) rfl X.g2 rfl) pa_nil)))
            (pe_one (pe_callB (call_isA hz hf) rfl B.isinstance (by decide +kernel) (pa_cons (pv 1) (pa_cons (pe_glob (v := .ref R3) rfl X.g3 rfl) pa_nil))))))) <|
        pss_one (ps_ret (pe_and (pe_callB (call_isA hz hf) rfl B.isinstance (by decide +kernel) (pa_cons (pv 1) (pa_cons (pe_bltn (v := .ty "ValueError") rfl X.gV (by decide +kernel) rfl) pa_nil)))
          (pe_and (pe_not (pv 2)) (pe_one (pe_not (pe_callB (call_isA hz hf) rfl B.isinstance (by decide +kernel) (pa_cons (pv 1) (pa_cons (pe_glob (v := .ref BL) rfl X.gB rfl) pa_nil)))))))))) <|
    pss_one (ps_ret pe_bl), ?_⟩
  refine ⟨_, rfl, l, rs, ss, rfl, hR, hv, hg, hm, hn, hT, fun e => absurd (hk.symm.trans e) (by decide), fun e H' cls d t ⟨ecls, dd, ed, eH⟩ => ?_⟩
  subst ecls
  subst ed
  refine ⟨true, X.exm, fun _ a ha => ?_, fun q => nomatch q⟩
  have ex : ∀ d', some dd = some d' → ∃ fs, H' d' = some (.xd fs) := fun d' q => by
    cases q
    exact ⟨_, eH⟩
  refine ⟨_, rfl, TD, _, _, _, rfl, rfl, X.exc, ex, fun _ r => r, X.k1, _, rfl, iteF ?_⟩
  refine ⟨_, rfl, TD, _, _, _, rfl, rfl, X.exc, ex, fun _ r => r, X.k2, _, rfl, iteF ?_⟩
  refine ⟨_, rfl, TD, _, _, _, rfl, rfl, X.exc, ex, fun _ r => r, X.k3, ?_⟩
  refine ⟨_, rfl, TD, _, _, _, rfl, rfl, X.exc, ex, fun _ r => r, X.kV, _, rfl, iteT ?_⟩
  exact ⟨_, rfl, _, rfl, _, rfl, iteT ⟨_, rfl, TD, _, _, _, rfl, rfl, X.exc, ex, fun _ r => r, X.kB, _, rfl, k H'⟩⟩
end
end Lm
namespace Lm
open PySem PySem.Spec PyProof.Rows L2 GxR
abbrev s_law : Stmt := topS 40
def spLaw (K : PySem.W.Frag) (T : Addr) : Sp := fun vs H Q _ => ∃ (a : Addr) (ns : List Int), vs = [.ref a] ∧ SqL K H a (ns.map V.int) ∧ ns.length ≤ 63 ∧ TabG H T ∧ ∀ H', Q (.bl true) H'
theorem cutI (ns : List Int) (lo hi : Option Int) : ∃ ms : List Int, cutV (ns.map V.int) lo hi = ms.map V.int ∧ ms.length ≤ ns.length := by
  refine ⟨(ns.drop (HT.sIx ns.length 0 lo)).take (HT.sIx ns.length ns.length hi - HT.sIx ns.length 0 lo), ?_, ?_⟩
  · unfold cutV
    rw [List.length_map, List.map_take, List.map_drop]
    all_goals rfl
  · rw [List.length_take, List.length_drop]
    omega
def says (n : Nat) : List Row := (List.range n).map fun (k : Nat) => Row.sy (.nu (0 + (k : Int)))
theorem says_next (n : Nat) : says (n + 1) = says n ++ [Row.sy (.nu (0 + (n : Int)))] := by
  unfold says
  rw [List.range_succ, List.map_append]
  rfl
theorem says_ok {ss : List Str} : ∀ n : Nat, n ≤ 300 → oks ss (says n) ∧ deps (says n) = 0 ∧ tots (says n) = n
  | 0, _ => ⟨True.intro, rfl, rfl⟩
  | n + 1, h => by
    obtain ⟨h1, h2, h3⟩ := says_ok (ss := ss) n (by omega)
    rw [says_next]
    refine ⟨oks_app h1 ⟨⟨by omega, by omega⟩, True.intro⟩, ?_, ?_⟩
    · rw [deps_app, h2]
      rfl
    · rw [tots_app, h3]
      rfl
theorem Wrap.vis {ss : List Str} {rs qs : List Row} {n : Nat} (h : Wrap ss rs n qs) (hl : rs.length ≤ 2000) : ∀ d : Nat, viss ss (d + n) rs → viss ss d qs := by
  induction h with
  | base => exact fun d h => h
  | @next n qs kd te h1 h2 h3 ih => exact fun d h => ⟨⟨h2, h1.len hl, fun _ => ⟨⟨te, rfl, h3⟩, ih (d + 1) (by rw [show d + 1 + n = d + (n + 1) from by omega]; exact h)⟩⟩, True.intro⟩
mutual
theorem Row.vis_ok {ss : List Str} : ∀ (r : Row) (d m : Nat), r.vis ss d → (r.looks d m).1 = false → r.ok ss
  | .lt _ _ _ _, _, _, h, _ => h
  | .sy _, _, _, h, _ => h
  | .bk kd ts rs, d, m, ⟨h1, h2, h3⟩, e => by
    have e' : (if d = 20 then (true, m) else lookss rs (d + 1) (m + 1)).1 = false := e
    by_cases c : d = 20
    · rw [if_pos c] at e'
      cases e'
    · rw [if_neg c] at e'
      exact ⟨h1, (h3 c).1, h2, viss_ok rs (d + 1) (m + 1) (h3 c).2 e'⟩
theorem viss_ok {ss : List Str} : ∀ (rs : List Row) (d m : Nat), viss ss d rs → (lookss rs d m).1 = false → oks ss rs
  | [], _, _, _, _ => True.intro
  | r :: rs, d, m, ⟨h1, h2⟩, e => by
    have e' : (if (r.looks d m).1 = true then r.looks d m else lookss rs d (r.looks d m).2).1 = false := e
    by_cases c : (r.looks d m).1 = true
    · rw [if_pos c] at e'
      rw [e'] at c
      cases c
    · rw [if_neg c] at e'
      exact ⟨Row.vis_ok r d m h1 (Bool.eq_false_iff.mpr c), viss_ok rs d _ h2 e'⟩
end
theorem takesN {X : Cx} : L2N.Takes X (fun _ _ _ _ => False) := fun _ _ x => by
  obtain ⟨_, _, _, _, _, _, _, _, _, _, _, _, _, _, _, _, z⟩ := x
  exact z.elim
theorem odd_at (nm : Str) (z : Int) : ∃ ts : V, atI ([.str nm, .str "", .int 5, .non] : List V) (z % 4) = some ts := by
  have h0 : 0 ≤ z % 4 := Int.emod_nonneg _ (by decide)
  have h1 : z % 4 < 4 := Int.emod_lt_of_pos _ (by decide)
  obtain ⟨j, ej⟩ : ∃ j : Nat, z % 4 = (j : Int) := ⟨(z % 4).toNat, by omega⟩
  rw [ej]
  match j, (by omega : j < 4) with
  | 0, _ => exact ⟨_, atI_nat rfl⟩
  | 1, _ => exact ⟨_, atI_nat rfl⟩
  | 2, _ => exact ⟨_, atI_nat rfl⟩
  | 3, _ => exact ⟨_, atI_nat rfl⟩
  | j + 4, h => exact absurd h (by omega)
/-- rows as they are made -/
structure Mw (K : PySem.W.Frag) (H H' : Hp) (ss : List Str) (l : Addr) (rs : List Row) (dp : Nat) (m t : Nat) : Prop where
  s : Same H H'
  at_ : RowsL K H' l rs
  vis : viss ss dp rs
  thin : thins rs
  dep : deps rs ≤ m
  tot : tots rs ≤ t
section
variable {P : Program} {w : World} {K : PySem.W.Frag} {mg : Str → Option Value} {base : Heap} {f a1 a2 a3 a4 a5 a6 a7 a8 a9 T TD fI : Addr} {fd d1 d2 d3 d4 d5 d6 d7 d8 d9 : FuncData}
theorem ok_wholeH (F : Fun K "_law_whole" "_law_whole" s_whole f fd) (B : Bn mg) : L2H.FnH P w K mg base CX0 1 f fd ["_law_found"] spWhole := by
  refine okH F sc_whole (fun vs H Q E h => ?_) (fun A outer s H vs Q E p hot hr h => ?_)
  · obtain ⟨i, rfl, _⟩ := h
    rfl
  obtain ⟨i, rfl, k⟩ := h
  refine ⟨_, pss_one (ps_ret (pe_and (pe_callB call_isi rfl B.isinstance (by decide +kernel) (pa_cons (pv 0) (pa_cons (pe_bltn (v := .ty "int") rfl B.int (by decide +kernel) rfl) pa_nil)))
    (pe_one (pe_not (pe_callB call_isi rfl B.isinstance (by decide +kernel) (pa_cons (pv 0) (pa_cons (pe_bltn (v := .ty "bool") rfl B.bool (by decide +kernel) rfl) pa_nil))))))), ?_⟩
  exact ⟨_, rfl, _, _, _, _, true, rfl, .ty _, ty_int _, kit_ty (by decide +kernel), _, rfl, iteT ⟨_, rfl, _, _, _, _, false, rfl, .ty _, ty_int _, kit_ty (by decide +kernel), _, rfl, k⟩⟩
abbrev nLaw : List Str := ["_law_script", "_law_names_here", "_law_more", "_law_count", "_law_inner", "_law_rows", "_law_k", "_law_due", "_law_handed", "_law_found", "e"]
theorem sc_law : FnScope nLaw ["_law_script"] (defScope s_law) := ⟨rfl, rfl, rfl, by decide +kernel, rfl, by decide +kernel, by decide +kernel⟩
theorem ok_law {b1 : Addr} {e1 : FuncData} (F : Fun K "law" "law" s_law f fd) (B : Bn mg) (gT : mg "TooDeep" = some (.ref TD)) (TT : DeepX.DeepTxt P K mg "TooDeep" "the block at " " lies too deep" TD fI) (xT : PySem.W.exmOne K (.ref TD) (.ref TD) = some true)
    (D1 : Df P w K mg base "_law_cell_at" 1 a1 d1 ["_law_script", "_law_k"] (spCell K)) (D2 : Df P w K mg base "_law_names" 1 a2 d2 ["_law_cell"] spNames) (D3 : Df P w K mg base "_law_program" 3 a3 d3 ["_law_cells", "_law_names_here"] (spProgram K))
    (D4 : Df P w K mg base "_law_nested" 2 a4 d4 ["_law_rows", "_law_count", "_law_names_here", "_law_cell"] (spNested K)) (D5 : Df P w K mg base "_law_looked" 50 a5 d5 ["_law_rows", "_law_deep", "_law_many"] (spLooked K 50)) (D6 : Df P w K mg base "_law_copied" 50 a6 d6 ["_law_rows"] (spCopied K 50))
    (D7 : Df P w K mg base "_law_alike" 101 a7 d7 ["_law_found", "_law_due"] (spAlike K 100)) (D8 : Dn P w K mg base "checked" 66 a8 d8 ["rows"] (spChk3 K T TD 30)) (D9 : Dh P w K mg base CX0 "_law_whole" 1 a9 d9 ["_law_found"] spWhole) (E1 : Dh P w K mg base CX0 "_law_refused_by_any" 67 b1 e1 ["_law_rows"] (spRefused K T 30)) :
    FnOk P w K mg base CX0 102 f fd ["_law_script"] (spLaw K T) := by
  refine F.ok sc_law (fun vs H Q E h => ?_) (fun cdv A outer s H vs Q E hr h => ?_)
  · obtain ⟨a, ns, rfl, _⟩ := h
    rfl
  obtain ⟨a, ns, rfl, hS, h63, hT, k⟩ := h
  have nd := sc_law.nd
  have r1 : Room 1 _ := hr.mono (by decide)
  have r2 : Room 2 _ := hr.mono (by decide)
  have r3 : Room 3 _ := hr.mono (by decide)
  have r50 : Room 50 _ := hr.mono (by decide)
  have r66 : Room 66 _ := hr.mono (by decide)
  have r67 : Room 67 _ := hr.mono (by decide)
  refine ⟨_, pss_cons (ps_set (i := 1) nd rfl (Or.inr rfl) (pe_df D2 r1 (pa_cons (pe_df D1 r1 (pa_cons (pv 0) (pa_cons pe_int pa_nil))) pa_nil))) <|
    pss_cons (ps_set (i := 2) nd rfl (Or.inl rfl) (pe_df D1 r1 (pa_cons (pv 0) (pa_cons pe_int pa_nil)))) <|
    pss_cons (ps_set (i := 3) nd rfl (Or.inl rfl) (pe_op op_mul (pe_op op_fdiv (pe_op op_mod (pv 2) pe_int) pe_int) (pe_op op_add pe_int (pe_op op_mod (pe_op op_fdiv (pv 2) pe_int) pe_int)))) <|
    pss_cons (ps_set (i := 4) nd rfl (Or.inl rfl) (pe_df D3 r3 (pa_cons (pe_slice sl_list (pv 0) (po_some pe_int) po_none) (pa_cons (pv 1) pa_nil)))) <|
    C8.pss_cut (ps_if (pt_cmpR op_eq (pv 3) pe_int (nomark _))
      (pss_cons (ps_set (i := 4) nd rfl (Or.inl rfl) (pe_lst (pa_cons (pe_tup (pa_cons pe_str (pa_cons (pe_ix ix_list (pe_lst (pa_cons (pe_ix ix_list (pv 1) pe_int (fun _ _ => rfl)) (pa_cons pe_str (pa_cons pe_int (pa_cons pe_non pa_nil))))) (pe_op op_mod (pe_op op_fdiv (pv 2) pe_int) pe_int) (fun _ _ => rfl)) (pa_cons (pv 4) pa_nil)))) pa_nil))) <|
       pss_one (ps_set (i := 3) nd rfl (Or.inl rfl) pe_int)) pss_nil) <|
    pss_cons (ps_setLc (i := 5) (own := [("_law_k", 6)]) (g := gName 6) rfl nd rfl rfl (sw_true rfl rfl (by rfl) (by decide +kernel)) (pi_range1 rfl B.range (pa_cons (pe_op op_mod (pe_op op_fdiv (pv 2) pe_int) pe_int) pa_nil)) (blkOk_by (N := nLaw) (sc := defScope s_law) (by decide +kernel))
          (fun _ _ _ _ _ => pg_name (i := 6) nd rfl (Or.inl rfl)) (fun _ _ _ _ _ => pts_nil)
          (fun _ _ _ _ _ => pe_tup (pa_cons pe_str (pa_cons (pe_ix (r := rIxL K) (show IxR _ (rIxL K) from ix_list) (pv 1) (pv 6) (fun _ _ => rfl)) pa_nil)))) <|
    pss_cons (ps_set (i := 5) nd rfl (Or.inl rfl) (pe_op op_cat (pv 5) (pe_df D4 r2 (pa_cons (pv 4) (pa_cons (pv 3) (pa_cons (pv 1) (pa_cons (pv 2) pa_nil))))))) <|
    C8.pss_cut (ps_if (pt_cmpR op_eq (pe_op op_mod (pe_df D1 r1 (pa_cons (pv 0) (pa_cons pe_int pa_nil))) pe_int) pe_int (nomark _))
      (pss_one (ps_set (i := 5) nd rfl (Or.inl rfl) (pe_op op_cat (pv 5) (pe_lc (own := [("_law_k", 6)]) (g := gName 6) rfl nd (pi_range1 rfl B.range (pa_cons (pe_op op_add pe_int (pe_op op_mod (pe_op op_fdiv (pe_df D1 r1 (pa_cons (pv 0) (pa_cons pe_int pa_nil))) pe_int) pe_int)) pa_nil)) (blkOk_by (N := nLaw) (sc := defScope s_law) (by decide +kernel))
        (fun _ _ _ _ _ => pg_name (i := 6) nd rfl (Or.inl rfl)) (fun _ _ _ _ _ => pts_nil) (fun _ _ _ _ _ => pe_tup (pa_cons pe_str (pa_cons (pv 6) pa_nil))))))) pss_nil) <|
    pss_cons (ps_set (i := 7) nd rfl (Or.inl rfl) (pe_df D5 r50 (pa_cons (pv 5) (pa_cons pe_int (pa_cons pe_int pa_nil))))) <|
    pss_cons (ps_set (i := 8) nd rfl (Or.inl rfl) (pe_df D6 r50 (pa_cons (pv 5) pa_nil))) <|
    pss_cons (ps_set (i := 9) nd rfl (Or.inl rfl) (pe_un un_neg pe_int)) <|
    pss_cons (L2N.ps_try_as (i := 10) rfl rfl nd rfl rfl ⟨rfl, by decide, .inl gT⟩ takesN (fun W pn xe tk _ => pss_one (ps_set (i := 9) nd rfl (Or.inl rfl) (pe_dn D8 r66 tk (pa_cons (pv 8) pa_nil))))
      (fun a oe cls d pn hz hf => pss_one (ps_ret (pe_and (pe_ix (r := rIxL K) (show IxR _ (rIxL K) from ix_list) (pv 7) pe_int (fun _ _ => rfl))
        (pe_and (pe_dh D9 ⟨r1.dp, r1.un⟩ ⟨(a, oe), ⟨rfl, let ⟨vs, hv⟩ := hf; ⟨vs, hv, hz.2.2 vs hv⟩⟩, List.mem_cons_self⟩ (pa_cons (pe_byDeep TT hz.zc hf (pv 10)) pa_nil))
        (pe_and (pe_cmpR op_eq (pe_byDeep TT hz.zc hf (pv 10)) (pe_ix (r := rIxL K) (show IxR _ (rIxL K) from ix_list) (pv 7) pe_int (fun _ _ => rfl)) (nomark _))
          (pe_one (pe_dh E1 ⟨r67.dp, r67.un⟩ ⟨(a, oe), ⟨rfl, let ⟨vs, hv⟩ := hf; ⟨vs, hv, hz.2.2 vs hv⟩⟩, List.mem_cons_self⟩ (pa_cons (pv 5) pa_nil))))))))) <|
    pss_one (ps_ret (pe_and (pe_not (pe_ix ix_list (pv 7) pe_int (fun _ _ => rfl))) (pe_and (pe_df D7 hr (pa_cons (pv 9) (pa_cons (pe_ix ix_list (pv 7) pe_int (fun _ _ => rfl)) pa_nil))) (pe_one (pe_df D7 hr (pa_cons (pv 8) (pa_cons (pv 5) pa_nil))))))), ?_⟩
  refine ⟨_, rfl, a, ns, 0, rfl, hS, by decide, fun cell => ⟨cell, rfl, fun ln ss H1 s1 fln eln len1 hgood => ?_⟩⟩
  have hN1 : NamesAt K H1 ln ss := ⟨SqL.of eln, len1⟩
  refine ⟨_, rfl, a, ns, 1, rfl, s1.seq hS, by decide, fun more => ?_⟩
  have hm0 : 0 ≤ more % 3 / 2 := by omega
  have hm1 : more % 3 / 2 ≤ 1 := by omega
  have hm2 : 0 ≤ more / 3 % 21 := Int.emod_nonneg _ (by decide)
  have hm3 : more / 3 % 21 < 21 := Int.emod_lt_of_pos _ (by decide)
  have hc : 0 ≤ more % 3 / 2 * (1 + more / 3 % 21) ∧ more % 3 / 2 * (1 + more / 3 % 21) ≤ 21 := by
    refine ⟨Int.mul_nonneg hm0 (by omega), ?_⟩
    rcases (by omega : more % 3 / 2 = 0 ∨ more % 3 / 2 = 1) with e | e
    · rw [e, Int.zero_mul]; decide
    · rw [e, Int.one_mul]; omega
  refine ⟨_, rfl, _, _, rfl, rfl, (by show (0 : Int) < 3; decide), _, _, rfl, rfl, ⟨by decide, by decide⟩, _, rfl, _, _, rfl, rfl, ⟨by decide, by decide⟩, _, _, rfl, rfl, (by show (0 : Int) < 21; decide), _, _, rfl, rfl, _, _, rfl, rfl, .inl ⟨by omega, by omega⟩, ?_⟩
  obtain ⟨ms, ems, hms⟩ := cutI ns (some 2) none
  refine ⟨_, rfl, _, rfl, a, _, rfl, s1.seq hS, fun q2 hq2 => ?_⟩
  rw [ems]
  obtain ⟨H2, g2, s2, e2⟩ := newH hq2 (.lst (ms.map V.int))
  rw [g2]
  have hN2 := hN1.mono (Same.kp s2)
  refine ⟨_, rfl, q2, ln, ms, ss, rfl, SqL.of e2, Nat.le_trans hms h63, hN2, fun H3 l rs3 s3 fl3 hR3 ok3 dep3 tot3 => ?_⟩
  refine ⟨fun σ H' => ∃ (c : Int) (l : Addr) (rs : List Row), σ = [some (.ref a), some (.ref ln), some (.int more), some (.int c), some (.ref l), none, none, none, none, none, none] ∧ 0 ≤ c ∧ c ≤ 21 ∧ Mw K H2 H' ss l rs c.toNat 4 141, ?_, ?_⟩
  · refine ⟨_, rfl, rfl, _, rfl, ?_⟩
    refine ite2 (fun c => ?_) (fun c => ⟨_, l, rs3, rfl, hc.1, hc.2, ⟨s3, hR3, oks_viss rs3 _ ok3, oks_thins _ ok3, by omega, by omega⟩⟩)
    have hN3 := hN2.mono (Same.kp s3)
    obtain ⟨nm, hnm, enm⟩ := hN3.at (z := 0) (by decide) (by decide)
    obtain ⟨ts, ets⟩ := odd_at nm (more / 63)
    refine ⟨_, rfl, ln, _, _, _, rfl, rfl, hN3.1, enm, (by show 4 ≤ sizeLine; decide), fun q hq => ?_⟩
    obtain ⟨H4, g4, s4, e4⟩ := newH hq (.lst [.str nm, .str "", .int 5, .non])
    rw [g4]
    refine ⟨_, rfl, _, _, rfl, rfl, ⟨by decide, by decide⟩, _, _, rfl, rfl, (by show (0 : Int) < 4; decide), q, _, _, ts, rfl, rfl, SqL.of e4, ets, _, rfl, (by show 3 ≤ sizeLine; decide), fun p hp => ⟨(by show 1 ≤ sizeLine; decide), fun l2 hl2 => ?_⟩⟩
    have s5 := same_new hp (.tup [.str "loop", ts, .ref l])
    have s6 := same_new hl2 (.lst [.ref p])
    have len3 := len_tots rs3
    obtain ⟨us3, el3, A3⟩ := hR3.mono (Same.kp (s4.trans (s5.trans s6)))
    exact ⟨20, l2, [.bk "loop" ts rs3], rfl, by decide, by decide, ⟨s3.trans (s4.trans (s5.trans s6)), ⟨_, upd_same, AllAt.one ⟨p, l, us3, rfl, SqT.of (s6 _ _ upd_same), SqL.of el3, A3⟩⟩, ⟨⟨by decide +kernel, by omega, fun z => absurd rfl z⟩, True.intro⟩, ⟨⟨by omega, oks_thins _ ok3⟩, True.intro⟩, by show max (deps rs3 + 1) 0 ≤ 4; omega, by show tots rs3 + 1 + 0 ≤ 141; omega⟩⟩
  rintro σ H4 ⟨c, l4, rs4, rfl, c0, c1, m4⟩
  have hN4 := hN2.mono (Same.kp m4.s)
  have len4 := len_tots rs4
  have m4t := m4.tot
  have m4d := m4.dep
  have y0 : 0 ≤ more / 63 % 4 := Int.emod_nonneg _ (by decide)
  have y1 : more / 63 % 4 < 4 := Int.emod_lt_of_pos _ (by decide)
  refine ⟨_, rfl, _, _, rfl, rfl, ⟨by decide, by decide⟩, _, _, rfl, rfl, (by show (0 : Int) < 4; decide), _, rfl, by omega, by omega, fun D hD => ?_⟩
  refine lc_range (lo := 0) (n := (more / 63 % 4).toNat) (fun j H' => ∃ (ks : List Row) (us : List V) (Hc : L2.Hp), H' D = some (.lst us) ∧ Same H4 Hc ∧ Same Hc H' ∧ Hc D = none ∧ AllAt K Hc ks us ∧ oks ss ks ∧ deps ks = 0 ∧ tots ks = j) ⟨[], [], H4, upd_same, Same.refl _, same_new hD _, hD, rfl, True.intro, rfl, rfl⟩ ?_ ?_
  · rintro j H5 hj ⟨ks, us, Hc, eD, sc, sh, nD, aU, ok, dk, tk⟩
    refine ⟨rfl, yes (iteT ?_)⟩
    have hN5 := hN4.mono (Same.kp (sc.trans sh))
    obtain ⟨nm, hnm, enm⟩ := hN5.at (z := 0 + (j : Int)) (by omega) (by omega)
    refine ⟨_, rfl, _, rfl, ln, _, _, _, rfl, rfl, hN5.1, enm, (by show 2 ≤ sizeLine; decide), fun p hp => ?_⟩
    have pt := Part.new sh hp (.tup [.str "say", .str nm])
    have npD : D ≠ p := ne_of_none eD hp
    have lu := aU.len
    have lk := len_tots ks
    refine ⟨us, by rw [upd_ne npD]; exact eD, by rw [sizeLine_eq]; omega, ks ++ [.sy (.nm nm)], us ++ [.ref p], upd Hc p (.tup [.str "say", .str nm]), upd_same, sc.trans pt.cl, same_put pt.sub (by rw [upd_ne npD]; exact nD) _, by rw [upd_ne npD]; exact nD, (AllAt.mono (Same.kp pt.cl) _ _ aU).app (AllAt.one (r := .sy (.nm nm)) ⟨p, rfl, SqT.of upd_same⟩), oks_app (qs := [.sy (.nm nm)]) ok ⟨hnm, True.intro⟩, by rw [deps_app, dk]; rfl, by rw [tots_app, tk]; rfl⟩
  rintro H5 ⟨ks, us, Hc, eD, sc, sh, nD, aU, ok, dk, tk⟩
  have s45 := sc.trans sh
  have hN5 := hN4.mono (Same.kp s45)
  refine ⟨_, rfl, _, rfl, _, rfl, _, rfl, _, rfl, l4, ln, c, more, ss, rs4, rfl, m4.at_.mono (Same.kp s45), hN5, c0, by omega, fun H6 l6 rs6 s6 hR6 hW => ?_⟩
  obtain ⟨us6, e6, A6⟩ := hR6
  have t6 : tots rs6 = tots rs4 + c.toNat := hW.tots
  have d6 : deps rs6 = deps rs4 + c.toNat := hW.deps
  have v6 : viss ss 0 rs6 := hW.vis (by omega) 0 (by rw [Nat.zero_add]; exact m4.vis)
  have th6 : thins rs6 := hW.thin (by omega) m4.thin
  have lu := aU.len
  have lk := len_tots ks
  have l6' := A6.len
  have lt6 := len_tots rs6
  refine ⟨D, l6, us, us6, rfl, rfl, s6 _ _ eD, e6, by rw [sizeLine_eq]; omega, fun t ht => ?_⟩
  obtain ⟨H7, g7, s7, e7⟩ := newH ht (.lst (us ++ us6))
  rw [g7]
  have hR7 : RowsL K H7 t (ks ++ rs6) := ⟨_, e7, (AllAt.mono (Same.kp (sh.trans (s6.trans s7))) _ _ aU).app (AllAt.mono (Same.kp s7) _ _ A6)⟩
  have t27 : Same H2 H7 := m4.s.trans (s45.trans (s6.trans s7))
  have t17 : Same H H7 := s1.trans (s2.trans t27)
  have m7 : Mw K H2 H7 ss t (ks ++ rs6) 0 25 200 := ⟨t27, hR7, viss_app (oks_viss _ _ ok) v6, thins_app (oks_thins _ ok) th6, by rw [deps_app]; omega, by rw [tots_app]; omega⟩
  refine ⟨fun σ H' => ∃ (t : Addr) (rs : List Row) (vk : Option V), σ = [some (.ref a), some (.ref ln), some (.int more), some (.int c), some (.ref l4), some (.ref t), vk, none, none, none, none] ∧ Mw K H2 H' ss t rs 0 25 500, ?_, ?_⟩
  · refine ⟨_, rfl, a, ns, 0, rfl, t17.seq hS, by decide, fun z => ⟨_, _, rfl, rfl, (by show (0 : Int) < 7; decide), rfl, _, rfl, ?_⟩⟩
    refine ite2 (fun c => ?_) (fun c => ⟨t, _, _, rfl, ⟨m7.s, m7.at_, m7.vis, m7.thin, m7.dep, Nat.le_trans m7.tot (by decide)⟩⟩)
    refine ⟨_, rfl, _, rfl, a, ns, 0, rfl, t17.seq hS, by decide, fun z2 => ?_⟩
    have z0 : 0 ≤ z2 / 7 % 300 := Int.emod_nonneg _ (by decide)
    have z1 : z2 / 7 % 300 < 300 := Int.emod_lt_of_pos _ (by decide)
    refine ⟨_, _, rfl, rfl, ⟨by decide, by decide⟩, _, _, rfl, rfl, (by show (0 : Int) < 300; decide), _, _, rfl, rfl, _, rfl, by omega, by omega, fun D2 hD2 => ?_⟩
    refine lc_range (lo := 0) (n := (1 + z2 / 7 % 300).toNat) (fun i H' => ∃ (us : List V) (Hc : L2.Hp), H' D2 = some (.lst us) ∧ Same H7 Hc ∧ Same Hc H' ∧ Hc D2 = none ∧ AllAt K Hc (says i) us) ⟨[], H7, upd_same, Same.refl _, same_new hD2 _, hD2, rfl⟩ ?_ ?_
    · rintro i H8 hi ⟨us, Hc, eD, sc, sh, nD, aU⟩
      refine ⟨rfl, yes (iteT ?_)⟩
      refine ⟨_, rfl, (by show 2 ≤ sizeLine; decide), fun p hp => ?_⟩
      have pt := Part.new sh hp (.tup [.str "say", .int (0 + (i : Int))])
      have npD : D2 ≠ p := ne_of_none eD hp
      have lu := aU.len
      have ls : (says i).length = i := by unfold says; rw [List.length_map, List.length_range]
      refine ⟨us, by rw [upd_ne npD]; exact eD, by rw [sizeLine_eq]; omega, us ++ [.ref p], upd Hc p (.tup [.str "say", .int (0 + (i : Int))]), upd_same, sc.trans pt.cl, same_put pt.sub (by rw [upd_ne npD]; exact nD) _, by rw [upd_ne npD]; exact nD, ?_⟩
      rw [says_next]
      exact (AllAt.mono (Same.kp pt.cl) _ _ aU).app (AllAt.one ⟨p, rfl, SqT.of upd_same⟩)
    · rintro H8 ⟨us, Hc, eD, sc, sh, nD, aU⟩
      obtain ⟨w1, w2, w3⟩ := says_ok (ss := ss) (1 + z2 / 7 % 300).toNat (by omega)
      have k78 : Same H7 H8 := sc.trans sh
      obtain ⟨us7, e7', A7⟩ := m7.at_
      have m7t := m7.tot
      have m7d := m7.dep
      have lu := aU.len
      have l7 := A7.len
      have lt7 := len_tots (ks ++ rs6)
      have lty := len_tots (says (1 + z2 / 7 % 300).toNat)
      refine ⟨t, D2, us7, us, rfl, rfl, k78 _ _ e7', eD, by rw [sizeLine_eq]; omega, fun t2 ht2 => ?_⟩
      have s9 := same_new ht2 (.lst (us7 ++ us))
      refine ⟨t2, (ks ++ rs6) ++ says (1 + z2 / 7 % 300).toNat, _, rfl, ⟨m7.s.trans (k78.trans s9), ⟨_, upd_same, (AllAt.mono (Same.kp (k78.trans s9)) _ _ A7).app (AllAt.mono (Same.kp (sh.trans s9)) _ _ aU)⟩, viss_app m7.vis (oks_viss _ _ w1), thins_app m7.thin (oks_thins _ w1), ?_, ?_⟩⟩
      · rw [deps_app, w2]
        omega
      · rw [tots_app, w3]
        omega
  rintro σ H8 ⟨t8, rs8, vk, rfl, m8⟩
  have m8t := m8.tot
  have m8d := m8.dep
  have len8 := len_tots rs8
  refine ⟨_, rfl, t8, rs8, 0, 0, rfl, m8.at_.rows, by omega, fun H9 q9 s9 e9 => ?_⟩
  have hR9 := m8.at_.rows.mono (Same.kp s9)
  refine ⟨_, rfl, t8, rs8, H9, rfl, Same.refl _, hR9, by omega, by omega, m8.thin, fun Hc Hb hd pt hRc => ?_⟩
  have sB : Same H Hb := s1.trans (s2.trans (m8.s.trans (s9.trans pt.all)))
  have zB : Tz T T Hb := (Tq.same ⟨hT, hT⟩ sB).tz
  have RB : RowsAt K Hb t8 rs8 := hR9.mono (Same.kp pt.all)
  have RH : RowsAt K Hb hd rs8 := hRc.mono (Same.kp pt.sub)
  have eB := pt.all _ _ e9
  refine ⟨_, rfl, ?_⟩
  refine ⟨_, rfl, hd, rs8, ss, rfl, RH, m8.vis, hgood, by omega, by omega, zB, fun e HC tC => ?_, fun e HC cls d tC ⟨ecls, dd, ed, eH⟩ => ?_⟩
  · have sq : SqL K HC q9 [.bl (lookss rs8 0 0).1, .int ((lookss rs8 0 0).2 : Int)] := tC.kp.sqL (SqL.of eB)
    refine ⟨_, rfl, q9, _, _, _, rfl, rfl, sq, atI_nat (j := 0) rfl, _, rfl, _, rfl, ifT (by rw [e]; rfl) ?_⟩
    refine ⟨_, rfl, _, rfl, q9, _, _, _, rfl, rfl, sq, atI_nat (j := 1) rfl, .int ((lookss rs8 0 0).2 : Int), .int ((lookss rs8 0 0).2 : Int), rfl, alk_int _, fun HD sD => ⟨_, rfl, iteT ?_⟩⟩
    have kD := tC.kp.trans (Same.kp sD)
    exact ⟨_, rfl, _, rfl, .ref hd, .ref t8, rfl, ((RowsAt.alk (viss_ok rs8 0 0 m8.vis e) (by omega) (RH.mono kD) (RB.mono kD)).up (by omega)), fun HE sE => k HE⟩
  · subst ecls
    subst ed
    have sq : SqL K HC q9 [.bl (lookss rs8 0 0).1, .int ((lookss rs8 0 0).2 : Int)] := tC.kp.sqL (SqL.of eB)
    refine ⟨true, xT, fun _ a0 ha => ?_, fun q => nomatch q⟩
    refine ⟨_, rfl, q9, _, _, _, rfl, rfl, sq, atI_nat (j := 0) rfl, _, rfl, ifT e ?_⟩
    refine ⟨_, rfl, rfl, rfl, dd, _, rfl, eH, _, rfl, _, rfl, iteT ?_⟩
    refine ⟨_, rfl, rfl, rfl, dd, _, rfl, eH, _, rfl, q9, _, _, _, rfl, rfl, sq, atI_nat (j := 1) rfl, rfl, _, rfl, ifT (decide_eq_true rfl) ?_⟩
    exact ⟨_, rfl, t8, rs8, ss, rfl, RB.mono tC.kp, m8.vis, hgood, by omega, by omega, tC.tz, e, fun H' => k H'⟩
end
end Lm
namespace Lm
open PySem PySem.Spec PyProof.Rows L2 GxR
/-! ### the top's hook, with the statics beside what the names reach -/
def asY (g : Addr → Option Obj) : List Addr := He.asD g 4 ++ [cStatics]
section
variable {fa : List He.Fa} {fn : List He.DefD} {ts : List He.Tab} {tf : List He.Defn} {ex : PySem.W.Frag → Bool} {w : World} {h : Heap} {as : List Addr}
theorem saysY (e1 : He.obsT fa fn ts (He.frT h.get? as) = He.valT fn ts w) (e2 : (ex (He.frT h.get? as) && He.tabsB h.get? tf (He.frT h.get? as)) = true) : He.SaysX fa fn ts tf ex w h (He.frT h.get? as) := by
  obtain ⟨more, tabs⟩ := Bool.and_eq_true_iff.mp e2
  have each : ∀ p ∈ tf, PySem.W.codeHdIn (He.frT h.get? as) (He.cT (He.frT h.get? as) p).1 (He.cT (He.frT h.get? as) p).2 = true ∧ h.get? (He.cT (He.frT h.get? as) p).2 = some { cls := .none, data := .fields #[] } := by
    intro p hp
    have both := Bool.and_eq_true_iff.mp (List.all_eq_true.mp tabs p hp)
    refine ⟨both.1, ?_⟩
    have b2 := both.2
    cases q : h.get? (He.cT (He.frT h.get? as) p).2 with
    | none =>
      rw [q] at b2
      exact absurd b2 Bool.false_ne_true
    | some o =>
      rw [q] at b2
      exact congrArg some (He.emptyTab_eq b2)
  constructor
  · exact e1
  · exact more
  · intro p hp
    exact (each p hp).1
  · intro p hp
    exact He.frT_none (each p hp).2 rfl
  · intro p hp
    exact (each p hp).2
end
def obY (fa : List He.Fa) (fn : List He.DefD) (ts : List He.Tab) (tf : List He.Defn) (ex : PySem.W.Frag → Bool) (g : Addr → Option Obj) : He.AlX := (He.obsT fa fn ts (He.frT g (asY g)), ex (He.frT g (asY g)) && He.tabsB g tf (He.frT g (asY g)))
def hookY (fa : List He.Fa) (fn : List He.DefD) (ts : List He.Tab) (tf : List He.Defn) (ex : PySem.W.Frag → Bool) : PySem.W.Hook where
  α := He.AlX
  obs := fun s => obY fa fn ts tf ex s.heap.get?
  val := fun w => (He.valT fn ts w, true)
  says := fun w h => ∃ K : PySem.W.Frag, K.In h ∧ He.SaysX fa fn ts tf ex w h K
  of := fun _ h e => ⟨_, He.frT_in, saysY (congrArg Prod.fst e) (congrArg Prod.snd e)⟩
  keeps := fun _ _ _ ⟨K, hK, c⟩ k => ⟨K, hK.keeps k, ⟨c.t, c.more, c.hd, c.out, fun p hp => k _ _ (c.empty p hp)⟩⟩
theorem obY_eq {fa : List He.Fa} {fn : List He.DefD} {ts : List He.Tab} {tf : List He.Defn} {ex : PySem.W.Frag → Bool} {g : Addr → Option Obj} {s : Shared} (h : ∀ a, g a = s.heap.get? a) : obY fa fn ts tf ex g = (hookY fa fn ts tf ex).obs s := by
  obtain rfl : g = s.heap.get? := funext h
  rfl
theorem bd {p : Prop} [Decidable p] {b : Bool} (h : (decide p && b) = true) : p ∧ b = true := ⟨of_decide_eq_true (Bool.and_eq_true_iff.mp h).1, (Bool.and_eq_true_iff.mp h).2⟩
/-! ### the error classes -/
def excCB (K : PySem.W.Frag) (D : Addr) : Bool :=
  He.eqO (PySem.W.findIn K (.ref D) "__getattribute__") (some (some (.builtin "BaseException.__getattribute__"))) && (He.eqO (PySem.W.findIn K (.ref D) "__getattr__") (some none) && (decide (PySem.W.subIn K (.ref D) (.type "BaseException") = some true) && (PySem.W.hasDictIn K D &&
    (He.eqO (PySem.W.findIn K (.ref D) "__class__") (some (some (.builtin "object.__class__"))) && (He.eqO (PySem.W.specialIn K (.builtin "object.__class__") "__get__") (some (some (.builtin "getset_descriptor.__get__"))) && (decide (PySem.W.takesIn K (.builtin "object.__class__") = some true) && decide (PySem.W.mroIn K D (.type "object") = some true)))))))
theorem excCB_ok {K : PySem.W.Frag} {D : Addr} (h : excCB K D = true) : ExcC K D := by
  obtain ⟨h1, h⟩ := Bool.and_eq_true_iff.mp h
  obtain ⟨h2, h⟩ := Bool.and_eq_true_iff.mp h
  obtain ⟨h3, h⟩ := bd h
  obtain ⟨h4, h⟩ := Bool.and_eq_true_iff.mp h
  obtain ⟨h5, h⟩ := Bool.and_eq_true_iff.mp h
  obtain ⟨h6, h⟩ := Bool.and_eq_true_iff.mp h
  obtain ⟨h7, h⟩ := bd h
  exact ⟨He.eqO_ok h1, He.eqO_ok h2, h3, h4, He.eqO_ok h5, He.eqO_ok h6, h7, of_decide_eq_true h⟩
/-! ### the class with its own __init__ -/
def clsVB (K : PySem.W.Frag) (C : Addr) : Bool := match K.lookup C with
  | some ⟨.type t, _, .cls cd, sl⟩ => (match cd.mro, sl.toList with
    | .ref C' :: bm, [_, _, _, _, some (.builtin n), _] => decide (t = "type") && (decide (C' = C) && (decide (n = "ValueError.__new__") && (decide (cd.hasDel = false) && (decide (cd.hasDict = true) && PySem.HandSPX.refsVE bm))))
    | _, _ => false)
  | _ => false
theorem clsVB_ok {K : PySem.W.Frag} {C : Addr} (h : clsVB K C = true) : ∃ nm q N bs bm sn sub ab col dd k0 k1 k2 k3 k5, K.lookup C = some (excClassObj nm q C N bs bm true sn sub ab col dd k0 k1 k2 k3 k5 "ValueError.__new__") ∧ PySem.HandSPX.refsVE bm = true := by
  unfold clsVB at h
  split at h
  · rename_i t od cd sl e
    split at h
    · rename_i C' bm k0 k1 k2 k3 n k5 em es
      obtain ⟨h1, h⟩ := bd h
      obtain ⟨h2, h⟩ := bd h
      obtain ⟨h3, h⟩ := bd h
      obtain ⟨h4, h⟩ := bd h
      obtain ⟨h5, h6⟩ := bd h
      subst h1 h2 h3
      obtain ⟨nm, bs, mro, N, q, hd, sn, sub, ab, col, dl⟩ := cd
      dsimp only at em h4 h5
      subst em h4 h5
      have e2 : sl = #[k0, k1, k2, k3, some (.builtin "ValueError.__new__"), k5] := by
        obtain ⟨l⟩ := sl
        exact congrArg Array.mk es
      subst e2
      exact ⟨nm, q, N, bs, bm, sn, sub, ab, col, od, k0, k1, k2, k3, k5, e, h6⟩
    · cases h
  · cases h
def argB : Arguments → Option (Pos × Pos)
  | ⟨[], [⟨a, none, p1⟩, ⟨b, none, p2⟩], none, [], [], none, []⟩ => if a = "self" ∧ b = "place" then some (p1, p2) else none
  | _ => none
theorem argB_ok {a : Arguments} {p1 p2 : Pos} (h : argB a = some (p1, p2)) : a = DeepX.iA p1 p2 := by
  unfold argB at h
  split at h
  · split at h
    · rename_i c
      obtain ⟨rfl, rfl⟩ := c
      cases h
      rfl
    · cases h
  · cases h
def bodB : FuncBody → Option (Str × Str × DeepX.Ps)
  | .stmts [.Expr (.Call (.Attribute (.Call (.Name s1 p1) [] [] p2) a1 p3) [.JoinedStr [.Constant (.str t1) k1 p4, .FormattedValue (.Name n1 p5) c none p6, .Constant (.str t2) k2 p7] p8] [] p9) p10, .Assign [.Attribute (.Name s2 p11) a2 p12] (.Name n2 p13) p14] =>
    if (s1 = "super" ∧ a1 = "__init__" ∧ n1 = "place" ∧ c = -1 ∧ k1 = 0 ∧ k2 = 0) ∧ s2 = "self" ∧ a2 = "place" ∧ n2 = "place" then some (t1, t2, ⟨p1, p2, p3, p4, p5, p6, p7, p8, p9, p10, p11, p12, p13, p14⟩) else none
  | _ => none
theorem bodB_ok {b : FuncBody} {t1 t2 : Str} {p : DeepX.Ps} (h : bodB b = some (t1, t2, p)) : b = .stmts (DeepX.iB t1 t2 p) := by
  unfold bodB at h
  split at h
  · split at h
    · rename_i c
      obtain ⟨⟨rfl, rfl, rfl, rfl, rfl, rfl⟩, rfl, rfl, rfl⟩ := c
      cases h
      rfl
    · cases h
  · cases h
def cellB (K : PySem.W.Frag) (cc C : Addr) : Bool := match K.lookup cc with
  | some ⟨_, _, .cell (some (.ref D)), _⟩ => decide (D = C)
  | _ => false
def codB (K : PySem.W.Frag) (cda : Addr) (file : Str) : Bool := match K.lookup cda with
  | some ⟨_, _, .fields vs, _⟩ => (match vs[2]? with
    | some (Value.str f _) => file == f
    | _ => false)
  | _ => false
def iniB (K : PySem.W.Frag) (fI C : Addr) (file t1 t2 : Str) : Bool := match K.lookup fI with
  | some ⟨_, _, .func ⟨nm, qn, ps, bd, sc, gl, cl, dV, kV, _, _, _, cdv, _, bi⟩, _⟩ => (match argB ps, bodB bd, cl, dV, kV, cdv with
    | some _, some (u1, u2, p), [(x, cc)], .none, .none, .ref cda => decide (nm = "__init__") && (decide (u1 = t1) && (decide (u2 = t2) && (decide (sc = DeepX.iS) && (decide (gl = mainGlobals) && (decide (x = "__class__") && (decide (bi = builtinsNs) && (PySem.W.codeIn K (.ref cda) qn && (codB K cda file && ((p.p3.endLine == p.p9.line) && cellB K cc C)))))))))
    | _, _, _, _, _, _ => false)
  | _ => false
theorem iniB_ok {K : PySem.W.Frag} {fI C : Addr} {P : Program} {t1 t2 : Str} (h : iniB K fI C P.main.file t1 t2 = true) : ∃ (oc : Value) (od : Option Addr) (doc pm : Value) (an : Option Addr) (cda : Addr) (ct : Value) (osl : Array (Option Value)) (qn : Str) (p1 p2 : Pos) (p : DeepX.Ps) (cc : Addr) (cl : Value) (cld : Option Addr) (csl : Array (Option Value)) (ccl : Value) (cdd : Option Addr) (vs : Array Value) (ccs : Array (Option Value)) (file : Str) (tf : Tok),
    K.lookup fI = some ⟨oc, od, .func (PySem.W.ksFn "__init__" qn (DeepX.iA p1 p2) (DeepX.iB t1 t2 p) DeepX.iS .none .none doc pm an (.ref cda) ct cc), osl⟩ ∧ PySem.W.codeIn K (.ref cda) qn = true ∧
    K.lookup cda = some ⟨ccl, cdd, .fields vs, ccs⟩ ∧ vs[2]? = some (.str file tf) ∧ ((P.main.file : Str) == file) = true ∧ (p.p3.endLine == p.p9.line) = true ∧ K.lookup cc = some ⟨cl, cld, .cell (some (.ref C)), csl⟩ := by
  unfold iniB at h
  split at h
  · rename_i oc od nm qn ps bo sc gl cl0 dV kV doc pm an cdv ct bi osl e
    split at h
    · rename_i pp u1 u2 p x cc cda ea eb
      obtain ⟨p1, p2⟩ := pp
      obtain ⟨h1, h⟩ := bd h
      obtain ⟨h2, h⟩ := bd h
      obtain ⟨h3, h⟩ := bd h
      obtain ⟨h4, h⟩ := bd h
      obtain ⟨h5, h⟩ := bd h
      obtain ⟨h6, h⟩ := bd h
      obtain ⟨h7, h⟩ := bd h
      obtain ⟨h8, h⟩ := Bool.and_eq_true_iff.mp h
      obtain ⟨h9, h⟩ := Bool.and_eq_true_iff.mp h
      obtain ⟨h10, h11⟩ := Bool.and_eq_true_iff.mp h
      have ea2 := argB_ok ea
      have eb2 := bodB_ok eb
      subst h1 h2 h3 h4 h5 h6 h7 ea2 eb2
      unfold codB at h9
      split at h9
      · rename_i ccl cdd vs ccs ec
        split at h9
        · rename_i f tf ev
          unfold cellB at h11
          split at h11
          · rename_i cl cld D csl el
            have eD := of_decide_eq_true h11
            subst eD
            exact ⟨oc, od, doc, pm, an, cda, ct, osl, qn, p1, p2, p, cc, cl, cld, csl, ccl, cdd, vs, ccs, f, tf, e, h8, ec, ev, h9, h10, el⟩
          · cases h11
        · cases h9
      · cases h9
    · cases h
  · cases h
abbrev pwL : Program := (PySem.W.OpenLaw.row PySem.Challenge.rw_loopmover_k03_rows_counted).prog
def deepB (K : PySem.W.Frag) (C fI : Addr) (t1 t2 : Str) : Bool := clsVB K C && (He.eqO (PySem.W.findIn K (.ref C) "__setattr__") (some (some (.builtin "object.__setattr__"))) && (He.eqO (PySem.W.findIn K (.ref C) "__getattribute__") (some (some (.builtin "BaseException.__getattribute__"))) && (He.eqO (PySem.W.findIn K (.ref C) "__getattr__") (some none) &&
  (He.eqO (PySem.W.findIn K (.ref C) "place") (some none) && (He.eqO (PySem.W.findIn K (.ref C) "__init__") (some (some (.ref fI))) && (decide (PySem.W.typeIn K (.ref fI) = some (.type "function")) && (PySem.W.keepIn K (.ref C) && (decide (PySem.W.subIn K (.ref C) (.type "BaseException") = some true) &&
  (decide (PySem.W.subIn K (.ref C) (.type "ValueError") = some true) && (decide (PySem.W.typeIn K (.ref C) = some (.type "type")) && (PySem.W.hasDictIn K C && (decide (PySem.W.mroIn K C (.ref C) = some true) && (He.eqO (PySem.W.nsIn K cStatics "thirdparty.any") (some none) &&
  (He.eqO (PySem.W.ks_superIn K C C "__init__") (some (some (.builtin "ValueError.__init__"))) && iniB K fI C pwL.main.file t1 t2))))))))))))))
theorem deepB_ok {K : PySem.W.Frag} {mg : Str → Option Value} {C fI : Addr} {cn t1 t2 : Str} (h : deepB K C fI t1 t2 = true) (gC : mg cn = some (.ref C)) (gS : mg "super" = none) : DeepX.DeepTxt pwL K mg cn t1 t2 C fI := by
  obtain ⟨h1, h⟩ := Bool.and_eq_true_iff.mp h
  obtain ⟨h2, h⟩ := Bool.and_eq_true_iff.mp h
  obtain ⟨h3, h⟩ := Bool.and_eq_true_iff.mp h
  obtain ⟨h4, h⟩ := Bool.and_eq_true_iff.mp h
  obtain ⟨h5, h⟩ := Bool.and_eq_true_iff.mp h
  obtain ⟨h6, h⟩ := Bool.and_eq_true_iff.mp h
  obtain ⟨h7, h⟩ := bd h
  obtain ⟨h8, h⟩ := Bool.and_eq_true_iff.mp h
  obtain ⟨h9, h⟩ := bd h
  obtain ⟨h10, h⟩ := bd h
  obtain ⟨h11, h⟩ := bd h
  obtain ⟨h12, h⟩ := Bool.and_eq_true_iff.mp h
  obtain ⟨h13, h⟩ := bd h
  obtain ⟨h14, h⟩ := Bool.and_eq_true_iff.mp h
  obtain ⟨h15, h16⟩ := Bool.and_eq_true_iff.mp h
  exact ⟨gC, gS, clsVB_ok h1, He.eqO_ok h2, He.eqO_ok h3, He.eqO_ok h4, He.eqO_ok h5, He.eqO_ok h6, h7, h8, h9, h10, h11, h12, h13, He.eqO_ok h14, He.eqO_ok h15, iniB_ok h16, by decide +kernel⟩
def kv (e : DictEntry) : Option (Str × Int) := match e.key, e.val with
  | .str x _, .int i _ => some (x, i)
  | _, _ => none
def lenL : List (Str × Int) := [("let", 5), ("say", 2), ("when", 3), ("loop", 3), ("again", 3)]
def lenB (K : PySem.W.Frag) (a : Addr) : Bool := match K.lookup a with
  | some ⟨_, _, .dict es _, _⟩ => decide (es.toList.map kv = lenL.map some)
  | _ => false
theorem lk_put {α : Type} (f g : Str) (y : α) (fs : List (Str × α)) : ((f, y) :: fs).lookup g = if g = f then some y else fs.lookup g := by
  by_cases h : g = f
  · subst h
    simp [List.lookup]
  · have e : (g == f) = false := by simpa using h
    rw [if_neg h]
    simp [List.lookup, e]
theorem find_kv (s : Str) : ∀ {l : List DictEntry} {L : List (Str × Int)}, l.map kv = L.map some → l.any (·.refKey) = false ∧ (match L.lookup s with
    | some i => ∃ e t, l.find? (·.key.isStr s) = some e ∧ e.val = .int i t
    | none => l.find? (·.key.isStr s) = none)
  | [], [], _ => ⟨rfl, rfl⟩
  | [], _ :: _, h => by cases h
  | _ :: _, [], h => by cases h
  | e :: l, (x, i) :: L, h => by
    obtain ⟨h1, h2⟩ := List.cons.inj h
    have ih := find_kv s h2
    obtain ⟨eh, ek, ev⟩ := e
    have h1' : kv ⟨eh, ek, ev⟩ = some (x, i) := h1
    cases ek with
    | str y t =>
      cases ev with
      | int j u =>
        have h3 : (y, j) = (x, i) := Option.some.inj h1'
        cases h3
        refine ⟨?_, ?_⟩
        · rw [List.any_cons, ih.1]
          rfl
        · have is : (Value.str x t).isStr s = (x == s) := by rw [PySem.W.isStr_of]; rfl
          rw [lk_put]
          by_cases c : s = x
          · rw [if_pos c]
            refine ⟨_, u, by rw [List.find?_cons]; rw [show (Value.str x t).isStr s = true by rw [is, c]; exact beq_self_eq_true x], rfl⟩
          · rw [if_neg c]
            have n : (Value.str x t).isStr s = false := by rw [is]; exact beq_eq_false_iff_ne.mpr (Ne.symm c)
            rw [show List.find? (fun z : DictEntry => z.key.isStr s) (⟨eh, .str x t, .int i u⟩ :: l) = List.find? (fun z => z.key.isStr s) l by rw [List.find?_cons, n]]
            exact ih.2
      | _ => cases h1'
    | _ => cases h1'
theorem lens_lookup (s : Str) : (lens s).map (fun n : Nat => (n : Int)) = lenL.lookup s := by
  unfold lens lenL
  rw [lk_put, lk_put, lk_put, lk_put, lk_put]
  repeat' split
  all_goals rfl
theorem lenB_ok {K : PySem.W.Frag} {a : Addr} (h : lenB K a = true) (s : Str) : ∃ r, PySem.W.nsIn K a s = some r ∧ (match lens s with | none => r = none | some k => ∃ tk, r = some (.int (k : Int) tk)) := by
  unfold lenB at h
  cases q : K.lookup a with
  | none =>
    rw [q] at h
    cases h
  | some o =>
    rw [q] at h
    obtain ⟨oc, od, dt, sl⟩ := o
    cases dt with
    | dict es n =>
      have e : es.toList.map kv = lenL.map some := of_decide_eq_true h
      obtain ⟨h1, h2⟩ := find_kv s e
      have ll := lens_lookup s
      unfold PySem.W.nsIn
      rw [q]
      cases hl : lens s with
      | none =>
        rw [hl] at ll
        rw [← ll] at h2
        have h3 : es.toList.find? (·.key.isStr s) = none := h2
        refine ⟨none, ?_, rfl⟩
        dsimp only
        rw [h3, h1]
        rfl
      | some k =>
        rw [hl] at ll
        rw [← ll] at h2
        obtain ⟨e, t, h3, h4⟩ := h2
        refine ⟨some e.val, ?_, t, by rw [h4]⟩
        dsimp only
        rw [h3]
    | _ => cases h
/-- what is found of the error class -/
def ex3 (K : PySem.W.Frag) (TD LE BL R1 R2 R3 : Addr) : Bool :=
  decide (PySem.W.exmOne K (.ref TD) (.ref LE) = some true) && (decide (PySem.W.exmOne K (.ref TD) (.ref TD) = some true) && (decide (PySem.W.kitOne K (.ref TD) (.ref R1) = some false) && (decide (PySem.W.kitOne K (.ref TD) (.ref R2) = some false) && (decide (PySem.W.kitOne K (.ref TD) (.ref R3) = some false) &&
    (decide (PySem.W.kitOne K (.ref TD) (.ref BL) = some false) && (decide (PySem.W.kitOne K (.ref TD) (.type "ValueError") = some true) && excCB K TD))))))
theorem rx3_of {K : PySem.W.Frag} {mg : Str → Option Value} {TD LE BL R1 R2 R3 : Addr} (h : ex3 K TD LE BL R1 R2 R3 = true) (gL : mg "LoopError" = some (.ref LE)) (gB : mg "BadLine" = some (.ref BL)) (g1 : mg "BadRow" = some (.ref R1)) (g2 : mg "BadName" = some (.ref R2)) (g3 : mg "BadNumber" = some (.ref R3)) (gV : mg "ValueError" = none) : Rx3 K mg TD LE BL R1 R2 R3 := by
  obtain ⟨h1, h⟩ := bd h
  obtain ⟨h2, h⟩ := bd h
  obtain ⟨h3, h⟩ := bd h
  obtain ⟨h4, h⟩ := bd h
  obtain ⟨h5, h⟩ := bd h
  obtain ⟨h6, h⟩ := bd h
  obtain ⟨h7, h8⟩ := bd h
  exact ⟨gL, gB, g1, g2, g3, gV, h1, h2, excCB_ok h8, h3, h4, h5, h6, h7⟩
end Lm
namespace Lm
open PySem PySem.Spec PyProof.Rows L2 GxR
/-! ### what the top leaves -/
def mkD (x : Str) (i : Nat) : He.DefD := ⟨(x, none), x, x, defArgs (topS i), defBody (topS i), defScope (topS i), [], []⟩
def mkM (c x y : Str) (st : Stmt) : He.DefD := ⟨(c, some x), x, y, defArgs st, defBody st, defScope st, [], []⟩
def fn0 : List He.DefD := [mkD "is_name" 15, mkD "is_number" 16, mkD "check_form" 17, mkD "check_name" 18, mkD "check_sign" 19, mkD "check_worth" 20, mkD "check_let" 21, mkD "look_at_row" 22, mkD "look_at_rows" 23, mkD "checked" 24, mkD "_law_cell_at" 26, mkD "_law_mixed" 27]
def fn1 : List He.DefD := [mkD "_law_names" 28, mkD "_law_value" 29, mkD "_law_let" 30, mkD "_law_closed" 31, mkD "_law_opened" 32, mkD "_law_program" 33, mkD "_law_whole" 34, mkD "_law_alike" 35, mkD "_law_copied" 36, mkD "_law_nested" 37, mkD "_law_looked" 38, mkD "_law_refused_by_any" 39]
def fn2 : List He.DefD := [mkD "law" 40]
def fn : List He.DefD := fn0 ++ fn1 ++ fn2
def own0 : List Str := ["is_name", "is_number", "check_form", "check_name", "check_sign", "check_worth", "check_let", "look_at_row", "look_at_rows", "checked", "_law_cell_at", "_law_mixed", "_law_names", "_law_value"]
def own1 : List Str := ["_law_let", "_law_closed", "_law_opened", "_law_program", "_law_whole", "_law_alike", "_law_copied", "_law_nested", "_law_looked", "_law_refused_by_any", "law", "LoopError", "BadRow", "BadName"]
def own2 : List Str := ["BadNumber", "BadLine", "TooDeep", "BLOCKS", "SIGNS", "BARRED", "LENGTHS"]
def own : List Str := own0 ++ own1 ++ own2
def bare : List Str := ["ValueError", "all", "bool", "int", "isinstance", "len", "list", "max", "range", "str", "super", "tuple"]
def fas0 : List He.Fa := [.int "LONGEST_NAME" 6, .int "HIGHEST_NUMBER" 999999, .int "DEEPEST_BLOCK" 20]
def fas : List He.Fa := fas0
def fa : List He.Fa := fas ++ (own.map He.Fa.glo ++ bare.map He.Fa.free)
theorem glo_fa {x : Str} (h : x ∈ own) : He.Fa.glo x ∈ fa := List.mem_append_right _ (List.mem_append_left _ (List.mem_map_of_mem h))
theorem free_fa {x : Str} (h : x ∈ bare) : He.Fa.free x ∈ fa := List.mem_append_right _ (List.mem_append_right _ (List.mem_map_of_mem h))
/-- a tuple of the top -/
def tupB (K : PySem.W.Frag) (a : Addr) (xs : List V) : Bool := match K.lookup a with
  | some ⟨.type c, _, .seq its _, _⟩ => decide (c = "tuple") && He.relAll xs its.toList
  | _ => false
theorem relAll_len : ∀ {xs : List V} {us : List Value}, He.relAll xs us = true → us.length = xs.length
  | [], [], _ => rfl
  | [], _ :: _, h => by cases h
  | _ :: _, [], h => by cases h
  | x :: xs, u :: us, h => by
    have h' : (He.relB x u && He.relAll xs us) = true := h
    rw [List.length_cons, List.length_cons, relAll_len (Bool.and_eq_true_iff.mp h').2]
theorem tupB_ok {K : PySem.W.Frag} {a : Addr} {xs : List V} (h : tupB K a xs = true) (hl : xs.length ≤ 1000) (H : Hp) : SqT K H a xs := by
  unfold tupB at h
  cases q : K.lookup a with
  | none =>
    rw [q] at h
    cases h
  | some o =>
    rw [q] at h
    obtain ⟨oc, od, dt, sl⟩ := o
    cases oc with
    | type c =>
      cases dt with
      | seq its n =>
        obtain ⟨h1, h2⟩ := Bool.and_eq_true_iff.mp h
        refine .inr ⟨_, its, n, q, congrArg Value.type (of_decide_eq_true h1), rfl, ?_, He.relAll_ok h2⟩
        have e := relAll_len h2
        rw [Array.length_toList] at e
        rw [e]
        exact Nat.le_of_lt (small1000 hl)
      | _ => cases h
    | _ => cases h
def ex (K : PySem.W.Frag) : Bool := tupB K (He.ga K "BLOCKS") (kinds.map V.str) && (tupB K (He.ga K "SIGNS") (signs.map V.str) && (tupB K (He.ga K "BARRED") (barsS.map V.str) && (lenB K (He.ga K "LENGTHS") && (ex3 K (He.ga K "TooDeep") (He.ga K "LoopError") (He.ga K "BadLine") (He.ga K "BadRow") (He.ga K "BadName") (He.ga K "BadNumber") && (deepB K (He.ga K "TooDeep") (He.ma K (He.ga K "TooDeep") "__init__") "the block at " " lies too deep")))))
def ts : List He.Tab := [(fun K => He.ga K "LENGTHS", ["let", "say", "when", "loop", "again"])]
def tf : List He.Defn := [("is_name", none)]
theorem fun_of {K : PySem.W.Frag} {x y : Str} {st : Stmt} {f : Addr} {fd : FuncData} {d : He.DefD} (F : FunD K d.name d.qual d.params d.body d.scope (d.dvs K) (d.kws K) f fd) (h1 : d.name = x) (h2 : d.qual = y) (h3 : d.params = defArgs st) (h4 : d.body = defBody st) (h5 : d.scope = defScope st) (h6 : d.dfl = []) : Fun K x y st f fd := by
  obtain ⟨oc, od, dV, kV, doc, pm, an, cdv, ct, osl, e, lk, hcd, hd, _⟩ := F.ex
  rw [h1, h2, h3, h4, h5] at e
  rw [h2] at hcd
  have hdv : d.dvs K = [] := by
    unfold He.DefD.dvs
    rw [h6]
    rfl
  rcases hd with ⟨_, hd⟩ | ⟨hd, _⟩
  · subst hd
    exact ⟨⟨oc, od, kV, doc, pm, an, cdv, ct, osl, e, lk, hcd⟩, F.kp⟩
  · exact absurd hdv hd
theorem fun_to {K : PySem.W.Frag} {x qual : Str} {st : Stmt} {f : Addr} {fd : FuncData} {ps : List Str} (F : Fun K x qual st f fd)
    (h : ∀ (kV doc pm : Value) (an : Option Addr) (cdv ct : Value) (us : List Value), us.length = ps.length → bindArgs (PySem.W.fnOf x qual (defArgs st) (defBody st) (defScope st) .none kV doc pm an cdv ct) ⟨us, []⟩ = pure (ps.zip us)) (s : Shared) (us : List Value) (hl : us.length = ps.length) :
    BindsTo s fd ⟨us, []⟩ (ps.zip us) := by
  obtain ⟨oc, od, kV, doc, pm, an, cdv, ct, osl, rfl, lk, hcd⟩ := F.ex
  exact .of_eq (h kV doc pm an cdv ct us hl)
/-- a def by its name: where it stands, its function object -/
structure At (K : PySem.W.Frag) (mg : Str → Option Value) (x : Str) (i : Nat) (f : Addr) (fd : FuncData) : Prop where
  fn : Fun K x x (topS i) f fd
  m : mg x = some (.ref f)
theorem at_of_says {K : PySem.W.Frag} {h : Heap} {mg : Str → Option Value} (X : K.In h) (G : h.Ns mainGlobals mg) (c : He.SaysD fa fn K) (j : Nat) {x : Str} {i : Nat} (hg : x ∈ own) (hd : fn[j]? = some (mkD x i) := by rfl) : ∃ fd, At K mg x i (He.ga K x) fd := by
  obtain ⟨fd, F⟩ := c.def_ j hd
  exact ⟨fd, fun_of F rfl rfl rfl rfl rfl rfl, He.glo_ok X G (c.facts (glo_fa hg))⟩
theorem me_of_says {K : PySem.W.Frag} (c : He.SaysD fa fn K) (j k : Nat) {cl x y : Str} {st : Stmt} (hd : fn[j]? = some (mkM cl x y st) := by rfl) (hf : fa[k]? = some (.meth cl x) := by rfl) : ∃ fd, Fun K x y st (He.ma K (He.ga K cl) x) fd ∧ Meth K (He.ga K cl) x (He.ma K (He.ga K cl) x) := by
  obtain ⟨fd, F⟩ := c.def_ j hd
  exact ⟨fd, fun_of F rfl rfl rfl rfl rfl rfl, He.meth_ok (c.fact k hf)⟩
theorem mk_of_says {K : PySem.W.Frag} (c : He.SaysD fa fn K) (j k : Nat) {cl y : Str} {st : Stmt} (hd : fn[j]? = some (mkM cl "__init__" y st) := by rfl) (hf : fa[k]? = some (.mkr cl) := by rfl) : ∃ fd, Fun K "__init__" y st (He.ma K (He.ga K cl) "__init__") fd ∧ Mk K (He.ga K cl) (He.ma K (He.ga K cl) "__init__") := by
  obtain ⟨fd, F⟩ := c.def_ j hd
  exact ⟨fd, fun_of F rfl rfl rfl rfl rfl rfl, He.mkr_ok (c.fact k hf)⟩

theorem code_at {K : PySem.W.Frag} {x : Str} {st : Stmt} {fd : FuncData} (F : Fun K x x st (He.ga K x) fd) : fd.code = .ref (He.codeOf K (x, none)) := by
  obtain ⟨oc, od, kV, doc, pm, an, cdv, ct, osl, e, lk, hcd⟩ := F.ex
  obtain ⟨c, ec⟩ := He.codeIn_ref hcd
  have e2 : fd.code = .ref c := by rw [e, ← ec]
  rw [He.codeOf_eq (p := (x, none)) lk e2]
  exact e2
theorem mem2 {α : Type} {p a b : α} (h : p ∈ [a, b]) : p = a ∨ p = b := by simpa using h
end Lm
namespace Lm
open PySem PySem.Spec PyProof.Rows L2 GxR
/-- the law's promise, from what the top leaves -/
theorem law_at {w : World} {K : PySem.W.Frag} {h : Heap} {mg : Str → Option Value} {fl : Addr} (X : K.In h) (G : h.Ns mainGlobals mg) (hfl : mg "law" = some (.ref fl)) (c : He.SaysX fa fn ts tf ex w h K) :
    LamX.LawAtS PySem.Challenge.rw_loopmover_k03_rows_counted w K CX0 102 63 "_law_script" mg fl h := by
  have cD : He.SaysD fa fn K := congrArg (fun z : He.AlT => z.1) c.t
  have bn : ∀ {x : Str}, x ∈ bare → mg x = none := fun hx => He.free_ok X G (cD.facts (free_fa hx))
  have own_ : ∀ {x : Str}, x ∈ own → mg x = some (.ref (He.ga K x)) := fun hx => He.glo_ok X G (cD.facts (glo_fa hx))
  have B : Bn mg := ⟨bn (by decide +kernel), bn (by decide +kernel), bn (by decide +kernel), bn (by decide +kernel), bn (by decide +kernel), bn (by decide +kernel), bn (by decide +kernel), bn (by decide +kernel), bn (by decide +kernel)⟩
  obtain ⟨d_is_name, A_is_name⟩ := at_of_says X G cD 0 (x := "is_name") (i := 15) (by decide +kernel)
  have b_is_name : Binds K d_is_name ["thing"] [] := A_is_name.fn.binds fun _ _ _ _ _ _ us hl => match us, hl with | [_], _ => rfl
  obtain ⟨d_is_number, A_is_number⟩ := at_of_says X G cD 1 (x := "is_number") (i := 16) (by decide +kernel)
  have b_is_number : Binds K d_is_number ["thing"] [] := A_is_number.fn.binds fun _ _ _ _ _ _ us hl => match us, hl with | [_], _ => rfl
  obtain ⟨d_check_form, A_check_form⟩ := at_of_says X G cD 2 (x := "check_form") (i := 17) (by decide +kernel)
  have b_check_form : Binds K d_check_form ["row"] [] := A_check_form.fn.binds fun _ _ _ _ _ _ us hl => match us, hl with | [_], _ => rfl
  obtain ⟨d_check_name, A_check_name⟩ := at_of_says X G cD 3 (x := "check_name") (i := 18) (by decide +kernel)
  have b_check_name : Binds K d_check_name ["thing"] [] := A_check_name.fn.binds fun _ _ _ _ _ _ us hl => match us, hl with | [_], _ => rfl
  obtain ⟨d_check_sign, A_check_sign⟩ := at_of_says X G cD 4 (x := "check_sign") (i := 19) (by decide +kernel)
  have b_check_sign : Binds K d_check_sign ["thing"] [] := A_check_sign.fn.binds fun _ _ _ _ _ _ us hl => match us, hl with | [_], _ => rfl
  obtain ⟨d_check_worth, A_check_worth⟩ := at_of_says X G cD 5 (x := "check_worth") (i := 20) (by decide +kernel)
  have b_check_worth : Binds K d_check_worth ["thing"] [] := A_check_worth.fn.binds fun _ _ _ _ _ _ us hl => match us, hl with | [_], _ => rfl
  obtain ⟨d_check_let, A_check_let⟩ := at_of_says X G cD 6 (x := "check_let") (i := 21) (by decide +kernel)
  have b_check_let : Binds K d_check_let ["row"] [] := A_check_let.fn.binds fun _ _ _ _ _ _ us hl => match us, hl with | [_], _ => rfl
  obtain ⟨d_look_at_row, A_look_at_row⟩ := at_of_says X G cD 7 (x := "look_at_row") (i := 22) (by decide +kernel)
  have b_look_at_row : Binds K d_look_at_row ["row", "looked", "depth"] [] := A_look_at_row.fn.binds fun _ _ _ _ _ _ us hl => match us, hl with | [_, _, _], _ => rfl
  obtain ⟨d_look_at_rows, A_look_at_rows⟩ := at_of_says X G cD 8 (x := "look_at_rows") (i := 23) (by decide +kernel)
  have b_look_at_rows : Binds K d_look_at_rows ["rows", "looked", "depth"] [] := A_look_at_rows.fn.binds fun _ _ _ _ _ _ us hl => match us, hl with | [_, _, _], _ => rfl
  obtain ⟨d_checked, A_checked⟩ := at_of_says X G cD 9 (x := "checked") (i := 24) (by decide +kernel)
  have b_checked : Binds K d_checked ["rows"] [] := A_checked.fn.binds fun _ _ _ _ _ _ us hl => match us, hl with | [_], _ => rfl
  obtain ⟨d__law_cell_at, A__law_cell_at⟩ := at_of_says X G cD 10 (x := "_law_cell_at") (i := 26) (by decide +kernel)
  have b__law_cell_at : Binds K d__law_cell_at ["_law_script", "_law_k"] [] := A__law_cell_at.fn.binds fun _ _ _ _ _ _ us hl => match us, hl with | [_, _], _ => rfl
  obtain ⟨d__law_mixed, A__law_mixed⟩ := at_of_says X G cD 11 (x := "_law_mixed") (i := 27) (by decide +kernel)
  have b__law_mixed : Binds K d__law_mixed ["_law_cell", "_law_k"] [] := A__law_mixed.fn.binds fun _ _ _ _ _ _ us hl => match us, hl with | [_, _], _ => rfl
  obtain ⟨d__law_names, A__law_names⟩ := at_of_says X G cD 12 (x := "_law_names") (i := 28) (by decide +kernel)
  have b__law_names : Binds K d__law_names ["_law_cell"] [] := A__law_names.fn.binds fun _ _ _ _ _ _ us hl => match us, hl with | [_], _ => rfl
  obtain ⟨d__law_value, A__law_value⟩ := at_of_says X G cD 13 (x := "_law_value") (i := 29) (by decide +kernel)
  have b__law_value : Binds K d__law_value ["_law_kind", "_law_number", "_law_names_here"] [] := A__law_value.fn.binds fun _ _ _ _ _ _ us hl => match us, hl with | [_, _, _], _ => rfl
  obtain ⟨d__law_let, A__law_let⟩ := at_of_says X G cD 14 (x := "_law_let") (i := 30) (by decide +kernel)
  have b__law_let : Binds K d__law_let ["_law_number", "_law_names_here"] [] := A__law_let.fn.binds fun _ _ _ _ _ _ us hl => match us, hl with | [_, _], _ => rfl
  obtain ⟨d__law_closed, A__law_closed⟩ := at_of_says X G cD 15 (x := "_law_closed") (i := 31) (by decide +kernel)
  have b__law_closed : Binds K d__law_closed ["_law_stack", "_law_tests"] [] := A__law_closed.fn.binds fun _ _ _ _ _ _ us hl => match us, hl with | [_, _], _ => rfl
  obtain ⟨d__law_opened, A__law_opened⟩ := at_of_says X G cD 16 (x := "_law_opened") (i := 32) (by decide +kernel)
  have b__law_opened : Binds K d__law_opened ["_law_number", "_law_names_here", "_law_stack", "_law_tests"] [] := A__law_opened.fn.binds fun _ _ _ _ _ _ us hl => match us, hl with | [_, _, _, _], _ => rfl
  obtain ⟨d__law_program, A__law_program⟩ := at_of_says X G cD 17 (x := "_law_program") (i := 33) (by decide +kernel)
  have b__law_program : Binds K d__law_program ["_law_cells", "_law_names_here"] [] := A__law_program.fn.binds fun _ _ _ _ _ _ us hl => match us, hl with | [_, _], _ => rfl
  obtain ⟨d__law_whole, A__law_whole⟩ := at_of_says X G cD 18 (x := "_law_whole") (i := 34) (by decide +kernel)
  have b__law_whole : Binds K d__law_whole ["_law_found"] [] := A__law_whole.fn.binds fun _ _ _ _ _ _ us hl => match us, hl with | [_], _ => rfl
  obtain ⟨d__law_alike, A__law_alike⟩ := at_of_says X G cD 19 (x := "_law_alike") (i := 35) (by decide +kernel)
  have b__law_alike : Binds K d__law_alike ["_law_found", "_law_due"] [] := A__law_alike.fn.binds fun _ _ _ _ _ _ us hl => match us, hl with | [_, _], _ => rfl
  obtain ⟨d__law_copied, A__law_copied⟩ := at_of_says X G cD 20 (x := "_law_copied") (i := 36) (by decide +kernel)
  have b__law_copied : Binds K d__law_copied ["_law_rows"] [] := A__law_copied.fn.binds fun _ _ _ _ _ _ us hl => match us, hl with | [_], _ => rfl
  obtain ⟨d__law_nested, A__law_nested⟩ := at_of_says X G cD 21 (x := "_law_nested") (i := 37) (by decide +kernel)
  have b__law_nested : Binds K d__law_nested ["_law_rows", "_law_count", "_law_names_here", "_law_cell"] [] := A__law_nested.fn.binds fun _ _ _ _ _ _ us hl => match us, hl with | [_, _, _, _], _ => rfl
  obtain ⟨d__law_looked, A__law_looked⟩ := at_of_says X G cD 22 (x := "_law_looked") (i := 38) (by decide +kernel)
  have b__law_looked : Binds K d__law_looked ["_law_rows", "_law_deep", "_law_many"] [] := A__law_looked.fn.binds fun _ _ _ _ _ _ us hl => match us, hl with | [_, _, _], _ => rfl
  obtain ⟨d__law_refused_by_any, A__law_refused_by_any⟩ := at_of_says X G cD 23 (x := "_law_refused_by_any") (i := 39) (by decide +kernel)
  have b__law_refused_by_any : Binds K d__law_refused_by_any ["_law_rows"] [] := A__law_refused_by_any.fn.binds fun _ _ _ _ _ _ us hl => match us, hl with | [_], _ => rfl
  obtain ⟨d_law, A_law⟩ := at_of_says X G cD 24 (x := "law") (i := 40) (by decide +kernel)
  have b_law : Binds K d_law ["_law_script"] [] := A_law.fn.binds fun _ _ _ _ _ _ us hl => match us, hl with | [_], _ => rfl
  have efl : fl = He.ga K "law" := by
    have e := hfl.symm.trans A_law.m
    cases e
    rfl
  subst efl
  have hin1 : (("is_name", none) : He.Defn) ∈ tf := List.mem_cons_self
  refine ⟨d_law, [He.cT K ("is_name", none)], spLaw K (He.cT K ("is_name", none)).2, fun p hp => by rw [List.mem_singleton.mp hp]; exact c.empty _ hin1, fun p hp => by rw [List.mem_singleton.mp hp]; exact c.out _ hin1, fun p hp => by rw [List.mem_singleton.mp hp]; exact PySem.W.codeHd_of_K X (c.hd _ hin1), ?_, ?_, ?_⟩
  · intro s v
    exact fun_to (ps := ["_law_script"]) A_law.fn (fun _ _ _ _ _ _ us hl => match us, hl with | [_], _ => rfl) s [v] rfl
  · intro H a ns hl _ hT hS
    exact ⟨a, ns, rfl, hS, hl, ⟨#[], hT _ List.mem_cons_self, True.intro⟩, fun _ => rfl⟩
  · intro base hX hG hTB
    have TB1' := hTB _ List.mem_cons_self
    have TB1 : GxR.TabB base mg (He.cT K ("is_name", none)).1 (He.cT K ("is_name", none)).2 := ⟨TB1'.code, TB1'.bm, TB1'.gP⟩
    obtain ⟨x1, x⟩ := Bool.and_eq_true_iff.mp (show ex K = true from c.more)
    obtain ⟨x2, x⟩ := Bool.and_eq_true_iff.mp x
    obtain ⟨x3, x⟩ := Bool.and_eq_true_iff.mp x
    obtain ⟨x4, x⟩ := Bool.and_eq_true_iff.mp x
    obtain ⟨x5, x6⟩ := Bool.and_eq_true_iff.mp x
    have Cc : Cn K mg (He.ga K "BARRED") (He.ga K "BLOCKS") := ⟨own_ (by decide +kernel), tupB_ok x3 (by decide +kernel), own_ (by decide +kernel), tupB_ok x1 (by decide +kernel), He.int_ok X G (cD.fact 0 (f := .int "LONGEST_NAME" 6) rfl)⟩
    obtain ⟨th, hh⟩ := He.int_ok X G (cD.fact 1 (f := .int "HIGHEST_NUMBER" 999999) rfl)
    obtain ⟨td, hd⟩ := He.int_ok X G (cD.fact 2 (f := .int "DEEPEST_BLOCK" 20) rfl)
    have L : LenK K w mg (He.ga K "LENGTHS") := ⟨own_ (by decide +kernel), He.SaysT.tab c.t 0 (t := (fun K => He.ga K "LENGTHS", ["let", "say", "when", "loop", "again"])), lenB_ok x4⟩
    have TT : DeepX.DeepTxt pwL K mg "TooDeep" "the block at " " lies too deep" (He.ga K "TooDeep") _ := deepB_ok x6 (own_ (by decide +kernel)) (bn (by decide +kernel))
    have RX : Rx3 K mg (He.ga K "TooDeep") (He.ga K "LoopError") (He.ga K "BadLine") (He.ga K "BadRow") (He.ga K "BadName") (He.ga K "BadNumber") := rx3_of x5 (own_ (by decide +kernel)) (own_ (by decide +kernel)) (own_ (by decide +kernel)) (own_ (by decide +kernel)) (own_ (by decide +kernel)) (bn (by decide +kernel))
    have gS := own_ (x := "SIGNS") (by decide +kernel)
    have hS := tupB_ok x2 (by decide +kernel)
    have D_is_name : Df pwL w K mg base "is_name" (2) _ d_is_name ["thing"] (spGNm (He.cT K ("is_name", none)).2) := ⟨name_good (ok_is_name A_is_name.fn B Cc TB1 (code_at A_is_name.fn)), A_is_name.m, A_is_name.fn.kp, b_is_name⟩
    have D_is_number : Df pwL w K mg base "is_number" (1) _ d_is_number ["thing"] (spGNum) := ⟨ok_gnum A_is_number.fn B hh, A_is_number.m, A_is_number.fn.kp, b_is_number⟩
    have D_check_form : Df pwL w K mg base "check_form" (1) _ d_check_form ["row"] (spGForm K) := ⟨ok_gform A_check_form.fn B L, A_check_form.m, A_check_form.fn.kp, b_check_form⟩
    have D_check_name : Df pwL w K mg base "check_name" (3) _ d_check_name ["thing"] (spGNo (He.cT K ("is_name", none)).2) := ⟨ok_gname A_check_name.fn D_is_name, A_check_name.m, A_check_name.fn.kp, b_check_name⟩
    have D_check_sign : Df pwL w K mg base "check_sign" (1) _ d_check_sign ["thing"] (spGSg) := ⟨ok_gsign A_check_sign.fn B gS hS, A_check_sign.m, A_check_sign.fn.kp, b_check_sign⟩
    have D_check_worth : Df pwL w K mg base "check_worth" (4) _ d_check_worth ["thing"] (spGW (He.cT K ("is_name", none)).2) := ⟨ok_gworth A_check_worth.fn B D_check_name D_is_number, A_check_worth.m, A_check_worth.fn.kp, b_check_worth⟩
    have D_check_let : Df pwL w K mg base "check_let" (5) _ d_check_let ["row"] (spGLet K (He.cT K ("is_name", none)).2) := ⟨ok_glet A_check_let.fn D_check_name D_check_sign D_check_worth, A_check_let.m, A_check_let.fn.kp, b_check_let⟩
    have H_is_name : Dh pwL w K mg base CX0 "is_name" 2 _ d_is_name ["thing"] (spGNm (He.cT K ("is_name", none)).2) := ⟨ok_nameH A_is_name.fn B Cc TB1 (code_at A_is_name.fn), A_is_name.m, A_is_name.fn.kp, b_is_name⟩
    have H_is_number : Dh pwL w K mg base CX0 "is_number" 1 _ d_is_number ["thing"] spGNum := ⟨ok_gnumH A_is_number.fn B hh, A_is_number.m, A_is_number.fn.kp, b_is_number⟩
    have H_check_form : Dh pwL w K mg base CX0 "check_form" 1 _ d_check_form ["row"] (spGForm K) := ⟨ok_gformH A_check_form.fn B L, A_check_form.m, A_check_form.fn.kp, b_check_form⟩
    have H_check_name : Dh pwL w K mg base CX0 "check_name" 3 _ d_check_name ["thing"] (spGNo (He.cT K ("is_name", none)).2) := ⟨ok_gnameH A_check_name.fn H_is_name, A_check_name.m, A_check_name.fn.kp, b_check_name⟩
    have H_check_sign : Dh pwL w K mg base CX0 "check_sign" 1 _ d_check_sign ["thing"] spGSg := ⟨ok_gsignH A_check_sign.fn B gS hS, A_check_sign.m, A_check_sign.fn.kp, b_check_sign⟩
    have H_check_worth : Dh pwL w K mg base CX0 "check_worth" 4 _ d_check_worth ["thing"] (spGW (He.cT K ("is_name", none)).2) := ⟨ok_gworthH A_check_worth.fn B H_check_name H_is_number, A_check_worth.m, A_check_worth.fn.kp, b_check_worth⟩
    have H_check_let : Dh pwL w K mg base CX0 "check_let" 5 _ d_check_let ["row"] (spGLet K (He.cT K ("is_name", none)).2) := ⟨ok_gletH A_check_let.fn H_check_name H_check_sign H_check_worth, A_check_let.m, A_check_let.fn.kp, b_check_let⟩
    have calm : ∀ n : Nat, FnOk pwL w K mg base (L2N.CX pwL w) (2 * n + 5) (He.ga K "look_at_rows") d_look_at_rows ["rows", "looked", "depth"] (spRows3 K (He.cT K ("is_name", none)).2 (He.ga K "TooDeep") n) := fun n => by
      induction n with
      | zero => exact ⟨fun vs H Q E ⟨_, _, _, _, _, _, _, _, _, _, _, h, _⟩ => absurd h (Nat.not_lt_zero _), fun A outer s H args us vs Q E _ _ _ _ ⟨_, _, _, _, _, _, _, _, _, _, _, h, _⟩ => absurd h (Nat.not_lt_zero _)⟩
      | succ n ih => exact ok_rows3 A_look_at_rows.fn B ⟨ok_row3 A_look_at_row.fn Cc.blocks Cc.blocksT hd TT D_check_form D_check_name D_check_worth D_check_let ⟨ih, A_look_at_rows.m, A_look_at_rows.fn.kp, b_look_at_rows⟩, A_look_at_row.m, A_look_at_row.fn.kp, b_look_at_row⟩
    have hotR : ∀ n : Nat, L2H.FnH pwL w K mg base (L2.CX pwL w) (2 * n + 5) (He.ga K "look_at_rows") d_look_at_rows ["rows", "looked", "depth"] (spRows3 K (He.cT K ("is_name", none)).2 (He.ga K "TooDeep") n) := fun n => by
      induction n with
      | zero => exact ⟨fun vs H Q E ⟨_, _, _, _, _, _, _, _, _, _, _, h, _⟩ => absurd h (Nat.not_lt_zero _), fun A outer s H args us vs Q E p _ _ _ _ _ _ ⟨_, _, _, _, _, _, _, _, _, _, _, h, _⟩ => absurd h (Nat.not_lt_zero _)⟩
      | succ n ih => exact ok_rows3H A_look_at_rows.fn B ⟨ok_row3H A_look_at_row.fn Cc.blocks Cc.blocksT hd TT H_check_form H_check_name H_check_worth H_check_let ⟨ih, A_look_at_rows.m, A_look_at_rows.fn.kp, b_look_at_rows⟩, A_look_at_row.m, A_look_at_row.fn.kp, b_look_at_row⟩
    have N_checked : Dn pwL w K mg base "checked" 66 _ d_checked ["rows"] (spChk3 K (He.cT K ("is_name", none)).2 (He.ga K "TooDeep") 30) := ⟨ok_chk3 A_checked.fn ⟨calm 30, A_look_at_rows.m, A_look_at_rows.fn.kp, b_look_at_rows⟩, A_checked.m, A_checked.fn.kp, b_checked⟩
    have H_checked : Dh pwL w K mg base (L2.CX pwL w) "checked" 66 _ d_checked ["rows"] (spChk3 K (He.cT K ("is_name", none)).2 (He.ga K "TooDeep") 30) := ⟨ok_chk3H A_checked.fn ⟨hotR 30, A_look_at_rows.m, A_look_at_rows.fn.kp, b_look_at_rows⟩, A_checked.m, A_checked.fn.kp, b_checked⟩
    have D__law_cell_at : Df pwL w K mg base "_law_cell_at" (1) _ d__law_cell_at ["_law_script", "_law_k"] (spCell K) := ⟨ok_cell A__law_cell_at.fn B.len, A__law_cell_at.m, A__law_cell_at.fn.kp, b__law_cell_at⟩
    have D__law_mixed : Df pwL w K mg base "_law_mixed" (1) _ d__law_mixed ["_law_cell", "_law_k"] (spMixed) := ⟨ok_mixed A__law_mixed.fn, A__law_mixed.m, A__law_mixed.fn.kp, b__law_mixed⟩
    have D__law_names : Df pwL w K mg base "_law_names" (1) _ d__law_names ["_law_cell"] (spNames) := ⟨ok_names A__law_names.fn B.range, A__law_names.m, A__law_names.fn.kp, b__law_names⟩
    have D__law_value : Df pwL w K mg base "_law_value" (1) _ d__law_value ["_law_kind", "_law_number", "_law_names_here"] (spValue K) := ⟨ok_value A__law_value.fn, A__law_value.m, A__law_value.fn.kp, b__law_value⟩
    have D__law_let : Df pwL w K mg base "_law_let" (2) _ d__law_let ["_law_number", "_law_names_here"] (spLet K) := ⟨ok_let A__law_let.fn D__law_value, A__law_let.m, A__law_let.fn.kp, b__law_let⟩
    have D__law_closed : Df pwL w K mg base "_law_closed" (1) _ d__law_closed ["_law_stack", "_law_tests"] (spClosed K) := ⟨ok_closed A__law_closed.fn, A__law_closed.m, A__law_closed.fn.kp, b__law_closed⟩
    have D__law_opened : Df pwL w K mg base "_law_opened" (1) _ d__law_opened ["_law_number", "_law_names_here", "_law_stack", "_law_tests"] (spOpened K) := ⟨ok_opened A__law_opened.fn B.len (bn (by decide +kernel)) B.int, A__law_opened.m, A__law_opened.fn.kp, b__law_opened⟩
    have D__law_program : Df pwL w K mg base "_law_program" (3) _ d__law_program ["_law_cells", "_law_names_here"] (spProgram K) := ⟨ok_program A__law_program.fn B.len B.range D__law_mixed D__law_opened D__law_closed D__law_value D__law_let, A__law_program.m, A__law_program.fn.kp, b__law_program⟩
    have D__law_nested : Df pwL w K mg base "_law_nested" (2) _ d__law_nested ["_law_rows", "_law_count", "_law_names_here", "_law_cell"] (spNested K) := ⟨ok_nested A__law_nested.fn B.range D__law_mixed, A__law_nested.m, A__law_nested.fn.kp, b__law_nested⟩
    have D__law_whole : Df pwL w K mg base "_law_whole" (1) _ d__law_whole ["_law_found"] (spWhole) := ⟨ok_whole A__law_whole.fn B, A__law_whole.m, A__law_whole.fn.kp, b__law_whole⟩
    have D__law_alike : Df pwL w K mg base "_law_alike" (101) _ d__law_alike ["_law_found", "_law_due"] (spAlike K 100) := ⟨all_alike A__law_alike.fn A__law_alike.m b__law_alike B D__law_whole 100, A__law_alike.m, A__law_alike.fn.kp, b__law_alike⟩
    have D__law_copied : Df pwL w K mg base "_law_copied" (50) _ d__law_copied ["_law_rows"] (spCopied K 50) := ⟨all_copied A__law_copied.fn A__law_copied.m b__law_copied B.len 50, A__law_copied.m, A__law_copied.fn.kp, b__law_copied⟩
    have D__law_looked : Df pwL w K mg base "_law_looked" (50) _ d__law_looked ["_law_rows", "_law_deep", "_law_many"] (spLooked K 50) := ⟨all_looked A__law_looked.fn A__law_looked.m b__law_looked B.len 50, A__law_looked.m, A__law_looked.fn.kp, b__law_looked⟩
    have H_whole : Dh pwL w K mg base CX0 "_law_whole" 1 _ d__law_whole ["_law_found"] spWhole := ⟨ok_wholeH A__law_whole.fn B, A__law_whole.m, A__law_whole.fn.kp, b__law_whole⟩
    have H_refused : Dh pwL w K mg base CX0 "_law_refused_by_any" 67 _ d__law_refused_by_any ["_law_rows"] (spRefused K (He.cT K ("is_name", none)).2 30) := ⟨ok_refusedH A__law_refused_by_any.fn B RX H_checked, A__law_refused_by_any.m, A__law_refused_by_any.fn.kp, b__law_refused_by_any⟩
    exact ok_law A_law.fn B (own_ (by decide +kernel)) TT RX.exT D__law_cell_at D__law_names D__law_program D__law_nested D__law_looked D__law_copied D__law_alike N_checked H_whole H_refused
end Lm
namespace Lm
open PySem PySem.Spec PyProof.Rows L2 GxR
def loose0 : List PySem.Str := ["LoopError", "BadRow", "BadName", "BadNumber", "BadLine", "TooDeep", "LENGTHS", "BLOCKS", "SIGNS", "BARRED", "LONGEST_NAME", "HIGHEST_NUMBER", "DEEPEST_BLOCK", "is_name"]
def loose1 : List PySem.Str := ["is_number", "check_form", "check_name", "check_sign", "check_worth", "check_let", "look_at_row", "look_at_rows", "checked", "_law_cell_at", "_law_mixed", "_law_names", "_law_value", "_law_let"]
def loose2 : List PySem.Str := ["_law_closed", "_law_opened", "_law_program", "_law_whole", "_law_alike", "_law_copied", "_law_nested", "_law_looked", "_law_refused_by_any"]
/-- the names that the top binds besides the law -/
def loose : List PySem.Str := loose0 ++ loose1 ++ loose2
abbrev R : PySem.W.OpenRow := PySem.W.OpenLaw.row PySem.Challenge.rw_loopmover_k03_rows_counted
abbrev hk : PySem.W.Hook := hookY fa fn ts tf ex
def ob (s : PySem.W.SharedT) : He.AlX := obY fa fn ts tf ex (HandSHeadRun.getT s)
theorem ob_eq (s : PySem.W.SharedT) : ob s = hk.obs s.abs := obY_eq (HandSHeadRun.getT_eq s)
set_option maxHeartbeats 0 in
theorem runF (w : World) : HandSHeadRun.RunEq R (PySem.W.view R.prog [40]) hk ob 3000 loose (w.withFollow "special-get-raises" false) := by
  intro os
  kernel_rfl
set_option maxHeartbeats 0 in
theorem runT (w : World) : HandSHeadRun.RunEq R (PySem.W.view R.prog [40]) hk ob 3000 loose (w.withFollow "special-get-raises" true) := by
  intro os
  kernel_rfl
theorem run (w : World) : HandSHeadRun.RunEq R (PySem.W.view R.prog [40]) hk ob 3000 loose w := PySem.W.byRow2 "special-get-raises" (P := fun w => HandSHeadRun.RunEq R (PySem.W.view R.prog [40]) hk ob 3000 loose w) runF runT w
end Lm
open PySem PySem.W PySem.Calls PyProof.Rows
set_option maxRecDepth 100000 in
set_option maxHeartbeats 0 in
theorem PySem.Challenge.cw_loopmover_k03_rows_counted_holds : PySem.Challenge.rw_loopmover_k03_rows_counted.Holds := by
  w_on; o_law
  refine HandSHeadRun.head_any (r := OpenLaw.row PySem.Challenge.rw_loopmover_k03_rows_counted) (q := view (OpenLaw.row PySem.Challenge.rw_loopmover_k03_rows_counted).prog [40]) (H := Lm.hk) (ob := Lm.ob) (M := 3000) (loose := Lm.loose) (d := HandSHeadRun.topDef (OpenLaw.row PySem.Challenge.rw_loopmover_k03_rows_counted).prog 40) (kwd := []) Lm.ob_eq
    (by kernel_rfl) (fun s => by kernel_rfl) Lm.run (by kernel_rfl) (by kernel_rfl) (by kernel_rfl) (by rfl) (by first | assumption | decide +kernel) (by decide +kernel) ⟨rfl, rfl, rfl, rfl, rfl, by decide +kernel⟩ ?hw ?hc
  case hw => w_witness2
  case hc =>
    refine LamX.walk_ofTsE (l := PySem.Challenge.rw_loopmover_k03_rows_counted) (n := 63) (k := 102) (x := "_law_script") (CX := fun _ => L2.CX0) rfl (by decide) (by kernel_rfl) ⟨rfl, by decide, by decide⟩ ?F (fun _ _ _ _ _ z => z)
    intro w mg fl h Y G hmg0
    obtain ⟨K, KX, c⟩ := Y
    have hmg : mg ("law" : PySem.Str) = some (.ref fl) := by
      have e : (HandSHeadRun.topDef (OpenLaw.row PySem.Challenge.rw_loopmover_k03_rows_counted).prog 40).name = ("law" : PySem.Str) := by kernel_rfl
      rw [← e]
      exact hmg0
    exact ⟨K, KX, Lm.law_at KX G hmg c⟩
