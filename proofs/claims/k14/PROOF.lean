import PyProof.Rows.All
import Wide.All
import OpenK.AllK
import Wide.FinOn
import HandS.Base
import HandS.Call
import HandS.List
import HandS.Words
import HandS.WordsList
import HandS.Text
import HandS.Comp
import HandS.IsInst
import HandS.AnyAll
import HandS.Set
import HandS.SetKeys
import HandS.Style
import HandS.Dict
import HandS.Walk
import HandS.WordsDict
import HandS.More
import HandS.Codes
import HandS.EndTab
import HandS.HeadWalk
import HandS.HeadHook4
import HandS.Head0
import HandS.Head1
import HandS.Head2
import HandS.HeadEnd
import PySem.Challenge.RW_loopmover_k14_whole_nothing_is_left
set_option Elab.async false
set_option linter.all false
set_option maxRecDepth 100000
set_option maxHeartbeats 4000000
/-! Names, values and rows, in plain Lean. -/
namespace Lm
open PySem
/-- the words that no name is, by their codes -/
def bars : List (List Nat) := [[115, 97, 121], [119, 104, 101, 110], [108, 111, 111, 112], [97, 103, 97, 105, 110], [101, 110, 100]]
def sameL : List Nat → List Nat → Bool
  | [], [] => true
  | a :: r, b :: s => Nat.beq a b && sameL r s
  | _, _ => false
theorem sameL_iff : ∀ {l m : List Nat}, sameL l m = true ↔ l = m
  | [], [] => by simp [sameL]
  | [], _ :: _ => by simp [sameL]
  | _ :: _, [] => by simp [sameL]
  | a :: r, b :: s => by
    show (Nat.beq a b && sameL r s) = true ↔ _
    rw [Bool.and_eq_true, sameL_iff, Nat.beq_eq, List.cons.injEq]
def isBar (l : List Nat) : Bool := bars.any (sameL l)
def lettersB : List Nat → Bool
  | [] => true
  | c :: r => Nat.ble 97 c && (Nat.ble c 122 && lettersB r)
/-- codes that make a name -/
def GoodL (l : List Nat) : Bool := Nat.ble 1 l.length && Nat.ble l.length 6 && lettersB l && !isBar l
def Good (s : Str) : Prop := GoodL s.cps.toList = true
def ltr (i : Nat) : Nat := 97 + i % 26
/-- six letters, five apart -/
def tailN (c : Nat) : List Nat := [ltr (c + 1), ltr (c + 6), ltr (c + 11), ltr (c + 16), ltr (c + 21), ltr (c + 26)]
/-- one letter in the place of one of the six -/
def w1 (c k place size : Nat) : List Nat := (tailN c).take place ++ ltr (c + 5 * k) :: ((tailN c).drop (place + 1)).take (size - (place + 1))
def w2 (c k t : Nat) : List Nat := ltr (c + 7 * (k / 4)) :: (tailN c).take (k % 4 + t)
def w0 (a u m : Nat) : List Nat := ltr a :: [ltr u, ltr (u + 3), ltr (u + 6), ltr (u + 9), ltr (u + 12)].take m
def below (n : Nat) (f : Nat → Bool) : Bool := (List.range n).all f
theorem below_at {n : Nat} {f : Nat → Bool} (h : below n f = true) {i : Nat} (hi : i < n) : f i = true :=
  List.all_eq_true.mp h i (List.mem_range.mpr hi)
theorem w1_all : below 26 (fun c => below 16 fun k => below 7 fun size => below size fun place => GoodL (w1 c k place size)) = true := by decide +kernel
theorem w2_all : below 26 (fun c => below 16 fun k => below 3 fun t => GoodL (w2 c k t)) = true := by decide +kernel
theorem w0_all : below 26 (fun a => below 26 fun u => below 6 fun m => GoodL (w0 a u m)) = true := by decide +kernel
theorem w1_ok {c k place size : Nat} (h1 : c < 26) (h2 : k < 16) (h3 : size < 7) (h4 : place < size) : GoodL (w1 c k place size) = true :=
  below_at (below_at (below_at (below_at w1_all h1) h2) h3) h4
theorem w2_ok {c k t : Nat} (h1 : c < 26) (h2 : k < 16) (h3 : t < 3) : GoodL (w2 c k t) = true := below_at (below_at (below_at w2_all h1) h2) h3
theorem w0_ok {a u m : Nat} (h1 : a < 26) (h2 : u < 26) (h3 : m < 6) : GoodL (w0 a u m) = true := below_at (below_at (below_at w0_all h1) h2) h3
end Lm
/-! Rows as they stand in the heap. -/
namespace Lm
open PySem L2
/-- a def that lets nothing out, as its callers need it -/
structure Df (P : Program) (w : World) (K : PySem.W.Frag) (mg : Str → Option Value) (base : Heap) (x : Str) (k : Nat) (f : Addr) (fd : FuncData) (ps : List Str) (sp : Sp) : Prop where
  ok : FnOk P w K mg base CX0 k f fd ps sp
  m : mg x = some (.ref f)
  kp : PySem.W.keepIn K (.ref f) = true
  b : Binds K fd ps []
theorem pe_df {X : Cx} {x : Str} {k : Nat} {f : Addr} {fd : FuncData} {ps : List Str} {sp : Sp} {e : Expr} {es : List Expr} {p pos : Pos} {t : TA} (D : Df X.prog X.w X.K X.mg X.base x k f fd ps sp) (hr : Room k X.A) (ha : PA X (e :: es) t) (hg : Gl X x := by rfl)
    (hdb : (x == ("__debug__" : Str)) = false := by decide) (he : starEach (e :: es) X.env = (false, eval e X.env) :: starEach es X.env := by rfl) (hpl : (backTo pos (starEach es X.env)).any (·.1) = false := by rfl) :
    PE X (.Call (.Name x p) (e :: es) [] pos) (tCall sp [] E0 t) := pe_call D.ok hr hg D.m D.kp D.b .nil pass0 ha hdb he hpl
/-- no test in a comprehension -/
theorem kept {A B : Prop} (h : A) : (fun b : Bool => if b = true then A else B) true := by
  show if true = true then A else B
  rw [if_pos rfl]
  exact h
/-- a value of a row: a name or a number -/
inductive Vl where
  | nm (s : Str)
  | nu (i : Int)
def Vl.v : Vl → V
  | .nm s => .str s
  | .nu i => .int i
def Vl.ok (ss : List Str) : Vl → Prop
  | .nm s => s ∈ ss
  | .nu i => 0 ≤ i ∧ i < 1000000
/-- a row; a block's test is any value -/
inductive Row where
  | lt (to sg : Str) (a b : Vl)
  | sy (a : Vl)
  | bk (kd : Str) (ts : V) (rs : List Row)
def signs : List Str := ["+", "-", "*", "<", "/"]
def kinds : List Str := ["when", "loop", "again"]
mutual
/-- the rows lean on the names ss alone, no list in them is long -/
def Row.ok (ss : List Str) : Row → Prop
  | .lt to sg a b => to ∈ ss ∧ sg ∈ signs ∧ a.ok ss ∧ b.ok ss
  | .sy a => a.ok ss
  | .bk kd ts rs => kd ∈ kinds ∧ (∃ s, ts = .str s ∧ s ∈ ss) ∧ rs.length ≤ 2000 ∧ oks ss rs
def oks (ss : List Str) : List Row → Prop
  | [] => True
  | r :: rs => r.ok ss ∧ oks ss rs
end
mutual
def Row.dep : Row → Nat
  | .lt _ _ _ _ => 0
  | .sy _ => 0
  | .bk _ _ rs => deps rs + 1
def deps : List Row → Nat
  | [] => 0
  | r :: rs => max r.dep (deps rs)
end
mutual
/-- how many rows -/
def Row.tot : Row → Nat
  | .lt _ _ _ _ => 1
  | .sy _ => 1
  | .bk _ _ rs => tots rs + 1
def tots : List Row → Nat
  | [] => 0
  | r :: rs => r.tot + tots rs
end
theorem Row.tot_pos : ∀ r : Row, 1 ≤ r.tot
  | .lt _ _ _ _ => Nat.le_refl 1
  | .sy _ => Nat.le_refl 1
  | .bk _ _ rs => by
    show 1 ≤ tots rs + 1
    omega
theorem tots_app : ∀ {rs qs : List Row}, tots (rs ++ qs) = tots rs + tots qs
  | [], qs => (Nat.zero_add _).symm
  | r :: rs, qs => by
    show r.tot + tots (rs ++ qs) = (r.tot + tots rs) + tots qs
    rw [tots_app, Nat.add_assoc]
theorem len_tots : ∀ rs : List Row, rs.length ≤ tots rs
  | [] => Nat.le_refl 0
  | r :: rs => by
    have h1 := r.tot_pos
    have h2 := len_tots rs
    show rs.length + 1 ≤ r.tot + tots rs
    omega
mutual
/-- the row stands at v -/
def RowAt (K : PySem.W.Frag) (H : Hp) : Row → V → Prop
  | .lt to sg a b, v => ∃ p, v = .ref p ∧ SqT K H p [.str "let", .str to, .str sg, a.v, b.v]
  | .sy a, v => ∃ p, v = .ref p ∧ SqT K H p [.str "say", a.v]
  | .bk kd ts rs, v => ∃ p l vs, v = .ref p ∧ SqT K H p [.str kd, ts, .ref l] ∧ SqL K H l vs ∧ AllAt K H rs vs
def AllAt (K : PySem.W.Frag) (H : Hp) : List Row → List V → Prop
  | [], vs => vs = []
  | r :: rs, vs => ∃ v ws, vs = v :: ws ∧ RowAt K H r v ∧ AllAt K H rs ws
end
/-- the rows stand in the list at l -/
def RowsAt (K : PySem.W.Frag) (H : Hp) (l : Addr) (rs : List Row) : Prop := ∃ vs, SqL K H l vs ∧ AllAt K H rs vs
/-- the same, in a list of the heap's own -/
def RowsL (K : PySem.W.Frag) (H : Hp) (l : Addr) (rs : List Row) : Prop := ∃ vs, H l = some (.lst vs) ∧ AllAt K H rs vs
theorem RowsL.rows {K : PySem.W.Frag} {H : Hp} {l : Addr} {rs : List Row} (h : RowsL K H l rs) : RowsAt K H l rs := let ⟨vs, h1, h2⟩ := h; ⟨vs, SqL.of h1, h2⟩
/-- what stood stands; tables may have grown -/
structure Kp (H H' : Hp) : Prop where
  at_ : ∀ b o, H b = some o → (∀ ps, o ≠ .tbl ps) → H' b = some o
  tb : ∀ b ps, H b = some (.tbl ps) → ∃ qs, H' b = some (.tbl qs)
theorem Same.kp {H H' : Hp} (h : Same H H') : Kp H H' := ⟨fun b o e _ => h b o e, fun b ps e => ⟨ps, h _ _ e⟩⟩
theorem Kp.refl (H : Hp) : Kp H H := Same.kp (Same.refl H)
theorem Kp.trans {H H1 H2 : Hp} (a : Kp H H1) (b : Kp H1 H2) : Kp H H2 := ⟨fun c o e n => b.at_ c o (a.at_ c o e n) n, fun c ps e => let ⟨qs, q⟩ := a.tb c ps e; b.tb c qs q⟩
theorem Kp.free {H H' : Hp} (k : Kp H H') {p : Addr} (h : H' p = none) : H p = none := by
  cases q : H p with
  | none => rfl
  | some o =>
    cases o with
    | tbl ps =>
      obtain ⟨qs, e⟩ := k.tb p ps q
      rw [h] at e
      cases e
    | _ =>
      have e := k.at_ p _ q (fun ps z => by cases z)
      rw [h] at e
      cases e
theorem Kp.put {H H' : Hp} (k : Kp H H') {p : Addr} (h : H p = none) (o : HO) : Kp H (upd H' p o) := ⟨fun b u e n => by rw [upd_ne (ne_of_none e h)]; exact k.at_ b u e n, fun b ps e => by rw [upd_ne (ne_of_none e h)]; exact k.tb b ps e⟩
theorem same_new {H : Hp} {p : Addr} (h : H p = none) (o : HO) : Same H (upd H p o) := fun b u q => by rw [upd_ne (ne_of_none q h)]; exact q
theorem Kp.sqL {K : PySem.W.Frag} {H H' : Hp} {a : Addr} {xs : List V} (e : Kp H H') (h : SqL K H a xs) : SqL K H' a xs := by
  rcases h with (h | ⟨o, h⟩) | h
  · exact .inl (.inl (e.at_ _ _ h (fun _ q => by cases q)))
  · exact .inl (.inr ⟨o, e.at_ _ _ h (fun _ q => by cases q)⟩)
  · exact .inr h
theorem Kp.sqT {K : PySem.W.Frag} {H H' : Hp} {a : Addr} {xs : List V} (e : Kp H H') (h : SqT K H a xs) : SqT K H' a xs := by
  rcases h with (h | ⟨o, h⟩) | h
  · exact .inl (.inl (e.at_ _ _ h (fun _ q => by cases q)))
  · exact .inl (.inr ⟨o, e.at_ _ _ h (fun _ q => by cases q)⟩)
  · exact .inr h
mutual
theorem RowAt.mono {K : PySem.W.Frag} {H H' : Hp} (e : Kp H H') : ∀ (r : Row) (v : V), RowAt K H r v → RowAt K H' r v
  | .lt _ _ _ _, _, ⟨p, h1, h2⟩ => ⟨p, h1, e.sqT h2⟩
  | .sy _, _, ⟨p, h1, h2⟩ => ⟨p, h1, e.sqT h2⟩
  | .bk _ _ rs, _, ⟨p, l, vs, h1, h2, h3, h4⟩ => ⟨p, l, vs, h1, e.sqT h2, e.sqL h3, AllAt.mono e rs vs h4⟩
theorem AllAt.mono {K : PySem.W.Frag} {H H' : Hp} (e : Kp H H') : ∀ (rs : List Row) (vs : List V), AllAt K H rs vs → AllAt K H' rs vs
  | [], _, h => h
  | r :: rs, _, ⟨v, ws, h1, h2, h3⟩ => ⟨v, ws, h1, RowAt.mono e r v h2, AllAt.mono e rs ws h3⟩
end
theorem RowsAt.mono {K : PySem.W.Frag} {H H' : Hp} (e : Kp H H') {l : Addr} {rs : List Row} (h : RowsAt K H l rs) : RowsAt K H' l rs :=
  let ⟨vs, h1, h2⟩ := h; ⟨vs, e.sqL h1, AllAt.mono e rs vs h2⟩
theorem RowsL.mono {K : PySem.W.Frag} {H H' : Hp} (e : Kp H H') {l : Addr} {rs : List Row} (h : RowsL K H l rs) : RowsL K H' l rs :=
  let ⟨vs, h1, h2⟩ := h; ⟨vs, e.at_ _ _ h1 (fun _ q => by cases q), AllAt.mono e rs vs h2⟩
theorem AllAt.len {K : PySem.W.Frag} {H : Hp} : ∀ {rs : List Row} {vs : List V}, AllAt K H rs vs → vs.length = rs.length
  | [], _, h => by
    have e : _ = [] := h
    rw [e]
    rfl
  | r :: rs, _, ⟨v, ws, h1, _, h3⟩ => by rw [h1, List.length_cons, List.length_cons, AllAt.len h3]
theorem AllAt.app {K : PySem.W.Frag} {H : Hp} : ∀ {rs qs : List Row} {vs ws : List V}, AllAt K H rs vs → AllAt K H qs ws → AllAt K H (rs ++ qs) (vs ++ ws)
  | [], _, _, _, h, q => by
    have e : _ = [] := h
    rw [e]
    exact q
  | r :: rs, _, _, _, ⟨v, us, h1, h2, h3⟩, q => by
    rw [h1]
    exact ⟨v, us ++ _, rfl, h2, AllAt.app h3 q⟩
theorem AllAt.one {K : PySem.W.Frag} {H : Hp} {r : Row} {v : V} (h : RowAt K H r v) : AllAt K H [r] [v] := ⟨v, [], rfl, h, rfl⟩
theorem AllAt.at {K : PySem.W.Frag} {H : Hp} : ∀ {rs : List Row} {vs : List V} {i : Nat} {v : V}, AllAt K H rs vs → vs[i]? = some v → ∃ r, rs[i]? = some r ∧ RowAt K H r v
  | [], _, i, v, h, e => by
    have e' : _ = [] := h
    rw [e'] at e
    cases e
  | r :: rs, _, 0, v, ⟨v', ws, h1, h2, h3⟩, e => by
    rw [h1] at e
    cases e
    exact ⟨r, rfl, h2⟩
  | r :: rs, _, i + 1, v, ⟨v', ws, h1, h2, h3⟩, e => by
    rw [h1] at e
    exact AllAt.at (rs := rs) h3 (by simpa using e)
theorem oks_app {ss : List Str} : ∀ {rs qs : List Row}, oks ss rs → oks ss qs → oks ss (rs ++ qs)
  | [], _, _, q => q
  | _ :: _, _, ⟨h1, h2⟩, q => ⟨h1, oks_app h2 q⟩
theorem oks_at {ss : List Str} : ∀ {rs : List Row} {i : Nat} {r : Row}, oks ss rs → rs[i]? = some r → r.ok ss
  | [], _, _, _, e => by cases e
  | _ :: _, 0, _, h, e => by
    cases e
    exact h.1
  | _ :: _, _ + 1, _, h, e => oks_at h.2 e
theorem deps_app : ∀ {rs qs : List Row}, deps (rs ++ qs) = max (deps rs) (deps qs)
  | [], qs => by
    show deps qs = max 0 (deps qs)
    omega
  | r :: rs, qs => by
    show max r.dep (deps (rs ++ qs)) = max (max r.dep (deps rs)) (deps qs)
    rw [deps_app]
    omega
theorem dep_at : ∀ {rs : List Row} {i : Nat} {r : Row}, rs[i]? = some r → r.dep ≤ deps rs
  | [], _, _, e => by cases e
  | r :: rs, 0, _, e => by
    cases e
    exact Nat.le_max_left _ _
  | r :: rs, _ + 1, _, e => Nat.le_trans (dep_at (rs := rs) e) (Nat.le_max_right _ _)
/-- built-in names that the top leaves alone -/
structure Bn (mg : Str → Option Value) : Prop where
  len : mg "len" = none
  range : mg "range" = none
  isinstance : mg "isinstance" = none
  list : mg "list" = none
  tuple : mg "tuple" = none
  str : mg "str" = none
  int : mg "int" = none
  bool : mg "bool" = none
  all : mg "all" = none
end Lm
/-! The sixteen names. -/
namespace Lm
open PySem L2
def abc : Str := "abcdefghijklmnopqrstuvwxyz"
theorem abc_all : below 26 (fun n => abc.cps.toList[n]? == some (97 + n)) = true := by decide +kernel
theorem abc_at {z : Int} (h0 : 0 ≤ z) (h1 : z < 26) : atI abc.cps.toList z = some (97 + z.toNat) :=
  at_nat' h0 (by simpa using below_at abc_all (i := z.toNat) (by omega))
where
  at_nat' {xs : List Nat} {z : Int} {v : Nat} (h0 : 0 ≤ z) (h : xs[z.toNat]? = some v) : atI xs z = some v := by
    have q : atI xs ((z.toNat : Nat) : Int) = some v := atI_nat h
    rw [show ((z.toNat : Nat) : Int) = z by omega] at q
    exact q
theorem yes {σ : St} {H : Hp} {Q : Bool → Hp → Prop} (h : Q true H) : tYes σ H Q := h
/-- one letter as a text -/
def one (n : Nat) : Str := ⟨#[n]⟩
theorem abc_mod (z : Int) : atI abc.cps.toList (z % 26) = some (97 + (z % 26).toNat) := abc_at (Int.emod_nonneg _ (by decide)) (Int.emod_lt_of_pos _ (by decide))
theorem ltr_int (c : Int) (m : Nat) : 97 + ((c + (m : Int)) % 26).toNat = ltr ((c % 26).toNat + m) := by
  unfold ltr
  omega
theorem app_toList (x y : Str) : (x ++ y).cps.toList = x.cps.toList ++ y.cps.toList := by
  show (x.cps ++ y.cps).toList = _
  simp
theorem len_toList (x : Str) : x.length = x.cps.toList.length := by simp [Str.length]
theorem one_toList (n : Nat) : (one n).cps.toList = [n] := rfl
theorem cut_head (z : Str) (k : Nat) (h : k ≤ z.length) : (cutS z none (some (k : Int))).cps.toList = z.cps.toList.take k := by
  unfold cutS
  rw [HT.sIx_nat]
  show ((z.cps.toList.drop 0).take (min k z.length - 0)).toArray.toList = _
  rw [List.drop_zero, Nat.sub_zero, Nat.min_eq_left h]
theorem cut_mid (z : Str) (j k : Nat) (h : j ≤ z.length) (h2 : k ≤ z.length) : (cutS z (some (j : Int)) (some (k : Int))).cps.toList = (z.cps.toList.drop j).take (k - j) := by
  unfold cutS
  rw [HT.sIx_nat, HT.sIx_nat, Nat.min_eq_left h, Nat.min_eq_left h2]
theorem cut_len (z : Str) (lo hi : Option Int) : (cutS z lo hi).length ≤ z.length := by
  rw [len_toList, len_toList z]
  unfold cutS
  simp only [List.toList_toArray, List.length_take, List.length_drop]
  omega
theorem good_len {s : Str} (h : Good s) : 1 ≤ s.length ∧ s.length ≤ 6 := by
  unfold Good GoodL at h
  simp only [Bool.and_eq_true] at h
  obtain ⟨⟨⟨h1, h2⟩, _⟩, _⟩ := h
  rw [len_toList]
  exact ⟨Nat.le_of_ble_eq_true h1, Nat.le_of_ble_eq_true h2⟩
theorem app_len (x y : Str) : (x ++ y).length = x.length + y.length := by
  rw [len_toList, app_toList, List.length_append, ← len_toList, ← len_toList]
/-- the six letters as a text -/
def tailS (c : Nat) : Str := ⟨#[ltr (c + 1), ltr (c + 6), ltr (c + 11), ltr (c + 16), ltr (c + 21), ltr (c + 26)]⟩
theorem tailS_list (c : Nat) : (tailS c).cps.toList = tailN c := rfl
theorem tailS_len (c : Nat) : (tailS c).length = 6 := rfl
/-- the first i of the six letters, one a text -/
def tl (c : Nat) (i : Nat) : List Str := [one (ltr (c + 1)), one (ltr (c + 6)), one (ltr (c + 11)), one (ltr (c + 16)), one (ltr (c + 21)), one (ltr (c + 26))].take i
theorem tl_more (c : Nat) : ∀ i : Nat, i < 6 → tl c (i + 1) = tl c i ++ [one (ltr (c + (5 * i + 1)))]
  | 0, _ => rfl
  | 1, _ => rfl
  | 2, _ => rfl
  | 3, _ => rfl
  | 4, _ => rfl
  | 5, _ => rfl
  | _ + 6, h => absurd h (by omega)
theorem tl_len (c : Nat) {i : Nat} (h : i ≤ 6) : (tl c i).length = i := by
  unfold tl
  rw [List.length_take]
  show min i 6 = i
  omega
theorem nul_str : ("" : Str) = Str.empty := by decide +kernel
theorem tl_join (c : Nat) : Txt.join "" (tl c 6) = tailS c := by
  rw [nul_str]
  show Builtin.Str.glued Str.empty (tl c 6) = tailS c
  unfold tl tailS one Builtin.Str.glued Str.empty
  simp
theorem tl_sum (c : Nat) : ((tl c 6).map (·.length)).sum + (tl c 6).length * Str.length ("" : Str) ≤ 16777216 := by
  rw [nul_str]
  show 6 + 6 * 0 ≤ 16777216
  decide
theorem w0_more (a u : Nat) : ∀ i : Nat, i < 5 → w0 a u (i + 1) = w0 a u i ++ [ltr (u + 3 * i)]
  | 0, _ => rfl
  | 1, _ => rfl
  | 2, _ => rfl
  | 3, _ => rfl
  | 4, _ => rfl
  | _ + 5, h => absurd h (by omega)
theorem w0_len (a u : Nat) {i : Nat} (h : i < 6) : (w0 a u i).length = i + 1 := by
  unfold w0
  rw [List.length_cons, List.length_take]
  show min i 5 + 1 = i + 1
  omega
/-- the words that may stand for a name -/
def tens : List Str := ["whens", "essay", "reloop", "let", "ends", "sayer", "loops", "send", "agains", "awhen"]
theorem tens_good : ∀ s ∈ tens, Good s := by
  have h : tens.all (fun s => GoodL s.cps.toList) = true := by decide +kernel
  exact fun s hs => List.all_eq_true.mp h s hs
/-- case by case, the word of one turn -/
theorem word1 {c : Nat} (hc : c < 26) {k place size : Nat} (hk : k < 16) (hs : size < 7) (hp : place < size) :
    Good (cutS (tailS c) none (some (place : Int)) ++ one (ltr (c + 5 * k)) ++ cutS (tailS c) (some ((place : Int) + 1)) (some (size : Int))) := by
  have e : ((place : Int) + 1) = ((place + 1 : Nat) : Int) := by omega
  unfold Good
  rw [app_toList, app_toList, cut_head _ _ (by rw [tailS_len]; omega), e, cut_mid _ _ _ (by rw [tailS_len]; omega) (by rw [tailS_len]; omega), one_toList, tailS_list, List.append_assoc]
  exact w1_ok hc hk hs hp
theorem word2 {c : Nat} (hc : c < 26) {k t : Nat} (hk : k < 16) (ht : t < 3) : Good (one (ltr (c + 7 * (k / 4))) ++ cutS (tailS c) none (some ((k % 4 + t : Nat) : Int))) := by
  unfold Good
  rw [app_toList, cut_head _ _ (by rw [tailS_len]; omega), one_toList, tailS_list]
  exact w2_ok hc hk ht
end Lm
/-! A program while it is built: lists that are open, one in another, on a stack. -/
namespace Lm
open PySem L2
/-- the open lists around `child`, from within outwards; Hc: what is closed -/
def Outs (K : PySem.W.Frag) (ss : List Str) (m : Nat) (Hc H : Hp) : Addr → List (Addr × List Row) → Prop
  | _, [] => True
  | child, q :: o => (∃ (vs : List V) (t : Addr) (kd ts : Str), H q.1 = some (.lst (vs ++ [.ref t])) ∧ AllAt K Hc q.2 vs ∧ Hc t = some (.tup [.str kd, .str ts, .ref child]) ∧ kd ∈ kinds ∧ ts ∈ ss) ∧
    oks ss q.2 ∧ q.2.length ≤ m ∧ deps q.2 + o.length ≤ 3 ∧ Outs K ss m Hc H q.1 o
theorem Outs.mono {K : PySem.W.Frag} {ss : List Str} {m m' : Nat} {Hc Hc' H H' : Hp} (hm : m ≤ m') (hs : Same Hc Hc') : ∀ {o : List (Addr × List Row)} {c : Addr}, (∀ b ∈ o.map (·.1), H' b = H b) → Outs K ss m Hc H c o → Outs K ss m' Hc' H' c o
  | [], _, _, _ => True.intro
  | q :: o, c, hb, ⟨⟨vs, t, kd, ts, h1, h2, h3, h4, h5⟩, h6, h7, h8, h9⟩ =>
    ⟨⟨vs, t, kd, ts, by rw [hb q.1 (by simp)]; exact h1, AllAt.mono (Same.kp hs) _ _ h2, hs _ _ h3, h4, h5⟩, h6, Nat.le_trans h7 hm, h8, Outs.mono hm hs (fun b h => hb b (by simp only [List.map_cons, List.mem_cons]; exact .inr h)) h9⟩
/-- how many rows stand in the open lists, their blocks with them -/
def outs : List (Addr × List Row) → Nat
  | [] => 0
  | q :: o => tots q.2 + 1 + outs o
/-- the open lists' addresses -/
abbrev opens (l : Addr) (o : List (Addr × List Row)) : List Addr := l :: o.map (·.1)
structure Prog (K : PySem.W.Frag) (ss : List Str) (m : Nat) (H0 Hc H : Hp) (S T l : Addr) (rs : List Row) (o : List (Addr × List Row)) (ts : List Str) : Prop where
  old : Same H0 Hc
  cl : Same Hc H
  inn : ∃ vs, H l = some (.lst vs) ∧ AllAt K Hc rs vs
  out : Outs K ss m Hc H l o
  no : ∀ b ∈ S :: T :: opens l o, Hc b = none
  nd : (S :: T :: opens l o).Nodup
  ok : oks ss rs
  dep : deps rs + o.length ≤ 3
  wid : rs.length ≤ m
  num : tots rs + outs o ≤ m
  st : H S = some (.lst ((opens l o).reverse.map V.ref))
  te : H T = some (.lst (ts.map V.str))
  tok : ∀ t ∈ ts, t = "" ∨ t ∈ ss
section
variable {K : PySem.W.Frag} {ss : List Str} {m : Nat} {H0 Hc H : Hp} {S T l : Addr} {rs : List Row} {o : List (Addr × List Row)} {ts : List Str}
theorem Outs.some : ∀ {o : List (Addr × List Row)} {c : Addr}, Outs K ss m Hc H c o → ∀ b ∈ o.map (·.1), ∃ xs, H b = some (.lst xs)
  | [], _, _, b, hb => by cases hb
  | q :: o, c, ⟨⟨vs, t, kd, ts, h1, _⟩, _, _, _, h9⟩, b, hb => by
    rcases List.mem_cons.mp (by simpa using hb : b ∈ q.1 :: o.map (·.1)) with e | e
    · rw [e]
      exact ⟨_, h1⟩
    · exact Outs.some h9 b e
theorem Prog.there (h : Prog K ss m H0 Hc H S T l rs o ts) : ∀ b ∈ S :: T :: opens l o, ∃ xs, H b = some (.lst xs) := fun b hb => by
  rcases List.mem_cons.mp hb with e | hb
  · rw [e]
    exact ⟨_, h.st⟩
  rcases List.mem_cons.mp hb with e | hb
  · rw [e]
    exact ⟨_, h.te⟩
  rcases List.mem_cons.mp hb with e | hb
  · rw [e]
    obtain ⟨vs, h1, _⟩ := h.inn
    exact ⟨_, h1⟩
  · exact Outs.some h.out b hb
theorem Prog.apart (h : Prog K ss m H0 Hc H S T l rs o ts) {p : Addr} (hp : H p = none) : ∀ b ∈ S :: T :: opens l o, b ≠ p := fun b hb => by
  obtain ⟨xs, e⟩ := h.there b hb
  exact ne_of_none e hp
theorem Prog.same (h : Prog K ss m H0 Hc H S T l rs o ts) : Same H0 H := h.old.trans h.cl
theorem Prog.more (h : Prog K ss m H0 Hc H S T l rs o ts) {m' : Nat} (hm : m ≤ m') : Prog K ss m' H0 Hc H S T l rs o ts :=
  { h with out := Outs.mono hm (Same.refl _) (fun _ _ => rfl) h.out, wid := Nat.le_trans h.wid hm, num := Nat.le_trans h.num hm }
/-- a new object that will not change -/
theorem Prog.alloc (h : Prog K ss m H0 Hc H S T l rs o ts) {p : Addr} (hp : H p = none) (u : HO) : Prog K ss m H0 (upd Hc p u) (upd H p u) S T l rs o ts := by
  have hcp : Hc p = none := h.cl.free hp
  have ap := h.apart hp
  have s1 : Same Hc (upd Hc p u) := same_new hcp u
  have ne : ∀ b ∈ S :: T :: opens l o, upd H p u b = H b := fun b hb => upd_ne (ap b hb)
  obtain ⟨vs, e1, e2⟩ := h.inn
  refine ⟨h.old.trans s1, fun b x hb => ?_, ⟨vs, ?_, AllAt.mono (Same.kp s1) _ _ e2⟩, Outs.mono (Nat.le_refl _) s1 (fun b hb => ne b ?_) h.out, fun b hb => ?_, h.nd, h.ok, h.dep, h.wid, h.num, ?_, ?_, h.tok⟩
  · by_cases e : b = p
    · rw [e, upd_same] at hb
      rw [e, upd_same]
      exact hb
    · rw [upd_ne e] at hb
      rw [upd_ne e]
      exact h.cl b x hb
  · rw [ne l (by simp)]
    exact e1
  · exact List.mem_cons_of_mem _ (List.mem_cons_of_mem _ (List.mem_cons_of_mem _ hb))
  · rw [upd_ne (ap b hb)]
    exact h.no b hb
  · rw [ne S (by simp)]
    exact h.st
  · rw [ne T (by simp)]
    exact h.te
theorem Prog.nST (h : Prog K ss m H0 Hc H S T l rs o ts) : S ≠ T ∧ S ≠ l ∧ T ≠ l ∧ (∀ b ∈ o.map (·.1), b ≠ S ∧ b ≠ T ∧ b ≠ l) := by
  have h1 := h.nd
  simp only [opens, List.nodup_cons, List.mem_cons, not_or] at h1
  obtain ⟨⟨a1, a2, a3⟩, ⟨b1, b2⟩, c1, _⟩ := h1
  exact ⟨a1, a2, b1, fun b hb => ⟨fun e => a3 (e ▸ hb), fun e => b2 (e ▸ hb), fun e => c1 (e ▸ hb)⟩⟩
/-- what is written to an open list, to the stack or to the tests leaves what is closed -/
theorem Prog.cl_upd (h : Prog K ss m H0 Hc H S T l rs o ts) {b : Addr} (hb : b ∈ S :: T :: opens l o) (u : HO) : Same Hc (upd H b u) := fun c x hc => by
  rw [upd_ne (ne_of_none hc (h.no b hb))]
  exact h.cl c x hc
/-- a row behind those of the innermost list -/
theorem Prog.app (h : Prog K ss m H0 Hc H S T l rs o ts) {r : Row} {v : V} {vs : List V} (hl : H l = some (.lst vs)) (hr : RowAt K Hc r v) (hok : r.ok ss) (hd : r.dep + o.length ≤ 3) (h1 : r.tot = 1) :
    Prog K ss (m + 1) H0 Hc (upd H l (.lst (vs ++ [v]))) S T l (rs ++ [r]) o ts := by
  obtain ⟨vs', e1, e2⟩ := h.inn
  have ev : vs' = vs := by
    have z := e1.symm.trans hl
    cases z
    rfl
  subst ev
  obtain ⟨n1, n2, n3, n4⟩ := h.nST
  refine ⟨h.old, h.cl_upd (by simp) _, ⟨_, upd_same, e2.app (AllAt.one hr)⟩, Outs.mono (Nat.le_succ _) (Same.refl _) (fun b hb => upd_ne (n4 b hb).2.2) h.out, h.no, h.nd, oks_app h.ok ⟨hok, True.intro⟩, ?_, ?_, ?_, ?_, ?_, h.tok⟩
  · rw [deps_app]
    have := h.dep
    show max (deps rs) (max r.dep 0) + o.length ≤ 3
    omega
  · rw [List.length_append]
    exact Nat.succ_le_succ h.wid
  · have := h.num
    rw [tots_app]
    show tots rs + (r.tot + 0) + outs o ≤ m + 1
    omega
  · rw [upd_ne n2]
    exact h.st
  · rw [upd_ne n3]
    exact h.te
theorem Prog.tests (h : Prog K ss m H0 Hc H S T l rs o ts) {ts' : List Str} (ht : ∀ t ∈ ts', t = "" ∨ t ∈ ss) : Prog K ss m H0 Hc (upd H T (.lst (ts'.map V.str))) S T l rs o ts' := by
  obtain ⟨vs, e1, e2⟩ := h.inn
  obtain ⟨n1, n2, n3, n4⟩ := h.nST
  exact ⟨h.old, h.cl_upd (by simp) _, ⟨vs, by rw [upd_ne n3.symm]; exact e1, e2⟩, Outs.mono (Nat.le_refl _) (Same.refl _) (fun b hb => upd_ne (n4 b hb).2.1) h.out, h.no, h.nd, h.ok, h.dep, h.wid, h.num, by rw [upd_ne n1]; exact h.st, upd_same, ht⟩
/-- a block opens: q its list, p its row -/
theorem Prog.push (h : Prog K ss m H0 Hc H S T l rs o ts) {p q : Addr} {kd te : Str} {vs : List V} (hl : H l = some (.lst vs)) (hq : H q = none) (hp : (upd H q (.lst [])) p = none) (hk : kd ∈ kinds) (hte : te ∈ ss) (h3 : o.length < 3) :
    Prog K ss (m + 1) H0 (upd Hc p (.tup [.str kd, .str te, .ref q])) (upd (upd (upd (upd H q (.lst [])) p (.tup [.str kd, .str te, .ref q])) l (.lst (vs ++ [.ref p]))) S (.lst ((opens l o).reverse.map V.ref ++ [.ref q]))) S T q [] ((l, rs) :: o) ts := by
  obtain ⟨vs', e1, e2⟩ := h.inn
  have ev : vs' = vs := by
    have z := e1.symm.trans hl
    cases z
    rfl
  subst ev
  obtain ⟨n1, n2, n3, n4⟩ := h.nST
  have npq : p ≠ q := fun e => by rw [e, upd_same] at hp; cases hp
  have hp0 : H p = none := by rw [upd_ne npq] at hp; exact hp
  have aq := h.apart hq
  have ap := h.apart hp0
  have hcp : Hc p = none := h.cl.free hp0
  have hcq : Hc q = none := h.cl.free hq
  have s1 : Same Hc (upd Hc p (.tup [.str kd, .str te, .ref q])) := same_new hcp _
  have mS : S ∈ S :: T :: opens l o := by simp
  have mT : T ∈ S :: T :: opens l o := by simp
  have ml : l ∈ S :: T :: opens l o := by simp
  have mo : ∀ b ∈ o.map (·.1), b ∈ S :: T :: opens l o := fun b hb => List.mem_cons_of_mem _ (List.mem_cons_of_mem _ (List.mem_cons_of_mem _ hb))
  refine ⟨h.old.trans s1, fun b x hb => ?_, ⟨[], ?_, rfl⟩, ⟨⟨vs', p, kd, te, ?_, AllAt.mono (Same.kp s1) _ _ e2, upd_same, hk, hte⟩, h.ok, Nat.le_succ_of_le h.wid, h.dep, Outs.mono (Nat.le_succ _) s1 (fun b hb => ?_) h.out⟩, fun b hb => ?_, ?_, True.intro, ?_, Nat.zero_le _, ?_, ?_, ?_, h.tok⟩
  · by_cases e : b = p
    · rw [e, upd_same] at hb
      rw [e, upd_ne (ap S mS).symm, upd_ne (ap l ml).symm, upd_same]
      exact hb
    · rw [upd_ne e] at hb
      have hS := ne_of_none hb (h.no S mS)
      have hL := ne_of_none hb (h.no l ml)
      have hQ := ne_of_none hb hcq
      rw [upd_ne hS, upd_ne hL, upd_ne e, upd_ne hQ]
      exact h.cl b x hb
  · rw [upd_ne (aq S mS).symm, upd_ne (aq l ml).symm, upd_ne npq.symm, upd_same]
  · rw [upd_ne n2.symm, upd_same]
  · obtain ⟨z1, z2, z3⟩ := n4 b hb
    rw [upd_ne z1, upd_ne z3, upd_ne (ap b (mo b hb)), upd_ne (aq b (mo b hb))]
  · have hb' : b = q ∨ b ∈ S :: T :: opens l o := by
      simp only [opens, List.map_cons, List.mem_cons] at hb ⊢
      rcases hb with e | e | e | e | e
      · exact .inr (.inl e)
      · exact .inr (.inr (.inl e))
      · exact .inl e
      · exact .inr (.inr (.inr (.inl e)))
      · exact .inr (.inr (.inr (.inr e)))
    rcases hb' with e | e
    · rw [e, upd_ne npq.symm]
      exact hcq
    · rw [upd_ne (ap b e)]
      exact h.no b e
  · have h1 := h.nd
    have hq1 : ¬ q ∈ S :: T :: opens l o := fun z => (aq q z) rfl
    simp only [opens, List.map_cons, List.nodup_cons, List.mem_cons, not_or] at h1 hq1 ⊢
    obtain ⟨⟨a1, a2, a3⟩, ⟨b1, b2⟩, c1, c2⟩ := h1
    obtain ⟨q1, q2, q3, q4⟩ := hq1
    exact ⟨⟨a1, Ne.symm q1, a2, a3⟩, ⟨Ne.symm q2, b1, b2⟩, ⟨q3, q4⟩, c1, c2⟩
  · show 0 + (o.length + 1) ≤ 3
    omega
  · have := h.num
    show 0 + (tots rs + 1 + outs o) ≤ m + 1
    omega
  · rw [upd_same]
    simp [opens]
  · rw [upd_ne n1.symm, upd_ne n3, upd_ne (ap T mT), upd_ne (aq T mT)]
    exact h.te
theorem Prog.pushes (h : Prog K ss m H0 Hc H S T l rs o ts) {p q : Addr} (kd te : Str) {vs : List V} (hl : H l = some (.lst vs)) (hq : H q = none) (hp : (upd H q (.lst [])) p = none) :
    (upd (upd H q (.lst [])) p (.tup [.str kd, .str te, .ref q])) l = some (.lst vs) ∧
    (upd (upd (upd H q (.lst [])) p (.tup [.str kd, .str te, .ref q])) l (.lst (vs ++ [.ref p]))) S = some (.lst ((opens l o).reverse.map V.ref)) ∧
    (upd (upd (upd H q (.lst [])) p (.tup [.str kd, .str te, .ref q])) l (.lst (vs ++ [.ref p]))) p = some (.tup [.str kd, .str te, .ref q]) := by
  have npq : p ≠ q := fun e => by rw [e, upd_same] at hp; cases hp
  have hp0 : H p = none := by rw [upd_ne npq] at hp; exact hp
  have aq := h.apart hq
  have ap := h.apart hp0
  obtain ⟨n1, n2, n3, n4⟩ := h.nST
  refine ⟨?_, ?_, ?_⟩
  · rw [upd_ne (ap l (by simp)), upd_ne (aq l (by simp))]
    exact hl
  · rw [upd_ne n2, upd_ne (ap S (by simp)), upd_ne (aq S (by simp))]
    exact h.st
  · rw [upd_ne (ap l (by simp)).symm, upd_same]
theorem Prog.roomS (h : Prog K ss m H0 Hc H S T l rs o ts) : ((opens l o).reverse.map V.ref).length < sizeLine := by
  have := h.dep
  rw [List.length_map, List.length_reverse]
  exact small1000 (by show (o.map (·.1)).length + 1 ≤ 1000; rw [List.length_map]; omega)
/-- a block closes -/
theorem Prog.pop {q : Addr × List Row} (h : Prog K ss m H0 Hc H S T l rs (q :: o) ts) (hm : m ≤ 2000) :
    ∃ Hc' kd te, Prog K ss (m + 1) H0 Hc' (upd H S (.lst ((opens q.1 o).reverse.map V.ref))) S T q.1 (q.2 ++ [.bk kd (.str te) rs]) o ts := by
  obtain ⟨vs, e1, e2⟩ := h.inn
  obtain ⟨⟨ws, t, kd, te, g1, g2, g3, g4, g5⟩, g6, g7, g8, g9⟩ := h.out
  obtain ⟨n1, n2, n3, n4⟩ := h.nST
  have hcl : Hc l = none := h.no l (by simp)
  have s1 : Same Hc (upd Hc l (.lst vs)) := same_new hcl _
  obtain ⟨z1, z2, z3⟩ := n4 q.1 (by simp)
  have nb : ∀ b ∈ o.map (·.1), b ≠ S ∧ b ≠ T ∧ b ≠ l := fun b hb => n4 b (by simp only [List.map_cons, List.mem_cons]; exact .inr hb)
  refine ⟨upd Hc l (.lst vs), kd, te, h.old.trans s1, fun b x hb => ?_, ⟨_, by rw [upd_ne z1]; exact g1, (AllAt.mono (Same.kp s1) _ _ g2).app (AllAt.one ⟨t, l, vs, rfl, SqT.of (s1 _ _ g3), SqL.of upd_same, AllAt.mono (Same.kp s1) _ _ e2⟩)⟩,
    Outs.mono (Nat.le_succ _) s1 (fun b hb => upd_ne (nb b hb).1) g9, fun b hb => ?_, ?_, oks_app g6 ⟨⟨g4, ⟨te, rfl, g5⟩, Nat.le_trans h.wid hm, h.ok⟩, True.intro⟩, ?_, ?_, ?_, upd_same, ?_, h.tok⟩
  · by_cases e : b = l
    · rw [e, upd_same] at hb
      rw [e, upd_ne n2.symm]
      exact e1.trans hb
    · rw [upd_ne e] at hb
      rw [upd_ne (ne_of_none hb (h.no S (by simp)))]
      exact h.cl b x hb
  · have hbl : b ≠ l := by
      rcases List.mem_cons.mp hb with e | hb
      · rw [e]; exact n2
      rcases List.mem_cons.mp hb with e | hb
      · rw [e]; exact n3
      rcases List.mem_cons.mp hb with e | hb
      · rw [e]; exact z3
      · exact (nb b hb).2.2
    rw [upd_ne hbl]
    refine h.no b ?_
    simp only [opens, List.map_cons, List.mem_cons] at hb ⊢
    rcases hb with e | e | e | e
    · exact .inl e
    · exact .inr (.inl e)
    · exact .inr (.inr (.inr (.inl e)))
    · exact .inr (.inr (.inr (.inr e)))
  · have h1 := h.nd
    simp only [opens, List.map_cons, List.nodup_cons, List.mem_cons, not_or] at h1 ⊢
    obtain ⟨⟨a1, a2, a3, a4⟩, ⟨b1, b2, b3⟩, c1, d1, d2⟩ := h1
    exact ⟨⟨a1, a3, a4⟩, ⟨b2, b3⟩, d1, d2⟩
  · have hd : deps rs + (o.length + 1) ≤ 3 := h.dep
    rw [deps_app]
    show max (deps q.2) (max (deps rs + 1) 0) + o.length ≤ 3
    omega
  · rw [List.length_append]
    exact Nat.succ_le_succ g7
  · have hn : tots rs + (tots q.2 + 1 + outs o) ≤ m := h.num
    rw [tots_app]
    show tots q.2 + (tots rs + 1 + 0) + outs o ≤ m + 1
    omega
  · rw [upd_ne n1.symm]
    exact h.te
end
end Lm
/-! Kinds of values; things that are alike; rows that are thin; rows in further blocks. -/
namespace Lm
open PySem L2
theorem ty_list {K : PySem.W.Frag} {H : Hp} {a : Addr} {xs : List V} (h : SqL K H a xs) : TyX K H (.ref a) (.type "list") := by
  rcases h with (h | ⟨o, h⟩) | ⟨o, its, n, h1, h2, _⟩
  · exact .base (.lst h)
  · exact .base (.frz h)
  · exact .kList h1 h2
theorem ty_tuple {K : PySem.W.Frag} {H : Hp} {a : Addr} {xs : List V} (h : SqT K H a xs) : TyX K H (.ref a) (.type "tuple") := by
  rcases h with (h | ⟨o, h⟩) | ⟨o, its, n, h1, h2, _⟩
  · exact .base (.tup h)
  · exact .fTuple h
  · exact .kTuple h1 h2
theorem ty_int {K : PySem.W.Frag} {H : Hp} (i : Int) : TyX K H (.int i) (.type "int") := .base (.int i)
theorem ty_str {K : PySem.W.Frag} {H : Hp} (x : Str) : TyX K H (.str x) (.type "str") := .base (.str x)
theorem ty_bl {K : PySem.W.Frag} {H : Hp} (b : Bool) : TyX K H (.bl b) (.type "bool") := .base (.bl b)
/-- x and y are data of one form, at most n deep -/
def Alk (K : PySem.W.Frag) (H : Hp) : Nat → V → V → Prop
  | 0, _, _ => False
  | n + 1, x, y => (∃ s, x = .str s ∧ y = .str s) ∨ (∃ i, x = .int i ∧ y = .int i) ∨
    (∃ p q xs ys, x = .ref p ∧ y = .ref q ∧ SqL K H p xs ∧ SqL K H q ys ∧ xs.length = ys.length ∧ xs.length ≤ 10000 ∧ ∀ (i : Nat) (a b : V), xs[i]? = some a → ys[i]? = some b → Alk K H n a b) ∨
    (∃ p q xs ys, x = .ref p ∧ y = .ref q ∧ SqT K H p xs ∧ SqT K H q ys ∧ xs.length = ys.length ∧ xs.length ≤ 10000 ∧ ∀ (i : Nat) (a b : V), xs[i]? = some a → ys[i]? = some b → Alk K H n a b)
theorem Alk.mono {K : PySem.W.Frag} {H H' : Hp} (e : Kp H H') : ∀ {n m : Nat} {x y : V}, n ≤ m → Alk K H n x y → Alk K H' m x y
  | 0, _, _, _, _, h => h.elim
  | _ + 1, 0, _, _, hm, _ => absurd hm (by omega)
  | n + 1, m + 1, x, y, hm, h => by
    rcases h with h | h | ⟨p, q, xs, ys, h1, h2, h3, h4, h5, h6, h7⟩ | ⟨p, q, xs, ys, h1, h2, h3, h4, h5, h6, h7⟩
    · exact .inl h
    · exact .inr (.inl h)
    · exact .inr (.inr (.inl ⟨p, q, xs, ys, h1, h2, e.sqL h3, e.sqL h4, h5, h6, fun i a b ha hb => Alk.mono e (Nat.le_of_succ_le_succ hm) (h7 i a b ha hb)⟩))
    · exact .inr (.inr (.inr ⟨p, q, xs, ys, h1, h2, e.sqT h3, e.sqT h4, h5, h6, fun i a b ha hb => Alk.mono e (Nat.le_of_succ_le_succ hm) (h7 i a b ha hb)⟩))
theorem Alk.up {K : PySem.W.Frag} {H : Hp} {n m : Nat} {x y : V} (h : Alk K H n x y) (hm : n ≤ m) : Alk K H m x y := h.mono (Kp.refl H) hm
theorem alk_str {K : PySem.W.Frag} {H : Hp} {n : Nat} (s : Str) : Alk K H (n + 1) (.str s) (.str s) := Or.inl ⟨s, rfl, rfl⟩
theorem alk_int {K : PySem.W.Frag} {H : Hp} {n : Nat} (i : Int) : Alk K H (n + 1) (.int i) (.int i) := Or.inr (.inl ⟨i, rfl, rfl⟩)
theorem alk_vl {K : PySem.W.Frag} {H : Hp} {n : Nat} : ∀ x : Vl, Alk K H (n + 1) x.v x.v
  | .nm s => alk_str s
  | .nu i => alk_int i
theorem get_nil {α : Type} {i : Nat} {a : α} (h : ([] : List α)[i]? = some a) : False := by simp at h
mutual
theorem RowAt.alk {K : PySem.W.Frag} {H : Hp} {ss : List Str} : ∀ (r : Row) {v u : V}, r.ok ss → RowAt K H r v → RowAt K H r u → Alk K H (2 * r.dep + 2) v u
  | .lt to sg x y, v, u, ok, ⟨p, h1, h2⟩, ⟨q, g1, g2⟩ => by
    refine Or.inr (.inr (.inr ⟨p, q, _, _, h1, g1, h2, g2, rfl, by simp, fun i a b ha hb => ?_⟩))
    rw [ha] at hb
    cases hb
    match i, ha with
    | 0, ha => cases ha; exact alk_str _
    | 1, ha => cases ha; exact alk_str _
    | 2, ha => cases ha; exact alk_str _
    | 3, ha => cases ha; exact alk_vl _
    | 4, ha => cases ha; exact alk_vl _
    | i + 5, ha => exact (get_nil (i := i) ha).elim
  | .sy x, v, u, ok, ⟨p, h1, h2⟩, ⟨q, g1, g2⟩ => by
    refine Or.inr (.inr (.inr ⟨p, q, _, _, h1, g1, h2, g2, rfl, by simp, fun i a b ha hb => ?_⟩))
    rw [ha] at hb
    cases hb
    match i, ha with
    | 0, ha => cases ha; exact alk_str _
    | 1, ha => cases ha; exact alk_vl _
    | i + 2, ha => exact (get_nil (i := i) ha).elim
  | .bk kd ts rs, v, u, ⟨_, ⟨s, es, _⟩, hlen, hok⟩, ⟨p, l, vs, h1, h2, h3, h4⟩, ⟨q, k, us, g1, g2, g3, g4⟩ => by
    refine Or.inr (.inr (.inr ⟨p, q, _, _, h1, g1, h2, g2, rfl, by simp, fun i a b ha hb => ?_⟩))
    match i, ha, hb with
    | 0, ha, hb => cases ha; cases hb; exact alk_str _
    | 1, ha, hb => cases ha; cases hb; rw [es]; exact alk_str _
    | 2, ha, hb =>
      cases ha; cases hb
      have d : (Row.bk kd ts rs).dep = deps rs + 1 := rfl
      rw [d]
      exact Or.inr (.inr (.inl ⟨l, k, vs, us, rfl, rfl, h3, g3, by rw [h4.len, g4.len], by rw [h4.len]; omega, fun i a b ha hb => AllAt.alk rs hok h4 g4 ha hb⟩))
    | i + 3, ha, hb => exact (get_nil (i := i) ha).elim
theorem AllAt.alk {K : PySem.W.Frag} {H : Hp} {ss : List Str} : ∀ (rs : List Row) {vs us : List V} {i : Nat} {a b : V}, oks ss rs → AllAt K H rs vs → AllAt K H rs us → vs[i]? = some a → us[i]? = some b → Alk K H (2 * deps rs + 2) a b
  | [], vs, us, i, a, b, _, h, _, ha, _ => by
    have e : vs = [] := h
    rw [e] at ha
    exact (get_nil ha).elim
  | r :: rs, _, _, 0, a, b, ok, ⟨v, ws, h1, h2, h3⟩, ⟨u, zs, g1, g2, g3⟩, ha, hb => by
    rw [h1] at ha
    rw [g1] at hb
    cases ha
    cases hb
    have d : deps (r :: rs) = max r.dep (deps rs) := rfl
    exact (RowAt.alk r ok.1 h2 g2).up (by omega)
  | r :: rs, _, _, i + 1, a, b, ok, ⟨v, ws, h1, h2, h3⟩, ⟨u, zs, g1, g2, g3⟩, ha, hb => by
    rw [h1] at ha
    rw [g1] at hb
    have d : deps (r :: rs) = max r.dep (deps rs) := rfl
    exact (AllAt.alk rs ok.2 h3 g3 (by simpa using ha) (by simpa using hb)).up (by omega)
end
theorem RowsAt.alk {K : PySem.W.Frag} {H : Hp} {ss : List Str} {rs : List Row} {l k : Addr} (ok : oks ss rs) (hl : rs.length ≤ 10000) (h : RowsAt K H l rs) (g : RowsAt K H k rs) : Alk K H (2 * deps rs + 3) (.ref l) (.ref k) := by
  obtain ⟨vs, h3, h4⟩ := h
  obtain ⟨us, g3, g4⟩ := g
  exact Or.inr (.inr (.inl ⟨l, k, vs, us, rfl, rfl, h3, g3, by rw [h4.len, g4.len], by rw [h4.len]; exact hl, fun i a b ha hb => AllAt.alk rs ok h4 g4 ha hb⟩))
theorem take_one {α : Type} {l : List α} {i : Nat} {x : α} (h : l[i]? = some x) : l.take (i + 1) = l.take i ++ [x] := by
  rw [List.take_add_one, h]
  rfl
/-- the heap Hc is a part of H that stays; Hc' and H' are theirs later: nothing of H comes into it -/
structure Part (Hc H Hc' H' : Hp) : Prop where
  all : Same H H'
  cl : Same Hc Hc'
  sub : Same Hc' H'
  no : ∀ b o, H b = some o → Hc b = none → Hc' b = none
theorem Part.refl {Hc H : Hp} (h : Same Hc H) : Part Hc H Hc H := ⟨Same.refl _, Same.refl _, h, fun _ _ _ h => h⟩
theorem Part.trans {Hc H Hd G He F : Hp} (p : Part Hc H Hd G) (q : Part Hd G He F) : Part Hc H He F :=
  ⟨p.all.trans q.all, p.cl.trans q.cl, q.sub, fun b o h1 h2 => q.no b o (p.all b o h1) (p.no b o h1 h2)⟩
/-- a new object that stays -/
theorem Part.new {Hc H : Hp} (h : Same Hc H) {p : Addr} (hp : H p = none) (u : HO) : Part Hc H (upd Hc p u) (upd H p u) := by
  have hcp : Hc p = none := h.free hp
  refine ⟨same_new hp u, same_new hcp u, fun b x hb => ?_, fun b o h1 h2 => ?_⟩
  · by_cases e : b = p
    · rw [e, upd_same] at hb
      rw [e, upd_same]
      exact hb
    · rw [upd_ne e] at hb
      rw [upd_ne e]
      exact h b x hb
  · rw [upd_ne (ne_of_none h1 hp)]
    exact h2
/-- a new object that will change -/
theorem Part.open {Hc H : Hp} (h : Same Hc H) {p : Addr} (hp : H p = none) (u : HO) : Part Hc H Hc (upd H p u) :=
  ⟨same_new hp u, Same.refl _, h.trans (same_new hp u), fun _ _ _ h => h⟩
mutual
/-- no list in it is long -/
def Row.thin : Row → Prop
  | .lt _ _ _ _ => True
  | .sy _ => True
  | .bk _ _ rs => rs.length ≤ 2000 ∧ thins rs
def thins : List Row → Prop
  | [] => True
  | r :: rs => r.thin ∧ thins rs
end
mutual
theorem Row.ok_thin {ss : List Str} : ∀ (r : Row), r.ok ss → r.thin
  | .lt _ _ _ _, _ => True.intro
  | .sy _, _ => True.intro
  | .bk _ _ rs, ⟨_, _, h, g⟩ => ⟨h, oks_thins rs g⟩
theorem oks_thins {ss : List Str} : ∀ (rs : List Row), oks ss rs → thins rs
  | [], _ => True.intro
  | r :: rs, ⟨h, g⟩ => ⟨Row.ok_thin r h, oks_thins rs g⟩
end
theorem thins_at : ∀ {rs : List Row} {i : Nat} {r : Row}, thins rs → rs[i]? = some r → r.thin
  | [], _, _, _, e => by cases e
  | _ :: _, 0, _, h, e => by
    cases e
    exact h.1
  | _ :: _, _ + 1, _, h, e => thins_at h.2 e
theorem thins_app : ∀ {rs qs : List Row}, thins rs → thins qs → thins (rs ++ qs)
  | [], _, _, q => q
  | _ :: _, _, ⟨h1, h2⟩, q => ⟨h1, thins_app h2 q⟩
/-- qs is rs in n further blocks, each about the next -/
inductive Wrap (ss : List Str) (rs : List Row) : Nat → List Row → Prop where
  | base : Wrap ss rs 0 rs
  | next {n : Nat} {qs : List Row} {kd te : Str} : Wrap ss rs n qs → kd ∈ kinds → te ∈ ss → Wrap ss rs (n + 1) [.bk kd (.str te) qs]
theorem Wrap.len {ss : List Str} {rs qs : List Row} {n : Nat} (h : Wrap ss rs n qs) (hl : rs.length ≤ 2000) : qs.length ≤ 2000 := by
  cases h with
  | base => exact hl
  | next => show 1 ≤ 2000; decide
theorem Wrap.ok {ss : List Str} {rs qs : List Row} {n : Nat} (h : Wrap ss rs n qs) (hl : rs.length ≤ 2000) (ok : oks ss rs) : oks ss qs := by
  induction h with
  | base => exact ok
  | next h1 h2 h3 ih => exact ⟨⟨h2, ⟨_, rfl, h3⟩, h1.len hl, ih⟩, True.intro⟩
theorem Wrap.thin {ss : List Str} {rs qs : List Row} {n : Nat} (h : Wrap ss rs n qs) (hl : rs.length ≤ 2000) (ok : thins rs) : thins qs := by
  induction h with
  | base => exact ok
  | next h1 h2 h3 ih => exact ⟨⟨h1.len hl, ih⟩, True.intro⟩
theorem Wrap.deps {ss : List Str} {rs qs : List Row} {n : Nat} (h : Wrap ss rs n qs) : Lm.deps qs = Lm.deps rs + n := by
  induction h with
  | base => rfl
  | @next n qs kd te h1 h2 h3 ih =>
    show max (Lm.deps qs + 1) 0 = _
    omega
theorem Wrap.tots {ss : List Str} {rs qs : List Row} {n : Nat} (h : Wrap ss rs n qs) : Lm.tots qs = Lm.tots rs + n := by
  induction h with
  | base => rfl
  | @next n qs kd te h1 h2 h3 ih =>
    show Lm.tots qs + 1 + 0 = _
    omega
end Lm
/-! A test of each letter; tables that grow. -/
namespace Lm
open PySem PySem.Spec PyProof.Rows L2 GxR
theorem lt_one (a b : Nat) : decide (([a] : List Nat) < [b]) = decide (a < b) := by
  by_cases h : a < b
  · rw [decide_eq_true h]
    exact decide_eq_true (List.Lex.rel h)
  · rw [decide_eq_false h]
    refine decide_eq_false fun z => h ?_
    cases z with
    | rel q => exact q
    | cons q => cases q
def letter (c : Nat) : Bool := decide (97 ≤ c) && decide (c ≤ 122)
/-- 'a' <= x <= 'z' -/
theorem elt_letter {prog : Program} {w : World} {scope : Scope} {x : Str} {j k : Nat} {p1 p2 p3 p4 : Pos} (hk : scope.kind = .function) (hl : scope.names.lookup x = some .local) (hd : (x == ("__debug__" : Str)) = false := by decide) :
    EltP prog w scope x (.Compare (.Constant (.str "a") j p1) [.LtE, .LtE] [.Name x p2, .Constant (.str "z") k p3] p4) letter := by
  intro cenv A' E' c t s₂ m₂ hs hn hm
  refine Compare_chain (Calls.Constant_str (chain_link (wpAny_Name (wpAny_loadName_local (by rw [hs]; exact hk) (show cenv.scope.names.lookup x = some .local by rw [hs]; exact hl) hn hm ?_) hd))) (by with_unfolding_all rfl)
  refine PySem.P.le_str (wpAny_truthy_bool ?_)
  have e1 : decide ((⟨#[c]⟩ : Str).cps.toList < ("a" : Str).cps.toList) = decide (c < 97) := lt_one c 97
  have e2 : decide (("z" : Str).cps.toList < (⟨#[c]⟩ : Str).cps.toList) = decide (122 < c) := lt_one 122 c
  rw [e1]
  by_cases h : c < 97
  · have z : letter c = false := by unfold letter; rw [decide_eq_false (by omega)]; rfl
    rw [decide_eq_true h, z]
    exact ite_ff ⟨rfl, keeps_tok _ _⟩
  · rw [decide_eq_false h]
    refine ite_tt (chain_last (Calls.Constant_str (PySem.P.le_str ?_)))
    rw [e2]
    refine ⟨?_, keeps_tok _ _⟩
    unfold letter
    rw [decide_eq_true (by omega : 97 ≤ c), Bool.true_and]
    by_cases g : 122 < c
    · rw [decide_eq_true g, decide_eq_false (by omega)]; rfl
    · rw [decide_eq_false g, decide_eq_true (by omega)]; rfl
theorem ble_dec (a b : Nat) : Nat.ble a b = decide (a ≤ b) := by
  rw [Bool.eq_iff_iff, decide_eq_true_eq]
  exact ⟨Nat.le_of_ble_eq_true, Nat.ble_eq_true_of_le⟩
theorem letters_all : ∀ l : List Nat, lettersB l = l.all letter
  | [] => rfl
  | c :: r => by
    show (Nat.ble 97 c && (Nat.ble c 122 && lettersB r)) = (letter c && r.all letter)
    rw [letters_all r, ← Bool.and_assoc, ble_dec, ble_dec]
    rfl
/-- the table has grown, all else is as it was -/
theorem tabbed_kp {P : Addr} {H H' : Hp} (hP : TabG H P) (h : Tabbed P H H') : Kp H H' := ⟨fun b o e n => by
  have hb : b ≠ P := fun z => by
    obtain ⟨ps, q, _⟩ := hP
    rw [z, q] at e
    cases e
    exact n ps rfl
  rw [h.2 b hb]
  exact e, fun b ps e => by
  by_cases hb : b = P
  · obtain ⟨qs, q, _⟩ := h.1
    rw [hb]
    exact ⟨qs, q⟩
  · exact ⟨ps, by rw [h.2 b hb]; exact e⟩⟩
theorem tab_upd {P b : Addr} {H : Hp} {o : HO} (hP : TabG H P) (hb : P ≠ b) : TabG (upd H b o) P := by
  obtain ⟨ps, q, r⟩ := hP
  exact ⟨ps, by rw [upd_ne hb]; exact q, r⟩
theorem tab_ne {P b : Addr} {H : Hp} {o : HO} (hP : TabG H P) (hb : H b = some o) (n : ∀ ps, o ≠ .tbl ps) : P ≠ b := fun z => by
  obtain ⟨ps, q, _⟩ := hP
  rw [z, hb] at q
  cases q
  exact n ps rfl
theorem tab_free {P b : Addr} {H : Hp} (hP : TabG H P) (hb : H b = none) : P ≠ b := fun z => by
  obtain ⟨ps, q, _⟩ := hP
  rw [z, hb] at q
  cases q
theorem tab_new {P b : Addr} {H : Hp} {o : HO} (hP : TabG H P) (hb : H b = none) : TabG (upd H b o) P := tab_upd hP (tab_free hP hb)
theorem tab_same {P : Addr} {H H' : Hp} (hP : TabG H P) (h : Same H H') : TabG H' P := by
  obtain ⟨ps, q, r⟩ := hP
  exact ⟨ps, h _ _ q, r⟩
theorem Tabbed.refl {P : Addr} {H : Hp} (hP : TabG H P) : Tabbed P H H := ⟨hP, fun _ _ => rfl⟩
def barsS : List Str := ["say", "when", "loop", "again", "end"]
theorem str_eq {x y : Str} (h : x.cps.toList = y.cps.toList) : x = y := by
  obtain ⟨a⟩ := x
  obtain ⟨b⟩ := y
  have e : a = b := Array.toList_inj.mp h
  rw [e]
theorem bars_in (s : Str) : inV (.str s) (barsS.map V.str) = isBar s.cps.toList := by
  have h : ∀ y : Str, eqV (.str y) (.str s) = sameL s.cps.toList y.cps.toList := fun y => by
    show (y == s) = _
    rw [Bool.eq_iff_iff, beq_iff_eq, sameL_iff]
    exact ⟨fun e => by rw [e], fun e => (str_eq e).symm⟩
  have e : bars = barsS.map (fun y => y.cps.toList) := by decide +kernel
  unfold inV isBar
  rw [e, List.any_map, List.any_map]
  exact congrArg (fun f => List.any barsS f) (funext fun y => h y)
/-- a def whose code object is told -/
theorem ok_code {P : Program} {w : World} {K : PySem.W.Frag} {mg : Str → Option Value} {base : Heap} {x qual : Str} {st : Stmt} {f : Addr} {fd : FuncData} {N ps : List Str} {k : Nat} {sp : Sp} (F : Fun K x qual st f fd) (S : FnScope N ps (defScope st))
    (len : ∀ vs H Q E, sp vs H Q E → vs.length = ps.length)
    (hbody : ∀ (A : Around) (outer : List Env) (s : Shared) (H : Hp) (vs : List V) (Q : VK) (E : XK), Room k (A.deeper (envOfC qual (defScope st) s.heap.objs.size f fd.code)) → sp vs H Q E →
      ∃ t, PSs (cxOf CX0 P w K mg base N qual (defScope st) f fd.code A outer s H E).nox (defBody st) t ∧ t { nx := fun _ H' => Q .non H', rt := Q } (L2.start N vs) H) : FnOk P w K mg base CX0 (k + 1) f fd ps sp := by
  obtain ⟨oc, od, kV, doc, pm, an, cdv, ct, osl, rfl, lk, hcd⟩ := F.ex
  exact fn_of lk hcd S len fun A outer s H vs Q E hr h => let ⟨t, h1, h2⟩ := hbody A outer s H vs Q E hr h; ⟨t, h1.nox, h2⟩
/-- is it a name -/
def isNm : V → Bool
  | .str s => GoodL s.cps.toList
  | _ => false
end Lm
set_option maxHeartbeats 2000000
/-! Sets of texts whose order of walking is known to end: made, filled, sorted. -/
namespace Lm
open PySem PySem.Spec PyProof.Rows L2
/-- the text of an entry -/
def txt (e : Int × Value) : Str := match e.2 with
  | .str x _ => x
  | _ => Str.empty
def TxtE (w : World) (e : Int × Value) : Prop := ∃ x tk, e.2 = Value.str x tk ∧ e.1 = hashStr w x
/-- at a stands a set of texts: its members, how many they are -/
structure TxtRaw (w : World) (S : Str → Bool) (n : Nat) (o : Obj) (es : Array (Int × Value)) (ep : Nat) (t : SetTable) : Prop where
  ex : o.ExactSet
  dat : o.data = .set es ep t
  ent : ∀ e ∈ es.toList, TxtE w e
  nd : (es.toList.map txt).Nodup
  mem : ∀ x, S x = true ↔ x ∈ es.toList.map txt
  few : es.size < scanBound
  fit : t.fits es.size = true
  num : es.size = n
  ris : Ris t.place.toList
  led : w.params.followText "set-order" = true ∨ t.led = true
def TxtSet (w : World) (h : Heap) (a : Addr) (S : Str → Bool) (n : Nat) : Prop := ∃ o es ep t, h.get? a = some o ∧ TxtRaw w S n o es ep t
section
variable {P : Program} {w : World} {h h' : Heap} {a : Addr} {S : Str → Bool} {n : Nat}
theorem txt_elems {l : List (Int × Value)} (g : ∀ e ∈ l, TxtE w e) : ElemsOf (PySem.strKind P w) l := by
  intro e he
  obtain ⟨x, tk, q1, q2⟩ := g e he
  exact ⟨⟨x, by rw [q1]; exact strKind_is P w x tk, q2⟩, by rw [q1]; rfl⟩
theorem txt_is {e : Int × Value} (g : TxtE w e) (x : Str) : (PySem.strKind P w).is x e.2 = true ↔ txt e = x := by
  obtain ⟨y, tk, q1, _⟩ := g
  have e1 : txt e = y := by
    unfold txt
    rw [q1]
  rw [e1, q1]
  constructor
  · intro z
    have z' : Value.isStrOf x (.str y tk) = true := z
    obtain ⟨u, eu⟩ := Value.isStrOf_shape z'
    injection eu with e2 _
  · rintro rfl
    exact strKind_is P w y tk
theorem txt_mem {l : List (Int × Value)} (g : ∀ e ∈ l, TxtE w e) (x : Str) : x ∈ l.map txt ↔ ∃ e ∈ l, (PySem.strKind P w).is x e.2 = true := by
  constructor
  · intro hx
    obtain ⟨e, he, q⟩ := List.mem_map.mp hx
    exact ⟨e, he, (txt_is (g e he) x).mpr q⟩
  · rintro ⟨e, he, q⟩
    exact List.mem_map.mpr ⟨e, he, (txt_is (g e he) x).mp q⟩
theorem TxtSet.setOf (R : TxtSet w h a S n) : h.SetOf (PySem.strKind P w) a S n :=
  let ⟨o, es, ep, t, ho, r⟩ := R
  ⟨o, es, ep, t, ho, r.ex, r.dat, txt_elems r.ent, fun x => (r.mem x).trans (txt_mem r.ent x), r.few, r.fit, r.num⟩
theorem txt_fresh {h : Heap} (w : World) : TxtSet w (h.push { cls := .type "set", dict := none, data := .set #[] 0 (.fresh 0 0 (!w.params.followText "set-order")) }) h.objs.size (fun _ => false) 0 := by
  refine ⟨_, #[], 0, _, Heap.get?_push_size _ rfl, ⟨⟨rfl, rfl, rfl⟩, rfl, fun e he => by simp at he, by simp, fun k => by simp, by decide, rfl, rfl, List.Pairwise.nil, ?_⟩⟩
  show _ ∨ (!w.params.followText "set-order") = true
  cases w.params.followText "set-order" with
  | false => exact Or.inr rfl
  | true => exact Or.inl rfl
end
section
variable {P : Program} {w : World} {A : Around} {E : Value → Shared → Prop} {s : Shared} {a : Addr} {S : Str → Bool} {n : Nat}
theorem put_at {h : Heap} {o : Obj} {es es' : Array (Int × Value)} {ep : Nat} {t t' : SetTable} (ho : h.get? a = some o) (hd : o.data = .set es ep t) : (h.update a (Obj.putSet es' t')).get? a = some { o with data := .set es' (ep + 1) t' } := by
  have z := Heap.get?_update_self (Obj.putSet es' t') ho (by rw [putSet_of es' t' hd]; rfl)
  rwa [putSet_of es' t' hd] at z
/-- what is laid is stored; a table that is too full is laid anew -/
theorem txt_tail {g : Bool → Sem Unit} (hg : ∀ (b : Bool) (s₁ : Shared) (Q' : Unit → Shared → Prop), Q' () s₁ → wpAny (model P w) A (g b) Q' E s₁)
    {o : Obj} {es : Array (Int × Value)} {ep : Nat} {t : SetTable} (ho : s.heap.get? a = some o) (hex : o.ExactSet) (hd : o.data = .set es ep t) {eN : Array (Int × Value)} {tN : SetTable} {S' : Str → Bool}
    (q1 : ∀ e ∈ eN.toList, TxtE w e) (q2 : (eN.toList.map txt).Nodup) (q3 : ∀ x, S' x = true ↔ x ∈ eN.toList.map txt) (q4 : eN.size < scanBound) (q5 : tN.fits eN.size = true) (q6 : Ris tN.place.toList)
    (q7 : w.params.followText "set-order" = true ∨ tN.led = true) {dum : Bool} {R : Option Bool → Shared → Prop} (hR : ∀ h', Heap.SameBut a s.heap h' → TxtSet w h' a S' eN.size → R (some true) { s with heap := h' }) :
    wpAny (model P w) A (do
      storeSet a eN tN
      if (!dum && tN.tooFull) = true then do
        g (relayAll tN eN (SetTable.grown eN.size)).2.2
        storeSet a (relayAll tN eN (SetTable.grown eN.size)).1 (relayAll tN eN (SetTable.grown eN.size)).2.1
        pure (some true)
      else pure (some true)) R E s := by
  have b1 := Heap.SameBut.update s.heap a (Obj.putSet eN tN)
  have a1 := put_at (es' := eN) (t' := tN) ho hd
  refine wpAny_bind (wpAny_storeSet_of ho hd ?_ (fits_of_scanBound q4))
  by_cases c : (!dum && tN.tooFull) = true
  · rw [if_pos c]
    have z1 := relayAll_perm tN eN (SetTable.grown eN.size)
    have z2 := relayAll_fits tN eN (SetTable.grown eN.size)
    have z3 := relayAll_ris tN eN (SetTable.grown eN.size)
    have z4 := relayAll_led tN eN (SetTable.grown eN.size)
    revert z1 z2 z3 z4
    generalize relayAll tN eN (SetTable.grown eN.size) = Z
    obtain ⟨eM, tM, gv⟩ := Z
    intro z1 z2 z3 z4
    dsimp only at z1 z2 z3 z4 ⊢
    have z5 : eM.size = eN.size := by rw [← Array.length_toList, z1.length_eq, Array.length_toList]
    have z6 : eM.size < scanBound := by rw [z5]; exact q4
    refine wpAny_bind (hg gv _ _ (wpAny_bind (wpAny_storeSet_of a1 rfl ?_ (fits_of_scanBound z6))))
    have a2 := put_at (es' := eM) (t' := tM) a1 rfl
    exact wpAny_pure (hR _ (b1.trans (Heap.SameBut.update _ a _)) ⟨_, eM, _, tM, a2, ⟨hex, rfl, fun e he => q1 e (z1.mem_iff.mp he), (z1.map txt).nodup_iff.mpr q2, fun x => (q3 x).trans (z1.map txt).mem_iff.symm, z6, z2, z5, z3, q7.imp id (fun z => z4.trans z)⟩⟩)
  · rw [if_neg c]
    exact wpAny_pure (hR _ b1 ⟨_, eN, _, tN, a1, ⟨hex, rfl, q1, q2, q3, q4, q5, rfl, q6, q7⟩⟩)
theorem txt_hashed {x : Str} {tk : Tok} {Q : Bool → Shared → Prop} (R : TxtSet w s.heap a S n) (room : n + 1 < scanBound)
    (hQ : ∀ h', Heap.SameBut a s.heap h' → TxtSet w h' a (fun y => S y || decide (y = x)) (if S x = true then n else n + 1) → Q (!S x) { s with heap := h' }) :
    wpAny (model P w) A (setAddHashed a (.str x tk) ((PySem.strKind P w).hash x)) Q E s := by
  obtain ⟨o, es, ep, t, ho, r⟩ := R
  have key : (PySem.strKind P w).is x (.str x tk) = true := strKind_is P w x tk
  have sc : (Value.str x tk).scannable = true := rfl
  have el : ElemsOf (PySem.strKind P w) es.toList := txt_elems r.ent
  unfold setAddHashed setAddHashedIn
  refine wpAny_holding (wpAny_bind (wpAny_setState_of ho r.dat r.fit ?_))
  dsimp only
  rw [byScan_of sc r.few el]
  simp only [↓reduceIte]
  unfold setAddByScan
  refine wpAny_bind (wpAny_bind (wpAny_rule (wpAny_bind (wpAny_setScan_of key ho r.dat r.fit el ?_))))
  cases hfi : List.findIdx? (fun e => (PySem.strKind P w).is x e.2) es.toList with
  | some j =>
    obtain ⟨hj, pj, _⟩ := List.findIdx?_eq_some_iff_getElem.mp hfi
    have inS : S x = true := (r.mem x).mpr ((txt_mem (P := P) (w := w) r.ent x).mpr ⟨es.toList[j], List.getElem_mem hj, pj⟩)
    have z := hQ s.heap (Heap.SameBut.refl a s.heap) ⟨o, es, ep, t, ho, { r with mem := fun y => ?_, num := by rw [if_pos inS]; exact r.num }⟩
    · rw [inS] at z
      dsimp only
      exact wpAny_pure (wpAny_pure z)
    · rw [Bool.or_eq_true, decide_eq_true_eq, ← r.mem y]
      exact ⟨fun c => c.elim id fun e => by rw [e]; exact inS, Or.inl⟩
  | none =>
    have notIn : x ∉ es.toList.map txt := fun c => by
      obtain ⟨e, he, q⟩ := (txt_mem (P := P) (w := w) r.ent x).mp c
      have d := List.findIdx?_eq_none_iff.mp hfi e he
      rw [q] at d
      exact Bool.noConfusion d
    have notS : S x = false := Bool.eq_false_iff.mpr fun c => notIn ((r.mem x).mp c)
    have gave : ∀ (b : Bool) {s₁ : Shared} {Q' : Unit → Shared → Prop}, Q' () s₁ → wpAny (model P w) A (match b with | true => rule "set.scan.the-table-gave-way" | false => pure ()) Q' E s₁ := by
      intro b s₁ Q' q
      cases b with
      | true => exact wpAny_rule q
      | false => exact wpAny_pure q
    dsimp only
    have z1 := layNew_perm t es ((PySem.strKind P w).hash x) (.str x tk)
    have z2 := layNew_fits t es ((PySem.strKind P w).hash x) (.str x tk)
    have z3 := layNew_ris t es ((PySem.strKind P w).hash x) (.str x tk) r.ris
    have z4 := layNew_led t es ((PySem.strKind P w).hash x) (.str x tk)
    revert z1 z2 z3 z4
    generalize layNew t es ((PySem.strKind P w).hash x) (.str x tk) = Z
    obtain ⟨eN, tN, dum, gv⟩ := Z
    intro z1 z2 z3 z4
    dsimp only at z1 z2 z3 z4 ⊢
    rw [Array.toList_push] at z1
    have pc : eN.toList.Perm (((PySem.strKind P w).hash x, Value.str x tk) :: es.toList) := z1.trans (List.perm_append_singleton _ _)
    have pk : (eN.toList.map txt).Perm (x :: es.toList.map txt) := pc.map txt
    have q1 : ∀ e ∈ eN.toList, TxtE w e := by
      intro e he
      rcases List.mem_cons.mp (pc.mem_iff.mp he) with c | c
      · exact ⟨x, tk, by rw [c], by rw [c]; rfl⟩
      · exact r.ent e c
    have q2 : (eN.toList.map txt).Nodup := pk.nodup_iff.mpr (List.nodup_cons.mpr ⟨notIn, r.nd⟩)
    have q3 : ∀ y, (S y || decide (y = x)) = true ↔ y ∈ eN.toList.map txt := by
      intro y
      rw [pk.mem_iff, List.mem_cons, Bool.or_eq_true, decide_eq_true_eq, r.mem y, or_comm]
    have sz : eN.size = n + 1 := by rw [← Array.length_toList, pc.length_eq, List.length_cons, Array.length_toList, r.num]
    have q4 : eN.size < scanBound := by rw [sz]; exact room
    have q7 : w.params.followText "set-order" = true ∨ tN.led = true := r.led.imp id fun c => by rw [z4]; exact c
    have done : ∀ h', Heap.SameBut a s.heap h' → TxtSet w h' a (fun y => S y || decide (y = x)) eN.size → Q true { s with heap := h' } := by
      intro h' sb c
      have z := hQ h' sb
      rw [notS] at z
      rw [sz] at c
      exact z c
    have give : ∀ (b : Bool) (s₁ : Shared) (Q' : Unit → Shared → Prop), Q' () s₁ → wpAny (model P w) A (match b with | true => rule "set.scan.the-table-gave-way" | false => pure ()) Q' E s₁ := fun b s₁ Q' q => gave b q
    refine wpAny_bind (gave gv ?_)
    split
    · refine wpAny_bind ?_
      rw [hashByValue_scannable 8 sc]
      refine wpAny_pure (txt_tail give ho r.ex r.dat q1 q2 q3 q4 ?_ ?_ ?_ fun h' sb c => ?_)
      · split
        · exact SetTable.fits_plain_off z2
        · exact z2
      · split <;> exact z3
      · split <;> exact q7
      · dsimp only
        exact wpAny_pure (done h' sb c)
    · refine wpAny_bind (wpAny_pure ?_)
      simp only [↓reduceIte]
      refine txt_tail give ho r.ex r.dat q1 q2 q3 q4 z2 z3 q7 fun h' sb c => ?_
      dsimp only
      exact wpAny_pure (done h' sb c)
/-- found.add(x) -/
theorem txt_add {x : Str} {tk : Tok} {Q : Value → Shared → Prop} (R : TxtSet w s.heap a S n) (room : n + 1 < scanBound)
    (hQ : ∀ h', Heap.SameBut a s.heap h' → TxtSet w h' a (fun y => S y || decide (y = x)) (if S x = true then n else n + 1) → Q .none { s with heap := h', toks := s.toks + 1 }) :
    wpAny (model P w) A (call (.builtin "set.add") [.ref a, .str x tk]) Q E s := by
  refine wpAny_call_entry F.slot_set_add (TxtSet.setOf (P := P) R).typeIs F.entry_set_add ?_ (F.args_set_add_2 _ _)
  unfold Builtin.«set.add» Builtin.Frozenset.oneOther
  simp only [List.isEmpty_nil, bind_assoc]
  unfold Builtin.Frozenset.addrOf setAdd
  refine wpAny_bind (wpAny_pure ?_)
  try dsimp only
  refine wpAny_bind (wpAny_pure ?_)
  try dsimp only
  refine wpAny_bind (wpAny_holding (wpAny_bind ((PySem.strKind P w).pyHash (k := x) (strKind_is P w x tk) ?_)))
  refine txt_hashed (s := { s with toks := s.toks + 1 }) R room fun h' sb c => ?_
  show wpAny _ _ (ret Value.none) _ _ _
  exact wpAny_pure ⟨_, rfl, hQ h' sb c⟩
theorem strs_of : ∀ (l : List (Int × Value)), (∀ e ∈ l, TxtE w e) → StrsAre (l.map (·.2)) (l.map txt)
  | [], _ => .nil
  | e :: l, h => by
    obtain ⟨x, tk, q, _⟩ := h e List.mem_cons_self
    have e1 : txt e = x := by unfold txt; rw [q]
    rw [List.map_cons, List.map_cons, e1, q]
    exact .cons x tk (strs_of l fun u hu => h u (List.mem_cons_of_mem _ hu))
theorem strs_perm : ∀ {vs us : List Value} {xs : List Str}, vs.Perm us → StrsAre us xs → ∃ ys, StrsAre vs ys ∧ ys.Perm xs := by
  intro vs us xs p
  induction p generalizing xs with
  | nil => exact fun h => ⟨xs, h, List.Perm.refl _⟩
  | cons v _ ih =>
    intro h
    cases h with
    | cons x t r =>
      obtain ⟨ys, h1, h2⟩ := ih r
      exact ⟨x :: ys, .cons x t h1, h2.cons x⟩
  | swap v u l =>
    intro h
    cases h with
    | cons x t r =>
      cases r with
      | cons y t' r => exact ⟨y :: x :: _, .cons y t' (.cons x t r), List.Perm.swap _ _ _⟩
  | trans _ _ ih1 ih2 =>
    intro h
    obtain ⟨ys, h1, h2⟩ := ih2 h
    obtain ⟨zs, g1, g2⟩ := ih1 h1
    exact ⟨zs, g1, g2.trans h2⟩
theorem strs_len : ∀ {vs : List Value} {xs : List Str}, StrsAre vs xs → vs.length = xs.length
  | _, _, .nil => rfl
  | _, _, .cons _ _ r => by rw [List.length_cons, List.length_cons, strs_len r]
/-- sorted(found), fewer than 64 members -/
theorem txt_sorted {Q : Value → Shared → Prop} (R : TxtSet w s.heap a S n) (hh : A.handled = none) (h64 : n < 64)
    (hQ : ∀ s' p (out : Array Value) (c : Nat) (ys : List Str), (∀ b o, s.heap.get? b = some o → s'.heap.get? b = some o) → s'.gens = s.gens → s'.os = s.os → s.heap.objs.size ≤ p →
      s'.heap.get? p = some (seqObj "list" out c) → StrsAre out.toList ys → sortedS ys = true → ys.Nodup → (∀ x, x ∈ ys ↔ S x = true) → ys.length = n → Q (.ref p) s') :
    wpAny (model P w) A (call (.builtin "sorted") [.ref a]) Q E s := by
  obtain ⟨o, es, ep, t, ho, r⟩ := R
  refine Calls.call_function_entry kind_sorted plain_sorted entry_sorted (args_sorted1 _) ?_
  unfold Builtin.«sorted»
  refine wpAny_bind (m := checkCount "sorted" 1 1 _) (wpAny_pure (wpAny_bind (collect_set (A := A.in1) hh ⟨o, ho, r.ex.1, r.dat⟩ r.fit r.few r.ris r.led fun s1 vs k1 hz g1 o1 pm => ?_)))
  obtain ⟨xs, x1, x2⟩ := strs_perm pm (strs_of (w := w) es.toList r.ent)
  have lv : vs.length = n := by rw [pm.length_eq, List.length_map, Array.length_toList, r.num]
  have at1 : (s1.heap.push (seqObj "list" vs.toArray 0)).get? s1.heap.objs.size = some (seqObj "list" vs.toArray 0) := Heap.get?_push_size _ rfl
  refine wpAny_bind (wpAny_newList ?_ (by rw [lv, sizeLine_eq]; omega))
  refine wpAny_bind (wpAny_holding (wpAny_call_entry slot_list_sort ⟨_, at1, rfl⟩ entry_list_sort (list_sort_treeK strKind_oneLt at1 x1.keysOf (fun v₁ v₂ rest e => keyKind_strs (by rw [← e]; exact x1)) (by rw [lv]; exact h64) fun st' hp hs => ?_) (args_list_sort _)))
  obtain ⟨ys, y1, y2, y3⟩ := sorted_out_str x1 hp hs
  obtain ⟨c, hc⟩ := sortedHeap_at (vs := vs) (out := (arrOf st').map (·.2)) at1
  have pn : ys.Perm (es.toList.map txt) := y2.trans x2
  refine ⟨_, rfl, wpAny_pure ⟨_, rfl, hQ _ s1.heap.objs.size _ c ys (fun b u e => ?_) g1 o1 hz hc y1 y3 (pn.nodup_iff.mpr r.nd) (fun x => by rw [pn.mem_iff, ← r.mem x]) ?_⟩⟩
  · have old := k1 b u e
    have lt := Heap.lt_size old
    show (sortedHeap (s1.heap.push (seqObj "list" vs.toArray 0)) s1.heap.objs.size vs ((arrOf st').map (·.2))).get? b = some u
    rw [sortedHeap_old (Nat.ne_of_lt lt) (by rw [size_push']; exact Nat.lt_succ_of_lt lt)]
    exact Heap.get?_push_of_some _ old
  · rw [pn.length_eq, List.length_map, Array.length_toList, r.num]
end
/-! ### the layer's rules -/
/-- the set of texts at a -/
def SetX (w : World) (a : Addr) (S : Str → Bool) (n : Nat) : HO := .ext fun h => TxtSet w h a S n
section
variable {X : Cx}
theorem setX_new {P : Program} {w : World} {H : Hp} {h : Heap} {a : Addr} {S : Str → Bool} {n : Nat} (R : TxtSet w h a S n) : ObjOk P w H h a (SetX w a S n) := by
  have ⟨o, _, _, _, ho, _⟩ := R
  exact ⟨R, ⟨o, ho⟩, fun h1 h2 ⟨o, es, ep, t, e, r⟩ k => ⟨o, es, ep, t, k o e, r⟩⟩
theorem setX_get {pins : List (Addr × Obj)} {σ : L2.St} {H : Hp} {s : Shared} {a : Addr} {S : Str → Bool} {n : Nat} (I : Inv X pins σ H s) (ha : H a = some (SetX X.w a S n)) : TxtSet X.w s.heap a S n := (I.hok a _ ha).1
def rSet0X (w : World) : List V → Hp → VK → Prop := fun xs H Q => xs = [] ∧ ∀ p, H p = none → Q (.ref p) (upd H p (SetX w p (fun _ => false) 0))
theorem cr_set0X : CallR X (.type "set") (rSet0X X.w) := by
  intro pins s σ H xs us Q I r h
  obtain ⟨rfl, q⟩ := h
  cases r
  exact setR_new fun _ => ⟨.ref _, _, I.laid (t' := s.toks) (fun b u e => Heap.get?_push_of_some _ e) (Nat.le_refl _) (setX_new (txt_fresh X.w)), rfl, q _ (I.hok.fresh (Nat.le_refl _))⟩
def rSAddX (w : World) : V → List V → Hp → VK → Prop := fun x xs H Q => ∃ (a : Addr) (z : Str) (S : Str → Bool) (n : Nat), x = V.ref a ∧ xs = [.str z] ∧ H a = some (SetX w a S n) ∧ n + 1 < scanBound ∧
  Q .non (upd H a (SetX w a (fun y => S y || decide (y = z)) (if S z = true then n else n + 1)))
theorem mt_saddX : MtR X "set.add" (rSAddX X.w) := by
  intro pins s σ H x xs v us Q I rx rxs h
  obtain ⟨a, z, S, n, rfl, rfl, ha, room, q⟩ := h
  cases rx
  cases rxs with
  | cons ry rt =>
    cases rt
    obtain ⟨tk, rfl⟩ := ry
    refine txt_add (setX_get I ha) room fun h' sb c => ?_
    have he : ∃ u, h'.get? a = some u := let ⟨o, _, _, _, ho, _⟩ := c; ⟨o, ho⟩
    exact ⟨.non, _, I.write (e := a) (t' := s.toks + 1) (by rw [ha]; trivial) (Or.inl rfl) (fun b u hb hu => (sb.2 b hb).trans hu) he (setX_new c), rfl, q⟩
def tSAddX (w : World) (to : TE) (t : TA) : TE := fun σ H Q => to σ H fun x H1 => (∃ a S n, x = V.ref a ∧ H1 a = some (SetX w a S n)) ∧ t σ H1 fun xs H2 => rSAddX w x xs H2 Q
theorem pe_saddX {o e : Expr} {es : List Expr} {to : TE} {t : TA} {apos cpos : Pos} (ho : PE X o to) (ha : PA X (e :: es) t) (hbase : attributeBase o "add" X.env (eval o X.env) = eval o X.env := by rfl)
    (hfew : ((backTo cpos (starEach (e :: es) X.env)).all (fun x => !x.1) && (backToKw cpos (keywordEach [] X.env)).all (fun x => x.1.isSome) && decide ((e :: es).length + ([] : List Keyword).length + (if ([] : List Keyword).isEmpty then 0 else 1) < 30)) = true := by rfl)
    (hline : (apos.endLine == cpos.line) = true := by rfl) (hst : starEach (e :: es) X.env = (false, eval e X.env) :: starEach es X.env := by rfl) (hpl : (backTo cpos (starEach es X.env)).any (·.1) = false := by rfl) :
    PE X (.Call (.Attribute o "add" apos) (e :: es) [] cpos) (tSAddX X.w to t) := by
  refine ⟨fun pins s σ H Q I h => wpAny_Call_method_late hbase hfew hline rfl (thn (ho.run pins s σ H _ I h) fun v s1 ⟨x, H1, I1, r1, ty, q1⟩ => ?_)⟩
  obtain ⟨a, S, n, rfl, hka⟩ := ty
  have hS := TxtSet.setOf (P := X.prog) (setX_get I1 hka)
  cases r1
  refine ⟨"set", "set.add", F.plainAttrs_set, F.slot_set_add, F.type_set_add, hS.typeIs, hS.noDict, ?_⟩
  have hA := ha.run cpos pins s1 σ H1 _ I1 q1
  rw [hst] at hA ⊢
  exact Calls.callWith_builtin (by show (false || (backTo cpos (starEach es X.env)).any (·.1)) = false; rw [hpl]; rfl) (Calls.evalArgs_plain (thn hA fun us s2 ⟨vs, H2, I2, r2, q2⟩ => mt_saddX pins s2 σ H2 (.ref a) vs (.ref a) us Q I2 rfl r2 q2))
/-- sorted(found), fewer than 64 members -/
def rSortX (w : World) : List V → Hp → VK → Prop := fun vs H Q => ∃ (a : Addr) (S : Str → Bool) (n : Nat), vs = [V.ref a] ∧ H a = some (SetX w a S n) ∧ n < 64 ∧
  ∀ (ys : List Str) (p : Addr), sortedS ys = true → ys.Nodup → (∀ x, x ∈ ys ↔ S x = true) → H p = none → Q (.ref p) (upd H p (.lst (ys.map V.str)))
theorem cr_sortX (hc : X.calm = true) : CallR X (.builtin "sorted") (rSortX X.w) := by
  intro pins s σ H vs us Q I r h
  obtain ⟨a, S, n, rfl, ha, h64, q⟩ := h
  rw [Vals.ref1 r]
  refine txt_sorted (setX_get I ha) (I.ok.hd hc) h64 fun s' p out c ys k g o hp hg hi hs hnd hm hl => ?_
  have free : H p = none := I.hok.fresh hp
  have fits : (ys.map V.str).length ≤ sizeLine := by rw [List.length_map, hl, sizeLine_eq]; omega
  have J : Inv X pins σ (upd H p (.lst (ys.map V.str))) { s with heap := s'.heap, gens := s'.gens, drawn := s'.drawn, toks := s'.toks } :=
    I.call (ch := []) (Un.laid k hp free) (I.hok.laid k hp ⟨fits, out.toList, c, vals_of_strs hi, hg⟩) (by rw [g]; exact I.bare) (fun _ z => by cases z)
  have e : s' = { s with heap := s'.heap, gens := s'.gens, drawn := s'.drawn, toks := s'.toks } := by
    obtain ⟨_, _, _, _, _⟩ := s'
    obtain ⟨_, _, _, _, _⟩ := s
    cases o
    rfl
  rw [e]
  exact ⟨.ref p, _, J, rfl, q ys p hs hnd hm free⟩
end
end Lm
/-! Rows one behind another, at any depth; what one row asks for, sets, may do. -/
namespace Lm
open PySem L2
theorem ifT {c : Bool} {A B : Prop} (hc : c = true) (h : A) : if c = true then A else B := (if_pos hc).symm ▸ h
theorem ifF {c : Bool} {A B : Prop} (hc : c = false) (h : B) : if c = true then A else B := by
  subst hc
  exact iteF h
mutual
def Row.flat : Row → List Row
  | .lt to sg a b => [.lt to sg a b]
  | .sy a => [.sy a]
  | .bk kd ts rs => .bk kd ts rs :: flats rs
def flats : List Row → List Row
  | [] => []
  | r :: rs => r.flat ++ flats rs
end
mutual
theorem Row.flat_len : ∀ r : Row, r.flat.length = r.tot
  | .lt _ _ _ _ => rfl
  | .sy _ => rfl
  | .bk _ _ rs => by
    show (flats rs).length + 1 = tots rs + 1
    rw [flats_len rs]
theorem flats_len : ∀ rs : List Row, (flats rs).length = tots rs
  | [] => rfl
  | r :: rs => by
    show (r.flat ++ flats rs).length = r.tot + tots rs
    rw [List.length_append, Row.flat_len r, flats_len rs]
end
/-- the values that one row asks for -/
def Row.asks : Row → List V
  | .lt _ _ a b => [a.v, b.v]
  | .sy a => [a.v]
  | .bk _ ts _ => [ts]
def Vl.nought : Vl → Bool
  | .nm _ => true
  | .nu i => decide (i = 0)
def Row.fails : Row → Bool
  | .lt _ sg _ b => decide (sg = "/") && b.nought
  | _ => false
def Row.says : Row → Bool
  | .sy _ => true
  | _ => false
theorem kd_let {kd : Str} (h : kd ∈ kinds) : decide (V.str kd = V.str "let") = false := by
  simp only [kinds, List.mem_cons, List.not_mem_nil, or_false] at h
  rcases h with e | e | e <;> (rw [e]; decide +kernel)
theorem kd_say {kd : Str} (h : kd ∈ kinds) : decide (V.str kd = V.str "say") = false := by
  simp only [kinds, List.mem_cons, List.not_mem_nil, or_false] at h
  rcases h with e | e | e <;> (rw [e]; decide +kernel)
theorem kd_in {kd : Str} (h : kd ∈ kinds) : inV (.str kd) (kinds.map V.str) = true := by
  simp only [kinds, List.mem_cons, List.not_mem_nil, or_false] at h
  rcases h with e | e | e <;> (rw [e]; decide +kernel)
theorem let_in : inV (.str "let") (kinds.map V.str) = false := by decide +kernel
theorem say_in : inV (.str "say") (kinds.map V.str) = false := by decide +kernel
theorem kinds_flat : (kinds.map V.str).all flatV = true := by decide +kernel
theorem oks_flats {ss : List Str} : ∀ {rs : List Row}, oks ss rs → oks ss (flats rs)
  | rs, h => go rs h
where
  go1 : ∀ (r : Row), r.ok ss → oks ss r.flat
    | .lt _ _ _ _, h => ⟨h, True.intro⟩
    | .sy _, h => ⟨h, True.intro⟩
    | .bk _ _ rs, h => ⟨h, go rs h.2.2.2⟩
  go : ∀ (rs : List Row), oks ss rs → oks ss (flats rs)
    | [], _ => True.intro
    | r :: rs, h => oks_app (go1 r h.1) (go rs h.2)
theorem flats_app : ∀ {rs qs : List Row}, flats (rs ++ qs) = flats rs ++ flats qs
  | [], _ => rfl
  | r :: rs, qs => by
    show r.flat ++ flats (rs ++ qs) = (r.flat ++ flats rs) ++ flats qs
    rw [flats_app, List.append_assoc]
end Lm
/-! What is found, name by name. -/
namespace Lm
open PySem L2
theorem nodup_le : ∀ {l m : List Str}, l.Nodup → (∀ x ∈ l, x ∈ m) → l.length ≤ m.length
  | [], _, _, _ => Nat.zero_le _
  | x :: l, m, nd, h => by
    obtain ⟨h1, h2⟩ := List.nodup_cons.mp nd
    have hx : x ∈ m := h x List.mem_cons_self
    have ih := nodup_le (l := l) (m := m.erase x) h2 fun y hy => (List.mem_erase_of_ne (fun e => h1 (by rw [← e]; exact hy))).mpr (h y (List.mem_cons_of_mem _ hy))
    rw [List.length_erase_of_mem hx] at ih
    have := List.length_pos_of_mem hx
    show l.length + 1 ≤ m.length
    omega
/-- at F a set of the texts ns, all of them of ss -/
structure Fnd (w : World) (F : Addr) (H : Hp) (ss ns : List Str) : Prop where
  at_ : ∃ S n, H F = some (SetX w F S n) ∧ (∀ x, S x = true ↔ x ∈ ns) ∧ n = ns.length
  nd : ns.Nodup
  sub : ∀ x ∈ ns, x ∈ ss
theorem Fnd.few {w : World} {F : Addr} {H : Hp} {ss ns : List Str} (h : Fnd w F H ss ns) (hs : ss.length ≤ 60) : ns.length ≤ 60 := Nat.le_trans (nodup_le h.nd h.sub) hs
theorem Fnd.kp {w : World} {F : Addr} {H H' : Hp} {ss ns : List Str} (h : Fnd w F H ss ns) (k : Kp H H') : Fnd w F H' ss ns :=
  let ⟨S, n, h1, h2, h3⟩ := h.at_; ⟨⟨S, n, k.at_ _ _ h1 (fun ps q => by cases q), h2, h3⟩, h.nd, h.sub⟩
theorem Fnd.add {w : World} {F : Addr} {H : Hp} {ss ns : List Str} (h : Fnd w F H ss ns) (hs : ss.length ≤ 60) {z : Str} (hz : z ∈ ss) : ∃ S n ns', H F = some (SetX w F S n) ∧ n + 1 < scanBound ∧
    Fnd w F (upd H F (SetX w F (fun y => S y || decide (y = z)) (if S z = true then n else n + 1))) ss ns' ∧ ∀ x, x ∈ ns' ↔ x ∈ ns ∨ x = z := by
  obtain ⟨S, n, h1, h2, h3⟩ := h.at_
  have few := h.few hs
  have hb : n + 1 < scanBound := by
    rw [h3]
    show ns.length + 1 < 4096
    omega
  by_cases c : z ∈ ns
  · have cS : S z = true := (h2 z).mpr c
    refine ⟨S, n, ns, h1, hb, ⟨⟨_, _, upd_same, fun x => ?_, by rw [if_pos cS]; exact h3⟩, h.nd, h.sub⟩, fun x => ⟨Or.inl, fun e => e.elim id fun e => by rw [e]; exact c⟩⟩
    rw [Bool.or_eq_true, decide_eq_true_eq, h2 x]
    exact ⟨fun e => e.elim id fun e => by rw [e]; exact c, Or.inl⟩
  · have cS : ¬ S z = true := fun e => c ((h2 z).mp e)
    refine ⟨S, n, ns ++ [z], h1, hb, ⟨⟨_, _, upd_same, fun x => ?_, by rw [if_neg cS, List.length_append, h3]; rfl⟩, ?_, fun x hx => ?_⟩, fun x => ?_⟩
    · rw [Bool.or_eq_true, decide_eq_true_eq, h2 x, List.mem_append, List.mem_singleton]
    · rw [List.nodup_append]
      exact ⟨h.nd, by simp, fun a ha b hb e => c (by rw [List.mem_singleton.mp hb] at e; rw [← e]; exact ha)⟩
    · rcases List.mem_append.mp hx with e | e
      · exact h.sub x e
      · rw [List.mem_singleton.mp e]
        exact hz
    · rw [List.mem_append, List.mem_singleton]
/-- the name that one row sets -/
def Row.sets : Row → List Str
  | .lt to _ _ _ => [to]
  | _ => []
theorem Vl.ok_v {ss : List Str} : ∀ {x : Vl}, x.ok ss → (∃ s, x.v = .str s ∧ s ∈ ss) ∨ ∃ i, x.v = .int i
  | .nm s, h => .inl ⟨s, rfl, h⟩
  | .nu i, _ => .inr ⟨i, rfl⟩
theorem Row.asks_ok {ss : List Str} {r : Row} (h : r.ok ss) {v : V} (hv : v ∈ r.asks) : (∃ s, v = .str s ∧ s ∈ ss) ∨ ∃ i, v = .int i := by
  match r, h, hv with
  | .lt to sg a b, h, hv =>
    rcases List.mem_cons.mp hv with e | e
    · rw [e]; exact Vl.ok_v h.2.2.1
    · rw [List.mem_singleton.mp e]; exact Vl.ok_v h.2.2.2
  | .sy a, h, hv => rw [List.mem_singleton.mp hv]; exact Vl.ok_v h
  | .bk kd ts rs, h, hv =>
    obtain ⟨s, e, hs⟩ := h.2.1
    rw [List.mem_singleton.mp hv]
    exact .inl ⟨s, e, hs⟩
/-- the names that some of the rows asks for -/
def askN (rs : List Row) (x : Str) : Prop := ∃ r ∈ rs, V.str x ∈ r.asks
def setN (rs : List Row) (x : Str) : Prop := ∃ r ∈ rs, x ∈ r.sets
theorem askN_one {rs : List Row} {i : Nat} {r : Row} (h : rs[i]? = some r) (x : Str) : askN (rs.take (i + 1)) x ↔ askN (rs.take i) x ∨ V.str x ∈ r.asks := by
  unfold askN
  rw [take_one h]
  simp only [List.mem_append, List.mem_singleton]
  constructor
  · rintro ⟨q, h1 | h1, h2⟩
    · exact .inl ⟨q, h1, h2⟩
    · rw [h1] at h2; exact .inr h2
  · rintro (⟨q, h1, h2⟩ | h2)
    · exact ⟨q, .inl h1, h2⟩
    · exact ⟨r, .inr rfl, h2⟩
theorem setN_one {rs : List Row} {i : Nat} {r : Row} (h : rs[i]? = some r) (x : Str) : setN (rs.take (i + 1)) x ↔ setN (rs.take i) x ∨ x ∈ r.sets := by
  unfold setN
  rw [take_one h]
  simp only [List.mem_append, List.mem_singleton]
  constructor
  · rintro ⟨q, h1 | h1, h2⟩
    · exact .inl ⟨q, h1, h2⟩
    · rw [h1] at h2; exact .inr h2
  · rintro (⟨q, h1, h2⟩ | h2)
    · exact ⟨q, .inl h1, h2⟩
    · exact ⟨r, .inr rfl, h2⟩
end Lm
/-! Sorted lists of texts are one; what the law gathers. -/
namespace Lm
open PySem L2 PyProof.Rows
theorem ltc (a b : Str) : Spec.ltCps a.cps.toList b.cps.toList = decide (a.cps.toList < b.cps.toList) := PyProof.Rows.ltCps_eq _ _
theorem rising_pw : ∀ (r : List Str) (p : Str), risingS p r = true → (p :: r).Pairwise (fun a b => ¬ b.cps.toList < a.cps.toList)
  | [], p, _ => by simp
  | x :: r, p, h => by
    have h' : (!Spec.ltCps x.cps.toList p.cps.toList && risingS x r) = true := h
    rw [Bool.and_eq_true, ltc] at h'
    have h1 : ¬ x.cps.toList < p.cps.toList := by
      intro z
      rw [decide_eq_true z] at h'
      exact Bool.noConfusion h'.1
    have ih := rising_pw r x h'.2
    refine List.pairwise_cons.mpr ⟨fun y hy => ?_, ih⟩
    rcases List.mem_cons.mp hy with e | hy
    · rw [e]; exact h1
    · intro z
      have h2 := (List.pairwise_cons.mp ih).1 y hy
      rcases List.le_iff_lt_or_eq.mp (List.not_lt.mp h2) with q | q
      · exact h1 (List.lt_trans q z)
      · rw [← q] at z
        exact h1 z
theorem sorted_pw {l : List Str} (h : sortedS l = true) : l.Pairwise (fun a b => ¬ b.cps.toList < a.cps.toList) := by
  cases l with
  | nil => exact List.Pairwise.nil
  | cons x r => exact rising_pw r x h
theorem sorted_one {l m : List Str} (h1 : sortedS l = true) (h2 : sortedS m = true) (n1 : l.Nodup) (n2 : m.Nodup) (h : ∀ x, x ∈ l ↔ x ∈ m) : l = m :=
  List.Perm.eq_of_pairwise (fun a b _ _ q1 q2 => str_eq (List.le_antisymm (List.not_lt.mp q1) (List.not_lt.mp q2))) (sorted_pw h1) (sorted_pw h2) ((List.perm_ext_iff_of_nodup n1 n2).mpr h)
theorem alk_strs {K : PySem.W.Frag} {H : Hp} {p q : Addr} {ys : List Str} (h1 : SqL K H p (ys.map V.str)) (h2 : SqL K H q (ys.map V.str)) (hl : ys.length ≤ 10000) : Alk K H 2 (.ref p) (.ref q) := by
  refine Or.inr (.inr (.inl ⟨p, q, _, _, rfl, rfl, h1, h2, rfl, by rw [List.length_map]; exact hl, fun i a b ha hb => ?_⟩))
  rw [ha] at hb
  cases hb
  rw [List.getElem?_map] at ha
  cases e : ys[i]? with
  | none => rw [e] at ha; cases ha
  | some y =>
    rw [e] at ha
    cases ha
    exact alk_str y
/-- a dict whose values are all True -/
def dkv (ks : List Key) : List (Key × V) := ks.map fun k => (k, V.bl true)
theorem dkv_keys (ks : List Key) : (dkv ks).map (·.1) = ks := by
  unfold dkv
  rw [List.map_map]
  exact List.map_id ks
theorem dkv_put (ks : List Key) (k : Key) : ∃ ks', putK (dkv ks) k (V.bl true) = dkv ks' ∧ (ks.Nodup → ks'.Nodup) ∧ (∀ j, j ∈ ks' ↔ j ∈ ks ∨ j = k) ∧ ks'.length ≤ ks.length + 1 := by
  have ea : ((dkv ks).any fun kv => decide (kv.1 = k)) = true ↔ k ∈ ks := by
    unfold dkv
    rw [List.any_map, List.any_eq_true]
    exact ⟨fun ⟨x, h1, h2⟩ => by rw [← of_decide_eq_true h2]; exact h1, fun h => ⟨k, h, decide_eq_true rfl⟩⟩
  by_cases h : k ∈ ks
  · refine ⟨ks, ?_, id, fun j => ⟨Or.inl, fun e => e.elim id fun e => by rw [e]; exact h⟩, Nat.le_succ _⟩
    unfold putK
    rw [if_pos (ea.mpr h)]
    unfold dkv
    rw [List.map_map]
    refine List.map_congr_left fun x _ => ?_
    show (if x = k then (x, V.bl true) else (x, V.bl true)) = (x, V.bl true)
    split <;> rfl
  · refine ⟨ks ++ [k], ?_, fun n => ?_, fun j => by rw [List.mem_append, List.mem_singleton], by rw [List.length_append]; exact Nat.le_refl _⟩
    · unfold putK
      rw [if_neg (fun z => h (ea.mp z))]
      unfold dkv
      rw [List.map_append]
      rfl
    · rw [List.nodup_append]
      exact ⟨n, by simp, fun a ha b hb e => h (by rw [List.mem_singleton.mp hb] at e; rw [← e]; exact ha)⟩
/-- the keys that some of the rows asks for -/
def askK (rs : List Row) (k : Key) : Prop := ∃ r ∈ rs, kV k ∈ r.asks
def setK (rs : List Row) (k : Key) : Prop := ∃ r ∈ rs, ∃ x ∈ r.sets, k = Sum.inr x
theorem askK_app (rs qs : List Row) (k : Key) : askK (rs ++ qs) k ↔ askK rs k ∨ askK qs k := by
  unfold askK
  simp only [List.mem_append]
  exact ⟨fun ⟨r, h, q⟩ => h.elim (fun h => .inl ⟨r, h, q⟩) fun h => .inr ⟨r, h, q⟩, fun h => h.elim (fun ⟨r, h, q⟩ => ⟨r, .inl h, q⟩) fun ⟨r, h, q⟩ => ⟨r, .inr h, q⟩⟩
theorem setK_app (rs qs : List Row) (k : Key) : setK (rs ++ qs) k ↔ setK rs k ∨ setK qs k := by
  unfold setK
  simp only [List.mem_append]
  exact ⟨fun ⟨r, h, q⟩ => h.elim (fun h => .inl ⟨r, h, q⟩) fun h => .inr ⟨r, h, q⟩, fun h => h.elim (fun ⟨r, h, q⟩ => ⟨r, .inl h, q⟩) fun ⟨r, h, q⟩ => ⟨r, .inr h, q⟩⟩
theorem askK_one (r : Row) (k : Key) : askK [r] k ↔ kV k ∈ r.asks := by simp [askK]
theorem setK_one (r : Row) (k : Key) : setK [r] k ↔ ∃ x ∈ r.sets, k = Sum.inr x := by simp [setK]
theorem askK_N (rs : List Row) (x : Str) : askK rs (Sum.inr x) ↔ askN rs x := Iff.rfl
theorem setK_N (rs : List Row) (x : Str) : setK rs (Sum.inr x) ↔ setN rs x := by
  unfold setK setN
  exact ⟨fun ⟨r, h, y, hy, e⟩ => ⟨r, h, by cases e; exact hy⟩, fun ⟨r, h, hx⟩ => ⟨r, h, x, hx, rfl⟩⟩
theorem kV_inj {j k : Key} (h : kV j = kV k) : j = k := by
  cases j with
  | inl a =>
    cases k with
    | inl b => rw [V.int.inj h]
    | inr b => cases h
  | inr a =>
    cases k with
    | inl b => cases h
    | inr b => rw [V.str.inj h]
theorem Vl.key : ∀ x : Vl, ∃ k, x.v = kV k
  | .nm s => ⟨Sum.inr s, rfl⟩
  | .nu i => ⟨Sum.inl i, rfl⟩
theorem flats_take {rs : List Row} {i : Nat} {r : Row} (h : rs[i]? = some r) : flats (rs.take (i + 1)) = flats (rs.take i) ++ r.flat := by
  rw [take_one h, flats_app]
  show flats (rs.take i) ++ (r.flat ++ []) = _
  rw [List.append_nil]
theorem tots_take {rs : List Row} {i : Nat} {r : Row} (h : rs[i]? = some r) : tots (rs.take (i + 1)) = tots (rs.take i) + r.tot := by
  rw [take_one h, tots_app]
  show tots (rs.take i) + (r.tot + 0) = _
  rw [Nat.add_zero]
theorem tots_take_le (rs : List Row) (i : Nat) : tots (rs.take i) ≤ tots rs := by
  have h := tots_app (rs := rs.take i) (qs := rs.drop i)
  rw [List.take_append_drop] at h
  omega
theorem upd_self {H : Hp} {a : Addr} {o : HO} (h : H a = some o) : upd H a o = H := by
  funext b
  by_cases e : b = a
  · rw [e, upd_same, h]
  · rw [upd_ne e]
end Lm
/-! What a run is, step by step. -/
namespace Lm
open PySem L2
/-- the values of the names -/
abbrev Wh := Str → Option Int
def Wh.get (ρ : Wh) : V → Int
  | .str s => (ρ s).getD 0
  | .int i => i
  | _ => 0
def Wh.set (ρ : Wh) (s : Str) (i : Int) : Wh := fun x => if x = s then some i else ρ x
def comeTo (sg : Str) (a b : Int) : Int :=
  if sg = "+" then (a + b) % 1000000 else if sg = "-" then (a - b) % 1000000 else if sg = "*" then a * b % 1000000 else if sg = "<" then (if a < b then 1 else 0) else a.fdiv b
structure Tale where
  ρ : Wh
  said : List Int
  steps : Nat
def Tale.tick (t : Tale) : Tale := { t with steps := t.steps + 1 }
inductive Ed where
  | done | long | nought
  deriving DecidableEq
def Ed.txt : Ed → Str
  | .done => "done"
  | .long => "too long"
  | .nought => "by nought"
inductive Cmd where
  | one (r : Row)
  | all (rs : List Row)
  | lp (ts : V) (rs : List Row)
/-- what is done, with at most m steps -/
inductive Does (m : Nat) : Cmd → Tale → Tale → Ed → Prop
  | letLong {to sg : Str} {a b : Vl} {t : Tale} : m ≤ t.steps → Does m (.one (.lt to sg a b)) t t .long
  | letNought {to sg : Str} {a b : Vl} {t : Tale} : t.steps < m → sg = "/" → t.ρ.get b.v = 0 → Does m (.one (.lt to sg a b)) t t.tick .nought
  | letDone {to sg : Str} {a b : Vl} {t : Tale} : t.steps < m → ¬ (sg = "/" ∧ t.ρ.get b.v = 0) → Does m (.one (.lt to sg a b)) t { t.tick with ρ := t.ρ.set to (comeTo sg (t.ρ.get a.v) (t.ρ.get b.v)) } .done
  | sayLong {a t} : m ≤ t.steps → Does m (.one (.sy a)) t t .long
  | sayDone {a t} : t.steps < m → Does m (.one (.sy a)) t { t.tick with said := t.said ++ [t.ρ.get a.v] } .done
  | whenLong {kd : Str} {ts : V} {rs : List Row} {t : Tale} : kd = "when" → m ≤ t.steps → Does m (.one (.bk kd ts rs)) t t .long
  | whenNo {kd : Str} {ts : V} {rs : List Row} {t : Tale} : kd = "when" → t.steps < m → t.ρ.get ts = 0 → Does m (.one (.bk kd ts rs)) t t.tick .done
  | whenIn {kd : Str} {ts : V} {rs : List Row} {t t1 : Tale} {e : Ed} : kd = "when" → t.steps < m → t.ρ.get ts ≠ 0 → Does m (.all rs) t.tick t1 e → Does m (.one (.bk kd ts rs)) t t1 e
  | loop {kd : Str} {ts : V} {rs : List Row} {t t1 : Tale} {e : Ed} : kd = "loop" → Does m (.lp ts rs) t t1 e → Does m (.one (.bk kd ts rs)) t t1 e
  | again {kd : Str} {ts : V} {rs : List Row} {t t1 t2 : Tale} {e : Ed} : kd = "again" → Does m (.all rs) t t1 .done → Does m (.lp ts rs) t1 t2 e → Does m (.one (.bk kd ts rs)) t t2 e
  | againStop {kd : Str} {ts : V} {rs : List Row} {t t1 : Tale} {e : Ed} : kd = "again" → Does m (.all rs) t t1 e → e ≠ .done → Does m (.one (.bk kd ts rs)) t t1 e
  | lpLong {ts rs t} : m ≤ t.steps → Does m (.lp ts rs) t t .long
  | lpNo {ts rs t} : t.steps < m → t.ρ.get ts = 0 → Does m (.lp ts rs) t t.tick .done
  | lpRound {ts rs t t1 t2 e} : t.steps < m → t.ρ.get ts ≠ 0 → Does m (.all rs) t.tick t1 .done → Does m (.lp ts rs) t1 t2 e → Does m (.lp ts rs) t t2 e
  | lpStop {ts rs t t1 e} : t.steps < m → t.ρ.get ts ≠ 0 → Does m (.all rs) t.tick t1 e → e ≠ .done → Does m (.lp ts rs) t t1 e
  | nil {t} : Does m (.all []) t t .done
  | cons {r rs t t1 t2 e} : Does m (.one r) t t1 .done → Does m (.all rs) t1 t2 e → Does m (.all (r :: rs)) t t2 e
  | consStop {r rs t t1 e} : Does m (.one r) t t1 e → e ≠ .done → Does m (.all (r :: rs)) t t1 e
theorem wl : ¬ ("when" : Str) = "loop" := by decide +kernel
theorem wa : ¬ ("when" : Str) = "again" := by decide +kernel
theorem la : ¬ ("loop" : Str) = "again" := by decide +kernel
theorem Does.det {m : Nat} {c : Cmd} {t t1 t2 : Tale} {e1 e2 : Ed} (h : Does m c t t1 e1) : Does m c t t2 e2 → t1 = t2 ∧ e1 = e2 := by
  have no1 : ∀ {n : Nat}, n < m → m ≤ n → False := fun h1 h2 => by omega
  induction h generalizing t2 e2 with
  | letLong h1 =>
    intro h2
    cases h2 with
    | letLong => exact ⟨rfl, rfl⟩
    | letNought g1 => exact (no1 g1 h1).elim
    | letDone g1 => exact (no1 g1 h1).elim
  | letNought h1 h3 h4 =>
    intro h2
    cases h2 with
    | letLong g1 => exact (no1 h1 g1).elim
    | letNought => exact ⟨rfl, rfl⟩
    | letDone _ g2 => exact (g2 ⟨h3, h4⟩).elim
  | letDone h1 h3 =>
    intro h2
    cases h2 with
    | letLong g1 => exact (no1 h1 g1).elim
    | letNought _ g2 g3 => exact (h3 ⟨g2, g3⟩).elim
    | letDone => exact ⟨rfl, rfl⟩
  | sayLong h1 =>
    intro h2
    cases h2 with
    | sayLong => exact ⟨rfl, rfl⟩
    | sayDone g1 => exact (no1 g1 h1).elim
  | sayDone h1 =>
    intro h2
    cases h2 with
    | sayLong g1 => exact (no1 h1 g1).elim
    | sayDone => exact ⟨rfl, rfl⟩
  | whenLong hk h1 =>
    intro h2
    cases h2 with
    | whenLong => exact ⟨rfl, rfl⟩
    | whenNo _ g1 => exact (no1 g1 h1).elim
    | whenIn _ g1 => exact (no1 g1 h1).elim
    | loop g => exact (wl (hk.symm.trans g)).elim
    | again g => exact (wa (hk.symm.trans g)).elim
    | againStop g => exact (wa (hk.symm.trans g)).elim
  | whenNo hk h1 h3 =>
    intro h2
    cases h2 with
    | whenLong _ g1 => exact (no1 h1 g1).elim
    | whenNo => exact ⟨rfl, rfl⟩
    | whenIn _ _ g1 => exact (g1 h3).elim
    | loop g => exact (wl (hk.symm.trans g)).elim
    | again g => exact (wa (hk.symm.trans g)).elim
    | againStop g => exact (wa (hk.symm.trans g)).elim
  | whenIn hk h1 h3 _ ih =>
    intro h2
    cases h2 with
    | whenLong _ g1 => exact (no1 h1 g1).elim
    | whenNo _ _ g1 => exact (h3 g1).elim
    | whenIn _ _ _ g1 => exact ih g1
    | loop g => exact (wl (hk.symm.trans g)).elim
    | again g => exact (wa (hk.symm.trans g)).elim
    | againStop g => exact (wa (hk.symm.trans g)).elim
  | loop hk _ ih =>
    intro h2
    cases h2 with
    | whenLong g => exact (wl (g.symm.trans hk)).elim
    | whenNo g => exact (wl (g.symm.trans hk)).elim
    | whenIn g => exact (wl (g.symm.trans hk)).elim
    | loop _ g => exact ih g
    | again g => exact (la (hk.symm.trans g)).elim
    | againStop g => exact (la (hk.symm.trans g)).elim
  | again hk _ _ ih1 ih2 =>
    intro h2
    cases h2 with
    | whenLong g => exact (wa (g.symm.trans hk)).elim
    | whenNo g => exact (wa (g.symm.trans hk)).elim
    | whenIn g => exact (wa (g.symm.trans hk)).elim
    | loop g => exact (la (g.symm.trans hk)).elim
    | again _ g1 g2 =>
      obtain ⟨rfl, _⟩ := ih1 g1
      exact ih2 g2
    | againStop _ g1 g2 =>
      obtain ⟨_, e⟩ := ih1 g1
      exact (g2 e.symm).elim
  | againStop hk _ hn ih =>
    intro h2
    cases h2 with
    | whenLong g => exact (wa (g.symm.trans hk)).elim
    | whenNo g => exact (wa (g.symm.trans hk)).elim
    | whenIn g => exact (wa (g.symm.trans hk)).elim
    | loop g => exact (la (g.symm.trans hk)).elim
    | again _ g1 g2 =>
      obtain ⟨_, e⟩ := ih g1
      exact (hn e).elim
    | againStop _ g1 g2 => exact ih g1
  | lpLong h1 =>
    intro h2
    cases h2 with
    | lpLong => exact ⟨rfl, rfl⟩
    | lpNo g1 => exact (no1 g1 h1).elim
    | lpRound g1 => exact (no1 g1 h1).elim
    | lpStop g1 => exact (no1 g1 h1).elim
  | lpNo h1 h3 =>
    intro h2
    cases h2 with
    | lpLong g1 => exact (no1 h1 g1).elim
    | lpNo => exact ⟨rfl, rfl⟩
    | lpRound _ g1 => exact (g1 h3).elim
    | lpStop _ g1 => exact (g1 h3).elim
  | lpRound h1 h3 _ _ ih1 ih2 =>
    intro h2
    cases h2 with
    | lpLong g1 => exact (no1 h1 g1).elim
    | lpNo _ g1 => exact (h3 g1).elim
    | lpRound _ _ g1 g2 =>
      obtain ⟨rfl, _⟩ := ih1 g1
      exact ih2 g2
    | lpStop _ _ g1 g2 =>
      obtain ⟨_, e⟩ := ih1 g1
      exact (g2 e.symm).elim
  | lpStop h1 h3 _ hn ih =>
    intro h2
    cases h2 with
    | lpLong g1 => exact (no1 h1 g1).elim
    | lpNo _ g1 => exact (h3 g1).elim
    | lpRound _ _ g1 g2 =>
      obtain ⟨_, e⟩ := ih g1
      exact (hn e).elim
    | lpStop _ _ g1 g2 => exact ih g1
  | nil =>
    intro h2
    cases h2
    exact ⟨rfl, rfl⟩
  | cons _ _ ih1 ih2 =>
    intro h2
    cases h2 with
    | cons g1 g2 =>
      obtain ⟨rfl, _⟩ := ih1 g1
      exact ih2 g2
    | consStop g1 g2 =>
      obtain ⟨_, e⟩ := ih1 g1
      exact (g2 e.symm).elim
  | consStop _ hn ih =>
    intro h2
    cases h2 with
    | cons g1 g2 =>
      obtain ⟨_, e⟩ := ih g1
      exact (hn e).elim
    | consStop g1 g2 => exact ih g1
/-- the steps do not fall, and never pass the most -/
theorem Does.steps {m : Nat} {c : Cmd} {t t1 : Tale} {e : Ed} (h : Does m c t t1 e) : t.steps ≤ t1.steps ∧ (t.steps ≤ m → t1.steps ≤ m) := by
  have tk : ∀ t : Tale, t.tick.steps = t.steps + 1 := fun _ => rfl
  induction h with
  | letLong h1 => exact ⟨Nat.le_refl _, id⟩
  | letNought h1 => exact ⟨Nat.le_succ _, fun _ => h1⟩
  | letDone h1 => exact ⟨Nat.le_succ _, fun _ => h1⟩
  | sayLong => exact ⟨Nat.le_refl _, id⟩
  | sayDone h1 => exact ⟨Nat.le_succ _, fun _ => h1⟩
  | whenLong => exact ⟨Nat.le_refl _, id⟩
  | whenNo _ h1 => exact ⟨Nat.le_succ _, fun _ => h1⟩
  | whenIn _ h1 _ _ ih => rw [tk] at ih; omega
  | loop _ _ ih => exact ih
  | again _ _ _ ih1 ih2 => omega
  | againStop _ _ _ ih => exact ih
  | lpLong => exact ⟨Nat.le_refl _, id⟩
  | lpNo h1 => exact ⟨Nat.le_succ _, fun _ => h1⟩
  | lpRound h1 _ _ _ ih1 ih2 => rw [tk] at ih1; omega
  | lpStop h1 _ _ _ ih => rw [tk] at ih; omega
  | nil => exact ⟨Nat.le_refl _, id⟩
  | cons _ _ ih1 ih2 => omega
  | consStop _ _ ih => exact ih
/-! ### values in a dict -/
/-- values from 0 to 999999 -/
def Wh.small (ρ : Wh) : Prop := ∀ x v, ρ x = some v → 0 ≤ v ∧ v < 1000000
theorem Wh.small.at {ρ : Wh} (h : ρ.small) (s : Str) : 0 ≤ (ρ s).getD 0 ∧ (ρ s).getD 0 < 1000000 := by
  cases e : ρ s with
  | none => exact ⟨Int.le_refl _, by decide⟩
  | some v => exact h s v e
theorem Wh.small.vl {ρ : Wh} (h : ρ.small) {ss : List Str} : ∀ {x : Vl}, x.ok ss → 0 ≤ ρ.get x.v ∧ ρ.get x.v < 1000000
  | .nm s, _ => h.at s
  | .nu i, hi => hi
theorem Wh.small.put {ρ : Wh} (h : ρ.small) {s : Str} {i : Int} (h0 : 0 ≤ i) (h1 : i < 1000000) : (ρ.set s i).small := fun x v e => by
  unfold Wh.set at e
  by_cases c : x = s
  · rw [if_pos c] at e
    cases e
    exact ⟨h0, h1⟩
  · rw [if_neg c] at e
    exact h x v e
theorem comeTo_small {sg : Str} {a b : Int} (ha : 0 ≤ a ∧ a < 1000000) (hb : 0 ≤ b ∧ b < 1000000) : 0 ≤ comeTo sg a b ∧ comeTo sg a b < 1000000 := by
  unfold comeTo
  split
  · exact ⟨Int.emod_nonneg _ (by decide), Int.emod_lt_of_pos _ (by decide)⟩
  split
  · exact ⟨Int.emod_nonneg _ (by decide), Int.emod_lt_of_pos _ (by decide)⟩
  split
  · exact ⟨Int.emod_nonneg _ (by decide), Int.emod_lt_of_pos _ (by decide)⟩
  split
  · split <;> exact ⟨by decide, by decide⟩
  · rw [Int.fdiv_eq_ediv_of_nonneg _ hb.1]
    exact ⟨Int.ediv_nonneg ha.1 hb.1, Int.lt_of_le_of_lt (Int.ediv_le_self _ ha.1) ha.2⟩
/-- at d a dict of the values ρ, at most n of them -/
structure DV (o : HO) (ρ : Wh) (n : Nat) : Prop where
  ex : ∃ kvs : List (Key × V), o = .dK kvs ∧ (kvs.map (·.1)).Nodup ∧ (∀ k ∈ kvs.map (·.1), ∃ x, k = Sum.inr x) ∧ (∀ x, valV kvs (Sum.inr x) = (ρ x).map V.int) ∧ kvs.length ≤ n
theorem DV.nil : DV (.dK []) (fun _ => none) 0 := ⟨⟨[], rfl, List.nodup_nil, fun k h => absurd h List.not_mem_nil, fun x => rfl, Nat.le_refl _⟩⟩
theorem putK_keys (kvs : List (Key × V)) (k : Key) (v : V) : (putK kvs k v).map (·.1) = if (valV kvs k).isSome then kvs.map (·.1) else kvs.map (·.1) ++ [k] := by
  cases e : valV kvs k with
  | none =>
    rw [putK_new v e, List.map_append]
    rfl
  | some u =>
    unfold putK
    have h := valV_any k kvs
    rw [e] at h
    have h' : (kvs.any fun kv => decide (kv.1 = k)) = true := h
    rw [if_pos h', List.map_map]
    refine (List.map_congr_left fun x _ => ?_).trans rfl
    show (if x.1 = k then (x.1, v) else x).1 = x.1
    split <;> rfl
theorem DV.put {kvs : List (Key × V)} {ρ : Wh} {n : Nat} (h : DV (.dK kvs) ρ n) (s : Str) (i : Int) : DV (.dK (putK kvs (Sum.inr s) (.int i))) (ρ.set s i) (n + 1) := by
  obtain ⟨kvs', e, h1, h2, h3, h4⟩ := h.ex
  cases e
  refine ⟨⟨_, rfl, ?_, ?_, fun x => ?_, Nat.le_trans (length_putK _ _ _) (Nat.succ_le_succ h4)⟩⟩
  · cases e : valV kvs (Sum.inr s) with
    | none => exact nd_putK _ h1 e
    | some u =>
      rw [putK_keys, e]
      exact h1
  · rw [putK_keys]
    intro k hk
    split at hk
    · exact h2 k hk
    · rcases List.mem_append.mp hk with z | z
      · exact h2 k z
      · exact ⟨s, List.mem_singleton.mp z⟩
  · rw [valV_put]
    unfold Wh.set
    by_cases c : x = s
    · rw [if_pos (by rw [c]), if_pos c]
      rfl
    · rw [if_neg (fun z => c (Sum.inr.inj z)), if_neg c]
      exact h3 x
theorem DV.more {o : HO} {ρ : Wh} {n m : Nat} (h : DV o ρ n) (hm : n ≤ m) : DV o ρ m := let ⟨kvs, a, b, c, d, e⟩ := h.ex; ⟨⟨kvs, a, b, c, d, Nat.le_trans e hm⟩⟩
theorem DV.get {kvs : List (Key × V)} {ρ : Wh} {n : Nat} (h : DV (.dK kvs) ρ n) (s : Str) : (valV kvs (Sum.inr s)).getD (.int 0) = .int ((ρ s).getD 0) := by
  obtain ⟨kvs', e, h1, h2, h3, h4⟩ := h.ex
  cases e
  rw [h3]
  cases ρ s <;> rfl
end Lm
namespace Lm
open PySem L2
theorem lkc {α : Type} (f g : Str) (y : α) (fs : List (Str × α)) : ((f, y) :: fs).lookup g = if g = f then some y else fs.lookup g := by
  by_cases h : g = f
  · subst h
    simp [List.lookup]
  · have e : (g == f) = false := by simpa using h
    rw [if_neg h]
    simp [List.lookup, e]
theorem put_same (f : Str) (v x : V) (r : List (Str × V)) : putF f v ((f, x) :: r) = (f, v) :: r := if_pos rfl
theorem put_next {f g : Str} (h : ¬ g = f) (v x : V) (r : List (Str × V)) : putF f v ((g, x) :: r) = (g, x) :: putF f v r := if_neg h
theorem put_end (f : Str) (v : V) : putF f v [] = [(f, v)] := rfl
/-- the attributes of a run -/
def pf (d s : Addr) (m n : Int) (e : Str) : List (Str × V) := [("worths", .ref d), ("most", .int m), ("steps", .int n), ("said", .ref s), ("ending", .str e)]
section
variable (d s : Addr) (m n : Int) (e : Str)
theorem pf_worths : (pf d s m n e).lookup ("worths" : Str) = some (.ref d) := by
  unfold pf
  rw [lkc, if_pos rfl]
theorem pf_most : (pf d s m n e).lookup ("most" : Str) = some (.int m) := by
  unfold pf
  rw [lkc, if_neg (by decide +kernel), lkc, if_pos rfl]
theorem pf_steps : (pf d s m n e).lookup ("steps" : Str) = some (.int n) := by
  unfold pf
  rw [lkc, if_neg (by decide +kernel), lkc, if_neg (by decide +kernel), lkc, if_pos rfl]
theorem pf_said : (pf d s m n e).lookup ("said" : Str) = some (.ref s) := by
  unfold pf
  rw [lkc, if_neg (by decide +kernel), lkc, if_neg (by decide +kernel), lkc, if_neg (by decide +kernel), lkc, if_pos rfl]
theorem pf_ending : (pf d s m n e).lookup ("ending" : Str) = some (.str e) := by
  unfold pf
  rw [lkc, if_neg (by decide +kernel), lkc, if_neg (by decide +kernel), lkc, if_neg (by decide +kernel), lkc, if_neg (by decide +kernel), lkc, if_pos rfl]
def pfN : List Str := ["worths", "most", "steps", "said", "ending"]
theorem pf_no {x : Str} (h : x ∉ pfN) : (pf d s m n e).lookup x = none := by
  simp only [pfN, List.mem_cons, List.not_mem_nil, or_false, not_or] at h
  unfold pf
  rw [lkc, if_neg h.1, lkc, if_neg h.2.1, lkc, if_neg h.2.2.1, lkc, if_neg h.2.2.2.1, lkc, if_neg h.2.2.2.2]
  rfl
theorem pf_tick (j : Int) : putF "steps" (.int j) (pf d s m n e) = pf d s m j e := by
  unfold pf
  rw [put_next (by decide +kernel), put_next (by decide +kernel), put_same]
theorem pf_end (z : Str) : putF "ending" (.str z) (pf d s m n e) = pf d s m n z := by
  unfold pf
  rw [put_next (by decide +kernel), put_next (by decide +kernel), put_next (by decide +kernel), put_next (by decide +kernel), put_same]
theorem pf_made : putF "ending" (.str e) (putF "said" (.ref s) (putF "steps" (.int n) (putF "most" (.int m) (putF "worths" (.ref d) [])))) = pf d s m n e := by
  unfold pf
  repeat (first | rw [put_end] | rw [put_next (by decide +kernel)])
theorem pf_len : (pf d s m n e).length < 1000 := by
  show 5 < 1000
  decide
end
/-- a run stands at p; Hc: what stood before -/
structure Pr (C : Addr) (Hc H : Hp) (p d s : Addr) (m : Nat) (t : Tale) (e : Str) : Prop where
  ob : ∃ dx, H p = some (.ins C dx (pf d s m t.steps e))
  dc : ∃ kvs, H d = some (.dK kvs) ∧ DV (.dK kvs) t.ρ (100 + t.steps)
  sd : H s = some (.lst (t.said.map V.int))
  sl : t.said.length ≤ t.steps
  st : t.steps ≤ m
  sm : t.ρ.small
  cl : Same Hc H
  cp : Hc p = none
  cd : Hc d = none
  cs : Hc s = none
  mm : m ≤ 100000
section
variable {C : Addr} {Hc H : Hp} {p d s : Addr} {m : Nat} {t : Tale} {e : Str}
theorem Pr.ne (h : Pr C Hc H p d s m t e) : p ≠ d ∧ p ≠ s ∧ d ≠ s := by
  obtain ⟨dx, h1⟩ := h.ob
  obtain ⟨kvs, h2, _⟩ := h.dc
  have h3 := h.sd
  exact ⟨ne_of h1 h2 (by intro z; cases z), ne_of h1 h3 (by intro z; cases z), ne_of h2 h3 (by intro z; cases z)⟩
theorem Pr.keep (h : Pr C Hc H p d s m t e) {b : Addr} (hb : Hc b = none) (o : HO) : Same Hc (upd H b o) := fun c x hc => by
  rw [upd_ne (ne_of_none hc hb)]
  exact h.cl c x hc
theorem Pr.ended (h : Pr C Hc H p d s m t e) {dx : Addr} (z : Str) : Pr C Hc (upd H p (.ins C dx (putF "ending" (.str z) (pf d s m t.steps e)))) p d s m t z := by
  obtain ⟨n1, n2, n3⟩ := h.ne
  obtain ⟨kvs, h2, h3⟩ := h.dc
  exact ⟨⟨dx, by rw [upd_same, pf_end]⟩, ⟨kvs, by rw [upd_ne n1.symm]; exact h2, h3⟩, by rw [upd_ne n2.symm]; exact h.sd, h.sl, h.st, h.sm, h.keep h.cp _, h.cp, h.cd, h.cs, h.mm⟩
theorem Pr.ticked (h : Pr C Hc H p d s m t e) {dx : Addr} (hm : t.steps < m) : Pr C Hc (upd H p (.ins C dx (putF "steps" (.int ((t.steps : Int) + 1)) (pf d s m t.steps e)))) p d s m t.tick e := by
  obtain ⟨n1, n2, n3⟩ := h.ne
  obtain ⟨kvs, h2, h3⟩ := h.dc
  exact ⟨⟨dx, by rw [upd_same, pf_tick]; rfl⟩, ⟨kvs, by rw [upd_ne n1.symm]; exact h2, h3.more (Nat.le_succ _)⟩, by rw [upd_ne n2.symm]; exact h.sd, Nat.le_succ_of_le h.sl, hm, h.sm, h.keep h.cp _, h.cp, h.cd, h.cs, h.mm⟩
/-- behind a step something more is said -/
theorem Pr.says (h : Pr C Hc H p d s m t.tick e) (hl : t.said.length ≤ t.steps) (i : Int) : Pr C Hc (upd H s (.lst (t.said.map V.int ++ [.int i]))) p d s m { t.tick with said := t.said ++ [i] } e := by
  obtain ⟨n1, n2, n3⟩ := h.ne
  obtain ⟨kvs, h2, h3⟩ := h.dc
  obtain ⟨dx, h1⟩ := h.ob
  exact ⟨⟨dx, by rw [upd_ne n2]; exact h1⟩, ⟨kvs, by rw [upd_ne n3]; exact h2, h3⟩, by rw [upd_same, List.map_append]; rfl, by rw [List.length_append]; exact Nat.succ_le_succ hl, h.st, h.sm, h.keep h.cs _, h.cp, h.cd, h.cs, h.mm⟩
/-- behind a step a name gets a value -/
theorem Pr.puts (h : Pr C Hc H p d s m t.tick e) {kvs : List (Key × V)} (hd : H d = some (.dK kvs)) (hv : DV (.dK kvs) t.ρ (100 + t.steps)) (to : Str) {i : Int} (h0 : 0 ≤ i) (h1 : i < 1000000) :
    Pr C Hc (upd H d (.dK (putK kvs (Sum.inr to) (.int i)))) p d s m { t.tick with ρ := t.ρ.set to i } e := by
  obtain ⟨n1, n2, n3⟩ := h.ne
  obtain ⟨dx, g1⟩ := h.ob
  exact ⟨⟨dx, by rw [upd_ne n1]; exact g1⟩, ⟨_, upd_same, hv.put to i⟩, by rw [upd_ne n3.symm]; exact h.sd, h.sl, h.st, h.sm.put h0 h1, h.keep h.cd _, h.cp, h.cd, h.cs, h.mm⟩
end
theorem Does.app {m : Nat} : ∀ {xs ys : List Row} {t t1 t2 : Tale} {e : Ed}, Does m (.all xs) t t1 .done → Does m (.all ys) t1 t2 e → Does m (.all (xs ++ ys)) t t2 e
  | [], ys, t, t1, t2, e, h, g => by
    cases h
    exact g
  | x :: xs, ys, t, t1, t2, e, h, g => by
    cases h with
    | cons h1 h2 => exact .cons h1 (Does.app h2 g)
    | consStop _ h2 => exact absurd rfl h2
/-- behind the rows so far one row that goes on -/
theorem Does.step {m : Nat} {rs : List Row} {i : Nat} {r : Row} {t t1 t2 : Tale} (h : Does m (.all (rs.take i)) t t1 .done) (hi : rs[i]? = some r) (g : Does m (.one r) t1 t2 .done) : Does m (.all (rs.take (i + 1))) t t2 .done := by
  rw [take_one hi]
  exact h.app (.cons g .nil)
/-- or that ends the run -/
theorem Does.stop {m : Nat} {rs : List Row} {i : Nat} {r : Row} {t t1 t2 : Tale} {e : Ed} (h : Does m (.all (rs.take i)) t t1 .done) (hi : rs[i]? = some r) (g : Does m (.one r) t1 t2 e) (he : e ≠ .done) : Does m (.all rs) t t2 e := by
  have e1 : rs = rs.take i ++ r :: rs.drop (i + 1) := by
    have := List.take_append_drop i rs
    have h2 : rs.drop i = r :: rs.drop (i + 1) := by
      obtain ⟨hl, hx⟩ := List.getElem?_eq_some_iff.mp hi
      rw [List.drop_eq_getElem_cons hl, hx]
    rw [← h2, this]
  rw [e1]
  exact h.app (.consStop g he)
theorem Does.round {m : Nat} {kd : Str} {ts : V} {rs : List Row} {t t1 t2 : Tale} {e : Ed} (hk : kd = "again") (h : Does m (.all rs) t t1 .done) (hm : t1.steps < m) (hx : t1.ρ.get ts ≠ 0) (g : Does m (.one (.bk kd ts rs)) t1.tick t2 e) : Does m (.one (.bk kd ts rs)) t t2 e := by
  cases g with
  | whenLong z => exact absurd (z.symm.trans hk) wa
  | whenNo z => exact absurd (z.symm.trans hk) wa
  | whenIn z => exact absurd (z.symm.trans hk) wa
  | loop z => exact absurd (z.symm.trans hk) la
  | again _ g1 g2 => exact .again hk h (.lpRound hm hx g1 g2)
  | againStop _ g1 g2 => exact .again hk h (.lpStop hm hx g1 g2)
theorem none_left {P : Program} {w : World} {K : PySem.W.Frag} {mg : Str → Option Value} {base : Heap} {f : Addr} {fd : FuncData} {k : Nat} {ps : List Str} {sp : Sp} (no : ∀ vs H Q E, ¬ sp vs H Q E) : FnOk P w K mg base CX0 k f fd ps sp :=
  ⟨fun vs H Q E h => absurd h (no vs H Q E), fun A outer s H args us vs Q E _ _ _ _ h => absurd h (no vs H Q E)⟩
/-- a method by its name -/
structure Mt (K : PySem.W.Frag) (C : Addr) (x q : Str) (st : Stmt) (ps : List Str) (f : Addr) (fd : FuncData) : Prop where
  fn : Fun K x q st f fd
  me : Meth K C x f
  b : Binds K fd ps []
theorem DV.nodupV {kvs : List (Key × V)} {ρ : Wh} {n : Nat} (h : DV (.dK kvs) ρ n) {i : Nat} {k : Key} {v : V} (hi : kvs[i]? = some (k, v)) : valV kvs k = some v := by
  obtain ⟨kvs', e, h1, _⟩ := h.ex
  cases e
  exact val_nodup h1 (k, v) (List.mem_of_getElem? hi)
theorem nodup_len {α : Type} [DecidableEq α] : ∀ {l m : List α}, l.Nodup → (∀ x ∈ l, x ∈ m) → l.length ≤ m.length
  | [], _, _, _ => Nat.zero_le _
  | x :: l, m, nd, h => by
    obtain ⟨h1, h2⟩ := List.nodup_cons.mp nd
    have hx : x ∈ m := h x List.mem_cons_self
    have ih := nodup_len (l := l) (m := m.erase x) h2 fun y hy => (List.mem_erase_of_ne (fun e => h1 (by rw [← e]; exact hy))).mpr (h y (List.mem_cons_of_mem _ hy))
    rw [List.length_erase_of_mem hx] at ih
    have := List.length_pos_of_mem hx
    show l.length + 1 ≤ m.length
    omega
theorem DV.same {ka kb : List (Key × V)} {ρ : Wh} {n m : Nat} (a : DV (.dK ka) ρ n) (b : DV (.dK kb) ρ m) : ka.length = kb.length ∧ ∀ p ∈ kb, ∃ x z, p = (Sum.inr x, V.int z) ∧ valV ka (Sum.inr x) = some (V.int z) := by
  have sub : ∀ {la lb : List (Key × V)} {n m : Nat}, DV (.dK la) ρ n → DV (.dK lb) ρ m → ∀ p ∈ la, ∃ x z, p = (Sum.inr x, V.int z) ∧ valV lb (Sum.inr x) = some (V.int z) := fun {la lb _ _} ha hb p hp => by
    obtain ⟨l1, e1, a1, a2, a3, a4⟩ := ha.ex
    obtain ⟨l2, e2, b1, b2, b3, b4⟩ := hb.ex
    cases e1
    cases e2
    obtain ⟨x, ex⟩ := a2 p.1 (List.mem_map_of_mem hp)
    have q := val_nodup a1 p hp
    rw [ex, a3] at q
    cases ez : ρ x with
    | none => rw [ez] at q; cases q
    | some z =>
      rw [ez] at q
      have q2 : V.int z = p.2 := Option.some.inj q
      exact ⟨x, z, Prod.ext ex q2.symm, by rw [b3, ez]; rfl⟩
  have le : ∀ {la lb : List (Key × V)} {n m : Nat}, DV (.dK la) ρ n → DV (.dK lb) ρ m → la.length ≤ lb.length := fun {la lb _ _} ha hb => by
    obtain ⟨l1, e1, a1, _⟩ := ha.ex
    cases e1
    have z := nodup_len (m := lb.map (·.1)) a1 fun k hk => by
      obtain ⟨p, hp, rfl⟩ := List.mem_map.mp hk
      obtain ⟨x, z, e, q⟩ := sub ha hb p hp
      rw [e]
      exact valV_in q
    rw [List.length_map, List.length_map] at z
    exact z
  exact ⟨Nat.le_antisymm (le a b) (le b a), sub b a⟩
/-- a new object, by a name for the heap with it -/
theorem newH {H : Hp} {p : Addr} (hp : H p = none) (o : HO) : ∃ H', upd H p o = H' ∧ Same H H' ∧ H' p = some o := ⟨_, rfl, same_new hp o, upd_same⟩
/-- a change at a place that is not of the base -/
theorem same_put {B H : Hp} (s : Same B H) {p : Addr} (hp : B p = none) (o : HO) : Same B (upd H p o) := fun b u hb => by
  rw [upd_ne (ne_of_none hb hp)]
  exact s b u hb
theorem DV.few {kvs : List (Key × V)} {ρ : Wh} {n : Nat} (h : DV (.dK kvs) ρ n) : kvs.length ≤ n := by
  obtain ⟨kvs', e, _, _, _, hl⟩ := h.ex
  cases e
  exact hl
theorem DV.tight {kvs : List (Key × V)} {ρ : Wh} {n : Nat} (h : DV (.dK kvs) ρ n) : DV (.dK kvs) ρ kvs.length := by
  obtain ⟨kvs', e, h1, h2, h3, _⟩ := h.ex
  cases e
  exact ⟨⟨kvs, rfl, h1, h2, h3, Nat.le_refl _⟩⟩
end Lm
/-! What goes ahead. -/
namespace Lm
open PySem L2
/-- the row r goes ahead; st: the rows that stay so far, be: those behind it -/
def Goes (st : List Row) (r : Row) (be : List Row) : Prop :=
  ∃ to sg a b, r = .lt to sg a b ∧ (flats st).any Row.fails = false ∧ (r.fails = true → (flats st).any Row.says = false) ∧ ¬ setN (flats st) to ∧ ¬ setN (flats be) to ∧ ¬ askN (flats st) to ∧
    ∀ x, V.str x ∈ r.asks → x ≠ to ∧ ¬ setN (flats st) x ∧ ¬ setN (flats be) x
open Classical in
/-- those that go ahead, those that stay -/
noncomputable def parts (st : List Row) : List Row → List Row × List Row
  | [] => ([], [])
  | r :: rs => if Goes st r rs then (r :: (parts st rs).1, (parts st rs).2) else ((parts (st ++ [r]) rs).1, r :: (parts (st ++ [r]) rs).2)
theorem parts_go {st : List Row} {r : Row} {rs : List Row} (h : Goes st r rs) : parts st (r :: rs) = (r :: (parts st rs).1, (parts st rs).2) := if_pos h
theorem parts_no {st : List Row} {r : Row} {rs : List Row} (h : ¬ Goes st r rs) : parts st (r :: rs) = ((parts (st ++ [r]) rs).1, r :: (parts (st ++ [r]) rs).2) := if_neg h
/-- behind some of the rows -/
structure Mid (rs be ah st : List Row) : Prop where
  one : (parts [] rs).1 = ah ++ (parts st be).1
  two : (parts [] rs).2 = st ++ (parts st be).2
theorem Mid.start (rs : List Row) : Mid rs rs [] [] := ⟨rfl, rfl⟩
theorem Mid.go {rs be ah st : List Row} {r : Row} (h : Mid rs (r :: be) ah st) (g : Goes st r be) : Mid rs be (ah ++ [r]) st := by
  obtain ⟨h1, h2⟩ := h
  rw [parts_go g] at h1 h2
  exact ⟨by rw [h1, List.append_assoc]; rfl, h2⟩
theorem Mid.no {rs be ah st : List Row} {r : Row} (h : Mid rs (r :: be) ah st) (g : ¬ Goes st r be) : Mid rs be ah (st ++ [r]) := by
  obtain ⟨h1, h2⟩ := h
  rw [parts_no g] at h1 h2
  exact ⟨h1, by rw [h2, List.append_assoc]; rfl⟩
theorem Mid.end_ {rs ah st : List Row} (h : Mid rs [] ah st) : (parts [] rs).1 = ah ∧ (parts [] rs).2 = st := by
  obtain ⟨h1, h2⟩ := h
  exact ⟨h1.trans (List.append_nil _), h2.trans (List.append_nil _)⟩
theorem setN_app (rs qs : List Row) (x : Str) : setN (rs ++ qs) x ↔ setN rs x ∨ setN qs x := by
  unfold setN
  simp only [List.mem_append]
  exact ⟨fun ⟨r, h, q⟩ => h.elim (fun h => .inl ⟨r, h, q⟩) fun h => .inr ⟨r, h, q⟩, fun h => h.elim (fun ⟨r, h, q⟩ => ⟨r, .inl h, q⟩) fun ⟨r, h, q⟩ => ⟨r, .inr h, q⟩⟩
theorem askN_app (rs qs : List Row) (x : Str) : askN (rs ++ qs) x ↔ askN rs x ∨ askN qs x := by
  unfold askN
  simp only [List.mem_append]
  exact ⟨fun ⟨r, h, q⟩ => h.elim (fun h => .inl ⟨r, h, q⟩) fun h => .inr ⟨r, h, q⟩, fun h => h.elim (fun ⟨r, h, q⟩ => ⟨r, .inl h, q⟩) fun ⟨r, h, q⟩ => ⟨r, .inr h, q⟩⟩
theorem flats_cons (r : Row) (rs : List Row) : flats (r :: rs) = r.flat ++ flats rs := rfl
theorem flats_one (r : Row) : flats [r] = r.flat := by
  show r.flat ++ [] = _
  rw [List.append_nil]
theorem setN_nil (x : Str) : ¬ setN [] x := fun ⟨r, h, _⟩ => by cases h
theorem setN_let (to sg : Str) (a b : Vl) (x : Str) : setN (Row.lt to sg a b).flat x ↔ x = to := by
  show setN [Row.lt to sg a b] x ↔ _
  unfold setN
  constructor
  · rintro ⟨r, h1, h2⟩
    rw [List.mem_singleton.mp h1] at h2
    exact List.mem_singleton.mp h2
  · rintro rfl
    exact ⟨_, List.mem_singleton.mpr rfl, List.mem_singleton.mpr rfl⟩
open Classical in
/-- how many of the rows set a name -/
noncomputable def cnt : List Row → Str → Nat
  | [], _ => 0
  | r :: rs, x => (if setN r.flat x then 1 else 0) + cnt rs x
theorem cnt_app : ∀ (rs qs : List Row) (x : Str), cnt (rs ++ qs) x = cnt rs x + cnt qs x
  | [], qs, x => (Nat.zero_add _).symm
  | r :: rs, qs, x => by
    show _ + cnt (rs ++ qs) x = (_ + cnt rs x) + cnt qs x
    rw [cnt_app rs qs x, Nat.add_assoc]
open Classical in
theorem cnt_zero : ∀ (rs : List Row) (x : Str), cnt rs x = 0 ↔ ¬ setN (flats rs) x
  | [], x => ⟨fun _ => setN_nil x, fun _ => rfl⟩
  | r :: rs, x => by
    rw [flats_cons, setN_app, not_or, ← cnt_zero rs x]
    show (if setN r.flat x then 1 else 0) + cnt rs x = 0 ↔ _
    by_cases h : setN r.flat x
    · rw [if_pos h]
      exact ⟨fun z => by omega, fun z => absurd h z.1⟩
    · rw [if_neg h]
      exact ⟨fun z => ⟨h, by omega⟩, fun z => by omega⟩
open Classical in
theorem cnt_let (st be : List Row) (to sg : Str) (a b : Vl) (x : Str) : cnt (st ++ .lt to sg a b :: be) x = cnt st x + (if x = to then 1 else 0) + cnt be x := by
  rw [cnt_app]
  show _ + ((if setN (Row.lt to sg a b).flat x then 1 else 0) + cnt be x) = _
  by_cases h : x = to
  · rw [if_pos ((setN_let to sg a b x).mpr h), if_pos h]
    omega
  · rw [if_neg (fun z => h ((setN_let to sg a b x).mp z)), if_neg h]
    omega
open Classical in
theorem cnt_one (rs : List Row) (r : Row) (x : Str) : cnt (rs ++ [r]) x = cnt rs x + (if setN r.flat x then 1 else 0) := by
  rw [cnt_app]
  show _ + (_ + 0) = _
  rw [Nat.add_zero]
/-- the attributes of a look -/
def lf (g d : Addr) (fl sp : Bool) : List (Str × V) := [("setters", .ref g), ("asked", .ref d), ("failing", .bl fl), ("speaking", .bl sp)]
section
variable (g d : Addr) (fl sp : Bool)
theorem lf_setters : (lf g d fl sp).lookup ("setters" : Str) = some (.ref g) := by
  unfold lf
  rw [lkc, if_pos rfl]
theorem lf_asked : (lf g d fl sp).lookup ("asked" : Str) = some (.ref d) := by
  unfold lf
  rw [lkc, if_neg (by decide +kernel), lkc, if_pos rfl]
theorem lf_failing : (lf g d fl sp).lookup ("failing" : Str) = some (.bl fl) := by
  unfold lf
  rw [lkc, if_neg (by decide +kernel), lkc, if_neg (by decide +kernel), lkc, if_pos rfl]
theorem lf_speaking : (lf g d fl sp).lookup ("speaking" : Str) = some (.bl sp) := by
  unfold lf
  rw [lkc, if_neg (by decide +kernel), lkc, if_neg (by decide +kernel), lkc, if_neg (by decide +kernel), lkc, if_pos rfl]
def lfN : List Str := ["setters", "asked", "failing", "speaking"]
theorem lf_no {x : Str} (h : x ∉ lfN) : (lf g d fl sp).lookup x = none := by
  simp only [lfN, List.mem_cons, List.not_mem_nil, or_false, not_or] at h
  unfold lf
  rw [lkc, if_neg h.1, lkc, if_neg h.2.1, lkc, if_neg h.2.2.1, lkc, if_neg h.2.2.2]
  rfl
theorem lf_put_f (b : Bool) : putF "failing" (.bl b) (lf g d fl sp) = lf g d b sp := by
  unfold lf
  rw [put_next (by decide +kernel), put_next (by decide +kernel), put_same]
theorem lf_put_s (b : Bool) : putF "speaking" (.bl b) (lf g d fl sp) = lf g d fl b := by
  unfold lf
  rw [put_next (by decide +kernel), put_next (by decide +kernel), put_next (by decide +kernel), put_same]
theorem lf_made : putF "speaking" (.bl sp) (putF "failing" (.bl fl) (putF "asked" (.ref d) (putF "setters" (.ref g) []))) = lf g d fl sp := by
  unfold lf
  repeat (first | rw [put_end] | rw [put_next (by decide +kernel)])
theorem lf_len : (lf g d fl sp).length < 1000 := by
  show 4 < 1000
  decide
end
/-- a look stands at p; st: what stays so far, be: what is still to be looked at -/
structure LookAt (C : Addr) (Hc H : Hp) (p g d : Addr) (st be : List Row) : Prop where
  ob : ∃ dx, H p = some (.ins C dx (lf g d ((flats st).any Row.fails) ((flats st).any Row.says)))
  ngd : g ≠ d
  sg : ∃ kvs ρ, H g = some (.dK kvs) ∧ DV (.dK kvs) ρ 500000 ∧ kvs.length + be.length ≤ 400000 ∧ ∀ x, (ρ x).getD 0 = (cnt (st ++ be) x : Int)
  ask : ∃ ks : List Key, H d = some (.dK (dkv ks)) ∧ ks.Nodup ∧ ks.length ≤ 100 * st.length ∧ (∀ k ∈ ks, ∃ x, k = Sum.inr x) ∧ ∀ x, Sum.inr x ∈ ks ↔ askN (flats st) x
  cl : Same Hc H
  cp : Hc p = none
  cg : Hc g = none
  cd : Hc d = none
theorem LookAt.ne {C : Addr} {Hc H : Hp} {p g d : Addr} {st be : List Row} (h : LookAt C Hc H p g d st be) : p ≠ g ∧ p ≠ d ∧ g ≠ d := by
  obtain ⟨dx, h1⟩ := h.ob
  obtain ⟨kvs, ρ, h2, _⟩ := h.sg
  obtain ⟨ks, h3, _⟩ := h.ask
  exact ⟨ne_of h1 h2 (by intro z; cases z), ne_of h1 h3 (by intro z; cases z), h.ngd⟩
theorem LookAt.same {C : Addr} {Hc H H' : Hp} {p g d : Addr} {st be : List Row} (s : Same H H') (h : LookAt C Hc H p g d st be) : LookAt C Hc H' p g d st be :=
  ⟨let ⟨dx, e⟩ := h.ob; ⟨dx, s _ _ e⟩, h.ngd, let ⟨k, ρ, a, b, c, e⟩ := h.sg; ⟨k, ρ, s _ _ a, b, c, e⟩, let ⟨k, a, b, c, e, f⟩ := h.ask; ⟨k, s _ _ a, b, c, e, f⟩, h.cl.trans s, h.cp, h.cg, h.cd⟩
theorem setN_in' {ss : List Str} {rs : List Row} (h : oks ss rs) {x : Str} (hx : setN rs x) : x ∈ ss := by
  obtain ⟨r, hr, hv⟩ := hx
  obtain ⟨i, hi, e⟩ := List.getElem_of_mem hr
  have ho : r.ok ss := oks_at (i := i) h (by rw [List.getElem?_eq_getElem hi, e])
  match r, ho, hv with
  | .lt to sg a b, ho, hv =>
    rw [List.mem_singleton.mp hv]
    exact ho.1
  | .sy a, _, hv => cases hv
  | .bk kd ts qs, _, hv => cases hv
theorem askN_in' {ss : List Str} {rs : List Row} (h : oks ss rs) {x : Str} (hx : askN rs x) : x ∈ ss := by
  obtain ⟨r, hr, hv⟩ := hx
  obtain ⟨i, hi, e⟩ := List.getElem_of_mem hr
  have ho : r.ok ss := oks_at (i := i) h (by rw [List.getElem?_eq_getElem hi, e])
  rcases Row.asks_ok ho hv with ⟨s, e, hs⟩ | ⟨z, e⟩
  · rw [V.str.inj e]
    exact hs
  · cases e
end Lm
/-! The moved program; rows whose lists are their own. -/
namespace Lm
open PySem L2
/-- rows and their values, taken apart in order -/
inductive Cut : List Row → List V → List Row → List V → List Row → List V → Prop
  | nil : Cut [] [] [] [] [] []
  | left {rs ah st : List Row} {vs us ws : List V} {r : Row} {v : V} : Cut rs vs ah us st ws → Cut (rs ++ [r]) (vs ++ [v]) (ah ++ [r]) (us ++ [v]) st ws
  | right {rs ah st : List Row} {vs us ws : List V} {r : Row} {v : V} : Cut rs vs ah us st ws → Cut (rs ++ [r]) (vs ++ [v]) ah us (st ++ [r]) (ws ++ [v])
theorem AllAt.unsnoc {K : PySem.W.Frag} {H : Hp} : ∀ {rs : List Row} {vs : List V} {r : Row} {v : V}, AllAt K H (rs ++ [r]) (vs ++ [v]) → AllAt K H rs vs ∧ RowAt K H r v
  | [], vs, r, v, ⟨u, ws, h1, h2, h3⟩ => by
    have e : ws = [] := h3
    subst e
    cases vs with
    | nil =>
      cases h1
      exact ⟨rfl, h2⟩
    | cons a b =>
      have := congrArg List.length h1
      simp at this
  | q :: rs, vs, r, v, ⟨u, ws, h1, h2, h3⟩ => by
    cases vs with
    | nil =>
      have e : ws = [] := (List.cons.inj h1).2.symm
      subst e
      have := h3.len
      simp at this
    | cons a b =>
      have h1' : a :: (b ++ [v]) = u :: ws := h1
      have e1 : u = a := (List.cons.inj h1').1.symm
      have e2 : ws = b ++ [v] := (List.cons.inj h1').2.symm
      subst e1
      subst e2
      obtain ⟨g1, g2⟩ := AllAt.unsnoc h3
      exact ⟨⟨_, _, rfl, h2, g1⟩, g2⟩
theorem AllAt.take {K : PySem.W.Frag} {H : Hp} : ∀ {rs : List Row} {vs : List V} (i : Nat), AllAt K H rs vs → AllAt K H (rs.take i) (vs.take i)
  | [], vs, i, h => by
    have e : vs = [] := h
    subst e
    rw [List.take_nil, List.take_nil]
    rfl
  | r :: rs, _, 0, _ => rfl
  | r :: rs, _, i + 1, ⟨v, ws, h1, h2, h3⟩ => by
    subst h1
    exact ⟨v, ws.take i, rfl, h2, h3.take i⟩
theorem Cut.at_ {K : PySem.W.Frag} {H : Hp} {rs ah st : List Row} {vs us ws : List V} (h : Cut rs vs ah us st ws) : AllAt K H rs vs → AllAt K H ah us ∧ AllAt K H st ws := by
  induction h with
  | nil => exact fun _ => ⟨rfl, rfl⟩
  | left h ih =>
    intro a
    obtain ⟨a1, a2⟩ := a.unsnoc
    obtain ⟨i1, i2⟩ := ih a1
    exact ⟨i1.app (AllAt.one a2), i2⟩
  | right h ih =>
    intro a
    obtain ⟨a1, a2⟩ := a.unsnoc
    obtain ⟨i1, i2⟩ := ih a1
    exact ⟨i1, i2.app (AllAt.one a2)⟩
/-! ### rows whose lists are their own -/
mutual
/-- F: the places of the lists in it, each once; none is of B -/
def OwnR (K : PySem.W.Frag) (B H : Hp) : Row → V → (Addr → Prop) → Prop
  | .lt to sg a b, v, F => RowAt K H (.lt to sg a b) v ∧ ∀ c, ¬ F c
  | .sy a, v, F => RowAt K H (.sy a) v ∧ ∀ c, ¬ F c
  | .bk kd ts rs, v, F => ∃ (p l : Addr) (vs : List V) (G : Addr → Prop), v = .ref p ∧ SqT K H p [.str kd, ts, .ref l] ∧ H l = some (.lst vs) ∧ B l = none ∧ OwnRs K B H rs vs G ∧ ¬ G l ∧ ∀ c, F c ↔ c = l ∨ G c
def OwnRs (K : PySem.W.Frag) (B H : Hp) : List Row → List V → (Addr → Prop) → Prop
  | [], vs, F => vs = [] ∧ ∀ c, ¬ F c
  | r :: rs, vs, F => ∃ (v : V) (ws : List V) (F1 F2 : Addr → Prop), vs = v :: ws ∧ OwnR K B H r v F1 ∧ OwnRs K B H rs ws F2 ∧ (∀ c, F1 c → F2 c → False) ∧ ∀ c, F c ↔ F1 c ∨ F2 c
end
mutual
theorem OwnR.row {K : PySem.W.Frag} {B H : Hp} : ∀ (r : Row) {v : V} {F : Addr → Prop}, OwnR K B H r v F → RowAt K H r v
  | .lt _ _ _ _, _, _, h => h.1
  | .sy _, _, _, h => h.1
  | .bk _ _ rs, _, _, ⟨p, l, vs, G, h1, h2, h3, h4, h5, _⟩ => ⟨p, l, vs, h1, h2, SqL.of h3, OwnRs.all rs h5⟩
theorem OwnRs.all {K : PySem.W.Frag} {B H : Hp} : ∀ (rs : List Row) {vs : List V} {F : Addr → Prop}, OwnRs K B H rs vs F → AllAt K H rs vs
  | [], _, _, h => h.1
  | r :: rs, _, _, ⟨v, ws, F1, F2, h1, h2, h3, _⟩ => ⟨v, ws, h1, OwnR.row r h2, OwnRs.all rs h3⟩
end
mutual
theorem OwnR.out {K : PySem.W.Frag} {B H : Hp} : ∀ (r : Row) {v : V} {F : Addr → Prop}, OwnR K B H r v F → ∀ c, F c → B c = none ∧ ∃ xs, H c = some (.lst xs)
  | .lt _ _ _ _, _, _, h, c, hc => absurd hc (h.2 c)
  | .sy _, _, _, h, c, hc => absurd hc (h.2 c)
  | .bk _ _ rs, _, _, ⟨p, l, vs, G, h1, h2, h3, h4, h5, h6, h7⟩, c, hc => by
    rcases (h7 c).mp hc with e | e
    · rw [e]
      exact ⟨h4, _, h3⟩
    · exact OwnRs.out rs h5 c e
theorem OwnRs.out {K : PySem.W.Frag} {B H : Hp} : ∀ (rs : List Row) {vs : List V} {F : Addr → Prop}, OwnRs K B H rs vs F → ∀ c, F c → B c = none ∧ ∃ xs, H c = some (.lst xs)
  | [], _, _, h, c, hc => absurd hc (h.2 c)
  | r :: rs, _, _, ⟨v, ws, F1, F2, h1, h2, h3, h4, h5⟩, c, hc => by
    rcases (h5 c).mp hc with e | e
    · exact OwnR.out r h2 c e
    · exact OwnRs.out rs h3 c e
end
mutual
/-- what is changed elsewhere leaves it -/
theorem OwnR.keep {K : PySem.W.Frag} {B B' H H' : Hp} (hB : ∀ c, B c = none → B' c = none) (hT : ∀ p xs, SqT K H p xs → SqT K H' p xs) : ∀ (r : Row) {v : V} {F : Addr → Prop}, (∀ c, F c → H' c = H c) → OwnR K B H r v F → OwnR K B' H' r v F
  | .lt _ _ _ _, _, _, _, ⟨⟨p, h1, h2⟩, h3⟩ => ⟨⟨p, h1, hT _ _ h2⟩, h3⟩
  | .sy _, _, _, _, ⟨⟨p, h1, h2⟩, h3⟩ => ⟨⟨p, h1, hT _ _ h2⟩, h3⟩
  | .bk _ _ rs, _, _, hF, ⟨p, l, vs, G, h1, h2, h3, h4, h5, h6, h7⟩ =>
    ⟨p, l, vs, G, h1, hT _ _ h2, by rw [hF l ((h7 l).mpr (.inl rfl))]; exact h3, hB _ h4, OwnRs.keep hB hT rs (fun c hc => hF c ((h7 c).mpr (.inr hc))) h5, h6, h7⟩
theorem OwnRs.keep {K : PySem.W.Frag} {B B' H H' : Hp} (hB : ∀ c, B c = none → B' c = none) (hT : ∀ p xs, SqT K H p xs → SqT K H' p xs) : ∀ (rs : List Row) {vs : List V} {F : Addr → Prop}, (∀ c, F c → H' c = H c) → OwnRs K B H rs vs F → OwnRs K B' H' rs vs F
  | [], _, _, _, h => h
  | r :: rs, _, _, hF, ⟨v, ws, F1, F2, h1, h2, h3, h4, h5⟩ =>
    ⟨v, ws, F1, F2, h1, OwnR.keep hB hT r (fun c hc => hF c ((h5 c).mpr (.inl hc))) h2, OwnRs.keep hB hT rs (fun c hc => hF c ((h5 c).mpr (.inr hc))) h3, h4, h5⟩
end
/-- the heap has grown -/
theorem OwnRs.grow {K : PySem.W.Frag} {B B' H H' : Hp} {rs : List Row} {vs : List V} {F : Addr → Prop} (hB : ∀ c, B c = none → B' c = none) (s : Same H H') (h : OwnRs K B H rs vs F) : OwnRs K B' H' rs vs F :=
  OwnRs.keep hB (fun p xs q => Kp.sqT (Same.kp s) q) rs (fun c hc => by
    obtain ⟨_, xs, e⟩ := OwnRs.out rs h c hc
    rw [e, s _ _ e]) h
theorem OwnRs.nil {K : PySem.W.Frag} {B H : Hp} : OwnRs K B H [] [] (fun _ => False) := ⟨rfl, fun _ h => h⟩
theorem OwnRs.app {K : PySem.W.Frag} {B H : Hp} : ∀ {rs qs : List Row} {vs ws : List V} {F G : Addr → Prop}, OwnRs K B H rs vs F → OwnRs K B H qs ws G → (∀ c, F c → G c → False) → OwnRs K B H (rs ++ qs) (vs ++ ws) (fun c => F c ∨ G c)
  | [], qs, vs, ws, F, G, ⟨h1, h2⟩, g, _ => by
    subst h1
    refine OwnRs.cong (F := G) (fun c => ⟨Or.inr, fun h => h.elim (fun z => absurd z (h2 c)) id⟩) g
  | r :: rs, qs, vs, ws, F, G, ⟨v, us, F1, F2, h1, h2, h3, h4, h5⟩, g, hd => by
    subst h1
    have ih := OwnRs.app h3 g (fun c a b => hd c ((h5 c).mpr (.inr a)) b)
    exact ⟨v, us ++ ws, F1, fun c => F2 c ∨ G c, rfl, h2, ih, fun c a b => b.elim (h4 c a) (hd c ((h5 c).mpr (.inl a))), fun c => by
      show (F c ∨ G c) ↔ F1 c ∨ (F2 c ∨ G c)
      rw [h5 c, or_assoc]⟩
where
  OwnRs.cong {K : PySem.W.Frag} {B H : Hp} : ∀ {rs : List Row} {vs : List V} {F G : Addr → Prop}, (∀ c, F c ↔ G c) → OwnRs K B H rs vs F → OwnRs K B H rs vs G
    | [], _, _, _, h, ⟨a, b⟩ => ⟨a, fun c z => b c ((h c).mpr z)⟩
    | r :: rs, _, _, _, h, ⟨v, ws, F1, F2, h1, h2, h3, h4, h5⟩ => ⟨v, ws, F1, F2, h1, h2, h3, h4, fun c => (h c).symm.trans (h5 c)⟩
theorem OwnRs.one {K : PySem.W.Frag} {B H : Hp} {r : Row} {v : V} {F : Addr → Prop} (h : OwnR K B H r v F) : OwnRs K B H [r] [v] F := ⟨v, [], F, fun _ => False, rfl, h, OwnRs.nil, fun _ _ h => h, fun c => ⟨Or.inl, fun h => h.elim id False.elim⟩⟩
theorem OwnRs.unsnoc {K : PySem.W.Frag} {B H : Hp} : ∀ {rs : List Row} {vs : List V} {r : Row} {v : V} {F : Addr → Prop}, OwnRs K B H (rs ++ [r]) (vs ++ [v]) F → ∃ F1 F2, OwnRs K B H rs vs F1 ∧ OwnR K B H r v F2 ∧ (∀ c, F1 c → F2 c → False) ∧ ∀ c, F c ↔ F1 c ∨ F2 c
  | [], vs, r, v, F, ⟨u, ws, F1, F2, h1, h2, ⟨h3, h3'⟩, h4, h5⟩ => by
    subst h3
    cases vs with
    | nil =>
      cases h1
      exact ⟨fun _ => False, F1, OwnRs.nil, h2, fun _ h _ => h, fun c => (h5 c).trans ⟨fun h => h.elim .inr fun z => absurd z (h3' c), fun h => h.elim False.elim .inl⟩⟩
    | cons a b =>
      have := congrArg List.length h1
      simp at this
  | q :: rs, vs, r, v, F, ⟨u, ws, F1, F2, h1, h2, h3, h4, h5⟩ => by
    cases vs with
    | nil =>
      have e : ws = [] := (List.cons.inj h1).2.symm
      subst e
      have := (OwnRs.all _ h3).len
      simp at this
    | cons a b =>
      have h1' : a :: (b ++ [v]) = u :: ws := h1
      have e1 : u = a := (List.cons.inj h1').1.symm
      have e2 : ws = b ++ [v] := (List.cons.inj h1').2.symm
      subst e1
      subst e2
      obtain ⟨G1, G2, g1, g2, g3, g4⟩ := OwnRs.unsnoc h3
      refine ⟨fun c => F1 c ∨ G1 c, G2, ⟨_, _, F1, G1, rfl, h2, g1, fun c x y => h4 c x ((g4 c).mpr (.inl y)), fun _ => Iff.rfl⟩, g2, fun c x y => x.elim (fun z => h4 c z ((g4 c).mpr (.inr y))) (fun z => g3 c z y), fun c => ?_⟩
      show F c ↔ (F1 c ∨ G1 c) ∨ G2 c
      rw [h5 c, g4 c, or_assoc]
/-- taken apart, what goes ahead and what stays is each its own -/
theorem Cut.own {K : PySem.W.Frag} {B H : Hp} {rs ah st : List Row} {vs us ws : List V} (h : Cut rs vs ah us st ws) : ∀ {F : Addr → Prop}, OwnRs K B H rs vs F → ∃ F1 F2, OwnRs K B H ah us F1 ∧ OwnRs K B H st ws F2 ∧ (∀ c, F1 c → F2 c → False) ∧ ∀ c, F1 c ∨ F2 c → F c := by
  induction h with
  | nil => exact fun _ => ⟨_, _, OwnRs.nil, OwnRs.nil, fun _ h _ => h, fun c h => h.elim False.elim False.elim⟩
  | left h ih =>
    intro F a
    obtain ⟨G1, G2, g1, g2, g3, g4⟩ := a.unsnoc
    obtain ⟨F1, F2, f1, f2, f3, f4⟩ := ih g1
    exact ⟨_, F2, f1.app (OwnRs.one g2) (fun c x y => g3 c (f4 c (.inl x)) y), f2, fun c x y => x.elim (fun z => f3 c z y) (fun z => g3 c (f4 c (.inr y)) z), fun c x => (g4 c).mpr (x.elim (fun z => z.elim (fun y => .inl (f4 c (.inl y))) .inr) (fun y => .inl (f4 c (.inr y))))⟩
  | right h ih =>
    intro F a
    obtain ⟨G1, G2, g1, g2, g3, g4⟩ := a.unsnoc
    obtain ⟨F1, F2, f1, f2, f3, f4⟩ := ih g1
    exact ⟨F1, _, f1, f2.app (OwnRs.one g2) (fun c x y => g3 c (f4 c (.inr x)) y), fun c x y => y.elim (fun z => f3 c x z) (fun z => g3 c (f4 c (.inl x)) z), fun c x => (g4 c).mpr (x.elim (fun y => .inl (f4 c (.inl y))) (fun z => z.elim (fun y => .inl (f4 c (.inr y))) .inr))⟩
/-! ### the moved program -/
open Classical in
noncomputable def mvB (kd : Str) (ts : V) (body : List Row) : List Row :=
  if kd = "when" then [.bk "when" ts body] else
  if kd = "loop" then (if (parts [] body).1 = [] then [.bk "loop" ts (parts [] body).2] else [.bk "when" ts ((parts [] body).1 ++ [.bk "again" ts (parts [] body).2])])
  else (parts [] body).1 ++ [.bk "again" ts (parts [] body).2]
mutual
noncomputable def Row.mv : Row → List Row
  | .lt to sg a b => [.lt to sg a b]
  | .sy a => [.sy a]
  | .bk kd ts rs => mvB kd ts (mvs rs)
noncomputable def mvs : List Row → List Row
  | [] => []
  | r :: rs => r.mv ++ mvs rs
end
theorem mvs_app : ∀ (rs qs : List Row), mvs (rs ++ qs) = mvs rs ++ mvs qs
  | [], qs => rfl
  | r :: rs, qs => by
    show r.mv ++ mvs (rs ++ qs) = (r.mv ++ mvs rs) ++ mvs qs
    rw [mvs_app rs qs, List.append_assoc]
theorem mvs_one (r : Row) : mvs [r] = r.mv := by
  show r.mv ++ [] = _
  rw [List.append_nil]
theorem mvs_take {rs : List Row} {i : Nat} {r : Row} (h : rs[i]? = some r) : mvs (rs.take (i + 1)) = mvs (rs.take i) ++ r.mv := by
  rw [take_one h, mvs_app, mvs_one]
/-! how much there is -/
theorem parts_tots : ∀ (rs st : List Row), tots (parts st rs).1 + tots (parts st rs).2 = tots rs
  | [], _ => rfl
  | r :: rs, st => by
    by_cases h : Goes st r rs
    · rw [parts_go h]
      have := parts_tots rs st
      show (r.tot + tots (parts st rs).1) + tots (parts st rs).2 = r.tot + tots rs
      omega
    · rw [parts_no h]
      have := parts_tots rs (st ++ [r])
      show tots (parts (st ++ [r]) rs).1 + (r.tot + tots (parts (st ++ [r]) rs).2) = r.tot + tots rs
      omega
theorem parts_deps : ∀ (rs st : List Row), deps (parts st rs).1 = 0 ∧ deps (parts st rs).2 ≤ deps rs
  | [], _ => ⟨rfl, Nat.le_refl _⟩
  | r :: rs, st => by
    by_cases h : Goes st r rs
    · rw [parts_go h]
      obtain ⟨h1, h2⟩ := parts_deps rs st
      obtain ⟨to, sg, a, b, e, _⟩ := h
      subst e
      refine ⟨?_, ?_⟩
      · show max 0 (deps (parts st rs).1) = 0
        omega
      · show deps (parts st rs).2 ≤ max 0 (deps rs)
        omega
    · rw [parts_no h]
      obtain ⟨h1, h2⟩ := parts_deps rs (st ++ [r])
      refine ⟨h1, ?_⟩
      show max r.dep (deps (parts (st ++ [r]) rs).2) ≤ max r.dep (deps rs)
      omega
theorem parts_oks {ss : List Str} : ∀ (rs st : List Row), oks ss rs → oks ss (parts st rs).1 ∧ oks ss (parts st rs).2
  | [], _, _ => ⟨True.intro, True.intro⟩
  | r :: rs, st, ⟨h1, h2⟩ => by
    by_cases h : Goes st r rs
    · rw [parts_go h]
      obtain ⟨g1, g2⟩ := parts_oks rs st h2
      exact ⟨⟨h1, g1⟩, g2⟩
    · rw [parts_no h]
      obtain ⟨g1, g2⟩ := parts_oks rs (st ++ [r]) h2
      exact ⟨g1, h1, g2⟩
theorem parts_len : ∀ (rs st : List Row), (parts st rs).1.length + (parts st rs).2.length = rs.length
  | [], _ => rfl
  | r :: rs, st => by
    by_cases h : Goes st r rs
    · rw [parts_go h]
      have := parts_len rs st
      show (parts st rs).1.length + 1 + (parts st rs).2.length = rs.length + 1
      omega
    · rw [parts_no h]
      have := parts_len rs (st ++ [r])
      show (parts (st ++ [r]) rs).1.length + ((parts (st ++ [r]) rs).2.length + 1) = rs.length + 1
      omega
theorem mvB_tots (kd : Str) (ts : V) (body : List Row) : tots (mvB kd ts body) ≤ tots body + 2 := by
  have h := parts_tots body []
  unfold mvB
  split
  · show tots body + 1 + 0 ≤ _
    omega
  · split
    · split
      · show tots (parts [] body).2 + 1 + 0 ≤ _
        omega
      · show tots ((parts [] body).1 ++ [.bk "again" ts (parts [] body).2]) + 1 + 0 ≤ _
        rw [tots_app]
        show tots (parts [] body).1 + (tots (parts [] body).2 + 1 + 0) + 1 + 0 ≤ _
        omega
    · rw [tots_app]
      show tots (parts [] body).1 + (tots (parts [] body).2 + 1 + 0) ≤ _
      omega
theorem mvB_deps (kd : Str) (ts : V) (body : List Row) : deps (mvB kd ts body) ≤ deps body + 2 := by
  obtain ⟨h1, h2⟩ := parts_deps body []
  unfold mvB
  split
  · show max (deps body + 1) 0 ≤ _
    omega
  · split
    · split
      · show max (deps (parts [] body).2 + 1) 0 ≤ _
        omega
      · show max (deps ((parts [] body).1 ++ [.bk "again" ts (parts [] body).2]) + 1) 0 ≤ _
        rw [deps_app]
        show max (max (deps (parts [] body).1) (max (deps (parts [] body).2 + 1) 0) + 1) 0 ≤ _
        omega
    · rw [deps_app]
      show max (deps (parts [] body).1) (max (deps (parts [] body).2 + 1) 0) ≤ _
      omega
mutual
theorem Row.mv_tots : ∀ r : Row, tots r.mv ≤ 2 * r.tot
  | .lt _ _ _ _ => by show 1 + 0 ≤ 2; omega
  | .sy _ => by show 1 + 0 ≤ 2; omega
  | .bk kd ts rs => by
    have h1 := mvB_tots kd ts (mvs rs)
    have h2 := mvs_tots rs
    show tots (mvB kd ts (mvs rs)) ≤ 2 * (tots rs + 1)
    omega
theorem mvs_tots : ∀ rs : List Row, tots (mvs rs) ≤ 2 * tots rs
  | [] => Nat.le_refl _
  | r :: rs => by
    have h1 := Row.mv_tots r
    have h2 := mvs_tots rs
    show tots (r.mv ++ mvs rs) ≤ 2 * (r.tot + tots rs)
    rw [tots_app]
    omega
end
mutual
theorem Row.mv_deps : ∀ r : Row, deps r.mv ≤ 2 * r.dep
  | .lt _ _ _ _ => Nat.le_refl _
  | .sy _ => Nat.le_refl _
  | .bk kd ts rs => by
    have h1 := mvB_deps kd ts (mvs rs)
    have h2 := mvs_deps rs
    show deps (mvB kd ts (mvs rs)) ≤ 2 * (deps rs + 1)
    omega
theorem mvs_deps : ∀ rs : List Row, deps (mvs rs) ≤ 2 * deps rs
  | [] => Nat.le_refl _
  | r :: rs => by
    have h1 := Row.mv_deps r
    have h2 := mvs_deps rs
    show deps (r.mv ++ mvs rs) ≤ 2 * max r.dep (deps rs)
    rw [deps_app]
    omega
end
theorem mvB_ok {ss : List Str} {kd te : Str} {body : List Row} (hk : kd ∈ kinds) (ht : te ∈ ss) (ok : oks ss body) (hl : tots body ≤ 1900) : oks ss (mvB kd (.str te) body) := by
  obtain ⟨h1, h2⟩ := parts_oks body [] ok
  have hp := parts_tots body []
  have l0 := len_tots body
  have l1 := len_tots (parts [] body).1
  have l2 := len_tots (parts [] body).2
  unfold mvB
  split
  · exact ⟨⟨by decide +kernel, ⟨_, rfl, ht⟩, by omega, ok⟩, True.intro⟩
  · split
    · split
      · exact ⟨⟨by decide +kernel, ⟨_, rfl, ht⟩, by omega, h2⟩, True.intro⟩
      · exact ⟨⟨by decide +kernel, ⟨_, rfl, ht⟩, by rw [List.length_append]; show _ + 1 ≤ 2000; omega, oks_app h1 ⟨⟨by decide +kernel, ⟨_, rfl, ht⟩, by omega, h2⟩, True.intro⟩⟩, True.intro⟩
    · exact oks_app h1 ⟨⟨by decide +kernel, ⟨_, rfl, ht⟩, by omega, h2⟩, True.intro⟩
mutual
theorem Row.mv_ok {ss : List Str} : ∀ r : Row, r.ok ss → r.tot ≤ 900 → oks ss r.mv
  | .lt _ _ _ _, h, _ => ⟨h, True.intro⟩
  | .sy _, h, _ => ⟨h, True.intro⟩
  | .bk kd ts rs, ⟨h1, ⟨x, h2, h3⟩, h4, h5⟩, hl => by
    have ht := mvs_tots rs
    have hl' : tots rs + 1 ≤ 900 := hl
    subst h2
    exact mvB_ok h1 h3 (mvs_ok rs h5 (by omega)) (by omega)
theorem mvs_ok {ss : List Str} : ∀ rs : List Row, oks ss rs → tots rs ≤ 900 → oks ss (mvs rs)
  | [], _, _ => True.intro
  | r :: rs, ⟨h1, h2⟩, hl => by
    have hl' : r.tot + tots rs ≤ 900 := hl
    exact oks_app (Row.mv_ok r h1 (by omega)) (mvs_ok rs h2 (by omega))
end
theorem sqT_upd {K : PySem.W.Frag} {H : Hp} {D : Addr} {us : List V} {o : HO} (e : H D = some (.lst us)) {p : Addr} {xs : List V} (h : SqT K H p xs) : SqT K (upd H D o) p xs := by
  rcases h with (h | ⟨u, h⟩) | h
  · exact .inl (.inl (by rw [upd_ne (ne_of h e (by intro z; cases z))]; exact h))
  · exact .inl (.inr ⟨u, by rw [upd_ne (ne_of h e (by intro z; cases z))]; exact h⟩)
  · exact .inr h
end Lm
/-! Moved once is enough. -/
namespace Lm
open PySem L2
theorem parts_set {x : Str} : ∀ (be st : List Row), (setN (flats st) x ∨ askN (flats st) x) → setN (flats be) x → setN (flats (parts st be).2) x
  | [], _, _, h => h
  | q :: be, st, hx, h => by
    rw [flats_cons, setN_app] at h
    by_cases g : Goes st q be
    · rw [parts_go g]
      obtain ⟨to, sg, a, b, rfl, _, _, n1, _, n2, _⟩ := g
      rcases h with h | h
      · have e := (setN_let to sg a b x).mp h
        subst e
        exact absurd hx (fun z => z.elim n1 n2)
      · exact parts_set be st hx h
    · rw [parts_no g]
      show setN (flats (q :: (parts (st ++ [q]) be).2)) x
      rw [flats_cons, setN_app]
      rcases h with h | h
      · exact .inl h
      · refine .inr (parts_set be (st ++ [q]) ?_ h)
        rw [flats_app, setN_app, askN_app]
        exact hx.elim (fun z => .inl (.inl z)) fun z => .inr (.inl z)
theorem Goes.back {st be : List Row} {r : Row} (h : Goes st r (parts (st ++ [r]) be).2) : Goes st r be := by
  obtain ⟨to, sg, a, b, rfl, h1, h2, h3, h4, h5, h6⟩ := h
  refine ⟨to, sg, a, b, rfl, h1, h2, h3, fun z => h4 (parts_set be _ (.inl ?_) z), h5, fun x hx => ⟨(h6 x hx).1, (h6 x hx).2.1, fun z => (h6 x hx).2.2 (parts_set be _ (.inr ?_) z)⟩⟩
  · rw [flats_app, setN_app, flats_one]
    exact .inr ((setN_let to sg a b to).mpr rfl)
  · rw [flats_app, askN_app, flats_one]
    exact .inr ⟨_, List.mem_singleton.mpr rfl, hx⟩
/-- of those that stay none goes ahead -/
theorem parts_again : ∀ (be st : List Row), parts st (parts st be).2 = ([], (parts st be).2)
  | [], st => rfl
  | r :: be, st => by
    by_cases g : Goes st r be
    · rw [parts_go g]
      exact parts_again be st
    · rw [parts_no g]
      show parts st (r :: (parts (st ++ [r]) be).2) = _
      rw [parts_no (fun z => g z.back), parts_again be (st ++ [r])]
theorem parts_stay : ∀ (rs st : List Row), (parts st rs).1 = [] → (parts st rs).2 = rs
  | [], _, _ => rfl
  | r :: rs, st, h => by
    by_cases g : Goes st r rs
    · rw [parts_go g] at h
      cases h
    · rw [parts_no g] at h ⊢
      show r :: (parts (st ++ [r]) rs).2 = _
      rw [parts_stay rs (st ++ [r]) h]
mutual
/-- nothing is left to move -/
def Row.still : Row → Prop
  | .lt _ _ _ _ => True
  | .sy _ => True
  | .bk kd ts rs => stills rs ∧ (kd = "when" ∨ (kd = "loop" ∨ kd = "again") ∧ (parts [] rs).1 = [])
def stills : List Row → Prop
  | [] => True
  | r :: rs => r.still ∧ stills rs
end
theorem stills_app : ∀ {rs qs : List Row}, stills rs → stills qs → stills (rs ++ qs)
  | [], _, _, h => h
  | r :: rs, _, ⟨h1, h2⟩, h => ⟨h1, stills_app h2 h⟩
theorem parts_still : ∀ (rs st : List Row), stills rs → stills (parts st rs).1 ∧ stills (parts st rs).2
  | [], _, _ => ⟨True.intro, True.intro⟩
  | r :: rs, st, ⟨h1, h2⟩ => by
    by_cases g : Goes st r rs
    · rw [parts_go g]
      obtain ⟨a, b⟩ := parts_still rs st h2
      exact ⟨⟨h1, a⟩, b⟩
    · rw [parts_no g]
      obtain ⟨a, b⟩ := parts_still rs (st ++ [r]) h2
      exact ⟨a, h1, b⟩
theorem again_still (ts : V) {body : List Row} (h : stills body) : (Row.bk "again" ts (parts [] body).2).still :=
  ⟨(parts_still body [] h).2, .inr ⟨.inr rfl, by rw [parts_again body []]⟩⟩
theorem mvB_still (kd : Str) (ts : V) {body : List Row} (h : stills body) : stills (mvB kd ts body) := by
  obtain ⟨h1, h2⟩ := parts_still body [] h
  unfold mvB
  split
  · exact ⟨⟨h, .inl rfl⟩, True.intro⟩
  · split
    · split
      · exact ⟨⟨h2, .inr ⟨.inl rfl, by rw [parts_again body []]⟩⟩, True.intro⟩
      · exact ⟨⟨stills_app h1 ⟨again_still ts h, True.intro⟩, .inl rfl⟩, True.intro⟩
    · exact stills_app h1 ⟨again_still ts h, True.intro⟩
mutual
theorem Row.mv_still : ∀ r : Row, stills r.mv
  | .lt _ _ _ _ => ⟨True.intro, True.intro⟩
  | .sy _ => ⟨True.intro, True.intro⟩
  | .bk kd ts rs => mvB_still kd ts (mvs_still rs)
theorem mvs_still : ∀ rs : List Row, stills (mvs rs)
  | [] => True.intro
  | r :: rs => stills_app (Row.mv_still r) (mvs_still rs)
end
mutual
theorem Row.still_mv : ∀ r : Row, r.still → r.mv = [r]
  | .lt _ _ _ _, _ => rfl
  | .sy _, _ => rfl
  | .bk kd ts rs, ⟨h1, h2⟩ => by
    show mvB kd ts (mvs rs) = _
    rw [stills_mvs rs h1]
    rcases h2 with e | ⟨e | e, h⟩
    · subst e
      exact if_pos rfl
    · subst e
      refine (if_neg (by decide)).trans ((if_pos rfl).trans ((if_pos h).trans ?_))
      rw [parts_stay rs [] h]
    · subst e
      refine (if_neg (by decide)).trans ((if_neg (by decide)).trans ?_)
      rw [h, parts_stay rs [] h]
      rfl
theorem stills_mvs : ∀ rs : List Row, stills rs → mvs rs = rs
  | [], _ => rfl
  | r :: rs, ⟨h1, h2⟩ => by
    show r.mv ++ mvs rs = _
    rw [Row.still_mv r h1, stills_mvs rs h2]
    rfl
end
theorem mvs_mvs (rs : List Row) : mvs (mvs rs) = mvs rs := stills_mvs _ (mvs_still rs)
end Lm
/-! What is left of rows; data of lets; a part of the heap with one more. -/
namespace Lm
open PySem L2
theorem AllAt.drop {K : PySem.W.Frag} {H : Hp} : ∀ {rs : List Row} {vs : List V} (i : Nat), AllAt K H rs vs → AllAt K H (rs.drop i) (vs.drop i)
  | [], vs, i, h => by
    have e : vs = [] := h
    subst e
    rw [List.drop_nil, List.drop_nil]
    rfl
  | r :: rs, _, 0, h => h
  | r :: rs, _, i + 1, ⟨v, ws, h1, h2, h3⟩ => by
    subst h1
    exact h3.drop i
theorem oks_left {ss : List Str} : ∀ {rs qs : List Row}, oks ss (rs ++ qs) → oks ss rs
  | [], _, _ => True.intro
  | _ :: _, _, ⟨h1, h2⟩ => ⟨h1, oks_left h2⟩
theorem oks_drop {ss : List Str} : ∀ {rs : List Row} (i : Nat), oks ss rs → oks ss (rs.drop i)
  | [], i, h => by rw [List.drop_nil]; exact h
  | _ :: _, 0, h => h
  | _ :: rs, i + 1, h => oks_drop (rs := rs) i h.2
theorem oks_take {ss : List Str} : ∀ {rs : List Row} (i : Nat), oks ss rs → oks ss (rs.take i)
  | [], i, h => by rw [List.take_nil]; exact h
  | _ :: _, 0, _ => True.intro
  | _ :: rs, i + 1, h => ⟨h.1, oks_take (rs := rs) i h.2⟩
theorem tots_drop_le (rs : List Row) (i : Nat) : tots (rs.drop i) ≤ tots rs := by
  have h := tots_app (rs := rs.take i) (qs := rs.drop i)
  rw [List.take_append_drop] at h
  omega
theorem deps_drop_le (rs : List Row) (i : Nat) : deps (rs.drop i) ≤ deps rs := by
  have h := deps_app (rs := rs.take i) (qs := rs.drop i)
  rw [List.take_append_drop] at h
  omega
theorem Mid.st_ok {ss : List Str} {rs be ah st : List Row} (h : Mid rs be ah st) (ok : oks ss rs) : oks ss st := oks_left (qs := (parts st be).2) (by rw [← h.two]; exact (parts_oks rs [] ok).2)
theorem Mid.st_tots {rs be ah st : List Row} (h : Mid rs be ah st) : tots st ≤ tots rs := by
  have h1 := parts_tots rs []
  have h2 := h.two
  rw [h2, tots_app] at h1
  omega
theorem Mid.st_deps {rs be ah st : List Row} (h : Mid rs be ah st) : deps st ≤ deps rs := by
  have h1 := (parts_deps rs []).2
  have h2 := h.two
  rw [h2, deps_app] at h1
  omega
theorem cut_drop (xs : List V) (i : Nat) {z : Int} (hz : z = (i : Int)) : cutV xs (some z) none = xs.drop i := by
  subst hz
  unfold cutV
  rw [HT.sIx_nat]
  show (xs.drop (min i xs.length)).take (xs.length - min i xs.length) = _
  by_cases h : i ≤ xs.length
  · rw [Nat.min_eq_left h]
    exact List.take_of_length_le (by rw [List.length_drop]; exact Nat.le_refl _)
  · rw [Nat.min_eq_right (by omega), Nat.sub_self, List.take_zero, List.drop_eq_nil_of_le (by omega)]
theorem drop_one {α : Type} {l : List α} {i : Nat} {x : α} (h : l[i]? = some x) : l.drop i = x :: l.drop (i + 1) := by
  obtain ⟨hl, hx⟩ := List.getElem?_eq_some_iff.mp h
  rw [List.drop_eq_getElem_cons hl, hx]
/-- one more object that stays -/
theorem Part.add {Hc H Hc' H' : Hp} (p : Part Hc H Hc' H') {a : Addr} {o : HO} (hc : Hc a = none) (h : H a = none) (e : H' a = some o) : Part Hc H (upd Hc' a o) H' :=
  ⟨p.all, fun b u q => by rw [upd_ne (ne_of_none q hc)]; exact p.cl b u q, fun b u q => by
    by_cases z : b = a
    · rw [z, upd_same] at q
      rw [z, ← q]
      exact e
    · rw [upd_ne z] at q
      exact p.sub b u q, fun b u q n => by rw [upd_ne (ne_of_none q h)]; exact p.no b u q n⟩
theorem Part.grown {Hc H H' : Hp} (h : Same Hc H) (s : Same H H') : Part Hc H Hc H' := ⟨s, Same.refl _, h.trans s, fun _ _ _ z => z⟩
theorem parts_lets : ∀ (rs st : List Row), ∀ r ∈ (parts st rs).1, ∃ to sg a b, r = Row.lt to sg a b
  | [], _, r, h => by cases h
  | q :: rs, st, r, h => by
    by_cases g : Goes st q rs
    · rw [parts_go g] at h
      rcases List.mem_cons.mp h with e | e
      · obtain ⟨to, sg, a, b, e2, _⟩ := g
        exact ⟨to, sg, a, b, e.trans e2⟩
      · exact parts_lets rs st r e
    · rw [parts_no g] at h
      exact parts_lets rs (st ++ [q]) r h
theorem letters_le : ∀ {l : List Nat}, lettersB l = true → ∀ c ∈ l, c < 1114112
  | [], _, c, h => by cases h
  | d :: l, hb, c, h => by
    have hb' : (Nat.ble 97 d && (Nat.ble d 122 && lettersB l)) = true := hb
    rw [Bool.and_eq_true, Bool.and_eq_true] at hb'
    rcases List.mem_cons.mp h with e | e
    · have := Nat.le_of_ble_eq_true hb'.2.1
      rw [e]
      omega
    · exact letters_le hb'.2.2 c e
theorem good_letters {s : Str} (h : Good s) : lettersB s.cps.toList = true := by
  unfold Good GoodL at h
  simp only [Bool.and_eq_true] at h
  exact h.1.2
theorem good_strOk {s : Str} (h : Good s) : PyData.strOk s = true := by
  unfold PyData.strOk
  rw [← Array.all_toList, List.all_eq_true]
  exact fun c hc => decide_eq_true (letters_le (good_letters h) c hc)
def Vl.dat : Vl → PyData
  | .nm s => .str s
  | .nu i => .int i
theorem Vl.dp {K : PySem.W.Frag} {H : Hp} : ∀ x : Vl, Dp K H x.v x.dat
  | .nm s => .str s
  | .nu i => .int i
theorem Vl.dat_ok {ss : List Str} (hg : ∀ s ∈ ss, Good s) : ∀ {x : Vl}, x.ok ss → x.dat.canLay0 = true
  | .nm s, h => by
    show PyData.canLay0 (.str s) = true
    unfold PyData.canLay0
    exact good_strOk (hg s h)
  | .nu i, _ => by
    show PyData.canLay0 (.int i) = true
    unfold PyData.canLay0
    rfl
theorem Vl.dat_depth : ∀ x : Vl, x.dat.depth = 0
  | .nm s => by
    show PyData.depth (.str s) = 0
    unfold PyData.depth
    rfl
  | .nu i => by
    show PyData.depth (.int i) = 0
    unfold PyData.depth
    rfl
theorem sign_strOk : ∀ sg ∈ signs, PyData.strOk sg = true := by
  have h : signs.all (fun s => PyData.strOk s) = true := by decide +kernel
  exact fun s hs => List.all_eq_true.mp h s hs
def letD (to sg : Str) (a b : Vl) : PyData := .tuple [.str "let", .str to, .str sg, a.dat, b.dat]
theorem letD_ok {ss : List Str} (hg : ∀ s ∈ ss, Good s) {to sg : Str} {a b : Vl} (h : (Row.lt to sg a b).ok ss) : (letD to sg a b).canLay0 = true ∧ (letD to sg a b).depth = 1 := by
  obtain ⟨h1, h2, h3, h4⟩ := h
  constructor
  · have e1 : PyData.canLay0 (.str "let") = true := by unfold PyData.canLay0; decide +kernel
    have e2 : PyData.canLay0 (.str to) = true := by unfold PyData.canLay0; exact good_strOk (hg _ h1)
    have e3 : PyData.canLay0 (.str sg) = true := by unfold PyData.canLay0; exact sign_strOk _ h2
    unfold letD
    simp only [PyData.canLay0, PyData.canLayAll0] at e1 e2 e3 ⊢
    rw [e1, e2, e3, Vl.dat_ok hg h3, Vl.dat_ok hg h4]
    rfl
  · unfold letD
    simp only [PyData.depth, PyData.depthAll]
    rw [Vl.dat_depth, Vl.dat_depth]
    rfl
theorem lets_dp {K : PySem.W.Frag} {H : Hp} {ss : List Str} (hg : ∀ s ∈ ss, Good s) : ∀ {rs : List Row} {vs : List V}, (∀ r ∈ rs, ∃ to sg a b, r = Row.lt to sg a b) → oks ss rs → AllAt K H rs vs → ∃ ds : List PyData, DpAll K H vs ds ∧ PyData.canLayAll0 ds = true ∧ PyData.depthAll ds ≤ 1 ∧ ds.length = rs.length
  | [], vs, _, _, h => by
    have e : vs = [] := h
    subst e
    exact ⟨[], .nil, by unfold PyData.canLayAll0; rfl, by unfold PyData.depthAll; decide, rfl⟩
  | r :: rs, _, hl, ok, ⟨v, ws, h1, h2, h3⟩ => by
    subst h1
    obtain ⟨to, sg, a, b, rfl⟩ := hl r List.mem_cons_self
    obtain ⟨p, e1, e2⟩ := h2
    subst e1
    obtain ⟨ds, d1, d2, d3, d4⟩ := lets_dp hg (fun q hq => hl q (List.mem_cons_of_mem _ hq)) ok.2 h3
    obtain ⟨k1, k2⟩ := letD_ok hg ok.1
    refine ⟨letD to sg a b :: ds, .cons (.tup e2 (.cons (.str _) (.cons (.str _) (.cons (.str _) (.cons a.dp (.cons b.dp .nil)))))) d1, ?_, ?_, by rw [List.length_cons, List.length_cons, d4]⟩
    · unfold PyData.canLayAll0
      rw [k1, d2]
      rfl
    · unfold PyData.depthAll
      rw [k2]
      omega
theorem shaped_list {ds : List PyData} (h1 : PyData.canLayAll0 ds = true) (h2 : PyData.depthAll ds ≤ 1) : SeqAt.shaped (.list ds) = true := by
  unfold SeqAt.shaped
  rw [Bool.and_eq_true]
  refine ⟨by unfold PyData.canLay0; exact h1, decide_eq_true ?_⟩
  unfold PyData.depth
  omega
theorem eqv_nil : ∀ ds : List PyData, PyData.eqv (.list ds) (.list []) = decide (ds.length = 0)
  | [] => by
    unfold PyData.eqv PyData.eqvAll
    rfl
  | d :: ds => by
    unfold PyData.eqv PyData.eqvAll
    rw [decide_eq_false (by rw [List.length_cons]; omega)]
/-- what changes elsewhere leaves a tuple -/
theorem sqT_off {K : PySem.W.Frag} {H H' : Hp} {F : Addr → Prop} (f : ∀ c o, H c = some o → ¬ F c → H' c = some o) (hF : ∀ c, F c → ∃ xs, H c = some (.lst xs)) {p : Addr} {xs : List V} (h : SqT K H p xs) : SqT K H' p xs := by
  have no : ∀ {o : HO}, H p = some o → (∀ xs, o ≠ .lst xs) → ¬ F p := fun e n q => by
    obtain ⟨xs, e2⟩ := hF p q
    rw [e] at e2
    exact n xs (Option.some.inj e2)
  rcases h with (h | ⟨u, h⟩) | h
  · exact .inl (.inl (f _ _ h (no h (fun _ z => by cases z))))
  · exact .inl (.inr ⟨u, f _ _ h (no h (fun _ z => by cases z))⟩)
  · exact .inr h
theorem own_bk {K : PySem.W.Frag} {B H : Hp} {p l : Addr} {kd : Str} {ts : V} {rs : List Row} {xs : List V} {F : Addr → Prop} (hp : SqT K H p [.str kd, ts, .ref l]) (hl : H l = some (.lst xs)) (hB : B l = none) (h : OwnRs K B H rs xs F) (hF : ¬ F l) : OwnR K B H (.bk kd ts rs) (.ref p) (fun c => c = l ∨ F c) :=
  ⟨p, l, xs, F, rfl, hp, hl, hB, h, hF, fun _ => Iff.rfl⟩
theorem cut_take (xs : List V) (i : Nat) {z : Int} (hz : z = (i : Int)) : cutV xs none (some z) = xs.take i := by
  subst hz
  unfold cutV
  rw [HT.sIx_nat]
  show (xs.drop 0).take (min i xs.length - 0) = _
  rw [List.drop_zero, Nat.sub_zero]
  by_cases h : i ≤ xs.length
  · rw [Nat.min_eq_left h]
  · rw [Nat.min_eq_right (by omega), List.take_length, List.take_of_length_le (by omega)]
theorem Vl.more {ss ss' : List Str} (h : ∀ s ∈ ss, s ∈ ss') : ∀ {x : Vl}, x.ok ss → x.ok ss'
  | .nm s, q => h s q
  | .nu _, q => q
mutual
theorem Row.more {ss ss' : List Str} (h : ∀ s ∈ ss, s ∈ ss') : ∀ (r : Row), r.ok ss → r.ok ss'
  | .lt _ _ _ _, ⟨a, b, c, d⟩ => ⟨h _ a, b, Vl.more h c, Vl.more h d⟩
  | .sy _, q => Vl.more h q
  | .bk _ _ rs, ⟨a, ⟨s, e, b⟩, c, d⟩ => ⟨a, ⟨s, e, h _ b⟩, c, oks_more h rs d⟩
theorem oks_more {ss ss' : List Str} (h : ∀ s ∈ ss, s ∈ ss') : ∀ (rs : List Row), oks ss rs → oks ss' rs
  | [], _ => True.intro
  | r :: rs, ⟨a, b⟩ => ⟨Row.more h r a, oks_more h rs b⟩
end
theorem all_true (n : Nat) : (List.replicate n true).all id = true := by simp
theorem ints_dp {K : PySem.W.Frag} {H : Hp} : ∀ xs : List Int, DpAll K H (xs.map V.int) (xs.map PyData.int) ∧ PyData.canLayAll0 (xs.map PyData.int) = true ∧ PyData.depthAll (xs.map PyData.int) = 0 ∧ PyData.eqvAll (xs.map PyData.int) (xs.map PyData.int) = true
  | [] => ⟨.nil, by show PyData.canLayAll0 [] = true; unfold PyData.canLayAll0; rfl, by show PyData.depthAll [] = 0; unfold PyData.depthAll; rfl, by show PyData.eqvAll [] [] = true; unfold PyData.eqvAll; rfl⟩
  | x :: xs => by
    obtain ⟨h1, h2, h3, h4⟩ := ints_dp (K := K) (H := H) xs
    refine ⟨.cons (.int x) h1, ?_, ?_, ?_⟩
    · show PyData.canLayAll0 (.int x :: xs.map PyData.int) = true
      unfold PyData.canLayAll0
      rw [h2]
      unfold PyData.canLay0
      rfl
    · show PyData.depthAll (.int x :: xs.map PyData.int) = 0
      unfold PyData.depthAll
      rw [h3]
      unfold PyData.depth
      rfl
    · show PyData.eqvAll (.int x :: xs.map PyData.int) (.int x :: xs.map PyData.int) = true
      unfold PyData.eqvAll
      rw [h4]
      unfold PyData.eqv
      simp
theorem ints_same {K : PySem.W.Frag} {H : Hp} {p q : Addr} {xs : List Int} (h1 : SqL K H p (xs.map V.int)) (h2 : SqL K H q (xs.map V.int)) : ∃ d, Dp K H (.ref p) d ∧ Dp K H (.ref q) d ∧ SeqAt.shaped d = true ∧ PyData.eqv d d = true := by
  obtain ⟨a1, a2, a3, a4⟩ := ints_dp (K := K) (H := H) xs
  refine ⟨.list (xs.map PyData.int), .lst h1 a1, .lst h2 a1, shaped_list a2 (by omega), ?_⟩
  unfold PyData.eqv
  exact a4
end Lm
/-! Rows whose tuples and lists are the heap's own. -/
namespace Lm.S
open PySem L2
mutual
/-- the row stands at v, in tuples and lists of the heap's own -/
def RowAt (K : PySem.W.Frag) (H : Hp) : Row → V → Prop
  | .lt to sg a b, v => ∃ p, v = .ref p ∧ H p = some (.tup [.str "let", .str to, .str sg, a.v, b.v])
  | .sy a, v => ∃ p, v = .ref p ∧ H p = some (.tup [.str "say", a.v])
  | .bk kd ts rs, v => ∃ p l vs, v = .ref p ∧ H p = some (.tup [.str kd, ts, .ref l]) ∧ H l = some (.lst vs) ∧ AllAt K H rs vs
def AllAt (K : PySem.W.Frag) (H : Hp) : List Row → List V → Prop
  | [], vs => vs = []
  | r :: rs, vs => ∃ v ws, vs = v :: ws ∧ RowAt K H r v ∧ AllAt K H rs ws
end
def RowsAt (K : PySem.W.Frag) (H : Hp) (l : Addr) (rs : List Row) : Prop := ∃ vs, H l = some (.lst vs) ∧ AllAt K H rs vs
abbrev RowsL := RowsAt
mutual
theorem RowAt.to {K : PySem.W.Frag} {H : Hp} : ∀ (r : Row) {v : V}, RowAt K H r v → Lm.RowAt K H r v
  | .lt _ _ _ _, _, ⟨p, h1, h2⟩ => ⟨p, h1, SqT.of h2⟩
  | .sy _, _, ⟨p, h1, h2⟩ => ⟨p, h1, SqT.of h2⟩
  | .bk _ _ rs, _, ⟨p, l, vs, h1, h2, h3, h4⟩ => ⟨p, l, vs, h1, SqT.of h2, SqL.of h3, AllAt.to rs h4⟩
theorem AllAt.to {K : PySem.W.Frag} {H : Hp} : ∀ (rs : List Row) {vs : List V}, AllAt K H rs vs → Lm.AllAt K H rs vs
  | [], _, h => h
  | r :: rs, _, ⟨v, ws, h1, h2, h3⟩ => ⟨v, ws, h1, RowAt.to r h2, AllAt.to rs h3⟩
end
theorem RowsAt.to {K : PySem.W.Frag} {H : Hp} {l : Addr} {rs : List Row} (h : RowsAt K H l rs) : Lm.RowsAt K H l rs := let ⟨vs, h1, h2⟩ := h; ⟨vs, SqL.of h1, AllAt.to rs h2⟩
mutual
theorem RowAt.mono {K : PySem.W.Frag} {H H' : Hp} (e : Kp H H') : ∀ (r : Row) (v : V), RowAt K H r v → RowAt K H' r v
  | .lt _ _ _ _, _, ⟨p, h1, h2⟩ => ⟨p, h1, e.at_ _ _ h2 (fun _ q => by cases q)⟩
  | .sy _, _, ⟨p, h1, h2⟩ => ⟨p, h1, e.at_ _ _ h2 (fun _ q => by cases q)⟩
  | .bk _ _ rs, _, ⟨p, l, vs, h1, h2, h3, h4⟩ => ⟨p, l, vs, h1, e.at_ _ _ h2 (fun _ q => by cases q), e.at_ _ _ h3 (fun _ q => by cases q), AllAt.mono e rs vs h4⟩
theorem AllAt.mono {K : PySem.W.Frag} {H H' : Hp} (e : Kp H H') : ∀ (rs : List Row) (vs : List V), AllAt K H rs vs → AllAt K H' rs vs
  | [], _, h => h
  | r :: rs, _, ⟨v, ws, h1, h2, h3⟩ => ⟨v, ws, h1, RowAt.mono e r v h2, AllAt.mono e rs ws h3⟩
end
theorem RowsAt.mono {K : PySem.W.Frag} {H H' : Hp} (e : Kp H H') {l : Addr} {rs : List Row} (h : RowsAt K H l rs) : RowsAt K H' l rs :=
  let ⟨vs, h1, h2⟩ := h; ⟨vs, e.at_ _ _ h1 (fun _ q => by cases q), AllAt.mono e rs vs h2⟩
theorem AllAt.len {K : PySem.W.Frag} {H : Hp} {rs : List Row} {vs : List V} (h : AllAt K H rs vs) : vs.length = rs.length := (AllAt.to rs h).len
theorem AllAt.app {K : PySem.W.Frag} {H : Hp} : ∀ {rs qs : List Row} {vs ws : List V}, AllAt K H rs vs → AllAt K H qs ws → AllAt K H (rs ++ qs) (vs ++ ws)
  | [], _, _, _, h, q => by
    have e : _ = [] := h
    rw [e]
    exact q
  | r :: rs, _, _, _, ⟨v, us, h1, h2, h3⟩, q => by
    rw [h1]
    exact ⟨v, us ++ _, rfl, h2, AllAt.app h3 q⟩
theorem AllAt.one {K : PySem.W.Frag} {H : Hp} {r : Row} {v : V} (h : RowAt K H r v) : AllAt K H [r] [v] := ⟨v, [], rfl, h, rfl⟩
theorem AllAt.at {K : PySem.W.Frag} {H : Hp} : ∀ {rs : List Row} {vs : List V} {i : Nat} {v : V}, AllAt K H rs vs → vs[i]? = some v → ∃ r, rs[i]? = some r ∧ RowAt K H r v
  | [], _, i, v, h, e => by
    have e' : _ = [] := h
    rw [e'] at e
    cases e
  | r :: rs, _, 0, v, ⟨v', ws, h1, h2, h3⟩, e => by
    rw [h1] at e
    cases e
    exact ⟨r, rfl, h2⟩
  | r :: rs, _, i + 1, v, ⟨v', ws, h1, h2, h3⟩, e => by
    rw [h1] at e
    exact AllAt.at (rs := rs) h3 (by simpa using e)
/-- the open lists around `child`, from within outwards; Hc: what is closed -/
def Outs (K : PySem.W.Frag) (ss : List Str) (m : Nat) (Hc H : Hp) : Addr → List (Addr × List Row) → Prop
  | _, [] => True
  | child, q :: o => (∃ (vs : List V) (t : Addr) (kd ts : Str), H q.1 = some (.lst (vs ++ [.ref t])) ∧ AllAt K Hc q.2 vs ∧ Hc t = some (.tup [.str kd, .str ts, .ref child]) ∧ kd ∈ kinds ∧ ts ∈ ss) ∧
    oks ss q.2 ∧ q.2.length ≤ m ∧ deps q.2 + o.length ≤ 3 ∧ Outs K ss m Hc H q.1 o
theorem Outs.mono {K : PySem.W.Frag} {ss : List Str} {m m' : Nat} {Hc Hc' H H' : Hp} (hm : m ≤ m') (hs : Same Hc Hc') : ∀ {o : List (Addr × List Row)} {c : Addr}, (∀ b ∈ o.map (·.1), H' b = H b) → Outs K ss m Hc H c o → Outs K ss m' Hc' H' c o
  | [], _, _, _ => True.intro
  | q :: o, c, hb, ⟨⟨vs, t, kd, ts, h1, h2, h3, h4, h5⟩, h6, h7, h8, h9⟩ =>
    ⟨⟨vs, t, kd, ts, by rw [hb q.1 (by simp)]; exact h1, AllAt.mono (Same.kp hs) _ _ h2, hs _ _ h3, h4, h5⟩, h6, Nat.le_trans h7 hm, h8, Outs.mono hm hs (fun b h => hb b (by simp only [List.map_cons, List.mem_cons]; exact .inr h)) h9⟩
/-- how many rows stand in the open lists, their blocks with them -/
def outs : List (Addr × List Row) → Nat
  | [] => 0
  | q :: o => tots q.2 + 1 + outs o
/-- the open lists' addresses -/
abbrev opens (l : Addr) (o : List (Addr × List Row)) : List Addr := l :: o.map (·.1)
structure Prog (K : PySem.W.Frag) (ss : List Str) (m : Nat) (H0 Hc H : Hp) (S T l : Addr) (rs : List Row) (o : List (Addr × List Row)) (ts : List Str) : Prop where
  old : Same H0 Hc
  cl : Same Hc H
  inn : ∃ vs, H l = some (.lst vs) ∧ AllAt K Hc rs vs
  out : Outs K ss m Hc H l o
  no : ∀ b ∈ S :: T :: opens l o, Hc b = none
  nd : (S :: T :: opens l o).Nodup
  ok : oks ss rs
  dep : deps rs + o.length ≤ 3
  wid : rs.length ≤ m
  num : tots rs + outs o ≤ m
  st : H S = some (.lst ((opens l o).reverse.map V.ref))
  te : H T = some (.lst (ts.map V.str))
  tok : ∀ t ∈ ts, t = "" ∨ t ∈ ss
section
variable {K : PySem.W.Frag} {ss : List Str} {m : Nat} {H0 Hc H : Hp} {S T l : Addr} {rs : List Row} {o : List (Addr × List Row)} {ts : List Str}
theorem Outs.some : ∀ {o : List (Addr × List Row)} {c : Addr}, Outs K ss m Hc H c o → ∀ b ∈ o.map (·.1), ∃ xs, H b = some (.lst xs)
  | [], _, _, b, hb => by cases hb
  | q :: o, c, ⟨⟨vs, t, kd, ts, h1, _⟩, _, _, _, h9⟩, b, hb => by
    rcases List.mem_cons.mp (by simpa using hb : b ∈ q.1 :: o.map (·.1)) with e | e
    · rw [e]
      exact ⟨_, h1⟩
    · exact Outs.some h9 b e
theorem Prog.there (h : Prog K ss m H0 Hc H S T l rs o ts) : ∀ b ∈ S :: T :: opens l o, ∃ xs, H b = some (.lst xs) := fun b hb => by
  rcases List.mem_cons.mp hb with e | hb
  · rw [e]
    exact ⟨_, h.st⟩
  rcases List.mem_cons.mp hb with e | hb
  · rw [e]
    exact ⟨_, h.te⟩
  rcases List.mem_cons.mp hb with e | hb
  · rw [e]
    obtain ⟨vs, h1, _⟩ := h.inn
    exact ⟨_, h1⟩
  · exact Outs.some h.out b hb
theorem Prog.apart (h : Prog K ss m H0 Hc H S T l rs o ts) {p : Addr} (hp : H p = none) : ∀ b ∈ S :: T :: opens l o, b ≠ p := fun b hb => by
  obtain ⟨xs, e⟩ := h.there b hb
  exact ne_of_none e hp
theorem Prog.same (h : Prog K ss m H0 Hc H S T l rs o ts) : Same H0 H := h.old.trans h.cl
theorem Prog.more (h : Prog K ss m H0 Hc H S T l rs o ts) {m' : Nat} (hm : m ≤ m') : Prog K ss m' H0 Hc H S T l rs o ts :=
  { h with out := Outs.mono hm (Same.refl _) (fun _ _ => rfl) h.out, wid := Nat.le_trans h.wid hm, num := Nat.le_trans h.num hm }
/-- a new object that will not change -/
theorem Prog.alloc (h : Prog K ss m H0 Hc H S T l rs o ts) {p : Addr} (hp : H p = none) (u : HO) : Prog K ss m H0 (upd Hc p u) (upd H p u) S T l rs o ts := by
  have hcp : Hc p = none := h.cl.free hp
  have ap := h.apart hp
  have s1 : Same Hc (upd Hc p u) := same_new hcp u
  have ne : ∀ b ∈ S :: T :: opens l o, upd H p u b = H b := fun b hb => upd_ne (ap b hb)
  obtain ⟨vs, e1, e2⟩ := h.inn
  refine ⟨h.old.trans s1, fun b x hb => ?_, ⟨vs, ?_, AllAt.mono (Same.kp s1) _ _ e2⟩, Outs.mono (Nat.le_refl _) s1 (fun b hb => ne b ?_) h.out, fun b hb => ?_, h.nd, h.ok, h.dep, h.wid, h.num, ?_, ?_, h.tok⟩
  · by_cases e : b = p
    · rw [e, upd_same] at hb
      rw [e, upd_same]
      exact hb
    · rw [upd_ne e] at hb
      rw [upd_ne e]
      exact h.cl b x hb
  · rw [ne l (by simp)]
    exact e1
  · exact List.mem_cons_of_mem _ (List.mem_cons_of_mem _ (List.mem_cons_of_mem _ hb))
  · rw [upd_ne (ap b hb)]
    exact h.no b hb
  · rw [ne S (by simp)]
    exact h.st
  · rw [ne T (by simp)]
    exact h.te
theorem Prog.nST (h : Prog K ss m H0 Hc H S T l rs o ts) : S ≠ T ∧ S ≠ l ∧ T ≠ l ∧ (∀ b ∈ o.map (·.1), b ≠ S ∧ b ≠ T ∧ b ≠ l) := by
  have h1 := h.nd
  simp only [opens, List.nodup_cons, List.mem_cons, not_or] at h1
  obtain ⟨⟨a1, a2, a3⟩, ⟨b1, b2⟩, c1, _⟩ := h1
  exact ⟨a1, a2, b1, fun b hb => ⟨fun e => a3 (e ▸ hb), fun e => b2 (e ▸ hb), fun e => c1 (e ▸ hb)⟩⟩
/-- what is written to an open list, to the stack or to the tests leaves what is closed -/
theorem Prog.cl_upd (h : Prog K ss m H0 Hc H S T l rs o ts) {b : Addr} (hb : b ∈ S :: T :: opens l o) (u : HO) : Same Hc (upd H b u) := fun c x hc => by
  rw [upd_ne (ne_of_none hc (h.no b hb))]
  exact h.cl c x hc
/-- a row behind those of the innermost list -/
theorem Prog.app (h : Prog K ss m H0 Hc H S T l rs o ts) {r : Row} {v : V} {vs : List V} (hl : H l = some (.lst vs)) (hr : RowAt K Hc r v) (hok : r.ok ss) (hd : r.dep + o.length ≤ 3) (h1 : r.tot = 1) :
    Prog K ss (m + 1) H0 Hc (upd H l (.lst (vs ++ [v]))) S T l (rs ++ [r]) o ts := by
  obtain ⟨vs', e1, e2⟩ := h.inn
  have ev : vs' = vs := by
    have z := e1.symm.trans hl
    cases z
    rfl
  subst ev
  obtain ⟨n1, n2, n3, n4⟩ := h.nST
  refine ⟨h.old, h.cl_upd (by simp) _, ⟨_, upd_same, e2.app (AllAt.one hr)⟩, Outs.mono (Nat.le_succ _) (Same.refl _) (fun b hb => upd_ne (n4 b hb).2.2) h.out, h.no, h.nd, oks_app h.ok ⟨hok, True.intro⟩, ?_, ?_, ?_, ?_, ?_, h.tok⟩
  · rw [deps_app]
    have := h.dep
    show max (deps rs) (max r.dep 0) + o.length ≤ 3
    omega
  · rw [List.length_append]
    exact Nat.succ_le_succ h.wid
  · have := h.num
    rw [tots_app]
    show tots rs + (r.tot + 0) + outs o ≤ m + 1
    omega
  · rw [upd_ne n2]
    exact h.st
  · rw [upd_ne n3]
    exact h.te
theorem Prog.tests (h : Prog K ss m H0 Hc H S T l rs o ts) {ts' : List Str} (ht : ∀ t ∈ ts', t = "" ∨ t ∈ ss) : Prog K ss m H0 Hc (upd H T (.lst (ts'.map V.str))) S T l rs o ts' := by
  obtain ⟨vs, e1, e2⟩ := h.inn
  obtain ⟨n1, n2, n3, n4⟩ := h.nST
  exact ⟨h.old, h.cl_upd (by simp) _, ⟨vs, by rw [upd_ne n3.symm]; exact e1, e2⟩, Outs.mono (Nat.le_refl _) (Same.refl _) (fun b hb => upd_ne (n4 b hb).2.1) h.out, h.no, h.nd, h.ok, h.dep, h.wid, h.num, by rw [upd_ne n1]; exact h.st, upd_same, ht⟩
/-- a block opens: q its list, p its row -/
theorem Prog.push (h : Prog K ss m H0 Hc H S T l rs o ts) {p q : Addr} {kd te : Str} {vs : List V} (hl : H l = some (.lst vs)) (hq : H q = none) (hp : (upd H q (.lst [])) p = none) (hk : kd ∈ kinds) (hte : te ∈ ss) (h3 : o.length < 3) :
    Prog K ss (m + 1) H0 (upd Hc p (.tup [.str kd, .str te, .ref q])) (upd (upd (upd (upd H q (.lst [])) p (.tup [.str kd, .str te, .ref q])) l (.lst (vs ++ [.ref p]))) S (.lst ((opens l o).reverse.map V.ref ++ [.ref q]))) S T q [] ((l, rs) :: o) ts := by
  obtain ⟨vs', e1, e2⟩ := h.inn
  have ev : vs' = vs := by
    have z := e1.symm.trans hl
    cases z
    rfl
  subst ev
  obtain ⟨n1, n2, n3, n4⟩ := h.nST
  have npq : p ≠ q := fun e => by rw [e, upd_same] at hp; cases hp
  have hp0 : H p = none := by rw [upd_ne npq] at hp; exact hp
  have aq := h.apart hq
  have ap := h.apart hp0
  have hcp : Hc p = none := h.cl.free hp0
  have hcq : Hc q = none := h.cl.free hq
  have s1 : Same Hc (upd Hc p (.tup [.str kd, .str te, .ref q])) := same_new hcp _
  have mS : S ∈ S :: T :: opens l o := by simp
  have mT : T ∈ S :: T :: opens l o := by simp
  have ml : l ∈ S :: T :: opens l o := by simp
  have mo : ∀ b ∈ o.map (·.1), b ∈ S :: T :: opens l o := fun b hb => List.mem_cons_of_mem _ (List.mem_cons_of_mem _ (List.mem_cons_of_mem _ hb))
  refine ⟨h.old.trans s1, fun b x hb => ?_, ⟨[], ?_, rfl⟩, ⟨⟨vs', p, kd, te, ?_, AllAt.mono (Same.kp s1) _ _ e2, upd_same, hk, hte⟩, h.ok, Nat.le_succ_of_le h.wid, h.dep, Outs.mono (Nat.le_succ _) s1 (fun b hb => ?_) h.out⟩, fun b hb => ?_, ?_, True.intro, ?_, Nat.zero_le _, ?_, ?_, ?_, h.tok⟩
  · by_cases e : b = p
    · rw [e, upd_same] at hb
      rw [e, upd_ne (ap S mS).symm, upd_ne (ap l ml).symm, upd_same]
      exact hb
    · rw [upd_ne e] at hb
      have hS := ne_of_none hb (h.no S mS)
      have hL := ne_of_none hb (h.no l ml)
      have hQ := ne_of_none hb hcq
      rw [upd_ne hS, upd_ne hL, upd_ne e, upd_ne hQ]
      exact h.cl b x hb
  · rw [upd_ne (aq S mS).symm, upd_ne (aq l ml).symm, upd_ne npq.symm, upd_same]
  · rw [upd_ne n2.symm, upd_same]
  · obtain ⟨z1, z2, z3⟩ := n4 b hb
    rw [upd_ne z1, upd_ne z3, upd_ne (ap b (mo b hb)), upd_ne (aq b (mo b hb))]
  · have hb' : b = q ∨ b ∈ S :: T :: opens l o := by
      simp only [opens, List.map_cons, List.mem_cons] at hb ⊢
      rcases hb with e | e | e | e | e
      · exact .inr (.inl e)
      · exact .inr (.inr (.inl e))
      · exact .inl e
      · exact .inr (.inr (.inr (.inl e)))
      · exact .inr (.inr (.inr (.inr e)))
    rcases hb' with e | e
    · rw [e, upd_ne npq.symm]
      exact hcq
    · rw [upd_ne (ap b e)]
      exact h.no b e
  · have h1 := h.nd
    have hq1 : ¬ q ∈ S :: T :: opens l o := fun z => (aq q z) rfl
    simp only [opens, List.map_cons, List.nodup_cons, List.mem_cons, not_or] at h1 hq1 ⊢
    obtain ⟨⟨a1, a2, a3⟩, ⟨b1, b2⟩, c1, c2⟩ := h1
    obtain ⟨q1, q2, q3, q4⟩ := hq1
    exact ⟨⟨a1, Ne.symm q1, a2, a3⟩, ⟨Ne.symm q2, b1, b2⟩, ⟨q3, q4⟩, c1, c2⟩
  · show 0 + (o.length + 1) ≤ 3
    omega
  · have := h.num
    show 0 + (tots rs + 1 + outs o) ≤ m + 1
    omega
  · rw [upd_same]
    simp [opens]
  · rw [upd_ne n1.symm, upd_ne n3, upd_ne (ap T mT), upd_ne (aq T mT)]
    exact h.te
theorem Prog.pushes (h : Prog K ss m H0 Hc H S T l rs o ts) {p q : Addr} (kd te : Str) {vs : List V} (hl : H l = some (.lst vs)) (hq : H q = none) (hp : (upd H q (.lst [])) p = none) :
    (upd (upd H q (.lst [])) p (.tup [.str kd, .str te, .ref q])) l = some (.lst vs) ∧
    (upd (upd (upd H q (.lst [])) p (.tup [.str kd, .str te, .ref q])) l (.lst (vs ++ [.ref p]))) S = some (.lst ((opens l o).reverse.map V.ref)) ∧
    (upd (upd (upd H q (.lst [])) p (.tup [.str kd, .str te, .ref q])) l (.lst (vs ++ [.ref p]))) p = some (.tup [.str kd, .str te, .ref q]) := by
  have npq : p ≠ q := fun e => by rw [e, upd_same] at hp; cases hp
  have hp0 : H p = none := by rw [upd_ne npq] at hp; exact hp
  have aq := h.apart hq
  have ap := h.apart hp0
  obtain ⟨n1, n2, n3, n4⟩ := h.nST
  refine ⟨?_, ?_, ?_⟩
  · rw [upd_ne (ap l (by simp)), upd_ne (aq l (by simp))]
    exact hl
  · rw [upd_ne n2, upd_ne (ap S (by simp)), upd_ne (aq S (by simp))]
    exact h.st
  · rw [upd_ne (ap l (by simp)).symm, upd_same]
theorem Prog.roomS (h : Prog K ss m H0 Hc H S T l rs o ts) : ((opens l o).reverse.map V.ref).length < sizeLine := by
  have := h.dep
  rw [List.length_map, List.length_reverse]
  exact small1000 (by show (o.map (·.1)).length + 1 ≤ 1000; rw [List.length_map]; omega)
/-- a block closes -/
theorem Prog.pop {q : Addr × List Row} (h : Prog K ss m H0 Hc H S T l rs (q :: o) ts) (hm : m ≤ 2000) :
    ∃ Hc' kd te, Prog K ss (m + 1) H0 Hc' (upd H S (.lst ((opens q.1 o).reverse.map V.ref))) S T q.1 (q.2 ++ [.bk kd (.str te) rs]) o ts := by
  obtain ⟨vs, e1, e2⟩ := h.inn
  obtain ⟨⟨ws, t, kd, te, g1, g2, g3, g4, g5⟩, g6, g7, g8, g9⟩ := h.out
  obtain ⟨n1, n2, n3, n4⟩ := h.nST
  have hcl : Hc l = none := h.no l (by simp)
  have s1 : Same Hc (upd Hc l (.lst vs)) := same_new hcl _
  obtain ⟨z1, z2, z3⟩ := n4 q.1 (by simp)
  have nb : ∀ b ∈ o.map (·.1), b ≠ S ∧ b ≠ T ∧ b ≠ l := fun b hb => n4 b (by simp only [List.map_cons, List.mem_cons]; exact .inr hb)
  refine ⟨upd Hc l (.lst vs), kd, te, h.old.trans s1, fun b x hb => ?_, ⟨_, by rw [upd_ne z1]; exact g1, (AllAt.mono (Same.kp s1) _ _ g2).app (AllAt.one ⟨t, l, vs, rfl, s1 _ _ g3, upd_same, AllAt.mono (Same.kp s1) _ _ e2⟩)⟩,
    Outs.mono (Nat.le_succ _) s1 (fun b hb => upd_ne (nb b hb).1) g9, fun b hb => ?_, ?_, oks_app g6 ⟨⟨g4, ⟨te, rfl, g5⟩, Nat.le_trans h.wid hm, h.ok⟩, True.intro⟩, ?_, ?_, ?_, upd_same, ?_, h.tok⟩
  · by_cases e : b = l
    · rw [e, upd_same] at hb
      rw [e, upd_ne n2.symm]
      exact e1.trans hb
    · rw [upd_ne e] at hb
      rw [upd_ne (ne_of_none hb (h.no S (by simp)))]
      exact h.cl b x hb
  · have hbl : b ≠ l := by
      rcases List.mem_cons.mp hb with e | hb
      · rw [e]; exact n2
      rcases List.mem_cons.mp hb with e | hb
      · rw [e]; exact n3
      rcases List.mem_cons.mp hb with e | hb
      · rw [e]; exact z3
      · exact (nb b hb).2.2
    rw [upd_ne hbl]
    refine h.no b ?_
    simp only [opens, List.map_cons, List.mem_cons] at hb ⊢
    rcases hb with e | e | e | e
    · exact .inl e
    · exact .inr (.inl e)
    · exact .inr (.inr (.inr (.inl e)))
    · exact .inr (.inr (.inr (.inr e)))
  · have h1 := h.nd
    simp only [opens, List.map_cons, List.nodup_cons, List.mem_cons, not_or] at h1 ⊢
    obtain ⟨⟨a1, a2, a3, a4⟩, ⟨b1, b2, b3⟩, c1, d1, d2⟩ := h1
    exact ⟨⟨a1, a3, a4⟩, ⟨b2, b3⟩, d1, d2⟩
  · have hd : deps rs + (o.length + 1) ≤ 3 := h.dep
    rw [deps_app]
    show max (deps q.2) (max (deps rs + 1) 0) + o.length ≤ 3
    omega
  · rw [List.length_append]
    exact Nat.succ_le_succ g7
  · have hn : tots rs + (tots q.2 + 1 + outs o) ≤ m := h.num
    rw [tots_app]
    show tots q.2 + (tots rs + 1 + 0) + outs o ≤ m + 1
    omega
  · rw [upd_ne n1.symm]
    exact h.te
end
theorem AllAt.unsnoc {K : PySem.W.Frag} {H : Hp} : ∀ {rs : List Row} {vs : List V} {r : Row} {v : V}, AllAt K H (rs ++ [r]) (vs ++ [v]) → AllAt K H rs vs ∧ RowAt K H r v
  | [], vs, r, v, ⟨u, ws, h1, h2, h3⟩ => by
    have e : ws = [] := h3
    subst e
    cases vs with
    | nil =>
      cases h1
      exact ⟨rfl, h2⟩
    | cons a b =>
      have := congrArg List.length h1
      simp at this
  | q :: rs, vs, r, v, ⟨u, ws, h1, h2, h3⟩ => by
    cases vs with
    | nil =>
      have e : ws = [] := (List.cons.inj h1).2.symm
      subst e
      have := h3.len
      simp at this
    | cons a b =>
      have h1' : a :: (b ++ [v]) = u :: ws := h1
      have e1 : u = a := (List.cons.inj h1').1.symm
      have e2 : ws = b ++ [v] := (List.cons.inj h1').2.symm
      subst e1
      subst e2
      obtain ⟨g1, g2⟩ := AllAt.unsnoc h3
      exact ⟨⟨_, _, rfl, h2, g1⟩, g2⟩
theorem AllAt.take {K : PySem.W.Frag} {H : Hp} : ∀ {rs : List Row} {vs : List V} (i : Nat), AllAt K H rs vs → AllAt K H (rs.take i) (vs.take i)
  | [], vs, i, h => by
    have e : vs = [] := h
    subst e
    rw [List.take_nil, List.take_nil]
    rfl
  | r :: rs, _, 0, _ => rfl
  | r :: rs, _, i + 1, ⟨v, ws, h1, h2, h3⟩ => by
    subst h1
    exact ⟨v, ws.take i, rfl, h2, h3.take i⟩
theorem cutAt {K : PySem.W.Frag} {H : Hp} {rs ah st : List Row} {vs us ws : List V} (h : Cut rs vs ah us st ws) : AllAt K H rs vs → AllAt K H ah us ∧ AllAt K H st ws := by
  induction h with
  | nil => exact fun _ => ⟨rfl, rfl⟩
  | left h ih =>
    intro a
    obtain ⟨a1, a2⟩ := a.unsnoc
    obtain ⟨i1, i2⟩ := ih a1
    exact ⟨i1.app (AllAt.one a2), i2⟩
  | right h ih =>
    intro a
    obtain ⟨a1, a2⟩ := a.unsnoc
    obtain ⟨i1, i2⟩ := ih a1
    exact ⟨i1, i2.app (AllAt.one a2)⟩
/-! ### rows whose lists are their own -/
mutual
/-- F: the places of the lists in it, each once; none is of B -/
def OwnR (K : PySem.W.Frag) (B H : Hp) : Row → V → (Addr → Prop) → Prop
  | .lt to sg a b, v, F => RowAt K H (.lt to sg a b) v ∧ ∀ c, ¬ F c
  | .sy a, v, F => RowAt K H (.sy a) v ∧ ∀ c, ¬ F c
  | .bk kd ts rs, v, F => ∃ (p l : Addr) (vs : List V) (G : Addr → Prop), v = .ref p ∧ H p = some (.tup [.str kd, ts, .ref l]) ∧ H l = some (.lst vs) ∧ B l = none ∧ OwnRs K B H rs vs G ∧ ¬ G l ∧ ∀ c, F c ↔ c = l ∨ G c
def OwnRs (K : PySem.W.Frag) (B H : Hp) : List Row → List V → (Addr → Prop) → Prop
  | [], vs, F => vs = [] ∧ ∀ c, ¬ F c
  | r :: rs, vs, F => ∃ (v : V) (ws : List V) (F1 F2 : Addr → Prop), vs = v :: ws ∧ OwnR K B H r v F1 ∧ OwnRs K B H rs ws F2 ∧ (∀ c, F1 c → F2 c → False) ∧ ∀ c, F c ↔ F1 c ∨ F2 c
end
mutual
theorem OwnR.row {K : PySem.W.Frag} {B H : Hp} : ∀ (r : Row) {v : V} {F : Addr → Prop}, OwnR K B H r v F → RowAt K H r v
  | .lt _ _ _ _, _, _, h => h.1
  | .sy _, _, _, h => h.1
  | .bk _ _ rs, _, _, ⟨p, l, vs, G, h1, h2, h3, h4, h5, _⟩ => ⟨p, l, vs, h1, h2, h3, OwnRs.all rs h5⟩
theorem OwnRs.all {K : PySem.W.Frag} {B H : Hp} : ∀ (rs : List Row) {vs : List V} {F : Addr → Prop}, OwnRs K B H rs vs F → AllAt K H rs vs
  | [], _, _, h => h.1
  | r :: rs, _, _, ⟨v, ws, F1, F2, h1, h2, h3, _⟩ => ⟨v, ws, h1, OwnR.row r h2, OwnRs.all rs h3⟩
end
mutual
theorem OwnR.out {K : PySem.W.Frag} {B H : Hp} : ∀ (r : Row) {v : V} {F : Addr → Prop}, OwnR K B H r v F → ∀ c, F c → B c = none ∧ ∃ xs, H c = some (.lst xs)
  | .lt _ _ _ _, _, _, h, c, hc => absurd hc (h.2 c)
  | .sy _, _, _, h, c, hc => absurd hc (h.2 c)
  | .bk _ _ rs, _, _, ⟨p, l, vs, G, h1, h2, h3, h4, h5, h6, h7⟩, c, hc => by
    rcases (h7 c).mp hc with e | e
    · rw [e]
      exact ⟨h4, _, h3⟩
    · exact OwnRs.out rs h5 c e
theorem OwnRs.out {K : PySem.W.Frag} {B H : Hp} : ∀ (rs : List Row) {vs : List V} {F : Addr → Prop}, OwnRs K B H rs vs F → ∀ c, F c → B c = none ∧ ∃ xs, H c = some (.lst xs)
  | [], _, _, h, c, hc => absurd hc (h.2 c)
  | r :: rs, _, _, ⟨v, ws, F1, F2, h1, h2, h3, h4, h5⟩, c, hc => by
    rcases (h5 c).mp hc with e | e
    · exact OwnR.out r h2 c e
    · exact OwnRs.out rs h3 c e
end
mutual
/-- what is changed elsewhere leaves it -/
theorem OwnR.keep {K : PySem.W.Frag} {B B' H H' : Hp} (hB : ∀ c, B c = none → B' c = none) (hT : ∀ p xs, H p = some (.tup xs) → H' p = some (.tup xs)) : ∀ (r : Row) {v : V} {F : Addr → Prop}, (∀ c, F c → H' c = H c) → OwnR K B H r v F → OwnR K B' H' r v F
  | .lt _ _ _ _, _, _, _, ⟨⟨p, h1, h2⟩, h3⟩ => ⟨⟨p, h1, hT _ _ h2⟩, h3⟩
  | .sy _, _, _, _, ⟨⟨p, h1, h2⟩, h3⟩ => ⟨⟨p, h1, hT _ _ h2⟩, h3⟩
  | .bk _ _ rs, _, _, hF, ⟨p, l, vs, G, h1, h2, h3, h4, h5, h6, h7⟩ =>
    ⟨p, l, vs, G, h1, hT _ _ h2, by rw [hF l ((h7 l).mpr (.inl rfl))]; exact h3, hB _ h4, OwnRs.keep hB hT rs (fun c hc => hF c ((h7 c).mpr (.inr hc))) h5, h6, h7⟩
theorem OwnRs.keep {K : PySem.W.Frag} {B B' H H' : Hp} (hB : ∀ c, B c = none → B' c = none) (hT : ∀ p xs, H p = some (.tup xs) → H' p = some (.tup xs)) : ∀ (rs : List Row) {vs : List V} {F : Addr → Prop}, (∀ c, F c → H' c = H c) → OwnRs K B H rs vs F → OwnRs K B' H' rs vs F
  | [], _, _, _, h => h
  | r :: rs, _, _, hF, ⟨v, ws, F1, F2, h1, h2, h3, h4, h5⟩ =>
    ⟨v, ws, F1, F2, h1, OwnR.keep hB hT r (fun c hc => hF c ((h5 c).mpr (.inl hc))) h2, OwnRs.keep hB hT rs (fun c hc => hF c ((h5 c).mpr (.inr hc))) h3, h4, h5⟩
end
/-- the heap has grown -/
theorem OwnRs.grow {K : PySem.W.Frag} {B B' H H' : Hp} {rs : List Row} {vs : List V} {F : Addr → Prop} (hB : ∀ c, B c = none → B' c = none) (s : Same H H') (h : OwnRs K B H rs vs F) : OwnRs K B' H' rs vs F :=
  OwnRs.keep hB (fun p xs q => s _ _ q) rs (fun c hc => by
    obtain ⟨_, xs, e⟩ := OwnRs.out rs h c hc
    rw [e, s _ _ e]) h
theorem OwnRs.nil {K : PySem.W.Frag} {B H : Hp} : OwnRs K B H [] [] (fun _ => False) := ⟨rfl, fun _ h => h⟩
theorem OwnRs.app {K : PySem.W.Frag} {B H : Hp} : ∀ {rs qs : List Row} {vs ws : List V} {F G : Addr → Prop}, OwnRs K B H rs vs F → OwnRs K B H qs ws G → (∀ c, F c → G c → False) → OwnRs K B H (rs ++ qs) (vs ++ ws) (fun c => F c ∨ G c)
  | [], qs, vs, ws, F, G, ⟨h1, h2⟩, g, _ => by
    subst h1
    refine OwnRs.cong (F := G) (fun c => ⟨Or.inr, fun h => h.elim (fun z => absurd z (h2 c)) id⟩) g
  | r :: rs, qs, vs, ws, F, G, ⟨v, us, F1, F2, h1, h2, h3, h4, h5⟩, g, hd => by
    subst h1
    have ih := OwnRs.app h3 g (fun c a b => hd c ((h5 c).mpr (.inr a)) b)
    exact ⟨v, us ++ ws, F1, fun c => F2 c ∨ G c, rfl, h2, ih, fun c a b => b.elim (h4 c a) (hd c ((h5 c).mpr (.inl a))), fun c => by
      show (F c ∨ G c) ↔ F1 c ∨ (F2 c ∨ G c)
      rw [h5 c, or_assoc]⟩
where
  OwnRs.cong {K : PySem.W.Frag} {B H : Hp} : ∀ {rs : List Row} {vs : List V} {F G : Addr → Prop}, (∀ c, F c ↔ G c) → OwnRs K B H rs vs F → OwnRs K B H rs vs G
    | [], _, _, _, h, ⟨a, b⟩ => ⟨a, fun c z => b c ((h c).mpr z)⟩
    | r :: rs, _, _, _, h, ⟨v, ws, F1, F2, h1, h2, h3, h4, h5⟩ => ⟨v, ws, F1, F2, h1, h2, h3, h4, fun c => (h c).symm.trans (h5 c)⟩
theorem OwnRs.one {K : PySem.W.Frag} {B H : Hp} {r : Row} {v : V} {F : Addr → Prop} (h : OwnR K B H r v F) : OwnRs K B H [r] [v] F := ⟨v, [], F, fun _ => False, rfl, h, OwnRs.nil, fun _ _ h => h, fun c => ⟨Or.inl, fun h => h.elim id False.elim⟩⟩
theorem OwnRs.unsnoc {K : PySem.W.Frag} {B H : Hp} : ∀ {rs : List Row} {vs : List V} {r : Row} {v : V} {F : Addr → Prop}, OwnRs K B H (rs ++ [r]) (vs ++ [v]) F → ∃ F1 F2, OwnRs K B H rs vs F1 ∧ OwnR K B H r v F2 ∧ (∀ c, F1 c → F2 c → False) ∧ ∀ c, F c ↔ F1 c ∨ F2 c
  | [], vs, r, v, F, ⟨u, ws, F1, F2, h1, h2, ⟨h3, h3'⟩, h4, h5⟩ => by
    subst h3
    cases vs with
    | nil =>
      cases h1
      exact ⟨fun _ => False, F1, OwnRs.nil, h2, fun _ h _ => h, fun c => (h5 c).trans ⟨fun h => h.elim .inr fun z => absurd z (h3' c), fun h => h.elim False.elim .inl⟩⟩
    | cons a b =>
      have := congrArg List.length h1
      simp at this
  | q :: rs, vs, r, v, F, ⟨u, ws, F1, F2, h1, h2, h3, h4, h5⟩ => by
    cases vs with
    | nil =>
      have e : ws = [] := (List.cons.inj h1).2.symm
      subst e
      have := (OwnRs.all _ h3).len
      simp at this
    | cons a b =>
      have h1' : a :: (b ++ [v]) = u :: ws := h1
      have e1 : u = a := (List.cons.inj h1').1.symm
      have e2 : ws = b ++ [v] := (List.cons.inj h1').2.symm
      subst e1
      subst e2
      obtain ⟨G1, G2, g1, g2, g3, g4⟩ := OwnRs.unsnoc h3
      refine ⟨fun c => F1 c ∨ G1 c, G2, ⟨_, _, F1, G1, rfl, h2, g1, fun c x y => h4 c x ((g4 c).mpr (.inl y)), fun _ => Iff.rfl⟩, g2, fun c x y => x.elim (fun z => h4 c z ((g4 c).mpr (.inr y))) (fun z => g3 c z y), fun c => ?_⟩
      show F c ↔ (F1 c ∨ G1 c) ∨ G2 c
      rw [h5 c, g4 c, or_assoc]
/-- taken apart, what goes ahead and what stays is each its own -/
theorem cutOwn {K : PySem.W.Frag} {B H : Hp} {rs ah st : List Row} {vs us ws : List V} (h : Cut rs vs ah us st ws) : ∀ {F : Addr → Prop}, OwnRs K B H rs vs F → ∃ F1 F2, OwnRs K B H ah us F1 ∧ OwnRs K B H st ws F2 ∧ (∀ c, F1 c → F2 c → False) ∧ ∀ c, F1 c ∨ F2 c → F c := by
  induction h with
  | nil => exact fun _ => ⟨_, _, OwnRs.nil, OwnRs.nil, fun _ h _ => h, fun c h => h.elim False.elim False.elim⟩
  | left h ih =>
    intro F a
    obtain ⟨G1, G2, g1, g2, g3, g4⟩ := a.unsnoc
    obtain ⟨F1, F2, f1, f2, f3, f4⟩ := ih g1
    exact ⟨_, F2, f1.app (OwnRs.one g2) (fun c x y => g3 c (f4 c (.inl x)) y), f2, fun c x y => x.elim (fun z => f3 c z y) (fun z => g3 c (f4 c (.inr y)) z), fun c x => (g4 c).mpr (x.elim (fun z => z.elim (fun y => .inl (f4 c (.inl y))) .inr) (fun y => .inl (f4 c (.inr y))))⟩
  | right h ih =>
    intro F a
    obtain ⟨G1, G2, g1, g2, g3, g4⟩ := a.unsnoc
    obtain ⟨F1, F2, f1, f2, f3, f4⟩ := ih g1
    exact ⟨F1, _, f1, f2.app (OwnRs.one g2) (fun c x y => g3 c (f4 c (.inr x)) y), fun c x y => y.elim (fun z => f3 c x z) (fun z => g3 c (f4 c (.inl x)) z), fun c x => (g4 c).mpr (x.elim (fun y => .inl (f4 c (.inl y))) (fun z => z.elim (fun y => .inl (f4 c (.inr y))) .inr))⟩
theorem own_bk {K : PySem.W.Frag} {B H : Hp} {p l : Addr} {kd : Str} {ts : V} {rs : List Row} {xs : List V} {F : Addr → Prop} (hp : H p = some (.tup [.str kd, ts, .ref l])) (hl : H l = some (.lst xs)) (hB : B l = none) (h : OwnRs K B H rs xs F) (hF : ¬ F l) : OwnR K B H (.bk kd ts rs) (.ref p) (fun c => c = l ∨ F c) :=
  ⟨p, l, xs, F, rfl, hp, hl, hB, h, hF, fun _ => Iff.rfl⟩
theorem tup_upd {H : Hp} {D : Addr} {us : List V} {o : HO} (e : H D = some (.lst us)) {p : Addr} {xs : List V} (h : H p = some (.tup xs)) : (upd H D o) p = some (.tup xs) := by
  rw [upd_ne (ne_of h e (by intro z; cases z))]
  exact h
end Lm.S
/-! How often each row stands in a program; dicts whose keys are rows. -/
namespace Lm
open PySem L2
def Vl.ky : Vl → Key
  | .nm s => Sum.inr s
  | .nu i => Sum.inl i
theorem Vl.ky_v : ∀ x : Vl, kV x.ky = x.v
  | .nm _ => rfl
  | .nu _ => rfl
/-- the key that stands for a row -/
def Row.ky : Row → List Key
  | .lt to sg a b => [Sum.inr "let", Sum.inr to, Sum.inr sg, a.ky, b.ky]
  | .sy a => [Sum.inr "say", a.ky]
  | .bk kd _ _ => [Sum.inr kd, Sum.inr ""]
theorem ky_lt (to sg : Str) (a b : Vl) : ((Row.lt to sg a b).ky).map kV = [.str "let", .str to, .str sg, a.v, b.v] := by
  show [kV (Sum.inr "let"), kV (Sum.inr to), kV (Sum.inr sg), kV a.ky, kV b.ky] = _
  rw [Vl.ky_v, Vl.ky_v]
  rfl
theorem ky_sy (a : Vl) : ((Row.sy a).ky).map kV = [.str "say", a.v] := by
  show [kV (Sum.inr "say"), kV a.ky] = _
  rw [Vl.ky_v]
  rfl
/-- how often -/
def cntK (M : List (List Key)) (k : List Key) : Nat := (M.map fun j => if j = k then 1 else 0).sum
theorem cntK_app (M N : List (List Key)) (k : List Key) : cntK (M ++ N) k = cntK M k + cntK N k := by
  unfold cntK
  rw [List.map_append, List.sum_append]
theorem cntK_cons (j : List Key) (M : List (List Key)) (k : List Key) : cntK (j :: M) k = (if j = k then 1 else 0) + cntK M k := by
  unfold cntK
  rw [List.map_cons, List.sum_cons]
def rkeys (rs : List Row) : List (List Key) := (flats rs).map Row.ky
theorem rkeys_app (rs qs : List Row) : rkeys (rs ++ qs) = rkeys rs ++ rkeys qs := by
  unfold rkeys
  rw [flats_app, List.map_append]
theorem rkeys_cons (r : Row) (rs : List Row) : rkeys (r :: rs) = rkeys [r] ++ rkeys rs := rkeys_app [r] rs
theorem rkeys_bk (kd : Str) (ts : V) (rs : List Row) : rkeys [.bk kd ts rs] = [Sum.inr kd, Sum.inr ""] :: rkeys rs := by
  unfold rkeys
  rw [flats_one]
  rfl
def kW : List Key := [Sum.inr "when", Sum.inr ""]
def kL : List Key := [Sum.inr "loop", Sum.inr ""]
def kA : List Key := [Sum.inr "again", Sum.inr ""]
theorem kWL : ¬ kW = kL := by decide +kernel
theorem kWA : ¬ kW = kA := by decide +kernel
theorem kLA : ¬ kL = kA := by decide +kernel
theorem parts_keys : ∀ (rs st : List Row) (k : List Key), cntK (rkeys (parts st rs).1) k + cntK (rkeys (parts st rs).2) k = cntK (rkeys rs) k
  | [], _, _ => rfl
  | r :: rs, st, k => by
    by_cases h : Goes st r rs
    · rw [parts_go h]
      have := parts_keys rs st k
      show cntK (rkeys (r :: (parts st rs).1)) k + cntK (rkeys (parts st rs).2) k = _
      rw [rkeys_cons r (parts st rs).1, rkeys_cons r rs, cntK_app, cntK_app]
      omega
    · rw [parts_no h]
      have := parts_keys rs (st ++ [r]) k
      show cntK (rkeys (parts (st ++ [r]) rs).1) k + cntK (rkeys (r :: (parts (st ++ [r]) rs).2)) k = _
      rw [rkeys_cons r (parts (st ++ [r]) rs).2, rkeys_cons r rs, cntK_app, cntK_app]
      omega
/-- t loops have turned -/
def Turned (t : Nat) (M N : List (List Key)) : Prop := ∀ k, cntK N k + (if k = kL then t else 0) = cntK M k + (if k = kW then t else 0) + (if k = kA then t else 0)
theorem Turned.refl (M : List (List Key)) : Turned 0 M M := fun k => by
  split <;> split <;> split <;> omega
theorem ite_sum (p : Prop) [Decidable p] (s t : Nat) : (if p then s + t else 0) = (if p then s else 0) + (if p then t else 0) := by split <;> rfl
theorem Turned.app {s t : Nat} {M N M' N' : List (List Key)} (a : Turned s M N) (b : Turned t M' N') : Turned (s + t) (M ++ M') (N ++ N') := fun k => by
  have h1 := a k
  have h2 := b k
  rw [cntK_app, cntK_app, ite_sum, ite_sum, ite_sum]
  omega
theorem mvB_turned {kd : Str} {ts : V} {b b' : List Row} {s : Nat} (hk : kd ∈ kinds) (h : Turned s (rkeys b) (rkeys b')) : ∃ t, Turned t (rkeys [.bk kd ts b]) (rkeys (mvB kd ts b')) := by
  have pk := parts_keys b' []
  simp only [kinds, List.mem_cons, List.not_mem_nil, or_false] at hk
  by_cases cw : kd = "when"
  · subst cw
    rw [show mvB "when" ts b' = [.bk "when" ts b'] from if_pos rfl]
    refine ⟨s, fun k => ?_⟩
    rw [rkeys_bk, rkeys_bk, cntK_cons, cntK_cons]
    have := h k
    omega
  by_cases cl : kd = "loop"
  · subst cl
    by_cases c0 : (parts [] b').1 = []
    · rw [show mvB "loop" ts b' = [.bk "loop" ts (parts [] b').2] from (if_neg cw).trans ((if_pos rfl).trans (if_pos c0)), parts_stay b' [] c0]
      refine ⟨s, fun k => ?_⟩
      rw [rkeys_bk, rkeys_bk, cntK_cons, cntK_cons]
      have := h k
      omega
    · rw [show mvB "loop" ts b' = [.bk "when" ts ((parts [] b').1 ++ [.bk "again" ts (parts [] b').2])] from (if_neg cw).trans ((if_pos rfl).trans (if_neg c0))]
      refine ⟨s + 1, fun k => ?_⟩
      have h1 := h k
      have h2 := pk k
      rw [rkeys_bk, rkeys_bk, rkeys_app, rkeys_bk, cntK_cons, cntK_cons, cntK_app, cntK_cons]
      show (if kW = k then 1 else 0) + (_ + ((if kA = k then 1 else 0) + _)) + _ = (if kL = k then 1 else 0) + _ + _ + _
      by_cases e1 : k = kL
      · subst e1
        rw [if_neg kWL, if_neg (fun z => kLA z.symm), if_pos rfl, if_pos rfl, if_neg (fun z => kWL z.symm), if_neg kLA]
        rw [if_pos rfl, if_neg (fun z => kWL z.symm), if_neg kLA] at h1
        omega
      · by_cases e2 : k = kW
        · subst e2
          rw [if_pos rfl, if_neg (fun z => kWA z.symm), if_neg (fun z => kWL z), if_neg (fun z => kWL z.symm), if_pos rfl, if_neg kWA]
          rw [if_neg (fun z => kWL z), if_pos rfl, if_neg kWA] at h1
          omega
        · by_cases e3 : k = kA
          · subst e3
            rw [if_neg kWA, if_pos rfl, if_neg (fun z => kLA z.symm), if_neg kLA, if_neg (fun z => kWA z.symm), if_pos rfl]
            rw [if_neg (fun z => kLA z.symm), if_neg (fun z => kWA z.symm), if_pos rfl] at h1
            omega
          · rw [if_neg (fun z => e2 z.symm), if_neg (fun z => e3 z.symm), if_neg e1, if_neg (fun z => e1 z.symm), if_neg e2, if_neg e3]
            rw [if_neg e1, if_neg e2, if_neg e3] at h1
            omega
  · have ca : kd = "again" := hk.elim (fun z => absurd z cw) fun h => h.elim (fun z => absurd z cl) id
    subst ca
    rw [show mvB "again" ts b' = (parts [] b').1 ++ [.bk "again" ts (parts [] b').2] from (if_neg cw).trans (if_neg cl)]
    refine ⟨s, fun k => ?_⟩
    have h1 := h k
    have h2 := pk k
    rw [rkeys_app, rkeys_bk, rkeys_bk, cntK_app, cntK_cons, cntK_cons]
    omega
mutual
theorem Row.mv_turned {ss : List Str} : ∀ r : Row, r.ok ss → ∃ t, Turned t (rkeys [r]) (rkeys r.mv)
  | .lt _ _ _ _, _ => ⟨0, Turned.refl _⟩
  | .sy _, _ => ⟨0, Turned.refl _⟩
  | .bk kd ts rs, ⟨h1, _, _, h4⟩ => by
    obtain ⟨s, h⟩ := mvs_turned rs h4
    exact mvB_turned h1 h
theorem mvs_turned {ss : List Str} : ∀ rs : List Row, oks ss rs → ∃ t, Turned t (rkeys rs) (rkeys (mvs rs))
  | [], _ => ⟨0, Turned.refl _⟩
  | r :: rs, ⟨h1, h2⟩ => by
    obtain ⟨s, a⟩ := Row.mv_turned r h1
    obtain ⟨t, b⟩ := mvs_turned rs h2
    refine ⟨s + t, ?_⟩
    show Turned (s + t) (rkeys (r :: rs)) (rkeys (r.mv ++ mvs rs))
    rw [rkeys_cons, rkeys_app]
    exact a.app b
end
open Classical in
theorem sum_cnt {ks : List (List Key)} (nd : ks.Nodup) : ∀ M : List (List Key), (∀ j ∈ M, j ∈ ks) → (ks.map fun k => (cntK M k : Int)).sum = (M.length : Int)
  | [], _ => by
    have z : ∀ l : List (List Key), (l.map fun k => (cntK [] k : Int)).sum = 0 := fun l => by
      induction l with
      | nil => rfl
      | cons a l ih =>
        rw [List.map_cons, List.sum_cons, ih]
        rfl
    exact z ks
  | j :: M, h => by
    have ih := sum_cnt nd M fun i hi => h i (List.mem_cons_of_mem _ hi)
    have one : ∀ l : List (List Key), l.Nodup → (l.map fun k => (cntK (j :: M) k : Int)).sum = (l.map fun k => (cntK M k : Int)).sum + (if j ∈ l then 1 else 0) := fun l => by
      induction l with
      | nil =>
        intro _
        rw [if_neg (fun h => (by cases h))]
        rfl
      | cons a l ih2 =>
        intro nl
        obtain ⟨n1, n2⟩ := List.nodup_cons.mp nl
        rw [List.map_cons, List.sum_cons, List.map_cons, List.sum_cons, ih2 n2, cntK_cons]
        by_cases e : j = a
        · subst e
          rw [if_pos rfl, if_neg n1, if_pos List.mem_cons_self]
          push_cast
          omega
        · have e2 : (j ∈ a :: l) ↔ j ∈ l := by rw [List.mem_cons]; exact ⟨fun h => h.elim (fun z => absurd z e) id, Or.inr⟩
          rw [if_neg e]
          by_cases e3 : j ∈ l
          · rw [if_pos e3, if_pos (e2.mpr e3)]
            push_cast
            omega
          · rw [if_neg e3, if_neg (fun z => e3 (e2.mp z))]
            push_cast
            omega
    rw [one ks nd, ih, if_pos (h j List.mem_cons_self), List.length_cons]
    push_cast
    rfl
/-- a dict of rows' numbers -/
structure DT (kvs : List (List Key × V)) (c : List Key → Int) : Prop where
  nd : (kvs.map (·.1)).Nodup
  at_ : ∀ k, valV kvs k = some (.int (c k)) ∨ (valV kvs k = none ∧ c k = 0)
theorem DT.nil : DT [] (fun _ => 0) := ⟨List.nodup_nil, fun _ => .inr ⟨rfl, rfl⟩⟩
theorem DT.get {kvs : List (List Key × V)} {c : List Key → Int} (h : DT kvs c) (k : List Key) : (valV kvs k).getD (.int 0) = .int (c k) := by
  rcases h.at_ k with e | ⟨e1, e2⟩
  · rw [e]
    rfl
  · rw [e1, e2]
    rfl
theorem putK_keysT (kvs : List (List Key × V)) (k : List Key) (v : V) : (putK kvs k v).map (·.1) = if (valV kvs k).isSome then kvs.map (·.1) else kvs.map (·.1) ++ [k] := by
  cases e : valV kvs k with
  | none =>
    rw [putK_new v e, List.map_append]
    rfl
  | some u =>
    unfold putK
    have h := valV_any k kvs
    rw [e] at h
    have h' : (kvs.any fun kv => decide (kv.1 = k)) = true := h
    rw [if_pos h', List.map_map]
    refine (List.map_congr_left fun x _ => ?_).trans rfl
    show (if x.1 = k then (x.1, v) else x).1 = x.1
    split <;> rfl
theorem DT.put {kvs : List (List Key × V)} {c : List Key → Int} (h : DT kvs c) (k : List Key) (z : Int) : DT (putK kvs k (.int z)) (fun j => if j = k then z else c j) := by
  constructor
  · cases e : valV kvs k with
    | none => exact nd_putK _ h.nd e
    | some u =>
      rw [putK_keysT, e]
      exact h.nd
  · intro j
    rw [valV_put]
    by_cases e : j = k
    · rw [if_pos e, if_pos e]
      exact .inl rfl
    · rw [if_neg e, if_neg e]
      exact h.at_ j
theorem DT.cong {kvs : List (List Key × V)} {c c' : List Key → Int} (h : DT kvs c) (e : ∀ k, c k = c' k) : DT kvs c' := ⟨h.nd, fun k => by rw [← e k]; exact h.at_ k⟩
theorem DT.in_ {kvs : List (List Key × V)} {c : List Key → Int} (h : DT kvs c) {i : Nat} {k : List Key} {v : V} (hi : kvs[i]? = some (k, v)) : valV kvs k = some (.int (c k)) := by
  have e := val_nodup h.nd (k, v) (List.mem_of_getElem? hi)
  rcases h.at_ k with q | ⟨q, _⟩
  · exact q
  · rw [q] at e
    cases e
theorem DT.has {kvs : List (List Key × V)} {c : List Key → Int} (h : DT kvs c) {k : List Key} (hk : c k ≠ 0) : k ∈ kvs.map (·.1) := by
  rcases h.at_ k with q | ⟨_, q⟩
  · exact valV_in q
  · exact absurd q hk
theorem cntK_pos {M : List (List Key)} {k : List Key} (h : k ∈ M) : cntK M k ≠ 0 := by
  induction M with
  | nil => cases h
  | cons j M ih =>
    rw [cntK_cons]
    rcases List.mem_cons.mp h with e | e
    · rw [if_pos e.symm]
      omega
    · have := ih e
      omega
/-- all the numbers together -/
theorem DT.sum {kvs : List (List Key × V)} {M : List (List Key)} (h : DT kvs (fun k => (cntK M k : Int))) : ((kvs.map (·.1)).map fun k => (cntK M k : Int)).sum = (M.length : Int) :=
  sum_cnt h.nd M fun j hj => h.has (by have := cntK_pos hj; omega)
end Lm
/-! ### the text by places -/
namespace Lm
open PySem L2
def topS (i : Nat) : Stmt := PySem.Challenge.pw_loopmover_k14_whole_nothing_is_left.main.body.getD i (.Pass ⟨0, 0, 0, 0⟩)
abbrev s_cell : Stmt := topS 16
abbrev s_names : Stmt := topS 18
/-- a list of names that are good -/
def NamesAt (K : PySem.W.Frag) (H : Hp) (a : Addr) (ss : List Str) : Prop := SqL K H a (ss.map V.str) ∧ ss.length = 16
theorem NamesAt.mono {K : PySem.W.Frag} {H H' : Hp} {a : Addr} {ss : List Str} (e : Kp H H') (h : NamesAt K H a ss) : NamesAt K H' a ss := ⟨e.sqL h.1, h.2⟩
theorem NamesAt.at {K : PySem.W.Frag} {H : Hp} {a : Addr} {ss : List Str} (h : NamesAt K H a ss) {z : Int} (h0 : 0 ≤ z) (h1 : z < 16) : ∃ s, s ∈ ss ∧ atI (ss.map V.str) z = some (.str s) := by
  have hk : z.toNat < ss.length := by rw [h.2]; omega
  refine ⟨ss[z.toNat], List.getElem_mem hk, at_of (j := z.toNat) (by omega) ?_⟩
  rw [List.getElem?_map, List.getElem?_eq_getElem hk]
  all_goals rfl
def spCell (K : PySem.W.Frag) : Sp := fun vs H Q _ => ∃ (a : Addr) (ns : List Int) (k : Int), vs = [.ref a, .int k] ∧ SqL K H a (ns.map V.int) ∧ 0 ≤ k ∧ ∀ z : Int, Q (.int z) H
section
variable {P : Program} {w : World} {K : PySem.W.Frag} {mg : Str → Option Value} {base : Heap} {f : Addr} {fd : FuncData}
theorem sc_cell : FnScope ["_law_script", "_law_k"] ["_law_script", "_law_k"] (defScope s_cell) := ⟨rfl, rfl, rfl, by decide +kernel, rfl, by decide +kernel, by decide +kernel⟩
theorem ok_cell (F : Fun K "_law_cell_at" "_law_cell_at" s_cell f fd) (ml : mg "len" = none) : FnOk P w K mg base CX0 1 f fd ["_law_script", "_law_k"] (spCell K) := by
  refine F.ok sc_cell (fun vs H Q E h => ?_) (fun cdv A outer s H vs Q E hr h => ?_)
  · obtain ⟨a, ns, k, rfl, _⟩ := h
    rfl
  obtain ⟨a, ns, k, rfl, hS, h0, q⟩ := h
  refine ⟨_, pss_cons (ps_if (pt_cmpR op_lt (pv 1) (pe_callB call_len_seq rfl ml PySem.boot_len (pa_cons (pv 0) pa_nil)) (nomark _)) (pss_one (ps_ret (pe_ix ix_list (pv 0) (pv 1) (fun _ _ => rfl)))) pss_nil)
    (pss_one (ps_ret pe_int)), ?_⟩
  refine ⟨_, rfl, _, rfl, a, _, rfl, .inl hS, _, _, rfl, rfl, _, rfl, ?_⟩
  refine ite2 (fun c => ?_) (fun c => ?_)
  · have c' : k < (((ns.map V.int).length : Nat) : Int) := of_decide_eq_true c
    rw [List.length_map] at c'
    have hk : k.toNat < ns.length := by omega
    exact ⟨_, rfl, _, rfl, a, _, _, _, rfl, rfl, hS, at_of (j := k.toNat) (v := .int ns[k.toNat]) (by omega) (by rw [List.getElem?_map, List.getElem?_eq_getElem hk]; all_goals rfl), q _⟩
  · exact q 0
end
end Lm
namespace Lm
open PySem L2
abbrev s_mixed : Stmt := topS 17
abbrev s_value : Stmt := topS 19
abbrev s_let : Stmt := topS 20
def spMixed : Sp := fun vs H Q _ => ∃ c k : Int, vs = [.int c, .int k] ∧ ∀ z : Int, 0 ≤ z → z < 2147483647 → Q (.int z) H
def spValue (K : PySem.W.Frag) : Sp := fun vs H Q _ => ∃ (k n : Int) (a : Addr) (ss : List Str), vs = [.int k, .int n, .ref a] ∧ 0 ≤ k ∧ k < 16 ∧ NamesAt K H a ss ∧ ∀ x : Vl, x.ok ss → Q x.v H
def spLet (K : PySem.W.Frag) : Sp := fun vs H Q _ => ∃ (n : Int) (a : Addr) (ss : List Str), vs = [.int n, .ref a] ∧ NamesAt K H a ss ∧
  ∀ (p : Addr) (to sg : Str) (x y : Vl) (H' : Hp), H p = none → (Row.lt to sg x y).ok ss → H' = upd H p (.tup [.str "let", .str to, .str sg, x.v, y.v]) → Q (.ref p) H'
/-- the same, with where the name stands -/
def spLetC (K : PySem.W.Frag) : Sp := fun vs H Q _ => ∃ (n : Int) (a : Addr) (ss : List Str), vs = [.int n, .ref a] ∧ NamesAt K H a ss ∧
  ∀ (p : Addr) (to sg : Str) (x y : Vl) (H' : Hp), H p = none → (Row.lt to sg x y).ok ss → (∃ j, j < 8 ∧ ss[j]? = some to) → H' = upd H p (.tup [.str "let", .str to, .str sg, x.v, y.v]) → Q (.ref p) H'
theorem NamesAt.where_ {K : PySem.W.Frag} {H : Hp} {a : Addr} {ss : List Str} (h : NamesAt K H a ss) {z : Int} (h0 : 0 ≤ z) (h1 : z < 16) : ∃ s, ss[z.toNat]? = some s ∧ atI (ss.map V.str) z = some (.str s) := by
  have hk : z.toNat < ss.length := by rw [h.2]; omega
  refine ⟨ss[z.toNat], List.getElem?_eq_getElem hk, at_of (j := z.toNat) (by omega) ?_⟩
  rw [List.getElem?_map, List.getElem?_eq_getElem hk]
  all_goals rfl
section
variable {P : Program} {w : World} {K : PySem.W.Frag} {mg : Str → Option Value} {base : Heap} {f : Addr} {fd : FuncData}
theorem sc_mixed : FnScope ["_law_cell", "_law_k", "_law_number"] ["_law_cell", "_law_k"] (defScope s_mixed) := ⟨rfl, rfl, rfl, by decide +kernel, rfl, by decide +kernel, by decide +kernel⟩
theorem ok_mixed (F : Fun K "_law_mixed" "_law_mixed" s_mixed f fd) : FnOk P w K mg base CX0 1 f fd ["_law_cell", "_law_k"] spMixed := by
  refine F.ok sc_mixed (fun vs H Q E h => ?_) (fun cdv A outer s H vs Q E hr h => ?_)
  · obtain ⟨c, k, rfl, _⟩ := h
    rfl
  obtain ⟨c, k, rfl, q⟩ := h
  refine ⟨_, pss_cons (ps_set (i := 2) sc_mixed.nd rfl (Or.inl rfl) (pe_op op_mod (pe_op op_mul (pe_op op_add (pe_op op_add (pv 0) (pe_op op_mul pe_int (pv 1))) pe_int) pe_int) pe_int))
    (pss_one (ps_ret (pe_op op_mod (pe_op op_mul (pv 2) (pv 2)) pe_int))), ?_⟩
  have h1 : 0 ≤ ((c + 7 * k + 3) * 48271) % 2147483647 := Int.emod_nonneg _ (by decide)
  have h2 : ((c + 7 * k + 3) * 48271) % 2147483647 < 2147483647 := Int.emod_lt_of_pos _ (by decide)
  refine ⟨_, rfl, _, rfl, _, _, rfl, rfl, .inl ⟨by decide, by decide⟩, _, _, rfl, rfl, _, _, rfl, rfl, _, _, rfl, rfl, .inr ⟨by decide, by decide⟩, _, _, rfl, rfl, (by show (0 : Int) < 2147483647; decide), _, rfl, _, rfl, _, _, rfl, rfl, .inl ⟨by omega, by omega⟩, _, _, rfl, rfl, (by show (0 : Int) < 2147483647; decide), ?_⟩
  exact q _ (Int.emod_nonneg _ (by decide)) (Int.emod_lt_of_pos _ (by decide))
theorem sc_value : FnScope ["_law_kind", "_law_number", "_law_names_here"] ["_law_kind", "_law_number", "_law_names_here"] (defScope s_value) := ⟨rfl, rfl, rfl, by decide +kernel, rfl, by decide +kernel, by decide +kernel⟩
theorem ok_value (F : Fun K "_law_value" "_law_value" s_value f fd) : FnOk P w K mg base CX0 1 f fd ["_law_kind", "_law_number", "_law_names_here"] (spValue K) := by
  refine F.ok sc_value (fun vs H Q E h => ?_) (fun cdv A outer s H vs Q E hr h => ?_)
  · obtain ⟨k, n, a, ss, rfl, _⟩ := h
    rfl
  obtain ⟨k, n, a, ss, rfl, h0, h1, hN, q⟩ := h
  refine ⟨_, pss_cons (ps_if (pt_cmpR op_lt (pv 0) pe_int (nomark _)) (pss_one (ps_ret (pe_ix ix_list (pv 2) (pv 0) (fun _ _ => rfl)))) pss_nil)
    (pss_cons (ps_if (pt_cmpR op_lt (pv 0) pe_int (nomark _)) (pss_one (ps_ret (pe_op op_sub (pv 0) pe_int))) pss_nil)
    (pss_one (ps_ret (pe_op op_mod (pv 1) pe_int)))), ?_⟩
  refine ⟨_, rfl, _, _, rfl, rfl, _, rfl, ?_⟩
  refine ite2 (fun c => ?_) (fun c => ?_)
  · obtain ⟨s, hs, es⟩ := hN.at h0 h1
    exact ⟨_, rfl, _, rfl, a, _, _, _, rfl, rfl, hN.1, es, q (.nm s) hs⟩
  have c' : ¬ k < 11 := of_decide_eq_false (Bool.eq_false_iff.mpr c)
  refine ⟨_, rfl, _, _, rfl, rfl, _, rfl, ?_⟩
  refine ite2 (fun d => ?_) (fun d => ?_)
  · have d' : k < 14 := of_decide_eq_true d
    exact ⟨_, rfl, _, _, rfl, rfl, q (.nu (k - 11)) ⟨by omega, by omega⟩⟩
  · exact ⟨_, rfl, _, _, rfl, rfl, (by show (0 : Int) < 1000000; decide), q (.nu (n % 1000000)) ⟨Int.emod_nonneg _ (by decide), Int.emod_lt_of_pos _ (by decide)⟩⟩
theorem sc_let : FnScope ["_law_number", "_law_names_here", "_law_one", "_law_other"] ["_law_number", "_law_names_here"] (defScope s_let) := ⟨rfl, rfl, rfl, by decide +kernel, rfl, by decide +kernel, by decide +kernel⟩
theorem sign_at (z : Int) (h0 : 0 ≤ z) (h1 : z < 5) : ∃ c : Nat, atI (Str.cps "+-*</").toList z = some c ∧ (⟨#[c]⟩ : Str) ∈ signs := by
  obtain ⟨n, rfl⟩ : ∃ n : Nat, z = (n : Int) := ⟨z.toNat, by omega⟩
  match n, h1 with
  | 0, _ => exact ⟨43, by decide +kernel, by decide +kernel⟩
  | 1, _ => exact ⟨45, by decide +kernel, by decide +kernel⟩
  | 2, _ => exact ⟨42, by decide +kernel, by decide +kernel⟩
  | 3, _ => exact ⟨60, by decide +kernel, by decide +kernel⟩
  | 4, _ => exact ⟨47, by decide +kernel, by decide +kernel⟩
  | n + 5, h => exact absurd h (by omega)
theorem ok_letC {fv : Addr} {dv : FuncData} (F : Fun K "_law_let" "_law_let" s_let f fd) (V : Df P w K mg base "_law_value" 1 fv dv ["_law_kind", "_law_number", "_law_names_here"] (spValue K)) :
    FnOk P w K mg base CX0 2 f fd ["_law_number", "_law_names_here"] (spLetC K) := by
  refine F.ok sc_let (fun vs H Q E h => ?_) (fun cdv A outer s H vs Q E hr h => ?_)
  · obtain ⟨n, a, ss, rfl, _⟩ := h
    rfl
  obtain ⟨n, a, ss, rfl, hN, q⟩ := h
  refine ⟨_, pss_cons (ps_set (i := 2) sc_let.nd rfl (Or.inl rfl) (pe_df V hr (pa_cons (pe_op op_mod (pe_op op_fdiv (pv 0) pe_int) pe_int) (pa_cons (pe_op op_fdiv (pv 0) pe_int) (pa_cons (pv 1) pa_nil)))))
    (pss_cons (ps_set (i := 3) sc_let.nd rfl (Or.inl rfl) (pe_df V hr (pa_cons (pe_op op_mod (pe_op op_fdiv (pv 0) pe_int) pe_int) (pa_cons (pe_op op_fdiv (pv 0) pe_int) (pa_cons (pv 1) pa_nil)))))
    (pss_one (ps_ret (pe_tup (pa_cons pe_str (pa_cons (pe_ix ix_list (pv 1) (pe_op op_mod (pv 0) pe_int) (fun _ _ => rfl)) (pa_cons (pe_ix ix_str pe_str (pe_op op_mod (pe_op op_fdiv (pv 0) pe_int) pe_int) (fun _ _ => rfl)) (pa_cons (pv 2) (pa_cons (pv 3) pa_nil))))))))), ?_⟩
  refine ⟨_, rfl, _, _, rfl, rfl, ⟨by decide, by decide⟩, _, _, rfl, rfl, (by show (0 : Int) < 16; decide), _, rfl, _, _, rfl, rfl, ⟨by decide, by decide⟩, _, rfl, _, _, a, ss, rfl, Int.emod_nonneg _ (by decide), Int.emod_lt_of_pos _ (by decide), hN, fun x hx => ?_⟩
  refine ⟨_, rfl, _, _, rfl, rfl, ⟨by decide, by decide⟩, _, _, rfl, rfl, (by show (0 : Int) < 16; decide), _, rfl, _, _, rfl, rfl, ⟨by decide, by decide⟩, _, rfl, _, _, a, ss, rfl, Int.emod_nonneg _ (by decide), Int.emod_lt_of_pos _ (by decide), hN, fun y hy => ?_⟩
  obtain ⟨to, wto, eto⟩ := hN.where_ (z := n % 8) (Int.emod_nonneg _ (by decide)) (by have := Int.emod_lt_of_pos n (b := 8) (by decide); omega)
  obtain ⟨c, hc, hsg⟩ := sign_at (n / 8 % 5) (Int.emod_nonneg _ (by decide)) (Int.emod_lt_of_pos _ (by decide))
  refine ⟨_, rfl, _, rfl, _, _, rfl, rfl, (by show (0 : Int) < 8; decide), a, _, _, _, rfl, rfl, hN.1, eto, _, rfl, _, _, rfl, rfl, ⟨by decide, by decide⟩, _, _, rfl, rfl, (by show (0 : Int) < 5; decide), _, _, c, rfl, rfl, (by decide +kernel), hc, _, rfl, _, rfl, (by show 5 ≤ sizeLine; decide), fun p hp => ?_⟩
  exact q p to ⟨#[c]⟩ x y _ hp ⟨List.mem_of_getElem? wto, hsg, hx, hy⟩ ⟨(n % 8).toNat, by have h1 := Int.emod_nonneg n (b := 8) (by decide); have h2 := Int.emod_lt_of_pos n (b := 8) (by decide); omega, wto⟩ rfl
theorem ok_let {fv : Addr} {dv : FuncData} (F : Fun K "_law_let" "_law_let" s_let f fd) (V : Df P w K mg base "_law_value" 1 fv dv ["_law_kind", "_law_number", "_law_names_here"] (spValue K)) :
    FnOk P w K mg base CX0 2 f fd ["_law_number", "_law_names_here"] (spLet K) :=
  (ok_letC F V).imp fun _ _ _ _ ⟨n, a, ss, e, h1, k⟩ => ⟨n, a, ss, e, h1, fun p to sg x y H' hp ok _ e => k p to sg x y H' hp ok e⟩
end
end Lm
namespace Lm
open PySem L2
def spNames : Sp := fun vs H Q _ => ∃ c : Int, vs = [.int c] ∧ ∀ (l : Addr) (ss : List Str) (H' : Hp), Same H H' → H l = none → H' l = some (.lst (ss.map V.str)) → ss.length = 16 → (∀ s ∈ ss, Good s) → Q (.ref l) H'
section
variable {P : Program} {w : World} {K : PySem.W.Frag} {mg : Str → Option Value} {base : Heap} {f : Addr} {fd : FuncData}
abbrev nNames : List Str := ["_law_cell", "_law_letters", "_law_some", "_law_size", "_law_j", "_law_tail", "_law_k", "_law_word", "_law_place", "_law_words"]
theorem sc_names : FnScope nNames ["_law_cell"] (defScope s_names) := ⟨rfl, rfl, rfl, by decide +kernel, rfl, by decide +kernel, by decide +kernel⟩
theorem ok_names (F : Fun K "_law_names" "_law_names" s_names f fd) (mr : mg "range" = none) : FnOk P w K mg base CX0 1 f fd ["_law_cell"] spNames := by
  refine F.ok sc_names (fun vs H Q E h => ?_) (fun cdv A outer s H vs Q E hr h => ?_)
  · obtain ⟨c, rfl, _⟩ := h
    rfl
  obtain ⟨c, rfl, q⟩ := h
  have nd := sc_names.nd
  refine ⟨_, pss_cons (ps_set (i := 1) nd rfl (Or.inr rfl) pe_str) <|
    pss_cons (ps_set (i := 2) nd rfl (Or.inl rfl) (pe_lst pa_nil)) <|
    pss_cons (ps_set (i := 3) nd rfl (Or.inl rfl) (pe_op op_add pe_int (pe_op op_mod (pe_op op_fdiv (pv 0) pe_int) pe_int))) <|
    pss_cons (ps_set (i := 5) nd rfl (Or.inl rfl) (pe_join pe_str (pe_lc (own := [("_law_j", 4)]) (g := gName 4) rfl nd (pi_range1 rfl mr (pa_cons pe_int pa_nil)) (blkOk_by (N := nNames) (sc := defScope s_names) (by decide +kernel))
      (fun _ _ _ _ _ => pg_name (i := 4) nd rfl (Or.inl rfl)) (fun _ _ _ _ _ => pts_nil)
      (fun _ _ _ _ _ => pe_ix ix_str (pv 1) (pe_op op_mod (pe_op op_add (pe_op op_add (pe_op op_fdiv (pv 0) pe_int) (pe_op op_mul pe_int (pv 4))) pe_int) pe_int) (fun _ _ => rfl))))) <|
    pss_cons (ps_for PassesOwn.never rfl (pi_range1 rfl mr (pa_cons pe_int pa_nil)) (pg_name (i := 6) nd rfl (Or.inl rfl))
      (pss_cons (ps_set (i := 7) nd rfl (Or.inl rfl) (pe_ix ix_str (pv 1) (pe_op op_mod (pe_op op_add (pe_op op_fdiv (pv 0) pe_int) (pe_op op_mul pe_int (pv 6))) pe_int) (fun _ _ => rfl))) <|
      pss_cons (ps_if (pt_cmpR op_eq (pe_op op_mod (pv 0) pe_int) pe_int (nomark _))
        (pss_cons (ps_set (i := 8) nd rfl (Or.inl rfl) (pe_op op_mod (pe_op op_fdiv (pv 0) pe_int) (pv 3))) <|
          pss_one (ps_set (i := 7) nd rfl (Or.inl rfl) (pe_op op_add_str (pe_op op_add_str (pe_slice sl_str (pv 5) po_none (po_some (pv 8))) (pv 7)) (pe_slice sl_str (pv 5) (po_some (pe_op op_add (pv 8) pe_int)) (po_some (pv 3))))))
        (pss_one (ps_if (pt_cmpR op_eq (pe_op op_mod (pv 0) pe_int) pe_int (nomark _))
          (pss_cons (ps_set (i := 7) nd rfl (Or.inl rfl) (pe_ix ix_str (pv 1) (pe_op op_mod (pe_op op_add (pe_op op_fdiv (pv 0) pe_int) (pe_op op_mul pe_int (pe_op op_fdiv (pv 6) pe_int))) pe_int) (fun _ _ => rfl))) <|
            pss_one (ps_set (i := 7) nd rfl (Or.inl rfl) (pe_op op_add_str (pv 7) (pe_slice sl_str (pv 5) po_none (po_some (pe_op op_add (pe_op op_mod (pv 6) pe_int) (pe_op op_mod (pe_op op_fdiv (pv 0) pe_int) pe_int)))))))
          (pss_one (ps_for PassesOwn.never rfl (pi_range1 rfl mr (pa_cons (pe_op op_mod (pe_op op_add (pe_op op_fdiv (pv 0) pe_int) (pv 6)) pe_int) pa_nil)) (pg_name (i := 4) nd rfl (Or.inl rfl))
            (pss_one (ps_set (i := 7) nd rfl (Or.inl rfl) (pe_op op_add_str (pv 7) (pe_ix ix_str (pv 1) (pe_op op_mod (pe_op op_add (pe_op op_add (pe_op op_fdiv (pv 0) pe_int) (pe_op op_mul pe_int (pv 4))) (pv 6)) pe_int) (fun _ _ => rfl)))))))))) <|
      pss_one (ps_expr (pe_bm PySem.F.plainAttrs_list PySem.F.slot_list_append PySem.F.type_list_append mt_append (pv 2) (pa_cons (pv 7) pa_nil))))) <|
    pss_cons (ps_if (pt_cmpR op_eq (pe_op op_mod (pv 0) pe_int) pe_int (nomark _))
      (pss_cons (ps_set (i := 9) nd rfl (Or.inl rfl) (pe_lst (pa_cons pe_str (pa_cons pe_str (pa_cons pe_str (pa_cons pe_str (pa_cons pe_str (pa_cons pe_str (pa_cons pe_str (pa_cons pe_str (pa_cons pe_str (pa_cons pe_str pa_nil)))))))))))) <|
        pss_one (ps_asg (pe_ix ix_list (pv 9) (pe_op op_mod (pe_op op_fdiv (pv 0) pe_int) pe_int) (fun _ _ => rfl)) (pg_sub (pv 2) (pe_op op_mod (pe_op op_fdiv (pv 0) pe_int) pe_int) set_list)))
      pss_nil) <|
    pss_one (ps_ret (pv 2)), ?_⟩
  have hc26 : (c / 72 % 26).toNat < 26 := by omega
  have code1 : ∀ i : Nat, atI abc.cps.toList ((c / 72 + 5 * (0 + (i : Int)) + 1) % 26) = some (ltr ((c / 72 % 26).toNat + (5 * i + 1))) := fun i => (abc_mod _).trans (congrArg some (by unfold ltr; omega))
  have code2 : ∀ i : Nat, atI abc.cps.toList ((c / 72 + 5 * (0 + (i : Int))) % 26) = some (ltr ((c / 72 % 26).toNat + 5 * i)) := fun i => (abc_mod _).trans (congrArg some (by unfold ltr; omega))
  have code3 : ∀ i : Nat, atI abc.cps.toList ((c / 72 + 7 * ((0 + (i : Int)) / 4)) % 26) = some (ltr ((c / 72 % 26).toNat + 7 * (i / 4))) := fun i => (abc_mod _).trans (congrArg some (by unfold ltr; omega))
  have code4 : ∀ i j : Nat, atI abc.cps.toList ((c / 7 + 3 * (0 + (j : Int)) + (0 + (i : Int))) % 26) = some (ltr (((c / 7 + (i : Int)) % 26).toNat + 3 * j)) := fun i j => (abc_mod _).trans (congrArg some (by unfold ltr; omega))
  have abcLen : abc.length ≤ sizeLine := by decide +kernel
  refine ⟨(by show 0 ≤ sizeLine; decide), fun L hL => ?_⟩
  have sL : Same H (upd H L (.lst [])) := same_new hL _
  refine ⟨_, rfl, _, _, rfl, rfl, ⟨by decide, by decide⟩, _, _, rfl, rfl, (by show (0 : Int) < 6; decide), _, _, rfl, rfl, ?_⟩
  refine ⟨⟨_, rfl⟩, 6, rfl, by decide, by decide, fun D hD => lc_range (lo := 0) (n := 6) (fun i H' => H' D = some (.lst ((tl (c / 72 % 26).toNat i).map V.str)) ∧ Same (upd H L (.lst [])) H') ⟨upd_same, same_new hD _⟩ ?_ ?_⟩
  · intro i H1 hi ⟨e1, s1⟩
    refine ⟨rfl, yes (iteT ?_)⟩
    refine ⟨_, rfl, _, rfl, _, _, rfl, rfl, ⟨by decide, by decide⟩, _, rfl, _, _, rfl, rfl, .inl ⟨by decide, by decide⟩, _, _, rfl, rfl, _, _, rfl, rfl, _, _, rfl, rfl, (by show (0 : Int) < 26; decide), _, _, _, rfl, rfl, abcLen, code1 i, _, e1, ?_, ?_, ?_⟩
    · rw [List.length_map, tl_len _ (by omega)]
      exact small1000 (by omega)
    · rw [upd_same, tl_more _ i hi, List.map_append]
      rfl
    · exact fun b o hb => by rw [upd_ne (ne_of_none hb hD)]; exact s1 b o hb
  intro H1 ⟨e1, s1⟩
  refine ⟨_, D, tl (c / 72 % 26).toNat 6, rfl, rfl, .inl (SqL.of e1), tl_sum _, ?_⟩
  rw [tl_join]
  have s2 : Same H H1 := sL.trans s1
  have e2 : H1 L = some (.lst []) := s1 _ _ upd_same
  have sz1 : 0 ≤ 1 + c / 3 % 6 := by omega
  have sz2 : 1 + c / 3 % 6 < 7 := by omega
  obtain ⟨size, esz⟩ : ∃ n : Nat, 1 + c / 3 % 6 = (n : Int) := ⟨(1 + c / 3 % 6).toNat, by omega⟩
  refine ⟨16, rfl, by decide, by decide, for_range (lo := 0) (n := 16) (fun i σ H' => ∃ (ss : List Str) (vj vk vw vp : Option V), σ = [some (.int c), some (.str abc), some (.ref L), some (.int (1 + c / 3 % 6)), vj, some (.str (tailS (c / 72 % 26).toNat)), vk, vw, vp, none] ∧
    Same H H' ∧ H' L = some (.lst (ss.map V.str)) ∧ ss.length = i ∧ ∀ s ∈ ss, Good s) ⟨[], none, none, none, none, rfl, s2, e2, rfl, fun s hs => by cases hs⟩ ?_ ?_⟩
  · rintro i σ H2 hi ⟨ss, vj, vk, vw, vp, rfl, s3, e3, hlen, hgood⟩
    have fin : ∀ (s : Str) (vj vk vp : Option V), Good s → ∃ (ss' : List Str) (vj' vk' vw' vp' : Option V), [some (V.int c), some (.str abc), some (.ref L), some (.int (1 + c / 3 % 6)), vj, some (.str (tailS (c / 72 % 26).toNat)), vk, some (.str s), vp, none] = [some (V.int c), some (.str abc), some (.ref L), some (.int (1 + c / 3 % 6)), vj', some (.str (tailS (c / 72 % 26).toNat)), vk', vw', vp', none] ∧
        Same H (upd H2 L (.lst (ss.map V.str ++ [.str s]))) ∧ (upd H2 L (.lst (ss.map V.str ++ [.str s]))) L = some (.lst (ss'.map V.str)) ∧ ss'.length = i + 1 ∧ ∀ s ∈ ss', Good s := fun s vj vk vp hs => by
      refine ⟨ss ++ [s], _, _, _, _, rfl, fun b o hb => by rw [upd_ne (ne_of_none hb hL)]; exact s3 b o hb, ?_, by rw [List.length_append, hlen]; rfl, fun z hz => ?_⟩
      · rw [upd_same, List.map_append]
        all_goals rfl
      · rcases List.mem_append.mp hz with h1 | h1
        · exact hgood z h1
        · rw [List.mem_singleton.mp h1]
          exact hs
    have room : (ss.map V.str).length < sizeLine := by
      rw [List.length_map, hlen]
      exact small1000 (by omega)
    refine ⟨_, rfl, _, rfl, _, _, rfl, rfl, ⟨by decide, by decide⟩, _, rfl, _, _, rfl, rfl, .inl ⟨by decide, by decide⟩, _, _, rfl, rfl, _, _, rfl, rfl, (by show (0 : Int) < 26; decide), _, _, _, rfl, rfl, abcLen, code2 i, ?_⟩
    refine ⟨_, rfl, _, _, rfl, rfl, (by show (0 : Int) < 3; decide), rfl, _, rfl, ?_⟩
    refine ite2 (fun c1 => ?_) (fun c1 => ?_)
    · -- one letter in the place of another
      obtain ⟨place, epl⟩ : ∃ n : Nat, c / 18 % (1 + c / 3 % 6) = (n : Int) := ⟨(c / 18 % (1 + c / 3 % 6)).toNat, by have := Int.emod_nonneg (c / 18) (b := 1 + c / 3 % 6) (by omega); omega⟩
      have hpl : place < size := by have := Int.emod_lt_of_pos (c / 18) (b := 1 + c / 3 % 6) (by omega); omega
      refine ⟨_, rfl, _, _, rfl, rfl, ⟨by decide, by decide⟩, _, rfl, _, _, rfl, rfl, (by show (0 : Int) < 1 + c / 3 % 6; omega), ?_⟩
      have g := word1 hc26 hi (by omega : size < 7) hpl
      rw [← epl, ← esz] at g
      refine ⟨_, rfl, _, rfl, _, rfl, _, rfl, (by rw [tailS_len]; decide), _, rfl, _, _, rfl, rfl, ?_, ?_⟩
      · have := cut_len (tailS (c / 72 % 26).toNat) none (some (c / 18 % (1 + c / 3 % 6)))
        rw [tailS_len] at this
        exact Nat.le_of_lt (small1000 (Nat.le_trans (Nat.add_le_add this (Nat.le_refl _)) (by show 6 + 1 ≤ 1000; decide)))
      refine ⟨_, rfl, _, rfl, _, _, rfl, rfl, _, rfl, _, rfl, _, rfl, _, rfl, (by rw [tailS_len]; decide), _, _, rfl, rfl, ?_, ?_⟩
      · have h9 := (good_len g).2
        rw [app_len] at h9
        exact Nat.le_of_lt (small1000 (Nat.le_trans h9 (by decide)))
      refine ⟨_, rfl, .inl ⟨rfl, _, SqL.of e3⟩, _, rfl, L, _, _, rfl, rfl, e3, room, ?_⟩
      exact fin _ _ _ _ g
    refine ⟨_, rfl, _, _, rfl, rfl, (by show (0 : Int) < 3; decide), rfl, _, rfl, ?_⟩
    refine ite2 (fun c2 => ?_) (fun c2 => ?_)
    · -- a letter and the first of the six
      have g := word2 hc26 hi (by omega : (c / 18 % 3).toNat < 3)
      have ek : ((i % 4 + (c / 18 % 3).toNat : Nat) : Int) = (0 + (i : Int)) % 4 + c / 18 % 3 := by omega
      rw [ek] at g
      refine ⟨_, rfl, _, rfl, _, _, rfl, rfl, ⟨by decide, by decide⟩, _, rfl, _, _, rfl, rfl, ⟨by decide, by decide⟩, _, _, rfl, rfl, .inl ⟨by decide, by decide⟩, _, _, rfl, rfl, _, _, rfl, rfl, (by show (0 : Int) < 26; decide), _, _, _, rfl, rfl, abcLen, code3 i, ?_⟩
      refine ⟨_, rfl, _, rfl, _, rfl, _, _, rfl, rfl, (by show (0 : Int) < 4; decide), _, rfl, _, _, rfl, rfl, ⟨by decide, by decide⟩, _, _, rfl, rfl, (by show (0 : Int) < 3; decide), _, _, rfl, rfl, _, rfl, _, rfl, (by rw [tailS_len]; decide), _, _, rfl, rfl, ?_, ?_⟩
      · have h9 := (good_len g).2
        rw [app_len] at h9
        exact Nat.le_of_lt (small1000 (Nat.le_trans h9 (by decide)))
      refine ⟨_, rfl, .inl ⟨rfl, _, SqL.of e3⟩, _, rfl, L, _, _, rfl, rfl, e3, room, ?_⟩
      exact fin _ _ _ _ g
    · -- letters three apart
      have hm0 : 0 ≤ (c / 26 + (0 + (i : Int))) % 6 := Int.emod_nonneg _ (by decide)
      have hm1 : (c / 26 + (0 + (i : Int))) % 6 < 6 := Int.emod_lt_of_pos _ (by decide)
      refine ⟨_, rfl, _, _, rfl, rfl, ⟨by decide, by decide⟩, _, rfl, _, _, rfl, rfl, _, _, rfl, rfl, (by show (0 : Int) < 6; decide), _, rfl, by omega, by omega, ?_⟩
      refine for_range (lo := 0) (fun j σ H' => ∃ (vj : Option V) (s : Str), σ = [some (.int c), some (.str abc), some (.ref L), some (.int (1 + c / 3 % 6)), vj, some (.str (tailS (c / 72 % 26).toNat)), some (.int (0 + (i : Int))), some (.str s), vp, none] ∧ H' = H2 ∧
        s.cps.toList = w0 (((c / 72 % 26).toNat + 5 * i) % 26) (((c / 7 + (i : Int)) % 26).toNat) j) ⟨_, _, rfl, rfl, ?_⟩ ?_ ?_
      · show [ltr _] = [ltr _]
        unfold ltr
        rw [Nat.mod_mod]
      · rintro j σ H3 hj ⟨vj, s, rfl, rfl, es⟩
        have hj5 : j < 5 := by omega
        refine ⟨_, rfl, _, rfl, _, rfl, _, _, rfl, rfl, ⟨by decide, by decide⟩, _, rfl, _, _, rfl, rfl, .inl ⟨by decide, by decide⟩, _, _, rfl, rfl, _, rfl, _, _, rfl, rfl, _, _, rfl, rfl, (by show (0 : Int) < 26; decide), _, _, _, rfl, rfl, abcLen, code4 i j, _, _, rfl, rfl, ?_, ?_⟩
        · rw [len_toList, es, w0_len _ _ (by omega)]
          exact Nat.le_of_lt (small1000 (by show j + 1 + 1 ≤ 1000; omega))
        · refine ⟨_, _, rfl, rfl, ?_⟩
          rw [app_toList, es, w0_more _ _ j hj5]
      · rintro σ H3 ⟨vj, s, rfl, rfl, es⟩
        have g : Good s := by
          unfold Good
          rw [es]
          exact w0_ok (by omega) (by omega) (by omega)
        refine ⟨_, rfl, .inl ⟨rfl, _, SqL.of e3⟩, _, rfl, L, _, _, rfl, rfl, e3, room, ?_⟩
        exact fin _ _ _ _ g
  · rintro σ H2 ⟨ss, vj, vk, vw, vp, rfl, s3, e3, hlen, hgood⟩
    refine ⟨_, rfl, _, _, rfl, rfl, (by show (0 : Int) < 5; decide), rfl, _, rfl, ?_⟩
    refine ite2 (fun c1 => ?_) (fun c1 => ?_)
    · refine ⟨(by show 10 ≤ sizeLine; decide), fun p hp => ?_⟩
      have e4 : (upd H2 p (.lst (tens.map V.str))) L = some (.lst (ss.map V.str)) := by
        rw [upd_ne (ne_of_none e3 hp)]
        exact e3
      obtain ⟨j, ej⟩ : ∃ j : Nat, c / 40 % 10 = (j : Int) := ⟨(c / 40 % 10).toNat, by omega⟩
      have hj : j < tens.length := by show j < 10; omega
      obtain ⟨j8, ej8⟩ : ∃ j : Nat, c / 5 % 8 = (j : Int) := ⟨(c / 5 % 8).toNat, by omega⟩
      have hj8 : ixN (ss.map V.str).length (c / 5 % 8) = some j8 := by
        unfold ixN
        rw [List.length_map, hlen, ej8, if_pos (by omega), if_pos (by omega)]
        simp
      refine ⟨_, rfl, _, rfl, _, _, rfl, rfl, ⟨by decide, by decide⟩, _, _, rfl, rfl, (by show (0 : Int) < 10; decide), p, tens.map V.str, _, _, rfl, rfl, SqL.of upd_same, at_of (j := j) (v := .str tens[j]) ej (by rw [List.getElem?_map, List.getElem?_eq_getElem hj]; all_goals rfl), ?_⟩
      refine ⟨_, rfl, _, rfl, _, _, rfl, rfl, ⟨by decide, by decide⟩, _, _, rfl, rfl, (by show (0 : Int) < 8; decide), L, _, _, j8, rfl, rfl, e4, hj8, ?_⟩
      refine ⟨_, rfl, q L (ss.set j8 tens[j]) _ (fun b o hb => ?_) hL ?_ (by rw [List.length_set]; exact hlen) fun s hs => ?_⟩
      · rw [upd_ne (ne_of_none hb hL), upd_ne (ne_of_none (s3 b o hb) hp)]
        exact s3 b o hb
      · rw [upd_same, List.map_set]
      · rcases List.mem_or_eq_of_mem_set hs with h1 | h1
        · exact hgood s h1
        · rw [h1]
          exact tens_good _ (List.getElem_mem hj)
    · exact ⟨_, rfl, q L ss H2 s3 hL e3 hlen hgood⟩
end
end Lm
namespace Lm.S
open PySem L2
abbrev s_closed : Stmt := topS 21
abbrev s_opened : Stmt := topS 22
def spClosed (K : PySem.W.Frag) : Sp := fun vs H Q _ => ∃ (S T l : Addr) (ss : List Str) (m : Nat) (H0 Hc : Hp) (rs : List Row) (q : Addr × List Row) (o : List (Addr × List Row)) (ts : List Str) (t : Str), vs = [.ref S, .ref T] ∧
  Prog K ss m H0 Hc H S T l rs (q :: o) (ts ++ [t]) ∧ m + 2 ≤ 1000 ∧ ∀ (H' Hc' : Hp) (rs' : List Row), Prog K ss (m + 2) H0 Hc' H' S T q.1 rs' o ts → Q .non H'
def spOpened (K : PySem.W.Frag) : Sp := fun vs H Q _ => ∃ (n : Int) (a S T l : Addr) (ss : List Str) (m : Nat) (H0 Hc : Hp) (rs : List Row) (o : List (Addr × List Row)) (ts : List Str), vs = [.int n, .ref a, .ref S, .ref T] ∧
  NamesAt K H0 a ss ∧ Prog K ss m H0 Hc H S T l rs o ts ∧ o.length < 3 ∧ ts.length = o.length ∧ m + 2 ≤ 1000 ∧
  ∀ (H' Hc' : Hp) (q : Addr) (rs' : List Row) (ts' : List Str), Prog K ss (m + 2) H0 Hc' H' S T q [] ((l, rs') :: o) ts' → ts'.length = o.length + 1 → Q .non H'
section
variable {P : Program} {w : World} {K : PySem.W.Frag} {mg : Str → Option Value} {base : Heap} {f : Addr} {fd : FuncData}
theorem top_at {l : Addr} {o : List (Addr × List Row)} : atI ((opens l o).reverse.map V.ref) (-1) = some (.ref l) := by
  have e : (opens l o).reverse.map V.ref = (o.map (·.1)).reverse.map V.ref ++ [.ref l] := by simp [opens]
  rw [e]
  exact atI_last _ _
theorem sc_closed : FnScope ["_law_stack", "_law_tests", "_law_test"] ["_law_stack", "_law_tests"] (defScope s_closed) := ⟨rfl, rfl, rfl, by decide +kernel, rfl, by decide +kernel, by decide +kernel⟩
theorem ok_closed (F : Fun K "_law_closed" "_law_closed" s_closed f fd) : FnOk P w K mg base CX0 1 f fd ["_law_stack", "_law_tests"] (spClosed K) := by
  refine F.ok sc_closed (fun vs H Q E h => ?_) (fun cdv A outer s H vs Q E hr h => ?_)
  · obtain ⟨S, T, l, ss, m, H0, Hc, rs, q, o, ts, t, rfl, _⟩ := h
    rfl
  obtain ⟨S, T, l, ss, m, H0, Hc, rs, q, o, ts, t, rfl, hP, hm, k⟩ := h
  have nd := sc_closed.nd
  refine ⟨_, pss_cons (ps_set (i := 2) nd rfl (Or.inl rfl) (pe_bm0 PySem.F.plainAttrs_list PySem.F.slot_list_pop PySem.F.type_list_pop mt_pop (pv 1))) <|
    pss_cons (ps_if (pt_cmpR op_ne (pv 2) pe_str (nomark _))
      (pss_one (ps_expr (pe_bm PySem.F.plainAttrs_list PySem.F.slot_list_append PySem.F.type_list_append mt_append (pe_ix ix_list (pv 0) (pe_un un_neg pe_int) (fun _ _ => rfl))
        (pa_cons (pe_tup (pa_cons pe_str (pa_cons (pv 2) (pa_cons pe_str (pa_cons (pv 2) (pa_cons pe_int pa_nil)))))) pa_nil)))) pss_nil) <|
    pss_one (ps_expr (pe_bm0 PySem.F.plainAttrs_list PySem.F.slot_list_pop PySem.F.type_list_pop mt_pop (pv 0))), ?_⟩
  obtain ⟨n1, n2, n3, n4⟩ := hP.nST
  have eT : ((ts ++ [t]).map V.str).dropLast = ts.map V.str := by simp
  have eS : ((opens l (q :: o)).reverse.map V.ref).dropLast = (opens q.1 o).reverse.map V.ref := by simp [opens]
  have lS : ((opens l (q :: o)).reverse.map V.ref)[((opens l (q :: o)).reverse.map V.ref).length - 1]? = some (.ref l) := by simp [opens]
  have hP1 : Prog K ss m H0 Hc (upd H T (.lst (ts.map V.str))) S T l rs (q :: o) ts := hP.tests fun z hz => hP.tok z (by simp [hz])
  have fin : ∀ (H1 Hc1 : Hp) (rs1 : List Row) (m1 : Nat), m1 ≤ m + 1 → Prog K ss m1 H0 Hc1 H1 S T l rs1 (q :: o) ts → Q .non (upd H1 S (.lst ((opens l (q :: o)).reverse.map V.ref).dropLast)) := fun H1 Hc1 rs1 m1 h1 h2 => by
    rw [eS]
    obtain ⟨Hc2, kd, te, h3⟩ := h2.pop (by omega)
    exact k _ Hc2 _ (h3.more (by omega))
  refine ⟨_, rfl, .inl ⟨rfl, _, SqL.of hP.te⟩, T, _, .str t, rfl, rfl, hP.te, by simp, ?_⟩
  rw [eT]
  refine ⟨_, rfl, rfl, _, rfl, ?_⟩
  refine ite2 (fun c => ?_) (fun c => ?_)
  · have ht : t ∈ ss := by
      rcases hP.tok t (by simp) with e | e
      · rw [e] at c
        simp at c
      · exact e
    obtain ⟨vs, el, _⟩ := hP1.inn
    refine ⟨_, rfl, _, rfl, S, _, _, .ref l, rfl, rfl, SqL.of hP1.st, top_at, .inl ⟨rfl, _, SqL.of el⟩, _, rfl, _, rfl, (by show 5 ≤ sizeLine; decide), fun p hp => ?_⟩
    have hP2 := hP1.alloc hp (.tup [.str "let", .str t, .str "-", .str t, .int 1])
    obtain ⟨vs2, el2, ea2⟩ := hP2.inn
    have room : vs2.length < sizeLine := by
      rw [ea2.len]
      exact small1000 (Nat.le_trans hP2.wid (by omega))
    refine ⟨l, vs2, _, rfl, rfl, el2, room, ?_⟩
    have hP3 := hP2.app (r := .lt t "-" (.nm t) (.nu 1)) (v := .ref p) el2 ⟨p, rfl, upd_same⟩ ⟨ht, by decide +kernel, ht, by decide, by decide⟩ (by show 0 + _ ≤ 3; have := hP2.dep; omega) rfl
    exact ⟨_, rfl, .inl ⟨rfl, _, SqL.of hP3.st⟩, S, _, .ref l, rfl, rfl, hP3.st, lS, fin _ _ _ _ (Nat.le_refl _) hP3⟩
  · exact ⟨_, rfl, .inl ⟨rfl, _, SqL.of hP1.st⟩, S, _, .ref l, rfl, rfl, hP1.st, lS, fin _ _ _ _ (Nat.le_succ _) hP1⟩
theorem sc_opened : FnScope ["_law_number", "_law_names_here", "_law_stack", "_law_tests", "_law_kind", "_law_test"] ["_law_number", "_law_names_here", "_law_stack", "_law_tests"] (defScope s_opened) := ⟨rfl, rfl, rfl, by decide +kernel, rfl, by decide +kernel, by decide +kernel⟩
theorem ok_opened (F : Fun K "_law_opened" "_law_opened" s_opened f fd) (ml : mg "len" = none) (mx : mg "max" = none) (mi : mg "int" = none) : FnOk P w K mg base CX0 1 f fd ["_law_number", "_law_names_here", "_law_stack", "_law_tests"] (spOpened K) := by
  refine F.ok sc_opened (fun vs H Q E h => ?_) (fun cdv A outer s H vs Q E hr h => ?_)
  · obtain ⟨n, a, S, T, l, ss, m, H0, Hc, rs, o, ts, rfl, _⟩ := h
    rfl
  obtain ⟨n, a, S, T, l, ss, m, H0, Hc, rs, o, ts, rfl, hN, hP, h3, htl, hm, k⟩ := h
  have nd := sc_opened.nd
  refine ⟨_, pss_cons (ps_set (i := 4) nd rfl (Or.inl rfl) (pe_ix ix_list (pe_lst (pa_cons pe_str (pa_cons pe_str (pa_cons pe_str (pa_cons pe_str pa_nil))))) (pe_op op_mod (pv 0) pe_int) (fun _ _ => rfl))) <|
    pss_cons (ps_set (i := 5) nd rfl (Or.inl rfl) (pe_ix ix_list (pv 1) (pe_op op_mod (pe_op op_fdiv (pv 0) pe_int) pe_int) (fun _ _ => rfl))) <|
    pss_cons (ps_expr (pe_bm PySem.F.plainAttrs_list PySem.F.slot_list_append PySem.F.type_list_append mt_append (pv 3) (pa_cons pe_str pa_nil))) <|
    pss_cons (ps_if (pt_cmpR op_gt (pe_op op_mod (pe_op op_fdiv (pv 0) pe_int) pe_int) pe_int (nomark _))
      (pss_cons (ps_set (i := 5) nd rfl (Or.inl rfl) (pe_ix ix_list (pv 1) (pe_op op_add pe_int (pe_callB call_len_seq rfl ml PySem.boot_len (pa_cons (pv 3) pa_nil))) (fun _ _ => rfl))) <|
        pss_cons (ps_asg (pv 5) (pg_sub (pv 3) (pe_un un_neg pe_int) set_list)) <|
        pss_one (ps_expr (pe_bm PySem.F.plainAttrs_list PySem.F.slot_list_append PySem.F.type_list_append mt_append (pe_ix ix_list (pv 2) (pe_un un_neg pe_int) (fun _ _ => rfl))
          (pa_cons (pe_tup (pa_cons pe_str (pa_cons (pv 5) (pa_cons pe_str (pa_cons (pe_callB (call_max2 rfl) rfl mx (by decide +kernel) (pa_cons (pe_op op_mod (pe_op op_fdiv (pv 0) pe_int) pe_int)
            (pa_cons (pe_callTy call_int1 rfl mi (by decide +kernel) (pa_cons (pe_cmpR op_eq (pv 4) pe_str (nomark _)) pa_nil)) pa_nil))) (pa_cons pe_int pa_nil)))))) pa_nil)))) pss_nil) <|
    pss_cons (ps_expr (pe_bm PySem.F.plainAttrs_list PySem.F.slot_list_append PySem.F.type_list_append mt_append (pe_ix ix_list (pv 2) (pe_un un_neg pe_int) (fun _ _ => rfl)) (pa_cons (pe_tup (pa_cons (pv 4) (pa_cons (pv 5) (pa_cons (pe_lst pa_nil) pa_nil)))) pa_nil))) <|
    pss_one (ps_expr (pe_bm PySem.F.plainAttrs_list PySem.F.slot_list_append PySem.F.type_list_append mt_append (pv 2)
      (pa_cons (pe_ix ix_tup (pe_ix ix_list (pe_ix ix_list (pv 2) (pe_un un_neg pe_int) (fun _ _ => rfl)) (pe_un un_neg pe_int) (fun _ _ => rfl)) pe_int (fun _ _ => rfl)) pa_nil))), ?_⟩
  obtain ⟨n1, n2, n3, n4⟩ := hP.nST
  obtain ⟨kd, hkd, ekd⟩ : ∃ kd, kd ∈ kinds ∧ atI ([.str "when", .str "loop", .str "again", .str "loop"] : List V) (n % 4) = some (.str kd) := by
    have h0 : 0 ≤ n % 4 := Int.emod_nonneg _ (by decide)
    have h1 : n % 4 < 4 := Int.emod_lt_of_pos _ (by decide)
    obtain ⟨j, ej⟩ : ∃ j : Nat, n % 4 = (j : Int) := ⟨(n % 4).toNat, by omega⟩
    rw [ej]
    match j, (by omega : j < 4) with
    | 0, _ => exact ⟨"when", by decide +kernel, atI_nat rfl⟩
    | 1, _ => exact ⟨"loop", by decide +kernel, atI_nat rfl⟩
    | 2, _ => exact ⟨"again", by decide +kernel, atI_nat rfl⟩
    | 3, _ => exact ⟨"loop", by decide +kernel, atI_nat rfl⟩
    | j + 4, h => exact absurd h (by omega)
  refine ⟨(by show 4 ≤ sizeLine; decide), fun p0 hp0 => ?_⟩
  have hP0 := hP.alloc hp0 (.lst [.str "when", .str "loop", .str "again", .str "loop"])
  have hN0 := hN.mono (Same.kp hP0.same)
  obtain ⟨te, hte, ete⟩ := hN0.at (z := n / 64 % 8) (Int.emod_nonneg _ (by decide)) (by have := Int.emod_lt_of_pos (n / 64) (b := 8) (by decide); omega)
  have hP1 := hP0.tests (ts' := ts ++ [("" : Str)]) fun z hz => by
    rcases List.mem_append.mp hz with e | e
    · exact hP.tok z e
    · exact .inl (List.mem_singleton.mp e)
  have hN1 := hN.mono (Same.kp hP1.same)
  have eT1 : (ts ++ [("" : Str)]).map V.str = ts.map V.str ++ [.str ""] := by simp
  refine ⟨_, rfl, _, _, rfl, rfl, (by show (0 : Int) < 4; decide), p0, _, _, _, rfl, rfl, SqL.of upd_same, ekd, _, rfl, _, rfl, _, _, rfl, rfl, ⟨by decide, by decide⟩, _, _, rfl, rfl, (by show (0 : Int) < 8; decide), a, _, _, _, rfl, rfl, hN0.1, ete, ?_⟩
  refine ⟨_, rfl, .inl ⟨rfl, _, SqL.of hP0.te⟩, T, _, _, rfl, rfl, hP0.te, ?_, ?_⟩
  · rw [List.length_map]
    exact small1000 (by omega)
  rw [← eT1]
  -- the block's own row and the stack
  have fin : ∀ (H1 Hc1 : Hp) (rs1 : List Row) (ts1 : List Str) (m1 : Nat) (te1 : Str), m1 ≤ m + 1 → te1 ∈ ss → ts1.length = o.length + 1 → Prog K ss m1 H0 Hc1 H1 S T l rs1 o ts1 →
      ∀ (xs : List V) (b q p : Addr) (vs : List V), H1 q = none → (upd H1 q (.lst [])) p = none → H1 l = some (.lst vs) →
        Q .non (upd (upd (upd (upd H1 q (.lst [])) p (.tup [.str kd, .str te1, .ref q])) l (.lst (vs ++ [.ref p]))) S (.lst ((opens l o).reverse.map V.ref ++ [.ref q]))) :=
    fun H1 Hc1 rs1 ts1 m1 te1 h1 h2 h3' h4 xs b q p vs hq hp hl => k _ _ q rs1 ts1 ((h4.push hl hq hp hkd h2 (by omega)).more (by omega)) h3'
  refine ⟨_, rfl, _, _, rfl, rfl, ⟨by decide, by decide⟩, _, _, rfl, rfl, (by show (0 : Int) < 4; decide), _, _, rfl, rfl, _, rfl, ?_⟩
  refine ite2 (fun c => ?_) (fun c => ?_)
  · -- a test of its own, counted down
    have htl1 : (ts ++ [("" : Str)]).length = o.length + 1 := by rw [List.length_append, htl]; rfl
    obtain ⟨t2, ht2, et2⟩ := hN1.at (z := 11 + (((ts ++ [("" : Str)]).map V.str).length : Int)) (by omega) (by rw [List.length_map, htl1]; omega)
    have hP2 := hP1.tests (ts' := ts ++ [t2]) fun z hz => by
      rcases List.mem_append.mp hz with e | e
      · exact hP.tok z e
      · exact .inr (by rw [List.mem_singleton.mp e]; exact ht2)
    rw [upd_upd] at hP2
    have eix : ixN ((ts ++ [("" : Str)]).map V.str).length (-1) = some ts.length := by
      unfold ixN
      rw [List.length_map, List.length_append, if_neg (by decide), if_pos (by simp; omega)]
      simp
      omega
    have eset : ((ts ++ [("" : Str)]).map V.str).set ts.length (.str t2) = (ts ++ [t2]).map V.str := by simp
    obtain ⟨vs2, el3, ea3⟩ := hP2.inn
    refine ⟨_, rfl, _, rfl, T, _, rfl, .inl (SqL.of upd_same), _, _, rfl, rfl, a, _, _, _, rfl, rfl, hN1.1, et2, ?_⟩
    refine ⟨_, rfl, _, rfl, _, rfl, T, _, _, _, rfl, rfl, upd_same, eix, ?_⟩
    rw [eset, upd_upd]
    refine ⟨_, rfl, _, rfl, S, _, _, .ref l, rfl, rfl, SqL.of hP2.st, top_at, .inl ⟨rfl, _, SqL.of el3⟩, _, rfl, _, rfl, _, _, rfl, rfl, ⟨by decide, by decide⟩, _, _, rfl, rfl, (by show (0 : Int) < 4; decide), _, rfl, rfl, .inr ⟨_, rfl, ?_⟩⟩
    have hz0 : 0 ≤ n / 4 % 4 := Int.emod_nonneg _ (by decide)
    have hz1 : n / 4 % 4 < 4 := Int.emod_lt_of_pos _ (by decide)
    have hz : ∀ k : Bool, 0 ≤ (if (if k = true then (1 : Int) else 0) > n / 4 % 4 then (if k = true then (1 : Int) else 0) else n / 4 % 4) ∧ (if (if k = true then (1 : Int) else 0) > n / 4 % 4 then (if k = true then (1 : Int) else 0) else n / 4 % 4) < 1000000 := fun k => by
      cases k
      · rw [if_neg Bool.false_ne_true]
        split <;> omega
      · rw [if_pos rfl]
        split <;> omega
    refine ⟨_, _, rfl, (by show 5 ≤ sizeLine; decide), fun p1 hp1 => ?_⟩
    have hP3 := hP2.alloc hp1 (.tup [.str "let", .str t2, .str "+", .int (if (if decide (V.str kd = V.str "again") = true then (1 : Int) else 0) > n / 4 % 4 then (if decide (V.str kd = V.str "again") = true then (1 : Int) else 0) else n / 4 % 4), .int 0])
    obtain ⟨vs4, el4, ea4⟩ := hP3.inn
    have hP4 := hP3.app (r := .lt t2 "+" (.nu _) (.nu 0)) (v := .ref p1) el4 ⟨p1, rfl, upd_same⟩ ⟨ht2, by decide +kernel, hz _, by decide, by decide⟩ (by show 0 + _ ≤ 3; have := hP3.dep; omega) rfl
    refine ⟨l, vs4, _, rfl, rfl, el4, by rw [ea4.len]; exact small1000 (Nat.le_trans hP3.wid (by omega)), ?_⟩
    have htl2 : (ts ++ [t2]).length = o.length + 1 := by rw [List.length_append, htl]; rfl
    obtain ⟨vs1, el1, ea1⟩ := hP4.inn
    refine ⟨_, rfl, _, rfl, S, _, _, .ref l, rfl, rfl, SqL.of hP4.st, top_at, .inl ⟨rfl, _, SqL.of el1⟩, _, rfl, _, rfl, (by show 0 ≤ sizeLine; decide), fun q hq => ⟨(by show 3 ≤ sizeLine; decide), fun p hp => ?_⟩⟩
    obtain ⟨el8, eS8, eP8⟩ := hP4.pushes kd t2 el1 hq hp
    refine ⟨l, vs1, _, rfl, rfl, el8, by rw [ea1.len]; exact small1000 (Nat.le_trans hP4.wid (by omega)), ?_⟩
    exact ⟨_, rfl, .inl ⟨rfl, _, SqL.of eS8⟩, _, rfl, _, rfl, S, _, _, .ref l, rfl, rfl, SqL.of eS8, top_at, _, rfl, l, _, _, .ref p, rfl, rfl, SqL.of upd_same, atI_last _ _, p, _, _, .ref q, rfl, rfl, SqT.of eP8, atI_nat rfl, S, _, _, rfl, rfl, eS8, hP4.roomS, fin _ _ _ _ (m + 1) t2 (Nat.le_refl _) ht2 htl2 hP4 [] q q p vs1 hq hp el1⟩
  · have htl1 : (ts ++ [("" : Str)]).length = o.length + 1 := by rw [List.length_append, htl]; rfl
    obtain ⟨vs1, el1, ea1⟩ := hP1.inn
    refine ⟨_, rfl, _, rfl, S, _, _, .ref l, rfl, rfl, SqL.of hP1.st, top_at, .inl ⟨rfl, _, SqL.of el1⟩, _, rfl, _, rfl, (by show 0 ≤ sizeLine; decide), fun q hq => ⟨(by show 3 ≤ sizeLine; decide), fun p hp => ?_⟩⟩
    obtain ⟨el8, eS8, eP8⟩ := hP1.pushes kd te el1 hq hp
    refine ⟨l, vs1, _, rfl, rfl, el8, by rw [ea1.len]; exact small1000 (Nat.le_trans hP1.wid (by omega)), ?_⟩
    exact ⟨_, rfl, .inl ⟨rfl, _, SqL.of eS8⟩, _, rfl, _, rfl, S, _, _, .ref l, rfl, rfl, SqL.of eS8, top_at, _, rfl, l, _, _, .ref p, rfl, rfl, SqL.of upd_same, atI_last _ _, p, _, _, .ref q, rfl, rfl, SqT.of eP8, atI_nat rfl, S, _, _, rfl, rfl, eS8, hP1.roomS, fin _ _ _ _ m te (Nat.le_succ _) hte htl1 hP1 [] q q p vs1 hq hp el1⟩
end
end Lm.S
namespace Lm.S
open PySem L2
abbrev s_program : Stmt := topS 23
def spProgram (K : PySem.W.Frag) : Sp := fun vs H Q _ => ∃ (c a : Addr) (ns : List Int) (ss : List Str), vs = [.ref c, .ref a] ∧ SqL K H c (ns.map V.int) ∧ ns.length ≤ 63 ∧ NamesAt K H a ss ∧
  ∀ (H' : Hp) (l : Addr) (rs : List Row), Same H H' → H l = none → RowsL K H' l rs → oks ss rs → deps rs ≤ 3 → tots rs ≤ 140 → Q (.ref l) H'
/-- the same, with what stands but for the list itself -/
def spProgramC (K : PySem.W.Frag) : Sp := fun vs H Q _ => ∃ (c a : Addr) (ns : List Int) (ss : List Str), vs = [.ref c, .ref a] ∧ SqL K H c (ns.map V.int) ∧ ns.length ≤ 63 ∧ NamesAt K H a ss ∧
  ∀ (H' Hc : Hp) (l : Addr) (rs : List Row) (us : List V), Same H Hc → Same Hc H' → Hc l = none → H l = none → H' l = some (.lst us) → AllAt K Hc rs us → oks ss rs → deps rs ≤ 3 → tots rs ≤ 140 → Q (.ref l) H'
section
variable {P : Program} {w : World} {K : PySem.W.Frag} {mg : Str → Option Value} {base : Heap} {f : Addr} {fd : FuncData}
theorem sc_program : FnScope ["_law_cells", "_law_names_here", "_law_stack", "_law_tests", "_law_k", "_law_number", "_law_way"] ["_law_cells", "_law_names_here"] (defScope s_program) := ⟨rfl, rfl, rfl, by decide +kernel, rfl, by decide +kernel, by decide +kernel⟩
theorem ok_programC {fm fo fc fv fl : Addr} {dm do_ dc dv dl : FuncData} (F : Fun K "_law_program" "_law_program" s_program f fd) (ml : mg "len" = none) (mr : mg "range" = none)
    (M : Df P w K mg base "_law_mixed" 1 fm dm ["_law_cell", "_law_k"] spMixed) (O : Df P w K mg base "_law_opened" 1 fo do_ ["_law_number", "_law_names_here", "_law_stack", "_law_tests"] (spOpened K))
    (C : Df P w K mg base "_law_closed" 1 fc dc ["_law_stack", "_law_tests"] (spClosed K)) (DV : Df P w K mg base "_law_value" 1 fv dv ["_law_kind", "_law_number", "_law_names_here"] (spValue K))
    (DL : Df P w K mg base "_law_let" 2 fl dl ["_law_number", "_law_names_here"] (spLet K)) : FnOk P w K mg base CX0 3 f fd ["_law_cells", "_law_names_here"] (spProgramC K) := by
  refine F.ok sc_program (fun vs H Q E h => ?_) (fun cdv A outer s H vs Q E hr h => ?_)
  · obtain ⟨c, a, ns, ss, rfl, _⟩ := h
    rfl
  obtain ⟨c, a, ns, ss, rfl, hS, h63, hN, k⟩ := h
  have nd := sc_program.nd
  have hr1 : Room 1 _ := hr.mono (by decide)
  refine ⟨_, pss_cons (ps_set (i := 2) nd rfl (Or.inl rfl) (pe_lst (pa_cons (pe_lst pa_nil) pa_nil))) <|
    pss_cons (ps_set (i := 3) nd rfl (Or.inl rfl) (pe_lst pa_nil)) <|
    pss_cons (ps_for PassesOwn.never rfl (pi_range1 rfl mr (pa_cons (pe_callB call_len_seq rfl ml PySem.boot_len (pa_cons (pv 0) pa_nil)) pa_nil)) (pg_name (i := 4) nd rfl (Or.inl rfl))
      (pss_cons (ps_set (i := 5) nd rfl (Or.inl rfl) (pe_df M hr1 (pa_cons (pe_ix ix_list (pv 0) (pv 4) (fun _ _ => rfl)) (pa_cons (pv 4) pa_nil)))) <|
      pss_cons (ps_set (i := 6) nd rfl (Or.inl rfl) (pe_op op_mod (pv 5) pe_int)) <|
      pss_cons (ps_set (i := 5) nd rfl (Or.inl rfl) (pe_op op_fdiv (pv 5) pe_int)) <|
      pss_one (ps_if (PW.pt (pw_and (pt_cmpR op_lt (pv 6) pe_int (nomark _)) (pw_and1 (pt_cmpR op_lt (pe_callB call_len_seq rfl ml PySem.boot_len (pa_cons (pv 3) pa_nil)) pe_int (nomark _)))))
        (pss_one (ps_expr (pe_df O hr1 (pa_cons (pv 5) (pa_cons (pv 1) (pa_cons (pv 2) (pa_cons (pv 3) pa_nil)))))))
        (pss_one (ps_if (PW.pt (pw_and (pt_cmpR op_eq (pv 6) pe_int (nomark _)) (pw_and1 (pt_cmpR op_gt (pe_callB call_len_seq rfl ml PySem.boot_len (pa_cons (pv 3) pa_nil)) pe_int (nomark _)))))
          (pss_one (ps_expr (pe_df C hr1 (pa_cons (pv 2) (pa_cons (pv 3) pa_nil)))))
          (pss_one (ps_if (pt_cmpR op_eq (pv 6) pe_int (nomark _))
            (pss_one (ps_expr (pe_bm PySem.F.plainAttrs_list PySem.F.slot_list_append PySem.F.type_list_append mt_append (pe_ix ix_list (pv 2) (pe_un un_neg pe_int) (fun _ _ => rfl))
              (pa_cons (pe_tup (pa_cons pe_str (pa_cons (pe_df DV hr1 (pa_cons (pe_op op_mod (pv 5) pe_int) (pa_cons (pe_op op_fdiv (pv 5) pe_int) (pa_cons (pv 1) pa_nil)))) pa_nil))) pa_nil))))
            (pss_one (ps_expr (pe_bm PySem.F.plainAttrs_list PySem.F.slot_list_append PySem.F.type_list_append mt_append (pe_ix ix_list (pv 2) (pe_un un_neg pe_int) (fun _ _ => rfl))
              (pa_cons (pe_df DL hr (pa_cons (pv 5) (pa_cons (pv 1) pa_nil))) pa_nil))))))))))) <|
    pss_cons (ps_while PassesOwn.never (pt_cmpR op_gt (pe_callB call_len_seq rfl ml PySem.boot_len (pa_cons (pv 3) pa_nil)) pe_int (nomark _))
      (pss_one (ps_expr (pe_df C hr1 (pa_cons (pv 2) (pa_cons (pv 3) pa_nil)))))) <|
    pss_one (ps_ret (pe_ix ix_list (pv 2) pe_int (fun _ _ => rfl))), ?_⟩
  refine ⟨(by show 0 ≤ sizeLine; decide), fun l hl => ⟨(by show 1 ≤ sizeLine; decide), fun S hS0 => ⟨(by show 0 ≤ sizeLine; decide), fun T hT => ?_⟩⟩⟩
  have nSl : S ≠ l := fun e => by rw [e, upd_same] at hS0; cases hS0
  have nTS : T ≠ S := fun e => by rw [e, upd_same] at hT; cases hT
  have hT1 : (upd H l (.lst [])) T = none := by rw [upd_ne nTS] at hT; exact hT
  have nTl : T ≠ l := fun e => by rw [e, upd_same] at hT1; cases hT1
  have eS : H S = none := by rw [upd_ne nSl] at hS0; exact hS0
  have eT : H T = none := by rw [upd_ne nTl] at hT1; exact hT1
  have hP : Prog K ss (2 * 0) H H (upd (upd (upd H l (.lst [])) S (.lst [.ref l])) T (.lst [])) S T l [] [] [] :=
    ⟨Same.refl _, (same_new hl _).trans ((same_new hS0 _).trans (same_new hT _)), ⟨[], by rw [upd_ne nTl.symm, upd_ne nSl.symm, upd_same], rfl⟩, True.intro,
      fun b hb => by
        simp only [opens, List.map_nil, List.mem_cons, List.not_mem_nil, or_false] at hb
        rcases hb with e | e | e <;> (rw [e]; assumption),
      by simp [opens, nSl, nTS.symm, nTl], True.intro, by decide, by decide, by decide, by rw [upd_ne nTS.symm, upd_same]; rfl, upd_same, fun t ht => by cases ht⟩
  have hN0 : ∀ {H'}, Same H H' → NamesAt K H' a ss := fun e => hN.mono (Same.kp e)
  refine ⟨_, rfl, c, _, rfl, .inl (hP.same.seq hS), _, rfl, (by rw [List.length_map]; omega), (by rw [List.length_map]; omega), for_range (lo := 0) (n := (((ns.map V.int).length : Nat) : Int).toNat) (fun i σ H' => ∃ (Hc : Hp) (l1 : Addr) (rs1 : List Row) (o1 : List (Addr × List Row)) (ts1 : List Str) (v4 v5 v6 : Option V),
    σ = [some (.ref c), some (.ref a), some (.ref S), some (.ref T), v4, v5, v6] ∧ Prog K ss (2 * i) H Hc H' S T l1 rs1 o1 ts1 ∧ ts1.length = o1.length) ⟨H, l, [], [], [], none, none, none, rfl, hP, rfl⟩ ?_ ?_⟩
  · rintro i σ H1 hi ⟨Hc, l1, rs1, o1, ts1, v4, v5, v6, rfl, hP1, htl1⟩
    rw [List.length_map] at hi
    have hi' : i < ns.length := by omega
    obtain ⟨vs1, el1, ea1⟩ := hP1.inn
    have hN1 := hN0 hP1.same
    have room1 : vs1.length < sizeLine := by
      rw [ea1.len]
      exact small1000 (Nat.le_trans hP1.wid (by omega))
    have hend : ∀ (H2 Hc2 : Hp) (l2 : Addr) (rs2 : List Row) (o2 : List (Addr × List Row)) (ts2 : List Str) (m2 : Nat), m2 ≤ 2 * (i + 1) → Prog K ss m2 H Hc2 H2 S T l2 rs2 o2 ts2 → ts2.length = o2.length → ∀ v4 v5 v6 : Option V,
        ∃ (Hc : Hp) (l1 : Addr) (rs1 : List Row) (o1 : List (Addr × List Row)) (ts1 : List Str) (w4 w5 w6 : Option V), [some (V.ref c), some (V.ref a), some (V.ref S), some (V.ref T), v4, v5, v6] = [some (V.ref c), some (V.ref a), some (V.ref S), some (V.ref T), w4, w5, w6] ∧ Prog K ss (2 * (i + 1)) H Hc H2 S T l1 rs1 o1 ts1 ∧ ts1.length = o1.length :=
      fun H2 Hc2 l2 rs2 o2 ts2 m2 hm hp ht v4 v5 v6 => ⟨Hc2, l2, rs2, o2, ts2, v4, v5, v6, rfl, hp.more hm, ht⟩
    refine ⟨_, rfl, _, rfl, c, _, _, _, rfl, rfl, hP1.same.seq hS, at_of (j := i) (v := .int ns[i]) (by omega) (by rw [List.getElem?_map, List.getElem?_eq_getElem hi']; all_goals rfl), _, rfl, _, _, rfl, fun n hn0 hn1 => ?_⟩
    refine ⟨_, rfl, _, _, rfl, rfl, (by show (0 : Int) < 9; decide), _, rfl, _, _, rfl, rfl, ⟨by decide, by decide⟩, ?_⟩
    refine ⟨_, rfl, _, _, rfl, rfl, _, rfl, ?_⟩
    refine ite2 (fun c1 => ?_) (fun c1 => ?_)
    · refine ⟨_, rfl, T, _, rfl, .inl (SqL.of hP1.te), _, _, rfl, rfl, _, rfl, ?_⟩
      refine ite2 (fun c2 => ?_) (fun c2 => ?_)
      · -- a block opens
        have c2' : (((ts1.map V.str).length : Nat) : Int) < 3 := of_decide_eq_true c2
        rw [List.length_map] at c2'
        refine ⟨_, rfl, _, rfl, _, rfl, _, rfl, _, a, S, T, l1, ss, 2 * i, H, Hc, rs1, o1, ts1, rfl, hN, hP1, by omega, htl1, by omega, fun H2 Hc2 q rs2 ts2 hP2 ht2 => ?_⟩
        exact hend _ _ _ _ _ _ _ (by omega) hP2 ht2 _ _ _
      ·
        refine ⟨_, rfl, rfl, _, rfl, ?_⟩
        refine ite2 (fun c2 => ?_) (fun c2 => ?_)
        · refine ⟨_, rfl, T, _, rfl, .inl (SqL.of hP1.te), _, _, rfl, rfl, _, rfl, ?_⟩
          refine ite2 (fun c3 => ?_) (fun c3 => ?_)
          · -- a block closes
            have c3' : (((ts1.map V.str).length : Nat) : Int) > 0 := of_decide_eq_true c3
            rw [List.length_map] at c3'
            obtain ⟨q1, o1', rfl⟩ : ∃ q o', o1 = q :: o' := by
              cases o1 with
              | nil => rw [htl1] at c3'; simp at c3'
              | cons q o' => exact ⟨q, o', rfl⟩
            obtain ⟨ts2, t2, rfl⟩ : ∃ ts2 t2, ts1 = ts2 ++ [t2] := by
              rcases List.eq_nil_or_concat ts1 with e | ⟨u, v, e⟩
              · rw [e] at htl1; cases htl1
              · exact ⟨u, v, by rw [e, List.concat_eq_append]⟩
            refine ⟨_, rfl, _, rfl, S, T, l1, ss, 2 * i, H, Hc, rs1, q1, o1', ts2, t2, rfl, hP1, by omega, fun H2 Hc2 rs2 hP2 => ?_⟩
            exact hend _ _ _ _ _ _ _ (by omega) hP2 (by rw [List.length_append] at htl1; exact Nat.succ.inj htl1) _ _ _
          ·
            refine ⟨_, rfl, rfl, _, rfl, ?_⟩
            refine ite2 (fun c3 => ?_) (fun c3 => ?_)
            · -- say
              refine ⟨_, rfl, _, rfl, S, _, _, .ref l1, rfl, rfl, SqL.of hP1.st, top_at, .inl ⟨rfl, _, SqL.of el1⟩, _, rfl, _, _, rfl, rfl, (by show (0 : Int) < 16; decide), _, rfl, _, _, rfl, rfl, ⟨by decide, by decide⟩, _, rfl, _, _, a, ss, rfl, Int.emod_nonneg _ (by decide), Int.emod_lt_of_pos _ (by decide), hN1, fun x hx => ⟨(by show 2 ≤ sizeLine; decide), fun p hp => ?_⟩⟩
              have hP2 := hP1.alloc hp (.tup [.str "say", x.v])
              have el2 : (upd H1 p (.tup [.str "say", x.v])) l1 = some (.lst vs1) := by
                rw [upd_ne (hP1.apart hp l1 (by simp))]
                exact el1
              have hP3 := hP2.app (r := .sy x) (v := .ref p) el2 ⟨p, rfl, upd_same⟩ hx (by show 0 + _ ≤ 3; have := hP2.dep; omega) rfl
              exact ⟨l1, vs1, _, rfl, rfl, el2, room1, hend _ _ _ _ _ _ _ (by omega) hP3 htl1 _ _ _⟩
            · -- let
              refine ⟨_, rfl, _, rfl, S, _, _, .ref l1, rfl, rfl, SqL.of hP1.st, top_at, .inl ⟨rfl, _, SqL.of el1⟩, _, rfl, _, rfl, _, a, ss, rfl, hN1, fun p to sg x y H2 hp hok eH => ?_⟩
              subst eH
              have hP2 := hP1.alloc hp (.tup [.str "let", .str to, .str sg, x.v, y.v])
              have el2 : (upd H1 p (.tup [.str "let", .str to, .str sg, x.v, y.v])) l1 = some (.lst vs1) := by
                rw [upd_ne (hP1.apart hp l1 (by simp))]
                exact el1
              have hP3 := hP2.app (r := .lt to sg x y) (v := .ref p) el2 ⟨p, rfl, upd_same⟩ hok (by show 0 + _ ≤ 3; have := hP2.dep; omega) rfl
              exact ⟨l1, vs1, _, rfl, rfl, el2, room1, hend _ _ _ _ _ _ _ (by omega) hP3 htl1 _ _ _⟩
        · refine iteF ?_
          refine ⟨_, rfl, rfl, _, rfl, ?_⟩
          refine ite2 (fun c3 => ?_) (fun c3 => ?_)
          · -- say
            refine ⟨_, rfl, _, rfl, S, _, _, .ref l1, rfl, rfl, SqL.of hP1.st, top_at, .inl ⟨rfl, _, SqL.of el1⟩, _, rfl, _, _, rfl, rfl, (by show (0 : Int) < 16; decide), _, rfl, _, _, rfl, rfl, ⟨by decide, by decide⟩, _, rfl, _, _, a, ss, rfl, Int.emod_nonneg _ (by decide), Int.emod_lt_of_pos _ (by decide), hN1, fun x hx => ⟨(by show 2 ≤ sizeLine; decide), fun p hp => ?_⟩⟩
            have hP2 := hP1.alloc hp (.tup [.str "say", x.v])
            have el2 : (upd H1 p (.tup [.str "say", x.v])) l1 = some (.lst vs1) := by
              rw [upd_ne (hP1.apart hp l1 (by simp))]
              exact el1
            have hP3 := hP2.app (r := .sy x) (v := .ref p) el2 ⟨p, rfl, upd_same⟩ hx (by show 0 + _ ≤ 3; have := hP2.dep; omega) rfl
            exact ⟨l1, vs1, _, rfl, rfl, el2, room1, hend _ _ _ _ _ _ _ (by omega) hP3 htl1 _ _ _⟩
          · -- let
            refine ⟨_, rfl, _, rfl, S, _, _, .ref l1, rfl, rfl, SqL.of hP1.st, top_at, .inl ⟨rfl, _, SqL.of el1⟩, _, rfl, _, rfl, _, a, ss, rfl, hN1, fun p to sg x y H2 hp hok eH => ?_⟩
            subst eH
            have hP2 := hP1.alloc hp (.tup [.str "let", .str to, .str sg, x.v, y.v])
            have el2 : (upd H1 p (.tup [.str "let", .str to, .str sg, x.v, y.v])) l1 = some (.lst vs1) := by
              rw [upd_ne (hP1.apart hp l1 (by simp))]
              exact el1
            have hP3 := hP2.app (r := .lt to sg x y) (v := .ref p) el2 ⟨p, rfl, upd_same⟩ hok (by show 0 + _ ≤ 3; have := hP2.dep; omega) rfl
            exact ⟨l1, vs1, _, rfl, rfl, el2, room1, hend _ _ _ _ _ _ _ (by omega) hP3 htl1 _ _ _⟩
    · refine iteF ?_
      refine ⟨_, rfl, rfl, _, rfl, ?_⟩
      refine ite2 (fun c2 => ?_) (fun c2 => ?_)
      · refine ⟨_, rfl, T, _, rfl, .inl (SqL.of hP1.te), _, _, rfl, rfl, _, rfl, ?_⟩
        refine ite2 (fun c3 => ?_) (fun c3 => ?_)
        · -- a block closes
          have c3' : (((ts1.map V.str).length : Nat) : Int) > 0 := of_decide_eq_true c3
          rw [List.length_map] at c3'
          obtain ⟨q1, o1', rfl⟩ : ∃ q o', o1 = q :: o' := by
            cases o1 with
            | nil => rw [htl1] at c3'; simp at c3'
            | cons q o' => exact ⟨q, o', rfl⟩
          obtain ⟨ts2, t2, rfl⟩ : ∃ ts2 t2, ts1 = ts2 ++ [t2] := by
            rcases List.eq_nil_or_concat ts1 with e | ⟨u, v, e⟩
            · rw [e] at htl1; cases htl1
            · exact ⟨u, v, by rw [e, List.concat_eq_append]⟩
          refine ⟨_, rfl, _, rfl, S, T, l1, ss, 2 * i, H, Hc, rs1, q1, o1', ts2, t2, rfl, hP1, by omega, fun H2 Hc2 rs2 hP2 => ?_⟩
          exact hend _ _ _ _ _ _ _ (by omega) hP2 (by rw [List.length_append] at htl1; exact Nat.succ.inj htl1) _ _ _
        ·
          refine ⟨_, rfl, rfl, _, rfl, ?_⟩
          refine ite2 (fun c3 => ?_) (fun c3 => ?_)
          · -- say
            refine ⟨_, rfl, _, rfl, S, _, _, .ref l1, rfl, rfl, SqL.of hP1.st, top_at, .inl ⟨rfl, _, SqL.of el1⟩, _, rfl, _, _, rfl, rfl, (by show (0 : Int) < 16; decide), _, rfl, _, _, rfl, rfl, ⟨by decide, by decide⟩, _, rfl, _, _, a, ss, rfl, Int.emod_nonneg _ (by decide), Int.emod_lt_of_pos _ (by decide), hN1, fun x hx => ⟨(by show 2 ≤ sizeLine; decide), fun p hp => ?_⟩⟩
            have hP2 := hP1.alloc hp (.tup [.str "say", x.v])
            have el2 : (upd H1 p (.tup [.str "say", x.v])) l1 = some (.lst vs1) := by
              rw [upd_ne (hP1.apart hp l1 (by simp))]
              exact el1
            have hP3 := hP2.app (r := .sy x) (v := .ref p) el2 ⟨p, rfl, upd_same⟩ hx (by show 0 + _ ≤ 3; have := hP2.dep; omega) rfl
            exact ⟨l1, vs1, _, rfl, rfl, el2, room1, hend _ _ _ _ _ _ _ (by omega) hP3 htl1 _ _ _⟩
          · -- let
            refine ⟨_, rfl, _, rfl, S, _, _, .ref l1, rfl, rfl, SqL.of hP1.st, top_at, .inl ⟨rfl, _, SqL.of el1⟩, _, rfl, _, rfl, _, a, ss, rfl, hN1, fun p to sg x y H2 hp hok eH => ?_⟩
            subst eH
            have hP2 := hP1.alloc hp (.tup [.str "let", .str to, .str sg, x.v, y.v])
            have el2 : (upd H1 p (.tup [.str "let", .str to, .str sg, x.v, y.v])) l1 = some (.lst vs1) := by
              rw [upd_ne (hP1.apart hp l1 (by simp))]
              exact el1
            have hP3 := hP2.app (r := .lt to sg x y) (v := .ref p) el2 ⟨p, rfl, upd_same⟩ hok (by show 0 + _ ≤ 3; have := hP2.dep; omega) rfl
            exact ⟨l1, vs1, _, rfl, rfl, el2, room1, hend _ _ _ _ _ _ _ (by omega) hP3 htl1 _ _ _⟩
      · refine iteF ?_
        refine ⟨_, rfl, rfl, _, rfl, ?_⟩
        refine ite2 (fun c3 => ?_) (fun c3 => ?_)
        · -- say
          refine ⟨_, rfl, _, rfl, S, _, _, .ref l1, rfl, rfl, SqL.of hP1.st, top_at, .inl ⟨rfl, _, SqL.of el1⟩, _, rfl, _, _, rfl, rfl, (by show (0 : Int) < 16; decide), _, rfl, _, _, rfl, rfl, ⟨by decide, by decide⟩, _, rfl, _, _, a, ss, rfl, Int.emod_nonneg _ (by decide), Int.emod_lt_of_pos _ (by decide), hN1, fun x hx => ⟨(by show 2 ≤ sizeLine; decide), fun p hp => ?_⟩⟩
          have hP2 := hP1.alloc hp (.tup [.str "say", x.v])
          have el2 : (upd H1 p (.tup [.str "say", x.v])) l1 = some (.lst vs1) := by
            rw [upd_ne (hP1.apart hp l1 (by simp))]
            exact el1
          have hP3 := hP2.app (r := .sy x) (v := .ref p) el2 ⟨p, rfl, upd_same⟩ hx (by show 0 + _ ≤ 3; have := hP2.dep; omega) rfl
          exact ⟨l1, vs1, _, rfl, rfl, el2, room1, hend _ _ _ _ _ _ _ (by omega) hP3 htl1 _ _ _⟩
        · -- let
          refine ⟨_, rfl, _, rfl, S, _, _, .ref l1, rfl, rfl, SqL.of hP1.st, top_at, .inl ⟨rfl, _, SqL.of el1⟩, _, rfl, _, rfl, _, a, ss, rfl, hN1, fun p to sg x y H2 hp hok eH => ?_⟩
          subst eH
          have hP2 := hP1.alloc hp (.tup [.str "let", .str to, .str sg, x.v, y.v])
          have el2 : (upd H1 p (.tup [.str "let", .str to, .str sg, x.v, y.v])) l1 = some (.lst vs1) := by
            rw [upd_ne (hP1.apart hp l1 (by simp))]
            exact el1
          have hP3 := hP2.app (r := .lt to sg x y) (v := .ref p) el2 ⟨p, rfl, upd_same⟩ hok (by show 0 + _ ≤ 3; have := hP2.dep; omega) rfl
          exact ⟨l1, vs1, _, rfl, rfl, el2, room1, hend _ _ _ _ _ _ _ (by omega) hP3 htl1 _ _ _⟩
  · rintro σ H1 ⟨Hc, l1, rs1, o1, ts1, v4, v5, v6, rfl, hP1, htl1⟩
    rw [List.length_map] at hP1
    refine ⟨fun m σ H' => ∃ (Hc : Hp) (l1 : Addr) (rs1 : List Row) (o1 : List (Addr × List Row)) (ts1 : List Str) (n : Nat), m = o1.length ∧ σ = [some (.ref c), some (.ref a), some (.ref S), some (.ref T), v4, v5, v6] ∧ Prog K ss n H Hc H' S T l1 rs1 o1 ts1 ∧ ts1.length = o1.length ∧ n + 2 * o1.length ≤ 140, ⟨_, Hc, l1, rs1, o1, ts1, _, rfl, rfl, hP1, htl1, by have := hP1.dep; omega⟩, ?_⟩
    rintro m σ H2 ⟨Hc2, l2, rs2, o2, ts2, n2, rfl, rfl, hP2, htl2, hn2⟩
    refine ⟨_, rfl, T, _, rfl, .inl (SqL.of hP2.te), _, _, rfl, rfl, _, rfl, ?_⟩
    refine ite2 (fun c3 => ?_) (fun c3 => ?_)
    · have c3' : (((ts2.map V.str).length : Nat) : Int) > 0 := of_decide_eq_true c3
      rw [List.length_map] at c3'
      obtain ⟨q2, o2', rfl⟩ : ∃ q o', o2 = q :: o' := by
        cases o2 with
        | nil => rw [htl2] at c3'; simp at c3'
        | cons q o' => exact ⟨q, o', rfl⟩
      obtain ⟨ts3, t3, rfl⟩ : ∃ ts3 t3, ts2 = ts3 ++ [t3] := by
        rcases List.eq_nil_or_concat ts2 with e | ⟨u, v, e⟩
        · rw [e] at htl2; cases htl2
        · exact ⟨u, v, by rw [e, List.concat_eq_append]⟩
      have hn3 : n2 + 2 * (o2'.length + 1) ≤ 140 := hn2
      refine ⟨_, fun _ _ z => ⟨o2'.length, Nat.lt_succ_self _, z⟩, ?_⟩
      refine ⟨_, rfl, _, rfl, S, T, l2, ss, n2, H, Hc2, rs2, q2, o2', ts3, t3, rfl, hP2, by omega, fun H3 Hc3 rs3 hP3 => ?_⟩
      exact ⟨Hc3, q2.1, rs3, o2', ts3, n2 + 2, rfl, rfl, hP3, by rw [List.length_append] at htl2; exact Nat.succ.inj htl2, by omega⟩
    · have c3' : ¬ (((ts2.map V.str).length : Nat) : Int) > 0 := of_decide_eq_false (Bool.eq_false_iff.mpr c3)
      rw [List.length_map] at c3'
      obtain rfl : o2 = [] := List.length_eq_zero_iff.mp (by omega)
      obtain ⟨vs2, el2, ea2⟩ := hP2.inn
      have hl2 : H l2 = none := hP2.old.free (hP2.no l2 (by simp))
      refine ⟨_, rfl, S, _, _, .ref l2, rfl, rfl, SqL.of hP2.st, atI_nat (j := 0) rfl, k H2 Hc2 l2 rs2 vs2 hP2.old hP2.cl (hP2.no l2 (by simp)) hl2 el2 ea2 hP2.ok (by have := hP2.dep; simpa using this) (by have h9 : tots rs2 + 0 ≤ n2 := hP2.num; omega)⟩
theorem ok_program {fm fo fc fv fl : Addr} {dm do_ dc dv dl : FuncData} (F : Fun K "_law_program" "_law_program" s_program f fd) (ml : mg "len" = none) (mr : mg "range" = none)
    (M : Df P w K mg base "_law_mixed" 1 fm dm ["_law_cell", "_law_k"] spMixed) (O : Df P w K mg base "_law_opened" 1 fo do_ ["_law_number", "_law_names_here", "_law_stack", "_law_tests"] (spOpened K))
    (C : Df P w K mg base "_law_closed" 1 fc dc ["_law_stack", "_law_tests"] (spClosed K)) (DV : Df P w K mg base "_law_value" 1 fv dv ["_law_kind", "_law_number", "_law_names_here"] (spValue K))
    (DL : Df P w K mg base "_law_let" 2 fl dl ["_law_number", "_law_names_here"] (spLet K)) : FnOk P w K mg base CX0 3 f fd ["_law_cells", "_law_names_here"] (spProgram K) :=
  (ok_programC F ml mr M O C DV DL).imp fun _ _ _ _ ⟨c, a, ns, ss, e, h1, h2, h3, k⟩ => ⟨c, a, ns, ss, e, h1, h2, h3, fun H' Hc l rs us s1 s2 _ hl el ea => k H' l rs (s1.trans s2) hl ⟨us, el, AllAt.mono (Same.kp s2) _ _ ea⟩⟩
end
end Lm.S
namespace Lm.S
open PySem L2
abbrev s_nested : Stmt := topS 34
def spNested (K : PySem.W.Frag) : Sp := fun vs H Q _ => ∃ (l a : Addr) (n c : Int) (ss : List Str) (rs : List Row), vs = [.ref l, .int n, .ref a, .int c] ∧ RowsL K H l rs ∧ NamesAt K H a ss ∧ 0 ≤ n ∧ n ≤ 40 ∧
  ∀ (H' : Hp) (l' : Addr) (rs' : List Row), Same H H' → RowsL K H' l' rs' → Wrap ss rs n.toNat rs' → Q (.ref l') H'
section
variable {P : Program} {w : World} {K : PySem.W.Frag} {mg : Str → Option Value} {base : Heap} {f : Addr} {fd : FuncData}
theorem sc_nested : FnScope ["_law_rows", "_law_count", "_law_names_here", "_law_cell", "_law_k"] ["_law_rows", "_law_count", "_law_names_here", "_law_cell"] (defScope s_nested) := ⟨rfl, rfl, rfl, by decide +kernel, rfl, by decide +kernel, by decide +kernel⟩
theorem kind3_at (z : Int) : ∃ kd, kd ∈ kinds ∧ atI ([.str "when", .str "loop", .str "again"] : List V) (z % 3) = some (.str kd) := by
  have h0 : 0 ≤ z % 3 := Int.emod_nonneg _ (by decide)
  have h1 : z % 3 < 3 := Int.emod_lt_of_pos _ (by decide)
  obtain ⟨j, ej⟩ : ∃ j : Nat, z % 3 = (j : Int) := ⟨(z % 3).toNat, by omega⟩
  rw [ej]
  match j, (by omega : j < 3) with
  | 0, _ => exact ⟨"when", by decide +kernel, atI_nat rfl⟩
  | 1, _ => exact ⟨"loop", by decide +kernel, atI_nat rfl⟩
  | 2, _ => exact ⟨"again", by decide +kernel, atI_nat rfl⟩
  | j + 3, h => exact absurd h (by omega)
theorem ok_nested {fm : Addr} {dm : FuncData} (F : Fun K "_law_nested" "_law_nested" s_nested f fd) (mr : mg "range" = none) (M : Df P w K mg base "_law_mixed" 1 fm dm ["_law_cell", "_law_k"] spMixed) :
    FnOk P w K mg base CX0 2 f fd ["_law_rows", "_law_count", "_law_names_here", "_law_cell"] (spNested K) := by
  refine F.ok sc_nested (fun vs H Q E h => ?_) (fun cdv A outer s H vs Q E hr h => ?_)
  · obtain ⟨l, a, n, c, ss, rs, rfl, _⟩ := h
    rfl
  obtain ⟨l, a, n, c, ss, rs, rfl, hR, hN, h0, h40, k⟩ := h
  have nd := sc_nested.nd
  refine ⟨_, pss_cons (ps_for PassesOwn.never rfl (pi_range1 rfl mr (pa_cons (pv 1) pa_nil)) (pg_name (i := 4) nd rfl (Or.inl rfl))
      (pss_one (ps_set (i := 0) nd rfl (Or.inl rfl) (pe_lst (pa_cons (pe_tup (pa_cons (pe_ix ix_list (pe_lst (pa_cons pe_str (pa_cons pe_str (pa_cons pe_str pa_nil)))) (pe_op op_mod (pe_df M hr (pa_cons (pv 3) (pa_cons (pv 4) pa_nil))) pe_int) (fun _ _ => rfl))
        (pa_cons (pe_ix ix_list (pv 2) (pe_op op_mod (pe_op op_fdiv (pe_df M hr (pa_cons (pv 3) (pa_cons (pv 4) pa_nil))) pe_int) pe_int) (fun _ _ => rfl)) (pa_cons (pv 0) pa_nil)))) pa_nil))))) <|
    pss_one (ps_ret (pv 0)), ?_⟩
  refine ⟨_, rfl, _, rfl, by omega, by omega, for_range (lo := 0) (n := n.toNat) (fun i σ H' => ∃ (l1 : Addr) (rs1 : List Row) (v4 : Option V), σ = [some (.ref l1), some (.int n), some (.ref a), some (.int c), v4] ∧ Same H H' ∧ RowsL K H' l1 rs1 ∧ Wrap ss rs i rs1)
    ⟨l, rs, none, rfl, Same.refl _, hR, .base⟩ ?_ ?_⟩
  · rintro i σ H1 hi ⟨l1, rs1, v4, rfl, s1, hR1, hW⟩
    refine ⟨(by show 3 ≤ sizeLine; decide), fun p0 hp0 => ?_⟩
    have s2 := s1.trans (same_new hp0 (.lst [.str "when", .str "loop", .str "again"]))
    refine ⟨_, rfl, _, rfl, _, _, rfl, fun z1 _ _ => ?_⟩
    obtain ⟨kd, hkd, ekd⟩ := kind3_at z1
    have hN2 := hN.mono (Same.kp s2)
    refine ⟨_, _, rfl, rfl, (by show (0 : Int) < 3; decide), p0, _, _, _, rfl, rfl, SqL.of upd_same, ekd, _, rfl, _, rfl, _, rfl, _, _, rfl, fun z2 _ _ => ?_⟩
    obtain ⟨te, hte, ete⟩ := hN2.at (z := z2 / 3 % 8) (Int.emod_nonneg _ (by decide)) (by have := Int.emod_lt_of_pos (z2 / 3) (b := 8) (by decide); omega)
    refine ⟨_, _, rfl, rfl, ⟨by decide, by decide⟩, _, _, rfl, rfl, (by show (0 : Int) < 8; decide), a, _, _, _, rfl, rfl, hN2.1, ete, _, rfl, (by show 3 ≤ sizeLine; decide), fun p hp => ⟨(by show 1 ≤ sizeLine; decide), fun q hq => ?_⟩⟩
    have s3 := same_new hp (.tup [.str kd, .str te, .ref l1])
    have s4 := same_new hq (.lst [.ref p])
    obtain ⟨vs1, e1, e2⟩ := hR1.mono (Same.kp (((same_new hp0 _).trans s3).trans s4))
    exact ⟨q, [.bk kd (.str te) rs1], _, rfl, (s2.trans s3).trans s4, ⟨[.ref p], upd_same, AllAt.one ⟨p, l1, vs1, rfl, s4 _ _ upd_same, e1, e2⟩⟩, .next hW hkd hte⟩
  · rintro σ H1 ⟨l1, rs1, v4, rfl, s1, hR1, hW⟩
    exact ⟨_, rfl, k H1 l1 rs1 s1 hR1 hW⟩
end
end Lm.S
namespace Lm.S
open PySem L2
abbrev s_copied : Stmt := topS 25
def spCopied (K : PySem.W.Frag) (n : Nat) : Sp := fun vs H Q _ => ∃ (l : Addr) (rs : List Row) (Hc : Hp), vs = [.ref l] ∧ Same Hc H ∧ RowsAt K Hc l rs ∧ deps rs < n ∧ rs.length ≤ 2000 ∧ thins rs ∧
  ∀ (Hc' H' : Hp) (l' : Addr), Part Hc H Hc' H' → RowsAt K Hc' l' rs → Q (.ref l') H'
section
variable {P : Program} {w : World} {K : PySem.W.Frag} {mg : Str → Option Value} {base : Heap} {f : Addr} {fd : FuncData}
theorem sc_copied : FnScope ["_law_rows", "_law_made", "_law_row"] ["_law_rows"] (defScope s_copied) := ⟨rfl, rfl, rfl, by decide +kernel, rfl, by decide +kernel, by decide +kernel⟩
theorem ok_copied {n : Nat} (F : Fun K "_law_copied" "_law_copied" s_copied f fd) (ml : mg "len" = none) (G : Df P w K mg base "_law_copied" n f fd ["_law_rows"] (spCopied K n)) : FnOk P w K mg base CX0 (n + 1) f fd ["_law_rows"] (spCopied K (n + 1)) := by
  refine F.ok sc_copied (fun vs H Q E h => ?_) (fun cdv A outer s H vs Q E hr h => ?_)
  · obtain ⟨l, rs, Hc, rfl, _⟩ := h
    rfl
  obtain ⟨l, rs, Hc, rfl, hc, hR, hd, hlen, hth, k⟩ := h
  have nd := sc_copied.nd
  refine ⟨_, pss_cons (ps_set (i := 1) nd rfl (Or.inl rfl) (pe_lst pa_nil)) <|
    pss_cons (ps_for PassesOwn.never rfl (pi_list (pv 0)) (pg_name (i := 2) nd rfl (Or.inl rfl))
      (pss_one (ps_if (pt_cmpR op_eq (pe_callB call_len_seq rfl ml PySem.boot_len (pa_cons (pv 2) pa_nil)) pe_int (nomark _))
        (pss_one (ps_expr (pe_bm PySem.F.plainAttrs_list PySem.F.slot_list_append PySem.F.type_list_append mt_append (pv 1)
          (pa_cons (pe_tup (pa_cons (pe_ix ix_tup (pv 2) pe_int (fun _ _ => rfl)) (pa_cons (pe_ix ix_tup (pv 2) pe_int (fun _ _ => rfl)) (pa_cons (pe_df G hr (pa_cons (pe_ix ix_tup (pv 2) pe_int (fun _ _ => rfl)) pa_nil)) pa_nil)))) pa_nil))))
        (pss_one (ps_expr (pe_bm PySem.F.plainAttrs_list PySem.F.slot_list_append PySem.F.type_list_append mt_append (pv 1) (pa_cons (pv 2) pa_nil))))))) <|
    pss_one (ps_ret (pv 1)), ?_⟩
  obtain ⟨vs, eS, eA⟩ := hR
  refine ⟨(by show 0 ≤ sizeLine; decide), fun D hD => ?_⟩
  have p0 : Part Hc H Hc (upd H D (.lst [])) := Part.open hc hD _
  have eS0 := hc.seq (SqL.of (K := K) eS)
  refine ⟨_, rfl, l, rfl, ⟨_, p0.all.seq eS0⟩, for_list (K := K) (a := l) (xs := vs) (fun i σ H' => ∃ (v2 : Option V) (us : List V) (Hd : Hp), σ = [some (.ref l), some (.ref D), v2] ∧ Same H H' ∧ Same Hc Hd ∧ Same Hd H' ∧ (∀ b o, H b = some o → Hc b = none → Hd b = none) ∧ Hd D = none ∧ H' D = some (.lst us) ∧ AllAt K Hd (rs.take i) us)
    ⟨none, [], Hc, rfl, p0.all, Same.refl _, p0.sub, fun _ _ _ h => h, hc.free hD, upd_same, rfl⟩ (fun i σ H' _ ⟨_, _, _, _, s1, _⟩ => s1.seq eS0) ?_ ?_⟩
  · rintro i v σ H1 hi ⟨v2, us, Hd, rfl, s1, s2, s3, s4, s5, eD, eU⟩
    obtain ⟨r, hri, hRow⟩ := eA.at hi
    have hRow1 := RowAt.mono (Same.kp s2) r v hRow
    have room : us.length < sizeLine := by
      rw [eU.len, List.length_take]
      exact Nat.lt_of_le_of_lt (Nat.le_trans (Nat.min_le_right _ _) hlen) (by decide)
    have fin : ∀ (Hd' H2 : Hp) (v' : V) (w2 : Option V), Part Hd H1 Hd' H2 → RowAt K Hd' r v' → H2 D = some (.lst us) ∧ ∃ (v2 : Option V) (us' : List V) (He : Hp), [some (V.ref l), some (V.ref D), w2] = [some (V.ref l), some (V.ref D), v2] ∧ Same H (upd H2 D (.lst (us ++ [v']))) ∧ Same Hc He ∧ Same He (upd H2 D (.lst (us ++ [v']))) ∧
        (∀ b o, H b = some o → Hc b = none → He b = none) ∧ He D = none ∧ (upd H2 D (.lst (us ++ [v']))) D = some (.lst us') ∧ AllAt K He (rs.take (i + 1)) us' := fun Hd' H2 v' w2 pt hrow => by
      have hD2 : Hd' D = none := pt.no D _ eD s5
      refine ⟨pt.all _ _ eD, w2, us ++ [v'], Hd', rfl, fun b o hb => ?_, s2.trans pt.cl, fun b o hb => ?_, fun b o h1 h2 => pt.no b o (s1 b o h1) (s4 b o h1 h2), hD2, upd_same, ?_⟩
      · rw [upd_ne (ne_of_none hb hD)]
        exact pt.all _ _ (s1 b o hb)
      · rw [upd_ne (ne_of_none hb hD2)]
        exact pt.sub b o hb
      · rw [take_one hri]
        exact (AllAt.mono (Same.kp pt.cl) _ _ eU).app (AllAt.one hrow)
    match r, hri, hRow, hRow1, fin with
    | .lt to sg x y, hri, ⟨p, h1, h2⟩, hRow1, fin =>
      subst h1
      refine ⟨_, rfl, p, _, rfl, .inr (SqT.of ((hc.trans s1) _ _ h2)), rfl, _, rfl, ?_⟩
      refine ite2 (fun c => absurd (V.int.inj (of_decide_eq_true c)) (by show ¬ ((5 : Nat) : Int) = 3; decide)) (fun c => ?_)
      exact ⟨_, rfl, .inl ⟨rfl, _, SqL.of eD⟩, _, rfl, D, us, _, rfl, rfl, eD, room, (fin Hd H1 _ _ (Part.refl s3) hRow1).2⟩
    | .sy x, hri, ⟨p, h1, h2⟩, hRow1, fin =>
      subst h1
      refine ⟨_, rfl, p, _, rfl, .inr (SqT.of ((hc.trans s1) _ _ h2)), rfl, _, rfl, ?_⟩
      refine ite2 (fun c => absurd (V.int.inj (of_decide_eq_true c)) (by show ¬ ((2 : Nat) : Int) = 3; decide)) (fun c => ?_)
      exact ⟨_, rfl, .inl ⟨rfl, _, SqL.of eD⟩, _, rfl, D, us, _, rfl, rfl, eD, room, (fin Hd H1 _ _ (Part.refl s3) hRow1).2⟩
    | .bk kd ts qs, hri, ⟨p, l2, ws, h1, h2, h3, h4⟩, hRow1, fin =>
      subst h1
      have hT := SqT.of (K := K) ((hc.trans s1) _ _ h2)
      have hdep : deps qs + 1 ≤ deps rs := dep_at hri
      obtain ⟨hq1, hq2⟩ : qs.length ≤ 2000 ∧ thins qs := thins_at hth hri
      refine ⟨_, rfl, p, _, rfl, .inr hT, rfl, _, rfl, ?_⟩
      refine ite2 (fun c => ?_) (fun c => absurd (decide_eq_true (rfl : V.int 3 = V.int 3)) c)
      refine ⟨_, rfl, .inl ⟨rfl, _, SqL.of eD⟩, _, rfl, p, _, _, _, rfl, rfl, hT, atI_nat (j := 0) rfl, _, rfl, p, _, _, _, rfl, rfl, hT, atI_nat (j := 1) rfl, _, rfl, p, _, _, _, rfl, rfl, hT, atI_nat (j := 2) rfl, l2, qs, Hd, rfl, s3, RowsAt.mono (Same.kp s2) ⟨ws, h3, h4⟩, by omega, hq1, hq2, fun He H2 l3 pt hR3 => ?_⟩
      refine ⟨(by show 3 ≤ sizeLine; decide), fun q hq => ?_⟩
      have pn := Part.new pt.sub hq (.tup [.str kd, ts, .ref l3])
      obtain ⟨zs, g1, g2⟩ := hR3.mono (Same.kp pn.cl)
      obtain ⟨f1, f2⟩ := fin _ _ (.ref q) (some (.ref p)) (pt.trans pn) ⟨q, l3, zs, rfl, upd_same, g1, g2⟩
      exact ⟨D, us, _, rfl, rfl, f1, room, f2⟩
  · rintro σ H1 ⟨v2, us, Hd, rfl, s1, s2, s3, s4, s5, eD, eU⟩
    rw [eA.len, List.take_length] at eU
    have sD : Same Hd (upd Hd D (.lst us)) := same_new s5 _
    refine ⟨_, rfl, k (upd Hd D (.lst us)) H1 D ⟨s1, s2.trans sD, fun b o hb => ?_, fun b o h1 h2 => ?_⟩ ⟨us, upd_same, AllAt.mono (Same.kp sD) _ _ eU⟩⟩
    · by_cases e : b = D
      · rw [e, upd_same] at hb
        rw [e, ← hb]
        exact eD
      · rw [upd_ne e] at hb
        exact s3 b o hb
    · rw [upd_ne (ne_of_none h1 hD)]
      exact s4 b o h1 h2
theorem all_copied (F : Fun K "_law_copied" "_law_copied" s_copied f fd) (m : mg "_law_copied" = some (.ref f)) (b : Binds K fd ["_law_rows"] []) (ml : mg "len" = none) : ∀ n, FnOk P w K mg base CX0 n f fd ["_law_rows"] (spCopied K n)
  | 0 => none_left fun vs H Q E ⟨l, rs, Hc, _, _, _, h, _⟩ => absurd h (Nat.not_lt_zero _)
  | n + 1 => ok_copied F ml ⟨all_copied F m b ml n, m, F.kp, b⟩
end
end Lm.S
namespace Lm
open PySem L2
abbrev s_whole : Stmt := topS 24
def spWhole : Sp := fun vs H Q _ => ∃ i : Int, vs = [.int i] ∧ Q (.bl true) H
section
variable {P : Program} {w : World} {K : PySem.W.Frag} {mg : Str → Option Value} {base : Heap} {f : Addr} {fd : FuncData}
theorem sc_whole : FnScope ["_law_found"] ["_law_found"] (defScope s_whole) := ⟨rfl, rfl, rfl, by decide +kernel, rfl, by decide +kernel, by decide +kernel⟩
theorem ok_whole (F : Fun K "_law_whole" "_law_whole" s_whole f fd) (B : Bn mg) : FnOk P w K mg base CX0 1 f fd ["_law_found"] spWhole := by
  refine F.ok sc_whole (fun vs H Q E h => ?_) (fun cdv A outer s H vs Q E hr h => ?_)
  · obtain ⟨i, rfl, _⟩ := h
    rfl
  obtain ⟨i, rfl, k⟩ := h
  refine ⟨_, pss_one (ps_ret (pe_and (pe_callB call_isi rfl B.isinstance (by decide +kernel) (pa_cons (pv 0) (pa_cons (pe_bltn (v := .ty "int") rfl B.int (by decide +kernel) rfl) pa_nil)))
    (pe_one (pe_not (pe_callB call_isi rfl B.isinstance (by decide +kernel) (pa_cons (pv 0) (pa_cons (pe_bltn (v := .ty "bool") rfl B.bool (by decide +kernel) rfl) pa_nil))))))), ?_⟩
  exact ⟨_, rfl, _, _, _, _, true, rfl, .ty _, ty_int _, kit_ty (by decide +kernel), _, rfl, iteT ⟨_, rfl, _, _, _, _, false, rfl, .ty _, ty_int _, kit_ty (by decide +kernel), _, rfl, k⟩⟩
end
end Lm
namespace Lm
open PySem L2
abbrev s_all_rows : Stmt := topS 2
abbrev s_asked : Stmt := topS 3
abbrev s_rmf : Stmt := topS 4
/-- the words of blocks, as the top has them -/
structure Cb (K : PySem.W.Frag) (mg : Str → Option Value) (aK : Addr) : Prop where
  blocks : mg "BLOCKS" = some (.ref aK)
  blocksT : ∀ H, SqT K H aK (kinds.map V.str)
def spAllRows (K : PySem.W.Frag) : Sp := fun vs H Q _ => ∃ (l : Addr) (ss : List Str) (rs : List Row) (Hc : Hp), vs = [.ref l] ∧ Same Hc H ∧ RowsAt K Hc l rs ∧ oks ss rs ∧ tots rs ≤ 10000 ∧
  ∀ (H' : Hp) (p : Addr) (us : List V), Same H H' → H' p = some (.lst us) → AllAt K Hc (flats rs) us → Q (.ref p) H'
def spAsked (K : PySem.W.Frag) : Sp := fun vs H Q _ => ∃ (v : V) (r : Row) (ss : List Str), vs = [v] ∧ RowAt K H r v ∧ r.ok ss ∧ ∀ p, H p = none → Q (.ref p) (upd H p (.lst r.asks))
def spRmf (K : PySem.W.Frag) : Sp := fun vs H Q _ => ∃ (v : V) (r : Row) (ss : List Str), vs = [v] ∧ RowAt K H r v ∧ r.ok ss ∧ Q (.bl r.fails) H
section
variable {P : Program} {w : World} {K : PySem.W.Frag} {mg : Str → Option Value} {base : Heap} {f aK : Addr} {fd : FuncData}
theorem sc_asked : FnScope ["row"] ["row"] (defScope s_asked) := ⟨rfl, rfl, rfl, by decide +kernel, rfl, by decide +kernel, by decide +kernel⟩
theorem ok_asked (F : Fun K "asked_parts" "asked_parts" s_asked f fd) : FnOk P w K mg base CX0 1 f fd ["row"] (spAsked K) := by
  refine F.ok sc_asked (fun vs H Q E h => ?_) (fun cdv A outer s H vs Q E hr h => ?_)
  · obtain ⟨v, r, ss, rfl, _⟩ := h
    rfl
  obtain ⟨v, r, ss, rfl, hR, hok, k⟩ := h
  refine ⟨_, pss_cons (ps_if (pt_cmpR op_eq (pe_ix ix_tup (pv 0) pe_int (fun _ _ => rfl)) pe_str (nomark _))
      (pss_one (ps_ret (pe_lst (pa_cons (pe_ix ix_tup (pv 0) pe_int (fun _ _ => rfl)) (pa_cons (pe_ix ix_tup (pv 0) pe_int (fun _ _ => rfl)) pa_nil))))) pss_nil) <|
    pss_one (ps_ret (pe_lst (pa_cons (pe_ix ix_tup (pv 0) pe_int (fun _ _ => rfl)) pa_nil))), ?_⟩
  match r, hR, hok, k with
  | .lt to sg a b, ⟨p, h1, h2⟩, hok, k =>
    subst h1
    refine ⟨_, rfl, p, _, _, _, rfl, rfl, h2, atI_nat (j := 0) rfl, rfl, _, rfl, ?_⟩
    refine ite2 (fun c => ?_) (fun c => absurd (decide_eq_true rfl) c)
    exact ⟨_, rfl, p, _, _, _, rfl, rfl, h2, atI_nat (j := 3) rfl, _, rfl, p, _, _, _, rfl, rfl, h2, atI_nat (j := 4) rfl, (by show 2 ≤ sizeLine; decide), k⟩
  | .sy a, ⟨p, h1, h2⟩, hok, k =>
    subst h1
    refine ⟨_, rfl, p, _, _, _, rfl, rfl, h2, atI_nat (j := 0) rfl, rfl, _, rfl, ?_⟩
    refine ite2 (fun c => absurd c (by decide +kernel)) (fun c => ?_)
    exact ⟨_, rfl, p, _, _, _, rfl, rfl, h2, atI_nat (j := 1) rfl, (by show 1 ≤ sizeLine; decide), k⟩
  | .bk kd ts rs, ⟨p, l, vs, h1, h2, _⟩, hok, k =>
    subst h1
    refine ⟨_, rfl, p, _, _, _, rfl, rfl, h2, atI_nat (j := 0) rfl, rfl, _, rfl, ?_⟩
    refine ite2 (fun c => absurd (c.symm.trans (kd_let hok.1)) Bool.noConfusion) (fun c => ?_)
    exact ⟨_, rfl, p, _, _, _, rfl, rfl, h2, atI_nat (j := 1) rfl, (by show 1 ≤ sizeLine; decide), k⟩
theorem sc_rmf : FnScope ["row"] ["row"] (defScope s_rmf) := ⟨rfl, rfl, rfl, by decide +kernel, rfl, by decide +kernel, by decide +kernel⟩
theorem ok_rmf (F : Fun K "row_may_fail" "row_may_fail" s_rmf f fd) (B : Bn mg) : FnOk P w K mg base CX0 1 f fd ["row"] (spRmf K) := by
  refine F.ok sc_rmf (fun vs H Q E h => ?_) (fun cdv A outer s H vs Q E hr h => ?_)
  · obtain ⟨v, r, ss, rfl, _⟩ := h
    rfl
  obtain ⟨v, r, ss, rfl, hR, hok, k⟩ := h
  refine ⟨_, pss_cons (ps_if (PW.pt (pw_or (pt_cmpR op_ne (pe_ix ix_tup (pv 0) pe_int (fun _ _ => rfl)) pe_str (nomark _)) (pw_or1 (pt_cmpR op_ne (pe_ix ix_tup (pv 0) pe_int (fun _ _ => rfl)) pe_str (nomark _)))))
      (pss_one (ps_ret pe_bl)) pss_nil) <|
    pss_one (ps_ret (pe_or (pe_callB call_isi rfl B.isinstance (by decide +kernel) (pa_cons (pe_ix ix_tup (pv 0) pe_int (fun _ _ => rfl)) (pa_cons (pe_bltn (v := .ty "str") rfl B.str (by decide +kernel) rfl) pa_nil))) (pe_one (pe_cmpR op_eq (pe_ix ix_tup (pv 0) pe_int (fun _ _ => rfl)) pe_int (nomark _))))), ?_⟩
  match r, hR, hok, k with
  | .lt to sg a b, ⟨p, h1, h2⟩, hok, k =>
    subst h1
    refine ⟨_, rfl, p, _, _, _, rfl, rfl, h2, atI_nat (j := 0) rfl, rfl, _, rfl, ?_⟩
    refine iteNS rfl ⟨_, rfl, p, _, _, _, rfl, rfl, h2, atI_nat (j := 2) rfl, rfl, _, rfl, ?_⟩
    by_cases c : sg = "/"
    · subst c
      refine iteNS rfl ?_
      refine ⟨_, rfl, p, _, _, _, rfl, rfl, h2, atI_nat (j := 4) rfl, ?_⟩
      match b, hok, k with
      | .nm s, hok, k => exact ⟨_, _, _, _, true, rfl, .ty _, ty_str _, kit_ty (by decide +kernel), _, rfl, iteT k⟩
      | .nu i, hok, k =>
        refine ⟨_, _, _, _, false, rfl, .ty _, ty_int _, kit_ty (by decide +kernel), _, rfl, iteF ?_⟩
        refine ⟨_, rfl, p, _, _, _, rfl, rfl, h2, atI_nat (j := 4) rfl, rfl, ?_⟩
        have e : (Row.lt to "/" a (Vl.nu i)).fails = decide (V.int i = V.int 0) := by
          show (decide (("/" : Str) = "/") && decide (i = 0)) = _
          rw [decide_eq_true rfl, Bool.true_and]
          by_cases z : i = 0
          · rw [z]; rfl
          · rw [decide_eq_false z, decide_eq_false (fun y => z (V.int.inj y))]
        rw [e] at k
        exact k
    · have e : (Row.lt to sg a b).fails = false := by
        show (decide (sg = "/") && _) = false
        rw [decide_eq_false c, Bool.false_and]
      rw [e] at k
      have ec : (!decide (V.str sg = V.str "/")) = true := by
        rw [decide_eq_false (fun y => c (V.str.inj y))]
        rfl
      exact ifT ec k
  | .sy a, ⟨p, h1, h2⟩, hok, k =>
    subst h1
    refine ⟨_, rfl, p, _, _, _, rfl, rfl, h2, atI_nat (j := 0) rfl, rfl, _, rfl, ?_⟩
    exact ifT (by decide +kernel) (iteT k)
  | .bk kd ts rs, ⟨p, l, vs, h1, h2, _⟩, hok, k =>
    subst h1
    refine ⟨_, rfl, p, _, _, _, rfl, rfl, h2, atI_nat (j := 0) rfl, rfl, _, rfl, ?_⟩
    exact ifT (by rw [kd_let hok.1]; rfl) (iteT k)
theorem sc_all_rows : FnScope ["rows", "found", "waiting", "row"] ["rows"] (defScope s_all_rows) := ⟨rfl, rfl, rfl, by decide +kernel, rfl, by decide +kernel, by decide +kernel⟩
theorem ok_all_rows (F : Fun K "all_rows" "all_rows" s_all_rows f fd) (C : Cb K mg aK) : FnOk P w K mg base CX0 1 f fd ["rows"] (spAllRows K) := by
  refine F.ok sc_all_rows (fun vs H Q E h => ?_) (fun cdv A outer s H vs Q E hr h => ?_)
  · obtain ⟨l, ss, rs, Hc, rfl, _⟩ := h
    rfl
  obtain ⟨l, ss, rs, Hc, rfl, hc, ⟨vs0, eS, eA⟩, hok, hnum, k⟩ := h
  have nd := sc_all_rows.nd
  refine ⟨_, pss_cons (ps_set (i := 1) nd rfl (Or.inl rfl) (pe_lst pa_nil)) <|
    pss_cons (ps_set (i := 2) nd rfl (Or.inl rfl) (pe_revL (pv 0))) <|
    pss_cons (ps_while PassesOwn.never (pt_truth (pv 2) (by intro _; rfl))
      (pss_cons (ps_set (i := 3) nd rfl (Or.inl rfl) (pe_bm0 PySem.F.plainAttrs_list PySem.F.slot_list_pop PySem.F.type_list_pop mt_pop (pv 2))) <|
      pss_cons (ps_expr (pe_bm PySem.F.plainAttrs_list PySem.F.slot_list_append PySem.F.type_list_append mt_append (pv 1) (pa_cons (pv 3) pa_nil))) <|
      pss_one (ps_if (pt_cmpR op_in_seq (pe_ix ix_tup (pv 3) pe_int (fun _ _ => rfl)) (pe_glob (v := .ref aK) rfl C.blocks rfl) (by rfl))
        (pss_one (ps_expr (pe_bm PySem.F.plainAttrs_list PySem.F.slot_list_extend PySem.F.type_list_extend mt_extend (pv 2) (pa_cons (pe_revL (pe_ix ix_tup (pv 3) pe_int (fun _ _ => rfl))) pa_nil)))) pss_nil))) <|
    pss_one (ps_ret (pv 1)), ?_⟩
  refine ⟨(by show 0 ≤ sizeLine; decide), fun D hD => ?_⟩
  have sD : Same H (upd H D (.lst [])) := same_new hD _
  refine ⟨_, rfl, l, vs0, rfl, (hc.trans sD).seq eS, fun W hW => ?_⟩
  have nWD : W ≠ D := fun e => by rw [e, upd_same] at hW; cases hW
  have hW0 : H W = none := by rw [upd_ne nWD] at hW; exact hW
  refine ⟨fun m σ H' => ∃ (done rem : List Row) (us ws : List V) (v3 : Option V), m = tots rem ∧ σ = [some (.ref l), some (.ref D), some (.ref W), v3] ∧ Same H H' ∧ H' D = some (.lst us) ∧ H' W = some (.lst ws) ∧ AllAt K Hc done us ∧ AllAt K Hc rem ws.reverse ∧ oks ss rem ∧ done ++ flats rem = flats rs,
    ⟨_, [], rs, [], vs0.reverse, none, rfl, rfl, sD.trans (same_new hW _), by rw [upd_ne nWD.symm, upd_same], upd_same, rfl, by rw [List.reverse_reverse]; exact eA, hok, rfl⟩, ?_⟩
  rintro m σ H1 ⟨done, rem, us, ws, v3, rfl, rfl, s1, eD, eW, aD, aW, hoks, hfl⟩
  have hcount : done.length + tots rem = tots rs := by
    have e := congrArg List.length hfl
    rw [List.length_append, flats_len, flats_len] at e
    exact e
  refine ⟨_, rfl, !ws.isEmpty, .inl ⟨ws, SqL.of eW, rfl⟩, ?_⟩
  match rem, aW, hoks, hfl, hcount with
  | [], aW, hoks, hfl, hcount =>
    have e1 : ws = [] := List.reverse_eq_nil_iff.mp aW
    subst e1
    refine ifF rfl ⟨_, rfl, k H1 D us s1 eD ?_⟩
    rw [show flats rs = done by rw [← hfl]; exact List.append_nil _]
    exact aD
  | r :: rem', ⟨v, t, e1, aR, aT⟩, hoks, hfl, hcount =>
    have e2 : ws = t.reverse ++ [v] := by
      have z := congrArg List.reverse e1
      rw [List.reverse_reverse, List.reverse_cons] at z
      exact z
    subst e2
    have pos := r.tot_pos
    have hc2 : done.length + (r.tot + tots rem') = tots rs := hcount
    have hlt : tots rem' < tots (r :: rem') := by
      show tots rem' < r.tot + tots rem'
      omega
    refine ifT (by simp) ⟨fun σ' H'' => ∃ m', m' < tots (r :: rem') ∧ ∃ (done rem : List Row) (us ws : List V) (v3 : Option V), m' = tots rem ∧ σ' = [some (.ref l), some (.ref D), some (.ref W), v3] ∧ Same H H'' ∧ H'' D = some (.lst us) ∧ H'' W = some (.lst ws) ∧ AllAt K Hc done us ∧ AllAt K Hc rem ws.reverse ∧ oks ss rem ∧ done ++ flats rem = flats rs,
      fun _ _ z => z, ?_⟩
    have eD2 : (upd H1 W (.lst t.reverse)) D = some (.lst us) := by
      rw [upd_ne nWD.symm]
      exact eD
    refine ⟨_, rfl, .inl ⟨rfl, _, SqL.of eW⟩, W, _, v, rfl, rfl, eW, by simp, ?_⟩
    rw [List.dropLast_concat]
    have room : us.length < sizeLine := by
      rw [aD.len, sizeLine_eq]
      omega
    refine ⟨_, rfl, .inl ⟨rfl, _, SqL.of eD2⟩, _, rfl, D, us, _, rfl, rfl, eD2, room, ?_⟩
    have s2 : Same H (upd (upd H1 W (.lst t.reverse)) D (.lst (us ++ [v]))) := fun b o hb => by
      rw [upd_ne (ne_of_none hb hD), upd_ne (ne_of_none hb hW0)]
      exact s1 b o hb
    have eW2 : (upd (upd H1 W (.lst t.reverse)) D (.lst (us ++ [v]))) W = some (.lst t.reverse) := by
      rw [upd_ne nWD, upd_same]
    match r, aR, hoks, hfl, hc2 with
    | .lt to sg a b, ⟨p, h1, h2⟩, hoks, hfl, hc2 =>
      have aR' : RowAt K Hc (.lt to sg a b) v := ⟨p, h1, h2⟩
      subst h1
      refine ⟨_, rfl, p, _, _, _, rfl, rfl, Kp.sqT (Same.kp (hc.trans s2)) h2, atI_nat (j := 0) rfl, aK, _, rfl, .inr (C.blocksT _), rfl, kinds_flat, _, rfl, ?_⟩
      exact ifF let_in ⟨_, hlt, done ++ [.lt to sg a b], rem', us ++ [.ref p], t.reverse, _, rfl, rfl, s2, upd_same, eW2, aD.app (AllAt.one aR'), by rw [List.reverse_reverse]; exact aT, hoks.2, by rw [List.append_assoc]; exact hfl⟩
    | .sy a, ⟨p, h1, h2⟩, hoks, hfl, hc2 =>
      have aR' : RowAt K Hc (.sy a) v := ⟨p, h1, h2⟩
      subst h1
      refine ⟨_, rfl, p, _, _, _, rfl, rfl, Kp.sqT (Same.kp (hc.trans s2)) h2, atI_nat (j := 0) rfl, aK, _, rfl, .inr (C.blocksT _), rfl, kinds_flat, _, rfl, ?_⟩
      exact ifF say_in ⟨_, hlt, done ++ [.sy a], rem', us ++ [.ref p], t.reverse, _, rfl, rfl, s2, upd_same, eW2, aD.app (AllAt.one aR'), by rw [List.reverse_reverse]; exact aT, hoks.2, by rw [List.append_assoc]; exact hfl⟩
    | .bk kd ts qs, ⟨p, l2, zs, h1, h2, h3, h4⟩, hoks, hfl, hc2 =>
      have aR' : RowAt K Hc (.bk kd ts qs) v := ⟨p, l2, zs, h1, h2, h3, h4⟩
      subst h1
      have hT := Kp.sqT (Same.kp (hc.trans s2)) h2
      have hc3 : done.length + ((tots qs + 1) + tots rem') = tots rs := hc2
      refine ⟨_, rfl, p, _, _, _, rfl, rfl, hT, atI_nat (j := 0) rfl, aK, _, rfl, .inr (C.blocksT _), rfl, kinds_flat, _, rfl, ?_⟩
      refine ifT (kd_in hoks.1.1) ⟨_, rfl, .inl ⟨rfl, _, SqL.of eW2⟩, _, rfl, p, _, _, _, rfl, rfl, hT, atI_nat (j := 2) rfl, l2, zs, rfl, (hc.trans s2).seq h3, fun q hq => ?_⟩
      have nWq := ne_of_none eW2 hq
      have s3 := s2.trans (same_new hq (.lst zs.reverse))
      refine ⟨W, q, _, _, rfl, rfl, by rw [upd_ne nWq]; exact eW2, upd_same, ?_, ?_⟩
      · have l1 := len_tots qs
        have l2 := len_tots rem'
        rw [List.length_reverse, List.length_reverse, aT.len, h4.len, sizeLine_eq]
        omega
      · refine ⟨tots (qs ++ rem'), ?_, done ++ [.bk kd ts qs], qs ++ rem', us ++ [.ref p], t.reverse ++ zs.reverse, _, rfl, rfl, fun b o hb => ?_, ?_, upd_same, aD.app (AllAt.one aR'), ?_, oks_app hoks.1.2.2.2 hoks.2, ?_⟩
        · rw [tots_app]
          show tots qs + tots rem' < (tots qs + 1) + tots rem'
          omega
        · rw [upd_ne (ne_of_none hb hW0)]
          exact s3 b o hb
        · rw [upd_ne nWD.symm, upd_ne (ne_of_none upd_same hq), upd_same]
        · rw [List.reverse_append, List.reverse_reverse, List.reverse_reverse]
          exact h4.app aT
        · rw [flats_app, List.append_assoc]
          exact hfl
end
end Lm
namespace Lm
open PySem L2
abbrev s_reads : Stmt := topS 5
abbrev s_sets : Stmt := topS 6
abbrev s_may : Stmt := topS 7
abbrev s_speaks : Stmt := topS 8
/-- a program that stands at l -/
structure Pg (K : PySem.W.Frag) (H : Hp) (l : Addr) (ss : List Str) (rs : List Row) : Prop where
  at_ : RowsAt K H l rs
  ok : oks ss rs
  num : tots rs ≤ 10000
  few : ss.length ≤ 60
theorem Pg.kp {K : PySem.W.Frag} {H H' : Hp} {l : Addr} {ss : List Str} {rs : List Row} (h : Pg K H l ss rs) (k : Kp H H') : Pg K H' l ss rs := ⟨h.at_.mono k, h.ok, h.num, h.few⟩
def spNamed (K : PySem.W.Frag) (p : List Row → Str → Prop) : Sp := fun vs H Q _ => ∃ (l : Addr) (ss : List Str) (rs : List Row), vs = [.ref l] ∧ Pg K H l ss rs ∧
  ∀ (H' : Hp) (q : Addr) (ys : List Str), Same H H' → H q = none → H' q = some (.lst (ys.map V.str)) → PyProof.Rows.sortedS ys = true → ys.Nodup → (∀ x, x ∈ ys ↔ p (flats rs) x) → Q (.ref q) H'
def spSome (K : PySem.W.Frag) (p : Row → Bool) : Sp := fun vs H Q _ => ∃ (l : Addr) (ss : List Str) (rs : List Row), vs = [.ref l] ∧ Pg K H l ss rs ∧
  ∀ (H' : Hp), Same H H' → Q (.bl ((flats rs).any p)) H'
structure Bp (mg : Str → Option Value) : Prop where
  any : mg "any" = none
  set : mg "set" = none
  sorted : mg "sorted" = none
theorem any_of {p : Row → Bool} (rs : List Row) : (rs.map p).any id = rs.any p := by
  rw [List.any_map]
  rfl
section
variable {P : Program} {w : World} {K : PySem.W.Frag} {mg : Str → Option Value} {base : Heap} {f aK fr fa : Addr} {fd dr da : FuncData}
theorem sc_reads : FnScope ["rows", "found", "row", "part"] ["rows"] (defScope s_reads) := ⟨rfl, rfl, rfl, by decide +kernel, rfl, by decide +kernel, by decide +kernel⟩
theorem ok_reads (F : Fun K "reads" "reads" s_reads f fd) (Bi : Bn mg) (B : Bp mg) (DR : Df P w K mg base "all_rows" 1 fr dr ["rows"] (spAllRows K)) (DA : Df P w K mg base "asked_parts" 1 fa da ["row"] (spAsked K)) :
    FnOk P w K mg base CX0 2 f fd ["rows"] (spNamed K askN) := by
  refine F.ok sc_reads (fun vs H Q E h => ?_) (fun cdv A outer s H vs Q E hr h => ?_)
  · obtain ⟨l, ss, rs, rfl, _⟩ := h
    rfl
  obtain ⟨l, ss, rs, rfl, hP, k⟩ := h
  have nd := sc_reads.nd
  refine ⟨_, pss_cons (ps_set (i := 1) nd rfl (Or.inl rfl) (pe_callTy0 cr_set0X rfl B.set (by decide +kernel))) <|
    pss_cons (ps_for PassesOwn.never rfl (pi_list (pe_df DR hr (pa_cons (pv 0) pa_nil))) (pg_name (i := 2) nd rfl (Or.inl rfl))
      (pss_one (ps_for PassesOwn.never rfl (pi_list (pe_df DA hr (pa_cons (pv 2) pa_nil))) (pg_name (i := 3) nd rfl (Or.inl rfl))
        (pss_one (ps_if (pt_val (pe_callB call_isi rfl Bi.isinstance (by decide +kernel) (pa_cons (pv 3) (pa_cons (pe_bltn (v := .ty "str") rfl Bi.str (by decide +kernel) rfl) pa_nil)))) (pss_one (ps_expr (pe_saddX (pv 1) (pa_cons (pv 3) pa_nil)))) pss_nil))))) <|
    pss_one (ps_ret (pe_callB (cr_sortX rfl) rfl B.sorted (by decide +kernel) (pa_cons (pv 1) pa_nil))), ?_⟩
  refine ⟨rfl, fun F0 hF => ?_⟩
  have sF : Same H (upd H F0 (SetX w F0 (fun _ => false) 0)) := same_new hF _
  refine ⟨_, rfl, l, ss, rs, H, rfl, sF, hP.at_, hP.ok, hP.num, fun H1 q us s1 eq aU => ?_⟩
  have hokf := oks_flats hP.ok
  have eF1 := s1 _ _ (upd_same (H := H) (a := F0) (o := SetX w F0 (fun _ => false) 0))
  have nqF : q ≠ F0 := ne_of eq eF1 (by intro z; cases z)
  refine ⟨q, rfl, ⟨_, SqL.of eq⟩, for_list (K := K) (a := q) (xs := us) (fun i σ H' => ∃ (ns : List Str) (v2 v3 : Option V), σ = [some (.ref l), some (.ref F0), v2, v3] ∧ H' q = some (.lst us) ∧ Same H H' ∧ Fnd w F0 H' ss ns ∧ ∀ x, x ∈ ns ↔ askN ((flats rs).take i) x)
    ⟨[], none, none, rfl, eq, sF.trans s1, ⟨⟨_, 0, eF1, fun x => by simp, rfl⟩, List.nodup_nil, fun x hx => by cases hx⟩, fun x => by simp [askN]⟩ (fun i σ H' _ ⟨_, _, _, _, e, _⟩ => SqL.of e) ?_ ?_⟩
  · rintro i v σ H2 hi ⟨ns, v2, v3, rfl, eq2, k2, fnd, hns⟩
    obtain ⟨r, hri, hrow⟩ := aU.at hi
    have hrok := oks_at hokf hri
    refine ⟨_, rfl, v, r, ss, rfl, RowAt.mono (Same.kp k2) r v hrow, hrok, fun A hA => ⟨A, rfl, ⟨_, SqL.of upd_same⟩, ?_⟩⟩
    have kA : Same H2 (upd H2 A (.lst r.asks)) := same_new hA _
    have eF2 : ∃ S n, H2 F0 = some (SetX w F0 S n) := let ⟨S, n, e, _⟩ := fnd.at_; ⟨S, n, e⟩
    obtain ⟨S2, n2, eF2⟩ := eF2
    have nAF : A ≠ F0 := (ne_of_none eF2 hA).symm
    refine for_list (K := K) (a := A) (xs := r.asks) (fun j σ H' => ∃ (ms : List Str) (v3 : Option V), σ = [some (.ref l), some (.ref F0), some v, v3] ∧ H' A = some (.lst r.asks) ∧ H' q = some (.lst us) ∧ Same H H' ∧ Fnd w F0 H' ss ms ∧ ∀ x, x ∈ ms ↔ x ∈ ns ∨ V.str x ∈ r.asks.take j)
      ⟨ns, v3, rfl, upd_same, kA _ _ eq2, k2.trans kA, fnd.kp (Same.kp kA), fun x => ⟨Or.inl, fun h => h.elim id fun z => by cases z⟩⟩ (fun j σ H' _ ⟨_, _, _, e, _⟩ => SqL.of e) ?_ ?_
    · rintro j y σ H3 hj ⟨ms, v3', rfl, eA3, eq3, k3, fnd3, hms⟩
      have hy := Row.asks_ok hrok (List.mem_of_getElem? hj)
      rcases hy with ⟨z, rfl, hz⟩ | ⟨z, rfl⟩
      · obtain ⟨S, n, ms', f1, f2, f3, f4⟩ := fnd3.add hP.few hz
        refine ⟨_, rfl, _, _, _, _, true, rfl, .ty _, ty_str _, kit_ty (by decide +kernel), _, rfl, iteT ⟨_, rfl, ⟨F0, S, n, rfl, f1⟩, _, rfl, F0, z, S, n, rfl, rfl, f1, f2, ?_⟩⟩
        refine ⟨ms', _, rfl, by rw [upd_ne nAF]; exact eA3, by rw [upd_ne nqF]; exact eq3, fun c o hc => by rw [upd_ne (ne_of_none hc hF)]; exact k3 c o hc, f3, fun x => ?_⟩
        · rw [f4 x, hms x, take_one hj, List.mem_append, List.mem_singleton, V.str.injEq, or_assoc]
      · refine ⟨_, rfl, _, _, _, _, false, rfl, .ty _, ty_int _, kit_ty (by decide +kernel), _, rfl, iteF ⟨ms, _, rfl, eA3, eq3, k3, fnd3, fun x => ?_⟩⟩
        rw [hms x, take_one hj, List.mem_append, List.mem_singleton]
        exact ⟨fun h => h.elim Or.inl fun h => .inr (.inl h), fun h => h.elim Or.inl fun h => h.elim .inr fun h => by cases h⟩
    · rintro σ H3 ⟨ms, v3', rfl, eA3, eq3, k3, fnd3, hms⟩
      refine ⟨ms, _, _, rfl, eq3, k3, fnd3, fun x => ?_⟩
      rw [hms x, List.take_length, hns x, askN_one hri]
  · rintro σ H2 ⟨ns, v2, v3, rfl, eq2, k2, fnd, hns⟩
    rw [aU.len, List.take_length] at hns
    obtain ⟨S, n, f1, f2, f3⟩ := fnd.at_
    have few := fnd.few hP.few
    refine ⟨_, rfl, F0, S, n, rfl, f1, by omega, fun ys p h1 h2 h3 hp => ?_⟩
    have sp := same_new hp (.lst (ys.map V.str))
    exact k _ p ys (k2.trans sp) (k2.free hp) upd_same h1 h2 (fun x => by rw [h3 x, f2 x, hns x])
theorem sc_sets : FnScope ["rows", "found", "row"] ["rows"] (defScope s_sets) := ⟨rfl, rfl, rfl, by decide +kernel, rfl, by decide +kernel, by decide +kernel⟩
theorem ok_sets (F : Fun K "sets" "sets" s_sets f fd) (B : Bp mg) (DR : Df P w K mg base "all_rows" 1 fr dr ["rows"] (spAllRows K)) : FnOk P w K mg base CX0 2 f fd ["rows"] (spNamed K setN) := by
  refine F.ok sc_sets (fun vs H Q E h => ?_) (fun cdv A outer s H vs Q E hr h => ?_)
  · obtain ⟨l, ss, rs, rfl, _⟩ := h
    rfl
  obtain ⟨l, ss, rs, rfl, hP, k⟩ := h
  have nd := sc_sets.nd
  refine ⟨_, pss_cons (ps_set (i := 1) nd rfl (Or.inl rfl) (pe_callTy0 cr_set0X rfl B.set (by decide +kernel))) <|
    pss_cons (ps_for PassesOwn.never rfl (pi_list (pe_df DR hr (pa_cons (pv 0) pa_nil))) (pg_name (i := 2) nd rfl (Or.inl rfl))
      (pss_one (ps_if (pt_cmpR op_eq (pe_ix ix_tup (pv 2) pe_int (fun _ _ => rfl)) pe_str (nomark _)) (pss_one (ps_expr (pe_saddX (pv 1) (pa_cons (pe_ix ix_tup (pv 2) pe_int (fun _ _ => rfl)) pa_nil)))) pss_nil))) <|
    pss_one (ps_ret (pe_callB (cr_sortX rfl) rfl B.sorted (by decide +kernel) (pa_cons (pv 1) pa_nil))), ?_⟩
  refine ⟨rfl, fun F0 hF => ?_⟩
  have sF : Same H (upd H F0 (SetX w F0 (fun _ => false) 0)) := same_new hF _
  refine ⟨_, rfl, l, ss, rs, H, rfl, sF, hP.at_, hP.ok, hP.num, fun H1 q us s1 eq aU => ?_⟩
  have hokf := oks_flats hP.ok
  have eF1 := s1 _ _ (upd_same (H := H) (a := F0) (o := SetX w F0 (fun _ => false) 0))
  have nqF : q ≠ F0 := ne_of eq eF1 (by intro z; cases z)
  refine ⟨q, rfl, ⟨_, SqL.of eq⟩, for_list (K := K) (a := q) (xs := us) (fun i σ H' => ∃ (ns : List Str) (v2 : Option V), σ = [some (.ref l), some (.ref F0), v2] ∧ H' q = some (.lst us) ∧ Same H H' ∧ Fnd w F0 H' ss ns ∧ ∀ x, x ∈ ns ↔ setN ((flats rs).take i) x)
    ⟨[], none, rfl, eq, sF.trans s1, ⟨⟨_, 0, eF1, fun x => by simp, rfl⟩, List.nodup_nil, fun x hx => by cases hx⟩, fun x => by simp [setN]⟩ (fun i σ H' _ ⟨_, _, _, e, _⟩ => SqL.of e) ?_ ?_⟩
  · rintro i v σ H2 hi ⟨ns, v2, rfl, eq2, k2, fnd, hns⟩
    obtain ⟨r, hri, hrow⟩ := aU.at hi
    have hrok := oks_at hokf hri
    have hrow2 := RowAt.mono (Same.kp k2) r v hrow
    match r, hri, hrok, hrow2 with
    | .lt to sg a b, hri, hrok, ⟨p, h1, h2⟩ =>
      subst h1
      obtain ⟨S, n, ms, f1, f2, f3, f4⟩ := fnd.add hP.few hrok.1
      refine ⟨_, rfl, p, _, _, _, rfl, rfl, h2, atI_nat (j := 0) rfl, rfl, _, rfl, ?_⟩
      refine ifT (decide_eq_true rfl) ⟨_, rfl, ⟨F0, S, n, rfl, f1⟩, _, rfl, p, _, _, _, rfl, rfl, h2, atI_nat (j := 1) rfl, F0, to, S, n, rfl, rfl, f1, f2, ?_⟩
      refine ⟨ms, _, rfl, by rw [upd_ne nqF]; exact eq2, fun c o hc => by rw [upd_ne (ne_of_none hc hF)]; exact k2 c o hc, f3, fun x => ?_⟩
      rw [f4 x, hns x, setN_one hri]
      exact or_congr Iff.rfl (List.mem_singleton).symm
    | .sy a, hri, hrok, ⟨p, h1, h2⟩ =>
      subst h1
      refine ⟨_, rfl, p, _, _, _, rfl, rfl, h2, atI_nat (j := 0) rfl, rfl, _, rfl, ?_⟩
      refine ifF (by decide +kernel) ⟨ns, _, rfl, eq2, k2, fnd, fun x => ?_⟩
      rw [hns x, setN_one hri]
      exact ⟨Or.inl, fun h => h.elim id fun h => by cases h⟩
    | .bk kd ts qs, hri, hrok, ⟨p, l2, zs, h1, h2, _⟩ =>
      subst h1
      refine ⟨_, rfl, p, _, _, _, rfl, rfl, h2, atI_nat (j := 0) rfl, rfl, _, rfl, ?_⟩
      refine ifF (kd_let hrok.1) ⟨ns, _, rfl, eq2, k2, fnd, fun x => ?_⟩
      rw [hns x, setN_one hri]
      exact ⟨Or.inl, fun h => h.elim id fun h => by cases h⟩
  · rintro σ H2 ⟨ns, v2, rfl, eq2, k2, fnd, hns⟩
    rw [aU.len, List.take_length] at hns
    obtain ⟨S, n, f1, f2, f3⟩ := fnd.at_
    have few := fnd.few hP.few
    refine ⟨_, rfl, F0, S, n, rfl, f1, by omega, fun ys p h1 h2 h3 hp => ?_⟩
    have sp := same_new hp (.lst (ys.map V.str))
    exact k _ p ys (k2.trans sp) (k2.free hp) upd_same h1 h2 (fun x => by rw [h3 x, f2 x, hns x])
theorem sc_may : FnScope ["rows", "row"] ["rows"] (defScope s_may) := ⟨rfl, rfl, rfl, by decide +kernel, rfl, by decide +kernel, by decide +kernel⟩
theorem ok_may (F : Fun K "may_fail" "may_fail" s_may f fd) (B : Bp mg) (DR : Df P w K mg base "all_rows" 1 fr dr ["rows"] (spAllRows K)) (DM : Df P w K mg base "row_may_fail" 1 fa da ["row"] (spRmf K)) : FnOk P w K mg base CX0 2 f fd ["rows"] (spSome K Row.fails) := by
  refine F.ok sc_may (fun vs H Q E h => ?_) (fun cdv A outer s H vs Q E hr h => ?_)
  · obtain ⟨l, ss, rs, rfl, _⟩ := h
    rfl
  obtain ⟨l, ss, rs, rfl, hP, k⟩ := h
  have nd := sc_may.nd
  refine ⟨_, pss_one (ps_ret (pe_callB (cr_any rfl) rfl B.any (by decide +kernel) (pa_cons (pe_lc (own := [("row", 1)]) (g := gName 1) rfl nd (pi_list (pe_df DR hr (pa_cons (pv 0) pa_nil)))
    (blkOk_by (N := ["rows", "row"]) (sc := defScope s_may) (by decide +kernel)) (fun _ _ _ _ _ => pg_name (i := 1) nd rfl (Or.inl rfl)) (fun _ _ _ _ _ => pts_nil) (fun _ _ _ _ _ => pe_df DM hr (pa_cons (pv 1) pa_nil))) pa_nil))), ?_⟩
  refine ⟨_, rfl, l, ss, rs, H, rfl, Same.refl H, hP.at_, hP.ok, hP.num, fun H1 q us s1 eq aU => ⟨q, rfl, ⟨_, SqL.of eq⟩, fun D hD => lc_list (xs := us) (fun i H' => H' D = some (.lst ((((flats rs).take i).map Row.fails).map V.bl)) ∧ Same H1 H') ⟨upd_same, same_new hD _⟩ (fun i H' _ p => p.2.seq (SqL.of eq)) ?_ ?_⟩⟩
  · intro i v H2 hi ⟨eD, k2⟩
    obtain ⟨r, hri, hrow⟩ := aU.at hi
    refine ⟨rfl, yes (iteT ?_)⟩
    refine ⟨_, rfl, v, r, ss, rfl, RowAt.mono (Same.kp (s1.trans k2)) r v hrow, oks_at (oks_flats hP.ok) hri, ?_⟩
    refine ⟨_, eD, ?_, ?_, fun c o hc => ?_⟩
    · rw [List.length_map, List.length_map, List.length_take, flats_len, sizeLine_eq]
      have := hP.num
      omega
    · rw [upd_same, take_one hri, List.map_append, List.map_append]
      all_goals rfl
    · rw [upd_ne (ne_of_none hc hD)]
      exact k2 c o hc
  · intro H2 ⟨eD, k2⟩
    refine ⟨D, _, rfl, SqL.of eD, ?_⟩
    rw [aU.len, List.take_length, any_of]
    exact k H2 (s1.trans k2)
theorem sc_speaks : FnScope ["rows", "row"] ["rows"] (defScope s_speaks) := ⟨rfl, rfl, rfl, by decide +kernel, rfl, by decide +kernel, by decide +kernel⟩
theorem ok_speaks (F : Fun K "speaks" "speaks" s_speaks f fd) (B : Bp mg) (DR : Df P w K mg base "all_rows" 1 fr dr ["rows"] (spAllRows K)) : FnOk P w K mg base CX0 2 f fd ["rows"] (spSome K Row.says) := by
  refine F.ok sc_speaks (fun vs H Q E h => ?_) (fun cdv A outer s H vs Q E hr h => ?_)
  · obtain ⟨l, ss, rs, rfl, _⟩ := h
    rfl
  obtain ⟨l, ss, rs, rfl, hP, k⟩ := h
  have nd := sc_speaks.nd
  refine ⟨_, pss_one (ps_ret (pe_callB (cr_any rfl) rfl B.any (by decide +kernel) (pa_cons (pe_lc (own := [("row", 1)]) (g := gName 1) rfl nd (pi_list (pe_df DR hr (pa_cons (pv 0) pa_nil)))
    (blkOk_by (N := ["rows", "row"]) (sc := defScope s_speaks) (by decide +kernel)) (fun _ _ _ _ _ => pg_name (i := 1) nd rfl (Or.inl rfl)) (fun _ _ _ _ _ => pts_nil)
    (fun _ _ _ _ _ => pe_cmpR op_eq (pe_ix (r := rIxT K) (show IxR _ (rIxT K) from ix_tup) (pv 1) pe_int (fun _ _ => rfl)) pe_str (nomark _))) pa_nil))), ?_⟩
  refine ⟨_, rfl, l, ss, rs, H, rfl, Same.refl H, hP.at_, hP.ok, hP.num, fun H1 q us s1 eq aU => ⟨q, rfl, ⟨_, SqL.of eq⟩, fun D hD => lc_list (xs := us) (fun i H' => H' D = some (.lst ((((flats rs).take i).map Row.says).map V.bl)) ∧ Same H1 H') ⟨upd_same, same_new hD _⟩ (fun i H' _ p => p.2.seq (SqL.of eq)) ?_ ?_⟩⟩
  · intro i v H2 hi ⟨eD, k2⟩
    obtain ⟨r, hri, hrow⟩ := aU.at hi
    have hrok := oks_at (oks_flats hP.ok) hri
    have hrow2 := RowAt.mono (Same.kp (s1.trans k2)) r v hrow
    have fin : ∀ b : Bool, b = r.says → ∃ acc, H2 D = some (.lst acc) ∧ acc.length < sizeLine ∧ (upd H2 D (.lst (acc ++ [.bl b]))) D = some (.lst ((((flats rs).take (i + 1)).map Row.says).map V.bl)) ∧ Same H1 (upd H2 D (.lst (acc ++ [.bl b]))) := fun b hb => by
      refine ⟨_, eD, ?_, ?_, fun c o hc => ?_⟩
      · rw [List.length_map, List.length_map, List.length_take, flats_len, sizeLine_eq]
        have := hP.num
        omega
      · rw [upd_same, take_one hri, List.map_append, List.map_append, hb]
        all_goals rfl
      · rw [upd_ne (ne_of_none hc hD)]
        exact k2 c o hc
    refine ⟨rfl, yes (iteT ?_)⟩
    match r, hrok, hrow2, fin with
    | .lt to sg a b, hrok, ⟨p, h1, h2⟩, fin =>
      subst h1
      exact ⟨_, rfl, p, _, _, _, rfl, rfl, h2, atI_nat (j := 0) rfl, rfl, fin _ (show decide (V.str "let" = V.str "say") = false by decide +kernel)⟩
    | .sy a, hrok, ⟨p, h1, h2⟩, fin =>
      subst h1
      exact ⟨_, rfl, p, _, _, _, rfl, rfl, h2, atI_nat (j := 0) rfl, rfl, fin _ (decide_eq_true rfl)⟩
    | .bk kd ts qs, hrok, ⟨p, l2, zs, h1, h2, _⟩, fin =>
      subst h1
      exact ⟨_, rfl, p, _, _, _, rfl, rfl, h2, atI_nat (j := 0) rfl, rfl, fin _ (kd_say hrok.1)⟩
  · intro H2 ⟨eD, k2⟩
    refine ⟨D, _, rfl, SqL.of eD, ?_⟩
    rw [aU.len, List.take_length, any_of]
    exact k H2 (s1.trans k2)
end
end Lm
namespace Lm
open PySem L2
abbrev s_count : Stmt := topS 10
abbrev s_split : Stmt := topS 12
abbrev m_linit : Stmt := inClass (topS 11) 0
abbrev m_goes : Stmt := inClass (topS 11) 1
abbrev m_send : Stmt := inClass (topS 11) 2
abbrev m_keep : Stmt := inClass (topS 11) 3
/-- a method that lets nothing out, as its callers need it -/
structure Dm (P : Program) (w : World) (K : PySem.W.Frag) (mg : Str → Option Value) (base : Heap) (C : Addr) (m : Str) (k : Nat) (f : Addr) (fd : FuncData) (ps : List Str) (sp : Sp) : Prop where
  ok : FnOk P w K mg base CX0 k f fd ps sp
  me : Meth K C m f
  b : Binds K fd ps []
theorem pe_dm {X : Cx} {C : Addr} {m : Str} {k : Nat} {f : Addr} {fd : FuncData} {ps : List Str} {sp : Sp} {o e : Expr} {es : List Expr} {apos pos : Pos} {ta : TE} {t : TA} {pl : Sem Bool} (D : Dm X.prog X.w X.K X.mg X.base C m k f fd ps sp) (c : Cls X.K C) (hr : Room k X.A) (ho : PE X o ta) (ha : PA X (e :: es) t)
    (hst : starEach (e :: es) X.env = (false, eval e X.env) :: starEach es X.env := by rfl) (hpl : (backTo pos (starEach es X.env)).any (·.1) = false := by rfl)
    (ht : eval (.Call (.Attribute o m apos) (e :: es) [] pos) X.env = (do
      let ov ← eval o X.env
      standAt apos.atName
      let (f, first) ← holding [ov] (getMethod ov m pl)
      callWith pos f first (backTo pos (starEach (e :: es) X.env)) (backToKw pos (keywordEach [] X.env))) := by rfl) :
    PE X (.Call (.Attribute o m apos) (e :: es) [] pos) (tMeth C m sp [] E0 ta t) := pe_meth ho c D.me D.ok hr D.b .nil pass0 ha hst hpl ht
/-- the class of the top -/
structure Lk (K : PySem.W.Frag) (C : Addr) : Prop where
  cl : Cls K C
  nS : NoAttr K C "setters"
  nA : NoAttr K C "asked"
  nF : NoAttr K C "failing"
  nP : NoAttr K C "speaking"
/-- rows of a body -/
structure Bd (K : PySem.W.Frag) (Hc : Hp) (l : Addr) (ss : List Str) (rs : List Row) : Prop where
  at_ : RowsAt K Hc l rs
  ok : oks ss rs
  num : tots rs ≤ 10000
  few : ss.length ≤ 60
def spCount (K : PySem.W.Frag) : Sp := fun vs H Q _ => ∃ (l : Addr) (ss : List Str) (rs : List Row), vs = [.ref l] ∧ Bd K H l ss rs ∧ ∀ (H' : Hp) (g : Addr) (kvs : List (Key × V)) (ρ : Wh), H g = none → Same H H' → H' g = some (.dK kvs) → DV (.dK kvs) ρ (60 * rs.length) → (∀ x, (ρ x).getD 0 = (cnt rs x : Int)) → Q (.ref g) H'
def spLinit (K : PySem.W.Frag) (C : Addr) : Sp := fun vs H Q _ => ∃ (p dx l : Addr) (ss : List Str) (rs : List Row) (Hc : Hp), vs = [.ref p, .ref l] ∧ H p = some (.ins C dx []) ∧ Same Hc H ∧ Hc p = none ∧ Bd K Hc l ss rs ∧ rs.length ≤ 3000 ∧ ∀ (H' : Hp) (g d : Addr), LookAt C Hc H' p g d [] rs → Q .non H'
def spGoes (K : PySem.W.Frag) (C : Addr) : Sp := fun vs H Q _ => ∃ (p g d : Addr) (v : V) (Hc : Hp) (st be : List Row) (r : Row) (ss : List Str), vs = [.ref p, v] ∧ LookAt C Hc H p g d st (r :: be) ∧ RowAt K Hc r v ∧ r.ok ss ∧ r.tot ≤ 10000 ∧ ss.length ≤ 60 ∧
  (Goes st r be → ∀ H', Same H H' → Q (.bl true) H') ∧ (¬ Goes st r be → ∀ H', Same H H' → Q (.bl false) H')
def spSend (K : PySem.W.Frag) (C : Addr) : Sp := fun vs H Q _ => ∃ (p g d : Addr) (v : V) (Hc : Hp) (st be : List Row) (to sg : Str) (a b : Vl), vs = [.ref p, v] ∧ LookAt C Hc H p g d st (.lt to sg a b :: be) ∧ RowAt K Hc (.lt to sg a b) v ∧
  ∀ H', (∀ c o, H c = some o → c ≠ g → H' c = some o) → LookAt C Hc H' p g d st be → Q .non H'
def spKeep (K : PySem.W.Frag) (C : Addr) : Sp := fun vs H Q _ => ∃ (p g d : Addr) (v : V) (Hc : Hp) (st be : List Row) (r : Row) (ss : List Str), vs = [.ref p, v] ∧ LookAt C Hc H p g d st (r :: be) ∧ RowAt K Hc r v ∧ r.ok ss ∧ r.tot ≤ 10000 ∧ ss.length ≤ 60 ∧ st.length ≤ 3000 ∧
  ∀ H', (∀ c o, H c = some o → c ≠ p → c ≠ d → H' c = some o) → LookAt C Hc H' p g d (st ++ [r]) be → Q .non H'
theorem pg_one {K : PySem.W.Frag} {H : Hp} {L : Addr} {v : V} {r : Row} {ss : List Str} (e : H L = some (.lst [v])) (h : RowAt K H r v) (ok : r.ok ss) (n : r.tot ≤ 10000) (f : ss.length ≤ 60) : Pg K H L ss [r] := ⟨⟨[v], SqL.of e, AllAt.one h⟩, ⟨ok, True.intro⟩, n, f⟩
section
variable {P : Program} {w : World} {K : PySem.W.Frag} {mg : Str → Option Value} {base : Heap} {f C f1 f2 f3 : Addr} {fd d1 d2 d3 : FuncData}
theorem sc_count : FnScope ["body", "setters", "row", "name"] ["body"] (defScope s_count) := ⟨rfl, rfl, rfl, by decide +kernel, rfl, by decide +kernel, by decide +kernel⟩
theorem row_tot_le : ∀ {rs : List Row} {i : Nat} {r : Row}, rs[i]? = some r → r.tot ≤ tots rs
  | [], _, _, e => by cases e
  | q :: rs, 0, r, e => by
    cases e
    exact Nat.le_add_right _ _
  | q :: rs, i + 1, r, e => Nat.le_trans (row_tot_le (rs := rs) (by simpa using e)) (Nat.le_add_left _ _)
open Classical in
theorem ok_count (F : Fun K "count_setters" "count_setters" s_count f fd) (DS : Df P w K mg base "sets" 2 f1 d1 ["rows"] (spNamed K setN)) : FnOk P w K mg base CX0 3 f fd ["body"] (spCount K) := by
  refine F.ok sc_count (fun vs H Q E h => ?_) (fun cdv A outer s H vs Q E hr h => ?_)
  · obtain ⟨l, ss, rs, rfl, _⟩ := h
    rfl
  obtain ⟨l, ss, rs, rfl, ⟨⟨vs, eS, eA⟩, hok, hnum, hfew⟩, k⟩ := h
  have nd := sc_count.nd
  have hu := hu_of hr
  refine ⟨_, pss_cons (ps_set (i := 1) nd rfl (Or.inl rfl) pe_dnewK) <|
    pss_cons (ps_for PassesOwn.never rfl (pi_list (pv 0)) (pg_name (i := 2) nd rfl (Or.inl rfl))
      (pss_one (ps_for PassesOwn.never rfl (pi_list (pe_df DS hr (pa_cons (pe_lst (pa_cons (pv 2) pa_nil)) pa_nil))) (pg_name (i := 3) nd rfl (Or.inl rfl))
        (pss_one (ps_dput hu (pv 1) (pv 3) (pe_op op_add (pe_dget2 hu (pv 1) (pv 3) pe_int ⟨rfl, rfl, rfl, rfl⟩) pe_int) rfl))))) <|
    pss_one (ps_ret (pv 1)), ?_⟩
  intro g hg
  have s0 := same_new hg (.dK [])
  have hl := len_tots rs
  refine ⟨_, rfl, l, rfl, ⟨_, s0.seq eS⟩, for_list (K := K) (a := l) (xs := vs) (fun i σ H' => ∃ (v2 v3 : Option V) (kvs : List (Key × V)) (ρ : Wh), σ = [some (.ref l), some (.ref g), v2, v3] ∧ Same H H' ∧ H' g = some (.dK kvs) ∧ DV (.dK kvs) ρ (60 * i) ∧ ∀ x, (ρ x).getD 0 = (cnt (rs.take i) x : Int))
    ⟨none, none, [], _, rfl, s0, upd_same, DV.nil, fun x => rfl⟩ (fun i σ H' _ ⟨_, _, _, _, _, s1, _⟩ => s1.seq eS) ?_ ?_⟩
  · rintro i v σ H1 hi ⟨v2, v3, kvs, ρ, rfl, s1, eg, dv, hc⟩
    obtain ⟨r, hri, hrow⟩ := eA.at hi
    have hir : i < rs.length := (List.getElem?_eq_some_iff.mp hri).1
    refine ⟨_, rfl, (by show 1 ≤ sizeLine; decide), fun L hL => ?_⟩
    obtain ⟨H2, g2, s2, eL⟩ := newH hL (.lst [v])
    rw [g2]
    have s12 := s1.trans s2
    refine ⟨L, ss, [r], rfl, pg_one eL (RowAt.mono (Same.kp s12) r v hrow) (oks_at hok hri) (Nat.le_trans (row_tot_le hri) hnum) hfew, fun H3 q ys s3 hq eq so ndy mem => ?_⟩
    have s13 := s12.trans s3
    have eg3 := (s2.trans s3) _ _ eg
    have nqg : q ≠ g := ne_of eq eg3 (by intro z; cases z)
    have few : ys.length ≤ 60 := Nat.le_trans (nodup_le ndy fun x hx => setN_in' (oks_flats (rs := [r]) ⟨oks_at hok hri, True.intro⟩) ((mem x).mp hx)) hfew
    refine ⟨q, rfl, ⟨_, SqL.of eq⟩, for_list (K := K) (a := q) (xs := ys.map V.str) (fun j σ H' => ∃ (v3 : Option V) (kvs : List (Key × V)) (ρ : Wh), σ = [some (.ref l), some (.ref g), some v, v3] ∧ Same H H' ∧ H' q = some (.lst (ys.map V.str)) ∧ H' g = some (.dK kvs) ∧ DV (.dK kvs) ρ (60 * i + j) ∧ ∀ x, (ρ x).getD 0 = (cnt (rs.take i) x : Int) + (if x ∈ ys.take j then 1 else 0))
      ⟨v3, kvs, ρ, rfl, s13, eq, eg3, dv, fun x => by rw [hc x]; simp⟩ (fun j σ H' _ ⟨_, _, _, _, _, e, _⟩ => SqL.of e) ?_ ?_⟩
    · rintro j y σ H4 hj ⟨v3', kvs', ρ', rfl, s4, eq4, eg4, dv4, hc4⟩
      obtain ⟨z, hz, rfl⟩ : ∃ z, ys[j]? = some z ∧ y = V.str z := by
        rw [List.getElem?_map] at hj
        cases e : ys[j]? with
        | none => rw [e] at hj; cases hj
        | some z => rw [e] at hj; exact ⟨z, rfl, (Option.some.inj hj).symm⟩
      have hjl : j < ys.length := (List.getElem?_eq_some_iff.mp hz).1
      refine ⟨_, rfl, g, rfl, .inl ⟨kvs', .inl eg4⟩, _, rfl, _, DGet.k (k := Sum.inr z) eg4, ?_⟩
      rw [dv4.get z]
      have f4 := dv4.few
      refine ⟨_, _, rfl, rfl, _, rfl, _, rfl, g, _, rfl, DPut.k (k := Sum.inr z) eg4 (by rw [sizeLine_eq]; omega), ?_⟩
      have nz : z ∉ ys.take j := fun hm => by
        have e1 := List.take_append_drop j ys
        have e2 : ys.drop j = z :: ys.drop (j + 1) := by
          obtain ⟨h5, h6⟩ := List.getElem?_eq_some_iff.mp hz
          rw [List.drop_eq_getElem_cons h5, h6]
        rw [← e1, e2, List.nodup_append] at ndy
        exact ndy.2.2 z hm z List.mem_cons_self rfl
      refine ⟨_, _, _, rfl, fun b o hb => by rw [upd_ne (ne_of_none hb hg)]; exact s4 b o hb, by rw [upd_ne nqg]; exact eq4, upd_same, dv4.put z _, fun x => ?_⟩
      rw [take_one hz]
      unfold Wh.set
      by_cases c : x = z
      · subst c
        rw [if_pos rfl, if_pos (List.mem_append_right _ (List.mem_singleton.mpr rfl))]
        show (ρ' x).getD 0 + 1 = _
        rw [hc4 x, if_neg nz]
        omega
      · rw [if_neg c, hc4 x]
        by_cases c2 : x ∈ ys.take j
        · rw [if_pos c2, if_pos (List.mem_append_left _ c2)]
        · rw [if_neg c2, if_neg (fun h => (List.mem_append.mp h).elim c2 fun h => c (List.mem_singleton.mp h))]
    · rintro σ H4 ⟨v3', kvs', ρ', rfl, s4, eq4, eg4, dv4, hc4⟩
      rw [List.length_map] at dv4 hc4
      refine ⟨_, _, kvs', ρ', rfl, s4, eg4, dv4.more (by omega), fun x => ?_⟩
      rw [hc4 x, List.take_length, take_one hri, cnt_one]
      by_cases c : x ∈ ys
      · have := (mem x).mp c
        rw [flats_one] at this
        rw [if_pos c, if_pos this]
        push_cast
        rfl
      · have : ¬ setN r.flat x := fun h => c ((mem x).mpr (by rw [flats_one]; exact h))
        rw [if_neg c, if_neg this]
        push_cast
        rfl
  · rintro σ H1 ⟨v2, v3, kvs, ρ, rfl, s1, eg, dv, hc⟩
    rw [eA.len] at dv hc
    rw [List.take_length] at hc
    exact ⟨_, rfl, k H1 g kvs ρ hg s1 eg dv hc⟩
end
end Lm
namespace Lm
open PySem L2
theorem dkv_some {ks : List Key} {k : Key} : (valV (dkv ks) k).isSome = true ↔ k ∈ ks := by
  cases e : valV (dkv ks) k with
  | none =>
    have h := valV_not e
    rw [dkv_keys] at h
    exact ⟨fun z => (by cases z), fun z => absurd z h⟩
  | some v =>
    have h := valV_in e
    rw [dkv_keys] at h
    exact ⟨fun _ => h, fun _ => rfl⟩
section
variable {P : Program} {w : World} {K : PySem.W.Frag} {mg : Str → Option Value} {base : Heap} {f C f1 f2 f3 : Addr} {fd d1 d2 d3 : FuncData}
theorem sc_linit : FnScope ["self", "body"] ["self", "body"] (defScope m_linit) := ⟨rfl, rfl, rfl, by decide +kernel, rfl, by decide +kernel, by decide +kernel⟩
theorem ok_linit (F : Fun K "__init__" "Look.__init__" m_linit f fd) (T : Lk K C) (DC : Df P w K mg base "count_setters" 3 f1 d1 ["body"] (spCount K)) : FnOk P w K mg base CX0 4 f fd ["self", "body"] (spLinit K C) := by
  refine F.ok sc_linit (fun vs H Q E h => ?_) (fun cdv A outer s H vs Q E hr h => ?_)
  · obtain ⟨p, dx, l, ss, rs, Hc, rfl, _⟩ := h
    rfl
  obtain ⟨p, dx, l, ss, rs, Hc, rfl, hp, hc, hcp, hB, hlen, k⟩ := h
  refine ⟨_, pss_cons (ps_fld (pv 0) (pe_df DC hr (pa_cons (pv 1) pa_nil)) rfl) <|
    pss_cons (ps_fld (pv 0) pe_dnewK rfl) <|
    pss_cons (ps_fld (pv 0) pe_bl rfl) <|
    pss_one (ps_fld (pv 0) pe_bl rfl), ?_⟩
  refine ⟨_, rfl, l, ss, rs, rfl, ⟨hB.at_.mono (Same.kp hc), hB.ok, hB.num, hB.few⟩, fun H1 g kvs ρ hg s1 eg dv hcn => ?_⟩
  have npg : p ≠ g := ne_of_none hp hg
  refine ⟨_, rfl, p, C, dx, _, rfl, s1 _ _ hp, T.cl, T.nS, (by show 0 < 1000; decide), ?_⟩
  intro d hd
  have npd : p ≠ d := ne_of_none upd_same hd
  have hd1 : H1 d = none := by rw [upd_ne npd.symm] at hd; exact hd
  have ngd : g ≠ d := ne_of_none eg hd1
  have hcd : Hc d = none := hc.free (s1.free hd1)
  refine ⟨_, rfl, p, C, dx, _, rfl, (by rw [upd_ne npd]; exact upd_same), T.cl, T.nA, (by show 1 < 1000; decide), ?_⟩
  refine ⟨_, rfl, p, C, dx, _, rfl, upd_same, T.cl, T.nF, (by (repeat (first | rw [put_end] | rw [put_next (by decide +kernel)])); show 2 < 1000; decide), ?_⟩
  refine ⟨_, rfl, p, C, dx, _, rfl, upd_same, T.cl, T.nP, (by (repeat (first | rw [put_end] | rw [put_next (by decide +kernel)])); show 3 < 1000; decide), ?_⟩
  have hfew := dv.few
  refine k _ g d ⟨⟨dx, by rw [upd_same, lf_made]; rfl⟩, ngd, ⟨kvs, ρ, ?_, dv.more (by omega), by omega, fun x => hcn x⟩, ⟨[], ?_, List.nodup_nil, Nat.zero_le _, (fun _ h => by cases h), fun x => ⟨fun h => (by cases h), fun ⟨r, h, _⟩ => (by cases h)⟩⟩, fun b o hb => ?_, hcp, hc.free hg, hcd⟩
  · rw [upd_ne npg.symm, upd_ne npg.symm, upd_ne npg.symm, upd_ne ngd, upd_ne npg.symm]
    exact eg
  · rw [upd_ne npd.symm, upd_ne npd.symm, upd_ne npd.symm, upd_same]
    rfl
  · have hbp := ne_of_none hb hcp
    rw [upd_ne hbp, upd_ne hbp, upd_ne hbp, upd_ne (ne_of_none hb hcd), upd_ne hbp]
    exact s1 b o (hc b o hb)
abbrev nGoes : List Str := ["self", "row", "to", "name"]
theorem sc_goes : FnScope nGoes ["self", "row"] (defScope m_goes) := ⟨rfl, rfl, rfl, by decide +kernel, rfl, by decide +kernel, by decide +kernel⟩
theorem ok_goes (F : Fun K "goes_ahead" "Look.goes_ahead" m_goes f fd) (T : Lk K C) (B : Bn mg) (DM : Df P w K mg base "may_fail" 2 f1 d1 ["rows"] (spSome K Row.fails)) (DR : Df P w K mg base "reads" 2 f2 d2 ["rows"] (spNamed K askN)) : FnOk P w K mg base CX0 3 f fd ["self", "row"] (spGoes K C) := by
  refine F.ok sc_goes (fun vs H Q E h => ?_) (fun cdv A outer s H vs Q E hr h => ?_)
  · obtain ⟨p, g, d, v, Hc, st, be, r, ss, rfl, _⟩ := h
    rfl
  obtain ⟨p, g, d, v, Hc, st, be, r, ss, rfl, hL, hR, hok, htot, hfew, k1, k2⟩ := h
  have nd := sc_goes.nd
  have hu := hu_of hr
  refine ⟨_, pss_cons (ps_if (PW.pt (pw_or (pt_cmpR op_ne (pe_ix ix_tup (pv 1) pe_int (fun _ _ => rfl)) pe_str (nomark _)) (pw_or1 (pt_val (pe_fld (pv 0) rfl))))) (pss_one (ps_ret pe_bl)) pss_nil) <|
    C8.pss_cut (ps_if (PW.pt (pw_and (pt_val (pe_fld (pv 0) rfl)) (pw_and1 (pt_val (pe_df DM hr (pa_cons (pe_lst (pa_cons (pv 1) pa_nil)) pa_nil)))))) (pss_one (ps_ret pe_bl)) pss_nil) <|
    pss_cons (ps_set (i := 2) nd rfl (Or.inl rfl) (pe_ix ix_tup (pv 1) pe_int (fun _ _ => rfl))) <|
    pss_cons (ps_if (PW.pt (pw_or (pt_cmpR op_gt (pe_dget hu (pe_fld (pv 0) rfl) (pv 2) (fun _ _ => rfl)) pe_int (nomark _)) (pw_or1 (pt_cmp (pc_din hu (pv 2) (pe_fld (pv 0) rfl)))))) (pss_one (ps_ret pe_bl)) pss_nil) <|
    pss_one (ps_ret (pe_callB (cr_all rfl) rfl B.all (by decide +kernel) (pa_cons (pe_lc (own := [("name", 3)]) (g := gName 3) rfl nd (pi_list (pe_df DR hr (pa_cons (pe_lst (pa_cons (pv 1) pa_nil)) pa_nil)))
      (blkOk_by (N := nGoes) (sc := defScope m_goes) (by decide +kernel)) (fun _ _ _ _ _ => pg_name (i := 3) nd rfl (Or.inl rfl)) (fun _ _ _ _ _ => pts_nil)
      (fun _ _ _ _ _ => pe_cmpR op_eq (pe_dget2 hu (show PE _ _ (tFld K (tVar 0) "setters") from pe_fld (pv 0) rfl) (pv 3) pe_int ⟨rfl, rfl, rfl, rfl⟩) pe_int (nomark _))) pa_nil))), ?_⟩
  obtain ⟨dx, h1⟩ := hL.ob
  match r, hR, hok, htot, hL, k1, k2 with
  | .sy a, ⟨u, e1, e2⟩, hok, htot, hL, k1, k2 =>
    subst e1
    have hT := Kp.sqT (Same.kp hL.cl) e2
    refine ⟨_, rfl, u, _, _, _, rfl, rfl, hT, atI_nat (j := 0) rfl, rfl, _, rfl, ifT (by decide +kernel) (iteT ?_)⟩
    exact k2 (fun ⟨to, sg, x, y, z, _⟩ => Row.noConfusion z) H (Same.refl H)
  | .bk kd ts qs, ⟨u, l2, zs, e1, e2, _⟩, hok, htot, hL, k1, k2 =>
    subst e1
    have hT := Kp.sqT (Same.kp hL.cl) e2
    refine ⟨_, rfl, u, _, _, _, rfl, rfl, hT, atI_nat (j := 0) rfl, rfl, _, rfl, ifT (by rw [kd_let hok.1]; rfl) (iteT ?_)⟩
    exact k2 (fun ⟨to, sg, x, y, z, _⟩ => Row.noConfusion z) H (Same.refl H)
  | .lt to sg a b, ⟨u, e1, e2⟩, hok, htot, hL, k1, k2 =>
    subst e1
    have hT := Kp.sqT (Same.kp hL.cl) e2
    refine ⟨_, rfl, u, _, _, _, rfl, rfl, hT, atI_nat (j := 0) rfl, rfl, _, rfl, iteNS rfl ?_⟩
    refine ⟨_, rfl, p, C, dx, _, _, rfl, h1, T.cl, T.nF, lf_failing _ _ _ _, _, rfl, ?_⟩
    by_cases c1 : (flats st).any Row.fails = true
    · refine ifT c1 (k2 (fun ⟨to', sg', x, y, z, g1, _⟩ => by rw [c1] at g1; cases g1) H (Same.refl H))
    have c1' : (flats st).any Row.fails = false := Bool.eq_false_iff.mpr c1
    refine ifF c1' ?_
    have only : ∀ {to' sg' : Str} {x y : Vl}, Row.lt to sg a b = .lt to' sg' x y → to' = to := fun e => by cases e; rfl
    have fone : (flats [Row.lt to sg a b]).any Row.fails = (Row.lt to sg a b).fails := by
      rw [flats_one]
      show ((Row.lt to sg a b).fails || false) = _
      rw [Bool.or_false]
    refine ⟨fun σ H' => σ = [some (.ref p), some (.ref u), none, none] ∧ Same H H' ∧ ((Row.lt to sg a b).fails = true → (flats st).any Row.says = false), ?_, ?_⟩
    · refine ⟨_, rfl, p, C, dx, _, _, rfl, h1, T.cl, T.nP, lf_speaking _ _ _ _, _, rfl, ?_⟩
      by_cases c2 : (flats st).any Row.says = true
      · refine ifT c2 ⟨_, rfl, (by show 1 ≤ sizeLine; decide), fun L hL1 => ?_⟩
        obtain ⟨H2, g2, s2, eL⟩ := newH hL1 (.lst [.ref u])
        rw [g2]
        refine ⟨L, ss, [.lt to sg a b], rfl, pg_one eL ⟨u, rfl, Kp.sqT (Same.kp s2) hT⟩ hok htot hfew, fun H3 s3 => ⟨_, rfl, ?_⟩⟩
        rw [fone]
        by_cases c3 : (Row.lt to sg a b).fails = true
        · refine ifT c3 (k2 (fun ⟨to', sg', x, y, z, g1, g3, _⟩ => ?_) H3 (s2.trans s3))
          have := g3 c3
          rw [c2] at this
          cases this
        · exact ifF (Bool.eq_false_iff.mpr c3) ⟨rfl, s2.trans s3, fun z => absurd z c3⟩
      · have c2' := Bool.eq_false_iff.mpr c2
        exact ifF c2' (iteF ⟨rfl, Same.refl H, fun _ => c2'⟩)
    rintro σ H1 ⟨rfl, s1, hsay⟩
    have hL1 := hL.same s1
    have hT1 := Kp.sqT (Same.kp s1) hT
    obtain ⟨dx1, h2⟩ := hL1.ob
    obtain ⟨kvs, ρ, eg, dv, hkl, hcn⟩ := hL1.sg
    obtain ⟨ks, ed, knd, klen, kin, kmem⟩ := hL1.ask
    have ct : (ρ to).getD 0 = ((cnt st to + 1 + cnt be to : Nat) : Int) := by rw [hcn to, cnt_let, if_pos rfl]
    obtain ⟨c0, hc0⟩ : ∃ c0, ρ to = some c0 := by
      cases e : ρ to with
      | none => rw [e] at ct; have : (0 : Int) = ((cnt st to + 1 + cnt be to : Nat) : Int) := ct; omega
      | some c0 => exact ⟨c0, rfl⟩
    have hc1 : c0 = ((cnt st to + 1 + cnt be to : Nat) : Int) := by rw [hc0] at ct; exact ct
    have gs := DGet.k (k := Sum.inr to) eg
    obtain ⟨kvs', ek, _, _, hv, _⟩ := dv.ex
    cases ek
    rw [hv to, hc0] at gs
    refine ⟨_, rfl, u, _, _, _, rfl, rfl, hT1, atI_nat (j := 1) rfl, ?_⟩
    refine ⟨_, rfl, p, C, dx1, _, _, rfl, h2, T.cl, T.nS, lf_setters _ _ _ _, _, rfl, g, _, rfl, gs, _, _, rfl, rfl, _, rfl, ?_⟩
    have nset : ¬ (setN (flats st) to ∨ setN (flats be) to) ↔ c0 = 1 := by
      rw [not_or, ← cnt_zero, ← cnt_zero]
      omega
    by_cases c2 : c0 > 1
    · refine ifT (decide_eq_true c2) (iteT (k2 (fun ⟨to', sg', x, y, z, g1, g3, g4, g5, _⟩ => ?_) H1 s1))
      have e := only z
      subst e
      have := nset.mp (fun h => h.elim g4 g5)
      omega
    have c3 : c0 = 1 := by omega
    refine ifF (decide_eq_false c2) ?_
    refine ⟨_, rfl, _, rfl, p, C, dx1, _, _, rfl, h2, T.cl, T.nA, lf_asked _ _ _ _, d, _, rfl, DGet.k (k := Sum.inr to) ed, _, rfl, ?_⟩
    by_cases c4 : (valV (dkv ks) (Sum.inr to)).isSome = true
    · refine ifT c4 (k2 (fun ⟨to', sg', x, y, z, g1, g3, g4, g5, g6, _⟩ => ?_) H1 s1)
      have e := only z
      subst e
      exact g6 ((kmem to').mp (dkv_some.mp c4))
    have nask : ¬ askN (flats st) to := fun h => c4 (dkv_some.mpr ((kmem to).mpr h))
    refine ifF (Bool.eq_false_iff.mpr c4) ?_
    refine ⟨_, rfl, (by show 1 ≤ sizeLine; decide), fun L hL2 => ?_⟩
    obtain ⟨H2, g2, s2, eL⟩ := newH hL2 (.lst [.ref u])
    rw [g2]
    refine ⟨L, ss, [.lt to sg a b], rfl, pg_one eL ⟨u, rfl, Kp.sqT (Same.kp s2) hT1⟩ hok htot hfew, fun H3 q ys s3 hq eq so ndy mem => ?_⟩
    have s13 := s2.trans s3
    refine ⟨q, rfl, ⟨_, SqL.of eq⟩, fun D hD => lc_list (xs := ys.map V.str) (fun i H' => H' D = some (.lst (((ys.take i).map fun x => decide ((ρ x).getD 0 = 0)).map V.bl)) ∧ Same H3 H') ⟨upd_same, same_new hD _⟩ (fun i H' _ p => p.2.seq (SqL.of eq)) ?_ ?_⟩
    · intro i y H4 hi ⟨eD, s4⟩
      obtain ⟨z, hz, rfl⟩ : ∃ z, ys[i]? = some z ∧ y = V.str z := by
        rw [List.getElem?_map] at hi
        cases e : ys[i]? with
        | none => rw [e] at hi; cases hi
        | some z => rw [e] at hi; exact ⟨z, rfl, (Option.some.inj hi).symm⟩
      have few : ys.length ≤ 60 := Nat.le_trans (nodup_le ndy fun x hx => askN_in' (oks_flats (rs := [.lt to sg a b]) ⟨hok, True.intro⟩) ((mem x).mp hx)) hfew
      have eg4 := (s13.trans s4) _ _ eg
      refine ⟨rfl, yes (iteT ?_)⟩
      refine ⟨_, rfl, p, C, dx1, _, _, rfl, (s13.trans s4) _ _ h2, T.cl, T.nS, lf_setters _ _ _ _, g, rfl, .inl ⟨kvs, .inl eg4⟩, _, rfl, _, DGet.k (k := Sum.inr z) eg4, ?_⟩
      rw [dv.get z]
      refine ⟨rfl, ?_⟩
      refine ⟨_, eD, ?_, ?_, fun c o hc => ?_⟩
      · rw [List.length_map, List.length_map, List.length_take, sizeLine_eq]
        omega
      · rw [upd_same, take_one hz, List.map_append, List.map_append]
        have e : decide (V.int ((ρ z).getD 0) = V.int 0) = decide ((ρ z).getD 0 = 0) := by
          by_cases h : (ρ z).getD 0 = 0
          · rw [h]; rfl
          · rw [decide_eq_false h, decide_eq_false (fun y => h (V.int.inj y))]
        rw [e]
        rfl
      · rw [upd_ne (ne_of_none hc hD)]
        exact s4 c o hc
    · intro H4 ⟨eD, s4⟩
      refine ⟨D, _, rfl, SqL.of eD, ?_⟩
      have s14 := s1.trans (s13.trans s4)
      rw [List.length_map, List.take_length]
      have ask1 : ∀ x, x ∈ ys ↔ V.str x ∈ (Row.lt to sg a b).asks := fun x => by
        rw [mem x, flats_one]
        show askN [Row.lt to sg a b] x ↔ _
        unfold askN
        simp
      have zero : ∀ x, (ρ x).getD 0 = 0 ↔ (x ≠ to ∧ ¬ setN (flats st) x ∧ ¬ setN (flats be) x) := fun x => by
        rw [hcn x, cnt_let, ← cnt_zero, ← cnt_zero]
        by_cases h : x = to
        · rw [if_pos h]
          exact ⟨fun z => by omega, fun z => absurd h z.1⟩
        · rw [if_neg h]
          exact ⟨fun z => ⟨h, by omega, by omega⟩, fun z => by omega⟩
      by_cases c5 : ∀ x, V.str x ∈ (Row.lt to sg a b).asks → x ≠ to ∧ ¬ setN (flats st) x ∧ ¬ setN (flats be) x
      · have e : (ys.map fun x => decide ((ρ x).getD 0 = 0)).all id = true := by
          rw [List.all_map, List.all_eq_true]
          exact fun x hx => decide_eq_true ((zero x).mpr (c5 x ((ask1 x).mp hx)))
        rw [e]
        have ns := nset.mpr c3
        exact k1 ⟨to, sg, a, b, rfl, c1', hsay, fun h => ns (.inl h), fun h => ns (.inr h), nask, c5⟩ H4 s14
      · have e : (ys.map fun x => decide ((ρ x).getD 0 = 0)).all id = false := by
          rw [Bool.eq_false_iff]
          intro h
          rw [List.all_map, List.all_eq_true] at h
          exact c5 fun x hx => (zero x).mp (of_decide_eq_true (h x ((ask1 x).mpr hx)))
        rw [e]
        refine k2 (fun ⟨to', sg', x, y, z, g1, g3, g4, g5, g6, g7⟩ => c5 ?_) H4 s14
        have e := only z
        subst e
        exact g7
end
end Lm
namespace Lm
open PySem L2
section
variable {P : Program} {w : World} {K : PySem.W.Frag} {mg : Str → Option Value} {base : Heap} {f C f1 f2 f3 f4 : Addr} {fd d1 d2 d3 d4 : FuncData}
theorem sc_send : FnScope ["self", "row"] ["self", "row"] (defScope m_send) := ⟨rfl, rfl, rfl, by decide +kernel, rfl, by decide +kernel, by decide +kernel⟩
theorem ok_send (F : Fun K "send_ahead" "Look.send_ahead" m_send f fd) (T : Lk K C) : FnOk P w K mg base CX0 1 f fd ["self", "row"] (spSend K C) := by
  refine F.ok sc_send (fun vs H Q E h => ?_) (fun cdv A outer s H vs Q E hr h => ?_)
  · obtain ⟨p, g, d, v, Hc, st, be, to, sg, a, b, rfl, _⟩ := h
    rfl
  obtain ⟨p, g, d, v, Hc, st, be, to, sg, a, b, rfl, hL, ⟨u, e1, e2⟩, k⟩ := h
  subst e1
  have hu := hu_of hr
  refine ⟨_, pss_one (ps_daug hu (pe_fld (pv 0) rfl) (pe_ix ix_tup (pv 1) pe_int (fun _ _ => rfl)) pe_int in_sub (fun _ _ _ => rfl)), ?_⟩
  obtain ⟨n1, n2, n3⟩ := hL.ne
  obtain ⟨dx, h1⟩ := hL.ob
  obtain ⟨kvs, ρ, eg, dv, hkl, hcn⟩ := hL.sg
  obtain ⟨ks, ed, knd, klen, kin, kmem⟩ := hL.ask
  have hT := Kp.sqT (Same.kp hL.cl) e2
  have ct : (ρ to).getD 0 = ((cnt st to + 1 + cnt be to : Nat) : Int) := by rw [hcn to, cnt_let, if_pos rfl]
  obtain ⟨c0, hc0⟩ : ∃ c0, ρ to = some c0 := by
    cases e : ρ to with
    | none => rw [e] at ct; have : (0 : Int) = ((cnt st to + 1 + cnt be to : Nat) : Int) := ct; omega
    | some c0 => exact ⟨c0, rfl⟩
  have hc1 : c0 = ((cnt st to + 1 + cnt be to : Nat) : Int) := by rw [hc0] at ct; exact ct
  have gs := DGet.k (k := Sum.inr to) eg
  obtain ⟨kvs', ek, _, _, hv, _⟩ := dv.ex
  cases ek
  rw [hv to, hc0] at gs
  have hbe : (Row.lt to sg a b :: be).length = be.length + 1 := rfl
  refine ⟨_, rfl, p, C, dx, _, _, rfl, h1, T.cl, T.nS, lf_setters _ _ _ _, _, rfl, u, _, _, _, rfl, rfl, hT, atI_nat (j := 1) rfl, g, _, rfl, gs, _, _, rfl, rfl, _, DPut.k (k := Sum.inr to) eg (by rw [sizeLine_eq]; omega), ?_⟩
  have hpl := length_putK kvs (Sum.inr to) (V.int (c0 - 1))
  refine k _ (fun c o hc hn => by rw [upd_ne hn]; exact hc) ⟨⟨dx, by rw [upd_ne n1]; exact h1⟩, hL.ngd, ⟨_, _, upd_same, (dv.tight.put to (c0 - 1)).more (by omega), by omega, fun x => ?_⟩, ⟨ks, by rw [upd_ne n3.symm]; exact ed, knd, klen, kin, kmem⟩, same_put hL.cl hL.cg _, hL.cp, hL.cg, hL.cd⟩
  unfold Wh.set
  by_cases c : x = to
  · subst c
    rw [if_pos rfl, cnt_app]
    show c0 - 1 = _
    omega
  · rw [if_neg c, hcn x, cnt_let, if_neg c, cnt_app, Nat.add_zero]
theorem sc_keep : FnScope ["self", "row", "name"] ["self", "row"] (defScope m_keep) := ⟨rfl, rfl, rfl, by decide +kernel, rfl, by decide +kernel, by decide +kernel⟩
theorem ok_keep (F : Fun K "keep" "Look.keep" m_keep f fd) (T : Lk K C) (DR : Df P w K mg base "reads" 2 f1 d1 ["rows"] (spNamed K askN)) (DM : Df P w K mg base "may_fail" 2 f2 d2 ["rows"] (spSome K Row.fails)) (DS : Df P w K mg base "speaks" 2 f3 d3 ["rows"] (spSome K Row.says)) : FnOk P w K mg base CX0 3 f fd ["self", "row"] (spKeep K C) := by
  refine F.ok sc_keep (fun vs H Q E h => ?_) (fun cdv A outer s H vs Q E hr h => ?_)
  · obtain ⟨p, g, d, v, Hc, st, be, r, ss, rfl, _⟩ := h
    rfl
  obtain ⟨p, g, d, v, Hc, st, be, r, ss, rfl, hL, hR, hok, htot, hfew, hstl, k⟩ := h
  have nd := sc_keep.nd
  have hu := hu_of hr
  refine ⟨_, pss_cons (ps_for PassesOwn.never rfl (pi_list (pe_df DR hr (pa_cons (pe_lst (pa_cons (pv 1) pa_nil)) pa_nil))) (pg_name (i := 2) nd rfl (Or.inl rfl)) (pss_one (ps_dput hu (pe_fld (pv 0) rfl) (pv 2) pe_bl rfl))) <|
    C8.pss_cut (ps_fld (pv 0) (pe_or (pe_fld (pv 0) rfl) (pe_one (pe_df DM hr (pa_cons (pe_lst (pa_cons (pv 1) pa_nil)) pa_nil)))) rfl) <|
    pss_one (ps_fld (pv 0) (pe_or (pe_fld (pv 0) rfl) (pe_one (pe_df DS hr (pa_cons (pe_lst (pa_cons (pv 1) pa_nil)) pa_nil)))) rfl), ?_⟩
  obtain ⟨n1, n2, n3⟩ := hL.ne
  obtain ⟨dx, h1⟩ := hL.ob
  obtain ⟨kvs, ρ, eg, dv, hkl, hcn⟩ := hL.sg
  obtain ⟨ks, ed, knd, klen, kin, kmem⟩ := hL.ask
  have hR0 := RowAt.mono (Same.kp hL.cl) r v hR
  refine ⟨_, rfl, (by show 1 ≤ sizeLine; decide), fun L hL0 => ?_⟩
  obtain ⟨H1, g1, s1, eL⟩ := newH hL0 (.lst [v])
  rw [g1]
  refine ⟨L, ss, [r], rfl, pg_one eL (RowAt.mono (Same.kp s1) r v hR0) hok htot hfew, fun H2 q ys s2 hq eq so ndy mem => ?_⟩
  have s12 := s1.trans s2
  have few : ys.length ≤ 60 := Nat.le_trans (nodup_le ndy fun x hx => askN_in' (oks_flats (rs := [r]) ⟨hok, True.intro⟩) ((mem x).mp hx)) hfew
  have ed2 := s12 _ _ ed
  have nqd : q ≠ d := ne_of eq ed2 (by intro z; cases z)
  -- what stood stands, but for d
  refine ⟨q, rfl, ⟨_, SqL.of eq⟩, for_list (K := K) (a := q) (xs := ys.map V.str) (fun j σ H' => ∃ (v2 : Option V) (ms : List Key), σ = [some (.ref p), some v, v2] ∧ (∀ c o, H2 c = some o → c ≠ d → H' c = some o) ∧ H' d = some (.dK (dkv ms)) ∧ ms.Nodup ∧ ms.length ≤ ks.length + j ∧ (∀ k ∈ ms, ∃ x, k = Sum.inr x) ∧ ∀ x, Sum.inr x ∈ ms ↔ Sum.inr x ∈ ks ∨ x ∈ ys.take j)
    ⟨none, ks, rfl, fun c o hc _ => hc, ed2, knd, Nat.le_refl _, kin, fun x => by simp⟩ (fun j σ H' _ ⟨_, _, _, e, _⟩ => SqL.of (e _ _ eq nqd)) ?_ ?_⟩
  · rintro j y σ H3 hj ⟨v2, ms, rfl, f3, ed3, m1, m2, m3, m4⟩
    obtain ⟨z, hz, rfl⟩ : ∃ z, ys[j]? = some z ∧ y = V.str z := by
      rw [List.getElem?_map] at hj
      cases e : ys[j]? with
      | none => rw [e] at hj; cases hj
      | some z => rw [e] at hj; exact ⟨z, rfl, (Option.some.inj hj).symm⟩
    have hjl : j < ys.length := (List.getElem?_eq_some_iff.mp hz).1
    obtain ⟨m', p1, p2, p3, p4⟩ := dkv_put ms (Sum.inr z)
    have hdl : (dkv ms).length < sizeLine := by
      unfold dkv
      rw [List.length_map, sizeLine_eq]
      omega
    refine ⟨_, rfl, p, C, dx, _, _, rfl, f3 _ _ (s12 _ _ h1) n2, T.cl, T.nA, lf_asked _ _ _ _, _, rfl, d, _, rfl, DPut.k (k := Sum.inr z) ed3 hdl, ?_⟩
    rw [p1]
    refine ⟨_, m', rfl, fun c o hc hn => by rw [upd_ne hn]; exact f3 c o hc hn, upd_same, p2 m1, by omega, fun k hk => ?_, fun x => ?_⟩
    · rcases (p3 k).mp hk with h | h
      · exact m3 k h
      · exact ⟨z, h⟩
    · rw [p3, m4, take_one hz, List.mem_append, List.mem_singleton, or_assoc]
      exact or_congr Iff.rfl (or_congr Iff.rfl ⟨Sum.inr.inj, fun h => by rw [h]⟩)
  rintro σ H3 ⟨v2, ms, rfl, f3, ed3, m1, m2, m3, m4⟩
  rw [List.length_map] at m2 m4
  rw [List.take_length] at m4
  have sB : Same Hc H3 := fun c o hc => f3 c o (s12 _ _ (hL.cl _ _ hc)) (ne_of_none hc hL.cd)
  have h3 := f3 _ _ (s12 _ _ h1) n2
  have eg3 := f3 _ _ (s12 _ _ eg) n3
  have hR3 := RowAt.mono (Same.kp sB) r v hR
  have fone : (flats [r]).any Row.fails = r.flat.any Row.fails := by rw [flats_one]
  have sone : (flats [r]).any Row.says = r.flat.any Row.says := by rw [flats_one]
  refine ⟨fun σ H' => σ = [some (.ref p), some v, v2] ∧ (∀ c o, H3 c = some o → c ≠ p → H' c = some o) ∧ H' p = some (.ins C dx (lf g d ((flats st).any Row.fails || r.flat.any Row.fails) ((flats st).any Row.says))), ?_, ?_⟩
  · refine ⟨_, rfl, p, C, dx, _, _, rfl, h3, T.cl, T.nF, lf_failing _ _ _ _, _, rfl, ?_⟩
    by_cases c : (flats st).any Row.fails = true
    · refine ifT c ⟨_, rfl, p, C, dx, _, rfl, h3, T.cl, T.nF, lf_len _ _ _ _, ?_⟩
      exact ⟨rfl, fun c o hc hn => by rw [upd_ne hn]; exact hc, by rw [upd_same, lf_put_f, c]; rfl⟩
    · have c' := Bool.eq_false_iff.mpr c
      refine ifF c' ⟨_, rfl, (by show 1 ≤ sizeLine; decide), fun L2 hL2 => ?_⟩
      obtain ⟨H4, g4, s4, eL2⟩ := newH hL2 (.lst [v])
      rw [g4]
      refine ⟨L2, ss, [r], rfl, pg_one eL2 (RowAt.mono (Same.kp s4) r v hR3) hok htot hfew, fun H5 s5 => ?_⟩
      refine ⟨_, rfl, p, C, dx, _, rfl, (s4.trans s5) _ _ h3, T.cl, T.nF, lf_len _ _ _ _, ?_⟩
      exact ⟨rfl, fun c o hc hn => by rw [upd_ne hn]; exact (s4.trans s5) c o hc, by rw [upd_same, lf_put_f, fone, c']; rfl⟩
  rintro σ H4 ⟨rfl, f4, h4⟩
  have sB4 : Same Hc H4 := fun c o hc => f4 c o (sB c o hc) (ne_of_none hc hL.cp)
  have hR4 := RowAt.mono (Same.kp sB4) r v hR
  have fin : ∀ (H5 : Hp), (∀ c o, H4 c = some o → c ≠ p → H5 c = some o) → H5 p = some (.ins C dx (lf g d ((flats st).any Row.fails || r.flat.any Row.fails) ((flats st).any Row.says || r.flat.any Row.says))) → Q .non H5 := fun H5 f5 h5 => by
    have eall : ∀ pr : Row → Bool, (flats (st ++ [r])).any pr = ((flats st).any pr || r.flat.any pr) := fun pr => by rw [flats_app, flats_one, List.any_append]
    refine k H5 (fun c o hc n1' n2' => f5 c o (f4 c o (f3 c o (s12 c o hc) n2') n1') n1') ⟨⟨dx, by rw [h5, eall, eall]⟩, hL.ngd, ⟨kvs, ρ, f5 _ _ (f4 _ _ eg3 n1.symm) n1.symm, dv, ?_, fun x => ?_⟩, ⟨ms, f5 _ _ (f4 _ _ ed3 n2.symm) n2.symm, m1, ?_, m3, fun x => ?_⟩, fun c o hc => f5 c o (sB4 c o hc) (ne_of_none hc hL.cp), hL.cp, hL.cg, hL.cd⟩
    · have hbe : (r :: be).length = be.length + 1 := rfl
      omega
    · rw [List.append_assoc]
      exact hcn x
    · rw [List.length_append]
      show _ ≤ 100 * (st.length + 1)
      omega
    · rw [m4, kmem, mem, flats_app, askN_app]
  refine ⟨_, rfl, p, C, dx, _, _, rfl, h4, T.cl, T.nP, lf_speaking _ _ _ _, _, rfl, ?_⟩
  by_cases c : (flats st).any Row.says = true
  · refine ifT c ⟨_, rfl, p, C, dx, _, rfl, h4, T.cl, T.nP, lf_len _ _ _ _, ?_⟩
    exact fin _ (fun c o hc hn => by rw [upd_ne hn]; exact hc) (by rw [upd_same, lf_put_s, c]; rfl)
  · have c' := Bool.eq_false_iff.mpr c
    refine ifF c' ⟨_, rfl, (by show 1 ≤ sizeLine; decide), fun L2 hL2 => ?_⟩
    obtain ⟨H5, g5, s5, eL2⟩ := newH hL2 (.lst [v])
    rw [g5]
    refine ⟨L2, ss, [r], rfl, pg_one eL2 (RowAt.mono (Same.kp s5) r v hR4) hok htot hfew, fun H6 s6 => ?_⟩
    refine ⟨_, rfl, p, C, dx, _, rfl, (s5.trans s6) _ _ h4, T.cl, T.nP, lf_len _ _ _ _, ?_⟩
    exact fin _ (fun c o hc hn => by rw [upd_ne hn]; exact (s5.trans s6) c o hc) (by rw [upd_same, lf_put_s, sone, c']; rfl)
/-- the rows that go ahead and those that stay, in two new lists -/
def spSplit (K : PySem.W.Frag) : Sp := fun vs H Q _ => ∃ (l : Addr) (ss : List Str) (rs : List Row) (xs : List V), vs = [.ref l] ∧ SqL K H l xs ∧ AllAt K H rs xs ∧ Bd K H l ss rs ∧ rs.length ≤ 3000 ∧
  ∀ (H' : Hp) (q A S : Addr) (us ws : List V), Same H H' → H A = none → H S = none → A ≠ S → H' q = some (.tup [.ref A, .ref S]) → H' A = some (.lst us) → H' S = some (.lst ws) → Cut rs xs (parts [] rs).1 us (parts [] rs).2 ws → Q (.ref q) H'
theorem sc_split : FnScope ["body", "look", "ahead", "stay", "row"] ["body"] (defScope s_split) := ⟨rfl, rfl, rfl, by decide +kernel, rfl, by decide +kernel, by decide +kernel⟩
theorem ok_split (F : Fun K "split_body" "split_body" s_split f fd) (T : Lk K C) (gC : mg "Look" = some (.ref C)) (M : Mk K C f1) (I : FnOk P w K mg base CX0 4 f1 d1 ["self", "body"] (spLinit K C)) (bi : Binds K d1 ["self", "body"] [])
    (G : Dm P w K mg base C "goes_ahead" 3 f2 d2 ["self", "row"] (spGoes K C)) (S : Dm P w K mg base C "send_ahead" 1 f3 d3 ["self", "row"] (spSend K C)) (Kp_ : Dm P w K mg base C "keep" 3 f4 d4 ["self", "row"] (spKeep K C)) : FnOk P w K mg base CX0 6 f fd ["body"] (spSplit K) := by
  refine F.ok sc_split (fun vs H Q E h => ?_) (fun cdv A outer s H vs Q E hr h => ?_)
  · obtain ⟨l, ss, rs, xs, rfl, _⟩ := h
    rfl
  obtain ⟨l, ss, rs, vs, rfl, eS, eA, hB, hlen, k⟩ := h
  have nd := sc_split.nd
  have r1 : Room 1 _ := hr.mono (by decide)
  have r3 : Room 3 _ := hr.mono (by decide)
  refine ⟨_, pss_cons (ps_set (i := 1) nd rfl (Or.inl rfl) (pe_make M I hr rfl gC bi .nil pass0 (pa_cons (pv 0) pa_nil))) <|
    pss_cons (ps_set (i := 2) nd rfl (Or.inl rfl) (pe_lst pa_nil)) <|
    pss_cons (ps_set (i := 3) nd rfl (Or.inl rfl) (pe_lst pa_nil)) <|
    pss_cons (ps_for PassesOwn.never rfl (pi_list (pv 0)) (pg_name (i := 4) nd rfl (Or.inl rfl))
      (pss_one (ps_if (pt_val (pe_dm G T.cl r3 (pv 1) (pa_cons (pv 4) pa_nil)))
        (pss_cons (ps_expr (pe_dm S T.cl r1 (pv 1) (pa_cons (pv 4) pa_nil))) <|
         pss_one (ps_expr (pe_bm PySem.F.plainAttrs_list PySem.F.slot_list_append PySem.F.type_list_append mt_append (pv 2) (pa_cons (pv 4) pa_nil))))
        (pss_cons (ps_expr (pe_dm Kp_ T.cl r3 (pv 1) (pa_cons (pv 4) pa_nil))) <|
         pss_one (ps_expr (pe_bm PySem.F.plainAttrs_list PySem.F.slot_list_append PySem.F.type_list_append mt_append (pv 3) (pa_cons (pv 4) pa_nil))))))) <|
    pss_one (ps_ret (pe_tup (pa_cons (pv 2) (pa_cons (pv 3) pa_nil)))), ?_⟩
  refine ⟨_, rfl, fun p dx hp hdx ndx => ?_⟩
  have s1 : Same H (upd (upd H dx (.own p)) p (.ins C dx [])) := fun b o hb => by
    rw [upd_ne (ne_of_none hb hp), upd_ne (ne_of_none hb hdx)]
    exact hb
  refine ⟨p, dx, l, ss, rs, H, rfl, upd_same, s1, hp, hB, hlen, fun H1 g d hL => ⟨rfl, ?_⟩⟩
  refine ⟨(by show 0 ≤ sizeLine; decide), fun Aa hA => ?_⟩
  obtain ⟨H2, g2, s2, eA2⟩ := newH hA (.lst [])
  rw [g2]
  refine ⟨(by show 0 ≤ sizeLine; decide), fun Ss hS => ?_⟩
  obtain ⟨H3, g3, s3, eS3⟩ := newH hS (.lst [])
  rw [g3]
  have nAS : Aa ≠ Ss := ne_of_none eA2 hS
  have hL3 := hL.same (s2.trans s3)
  have hHA : H Aa = none := hL.cl.free hA
  have hHS : H Ss = none := (hL.cl.trans s2).free hS
  have sL := eS
  refine ⟨_, rfl, l, rfl, ⟨_, hL3.cl.seq eS⟩, for_list (K := K) (a := l) (xs := vs) (fun i σ H' => ∃ (v4 : Option V) (ah st : List Row) (us ws : List V), σ = [some (.ref l), some (.ref p), some (.ref Aa), some (.ref Ss), v4] ∧ LookAt C H H' p g d st (rs.drop i) ∧ Mid rs (rs.drop i) ah st ∧ H' Aa = some (.lst us) ∧ H' Ss = some (.lst ws) ∧ Cut (rs.take i) (vs.take i) ah us st ws ∧ ah.length + st.length = i)
    ⟨none, [], [], [], [], rfl, hL3, Mid.start rs, s3 _ _ eA2, eS3, .nil, rfl⟩ (fun i σ H' _ ⟨_, _, _, _, _, _, e, _⟩ => e.cl.seq eS) ?_ ?_⟩
  · rintro i v σ H4 hi ⟨v4, ah, st, us, ws, rfl, hL4, hM, eA4, eS4, cu, hn⟩
    obtain ⟨r, hri, hrow⟩ := eA.at hi
    have hir : i < rs.length := (List.getElem?_eq_some_iff.mp hri).1
    have edr : rs.drop i = r :: rs.drop (i + 1) := by
      obtain ⟨hl, hx⟩ := List.getElem?_eq_some_iff.mp hri
      rw [List.drop_eq_getElem_cons hl, hx]
    rw [edr] at hL4 hM
    obtain ⟨dx4, h4⟩ := hL4.ob
    have hrok := oks_at hB.ok hri
    have htot := Nat.le_trans (row_tot_le hri) hB.num
    have aT : AllAt K H (rs.take i) (vs.take i) := eA.take i
    have lA := (cu.at_ aT).1.len
    have lW := (cu.at_ aT).2.len
    obtain ⟨n1, n2, n3⟩ := hL4.ne
    obtain ⟨kvs, ρ, eg, _⟩ := hL4.sg
    obtain ⟨ks, ed, _⟩ := hL4.ask
    have nAg : Aa ≠ g := ne_of eA4 eg (by intro z; cases z)
    have nAd : Aa ≠ d := ne_of eA4 ed (by intro z; cases z)
    have nAp : Aa ≠ p := ne_of eA4 h4 (by intro z; cases z)
    have nSg : Ss ≠ g := ne_of eS4 eg (by intro z; cases z)
    have nSd : Ss ≠ d := ne_of eS4 ed (by intro z; cases z)
    have nSp : Ss ≠ p := ne_of eS4 h4 (by intro z; cases z)
    have lput : ∀ {H' : Hp} {st be : List Row} {b : Addr} {o o' : HO}, LookAt C H H' p g d st be → H b = none → b ≠ p → b ≠ g → b ≠ d → LookAt C H (upd H' b o) p g d st be := fun h hb q1 q2 q3 =>
      ⟨let ⟨dx, e⟩ := h.ob; ⟨dx, by rw [upd_ne q1.symm]; exact e⟩, h.ngd, let ⟨k, ρ, a, b, c, e⟩ := h.sg; ⟨k, ρ, by rw [upd_ne q2.symm]; exact a, b, c, e⟩, let ⟨k, a, b, c, e, f⟩ := h.ask; ⟨k, by rw [upd_ne q3.symm]; exact a, b, c, e, f⟩, same_put h.cl hb _, h.cp, h.cg, h.cd⟩
    refine ⟨_, rfl, p, dx4, _, rfl, h4, lf_no _ _ _ _ (by decide +kernel), _, rfl, p, g, d, v, H, st, rs.drop (i + 1), r, ss, rfl, hL4, hrow, hrok, htot, hB.few, fun hg H5 s5 => ⟨_, rfl, iteT ?_⟩, fun hg H5 s5 => ⟨_, rfl, iteF ?_⟩⟩
    · obtain ⟨to, sg, a, b, er, _⟩ := id hg
      have hL5 := hL4.same s5
      have h5 := s5 _ _ h4
      have hrow' : RowAt K H (.lt to sg a b) v := by rw [← er]; exact hrow
      rw [er] at hL5
      refine ⟨_, rfl, p, dx4, _, rfl, h5, lf_no _ _ _ _ (by decide +kernel), _, rfl, p, g, d, v, H, st, rs.drop (i + 1), to, sg, a, b, rfl, hL5, hrow', fun H6 f6 hL6 => ?_⟩
      have eA6 := f6 _ _ (s5 _ _ eA4) nAg
      have eS6 := f6 _ _ (s5 _ _ eS4) nSg
      refine ⟨_, rfl, .inl ⟨rfl, _, SqL.of eA6⟩, _, rfl, Aa, us, _, rfl, rfl, eA6, (by rw [sizeLine_eq]; omega), ?_⟩
      exact ⟨_, ah ++ [r], st, us ++ [v], ws, rfl, lput (o' := .lst []) hL6 hHA nAp nAg nAd, hM.go hg, upd_same, by rw [upd_ne nAS.symm]; exact eS6, by rw [take_one hri, take_one hi]; exact cu.left, by rw [List.length_append]; show ah.length + 1 + st.length = _; omega⟩
    · have hL5 := hL4.same s5
      have h5 := s5 _ _ h4
      refine ⟨_, rfl, p, dx4, _, rfl, h5, lf_no _ _ _ _ (by decide +kernel), _, rfl, p, g, d, v, H, st, rs.drop (i + 1), r, ss, rfl, hL5, hrow, hrok, htot, hB.few, by omega, fun H6 f6 hL6 => ?_⟩
      have eA6 := f6 _ _ (s5 _ _ eA4) nAp nAd
      have eS6 := f6 _ _ (s5 _ _ eS4) nSp nSd
      refine ⟨_, rfl, .inl ⟨rfl, _, SqL.of eS6⟩, _, rfl, Ss, ws, _, rfl, rfl, eS6, (by rw [sizeLine_eq]; omega), ?_⟩
      exact ⟨_, ah, st ++ [r], us, ws ++ [v], rfl, lput (o' := .lst []) hL6 hHS nSp nSg nSd, hM.no hg, by rw [upd_ne nAS]; exact eA6, upd_same, by rw [take_one hri, take_one hi]; exact cu.right, by rw [List.length_append]; show ah.length + (st.length + 1) = _; omega⟩
  · rintro σ H4 ⟨v4, ah, st, us, ws, rfl, hL4, hM, eA4, eS4, cu, hn⟩
    rw [eA.len, List.drop_length] at hM
    obtain ⟨m1, m2⟩ := hM.end_
    refine ⟨_, rfl, _, rfl, (by show 2 ≤ sizeLine; decide), fun q hq => ?_⟩
    have s5 := same_new hq (.tup [.ref Aa, .ref Ss])
    rw [List.take_length, eA.len, List.take_length] at cu
    rw [← m1, ← m2] at cu
    exact k _ q Aa Ss us ws (hL4.cl.trans s5) hHA hHS nAS upd_same (s5 _ _ eA4) (s5 _ _ eS4) cu
end
end Lm
namespace Lm.S
open PySem L2
abbrev s_mvB : Stmt := topS 13
abbrev s_moved : Stmt := topS 14
def spMvB (K : PySem.W.Frag) : Sp := fun vs H Q _ => ∃ (l : Addr) (ss : List Str) (kd te : Str) (body : List Row) (xs : List V) (B : Hp) (F : Addr → Prop), vs = [.str kd, .str te, .ref l] ∧ kd ∈ kinds ∧ te ∈ ss ∧ Same B H ∧ H l = some (.lst xs) ∧ B l = none ∧ OwnRs K B H body xs F ∧ ¬ F l ∧ oks ss body ∧ tots body ≤ 1900 ∧ ss.length ≤ 60 ∧
  ∀ (H' : Hp) (l' : Addr) (ys : List V) (F' : Addr → Prop), Same H H' → H l' = none → H' l' = some (.lst ys) → OwnRs K B H' (mvB kd (.str te) body) ys F' → ¬ F' l' → Q (.ref l') H'
def spMoved (K : PySem.W.Frag) (n : Nat) : Sp := fun vs H Q _ => ∃ (l : Addr) (ss : List Str) (rs : List Row), vs = [.ref l] ∧ RowsAt K H l rs ∧ oks ss rs ∧ deps rs < n ∧ tots rs ≤ 900 ∧ ss.length ≤ 60 ∧
  ∀ (H' : Hp) (l' : Addr) (ys : List V) (F' : Addr → Prop), Same H H' → H l' = none → H' l' = some (.lst ys) → OwnRs K H H' (mvs rs) ys F' → ¬ F' l' → Q (.ref l') H'
section
variable {P : Program} {w : World} {K : PySem.W.Frag} {mg : Str → Option Value} {base : Heap} {f f1 f2 aK : Addr} {fd d1 d2 : FuncData}
theorem sc_mvB : FnScope ["word", "test", "body", "ahead", "stay", "found"] ["word", "test", "body"] (defScope s_mvB) := ⟨rfl, rfl, rfl, by decide +kernel, rfl, by decide +kernel, by decide +kernel⟩
theorem ok_mvB (F : Fun K "moved_block" "moved_block" s_mvB f fd) (ml : mg "len" = none) (DS : Df P w K mg base "split_body" 6 f1 d1 ["body"] (spSplit K)) : FnOk P w K mg base CX0 7 f fd ["word", "test", "body"] (spMvB K) := by
  refine F.ok sc_mvB (fun vs H Q E h => ?_) (fun cdv A outer s H vs Q E hr h => ?_)
  · obtain ⟨l, ss, kd, te, body, xs, B, F, rfl, _⟩ := h
    rfl
  obtain ⟨l, ss, kd, te, body, xs, B, F, rfl, hk, hte, sB, hl, hBl, hO, hFl, hok, htot, hfew, k⟩ := h
  have nd := sc_mvB.nd
  refine ⟨_, pss_cons (ps_if (pt_cmpR op_eq (pv 0) pe_str (nomark _)) (pss_one (ps_ret (pe_lst (pa_cons (pe_tup (pa_cons pe_str (pa_cons (pv 1) (pa_cons (pv 2) pa_nil)))) pa_nil)))) pss_nil) <|
    pss_cons (ps_asg (pe_df DS hr (pa_cons (pv 2) pa_nil)) (pg_tup rfl (pgs_cons (pg_name (i := 3) nd rfl (Or.inl rfl)) (pgs_cons (pg_name (i := 4) nd rfl (Or.inl rfl)) pgs_nil)))) <|
    pss_cons (ps_if (PW.pt (pw_and (pt_cmpR op_eq (pv 0) pe_str (nomark _)) (pw_and1 (pt_cmpR op_eq (pe_callB call_len_seq rfl ml PySem.boot_len (pa_cons (pv 3) pa_nil)) pe_int (nomark _)))))
      (pss_one (ps_ret (pe_lst (pa_cons (pe_tup (pa_cons pe_str (pa_cons (pv 1) (pa_cons (pv 4) pa_nil)))) pa_nil)))) pss_nil) <|
    pss_cons (ps_set (i := 5) nd rfl (Or.inl rfl) (pe_op op_cat (pv 3) (pe_lst (pa_cons (pe_tup (pa_cons pe_str (pa_cons (pv 1) (pa_cons (pv 4) pa_nil)))) pa_nil)))) <|
    pss_one (ps_ret (pe_ifExp (pt_cmpR op_eq (pv 0) pe_str (nomark _)) (pe_lst (pa_cons (pe_tup (pa_cons pe_str (pa_cons (pv 1) (pa_cons (pv 5) pa_nil)))) pa_nil)) (pv 5))), ?_⟩
  have way : ∀ (z : Str) {A B : Prop}, (kd = z → A) → (¬ kd = z → B) → if decide (V.str kd = V.str z) = true then A else B := fun z A B h1 h2 => by
    by_cases c : kd = z
    · rw [decide_eq_true (by rw [c])]
      exact iteT (h1 c)
    · rw [decide_eq_false (fun y => c (V.str.inj y))]
      exact iteF (h2 c)
  -- a block alone, in a new list
  have single : ∀ {H1 H2 H3 : Hp} {p q l2 : Addr} {xd : Str} {rs : List Row} {ys : List V} {G : Addr → Prop}, Same H H1 → H1 p = none → upd H1 p (.tup [.str xd, .str te, .ref l2]) = H2 → H2 q = none → upd H2 q (.lst [.ref p]) = H3 → H1 l2 = some (.lst ys) → B l2 = none → OwnRs K B H1 rs ys G → ¬ G l2 →
      Same H H3 ∧ H q = none ∧ H3 q = some (.lst [.ref p]) ∧ OwnRs K B H3 [.bk xd (.str te) rs] [.ref p] (fun c => c = l2 ∨ G c) ∧ ¬ (q = l2 ∨ G q) := fun {H1 H2 H3 p q l2 xd rs ys G} s1 hp e2 hq e3 hl2 hB2 hG hGl => by
    subst e2 e3
    have s2 := same_new hp (.tup [.str xd, .str te, .ref l2])
    have s3 := same_new hq (.lst [.ref p])
    have sA := s1.trans (s2.trans s3)
    refine ⟨sA, (s1.trans s2).free hq, upd_same, OwnRs.one (own_bk (s3 _ _ upd_same) ((s2.trans s3) _ _ hl2) hB2 (OwnRs.grow (fun _ h => h) (s2.trans s3) hG) hGl), fun h => ?_⟩
    have hq1 : H1 q = none := s2.free hq
    rcases h with e | e
    · rw [e, hl2] at hq1
      cases hq1
    · obtain ⟨_, zs, ez⟩ := OwnRs.out rs hG q e
      rw [ez] at hq1
      cases hq1
  refine ⟨_, rfl, rfl, _, rfl, way _ (fun c1 => ?_) (fun c1 => ?_)⟩
  · subst c1
    refine ⟨_, rfl, _, rfl, (by show 3 ≤ sizeLine; decide), fun p hp => ⟨(by show 1 ≤ sizeLine; decide), fun q hq => ?_⟩⟩
    obtain ⟨a1, a2, a3, a4, a5⟩ := single (Same.refl H) hp rfl hq rfl hl hBl hO hFl
    have e : mvB "when" (.str te) body = [.bk "when" (.str te) body] := if_pos rfl
    refine k _ q _ _ a1 a2 a3 (by rw [e]; exact a4) a5
  have hlb := len_tots body
  refine ⟨_, rfl, l, ss, body, xs, rfl, SqL.of hl, AllAt.to _ hO.all, ⟨⟨xs, SqL.of hl, AllAt.to _ hO.all⟩, hok, by omega, hfew⟩, by omega, fun H1 q0 Aa Ss us ws s1 hA hS nAS eq0 eA eS cu => ?_⟩
  have hO1 := OwnRs.grow (B' := B) (fun _ h => h) s1 hO
  obtain ⟨F1, F2, o1, o2, o3, o4⟩ := cutOwn cu hO1
  have hBA : B Aa = none := sB.free hA
  have hBS : B Ss = none := sB.free hS
  have nF : ∀ {c : Addr}, H c = none → ¬ F c := fun hc h => by
    obtain ⟨_, zs, ez⟩ := OwnRs.out body hO _ h
    rw [hc] at ez
    cases ez
  have pl := parts_len body []
  have a1l := (OwnRs.all _ o1).len
  have a2l := (OwnRs.all _ o2).len
  refine ⟨q0, _, rfl, SqT.of eq0, rfl, _, _, rfl, _, _, rfl, rfl, ?_⟩
  have nS2 : ¬ F2 Ss := fun h => nF hS (o4 _ (.inr h))
  refine ⟨_, rfl, rfl, _, rfl, ?_⟩
  have tail : ∀ {P1 P2 : Prop}, True := fun {_ _} => trivial
  have elen : ∀ {A B : Prop}, (us.length = 0 → A) → (¬ us.length = 0 → B) → if decide (V.int ((us.length : Nat) : Int) = V.int 0) = true then A else B := fun {A B} h1 h2 => by
    by_cases c : us.length = 0
    · rw [decide_eq_true (by rw [c]; rfl)]
      exact iteT (h1 c)
    · rw [decide_eq_false (fun y => c (by have := V.int.inj y; omega))]
      exact iteF (h2 c)
  by_cases c2 : kd = "loop"
  · subst c2
    refine ifT (decide_eq_true rfl) ⟨_, rfl, Aa, _, rfl, .inl (SqL.of eA), rfl, _, rfl, elen (fun c3 => ?_) (fun c3 => ?_)⟩
    · have en : (parts [] body).1 = [] := List.length_eq_zero_iff.mp (by omega)
      refine ⟨_, rfl, _, rfl, (by show 3 ≤ sizeLine; decide), fun p hp => ⟨(by show 1 ≤ sizeLine; decide), fun q hq => ?_⟩⟩
      obtain ⟨b1, b2, b3, b4, b5⟩ := single s1 hp rfl hq rfl eS hBS o2 nS2
      have e : mvB "loop" (.str te) body = [.bk "loop" (.str te) (parts [] body).2] := (if_neg c1).trans ((if_pos rfl).trans (if_pos en))
      exact k _ q _ _ b1 b2 b3 (by rw [e]; exact b4) b5
    · have en : ¬ (parts [] body).1 = [] := fun z => c3 (by rw [a1l, z]; rfl)
      refine ⟨_, rfl, _, rfl, _, rfl, (by show 3 ≤ sizeLine; decide), fun p hp => ?_⟩
      obtain ⟨H2, g2, s2, ep⟩ := newH hp (.tup [.str "again", .str te, .ref Ss])
      rw [g2]
      refine ⟨(by show 1 ≤ sizeLine; decide), fun q hq => ?_⟩
      obtain ⟨H3, g3, s3, eq3⟩ := newH hq (.lst [.ref p])
      rw [g3]
      have s23 := s2.trans s3
      refine ⟨Aa, q, _, _, rfl, rfl, s23 _ _ eA, eq3, (by rw [sizeLine_eq]; show us.length + 1 ≤ _; omega), fun r hr0 => ?_⟩
      obtain ⟨H4, g4, s4, er⟩ := newH hr0 (.lst (us ++ [.ref p]))
      rw [g4]
      have s24 := s23.trans s4
      have oA := OwnRs.grow (B' := B) (fun _ h => h) s24 o1
      have oS := own_bk (kd := "again") (ts := .str te) ((s3.trans s4) _ _ ep) (s24 _ _ eS) hBS (OwnRs.grow (B' := B) (fun _ h => h) s24 o2) nS2
      have oF := oA.app (OwnRs.one oS) (fun c x y => y.elim (fun z => nF hS (o4 _ (.inl (by rw [← z]; exact x)))) (o3 c x))
      have hHr : H r = none := (s1.trans s23).free hr0
      have nr : ¬ (F1 r ∨ r = Ss ∨ F2 r) := fun h => by
        rcases h with e | e | e
        · exact nF hHr (o4 _ (.inl e))
        · have := s23 _ _ eS
          rw [← e, hr0] at this
          cases this
        · exact nF hHr (o4 _ (.inr e))
      refine ⟨_, rfl, rfl, _, rfl, ifT (decide_eq_true rfl) ?_⟩
      refine ⟨_, rfl, _, rfl, (by show 3 ≤ sizeLine; decide), fun p5 hp5 => ⟨(by show 1 ≤ sizeLine; decide), fun q5 hq5 => ?_⟩⟩
      obtain ⟨b1, b2, b3, b4, b5⟩ := single (s1.trans s24) hp5 rfl hq5 rfl er (sB.free hHr) oF nr
      have e : mvB "loop" (.str te) body = [.bk "when" (.str te) ((parts [] body).1 ++ [.bk "again" (.str te) (parts [] body).2])] := (if_neg c1).trans ((if_pos rfl).trans (if_neg en))
      exact k _ q5 _ _ b1 b2 b3 (by rw [e]; exact b4) b5
  · refine ifF (decide_eq_false fun y => c2 (V.str.inj y)) (iteF ?_)
    refine ⟨_, rfl, _, rfl, _, rfl, (by show 3 ≤ sizeLine; decide), fun p hp => ?_⟩
    obtain ⟨H2, g2, s2, ep⟩ := newH hp (.tup [.str "again", .str te, .ref Ss])
    rw [g2]
    refine ⟨(by show 1 ≤ sizeLine; decide), fun q hq => ?_⟩
    obtain ⟨H3, g3, s3, eq3⟩ := newH hq (.lst [.ref p])
    rw [g3]
    have s23 := s2.trans s3
    refine ⟨Aa, q, _, _, rfl, rfl, s23 _ _ eA, eq3, (by rw [sizeLine_eq]; show us.length + 1 ≤ _; omega), fun r hr0 => ?_⟩
    obtain ⟨H4, g4, s4, er⟩ := newH hr0 (.lst (us ++ [.ref p]))
    rw [g4]
    have s24 := s23.trans s4
    have oA := OwnRs.grow (B' := B) (fun _ h => h) s24 o1
    have oS := own_bk (kd := "again") (ts := .str te) ((s3.trans s4) _ _ ep) (s24 _ _ eS) hBS (OwnRs.grow (B' := B) (fun _ h => h) s24 o2) nS2
    have oF := oA.app (OwnRs.one oS) (fun c x y => y.elim (fun z => nF hS (o4 _ (.inl (by rw [← z]; exact x)))) (o3 c x))
    have hHr : H r = none := (s1.trans s23).free hr0
    have nr : ¬ (F1 r ∨ r = Ss ∨ F2 r) := fun h => by
      rcases h with e | e | e
      · exact nF hHr (o4 _ (.inl e))
      · have := s23 _ _ eS
        rw [← e, hr0] at this
        cases this
      · exact nF hHr (o4 _ (.inr e))
    refine ⟨_, rfl, rfl, _, rfl, ifF (decide_eq_false fun y => c2 (V.str.inj y)) ⟨_, rfl, ?_⟩⟩
    have e : mvB kd (.str te) body = (parts [] body).1 ++ [.bk "again" (.str te) (parts [] body).2] := (if_neg c1).trans (if_neg c2)
    exact k _ r _ _ (s1.trans s24) hHr er (by rw [e]; exact oF) nr
theorem sc_moved : FnScope ["rows", "found", "row"] ["rows"] (defScope s_moved) := ⟨rfl, rfl, rfl, by decide +kernel, rfl, by decide +kernel, by decide +kernel⟩
theorem ok_moved {n : Nat} (F : Fun K "moved" "moved" s_moved f fd) (C : Cb K mg aK) (DB : Df P w K mg base "moved_block" 7 f1 d1 ["word", "test", "body"] (spMvB K)) (G : Df P w K mg base "moved" (n + 7) f fd ["rows"] (spMoved K n)) : FnOk P w K mg base CX0 (n + 8) f fd ["rows"] (spMoved K (n + 1)) := by
  refine F.ok sc_moved (fun vs H Q E h => ?_) (fun cdv A outer s H vs Q E hr h => ?_)
  · obtain ⟨l, ss, rs, rfl, _⟩ := h
    rfl
  obtain ⟨l, ss, rs, rfl, ⟨vs, eS0, eA⟩, hok, hd, htot, hfew, k⟩ := h
  have eS := SqL.of (K := K) eS0
  have nd := sc_moved.nd
  have r7 : Room 7 _ := hr.mono (by omega)
  refine ⟨_, pss_cons (ps_set (i := 1) nd rfl (Or.inl rfl) (pe_lst pa_nil)) <|
    pss_cons (ps_for PassesOwn.never rfl (pi_list (pv 0)) (pg_name (i := 2) nd rfl (Or.inl rfl))
      (pss_one (ps_if (pt_cmpR op_in_seq (pe_ix ix_tup (pv 2) pe_int (fun _ _ => rfl)) (pe_glob (v := .ref aK) rfl C.blocks rfl) (by rfl))
        (pss_one (ps_expr (pe_bm PySem.F.plainAttrs_list PySem.F.slot_list_extend PySem.F.type_list_extend mt_extend (pv 1) (pa_cons (pe_df DB r7 (pa_cons (pe_ix ix_tup (pv 2) pe_int (fun _ _ => rfl)) (pa_cons (pe_ix ix_tup (pv 2) pe_int (fun _ _ => rfl)) (pa_cons (pe_df G hr (pa_cons (pe_ix ix_tup (pv 2) pe_int (fun _ _ => rfl)) pa_nil)) pa_nil)))) pa_nil))))
        (pss_one (ps_expr (pe_bm PySem.F.plainAttrs_list PySem.F.slot_list_append PySem.F.type_list_append mt_append (pv 1) (pa_cons (pv 2) pa_nil))))))) <|
    pss_one (ps_ret (pv 1)), ?_⟩
  refine ⟨(by show 0 ≤ sizeLine; decide), fun D hD => ?_⟩
  have s0 := same_new hD (.lst [])
  refine ⟨_, rfl, l, rfl, ⟨_, s0.seq eS⟩, for_list (K := K) (a := l) (xs := vs) (fun i σ H' => ∃ (v2 : Option V) (us : List V) (F : Addr → Prop), σ = [some (.ref l), some (.ref D), v2] ∧ Same H H' ∧ H' D = some (.lst us) ∧ OwnRs K H H' (mvs (rs.take i)) us F ∧ ¬ F D)
    ⟨none, [], _, rfl, s0, upd_same, OwnRs.nil, fun h => h⟩ (fun i σ H' _ ⟨_, _, _, _, s1, _⟩ => s1.seq eS) ?_ ?_⟩
  · rintro i v σ H1 hi ⟨v2, us, F, rfl, s1, eD, hO, hFD⟩
    obtain ⟨r, hri, hrow⟩ := eA.at hi
    have hrow0 := hrow
    have hrok := oks_at hok hri
    have htr := row_tot_le hri
    have hrow1 := RowAt.mono (Same.kp s1) r v hrow
    have tt := mvs_tots (rs.take i)
    have tt2 := tots_take_le rs i
    have ul := (OwnRs.all _ hO).len
    have ul2 := len_tots (mvs (rs.take i))
    have room : us.length < sizeLine := by rw [sizeLine_eq]; omega
    -- one row as it was
    have plain : RowAt K H1 r v → r.mv = [r] → (∀ H', RowAt K H' r v → OwnR K H H' r v (fun _ => False)) → ∃ (v2 : Option V) (us' : List V) (F : Addr → Prop), [some (V.ref l), some (V.ref D), some v] = [some (.ref l), some (.ref D), v2] ∧ Same H (upd H1 D (.lst (us ++ [v]))) ∧ (upd H1 D (.lst (us ++ [v]))) D = some (.lst us') ∧ OwnRs K H (upd H1 D (.lst (us ++ [v]))) (mvs (rs.take (i + 1))) us' F ∧ ¬ F D := fun hrow emv ho => by
      have hOD : OwnRs K H (upd H1 D (.lst (us ++ [v]))) (mvs (rs.take i)) us F := OwnRs.keep (fun _ h => h) (fun p xs h => tup_upd eD h) _ (fun c hc => upd_ne (fun e => hFD (by rw [← e]; exact hc))) hO
      have hr2 : RowAt K (upd H1 D (.lst (us ++ [v]))) r v := RowAt.mono (Same.kp (same_put s1 hD _)) r v hrow0
      refine ⟨_, us ++ [v], (fun c => F c ∨ False), rfl, same_put s1 hD _, upd_same, ?_, ?_⟩
      · rw [mvs_take hri, emv]
        exact hOD.app (OwnRs.one (ho _ hr2)) (fun _ _ h => h)
      · exact fun h => h.elim hFD id
    match r, hri, hrow, hrow1, hrok, htr, plain with
    | .lt to sg a b, hri, hrow, ⟨p, h1, h2⟩, hrok, htr, plain =>
      subst h1
      refine ⟨_, rfl, p, _, _, _, rfl, rfl, SqT.of h2, atI_nat (j := 0) rfl, aK, _, rfl, .inr (C.blocksT _), rfl, kinds_flat, _, rfl, ifF let_in ?_⟩
      exact ⟨_, rfl, .inl ⟨rfl, _, SqL.of eD⟩, _, rfl, D, us, _, rfl, rfl, eD, room, plain ⟨p, rfl, h2⟩ rfl (fun H' h => ⟨h, fun _ z => z⟩)⟩
    | .sy a, hri, hrow, ⟨p, h1, h2⟩, hrok, htr, plain =>
      subst h1
      refine ⟨_, rfl, p, _, _, _, rfl, rfl, SqT.of h2, atI_nat (j := 0) rfl, aK, _, rfl, .inr (C.blocksT _), rfl, kinds_flat, _, rfl, ifF say_in ?_⟩
      exact ⟨_, rfl, .inl ⟨rfl, _, SqL.of eD⟩, _, rfl, D, us, _, rfl, rfl, eD, room, plain ⟨p, rfl, h2⟩ rfl (fun H' h => ⟨h, fun _ z => z⟩)⟩
    | .bk kd ts qs, hri, hrow, ⟨p, l2, zs, h1, h2, h3, h4⟩, hrok, htr, plain =>
      subst h1
      obtain ⟨hk, ⟨te, hte, htes⟩, hql, hqok⟩ := hrok
      subst hte
      have hdq : deps qs + 1 ≤ deps rs := dep_at hri
      have htq : tots qs + 1 ≤ tots rs := htr
      refine ⟨_, rfl, p, _, _, _, rfl, rfl, SqT.of h2, atI_nat (j := 0) rfl, aK, _, rfl, .inr (C.blocksT _), rfl, kinds_flat, _, rfl, ifT (kd_in hk) ?_⟩
      refine ⟨_, rfl, .inl ⟨rfl, _, SqL.of eD⟩, _, rfl, p, _, _, _, rfl, rfl, SqT.of h2, atI_nat (j := 0) rfl, _, rfl, p, _, _, _, rfl, rfl, SqT.of h2, atI_nat (j := 1) rfl, _, rfl, p, _, _, _, rfl, rfl, SqT.of h2, atI_nat (j := 2) rfl, l2, ss, qs, rfl, ⟨zs, h3, h4⟩, hqok, by omega, by omega, hfew, fun H2 l3 ys F2 s2 hl3 el3 hO2 hF2 => ?_⟩
      have mt := mvs_tots qs
      refine ⟨l3, ss, kd, te, mvs qs, ys, H1, F2, rfl, hk, htes, s2, el3, hl3, hO2, hF2, mvs_ok qs hqok (by omega), by omega, hfew, fun H3 l4 ws F3 s3 hl4 el4 hO3 hF3 => ?_⟩
      have s23 := s2.trans s3
      have eD3 := s23 _ _ eD
      have wl := (OwnRs.all _ hO3).len
      have wl2 := len_tots (mvB kd (.str te) (mvs qs))
      have wl3 := mvB_tots kd (.str te) (mvs qs)
      refine ⟨D, l4, us, ws, rfl, rfl, eD3, el4, (by rw [sizeLine_eq]; omega), ?_⟩
      have nF3 : ∀ c, F3 c → H1 c = none := fun c hc => (OwnRs.out _ hO3 c hc).1
      have nD3 : ¬ F3 D := fun h => by rw [nF3 D h] at eD; cases eD
      have dis : ∀ c, F c → F3 c → False := fun c x y => by
        obtain ⟨_, zz, ez⟩ := OwnRs.out _ hO c x
        rw [nF3 c y] at ez
        cases ez
      have hOa : OwnRs K H (upd H3 D (.lst (us ++ ws))) (mvs (rs.take i)) us F := OwnRs.keep (fun _ h => h) (fun p xs h => tup_upd eD3 h) _ (fun c hc => upd_ne (fun e => hFD (by rw [← e]; exact hc))) (OwnRs.grow (B' := H) (fun _ h => h) s23 hO)
      have hOb : OwnRs K H (upd H3 D (.lst (us ++ ws))) (mvB kd (.str te) (mvs qs)) ws F3 := OwnRs.keep (fun c h => s1.free h) (fun p xs h => tup_upd eD3 h) _ (fun c hc => upd_ne (fun e => nD3 (by rw [← e]; exact hc))) hO3
      refine ⟨_, us ++ ws, (fun c => F c ∨ F3 c), rfl, same_put (s1.trans s23) hD _, upd_same, ?_, fun h => h.elim hFD nD3⟩
      rw [mvs_take hri]
      exact hOa.app hOb dis
  · rintro σ H1 ⟨v2, us, F, rfl, s1, eD, hO, hFD⟩
    rw [eA.len, List.take_length] at hO
    exact ⟨_, rfl, k H1 D us F s1 hD eD hO hFD⟩
theorem all_moved (F : Fun K "moved" "moved" s_moved f fd) (m : mg "moved" = some (.ref f)) (b : Binds K fd ["rows"] []) (C : Cb K mg aK) (DB : Df P w K mg base "moved_block" 7 f1 d1 ["word", "test", "body"] (spMvB K)) : ∀ n, FnOk P w K mg base CX0 (n + 7) f fd ["rows"] (spMoved K n)
  | 0 => none_left fun vs H Q E ⟨l, ss, rs, _, _, _, h, _⟩ => absurd h (Nat.not_lt_zero _)
  | n + 1 => ok_moved F C DB ⟨all_moved F m b C DB n, m, F.kp, b⟩
end
end Lm.S
namespace Lm
open PySem L2
abbrev s_srow : Stmt := topS 26
abbrev s_sound : Stmt := topS 27
def spSRow (K : PySem.W.Frag) (n : Nat) : Sp := fun vs H Q _ => ∃ (v : V) (ss : List Str) (r : Row), vs = [v] ∧ RowAt K H r v ∧ r.ok ss ∧ r.dep ≤ n ∧ ∀ H' : Hp, Same H H' → Q (.bl true) H'
def spSound (K : PySem.W.Frag) (n : Nat) : Sp := fun vs H Q _ => ∃ (l : Addr) (ss : List Str) (rs : List Row), vs = [.ref l] ∧ RowsAt K H l rs ∧ oks ss rs ∧ deps rs < n ∧ rs.length ≤ 2000 ∧ ∀ H' : Hp, Same H H' → Q (.bl true) H'
section
variable {P : Program} {w : World} {K : PySem.W.Frag} {mg : Str → Option Value} {base : Heap} {f : Addr} {fd : FuncData}
theorem sc_srow : FnScope ["_law_row", "_law_thing"] ["_law_row"] (defScope s_srow) := ⟨rfl, rfl, rfl, by decide +kernel, rfl, by decide +kernel, by decide +kernel⟩
theorem sg_in {sg : Str} (h : sg ∈ signs) : inV (.str sg) [.str "+", .str "-", .str "*", .str "<", .str "/"] = true := by
  simp only [signs, List.mem_cons, List.not_mem_nil, or_false] at h
  rcases h with e | e | e | e | e <;> (rw [e]; decide +kernel)
theorem kd_in3 {kd : Str} (h : kd ∈ kinds) : inV (.str kd) [.str "when", .str "loop", .str "again"] = true := kd_in h
theorem ok_srow {n : Nat} {fw fs : Addr} {dw ds : FuncData} (F : Fun K "_law_sound_row" "_law_sound_row" s_srow f fd) (B : Bn mg) (W : Df P w K mg base "_law_whole" 1 fw dw ["_law_found"] spWhole)
    (G : Df P w K mg base "_law_sound" (2 * n + 1) fs ds ["_law_rows"] (spSound K n)) : FnOk P w K mg base CX0 (2 * n + 2) f fd ["_law_row"] (spSRow K n) := by
  refine F.ok sc_srow (fun vs H Q E h => ?_) (fun cdv A outer s H vs Q E hr h => ?_)
  · obtain ⟨v, ss, r, rfl, _⟩ := h
    rfl
  obtain ⟨v, ss, r, rfl, hrow, hok, hd, k⟩ := h
  have nd := sc_srow.nd
  have r1 : Room 1 _ := hr.mono (by omega)
  refine ⟨_, pss_cons (ps_if (PW.pt (pw_or (pt_not (pt_val (pe_callB call_isi rfl B.isinstance (by decide +kernel) (pa_cons (pv 0) (pa_cons (pe_bltn (v := .ty "tuple") rfl B.tuple (by decide +kernel) rfl) pa_nil)))))
      (pw_or (pt_cmpR op_notIn_seq (pe_callB call_len_seq rfl B.len PySem.boot_len (pa_cons (pv 0) pa_nil)) (pe_tup (pa_cons pe_int (pa_cons pe_int (pa_cons pe_int pa_nil)))) (by rfl))
      (pw_or1 (pt_not (pt_val (pe_callB call_isi rfl B.isinstance (by decide +kernel) (pa_cons (pe_ix ix_tup (pv 0) pe_int (fun _ _ => rfl)) (pa_cons (pe_bltn (v := .ty "str") rfl B.str (by decide +kernel) rfl) pa_nil)))))))))
      (pss_one (ps_ret pe_bl)) pss_nil) <|
    pss_cons (ps_if (pt_cmpR op_eq (pe_callB call_len_seq rfl B.len PySem.boot_len (pa_cons (pv 0) pa_nil)) pe_int (nomark _))
      (pss_one (ps_ret (pe_and (pe_cmpR op_in_seq (pe_ix ix_tup (pv 0) pe_int (fun _ _ => rfl)) (pe_tup (pa_cons pe_str (pa_cons pe_str (pa_cons pe_str pa_nil)))) (by rfl))
        (pe_and (pe_callB call_isi rfl B.isinstance (by decide +kernel) (pa_cons (pe_ix ix_tup (pv 0) pe_int (fun _ _ => rfl)) (pa_cons (pe_bltn (v := .ty "str") rfl B.str (by decide +kernel) rfl) pa_nil)))
        (pe_one (pe_df G (hr.mono (by omega)) (pa_cons (pe_ix ix_tup (pv 0) pe_int (fun _ _ => rfl)) pa_nil))))))) pss_nil) <|
    pss_cons (ps_for PassesOwn.never rfl (pi_tup (pe_slice sl_tup (pv 0) (po_some (pe_op op_sub (pe_op op_sub (pe_callB call_len_seq rfl B.len PySem.boot_len (pa_cons (pv 0) pa_nil)) pe_int)
          (pe_callTy call_int1 rfl B.int (by decide +kernel) (pa_cons (pe_cmpR op_eq (pe_callB call_len_seq rfl B.len PySem.boot_len (pa_cons (pv 0) pa_nil)) pe_int (nomark _)) pa_nil)))) po_none)) (pg_name (i := 1) nd rfl (Or.inl rfl))
      (pss_one (ps_if (PW.pt (pw_and (pt_not (pt_val (pe_callB call_isi rfl B.isinstance (by decide +kernel) (pa_cons (pv 1) (pa_cons (pe_bltn (v := .ty "str") rfl B.str (by decide +kernel) rfl) pa_nil)))))
        (pw_and1 (pt_not (pt_val (pe_df W r1 (pa_cons (pv 1) pa_nil))))))) (pss_one (ps_ret pe_bl)) pss_nil))) <|
    pss_cons (ps_if (pt_cmpR op_eq (pe_callB call_len_seq rfl B.len PySem.boot_len (pa_cons (pv 0) pa_nil)) pe_int (nomark _))
      (pss_one (ps_ret (pe_cmpR op_eq (pe_ix ix_tup (pv 0) pe_int (fun _ _ => rfl)) pe_str (nomark _)))) pss_nil) <|
    pss_cons (ps_if (PW.pt (pw_or (pt_cmpR op_ne (pe_ix ix_tup (pv 0) pe_int (fun _ _ => rfl)) pe_str (nomark _))
      (pw_or (pt_not (pt_val (pe_callB call_isi rfl B.isinstance (by decide +kernel) (pa_cons (pe_ix ix_tup (pv 0) pe_int (fun _ _ => rfl)) (pa_cons (pe_bltn (v := .ty "str") rfl B.str (by decide +kernel) rfl) pa_nil)))))
      (pw_or1 (pt_not (pt_val (pe_callB call_isi rfl B.isinstance (by decide +kernel) (pa_cons (pe_ix ix_tup (pv 0) pe_int (fun _ _ => rfl)) (pa_cons (pe_bltn (v := .ty "str") rfl B.str (by decide +kernel) rfl) pa_nil)))))))))
      (pss_one (ps_ret pe_bl)) pss_nil) <|
    pss_one (ps_ret (pe_cmpR op_in_seq (pe_ix ix_tup (pv 0) pe_int (fun _ _ => rfl)) (pe_tup (pa_cons pe_str (pa_cons pe_str (pa_cons pe_str (pa_cons pe_str (pa_cons pe_str pa_nil)))))) (by rfl))), ?_⟩
  have lit : ∀ x : Vl, (∃ s, x.v = .str s) ∨ ∃ z, x.v = .int z := fun x => match x with
    | .nm s => .inl ⟨s, rfl⟩
    | .nu i => .inr ⟨i, rfl⟩
  match r, hrow, hok, hd with
  | .sy a, ⟨p, h1, h2⟩, hok, hd =>
    subst h1
    refine ⟨_, rfl, _, _, _, _, true, rfl, .ty _, ty_tuple h2, kit_ty (by decide +kernel), _, rfl, iteF ⟨_, rfl, p, _, rfl, .inr h2, (by show 3 ≤ sizeLine; decide), fun q1 hq1 => ?_⟩⟩
    obtain ⟨H1, g1, s1, e1⟩ := newH hq1 (.tup [.int 2, .int 3, .int 5])
    rw [g1]
    have t1 := Kp.sqT (Same.kp s1) h2
    refine ⟨q1, _, rfl, .inr (SqT.of e1), rfl, by decide +kernel, _, rfl, ifF (by show (!inV (V.int ((2 : Nat) : Int)) [V.int 2, V.int 3, V.int 5]) = false; decide +kernel) ⟨_, rfl, p, _, _, _, rfl, rfl, t1, atI_nat (j := 0) rfl, _, _, _, _, true, rfl, .ty _, ty_str _, kit_ty (by decide +kernel), _, rfl, iteF ?_⟩⟩
    refine ⟨_, rfl, p, _, rfl, .inr t1, rfl, _, rfl, ifF (show decide (V.int ((2 : Nat) : Int) = V.int 3) = false by decide) ?_⟩
    refine ⟨_, rfl, _, rfl, p, _, rfl, .inr t1, _, _, rfl, rfl, _, rfl, p, _, rfl, .inr t1, rfl, .inr ⟨_, rfl, _, _, rfl, rfl, 1, rfl, p, _, rfl, t1, (by show ¬ (HT.sIx 2 0 (some 1) = 0 ∧ HT.sIx 2 2 none = 2); decide), fun q2 hq2 => ?_⟩⟩
    obtain ⟨H2, g2, s2, e2⟩ := newH hq2 (.tup [a.v])
    have g2' : upd H1 q2 (.tup (cutV [.str "say", a.v] (some 1) none)) = H2 := g2
    rw [g2']
    have t2 := Kp.sqT (Same.kp s2) t1
    refine ⟨q2, rfl, ⟨_, SqT.of e2⟩, for_tup (K := K) (a := q2) (xs := [a.v]) (fun i σ H' => ∃ v1 : Option V, σ = [some (.ref p), v1] ∧ H' = H2) ⟨none, rfl, rfl⟩ (fun i σ H' _ ⟨_, _, e⟩ => by rw [e]; exact SqT.of e2) ?_ ?_⟩
    · rintro i v σ H' hi ⟨v1, rfl, rfl⟩
      have hv : (∃ s, v = .str s) ∨ ∃ z, v = .int z := by
        match i, hi with
        | 0, hi =>
          cases hi
          exact lit a
      rcases hv with ⟨z, rfl⟩ | ⟨z, rfl⟩
      · exact ⟨_, rfl, _, _, _, _, true, rfl, .ty _, ty_str _, kit_ty (by decide +kernel), _, rfl, iteF ⟨_, rfl, rfl⟩⟩
      · exact ⟨_, rfl, _, _, _, _, false, rfl, .ty _, ty_int _, kit_ty (by decide +kernel), _, rfl, iteT ⟨_, rfl, z, rfl, _, rfl, iteF ⟨_, rfl, rfl⟩⟩⟩
    · rintro σ H' ⟨v1, rfl, rfl⟩
      refine ⟨_, rfl, p, _, rfl, .inr t2, rfl, _, rfl, ifT (show decide (V.int ((2 : Nat) : Int) = V.int 2) = true by decide) ?_⟩
      refine ⟨_, rfl, p, _, _, _, rfl, rfl, t2, atI_nat (j := 0) rfl, rfl, ?_⟩
      show Q (.bl (decide (V.str "say" = V.str "say"))) _
      rw [decide_eq_true rfl]
      exact k _ (s1.trans s2)
  | .lt to sg a b, ⟨p, h1, h2⟩, hok, hd =>
    subst h1
    refine ⟨_, rfl, _, _, _, _, true, rfl, .ty _, ty_tuple h2, kit_ty (by decide +kernel), _, rfl, iteF ⟨_, rfl, p, _, rfl, .inr h2, (by show 3 ≤ sizeLine; decide), fun q1 hq1 => ?_⟩⟩
    obtain ⟨H1, g1, s1, e1⟩ := newH hq1 (.tup [.int 2, .int 3, .int 5])
    rw [g1]
    have t1 := Kp.sqT (Same.kp s1) h2
    refine ⟨q1, _, rfl, .inr (SqT.of e1), rfl, by decide +kernel, _, rfl, ifF (by show (!inV (V.int ((5 : Nat) : Int)) [V.int 2, V.int 3, V.int 5]) = false; decide +kernel) ⟨_, rfl, p, _, _, _, rfl, rfl, t1, atI_nat (j := 0) rfl, _, _, _, _, true, rfl, .ty _, ty_str _, kit_ty (by decide +kernel), _, rfl, iteF ?_⟩⟩
    refine ⟨_, rfl, p, _, rfl, .inr t1, rfl, _, rfl, ifF (show decide (V.int ((5 : Nat) : Int) = V.int 3) = false by decide) ?_⟩
    refine ⟨_, rfl, _, rfl, p, _, rfl, .inr t1, _, _, rfl, rfl, _, rfl, p, _, rfl, .inr t1, rfl, .inr ⟨_, rfl, _, _, rfl, rfl, 3, rfl, p, _, rfl, t1, (by show ¬ (HT.sIx 5 0 (some 3) = 0 ∧ HT.sIx 5 5 none = 5); decide), fun q2 hq2 => ?_⟩⟩
    obtain ⟨H2, g2, s2, e2⟩ := newH hq2 (.tup [a.v, b.v])
    have g2' : upd H1 q2 (.tup (cutV [.str "let", .str to, .str sg, a.v, b.v] (some 3) none)) = H2 := g2
    rw [g2']
    have t2 := Kp.sqT (Same.kp s2) t1
    refine ⟨q2, rfl, ⟨_, SqT.of e2⟩, for_tup (K := K) (a := q2) (xs := [a.v, b.v]) (fun i σ H' => ∃ v1 : Option V, σ = [some (.ref p), v1] ∧ H' = H2) ⟨none, rfl, rfl⟩ (fun i σ H' _ ⟨_, _, e⟩ => by rw [e]; exact SqT.of e2) ?_ ?_⟩
    · rintro i v σ H' hi ⟨v1, rfl, rfl⟩
      have hv : (∃ s, v = .str s) ∨ ∃ z, v = .int z := by
        match i, hi with
        | 0, hi =>
          cases hi
          exact lit a
        | 1, hi =>
          cases hi
          exact lit b
      rcases hv with ⟨z, rfl⟩ | ⟨z, rfl⟩
      · exact ⟨_, rfl, _, _, _, _, true, rfl, .ty _, ty_str _, kit_ty (by decide +kernel), _, rfl, iteF ⟨_, rfl, rfl⟩⟩
      · exact ⟨_, rfl, _, _, _, _, false, rfl, .ty _, ty_int _, kit_ty (by decide +kernel), _, rfl, iteT ⟨_, rfl, z, rfl, _, rfl, iteF ⟨_, rfl, rfl⟩⟩⟩
    · rintro σ H' ⟨v1, rfl, rfl⟩
      refine ⟨_, rfl, p, _, rfl, .inr t2, rfl, _, rfl, ifF (show decide (V.int ((5 : Nat) : Int) = V.int 2) = false by decide) ?_⟩
      refine ⟨_, rfl, p, _, _, _, rfl, rfl, t2, atI_nat (j := 0) rfl, rfl, _, rfl, ifF (show (!decide (V.str "let" = V.str "let")) = false by decide) ?_⟩
      refine ⟨_, rfl, p, _, _, _, rfl, rfl, t2, atI_nat (j := 1) rfl, _, _, _, _, true, rfl, .ty _, ty_str _, kit_ty (by decide +kernel), _, rfl, iteF ?_⟩
      refine ⟨_, rfl, p, _, _, _, rfl, rfl, t2, atI_nat (j := 2) rfl, _, _, _, _, true, rfl, .ty _, ty_str _, kit_ty (by decide +kernel), _, rfl, iteF ?_⟩
      refine ⟨_, rfl, p, _, _, _, rfl, rfl, t2, atI_nat (j := 2) rfl, (by show 5 ≤ sizeLine; decide), fun q3 hq3 => ?_⟩
      obtain ⟨H3, g3, s3, e3⟩ := newH hq3 (.tup [.str "+", .str "-", .str "*", .str "<", .str "/"])
      rw [g3]
      refine ⟨q3, _, rfl, .inr (SqT.of e3), rfl, by decide +kernel, ?_⟩
      show Q (.bl (inV (.str sg) [.str "+", .str "-", .str "*", .str "<", .str "/"])) H3
      rw [sg_in hok.2.1]
      exact k _ (s1.trans (s2.trans s3))
  | .bk kd ts qs, ⟨p, l2, zs, h1, h2, h3, h4⟩, hok, hd =>
    subst h1
    obtain ⟨hk, ⟨te, hte, htes⟩, hql, hqok⟩ := hok
    subst hte
    have hdq : deps qs + 1 ≤ n := hd
    refine ⟨_, rfl, _, _, _, _, true, rfl, .ty _, ty_tuple h2, kit_ty (by decide +kernel), _, rfl, iteF ⟨_, rfl, p, _, rfl, .inr h2, (by show 3 ≤ sizeLine; decide), fun q1 hq1 => ?_⟩⟩
    obtain ⟨H1, g1, s1, e1⟩ := newH hq1 (.tup [.int 2, .int 3, .int 5])
    rw [g1]
    have t1 := Kp.sqT (Same.kp s1) h2
    refine ⟨q1, _, rfl, .inr (SqT.of e1), rfl, by decide +kernel, _, rfl, ifF (by show (!inV (V.int ((3 : Nat) : Int)) [V.int 2, V.int 3, V.int 5]) = false; decide +kernel) ⟨_, rfl, p, _, _, _, rfl, rfl, t1, atI_nat (j := 0) rfl, _, _, _, _, true, rfl, .ty _, ty_str _, kit_ty (by decide +kernel), _, rfl, iteF ?_⟩⟩
    refine ⟨_, rfl, p, _, rfl, .inr t1, rfl, _, rfl, ifT (show decide (V.int ((3 : Nat) : Int) = V.int 3) = true by decide) ?_⟩
    refine ⟨_, rfl, p, _, _, _, rfl, rfl, t1, atI_nat (j := 0) rfl, (by show 3 ≤ sizeLine; decide), fun q2 hq2 => ?_⟩
    obtain ⟨H2, g2, s2, e2⟩ := newH hq2 (.tup [.str "when", .str "loop", .str "again"])
    rw [g2]
    have t2 := Kp.sqT (Same.kp s2) t1
    have s12 := s1.trans s2
    refine ⟨q2, _, rfl, .inr (SqT.of e2), rfl, by decide +kernel, _, rfl, ifT (kd_in3 hk) ?_⟩
    refine ⟨_, rfl, p, _, _, _, rfl, rfl, t2, atI_nat (j := 1) rfl, _, _, _, _, true, rfl, .ty _, ty_str _, kit_ty (by decide +kernel), _, rfl, iteT ?_⟩
    obtain ⟨zs', f3, f4⟩ := RowsAt.mono (Same.kp s12) ⟨zs, h3, h4⟩
    exact ⟨_, rfl, p, _, _, _, rfl, rfl, t2, atI_nat (j := 2) rfl, l2, ss, qs, rfl, ⟨zs', f3, f4⟩, hqok, by omega, hql, fun H' s3 => k H' (s12.trans s3)⟩
theorem sc_sound : FnScope ["_law_rows", "_law_row"] ["_law_rows"] (defScope s_sound) := ⟨rfl, rfl, rfl, by decide +kernel, rfl, by decide +kernel, by decide +kernel⟩
theorem ok_sound {n : Nat} {fr : Addr} {dr : FuncData} (F : Fun K "_law_sound" "_law_sound" s_sound f fd) (B : Bn mg)
    (R : Df P w K mg base "_law_sound_row" (2 * n + 2) fr dr ["_law_row"] (spSRow K n)) : FnOk P w K mg base CX0 (2 * n + 3) f fd ["_law_rows"] (spSound K (n + 1)) := by
  refine F.ok sc_sound (fun vs H Q E h => ?_) (fun cdv A outer s H vs Q E hr h => ?_)
  · obtain ⟨l, ss, rs, rfl, _⟩ := h
    rfl
  obtain ⟨l, ss, rs, rfl, ⟨vs, eS, eA⟩, hok, hd, hlen, k⟩ := h
  have nd := sc_sound.nd
  refine ⟨_, pss_cons (ps_if (pt_not (pt_val (pe_callB call_isi rfl B.isinstance (by decide +kernel) (pa_cons (pv 0) (pa_cons (pe_bltn (v := .ty "list") rfl B.list (by decide +kernel) rfl) pa_nil)))))
      (pss_one (ps_ret pe_bl)) pss_nil) <|
    pss_one (ps_ret (pe_callB (cr_all rfl) rfl B.all (by decide +kernel) (pa_cons (pe_lc (own := [("_law_row", 1)]) (g := gName 1) rfl nd (pi_list (pv 0))
          (blkOk_by (N := ["_law_rows", "_law_row"]) (sc := defScope s_sound) (by decide +kernel)) (fun _ _ _ _ _ => pg_name (i := 1) nd rfl (Or.inl rfl)) (fun _ _ _ _ _ => pts_nil)
          (fun _ _ _ _ _ => pe_df R hr (pa_cons (pv 1) pa_nil))) pa_nil))), ?_⟩
  refine ⟨_, rfl, _, _, _, _, true, rfl, .ty _, ty_list eS, kit_ty (by decide +kernel), _, rfl, iteF ?_⟩
  refine ⟨_, rfl, l, rfl, ⟨_, eS⟩, fun D hD => lc_list (xs := vs) (fun i H' => H' D = some (.lst ((List.replicate i true).map V.bl)) ∧ Same H H') ⟨upd_same, same_new hD _⟩ (fun i H' _ p => p.2.seq eS) ?_ ?_⟩
  · intro i v H1 hi ⟨e1, s1⟩
    obtain ⟨r, hri, hrow⟩ := eA.at hi
    have hdr : r.dep ≤ deps rs := dep_at hri
    have hil : i < rs.length := by
      obtain ⟨h, _⟩ := List.getElem?_eq_some_iff.mp hri
      exact h
    refine ⟨rfl, yes (iteT ?_)⟩
    refine ⟨_, rfl, v, ss, r, rfl, RowAt.mono (Same.kp s1) r v hrow, oks_at hok hri, by omega, fun H2 s2 => ?_⟩
    refine ⟨_, s2 _ _ e1, ?_, ?_, fun b o hb => ?_⟩
    · rw [List.length_map, List.length_replicate, sizeLine_eq]
      omega
    · rw [upd_same, List.replicate_succ', List.map_append]
      rfl
    · rw [upd_ne (ne_of_none hb hD)]
      exact s2 b o (s1 b o hb)
  · intro H1 ⟨e1, s1⟩
    refine ⟨D, _, rfl, SqL.of e1, ?_⟩
    rw [all_true]
    exact k H1 s1
theorem all_sound {fw fr : Addr} {dw dr : FuncData} (F : Fun K "_law_sound" "_law_sound" s_sound f fd) (m : mg "_law_sound" = some (.ref f)) (b : Binds K fd ["_law_rows"] []) (FR : Fun K "_law_sound_row" "_law_sound_row" s_srow fr dr) (mR : mg "_law_sound_row" = some (.ref fr)) (bR : Binds K dr ["_law_row"] [])
    (B : Bn mg) (W : Df P w K mg base "_law_whole" 1 fw dw ["_law_found"] spWhole) : ∀ n, FnOk P w K mg base CX0 (2 * n + 1) f fd ["_law_rows"] (spSound K n)
  | 0 => none_left fun vs H Q E ⟨l, ss, rs, _, _, _, h, _⟩ => absurd h (Nat.not_lt_zero _)
  | n + 1 => ok_sound F B ⟨ok_srow FR B W ⟨all_sound F m b FR mR bR B W n, m, F.kp, b⟩, mR, FR.kp, bR⟩
end
end Lm
namespace Lm
open PySem L2
abbrev s_lreads : Stmt := topS 28
abbrev s_lsets : Stmt := topS 29
abbrev s_lfails : Stmt := topS 30
abbrev s_lspeaks : Stmt := topS 31
def spGather (K : PySem.W.Frag) (p : List Row → Key → Prop) (n : Nat) : Sp := fun vs H Q _ => ∃ (l d : Addr) (Hc : Hp) (rs : List Row) (ss : List Str) (ks : List Key), vs = [.ref l, .ref d] ∧ Kp Hc H ∧ RowsAt K Hc l rs ∧ Hc d = none ∧ deps rs < n ∧ oks ss rs ∧
  H d = some (.dK (dkv ks)) ∧ ks.Nodup ∧ ks.length + 2 * tots rs ≤ 30000 ∧ ∀ ks' : List Key, ks'.Nodup → (∀ k, k ∈ ks' ↔ k ∈ ks ∨ p (flats rs) k) → ks'.length ≤ ks.length + 2 * tots rs → Q (.ref d) (upd H d (.dK (dkv ks')))
def spFind (K : PySem.W.Frag) (p : Row → Bool) (n : Nat) : Sp := fun vs H Q _ => ∃ (l : Addr) (rs : List Row) (ss : List Str), vs = [.ref l] ∧ RowsAt K H l rs ∧ deps rs < n ∧ oks ss rs ∧ Q (.bl ((flats rs).any p)) H
section
variable {P : Program} {w : World} {K : PySem.W.Frag} {mg : Str → Option Value} {base : Heap} {f : Addr} {fd : FuncData}
theorem sc_lreads : FnScope ["_law_rows", "_law_found", "_law_row"] ["_law_rows", "_law_found"] (defScope s_lreads) := ⟨rfl, rfl, rfl, by decide +kernel, rfl, by decide +kernel, by decide +kernel⟩
theorem ok_lreads {n : Nat} (F : Fun K "_law_reads" "_law_reads" s_lreads f fd) (ml : mg "len" = none) (G : Df P w K mg base "_law_reads" n f fd ["_law_rows", "_law_found"] (spGather K askK n)) :
    FnOk P w K mg base CX0 (n + 1) f fd ["_law_rows", "_law_found"] (spGather K askK (n + 1)) := by
  refine F.ok sc_lreads (fun vs H Q E h => ?_) (fun cdv A outer s H vs Q E hr h => ?_)
  · obtain ⟨l, d, Hc, rs, ss, ks, rfl, _⟩ := h
    rfl
  obtain ⟨l, d, Hc, rs, ss, ks, rfl, hc, ⟨vs, eS, eA⟩, hd0, hdep, hok, hd, hnd, hsz, k⟩ := h
  have nd := sc_lreads.nd
  have hu := hu_of hr
  refine ⟨_, pss_cons (ps_for PassesOwn.never rfl (pi_list (pv 0)) (pg_name (i := 2) nd rfl (Or.inl rfl))
      (pss_one (ps_if (pt_cmpR op_eq (pe_callB call_len_seq rfl ml PySem.boot_len (pa_cons (pv 2) pa_nil)) pe_int (nomark _))
        (pss_cons (ps_dput hu (pv 1) (pe_ix ix_tup (pv 2) pe_int (fun _ _ => rfl)) pe_bl rfl) <|
          pss_one (ps_expr (pe_df G hr (pa_cons (pe_ix ix_tup (pv 2) pe_int (fun _ _ => rfl)) (pa_cons (pv 1) pa_nil)))))
        (pss_one (ps_if (pt_cmpR op_eq (pe_callB call_len_seq rfl ml PySem.boot_len (pa_cons (pv 2) pa_nil)) pe_int (nomark _))
          (pss_one (ps_dput hu (pv 1) (pe_ix ix_tup (pv 2) pe_int (fun _ _ => rfl)) pe_bl rfl))
          (pss_cons (ps_dput hu (pv 1) (pe_ix ix_tup (pv 2) pe_int (fun _ _ => rfl)) pe_bl rfl) <|
            pss_one (ps_dput hu (pv 1) (pe_ix ix_tup (pv 2) pe_int (fun _ _ => rfl)) pe_bl rfl))))))) <|
    pss_one (ps_ret (pv 1)), ?_⟩
  have kpd : ∀ o, Kp Hc (upd H d o) := fun o => hc.put hd0 o
  refine ⟨_, rfl, l, rfl, ⟨_, hc.sqL eS⟩, for_list (K := K) (a := l) (xs := vs) (fun i σ H' => ∃ (ms : List Key) (v2 : Option V), σ = [some (.ref l), some (.ref d), v2] ∧ H' = upd H d (.dK (dkv ms)) ∧ ms.Nodup ∧ (∀ j, j ∈ ms ↔ j ∈ ks ∨ askK (flats (rs.take i)) j) ∧ ms.length ≤ ks.length + 2 * tots (rs.take i))
    ⟨ks, none, rfl, (upd_self hd).symm, hnd, fun j => by simp [askK, flats], Nat.le_add_right _ _⟩ (fun i σ H' _ ⟨_, _, _, e, _⟩ => by rw [e]; exact (kpd _).sqL eS) ?_ ?_⟩
  · rintro i v σ H1 hi ⟨ms, v2, rfl, rfl, ms1, ms2, ms3⟩
    obtain ⟨r, hri, hrow⟩ := eA.at hi
    have hrok := oks_at hok hri
    have htk := tots_take hri
    have hle := tots_take_le rs (i + 1)
    have room : ∀ {js : List Key}, js.length ≤ 30000 → (dkv js).length < sizeLine := fun h => by
      unfold dkv
      rw [List.length_map, sizeLine_eq]
      omega
    match r, hri, hrow, hrok, htk with
    | .lt to sg a b, hri, ⟨p, h1, h2⟩, hrok, htk =>
      subst h1
      have hT := (kpd (.dK (dkv ms))).sqT h2
      obtain ⟨k1, ek1⟩ := a.key
      obtain ⟨k2, ek2⟩ := b.key
      obtain ⟨m1, g1, g2, g3, g4⟩ := dkv_put ms k1
      obtain ⟨m2, f1, f2, f3, f4⟩ := dkv_put m1 k2
      have ht1 : (Row.lt to sg a b).tot = 1 := rfl
      have hT1 := (kpd (.dK (dkv m1))).sqT h2
      refine ⟨_, rfl, p, _, rfl, .inr hT, rfl, _, rfl, ifF (show decide (V.int ((5 : Nat) : Int) = V.int 3) = false by decide) ?_⟩
      refine ⟨_, rfl, p, _, rfl, .inr hT, rfl, _, rfl, ifF (show decide (V.int ((5 : Nat) : Int) = V.int 2) = false by decide) ?_⟩
      refine ⟨_, rfl, _, rfl, p, _, _, _, rfl, rfl, hT, atI_nat (j := 3) rfl, d, upd H d (.dK (dkv m1)), rfl, .inl ⟨_, k1, upd_same, ek1, room (by omega), by rw [upd_upd, g1]⟩, ?_⟩
      refine ⟨_, rfl, _, rfl, p, _, _, _, rfl, rfl, hT1, atI_nat (j := 4) rfl, d, upd H d (.dK (dkv m2)), rfl, .inl ⟨_, k2, upd_same, ek2, room (by omega), by rw [upd_upd, f1]⟩, ?_⟩
      refine ⟨m2, _, rfl, rfl, f2 (g2 ms1), fun j => ?_, by omega⟩
      have e : (Row.lt to sg a b).flat = [.lt to sg a b] := rfl
      rw [f3, g3, ms2, flats_take hri, askK_app, e, askK_one, or_assoc, or_assoc]
      have q : kV j ∈ (Row.lt to sg a b).asks ↔ (j = k1 ∨ j = k2) := by
        show kV j ∈ [a.v, b.v] ↔ _
        rw [List.mem_cons, List.mem_singleton, ek1, ek2]
        exact ⟨fun h => h.imp kV_inj kV_inj, fun h => h.imp (fun h => by rw [h]) (fun h => by rw [h])⟩
      rw [q]
    | .sy a, hri, ⟨p, h1, h2⟩, hrok, htk =>
      subst h1
      have hT := (kpd (.dK (dkv ms))).sqT h2
      obtain ⟨k1, ek1⟩ := a.key
      obtain ⟨m1, g1, g2, g3, g4⟩ := dkv_put ms k1
      have ht1 : (Row.sy a).tot = 1 := rfl
      refine ⟨_, rfl, p, _, rfl, .inr hT, rfl, _, rfl, ifF (show decide (V.int ((2 : Nat) : Int) = V.int 3) = false by decide) ?_⟩
      refine ⟨_, rfl, p, _, rfl, .inr hT, rfl, _, rfl, ifT (decide_eq_true rfl) ?_⟩
      refine ⟨_, rfl, _, rfl, p, _, _, _, rfl, rfl, hT, atI_nat (j := 1) rfl, d, upd H d (.dK (dkv m1)), rfl, .inl ⟨_, k1, upd_same, ek1, room (by omega), by rw [upd_upd, g1]⟩, ?_⟩
      refine ⟨m1, _, rfl, rfl, g2 ms1, fun j => ?_, by omega⟩
      have e : (Row.sy a).flat = [.sy a] := rfl
      rw [g3, ms2, flats_take hri, askK_app, e, askK_one, or_assoc]
      have q : kV j ∈ (Row.sy a).asks ↔ j = k1 := by
        show kV j ∈ [a.v] ↔ _
        rw [List.mem_singleton, ek1]
        exact ⟨kV_inj, fun h => by rw [h]⟩
      rw [q]
    | .bk kd ts qs, hri, ⟨p, l2, ws, h1, h2, h3, h4⟩, hrok, htk =>
      subst h1
      have hT := (kpd (.dK (dkv ms))).sqT h2
      obtain ⟨z, ez, hz⟩ := hrok.2.1
      obtain ⟨m1, g1, g2, g3, g4⟩ := dkv_put ms (Sum.inr z)
      have hT1 := (kpd (.dK (dkv m1))).sqT h2
      have ht1 : (Row.bk kd ts qs).tot = tots qs + 1 := rfl
      have hdq : deps qs + 1 ≤ deps rs := dep_at hri
      refine ⟨_, rfl, p, _, rfl, .inr hT, rfl, _, rfl, ifT (decide_eq_true rfl) ?_⟩
      refine ⟨_, rfl, _, rfl, p, _, _, _, rfl, rfl, hT, atI_nat (j := 1) rfl, d, upd H d (.dK (dkv m1)), rfl, .inl ⟨_, Sum.inr z, upd_same, ez, room (by omega), by rw [upd_upd, g1]⟩, ?_⟩
      refine ⟨_, rfl, p, _, _, _, rfl, rfl, hT1, atI_nat (j := 2) rfl, _, rfl, l2, d, Hc, qs, ss, m1, rfl, kpd _, ⟨ws, h3, h4⟩, hd0, by omega, hrok.2.2.2, upd_same, g2 ms1, by omega, fun m2 f1 f2 f3 => ?_⟩
      refine ⟨m2, _, rfl, upd_upd, f1, fun j => ?_, by omega⟩
      have e : (Row.bk kd ts qs).flat = [.bk kd ts qs] ++ flats qs := rfl
      rw [f2, g3, ms2, flats_take hri, askK_app, e, askK_app, askK_one, or_assoc, or_assoc]
      have q : kV j ∈ (Row.bk kd ts qs).asks ↔ j = Sum.inr z := by
        show kV j ∈ [ts] ↔ _
        rw [List.mem_singleton, ez]
        exact ⟨fun h => kV_inj (k := Sum.inr z) h, fun h => by rw [h]; rfl⟩
      rw [q]
  · rintro σ H1 ⟨ms, v2, rfl, rfl, ms1, ms2, ms3⟩
    rw [eA.len, List.take_length] at ms2 ms3
    exact ⟨_, rfl, k ms ms1 ms2 ms3⟩
theorem sc_lsets : FnScope ["_law_rows", "_law_found", "_law_row"] ["_law_rows", "_law_found"] (defScope s_lsets) := ⟨rfl, rfl, rfl, by decide +kernel, rfl, by decide +kernel, by decide +kernel⟩
theorem ok_lsets {n : Nat} (F : Fun K "_law_sets" "_law_sets" s_lsets f fd) (ml : mg "len" = none) (G : Df P w K mg base "_law_sets" n f fd ["_law_rows", "_law_found"] (spGather K setK n)) :
    FnOk P w K mg base CX0 (n + 1) f fd ["_law_rows", "_law_found"] (spGather K setK (n + 1)) := by
  refine F.ok sc_lsets (fun vs H Q E h => ?_) (fun cdv A outer s H vs Q E hr h => ?_)
  · obtain ⟨l, d, Hc, rs, ss, ks, rfl, _⟩ := h
    rfl
  obtain ⟨l, d, Hc, rs, ss, ks, rfl, hc, ⟨vs, eS, eA⟩, hd0, hdep, hok, hd, hnd, hsz, k⟩ := h
  have nd := sc_lsets.nd
  have hu := hu_of hr
  refine ⟨_, pss_cons (ps_for PassesOwn.never rfl (pi_list (pv 0)) (pg_name (i := 2) nd rfl (Or.inl rfl))
      (pss_one (ps_if (pt_cmpR op_eq (pe_callB call_len_seq rfl ml PySem.boot_len (pa_cons (pv 2) pa_nil)) pe_int (nomark _))
        (pss_one (ps_expr (pe_df G hr (pa_cons (pe_ix ix_tup (pv 2) pe_int (fun _ _ => rfl)) (pa_cons (pv 1) pa_nil)))))
        (pss_one (ps_if (pt_cmpR op_eq (pe_callB call_len_seq rfl ml PySem.boot_len (pa_cons (pv 2) pa_nil)) pe_int (nomark _))
          (pss_one (ps_dput hu (pv 1) (pe_ix ix_tup (pv 2) pe_int (fun _ _ => rfl)) pe_bl rfl)) pss_nil))))) <|
    pss_one (ps_ret (pv 1)), ?_⟩
  have kpd : ∀ o, Kp Hc (upd H d o) := fun o => hc.put hd0 o
  refine ⟨_, rfl, l, rfl, ⟨_, hc.sqL eS⟩, for_list (K := K) (a := l) (xs := vs) (fun i σ H' => ∃ (ms : List Key) (v2 : Option V), σ = [some (.ref l), some (.ref d), v2] ∧ H' = upd H d (.dK (dkv ms)) ∧ ms.Nodup ∧ (∀ j, j ∈ ms ↔ j ∈ ks ∨ setK (flats (rs.take i)) j) ∧ ms.length ≤ ks.length + 2 * tots (rs.take i))
    ⟨ks, none, rfl, (upd_self hd).symm, hnd, fun j => by simp [setK, flats], Nat.le_add_right _ _⟩ (fun i σ H' _ ⟨_, _, _, e, _⟩ => by rw [e]; exact (kpd _).sqL eS) ?_ ?_⟩
  · rintro i v σ H1 hi ⟨ms, v2, rfl, rfl, ms1, ms2, ms3⟩
    obtain ⟨r, hri, hrow⟩ := eA.at hi
    have hrok := oks_at hok hri
    have htk := tots_take hri
    have hle := tots_take_le rs (i + 1)
    have room : ∀ {js : List Key}, js.length ≤ 30000 → (dkv js).length < sizeLine := fun h => by
      unfold dkv
      rw [List.length_map, sizeLine_eq]
      omega
    match r, hri, hrow, hrok, htk with
    | .lt to sg a b, hri, ⟨p, h1, h2⟩, hrok, htk =>
      subst h1
      have hT := (kpd (.dK (dkv ms))).sqT h2
      obtain ⟨m1, g1, g2, g3, g4⟩ := dkv_put ms (Sum.inr to)
      have ht1 : (Row.lt to sg a b).tot = 1 := rfl
      refine ⟨_, rfl, p, _, rfl, .inr hT, rfl, _, rfl, ifF (show decide (V.int ((5 : Nat) : Int) = V.int 3) = false by decide) ?_⟩
      refine ⟨_, rfl, p, _, rfl, .inr hT, rfl, _, rfl, ifT (decide_eq_true rfl) ?_⟩
      refine ⟨_, rfl, _, rfl, p, _, _, _, rfl, rfl, hT, atI_nat (j := 1) rfl, d, upd H d (.dK (dkv m1)), rfl, .inl ⟨_, Sum.inr to, upd_same, rfl, room (by omega), by rw [upd_upd, g1]⟩, ?_⟩
      refine ⟨m1, _, rfl, rfl, g2 ms1, fun j => ?_, by omega⟩
      have e : (Row.lt to sg a b).flat = [.lt to sg a b] := rfl
      rw [g3, ms2, flats_take hri, setK_app, e, setK_one, or_assoc]
      have q : (∃ x ∈ (Row.lt to sg a b).sets, j = Sum.inr x) ↔ j = Sum.inr to :=
        ⟨fun ⟨x, hx, ex⟩ => by rw [ex, List.mem_singleton.mp hx], fun ex => ⟨to, List.mem_singleton.mpr rfl, ex⟩⟩
      rw [q]
    | .sy a, hri, ⟨p, h1, h2⟩, hrok, htk =>
      subst h1
      have hT := (kpd (.dK (dkv ms))).sqT h2
      have ht1 : (Row.sy a).tot = 1 := rfl
      refine ⟨_, rfl, p, _, rfl, .inr hT, rfl, _, rfl, ifF (show decide (V.int ((2 : Nat) : Int) = V.int 3) = false by decide) ?_⟩
      refine ⟨_, rfl, p, _, rfl, .inr hT, rfl, _, rfl, ifF (show decide (V.int ((2 : Nat) : Int) = V.int 5) = false by decide) ?_⟩
      refine ⟨ms, _, rfl, rfl, ms1, fun j => ?_, by omega⟩
      have e : (Row.sy a).flat = [.sy a] := rfl
      rw [ms2, flats_take hri, setK_app, e, setK_one]
      exact or_congr Iff.rfl ⟨Or.inl, fun h => h.elim id fun ⟨x, hx, _⟩ => by cases hx⟩
    | .bk kd ts qs, hri, ⟨p, l2, ws, h1, h2, h3, h4⟩, hrok, htk =>
      subst h1
      have hT := (kpd (.dK (dkv ms))).sqT h2
      have ht1 : (Row.bk kd ts qs).tot = tots qs + 1 := rfl
      have hdq : deps qs + 1 ≤ deps rs := dep_at hri
      refine ⟨_, rfl, p, _, rfl, .inr hT, rfl, _, rfl, ifT (decide_eq_true rfl) ?_⟩
      refine ⟨_, rfl, p, _, _, _, rfl, rfl, hT, atI_nat (j := 2) rfl, _, rfl, l2, d, Hc, qs, ss, ms, rfl, kpd _, ⟨ws, h3, h4⟩, hd0, by omega, hrok.2.2.2, upd_same, ms1, by omega, fun m2 f1 f2 f3 => ?_⟩
      refine ⟨m2, _, rfl, upd_upd, f1, fun j => ?_, by omega⟩
      have e : (Row.bk kd ts qs).flat = [.bk kd ts qs] ++ flats qs := rfl
      rw [f2, ms2, flats_take hri, setK_app, e, setK_app, setK_one, or_assoc]
      have q : (∃ x ∈ (Row.bk kd ts qs).sets, j = Sum.inr x) ↔ False := ⟨fun ⟨x, hx, _⟩ => (by cases hx), False.elim⟩
      rw [q, false_or]
  · rintro σ H1 ⟨ms, v2, rfl, rfl, ms1, ms2, ms3⟩
    rw [eA.len, List.take_length] at ms2 ms3
    exact ⟨_, rfl, k ms ms1 ms2 ms3⟩
theorem any_take {p : Row → Bool} {rs : List Row} {i : Nat} {r : Row} (h : rs[i]? = some r) : (flats (rs.take (i + 1))).any p = ((flats (rs.take i)).any p || r.flat.any p) := by
  rw [flats_take h, List.any_append]
theorem any_here {p : Row → Bool} {rs : List Row} {i : Nat} {r : Row} (h : rs[i]? = some r) (hp : r.flat.any p = true) : (flats rs).any p = true := by
  have e : flats rs = flats (rs.take (i + 1)) ++ flats (rs.drop (i + 1)) := by rw [← flats_app, List.take_append_drop]
  rw [e, List.any_append, any_take h, hp, Bool.or_true, Bool.true_or]
theorem sc_lfails : FnScope ["_law_rows", "_law_row"] ["_law_rows"] (defScope s_lfails) := ⟨rfl, rfl, rfl, by decide +kernel, rfl, by decide +kernel, by decide +kernel⟩
theorem ok_lfails {n : Nat} (F : Fun K "_law_fails" "_law_fails" s_lfails f fd) (B : Bn mg) (G : Df P w K mg base "_law_fails" n f fd ["_law_rows"] (spFind K Row.fails n)) : FnOk P w K mg base CX0 (n + 1) f fd ["_law_rows"] (spFind K Row.fails (n + 1)) := by
  refine F.ok sc_lfails (fun vs H Q E h => ?_) (fun cdv A outer s H vs Q E hr h => ?_)
  · obtain ⟨l, rs, ss, rfl, _⟩ := h
    rfl
  obtain ⟨l, rs, ss, rfl, ⟨vs, eS, eA⟩, hdep, hok, k⟩ := h
  have nd := sc_lfails.nd
  refine ⟨_, pss_cons (ps_for PassesOwn.never rfl (pi_list (pv 0)) (pg_name (i := 1) nd rfl (Or.inl rfl))
      (pss_cons (ps_if (PW.pt (pw_and (pt_cmpR op_eq (pe_callB call_len_seq rfl B.len PySem.boot_len (pa_cons (pv 1) pa_nil)) pe_int (nomark _)) (pw_and1 (pt_val (pe_df G hr (pa_cons (pe_ix ix_tup (pv 1) pe_int (fun _ _ => rfl)) pa_nil))))))
        (pss_one (ps_ret pe_bl)) pss_nil) <|
      pss_one (ps_if (PW.pt (pw_and (pt_cmpR op_eq (pe_callB call_len_seq rfl B.len PySem.boot_len (pa_cons (pv 1) pa_nil)) pe_int (nomark _)) (pw_and (pt_cmpR op_eq (pe_ix ix_tup (pv 1) pe_int (fun _ _ => rfl)) pe_str (nomark _))
        (pw_and1 (PW.pt (pw_or (pt_val (pe_callB call_isi rfl B.isinstance (by decide +kernel) (pa_cons (pe_ix ix_tup (pv 1) pe_int (fun _ _ => rfl)) (pa_cons (pe_bltn (v := .ty "str") rfl B.str (by decide +kernel) rfl) pa_nil))))
          (pw_or1 (pt_cmpR op_eq (pe_ix ix_tup (pv 1) pe_int (fun _ _ => rfl)) pe_int (nomark _)))))))))
        (pss_one (ps_ret pe_bl)) pss_nil))) <|
    pss_one (ps_ret pe_bl), ?_⟩
  refine ⟨_, rfl, l, rfl, ⟨_, eS⟩, for_list (K := K) (a := l) (xs := vs) (fun i σ H' => ∃ (v1 : Option V), σ = [some (.ref l), v1] ∧ H' = H ∧ (flats (rs.take i)).any Row.fails = false)
    ⟨none, rfl, rfl, rfl⟩ (fun i σ H' _ ⟨_, _, e, _⟩ => by rw [e]; exact eS) ?_ ?_⟩
  · rintro i v σ H1 hi ⟨v1, rfl, rfl, hno⟩
    obtain ⟨r, hri, hrow⟩ := eA.at hi
    have hrok := oks_at hok hri
    have yes : r.flat.any Row.fails = true → Q (.bl true) H1 := fun h => by
      have e := any_here hri h
      rw [e] at k
      exact k
    have no : r.flat.any Row.fails = false → ∀ w1 : Option V, ∃ (v1 : Option V), [some (V.ref l), w1] = [some (V.ref l), v1] ∧ H1 = H1 ∧ (flats (rs.take (i + 1))).any Row.fails = false := fun h w1 => ⟨w1, rfl, rfl, by rw [any_take hri, hno, h]; rfl⟩
    match r, hrow, hrok, yes, no with
    | .lt to sg a b, ⟨p, h1, h2⟩, hrok, yes, no =>
      subst h1
      refine ⟨_, rfl, p, _, rfl, .inr h2, rfl, _, rfl, ifF (show decide (V.int ((5 : Nat) : Int) = V.int 3) = false by decide) (iteF ?_)⟩
      refine ⟨_, rfl, p, _, rfl, .inr h2, rfl, _, rfl, ifT (decide_eq_true rfl) ?_⟩
      have ef : (Row.lt to sg a b).flat.any Row.fails = (decide (sg = "/") && b.nought) := by
        show ((decide (sg = "/") && b.nought) || false) = _
        rw [Bool.or_false]
      refine ⟨_, rfl, p, _, _, _, rfl, rfl, h2, atI_nat (j := 2) rfl, rfl, _, rfl, ?_⟩
      by_cases c : sg = "/"
      · subst c
        rw [decide_eq_true rfl, Bool.true_and] at ef
        refine ifT (decide_eq_true rfl) ?_
        match b, h2, ef with
        | .nm z, h2, ef =>
          refine ⟨_, rfl, p, _, _, _, rfl, rfl, h2, atI_nat (j := 4) rfl, _, _, _, _, true, rfl, .ty _, ty_str _, kit_ty (by decide +kernel), _, rfl, iteT (iteT ?_)⟩
          exact yes ef
        | .nu z, h2, ef =>
          refine ⟨_, rfl, p, _, _, _, rfl, rfl, h2, atI_nat (j := 4) rfl, _, _, _, _, false, rfl, .ty _, ty_int _, kit_ty (by decide +kernel), _, rfl, iteF ⟨_, rfl, p, _, _, _, rfl, rfl, h2, atI_nat (j := 4) rfl, rfl, _, rfl, ?_⟩⟩
          refine ite2 (fun c => ?_) (fun c => ?_)
          · have cz : z = 0 := V.int.inj (of_decide_eq_true c)
            exact yes (ef.trans (decide_eq_true cz))
          · have cz : ¬ z = 0 := fun e => c (decide_eq_true (by rw [e]; rfl))
            exact no (ef.trans (decide_eq_false cz)) _
      · rw [decide_eq_false c, Bool.false_and] at ef
        exact ifF (decide_eq_false fun e => c (V.str.inj e)) (iteF (no ef _))
    | .sy a, ⟨p, h1, h2⟩, hrok, yes, no =>
      subst h1
      refine ⟨_, rfl, p, _, rfl, .inr h2, rfl, _, rfl, ifF (show decide (V.int ((2 : Nat) : Int) = V.int 3) = false by decide) (iteF ?_)⟩
      exact ⟨_, rfl, p, _, rfl, .inr h2, rfl, _, rfl, ifF (show decide (V.int ((2 : Nat) : Int) = V.int 5) = false by decide) (iteF (no rfl _))⟩
    | .bk kd ts qs, ⟨p, l2, ws, h1, h2, h3, h4⟩, hrok, yes, no =>
      subst h1
      have hdq : deps qs + 1 ≤ deps rs := dep_at hri
      have ef : (Row.bk kd ts qs).flat.any Row.fails = (flats qs).any Row.fails := rfl
      refine ⟨_, rfl, p, _, rfl, .inr h2, rfl, _, rfl, ifT (decide_eq_true rfl) ?_⟩
      refine ⟨_, rfl, p, _, _, _, rfl, rfl, h2, atI_nat (j := 2) rfl, l2, qs, ss, rfl, ⟨ws, h3, h4⟩, by omega, hrok.2.2.2, _, rfl, ?_⟩
      refine ite2 (fun c => ?_) (fun c => ?_)
      · exact yes c
      · exact ⟨_, rfl, p, _, rfl, .inr h2, rfl, _, rfl, ifF (show decide (V.int ((3 : Nat) : Int) = V.int 5) = false by decide) (iteF (no (Bool.eq_false_iff.mpr c) _))⟩
  · rintro σ H1 ⟨v1, rfl, rfl, hno⟩
    rw [eA.len, List.take_length] at hno
    rw [hno] at k
    exact k
theorem sc_lspeaks : FnScope ["_law_rows", "_law_row"] ["_law_rows"] (defScope s_lspeaks) := ⟨rfl, rfl, rfl, by decide +kernel, rfl, by decide +kernel, by decide +kernel⟩
theorem ok_lspeaks {n : Nat} (F : Fun K "_law_speaks" "_law_speaks" s_lspeaks f fd) (B : Bn mg) (G : Df P w K mg base "_law_speaks" n f fd ["_law_rows"] (spFind K Row.says n)) : FnOk P w K mg base CX0 (n + 1) f fd ["_law_rows"] (spFind K Row.says (n + 1)) := by
  refine F.ok sc_lspeaks (fun vs H Q E h => ?_) (fun cdv A outer s H vs Q E hr h => ?_)
  · obtain ⟨l, rs, ss, rfl, _⟩ := h
    rfl
  obtain ⟨l, rs, ss, rfl, ⟨vs, eS, eA⟩, hdep, hok, k⟩ := h
  have nd := sc_lspeaks.nd
  refine ⟨_, pss_cons (ps_for PassesOwn.never rfl (pi_list (pv 0)) (pg_name (i := 1) nd rfl (Or.inl rfl))
      (pss_one (ps_if (PW.pt (pw_or (pt_cmpR op_eq (pe_callB call_len_seq rfl B.len PySem.boot_len (pa_cons (pv 1) pa_nil)) pe_int (nomark _))
        (pw_or1 (PW.pt (pw_and (pt_cmpR op_eq (pe_callB call_len_seq rfl B.len PySem.boot_len (pa_cons (pv 1) pa_nil)) pe_int (nomark _)) (pw_and1 (pt_val (pe_df G hr (pa_cons (pe_ix ix_tup (pv 1) pe_int (fun _ _ => rfl)) pa_nil)))))))))
        (pss_one (ps_ret pe_bl)) pss_nil))) <|
    pss_one (ps_ret pe_bl), ?_⟩
  refine ⟨_, rfl, l, rfl, ⟨_, eS⟩, for_list (K := K) (a := l) (xs := vs) (fun i σ H' => ∃ (v1 : Option V), σ = [some (.ref l), v1] ∧ H' = H ∧ (flats (rs.take i)).any Row.says = false)
    ⟨none, rfl, rfl, rfl⟩ (fun i σ H' _ ⟨_, _, e, _⟩ => by rw [e]; exact eS) ?_ ?_⟩
  · rintro i v σ H1 hi ⟨v1, rfl, rfl, hno⟩
    obtain ⟨r, hri, hrow⟩ := eA.at hi
    have hrok := oks_at hok hri
    have yes : r.flat.any Row.says = true → Q (.bl true) H1 := fun h => by
      have e := any_here hri h
      rw [e] at k
      exact k
    have no : r.flat.any Row.says = false → ∀ w1 : Option V, ∃ (v1 : Option V), [some (V.ref l), w1] = [some (V.ref l), v1] ∧ H1 = H1 ∧ (flats (rs.take (i + 1))).any Row.says = false := fun h w1 => ⟨w1, rfl, rfl, by rw [any_take hri, hno, h]; rfl⟩
    match r, hrow, hrok, yes, no with
    | .lt to sg a b, ⟨p, h1, h2⟩, hrok, yes, no =>
      subst h1
      refine ⟨_, rfl, p, _, rfl, .inr h2, rfl, _, rfl, ifF (show decide (V.int ((5 : Nat) : Int) = V.int 2) = false by decide) ?_⟩
      exact ⟨_, rfl, p, _, rfl, .inr h2, rfl, _, rfl, ifF (show decide (V.int ((5 : Nat) : Int) = V.int 3) = false by decide) (iteF (no rfl _))⟩
    | .sy a, ⟨p, h1, h2⟩, hrok, yes, no =>
      subst h1
      exact ⟨_, rfl, p, _, rfl, .inr h2, rfl, _, rfl, ifT (decide_eq_true rfl) (iteT (yes rfl))⟩
    | .bk kd ts qs, ⟨p, l2, ws, h1, h2, h3, h4⟩, hrok, yes, no =>
      subst h1
      have hdq : deps qs + 1 ≤ deps rs := dep_at hri
      refine ⟨_, rfl, p, _, rfl, .inr h2, rfl, _, rfl, ifF (show decide (V.int ((3 : Nat) : Int) = V.int 2) = false by decide) ?_⟩
      refine ⟨_, rfl, p, _, rfl, .inr h2, rfl, _, rfl, ifT (decide_eq_true rfl) ?_⟩
      refine ⟨_, rfl, p, _, _, _, rfl, rfl, h2, atI_nat (j := 2) rfl, l2, qs, ss, rfl, ⟨ws, h3, h4⟩, by omega, hrok.2.2.2, _, rfl, ?_⟩
      refine ite2 (fun c => ?_) (fun c => ?_)
      · exact yes c
      · exact no (Bool.eq_false_iff.mpr c) _
  · rintro σ H1 ⟨v1, rfl, rfl, hno⟩
    rw [eA.len, List.take_length] at hno
    rw [hno] at k
    exact k
end
end Lm
namespace Lm
open PySem L2
abbrev s_lgoes : Stmt := topS 32
abbrev s_lparted : Stmt := topS 33
section
variable {P : Program} {w : World} {K : PySem.W.Frag} {mg : Str → Option Value} {base : Heap} {f : Addr} {fd : FuncData}
theorem all_lreads (F : Fun K "_law_reads" "_law_reads" s_lreads f fd) (m : mg "_law_reads" = some (.ref f)) (b : Binds K fd ["_law_rows", "_law_found"] []) (ml : mg "len" = none) : ∀ n, FnOk P w K mg base CX0 n f fd ["_law_rows", "_law_found"] (spGather K askK n)
  | 0 => none_left fun vs H Q E ⟨l, d, Hc, rs, ss, ks, _, _, _, _, h, _⟩ => absurd h (Nat.not_lt_zero _)
  | n + 1 => ok_lreads F ml ⟨all_lreads F m b ml n, m, F.kp, b⟩
theorem all_lsets (F : Fun K "_law_sets" "_law_sets" s_lsets f fd) (m : mg "_law_sets" = some (.ref f)) (b : Binds K fd ["_law_rows", "_law_found"] []) (ml : mg "len" = none) : ∀ n, FnOk P w K mg base CX0 n f fd ["_law_rows", "_law_found"] (spGather K setK n)
  | 0 => none_left fun vs H Q E ⟨l, d, Hc, rs, ss, ks, _, _, _, _, h, _⟩ => absurd h (Nat.not_lt_zero _)
  | n + 1 => ok_lsets F ml ⟨all_lsets F m b ml n, m, F.kp, b⟩
theorem all_lfails (F : Fun K "_law_fails" "_law_fails" s_lfails f fd) (m : mg "_law_fails" = some (.ref f)) (b : Binds K fd ["_law_rows"] []) (B : Bn mg) : ∀ n, FnOk P w K mg base CX0 n f fd ["_law_rows"] (spFind K Row.fails n)
  | 0 => none_left fun vs H Q E ⟨l, rs, ss, _, _, h, _⟩ => absurd h (Nat.not_lt_zero _)
  | n + 1 => ok_lfails F B ⟨all_lfails F m b B n, m, F.kp, b⟩
theorem all_lspeaks (F : Fun K "_law_speaks" "_law_speaks" s_lspeaks f fd) (m : mg "_law_speaks" = some (.ref f)) (b : Binds K fd ["_law_rows"] []) (B : Bn mg) : ∀ n, FnOk P w K mg base CX0 n f fd ["_law_rows"] (spFind K Row.says n)
  | 0 => none_left fun vs H Q E ⟨l, rs, ss, _, _, h, _⟩ => absurd h (Nat.not_lt_zero _)
  | n + 1 => ok_lspeaks F B ⟨all_lspeaks F m b B n, m, F.kp, b⟩
end
def spLGoes (K : PySem.W.Frag) (n : Nat) : Sp := fun vs H Q _ => ∃ (v : V) (ls lb : Addr) (r : Row) (st be : List Row) (ss : List Str), vs = [v, .ref ls, .ref lb] ∧ RowAt K H r v ∧ RowsAt K H ls st ∧ RowsAt K H lb be ∧ r.ok ss ∧ oks ss st ∧ oks ss be ∧ deps st < n ∧ deps be < n ∧ tots st ≤ 3000 ∧ tots be ≤ 3000 ∧
  (Goes st r be → ∀ H', Same H H' → Q (.bl true) H') ∧ (¬ Goes st r be → ∀ H', Same H H' → Q (.bl false) H')
def spLParted (K : PySem.W.Frag) (n : Nat) : Sp := fun vs H Q _ => ∃ (l : Addr) (Hc : Hp) (rs : List Row) (ss : List Str), vs = [.ref l] ∧ Same Hc H ∧ RowsAt K Hc l rs ∧ oks ss rs ∧ deps rs < n ∧ tots rs ≤ 3000 ∧
  ∀ (Hc' H' : Hp) (q A S : Addr), Part Hc H Hc' H' → Hc' q = some (.lst [.ref A, .ref S]) → RowsL K Hc' A (parts [] rs).1 → RowsL K Hc' S (parts [] rs).2 → Q (.ref q) H'
section
variable {P : Program} {w : World} {K : PySem.W.Frag} {mg : Str → Option Value} {base : Heap} {f fR fS fF fP : Addr} {fd dR dS dF dP : FuncData}
abbrev nLGoes : List Str := ["_law_row", "_law_staying", "_law_behind", "_law_changed", "_law_thing"]
theorem sc_lgoes : FnScope nLGoes ["_law_row", "_law_staying", "_law_behind"] (defScope s_lgoes) := ⟨rfl, rfl, rfl, by decide +kernel, rfl, by decide +kernel, by decide +kernel⟩
theorem ok_lgoes {n : Nat} (F : Fun K "_law_goes" "_law_goes" s_lgoes f fd) (B : Bn mg) (DR : Df P w K mg base "_law_reads" n fR dR ["_law_rows", "_law_found"] (spGather K askK n)) (DS : Df P w K mg base "_law_sets" n fS dS ["_law_rows", "_law_found"] (spGather K setK n))
    (DF : Df P w K mg base "_law_fails" n fF dF ["_law_rows"] (spFind K Row.fails n)) (DP : Df P w K mg base "_law_speaks" n fP dP ["_law_rows"] (spFind K Row.says n)) : FnOk P w K mg base CX0 (n + 1) f fd ["_law_row", "_law_staying", "_law_behind"] (spLGoes K n) := by
  refine F.ok sc_lgoes (fun vs H Q E h => ?_) (fun cdv A outer s H vs Q E hr h => ?_)
  · obtain ⟨v, ls, lb, r, st, be, ss, rfl, _⟩ := h
    rfl
  obtain ⟨v, ls, lb, r, st, be, ss, rfl, hR, hSt, hBe, hok, oks1, oks2, dep1, dep2, tot1, tot2, k1, k2⟩ := h
  have nd := sc_lgoes.nd
  have hu := hu_of hr
  refine ⟨_, C8.pss_cut (ps_if (PW.pt (pw_or (pt_cmpR op_ne (pe_callB call_len_seq rfl B.len PySem.boot_len (pa_cons (pv 0) pa_nil)) pe_int (nomark _)) (pw_or (pt_val (pe_df DF hr (pa_cons (pv 1) pa_nil)))
      (pw_or1 (PW.pt (pw_and (pt_val (pe_df DF hr (pa_cons (pe_lst (pa_cons (pv 0) pa_nil)) pa_nil))) (pw_and1 (pt_val (pe_df DP hr (pa_cons (pv 1) pa_nil)))))))))) (pss_one (ps_ret pe_bl)) pss_nil) <|
    pss_cons (ps_set (i := 3) nd rfl (Or.inl rfl) (pe_df DS hr (pa_cons (pv 2) (pa_cons (pe_df DS hr (pa_cons (pv 1) (pa_cons pe_dnewK pa_nil))) pa_nil)))) <|
    pss_cons (ps_if (PW.pt (pw_or (pt_cmp (pc_din hu (pe_ix ix_tup (pv 0) pe_int (fun _ _ => rfl)) (pv 3))) (pw_or1 (pt_cmp (pc_din hu (pe_ix ix_tup (pv 0) pe_int (fun _ _ => rfl)) (pe_df DR hr (pa_cons (pv 1) (pa_cons pe_dnewK pa_nil)))))))) (pss_one (ps_ret pe_bl)) pss_nil) <|
    pss_cons (ps_for PassesOwn.never rfl (pi_tup (pe_slice sl_tup (pv 0) (po_some pe_int) po_none)) (pg_name (i := 4) nd rfl (Or.inl rfl))
      (pss_one (ps_if (PW.pt (pw_or (pt_cmpR op_eq (pv 4) (pe_ix ix_tup (pv 0) pe_int (fun _ _ => rfl)) (nomark _)) (pw_or1 (pt_cmp (pc_din hu (pv 4) (pv 3)))))) (pss_one (ps_ret pe_bl)) pss_nil))) <|
    pss_one (ps_ret pe_bl), ?_⟩
  match r, hR, hok, k1, k2 with
  | .sy a, ⟨p, h1, h2⟩, hok, k1, k2 =>
    subst h1
    refine ⟨fun _ _ => False, ⟨_, rfl, p, _, rfl, .inr h2, rfl, _, rfl, ifT (show (!decide (V.int ((2 : Nat) : Int) = V.int 5)) = true by decide) (iteT ?_)⟩, fun _ _ z => z.elim⟩
    exact k2 (fun ⟨to, sg, x, y, z, _⟩ => Row.noConfusion z) H (Same.refl H)
  | .bk kd ts qs, ⟨p, l2, zs, h1, h2, _⟩, hok, k1, k2 =>
    subst h1
    refine ⟨fun _ _ => False, ⟨_, rfl, p, _, rfl, .inr h2, rfl, _, rfl, ifT (show (!decide (V.int ((3 : Nat) : Int) = V.int 5)) = true by decide) (iteT ?_)⟩, fun _ _ z => z.elim⟩
    exact k2 (fun ⟨to, sg, x, y, z, _⟩ => Row.noConfusion z) H (Same.refl H)
  | .lt to sg a b, ⟨p, h1, h2⟩, hok, k1, k2 =>
    subst h1
    have only : ∀ {to' sg' : Str} {x y : Vl}, Row.lt to sg a b = .lt to' sg' x y → to' = to := fun e => by cases e; rfl
    have fone : (flats [Row.lt to sg a b]).any Row.fails = (Row.lt to sg a b).fails := by
      rw [flats_one]
      show ((Row.lt to sg a b).fails || false) = _
      rw [Bool.or_false]
    refine ⟨fun σ H' => σ = [some (.ref p), some (.ref ls), some (.ref lb), none, none] ∧ Same H H' ∧ (flats st).any Row.fails = false ∧ ((Row.lt to sg a b).fails = true → (flats st).any Row.says = false), ?_, ?_⟩
    · refine ⟨_, rfl, p, _, rfl, .inr h2, rfl, _, rfl, ifF (show (!decide (V.int ((5 : Nat) : Int) = V.int 5)) = false by decide) ?_⟩
      refine ⟨_, rfl, ls, st, ss, rfl, hSt, dep1, oks1, _, rfl, ?_⟩
      by_cases c1 : (flats st).any Row.fails = true
      · exact ifT c1 (iteT (k2 (fun ⟨to', sg', x, y, z, g1, _⟩ => by rw [c1] at g1; cases g1) H (Same.refl H)))
      have c1' : (flats st).any Row.fails = false := Bool.eq_false_iff.mpr c1
      refine ifF c1' ⟨_, rfl, (by show 1 ≤ sizeLine; decide), fun L hL => ?_⟩
      obtain ⟨H1, g1, s1, eL⟩ := newH hL (.lst [.ref p])
      rw [g1]
      refine ⟨L, [.lt to sg a b], ss, rfl, ⟨_, SqL.of eL, AllAt.one ⟨p, rfl, Kp.sqT (Same.kp s1) h2⟩⟩, (by show max 0 0 < n; omega), ⟨hok, True.intro⟩, _, rfl, ?_⟩
      rw [fone]
      by_cases c3 : (Row.lt to sg a b).fails = true
      · refine ifT c3 ⟨_, rfl, ls, st, ss, rfl, hSt.mono (Same.kp s1), dep1, oks1, _, rfl, ?_⟩
        by_cases c2 : (flats st).any Row.says = true
        · refine ifT c2 (k2 (fun ⟨to', sg', x, y, z, g1, g3, _⟩ => ?_) H1 s1)
          have := g3 c3
          rw [c2] at this
          cases this
        · exact ifF (Bool.eq_false_iff.mpr c2) ⟨rfl, s1, c1', fun _ => Bool.eq_false_iff.mpr c2⟩
      · exact ifF (Bool.eq_false_iff.mpr c3) (iteF ⟨rfl, s1, c1', fun z => absurd z c3⟩)
    rintro σ H1 ⟨rfl, s1, hfail, hsay⟩
    refine ⟨_, rfl, _, rfl, fun d hd => ?_⟩
    have kp1 : ∀ o, Kp H1 (upd H1 d o) := fun o => (Kp.refl H1).put hd o
    refine ⟨ls, d, H1, st, ss, [], rfl, kp1 _, hSt.mono (Same.kp s1), hd, dep1, oks1, upd_same, List.nodup_nil, (by show 0 + 2 * tots st ≤ 30000; omega), fun ks1 n1 m1 z1 => ?_⟩
    rw [upd_upd]
    have z1' : ks1.length ≤ 2 * tots st := by
      have q : ks1.length ≤ 0 + 2 * tots st := z1
      omega
    refine ⟨lb, d, H1, be, ss, ks1, rfl, kp1 _, hBe.mono (Same.kp s1), hd, dep2, oks2, upd_same, n1, by omega, fun ks2 n2 m2 z2 => ?_⟩
    rw [upd_upd]
    obtain ⟨H2, g2, s2, e2⟩ := newH hd (.dK (dkv ks2))
    rw [g2]
    have s12 := s1.trans s2
    have hT2 := Kp.sqT (Same.kp s12) h2
    have inS : ∀ k, k ∈ ks2 ↔ setK (flats st) k ∨ setK (flats be) k := fun k => by
      rw [m2, m1]
      exact or_congr ⟨fun h => h.elim (fun z => by cases z) id, Or.inr⟩ Iff.rfl
    have inN : ∀ x, Sum.inr x ∈ ks2 ↔ setN (flats st) x ∨ setN (flats be) x := fun x => by rw [inS, setK_N, setK_N]
    refine ⟨_, rfl, p, _, _, _, rfl, rfl, hT2, atI_nat (j := 1) rfl, _, rfl, d, _, rfl, DGet.k (k := Sum.inr to) e2, _, rfl, ?_⟩
    by_cases c2 : Sum.inr to ∈ ks2
    · refine ifT (dkv_some.mpr c2) (iteT (k2 (fun ⟨to', sg', x, y, z, g1, g3, g4, g5, _⟩ => ?_) H2 s12))
      have e := only z
      subst e
      exact ((inN to').mp c2).elim g4 g5
    refine ifF (Bool.eq_false_iff.mpr fun z => c2 (dkv_some.mp z)) ?_
    refine ⟨_, rfl, p, _, _, _, rfl, rfl, hT2, atI_nat (j := 1) rfl, _, rfl, fun d2 hd2 => ?_⟩
    refine ⟨ls, d2, H2, st, ss, [], rfl, (Kp.refl H2).put hd2 _, hSt.mono (Same.kp s12), hd2, dep1, oks1, upd_same, List.nodup_nil, (by show 0 + 2 * tots st ≤ 30000; omega), fun ks3 n3 m3 z3 => ?_⟩
    rw [upd_upd]
    obtain ⟨H3, g3, s3, e3⟩ := newH hd2 (.dK (dkv ks3))
    rw [g3]
    have s13 := s12.trans s3
    have inA : ∀ x, Sum.inr x ∈ ks3 ↔ askN (flats st) x := fun x => by
      rw [m3, askK_N]
      exact ⟨fun h => h.elim (fun z => by cases z) id, Or.inr⟩
    refine ⟨d2, _, rfl, DGet.k (k := Sum.inr to) e3, _, rfl, ?_⟩
    by_cases c3 : Sum.inr to ∈ ks3
    · refine ifT (dkv_some.mpr c3) (k2 (fun ⟨to', sg', x, y, z, g1, g3, g4, g5, g6, _⟩ => ?_) H3 s13)
      have e := only z
      subst e
      exact g6 ((inA to').mp c3)
    refine ifF (Bool.eq_false_iff.mpr fun z => c3 (dkv_some.mp z)) ?_
    have hT3 := Kp.sqT (Same.kp s13) h2
    refine ⟨_, rfl, 3, rfl, p, _, rfl, hT3, (by show ¬ (HT.sIx 5 0 (some 3) = 0 ∧ HT.sIx 5 5 none = 5); decide), fun q hq => ?_⟩
    obtain ⟨H4, g4, s4, e4⟩ := newH hq (.tup [a.v, b.v])
    have g4' : upd H3 q (.tup (cutV [.str "let", .str to, .str sg, a.v, b.v] (some 3) none)) = H4 := g4
    rw [g4']
    have s14 := s13.trans s4
    have hT4 := Kp.sqT (Same.kp s14) h2
    have ed4 := (s3.trans s4) _ _ e2
    have not : ∀ x, V.str x ∈ (Row.lt to sg a b).asks → (x = to ∨ Sum.inr x ∈ ks2) → ¬ Goes st (.lt to sg a b) be := fun x hx hor ⟨to', sg', x', y', z, _, _, _, _, _, g7⟩ => by
      have e := only z
      subst e
      obtain ⟨n1, n2, n3⟩ := g7 x hx
      exact hor.elim n1 fun h => ((inN x).mp h).elim n2 n3
    refine ⟨q, rfl, ⟨_, SqT.of e4⟩, for_tup (K := K) (a := q) (xs := [a.v, b.v]) (fun i σ H' => ∃ v4 : Option V, σ = [some (.ref p), some (.ref ls), some (.ref lb), some (.ref d), v4] ∧ H' = H4 ∧ ∀ x, V.str x ∈ [a.v, b.v].take i → x ≠ to ∧ ¬ setN (flats st) x ∧ ¬ setN (flats be) x)
      ⟨none, rfl, rfl, fun x hx => by cases hx⟩ (fun i σ H' _ ⟨_, _, e, _⟩ => by rw [e]; exact SqT.of e4) ?_ ?_⟩
    · rintro i v σ H' hi ⟨v4, rfl, rfl, hall⟩
      have hv : (∃ s, v = .str s) ∨ ∃ z, v = .int z := by
        have lit : ∀ x : Vl, (∃ s, x.v = .str s) ∨ ∃ z, x.v = .int z := fun x => match x with
          | .nm s => .inl ⟨s, rfl⟩
          | .nu i => .inr ⟨i, rfl⟩
        match i, hi with
        | 0, hi => cases hi; exact lit a
        | 1, hi => cases hi; exact lit b
      have tk := take_one hi
      have hin : v ∈ (Row.lt to sg a b).asks := List.mem_of_getElem? hi
      rcases hv with ⟨z, rfl⟩ | ⟨z, rfl⟩
      · refine ⟨_, rfl, _, rfl, p, _, _, _, rfl, rfl, hT4, atI_nat (j := 1) rfl, rfl, _, rfl, ?_⟩
        by_cases c4 : z = to
        · exact ifT (decide_eq_true (by rw [c4])) (iteT (k2 (not z hin (.inl c4)) _ s14))
        refine ifF (decide_eq_false fun y => c4 (V.str.inj y)) ⟨_, rfl, _, rfl, d, _, rfl, DGet.k (k := Sum.inr z) ed4, _, rfl, ?_⟩
        by_cases c5 : Sum.inr z ∈ ks2
        · exact ifT (dkv_some.mpr c5) (k2 (not z hin (.inr c5)) _ s14)
        refine ifF (Bool.eq_false_iff.mpr fun y => c5 (dkv_some.mp y)) ⟨_, rfl, rfl, fun x hx => ?_⟩
        rw [tk, List.mem_append, List.mem_singleton] at hx
        rcases hx with hx | hx
        · exact hall x hx
        · rw [V.str.inj hx]
          have n5 := fun h => c5 ((inN z).mpr h)
          exact ⟨c4, fun h => n5 (.inl h), fun h => n5 (.inr h)⟩
      · refine ⟨_, rfl, _, rfl, p, _, _, _, rfl, rfl, hT4, atI_nat (j := 1) rfl, rfl, _, rfl, ?_⟩
        refine ifF (decide_eq_false fun y => by cases y) ⟨_, rfl, _, rfl, d, _, rfl, DGet.k (k := Sum.inl z) ed4, _, rfl, ?_⟩
        have c5 : ¬ Sum.inl z ∈ ks2 := fun h => by
          rcases (inS _).mp h with ⟨_, _, _, _, e⟩ | ⟨_, _, _, _, e⟩ <;> cases e
        refine ifF (Bool.eq_false_iff.mpr fun y => c5 (dkv_some.mp y)) ⟨_, rfl, rfl, fun x hx => ?_⟩
        rw [tk, List.mem_append, List.mem_singleton] at hx
        rcases hx with hx | hx
        · exact hall x hx
        · cases hx
    · rintro σ H' ⟨v4, rfl, rfl, hall⟩
      have n2 := fun h => c2 ((inN to).mpr h)
      exact k1 ⟨to, sg, a, b, rfl, hfail, hsay, fun h => n2 (.inl h), fun h => n2 (.inr h), fun h => c3 ((inA to).mpr h), fun x hx => hall x hx⟩ _ s14
theorem sc_lparted : FnScope ["_law_body", "_law_ahead", "_law_staying", "_law_k"] ["_law_body"] (defScope s_lparted) := ⟨rfl, rfl, rfl, by decide +kernel, rfl, by decide +kernel, by decide +kernel⟩
theorem ok_lparted {n : Nat} (F : Fun K "_law_parted" "_law_parted" s_lparted f fd) (B : Bn mg) (DG : Df P w K mg base "_law_goes" (n + 1) fR dR ["_law_row", "_law_staying", "_law_behind"] (spLGoes K n)) : FnOk P w K mg base CX0 (n + 2) f fd ["_law_body"] (spLParted K n) := by
  refine F.ok sc_lparted (fun vs H Q E h => ?_) (fun cdv A outer s H vs Q E hr h => ?_)
  · obtain ⟨l, Hc, rs, ss, rfl, _⟩ := h
    rfl
  obtain ⟨l, Hc, rs, ss, rfl, hc, ⟨vs, eS, eA⟩, hok, hd, ht, k⟩ := h
  have nd := sc_lparted.nd
  have hln := len_tots rs
  have hvl := eA.len
  refine ⟨_, pss_cons (ps_set (i := 1) nd rfl (Or.inl rfl) (pe_lst pa_nil)) <|
    pss_cons (ps_set (i := 2) nd rfl (Or.inl rfl) (pe_lst pa_nil)) <|
    pss_cons (ps_for PassesOwn.never rfl (pi_range1 rfl B.range (pa_cons (pe_callB call_len_seq rfl B.len PySem.boot_len (pa_cons (pv 0) pa_nil)) pa_nil)) (pg_name (i := 3) nd rfl (Or.inl rfl))
      (pss_one (ps_if (pt_val (pe_df DG hr (pa_cons (pe_ix ix_list (pv 0) (pv 3) (fun _ _ => rfl)) (pa_cons (pv 2) (pa_cons (pe_slice sl_list (pv 0) (po_some (pe_op op_add (pv 3) pe_int)) po_none) pa_nil)))))
        (pss_one (ps_expr (pe_bm PySem.F.plainAttrs_list PySem.F.slot_list_append PySem.F.type_list_append mt_append (pv 1) (pa_cons (pe_ix ix_list (pv 0) (pv 3) (fun _ _ => rfl)) pa_nil))))
        (pss_one (ps_expr (pe_bm PySem.F.plainAttrs_list PySem.F.slot_list_append PySem.F.type_list_append mt_append (pv 2) (pa_cons (pe_ix ix_list (pv 0) (pv 3) (fun _ _ => rfl)) pa_nil))))))) <|
    pss_one (ps_ret (pe_lst (pa_cons (pv 1) (pa_cons (pv 2) pa_nil)))), ?_⟩
  refine ⟨(by show 0 ≤ sizeLine; decide), fun Aa hA => ?_⟩
  obtain ⟨Ha, ga, sa, eAa⟩ := newH hA (.lst [])
  rw [ga]
  refine ⟨(by show 0 ≤ sizeLine; decide), fun Ss hS => ?_⟩
  obtain ⟨Hb, gb, sb, eSs⟩ := newH hS (.lst [])
  rw [gb]
  have nAS : Aa ≠ Ss := ne_of_none eAa hS
  have hHS : H Ss = none := sa.free hS
  have sab := sa.trans sb
  have hcA : Hc Aa = none := hc.free hA
  have hcS : Hc Ss = none := hc.free hHS
  have zero : ((0 : Nat) : Int) = 0 := rfl
  refine ⟨_, rfl, l, _, rfl, .inl ((hc.trans sab).seq eS), _, rfl, by omega, by omega, for_range (lo := 0) (n := ((vs.length : Nat) : Int).toNat) (fun i σ H' => ∃ (v3 : Option V) (ah st : List Row) (us ws : List V), σ = [some (.ref l), some (.ref Aa), some (.ref Ss), v3] ∧ Same H H' ∧ H' Aa = some (.lst us) ∧ H' Ss = some (.lst ws) ∧ AllAt K Hc ah us ∧ AllAt K Hc st ws ∧ Mid rs (rs.drop i) ah st ∧ ah.length + st.length = i)
    ⟨none, [], [], [], [], rfl, sab, sb _ _ eAa, eSs, rfl, rfl, Mid.start rs, rfl⟩ ?_ ?_⟩
  · rintro i σ H1 hi ⟨v3, ah, st, us, ws, rfl, s1, eA1, eS1, aA, aS, hM, hn⟩
    have hiv : i < vs.length := by omega
    have hvi : vs[i]? = some vs[i] := List.getElem?_eq_getElem hiv
    obtain ⟨r, hri, hrow⟩ := eA.at hvi
    rw [drop_one hri] at hM
    have hseq := (hc.trans s1).seq eS
    have ix : atI vs (0 + (i : Int)) = some vs[i] := at_of (j := i) (by omega) hvi
    refine ⟨_, rfl, _, rfl, l, _, _, _, rfl, rfl, hseq, ix, _, rfl, _, rfl, _, rfl, _, _, rfl, rfl, _, rfl, l, _, rfl, hseq, fun q hq => ?_⟩
    rw [cut_drop vs (i + 1) (by omega)]
    obtain ⟨H2, g2, s2, e2⟩ := newH hq (.lst (vs.drop (i + 1)))
    rw [g2]
    have kc2 := Same.kp ((hc.trans s1).trans s2)
    have lus := aA.len
    have lws := aS.len
    refine ⟨vs[i], Ss, q, r, st, rs.drop (i + 1), ss, rfl, RowAt.mono kc2 r _ hrow, ⟨ws, SqL.of (s2 _ _ eS1), AllAt.mono kc2 _ _ aS⟩, ⟨_, SqL.of e2, AllAt.mono kc2 _ _ (eA.drop (i + 1))⟩, oks_at hok hri, hM.st_ok hok, oks_drop _ hok, Nat.lt_of_le_of_lt hM.st_deps hd, Nat.lt_of_le_of_lt (deps_drop_le rs _) hd, Nat.le_trans hM.st_tots ht, Nat.le_trans (tots_drop_le rs _) ht, fun hg H3 s3 => ⟨_, rfl, iteT ?_⟩, fun hg H3 s3 => ⟨_, rfl, iteF ?_⟩⟩
    · have s23 := s2.trans s3
      have eA3 := s23 _ _ eA1
      refine ⟨_, rfl, .inl ⟨rfl, _, SqL.of eA3⟩, _, rfl, _, rfl, l, _, _, _, rfl, rfl, s23.seq hseq, ix, Aa, us, _, rfl, rfl, eA3, (by rw [sizeLine_eq]; omega), ?_⟩
      exact ⟨_, ah ++ [r], st, us ++ [vs[i]], ws, rfl, same_put (s1.trans s23) hA _, upd_same, by rw [upd_ne nAS.symm]; exact s23 _ _ eS1, aA.app (AllAt.one hrow), aS, hM.go hg, by rw [List.length_append]; show ah.length + 1 + st.length = _; omega⟩
    · have s23 := s2.trans s3
      have eS3 := s23 _ _ eS1
      refine ⟨_, rfl, .inl ⟨rfl, _, SqL.of eS3⟩, _, rfl, _, rfl, l, _, _, _, rfl, rfl, s23.seq hseq, ix, Ss, ws, _, rfl, rfl, eS3, (by rw [sizeLine_eq]; omega), ?_⟩
      exact ⟨_, ah, st ++ [r], us, ws ++ [vs[i]], rfl, same_put (s1.trans s23) hHS _, by rw [upd_ne nAS]; exact s23 _ _ eA1, upd_same, aA, aS.app (AllAt.one hrow), hM.no hg, by rw [List.length_append]; show ah.length + (st.length + 1) = _; omega⟩
  · rintro σ H1 ⟨v3, ah, st, us, ws, rfl, s1, eA1, eS1, aA, aS, hM, hn⟩
    have en : ((vs.length : Nat) : Int).toNat = rs.length := by omega
    rw [en, List.drop_length] at hM
    obtain ⟨m1, m2⟩ := hM.end_
    refine ⟨_, rfl, _, rfl, (by show 2 ≤ sizeLine; decide), fun q hq => ?_⟩
    obtain ⟨H2, g2, s2, e2⟩ := newH hq (.lst [.ref Aa, .ref Ss])
    rw [g2]
    have nAq : Aa ≠ q := ne_of_none eA1 hq
    have nSq : Ss ≠ q := ne_of_none eS1 hq
    have hHq : H q = none := s1.free hq
    have p1 : Part Hc H (upd (upd (upd Hc Aa (.lst us)) Ss (.lst ws)) q (.lst [.ref Aa, .ref Ss])) H2 := (((Part.grown hc (s1.trans s2)).add hcA hA (s2 _ _ eA1)).add hcS hHS (s2 _ _ eS1)).add (hc.free hHq) hHq e2
    have kc := Same.kp p1.cl
    rw [m1, m2] at k
    exact k _ H2 q Aa Ss p1 upd_same ⟨us, by rw [upd_ne nAq, upd_ne nAS, upd_same], AllAt.mono kc _ _ aA⟩ ⟨ws, by rw [upd_ne nSq, upd_same], AllAt.mono kc _ _ aS⟩
end
end Lm
namespace Lm
open PySem L2
abbrev s_left : Stmt := topS 35
abbrev s_plain : Stmt := topS 36
def spLeft (K : PySem.W.Frag) (n : Nat) : Sp := fun vs H Q _ => ∃ (l : Addr) (rs : List Row) (ss : List Str), vs = [.ref l] ∧ RowsAt K H l rs ∧ oks ss rs ∧ stills rs ∧ deps rs < n ∧ tots rs ≤ 3000 ∧ ∀ H' : Hp, Same H H' → Q (.bl false) H'
def spPlain (K : PySem.W.Frag) (n : Nat) : Sp := fun vs H Q _ => ∃ (l d : Addr) (Hc : Hp) (rs : List Row) (kvs : List (List Key × V)) (c : List Key → Int), vs = [.ref l, .ref d] ∧ Kp Hc H ∧ S.RowsAt K Hc l rs ∧ Hc d = none ∧ deps rs < n ∧ H d = some (.dT kvs) ∧ DT kvs c ∧ kvs.length + tots rs ≤ 30000 ∧
  ∀ (H' : Hp) (kvs' : List (List Key × V)), (∀ b o, H b = some o → b ≠ d → H' b = some o) → H' d = some (.dT kvs') → DT kvs' (fun k => c k + (cntK (rkeys rs) k : Int)) → kvs'.length ≤ kvs.length + tots rs → Q (.ref d) H'
section
variable {P : Program} {w : World} {K : PySem.W.Frag} {mg : Str → Option Value} {base : Heap} {f fP : Addr} {fd dP : FuncData}
theorem sc_left : FnScope ["_law_rows", "_law_row"] ["_law_rows"] (defScope s_left) := ⟨rfl, rfl, rfl, by decide +kernel, rfl, by decide +kernel, by decide +kernel⟩
theorem ok_left {n : Nat} (F : Fun K "_law_left" "_law_left" s_left f fd) (B : Bn mg) (DP : Df P w K mg base "_law_parted" 52 fP dP ["_law_body"] (spLParted K 50)) (hn : n ≤ 48)
    (G : Df P w K mg base "_law_left" (n + 52) f fd ["_law_rows"] (spLeft K n)) : FnOk P w K mg base CX0 (n + 53) f fd ["_law_rows"] (spLeft K (n + 1)) := by
  refine F.ok sc_left (fun vs H Q E h => ?_) (fun cdv A outer s H vs Q E hr h => ?_)
  · obtain ⟨l, rs, ss, rfl, _⟩ := h
    rfl
  obtain ⟨l, rs, ss, rfl, ⟨vs, eS, eA⟩, hok, hst, hd, ht, k⟩ := h
  have nd := sc_left.nd
  have rP : Room 52 _ := hr.mono (by omega)
  refine ⟨_, pss_cons (ps_for PassesOwn.never rfl (pi_list (pv 0)) (pg_name (i := 1) nd rfl (Or.inl rfl))
      (C8.pss_cut (ps_if (PW.pt (pw_and (pt_cmpR op_eq (pe_callB call_len_seq rfl B.len PySem.boot_len (pa_cons (pv 1) pa_nil)) pe_int (nomark _)) (pw_and (pt_cmpR op_ne (pe_ix ix_tup (pv 1) pe_int (fun _ _ => rfl)) pe_str (nomark _))
          (pw_and1 (pt_cmpR (op_neD hr.units) (pe_ix ix_list (pe_df DP rP (pa_cons (pe_ix ix_tup (pv 1) pe_int (fun _ _ => rfl)) pa_nil)) pe_int (fun _ _ => rfl)) (pe_lst pa_nil) (nomark _)))))) (pss_one (ps_ret pe_bl)) pss_nil) <|
       pss_one (ps_if (PW.pt (pw_and (pt_cmpR op_eq (pe_callB call_len_seq rfl B.len PySem.boot_len (pa_cons (pv 1) pa_nil)) pe_int (nomark _)) (pw_and1 (pt_val (pe_df G hr (pa_cons (pe_ix ix_tup (pv 1) pe_int (fun _ _ => rfl)) pa_nil)))))) (pss_one (ps_ret pe_bl)) pss_nil))) <|
    pss_one (ps_ret pe_bl), ?_⟩
  refine ⟨_, rfl, l, rfl, ⟨_, eS⟩, for_list (K := K) (a := l) (xs := vs) (fun i σ H' => ∃ v1 : Option V, σ = [some (.ref l), v1] ∧ Same H H') ⟨none, rfl, Same.refl _⟩ (fun i σ H' _ ⟨_, _, s⟩ => s.seq eS) ?_ ?_⟩
  · rintro i v σ H1 hi ⟨v1, rfl, s1⟩
    obtain ⟨r, hri, hrow⟩ := eA.at hi
    have hrow1 := RowAt.mono (Same.kp s1) r v hrow
    have hrok := oks_at hok hri
    have htr := row_tot_le hri
    have hdr : r.dep ≤ deps rs := dep_at hri
    have hstr : r.still := by
      have at_ : ∀ {qs : List Row} {i : Nat} {q : Row}, stills qs → qs[i]? = some q → q.still := fun {qs} => by
        induction qs with
        | nil => intro i q _ e; cases e
        | cons a qs ih =>
          intro i q h e
          cases i with
          | zero => cases e; exact h.1
          | succ i => exact ih h.2 (by simpa using e)
      exact at_ hst hri
    refine ⟨fun σ H' => σ = [some (.ref l), some v] ∧ Same H H', ?_, ?_⟩
    · match r, hrow1, hrok, htr, hdr, hstr with
      | .lt to sg a b, ⟨p, h1, h2⟩, hrok, htr, hdr, hstr =>
        subst h1
        exact ⟨_, rfl, p, _, rfl, .inr h2, rfl, _, rfl, ifF (show decide (V.int ((5 : Nat) : Int) = V.int 3) = false by decide) (iteF ⟨rfl, s1⟩)⟩
      | .sy a, ⟨p, h1, h2⟩, hrok, htr, hdr, hstr =>
        subst h1
        exact ⟨_, rfl, p, _, rfl, .inr h2, rfl, _, rfl, ifF (show decide (V.int ((2 : Nat) : Int) = V.int 3) = false by decide) (iteF ⟨rfl, s1⟩)⟩
      | .bk kd ts qs, ⟨p, l2, ws, h1, h2, h3, h4⟩, hrok, htr, hdr, ⟨hst1, hst2⟩ =>
        subst h1
        have hdq : deps qs + 1 ≤ deps rs := hdr
        have htq : tots qs + 1 ≤ tots rs := htr
        refine ⟨_, rfl, p, _, rfl, .inr h2, rfl, _, rfl, ifT (show decide (V.int ((3 : Nat) : Int) = V.int 3) = true by decide) ?_⟩
        refine ⟨_, rfl, p, _, _, _, rfl, rfl, h2, atI_nat (j := 0) rfl, rfl, _, rfl, ?_⟩
        by_cases cw : kd = "when"
        · exact ifF (by rw [cw]; rfl) (iteF ⟨rfl, s1⟩)
        have hp0 : (parts [] qs).1 = [] := hst2.elim (fun z => absurd z cw) (fun z => z.2)
        refine ifT (by rw [decide_eq_false fun y => cw (V.str.inj y)]; rfl) ?_
        refine ⟨_, rfl, p, _, _, _, rfl, rfl, h2, atI_nat (j := 2) rfl, l2, H1, qs, ss, rfl, Same.refl _, ⟨ws, h3, h4⟩, hrok.2.2.2, by omega, by omega, fun Hc H2 q A0 S0 pt eq ⟨as, eA0, aA0⟩ _ => ?_⟩
        rw [hp0] at aA0
        have ea : as = [] := aA0
        subst ea
        refine ⟨q, _, _, _, rfl, rfl, SqL.of (pt.sub _ _ eq), atI_nat (j := 0) rfl, (by show 0 ≤ sizeLine; decide), fun e he => ?_⟩
        obtain ⟨H3, g3, s3, e3⟩ := newH he (.lst [])
        rw [g3]
        refine ⟨.list [], .list [], .lst (SqL.of (s3 _ _ (pt.sub _ _ eA0))) .nil, .lst (SqL.of e3) .nil, shaped_list (by decide +kernel) (by decide +kernel), shaped_list (by decide +kernel) (by decide +kernel), ?_⟩
        rw [eqv_nil]
        exact ⟨_, rfl, ifF (by rfl) ⟨rfl, s1.trans (pt.all.trans s3)⟩⟩
    rintro σ H2 ⟨rfl, s2⟩
    have hrow2 := RowAt.mono (Same.kp s2) r v hrow
    match r, hrow2, hrok, htr, hdr, hstr with
    | .lt to sg a b, ⟨p, h1, h2⟩, hrok, htr, hdr, hstr =>
      subst h1
      exact ⟨_, rfl, p, _, rfl, .inr h2, rfl, _, rfl, ifF (show decide (V.int ((5 : Nat) : Int) = V.int 3) = false by decide) (iteF ⟨_, rfl, s2⟩)⟩
    | .sy a, ⟨p, h1, h2⟩, hrok, htr, hdr, hstr =>
      subst h1
      exact ⟨_, rfl, p, _, rfl, .inr h2, rfl, _, rfl, ifF (show decide (V.int ((2 : Nat) : Int) = V.int 3) = false by decide) (iteF ⟨_, rfl, s2⟩)⟩
    | .bk kd ts qs, ⟨p, l2, ws, h1, h2, h3, h4⟩, hrok, htr, hdr, ⟨hst1, hst2⟩ =>
      subst h1
      have hdq : deps qs + 1 ≤ deps rs := hdr
      have htq : tots qs + 1 ≤ tots rs := htr
      refine ⟨_, rfl, p, _, rfl, .inr h2, rfl, _, rfl, ifT (show decide (V.int ((3 : Nat) : Int) = V.int 3) = true by decide) ?_⟩
      exact ⟨_, rfl, p, _, _, _, rfl, rfl, h2, atI_nat (j := 2) rfl, l2, qs, ss, rfl, ⟨ws, h3, h4⟩, hrok.2.2.2, hst1, by omega, by omega, fun H3 s3 => ⟨_, rfl, iteF ⟨_, rfl, s2.trans s3⟩⟩⟩
  · rintro σ H1 ⟨v1, rfl, s1⟩
    exact k H1 s1
theorem all_left (F : Fun K "_law_left" "_law_left" s_left f fd) (m : mg "_law_left" = some (.ref f)) (b : Binds K fd ["_law_rows"] []) (B : Bn mg) (DP : Df P w K mg base "_law_parted" 52 fP dP ["_law_body"] (spLParted K 50)) : ∀ n, n ≤ 49 → FnOk P w K mg base CX0 (n + 52) f fd ["_law_rows"] (spLeft K n)
  | 0, _ => none_left fun vs H Q E ⟨l, rs, ss, _, _, _, _, h, _⟩ => absurd h (Nat.not_lt_zero _)
  | n + 1, h => ok_left F B DP (by omega) ⟨all_left F m b B DP n (by omega), m, F.kp, b⟩
theorem sc_plain : FnScope ["_law_rows", "_law_found", "_law_row"] ["_law_rows", "_law_found"] (defScope s_plain) := ⟨rfl, rfl, rfl, by decide +kernel, rfl, by decide +kernel, by decide +kernel⟩
theorem ok_plain {n : Nat} (F : Fun K "_law_plain" "_law_plain" s_plain f fd) (ml : mg "len" = none) (G : Df P w K mg base "_law_plain" n f fd ["_law_rows", "_law_found"] (spPlain K n)) : FnOk P w K mg base CX0 (n + 1) f fd ["_law_rows", "_law_found"] (spPlain K (n + 1)) := by
  refine F.ok sc_plain (fun vs H Q E h => ?_) (fun cdv A outer s H vs Q E hr h => ?_)
  · obtain ⟨l, d, Hc, rs, kvs, c, rfl, _⟩ := h
    rfl
  obtain ⟨l, d, Hc, rs, kvs, c, rfl, hc, ⟨vs, eS, eA⟩, hd0, hdep, ed, dt, hsz, k⟩ := h
  have nd := sc_plain.nd
  have hu := hu_of hr
  refine ⟨_, pss_cons (ps_for PassesOwn.never rfl (pi_list (pv 0)) (pg_name (i := 2) nd rfl (Or.inl rfl))
      (pss_one (ps_if (pt_cmpR op_eq (pe_callB call_len_seq rfl ml PySem.boot_len (pa_cons (pv 2) pa_nil)) pe_int (nomark _))
        (pss_cons (ps_dput hu (pv 1) (pe_tup (pa_cons (pe_ix ix_tup (pv 2) pe_int (fun _ _ => rfl)) (pa_cons pe_str pa_nil))) (pe_op op_add (pe_dget2 hu (pv 1) (pe_tup (pa_cons (pe_ix ix_tup (pv 2) pe_int (fun _ _ => rfl)) (pa_cons pe_str pa_nil))) pe_int ⟨rfl, rfl, rfl, rfl⟩) pe_int) rfl) <|
         pss_one (ps_expr (pe_df G hr (pa_cons (pe_ix ix_tup (pv 2) pe_int (fun _ _ => rfl)) (pa_cons (pv 1) pa_nil)))))
        (pss_one (ps_dput hu (pv 1) (pv 2) (pe_op op_add (pe_dget2 hu (pv 1) (pv 2) pe_int ⟨rfl, rfl, rfl, rfl⟩) pe_int) rfl))))) <|
    pss_one (ps_ret (pv 1)), ?_⟩
  have hS0 : ∀ {H' : Hp}, (∀ b o, H b = some o → b ≠ d → H' b = some o) → ∀ b o, Hc b = some o → (∀ ps, o ≠ .tbl ps) → H' b = some o := fun f b o e n => f b o (hc.at_ b o e n) (ne_of_none e hd0)
  refine ⟨_, rfl, l, rfl, ⟨_, SqL.of (hc.at_ _ _ eS (fun _ z => by cases z))⟩, for_list (K := K) (a := l) (xs := vs) (fun i σ H' => ∃ (v2 : Option V) (ms : List (List Key × V)), σ = [some (.ref l), some (.ref d), v2] ∧ (∀ b o, H b = some o → b ≠ d → H' b = some o) ∧ H' d = some (.dT ms) ∧ DT ms (fun k => c k + (cntK (rkeys (rs.take i)) k : Int)) ∧ ms.length ≤ kvs.length + tots (rs.take i))
    ⟨none, kvs, rfl, fun _ _ h _ => h, ed, dt.cong fun k => by show c k = c k + ((0 : Nat) : Int); omega, Nat.le_add_right _ _⟩ (fun i σ H' _ ⟨_, _, _, f1, _⟩ => SqL.of (hS0 f1 _ _ eS (fun _ z => by cases z))) ?_ ?_⟩
  · rintro i v σ H1 hi ⟨v2, ms, rfl, f1, ed1, dt1, hl1⟩
    obtain ⟨r, hri, hrow⟩ : ∃ r, rs[i]? = some r ∧ S.RowAt K Hc r v := S.AllAt.at eA hi
    have htk := tots_take hri
    have hle := tots_take_le rs (i + 1)
    have rk : ∀ k, cntK (rkeys (rs.take (i + 1))) k = cntK (rkeys (rs.take i)) k + cntK (rkeys [r]) k := fun k => by rw [take_one hri, rkeys_app, cntK_app]
    -- one more of a let or a say
    have plain : ∀ (p : Addr) (xs : List V), v = .ref p → Hc p = some (.tup xs) → r.ky.map kV = xs → rkeys [r] = [r.ky] → r.tot = 1 →
        ∃ v2 ms', [some (V.ref l), some (V.ref d), some v] = [some (.ref l), some (.ref d), v2] ∧ (∀ b o, H b = some o → b ≠ d → (upd H1 d (.dT (putK ms r.ky (.int (c r.ky + (cntK (rkeys (rs.take i)) r.ky : Int) + 1))))) b = some o) ∧ (upd H1 d (.dT (putK ms r.ky (.int (c r.ky + (cntK (rkeys (rs.take i)) r.ky : Int) + 1))))) d = some (.dT ms') ∧ DT ms' (fun k => c k + (cntK (rkeys (rs.take (i + 1))) k : Int)) ∧ ms'.length ≤ kvs.length + tots (rs.take (i + 1)) := fun p xs hv hp hk hr1 htot => by
      refine ⟨_, _, rfl, fun b o hb hn => by rw [upd_ne hn]; exact f1 b o hb hn, upd_same, (dt1.put r.ky _).cong fun k => ?_, ?_⟩
      · rw [rk k, hr1, cntK_cons]
        show (if k = r.ky then c r.ky + (cntK (rkeys (rs.take i)) r.ky : Int) + 1 else c k + (cntK (rkeys (rs.take i)) k : Int)) = c k + ((cntK (rkeys (rs.take i)) k + ((if r.ky = k then 1 else 0) + cntK [] k) : Nat) : Int)
        have z : cntK [] k = 0 := rfl
        rw [z]
        by_cases e : k = r.ky
        · rw [if_pos e, if_pos e.symm, e]
          push_cast
          omega
        · rw [if_neg e, if_neg (fun z => e z.symm)]
          push_cast
          omega
      · have := length_putK ms r.ky (V.int (c r.ky + (cntK (rkeys (rs.take i)) r.ky : Int) + 1))
        omega
    have room : ms.length < sizeLine := by
      have := tots_take_le rs i
      rw [sizeLine_eq]
      omega
    match r, hri, hrow, htk, plain, rk with
    | .lt to sg a b, hri, ⟨p, h1, h2⟩, htk, plain, rk =>
      have h2' := hS0 f1 _ _ h2 (fun _ z => by cases z)
      have key : H1 p = some (.tup ((Row.lt to sg a b).ky.map kV)) := by rw [ky_lt]; exact h2'
      have fin := plain _ _ h1 h2 (ky_lt to sg a b) (by unfold rkeys; rw [flats_one]; rfl) rfl
      subst h1
      refine ⟨_, rfl, p, _, rfl, .inr (SqT.of h2'), rfl, _, rfl, ifF (show decide (V.int ((5 : Nat) : Int) = V.int 3) = false by decide) ?_⟩
      refine ⟨_, rfl, d, rfl, .inr ⟨ms, .inl ed1⟩, _, rfl, _, DGet.t (k := (Row.lt to sg a b).ky) ed1 key, ?_⟩
      rw [dt1.get]
      exact ⟨_, _, rfl, rfl, _, rfl, _, rfl, d, _, rfl, DPut.t (k := (Row.lt to sg a b).ky) ed1 key room, fin⟩
    | .sy a, hri, ⟨p, h1, h2⟩, htk, plain, rk =>
      have h2' := hS0 f1 _ _ h2 (fun _ z => by cases z)
      have key : H1 p = some (.tup ((Row.sy a).ky.map kV)) := by rw [ky_sy]; exact h2'
      have fin := plain _ _ h1 h2 (ky_sy a) (by unfold rkeys; rw [flats_one]; rfl) rfl
      subst h1
      refine ⟨_, rfl, p, _, rfl, .inr (SqT.of h2'), rfl, _, rfl, ifF (show decide (V.int ((2 : Nat) : Int) = V.int 3) = false by decide) ?_⟩
      refine ⟨_, rfl, d, rfl, .inr ⟨ms, .inl ed1⟩, _, rfl, _, DGet.t (k := (Row.sy a).ky) ed1 key, ?_⟩
      rw [dt1.get]
      exact ⟨_, _, rfl, rfl, _, rfl, _, rfl, d, _, rfl, DPut.t (k := (Row.sy a).ky) ed1 key room, fin⟩
    | .bk kd ts qs, hri, ⟨p, l2, ws, h1, h2, h3, h4⟩, htk, plain, rk =>
      have h2' := hS0 f1 _ _ h2 (fun _ z => by cases z)
      subst h1
      have hdq : deps qs + 1 ≤ deps rs := dep_at hri
      have htq : (Row.bk kd ts qs).tot = tots qs + 1 := rfl
      refine ⟨_, rfl, p, _, rfl, .inr (SqT.of h2'), rfl, _, rfl, ifT (show decide (V.int ((3 : Nat) : Int) = V.int 3) = true by decide) ?_⟩
      refine ⟨_, rfl, d, rfl, .inr ⟨ms, .inl ed1⟩, _, rfl, p, _, _, _, rfl, rfl, SqT.of h2', atI_nat (j := 0) rfl, (by show 2 ≤ sizeLine; decide), fun q1 hq1 => ?_⟩
      obtain ⟨H2, g2, s2, e2⟩ := newH hq1 (.tup [.str kd, .str ""])
      rw [g2]
      refine ⟨_, DGet.t (k := [Sum.inr kd, Sum.inr ""]) (s2 _ _ ed1) e2, ?_⟩
      rw [dt1.get]
      refine ⟨_, _, rfl, rfl, _, rfl, _, rfl, p, _, _, _, rfl, rfl, SqT.of (s2 _ _ h2'), atI_nat (j := 0) rfl, (by show 2 ≤ sizeLine; decide), fun q2 hq2 => ?_⟩
      obtain ⟨H3, g3, s3, e3⟩ := newH hq2 (.tup [.str kd, .str ""])
      rw [g3]
      have s13 := s2.trans s3
      refine ⟨d, _, rfl, DPut.t (k := [Sum.inr kd, Sum.inr ""]) (s13 _ _ ed1) e3 room, ?_⟩
      have f3 : ∀ (o' : HO) b o, H b = some o → b ≠ d → (upd H3 d o') b = some o := fun o' b o hb hn => by
        rw [upd_ne hn]
        exact s13 b o (f1 b o hb hn)
      have kpd : ∀ o', Kp Hc (upd H3 d o') := fun o' => ⟨fun b o e n => hS0 (f3 o') b o e n, fun b ps e => by
        have hb : b ≠ d := ne_of_none e hd0
        obtain ⟨qs', eq'⟩ := hc.tb b ps e
        exact ⟨qs', f3 o' b _ eq' hb⟩⟩
      refine ⟨_, rfl, p, _, _, _, rfl, rfl, SqT.of (hS0 (f3 _) _ _ h2 (fun _ z => by cases z)), atI_nat (j := 2) rfl, _, rfl, l2, d, Hc, qs, _, _, rfl, kpd _, ⟨ws, h3, h4⟩, hd0, by omega, upd_same, dt1.put [Sum.inr kd, Sum.inr ""] _, Nat.le_trans (Nat.add_le_add_right (length_putK _ _ _) _) (by omega), fun H4 ms4 f4 ed4 dt4 hl4 => ?_⟩
      refine ⟨_, ms4, rfl, fun b o hb hn => f4 b o (f3 _ b o hb hn) hn, ed4, dt4.cong fun k => ?_, Nat.le_trans hl4 (Nat.le_trans (Nat.add_le_add_right (length_putK _ _ _) _) (by omega))⟩
      rw [rk k, rkeys_bk, cntK_cons]
      show (if k = [Sum.inr kd, Sum.inr ""] then c [Sum.inr kd, Sum.inr ""] + (cntK (rkeys (rs.take i)) [Sum.inr kd, Sum.inr ""] : Int) + 1 else c k + (cntK (rkeys (rs.take i)) k : Int)) + (cntK (rkeys qs) k : Int) = _
      by_cases e : k = [Sum.inr kd, Sum.inr ""]
      · rw [if_pos e, if_pos e.symm, e]
        push_cast
        omega
      · rw [if_neg e, if_neg (fun z => e z.symm)]
        push_cast
        omega
  · rintro σ H1 ⟨v2, ms, rfl, f1, ed1, dt1, hl1⟩
    rw [S.AllAt.len eA, List.take_length] at dt1 hl1
    exact ⟨_, rfl, k H1 ms f1 ed1 dt1 hl1⟩
theorem all_plain (F : Fun K "_law_plain" "_law_plain" s_plain f fd) (m : mg "_law_plain" = some (.ref f)) (b : Binds K fd ["_law_rows", "_law_found"] []) (ml : mg "len" = none) : ∀ n, FnOk P w K mg base CX0 n f fd ["_law_rows", "_law_found"] (spPlain K n)
  | 0 => none_left fun vs H Q E ⟨l, d, Hc, rs, kvs, c, _, _, _, _, h, _⟩ => absurd h (Nat.not_lt_zero _)
  | n + 1 => ok_plain F ml ⟨all_plain F m b ml n, m, F.kp, b⟩
end
end Lm
namespace Lm
open PySem L2
abbrev s_law : Stmt := topS 37
def spLaw (K : PySem.W.Frag) : Sp := fun vs H Q _ => ∃ (a : Addr) (ns : List Int), vs = [.ref a] ∧ SqL K H a (ns.map V.int) ∧ ns.length ≤ 63 ∧ ∀ H', Q (.bl true) H'
theorem cutI (ns : List Int) (lo hi : Option Int) : ∃ ms : List Int, cutV (ns.map V.int) lo hi = ms.map V.int ∧ ms.length ≤ ns.length := by
  refine ⟨(ns.drop (HT.sIx ns.length 0 lo)).take (HT.sIx ns.length ns.length hi - HT.sIx ns.length 0 lo), ?_, ?_⟩
  · unfold cutV
    rw [List.length_map, List.map_take, List.map_drop]
    all_goals rfl
  · rw [List.length_take, List.length_drop]
    omega
section
variable {P : Program} {w : World} {K : PySem.W.Frag} {mg : Str → Option Value} {base : Heap} {f a1 a2 a3 a4 a5 a6 a7 a8 a9 : Addr} {fd d1 d2 d3 d4 d5 d6 d7 d8 d9 : FuncData}
abbrev nLaw : List Str := ["_law_script", "_law_cell", "_law_names_here", "_law_rows", "_law_found", "_law_one", "_law_other", "_law_turned", "_law_row", "_law_many"]
theorem sc_law : FnScope nLaw ["_law_script"] (defScope s_law) := ⟨rfl, rfl, rfl, by decide +kernel, rfl, by decide +kernel, by decide +kernel⟩
theorem ok_law (F : Fun K "law" "law" s_law f fd) (B : Bn mg) (msum : mg "sum" = none) (D1 : Df P w K mg base "_law_cell_at" 1 a1 d1 ["_law_script", "_law_k"] (spCell K)) (D2 : Df P w K mg base "_law_names" 1 a2 d2 ["_law_cell"] spNames)
    (D3 : Df P w K mg base "_law_program" 3 a3 d3 ["_law_cells", "_law_names_here"] (S.spProgram K)) (D4 : Df P w K mg base "_law_nested" 2 a4 d4 ["_law_rows", "_law_count", "_law_names_here", "_law_cell"] (S.spNested K))
    (D5 : Df P w K mg base "moved" 57 a5 d5 ["rows"] (S.spMoved K 50)) (D6 : Df P w K mg base "_law_sound" 101 a6 d6 ["_law_rows"] (spSound K 50)) (D7 : Df P w K mg base "_law_copied" 50 a7 d7 ["_law_rows"] (S.spCopied K 50))
    (D8 : Df P w K mg base "_law_left" 97 a8 d8 ["_law_rows"] (spLeft K 45)) (D9 : Df P w K mg base "_law_plain" 50 a9 d9 ["_law_rows", "_law_found"] (spPlain K 50)) : FnOk P w K mg base CX0 102 f fd ["_law_script"] (spLaw K) := by
  refine F.ok sc_law (fun vs H Q E h => ?_) (fun cdv A outer s H vs Q E hr h => ?_)
  · obtain ⟨a, ns, rfl, _⟩ := h
    rfl
  obtain ⟨a, ns, rfl, hS, h63, k⟩ := h
  have nd := sc_law.nd
  have hu := hu_of hr
  have r1 : Room 1 _ := hr.mono (by decide)
  have r2 : Room 2 _ := hr.mono (by decide)
  have r3 : Room 3 _ := hr.mono (by decide)
  have r50 : Room 50 _ := hr.mono (by decide)
  have r57 : Room 57 _ := hr.mono (by decide)
  have r97 : Room 97 _ := hr.mono (by decide)
  have r101 : Room 101 _ := hr.mono (by decide)
  refine ⟨_, pss_cons (ps_set (i := 1) nd rfl (Or.inl rfl) (pe_df D1 r1 (pa_cons (pv 0) (pa_cons pe_int pa_nil)))) <|
    pss_cons (ps_set (i := 2) nd rfl (Or.inl rfl) (pe_df D2 r1 (pa_cons (pv 1) pa_nil))) <|
    pss_cons (ps_set (i := 3) nd rfl (Or.inl rfl) (pe_df D3 r3 (pa_cons (pe_slice sl_list (pv 0) (po_some pe_int) (po_some pe_int)) (pa_cons (pv 2) pa_nil)))) <|
    C8.pss_cut (ps_if (pt_cmpR op_eq (pe_op op_mod (pv 1) pe_int) pe_int (nomark _))
      (pss_one (ps_set (i := 3) nd rfl (Or.inl rfl) (pe_df D4 r2 (pa_cons (pv 3) (pa_cons (pe_op op_add pe_int (pe_op op_mod (pe_op op_fdiv (pv 1) pe_int) pe_int)) (pa_cons (pv 2) (pa_cons (pv 1) pa_nil))))))) pss_nil) <|
    pss_cons (ps_set (i := 4) nd rfl (Or.inl rfl) (pe_df D5 r57 (pa_cons (pe_df D7 r50 (pa_cons (pv 3) pa_nil)) pa_nil))) <|
    pss_cons (ps_if (PW.pt (pw_or (pt_not (pt_val (pe_df D6 r101 (pa_cons (pv 4) pa_nil)))) (pw_or1 (pt_val (pe_df D8 r97 (pa_cons (pv 4) pa_nil)))))) (pss_one (ps_ret pe_bl)) pss_nil) <|
    pss_cons (ps_set (i := 5) nd rfl (Or.inr rfl) (pe_df D9 r50 (pa_cons (pv 3) (pa_cons pe_dnewT pa_nil)))) <|
    pss_cons (ps_set (i := 6) nd rfl (Or.inr rfl) (pe_df D9 r50 (pa_cons (pv 4) (pa_cons pe_dnewT pa_nil)))) <|
    pss_cons (ps_set (i := 7) nd rfl (Or.inl rfl) (pe_op op_sub (pe_dget2 hu (pv 5) (pe_tup (pa_cons pe_str (pa_cons pe_str pa_nil))) pe_int ⟨rfl, rfl, rfl, rfl⟩) (pe_dget2 hu (pv 6) (pe_tup (pa_cons pe_str (pa_cons pe_str pa_nil))) pe_int ⟨rfl, rfl, rfl, rfl⟩))) <|
    pss_cons (ps_dput hu (pv 5) (pe_tup (pa_cons pe_str (pa_cons pe_str pa_nil))) (pe_op op_sub (pe_dget2 hu (pv 5) (pe_tup (pa_cons pe_str (pa_cons pe_str pa_nil))) pe_int ⟨rfl, rfl, rfl, rfl⟩) (pv 7)) rfl) <|
    pss_cons (ps_dput hu (pv 5) (pe_tup (pa_cons pe_str (pa_cons pe_str pa_nil))) (pe_op op_add (pe_dget2 hu (pv 5) (pe_tup (pa_cons pe_str (pa_cons pe_str pa_nil))) pe_int ⟨rfl, rfl, rfl, rfl⟩) (pv 7)) rfl) <|
    pss_cons (ps_dput hu (pv 5) (pe_tup (pa_cons pe_str (pa_cons pe_str pa_nil))) (pe_op op_add (pe_dget2 hu (pv 5) (pe_tup (pa_cons pe_str (pa_cons pe_str pa_nil))) pe_int ⟨rfl, rfl, rfl, rfl⟩) (pv 7)) rfl) <|
    pss_cons (ps_lock (ps_for PassesOwn.never rfl (pi_keys (pv 6)) (pg_name (i := 8) nd rfl (Or.inl rfl))
      (pss_one (ps_if (pt_cmpR op_ne (pe_dget2 hu (pv 5) (pv 8) pe_int ⟨rfl, rfl, rfl, rfl⟩) (pe_dget hu (pv 6) (pv 8) (fun _ _ => rfl)) (nomark _)) (pss_one (ps_ret pe_bl)) pss_nil)))) <|
    pss_cons (ps_set (i := 9) nd rfl (Or.inl rfl) (pe_callB (cr_sum rfl) rfl msum (by decide +kernel) (pa_cons (pe_lock (pe_lc (own := [("_law_row", 8)]) (g := gName 8) rfl nd (pi_keys (pv 5))
      (blkOk_by (N := nLaw) (sc := defScope s_law) (by decide +kernel)) (fun _ _ _ _ _ => pg_name (i := 8) nd rfl (Or.inl rfl)) (fun _ _ _ _ _ => pts_nil)
      (fun _ _ _ _ _ => pe_dget hu (show PE _ _ (tVar 5) from pv 5) (pv 8) (fun _ _ => rfl)))) pa_nil))) <|
    pss_one (ps_ret (pe_and (pe_cmpR op_ge (pv 7) pe_int (nomark _)) (pe_one (pe_cmpR op_eq (pv 9) (pe_callB (cr_sum rfl) rfl msum (by decide +kernel) (pa_cons (pe_lock (pe_lc (own := [("_law_row", 8)]) (g := gName 8) rfl nd (pi_keys (pv 6))
      (blkOk_by (N := nLaw) (sc := defScope s_law) (by decide +kernel)) (fun _ _ _ _ _ => pg_name (i := 8) nd rfl (Or.inl rfl)) (fun _ _ _ _ _ => pts_nil)
      (fun _ _ _ _ _ => pe_dget hu (show PE _ _ (tVar 6) from pv 6) (pv 8) (fun _ _ => rfl)))) pa_nil)) (nomark _))))), ?_⟩
  refine ⟨_, rfl, a, ns, 0, rfl, hS, by decide, fun cell => ⟨_, rfl, cell, rfl, fun ln ss H1 s1 fln eln len1 hgood => ?_⟩⟩
  have hN1 : NamesAt K H1 ln ss := ⟨SqL.of eln, len1⟩
  obtain ⟨ms, ems, hms⟩ := cutI ns (some 1) (some 31)
  refine ⟨_, rfl, _, rfl, _, rfl, a, _, rfl, s1.seq hS, fun q2 hq2 => ?_⟩
  rw [ems]
  obtain ⟨H2, g2, s2, e2⟩ := newH hq2 (.lst (ms.map V.int))
  rw [g2]
  refine ⟨_, rfl, q2, ln, ms, ss, rfl, SqL.of e2, Nat.le_trans hms h63, hN1.mono (Same.kp s2), fun H3 l3 rs3 s3 fl3 hR3 ok3 dep3 tot3 => ?_⟩
  have hN3 := hN1.mono (Same.kp (s2.trans s3))
  have l3' := len_tots rs3
  refine ⟨fun σ H' => ∃ (l : Addr) (rs : List Row), σ = [some (.ref a), some (.int cell), some (.ref ln), some (.ref l), none, none, none, none, none, none] ∧ S.RowsAt K H' l rs ∧ oks ss rs ∧ deps rs ≤ 20 ∧ tots rs ≤ 160, ?_, ?_⟩
  · refine ⟨_, rfl, _, _, rfl, rfl, (by show (0 : Int) < 4; decide), rfl, _, rfl, ?_⟩
    refine ite2 (fun c => ?_) (fun c => ?_)
    · have g0 : 0 ≤ cell / 4 % 17 := Int.emod_nonneg _ (by decide)
      have g1 : cell / 4 % 17 < 17 := Int.emod_lt_of_pos _ (by decide)
      refine ⟨_, rfl, _, rfl, _, _, rfl, rfl, ⟨by decide, by decide⟩, _, _, rfl, rfl, (by show (0 : Int) < 17; decide), _, _, rfl, rfl, _, rfl, _, rfl, l3, ln, _, cell, ss, rs3, rfl, hR3, hN3, by omega, by omega, fun H4 l4 rs4 s4 hR4 hW => ?_⟩
      have d4 := hW.deps
      have t4 := hW.tots
      exact ⟨l4, rs4, rfl, hR4, hW.ok (by omega) ok3, by omega, by omega⟩
    · exact ⟨l3, rs3, rfl, hR3, ok3, by omega, by omega⟩
  rintro σ H5 ⟨l, rs, rfl, hR, hok, hd, ht⟩
  have few : ss.length ≤ 60 := by omega
  have okm := mvs_ok rs hok (by omega)
  have dm := mvs_deps rs
  have tm := mvs_tots rs
  have lm := len_tots (mvs rs)
  have lr := len_tots rs
  refine ⟨_, rfl, l, rs, H5, rfl, Same.refl _, hR, by omega, by omega, oks_thins _ hok, fun Hc H6 lk pt hRk => ?_⟩
  have hR6 := S.RowsAt.mono (Same.kp pt.all) hR
  have hK6 := S.RowsAt.mono (Same.kp pt.sub) hRk
  refine ⟨lk, ss, rs, rfl, hK6, hok, by omega, by omega, few, fun H7 lf ys F7 s7 fl7 el7 hO7 hF7 => ?_⟩
  have hF7r : S.RowsAt K H7 lf (mvs rs) := ⟨ys, el7, S.OwnRs.all _ hO7⟩
  refine ⟨_, rfl, lf, ss, mvs rs, rfl, S.RowsAt.to hF7r, okm, by omega, by omega, fun H8 s8 => ⟨_, rfl, iteF ?_⟩⟩
  refine ⟨_, rfl, lf, mvs rs, ss, rfl, S.RowsAt.to (S.RowsAt.mono (Same.kp s8) hF7r), okm, mvs_still rs, by omega, by omega, fun H9 s9 => ⟨_, rfl, iteF ?_⟩⟩
  have s79 := s8.trans s9
  have hR9 := S.RowsAt.mono (Same.kp (s7.trans s79)) hR6
  have hF9 := S.RowsAt.mono (Same.kp s79) hF7r
  -- the first count
  refine ⟨_, rfl, ?_⟩
  intro d1 hd1
  refine ⟨l, d1, H9, rs, [], fun _ => 0, rfl, (Kp.refl H9).put hd1 _, hR9, hd1, by omega, upd_same, DT.nil, by show 0 + tots rs ≤ 30000; omega, fun HA k1 fA edA dtA hlA => ?_⟩
  have sA : Same H9 HA := fun b o hb => fA b o (by rw [upd_ne (ne_of_none hb hd1)]; exact hb) (ne_of_none hb hd1)
  -- the second count
  refine ⟨_, rfl, ?_⟩
  intro d2 hd2
  have n12 : d1 ≠ d2 := ne_of_none edA hd2
  refine ⟨lf, d2, H9, mvs rs, [], fun _ => 0, rfl, (Same.kp sA).put (sA.free hd2) _, hF9, sA.free hd2, by omega, upd_same, DT.nil, by show 0 + tots (mvs rs) ≤ 30000; omega, fun HB k2 fB edB dtB hlB => ?_⟩
  have e1B : HB d1 = some (.dT k1) := fB d1 _ (by rw [upd_ne n12]; exact edA) n12
  obtain ⟨t, hturn⟩ := mvs_turned rs hok
  have dt1 : DT k1 (fun k => (cntK (rkeys rs) k : Int)) := dtA.cong fun k => Int.zero_add _
  have dt2 : DT k2 (fun k => (cntK (rkeys (mvs rs)) k : Int)) := dtB.cong fun k => Int.zero_add _
  have hlA' : k1.length ≤ tots rs := by
    have q : k1.length ≤ 0 + tots rs := hlA
    omega
  have hlB' : k2.length ≤ tots (mvs rs) := by
    have q : k2.length ≤ 0 + tots (mvs rs) := hlB
    omega
  -- how many loops have turned
  refine ⟨_, rfl, d1, rfl, .inr ⟨k1, .inl e1B⟩, (by show 2 ≤ sizeLine; decide), fun q1 hq1 => ?_⟩
  obtain ⟨HC, gC, sC, eC⟩ := newH hq1 (.tup [.str "loop", .str ""])
  rw [gC]
  refine ⟨_, DGet.t (k := kL) (sC _ _ e1B) eC, ?_⟩
  rw [dt1.get]
  refine ⟨_, rfl, d2, rfl, .inr ⟨k2, .inl (sC _ _ edB)⟩, (by show 2 ≤ sizeLine; decide), fun q2 hq2 => ?_⟩
  obtain ⟨HD, gD, sD, eD⟩ := newH hq2 (.tup [.str "loop", .str ""])
  rw [gD]
  have sBD := sC.trans sD
  refine ⟨_, DGet.t (k := kL) (sBD _ _ edB) eD, ?_⟩
  rw [dt2.get]
  have hL := hturn kL
  rw [if_pos rfl, if_neg (fun z => kWL z.symm), if_neg kLA] at hL
  have hW := hturn kW
  rw [if_neg kWL, if_pos rfl, if_neg kWA] at hW
  have hA := hturn kA
  rw [if_neg (fun z => kLA z.symm), if_neg (fun z => kWA z.symm), if_pos rfl] at hA
  have etz : (cntK (rkeys rs) kL : Int) - (cntK (rkeys (mvs rs)) kL : Int) = (t : Int) := by omega
  refine ⟨_, _, rfl, rfl, ?_⟩
  have e1D := sBD _ _ e1B
  have e2D := sBD _ _ edB
  -- the loops
  refine ⟨_, rfl, d1, rfl, .inr ⟨k1, .inl e1D⟩, (by show 2 ≤ sizeLine; decide), fun q3 hq3 => ?_⟩
  obtain ⟨HE, gE, sE, eE⟩ := newH hq3 (.tup [.str "loop", .str ""])
  rw [gE]
  refine ⟨_, DGet.t (k := kL) (sE _ _ e1D) eE, ?_⟩
  rw [dt1.get]
  refine ⟨_, rfl, _, _, rfl, rfl, _, rfl, (by show 2 ≤ sizeLine; decide), fun q4 hq4 => ?_⟩
  obtain ⟨HF, gF, sF, eF⟩ := newH hq4 (.tup [.str "loop", .str ""])
  rw [gF]
  have sDF := sE.trans sF
  have e1F := sDF _ _ e1D
  refine ⟨d1, _, rfl, DPut.t (k := kL) e1F eF (by rw [sizeLine_eq]; omega), ?_⟩
  have dtL := dt1.put kL ((cntK (rkeys rs) kL : Int) - ((cntK (rkeys rs) kL : Int) - (cntK (rkeys (mvs rs)) kL : Int)))
  obtain ⟨kl, ekl⟩ : ∃ kl, putK k1 kL (V.int ((cntK (rkeys rs) kL : Int) - ((cntK (rkeys rs) kL : Int) - (cntK (rkeys (mvs rs)) kL : Int)))) = kl := ⟨_, rfl⟩
  have hkl : kl.length ≤ k1.length + 1 := by rw [← ekl]; exact length_putK _ _ _
  rw [ekl] at dtL
  obtain ⟨HG, eHG⟩ : ∃ HG, upd HF d1 (.dT kl) = HG := ⟨_, rfl⟩
  have e1G : HG d1 = some (.dT kl) := by rw [← eHG]; exact upd_same
  have e2G : HG d2 = some (.dT k2) := by rw [← eHG, upd_ne n12.symm]; exact sDF _ _ e2D
  refine (show _ = HG from by rw [← eHG, ← ekl]) ▸ ?_
  -- the whens
  refine ⟨_, rfl, d1, rfl, .inr ⟨kl, .inl e1G⟩, (by show 2 ≤ sizeLine; decide), fun q5 hq5 => ?_⟩
  obtain ⟨HI, gI, sI, eI⟩ := newH hq5 (.tup [.str "when", .str ""])
  rw [gI]
  refine ⟨_, DGet.t (k := kW) (sI _ _ e1G) eI, ?_⟩
  rw [dtL.get]
  refine ⟨_, rfl, _, _, rfl, rfl, _, rfl, (by show 2 ≤ sizeLine; decide), fun q6 hq6 => ?_⟩
  obtain ⟨HJ, gJ, sJ, eJ⟩ := newH hq6 (.tup [.str "when", .str ""])
  rw [gJ]
  have sGJ := sI.trans sJ
  refine ⟨d1, _, rfl, DPut.t (k := kW) (sGJ _ _ e1G) eJ (by rw [sizeLine_eq]; omega), ?_⟩
  have dtW := dtL.put kW ((if kW = kL then ((cntK (rkeys rs) kL : Int) - ((cntK (rkeys rs) kL : Int) - (cntK (rkeys (mvs rs)) kL : Int))) else (cntK (rkeys rs) kW : Int)) + ((cntK (rkeys rs) kL : Int) - (cntK (rkeys (mvs rs)) kL : Int)))
  obtain ⟨kw, ekw⟩ : ∃ kw, putK kl kW (V.int ((if kW = kL then ((cntK (rkeys rs) kL : Int) - ((cntK (rkeys rs) kL : Int) - (cntK (rkeys (mvs rs)) kL : Int))) else (cntK (rkeys rs) kW : Int)) + ((cntK (rkeys rs) kL : Int) - (cntK (rkeys (mvs rs)) kL : Int)))) = kw := ⟨_, rfl⟩
  have hkw : kw.length ≤ kl.length + 1 := by rw [← ekw]; exact length_putK _ _ _
  rw [ekw] at dtW
  obtain ⟨HL, eHL⟩ : ∃ HL, upd HJ d1 (.dT kw) = HL := ⟨_, rfl⟩
  have e1L : HL d1 = some (.dT kw) := by rw [← eHL]; exact upd_same
  have e2L : HL d2 = some (.dT k2) := by rw [← eHL, upd_ne n12.symm]; exact sGJ _ _ e2G
  refine (show _ = HL from by rw [← eHL, ← ekw]) ▸ ?_
  -- the agains
  refine ⟨_, rfl, d1, rfl, .inr ⟨kw, .inl e1L⟩, (by show 2 ≤ sizeLine; decide), fun q7 hq7 => ?_⟩
  obtain ⟨HM, gM, sM, eM⟩ := newH hq7 (.tup [.str "again", .str ""])
  rw [gM]
  refine ⟨_, DGet.t (k := kA) (sM _ _ e1L) eM, ?_⟩
  rw [dtW.get]
  refine ⟨_, rfl, _, _, rfl, rfl, _, rfl, (by show 2 ≤ sizeLine; decide), fun q8 hq8 => ?_⟩
  obtain ⟨HN, gN, sN, eN⟩ := newH hq8 (.tup [.str "again", .str ""])
  rw [gN]
  have sLN := sM.trans sN
  refine ⟨d1, _, rfl, DPut.t (k := kA) (sLN _ _ e1L) eN (by rw [sizeLine_eq]; omega), ?_⟩
  obtain ⟨za, eza⟩ : ∃ za : Int, (if kA = kW then ((if kW = kL then ((cntK (rkeys rs) kL : Int) - ((cntK (rkeys rs) kL : Int) - (cntK (rkeys (mvs rs)) kL : Int))) else (cntK (rkeys rs) kW : Int)) + ((cntK (rkeys rs) kL : Int) - (cntK (rkeys (mvs rs)) kL : Int))) else (if kA = kL then ((cntK (rkeys rs) kL : Int) - ((cntK (rkeys rs) kL : Int) - (cntK (rkeys (mvs rs)) kL : Int))) else (cntK (rkeys rs) kA : Int))) + ((cntK (rkeys rs) kL : Int) - (cntK (rkeys (mvs rs)) kL : Int)) = za := ⟨_, rfl⟩
  have dtA3 := dtW.put kA za
  obtain ⟨ka, eka⟩ : ∃ ka, putK kw kA (V.int za) = ka := ⟨_, rfl⟩
  have hka : ka.length ≤ kw.length + 1 := by rw [← eka]; exact length_putK _ _ _
  rw [eka] at dtA3
  have dt3 : DT ka (fun k => (cntK (rkeys (mvs rs)) k : Int)) := dtA3.cong fun k => by
    show (if k = kA then za else if k = kW then (if kW = kL then ((cntK (rkeys rs) kL : Int) - ((cntK (rkeys rs) kL : Int) - (cntK (rkeys (mvs rs)) kL : Int))) else (cntK (rkeys rs) kW : Int)) + ((cntK (rkeys rs) kL : Int) - (cntK (rkeys (mvs rs)) kL : Int)) else if k = kL then ((cntK (rkeys rs) kL : Int) - ((cntK (rkeys rs) kL : Int) - (cntK (rkeys (mvs rs)) kL : Int))) else (cntK (rkeys rs) k : Int)) = _
    have hk := hturn k
    by_cases c1 : k = kA
    · subst c1
      rw [if_pos rfl, ← eza, if_neg (fun z => kWA z.symm), if_neg (fun z => kLA z.symm)]
      omega
    · rw [if_neg c1]
      by_cases c2 : k = kW
      · subst c2
        rw [if_pos rfl, if_neg kWL]
        omega
      · rw [if_neg c2]
        by_cases c3 : k = kL
        · subst c3
          rw [if_pos rfl]
          omega
        · rw [if_neg c3]
          rw [if_neg c3, if_neg c2, if_neg c1] at hk
          omega
  obtain ⟨HO_, eHO⟩ : ∃ HO_, upd HN d1 (.dT ka) = HO_ := ⟨_, rfl⟩
  have e1O : HO_ d1 = some (.dT ka) := by rw [← eHO]; exact upd_same
  have e2O : HO_ d2 = some (.dT k2) := by rw [← eHO, upd_ne n12.symm]; exact sLN _ _ e2L
  refine (show _ = HO_ from by rw [← eHO, ← eka, ← eza]) ▸ ?_
  -- each number is the same
  refine ⟨d2, _, e2O, True.intro, fun od => ?_⟩
  refine ⟨_, rfl, d2, od, rfl, .inr ⟨k2, upd_same, ?_⟩⟩
  have e1P : (upd HO_ d2 (.frz od (.dT k2))) d1 = some (.dT ka) := by rw [upd_ne n12]; exact e1O
  refine for_it (walk_keysT (d := d2) (o := od) (kvs := k2)) (fun i σ H' => ∃ v8 : Option V, σ = [some (.ref a), some (.int cell), some (.ref ln), some (.ref l), some (.ref lf), some (.ref d1), some (.ref d2), some (.int ((cntK (rkeys rs) kL : Int) - (cntK (rkeys (mvs rs)) kL : Int))), v8, none] ∧ H' = upd HO_ d2 (.frz od (.dT k2)))
    ⟨none, rfl, rfl⟩ (fun i σ H' _ ⟨_, _, e⟩ => by rw [e]; exact upd_same) ?_ ?_
  · rintro i y σ HQ HR hi ⟨v8, rfl, rfl⟩ ⟨rfl, key, val, q, hkv, rfl, hq⟩
    have hin := dt2.in_ hkv
    refine ⟨_, rfl, d1, rfl, .inr ⟨ka, .inl e1P⟩, _, rfl, _, DGet.t (k := key) e1P hq, ?_⟩
    rw [dt3.get]
    refine ⟨_, rfl, _, rfl, d2, .int (cntK (rkeys (mvs rs)) key : Int), rfl, ?_, rfl, _, rfl, ifF (by rw [decide_eq_true rfl]; rfl) ⟨_, rfl, rfl⟩⟩
    rw [← hin]
    exact .inr ⟨k2, key, q, .inr ⟨od, upd_same⟩, rfl, hq, rfl⟩
  rintro σ HQ ⟨v8, rfl, rfl⟩
  refine ⟨upd_same, ?_⟩
  have back : ∀ {Hx : Hp} {d : Addr} {u u' : HO}, Hx d = some u → upd (upd Hx d u') d u = Hx := fun h => by rw [upd_upd, upd_self h]
  rw [back e2O]
  -- the sums
  refine ⟨d1, _, e1O, True.intro, fun od1 => ?_⟩
  refine ⟨_, rfl, d1, od1, rfl, .inr ⟨ka, upd_same, fun D hD => lc_it (walk_keysT (d := d1) (o := od1) (kvs := ka)) (fun i H' => H' D = some (.lst ((((ka.map (·.1)).map fun k => (cntK (rkeys (mvs rs)) k : Int)).take i).map V.int)) ∧ Same (upd HO_ d1 (.frz od1 (.dT ka))) H') ⟨upd_same, same_new hD _⟩ (fun i H' _ p => p.2 _ _ upd_same) ?_ ?_⟩⟩
  · rintro i y HQ HR hi ⟨eD1, sQ⟩ ⟨rfl, key, val, q, hkv, rfl, hq⟩
    have hin := dt3.in_ hkv
    have hget : ((ka.map (·.1)).map fun k => (cntK (rkeys (mvs rs)) k : Int))[i]? = some (cntK (rkeys (mvs rs)) key : Int) := by
      rw [List.getElem?_map, List.getElem?_map, hkv]
      rfl
    refine ⟨rfl, yes (iteT ?_)⟩
    refine ⟨_, rfl, _, rfl, d1, .int (cntK (rkeys (mvs rs)) key : Int), rfl, ?_, _, eD1, ?_, ?_, fun b o hb => ?_⟩
    · rw [← hin]
      exact .inr ⟨ka, key, q, .inr ⟨od1, sQ _ _ upd_same⟩, rfl, hq, rfl⟩
    · rw [List.length_map, List.length_take, List.length_map, List.length_map, sizeLine_eq]
      omega
    · rw [upd_same, take_one hget, List.map_append]
      rfl
    · rw [upd_ne (ne_of_none hb hD)]
      exact sQ b o hb
  rintro HQ ⟨eD1, sQ⟩
  have hDd1 : D ≠ d1 := (ne_of_none (upd_same (H := HO_) (a := d1) (o := .frz od1 (.dT ka))) hD).symm
  refine ⟨sQ _ _ upd_same, ?_⟩
  have full : ∀ (kk : List (List Key × V)), (((kk.map (·.1)).map fun k => (cntK (rkeys (mvs rs)) k : Int)).take kk.length) = ((kk.map (·.1)).map fun k => (cntK (rkeys (mvs rs)) k : Int)) := fun kk => List.take_of_length_le (by rw [List.length_map, List.length_map]; exact Nat.le_refl _)
  rw [full] at eD1
  refine ⟨D, _, rfl, SqL.of (by rw [upd_ne hDd1]; exact eD1), ?_⟩
  rw [dt3.sum]
  obtain ⟨HS, eHS⟩ : ∃ HS, upd HQ d1 (.dT ka) = HS := ⟨_, rfl⟩
  rw [eHS]
  have e2S : HS d2 = some (.dT k2) := by
    rw [← eHS, upd_ne n12.symm]
    refine sQ _ _ ?_
    rw [upd_ne n12.symm]
    exact e2O
  refine ⟨_, rfl, _, _, rfl, rfl, _, rfl, ?_⟩
  refine (ifT (decide_eq_true (show (0 : Int) ≤ _ from by omega)) ?_)
  refine ⟨_, rfl, d2, _, e2S, True.intro, fun od2 => ?_⟩
  refine ⟨_, rfl, d2, od2, rfl, .inr ⟨k2, upd_same, fun D2 hD2 => lc_it (walk_keysT (d := d2) (o := od2) (kvs := k2)) (fun i H' => H' D2 = some (.lst ((((k2.map (·.1)).map fun k => (cntK (rkeys (mvs rs)) k : Int)).take i).map V.int)) ∧ Same (upd HS d2 (.frz od2 (.dT k2))) H') ⟨upd_same, same_new hD2 _⟩ (fun i H' _ p => p.2 _ _ upd_same) ?_ ?_⟩⟩
  · rintro i y HQ HR hi ⟨eD1, sQ⟩ ⟨rfl, key, val, q, hkv, rfl, hq⟩
    have hin := dt2.in_ hkv
    have hget : ((k2.map (·.1)).map fun k => (cntK (rkeys (mvs rs)) k : Int))[i]? = some (cntK (rkeys (mvs rs)) key : Int) := by
      rw [List.getElem?_map, List.getElem?_map, hkv]
      rfl
    refine ⟨rfl, yes (iteT ?_)⟩
    refine ⟨_, rfl, _, rfl, d2, .int (cntK (rkeys (mvs rs)) key : Int), rfl, ?_, _, eD1, ?_, ?_, fun b o hb => ?_⟩
    · rw [← hin]
      exact .inr ⟨k2, key, q, .inr ⟨od2, sQ _ _ upd_same⟩, rfl, hq, rfl⟩
    · rw [List.length_map, List.length_take, List.length_map, List.length_map, sizeLine_eq]
      omega
    · rw [upd_same, take_one hget, List.map_append]
      rfl
    · rw [upd_ne (ne_of_none hb hD2)]
      exact sQ b o hb
  rintro HT_ ⟨eD2, sT⟩
  have hDd2 : D2 ≠ d2 := (ne_of_none (upd_same (H := HS) (a := d2) (o := .frz od2 (.dT k2))) hD2).symm
  refine ⟨sT _ _ upd_same, ?_⟩
  rw [full] at eD2
  refine ⟨D2, _, rfl, SqL.of (by rw [upd_ne hDd2]; exact eD2), ?_⟩
  rw [dt2.sum]
  refine ⟨rfl, ?_⟩
  rw [decide_eq_true rfl]
  exact k _
end
end Lm
namespace Lm
open PySem PySem.Spec PyProof.Rows L2 GxR
/-! ### what the top leaves -/
def mkD (x : Str) (i : Nat) : He.DefD := ⟨(x, none), x, x, defArgs (topS i), defBody (topS i), defScope (topS i), [], []⟩
def mkM (c x y : Str) (st : Stmt) : He.DefD := ⟨(c, some x), x, y, defArgs st, defBody st, defScope st, [], []⟩
def fn0 : List He.DefD := [mkD "all_rows" 2, mkD "asked_parts" 3, mkD "row_may_fail" 4, mkD "reads" 5, mkD "sets" 6, mkD "may_fail" 7, mkD "speaks" 8, mkD "count_setters" 10, mkD "split_body" 12, mkD "moved_block" 13, mkD "moved" 14, mkD "_law_cell_at" 16]
def fn1 : List He.DefD := [mkD "_law_mixed" 17, mkD "_law_names" 18, mkD "_law_value" 19, mkD "_law_let" 20, mkD "_law_closed" 21, mkD "_law_opened" 22, mkD "_law_program" 23, mkD "_law_whole" 24, mkD "_law_copied" 25, mkD "_law_sound_row" 26, mkD "_law_sound" 27, mkD "_law_reads" 28]
def fn2 : List He.DefD := [mkD "_law_sets" 29, mkD "_law_fails" 30, mkD "_law_speaks" 31, mkD "_law_goes" 32, mkD "_law_parted" 33, mkD "_law_nested" 34, mkD "_law_left" 35, mkD "_law_plain" 36, mkD "law" 37, mkM "Look" "__init__" "Look.__init__" (inClass (topS 11) 0), mkM "Look" "goes_ahead" "Look.goes_ahead" (inClass (topS 11) 1), mkM "Look" "send_ahead" "Look.send_ahead" (inClass (topS 11) 2)]
def fn3 : List He.DefD := [mkM "Look" "keep" "Look.keep" (inClass (topS 11) 3)]
def fn : List He.DefD := fn0 ++ fn1 ++ fn2 ++ fn3
def own0 : List Str := ["all_rows", "asked_parts", "row_may_fail", "reads", "sets", "may_fail", "speaks", "count_setters", "split_body", "moved_block", "moved", "_law_cell_at", "_law_mixed", "_law_names"]
def own1 : List Str := ["_law_value", "_law_let", "_law_closed", "_law_opened", "_law_program", "_law_whole", "_law_copied", "_law_sound_row", "_law_sound", "_law_reads", "_law_sets", "_law_fails", "_law_speaks", "_law_goes"]
def own2 : List Str := ["_law_parted", "_law_nested", "_law_left", "_law_plain", "law", "Look", "BLOCKS"]
def own : List Str := own0 ++ own1 ++ own2
def bare : List Str := ["all", "any", "bool", "int", "isinstance", "len", "list", "max", "range", "set", "sorted", "str", "sum", "tuple"]
def fas0 : List He.Fa := [.cls "Look", .noat "Look" "setters", .noat "Look" "asked", .noat "Look" "failing", .noat "Look" "speaking", .meth "Look" "goes_ahead", .meth "Look" "send_ahead", .meth "Look" "keep", .mkr "Look"]
def fas : List He.Fa := fas0
def fa : List He.Fa := fas ++ (own.map He.Fa.glo ++ bare.map He.Fa.free)
theorem glo_fa {x : Str} (h : x ∈ own) : He.Fa.glo x ∈ fa := List.mem_append_right _ (List.mem_append_left _ (List.mem_map_of_mem h))
theorem free_fa {x : Str} (h : x ∈ bare) : He.Fa.free x ∈ fa := List.mem_append_right _ (List.mem_append_right _ (List.mem_map_of_mem h))
/-- a tuple of the top -/
def tupB (K : PySem.W.Frag) (a : Addr) (xs : List V) : Bool := match K.lookup a with
  | some ⟨.type c, _, .seq its _, _⟩ => decide (c = "tuple") && He.relAll xs its.toList
  | _ => false
theorem relAll_len : ∀ {xs : List V} {us : List Value}, He.relAll xs us = true → us.length = xs.length
  | [], [], _ => rfl
  | [], _ :: _, h => by cases h
  | _ :: _, [], h => by cases h
  | x :: xs, u :: us, h => by
    have h' : (He.relB x u && He.relAll xs us) = true := h
    rw [List.length_cons, List.length_cons, relAll_len (Bool.and_eq_true_iff.mp h').2]
theorem tupB_ok {K : PySem.W.Frag} {a : Addr} {xs : List V} (h : tupB K a xs = true) (hl : xs.length ≤ 1000) (H : Hp) : SqT K H a xs := by
  unfold tupB at h
  cases q : K.lookup a with
  | none =>
    rw [q] at h
    cases h
  | some o =>
    rw [q] at h
    obtain ⟨oc, od, dt, sl⟩ := o
    cases oc with
    | type c =>
      cases dt with
      | seq its n =>
        obtain ⟨h1, h2⟩ := Bool.and_eq_true_iff.mp h
        refine .inr ⟨_, its, n, q, congrArg Value.type (of_decide_eq_true h1), rfl, ?_, He.relAll_ok h2⟩
        have e := relAll_len h2
        rw [Array.length_toList] at e
        rw [e]
        exact Nat.le_of_lt (small1000 hl)
      | _ => cases h
    | _ => cases h
def ex (K : PySem.W.Frag) : Bool := tupB K (He.ga K "BLOCKS") (kinds.map V.str)
def ts : List He.Tab := []
def tf : List He.Defn := []
theorem fun_of {K : PySem.W.Frag} {x y : Str} {st : Stmt} {f : Addr} {fd : FuncData} {d : He.DefD} (F : FunD K d.name d.qual d.params d.body d.scope (d.dvs K) (d.kws K) f fd) (h1 : d.name = x) (h2 : d.qual = y) (h3 : d.params = defArgs st) (h4 : d.body = defBody st) (h5 : d.scope = defScope st) (h6 : d.dfl = []) : Fun K x y st f fd := by
  obtain ⟨oc, od, dV, kV, doc, pm, an, cdv, ct, osl, e, lk, hcd, hd, _⟩ := F.ex
  rw [h1, h2, h3, h4, h5] at e
  rw [h2] at hcd
  have hdv : d.dvs K = [] := by
    unfold He.DefD.dvs
    rw [h6]
    rfl
  rcases hd with ⟨_, hd⟩ | ⟨hd, _⟩
  · subst hd
    exact ⟨⟨oc, od, kV, doc, pm, an, cdv, ct, osl, e, lk, hcd⟩, F.kp⟩
  · exact absurd hdv hd
theorem fun_to {K : PySem.W.Frag} {x qual : Str} {st : Stmt} {f : Addr} {fd : FuncData} {ps : List Str} (F : Fun K x qual st f fd)
    (h : ∀ (kV doc pm : Value) (an : Option Addr) (cdv ct : Value) (us : List Value), us.length = ps.length → bindArgs (PySem.W.fnOf x qual (defArgs st) (defBody st) (defScope st) .none kV doc pm an cdv ct) ⟨us, []⟩ = pure (ps.zip us)) (s : Shared) (us : List Value) (hl : us.length = ps.length) :
    BindsTo s fd ⟨us, []⟩ (ps.zip us) := by
  obtain ⟨oc, od, kV, doc, pm, an, cdv, ct, osl, rfl, lk, hcd⟩ := F.ex
  exact .of_eq (h kV doc pm an cdv ct us hl)
/-- a def by its name: where it stands, its function object -/
structure At (K : PySem.W.Frag) (mg : Str → Option Value) (x : Str) (i : Nat) (f : Addr) (fd : FuncData) : Prop where
  fn : Fun K x x (topS i) f fd
  m : mg x = some (.ref f)
theorem at_of_says {K : PySem.W.Frag} {h : Heap} {mg : Str → Option Value} (X : K.In h) (G : h.Ns mainGlobals mg) (c : He.SaysD fa fn K) (j : Nat) {x : Str} {i : Nat} (hg : x ∈ own) (hd : fn[j]? = some (mkD x i) := by rfl) : ∃ fd, At K mg x i (He.ga K x) fd := by
  obtain ⟨fd, F⟩ := c.def_ j hd
  exact ⟨fd, fun_of F rfl rfl rfl rfl rfl rfl, He.glo_ok X G (c.facts (glo_fa hg))⟩
theorem me_of_says {K : PySem.W.Frag} (c : He.SaysD fa fn K) (j k : Nat) {cl x y : Str} {st : Stmt} (hd : fn[j]? = some (mkM cl x y st) := by rfl) (hf : fa[k]? = some (.meth cl x) := by rfl) : ∃ fd, Fun K x y st (He.ma K (He.ga K cl) x) fd ∧ Meth K (He.ga K cl) x (He.ma K (He.ga K cl) x) := by
  obtain ⟨fd, F⟩ := c.def_ j hd
  exact ⟨fd, fun_of F rfl rfl rfl rfl rfl rfl, He.meth_ok (c.fact k hf)⟩
theorem mk_of_says {K : PySem.W.Frag} (c : He.SaysD fa fn K) (j k : Nat) {cl y : Str} {st : Stmt} (hd : fn[j]? = some (mkM cl "__init__" y st) := by rfl) (hf : fa[k]? = some (.mkr cl) := by rfl) : ∃ fd, Fun K "__init__" y st (He.ma K (He.ga K cl) "__init__") fd ∧ Mk K (He.ga K cl) (He.ma K (He.ga K cl) "__init__") := by
  obtain ⟨fd, F⟩ := c.def_ j hd
  exact ⟨fd, fun_of F rfl rfl rfl rfl rfl rfl, He.mkr_ok (c.fact k hf)⟩
end Lm
namespace Lm
open PySem PySem.Spec PyProof.Rows L2 GxR
/-- the law's promise, from what the top leaves -/
theorem law_at {l : PySem.W.OpenLaw} {w : World} {K : PySem.W.Frag} {h : Heap} {mg : Str → Option Value} {fl : Addr} (X : K.In h) (G : h.Ns mainGlobals mg) (hfl : mg "law" = some (.ref fl)) (c : He.SaysX fa fn ts tf ex w h K) :
    LamX.LawAtS l w K CX0 102 63 "_law_script" mg fl h := by
  have cD : He.SaysD fa fn K := congrArg (fun z : He.AlT => z.1) c.t
  have bn : ∀ {x : Str}, x ∈ bare → mg x = none := fun hx => He.free_ok X G (cD.facts (free_fa hx))
  have own_ : ∀ {x : Str}, x ∈ own → mg x = some (.ref (He.ga K x)) := fun hx => He.glo_ok X G (cD.facts (glo_fa hx))
  have B : Bn mg := ⟨bn (by decide +kernel), bn (by decide +kernel), bn (by decide +kernel), bn (by decide +kernel), bn (by decide +kernel), bn (by decide +kernel), bn (by decide +kernel), bn (by decide +kernel), bn (by decide +kernel)⟩
  obtain ⟨d_all_rows, A_all_rows⟩ := at_of_says X G cD 0 (x := "all_rows") (i := 2) (by decide +kernel)
  have b_all_rows : Binds K d_all_rows ["rows"] [] := A_all_rows.fn.binds fun _ _ _ _ _ _ us hl => match us, hl with | [_], _ => rfl
  obtain ⟨d_asked_parts, A_asked_parts⟩ := at_of_says X G cD 1 (x := "asked_parts") (i := 3) (by decide +kernel)
  have b_asked_parts : Binds K d_asked_parts ["row"] [] := A_asked_parts.fn.binds fun _ _ _ _ _ _ us hl => match us, hl with | [_], _ => rfl
  obtain ⟨d_row_may_fail, A_row_may_fail⟩ := at_of_says X G cD 2 (x := "row_may_fail") (i := 4) (by decide +kernel)
  have b_row_may_fail : Binds K d_row_may_fail ["row"] [] := A_row_may_fail.fn.binds fun _ _ _ _ _ _ us hl => match us, hl with | [_], _ => rfl
  obtain ⟨d_reads, A_reads⟩ := at_of_says X G cD 3 (x := "reads") (i := 5) (by decide +kernel)
  have b_reads : Binds K d_reads ["rows"] [] := A_reads.fn.binds fun _ _ _ _ _ _ us hl => match us, hl with | [_], _ => rfl
  obtain ⟨d_sets, A_sets⟩ := at_of_says X G cD 4 (x := "sets") (i := 6) (by decide +kernel)
  have b_sets : Binds K d_sets ["rows"] [] := A_sets.fn.binds fun _ _ _ _ _ _ us hl => match us, hl with | [_], _ => rfl
  obtain ⟨d_may_fail, A_may_fail⟩ := at_of_says X G cD 5 (x := "may_fail") (i := 7) (by decide +kernel)
  have b_may_fail : Binds K d_may_fail ["rows"] [] := A_may_fail.fn.binds fun _ _ _ _ _ _ us hl => match us, hl with | [_], _ => rfl
  obtain ⟨d_speaks, A_speaks⟩ := at_of_says X G cD 6 (x := "speaks") (i := 8) (by decide +kernel)
  have b_speaks : Binds K d_speaks ["rows"] [] := A_speaks.fn.binds fun _ _ _ _ _ _ us hl => match us, hl with | [_], _ => rfl
  obtain ⟨d_count_setters, A_count_setters⟩ := at_of_says X G cD 7 (x := "count_setters") (i := 10) (by decide +kernel)
  have b_count_setters : Binds K d_count_setters ["body"] [] := A_count_setters.fn.binds fun _ _ _ _ _ _ us hl => match us, hl with | [_], _ => rfl
  obtain ⟨d_split_body, A_split_body⟩ := at_of_says X G cD 8 (x := "split_body") (i := 12) (by decide +kernel)
  have b_split_body : Binds K d_split_body ["body"] [] := A_split_body.fn.binds fun _ _ _ _ _ _ us hl => match us, hl with | [_], _ => rfl
  obtain ⟨d_moved_block, A_moved_block⟩ := at_of_says X G cD 9 (x := "moved_block") (i := 13) (by decide +kernel)
  have b_moved_block : Binds K d_moved_block ["word", "test", "body"] [] := A_moved_block.fn.binds fun _ _ _ _ _ _ us hl => match us, hl with | [_, _, _], _ => rfl
  obtain ⟨d_moved, A_moved⟩ := at_of_says X G cD 10 (x := "moved") (i := 14) (by decide +kernel)
  have b_moved : Binds K d_moved ["rows"] [] := A_moved.fn.binds fun _ _ _ _ _ _ us hl => match us, hl with | [_], _ => rfl
  obtain ⟨d__law_cell_at, A__law_cell_at⟩ := at_of_says X G cD 11 (x := "_law_cell_at") (i := 16) (by decide +kernel)
  have b__law_cell_at : Binds K d__law_cell_at ["_law_script", "_law_k"] [] := A__law_cell_at.fn.binds fun _ _ _ _ _ _ us hl => match us, hl with | [_, _], _ => rfl
  obtain ⟨d__law_mixed, A__law_mixed⟩ := at_of_says X G cD 12 (x := "_law_mixed") (i := 17) (by decide +kernel)
  have b__law_mixed : Binds K d__law_mixed ["_law_cell", "_law_k"] [] := A__law_mixed.fn.binds fun _ _ _ _ _ _ us hl => match us, hl with | [_, _], _ => rfl
  obtain ⟨d__law_names, A__law_names⟩ := at_of_says X G cD 13 (x := "_law_names") (i := 18) (by decide +kernel)
  have b__law_names : Binds K d__law_names ["_law_cell"] [] := A__law_names.fn.binds fun _ _ _ _ _ _ us hl => match us, hl with | [_], _ => rfl
  obtain ⟨d__law_value, A__law_value⟩ := at_of_says X G cD 14 (x := "_law_value") (i := 19) (by decide +kernel)
  have b__law_value : Binds K d__law_value ["_law_kind", "_law_number", "_law_names_here"] [] := A__law_value.fn.binds fun _ _ _ _ _ _ us hl => match us, hl with | [_, _, _], _ => rfl
  obtain ⟨d__law_let, A__law_let⟩ := at_of_says X G cD 15 (x := "_law_let") (i := 20) (by decide +kernel)
  have b__law_let : Binds K d__law_let ["_law_number", "_law_names_here"] [] := A__law_let.fn.binds fun _ _ _ _ _ _ us hl => match us, hl with | [_, _], _ => rfl
  obtain ⟨d__law_closed, A__law_closed⟩ := at_of_says X G cD 16 (x := "_law_closed") (i := 21) (by decide +kernel)
  have b__law_closed : Binds K d__law_closed ["_law_stack", "_law_tests"] [] := A__law_closed.fn.binds fun _ _ _ _ _ _ us hl => match us, hl with | [_, _], _ => rfl
  obtain ⟨d__law_opened, A__law_opened⟩ := at_of_says X G cD 17 (x := "_law_opened") (i := 22) (by decide +kernel)
  have b__law_opened : Binds K d__law_opened ["_law_number", "_law_names_here", "_law_stack", "_law_tests"] [] := A__law_opened.fn.binds fun _ _ _ _ _ _ us hl => match us, hl with | [_, _, _, _], _ => rfl
  obtain ⟨d__law_program, A__law_program⟩ := at_of_says X G cD 18 (x := "_law_program") (i := 23) (by decide +kernel)
  have b__law_program : Binds K d__law_program ["_law_cells", "_law_names_here"] [] := A__law_program.fn.binds fun _ _ _ _ _ _ us hl => match us, hl with | [_, _], _ => rfl
  obtain ⟨d__law_whole, A__law_whole⟩ := at_of_says X G cD 19 (x := "_law_whole") (i := 24) (by decide +kernel)
  have b__law_whole : Binds K d__law_whole ["_law_found"] [] := A__law_whole.fn.binds fun _ _ _ _ _ _ us hl => match us, hl with | [_], _ => rfl
  obtain ⟨d__law_copied, A__law_copied⟩ := at_of_says X G cD 20 (x := "_law_copied") (i := 25) (by decide +kernel)
  have b__law_copied : Binds K d__law_copied ["_law_rows"] [] := A__law_copied.fn.binds fun _ _ _ _ _ _ us hl => match us, hl with | [_], _ => rfl
  obtain ⟨d__law_sound_row, A__law_sound_row⟩ := at_of_says X G cD 21 (x := "_law_sound_row") (i := 26) (by decide +kernel)
  have b__law_sound_row : Binds K d__law_sound_row ["_law_row"] [] := A__law_sound_row.fn.binds fun _ _ _ _ _ _ us hl => match us, hl with | [_], _ => rfl
  obtain ⟨d__law_sound, A__law_sound⟩ := at_of_says X G cD 22 (x := "_law_sound") (i := 27) (by decide +kernel)
  have b__law_sound : Binds K d__law_sound ["_law_rows"] [] := A__law_sound.fn.binds fun _ _ _ _ _ _ us hl => match us, hl with | [_], _ => rfl
  obtain ⟨d__law_reads, A__law_reads⟩ := at_of_says X G cD 23 (x := "_law_reads") (i := 28) (by decide +kernel)
  have b__law_reads : Binds K d__law_reads ["_law_rows", "_law_found"] [] := A__law_reads.fn.binds fun _ _ _ _ _ _ us hl => match us, hl with | [_, _], _ => rfl
  obtain ⟨d__law_sets, A__law_sets⟩ := at_of_says X G cD 24 (x := "_law_sets") (i := 29) (by decide +kernel)
  have b__law_sets : Binds K d__law_sets ["_law_rows", "_law_found"] [] := A__law_sets.fn.binds fun _ _ _ _ _ _ us hl => match us, hl with | [_, _], _ => rfl
  obtain ⟨d__law_fails, A__law_fails⟩ := at_of_says X G cD 25 (x := "_law_fails") (i := 30) (by decide +kernel)
  have b__law_fails : Binds K d__law_fails ["_law_rows"] [] := A__law_fails.fn.binds fun _ _ _ _ _ _ us hl => match us, hl with | [_], _ => rfl
  obtain ⟨d__law_speaks, A__law_speaks⟩ := at_of_says X G cD 26 (x := "_law_speaks") (i := 31) (by decide +kernel)
  have b__law_speaks : Binds K d__law_speaks ["_law_rows"] [] := A__law_speaks.fn.binds fun _ _ _ _ _ _ us hl => match us, hl with | [_], _ => rfl
  obtain ⟨d__law_goes, A__law_goes⟩ := at_of_says X G cD 27 (x := "_law_goes") (i := 32) (by decide +kernel)
  have b__law_goes : Binds K d__law_goes ["_law_row", "_law_staying", "_law_behind"] [] := A__law_goes.fn.binds fun _ _ _ _ _ _ us hl => match us, hl with | [_, _, _], _ => rfl
  obtain ⟨d__law_parted, A__law_parted⟩ := at_of_says X G cD 28 (x := "_law_parted") (i := 33) (by decide +kernel)
  have b__law_parted : Binds K d__law_parted ["_law_body"] [] := A__law_parted.fn.binds fun _ _ _ _ _ _ us hl => match us, hl with | [_], _ => rfl
  obtain ⟨d__law_nested, A__law_nested⟩ := at_of_says X G cD 29 (x := "_law_nested") (i := 34) (by decide +kernel)
  have b__law_nested : Binds K d__law_nested ["_law_rows", "_law_count", "_law_names_here", "_law_cell"] [] := A__law_nested.fn.binds fun _ _ _ _ _ _ us hl => match us, hl with | [_, _, _, _], _ => rfl
  obtain ⟨d__law_left, A__law_left⟩ := at_of_says X G cD 30 (x := "_law_left") (i := 35) (by decide +kernel)
  have b__law_left : Binds K d__law_left ["_law_rows"] [] := A__law_left.fn.binds fun _ _ _ _ _ _ us hl => match us, hl with | [_], _ => rfl
  obtain ⟨d__law_plain, A__law_plain⟩ := at_of_says X G cD 31 (x := "_law_plain") (i := 36) (by decide +kernel)
  have b__law_plain : Binds K d__law_plain ["_law_rows", "_law_found"] [] := A__law_plain.fn.binds fun _ _ _ _ _ _ us hl => match us, hl with | [_, _], _ => rfl
  obtain ⟨d_law, A_law⟩ := at_of_says X G cD 32 (x := "law") (i := 37) (by decide +kernel)
  have b_law : Binds K d_law ["_law_script"] [] := A_law.fn.binds fun _ _ _ _ _ _ us hl => match us, hl with | [_], _ => rfl
  obtain ⟨d_Look___init__, F_Look___init__, M_Look___init__⟩ := mk_of_says cD 33 8 (cl := "Look") (y := "Look.__init__") (st := inClass (topS 11) 0)
  have b_Look___init__ : Binds K d_Look___init__ ["self", "body"] [] := F_Look___init__.binds fun _ _ _ _ _ _ us hl => match us, hl with | [_, _], _ => rfl
  obtain ⟨d_Look_goes_ahead, F_Look_goes_ahead, M_Look_goes_ahead⟩ := me_of_says cD 34 5 (cl := "Look") (x := "goes_ahead") (y := "Look.goes_ahead") (st := inClass (topS 11) 1)
  have b_Look_goes_ahead : Binds K d_Look_goes_ahead ["self", "row"] [] := F_Look_goes_ahead.binds fun _ _ _ _ _ _ us hl => match us, hl with | [_, _], _ => rfl
  obtain ⟨d_Look_send_ahead, F_Look_send_ahead, M_Look_send_ahead⟩ := me_of_says cD 35 6 (cl := "Look") (x := "send_ahead") (y := "Look.send_ahead") (st := inClass (topS 11) 2)
  have b_Look_send_ahead : Binds K d_Look_send_ahead ["self", "row"] [] := F_Look_send_ahead.binds fun _ _ _ _ _ _ us hl => match us, hl with | [_, _], _ => rfl
  obtain ⟨d_Look_keep, F_Look_keep, M_Look_keep⟩ := me_of_says cD 36 7 (cl := "Look") (x := "keep") (y := "Look.keep") (st := inClass (topS 11) 3)
  have b_Look_keep : Binds K d_Look_keep ["self", "row"] [] := F_Look_keep.binds fun _ _ _ _ _ _ us hl => match us, hl with | [_, _], _ => rfl
  have efl : fl = He.ga K "law" := by
    have e := hfl.symm.trans A_law.m
    cases e
    rfl
  subst efl
  refine ⟨d_law, [], spLaw K, fun p hp => by simp at hp, fun p hp => by simp at hp, fun p hp => by simp at hp, ?_, ?_, ?_⟩
  · intro s v
    exact fun_to (ps := ["_law_script"]) A_law.fn (fun _ _ _ _ _ _ us hl => match us, hl with | [_], _ => rfl) s [v] rfl
  · intro H a ns hl _ hT hS
    exact ⟨a, ns, rfl, hS, hl, fun _ => rfl⟩
  · intro base hX hG hTB
    have Bq : Bp mg := ⟨bn (by decide +kernel), bn (by decide +kernel), bn (by decide +kernel)⟩
    have C : Cb K mg (He.ga K "BLOCKS") := ⟨own_ (by decide +kernel), tupB_ok c.more (by decide +kernel)⟩
    have T : Lk K (He.ga K "Look") := ⟨He.cls_ok (cD.fact 0 (f := .cls "Look") rfl), He.noat_ok (cD.fact 1 (f := .noat "Look" "setters") rfl), He.noat_ok (cD.fact 2 (f := .noat "Look" "asked") rfl), He.noat_ok (cD.fact 3 (f := .noat "Look" "failing") rfl), He.noat_ok (cD.fact 4 (f := .noat "Look" "speaking") rfl)⟩
    have D_all_rows : Df l.prog w K mg base "all_rows" (1) _ d_all_rows ["rows"] (spAllRows K) := ⟨ok_all_rows A_all_rows.fn C, A_all_rows.m, A_all_rows.fn.kp, b_all_rows⟩
    have D_asked_parts : Df l.prog w K mg base "asked_parts" (1) _ d_asked_parts ["row"] (spAsked K) := ⟨ok_asked A_asked_parts.fn, A_asked_parts.m, A_asked_parts.fn.kp, b_asked_parts⟩
    have D_row_may_fail : Df l.prog w K mg base "row_may_fail" (1) _ d_row_may_fail ["row"] (spRmf K) := ⟨ok_rmf A_row_may_fail.fn B, A_row_may_fail.m, A_row_may_fail.fn.kp, b_row_may_fail⟩
    have D_reads : Df l.prog w K mg base "reads" (2) _ d_reads ["rows"] (spNamed K askN) := ⟨ok_reads A_reads.fn B Bq D_all_rows D_asked_parts, A_reads.m, A_reads.fn.kp, b_reads⟩
    have D_sets : Df l.prog w K mg base "sets" (2) _ d_sets ["rows"] (spNamed K setN) := ⟨ok_sets A_sets.fn Bq D_all_rows, A_sets.m, A_sets.fn.kp, b_sets⟩
    have D_may_fail : Df l.prog w K mg base "may_fail" (2) _ d_may_fail ["rows"] (spSome K Row.fails) := ⟨ok_may A_may_fail.fn Bq D_all_rows D_row_may_fail, A_may_fail.m, A_may_fail.fn.kp, b_may_fail⟩
    have D_speaks : Df l.prog w K mg base "speaks" (2) _ d_speaks ["rows"] (spSome K Row.says) := ⟨ok_speaks A_speaks.fn Bq D_all_rows, A_speaks.m, A_speaks.fn.kp, b_speaks⟩
    have D_count_setters : Df l.prog w K mg base "count_setters" (3) _ d_count_setters ["body"] (spCount K) := ⟨ok_count A_count_setters.fn D_sets, A_count_setters.m, A_count_setters.fn.kp, b_count_setters⟩
    have MG : Dm l.prog w K mg base (He.ga K "Look") "goes_ahead" 3 _ _ ["self", "row"] (spGoes K (He.ga K "Look")) := ⟨ok_goes F_Look_goes_ahead T B D_may_fail D_reads, M_Look_goes_ahead, b_Look_goes_ahead⟩
    have MS : Dm l.prog w K mg base (He.ga K "Look") "send_ahead" 1 _ _ ["self", "row"] (spSend K (He.ga K "Look")) := ⟨ok_send F_Look_send_ahead T, M_Look_send_ahead, b_Look_send_ahead⟩
    have MK : Dm l.prog w K mg base (He.ga K "Look") "keep" 3 _ _ ["self", "row"] (spKeep K (He.ga K "Look")) := ⟨ok_keep F_Look_keep T D_reads D_may_fail D_speaks, M_Look_keep, b_Look_keep⟩
    have D_split_body : Df l.prog w K mg base "split_body" (6) _ d_split_body ["body"] (spSplit K) := ⟨ok_split A_split_body.fn T (own_ (by decide +kernel)) M_Look___init__ (ok_linit F_Look___init__ T D_count_setters) b_Look___init__ MG MS MK, A_split_body.m, A_split_body.fn.kp, b_split_body⟩
    have D_moved_block : Df l.prog w K mg base "moved_block" (7) _ d_moved_block ["word", "test", "body"] (S.spMvB K) := ⟨S.ok_mvB A_moved_block.fn B.len D_split_body, A_moved_block.m, A_moved_block.fn.kp, b_moved_block⟩
    have D_moved : Df l.prog w K mg base "moved" (57) _ d_moved ["rows"] (S.spMoved K 50) := ⟨S.all_moved A_moved.fn A_moved.m b_moved C D_moved_block 50, A_moved.m, A_moved.fn.kp, b_moved⟩
    have D__law_cell_at : Df l.prog w K mg base "_law_cell_at" (1) _ d__law_cell_at ["_law_script", "_law_k"] (spCell K) := ⟨ok_cell A__law_cell_at.fn B.len, A__law_cell_at.m, A__law_cell_at.fn.kp, b__law_cell_at⟩
    have D__law_mixed : Df l.prog w K mg base "_law_mixed" (1) _ d__law_mixed ["_law_cell", "_law_k"] (spMixed) := ⟨ok_mixed A__law_mixed.fn, A__law_mixed.m, A__law_mixed.fn.kp, b__law_mixed⟩
    have D__law_names : Df l.prog w K mg base "_law_names" (1) _ d__law_names ["_law_cell"] (spNames) := ⟨ok_names A__law_names.fn B.range, A__law_names.m, A__law_names.fn.kp, b__law_names⟩
    have D__law_value : Df l.prog w K mg base "_law_value" (1) _ d__law_value ["_law_kind", "_law_number", "_law_names_here"] (spValue K) := ⟨ok_value A__law_value.fn, A__law_value.m, A__law_value.fn.kp, b__law_value⟩
    have D__law_let : Df l.prog w K mg base "_law_let" (2) _ d__law_let ["_law_number", "_law_names_here"] (spLet K) := ⟨ok_let A__law_let.fn D__law_value, A__law_let.m, A__law_let.fn.kp, b__law_let⟩
    have D__law_closed : Df l.prog w K mg base "_law_closed" (1) _ d__law_closed ["_law_stack", "_law_tests"] (S.spClosed K) := ⟨S.ok_closed A__law_closed.fn, A__law_closed.m, A__law_closed.fn.kp, b__law_closed⟩
    have D__law_opened : Df l.prog w K mg base "_law_opened" (1) _ d__law_opened ["_law_number", "_law_names_here", "_law_stack", "_law_tests"] (S.spOpened K) := ⟨S.ok_opened A__law_opened.fn B.len (bn (by decide +kernel)) B.int, A__law_opened.m, A__law_opened.fn.kp, b__law_opened⟩
    have D__law_program : Df l.prog w K mg base "_law_program" (3) _ d__law_program ["_law_cells", "_law_names_here"] (S.spProgram K) := ⟨S.ok_program A__law_program.fn B.len B.range D__law_mixed D__law_opened D__law_closed D__law_value D__law_let, A__law_program.m, A__law_program.fn.kp, b__law_program⟩
    have D__law_nested : Df l.prog w K mg base "_law_nested" (2) _ d__law_nested ["_law_rows", "_law_count", "_law_names_here", "_law_cell"] (S.spNested K) := ⟨S.ok_nested A__law_nested.fn B.range D__law_mixed, A__law_nested.m, A__law_nested.fn.kp, b__law_nested⟩
    have D__law_whole : Df l.prog w K mg base "_law_whole" (1) _ d__law_whole ["_law_found"] (spWhole) := ⟨ok_whole A__law_whole.fn B, A__law_whole.m, A__law_whole.fn.kp, b__law_whole⟩
    have D__law_copied : Df l.prog w K mg base "_law_copied" (50) _ d__law_copied ["_law_rows"] (S.spCopied K 50) := ⟨S.all_copied A__law_copied.fn A__law_copied.m b__law_copied B.len 50, A__law_copied.m, A__law_copied.fn.kp, b__law_copied⟩
    have D__law_sound : Df l.prog w K mg base "_law_sound" (101) _ d__law_sound ["_law_rows"] (spSound K 50) := ⟨all_sound A__law_sound.fn A__law_sound.m b__law_sound A__law_sound_row.fn A__law_sound_row.m b__law_sound_row B D__law_whole 50, A__law_sound.m, A__law_sound.fn.kp, b__law_sound⟩
    have D__law_reads : Df l.prog w K mg base "_law_reads" (50) _ d__law_reads ["_law_rows", "_law_found"] (spGather K askK 50) := ⟨all_lreads A__law_reads.fn A__law_reads.m b__law_reads B.len 50, A__law_reads.m, A__law_reads.fn.kp, b__law_reads⟩
    have D__law_sets : Df l.prog w K mg base "_law_sets" (50) _ d__law_sets ["_law_rows", "_law_found"] (spGather K setK 50) := ⟨all_lsets A__law_sets.fn A__law_sets.m b__law_sets B.len 50, A__law_sets.m, A__law_sets.fn.kp, b__law_sets⟩
    have D__law_fails : Df l.prog w K mg base "_law_fails" (50) _ d__law_fails ["_law_rows"] (spFind K Row.fails 50) := ⟨all_lfails A__law_fails.fn A__law_fails.m b__law_fails B 50, A__law_fails.m, A__law_fails.fn.kp, b__law_fails⟩
    have D__law_speaks : Df l.prog w K mg base "_law_speaks" (50) _ d__law_speaks ["_law_rows"] (spFind K Row.says 50) := ⟨all_lspeaks A__law_speaks.fn A__law_speaks.m b__law_speaks B 50, A__law_speaks.m, A__law_speaks.fn.kp, b__law_speaks⟩
    have D__law_goes : Df l.prog w K mg base "_law_goes" (51) _ d__law_goes ["_law_row", "_law_staying", "_law_behind"] (spLGoes K 50) := ⟨ok_lgoes A__law_goes.fn B D__law_reads D__law_sets D__law_fails D__law_speaks, A__law_goes.m, A__law_goes.fn.kp, b__law_goes⟩
    have D__law_parted : Df l.prog w K mg base "_law_parted" (52) _ d__law_parted ["_law_body"] (spLParted K 50) := ⟨ok_lparted A__law_parted.fn B D__law_goes, A__law_parted.m, A__law_parted.fn.kp, b__law_parted⟩
    have D__law_left : Df l.prog w K mg base "_law_left" (97) _ d__law_left ["_law_rows"] (spLeft K 45) := ⟨all_left A__law_left.fn A__law_left.m b__law_left B D__law_parted 45 (by decide), A__law_left.m, A__law_left.fn.kp, b__law_left⟩
    have D__law_plain : Df l.prog w K mg base "_law_plain" (50) _ d__law_plain ["_law_rows", "_law_found"] (spPlain K 50) := ⟨all_plain A__law_plain.fn A__law_plain.m b__law_plain B.len 50, A__law_plain.m, A__law_plain.fn.kp, b__law_plain⟩
    exact ok_law A_law.fn B (bn (by decide +kernel)) D__law_cell_at D__law_names D__law_program D__law_nested D_moved D__law_sound D__law_copied D__law_left D__law_plain
end Lm
namespace Lm
open PySem PySem.Spec PyProof.Rows L2 GxR
def loose0 : List PySem.Str := ["BLOCKS", "all_rows", "asked_parts", "row_may_fail", "reads", "sets", "may_fail", "speaks", "count_setters", "Look", "split_body", "moved_block", "moved", "_law_cell_at"]
def loose1 : List PySem.Str := ["_law_mixed", "_law_names", "_law_value", "_law_let", "_law_closed", "_law_opened", "_law_program", "_law_whole", "_law_copied", "_law_sound_row", "_law_sound", "_law_reads", "_law_sets", "_law_fails"]
def loose2 : List PySem.Str := ["_law_speaks", "_law_goes", "_law_parted", "_law_nested", "_law_left", "_law_plain"]
/-- the names that the top binds besides the law -/
def loose : List PySem.Str := loose0 ++ loose1 ++ loose2
abbrev R : PySem.W.OpenRow := PySem.W.OpenLaw.row PySem.Challenge.rw_loopmover_k14_whole_nothing_is_left
abbrev hk : PySem.W.Hook := He.hookX 4 fa fn ts tf ex
def ob (s : PySem.W.SharedT) : He.AlX := He.obsX 4 fa fn ts tf ex (HandSHeadRun.getT s)
theorem ob_eq (s : PySem.W.SharedT) : ob s = hk.obs s.abs := He.obsX_eq (HandSHeadRun.getT_eq s)
set_option maxHeartbeats 0 in
theorem runF (w : World) : HandSHeadRun.RunEq R (PySem.W.view R.prog [37]) hk ob 3000 loose (w.withFollow "special-get-raises" false) := by
  intro os
  kernel_rfl
set_option maxHeartbeats 0 in
theorem runT (w : World) : HandSHeadRun.RunEq R (PySem.W.view R.prog [37]) hk ob 3000 loose (w.withFollow "special-get-raises" true) := by
  intro os
  kernel_rfl
theorem run (w : World) : HandSHeadRun.RunEq R (PySem.W.view R.prog [37]) hk ob 3000 loose w := PySem.W.byRow2 "special-get-raises" (P := fun w => HandSHeadRun.RunEq R (PySem.W.view R.prog [37]) hk ob 3000 loose w) runF runT w
end Lm
open PySem PySem.W PySem.Calls PyProof.Rows
set_option maxRecDepth 100000 in
set_option maxHeartbeats 0 in
theorem PySem.Challenge.cw_loopmover_k14_whole_nothing_is_left_holds : PySem.Challenge.rw_loopmover_k14_whole_nothing_is_left.Holds := by
  w_on; o_law
  refine HandSHeadRun.head_any (r := OpenLaw.row PySem.Challenge.rw_loopmover_k14_whole_nothing_is_left) (q := view (OpenLaw.row PySem.Challenge.rw_loopmover_k14_whole_nothing_is_left).prog [37]) (H := Lm.hk) (ob := Lm.ob) (M := 3000) (loose := Lm.loose) (d := HandSHeadRun.topDef (OpenLaw.row PySem.Challenge.rw_loopmover_k14_whole_nothing_is_left).prog 37) (kwd := []) Lm.ob_eq
    (by kernel_rfl) (fun s => by kernel_rfl) Lm.run (by kernel_rfl) (by kernel_rfl) (by kernel_rfl) (by rfl) (by first | assumption | decide +kernel) (by decide +kernel) ⟨rfl, rfl, rfl, rfl, rfl, by decide +kernel⟩ ?hw ?hc
  case hw => w_witness2
  case hc =>
    refine LamX.walk_ofTsE (l := PySem.Challenge.rw_loopmover_k14_whole_nothing_is_left) (n := 63) (k := 102) (x := "_law_script") (CX := fun _ => L2.CX0) rfl (by decide) (by kernel_rfl) ⟨rfl, by decide, by decide⟩ ?F (fun _ _ _ _ _ z => z)
    intro w mg fl h Y G hmg0
    obtain ⟨K, KX, c⟩ := Y
    have hmg : mg ("law" : PySem.Str) = some (.ref fl) := by
      have e : (HandSHeadRun.topDef (OpenLaw.row PySem.Challenge.rw_loopmover_k14_whole_nothing_is_left).prog 37).name = ("law" : PySem.Str) := by kernel_rfl
      rw [← e]
      exact hmg0
    exact ⟨K, KX, Lm.law_at KX G hmg c⟩
