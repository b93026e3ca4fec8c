import PyProof.Rows.All
import Wide.All
import OpenK.AllK
import Wide.FinOn
import HandS.Base
import HandS.Call
import HandS.List
import HandS.Words
import HandS.WordsList
import HandS.Text
import HandS.Comp
import HandS.IsInst
import HandS.AnyAll
import HandS.Set
import HandS.SetKeys
import HandS.Style
import HandS.Dict
import HandS.Walk
import HandS.WordsDict
import HandS.More
import HandS.Codes
import HandS.EndTab
import HandS.HeadWalk
import HandS.HeadHook4
import HandS.Head0
import HandS.Head1
import HandS.Head2
import HandS.HeadEnd
import PySem.Challenge.RW_loopmover_k05_blocks_run
set_option Elab.async false
set_option linter.all false
set_option maxRecDepth 100000
set_option maxHeartbeats 4000000
/-! Names, values and rows, in plain Lean. -/
namespace Lm
open PySem
/-- the words that no name is, by their codes -/
def bars : List (List Nat) := [[115, 97, 121], [119, 104, 101, 110], [108, 111, 111, 112], [97, 103, 97, 105, 110], [101, 110, 100]]
def sameL : List Nat → List Nat → Bool
  | [], [] => true
  | a :: r, b :: s => Nat.beq a b && sameL r s
  | _, _ => false
theorem sameL_iff : ∀ {l m : List Nat}, sameL l m = true ↔ l = m
  | [], [] => by simp [sameL]
  | [], _ :: _ => by simp [sameL]
  | _ :: _, [] => by simp [sameL]
  | a :: r, b :: s => by
    show (Nat.beq a b && sameL r s) = true ↔ _
    rw [Bool.and_eq_true, sameL_iff, Nat.beq_eq, List.cons.injEq]
def isBar (l : List Nat) : Bool := bars.any (sameL l)
def lettersB : List Nat → Bool
  | [] => true
  | c :: r => Nat.ble 97 c && (Nat.ble c 122 && lettersB r)
/-- codes that make a name -/
def GoodL (l : List Nat) : Bool := Nat.ble 1 l.length && Nat.ble l.length 6 && lettersB l && !isBar l
def Good (s : Str) : Prop := GoodL s.cps.toList = true
def ltr (i : Nat) : Nat := 97 + i % 26
/-- six letters, five apart -/
def tailN (c : Nat) : List Nat := [ltr (c + 1), ltr (c + 6), ltr (c + 11), ltr (c + 16), ltr (c + 21), ltr (c + 26)]
/-- one letter in the place of one of the six -/
def w1 (c k place size : Nat) : List Nat := (tailN c).take place ++ ltr (c + 5 * k) :: ((tailN c).drop (place + 1)).take (size - (place + 1))
def w2 (c k t : Nat) : List Nat := ltr (c + 7 * (k / 4)) :: (tailN c).take (k % 4 + t)
def w0 (a u m : Nat) : List Nat := ltr a :: [ltr u, ltr (u + 3), ltr (u + 6), ltr (u + 9), ltr (u + 12)].take m
def below (n : Nat) (f : Nat → Bool) : Bool := (List.range n).all f
theorem below_at {n : Nat} {f : Nat → Bool} (h : below n f = true) {i : Nat} (hi : i < n) : f i = true :=
  List.all_eq_true.mp h i (List.mem_range.mpr hi)
theorem w1_all : below 26 (fun c => below 16 fun k => below 7 fun size => below size fun place => GoodL (w1 c k place size)) = true := by decide +kernel
theorem w2_all : below 26 (fun c => below 16 fun k => below 3 fun t => GoodL (w2 c k t)) = true := by decide +kernel
theorem w0_all : below 26 (fun a => below 26 fun u => below 6 fun m => GoodL (w0 a u m)) = true := by decide +kernel
theorem w1_ok {c k place size : Nat} (h1 : c < 26) (h2 : k < 16) (h3 : size < 7) (h4 : place < size) : GoodL (w1 c k place size) = true :=
  below_at (below_at (below_at (below_at w1_all h1) h2) h3) h4
theorem w2_ok {c k t : Nat} (h1 : c < 26) (h2 : k < 16) (h3 : t < 3) : GoodL (w2 c k t) = true := below_at (below_at (below_at w2_all h1) h2) h3
theorem w0_ok {a u m : Nat} (h1 : a < 26) (h2 : u < 26) (h3 : m < 6) : GoodL (w0 a u m) = true := below_at (below_at (below_at w0_all h1) h2) h3
end Lm
/-! Rows as they stand in the heap. -/
namespace Lm
open PySem L2
/-- a def that lets nothing out, as its callers need it -/
structure Df (P : Program) (w : World) (K : PySem.W.Frag) (mg : Str → Option Value) (base : Heap) (x : Str) (k : Nat) (f : Addr) (fd : FuncData) (ps : List Str) (sp : Sp) : Prop where
  ok : FnOk P w K mg base CX0 k f fd ps sp
  m : mg x = some (.ref f)
  kp : PySem.W.keepIn K (.ref f) = true
  b : Binds K fd ps []
theorem pe_df {X : Cx} {x : Str} {k : Nat} {f : Addr} {fd : FuncData} {ps : List Str} {sp : Sp} {e : Expr} {es : List Expr} {p pos : Pos} {t : TA} (D : Df X.prog X.w X.K X.mg X.base x k f fd ps sp) (hr : Room k X.A) (ha : PA X (e :: es) t) (hg : Gl X x := by rfl)
    (hdb : (x == ("__debug__" : Str)) = false := by decide) (he : starEach (e :: es) X.env = (false, eval e X.env) :: starEach es X.env := by rfl) (hpl : (backTo pos (starEach es X.env)).any (·.1) = false := by rfl) :
    PE X (.Call (.Name x p) (e :: es) [] pos) (tCall sp [] E0 t) := pe_call D.ok hr hg D.m D.kp D.b .nil pass0 ha hdb he hpl
/-- no test in a comprehension -/
theorem kept {A B : Prop} (h : A) : (fun b : Bool => if b = true then A else B) true := by
  show if true = true then A else B
  rw [if_pos rfl]
  exact h
/-- a value of a row: a name or a number -/
inductive Vl where
  | nm (s : Str)
  | nu (i : Int)
def Vl.v : Vl → V
  | .nm s => .str s
  | .nu i => .int i
def Vl.ok (ss : List Str) : Vl → Prop
  | .nm s => s ∈ ss
  | .nu i => 0 ≤ i ∧ i < 1000000
/-- a row; a block's test is any value -/
inductive Row where
  | lt (to sg : Str) (a b : Vl)
  | sy (a : Vl)
  | bk (kd : Str) (ts : V) (rs : List Row)
def signs : List Str := ["+", "-", "*", "<", "/"]
def kinds : List Str := ["when", "loop", "again"]
mutual
/-- the rows lean on the names ss alone, no list in them is long -/
def Row.ok (ss : List Str) : Row → Prop
  | .lt to sg a b => to ∈ ss ∧ sg ∈ signs ∧ a.ok ss ∧ b.ok ss
  | .sy a => a.ok ss
  | .bk kd ts rs => kd ∈ kinds ∧ (∃ s, ts = .str s ∧ s ∈ ss) ∧ rs.length ≤ 2000 ∧ oks ss rs
def oks (ss : List Str) : List Row → Prop
  | [] => True
  | r :: rs => r.ok ss ∧ oks ss rs
end
mutual
def Row.dep : Row → Nat
  | .lt _ _ _ _ => 0
  | .sy _ => 0
  | .bk _ _ rs => deps rs + 1
def deps : List Row → Nat
  | [] => 0
  | r :: rs => max r.dep (deps rs)
end
mutual
/-- how many rows -/
def Row.tot : Row → Nat
  | .lt _ _ _ _ => 1
  | .sy _ => 1
  | .bk _ _ rs => tots rs + 1
def tots : List Row → Nat
  | [] => 0
  | r :: rs => r.tot + tots rs
end
theorem Row.tot_pos : ∀ r : Row, 1 ≤ r.tot
  | .lt _ _ _ _ => Nat.le_refl 1
  | .sy _ => Nat.le_refl 1
  | .bk _ _ rs => by
    show 1 ≤ tots rs + 1
    omega
theorem tots_app : ∀ {rs qs : List Row}, tots (rs ++ qs) = tots rs + tots qs
  | [], qs => (Nat.zero_add _).symm
  | r :: rs, qs => by
    show r.tot + tots (rs ++ qs) = (r.tot + tots rs) + tots qs
    rw [tots_app, Nat.add_assoc]
theorem len_tots : ∀ rs : List Row, rs.length ≤ tots rs
  | [] => Nat.le_refl 0
  | r :: rs => by
    have h1 := r.tot_pos
    have h2 := len_tots rs
    show rs.length + 1 ≤ r.tot + tots rs
    omega
mutual
/-- the row stands at v -/
def RowAt (K : PySem.W.Frag) (H : Hp) : Row → V → Prop
  | .lt to sg a b, v => ∃ p, v = .ref p ∧ SqT K H p [.str "let", .str to, .str sg, a.v, b.v]
  | .sy a, v => ∃ p, v = .ref p ∧ SqT K H p [.str "say", a.v]
  | .bk kd ts rs, v => ∃ p l vs, v = .ref p ∧ SqT K H p [.str kd, ts, .ref l] ∧ SqL K H l vs ∧ AllAt K H rs vs
def AllAt (K : PySem.W.Frag) (H : Hp) : List Row → List V → Prop
  | [], vs => vs = []
  | r :: rs, vs => ∃ v ws, vs = v :: ws ∧ RowAt K H r v ∧ AllAt K H rs ws
end
/-- the rows stand in the list at l -/
def RowsAt (K : PySem.W.Frag) (H : Hp) (l : Addr) (rs : List Row) : Prop := ∃ vs, SqL K H l vs ∧ AllAt K H rs vs
/-- the same, in a list of the heap's own -/
def RowsL (K : PySem.W.Frag) (H : Hp) (l : Addr) (rs : List Row) : Prop := ∃ vs, H l = some (.lst vs) ∧ AllAt K H rs vs
theorem RowsL.rows {K : PySem.W.Frag} {H : Hp} {l : Addr} {rs : List Row} (h : RowsL K H l rs) : RowsAt K H l rs := let ⟨vs, h1, h2⟩ := h; ⟨vs, SqL.of h1, h2⟩
/-- what stood stands; tables may have grown -/
structure Kp (H H' : Hp) : Prop where
  at_ : ∀ b o, H b = some o → (∀ ps, o ≠ .tbl ps) → H' b = some o
  tb : ∀ b ps, H b = some (.tbl ps) → ∃ qs, H' b = some (.tbl qs)
theorem Same.kp {H H' : Hp} (h : Same H H') : Kp H H' := ⟨fun b o e _ => h b o e, fun b ps e => ⟨ps, h _ _ e⟩⟩
theorem Kp.refl (H : Hp) : Kp H H := Same.kp (Same.refl H)
theorem Kp.trans {H H1 H2 : Hp} (a : Kp H H1) (b : Kp H1 H2) : Kp H H2 := ⟨fun c o e n => b.at_ c o (a.at_ c o e n) n, fun c ps e => let ⟨qs, q⟩ := a.tb c ps e; b.tb c qs q⟩
theorem Kp.free {H H' : Hp} (k : Kp H H') {p : Addr} (h : H' p = none) : H p = none := by
  cases q : H p with
  | none => rfl
  | some o =>
    cases o with
    | tbl ps =>
      obtain ⟨qs, e⟩ := k.tb p ps q
      rw [h] at e
      cases e
    | _ =>
      have e := k.at_ p _ q (fun ps z => by cases z)
      rw [h] at e
      cases e
theorem Kp.put {H H' : Hp} (k : Kp H H') {p : Addr} (h : H p = none) (o : HO) : Kp H (upd H' p o) := ⟨fun b u e n => by rw [upd_ne (ne_of_none e h)]; exact k.at_ b u e n, fun b ps e => by rw [upd_ne (ne_of_none e h)]; exact k.tb b ps e⟩
theorem same_new {H : Hp} {p : Addr} (h : H p = none) (o : HO) : Same H (upd H p o) := fun b u q => by rw [upd_ne (ne_of_none q h)]; exact q
theorem Kp.sqL {K : PySem.W.Frag} {H H' : Hp} {a : Addr} {xs : List V} (e : Kp H H') (h : SqL K H a xs) : SqL K H' a xs := by
  rcases h with (h | ⟨o, h⟩) | h
  · exact .inl (.inl (e.at_ _ _ h (fun _ q => by cases q)))
  · exact .inl (.inr ⟨o, e.at_ _ _ h (fun _ q => by cases q)⟩)
  · exact .inr h
theorem Kp.sqT {K : PySem.W.Frag} {H H' : Hp} {a : Addr} {xs : List V} (e : Kp H H') (h : SqT K H a xs) : SqT K H' a xs := by
  rcases h with (h | ⟨o, h⟩) | h
  · exact .inl (.inl (e.at_ _ _ h (fun _ q => by cases q)))
  · exact .inl (.inr ⟨o, e.at_ _ _ h (fun _ q => by cases q)⟩)
  · exact .inr h
mutual
theorem RowAt.mono {K : PySem.W.Frag} {H H' : Hp} (e : Kp H H') : ∀ (r : Row) (v : V), RowAt K H r v → RowAt K H' r v
  | .lt _ _ _ _, _, ⟨p, h1, h2⟩ => ⟨p, h1, e.sqT h2⟩
  | .sy _, _, ⟨p, h1, h2⟩ => ⟨p, h1, e.sqT h2⟩
  | .bk _ _ rs, _, ⟨p, l, vs, h1, h2, h3, h4⟩ => ⟨p, l, vs, h1, e.sqT h2, e.sqL h3, AllAt.mono e rs vs h4⟩
theorem AllAt.mono {K : PySem.W.Frag} {H H' : Hp} (e : Kp H H') : ∀ (rs : List Row) (vs : List V), AllAt K H rs vs → AllAt K H' rs vs
  | [], _, h => h
  | r :: rs, _, ⟨v, ws, h1, h2, h3⟩ => ⟨v, ws, h1, RowAt.mono e r v h2, AllAt.mono e rs ws h3⟩
end
theorem RowsAt.mono {K : PySem.W.Frag} {H H' : Hp} (e : Kp H H') {l : Addr} {rs : List Row} (h : RowsAt K H l rs) : RowsAt K H' l rs :=
  let ⟨vs, h1, h2⟩ := h; ⟨vs, e.sqL h1, AllAt.mono e rs vs h2⟩
theorem RowsL.mono {K : PySem.W.Frag} {H H' : Hp} (e : Kp H H') {l : Addr} {rs : List Row} (h : RowsL K H l rs) : RowsL K H' l rs :=
  let ⟨vs, h1, h2⟩ := h; ⟨vs, e.at_ _ _ h1 (fun _ q => by cases q), AllAt.mono e rs vs h2⟩
theorem AllAt.len {K : PySem.W.Frag} {H : Hp} : ∀ {rs : List Row} {vs : List V}, AllAt K H rs vs → vs.length = rs.length
  | [], _, h => by
    have e : _ = [] := h
    rw [e]
    rfl
  | r :: rs, _, ⟨v, ws, h1, _, h3⟩ => by rw [h1, List.length_cons, List.length_cons, AllAt.len h3]
theorem AllAt.app {K : PySem.W.Frag} {H : Hp} : ∀ {rs qs : List Row} {vs ws : List V}, AllAt K H rs vs → AllAt K H qs ws → AllAt K H (rs ++ qs) (vs ++ ws)
  | [], _, _, _, h, q => by
    have e : _ = [] := h
    rw [e]
    exact q
  | r :: rs, _, _, _, ⟨v, us, h1, h2, h3⟩, q => by
    rw [h1]
    exact ⟨v, us ++ _, rfl, h2, AllAt.app h3 q⟩
theorem AllAt.one {K : PySem.W.Frag} {H : Hp} {r : Row} {v : V} (h : RowAt K H r v) : AllAt K H [r] [v] := ⟨v, [], rfl, h, rfl⟩
theorem AllAt.at {K : PySem.W.Frag} {H : Hp} : ∀ {rs : List Row} {vs : List V} {i : Nat} {v : V}, AllAt K H rs vs → vs[i]? = some v → ∃ r, rs[i]? = some r ∧ RowAt K H r v
  | [], _, i, v, h, e => by
    have e' : _ = [] := h
    rw [e'] at e
    cases e
  | r :: rs, _, 0, v, ⟨v', ws, h1, h2, h3⟩, e => by
    rw [h1] at e
    cases e
    exact ⟨r, rfl, h2⟩
  | r :: rs, _, i + 1, v, ⟨v', ws, h1, h2, h3⟩, e => by
    rw [h1] at e
    exact AllAt.at (rs := rs) h3 (by simpa using e)
theorem oks_app {ss : List Str} : ∀ {rs qs : List Row}, oks ss rs → oks ss qs → oks ss (rs ++ qs)
  | [], _, _, q => q
  | _ :: _, _, ⟨h1, h2⟩, q => ⟨h1, oks_app h2 q⟩
theorem oks_at {ss : List Str} : ∀ {rs : List Row} {i : Nat} {r : Row}, oks ss rs → rs[i]? = some r → r.ok ss
  | [], _, _, _, e => by cases e
  | _ :: _, 0, _, h, e => by
    cases e
    exact h.1
  | _ :: _, _ + 1, _, h, e => oks_at h.2 e
theorem deps_app : ∀ {rs qs : List Row}, deps (rs ++ qs) = max (deps rs) (deps qs)
  | [], qs => by
    show deps qs = max 0 (deps qs)
    omega
  | r :: rs, qs => by
    show max r.dep (deps (rs ++ qs)) = max (max r.dep (deps rs)) (deps qs)
    rw [deps_app]
    omega
theorem dep_at : ∀ {rs : List Row} {i : Nat} {r : Row}, rs[i]? = some r → r.dep ≤ deps rs
  | [], _, _, e => by cases e
  | r :: rs, 0, _, e => by
    cases e
    exact Nat.le_max_left _ _
  | r :: rs, _ + 1, _, e => Nat.le_trans (dep_at (rs := rs) e) (Nat.le_max_right _ _)
/-- built-in names that the top leaves alone -/
structure Bn (mg : Str → Option Value) : Prop where
  len : mg "len" = none
  range : mg "range" = none
  isinstance : mg "isinstance" = none
  list : mg "list" = none
  tuple : mg "tuple" = none
  str : mg "str" = none
  int : mg "int" = none
  bool : mg "bool" = none
  all : mg "all" = none
end Lm
/-! The sixteen names. -/
namespace Lm
open PySem L2
def abc : Str := "abcdefghijklmnopqrstuvwxyz"
theorem abc_all : below 26 (fun n => abc.cps.toList[n]? == some (97 + n)) = true := by decide +kernel
theorem abc_at {z : Int} (h0 : 0 ≤ z) (h1 : z < 26) : atI abc.cps.toList z = some (97 + z.toNat) :=
  at_nat' h0 (by simpa using below_at abc_all (i := z.toNat) (by omega))
where
  at_nat' {xs : List Nat} {z : Int} {v : Nat} (h0 : 0 ≤ z) (h : xs[z.toNat]? = some v) : atI xs z = some v := by
    have q : atI xs ((z.toNat : Nat) : Int) = some v := atI_nat h
    rw [show ((z.toNat : Nat) : Int) = z by omega] at q
    exact q
theorem yes {σ : St} {H : Hp} {Q : Bool → Hp → Prop} (h : Q true H) : tYes σ H Q := h
/-- one letter as a text -/
def one (n : Nat) : Str := ⟨#[n]⟩
theorem abc_mod (z : Int) : atI abc.cps.toList (z % 26) = some (97 + (z % 26).toNat) := abc_at (Int.emod_nonneg _ (by decide)) (Int.emod_lt_of_pos _ (by decide))
theorem ltr_int (c : Int) (m : Nat) : 97 + ((c + (m : Int)) % 26).toNat = ltr ((c % 26).toNat + m) := by
  unfold ltr
  omega
theorem app_toList (x y : Str) : (x ++ y).cps.toList = x.cps.toList ++ y.cps.toList := by
  show (x.cps ++ y.cps).toList = _
  simp
theorem len_toList (x : Str) : x.length = x.cps.toList.length := by simp [Str.length]
theorem one_toList (n : Nat) : (one n).cps.toList = [n] := rfl
theorem cut_head (z : Str) (k : Nat) (h : k ≤ z.length) : (cutS z none (some (k : Int))).cps.toList = z.cps.toList.take k := by
  unfold cutS
  rw [HT.sIx_nat]
  show ((z.cps.toList.drop 0).take (min k z.length - 0)).toArray.toList = _
  rw [List.drop_zero, Nat.sub_zero, Nat.min_eq_left h]
theorem cut_mid (z : Str) (j k : Nat) (h : j ≤ z.length) (h2 : k ≤ z.length) : (cutS z (some (j : Int)) (some (k : Int))).cps.toList = (z.cps.toList.drop j).take (k - j) := by
  unfold cutS
  rw [HT.sIx_nat, HT.sIx_nat, Nat.min_eq_left h, Nat.min_eq_left h2]
theorem cut_len (z : Str) (lo hi : Option Int) : (cutS z lo hi).length ≤ z.length := by
  rw [len_toList, len_toList z]
  unfold cutS
  simp only [List.toList_toArray, List.length_take, List.length_drop]
  omega
theorem good_len {s : Str} (h : Good s) : 1 ≤ s.length ∧ s.length ≤ 6 := by
  unfold Good GoodL at h
  simp only [Bool.and_eq_true] at h
  obtain ⟨⟨⟨h1, h2⟩, _⟩, _⟩ := h
  rw [len_toList]
  exact ⟨Nat.le_of_ble_eq_true h1, Nat.le_of_ble_eq_true h2⟩
theorem app_len (x y : Str) : (x ++ y).length = x.length + y.length := by
  rw [len_toList, app_toList, List.length_append, ← len_toList, ← len_toList]
/-- the six letters as a text -/
def tailS (c : Nat) : Str := ⟨#[ltr (c + 1), ltr (c + 6), ltr (c + 11), ltr (c + 16), ltr (c + 21), ltr (c + 26)]⟩
theorem tailS_list (c : Nat) : (tailS c).cps.toList = tailN c := rfl
theorem tailS_len (c : Nat) : (tailS c).length = 6 := rfl
/-- the first i of the six letters, one a text -/
def tl (c : Nat) (i : Nat) : List Str := [one (ltr (c + 1)), one (ltr (c + 6)), one (ltr (c + 11)), one (ltr (c + 16)), one (ltr (c + 21)), one (ltr (c + 26))].take i
theorem tl_more (c : Nat) : ∀ i : Nat, i < 6 → tl c (i + 1) = tl c i ++ [one (ltr (c + (5 * i + 1)))]
  | 0, _ => rfl
  | 1, _ => rfl
  | 2, _ => rfl
  | 3, _ => rfl
  | 4, _ => rfl
  | 5, _ => rfl
  | _ + 6, h => absurd h (by omega)
theorem tl_len (c : Nat) {i : Nat} (h : i ≤ 6) : (tl c i).length = i := by
  unfold tl
  rw [List.length_take]
  show min i 6 = i
  omega
theorem nul_str : ("" : Str) = Str.empty := by decide +kernel
theorem tl_join (c : Nat) : Txt.join "" (tl c 6) = tailS c := by
  rw [nul_str]
  show Builtin.Str.glued Str.empty (tl c 6) = tailS c
  unfold tl tailS one Builtin.Str.glued Str.empty
  simp
theorem tl_sum (c : Nat) : ((tl c 6).map (·.length)).sum + (tl c 6).length * Str.length ("" : Str) ≤ 16777216 := by
  rw [nul_str]
  show 6 + 6 * 0 ≤ 16777216
  decide
theorem w0_more (a u : Nat) : ∀ i : Nat, i < 5 → w0 a u (i + 1) = w0 a u i ++ [ltr (u + 3 * i)]
  | 0, _ => rfl
  | 1, _ => rfl
  | 2, _ => rfl
  | 3, _ => rfl
  | 4, _ => rfl
  | _ + 5, h => absurd h (by omega)
theorem w0_len (a u : Nat) {i : Nat} (h : i < 6) : (w0 a u i).length = i + 1 := by
  unfold w0
  rw [List.length_cons, List.length_take]
  show min i 5 + 1 = i + 1
  omega
/-- the words that may stand for a name -/
def tens : List Str := ["whens", "essay", "reloop", "let", "ends", "sayer", "loops", "send", "agains", "awhen"]
theorem tens_good : ∀ s ∈ tens, Good s := by
  have h : tens.all (fun s => GoodL s.cps.toList) = true := by decide +kernel
  exact fun s hs => List.all_eq_true.mp h s hs
/-- case by case, the word of one turn -/
theorem word1 {c : Nat} (hc : c < 26) {k place size : Nat} (hk : k < 16) (hs : size < 7) (hp : place < size) :
    Good (cutS (tailS c) none (some (place : Int)) ++ one (ltr (c + 5 * k)) ++ cutS (tailS c) (some ((place : Int) + 1)) (some (size : Int))) := by
  have e : ((place : Int) + 1) = ((place + 1 : Nat) : Int) := by omega
  unfold Good
  rw [app_toList, app_toList, cut_head _ _ (by rw [tailS_len]; omega), e, cut_mid _ _ _ (by rw [tailS_len]; omega) (by rw [tailS_len]; omega), one_toList, tailS_list, List.append_assoc]
  exact w1_ok hc hk hs hp
theorem word2 {c : Nat} (hc : c < 26) {k t : Nat} (hk : k < 16) (ht : t < 3) : Good (one (ltr (c + 7 * (k / 4))) ++ cutS (tailS c) none (some ((k % 4 + t : Nat) : Int))) := by
  unfold Good
  rw [app_toList, cut_head _ _ (by rw [tailS_len]; omega), one_toList, tailS_list]
  exact w2_ok hc hk ht
end Lm
/-! A program while it is built: lists that are open, one in another, on a stack. -/
namespace Lm
open PySem L2
/-- the open lists around `child`, from within outwards; Hc: what is closed -/
def Outs (K : PySem.W.Frag) (ss : List Str) (m : Nat) (Hc H : Hp) : Addr → List (Addr × List Row) → Prop
  | _, [] => True
  | child, q :: o => (∃ (vs : List V) (t : Addr) (kd ts : Str), H q.1 = some (.lst (vs ++ [.ref t])) ∧ AllAt K Hc q.2 vs ∧ Hc t = some (.tup [.str kd, .str ts, .ref child]) ∧ kd ∈ kinds ∧ ts ∈ ss) ∧
    oks ss q.2 ∧ q.2.length ≤ m ∧ deps q.2 + o.length ≤ 3 ∧ Outs K ss m Hc H q.1 o
theorem Outs.mono {K : PySem.W.Frag} {ss : List Str} {m m' : Nat} {Hc Hc' H H' : Hp} (hm : m ≤ m') (hs : Same Hc Hc') : ∀ {o : List (Addr × List Row)} {c : Addr}, (∀ b ∈ o.map (·.1), H' b = H b) → Outs K ss m Hc H c o → Outs K ss m' Hc' H' c o
  | [], _, _, _ => True.intro
  | q :: o, c, hb, ⟨⟨vs, t, kd, ts, h1, h2, h3, h4, h5⟩, h6, h7, h8, h9⟩ =>
    ⟨⟨vs, t, kd, ts, by rw [hb q.1 (by simp)]; exact h1, AllAt.mono (Same.kp hs) _ _ h2, hs _ _ h3, h4, h5⟩, h6, Nat.le_trans h7 hm, h8, Outs.mono hm hs (fun b h => hb b (by simp only [List.map_cons, List.mem_cons]; exact .inr h)) h9⟩
/-- how many rows stand in the open lists, their blocks with them -/
def outs : List (Addr × List Row) → Nat
  | [] => 0
  | q :: o => tots q.2 + 1 + outs o
/-- the open lists' addresses -/
abbrev opens (l : Addr) (o : List (Addr × List Row)) : List Addr := l :: o.map (·.1)
structure Prog (K : PySem.W.Frag) (ss : List Str) (m : Nat) (H0 Hc H : Hp) (S T l : Addr) (rs : List Row) (o : List (Addr × List Row)) (ts : List Str) : Prop where
  old : Same H0 Hc
  cl : Same Hc H
  inn : ∃ vs, H l = some (.lst vs) ∧ AllAt K Hc rs vs
  out : Outs K ss m Hc H l o
  no : ∀ b ∈ S :: T :: opens l o, Hc b = none
  nd : (S :: T :: opens l o).Nodup
  ok : oks ss rs
  dep : deps rs + o.length ≤ 3
  wid : rs.length ≤ m
  num : tots rs + outs o ≤ m
  st : H S = some (.lst ((opens l o).reverse.map V.ref))
  te : H T = some (.lst (ts.map V.str))
  tok : ∀ t ∈ ts, t = "" ∨ t ∈ ss
section
variable {K : PySem.W.Frag} {ss : List Str} {m : Nat} {H0 Hc H : Hp} {S T l : Addr} {rs : List Row} {o : List (Addr × List Row)} {ts : List Str}
theorem Outs.some : ∀ {o : List (Addr × List Row)} {c : Addr}, Outs K ss m Hc H c o → ∀ b ∈ o.map (·.1), ∃ xs, H b = some (.lst xs)
  | [], _, _, b, hb => by cases hb
  | q :: o, c, ⟨⟨vs, t, kd, ts, h1, _⟩, _, _, _, h9⟩, b, hb => by
    rcases List.mem_cons.mp (by simpa using hb : b ∈ q.1 :: o.map (·.1)) with e | e
    · rw [e]
      exact ⟨_, h1⟩
    · exact Outs.some h9 b e
theorem Prog.there (h : Prog K ss m H0 Hc H S T l rs o ts) : ∀ b ∈ S :: T :: opens l o, ∃ xs, H b = some (.lst xs) := fun b hb => by
  rcases List.mem_cons.mp hb with e | hb
  · rw [e]
    exact ⟨_, h.st⟩
  rcases List.mem_cons.mp hb with e | hb
  · rw [e]
    exact ⟨_, h.te⟩
  rcases List.mem_cons.mp hb with e | hb
  · rw [e]
    obtain ⟨vs, h1, _⟩ := h.inn
    exact ⟨_, h1⟩
  · exact Outs.some h.out b hb
theorem Prog.apart (h : Prog K ss m H0 Hc H S T l rs o ts) {p : Addr} (hp : H p = none) : ∀ b ∈ S :: T :: opens l o, b ≠ p := fun b hb => by
  obtain ⟨xs, e⟩ := h.there b hb
  exact ne_of_none e hp
theorem Prog.same (h : Prog K ss m H0 Hc H S T l rs o ts) : Same H0 H := h.old.trans h.cl
theorem Prog.more (h : Prog K ss m H0 Hc H S T l rs o ts) {m' : Nat} (hm : m ≤ m') : Prog K ss m' H0 Hc H S T l rs o ts :=
  { h with out := Outs.mono hm (Same.refl _) (fun _ _ => rfl) h.out, wid := Nat.le_trans h.wid hm, num := Nat.le_trans h.num hm }
/-- a new object that will not change -/
theorem Prog.alloc (h : Prog K ss m H0 Hc H S T l rs o ts) {p : Addr} (hp : H p = none) (u : HO) : Prog K ss m H0 (upd Hc p u) (upd H p u) S T l rs o ts := by
  have hcp : Hc p = none := h.cl.free hp
  have ap := h.apart hp
  have s1 : Same Hc (upd Hc p u) := same_new hcp u
  have ne : ∀ b ∈ S :: T :: opens l o, upd H p u b = H b := fun b hb => upd_ne (ap b hb)
  obtain ⟨vs, e1, e2⟩ := h.inn
  refine ⟨h.old.trans s1, fun b x hb => ?_, ⟨vs, ?_, AllAt.mono (Same.kp s1) _ _ e2⟩, Outs.mono (Nat.le_refl _) s1 (fun b hb => ne b ?_) h.out, fun b hb => ?_, h.nd, h.ok, h.dep, h.wid, h.num, ?_, ?_, h.tok⟩
  · by_cases e : b = p
    · rw [e, upd_same] at hb
      rw [e, upd_same]
      exact hb
    · rw [upd_ne e] at hb
      rw [upd_ne e]
      exact h.cl b x hb
  · rw [ne l (by simp)]
    exact e1
  · exact List.mem_cons_of_mem _ (List.mem_cons_of_mem _ (List.mem_cons_of_mem _ hb))
  · rw [upd_ne (ap b hb)]
    exact h.no b hb
  · rw [ne S (by simp)]
    exact h.st
  · rw [ne T (by simp)]
    exact h.te
theorem Prog.nST (h : Prog K ss m H0 Hc H S T l rs o ts) : S ≠ T ∧ S ≠ l ∧ T ≠ l ∧ (∀ b ∈ o.map (·.1), b ≠ S ∧ b ≠ T ∧ b ≠ l) := by
  have h1 := h.nd
  simp only [opens, List.nodup_cons, List.mem_cons, not_or] at h1
  obtain ⟨⟨a1, a2, a3⟩, ⟨b1, b2⟩, c1, _⟩ := h1
  exact ⟨a1, a2, b1, fun b hb => ⟨fun e => a3 (e ▸ hb), fun e => b2 (e ▸ hb), fun e => c1 (e ▸ hb)⟩⟩
/-- what is written to an open list, to the stack or to the tests leaves what is closed -/
theorem Prog.cl_upd (h : Prog K ss m H0 Hc H S T l rs o ts) {b : Addr} (hb : b ∈ S :: T :: opens l o) (u : HO) : Same Hc (upd H b u) := fun c x hc => by
  rw [upd_ne (ne_of_none hc (h.no b hb))]
  exact h.cl c x hc
/-- a row behind those of the innermost list -/
theorem Prog.app (h : Prog K ss m H0 Hc H S T l rs o ts) {r : Row} {v : V} {vs : List V} (hl : H l = some (.lst vs)) (hr : RowAt K Hc r v) (hok : r.ok ss) (hd : r.dep + o.length ≤ 3) (h1 : r.tot = 1) :
    Prog K ss (m + 1) H0 Hc (upd H l (.lst (vs ++ [v]))) S T l (rs ++ [r]) o ts := by
  obtain ⟨vs', e1, e2⟩ := h.inn
  have ev : vs' = vs := by
    have z := e1.symm.trans hl
    cases z
    rfl
  subst ev
  obtain ⟨n1, n2, n3, n4⟩ := h.nST
  refine ⟨h.old, h.cl_upd (by simp) _, ⟨_, upd_same, e2.app (AllAt.one hr)⟩, Outs.mono (Nat.le_succ _) (Same.refl _) (fun b hb => upd_ne (n4 b hb).2.2) h.out, h.no, h.nd, oks_app h.ok ⟨hok, True.intro⟩, ?_, ?_, ?_, ?_, ?_, h.tok⟩
  · rw [deps_app]
    have := h.dep
    show max (deps rs) (max r.dep 0) + o.length ≤ 3
    omega
  · rw [List.length_append]
    exact Nat.succ_le_succ h.wid
  · have := h.num
    rw [tots_app]
    show tots rs + (r.tot + 0) + outs o ≤ m + 1
    omega
  · rw [upd_ne n2]
    exact h.st
  · rw [upd_ne n3]
    exact h.te
theorem Prog.tests (h : Prog K ss m H0 Hc H S T l rs o ts) {ts' : List Str} (ht : ∀ t ∈ ts', t = "" ∨ t ∈ ss) : Prog K ss m H0 Hc (upd H T (.lst (ts'.map V.str))) S T l rs o ts' := by
  obtain ⟨vs, e1, e2⟩ := h.inn
  obtain ⟨n1, n2, n3, n4⟩ := h.nST
  exact ⟨h.old, h.cl_upd (by simp) _, ⟨vs, by rw [upd_ne n3.symm]; exact e1, e2⟩, Outs.mono (Nat.le_refl _) (Same.refl _) (fun b hb => upd_ne (n4 b hb).2.1) h.out, h.no, h.nd, h.ok, h.dep, h.wid, h.num, by rw [upd_ne n1]; exact h.st, upd_same, ht⟩
/-- a block opens: q its list, p its row -/
theorem Prog.push (h : Prog K ss m H0 Hc H S T l rs o ts) {p q : Addr} {kd te : Str} {vs : List V} (hl : H l = some (.lst vs)) (hq : H q = none) (hp : (upd H q (.lst [])) p = none) (hk : kd ∈ kinds) (hte : te ∈ ss) (h3 : o.length < 3) :
    Prog K ss (m + 1) H0 (upd Hc p (.tup [.str kd, .str te, .ref q])) (upd (upd (upd (upd H q (.lst [])) p (.tup [.str kd, .str te, .ref q])) l (.lst (vs ++ [.ref p]))) S (.lst ((opens l o).reverse.map V.ref ++ [.ref q]))) S T q [] ((l, rs) :: o) ts := by
  obtain ⟨vs', e1, e2⟩ := h.inn
  have ev : vs' = vs := by
    have z := e1.symm.trans hl
    cases z
    rfl
  subst ev
  obtain ⟨n1, n2, n3, n4⟩ := h.nST
  have npq : p ≠ q := fun e => by rw [e, upd_same] at hp; cases hp
  have hp0 : H p = none := by rw [upd_ne npq] at hp; exact hp
  have aq := h.apart hq
  have ap := h.apart hp0
  have hcp : Hc p = none := h.cl.free hp0
  have hcq : Hc q = none := h.cl.free hq
  have s1 : Same Hc (upd Hc p (.tup [.str kd, .str te, .ref q])) := same_new hcp _
  have mS : S ∈ S :: T :: opens l o := by simp
  have mT : T ∈ S :: T :: opens l o := by simp
  have ml : l ∈ S :: T :: opens l o := by simp
  have mo : ∀ b ∈ o.map (·.1), b ∈ S :: T :: opens l o := fun b hb => List.mem_cons_of_mem _ (List.mem_cons_of_mem _ (List.mem_cons_of_mem _ hb))
  refine ⟨h.old.trans s1, fun b x hb => ?_, ⟨[], ?_, rfl⟩, ⟨⟨vs', p, kd, te, ?_, AllAt.mono (Same.kp s1) _ _ e2, upd_same, hk, hte⟩, h.ok, Nat.le_succ_of_le h.wid, h.dep, Outs.mono (Nat.le_succ _) s1 (fun b hb => ?_) h.out⟩, fun b hb => ?_, ?_, True.intro, ?_, Nat.zero_le _, ?_, ?_, ?_, h.tok⟩
  · by_cases e : b = p
    · rw [e, upd_same] at hb
      rw [e, upd_ne (ap S mS).symm, upd_ne (ap l ml).symm, upd_same]
      exact hb
    · rw [upd_ne e] at hb
      have hS := ne_of_none hb (h.no S mS)
      have hL := ne_of_none hb (h.no l ml)
      have hQ := ne_of_none hb hcq
      rw [upd_ne hS, upd_ne hL, upd_ne e, upd_ne hQ]
      exact h.cl b x hb
  · rw [upd_ne (aq S mS).symm, upd_ne (aq l ml).symm, upd_ne npq.symm, upd_same]
  · rw [upd_ne n2.symm, upd_same]
  · obtain ⟨z1, z2, z3⟩ := n4 b hb
    rw [upd_ne z1, upd_ne z3, upd_ne (ap b (mo b hb)), upd_ne (aq b (mo b hb))]
  · have hb' : b = q ∨ b ∈ S :: T :: opens l o := by
      simp only [opens, List.map_cons, List.mem_cons] at hb ⊢
      rcases hb with e | e | e | e | e
      · exact .inr (.inl e)
      · exact .inr (.inr (.inl e))
      · exact .inl e
      · exact .inr (.inr (.inr (.inl e)))
      · exact .inr (.inr (.inr (.inr e)))
    rcases hb' with e | e
    · rw [e, upd_ne npq.symm]
      exact hcq
    · rw [upd_ne (ap b e)]
      exact h.no b e
  · have h1 := h.nd
    have hq1 : ¬ q ∈ S :: T :: opens l o := fun z => (aq q z) rfl
    simp only [opens, List.map_cons, List.nodup_cons, List.mem_cons, not_or] at h1 hq1 ⊢
    obtain ⟨⟨a1, a2, a3⟩, ⟨b1, b2⟩, c1, c2⟩ := h1
    obtain ⟨q1, q2, q3, q4⟩ := hq1
    exact ⟨⟨a1, Ne.symm q1, a2, a3⟩, ⟨Ne.symm q2, b1, b2⟩, ⟨q3, q4⟩, c1, c2⟩
  · show 0 + (o.length + 1) ≤ 3
    omega
  · have := h.num
    show 0 + (tots rs + 1 + outs o) ≤ m + 1
    omega
  · rw [upd_same]
    simp [opens]
  · rw [upd_ne n1.symm, upd_ne n3, upd_ne (ap T mT), upd_ne (aq T mT)]
    exact h.te
theorem Prog.pushes (h : Prog K ss m H0 Hc H S T l rs o ts) {p q : Addr} (kd te : Str) {vs : List V} (hl : H l = some (.lst vs)) (hq : H q = none) (hp : (upd H q (.lst [])) p = none) :
    (upd (upd H q (.lst [])) p (.tup [.str kd, .str te, .ref q])) l = some (.lst vs) ∧
    (upd (upd (upd H q (.lst [])) p (.tup [.str kd, .str te, .ref q])) l (.lst (vs ++ [.ref p]))) S = some (.lst ((opens l o).reverse.map V.ref)) ∧
    (upd (upd (upd H q (.lst [])) p (.tup [.str kd, .str te, .ref q])) l (.lst (vs ++ [.ref p]))) p = some (.tup [.str kd, .str te, .ref q]) := by
  have npq : p ≠ q := fun e => by rw [e, upd_same] at hp; cases hp
  have hp0 : H p = none := by rw [upd_ne npq] at hp; exact hp
  have aq := h.apart hq
  have ap := h.apart hp0
  obtain ⟨n1, n2, n3, n4⟩ := h.nST
  refine ⟨?_, ?_, ?_⟩
  · rw [upd_ne (ap l (by simp)), upd_ne (aq l (by simp))]
    exact hl
  · rw [upd_ne n2, upd_ne (ap S (by simp)), upd_ne (aq S (by simp))]
    exact h.st
  · rw [upd_ne (ap l (by simp)).symm, upd_same]
theorem Prog.roomS (h : Prog K ss m H0 Hc H S T l rs o ts) : ((opens l o).reverse.map V.ref).length < sizeLine := by
  have := h.dep
  rw [List.length_map, List.length_reverse]
  exact small1000 (by show (o.map (·.1)).length + 1 ≤ 1000; rw [List.length_map]; omega)
/-- a block closes -/
theorem Prog.pop {q : Addr × List Row} (h : Prog K ss m H0 Hc H S T l rs (q :: o) ts) (hm : m ≤ 2000) :
    ∃ Hc' kd te, Prog K ss (m + 1) H0 Hc' (upd H S (.lst ((opens q.1 o).reverse.map V.ref))) S T q.1 (q.2 ++ [.bk kd (.str te) rs]) o ts := by
  obtain ⟨vs, e1, e2⟩ := h.inn
  obtain ⟨⟨ws, t, kd, te, g1, g2, g3, g4, g5⟩, g6, g7, g8, g9⟩ := h.out
  obtain ⟨n1, n2, n3, n4⟩ := h.nST
  have hcl : Hc l = none := h.no l (by simp)
  have s1 : Same Hc (upd Hc l (.lst vs)) := same_new hcl _
  obtain ⟨z1, z2, z3⟩ := n4 q.1 (by simp)
  have nb : ∀ b ∈ o.map (·.1), b ≠ S ∧ b ≠ T ∧ b ≠ l := fun b hb => n4 b (by simp only [List.map_cons, List.mem_cons]; exact .inr hb)
  refine ⟨upd Hc l (.lst vs), kd, te, h.old.trans s1, fun b x hb => ?_, ⟨_, by rw [upd_ne z1]; exact g1, (AllAt.mono (Same.kp s1) _ _ g2).app (AllAt.one ⟨t, l, vs, rfl, SqT.of (s1 _ _ g3), SqL.of upd_same, AllAt.mono (Same.kp s1) _ _ e2⟩)⟩,
    Outs.mono (Nat.le_succ _) s1 (fun b hb => upd_ne (nb b hb).1) g9, fun b hb => ?_, ?_, oks_app g6 ⟨⟨g4, ⟨te, rfl, g5⟩, Nat.le_trans h.wid hm, h.ok⟩, True.intro⟩, ?_, ?_, ?_, upd_same, ?_, h.tok⟩
  · by_cases e : b = l
    · rw [e, upd_same] at hb
      rw [e, upd_ne n2.symm]
      exact e1.trans hb
    · rw [upd_ne e] at hb
      rw [upd_ne (ne_of_none hb (h.no S (by simp)))]
      exact h.cl b x hb
  · have hbl : b ≠ l := by
      rcases List.mem_cons.mp hb with e | hb
      · rw [e]; exact n2
      rcases List.mem_cons.mp hb with e | hb
      · rw [e]; exact n3
      rcases List.mem_cons.mp hb with e | hb
      · rw [e]; exact z3
      · exact (nb b hb).2.2
    rw [upd_ne hbl]
    refine h.no b ?_
    simp only [opens, List.map_cons, List.mem_cons] at hb ⊢
    rcases hb with e | e | e | e
    · exact .inl e
    · exact .inr (.inl e)
    · exact .inr (.inr (.inr (.inl e)))
    · exact .inr (.inr (.inr (.inr e)))
  · have h1 := h.nd
    simp only [opens, List.map_cons, List.nodup_cons, List.mem_cons, not_or] at h1 ⊢
    obtain ⟨⟨a1, a2, a3, a4⟩, ⟨b1, b2, b3⟩, c1, d1, d2⟩ := h1
    exact ⟨⟨a1, a3, a4⟩, ⟨b2, b3⟩, d1, d2⟩
  · have hd : deps rs + (o.length + 1) ≤ 3 := h.dep
    rw [deps_app]
    show max (deps q.2) (max (deps rs + 1) 0) + o.length ≤ 3
    omega
  · rw [List.length_append]
    exact Nat.succ_le_succ g7
  · have hn : tots rs + (tots q.2 + 1 + outs o) ≤ m := h.num
    rw [tots_app]
    show tots q.2 + (tots rs + 1 + 0) + outs o ≤ m + 1
    omega
  · rw [upd_ne n1.symm]
    exact h.te
end
end Lm
/-! Kinds of values; things that are alike; rows that are thin; rows in further blocks. -/
namespace Lm
open PySem L2
theorem ty_list {K : PySem.W.Frag} {H : Hp} {a : Addr} {xs : List V} (h : SqL K H a xs) : TyX K H (.ref a) (.type "list") := by
  rcases h with (h | ⟨o, h⟩) | ⟨o, its, n, h1, h2, _⟩
  · exact .base (.lst h)
  · exact .base (.frz h)
  · exact .kList h1 h2
theorem ty_tuple {K : PySem.W.Frag} {H : Hp} {a : Addr} {xs : List V} (h : SqT K H a xs) : TyX K H (.ref a) (.type "tuple") := by
  rcases h with (h | ⟨o, h⟩) | ⟨o, its, n, h1, h2, _⟩
  · exact .base (.tup h)
  · exact .fTuple h
  · exact .kTuple h1 h2
theorem ty_int {K : PySem.W.Frag} {H : Hp} (i : Int) : TyX K H (.int i) (.type "int") := .base (.int i)
theorem ty_str {K : PySem.W.Frag} {H : Hp} (x : Str) : TyX K H (.str x) (.type "str") := .base (.str x)
theorem ty_bl {K : PySem.W.Frag} {H : Hp} (b : Bool) : TyX K H (.bl b) (.type "bool") := .base (.bl b)
/-- x and y are data of one form, at most n deep -/
def Alk (K : PySem.W.Frag) (H : Hp) : Nat → V → V → Prop
  | 0, _, _ => False
  | n + 1, x, y => (∃ s, x = .str s ∧ y = .str s) ∨ (∃ i, x = .int i ∧ y = .int i) ∨
    (∃ p q xs ys, x = .ref p ∧ y = .ref q ∧ SqL K H p xs ∧ SqL K H q ys ∧ xs.length = ys.length ∧ xs.length ≤ 10000 ∧ ∀ (i : Nat) (a b : V), xs[i]? = some a → ys[i]? = some b → Alk K H n a b) ∨
    (∃ p q xs ys, x = .ref p ∧ y = .ref q ∧ SqT K H p xs ∧ SqT K H q ys ∧ xs.length = ys.length ∧ xs.length ≤ 10000 ∧ ∀ (i : Nat) (a b : V), xs[i]? = some a → ys[i]? = some b → Alk K H n a b)
theorem Alk.mono {K : PySem.W.Frag} {H H' : Hp} (e : Kp H H') : ∀ {n m : Nat} {x y : V}, n ≤ m → Alk K H n x y → Alk K H' m x y
  | 0, _, _, _, _, h => h.elim
  | _ + 1, 0, _, _, hm, _ => absurd hm (by omega)
  | n + 1, m + 1, x, y, hm, h => by
    rcases h with h | h | ⟨p, q, xs, ys, h1, h2, h3, h4, h5, h6, h7⟩ | ⟨p, q, xs, ys, h1, h2, h3, h4, h5, h6, h7⟩
    · exact .inl h
    · exact .inr (.inl h)
    · exact .inr (.inr (.inl ⟨p, q, xs, ys, h1, h2, e.sqL h3, e.sqL h4, h5, h6, fun i a b ha hb => Alk.mono e (Nat.le_of_succ_le_succ hm) (h7 i a b ha hb)⟩))
    · exact .inr (.inr (.inr ⟨p, q, xs, ys, h1, h2, e.sqT h3, e.sqT h4, h5, h6, fun i a b ha hb => Alk.mono e (Nat.le_of_succ_le_succ hm) (h7 i a b ha hb)⟩))
theorem Alk.up {K : PySem.W.Frag} {H : Hp} {n m : Nat} {x y : V} (h : Alk K H n x y) (hm : n ≤ m) : Alk K H m x y := h.mono (Kp.refl H) hm
theorem alk_str {K : PySem.W.Frag} {H : Hp} {n : Nat} (s : Str) : Alk K H (n + 1) (.str s) (.str s) := Or.inl ⟨s, rfl, rfl⟩
theorem alk_int {K : PySem.W.Frag} {H : Hp} {n : Nat} (i : Int) : Alk K H (n + 1) (.int i) (.int i) := Or.inr (.inl ⟨i, rfl, rfl⟩)
theorem alk_vl {K : PySem.W.Frag} {H : Hp} {n : Nat} : ∀ x : Vl, Alk K H (n + 1) x.v x.v
  | .nm s => alk_str s
  | .nu i => alk_int i
theorem get_nil {α : Type} {i : Nat} {a : α} (h : ([] : List α)[i]? = some a) : False := by simp at h
mutual
theorem RowAt.alk {K : PySem.W.Frag} {H : Hp} {ss : List Str} : ∀ (r : Row) {v u : V}, r.ok ss → RowAt K H r v → RowAt K H r u → Alk K H (2 * r.dep + 2) v u
  | .lt to sg x y, v, u, ok, ⟨p, h1, h2⟩, ⟨q, g1, g2⟩ => by
    refine Or.inr (.inr (.inr ⟨p, q, _, _, h1, g1, h2, g2, rfl, by simp, fun i a b ha hb => ?_⟩))
    rw [ha] at hb
    cases hb
    match i, ha with
    | 0, ha => cases ha; exact alk_str _
    | 1, ha => cases ha; exact alk_str _
    | 2, ha => cases ha; exact alk_str _
    | 3, ha => cases ha; exact alk_vl _
    | 4, ha => cases ha; exact alk_vl _
    | i + 5, ha => exact (get_nil (i := i) ha).elim
  | .sy x, v, u, ok, ⟨p, h1, h2⟩, ⟨q, g1, g2⟩ => by
    refine Or.inr (.inr (.inr ⟨p, q, _, _, h1, g1, h2, g2, rfl, by simp, fun i a b ha hb => ?_⟩))
    rw [ha] at hb
    cases hb
    match i, ha with
    | 0, ha => cases ha; exact alk_str _
    | 1, ha => cases ha; exact alk_vl _
    | i + 2, ha => exact (get_nil (i := i) ha).elim
  | .bk kd ts rs, v, u, ⟨_, ⟨s, es, _⟩, hlen, hok⟩, ⟨p, l, vs, h1, h2, h3, h4⟩, ⟨q, k, us, g1, g2, g3, g4⟩ => by
    refine Or.inr (.inr (.inr ⟨p, q, _, _, h1, g1, h2, g2, rfl, by simp, fun i a b ha hb => ?_⟩))
    match i, ha, hb with
    | 0, ha, hb => cases ha; cases hb; exact alk_str _
    | 1, ha, hb => cases ha; cases hb; rw [es]; exact alk_str _
    | 2, ha, hb =>
      cases ha; cases hb
      have d : (Row.bk kd ts rs).dep = deps rs + 1 := rfl
      rw [d]
      exact Or.inr (.inr (.inl ⟨l, k, vs, us, rfl, rfl, h3, g3, by rw [h4.len, g4.len], by rw [h4.len]; omega, fun i a b ha hb => AllAt.alk rs hok h4 g4 ha hb⟩))
    | i + 3, ha, hb => exact (get_nil (i := i) ha).elim
theorem AllAt.alk {K : PySem.W.Frag} {H : Hp} {ss : List Str} : ∀ (rs : List Row) {vs us : List V} {i : Nat} {a b : V}, oks ss rs → AllAt K H rs vs → AllAt K H rs us → vs[i]? = some a → us[i]? = some b → Alk K H (2 * deps rs + 2) a b
  | [], vs, us, i, a, b, _, h, _, ha, _ => by
    have e : vs = [] := h
    rw [e] at ha
    exact (get_nil ha).elim
  | r :: rs, _, _, 0, a, b, ok, ⟨v, ws, h1, h2, h3⟩, ⟨u, zs, g1, g2, g3⟩, ha, hb => by
    rw [h1] at ha
    rw [g1] at hb
    cases ha
    cases hb
    have d : deps (r :: rs) = max r.dep (deps rs) := rfl
    exact (RowAt.alk r ok.1 h2 g2).up (by omega)
  | r :: rs, _, _, i + 1, a, b, ok, ⟨v, ws, h1, h2, h3⟩, ⟨u, zs, g1, g2, g3⟩, ha, hb => by
    rw [h1] at ha
    rw [g1] at hb
    have d : deps (r :: rs) = max r.dep (deps rs) := rfl
    exact (AllAt.alk rs ok.2 h3 g3 (by simpa using ha) (by simpa using hb)).up (by omega)
end
theorem RowsAt.alk {K : PySem.W.Frag} {H : Hp} {ss : List Str} {rs : List Row} {l k : Addr} (ok : oks ss rs) (hl : rs.length ≤ 10000) (h : RowsAt K H l rs) (g : RowsAt K H k rs) : Alk K H (2 * deps rs + 3) (.ref l) (.ref k) := by
  obtain ⟨vs, h3, h4⟩ := h
  obtain ⟨us, g3, g4⟩ := g
  exact Or.inr (.inr (.inl ⟨l, k, vs, us, rfl, rfl, h3, g3, by rw [h4.len, g4.len], by rw [h4.len]; exact hl, fun i a b ha hb => AllAt.alk rs ok h4 g4 ha hb⟩))
theorem take_one {α : Type} {l : List α} {i : Nat} {x : α} (h : l[i]? = some x) : l.take (i + 1) = l.take i ++ [x] := by
  rw [List.take_add_one, h]
  rfl
/-- the heap Hc is a part of H that stays; Hc' and H' are theirs later: nothing of H comes into it -/
structure Part (Hc H Hc' H' : Hp) : Prop where
  all : Same H H'
  cl : Same Hc Hc'
  sub : Same Hc' H'
  no : ∀ b o, H b = some o → Hc b = none → Hc' b = none
theorem Part.refl {Hc H : Hp} (h : Same Hc H) : Part Hc H Hc H := ⟨Same.refl _, Same.refl _, h, fun _ _ _ h => h⟩
theorem Part.trans {Hc H Hd G He F : Hp} (p : Part Hc H Hd G) (q : Part Hd G He F) : Part Hc H He F :=
  ⟨p.all.trans q.all, p.cl.trans q.cl, q.sub, fun b o h1 h2 => q.no b o (p.all b o h1) (p.no b o h1 h2)⟩
/-- a new object that stays -/
theorem Part.new {Hc H : Hp} (h : Same Hc H) {p : Addr} (hp : H p = none) (u : HO) : Part Hc H (upd Hc p u) (upd H p u) := by
  have hcp : Hc p = none := h.free hp
  refine ⟨same_new hp u, same_new hcp u, fun b x hb => ?_, fun b o h1 h2 => ?_⟩
  · by_cases e : b = p
    · rw [e, upd_same] at hb
      rw [e, upd_same]
      exact hb
    · rw [upd_ne e] at hb
      rw [upd_ne e]
      exact h b x hb
  · rw [upd_ne (ne_of_none h1 hp)]
    exact h2
/-- a new object that will change -/
theorem Part.open {Hc H : Hp} (h : Same Hc H) {p : Addr} (hp : H p = none) (u : HO) : Part Hc H Hc (upd H p u) :=
  ⟨same_new hp u, Same.refl _, h.trans (same_new hp u), fun _ _ _ h => h⟩
mutual
/-- no list in it is long -/
def Row.thin : Row → Prop
  | .lt _ _ _ _ => True
  | .sy _ => True
  | .bk _ _ rs => rs.length ≤ 2000 ∧ thins rs
def thins : List Row → Prop
  | [] => True
  | r :: rs => r.thin ∧ thins rs
end
mutual
theorem Row.ok_thin {ss : List Str} : ∀ (r : Row), r.ok ss → r.thin
  | .lt _ _ _ _, _ => True.intro
  | .sy _, _ => True.intro
  | .bk _ _ rs, ⟨_, _, h, g⟩ => ⟨h, oks_thins rs g⟩
theorem oks_thins {ss : List Str} : ∀ (rs : List Row), oks ss rs → thins rs
  | [], _ => True.intro
  | r :: rs, ⟨h, g⟩ => ⟨Row.ok_thin r h, oks_thins rs g⟩
end
theorem thins_at : ∀ {rs : List Row} {i : Nat} {r : Row}, thins rs → rs[i]? = some r → r.thin
  | [], _, _, _, e => by cases e
  | _ :: _, 0, _, h, e => by
    cases e
    exact h.1
  | _ :: _, _ + 1, _, h, e => thins_at h.2 e
theorem thins_app : ∀ {rs qs : List Row}, thins rs → thins qs → thins (rs ++ qs)
  | [], _, _, q => q
  | _ :: _, _, ⟨h1, h2⟩, q => ⟨h1, thins_app h2 q⟩
/-- qs is rs in n further blocks, each about the next -/
inductive Wrap (ss : List Str) (rs : List Row) : Nat → List Row → Prop where
  | base : Wrap ss rs 0 rs
  | next {n : Nat} {qs : List Row} {kd te : Str} : Wrap ss rs n qs → kd ∈ kinds → te ∈ ss → Wrap ss rs (n + 1) [.bk kd (.str te) qs]
theorem Wrap.len {ss : List Str} {rs qs : List Row} {n : Nat} (h : Wrap ss rs n qs) (hl : rs.length ≤ 2000) : qs.length ≤ 2000 := by
  cases h with
  | base => exact hl
  | next => show 1 ≤ 2000; decide
theorem Wrap.ok {ss : List Str} {rs qs : List Row} {n : Nat} (h : Wrap ss rs n qs) (hl : rs.length ≤ 2000) (ok : oks ss rs) : oks ss qs := by
  induction h with
  | base => exact ok
  | next h1 h2 h3 ih => exact ⟨⟨h2, ⟨_, rfl, h3⟩, h1.len hl, ih⟩, True.intro⟩
theorem Wrap.thin {ss : List Str} {rs qs : List Row} {n : Nat} (h : Wrap ss rs n qs) (hl : rs.length ≤ 2000) (ok : thins rs) : thins qs := by
  induction h with
  | base => exact ok
  | next h1 h2 h3 ih => exact ⟨⟨h1.len hl, ih⟩, True.intro⟩
theorem Wrap.deps {ss : List Str} {rs qs : List Row} {n : Nat} (h : Wrap ss rs n qs) : Lm.deps qs = Lm.deps rs + n := by
  induction h with
  | base => rfl
  | @next n qs kd te h1 h2 h3 ih =>
    show max (Lm.deps qs + 1) 0 = _
    omega
theorem Wrap.tots {ss : List Str} {rs qs : List Row} {n : Nat} (h : Wrap ss rs n qs) : Lm.tots qs = Lm.tots rs + n := by
  induction h with
  | base => rfl
  | @next n qs kd te h1 h2 h3 ih =>
    show Lm.tots qs + 1 + 0 = _
    omega
end Lm
/-! A test of each letter; tables that grow. -/
namespace Lm
open PySem PySem.Spec PyProof.Rows L2 GxR
theorem lt_one (a b : Nat) : decide (([a] : List Nat) < [b]) = decide (a < b) := by
  by_cases h : a < b
  · rw [decide_eq_true h]
    exact decide_eq_true (List.Lex.rel h)
  · rw [decide_eq_false h]
    refine decide_eq_false fun z => h ?_
    cases z with
    | rel q => exact q
    | cons q => cases q
def letter (c : Nat) : Bool := decide (97 ≤ c) && decide (c ≤ 122)
/-- 'a' <= x <= 'z' -/
theorem elt_letter {prog : Program} {w : World} {scope : Scope} {x : Str} {j k : Nat} {p1 p2 p3 p4 : Pos} (hk : scope.kind = .function) (hl : scope.names.lookup x = some .local) (hd : (x == ("__debug__" : Str)) = false := by decide) :
    EltP prog w scope x (.Compare (.Constant (.str "a") j p1) [.LtE, .LtE] [.Name x p2, .Constant (.str "z") k p3] p4) letter := by
  intro cenv A' E' c t s₂ m₂ hs hn hm
  refine Compare_chain (Calls.Constant_str (chain_link (wpAny_Name (wpAny_loadName_local (by rw [hs]; exact hk) (show cenv.scope.names.lookup x = some .local by rw [hs]; exact hl) hn hm ?_) hd))) (by with_unfolding_all rfl)
  refine PySem.P.le_str (wpAny_truthy_bool ?_)
  have e1 : decide ((⟨#[c]⟩ : Str).cps.toList < ("a" : Str).cps.toList) = decide (c < 97) := lt_one c 97
  have e2 : decide (("z" : Str).cps.toList < (⟨#[c]⟩ : Str).cps.toList) = decide (122 < c) := lt_one 122 c
  rw [e1]
  by_cases h : c < 97
  · have z : letter c = false := by unfold letter; rw [decide_eq_false (by omega)]; rfl
    rw [decide_eq_true h, z]
    exact ite_ff ⟨rfl, keeps_tok _ _⟩
  · rw [decide_eq_false h]
    refine ite_tt (chain_last (Calls.Constant_str (PySem.P.le_str ?_)))
    rw [e2]
    refine ⟨?_, keeps_tok _ _⟩
    unfold letter
    rw [decide_eq_true (by omega : 97 ≤ c), Bool.true_and]
    by_cases g : 122 < c
    · rw [decide_eq_true g, decide_eq_false (by omega)]; rfl
    · rw [decide_eq_false g, decide_eq_true (by omega)]; rfl
theorem ble_dec (a b : Nat) : Nat.ble a b = decide (a ≤ b) := by
  rw [Bool.eq_iff_iff, decide_eq_true_eq]
  exact ⟨Nat.le_of_ble_eq_true, Nat.ble_eq_true_of_le⟩
theorem letters_all : ∀ l : List Nat, lettersB l = l.all letter
  | [] => rfl
  | c :: r => by
    show (Nat.ble 97 c && (Nat.ble c 122 && lettersB r)) = (letter c && r.all letter)
    rw [letters_all r, ← Bool.and_assoc, ble_dec, ble_dec]
    rfl
/-- the table has grown, all else is as it was -/
theorem tabbed_kp {P : Addr} {H H' : Hp} (hP : TabG H P) (h : Tabbed P H H') : Kp H H' := ⟨fun b o e n => by
  have hb : b ≠ P := fun z => by
    obtain ⟨ps, q, _⟩ := hP
    rw [z, q] at e
    cases e
    exact n ps rfl
  rw [h.2 b hb]
  exact e, fun b ps e => by
  by_cases hb : b = P
  · obtain ⟨qs, q, _⟩ := h.1
    rw [hb]
    exact ⟨qs, q⟩
  · exact ⟨ps, by rw [h.2 b hb]; exact e⟩⟩
theorem tab_upd {P b : Addr} {H : Hp} {o : HO} (hP : TabG H P) (hb : P ≠ b) : TabG (upd H b o) P := by
  obtain ⟨ps, q, r⟩ := hP
  exact ⟨ps, by rw [upd_ne hb]; exact q, r⟩
theorem tab_ne {P b : Addr} {H : Hp} {o : HO} (hP : TabG H P) (hb : H b = some o) (n : ∀ ps, o ≠ .tbl ps) : P ≠ b := fun z => by
  obtain ⟨ps, q, _⟩ := hP
  rw [z, hb] at q
  cases q
  exact n ps rfl
theorem tab_free {P b : Addr} {H : Hp} (hP : TabG H P) (hb : H b = none) : P ≠ b := fun z => by
  obtain ⟨ps, q, _⟩ := hP
  rw [z, hb] at q
  cases q
theorem tab_new {P b : Addr} {H : Hp} {o : HO} (hP : TabG H P) (hb : H b = none) : TabG (upd H b o) P := tab_upd hP (tab_free hP hb)
theorem tab_same {P : Addr} {H H' : Hp} (hP : TabG H P) (h : Same H H') : TabG H' P := by
  obtain ⟨ps, q, r⟩ := hP
  exact ⟨ps, h _ _ q, r⟩
theorem Tabbed.refl {P : Addr} {H : Hp} (hP : TabG H P) : Tabbed P H H := ⟨hP, fun _ _ => rfl⟩
def barsS : List Str := ["say", "when", "loop", "again", "end"]
theorem str_eq {x y : Str} (h : x.cps.toList = y.cps.toList) : x = y := by
  obtain ⟨a⟩ := x
  obtain ⟨b⟩ := y
  have e : a = b := Array.toList_inj.mp h
  rw [e]
theorem bars_in (s : Str) : inV (.str s) (barsS.map V.str) = isBar s.cps.toList := by
  have h : ∀ y : Str, eqV (.str y) (.str s) = sameL s.cps.toList y.cps.toList := fun y => by
    show (y == s) = _
    rw [Bool.eq_iff_iff, beq_iff_eq, sameL_iff]
    exact ⟨fun e => by rw [e], fun e => (str_eq e).symm⟩
  have e : bars = barsS.map (fun y => y.cps.toList) := by decide +kernel
  unfold inV isBar
  rw [e, List.any_map, List.any_map]
  exact congrArg (fun f => List.any barsS f) (funext fun y => h y)
/-- a def whose code object is told -/
theorem ok_code {P : Program} {w : World} {K : PySem.W.Frag} {mg : Str → Option Value} {base : Heap} {x qual : Str} {st : Stmt} {f : Addr} {fd : FuncData} {N ps : List Str} {k : Nat} {sp : Sp} (F : Fun K x qual st f fd) (S : FnScope N ps (defScope st))
    (len : ∀ vs H Q E, sp vs H Q E → vs.length = ps.length)
    (hbody : ∀ (A : Around) (outer : List Env) (s : Shared) (H : Hp) (vs : List V) (Q : VK) (E : XK), Room k (A.deeper (envOfC qual (defScope st) s.heap.objs.size f fd.code)) → sp vs H Q E →
      ∃ t, PSs (cxOf CX0 P w K mg base N qual (defScope st) f fd.code A outer s H E).nox (defBody st) t ∧ t { nx := fun _ H' => Q .non H', rt := Q } (L2.start N vs) H) : FnOk P w K mg base CX0 (k + 1) f fd ps sp := by
  obtain ⟨oc, od, kV, doc, pm, an, cdv, ct, osl, rfl, lk, hcd⟩ := F.ex
  exact fn_of lk hcd S len fun A outer s H vs Q E hr h => let ⟨t, h1, h2⟩ := hbody A outer s H vs Q E hr h; ⟨t, h1.nox, h2⟩
/-- is it a name -/
def isNm : V → Bool
  | .str s => GoodL s.cps.toList
  | _ => false
end Lm
set_option maxHeartbeats 2000000
/-! Sets of texts whose order of walking is known to end: made, filled, sorted. -/
namespace Lm
open PySem PySem.Spec PyProof.Rows L2
/-- the text of an entry -/
def txt (e : Int × Value) : Str := match e.2 with
  | .str x _ => x
  | _ => Str.empty
def TxtE (w : World) (e : Int × Value) : Prop := ∃ x tk, e.2 = Value.str x tk ∧ e.1 = hashStr w x
/-- at a stands a set of texts: its members, how many they are -/
structure TxtRaw (w : World) (S : Str → Bool) (n : Nat) (o : Obj) (es : Array (Int × Value)) (ep : Nat) (t : SetTable) : Prop where
  ex : o.ExactSet
  dat : o.data = .set es ep t
  ent : ∀ e ∈ es.toList, TxtE w e
  nd : (es.toList.map txt).Nodup
  mem : ∀ x, S x = true ↔ x ∈ es.toList.map txt
  few : es.size < scanBound
  fit : t.fits es.size = true
  num : es.size = n
  ris : Ris t.place.toList
  led : w.params.followText "set-order" = true ∨ t.led = true
def TxtSet (w : World) (h : Heap) (a : Addr) (S : Str → Bool) (n : Nat) : Prop := ∃ o es ep t, h.get? a = some o ∧ TxtRaw w S n o es ep t
section
variable {P : Program} {w : World} {h h' : Heap} {a : Addr} {S : Str → Bool} {n : Nat}
theorem txt_elems {l : List (Int × Value)} (g : ∀ e ∈ l, TxtE w e) : ElemsOf (PySem.strKind P w) l := by
  intro e he
  obtain ⟨x, tk, q1, q2⟩ := g e he
  exact ⟨⟨x, by rw [q1]; exact strKind_is P w x tk, q2⟩, by rw [q1]; rfl⟩
theorem txt_is {e : Int × Value} (g : TxtE w e) (x : Str) : (PySem.strKind P w).is x e.2 = true ↔ txt e = x := by
  obtain ⟨y, tk, q1, _⟩ := g
  have e1 : txt e = y := by
    unfold txt
    rw [q1]
  rw [e1, q1]
  constructor
  · intro z
    have z' : Value.isStrOf x (.str y tk) = true := z
    obtain ⟨u, eu⟩ := Value.isStrOf_shape z'
    injection eu with e2 _
  · rintro rfl
    exact strKind_is P w y tk
theorem txt_mem {l : List (Int × Value)} (g : ∀ e ∈ l, TxtE w e) (x : Str) : x ∈ l.map txt ↔ ∃ e ∈ l, (PySem.strKind P w).is x e.2 = true := by
  constructor
  · intro hx
    obtain ⟨e, he, q⟩ := List.mem_map.mp hx
    exact ⟨e, he, (txt_is (g e he) x).mpr q⟩
  · rintro ⟨e, he, q⟩
    exact List.mem_map.mpr ⟨e, he, (txt_is (g e he) x).mp q⟩
theorem TxtSet.setOf (R : TxtSet w h a S n) : h.SetOf (PySem.strKind P w) a S n :=
  let ⟨o, es, ep, t, ho, r⟩ := R
  ⟨o, es, ep, t, ho, r.ex, r.dat, txt_elems r.ent, fun x => (r.mem x).trans (txt_mem r.ent x), r.few, r.fit, r.num⟩
theorem txt_fresh {h : Heap} (w : World) : TxtSet w (h.push { cls := .type "set", dict := none, data := .set #[] 0 (.fresh 0 0 (!w.params.followText "set-order")) }) h.objs.size (fun _ => false) 0 := by
  refine ⟨_, #[], 0, _, Heap.get?_push_size _ rfl, ⟨⟨rfl, rfl, rfl⟩, rfl, fun e he => by simp at he, by simp, fun k => by simp, by decide, rfl, rfl, List.Pairwise.nil, ?_⟩⟩
  show _ ∨ (!w.params.followText "set-order") = true
  cases w.params.followText "set-order" with
  | false => exact Or.inr rfl
  | true => exact Or.inl rfl
end
section
variable {P : Program} {w : World} {A : Around} {E : Value → Shared → Prop} {s : Shared} {a : Addr} {S : Str → Bool} {n : Nat}
theorem put_at {h : Heap} {o : Obj} {es es' : Array (Int × Value)} {ep : Nat} {t t' : SetTable} (ho : h.get? a = some o) (hd : o.data = .set es ep t) : (h.update a (Obj.putSet es' t')).get? a = some { o with data := .set es' (ep + 1) t' } := by
  have z := Heap.get?_update_self (Obj.putSet es' t') ho (by rw [putSet_of es' t' hd]; rfl)
  rwa [putSet_of es' t' hd] at z
/-- what is laid is stored; a table that is too full is laid anew -/
theorem txt_tail {g : Bool → Sem Unit} (hg : ∀ (b : Bool) (s₁ : Shared) (Q' : Unit → Shared → Prop), Q' () s₁ → wpAny (model P w) A (g b) Q' E s₁)
    {o : Obj} {es : Array (Int × Value)} {ep : Nat} {t : SetTable} (ho : s.heap.get? a = some o) (hex : o.ExactSet) (hd : o.data = .set es ep t) {eN : Array (Int × Value)} {tN : SetTable} {S' : Str → Bool}
    (q1 : ∀ e ∈ eN.toList, TxtE w e) (q2 : (eN.toList.map txt).Nodup) (q3 : ∀ x, S' x = true ↔ x ∈ eN.toList.map txt) (q4 : eN.size < scanBound) (q5 : tN.fits eN.size = true) (q6 : Ris tN.place.toList)
    (q7 : w.params.followText "set-order" = true ∨ tN.led = true) {dum : Bool} {R : Option Bool → Shared → Prop} (hR : ∀ h', Heap.SameBut a s.heap h' → TxtSet w h' a S' eN.size → R (some true) { s with heap := h' }) :
    wpAny (model P w) A (do
      storeSet a eN tN
      if (!dum && tN.tooFull) = true then do
        g (relayAll tN eN (SetTable.grown eN.size)).2.2
        storeSet a (relayAll tN eN (SetTable.grown eN.size)).1 (relayAll tN eN (SetTable.grown eN.size)).2.1
        pure (some true)
      else pure (some true)) R E s := by
  have b1 := Heap.SameBut.update s.heap a (Obj.putSet eN tN)
  have a1 := put_at (es' := eN) (t' := tN) ho hd
  refine wpAny_bind (wpAny_storeSet_of ho hd ?_ (fits_of_scanBound q4))
  by_cases c : (!dum && tN.tooFull) = true
  · rw [if_pos c]
    have z1 := relayAll_perm tN eN (SetTable.grown eN.size)
    have z2 := relayAll_fits tN eN (SetTable.grown eN.size)
    have z3 := relayAll_ris tN eN (SetTable.grown eN.size)
    have z4 := relayAll_led tN eN (SetTable.grown eN.size)
    revert z1 z2 z3 z4
    generalize relayAll tN eN (SetTable.grown eN.size) = Z
    obtain ⟨eM, tM, gv⟩ := Z
    intro z1 z2 z3 z4
    dsimp only at z1 z2 z3 z4 ⊢
    have z5 : eM.size = eN.size := by rw [← Array.length_toList, z1.length_eq, Array.length_toList]
    have z6 : eM.size < scanBound := by rw [z5]; exact q4
    refine wpAny_bind (hg gv _ _ (wpAny_bind (wpAny_storeSet_of a1 rfl ?_ (fits_of_scanBound z6))))
    have a2 := put_at (es' := eM) (t' := tM) a1 rfl
    exact wpAny_pure (hR _ (b1.trans (Heap.SameBut.update _ a _)) ⟨_, eM, _, tM, a2, ⟨hex, rfl, fun e he => q1 e (z1.mem_iff.mp he), (z1.map txt).nodup_iff.mpr q2, fun x => (q3 x).trans (z1.map txt).mem_iff.symm, z6, z2, z5, z3, q7.imp id (fun z => z4.trans z)⟩⟩)
  · rw [if_neg c]
    exact wpAny_pure (hR _ b1 ⟨_, eN, _, tN, a1, ⟨hex, rfl, q1, q2, q3, q4, q5, rfl, q6, q7⟩⟩)
theorem txt_hashed {x : Str} {tk : Tok} {Q : Bool → Shared → Prop} (R : TxtSet w s.heap a S n) (room : n + 1 < scanBound)
    (hQ : ∀ h', Heap.SameBut a s.heap h' → TxtSet w h' a (fun y => S y || decide (y = x)) (if S x = true then n else n + 1) → Q (!S x) { s with heap := h' }) :
    wpAny (model P w) A (setAddHashed a (.str x tk) ((PySem.strKind P w).hash x)) Q E s := by
  obtain ⟨o, es, ep, t, ho, r⟩ := R
  have key : (PySem.strKind P w).is x (.str x tk) = true := strKind_is P w x tk
  have sc : (Value.str x tk).scannable = true := rfl
  have el : ElemsOf (PySem.strKind P w) es.toList := txt_elems r.ent
  unfold setAddHashed setAddHashedIn
  refine wpAny_holding (wpAny_bind (wpAny_setState_of ho r.dat r.fit ?_))
  dsimp only
  rw [byScan_of sc r.few el]
  simp only [↓reduceIte]
  unfold setAddByScan
  refine wpAny_bind (wpAny_bind (wpAny_rule (wpAny_bind (wpAny_setScan_of key ho r.dat r.fit el ?_))))
  cases hfi : List.findIdx? (fun e => (PySem.strKind P w).is x e.2) es.toList with
  | some j =>
    obtain ⟨hj, pj, _⟩ := List.findIdx?_eq_some_iff_getElem.mp hfi
    have inS : S x = true := (r.mem x).mpr ((txt_mem (P := P) (w := w) r.ent x).mpr ⟨es.toList[j], List.getElem_mem hj, pj⟩)
    have z := hQ s.heap (Heap.SameBut.refl a s.heap) ⟨o, es, ep, t, ho, { r with mem := fun y => ?_, num := by rw [if_pos inS]; exact r.num }⟩
    · rw [inS] at z
      dsimp only
      exact wpAny_pure (wpAny_pure z)
    · rw [Bool.or_eq_true, decide_eq_true_eq, ← r.mem y]
      exact ⟨fun c => c.elim id fun e => by rw [e]; exact inS, Or.inl⟩
  | none =>
    have notIn : x ∉ es.toList.map txt := fun c => by
      obtain ⟨e, he, q⟩ := (txt_mem (P := P) (w := w) r.ent x).mp c
      have d := List.findIdx?_eq_none_iff.mp hfi e he
      rw [q] at d
      exact Bool.noConfusion d
    have notS : S x = false := Bool.eq_false_iff.mpr fun c => notIn ((r.mem x).mp c)
    have gave : ∀ (b : Bool) {s₁ : Shared} {Q' : Unit → Shared → Prop}, Q' () s₁ → wpAny (model P w) A (match b with | true => rule "set.scan.the-table-gave-way" | false => pure ()) Q' E s₁ := by
      intro b s₁ Q' q
      cases b with
      | true => exact wpAny_rule q
      | false => exact wpAny_pure q
    dsimp only
    have z1 := layNew_perm t es ((PySem.strKind P w).hash x) (.str x tk)
    have z2 := layNew_fits t es ((PySem.strKind P w).hash x) (.str x tk)
    have z3 := layNew_ris t es ((PySem.strKind P w).hash x) (.str x tk) r.ris
    have z4 := layNew_led t es ((PySem.strKind P w).hash x) (.str x tk)
    revert z1 z2 z3 z4
    generalize layNew t es ((PySem.strKind P w).hash x) (.str x tk) = Z
    obtain ⟨eN, tN, dum, gv⟩ := Z
    intro z1 z2 z3 z4
    dsimp only at z1 z2 z3 z4 ⊢
    rw [Array.toList_push] at z1
    have pc : eN.toList.Perm (((PySem.strKind P w).hash x, Value.str x tk) :: es.toList) := z1.trans (List.perm_append_singleton _ _)
    have pk : (eN.toList.map txt).Perm (x :: es.toList.map txt) := pc.map txt
    have q1 : ∀ e ∈ eN.toList, TxtE w e := by
      intro e he
      rcases List.mem_cons.mp (pc.mem_iff.mp he) with c | c
      · exact ⟨x, tk, by rw [c], by rw [c]; rfl⟩
      · exact r.ent e c
    have q2 : (eN.toList.map txt).Nodup := pk.nodup_iff.mpr (List.nodup_cons.mpr ⟨notIn, r.nd⟩)
    have q3 : ∀ y, (S y || decide (y = x)) = true ↔ y ∈ eN.toList.map txt := by
      intro y
      rw [pk.mem_iff, List.mem_cons, Bool.or_eq_true, decide_eq_true_eq, r.mem y, or_comm]
    have sz : eN.size = n + 1 := by rw [← Array.length_toList, pc.length_eq, List.length_cons, Array.length_toList, r.num]
    have q4 : eN.size < scanBound := by rw [sz]; exact room
    have q7 : w.params.followText "set-order" = true ∨ tN.led = true := r.led.imp id fun c => by rw [z4]; exact c
    have done : ∀ h', Heap.SameBut a s.heap h' → TxtSet w h' a (fun y => S y || decide (y = x)) eN.size → Q true { s with heap := h' } := by
      intro h' sb c
      have z := hQ h' sb
      rw [notS] at z
      rw [sz] at c
      exact z c
    have give : ∀ (b : Bool) (s₁ : Shared) (Q' : Unit → Shared → Prop), Q' () s₁ → wpAny (model P w) A (match b with | true => rule "set.scan.the-table-gave-way" | false => pure ()) Q' E s₁ := fun b s₁ Q' q => gave b q
    refine wpAny_bind (gave gv ?_)
    split
    · refine wpAny_bind ?_
      rw [hashByValue_scannable 8 sc]
      refine wpAny_pure (txt_tail give ho r.ex r.dat q1 q2 q3 q4 ?_ ?_ ?_ fun h' sb c => ?_)
      · split
        · exact SetTable.fits_plain_off z2
        · exact z2
      · split <;> exact z3
      · split <;> exact q7
      · dsimp only
        exact wpAny_pure (done h' sb c)
    · refine wpAny_bind (wpAny_pure ?_)
      simp only [↓reduceIte]
      refine txt_tail give ho r.ex r.dat q1 q2 q3 q4 z2 z3 q7 fun h' sb c => ?_
      dsimp only
      exact wpAny_pure (done h' sb c)
/-- found.add(x) -/
theorem txt_add {x : Str} {tk : Tok} {Q : Value → Shared → Prop} (R : TxtSet w s.heap a S n) (room : n + 1 < scanBound)
    (hQ : ∀ h', Heap.SameBut a s.heap h' → TxtSet w h' a (fun y => S y || decide (y = x)) (if S x = true then n else n + 1) → Q .none { s with heap := h', toks := s.toks + 1 }) :
    wpAny (model P w) A (call (.builtin "set.add") [.ref a, .str x tk]) Q E s := by
  refine wpAny_call_entry F.slot_set_add (TxtSet.setOf (P := P) R).typeIs F.entry_set_add ?_ (F.args_set_add_2 _ _)
  unfold Builtin.«set.add» Builtin.Frozenset.oneOther
  simp only [List.isEmpty_nil, bind_assoc]
  unfold Builtin.Frozenset.addrOf setAdd
  refine wpAny_bind (wpAny_pure ?_)
  try dsimp only
  refine wpAny_bind (wpAny_pure ?_)
  try dsimp only
  refine wpAny_bind (wpAny_holding (wpAny_bind ((PySem.strKind P w).pyHash (k := x) (strKind_is P w x tk) ?_)))
  refine txt_hashed (s := { s with toks := s.toks + 1 }) R room fun h' sb c => ?_
  show wpAny _ _ (ret Value.none) _ _ _
  exact wpAny_pure ⟨_, rfl, hQ h' sb c⟩
theorem strs_of : ∀ (l : List (Int × Value)), (∀ e ∈ l, TxtE w e) → StrsAre (l.map (·.2)) (l.map txt)
  | [], _ => .nil
  | e :: l, h => by
    obtain ⟨x, tk, q, _⟩ := h e List.mem_cons_self
    have e1 : txt e = x := by unfold txt; rw [q]
    rw [List.map_cons, List.map_cons, e1, q]
    exact .cons x tk (strs_of l fun u hu => h u (List.mem_cons_of_mem _ hu))
theorem strs_perm : ∀ {vs us : List Value} {xs : List Str}, vs.Perm us → StrsAre us xs → ∃ ys, StrsAre vs ys ∧ ys.Perm xs := by
  intro vs us xs p
  induction p generalizing xs with
  | nil => exact fun h => ⟨xs, h, List.Perm.refl _⟩
  | cons v _ ih =>
    intro h
    cases h with
    | cons x t r =>
      obtain ⟨ys, h1, h2⟩ := ih r
      exact ⟨x :: ys, .cons x t h1, h2.cons x⟩
  | swap v u l =>
    intro h
    cases h with
    | cons x t r =>
      cases r with
      | cons y t' r => exact ⟨y :: x :: _, .cons y t' (.cons x t r), List.Perm.swap _ _ _⟩
  | trans _ _ ih1 ih2 =>
    intro h
    obtain ⟨ys, h1, h2⟩ := ih2 h
    obtain ⟨zs, g1, g2⟩ := ih1 h1
    exact ⟨zs, g1, g2.trans h2⟩
theorem strs_len : ∀ {vs : List Value} {xs : List Str}, StrsAre vs xs → vs.length = xs.length
  | _, _, .nil => rfl
  | _, _, .cons _ _ r => by rw [List.length_cons, List.length_cons, strs_len r]
/-- sorted(found), fewer than 64 members -/
theorem txt_sorted {Q : Value → Shared → Prop} (R : TxtSet w s.heap a S n) (hh : A.handled = none) (h64 : n < 64)
    (hQ : ∀ s' p (out : Array Value) (c : Nat) (ys : List Str), (∀ b o, s.heap.get? b = some o → s'.heap.get? b = some o) → s'.gens = s.gens → s'.os = s.os → s.heap.objs.size ≤ p →
      s'.heap.get? p = some (seqObj "list" out c) → StrsAre out.toList ys → sortedS ys = true → ys.Nodup → (∀ x, x ∈ ys ↔ S x = true) → ys.length = n → Q (.ref p) s') :
    wpAny (model P w) A (call (.builtin "sorted") [.ref a]) Q E s := by
  obtain ⟨o, es, ep, t, ho, r⟩ := R
  refine Calls.call_function_entry kind_sorted plain_sorted entry_sorted (args_sorted1 _) ?_
  unfold Builtin.«sorted»
  refine wpAny_bind (m := checkCount "sorted" 1 1 _) (wpAny_pure (wpAny_bind (collect_set (A := A.in1) hh ⟨o, ho, r.ex.1, r.dat⟩ r.fit r.few r.ris r.led fun s1 vs k1 hz g1 o1 pm => ?_)))
  obtain ⟨xs, x1, x2⟩ := strs_perm pm (strs_of (w := w) es.toList r.ent)
  have lv : vs.length = n := by rw [pm.length_eq, List.length_map, Array.length_toList, r.num]
  have at1 : (s1.heap.push (seqObj "list" vs.toArray 0)).get? s1.heap.objs.size = some (seqObj "list" vs.toArray 0) := Heap.get?_push_size _ rfl
  refine wpAny_bind (wpAny_newList ?_ (by rw [lv, sizeLine_eq]; omega))
  refine wpAny_bind (wpAny_holding (wpAny_call_entry slot_list_sort ⟨_, at1, rfl⟩ entry_list_sort (list_sort_treeK strKind_oneLt at1 x1.keysOf (fun v₁ v₂ rest e => keyKind_strs (by rw [← e]; exact x1)) (by rw [lv]; exact h64) fun st' hp hs => ?_) (args_list_sort _)))
  obtain ⟨ys, y1, y2, y3⟩ := sorted_out_str x1 hp hs
  obtain ⟨c, hc⟩ := sortedHeap_at (vs := vs) (out := (arrOf st').map (·.2)) at1
  have pn : ys.Perm (es.toList.map txt) := y2.trans x2
  refine ⟨_, rfl, wpAny_pure ⟨_, rfl, hQ _ s1.heap.objs.size _ c ys (fun b u e => ?_) g1 o1 hz hc y1 y3 (pn.nodup_iff.mpr r.nd) (fun x => by rw [pn.mem_iff, ← r.mem x]) ?_⟩⟩
  · have old := k1 b u e
    have lt := Heap.lt_size old
    show (sortedHeap (s1.heap.push (seqObj "list" vs.toArray 0)) s1.heap.objs.size vs ((arrOf st').map (·.2))).get? b = some u
    rw [sortedHeap_old (Nat.ne_of_lt lt) (by rw [size_push']; exact Nat.lt_succ_of_lt lt)]
    exact Heap.get?_push_of_some _ old
  · rw [pn.length_eq, List.length_map, Array.length_toList, r.num]
end
/-! ### the layer's rules -/
/-- the set of texts at a -/
def SetX (w : World) (a : Addr) (S : Str → Bool) (n : Nat) : HO := .ext fun h => TxtSet w h a S n
section
variable {X : Cx}
theorem setX_new {P : Program} {w : World} {H : Hp} {h : Heap} {a : Addr} {S : Str → Bool} {n : Nat} (R : TxtSet w h a S n) : ObjOk P w H h a (SetX w a S n) := by
  have ⟨o, _, _, _, ho, _⟩ := R
  exact ⟨R, ⟨o, ho⟩, fun h1 h2 ⟨o, es, ep, t, e, r⟩ k => ⟨o, es, ep, t, k o e, r⟩⟩
theorem setX_get {pins : List (Addr × Obj)} {σ : L2.St} {H : Hp} {s : Shared} {a : Addr} {S : Str → Bool} {n : Nat} (I : Inv X pins σ H s) (ha : H a = some (SetX X.w a S n)) : TxtSet X.w s.heap a S n := (I.hok a _ ha).1
def rSet0X (w : World) : List V → Hp → VK → Prop := fun xs H Q => xs = [] ∧ ∀ p, H p = none → Q (.ref p) (upd H p (SetX w p (fun _ => false) 0))
theorem cr_set0X : CallR X (.type "set") (rSet0X X.w) := by
  intro pins s σ H xs us Q I r h
  obtain ⟨rfl, q⟩ := h
  cases r
  exact setR_new fun _ => ⟨.ref _, _, I.laid (t' := s.toks) (fun b u e => Heap.get?_push_of_some _ e) (Nat.le_refl _) (setX_new (txt_fresh X.w)), rfl, q _ (I.hok.fresh (Nat.le_refl _))⟩
def rSAddX (w : World) : V → List V → Hp → VK → Prop := fun x xs H Q => ∃ (a : Addr) (z : Str) (S : Str → Bool) (n : Nat), x = V.ref a ∧ xs = [.str z] ∧ H a = some (SetX w a S n) ∧ n + 1 < scanBound ∧
  Q .non (upd H a (SetX w a (fun y => S y || decide (y = z)) (if S z = true then n else n + 1)))
theorem mt_saddX : MtR X "set.add" (rSAddX X.w) := by
  intro pins s σ H x xs v us Q I rx rxs h
  obtain ⟨a, z, S, n, rfl, rfl, ha, room, q⟩ := h
  cases rx
  cases rxs with
  | cons ry rt =>
    cases rt
    obtain ⟨tk, rfl⟩ := ry
    refine txt_add (setX_get I ha) room fun h' sb c => ?_
    have he : ∃ u, h'.get? a = some u := let ⟨o, _, _, _, ho, _⟩ := c; ⟨o, ho⟩
    exact ⟨.non, _, I.write (e := a) (t' := s.toks + 1) (by rw [ha]; trivial) (Or.inl rfl) (fun b u hb hu => (sb.2 b hb).trans hu) he (setX_new c), rfl, q⟩
def tSAddX (w : World) (to : TE) (t : TA) : TE := fun σ H Q => to σ H fun x H1 => (∃ a S n, x = V.ref a ∧ H1 a = some (SetX w a S n)) ∧ t σ H1 fun xs H2 => rSAddX w x xs H2 Q
theorem pe_saddX {o e : Expr} {es : List Expr} {to : TE} {t : TA} {apos cpos : Pos} (ho : PE X o to) (ha : PA X (e :: es) t) (hbase : attributeBase o "add" X.env (eval o X.env) = eval o X.env := by rfl)
    (hfew : ((backTo cpos (starEach (e :: es) X.env)).all (fun x => !x.1) && (backToKw cpos (keywordEach [] X.env)).all (fun x => x.1.isSome) && decide ((e :: es).length + ([] : List Keyword).length + (if ([] : List Keyword).isEmpty then 0 else 1) < 30)) = true := by rfl)
    (hline : (apos.endLine == cpos.line) = true := by rfl) (hst : starEach (e :: es) X.env = (false, eval e X.env) :: starEach es X.env := by rfl) (hpl : (backTo cpos (starEach es X.env)).any (·.1) = false := by rfl) :
    PE X (.Call (.Attribute o "add" apos) (e :: es) [] cpos) (tSAddX X.w to t) := by
  refine ⟨fun pins s σ H Q I h => wpAny_Call_method_late hbase hfew hline rfl (thn (ho.run pins s σ H _ I h) fun v s1 ⟨x, H1, I1, r1, ty, q1⟩ => ?_)⟩
  obtain ⟨a, S, n, rfl, hka⟩ := ty
  have hS := TxtSet.setOf (P := X.prog) (setX_get I1 hka)
  cases r1
  refine ⟨"set", "set.add", F.plainAttrs_set, F.slot_set_add, F.type_set_add, hS.typeIs, hS.noDict, ?_⟩
  have hA := ha.run cpos pins s1 σ H1 _ I1 q1
  rw [hst] at hA ⊢
  exact Calls.callWith_builtin (by show (false || (backTo cpos (starEach es X.env)).any (·.1)) = false; rw [hpl]; rfl) (Calls.evalArgs_plain (thn hA fun us s2 ⟨vs, H2, I2, r2, q2⟩ => mt_saddX pins s2 σ H2 (.ref a) vs (.ref a) us Q I2 rfl r2 q2))
/-- sorted(found), fewer than 64 members -/
def rSortX (w : World) : List V → Hp → VK → Prop := fun vs H Q => ∃ (a : Addr) (S : Str → Bool) (n : Nat), vs = [V.ref a] ∧ H a = some (SetX w a S n) ∧ n < 64 ∧
  ∀ (ys : List Str) (p : Addr), sortedS ys = true → ys.Nodup → (∀ x, x ∈ ys ↔ S x = true) → H p = none → Q (.ref p) (upd H p (.lst (ys.map V.str)))
theorem cr_sortX (hc : X.calm = true) : CallR X (.builtin "sorted") (rSortX X.w) := by
  intro pins s σ H vs us Q I r h
  obtain ⟨a, S, n, rfl, ha, h64, q⟩ := h
  rw [Vals.ref1 r]
  refine txt_sorted (setX_get I ha) (I.ok.hd hc) h64 fun s' p out c ys k g o hp hg hi hs hnd hm hl => ?_
  have free : H p = none := I.hok.fresh hp
  have fits : (ys.map V.str).length ≤ sizeLine := by rw [List.length_map, hl, sizeLine_eq]; omega
  have J : Inv X pins σ (upd H p (.lst (ys.map V.str))) { s with heap := s'.heap, gens := s'.gens, drawn := s'.drawn, toks := s'.toks } :=
    I.call (ch := []) (Un.laid k hp free) (I.hok.laid k hp ⟨fits, out.toList, c, vals_of_strs hi, hg⟩) (by rw [g]; exact I.bare) (fun _ z => by cases z)
  have e : s' = { s with heap := s'.heap, gens := s'.gens, drawn := s'.drawn, toks := s'.toks } := by
    obtain ⟨_, _, _, _, _⟩ := s'
    obtain ⟨_, _, _, _, _⟩ := s
    cases o
    rfl
  rw [e]
  exact ⟨.ref p, _, J, rfl, q ys p hs hnd hm free⟩
end
end Lm
/-! Rows one behind another, at any depth; what one row asks for, sets, may do. -/
namespace Lm
open PySem L2
theorem ifT {c : Bool} {A B : Prop} (hc : c = true) (h : A) : if c = true then A else B := (if_pos hc).symm ▸ h
theorem ifF {c : Bool} {A B : Prop} (hc : c = false) (h : B) : if c = true then A else B := by
  subst hc
  exact iteF h
mutual
def Row.flat : Row → List Row
  | .lt to sg a b => [.lt to sg a b]
  | .sy a => [.sy a]
  | .bk kd ts rs => .bk kd ts rs :: flats rs
def flats : List Row → List Row
  | [] => []
  | r :: rs => r.flat ++ flats rs
end
mutual
theorem Row.flat_len : ∀ r : Row, r.flat.length = r.tot
  | .lt _ _ _ _ => rfl
  | .sy _ => rfl
  | .bk _ _ rs => by
    show (flats rs).length + 1 = tots rs + 1
    rw [flats_len rs]
theorem flats_len : ∀ rs : List Row, (flats rs).length = tots rs
  | [] => rfl
  | r :: rs => by
    show (r.flat ++ flats rs).length = r.tot + tots rs
    rw [List.length_append, Row.flat_len r, flats_len rs]
end
/-- the values that one row asks for -/
def Row.asks : Row → List V
  | .lt _ _ a b => [a.v, b.v]
  | .sy a => [a.v]
  | .bk _ ts _ => [ts]
def Vl.nought : Vl → Bool
  | .nm _ => true
  | .nu i => decide (i = 0)
def Row.fails : Row → Bool
  | .lt _ sg _ b => decide (sg = "/") && b.nought
  | _ => false
def Row.says : Row → Bool
  | .sy _ => true
  | _ => false
theorem kd_let {kd : Str} (h : kd ∈ kinds) : decide (V.str kd = V.str "let") = false := by
  simp only [kinds, List.mem_cons, List.not_mem_nil, or_false] at h
  rcases h with e | e | e <;> (rw [e]; decide +kernel)
theorem kd_say {kd : Str} (h : kd ∈ kinds) : decide (V.str kd = V.str "say") = false := by
  simp only [kinds, List.mem_cons, List.not_mem_nil, or_false] at h
  rcases h with e | e | e <;> (rw [e]; decide +kernel)
theorem kd_in {kd : Str} (h : kd ∈ kinds) : inV (.str kd) (kinds.map V.str) = true := by
  simp only [kinds, List.mem_cons, List.not_mem_nil, or_false] at h
  rcases h with e | e | e <;> (rw [e]; decide +kernel)
theorem let_in : inV (.str "let") (kinds.map V.str) = false := by decide +kernel
theorem say_in : inV (.str "say") (kinds.map V.str) = false := by decide +kernel
theorem kinds_flat : (kinds.map V.str).all flatV = true := by decide +kernel
theorem oks_flats {ss : List Str} : ∀ {rs : List Row}, oks ss rs → oks ss (flats rs)
  | rs, h => go rs h
where
  go1 : ∀ (r : Row), r.ok ss → oks ss r.flat
    | .lt _ _ _ _, h => ⟨h, True.intro⟩
    | .sy _, h => ⟨h, True.intro⟩
    | .bk _ _ rs, h => ⟨h, go rs h.2.2.2⟩
  go : ∀ (rs : List Row), oks ss rs → oks ss (flats rs)
    | [], _ => True.intro
    | r :: rs, h => oks_app (go1 r h.1) (go rs h.2)
theorem flats_app : ∀ {rs qs : List Row}, flats (rs ++ qs) = flats rs ++ flats qs
  | [], _ => rfl
  | r :: rs, qs => by
    show r.flat ++ flats (rs ++ qs) = (r.flat ++ flats rs) ++ flats qs
    rw [flats_app, List.append_assoc]
end Lm
/-! What is found, name by name. -/
namespace Lm
open PySem L2
theorem nodup_le : ∀ {l m : List Str}, l.Nodup → (∀ x ∈ l, x ∈ m) → l.length ≤ m.length
  | [], _, _, _ => Nat.zero_le _
  | x :: l, m, nd, h => by
    obtain ⟨h1, h2⟩ := List.nodup_cons.mp nd
    have hx : x ∈ m := h x List.mem_cons_self
    have ih := nodup_le (l := l) (m := m.erase x) h2 fun y hy => (List.mem_erase_of_ne (fun e => h1 (by rw [← e]; exact hy))).mpr (h y (List.mem_cons_of_mem _ hy))
    rw [List.length_erase_of_mem hx] at ih
    have := List.length_pos_of_mem hx
    show l.length + 1 ≤ m.length
    omega
/-- at F a set of the texts ns, all of them of ss -/
structure Fnd (w : World) (F : Addr) (H : Hp) (ss ns : List Str) : Prop where
  at_ : ∃ S n, H F = some (SetX w F S n) ∧ (∀ x, S x = true ↔ x ∈ ns) ∧ n = ns.length
  nd : ns.Nodup
  sub : ∀ x ∈ ns, x ∈ ss
theorem Fnd.few {w : World} {F : Addr} {H : Hp} {ss ns : List Str} (h : Fnd w F H ss ns) (hs : ss.length ≤ 60) : ns.length ≤ 60 := Nat.le_trans (nodup_le h.nd h.sub) hs
theorem Fnd.kp {w : World} {F : Addr} {H H' : Hp} {ss ns : List Str} (h : Fnd w F H ss ns) (k : Kp H H') : Fnd w F H' ss ns :=
  let ⟨S, n, h1, h2, h3⟩ := h.at_; ⟨⟨S, n, k.at_ _ _ h1 (fun ps q => by cases q), h2, h3⟩, h.nd, h.sub⟩
theorem Fnd.add {w : World} {F : Addr} {H : Hp} {ss ns : List Str} (h : Fnd w F H ss ns) (hs : ss.length ≤ 60) {z : Str} (hz : z ∈ ss) : ∃ S n ns', H F = some (SetX w F S n) ∧ n + 1 < scanBound ∧
    Fnd w F (upd H F (SetX w F (fun y => S y || decide (y = z)) (if S z = true then n else n + 1))) ss ns' ∧ ∀ x, x ∈ ns' ↔ x ∈ ns ∨ x = z := by
  obtain ⟨S, n, h1, h2, h3⟩ := h.at_
  have few := h.few hs
  have hb : n + 1 < scanBound := by
    rw [h3]
    show ns.length + 1 < 4096
    omega
  by_cases c : z ∈ ns
  · have cS : S z = true := (h2 z).mpr c
    refine ⟨S, n, ns, h1, hb, ⟨⟨_, _, upd_same, fun x => ?_, by rw [if_pos cS]; exact h3⟩, h.nd, h.sub⟩, fun x => ⟨Or.inl, fun e => e.elim id fun e => by rw [e]; exact c⟩⟩
    rw [Bool.or_eq_true, decide_eq_true_eq, h2 x]
    exact ⟨fun e => e.elim id fun e => by rw [e]; exact c, Or.inl⟩
  · have cS : ¬ S z = true := fun e => c ((h2 z).mp e)
    refine ⟨S, n, ns ++ [z], h1, hb, ⟨⟨_, _, upd_same, fun x => ?_, by rw [if_neg cS, List.length_append, h3]; rfl⟩, ?_, fun x hx => ?_⟩, fun x => ?_⟩
    · rw [Bool.or_eq_true, decide_eq_true_eq, h2 x, List.mem_append, List.mem_singleton]
    · rw [List.nodup_append]
      exact ⟨h.nd, by simp, fun a ha b hb e => c (by rw [List.mem_singleton.mp hb] at e; rw [← e]; exact ha)⟩
    · rcases List.mem_append.mp hx with e | e
      · exact h.sub x e
      · rw [List.mem_singleton.mp e]
        exact hz
    · rw [List.mem_append, List.mem_singleton]
/-- the name that one row sets -/
def Row.sets : Row → List Str
  | .lt to _ _ _ => [to]
  | _ => []
theorem Vl.ok_v {ss : List Str} : ∀ {x : Vl}, x.ok ss → (∃ s, x.v = .str s ∧ s ∈ ss) ∨ ∃ i, x.v = .int i
  | .nm s, h => .inl ⟨s, rfl, h⟩
  | .nu i, _ => .inr ⟨i, rfl⟩
theorem Row.asks_ok {ss : List Str} {r : Row} (h : r.ok ss) {v : V} (hv : v ∈ r.asks) : (∃ s, v = .str s ∧ s ∈ ss) ∨ ∃ i, v = .int i := by
  match r, h, hv with
  | .lt to sg a b, h, hv =>
    rcases List.mem_cons.mp hv with e | e
    · rw [e]; exact Vl.ok_v h.2.2.1
    · rw [List.mem_singleton.mp e]; exact Vl.ok_v h.2.2.2
  | .sy a, h, hv => rw [List.mem_singleton.mp hv]; exact Vl.ok_v h
  | .bk kd ts rs, h, hv =>
    obtain ⟨s, e, hs⟩ := h.2.1
    rw [List.mem_singleton.mp hv]
    exact .inl ⟨s, e, hs⟩
/-- the names that some of the rows asks for -/
def askN (rs : List Row) (x : Str) : Prop := ∃ r ∈ rs, V.str x ∈ r.asks
def setN (rs : List Row) (x : Str) : Prop := ∃ r ∈ rs, x ∈ r.sets
theorem askN_one {rs : List Row} {i : Nat} {r : Row} (h : rs[i]? = some r) (x : Str) : askN (rs.take (i + 1)) x ↔ askN (rs.take i) x ∨ V.str x ∈ r.asks := by
  unfold askN
  rw [take_one h]
  simp only [List.mem_append, List.mem_singleton]
  constructor
  · rintro ⟨q, h1 | h1, h2⟩
    · exact .inl ⟨q, h1, h2⟩
    · rw [h1] at h2; exact .inr h2
  · rintro (⟨q, h1, h2⟩ | h2)
    · exact ⟨q, .inl h1, h2⟩
    · exact ⟨r, .inr rfl, h2⟩
theorem setN_one {rs : List Row} {i : Nat} {r : Row} (h : rs[i]? = some r) (x : Str) : setN (rs.take (i + 1)) x ↔ setN (rs.take i) x ∨ x ∈ r.sets := by
  unfold setN
  rw [take_one h]
  simp only [List.mem_append, List.mem_singleton]
  constructor
  · rintro ⟨q, h1 | h1, h2⟩
    · exact .inl ⟨q, h1, h2⟩
    · rw [h1] at h2; exact .inr h2
  · rintro (⟨q, h1, h2⟩ | h2)
    · exact ⟨q, .inl h1, h2⟩
    · exact ⟨r, .inr rfl, h2⟩
end Lm
/-! Sorted lists of texts are one; what the law gathers. -/
namespace Lm
open PySem L2 PyProof.Rows
theorem ltc (a b : Str) : Spec.ltCps a.cps.toList b.cps.toList = decide (a.cps.toList < b.cps.toList) := PyProof.Rows.ltCps_eq _ _
theorem rising_pw : ∀ (r : List Str) (p : Str), risingS p r = true → (p :: r).Pairwise (fun a b => ¬ b.cps.toList < a.cps.toList)
  | [], p, _ => by simp
  | x :: r, p, h => by
    have h' : (!Spec.ltCps x.cps.toList p.cps.toList && risingS x r) = true := h
    rw [Bool.and_eq_true, ltc] at h'
    have h1 : ¬ x.cps.toList < p.cps.toList := by
      intro z
      rw [decide_eq_true z] at h'
      exact Bool.noConfusion h'.1
    have ih := rising_pw r x h'.2
    refine List.pairwise_cons.mpr ⟨fun y hy => ?_, ih⟩
    rcases List.mem_cons.mp hy with e | hy
    · rw [e]; exact h1
    · intro z
      have h2 := (List.pairwise_cons.mp ih).1 y hy
      rcases List.le_iff_lt_or_eq.mp (List.not_lt.mp h2) with q | q
      · exact h1 (List.lt_trans q z)
      · rw [← q] at z
        exact h1 z
theorem sorted_pw {l : List Str} (h : sortedS l = true) : l.Pairwise (fun a b => ¬ b.cps.toList < a.cps.toList) := by
  cases l with
  | nil => exact List.Pairwise.nil
  | cons x r => exact rising_pw r x h
theorem sorted_one {l m : List Str} (h1 : sortedS l = true) (h2 : sortedS m = true) (n1 : l.Nodup) (n2 : m.Nodup) (h : ∀ x, x ∈ l ↔ x ∈ m) : l = m :=
  List.Perm.eq_of_pairwise (fun a b _ _ q1 q2 => str_eq (List.le_antisymm (List.not_lt.mp q1) (List.not_lt.mp q2))) (sorted_pw h1) (sorted_pw h2) ((List.perm_ext_iff_of_nodup n1 n2).mpr h)
theorem alk_strs {K : PySem.W.Frag} {H : Hp} {p q : Addr} {ys : List Str} (h1 : SqL K H p (ys.map V.str)) (h2 : SqL K H q (ys.map V.str)) (hl : ys.length ≤ 10000) : Alk K H 2 (.ref p) (.ref q) := by
  refine Or.inr (.inr (.inl ⟨p, q, _, _, rfl, rfl, h1, h2, rfl, by rw [List.length_map]; exact hl, fun i a b ha hb => ?_⟩))
  rw [ha] at hb
  cases hb
  rw [List.getElem?_map] at ha
  cases e : ys[i]? with
  | none => rw [e] at ha; cases ha
  | some y =>
    rw [e] at ha
    cases ha
    exact alk_str y
/-- a dict whose values are all True -/
def dkv (ks : List Key) : List (Key × V) := ks.map fun k => (k, V.bl true)
theorem dkv_keys (ks : List Key) : (dkv ks).map (·.1) = ks := by
  unfold dkv
  rw [List.map_map]
  exact List.map_id ks
theorem dkv_put (ks : List Key) (k : Key) : ∃ ks', putK (dkv ks) k (V.bl true) = dkv ks' ∧ (ks.Nodup → ks'.Nodup) ∧ (∀ j, j ∈ ks' ↔ j ∈ ks ∨ j = k) ∧ ks'.length ≤ ks.length + 1 := by
  have ea : ((dkv ks).any fun kv => decide (kv.1 = k)) = true ↔ k ∈ ks := by
    unfold dkv
    rw [List.any_map, List.any_eq_true]
    exact ⟨fun ⟨x, h1, h2⟩ => by rw [← of_decide_eq_true h2]; exact h1, fun h => ⟨k, h, decide_eq_true rfl⟩⟩
  by_cases h : k ∈ ks
  · refine ⟨ks, ?_, id, fun j => ⟨Or.inl, fun e => e.elim id fun e => by rw [e]; exact h⟩, Nat.le_succ _⟩
    unfold putK
    rw [if_pos (ea.mpr h)]
    unfold dkv
    rw [List.map_map]
    refine List.map_congr_left fun x _ => ?_
    show (if x = k then (x, V.bl true) else (x, V.bl true)) = (x, V.bl true)
    split <;> rfl
  · refine ⟨ks ++ [k], ?_, fun n => ?_, fun j => by rw [List.mem_append, List.mem_singleton], by rw [List.length_append]; exact Nat.le_refl _⟩
    · unfold putK
      rw [if_neg (fun z => h (ea.mp z))]
      unfold dkv
      rw [List.map_append]
      rfl
    · rw [List.nodup_append]
      exact ⟨n, by simp, fun a ha b hb e => h (by rw [List.mem_singleton.mp hb] at e; rw [← e]; exact ha)⟩
/-- the keys that some of the rows asks for -/
def askK (rs : List Row) (k : Key) : Prop := ∃ r ∈ rs, kV k ∈ r.asks
def setK (rs : List Row) (k : Key) : Prop := ∃ r ∈ rs, ∃ x ∈ r.sets, k = Sum.inr x
theorem askK_app (rs qs : List Row) (k : Key) : askK (rs ++ qs) k ↔ askK rs k ∨ askK qs k := by
  unfold askK
  simp only [List.mem_append]
  exact ⟨fun ⟨r, h, q⟩ => h.elim (fun h => .inl ⟨r, h, q⟩) fun h => .inr ⟨r, h, q⟩, fun h => h.elim (fun ⟨r, h, q⟩ => ⟨r, .inl h, q⟩) fun ⟨r, h, q⟩ => ⟨r, .inr h, q⟩⟩
theorem setK_app (rs qs : List Row) (k : Key) : setK (rs ++ qs) k ↔ setK rs k ∨ setK qs k := by
  unfold setK
  simp only [List.mem_append]
  exact ⟨fun ⟨r, h, q⟩ => h.elim (fun h => .inl ⟨r, h, q⟩) fun h => .inr ⟨r, h, q⟩, fun h => h.elim (fun ⟨r, h, q⟩ => ⟨r, .inl h, q⟩) fun ⟨r, h, q⟩ => ⟨r, .inr h, q⟩⟩
theorem askK_one (r : Row) (k : Key) : askK [r] k ↔ kV k ∈ r.asks := by simp [askK]
theorem setK_one (r : Row) (k : Key) : setK [r] k ↔ ∃ x ∈ r.sets, k = Sum.inr x := by simp [setK]
theorem askK_N (rs : List Row) (x : Str) : askK rs (Sum.inr x) ↔ askN rs x := Iff.rfl
theorem setK_N (rs : List Row) (x : Str) : setK rs (Sum.inr x) ↔ setN rs x := by
  unfold setK setN
  exact ⟨fun ⟨r, h, y, hy, e⟩ => ⟨r, h, by cases e; exact hy⟩, fun ⟨r, h, hx⟩ => ⟨r, h, x, hx, rfl⟩⟩
theorem kV_inj {j k : Key} (h : kV j = kV k) : j = k := by
  cases j with
  | inl a =>
    cases k with
    | inl b => rw [V.int.inj h]
    | inr b => cases h
  | inr a =>
    cases k with
    | inl b => cases h
    | inr b => rw [V.str.inj h]
theorem Vl.key : ∀ x : Vl, ∃ k, x.v = kV k
  | .nm s => ⟨Sum.inr s, rfl⟩
  | .nu i => ⟨Sum.inl i, rfl⟩
theorem flats_take {rs : List Row} {i : Nat} {r : Row} (h : rs[i]? = some r) : flats (rs.take (i + 1)) = flats (rs.take i) ++ r.flat := by
  rw [take_one h, flats_app]
  show flats (rs.take i) ++ (r.flat ++ []) = _
  rw [List.append_nil]
theorem tots_take {rs : List Row} {i : Nat} {r : Row} (h : rs[i]? = some r) : tots (rs.take (i + 1)) = tots (rs.take i) + r.tot := by
  rw [take_one h, tots_app]
  show tots (rs.take i) + (r.tot + 0) = _
  rw [Nat.add_zero]
theorem tots_take_le (rs : List Row) (i : Nat) : tots (rs.take i) ≤ tots rs := by
  have h := tots_app (rs := rs.take i) (qs := rs.drop i)
  rw [List.take_append_drop] at h
  omega
theorem upd_self {H : Hp} {a : Addr} {o : HO} (h : H a = some o) : upd H a o = H := by
  funext b
  by_cases e : b = a
  · rw [e, upd_same, h]
  · rw [upd_ne e]
end Lm
/-! What a run is, step by step. -/
namespace Lm
open PySem L2
/-- the values of the names -/
abbrev Wh := Str → Option Int
def Wh.get (ρ : Wh) : V → Int
  | .str s => (ρ s).getD 0
  | .int i => i
  | _ => 0
def Wh.set (ρ : Wh) (s : Str) (i : Int) : Wh := fun x => if x = s then some i else ρ x
def comeTo (sg : Str) (a b : Int) : Int :=
  if sg = "+" then (a + b) % 1000000 else if sg = "-" then (a - b) % 1000000 else if sg = "*" then a * b % 1000000 else if sg = "<" then (if a < b then 1 else 0) else a.fdiv b
structure Tale where
  ρ : Wh
  said : List Int
  steps : Nat
def Tale.tick (t : Tale) : Tale := { t with steps := t.steps + 1 }
inductive Ed where
  | done | long | nought
  deriving DecidableEq
def Ed.txt : Ed → Str
  | .done => "done"
  | .long => "too long"
  | .nought => "by nought"
inductive Cmd where
  | one (r : Row)
  | all (rs : List Row)
  | lp (ts : V) (rs : List Row)
/-- what is done, with at most m steps -/
inductive Does (m : Nat) : Cmd → Tale → Tale → Ed → Prop
  | letLong {to sg : Str} {a b : Vl} {t : Tale} : m ≤ t.steps → Does m (.one (.lt to sg a b)) t t .long
  | letNought {to sg : Str} {a b : Vl} {t : Tale} : t.steps < m → sg = "/" → t.ρ.get b.v = 0 → Does m (.one (.lt to sg a b)) t t.tick .nought
  | letDone {to sg : Str} {a b : Vl} {t : Tale} : t.steps < m → ¬ (sg = "/" ∧ t.ρ.get b.v = 0) → Does m (.one (.lt to sg a b)) t { t.tick with ρ := t.ρ.set to (comeTo sg (t.ρ.get a.v) (t.ρ.get b.v)) } .done
  | sayLong {a t} : m ≤ t.steps → Does m (.one (.sy a)) t t .long
  | sayDone {a t} : t.steps < m → Does m (.one (.sy a)) t { t.tick with said := t.said ++ [t.ρ.get a.v] } .done
  | whenLong {kd : Str} {ts : V} {rs : List Row} {t : Tale} : kd = "when" → m ≤ t.steps → Does m (.one (.bk kd ts rs)) t t .long
  | whenNo {kd : Str} {ts : V} {rs : List Row} {t : Tale} : kd = "when" → t.steps < m → t.ρ.get ts = 0 → Does m (.one (.bk kd ts rs)) t t.tick .done
  | whenIn {kd : Str} {ts : V} {rs : List Row} {t t1 : Tale} {e : Ed} : kd = "when" → t.steps < m → t.ρ.get ts ≠ 0 → Does m (.all rs) t.tick t1 e → Does m (.one (.bk kd ts rs)) t t1 e
  | loop {kd : Str} {ts : V} {rs : List Row} {t t1 : Tale} {e : Ed} : kd = "loop" → Does m (.lp ts rs) t t1 e → Does m (.one (.bk kd ts rs)) t t1 e
  | again {kd : Str} {ts : V} {rs : List Row} {t t1 t2 : Tale} {e : Ed} : kd = "again" → Does m (.all rs) t t1 .done → Does m (.lp ts rs) t1 t2 e → Does m (.one (.bk kd ts rs)) t t2 e
  | againStop {kd : Str} {ts : V} {rs : List Row} {t t1 : Tale} {e : Ed} : kd = "again" → Does m (.all rs) t t1 e → e ≠ .done → Does m (.one (.bk kd ts rs)) t t1 e
  | lpLong {ts rs t} : m ≤ t.steps → Does m (.lp ts rs) t t .long
  | lpNo {ts rs t} : t.steps < m → t.ρ.get ts = 0 → Does m (.lp ts rs) t t.tick .done
  | lpRound {ts rs t t1 t2 e} : t.steps < m → t.ρ.get ts ≠ 0 → Does m (.all rs) t.tick t1 .done → Does m (.lp ts rs) t1 t2 e → Does m (.lp ts rs) t t2 e
  | lpStop {ts rs t t1 e} : t.steps < m → t.ρ.get ts ≠ 0 → Does m (.all rs) t.tick t1 e → e ≠ .done → Does m (.lp ts rs) t t1 e
  | nil {t} : Does m (.all []) t t .done
  | cons {r rs t t1 t2 e} : Does m (.one r) t t1 .done → Does m (.all rs) t1 t2 e → Does m (.all (r :: rs)) t t2 e
  | consStop {r rs t t1 e} : Does m (.one r) t t1 e → e ≠ .done → Does m (.all (r :: rs)) t t1 e
theorem wl : ¬ ("when" : Str) = "loop" := by decide +kernel
theorem wa : ¬ ("when" : Str) = "again" := by decide +kernel
theorem la : ¬ ("loop" : Str) = "again" := by decide +kernel
theorem Does.det {m : Nat} {c : Cmd} {t t1 t2 : Tale} {e1 e2 : Ed} (h : Does m c t t1 e1) : Does m c t t2 e2 → t1 = t2 ∧ e1 = e2 := by
  have no1 : ∀ {n : Nat}, n < m → m ≤ n → False := fun h1 h2 => by omega
  induction h generalizing t2 e2 with
  | letLong h1 =>
    intro h2
    cases h2 with
    | letLong => exact ⟨rfl, rfl⟩
    | letNought g1 => exact (no1 g1 h1).elim
    | letDone g1 => exact (no1 g1 h1).elim
  | letNought h1 h3 h4 =>
    intro h2
    cases h2 with
    | letLong g1 => exact (no1 h1 g1).elim
    | letNought => exact ⟨rfl, rfl⟩
    | letDone _ g2 => exact (g2 ⟨h3, h4⟩).elim
  | letDone h1 h3 =>
    intro h2
    cases h2 with
    | letLong g1 => exact (no1 h1 g1).elim
    | letNought _ g2 g3 => exact (h3 ⟨g2, g3⟩).elim
    | letDone => exact ⟨rfl, rfl⟩
  | sayLong h1 =>
    intro h2
    cases h2 with
    | sayLong => exact ⟨rfl, rfl⟩
    | sayDone g1 => exact (no1 g1 h1).elim
  | sayDone h1 =>
    intro h2
    cases h2 with
    | sayLong g1 => exact (no1 h1 g1).elim
    | sayDone => exact ⟨rfl, rfl⟩
  | whenLong hk h1 =>
    intro h2
    cases h2 with
    | whenLong => exact ⟨rfl, rfl⟩
    | whenNo _ g1 => exact (no1 g1 h1).elim
    | whenIn _ g1 => exact (no1 g1 h1).elim
    | loop g => exact (wl (hk.symm.trans g)).elim
    | again g => exact (wa (hk.symm.trans g)).elim
    | againStop g => exact (wa (hk.symm.trans g)).elim
  | whenNo hk h1 h3 =>
    intro h2
    cases h2 with
    | whenLong _ g1 => exact (no1 h1 g1).elim
    | whenNo => exact ⟨rfl, rfl⟩
    | whenIn _ _ g1 => exact (g1 h3).elim
    | loop g => exact (wl (hk.symm.trans g)).elim
    | again g => exact (wa (hk.symm.trans g)).elim
    | againStop g => exact (wa (hk.symm.trans g)).elim
  | whenIn hk h1 h3 _ ih =>
    intro h2
    cases h2 with
    | whenLong _ g1 => exact (no1 h1 g1).elim
    | whenNo _ _ g1 => exact (h3 g1).elim
    | whenIn _ _ _ g1 => exact ih g1
    | loop g => exact (wl (hk.symm.trans g)).elim
    | again g => exact (wa (hk.symm.trans g)).elim
    | againStop g => exact (wa (hk.symm.trans g)).elim
  | loop hk _ ih =>
    intro h2
    cases h2 with
    | whenLong g => exact (wl (g.symm.trans hk)).elim
    | whenNo g => exact (wl (g.symm.trans hk)).elim
    | whenIn g => exact (wl (g.symm.trans hk)).elim
    | loop _ g => exact ih g
    | again g => exact (la (hk.symm.trans g)).elim
    | againStop g => exact (la (hk.symm.trans g)).elim
  | again hk _ _ ih1 ih2 =>
    intro h2
    cases h2 with
    | whenLong g => exact (wa (g.symm.trans hk)).elim
    | whenNo g => exact (wa (g.symm.trans hk)).elim
    | whenIn g => exact (wa (g.symm.trans hk)).elim
    | loop g => exact (la (g.symm.trans hk)).elim
    | again _ g1 g2 =>
      obtain ⟨rfl, _⟩ := ih1 g1
      exact ih2 g2
    | againStop _ g1 g2 =>
      obtain ⟨_, e⟩ := ih1 g1
      exact (g2 e.symm).elim
  | againStop hk _ hn ih =>
    intro h2
    cases h2 with
    | whenLong g => exact (wa (g.symm.trans hk)).elim
    | whenNo g => exact (wa (g.symm.trans hk)).elim
    | whenIn g => exact (wa (g.symm.trans hk)).elim
    | loop g => exact (la (g.symm.trans hk)).elim
    | again _ g1 g2 =>
      obtain ⟨_, e⟩ := ih g1
      exact (hn e).elim
    | againStop _ g1 g2 => exact ih g1
  | lpLong h1 =>
    intro h2
    cases h2 with
    | lpLong => exact ⟨rfl, rfl⟩
    | lpNo g1 => exact (no1 g1 h1).elim
    | lpRound g1 => exact (no1 g1 h1).elim
    | lpStop g1 => exact (no1 g1 h1).elim
  | lpNo h1 h3 =>
    intro h2
    cases h2 with
    | lpLong g1 => exact (no1 h1 g1).elim
    | lpNo => exact ⟨rfl, rfl⟩
    | lpRound _ g1 => exact (g1 h3).elim
    | lpStop _ g1 => exact (g1 h3).elim
  | lpRound h1 h3 _ _ ih1 ih2 =>
    intro h2
    cases h2 with
    | lpLong g1 => exact (no1 h1 g1).elim
    | lpNo _ g1 => exact (h3 g1).elim
    | lpRound _ _ g1 g2 =>
      obtain ⟨rfl, _⟩ := ih1 g1
      exact ih2 g2
    | lpStop _ _ g1 g2 =>
      obtain ⟨_, e⟩ := ih1 g1
      exact (g2 e.symm).elim
  | lpStop h1 h3 _ hn ih =>
    intro h2
    cases h2 with
    | lpLong g1 => exact (no1 h1 g1).elim
    | lpNo _ g1 => exact (h3 g1).elim
    | lpRound _ _ g1 g2 =>
      obtain ⟨_, e⟩ := ih g1
      exact (hn e).elim
    | lpStop _ _ g1 g2 => exact ih g1
  | nil =>
    intro h2
    cases h2
    exact ⟨rfl, rfl⟩
  | cons _ _ ih1 ih2 =>
    intro h2
    cases h2 with
    | cons g1 g2 =>
      obtain ⟨rfl, _⟩ := ih1 g1
      exact ih2 g2
    | consStop g1 g2 =>
      obtain ⟨_, e⟩ := ih1 g1
      exact (g2 e.symm).elim
  | consStop _ hn ih =>
    intro h2
    cases h2 with
    | cons g1 g2 =>
      obtain ⟨_, e⟩ := ih g1
      exact (hn e).elim
    | consStop g1 g2 => exact ih g1
/-- the steps do not fall, and never pass the most -/
theorem Does.steps {m : Nat} {c : Cmd} {t t1 : Tale} {e : Ed} (h : Does m c t t1 e) : t.steps ≤ t1.steps ∧ (t.steps ≤ m → t1.steps ≤ m) := by
  have tk : ∀ t : Tale, t.tick.steps = t.steps + 1 := fun _ => rfl
  induction h with
  | letLong h1 => exact ⟨Nat.le_refl _, id⟩
  | letNought h1 => exact ⟨Nat.le_succ _, fun _ => h1⟩
  | letDone h1 => exact ⟨Nat.le_succ _, fun _ => h1⟩
  | sayLong => exact ⟨Nat.le_refl _, id⟩
  | sayDone h1 => exact ⟨Nat.le_succ _, fun _ => h1⟩
  | whenLong => exact ⟨Nat.le_refl _, id⟩
  | whenNo _ h1 => exact ⟨Nat.le_succ _, fun _ => h1⟩
  | whenIn _ h1 _ _ ih => rw [tk] at ih; omega
  | loop _ _ ih => exact ih
  | again _ _ _ ih1 ih2 => omega
  | againStop _ _ _ ih => exact ih
  | lpLong => exact ⟨Nat.le_refl _, id⟩
  | lpNo h1 => exact ⟨Nat.le_succ _, fun _ => h1⟩
  | lpRound h1 _ _ _ ih1 ih2 => rw [tk] at ih1; omega
  | lpStop h1 _ _ _ ih => rw [tk] at ih; omega
  | nil => exact ⟨Nat.le_refl _, id⟩
  | cons _ _ ih1 ih2 => omega
  | consStop _ _ ih => exact ih
/-! ### values in a dict -/
/-- values from 0 to 999999 -/
def Wh.small (ρ : Wh) : Prop := ∀ x v, ρ x = some v → 0 ≤ v ∧ v < 1000000
theorem Wh.small.at {ρ : Wh} (h : ρ.small) (s : Str) : 0 ≤ (ρ s).getD 0 ∧ (ρ s).getD 0 < 1000000 := by
  cases e : ρ s with
  | none => exact ⟨Int.le_refl _, by decide⟩
  | some v => exact h s v e
theorem Wh.small.vl {ρ : Wh} (h : ρ.small) {ss : List Str} : ∀ {x : Vl}, x.ok ss → 0 ≤ ρ.get x.v ∧ ρ.get x.v < 1000000
  | .nm s, _ => h.at s
  | .nu i, hi => hi
theorem Wh.small.put {ρ : Wh} (h : ρ.small) {s : Str} {i : Int} (h0 : 0 ≤ i) (h1 : i < 1000000) : (ρ.set s i).small := fun x v e => by
  unfold Wh.set at e
  by_cases c : x = s
  · rw [if_pos c] at e
    cases e
    exact ⟨h0, h1⟩
  · rw [if_neg c] at e
    exact h x v e
theorem comeTo_small {sg : Str} {a b : Int} (ha : 0 ≤ a ∧ a < 1000000) (hb : 0 ≤ b ∧ b < 1000000) : 0 ≤ comeTo sg a b ∧ comeTo sg a b < 1000000 := by
  unfold comeTo
  split
  · exact ⟨Int.emod_nonneg _ (by decide), Int.emod_lt_of_pos _ (by decide)⟩
  split
  · exact ⟨Int.emod_nonneg _ (by decide), Int.emod_lt_of_pos _ (by decide)⟩
  split
  · exact ⟨Int.emod_nonneg _ (by decide), Int.emod_lt_of_pos _ (by decide)⟩
  split
  · split <;> exact ⟨by decide, by decide⟩
  · rw [Int.fdiv_eq_ediv_of_nonneg _ hb.1]
    exact ⟨Int.ediv_nonneg ha.1 hb.1, Int.lt_of_le_of_lt (Int.ediv_le_self _ ha.1) ha.2⟩
/-- at d a dict of the values ρ, at most n of them -/
structure DV (o : HO) (ρ : Wh) (n : Nat) : Prop where
  ex : ∃ kvs : List (Key × V), o = .dK kvs ∧ (kvs.map (·.1)).Nodup ∧ (∀ k ∈ kvs.map (·.1), ∃ x, k = Sum.inr x) ∧ (∀ x, valV kvs (Sum.inr x) = (ρ x).map V.int) ∧ kvs.length ≤ n
theorem DV.nil : DV (.dK []) (fun _ => none) 0 := ⟨⟨[], rfl, List.nodup_nil, fun k h => absurd h List.not_mem_nil, fun x => rfl, Nat.le_refl _⟩⟩
theorem putK_keys (kvs : List (Key × V)) (k : Key) (v : V) : (putK kvs k v).map (·.1) = if (valV kvs k).isSome then kvs.map (·.1) else kvs.map (·.1) ++ [k] := by
  cases e : valV kvs k with
  | none =>
    rw [putK_new v e, List.map_append]
    rfl
  | some u =>
    unfold putK
    have h := valV_any k kvs
    rw [e] at h
    have h' : (kvs.any fun kv => decide (kv.1 = k)) = true := h
    rw [if_pos h', List.map_map]
    refine (List.map_congr_left fun x _ => ?_).trans rfl
    show (if x.1 = k then (x.1, v) else x).1 = x.1
    split <;> rfl
theorem DV.put {kvs : List (Key × V)} {ρ : Wh} {n : Nat} (h : DV (.dK kvs) ρ n) (s : Str) (i : Int) : DV (.dK (putK kvs (Sum.inr s) (.int i))) (ρ.set s i) (n + 1) := by
  obtain ⟨kvs', e, h1, h2, h3, h4⟩ := h.ex
  cases e
  refine ⟨⟨_, rfl, ?_, ?_, fun x => ?_, Nat.le_trans (length_putK _ _ _) (Nat.succ_le_succ h4)⟩⟩
  · cases e : valV kvs (Sum.inr s) with
    | none => exact nd_putK _ h1 e
    | some u =>
      rw [putK_keys, e]
      exact h1
  · rw [putK_keys]
    intro k hk
    split at hk
    · exact h2 k hk
    · rcases List.mem_append.mp hk with z | z
      · exact h2 k z
      · exact ⟨s, List.mem_singleton.mp z⟩
  · rw [valV_put]
    unfold Wh.set
    by_cases c : x = s
    · rw [if_pos (by rw [c]), if_pos c]
      rfl
    · rw [if_neg (fun z => c (Sum.inr.inj z)), if_neg c]
      exact h3 x
theorem DV.more {o : HO} {ρ : Wh} {n m : Nat} (h : DV o ρ n) (hm : n ≤ m) : DV o ρ m := let ⟨kvs, a, b, c, d, e⟩ := h.ex; ⟨⟨kvs, a, b, c, d, Nat.le_trans e hm⟩⟩
theorem DV.get {kvs : List (Key × V)} {ρ : Wh} {n : Nat} (h : DV (.dK kvs) ρ n) (s : Str) : (valV kvs (Sum.inr s)).getD (.int 0) = .int ((ρ s).getD 0) := by
  obtain ⟨kvs', e, h1, h2, h3, h4⟩ := h.ex
  cases e
  rw [h3]
  cases ρ s <;> rfl
end Lm
namespace Lm
open PySem L2
theorem lkc {α : Type} (f g : Str) (y : α) (fs : List (Str × α)) : ((f, y) :: fs).lookup g = if g = f then some y else fs.lookup g := by
  by_cases h : g = f
  · subst h
    simp [List.lookup]
  · have e : (g == f) = false := by simpa using h
    rw [if_neg h]
    simp [List.lookup, e]
theorem put_same (f : Str) (v x : V) (r : List (Str × V)) : putF f v ((f, x) :: r) = (f, v) :: r := if_pos rfl
theorem put_next {f g : Str} (h : ¬ g = f) (v x : V) (r : List (Str × V)) : putF f v ((g, x) :: r) = (g, x) :: putF f v r := if_neg h
theorem put_end (f : Str) (v : V) : putF f v [] = [(f, v)] := rfl
/-- the attributes of a run -/
def pf (d s : Addr) (m n : Int) (e : Str) : List (Str × V) := [("worths", .ref d), ("most", .int m), ("steps", .int n), ("said", .ref s), ("ending", .str e)]
section
variable (d s : Addr) (m n : Int) (e : Str)
theorem pf_worths : (pf d s m n e).lookup ("worths" : Str) = some (.ref d) := by
  unfold pf
  rw [lkc, if_pos rfl]
theorem pf_most : (pf d s m n e).lookup ("most" : Str) = some (.int m) := by
  unfold pf
  rw [lkc, if_neg (by decide +kernel), lkc, if_pos rfl]
theorem pf_steps : (pf d s m n e).lookup ("steps" : Str) = some (.int n) := by
  unfold pf
  rw [lkc, if_neg (by decide +kernel), lkc, if_neg (by decide +kernel), lkc, if_pos rfl]
theorem pf_said : (pf d s m n e).lookup ("said" : Str) = some (.ref s) := by
  unfold pf
  rw [lkc, if_neg (by decide +kernel), lkc, if_neg (by decide +kernel), lkc, if_neg (by decide +kernel), lkc, if_pos rfl]
theorem pf_ending : (pf d s m n e).lookup ("ending" : Str) = some (.str e) := by
  unfold pf
  rw [lkc, if_neg (by decide +kernel), lkc, if_neg (by decide +kernel), lkc, if_neg (by decide +kernel), lkc, if_neg (by decide +kernel), lkc, if_pos rfl]
def pfN : List Str := ["worths", "most", "steps", "said", "ending"]
theorem pf_no {x : Str} (h : x ∉ pfN) : (pf d s m n e).lookup x = none := by
  simp only [pfN, List.mem_cons, List.not_mem_nil, or_false, not_or] at h
  unfold pf
  rw [lkc, if_neg h.1, lkc, if_neg h.2.1, lkc, if_neg h.2.2.1, lkc, if_neg h.2.2.2.1, lkc, if_neg h.2.2.2.2]
  rfl
theorem pf_tick (j : Int) : putF "steps" (.int j) (pf d s m n e) = pf d s m j e := by
  unfold pf
  rw [put_next (by decide +kernel), put_next (by decide +kernel), put_same]
theorem pf_end (z : Str) : putF "ending" (.str z) (pf d s m n e) = pf d s m n z := by
  unfold pf
  rw [put_next (by decide +kernel), put_next (by decide +kernel), put_next (by decide +kernel), put_next (by decide +kernel), put_same]
theorem pf_made : putF "ending" (.str e) (putF "said" (.ref s) (putF "steps" (.int n) (putF "most" (.int m) (putF "worths" (.ref d) [])))) = pf d s m n e := by
  unfold pf
  repeat (first | rw [put_end] | rw [put_next (by decide +kernel)])
theorem pf_len : (pf d s m n e).length < 1000 := by
  show 5 < 1000
  decide
end
/-- a run stands at p; Hc: what stood before -/
structure Pr (C : Addr) (Hc H : Hp) (p d s : Addr) (m : Nat) (t : Tale) (e : Str) : Prop where
  ob : ∃ dx, H p = some (.ins C dx (pf d s m t.steps e))
  dc : ∃ kvs, H d = some (.dK kvs) ∧ DV (.dK kvs) t.ρ (100 + t.steps)
  sd : H s = some (.lst (t.said.map V.int))
  sl : t.said.length ≤ t.steps
  st : t.steps ≤ m
  sm : t.ρ.small
  cl : Same Hc H
  cp : Hc p = none
  cd : Hc d = none
  cs : Hc s = none
  mm : m ≤ 100000
section
variable {C : Addr} {Hc H : Hp} {p d s : Addr} {m : Nat} {t : Tale} {e : Str}
theorem Pr.ne (h : Pr C Hc H p d s m t e) : p ≠ d ∧ p ≠ s ∧ d ≠ s := by
  obtain ⟨dx, h1⟩ := h.ob
  obtain ⟨kvs, h2, _⟩ := h.dc
  have h3 := h.sd
  exact ⟨ne_of h1 h2 (by intro z; cases z), ne_of h1 h3 (by intro z; cases z), ne_of h2 h3 (by intro z; cases z)⟩
theorem Pr.keep (h : Pr C Hc H p d s m t e) {b : Addr} (hb : Hc b = none) (o : HO) : Same Hc (upd H b o) := fun c x hc => by
  rw [upd_ne (ne_of_none hc hb)]
  exact h.cl c x hc
theorem Pr.ended (h : Pr C Hc H p d s m t e) {dx : Addr} (z : Str) : Pr C Hc (upd H p (.ins C dx (putF "ending" (.str z) (pf d s m t.steps e)))) p d s m t z := by
  obtain ⟨n1, n2, n3⟩ := h.ne
  obtain ⟨kvs, h2, h3⟩ := h.dc
  exact ⟨⟨dx, by rw [upd_same, pf_end]⟩, ⟨kvs, by rw [upd_ne n1.symm]; exact h2, h3⟩, by rw [upd_ne n2.symm]; exact h.sd, h.sl, h.st, h.sm, h.keep h.cp _, h.cp, h.cd, h.cs, h.mm⟩
theorem Pr.ticked (h : Pr C Hc H p d s m t e) {dx : Addr} (hm : t.steps < m) : Pr C Hc (upd H p (.ins C dx (putF "steps" (.int ((t.steps : Int) + 1)) (pf d s m t.steps e)))) p d s m t.tick e := by
  obtain ⟨n1, n2, n3⟩ := h.ne
  obtain ⟨kvs, h2, h3⟩ := h.dc
  exact ⟨⟨dx, by rw [upd_same, pf_tick]; rfl⟩, ⟨kvs, by rw [upd_ne n1.symm]; exact h2, h3.more (Nat.le_succ _)⟩, by rw [upd_ne n2.symm]; exact h.sd, Nat.le_succ_of_le h.sl, hm, h.sm, h.keep h.cp _, h.cp, h.cd, h.cs, h.mm⟩
/-- behind a step something more is said -/
theorem Pr.says (h : Pr C Hc H p d s m t.tick e) (hl : t.said.length ≤ t.steps) (i : Int) : Pr C Hc (upd H s (.lst (t.said.map V.int ++ [.int i]))) p d s m { t.tick with said := t.said ++ [i] } e := by
  obtain ⟨n1, n2, n3⟩ := h.ne
  obtain ⟨kvs, h2, h3⟩ := h.dc
  obtain ⟨dx, h1⟩ := h.ob
  exact ⟨⟨dx, by rw [upd_ne n2]; exact h1⟩, ⟨kvs, by rw [upd_ne n3]; exact h2, h3⟩, by rw [upd_same, List.map_append]; rfl, by rw [List.length_append]; exact Nat.succ_le_succ hl, h.st, h.sm, h.keep h.cs _, h.cp, h.cd, h.cs, h.mm⟩
/-- behind a step a name gets a value -/
theorem Pr.puts (h : Pr C Hc H p d s m t.tick e) {kvs : List (Key × V)} (hd : H d = some (.dK kvs)) (hv : DV (.dK kvs) t.ρ (100 + t.steps)) (to : Str) {i : Int} (h0 : 0 ≤ i) (h1 : i < 1000000) :
    Pr C Hc (upd H d (.dK (putK kvs (Sum.inr to) (.int i)))) p d s m { t.tick with ρ := t.ρ.set to i } e := by
  obtain ⟨n1, n2, n3⟩ := h.ne
  obtain ⟨dx, g1⟩ := h.ob
  exact ⟨⟨dx, by rw [upd_ne n1]; exact g1⟩, ⟨_, upd_same, hv.put to i⟩, by rw [upd_ne n3.symm]; exact h.sd, h.sl, h.st, h.sm.put h0 h1, h.keep h.cd _, h.cp, h.cd, h.cs, h.mm⟩
end
theorem Does.app {m : Nat} : ∀ {xs ys : List Row} {t t1 t2 : Tale} {e : Ed}, Does m (.all xs) t t1 .done → Does m (.all ys) t1 t2 e → Does m (.all (xs ++ ys)) t t2 e
  | [], ys, t, t1, t2, e, h, g => by
    cases h
    exact g
  | x :: xs, ys, t, t1, t2, e, h, g => by
    cases h with
    | cons h1 h2 => exact .cons h1 (Does.app h2 g)
    | consStop _ h2 => exact absurd rfl h2
/-- behind the rows so far one row that goes on -/
theorem Does.step {m : Nat} {rs : List Row} {i : Nat} {r : Row} {t t1 t2 : Tale} (h : Does m (.all (rs.take i)) t t1 .done) (hi : rs[i]? = some r) (g : Does m (.one r) t1 t2 .done) : Does m (.all (rs.take (i + 1))) t t2 .done := by
  rw [take_one hi]
  exact h.app (.cons g .nil)
/-- or that ends the run -/
theorem Does.stop {m : Nat} {rs : List Row} {i : Nat} {r : Row} {t t1 t2 : Tale} {e : Ed} (h : Does m (.all (rs.take i)) t t1 .done) (hi : rs[i]? = some r) (g : Does m (.one r) t1 t2 e) (he : e ≠ .done) : Does m (.all rs) t t2 e := by
  have e1 : rs = rs.take i ++ r :: rs.drop (i + 1) := by
    have := List.take_append_drop i rs
    have h2 : rs.drop i = r :: rs.drop (i + 1) := by
      obtain ⟨hl, hx⟩ := List.getElem?_eq_some_iff.mp hi
      rw [List.drop_eq_getElem_cons hl, hx]
    rw [← h2, this]
  rw [e1]
  exact h.app (.consStop g he)
theorem Does.round {m : Nat} {kd : Str} {ts : V} {rs : List Row} {t t1 t2 : Tale} {e : Ed} (hk : kd = "again") (h : Does m (.all rs) t t1 .done) (hm : t1.steps < m) (hx : t1.ρ.get ts ≠ 0) (g : Does m (.one (.bk kd ts rs)) t1.tick t2 e) : Does m (.one (.bk kd ts rs)) t t2 e := by
  cases g with
  | whenLong z => exact absurd (z.symm.trans hk) wa
  | whenNo z => exact absurd (z.symm.trans hk) wa
  | whenIn z => exact absurd (z.symm.trans hk) wa
  | loop z => exact absurd (z.symm.trans hk) la
  | again _ g1 g2 => exact .again hk h (.lpRound hm hx g1 g2)
  | againStop _ g1 g2 => exact .again hk h (.lpStop hm hx g1 g2)
theorem none_left {P : Program} {w : World} {K : PySem.W.Frag} {mg : Str → Option Value} {base : Heap} {f : Addr} {fd : FuncData} {k : Nat} {ps : List Str} {sp : Sp} (no : ∀ vs H Q E, ¬ sp vs H Q E) : FnOk P w K mg base CX0 k f fd ps sp :=
  ⟨fun vs H Q E h => absurd h (no vs H Q E), fun A outer s H args us vs Q E _ _ _ _ h => absurd h (no vs H Q E)⟩
/-- a method by its name -/
structure Mt (K : PySem.W.Frag) (C : Addr) (x q : Str) (st : Stmt) (ps : List Str) (f : Addr) (fd : FuncData) : Prop where
  fn : Fun K x q st f fd
  me : Meth K C x f
  b : Binds K fd ps []
theorem DV.nodupV {kvs : List (Key × V)} {ρ : Wh} {n : Nat} (h : DV (.dK kvs) ρ n) {i : Nat} {k : Key} {v : V} (hi : kvs[i]? = some (k, v)) : valV kvs k = some v := by
  obtain ⟨kvs', e, h1, _⟩ := h.ex
  cases e
  exact val_nodup h1 (k, v) (List.mem_of_getElem? hi)
theorem nodup_len {α : Type} [DecidableEq α] : ∀ {l m : List α}, l.Nodup → (∀ x ∈ l, x ∈ m) → l.length ≤ m.length
  | [], _, _, _ => Nat.zero_le _
  | x :: l, m, nd, h => by
    obtain ⟨h1, h2⟩ := List.nodup_cons.mp nd
    have hx : x ∈ m := h x List.mem_cons_self
    have ih := nodup_len (l := l) (m := m.erase x) h2 fun y hy => (List.mem_erase_of_ne (fun e => h1 (by rw [← e]; exact hy))).mpr (h y (List.mem_cons_of_mem _ hy))
    rw [List.length_erase_of_mem hx] at ih
    have := List.length_pos_of_mem hx
    show l.length + 1 ≤ m.length
    omega
theorem DV.same {ka kb : List (Key × V)} {ρ : Wh} {n m : Nat} (a : DV (.dK ka) ρ n) (b : DV (.dK kb) ρ m) : ka.length = kb.length ∧ ∀ p ∈ kb, ∃ x z, p = (Sum.inr x, V.int z) ∧ valV ka (Sum.inr x) = some (V.int z) := by
  have sub : ∀ {la lb : List (Key × V)} {n m : Nat}, DV (.dK la) ρ n → DV (.dK lb) ρ m → ∀ p ∈ la, ∃ x z, p = (Sum.inr x, V.int z) ∧ valV lb (Sum.inr x) = some (V.int z) := fun {la lb _ _} ha hb p hp => by
    obtain ⟨l1, e1, a1, a2, a3, a4⟩ := ha.ex
    obtain ⟨l2, e2, b1, b2, b3, b4⟩ := hb.ex
    cases e1
    cases e2
    obtain ⟨x, ex⟩ := a2 p.1 (List.mem_map_of_mem hp)
    have q := val_nodup a1 p hp
    rw [ex, a3] at q
    cases ez : ρ x with
    | none => rw [ez] at q; cases q
    | some z =>
      rw [ez] at q
      have q2 : V.int z = p.2 := Option.some.inj q
      exact ⟨x, z, Prod.ext ex q2.symm, by rw [b3, ez]; rfl⟩
  have le : ∀ {la lb : List (Key × V)} {n m : Nat}, DV (.dK la) ρ n → DV (.dK lb) ρ m → la.length ≤ lb.length := fun {la lb _ _} ha hb => by
    obtain ⟨l1, e1, a1, _⟩ := ha.ex
    cases e1
    have z := nodup_len (m := lb.map (·.1)) a1 fun k hk => by
      obtain ⟨p, hp, rfl⟩ := List.mem_map.mp hk
      obtain ⟨x, z, e, q⟩ := sub ha hb p hp
      rw [e]
      exact valV_in q
    rw [List.length_map, List.length_map] at z
    exact z
  exact ⟨Nat.le_antisymm (le a b) (le b a), sub b a⟩
/-- a new object, by a name for the heap with it -/
theorem newH {H : Hp} {p : Addr} (hp : H p = none) (o : HO) : ∃ H', upd H p o = H' ∧ Same H H' ∧ H' p = some o := ⟨_, rfl, same_new hp o, upd_same⟩
/-- a change at a place that is not of the base -/
theorem same_put {B H : Hp} (s : Same B H) {p : Addr} (hp : B p = none) (o : HO) : Same B (upd H p o) := fun b u hb => by
  rw [upd_ne (ne_of_none hb hp)]
  exact s b u hb
theorem DV.few {kvs : List (Key × V)} {ρ : Wh} {n : Nat} (h : DV (.dK kvs) ρ n) : kvs.length ≤ n := by
  obtain ⟨kvs', e, _, _, _, hl⟩ := h.ex
  cases e
  exact hl
theorem DV.tight {kvs : List (Key × V)} {ρ : Wh} {n : Nat} (h : DV (.dK kvs) ρ n) : DV (.dK kvs) ρ kvs.length := by
  obtain ⟨kvs', e, h1, h2, h3, _⟩ := h.ex
  cases e
  exact ⟨⟨kvs, rfl, h1, h2, h3, Nat.le_refl _⟩⟩
end Lm
/-! The law's own tale of a run: a dict. -/
namespace Lm
open PySem L2
def tk (d s : Addr) (n m : Int) (e : Str) : List (Key × V) := [(Sum.inr "values", .ref d), (Sum.inr "said", .ref s), (Sum.inr "steps", .int n), (Sum.inr "most", .int m), (Sum.inr "ending", .str e)]
theorem kne {x y : Str} (h : ¬ x = y) : ¬ (Sum.inr x : Key) = Sum.inr y := fun z => h (Sum.inr.inj z)
section
variable (d s : Addr) (n m : Int) (e : Str)
theorem tk_values : valV (tk d s n m e) (Sum.inr "values") = some (.ref d) := by
  unfold tk
  rw [valV_pos rfl]
theorem tk_said : valV (tk d s n m e) (Sum.inr "said") = some (.ref s) := by
  unfold tk
  rw [valV_neg (kne (by decide +kernel)), valV_pos rfl]
theorem tk_steps : valV (tk d s n m e) (Sum.inr "steps") = some (.int n) := by
  unfold tk
  rw [valV_neg (kne (by decide +kernel)), valV_neg (kne (by decide +kernel)), valV_pos rfl]
theorem tk_most : valV (tk d s n m e) (Sum.inr "most") = some (.int m) := by
  unfold tk
  rw [valV_neg (kne (by decide +kernel)), valV_neg (kne (by decide +kernel)), valV_neg (kne (by decide +kernel)), valV_pos rfl]
theorem tk_ending : valV (tk d s n m e) (Sum.inr "ending") = some (.str e) := by
  unfold tk
  rw [valV_neg (kne (by decide +kernel)), valV_neg (kne (by decide +kernel)), valV_neg (kne (by decide +kernel)), valV_neg (kne (by decide +kernel)), valV_pos rfl]
theorem putK_hit {kvs : List (Key × V)} {k : Key} (v : V) (h : (valV kvs k).isSome = true) : putK kvs k v = kvs.map (fun kv => if kv.1 = k then (kv.1, v) else kv) := by
  unfold putK
  rw [valV_any]
  exact if_pos h
theorem tk_tick (j : Int) : putK (tk d s n m e) (Sum.inr "steps") (.int j) = tk d s j m e := by
  rw [putK_hit _ (by rw [tk_steps]; rfl)]
  unfold tk
  dsimp only [List.map]
  rw [if_neg (kne (by decide +kernel)), if_neg (kne (by decide +kernel)), if_pos rfl, if_neg (kne (by decide +kernel)), if_neg (kne (by decide +kernel))]
theorem tk_end (z : Str) : putK (tk d s n m e) (Sum.inr "ending") (.str z) = tk d s n m z := by
  rw [putK_hit _ (by rw [tk_ending]; rfl)]
  unfold tk
  dsimp only [List.map]
  rw [if_neg (kne (by decide +kernel)), if_neg (kne (by decide +kernel)), if_neg (kne (by decide +kernel)), if_neg (kne (by decide +kernel)), if_pos rfl]
end
theorem merge_nodup : ∀ (more acc : List (Key × V)), ((acc ++ more).map (·.1)).Nodup → mergeK acc more = acc ++ more
  | [], acc, _ => (List.append_nil acc).symm
  | p :: r, acc, h => by
    have no : valV acc p.1 = none := by
      cases e : valV acc p.1 with
      | none => rfl
      | some u =>
        have hin := valV_in e
        rw [List.map_append, List.nodup_append] at h
        exact absurd rfl (h.2.2 _ hin _ (by simp))
    have e1 : acc ++ p :: r = (acc ++ [p]) ++ r := by simp
    show mergeK (putK acc p.1 p.2) r = _
    rw [putK_new _ no, e1]
    exact merge_nodup r _ (by rw [e1] at h; exact h)
theorem tk_made (d s : Addr) (n m : Int) (e : Str) : mergeK [] (tk d s n m e) = tk d s n m e := by
  refine merge_nodup _ [] ?_
  show ([Sum.inr "values", Sum.inr "said", Sum.inr "steps", Sum.inr "most", Sum.inr "ending"] : List Key).Nodup
  decide +kernel
/-- a tale stands at a; Hc: what stood before -/
structure Tl (Hc H : Hp) (a d s : Addr) (m : Nat) (t : Tale) (e : Str) : Prop where
  ob : H a = some (.dK (tk d s t.steps m e))
  nad : a ≠ d
  dc : ∃ kvs, H d = some (.dK kvs) ∧ DV (.dK kvs) t.ρ (100 + t.steps)
  sd : H s = some (.lst (t.said.map V.int))
  sl : t.said.length ≤ t.steps
  st : t.steps ≤ m
  sm : t.ρ.small
  cl : Same Hc H
  ca : Hc a = none
  cd : Hc d = none
  cs : Hc s = none
  mm : m ≤ 100000
section
variable {Hc H : Hp} {a d s : Addr} {m : Nat} {t : Tale} {e : Str}
theorem Tl.ne (h : Tl Hc H a d s m t e) : a ≠ d ∧ a ≠ s ∧ d ≠ s := by
  obtain ⟨kvs, h2, _⟩ := h.dc
  exact ⟨h.nad, ne_of h.ob h.sd (by intro z; cases z), ne_of h2 h.sd (by intro z; cases z)⟩
theorem Tl.keep (h : Tl Hc H a d s m t e) {b : Addr} (hb : Hc b = none) (o : HO) : Same Hc (upd H b o) := fun c x hc => by
  rw [upd_ne (ne_of_none hc hb)]
  exact h.cl c x hc
theorem Tl.ended (h : Tl Hc H a d s m t e) (z : Str) : Tl Hc (upd H a (.dK (putK (tk d s t.steps m e) (Sum.inr "ending") (.str z)))) a d s m t z := by
  obtain ⟨n1, n2, n3⟩ := h.ne
  obtain ⟨kvs, h2, h3⟩ := h.dc
  exact ⟨by rw [upd_same, tk_end], h.nad, ⟨kvs, by rw [upd_ne n1.symm]; exact h2, h3⟩, by rw [upd_ne n2.symm]; exact h.sd, h.sl, h.st, h.sm, h.keep h.ca _, h.ca, h.cd, h.cs, h.mm⟩
theorem Tl.ticked (h : Tl Hc H a d s m t e) (hm : t.steps < m) : Tl Hc (upd H a (.dK (putK (tk d s t.steps m e) (Sum.inr "steps") (.int ((t.steps : Int) + 1))))) a d s m t.tick e := by
  obtain ⟨n1, n2, n3⟩ := h.ne
  obtain ⟨kvs, h2, h3⟩ := h.dc
  exact ⟨by rw [upd_same, tk_tick]; rfl, h.nad, ⟨kvs, by rw [upd_ne n1.symm]; exact h2, h3.more (Nat.le_succ _)⟩, by rw [upd_ne n2.symm]; exact h.sd, Nat.le_succ_of_le h.sl, hm, h.sm, h.keep h.ca _, h.ca, h.cd, h.cs, h.mm⟩
theorem Tl.says (h : Tl Hc H a d s m t.tick e) (hl : t.said.length ≤ t.steps) (i : Int) : Tl Hc (upd H s (.lst (t.said.map V.int ++ [.int i]))) a d s m { t.tick with said := t.said ++ [i] } e := by
  obtain ⟨n1, n2, n3⟩ := h.ne
  obtain ⟨kvs, h2, h3⟩ := h.dc
  exact ⟨by rw [upd_ne n2]; exact h.ob, h.nad, ⟨kvs, by rw [upd_ne n3]; exact h2, h3⟩, by rw [upd_same, List.map_append]; rfl, by rw [List.length_append]; exact Nat.succ_le_succ hl, h.st, h.sm, h.keep h.cs _, h.ca, h.cd, h.cs, h.mm⟩
theorem Tl.puts (h : Tl Hc H a d s m t.tick e) {kvs : List (Key × V)} (hv : DV (.dK kvs) t.ρ (100 + t.steps)) (to : Str) {i : Int} (h0 : 0 ≤ i) (h1 : i < 1000000) :
    Tl Hc (upd H d (.dK (putK kvs (Sum.inr to) (.int i)))) a d s m { t.tick with ρ := t.ρ.set to i } e := by
  obtain ⟨n1, n2, n3⟩ := h.ne
  exact ⟨by rw [upd_ne n1]; exact h.ob, h.nad, ⟨_, upd_same, hv.put to i⟩, by rw [upd_ne n3.symm]; exact h.sd, h.sl, h.st, h.sm.put h0 h1, h.keep h.cd _, h.ca, h.cd, h.cs, h.mm⟩
end
/-- what a turn of a block's test does -/
structure Turns (m : Nat) (kd x : Str) (rs : List Row) (c : Cmd) : Prop where
  long : ∀ t, m ≤ t.steps → Does m c t t .long
  no : ∀ t, t.steps < m → t.ρ.get (.str x) = 0 → Does m c t t.tick .done
  stop : ∀ t t1 e, t.steps < m → t.ρ.get (.str x) ≠ 0 → Does m (.all rs) t.tick t1 e → e ≠ .done → Does m c t t1 e
  once : ∀ t t1, kd = "when" → t.steps < m → t.ρ.get (.str x) ≠ 0 → Does m (.all rs) t.tick t1 .done → Does m c t t1 .done
  round : ∀ t t1 t2 e, ¬ kd = "when" → t.steps < m → t.ρ.get (.str x) ≠ 0 → Does m (.all rs) t.tick t1 .done → Does m c t1 t2 e → Does m c t t2 e
theorem turns_when {m : Nat} {x : Str} {rs : List Row} : Turns m "when" x rs (.one (.bk "when" (.str x) rs)) :=
  ⟨fun _ => .whenLong rfl, fun _ => .whenNo rfl, fun _ _ _ h1 h2 h3 _ => .whenIn rfl h1 h2 h3, fun _ _ _ h1 h2 h3 => .whenIn rfl h1 h2 h3, fun _ _ _ _ h => absurd rfl h⟩
theorem turns_lp {m : Nat} {kd x : Str} {rs : List Row} (hk : ¬ kd = "when") : Turns m kd x rs (.lp (.str x) rs) :=
  ⟨fun _ => .lpLong, fun _ => .lpNo, fun _ _ _ => .lpStop, fun _ _ h => absurd h hk, fun _ _ _ _ _ => .lpRound⟩
theorem Vl.ok_mono {ss ts : List Str} (h : ∀ x ∈ ss, x ∈ ts) : ∀ {x : Vl}, x.ok ss → x.ok ts
  | .nm _, hx => h _ hx
  | .nu _, hx => hx
mutual
theorem Row.ok_mono {ss ts : List Str} (h : ∀ x ∈ ss, x ∈ ts) : ∀ (r : Row), r.ok ss → r.ok ts
  | .lt _ _ _ _, ⟨h1, h2, h3, h4⟩ => ⟨h _ h1, h2, Vl.ok_mono h h3, Vl.ok_mono h h4⟩
  | .sy _, h1 => Vl.ok_mono h h1
  | .bk _ _ rs, ⟨h1, ⟨x, h2, h3⟩, h4, h5⟩ => ⟨h1, ⟨x, h2, h _ h3⟩, h4, oks_mono h rs h5⟩
theorem oks_mono {ss ts : List Str} (h : ∀ x ∈ ss, x ∈ ts) : ∀ (rs : List Row), oks ss rs → oks ts rs
  | [], _ => True.intro
  | r :: rs, ⟨h1, h2⟩ => ⟨Row.ok_mono h r h1, oks_mono h rs h2⟩
end
end Lm
/-! ### the text by places -/
namespace Lm
open PySem L2
def topS (i : Nat) : Stmt := PySem.Challenge.pw_loopmover_k05_blocks_run.main.body.getD i (.Pass ⟨0, 0, 0, 0⟩)
abbrev s_cell : Stmt := topS 9
abbrev s_names : Stmt := topS 11
/-- a list of names that are good -/
def NamesAt (K : PySem.W.Frag) (H : Hp) (a : Addr) (ss : List Str) : Prop := SqL K H a (ss.map V.str) ∧ ss.length = 16
theorem NamesAt.mono {K : PySem.W.Frag} {H H' : Hp} {a : Addr} {ss : List Str} (e : Kp H H') (h : NamesAt K H a ss) : NamesAt K H' a ss := ⟨e.sqL h.1, h.2⟩
theorem NamesAt.at {K : PySem.W.Frag} {H : Hp} {a : Addr} {ss : List Str} (h : NamesAt K H a ss) {z : Int} (h0 : 0 ≤ z) (h1 : z < 16) : ∃ s, s ∈ ss ∧ atI (ss.map V.str) z = some (.str s) := by
  have hk : z.toNat < ss.length := by rw [h.2]; omega
  refine ⟨ss[z.toNat], List.getElem_mem hk, at_of (j := z.toNat) (by omega) ?_⟩
  rw [List.getElem?_map, List.getElem?_eq_getElem hk]
  all_goals rfl
def spCell (K : PySem.W.Frag) : Sp := fun vs H Q _ => ∃ (a : Addr) (ns : List Int) (k : Int), vs = [.ref a, .int k] ∧ SqL K H a (ns.map V.int) ∧ 0 ≤ k ∧ ∀ z : Int, Q (.int z) H
section
variable {P : Program} {w : World} {K : PySem.W.Frag} {mg : Str → Option Value} {base : Heap} {f : Addr} {fd : FuncData}
theorem sc_cell : FnScope ["_law_script", "_law_k"] ["_law_script", "_law_k"] (defScope s_cell) := ⟨rfl, rfl, rfl, by decide +kernel, rfl, by decide +kernel, by decide +kernel⟩
theorem ok_cell (F : Fun K "_law_cell_at" "_law_cell_at" s_cell f fd) (ml : mg "len" = none) : FnOk P w K mg base CX0 1 f fd ["_law_script", "_law_k"] (spCell K) := by
  refine F.ok sc_cell (fun vs H Q E h => ?_) (fun cdv A outer s H vs Q E hr h => ?_)
  · obtain ⟨a, ns, k, rfl, _⟩ := h
    rfl
  obtain ⟨a, ns, k, rfl, hS, h0, q⟩ := h
  refine ⟨_, pss_cons (ps_if (pt_cmpR op_lt (pv 1) (pe_callB call_len_seq rfl ml PySem.boot_len (pa_cons (pv 0) pa_nil)) (nomark _)) (pss_one (ps_ret (pe_ix ix_list (pv 0) (pv 1) (fun _ _ => rfl)))) pss_nil)
    (pss_one (ps_ret pe_int)), ?_⟩
  refine ⟨_, rfl, _, rfl, a, _, rfl, .inl hS, _, _, rfl, rfl, _, rfl, ?_⟩
  refine ite2 (fun c => ?_) (fun c => ?_)
  · have c' : k < (((ns.map V.int).length : Nat) : Int) := of_decide_eq_true c
    rw [List.length_map] at c'
    have hk : k.toNat < ns.length := by omega
    exact ⟨_, rfl, _, rfl, a, _, _, _, rfl, rfl, hS, at_of (j := k.toNat) (v := .int ns[k.toNat]) (by omega) (by rw [List.getElem?_map, List.getElem?_eq_getElem hk]; all_goals rfl), q _⟩
  · exact q 0
end
end Lm
namespace Lm
open PySem L2
abbrev s_mixed : Stmt := topS 10
abbrev s_value : Stmt := topS 12
abbrev s_let : Stmt := topS 13
def spMixed : Sp := fun vs H Q _ => ∃ c k : Int, vs = [.int c, .int k] ∧ ∀ z : Int, 0 ≤ z → z < 2147483647 → Q (.int z) H
def spValue (K : PySem.W.Frag) : Sp := fun vs H Q _ => ∃ (k n : Int) (a : Addr) (ss : List Str), vs = [.int k, .int n, .ref a] ∧ 0 ≤ k ∧ k < 16 ∧ NamesAt K H a ss ∧ ∀ x : Vl, x.ok ss → Q x.v H
def spLet (K : PySem.W.Frag) : Sp := fun vs H Q _ => ∃ (n : Int) (a : Addr) (ss : List Str), vs = [.int n, .ref a] ∧ NamesAt K H a ss ∧
  ∀ (p : Addr) (to sg : Str) (x y : Vl) (H' : Hp), H p = none → (Row.lt to sg x y).ok ss → H' = upd H p (.tup [.str "let", .str to, .str sg, x.v, y.v]) → Q (.ref p) H'
section
variable {P : Program} {w : World} {K : PySem.W.Frag} {mg : Str → Option Value} {base : Heap} {f : Addr} {fd : FuncData}
theorem sc_mixed : FnScope ["_law_cell", "_law_k", "_law_number"] ["_law_cell", "_law_k"] (defScope s_mixed) := ⟨rfl, rfl, rfl, by decide +kernel, rfl, by decide +kernel, by decide +kernel⟩
theorem ok_mixed (F : Fun K "_law_mixed" "_law_mixed" s_mixed f fd) : FnOk P w K mg base CX0 1 f fd ["_law_cell", "_law_k"] spMixed := by
  refine F.ok sc_mixed (fun vs H Q E h => ?_) (fun cdv A outer s H vs Q E hr h => ?_)
  · obtain ⟨c, k, rfl, _⟩ := h
    rfl
  obtain ⟨c, k, rfl, q⟩ := h
  refine ⟨_, pss_cons (ps_set (i := 2) sc_mixed.nd rfl (Or.inl rfl) (pe_op op_mod (pe_op op_mul (pe_op op_add (pe_op op_add (pv 0) (pe_op op_mul pe_int (pv 1))) pe_int) pe_int) pe_int))
    (pss_one (ps_ret (pe_op op_mod (pe_op op_mul (pv 2) (pv 2)) pe_int))), ?_⟩
  have h1 : 0 ≤ ((c + 7 * k + 3) * 48271) % 2147483647 := Int.emod_nonneg _ (by decide)
  have h2 : ((c + 7 * k + 3) * 48271) % 2147483647 < 2147483647 := Int.emod_lt_of_pos _ (by decide)
  refine ⟨_, rfl, _, rfl, _, _, rfl, rfl, .inl ⟨by decide, by decide⟩, _, _, rfl, rfl, _, _, rfl, rfl, _, _, rfl, rfl, .inr ⟨by decide, by decide⟩, _, _, rfl, rfl, (by show (0 : Int) < 2147483647; decide), _, rfl, _, rfl, _, _, rfl, rfl, .inl ⟨by omega, by omega⟩, _, _, rfl, rfl, (by show (0 : Int) < 2147483647; decide), ?_⟩
  exact q _ (Int.emod_nonneg _ (by decide)) (Int.emod_lt_of_pos _ (by decide))
theorem sc_value : FnScope ["_law_kind", "_law_number", "_law_names_here"] ["_law_kind", "_law_number", "_law_names_here"] (defScope s_value) := ⟨rfl, rfl, rfl, by decide +kernel, rfl, by decide +kernel, by decide +kernel⟩
theorem ok_value (F : Fun K "_law_value" "_law_value" s_value f fd) : FnOk P w K mg base CX0 1 f fd ["_law_kind", "_law_number", "_law_names_here"] (spValue K) := by
  refine F.ok sc_value (fun vs H Q E h => ?_) (fun cdv A outer s H vs Q E hr h => ?_)
  · obtain ⟨k, n, a, ss, rfl, _⟩ := h
    rfl
  obtain ⟨k, n, a, ss, rfl, h0, h1, hN, q⟩ := h
  refine ⟨_, pss_cons (ps_if (pt_cmpR op_lt (pv 0) pe_int (nomark _)) (pss_one (ps_ret (pe_ix ix_list (pv 2) (pv 0) (fun _ _ => rfl)))) pss_nil)
    (pss_cons (ps_if (pt_cmpR op_lt (pv 0) pe_int (nomark _)) (pss_one (ps_ret (pe_op op_sub (pv 0) pe_int))) pss_nil)
    (pss_one (ps_ret (pe_op op_mod (pv 1) pe_int)))), ?_⟩
  refine ⟨_, rfl, _, _, rfl, rfl, _, rfl, ?_⟩
  refine ite2 (fun c => ?_) (fun c => ?_)
  · obtain ⟨s, hs, es⟩ := hN.at h0 h1
    exact ⟨_, rfl, _, rfl, a, _, _, _, rfl, rfl, hN.1, es, q (.nm s) hs⟩
  have c' : ¬ k < 11 := of_decide_eq_false (Bool.eq_false_iff.mpr c)
  refine ⟨_, rfl, _, _, rfl, rfl, _, rfl, ?_⟩
  refine ite2 (fun d => ?_) (fun d => ?_)
  · have d' : k < 14 := of_decide_eq_true d
    exact ⟨_, rfl, _, _, rfl, rfl, q (.nu (k - 11)) ⟨by omega, by omega⟩⟩
  · exact ⟨_, rfl, _, _, rfl, rfl, (by show (0 : Int) < 1000000; decide), q (.nu (n % 1000000)) ⟨Int.emod_nonneg _ (by decide), Int.emod_lt_of_pos _ (by decide)⟩⟩
theorem sc_let : FnScope ["_law_number", "_law_names_here", "_law_one", "_law_other"] ["_law_number", "_law_names_here"] (defScope s_let) := ⟨rfl, rfl, rfl, by decide +kernel, rfl, by decide +kernel, by decide +kernel⟩
theorem sign_at (z : Int) (h0 : 0 ≤ z) (h1 : z < 5) : ∃ c : Nat, atI (Str.cps "+-*</").toList z = some c ∧ (⟨#[c]⟩ : Str) ∈ signs := by
  obtain ⟨n, rfl⟩ : ∃ n : Nat, z = (n : Int) := ⟨z.toNat, by omega⟩
  match n, h1 with
  | 0, _ => exact ⟨43, by decide +kernel, by decide +kernel⟩
  | 1, _ => exact ⟨45, by decide +kernel, by decide +kernel⟩
  | 2, _ => exact ⟨42, by decide +kernel, by decide +kernel⟩
  | 3, _ => exact ⟨60, by decide +kernel, by decide +kernel⟩
  | 4, _ => exact ⟨47, by decide +kernel, by decide +kernel⟩
  | n + 5, h => exact absurd h (by omega)
theorem ok_let {fv : Addr} {dv : FuncData} (F : Fun K "_law_let" "_law_let" s_let f fd) (V : Df P w K mg base "_law_value" 1 fv dv ["_law_kind", "_law_number", "_law_names_here"] (spValue K)) :
    FnOk P w K mg base CX0 2 f fd ["_law_number", "_law_names_here"] (spLet K) := by
  refine F.ok sc_let (fun vs H Q E h => ?_) (fun cdv A outer s H vs Q E hr h => ?_)
  · obtain ⟨n, a, ss, rfl, _⟩ := h
    rfl
  obtain ⟨n, a, ss, rfl, hN, q⟩ := h
  refine ⟨_, pss_cons (ps_set (i := 2) sc_let.nd rfl (Or.inl rfl) (pe_df V hr (pa_cons (pe_op op_mod (pe_op op_fdiv (pv 0) pe_int) pe_int) (pa_cons (pe_op op_fdiv (pv 0) pe_int) (pa_cons (pv 1) pa_nil)))))
    (pss_cons (ps_set (i := 3) sc_let.nd rfl (Or.inl rfl) (pe_df V hr (pa_cons (pe_op op_mod (pe_op op_fdiv (pv 0) pe_int) pe_int) (pa_cons (pe_op op_fdiv (pv 0) pe_int) (pa_cons (pv 1) pa_nil)))))
    (pss_one (ps_ret (pe_tup (pa_cons pe_str (pa_cons (pe_ix ix_list (pv 1) (pe_op op_mod (pv 0) pe_int) (fun _ _ => rfl)) (pa_cons (pe_ix ix_str pe_str (pe_op op_mod (pe_op op_fdiv (pv 0) pe_int) pe_int) (fun _ _ => rfl)) (pa_cons (pv 2) (pa_cons (pv 3) pa_nil))))))))), ?_⟩
  refine ⟨_, rfl, _, _, rfl, rfl, ⟨by decide, by decide⟩, _, _, rfl, rfl, (by show (0 : Int) < 16; decide), _, rfl, _, _, rfl, rfl, ⟨by decide, by decide⟩, _, rfl, _, _, a, ss, rfl, Int.emod_nonneg _ (by decide), Int.emod_lt_of_pos _ (by decide), hN, fun x hx => ?_⟩
  refine ⟨_, rfl, _, _, rfl, rfl, ⟨by decide, by decide⟩, _, _, rfl, rfl, (by show (0 : Int) < 16; decide), _, rfl, _, _, rfl, rfl, ⟨by decide, by decide⟩, _, rfl, _, _, a, ss, rfl, Int.emod_nonneg _ (by decide), Int.emod_lt_of_pos _ (by decide), hN, fun y hy => ?_⟩
  obtain ⟨to, hto, eto⟩ := hN.at (z := n % 8) (Int.emod_nonneg _ (by decide)) (by have := Int.emod_lt_of_pos n (b := 8) (by decide); omega)
  obtain ⟨c, hc, hsg⟩ := sign_at (n / 8 % 5) (Int.emod_nonneg _ (by decide)) (Int.emod_lt_of_pos _ (by decide))
  refine ⟨_, rfl, _, rfl, _, _, rfl, rfl, (by show (0 : Int) < 8; decide), a, _, _, _, rfl, rfl, hN.1, eto, _, rfl, _, _, rfl, rfl, ⟨by decide, by decide⟩, _, _, rfl, rfl, (by show (0 : Int) < 5; decide), _, _, c, rfl, rfl, (by decide +kernel), hc, _, rfl, _, rfl, (by show 5 ≤ sizeLine; decide), fun p hp => ?_⟩
  exact q p to ⟨#[c]⟩ x y _ hp ⟨hto, hsg, hx, hy⟩ rfl
end
end Lm
namespace Lm
open PySem L2
def spNames : Sp := fun vs H Q _ => ∃ c : Int, vs = [.int c] ∧ ∀ (l : Addr) (ss : List Str) (H' : Hp), Same H H' → H l = none → H' l = some (.lst (ss.map V.str)) → ss.length = 16 → (∀ s ∈ ss, Good s) → Q (.ref l) H'
section
variable {P : Program} {w : World} {K : PySem.W.Frag} {mg : Str → Option Value} {base : Heap} {f : Addr} {fd : FuncData}
abbrev nNames : List Str := ["_law_cell", "_law_letters", "_law_some", "_law_size", "_law_j", "_law_tail", "_law_k", "_law_word", "_law_place", "_law_words"]
theorem sc_names : FnScope nNames ["_law_cell"] (defScope s_names) := ⟨rfl, rfl, rfl, by decide +kernel, rfl, by decide +kernel, by decide +kernel⟩
theorem ok_names (F : Fun K "_law_names" "_law_names" s_names f fd) (mr : mg "range" = none) : FnOk P w K mg base CX0 1 f fd ["_law_cell"] spNames := by
  refine F.ok sc_names (fun vs H Q E h => ?_) (fun cdv A outer s H vs Q E hr h => ?_)
  · obtain ⟨c, rfl, _⟩ := h
    rfl
  obtain ⟨c, rfl, q⟩ := h
  have nd := sc_names.nd
  refine ⟨_, pss_cons (ps_set (i := 1) nd rfl (Or.inr rfl) pe_str) <|
    pss_cons (ps_set (i := 2) nd rfl (Or.inl rfl) (pe_lst pa_nil)) <|
    pss_cons (ps_set (i := 3) nd rfl (Or.inl rfl) (pe_op op_add pe_int (pe_op op_mod (pe_op op_fdiv (pv 0) pe_int) pe_int))) <|
    pss_cons (ps_set (i := 5) nd rfl (Or.inl rfl) (pe_join pe_str (pe_lc (own := [("_law_j", 4)]) (g := gName 4) rfl nd (pi_range1 rfl mr (pa_cons pe_int pa_nil)) (blkOk_by (N := nNames) (sc := defScope s_names) (by decide +kernel))
      (fun _ _ _ _ _ => pg_name (i := 4) nd rfl (Or.inl rfl)) (fun _ _ _ _ _ => pts_nil)
      (fun _ _ _ _ _ => pe_ix ix_str (pv 1) (pe_op op_mod (pe_op op_add (pe_op op_add (pe_op op_fdiv (pv 0) pe_int) (pe_op op_mul pe_int (pv 4))) pe_int) pe_int) (fun _ _ => rfl))))) <|
    pss_cons (ps_for PassesOwn.never rfl (pi_range1 rfl mr (pa_cons pe_int pa_nil)) (pg_name (i := 6) nd rfl (Or.inl rfl))
      (pss_cons (ps_set (i := 7) nd rfl (Or.inl rfl) (pe_ix ix_str (pv 1) (pe_op op_mod (pe_op op_add (pe_op op_fdiv (pv 0) pe_int) (pe_op op_mul pe_int (pv 6))) pe_int) (fun _ _ => rfl))) <|
      pss_cons (ps_if (pt_cmpR op_eq (pe_op op_mod (pv 0) pe_int) pe_int (nomark _))
        (pss_cons (ps_set (i := 8) nd rfl (Or.inl rfl) (pe_op op_mod (pe_op op_fdiv (pv 0) pe_int) (pv 3))) <|
          pss_one (ps_set (i := 7) nd rfl (Or.inl rfl) (pe_op op_add_str (pe_op op_add_str (pe_slice sl_str (pv 5) po_none (po_some (pv 8))) (pv 7)) (pe_slice sl_str (pv 5) (po_some (pe_op op_add (pv 8) pe_int)) (po_some (pv 3))))))
        (pss_one (ps_if (pt_cmpR op_eq (pe_op op_mod (pv 0) pe_int) pe_int (nomark _))
          (pss_cons (ps_set (i := 7) nd rfl (Or.inl rfl) (pe_ix ix_str (pv 1) (pe_op op_mod (pe_op op_add (pe_op op_fdiv (pv 0) pe_int) (pe_op op_mul pe_int (pe_op op_fdiv (pv 6) pe_int))) pe_int) (fun _ _ => rfl))) <|
            pss_one (ps_set (i := 7) nd rfl (Or.inl rfl) (pe_op op_add_str (pv 7) (pe_slice sl_str (pv 5) po_none (po_some (pe_op op_add (pe_op op_mod (pv 6) pe_int) (pe_op op_mod (pe_op op_fdiv (pv 0) pe_int) pe_int)))))))
          (pss_one (ps_for PassesOwn.never rfl (pi_range1 rfl mr (pa_cons (pe_op op_mod (pe_op op_add (pe_op op_fdiv (pv 0) pe_int) (pv 6)) pe_int) pa_nil)) (pg_name (i := 4) nd rfl (Or.inl rfl))
            (pss_one (ps_set (i := 7) nd rfl (Or.inl rfl) (pe_op op_add_str (pv 7) (pe_ix ix_str (pv 1) (pe_op op_mod (pe_op op_add (pe_op op_add (pe_op op_fdiv (pv 0) pe_int) (pe_op op_mul pe_int (pv 4))) (pv 6)) pe_int) (fun _ _ => rfl)))))))))) <|
      pss_one (ps_expr (pe_bm PySem.F.plainAttrs_list PySem.F.slot_list_append PySem.F.type_list_append mt_append (pv 2) (pa_cons (pv 7) pa_nil))))) <|
    pss_cons (ps_if (pt_cmpR op_eq (pe_op op_mod (pv 0) pe_int) pe_int (nomark _))
      (pss_cons (ps_set (i := 9) nd rfl (Or.inl rfl) (pe_lst (pa_cons pe_str (pa_cons pe_str (pa_cons pe_str (pa_cons pe_str (pa_cons pe_str (pa_cons pe_str (pa_cons pe_str (pa_cons pe_str (pa_cons pe_str (pa_cons pe_str pa_nil)))))))))))) <|
        pss_one (ps_asg (pe_ix ix_list (pv 9) (pe_op op_mod (pe_op op_fdiv (pv 0) pe_int) pe_int) (fun _ _ => rfl)) (pg_sub (pv 2) (pe_op op_mod (pe_op op_fdiv (pv 0) pe_int) pe_int) set_list)))
      pss_nil) <|
    pss_one (ps_ret (pv 2)), ?_⟩
  have hc26 : (c / 72 % 26).toNat < 26 := by omega
  have code1 : ∀ i : Nat, atI abc.cps.toList ((c / 72 + 5 * (0 + (i : Int)) + 1) % 26) = some (ltr ((c / 72 % 26).toNat + (5 * i + 1))) := fun i => (abc_mod _).trans (congrArg some (by unfold ltr; omega))
  have code2 : ∀ i : Nat, atI abc.cps.toList ((c / 72 + 5 * (0 + (i : Int))) % 26) = some (ltr ((c / 72 % 26).toNat + 5 * i)) := fun i => (abc_mod _).trans (congrArg some (by unfold ltr; omega))
  have code3 : ∀ i : Nat, atI abc.cps.toList ((c / 72 + 7 * ((0 + (i : Int)) / 4)) % 26) = some (ltr ((c / 72 % 26).toNat + 7 * (i / 4))) := fun i => (abc_mod _).trans (congrArg some (by unfold ltr; omega))
  have code4 : ∀ i j : Nat, atI abc.cps.toList ((c / 7 + 3 * (0 + (j : Int)) + (0 + (i : Int))) % 26) = some (ltr (((c / 7 + (i : Int)) % 26).toNat + 3 * j)) := fun i j => (abc_mod _).trans (congrArg some (by unfold ltr; omega))
  have abcLen : abc.length ≤ sizeLine := by decide +kernel
  refine ⟨(by show 0 ≤ sizeLine; decide), fun L hL => ?_⟩
  have sL : Same H (upd H L (.lst [])) := same_new hL _
  refine ⟨_, rfl, _, _, rfl, rfl, ⟨by decide, by decide⟩, _, _, rfl, rfl, (by show (0 : Int) < 6; decide), _, _, rfl, rfl, ?_⟩
  refine ⟨⟨_, rfl⟩, 6, rfl, by decide, by decide, fun D hD => lc_range (lo := 0) (n := 6) (fun i H' => H' D = some (.lst ((tl (c / 72 % 26).toNat i).map V.str)) ∧ Same (upd H L (.lst [])) H') ⟨upd_same, same_new hD _⟩ ?_ ?_⟩
  · intro i H1 hi ⟨e1, s1⟩
    refine ⟨rfl, yes (iteT ?_)⟩
    refine ⟨_, rfl, _, rfl, _, _, rfl, rfl, ⟨by decide, by decide⟩, _, rfl, _, _, rfl, rfl, .inl ⟨by decide, by decide⟩, _, _, rfl, rfl, _, _, rfl, rfl, _, _, rfl, rfl, (by show (0 : Int) < 26; decide), _, _, _, rfl, rfl, abcLen, code1 i, _, e1, ?_, ?_, ?_⟩
    · rw [List.length_map, tl_len _ (by omega)]
      exact small1000 (by omega)
    · rw [upd_same, tl_more _ i hi, List.map_append]
      rfl
    · exact fun b o hb => by rw [upd_ne (ne_of_none hb hD)]; exact s1 b o hb
  intro H1 ⟨e1, s1⟩
  refine ⟨_, D, tl (c / 72 % 26).toNat 6, rfl, rfl, .inl (SqL.of e1), tl_sum _, ?_⟩
  rw [tl_join]
  have s2 : Same H H1 := sL.trans s1
  have e2 : H1 L = some (.lst []) := s1 _ _ upd_same
  have sz1 : 0 ≤ 1 + c / 3 % 6 := by omega
  have sz2 : 1 + c / 3 % 6 < 7 := by omega
  obtain ⟨size, esz⟩ : ∃ n : Nat, 1 + c / 3 % 6 = (n : Int) := ⟨(1 + c / 3 % 6).toNat, by omega⟩
  refine ⟨16, rfl, by decide, by decide, for_range (lo := 0) (n := 16) (fun i σ H' => ∃ (ss : List Str) (vj vk vw vp : Option V), σ = [some (.int c), some (.str abc), some (.ref L), some (.int (1 + c / 3 % 6)), vj, some (.str (tailS (c / 72 % 26).toNat)), vk, vw, vp, none] ∧
    Same H H' ∧ H' L = some (.lst (ss.map V.str)) ∧ ss.length = i ∧ ∀ s ∈ ss, Good s) ⟨[], none, none, none, none, rfl, s2, e2, rfl, fun s hs => by cases hs⟩ ?_ ?_⟩
  · rintro i σ H2 hi ⟨ss, vj, vk, vw, vp, rfl, s3, e3, hlen, hgood⟩
    have fin : ∀ (s : Str) (vj vk vp : Option V), Good s → ∃ (ss' : List Str) (vj' vk' vw' vp' : Option V), [some (V.int c), some (.str abc), some (.ref L), some (.int (1 + c / 3 % 6)), vj, some (.str (tailS (c / 72 % 26).toNat)), vk, some (.str s), vp, none] = [some (V.int c), some (.str abc), some (.ref L), some (.int (1 + c / 3 % 6)), vj', some (.str (tailS (c / 72 % 26).toNat)), vk', vw', vp', none] ∧
        Same H (upd H2 L (.lst (ss.map V.str ++ [.str s]))) ∧ (upd H2 L (.lst (ss.map V.str ++ [.str s]))) L = some (.lst (ss'.map V.str)) ∧ ss'.length = i + 1 ∧ ∀ s ∈ ss', Good s := fun s vj vk vp hs => by
      refine ⟨ss ++ [s], _, _, _, _, rfl, fun b o hb => by rw [upd_ne (ne_of_none hb hL)]; exact s3 b o hb, ?_, by rw [List.length_append, hlen]; rfl, fun z hz => ?_⟩
      · rw [upd_same, List.map_append]
        all_goals rfl
      · rcases List.mem_append.mp hz with h1 | h1
        · exact hgood z h1
        · rw [List.mem_singleton.mp h1]
          exact hs
    have room : (ss.map V.str).length < sizeLine := by
      rw [List.length_map, hlen]
      exact small1000 (by omega)
    refine ⟨_, rfl, _, rfl, _, _, rfl, rfl, ⟨by decide, by decide⟩, _, rfl, _, _, rfl, rfl, .inl ⟨by decide, by decide⟩, _, _, rfl, rfl, _, _, rfl, rfl, (by show (0 : Int) < 26; decide), _, _, _, rfl, rfl, abcLen, code2 i, ?_⟩
    refine ⟨_, rfl, _, _, rfl, rfl, (by show (0 : Int) < 3; decide), rfl, _, rfl, ?_⟩
    refine ite2 (fun c1 => ?_) (fun c1 => ?_)
    · -- one letter in the place of another
      obtain ⟨place, epl⟩ : ∃ n : Nat, c / 18 % (1 + c / 3 % 6) = (n : Int) := ⟨(c / 18 % (1 + c / 3 % 6)).toNat, by have := Int.emod_nonneg (c / 18) (b := 1 + c / 3 % 6) (by omega); omega⟩
      have hpl : place < size := by have := Int.emod_lt_of_pos (c / 18) (b := 1 + c / 3 % 6) (by omega); omega
      refine ⟨_, rfl, _, _, rfl, rfl, ⟨by decide, by decide⟩, _, rfl, _, _, rfl, rfl, (by show (0 : Int) < 1 + c / 3 % 6; omega), ?_⟩
      have g := word1 hc26 hi (by omega : size < 7) hpl
      rw [← epl, ← esz] at g
      refine ⟨_, rfl, _, rfl, _, rfl, _, rfl, (by rw [tailS_len]; decide), _, rfl, _, _, rfl, rfl, ?_, ?_⟩
      · have := cut_len (tailS (c / 72 % 26).toNat) none (some (c / 18 % (1 + c / 3 % 6)))
        rw [tailS_len] at this
        exact Nat.le_of_lt (small1000 (Nat.le_trans (Nat.add_le_add this (Nat.le_refl _)) (by show 6 + 1 ≤ 1000; decide)))
      refine ⟨_, rfl, _, rfl, _, _, rfl, rfl, _, rfl, _, rfl, _, rfl, _, rfl, (by rw [tailS_len]; decide), _, _, rfl, rfl, ?_, ?_⟩
      · have h9 := (good_len g).2
        rw [app_len] at h9
        exact Nat.le_of_lt (small1000 (Nat.le_trans h9 (by decide)))
      refine ⟨_, rfl, .inl ⟨rfl, _, SqL.of e3⟩, _, rfl, L, _, _, rfl, rfl, e3, room, ?_⟩
      exact fin _ _ _ _ g
    refine ⟨_, rfl, _, _, rfl, rfl, (by show (0 : Int) < 3; decide), rfl, _, rfl, ?_⟩
    refine ite2 (fun c2 => ?_) (fun c2 => ?_)
    · -- a letter and the first of the six
      have g := word2 hc26 hi (by omega : (c / 18 % 3).toNat < 3)
      have ek : ((i % 4 + (c / 18 % 3).toNat : Nat) : Int) = (0 + (i : Int)) % 4 + c / 18 % 3 := by omega
      rw [ek] at g
      refine ⟨_, rfl, _, rfl, _, _, rfl, rfl, ⟨by decide, by decide⟩, _, rfl, _, _, rfl, rfl, ⟨by decide, by decide⟩, _, _, rfl, rfl, .inl ⟨by decide, by decide⟩, _, _, rfl, rfl, _, _, rfl, rfl, (by show (0 : Int) < 26; decide), _, _, _, rfl, rfl, abcLen, code3 i, ?_⟩
      refine ⟨_, rfl, _, rfl, _, rfl, _, _, rfl, rfl, (by show (0 : Int) < 4; decide), _, rfl, _, _, rfl, rfl, ⟨by decide, by decide⟩, _, _, rfl, rfl, (by show (0 : Int) < 3; decide), _, _, rfl, rfl, _, rfl, _, rfl, (by rw [tailS_len]; decide), _, _, rfl, rfl, ?_, ?_⟩
      · have h9 := (good_len g).2
        rw [app_len] at h9
        exact Nat.le_of_lt (small1000 (Nat.le_trans h9 (by decide)))
      refine ⟨_, rfl, .inl ⟨rfl, _, SqL.of e3⟩, _, rfl, L, _, _, rfl, rfl, e3, room, ?_⟩
      exact fin _ _ _ _ g
    · -- letters three apart
      have hm0 : 0 ≤ (c / 26 + (0 + (i : Int))) % 6 := Int.emod_nonneg _ (by decide)
      have hm1 : (c / 26 + (0 + (i : Int))) % 6 < 6 := Int.emod_lt_of_pos _ (by decide)
      refine ⟨_, rfl, _, _, rfl, rfl, ⟨by decide, by decide⟩, _, rfl, _, _, rfl, rfl, _, _, rfl, rfl, (by show (0 : Int) < 6; decide), _, rfl, by omega, by omega, ?_⟩
      refine for_range (lo := 0) (fun j σ H' => ∃ (vj : Option V) (s : Str), σ = [some (.int c), some (.str abc), some (.ref L), some (.int (1 + c / 3 % 6)), vj, some (.str (tailS (c / 72 % 26).toNat)), some (.int (0 + (i : Int))), some (.str s), vp, none] ∧ H' = H2 ∧
        s.cps.toList = w0 (((c / 72 % 26).toNat + 5 * i) % 26) (((c / 7 + (i : Int)) % 26).toNat) j) ⟨_, _, rfl, rfl, ?_⟩ ?_ ?_
      · show [ltr _] = [ltr _]
        unfold ltr
        rw [Nat.mod_mod]
      · rintro j σ H3 hj ⟨vj, s, rfl, rfl, es⟩
        have hj5 : j < 5 := by omega
        refine ⟨_, rfl, _, rfl, _, rfl, _, _, rfl, rfl, ⟨by decide, by decide⟩, _, rfl, _, _, rfl, rfl, .inl ⟨by decide, by decide⟩, _, _, rfl, rfl, _, rfl, _, _, rfl, rfl, _, _, rfl, rfl, (by show (0 : Int) < 26; decide), _, _, _, rfl, rfl, abcLen, code4 i j, _, _, rfl, rfl, ?_, ?_⟩
        · rw [len_toList, es, w0_len _ _ (by omega)]
          exact Nat.le_of_lt (small1000 (by show j + 1 + 1 ≤ 1000; omega))
        · refine ⟨_, _, rfl, rfl, ?_⟩
          rw [app_toList, es, w0_more _ _ j hj5]
      · rintro σ H3 ⟨vj, s, rfl, rfl, es⟩
        have g : Good s := by
          unfold Good
          rw [es]
          exact w0_ok (by omega) (by omega) (by omega)
        refine ⟨_, rfl, .inl ⟨rfl, _, SqL.of e3⟩, _, rfl, L, _, _, rfl, rfl, e3, room, ?_⟩
        exact fin _ _ _ _ g
  · rintro σ H2 ⟨ss, vj, vk, vw, vp, rfl, s3, e3, hlen, hgood⟩
    refine ⟨_, rfl, _, _, rfl, rfl, (by show (0 : Int) < 5; decide), rfl, _, rfl, ?_⟩
    refine ite2 (fun c1 => ?_) (fun c1 => ?_)
    · refine ⟨(by show 10 ≤ sizeLine; decide), fun p hp => ?_⟩
      have e4 : (upd H2 p (.lst (tens.map V.str))) L = some (.lst (ss.map V.str)) := by
        rw [upd_ne (ne_of_none e3 hp)]
        exact e3
      obtain ⟨j, ej⟩ : ∃ j : Nat, c / 40 % 10 = (j : Int) := ⟨(c / 40 % 10).toNat, by omega⟩
      have hj : j < tens.length := by show j < 10; omega
      obtain ⟨j8, ej8⟩ : ∃ j : Nat, c / 5 % 8 = (j : Int) := ⟨(c / 5 % 8).toNat, by omega⟩
      have hj8 : ixN (ss.map V.str).length (c / 5 % 8) = some j8 := by
        unfold ixN
        rw [List.length_map, hlen, ej8, if_pos (by omega), if_pos (by omega)]
        simp
      refine ⟨_, rfl, _, rfl, _, _, rfl, rfl, ⟨by decide, by decide⟩, _, _, rfl, rfl, (by show (0 : Int) < 10; decide), p, tens.map V.str, _, _, rfl, rfl, SqL.of upd_same, at_of (j := j) (v := .str tens[j]) ej (by rw [List.getElem?_map, List.getElem?_eq_getElem hj]; all_goals rfl), ?_⟩
      refine ⟨_, rfl, _, rfl, _, _, rfl, rfl, ⟨by decide, by decide⟩, _, _, rfl, rfl, (by show (0 : Int) < 8; decide), L, _, _, j8, rfl, rfl, e4, hj8, ?_⟩
      refine ⟨_, rfl, q L (ss.set j8 tens[j]) _ (fun b o hb => ?_) hL ?_ (by rw [List.length_set]; exact hlen) fun s hs => ?_⟩
      · rw [upd_ne (ne_of_none hb hL), upd_ne (ne_of_none (s3 b o hb) hp)]
        exact s3 b o hb
      · rw [upd_same, List.map_set]
      · rcases List.mem_or_eq_of_mem_set hs with h1 | h1
        · exact hgood s h1
        · rw [h1]
          exact tens_good _ (List.getElem_mem hj)
    · exact ⟨_, rfl, q L ss H2 s3 hL e3 hlen hgood⟩
end
end Lm
namespace Lm
open PySem L2
abbrev s_closed : Stmt := topS 14
abbrev s_opened : Stmt := topS 15
def spClosed (K : PySem.W.Frag) : Sp := fun vs H Q _ => ∃ (S T l : Addr) (ss : List Str) (m : Nat) (H0 Hc : Hp) (rs : List Row) (q : Addr × List Row) (o : List (Addr × List Row)) (ts : List Str) (t : Str), vs = [.ref S, .ref T] ∧
  Prog K ss m H0 Hc H S T l rs (q :: o) (ts ++ [t]) ∧ m + 2 ≤ 1000 ∧ ∀ (H' Hc' : Hp) (rs' : List Row), Prog K ss (m + 2) H0 Hc' H' S T q.1 rs' o ts → Q .non H'
def spOpened (K : PySem.W.Frag) : Sp := fun vs H Q _ => ∃ (n : Int) (a S T l : Addr) (ss : List Str) (m : Nat) (H0 Hc : Hp) (rs : List Row) (o : List (Addr × List Row)) (ts : List Str), vs = [.int n, .ref a, .ref S, .ref T] ∧
  NamesAt K H0 a ss ∧ Prog K ss m H0 Hc H S T l rs o ts ∧ o.length < 3 ∧ ts.length = o.length ∧ m + 2 ≤ 1000 ∧
  ∀ (H' Hc' : Hp) (q : Addr) (rs' : List Row) (ts' : List Str), Prog K ss (m + 2) H0 Hc' H' S T q [] ((l, rs') :: o) ts' → ts'.length = o.length + 1 → Q .non H'
section
variable {P : Program} {w : World} {K : PySem.W.Frag} {mg : Str → Option Value} {base : Heap} {f : Addr} {fd : FuncData}
theorem top_at {l : Addr} {o : List (Addr × List Row)} : atI ((opens l o).reverse.map V.ref) (-1) = some (.ref l) := by
  have e : (opens l o).reverse.map V.ref = (o.map (·.1)).reverse.map V.ref ++ [.ref l] := by simp [opens]
  rw [e]
  exact atI_last _ _
theorem sc_closed : FnScope ["_law_stack", "_law_tests", "_law_test"] ["_law_stack", "_law_tests"] (defScope s_closed) := ⟨rfl, rfl, rfl, by decide +kernel, rfl, by decide +kernel, by decide +kernel⟩
theorem ok_closed (F : Fun K "_law_closed" "_law_closed" s_closed f fd) : FnOk P w K mg base CX0 1 f fd ["_law_stack", "_law_tests"] (spClosed K) := by
  refine F.ok sc_closed (fun vs H Q E h => ?_) (fun cdv A outer s H vs Q E hr h => ?_)
  · obtain ⟨S, T, l, ss, m, H0, Hc, rs, q, o, ts, t, rfl, _⟩ := h
    rfl
  obtain ⟨S, T, l, ss, m, H0, Hc, rs, q, o, ts, t, rfl, hP, hm, k⟩ := h
  have nd := sc_closed.nd
  refine ⟨_, pss_cons (ps_set (i := 2) nd rfl (Or.inl rfl) (pe_bm0 PySem.F.plainAttrs_list PySem.F.slot_list_pop PySem.F.type_list_pop mt_pop (pv 1))) <|
    pss_cons (ps_if (pt_cmpR op_ne (pv 2) pe_str (nomark _))
      (pss_one (ps_expr (pe_bm PySem.F.plainAttrs_list PySem.F.slot_list_append PySem.F.type_list_append mt_append (pe_ix ix_list (pv 0) (pe_un un_neg pe_int) (fun _ _ => rfl))
        (pa_cons (pe_tup (pa_cons pe_str (pa_cons (pv 2) (pa_cons pe_str (pa_cons (pv 2) (pa_cons pe_int pa_nil)))))) pa_nil)))) pss_nil) <|
    pss_one (ps_expr (pe_bm0 PySem.F.plainAttrs_list PySem.F.slot_list_pop PySem.F.type_list_pop mt_pop (pv 0))), ?_⟩
  obtain ⟨n1, n2, n3, n4⟩ := hP.nST
  have eT : ((ts ++ [t]).map V.str).dropLast = ts.map V.str := by simp
  have eS : ((opens l (q :: o)).reverse.map V.ref).dropLast = (opens q.1 o).reverse.map V.ref := by simp [opens]
  have lS : ((opens l (q :: o)).reverse.map V.ref)[((opens l (q :: o)).reverse.map V.ref).length - 1]? = some (.ref l) := by simp [opens]
  have hP1 : Prog K ss m H0 Hc (upd H T (.lst (ts.map V.str))) S T l rs (q :: o) ts := hP.tests fun z hz => hP.tok z (by simp [hz])
  have fin : ∀ (H1 Hc1 : Hp) (rs1 : List Row) (m1 : Nat), m1 ≤ m + 1 → Prog K ss m1 H0 Hc1 H1 S T l rs1 (q :: o) ts → Q .non (upd H1 S (.lst ((opens l (q :: o)).reverse.map V.ref).dropLast)) := fun H1 Hc1 rs1 m1 h1 h2 => by
    rw [eS]
    obtain ⟨Hc2, kd, te, h3⟩ := h2.pop (by omega)
    exact k _ Hc2 _ (h3.more (by omega))
  refine ⟨_, rfl, .inl ⟨rfl, _, SqL.of hP.te⟩, T, _, .str t, rfl, rfl, hP.te, by simp, ?_⟩
  rw [eT]
  refine ⟨_, rfl, rfl, _, rfl, ?_⟩
  refine ite2 (fun c => ?_) (fun c => ?_)
  · have ht : t ∈ ss := by
      rcases hP.tok t (by simp) with e | e
      · rw [e] at c
        simp at c
      · exact e
    obtain ⟨vs, el, _⟩ := hP1.inn
    refine ⟨_, rfl, _, rfl, S, _, _, .ref l, rfl, rfl, SqL.of hP1.st, top_at, .inl ⟨rfl, _, SqL.of el⟩, _, rfl, _, rfl, (by show 5 ≤ sizeLine; decide), fun p hp => ?_⟩
    have hP2 := hP1.alloc hp (.tup [.str "let", .str t, .str "-", .str t, .int 1])
    obtain ⟨vs2, el2, ea2⟩ := hP2.inn
    have room : vs2.length < sizeLine := by
      rw [ea2.len]
      exact small1000 (Nat.le_trans hP2.wid (by omega))
    refine ⟨l, vs2, _, rfl, rfl, el2, room, ?_⟩
    have hP3 := hP2.app (r := .lt t "-" (.nm t) (.nu 1)) (v := .ref p) el2 ⟨p, rfl, SqT.of upd_same⟩ ⟨ht, by decide +kernel, ht, by decide, by decide⟩ (by show 0 + _ ≤ 3; have := hP2.dep; omega) rfl
    exact ⟨_, rfl, .inl ⟨rfl, _, SqL.of hP3.st⟩, S, _, .ref l, rfl, rfl, hP3.st, lS, fin _ _ _ _ (Nat.le_refl _) hP3⟩
  · exact ⟨_, rfl, .inl ⟨rfl, _, SqL.of hP1.st⟩, S, _, .ref l, rfl, rfl, hP1.st, lS, fin _ _ _ _ (Nat.le_succ _) hP1⟩
theorem sc_opened : FnScope ["_law_number", "_law_names_here", "_law_stack", "_law_tests", "_law_kind", "_law_test"] ["_law_number", "_law_names_here", "_law_stack", "_law_tests"] (defScope s_opened) := ⟨rfl, rfl, rfl, by decide +kernel, rfl, by decide +kernel, by decide +kernel⟩
theorem ok_opened (F : Fun K "_law_opened" "_law_opened" s_opened f fd) (ml : mg "len" = none) (mx : mg "max" = none) (mi : mg "int" = none) : FnOk P w K mg base CX0 1 f fd ["_law_number", "_law_names_here", "_law_stack", "_law_tests"] (spOpened K) := by
  refine F.ok sc_opened (fun vs H Q E h => ?_) (fun cdv A outer s H vs Q E hr h => ?_)
  · obtain ⟨n, a, S, T, l, ss, m, H0, Hc, rs, o, ts, rfl, _⟩ := h
    rfl
  obtain ⟨n, a, S, T, l, ss, m, H0, Hc, rs, o, ts, rfl, hN, hP, h3, htl, hm, k⟩ := h
  have nd := sc_opened.nd
  refine ⟨_, pss_cons (ps_set (i := 4) nd rfl (Or.inl rfl) (pe_ix ix_list (pe_lst (pa_cons pe_str (pa_cons pe_str (pa_cons pe_str (pa_cons pe_str pa_nil))))) (pe_op op_mod (pv 0) pe_int) (fun _ _ => rfl))) <|
    pss_cons (ps_set (i := 5) nd rfl (Or.inl rfl) (pe_ix ix_list (pv 1) (pe_op op_mod (pe_op op_fdiv (pv 0) pe_int) pe_int) (fun _ _ => rfl))) <|
    pss_cons (ps_expr (pe_bm PySem.F.plainAttrs_list PySem.F.slot_list_append PySem.F.type_list_append mt_append (pv 3) (pa_cons pe_str pa_nil))) <|
    pss_cons (ps_if (pt_cmpR op_gt (pe_op op_mod (pe_op op_fdiv (pv 0) pe_int) pe_int) pe_int (nomark _))
      (pss_cons (ps_set (i := 5) nd rfl (Or.inl rfl) (pe_ix ix_list (pv 1) (pe_op op_add pe_int (pe_callB call_len_seq rfl ml PySem.boot_len (pa_cons (pv 3) pa_nil))) (fun _ _ => rfl))) <|
        pss_cons (ps_asg (pv 5) (pg_sub (pv 3) (pe_un un_neg pe_int) set_list)) <|
        pss_one (ps_expr (pe_bm PySem.F.plainAttrs_list PySem.F.slot_list_append PySem.F.type_list_append mt_append (pe_ix ix_list (pv 2) (pe_un un_neg pe_int) (fun _ _ => rfl))
          (pa_cons (pe_tup (pa_cons pe_str (pa_cons (pv 5) (pa_cons pe_str (pa_cons (pe_callB (call_max2 rfl) rfl mx (by decide +kernel) (pa_cons (pe_op op_mod (pe_op op_fdiv (pv 0) pe_int) pe_int)
            (pa_cons (pe_callTy call_int1 rfl mi (by decide +kernel) (pa_cons (pe_cmpR op_eq (pv 4) pe_str (nomark _)) pa_nil)) pa_nil))) (pa_cons pe_int pa_nil)))))) pa_nil)))) pss_nil) <|
    pss_cons (ps_expr (pe_bm PySem.F.plainAttrs_list PySem.F.slot_list_append PySem.F.type_list_append mt_append (pe_ix ix_list (pv 2) (pe_un un_neg pe_int) (fun _ _ => rfl)) (pa_cons (pe_tup (pa_cons (pv 4) (pa_cons (pv 5) (pa_cons (pe_lst pa_nil) pa_nil)))) pa_nil))) <|
    pss_one (ps_expr (pe_bm PySem.F.plainAttrs_list PySem.F.slot_list_append PySem.F.type_list_append mt_append (pv 2)
      (pa_cons (pe_ix ix_tup (pe_ix ix_list (pe_ix ix_list (pv 2) (pe_un un_neg pe_int) (fun _ _ => rfl)) (pe_un un_neg pe_int) (fun _ _ => rfl)) pe_int (fun _ _ => rfl)) pa_nil))), ?_⟩
  obtain ⟨n1, n2, n3, n4⟩ := hP.nST
  obtain ⟨kd, hkd, ekd⟩ : ∃ kd, kd ∈ kinds ∧ atI ([.str "when", .str "loop", .str "again", .str "loop"] : List V) (n % 4) = some (.str kd) := by
    have h0 : 0 ≤ n % 4 := Int.emod_nonneg _ (by decide)
    have h1 : n % 4 < 4 := Int.emod_lt_of_pos _ (by decide)
    obtain ⟨j, ej⟩ : ∃ j : Nat, n % 4 = (j : Int) := ⟨(n % 4).toNat, by omega⟩
    rw [ej]
    match j, (by omega : j < 4) with
    | 0, _ => exact ⟨"when", by decide +kernel, atI_nat rfl⟩
    | 1, _ => exact ⟨"loop", by decide +kernel, atI_nat rfl⟩
    | 2, _ => exact ⟨"again", by decide +kernel, atI_nat rfl⟩
    | 3, _ => exact ⟨"loop", by decide +kernel, atI_nat rfl⟩
    | j + 4, h => exact absurd h (by omega)
  refine ⟨(by show 4 ≤ sizeLine; decide), fun p0 hp0 => ?_⟩
  have hP0 := hP.alloc hp0 (.lst [.str "when", .str "loop", .str "again", .str "loop"])
  have hN0 := hN.mono (Same.kp hP0.same)
  obtain ⟨te, hte, ete⟩ := hN0.at (z := n / 64 % 8) (Int.emod_nonneg _ (by decide)) (by have := Int.emod_lt_of_pos (n / 64) (b := 8) (by decide); omega)
  have hP1 := hP0.tests (ts' := ts ++ [("" : Str)]) fun z hz => by
    rcases List.mem_append.mp hz with e | e
    · exact hP.tok z e
    · exact .inl (List.mem_singleton.mp e)
  have hN1 := hN.mono (Same.kp hP1.same)
  have eT1 : (ts ++ [("" : Str)]).map V.str = ts.map V.str ++ [.str ""] := by simp
  refine ⟨_, rfl, _, _, rfl, rfl, (by show (0 : Int) < 4; decide), p0, _, _, _, rfl, rfl, SqL.of upd_same, ekd, _, rfl, _, rfl, _, _, rfl, rfl, ⟨by decide, by decide⟩, _, _, rfl, rfl, (by show (0 : Int) < 8; decide), a, _, _, _, rfl, rfl, hN0.1, ete, ?_⟩
  refine ⟨_, rfl, .inl ⟨rfl, _, SqL.of hP0.te⟩, T, _, _, rfl, rfl, hP0.te, ?_, ?_⟩
  · rw [List.length_map]
    exact small1000 (by omega)
  rw [← eT1]
  -- the block's own row and the stack
  have fin : ∀ (H1 Hc1 : Hp) (rs1 : List Row) (ts1 : List Str) (m1 : Nat) (te1 : Str), m1 ≤ m + 1 → te1 ∈ ss → ts1.length = o.length + 1 → Prog K ss m1 H0 Hc1 H1 S T l rs1 o ts1 →
      ∀ (xs : List V) (b q p : Addr) (vs : List V), H1 q = none → (upd H1 q (.lst [])) p = none → H1 l = some (.lst vs) →
        Q .non (upd (upd (upd (upd H1 q (.lst [])) p (.tup [.str kd, .str te1, .ref q])) l (.lst (vs ++ [.ref p]))) S (.lst ((opens l o).reverse.map V.ref ++ [.ref q]))) :=
    fun H1 Hc1 rs1 ts1 m1 te1 h1 h2 h3' h4 xs b q p vs hq hp hl => k _ _ q rs1 ts1 ((h4.push hl hq hp hkd h2 (by omega)).more (by omega)) h3'
  refine ⟨_, rfl, _, _, rfl, rfl, ⟨by decide, by decide⟩, _, _, rfl, rfl, (by show (0 : Int) < 4; decide), _, _, rfl, rfl, _, rfl, ?_⟩
  refine ite2 (fun c => ?_) (fun c => ?_)
  · -- a test of its own, counted down
    have htl1 : (ts ++ [("" : Str)]).length = o.length + 1 := by rw [List.length_append, htl]; rfl
    obtain ⟨t2, ht2, et2⟩ := hN1.at (z := 11 + (((ts ++ [("" : Str)]).map V.str).length : Int)) (by omega) (by rw [List.length_map, htl1]; omega)
    have hP2 := hP1.tests (ts' := ts ++ [t2]) fun z hz => by
      rcases List.mem_append.mp hz with e | e
      · exact hP.tok z e
      · exact .inr (by rw [List.mem_singleton.mp e]; exact ht2)
    rw [upd_upd] at hP2
    have eix : ixN ((ts ++ [("" : Str)]).map V.str).length (-1) = some ts.length := by
      unfold ixN
      rw [List.length_map, List.length_append, if_neg (by decide), if_pos (by simp; omega)]
      simp
      omega
    have eset : ((ts ++ [("" : Str)]).map V.str).set ts.length (.str t2) = (ts ++ [t2]).map V.str := by simp
    obtain ⟨vs2, el3, ea3⟩ := hP2.inn
    refine ⟨_, rfl, _, rfl, T, _, rfl, .inl (SqL.of upd_same), _, _, rfl, rfl, a, _, _, _, rfl, rfl, hN1.1, et2, ?_⟩
    refine ⟨_, rfl, _, rfl, _, rfl, T, _, _, _, rfl, rfl, upd_same, eix, ?_⟩
    rw [eset, upd_upd]
    refine ⟨_, rfl, _, rfl, S, _, _, .ref l, rfl, rfl, SqL.of hP2.st, top_at, .inl ⟨rfl, _, SqL.of el3⟩, _, rfl, _, rfl, _, _, rfl, rfl, ⟨by decide, by decide⟩, _, _, rfl, rfl, (by show (0 : Int) < 4; decide), _, rfl, rfl, .inr ⟨_, rfl, ?_⟩⟩
    have hz0 : 0 ≤ n / 4 % 4 := Int.emod_nonneg _ (by decide)
    have hz1 : n / 4 % 4 < 4 := Int.emod_lt_of_pos _ (by decide)
    have hz : ∀ k : Bool, 0 ≤ (if (if k = true then (1 : Int) else 0) > n / 4 % 4 then (if k = true then (1 : Int) else 0) else n / 4 % 4) ∧ (if (if k = true then (1 : Int) else 0) > n / 4 % 4 then (if k = true then (1 : Int) else 0) else n / 4 % 4) < 1000000 := fun k => by
      cases k
      · rw [if_neg Bool.false_ne_true]
        split <;> omega
      · rw [if_pos rfl]
        split <;> omega
    refine ⟨_, _, rfl, (by show 5 ≤ sizeLine; decide), fun p1 hp1 => ?_⟩
    have hP3 := hP2.alloc hp1 (.tup [.str "let", .str t2, .str "+", .int (if (if decide (V.str kd = V.str "again") = true then (1 : Int) else 0) > n / 4 % 4 then (if decide (V.str kd = V.str "again") = true then (1 : Int) else 0) else n / 4 % 4), .int 0])
    obtain ⟨vs4, el4, ea4⟩ := hP3.inn
    have hP4 := hP3.app (r := .lt t2 "+" (.nu _) (.nu 0)) (v := .ref p1) el4 ⟨p1, rfl, SqT.of upd_same⟩ ⟨ht2, by decide +kernel, hz _, by decide, by decide⟩ (by show 0 + _ ≤ 3; have := hP3.dep; omega) rfl
    refine ⟨l, vs4, _, rfl, rfl, el4, by rw [ea4.len]; exact small1000 (Nat.le_trans hP3.wid (by omega)), ?_⟩
    have htl2 : (ts ++ [t2]).length = o.length + 1 := by rw [List.length_append, htl]; rfl
    obtain ⟨vs1, el1, ea1⟩ := hP4.inn
    refine ⟨_, rfl, _, rfl, S, _, _, .ref l, rfl, rfl, SqL.of hP4.st, top_at, .inl ⟨rfl, _, SqL.of el1⟩, _, rfl, _, rfl, (by show 0 ≤ sizeLine; decide), fun q hq => ⟨(by show 3 ≤ sizeLine; decide), fun p hp => ?_⟩⟩
    obtain ⟨el8, eS8, eP8⟩ := hP4.pushes kd t2 el1 hq hp
    refine ⟨l, vs1, _, rfl, rfl, el8, by rw [ea1.len]; exact small1000 (Nat.le_trans hP4.wid (by omega)), ?_⟩
    exact ⟨_, rfl, .inl ⟨rfl, _, SqL.of eS8⟩, _, rfl, _, rfl, S, _, _, .ref l, rfl, rfl, SqL.of eS8, top_at, _, rfl, l, _, _, .ref p, rfl, rfl, SqL.of upd_same, atI_last _ _, p, _, _, .ref q, rfl, rfl, SqT.of eP8, atI_nat rfl, S, _, _, rfl, rfl, eS8, hP4.roomS, fin _ _ _ _ (m + 1) t2 (Nat.le_refl _) ht2 htl2 hP4 [] q q p vs1 hq hp el1⟩
  · have htl1 : (ts ++ [("" : Str)]).length = o.length + 1 := by rw [List.length_append, htl]; rfl
    obtain ⟨vs1, el1, ea1⟩ := hP1.inn
    refine ⟨_, rfl, _, rfl, S, _, _, .ref l, rfl, rfl, SqL.of hP1.st, top_at, .inl ⟨rfl, _, SqL.of el1⟩, _, rfl, _, rfl, (by show 0 ≤ sizeLine; decide), fun q hq => ⟨(by show 3 ≤ sizeLine; decide), fun p hp => ?_⟩⟩
    obtain ⟨el8, eS8, eP8⟩ := hP1.pushes kd te el1 hq hp
    refine ⟨l, vs1, _, rfl, rfl, el8, by rw [ea1.len]; exact small1000 (Nat.le_trans hP1.wid (by omega)), ?_⟩
    exact ⟨_, rfl, .inl ⟨rfl, _, SqL.of eS8⟩, _, rfl, _, rfl, S, _, _, .ref l, rfl, rfl, SqL.of eS8, top_at, _, rfl, l, _, _, .ref p, rfl, rfl, SqL.of upd_same, atI_last _ _, p, _, _, .ref q, rfl, rfl, SqT.of eP8, atI_nat rfl, S, _, _, rfl, rfl, eS8, hP1.roomS, fin _ _ _ _ m te (Nat.le_succ _) hte htl1 hP1 [] q q p vs1 hq hp el1⟩
end
end Lm
namespace Lm
open PySem L2
abbrev s_program : Stmt := topS 16
def spProgram (K : PySem.W.Frag) : Sp := fun vs H Q _ => ∃ (c a : Addr) (ns : List Int) (ss : List Str), vs = [.ref c, .ref a] ∧ SqL K H c (ns.map V.int) ∧ ns.length ≤ 63 ∧ NamesAt K H a ss ∧
  ∀ (H' : Hp) (l : Addr) (rs : List Row), Same H H' → H l = none → RowsL K H' l rs → oks ss rs → deps rs ≤ 3 → tots rs ≤ 1000 → Q (.ref l) H'
section
variable {P : Program} {w : World} {K : PySem.W.Frag} {mg : Str → Option Value} {base : Heap} {f : Addr} {fd : FuncData}
theorem sc_program : FnScope ["_law_cells", "_law_names_here", "_law_stack", "_law_tests", "_law_k", "_law_number", "_law_way"] ["_law_cells", "_law_names_here"] (defScope s_program) := ⟨rfl, rfl, rfl, by decide +kernel, rfl, by decide +kernel, by decide +kernel⟩
theorem ok_program {fm fo fc fv fl : Addr} {dm do_ dc dv dl : FuncData} (F : Fun K "_law_program" "_law_program" s_program f fd) (ml : mg "len" = none) (mr : mg "range" = none)
    (M : Df P w K mg base "_law_mixed" 1 fm dm ["_law_cell", "_law_k"] spMixed) (O : Df P w K mg base "_law_opened" 1 fo do_ ["_law_number", "_law_names_here", "_law_stack", "_law_tests"] (spOpened K))
    (C : Df P w K mg base "_law_closed" 1 fc dc ["_law_stack", "_law_tests"] (spClosed K)) (DV : Df P w K mg base "_law_value" 1 fv dv ["_law_kind", "_law_number", "_law_names_here"] (spValue K))
    (DL : Df P w K mg base "_law_let" 2 fl dl ["_law_number", "_law_names_here"] (spLet K)) : FnOk P w K mg base CX0 3 f fd ["_law_cells", "_law_names_here"] (spProgram K) := by
  refine F.ok sc_program (fun vs H Q E h => ?_) (fun cdv A outer s H vs Q E hr h => ?_)
  · obtain ⟨c, a, ns, ss, rfl, _⟩ := h
    rfl
  obtain ⟨c, a, ns, ss, rfl, hS, h63, hN, k⟩ := h
  have nd := sc_program.nd
  have hr1 : Room 1 _ := hr.mono (by decide)
  refine ⟨_, pss_cons (ps_set (i := 2) nd rfl (Or.inl rfl) (pe_lst (pa_cons (pe_lst pa_nil) pa_nil))) <|
    pss_cons (ps_set (i := 3) nd rfl (Or.inl rfl) (pe_lst pa_nil)) <|
    pss_cons (ps_for PassesOwn.never rfl (pi_range1 rfl mr (pa_cons (pe_callB call_len_seq rfl ml PySem.boot_len (pa_cons (pv 0) pa_nil)) pa_nil)) (pg_name (i := 4) nd rfl (Or.inl rfl))
      (pss_cons (ps_set (i := 5) nd rfl (Or.inl rfl) (pe_df M hr1 (pa_cons (pe_ix ix_list (pv 0) (pv 4) (fun _ _ => rfl)) (pa_cons (pv 4) pa_nil)))) <|
      pss_cons (ps_set (i := 6) nd rfl (Or.inl rfl) (pe_op op_mod (pv 5) pe_int)) <|
      pss_cons (ps_set (i := 5) nd rfl (Or.inl rfl) (pe_op op_fdiv (pv 5) pe_int)) <|
      pss_one (ps_if (PW.pt (pw_and (pt_cmpR op_lt (pv 6) pe_int (nomark _)) (pw_and1 (pt_cmpR op_lt (pe_callB call_len_seq rfl ml PySem.boot_len (pa_cons (pv 3) pa_nil)) pe_int (nomark _)))))
        (pss_one (ps_expr (pe_df O hr1 (pa_cons (pv 5) (pa_cons (pv 1) (pa_cons (pv 2) (pa_cons (pv 3) pa_nil)))))))
        (pss_one (ps_if (PW.pt (pw_and (pt_cmpR op_eq (pv 6) pe_int (nomark _)) (pw_and1 (pt_cmpR op_gt (pe_callB call_len_seq rfl ml PySem.boot_len (pa_cons (pv 3) pa_nil)) pe_int (nomark _)))))
          (pss_one (ps_expr (pe_df C hr1 (pa_cons (pv 2) (pa_cons (pv 3) pa_nil)))))
          (pss_one (ps_if (pt_cmpR op_eq (pv 6) pe_int (nomark _))
            (pss_one (ps_expr (pe_bm PySem.F.plainAttrs_list PySem.F.slot_list_append PySem.F.type_list_append mt_append (pe_ix ix_list (pv 2) (pe_un un_neg pe_int) (fun _ _ => rfl))
              (pa_cons (pe_tup (pa_cons pe_str (pa_cons (pe_df DV hr1 (pa_cons (pe_op op_mod (pv 5) pe_int) (pa_cons (pe_op op_fdiv (pv 5) pe_int) (pa_cons (pv 1) pa_nil)))) pa_nil))) pa_nil))))
            (pss_one (ps_expr (pe_bm PySem.F.plainAttrs_list PySem.F.slot_list_append PySem.F.type_list_append mt_append (pe_ix ix_list (pv 2) (pe_un un_neg pe_int) (fun _ _ => rfl))
              (pa_cons (pe_df DL hr (pa_cons (pv 5) (pa_cons (pv 1) pa_nil))) pa_nil))))))))))) <|
    pss_cons (ps_while PassesOwn.never (pt_cmpR op_gt (pe_callB call_len_seq rfl ml PySem.boot_len (pa_cons (pv 3) pa_nil)) pe_int (nomark _))
      (pss_one (ps_expr (pe_df C hr1 (pa_cons (pv 2) (pa_cons (pv 3) pa_nil)))))) <|
    pss_one (ps_ret (pe_ix ix_list (pv 2) pe_int (fun _ _ => rfl))), ?_⟩
  refine ⟨(by show 0 ≤ sizeLine; decide), fun l hl => ⟨(by show 1 ≤ sizeLine; decide), fun S hS0 => ⟨(by show 0 ≤ sizeLine; decide), fun T hT => ?_⟩⟩⟩
  have nSl : S ≠ l := fun e => by rw [e, upd_same] at hS0; cases hS0
  have nTS : T ≠ S := fun e => by rw [e, upd_same] at hT; cases hT
  have hT1 : (upd H l (.lst [])) T = none := by rw [upd_ne nTS] at hT; exact hT
  have nTl : T ≠ l := fun e => by rw [e, upd_same] at hT1; cases hT1
  have eS : H S = none := by rw [upd_ne nSl] at hS0; exact hS0
  have eT : H T = none := by rw [upd_ne nTl] at hT1; exact hT1
  have hP : Prog K ss (2 * 0) H H (upd (upd (upd H l (.lst [])) S (.lst [.ref l])) T (.lst [])) S T l [] [] [] :=
    ⟨Same.refl _, (same_new hl _).trans ((same_new hS0 _).trans (same_new hT _)), ⟨[], by rw [upd_ne nTl.symm, upd_ne nSl.symm, upd_same], rfl⟩, True.intro,
      fun b hb => by
        simp only [opens, List.map_nil, List.mem_cons, List.not_mem_nil, or_false] at hb
        rcases hb with e | e | e <;> (rw [e]; assumption),
      by simp [opens, nSl, nTS.symm, nTl], True.intro, by decide, by decide, by decide, by rw [upd_ne nTS.symm, upd_same]; rfl, upd_same, fun t ht => by cases ht⟩
  have hN0 : ∀ {H'}, Same H H' → NamesAt K H' a ss := fun e => hN.mono (Same.kp e)
  refine ⟨_, rfl, c, _, rfl, .inl (hP.same.seq hS), _, rfl, (by rw [List.length_map]; omega), (by rw [List.length_map]; omega), for_range (lo := 0) (n := (((ns.map V.int).length : Nat) : Int).toNat) (fun i σ H' => ∃ (Hc : Hp) (l1 : Addr) (rs1 : List Row) (o1 : List (Addr × List Row)) (ts1 : List Str) (v4 v5 v6 : Option V),
    σ = [some (.ref c), some (.ref a), some (.ref S), some (.ref T), v4, v5, v6] ∧ Prog K ss (2 * i) H Hc H' S T l1 rs1 o1 ts1 ∧ ts1.length = o1.length) ⟨H, l, [], [], [], none, none, none, rfl, hP, rfl⟩ ?_ ?_⟩
  · rintro i σ H1 hi ⟨Hc, l1, rs1, o1, ts1, v4, v5, v6, rfl, hP1, htl1⟩
    rw [List.length_map] at hi
    have hi' : i < ns.length := by omega
    obtain ⟨vs1, el1, ea1⟩ := hP1.inn
    have hN1 := hN0 hP1.same
    have room1 : vs1.length < sizeLine := by
      rw [ea1.len]
      exact small1000 (Nat.le_trans hP1.wid (by omega))
    have hend : ∀ (H2 Hc2 : Hp) (l2 : Addr) (rs2 : List Row) (o2 : List (Addr × List Row)) (ts2 : List Str) (m2 : Nat), m2 ≤ 2 * (i + 1) → Prog K ss m2 H Hc2 H2 S T l2 rs2 o2 ts2 → ts2.length = o2.length → ∀ v4 v5 v6 : Option V,
        ∃ (Hc : Hp) (l1 : Addr) (rs1 : List Row) (o1 : List (Addr × List Row)) (ts1 : List Str) (w4 w5 w6 : Option V), [some (V.ref c), some (V.ref a), some (V.ref S), some (V.ref T), v4, v5, v6] = [some (V.ref c), some (V.ref a), some (V.ref S), some (V.ref T), w4, w5, w6] ∧ Prog K ss (2 * (i + 1)) H Hc H2 S T l1 rs1 o1 ts1 ∧ ts1.length = o1.length :=
      fun H2 Hc2 l2 rs2 o2 ts2 m2 hm hp ht v4 v5 v6 => ⟨Hc2, l2, rs2, o2, ts2, v4, v5, v6, rfl, hp.more hm, ht⟩
    refine ⟨_, rfl, _, rfl, c, _, _, _, rfl, rfl, hP1.same.seq hS, at_of (j := i) (v := .int ns[i]) (by omega) (by rw [List.getElem?_map, List.getElem?_eq_getElem hi']; all_goals rfl), _, rfl, _, _, rfl, fun n hn0 hn1 => ?_⟩
    refine ⟨_, rfl, _, _, rfl, rfl, (by show (0 : Int) < 9; decide), _, rfl, _, _, rfl, rfl, ⟨by decide, by decide⟩, ?_⟩
    refine ⟨_, rfl, _, _, rfl, rfl, _, rfl, ?_⟩
    refine ite2 (fun c1 => ?_) (fun c1 => ?_)
    · refine ⟨_, rfl, T, _, rfl, .inl (SqL.of hP1.te), _, _, rfl, rfl, _, rfl, ?_⟩
      refine ite2 (fun c2 => ?_) (fun c2 => ?_)
      · -- a block opens
        have c2' : (((ts1.map V.str).length : Nat) : Int) < 3 := of_decide_eq_true c2
        rw [List.length_map] at c2'
        refine ⟨_, rfl, _, rfl, _, rfl, _, rfl, _, a, S, T, l1, ss, 2 * i, H, Hc, rs1, o1, ts1, rfl, hN, hP1, by omega, htl1, by omega, fun H2 Hc2 q rs2 ts2 hP2 ht2 => ?_⟩
        exact hend _ _ _ _ _ _ _ (by omega) hP2 ht2 _ _ _
      ·
        refine ⟨_, rfl, rfl, _, rfl, ?_⟩
        refine ite2 (fun c2 => ?_) (fun c2 => ?_)
        · refine ⟨_, rfl, T, _, rfl, .inl (SqL.of hP1.te), _, _, rfl, rfl, _, rfl, ?_⟩
          refine ite2 (fun c3 => ?_) (fun c3 => ?_)
          · -- a block closes
            have c3' : (((ts1.map V.str).length : Nat) : Int) > 0 := of_decide_eq_true c3
            rw [List.length_map] at c3'
            obtain ⟨q1, o1', rfl⟩ : ∃ q o', o1 = q :: o' := by
              cases o1 with
              | nil => rw [htl1] at c3'; simp at c3'
              | cons q o' => exact ⟨q, o', rfl⟩
            obtain ⟨ts2, t2, rfl⟩ : ∃ ts2 t2, ts1 = ts2 ++ [t2] := by
              rcases List.eq_nil_or_concat ts1 with e | ⟨u, v, e⟩
              · rw [e] at htl1; cases htl1
              · exact ⟨u, v, by rw [e, List.concat_eq_append]⟩
            refine ⟨_, rfl, _, rfl, S, T, l1, ss, 2 * i, H, Hc, rs1, q1, o1', ts2, t2, rfl, hP1, by omega, fun H2 Hc2 rs2 hP2 => ?_⟩
            exact hend _ _ _ _ _ _ _ (by omega) hP2 (by rw [List.length_append] at htl1; exact Nat.succ.inj htl1) _ _ _
          ·
            refine ⟨_, rfl, rfl, _, rfl, ?_⟩
            refine ite2 (fun c3 => ?_) (fun c3 => ?_)
            · -- say
              refine ⟨_, rfl, _, rfl, S, _, _, .ref l1, rfl, rfl, SqL.of hP1.st, top_at, .inl ⟨rfl, _, SqL.of el1⟩, _, rfl, _, _, rfl, rfl, (by show (0 : Int) < 16; decide), _, rfl, _, _, rfl, rfl, ⟨by decide, by decide⟩, _, rfl, _, _, a, ss, rfl, Int.emod_nonneg _ (by decide), Int.emod_lt_of_pos _ (by decide), hN1, fun x hx => ⟨(by show 2 ≤ sizeLine; decide), fun p hp => ?_⟩⟩
              have hP2 := hP1.alloc hp (.tup [.str "say", x.v])
              have el2 : (upd H1 p (.tup [.str "say", x.v])) l1 = some (.lst vs1) := by
                rw [upd_ne (hP1.apart hp l1 (by simp))]
                exact el1
              have hP3 := hP2.app (r := .sy x) (v := .ref p) el2 ⟨p, rfl, SqT.of upd_same⟩ hx (by show 0 + _ ≤ 3; have := hP2.dep; omega) rfl
              exact ⟨l1, vs1, _, rfl, rfl, el2, room1, hend _ _ _ _ _ _ _ (by omega) hP3 htl1 _ _ _⟩
            · -- let
              refine ⟨_, rfl, _, rfl, S, _, _, .ref l1, rfl, rfl, SqL.of hP1.st, top_at, .inl ⟨rfl, _, SqL.of el1⟩, _, rfl, _, rfl, _, a, ss, rfl, hN1, fun p to sg x y H2 hp hok eH => ?_⟩
              subst eH
              have hP2 := hP1.alloc hp (.tup [.str "let", .str to, .str sg, x.v, y.v])
              have el2 : (upd H1 p (.tup [.str "let", .str to, .str sg, x.v, y.v])) l1 = some (.lst vs1) := by
                rw [upd_ne (hP1.apart hp l1 (by simp))]
                exact el1
              have hP3 := hP2.app (r := .lt to sg x y) (v := .ref p) el2 ⟨p, rfl, SqT.of upd_same⟩ hok (by show 0 + _ ≤ 3; have := hP2.dep; omega) rfl
              exact ⟨l1, vs1, _, rfl, rfl, el2, room1, hend _ _ _ _ _ _ _ (by omega) hP3 htl1 _ _ _⟩
        · refine iteF ?_
          refine ⟨_, rfl, rfl, _, rfl, ?_⟩
          refine ite2 (fun c3 => ?_) (fun c3 => ?_)
          · -- say
            refine ⟨_, rfl, _, rfl, S, _, _, .ref l1, rfl, rfl, SqL.of hP1.st, top_at, .inl ⟨rfl, _, SqL.of el1⟩, _, rfl, _, _, rfl, rfl, (by show (0 : Int) < 16; decide), _, rfl, _, _, rfl, rfl, ⟨by decide, by decide⟩, _, rfl, _, _, a, ss, rfl, Int.emod_nonneg _ (by decide), Int.emod_lt_of_pos _ (by decide), hN1, fun x hx => ⟨(by show 2 ≤ sizeLine; decide), fun p hp => ?_⟩⟩
            have hP2 := hP1.alloc hp (.tup [.str "say", x.v])
            have el2 : (upd H1 p (.tup [.str "say", x.v])) l1 = some (.lst vs1) := by
              rw [upd_ne (hP1.apart hp l1 (by simp))]
              exact el1
            have hP3 := hP2.app (r := .sy x) (v := .ref p) el2 ⟨p, rfl, SqT.of upd_same⟩ hx (by show 0 + _ ≤ 3; have := hP2.dep; omega) rfl
            exact ⟨l1, vs1, _, rfl, rfl, el2, room1, hend _ _ _ _ _ _ _ (by omega) hP3 htl1 _ _ _⟩
          · -- let
            refine ⟨_, rfl, _, rfl, S, _, _, .ref l1, rfl, rfl, SqL.of hP1.st, top_at, .inl ⟨rfl, _, SqL.of el1⟩, _, rfl, _, rfl, _, a, ss, rfl, hN1, fun p to sg x y H2 hp hok eH => ?_⟩
            subst eH
            have hP2 := hP1.alloc hp (.tup [.str "let", .str to, .str sg, x.v, y.v])
            have el2 : (upd H1 p (.tup [.str "let", .str to, .str sg, x.v, y.v])) l1 = some (.lst vs1) := by
              rw [upd_ne (hP1.apart hp l1 (by simp))]
              exact el1
            have hP3 := hP2.app (r := .lt to sg x y) (v := .ref p) el2 ⟨p, rfl, SqT.of upd_same⟩ hok (by show 0 + _ ≤ 3; have := hP2.dep; omega) rfl
            exact ⟨l1, vs1, _, rfl, rfl, el2, room1, hend _ _ _ _ _ _ _ (by omega) hP3 htl1 _ _ _⟩
    · refine iteF ?_
      refine ⟨_, rfl, rfl, _, rfl, ?_⟩
      refine ite2 (fun c2 => ?_) (fun c2 => ?_)
      · refine ⟨_, rfl, T, _, rfl, .inl (SqL.of hP1.te), _, _, rfl, rfl, _, rfl, ?_⟩
        refine ite2 (fun c3 => ?_) (fun c3 => ?_)
        · -- a block closes
          have c3' : (((ts1.map V.str).length : Nat) : Int) > 0 := of_decide_eq_true c3
          rw [List.length_map] at c3'
          obtain ⟨q1, o1', rfl⟩ : ∃ q o', o1 = q :: o' := by
            cases o1 with
            | nil => rw [htl1] at c3'; simp at c3'
            | cons q o' => exact ⟨q, o', rfl⟩
          obtain ⟨ts2, t2, rfl⟩ : ∃ ts2 t2, ts1 = ts2 ++ [t2] := by
            rcases List.eq_nil_or_concat ts1 with e | ⟨u, v, e⟩
            · rw [e] at htl1; cases htl1
            · exact ⟨u, v, by rw [e, List.concat_eq_append]⟩
          refine ⟨_, rfl, _, rfl, S, T, l1, ss, 2 * i, H, Hc, rs1, q1, o1', ts2, t2, rfl, hP1, by omega, fun H2 Hc2 rs2 hP2 => ?_⟩
          exact hend _ _ _ _ _ _ _ (by omega) hP2 (by rw [List.length_append] at htl1; exact Nat.succ.inj htl1) _ _ _
        ·
          refine ⟨_, rfl, rfl, _, rfl, ?_⟩
          refine ite2 (fun c3 => ?_) (fun c3 => ?_)
          · -- say
            refine ⟨_, rfl, _, rfl, S, _, _, .ref l1, rfl, rfl, SqL.of hP1.st, top_at, .inl ⟨rfl, _, SqL.of el1⟩, _, rfl, _, _, rfl, rfl, (by show (0 : Int) < 16; decide), _, rfl, _, _, rfl, rfl, ⟨by decide, by decide⟩, _, rfl, _, _, a, ss, rfl, Int.emod_nonneg _ (by decide), Int.emod_lt_of_pos _ (by decide), hN1, fun x hx => ⟨(by show 2 ≤ sizeLine; decide), fun p hp => ?_⟩⟩
            have hP2 := hP1.alloc hp (.tup [.str "say", x.v])
            have el2 : (upd H1 p (.tup [.str "say", x.v])) l1 = some (.lst vs1) := by
              rw [upd_ne (hP1.apart hp l1 (by simp))]
              exact el1
            have hP3 := hP2.app (r := .sy x) (v := .ref p) el2 ⟨p, rfl, SqT.of upd_same⟩ hx (by show 0 + _ ≤ 3; have := hP2.dep; omega) rfl
            exact ⟨l1, vs1, _, rfl, rfl, el2, room1, hend _ _ _ _ _ _ _ (by omega) hP3 htl1 _ _ _⟩
          · -- let
            refine ⟨_, rfl, _, rfl, S, _, _, .ref l1, rfl, rfl, SqL.of hP1.st, top_at, .inl ⟨rfl, _, SqL.of el1⟩, _, rfl, _, rfl, _, a, ss, rfl, hN1, fun p to sg x y H2 hp hok eH => ?_⟩
            subst eH
            have hP2 := hP1.alloc hp (.tup [.str "let", .str to, .str sg, x.v, y.v])
            have el2 : (upd H1 p (.tup [.str "let", .str to, .str sg, x.v, y.v])) l1 = some (.lst vs1) := by
              rw [upd_ne (hP1.apart hp l1 (by simp))]
              exact el1
            have hP3 := hP2.app (r := .lt to sg x y) (v := .ref p) el2 ⟨p, rfl, SqT.of upd_same⟩ hok (by show 0 + _ ≤ 3; have := hP2.dep; omega) rfl
            exact ⟨l1, vs1, _, rfl, rfl, el2, room1, hend _ _ _ _ _ _ _ (by omega) hP3 htl1 _ _ _⟩
      · refine iteF ?_
        refine ⟨_, rfl, rfl, _, rfl, ?_⟩
        refine ite2 (fun c3 => ?_) (fun c3 => ?_)
        · -- say
          refine ⟨_, rfl, _, rfl, S, _, _, .ref l1, rfl, rfl, SqL.of hP1.st, top_at, .inl ⟨rfl, _, SqL.of el1⟩, _, rfl, _, _, rfl, rfl, (by show (0 : Int) < 16; decide), _, rfl, _, _, rfl, rfl, ⟨by decide, by decide⟩, _, rfl, _, _, a, ss, rfl, Int.emod_nonneg _ (by decide), Int.emod_lt_of_pos _ (by decide), hN1, fun x hx => ⟨(by show 2 ≤ sizeLine; decide), fun p hp => ?_⟩⟩
          have hP2 := hP1.alloc hp (.tup [.str "say", x.v])
          have el2 : (upd H1 p (.tup [.str "say", x.v])) l1 = some (.lst vs1) := by
            rw [upd_ne (hP1.apart hp l1 (by simp))]
            exact el1
          have hP3 := hP2.app (r := .sy x) (v := .ref p) el2 ⟨p, rfl, SqT.of upd_same⟩ hx (by show 0 + _ ≤ 3; have := hP2.dep; omega) rfl
          exact ⟨l1, vs1, _, rfl, rfl, el2, room1, hend _ _ _ _ _ _ _ (by omega) hP3 htl1 _ _ _⟩
        · -- let
          refine ⟨_, rfl, _, rfl, S, _, _, .ref l1, rfl, rfl, SqL.of hP1.st, top_at, .inl ⟨rfl, _, SqL.of el1⟩, _, rfl, _, rfl, _, a, ss, rfl, hN1, fun p to sg x y H2 hp hok eH => ?_⟩
          subst eH
          have hP2 := hP1.alloc hp (.tup [.str "let", .str to, .str sg, x.v, y.v])
          have el2 : (upd H1 p (.tup [.str "let", .str to, .str sg, x.v, y.v])) l1 = some (.lst vs1) := by
            rw [upd_ne (hP1.apart hp l1 (by simp))]
            exact el1
          have hP3 := hP2.app (r := .lt to sg x y) (v := .ref p) el2 ⟨p, rfl, SqT.of upd_same⟩ hok (by show 0 + _ ≤ 3; have := hP2.dep; omega) rfl
          exact ⟨l1, vs1, _, rfl, rfl, el2, room1, hend _ _ _ _ _ _ _ (by omega) hP3 htl1 _ _ _⟩
  · rintro σ H1 ⟨Hc, l1, rs1, o1, ts1, v4, v5, v6, rfl, hP1, htl1⟩
    rw [List.length_map] at hP1
    refine ⟨fun m σ H' => ∃ (Hc : Hp) (l1 : Addr) (rs1 : List Row) (o1 : List (Addr × List Row)) (ts1 : List Str) (n : Nat), m = o1.length ∧ σ = [some (.ref c), some (.ref a), some (.ref S), some (.ref T), v4, v5, v6] ∧ Prog K ss n H Hc H' S T l1 rs1 o1 ts1 ∧ ts1.length = o1.length ∧ n + 2 * o1.length ≤ 900, ⟨_, Hc, l1, rs1, o1, ts1, _, rfl, rfl, hP1, htl1, by have := hP1.dep; omega⟩, ?_⟩
    rintro m σ H2 ⟨Hc2, l2, rs2, o2, ts2, n2, rfl, rfl, hP2, htl2, hn2⟩
    refine ⟨_, rfl, T, _, rfl, .inl (SqL.of hP2.te), _, _, rfl, rfl, _, rfl, ?_⟩
    refine ite2 (fun c3 => ?_) (fun c3 => ?_)
    · have c3' : (((ts2.map V.str).length : Nat) : Int) > 0 := of_decide_eq_true c3
      rw [List.length_map] at c3'
      obtain ⟨q2, o2', rfl⟩ : ∃ q o', o2 = q :: o' := by
        cases o2 with
        | nil => rw [htl2] at c3'; simp at c3'
        | cons q o' => exact ⟨q, o', rfl⟩
      obtain ⟨ts3, t3, rfl⟩ : ∃ ts3 t3, ts2 = ts3 ++ [t3] := by
        rcases List.eq_nil_or_concat ts2 with e | ⟨u, v, e⟩
        · rw [e] at htl2; cases htl2
        · exact ⟨u, v, by rw [e, List.concat_eq_append]⟩
      have hn3 : n2 + 2 * (o2'.length + 1) ≤ 900 := hn2
      refine ⟨_, fun _ _ z => ⟨o2'.length, Nat.lt_succ_self _, z⟩, ?_⟩
      refine ⟨_, rfl, _, rfl, S, T, l2, ss, n2, H, Hc2, rs2, q2, o2', ts3, t3, rfl, hP2, by omega, fun H3 Hc3 rs3 hP3 => ?_⟩
      exact ⟨Hc3, q2.1, rs3, o2', ts3, n2 + 2, rfl, rfl, hP3, by rw [List.length_append] at htl2; exact Nat.succ.inj htl2, by omega⟩
    · have c3' : ¬ (((ts2.map V.str).length : Nat) : Int) > 0 := of_decide_eq_false (Bool.eq_false_iff.mpr c3)
      rw [List.length_map] at c3'
      obtain rfl : o2 = [] := List.length_eq_zero_iff.mp (by omega)
      obtain ⟨vs2, el2, ea2⟩ := hP2.inn
      have hl2 : H l2 = none := hP2.old.free (hP2.no l2 (by simp))
      refine ⟨_, rfl, S, _, _, .ref l2, rfl, rfl, SqL.of hP2.st, atI_nat (j := 0) rfl, k H2 l2 rs2 hP2.same hl2 ⟨vs2, el2, AllAt.mono (Same.kp hP2.cl) _ _ ea2⟩ hP2.ok (by have := hP2.dep; simpa using this) (by have h9 : tots rs2 + 0 ≤ n2 := hP2.num; omega)⟩
end
end Lm
namespace Lm
open PySem L2
abbrev s_copied : Stmt := topS 20
def spCopied (K : PySem.W.Frag) (n : Nat) : Sp := fun vs H Q _ => ∃ (l : Addr) (rs : List Row) (Hc : Hp), vs = [.ref l] ∧ Same Hc H ∧ RowsAt K Hc l rs ∧ deps rs < n ∧ rs.length ≤ 2000 ∧ thins rs ∧
  ∀ (Hc' H' : Hp) (l' : Addr), Part Hc H Hc' H' → RowsAt K Hc' l' rs → Q (.ref l') H'
section
variable {P : Program} {w : World} {K : PySem.W.Frag} {mg : Str → Option Value} {base : Heap} {f : Addr} {fd : FuncData}
theorem sc_copied : FnScope ["_law_rows", "_law_made", "_law_row"] ["_law_rows"] (defScope s_copied) := ⟨rfl, rfl, rfl, by decide +kernel, rfl, by decide +kernel, by decide +kernel⟩
theorem ok_copied {n : Nat} (F : Fun K "_law_copied" "_law_copied" s_copied f fd) (ml : mg "len" = none) (G : Df P w K mg base "_law_copied" n f fd ["_law_rows"] (spCopied K n)) : FnOk P w K mg base CX0 (n + 1) f fd ["_law_rows"] (spCopied K (n + 1)) := by
  refine F.ok sc_copied (fun vs H Q E h => ?_) (fun cdv A outer s H vs Q E hr h => ?_)
  · obtain ⟨l, rs, Hc, rfl, _⟩ := h
    rfl
  obtain ⟨l, rs, Hc, rfl, hc, hR, hd, hlen, hth, k⟩ := h
  have nd := sc_copied.nd
  refine ⟨_, pss_cons (ps_set (i := 1) nd rfl (Or.inl rfl) (pe_lst pa_nil)) <|
    pss_cons (ps_for PassesOwn.never rfl (pi_list (pv 0)) (pg_name (i := 2) nd rfl (Or.inl rfl))
      (pss_one (ps_if (pt_cmpR op_eq (pe_callB call_len_seq rfl ml PySem.boot_len (pa_cons (pv 2) pa_nil)) pe_int (nomark _))
        (pss_one (ps_expr (pe_bm PySem.F.plainAttrs_list PySem.F.slot_list_append PySem.F.type_list_append mt_append (pv 1)
          (pa_cons (pe_tup (pa_cons (pe_ix ix_tup (pv 2) pe_int (fun _ _ => rfl)) (pa_cons (pe_ix ix_tup (pv 2) pe_int (fun _ _ => rfl)) (pa_cons (pe_df G hr (pa_cons (pe_ix ix_tup (pv 2) pe_int (fun _ _ => rfl)) pa_nil)) pa_nil)))) pa_nil))))
        (pss_one (ps_expr (pe_bm PySem.F.plainAttrs_list PySem.F.slot_list_append PySem.F.type_list_append mt_append (pv 1) (pa_cons (pv 2) pa_nil))))))) <|
    pss_one (ps_ret (pv 1)), ?_⟩
  obtain ⟨vs, eS, eA⟩ := hR
  refine ⟨(by show 0 ≤ sizeLine; decide), fun D hD => ?_⟩
  have p0 : Part Hc H Hc (upd H D (.lst [])) := Part.open hc hD _
  have eS0 := hc.seq eS
  refine ⟨_, rfl, l, rfl, ⟨_, p0.all.seq eS0⟩, for_list (K := K) (a := l) (xs := vs) (fun i σ H' => ∃ (v2 : Option V) (us : List V) (Hd : Hp), σ = [some (.ref l), some (.ref D), v2] ∧ Same H H' ∧ Same Hc Hd ∧ Same Hd H' ∧ (∀ b o, H b = some o → Hc b = none → Hd b = none) ∧ Hd D = none ∧ H' D = some (.lst us) ∧ AllAt K Hd (rs.take i) us)
    ⟨none, [], Hc, rfl, p0.all, Same.refl _, p0.sub, fun _ _ _ h => h, hc.free hD, upd_same, rfl⟩ (fun i σ H' _ ⟨_, _, _, _, s1, _⟩ => s1.seq eS0) ?_ ?_⟩
  · rintro i v σ H1 hi ⟨v2, us, Hd, rfl, s1, s2, s3, s4, s5, eD, eU⟩
    obtain ⟨r, hri, hRow⟩ := eA.at hi
    have hRow1 := RowAt.mono (Same.kp s2) r v hRow
    have room : us.length < sizeLine := by
      rw [eU.len, List.length_take]
      exact Nat.lt_of_le_of_lt (Nat.le_trans (Nat.min_le_right _ _) hlen) (by decide)
    have fin : ∀ (Hd' H2 : Hp) (v' : V) (w2 : Option V), Part Hd H1 Hd' H2 → RowAt K Hd' r v' → H2 D = some (.lst us) ∧ ∃ (v2 : Option V) (us' : List V) (He : Hp), [some (V.ref l), some (V.ref D), w2] = [some (V.ref l), some (V.ref D), v2] ∧ Same H (upd H2 D (.lst (us ++ [v']))) ∧ Same Hc He ∧ Same He (upd H2 D (.lst (us ++ [v']))) ∧
        (∀ b o, H b = some o → Hc b = none → He b = none) ∧ He D = none ∧ (upd H2 D (.lst (us ++ [v']))) D = some (.lst us') ∧ AllAt K He (rs.take (i + 1)) us' := fun Hd' H2 v' w2 pt hrow => by
      have hD2 : Hd' D = none := pt.no D _ eD s5
      refine ⟨pt.all _ _ eD, w2, us ++ [v'], Hd', rfl, fun b o hb => ?_, s2.trans pt.cl, fun b o hb => ?_, fun b o h1 h2 => pt.no b o (s1 b o h1) (s4 b o h1 h2), hD2, upd_same, ?_⟩
      · rw [upd_ne (ne_of_none hb hD)]
        exact pt.all _ _ (s1 b o hb)
      · rw [upd_ne (ne_of_none hb hD2)]
        exact pt.sub b o hb
      · rw [take_one hri]
        exact (AllAt.mono (Same.kp pt.cl) _ _ eU).app (AllAt.one hrow)
    match r, hri, hRow, hRow1, fin with
    | .lt to sg x y, hri, ⟨p, h1, h2⟩, hRow1, fin =>
      subst h1
      refine ⟨_, rfl, p, _, rfl, .inr (Kp.sqT (Same.kp (hc.trans s1)) h2), rfl, _, rfl, ?_⟩
      refine ite2 (fun c => absurd (V.int.inj (of_decide_eq_true c)) (by show ¬ ((5 : Nat) : Int) = 3; decide)) (fun c => ?_)
      exact ⟨_, rfl, .inl ⟨rfl, _, SqL.of eD⟩, _, rfl, D, us, _, rfl, rfl, eD, room, (fin Hd H1 _ _ (Part.refl s3) hRow1).2⟩
    | .sy x, hri, ⟨p, h1, h2⟩, hRow1, fin =>
      subst h1
      refine ⟨_, rfl, p, _, rfl, .inr (Kp.sqT (Same.kp (hc.trans s1)) h2), rfl, _, rfl, ?_⟩
      refine ite2 (fun c => absurd (V.int.inj (of_decide_eq_true c)) (by show ¬ ((2 : Nat) : Int) = 3; decide)) (fun c => ?_)
      exact ⟨_, rfl, .inl ⟨rfl, _, SqL.of eD⟩, _, rfl, D, us, _, rfl, rfl, eD, room, (fin Hd H1 _ _ (Part.refl s3) hRow1).2⟩
    | .bk kd ts qs, hri, ⟨p, l2, ws, h1, h2, h3, h4⟩, hRow1, fin =>
      subst h1
      have hT := Kp.sqT (Same.kp (hc.trans s1)) h2
      have hdep : deps qs + 1 ≤ deps rs := dep_at hri
      obtain ⟨hq1, hq2⟩ : qs.length ≤ 2000 ∧ thins qs := thins_at hth hri
      refine ⟨_, rfl, p, _, rfl, .inr hT, rfl, _, rfl, ?_⟩
      refine ite2 (fun c => ?_) (fun c => absurd (decide_eq_true (rfl : V.int 3 = V.int 3)) c)
      refine ⟨_, rfl, .inl ⟨rfl, _, SqL.of eD⟩, _, rfl, p, _, _, _, rfl, rfl, hT, atI_nat (j := 0) rfl, _, rfl, p, _, _, _, rfl, rfl, hT, atI_nat (j := 1) rfl, _, rfl, p, _, _, _, rfl, rfl, hT, atI_nat (j := 2) rfl, l2, qs, Hd, rfl, s3, RowsAt.mono (Same.kp s2) ⟨ws, h3, h4⟩, by omega, hq1, hq2, fun He H2 l3 pt hR3 => ?_⟩
      refine ⟨(by show 3 ≤ sizeLine; decide), fun q hq => ?_⟩
      have pn := Part.new pt.sub hq (.tup [.str kd, ts, .ref l3])
      obtain ⟨zs, g1, g2⟩ := hR3.mono (Same.kp pn.cl)
      obtain ⟨f1, f2⟩ := fin _ _ (.ref q) (some (.ref p)) (pt.trans pn) ⟨q, l3, zs, rfl, SqT.of upd_same, g1, g2⟩
      exact ⟨D, us, _, rfl, rfl, f1, room, f2⟩
  · rintro σ H1 ⟨v2, us, Hd, rfl, s1, s2, s3, s4, s5, eD, eU⟩
    rw [eA.len, List.take_length] at eU
    have sD : Same Hd (upd Hd D (.lst us)) := same_new s5 _
    refine ⟨_, rfl, k (upd Hd D (.lst us)) H1 D ⟨s1, s2.trans sD, fun b o hb => ?_, fun b o h1 h2 => ?_⟩ ⟨us, SqL.of upd_same, AllAt.mono (Same.kp sD) _ _ eU⟩⟩
    · by_cases e : b = D
      · rw [e, upd_same] at hb
        rw [e, ← hb]
        exact eD
      · rw [upd_ne e] at hb
        exact s3 b o hb
    · rw [upd_ne (ne_of_none h1 hD)]
      exact s4 b o h1 h2
theorem all_copied (F : Fun K "_law_copied" "_law_copied" s_copied f fd) (m : mg "_law_copied" = some (.ref f)) (b : Binds K fd ["_law_rows"] []) (ml : mg "len" = none) : ∀ n, FnOk P w K mg base CX0 n f fd ["_law_rows"] (spCopied K n)
  | 0 => none_left fun vs H Q E ⟨l, rs, Hc, _, _, _, h, _⟩ => absurd h (Nat.not_lt_zero _)
  | n + 1 => ok_copied F ml ⟨all_copied F m b ml n, m, F.kp, b⟩
end
end Lm
namespace Lm
open PySem L2
abbrev s_whole : Stmt := topS 18
def spWhole : Sp := fun vs H Q _ => ∃ i : Int, vs = [.int i] ∧ Q (.bl true) H
section
variable {P : Program} {w : World} {K : PySem.W.Frag} {mg : Str → Option Value} {base : Heap} {f : Addr} {fd : FuncData}
theorem sc_whole : FnScope ["_law_found"] ["_law_found"] (defScope s_whole) := ⟨rfl, rfl, rfl, by decide +kernel, rfl, by decide +kernel, by decide +kernel⟩
theorem ok_whole (F : Fun K "_law_whole" "_law_whole" s_whole f fd) (B : Bn mg) : FnOk P w K mg base CX0 1 f fd ["_law_found"] spWhole := by
  refine F.ok sc_whole (fun vs H Q E h => ?_) (fun cdv A outer s H vs Q E hr h => ?_)
  · obtain ⟨i, rfl, _⟩ := h
    rfl
  obtain ⟨i, rfl, k⟩ := h
  refine ⟨_, pss_one (ps_ret (pe_and (pe_callB call_isi rfl B.isinstance (by decide +kernel) (pa_cons (pv 0) (pa_cons (pe_bltn (v := .ty "int") rfl B.int (by decide +kernel) rfl) pa_nil)))
    (pe_one (pe_not (pe_callB call_isi rfl B.isinstance (by decide +kernel) (pa_cons (pv 0) (pa_cons (pe_bltn (v := .ty "bool") rfl B.bool (by decide +kernel) rfl) pa_nil))))))), ?_⟩
  exact ⟨_, rfl, _, _, _, _, true, rfl, .ty _, ty_int _, kit_ty (by decide +kernel), _, rfl, iteT ⟨_, rfl, _, _, _, _, false, rfl, .ty _, ty_int _, kit_ty (by decide +kernel), _, rfl, k⟩⟩
end
end Lm
namespace Lm
open PySem L2
abbrev s_alike : Stmt := topS 19
def spAlike (K : PySem.W.Frag) (n : Nat) : Sp := fun vs H Q _ => ∃ x y : V, vs = [x, y] ∧ Alk K H n x y ∧ ∀ H' : Hp, Same H H' → Q (.bl true) H'
section
variable {P : Program} {w : World} {K : PySem.W.Frag} {mg : Str → Option Value} {base : Heap} {f : Addr} {fd : FuncData}
theorem all_true (n : Nat) : (List.replicate n true).all id = true := by simp
abbrev nAlike : List Str := ["_law_found", "_law_due", "_law_k"]
theorem sc_alike : FnScope nAlike ["_law_found", "_law_due"] (defScope s_alike) := ⟨rfl, rfl, rfl, by decide +kernel, rfl, by decide +kernel, by decide +kernel⟩
theorem ok_alike {n : Nat} {fw : Addr} {dw : FuncData} (F : Fun K "_law_alike" "_law_alike" s_alike f fd) (B : Bn mg) (W : Df P w K mg base "_law_whole" 1 fw dw ["_law_found"] spWhole)
    (G : Df P w K mg base "_law_alike" (n + 1) f fd ["_law_found", "_law_due"] (spAlike K n)) : FnOk P w K mg base CX0 (n + 2) f fd ["_law_found", "_law_due"] (spAlike K (n + 1)) := by
  refine F.ok sc_alike (fun vs H Q E h => ?_) (fun cdv A outer s H vs Q E hr h => ?_)
  · obtain ⟨x, y, rfl, _⟩ := h
    rfl
  obtain ⟨x, y, rfl, hA, k⟩ := h
  have nd := sc_alike.nd
  have hr1 : Room 1 _ := hr.mono (by omega)
  refine ⟨_, pss_cons (ps_if (PW.pt (pw_or (pt_val (pe_callB call_isi rfl B.isinstance (by decide +kernel) (pa_cons (pv 1) (pa_cons (pe_bltn (v := .ty "list") rfl B.list (by decide +kernel) rfl) pa_nil))))
        (pw_or1 (pt_val (pe_callB call_isi rfl B.isinstance (by decide +kernel) (pa_cons (pv 1) (pa_cons (pe_bltn (v := .ty "tuple") rfl B.tuple (by decide +kernel) rfl) pa_nil)))))))
      (pss_cons (ps_if (PW.pt (pw_and (pt_val (pe_callB call_isi rfl B.isinstance (by decide +kernel) (pa_cons (pv 1) (pa_cons (pe_bltn (v := .ty "list") rfl B.list (by decide +kernel) rfl) pa_nil))))
          (pw_and1 (pt_not (pt_val (pe_callB call_isi rfl B.isinstance (by decide +kernel) (pa_cons (pv 0) (pa_cons (pe_bltn (v := .ty "list") rfl B.list (by decide +kernel) rfl) pa_nil))))))))
          (pss_one (ps_ret pe_bl)) pss_nil) <|
        pss_cons (ps_if (PW.pt (pw_and (pt_val (pe_callB call_isi rfl B.isinstance (by decide +kernel) (pa_cons (pv 1) (pa_cons (pe_bltn (v := .ty "tuple") rfl B.tuple (by decide +kernel) rfl) pa_nil))))
          (pw_and1 (pt_not (pt_val (pe_callB call_isi rfl B.isinstance (by decide +kernel) (pa_cons (pv 0) (pa_cons (pe_bltn (v := .ty "tuple") rfl B.tuple (by decide +kernel) rfl) pa_nil))))))))
          (pss_one (ps_ret pe_bl)) pss_nil) <|
        pss_cons (ps_if (pt_cmpR op_ne (pe_callB call_len_seq rfl B.len PySem.boot_len (pa_cons (pv 0) pa_nil)) (pe_callB call_len_seq rfl B.len PySem.boot_len (pa_cons (pv 1) pa_nil)) (nomark _)) (pss_one (ps_ret pe_bl)) pss_nil) <|
        pss_one (ps_ret (pe_callB (cr_all rfl) rfl B.all (by decide +kernel) (pa_cons (pe_lc (own := [("_law_k", 2)]) (g := gName 2) rfl nd (pi_range1 rfl B.range (pa_cons (pe_callB call_len_seq rfl B.len PySem.boot_len (pa_cons (pv 1) pa_nil)) pa_nil))
          (blkOk_by (N := nAlike) (sc := defScope s_alike) (by decide +kernel)) (fun _ _ _ _ _ => pg_name (i := 2) nd rfl (Or.inl rfl)) (fun _ _ _ _ _ => pts_nil)
          (fun _ _ _ _ _ => pe_df G hr (pa_cons (pe_ix (r := rIx K) (show IxR _ (rIx K) from ix_seq) (pv 0) (pv 2) (fun _ _ => rfl)) (pa_cons (pe_ix (r := rIx K) (show IxR _ (rIx K) from ix_seq) (pv 1) (pv 2) (fun _ _ => rfl)) pa_nil)))) pa_nil)))) pss_nil) <|
    pss_cons (ps_if (pt_val (pe_callB call_isi rfl B.isinstance (by decide +kernel) (pa_cons (pv 1) (pa_cons (pe_bltn (v := .ty "str") rfl B.str (by decide +kernel) rfl) pa_nil))))
      (pss_one (ps_ret (pe_and (pe_callB call_isi rfl B.isinstance (by decide +kernel) (pa_cons (pv 0) (pa_cons (pe_bltn (v := .ty "str") rfl B.str (by decide +kernel) rfl) pa_nil))) (pe_one (pe_cmpR op_eq (pv 0) (pv 1) (nomark _)))))) pss_nil) <|
    pss_one (ps_ret (pe_and (pe_df W hr1 (pa_cons (pv 0) pa_nil)) (pe_one (pe_cmpR op_eq (pv 0) (pv 1) (nomark _))))), ?_⟩
  rcases hA with ⟨z, rfl, rfl⟩ | ⟨z, rfl, rfl⟩ | ⟨p, q, xs, ys, rfl, rfl, h3, h4, h5, h6, h7⟩ | ⟨p, q, xs, ys, rfl, rfl, h3, h4, h5, h6, h7⟩
  · refine ⟨_, rfl, _, _, _, _, false, rfl, .ty _, ty_str _, kit_ty (by decide +kernel), _, rfl, iteF ⟨_, rfl, _, _, _, _, false, rfl, .ty _, ty_str _, kit_ty (by decide +kernel), _, rfl, iteF ?_⟩⟩
    refine ⟨_, rfl, _, _, _, _, true, rfl, .ty _, ty_str _, kit_ty (by decide +kernel), _, rfl, iteT ?_⟩
    refine ⟨_, rfl, _, _, _, _, true, rfl, .ty _, ty_str _, kit_ty (by decide +kernel), _, rfl, iteT ⟨_, rfl, _, rfl, rfl, ?_⟩⟩
    show Q (.bl (decide (V.str z = V.str z))) H
    rw [decide_eq_true rfl]
    exact k H (Same.refl _)
  · refine ⟨_, rfl, _, _, _, _, false, rfl, .ty _, ty_int _, kit_ty (by decide +kernel), _, rfl, iteF ⟨_, rfl, _, _, _, _, false, rfl, .ty _, ty_int _, kit_ty (by decide +kernel), _, rfl, iteF ?_⟩⟩
    refine ⟨_, rfl, _, _, _, _, false, rfl, .ty _, ty_int _, kit_ty (by decide +kernel), _, rfl, iteF ?_⟩
    refine ⟨_, rfl, z, rfl, _, rfl, iteT ⟨_, rfl, _, rfl, rfl, ?_⟩⟩
    show Q (.bl (decide (V.int z = V.int z))) H
    rw [decide_eq_true rfl]
    exact k H (Same.refl _)
  · -- lists
    refine ⟨_, rfl, _, _, _, _, true, rfl, .ty _, ty_list h4, kit_ty (by decide +kernel), _, rfl, iteT (iteT ?_)⟩
    refine ⟨_, rfl, _, _, _, _, true, rfl, .ty _, ty_list h4, kit_ty (by decide +kernel), _, rfl, iteT ⟨_, rfl, _, _, _, _, true, rfl, .ty _, ty_list h3, kit_ty (by decide +kernel), _, rfl, iteF ?_⟩⟩
    refine ⟨_, rfl, _, _, _, _, false, rfl, .ty _, ty_list h4, kit_ty (by decide +kernel), _, rfl, iteF (iteF ?_)⟩
    refine ⟨_, rfl, p, _, rfl, .inl h3, _, rfl, q, _, rfl, .inl h4, rfl, _, rfl, iteNS (by rw [h5]) ?_⟩
    refine ⟨_, rfl, q, _, rfl, .inl h4, _, rfl, by omega, by omega, fun D hD => lc_range (lo := 0) (n := ((ys.length : Nat) : Int).toNat) (fun i H' => H' D = some (.lst ((List.replicate i true).map V.bl)) ∧ Same H H') ⟨upd_same, same_new hD _⟩ ?_ ?_⟩
    · intro i H1 hi ⟨e1, s1⟩
      have hiy : i < ys.length := by omega
      have hix : i < xs.length := by omega
      refine ⟨rfl, yes (iteT ?_)⟩
      refine ⟨_, rfl, _, rfl, .inl ⟨p, _, _, xs[i], rfl, rfl, Kp.sqL (Same.kp s1) h3, at_of (j := i) (v := xs[i]) (by omega) (List.getElem?_eq_getElem _), _, rfl, _, rfl, .inl ⟨q, _, _, ys[i], rfl, rfl, Kp.sqL (Same.kp s1) h4, at_of (j := i) (v := ys[i]) (by omega) (List.getElem?_eq_getElem _), xs[i], ys[i], rfl, (h7 i _ _ (List.getElem?_eq_getElem _) (List.getElem?_eq_getElem _)).mono (Same.kp s1) (Nat.le_refl _), fun H2 s2 => ?_⟩⟩⟩
      refine ⟨_, s2 _ _ e1, ?_, ?_, fun b o hb => ?_⟩
      · rw [List.length_map, List.length_replicate]
        exact Nat.lt_of_lt_of_le hi (by rw [sizeLine_eq]; omega)
      · rw [upd_same, List.replicate_succ', List.map_append]
        rfl
      · rw [upd_ne (ne_of_none hb hD)]
        exact s2 b o (s1 b o hb)
    · intro H1 ⟨e1, s1⟩
      refine ⟨D, _, rfl, SqL.of e1, ?_⟩
      rw [all_true]
      exact k H1 s1
  · -- tuples
    refine ⟨_, rfl, _, _, _, _, false, rfl, .ty _, ty_tuple h4, kit_ty (by decide +kernel), _, rfl, iteF ⟨_, rfl, _, _, _, _, true, rfl, .ty _, ty_tuple h4, kit_ty (by decide +kernel), _, rfl, iteT ?_⟩⟩
    refine ⟨_, rfl, _, _, _, _, false, rfl, .ty _, ty_tuple h4, kit_ty (by decide +kernel), _, rfl, iteF (iteF ?_)⟩
    refine ⟨_, rfl, _, _, _, _, true, rfl, .ty _, ty_tuple h4, kit_ty (by decide +kernel), _, rfl, iteT ⟨_, rfl, _, _, _, _, true, rfl, .ty _, ty_tuple h3, kit_ty (by decide +kernel), _, rfl, iteF ?_⟩⟩
    refine ⟨_, rfl, p, _, rfl, .inr h3, _, rfl, q, _, rfl, .inr h4, rfl, _, rfl, iteNS (by rw [h5]) ?_⟩
    refine ⟨_, rfl, q, _, rfl, .inr h4, _, rfl, by omega, by omega, fun D hD => lc_range (lo := 0) (n := ((ys.length : Nat) : Int).toNat) (fun i H' => H' D = some (.lst ((List.replicate i true).map V.bl)) ∧ Same H H') ⟨upd_same, same_new hD _⟩ ?_ ?_⟩
    · intro i H1 hi ⟨e1, s1⟩
      have hiy : i < ys.length := by omega
      have hix : i < xs.length := by omega
      refine ⟨rfl, yes (iteT ?_)⟩
      refine ⟨_, rfl, _, rfl, .inr (.inl ⟨p, _, _, xs[i], rfl, rfl, Kp.sqT (Same.kp s1) h3, at_of (j := i) (v := xs[i]) (by omega) (List.getElem?_eq_getElem _), _, rfl, _, rfl, .inr (.inl ⟨q, _, _, ys[i], rfl, rfl, Kp.sqT (Same.kp s1) h4, at_of (j := i) (v := ys[i]) (by omega) (List.getElem?_eq_getElem _), xs[i], ys[i], rfl, (h7 i _ _ (List.getElem?_eq_getElem _) (List.getElem?_eq_getElem _)).mono (Same.kp s1) (Nat.le_refl _), fun H2 s2 => ?_⟩)⟩)⟩
      refine ⟨_, s2 _ _ e1, ?_, ?_, fun b o hb => ?_⟩
      · rw [List.length_map, List.length_replicate]
        exact Nat.lt_of_lt_of_le hi (by rw [sizeLine_eq]; omega)
      · rw [upd_same, List.replicate_succ', List.map_append]
        rfl
      · rw [upd_ne (ne_of_none hb hD)]
        exact s2 b o (s1 b o hb)
    · intro H1 ⟨e1, s1⟩
      refine ⟨D, _, rfl, SqL.of e1, ?_⟩
      rw [all_true]
      exact k H1 s1
theorem all_alike {fw : Addr} {dw : FuncData} (F : Fun K "_law_alike" "_law_alike" s_alike f fd) (m : mg "_law_alike" = some (.ref f)) (b : Binds K fd ["_law_found", "_law_due"] []) (B : Bn mg) (W : Df P w K mg base "_law_whole" 1 fw dw ["_law_found"] spWhole) :
    ∀ n, FnOk P w K mg base CX0 (n + 1) f fd ["_law_found", "_law_due"] (spAlike K n)
  | 0 => none_left fun vs H Q E ⟨x, y, _, h, _⟩ => h
  | n + 1 => ok_alike F B W ⟨all_alike F m b B W n, m, F.kp, b⟩
end
end Lm
namespace Lm
open PySem L2
abbrev s_come : Stmt := topS 5
abbrev s_run : Stmt := topS 7
abbrev m_pinit : Stmt := inClass (topS 6) 0
abbrev m_worth : Stmt := inClass (topS 6) 1
abbrev m_stop : Stmt := inClass (topS 6) 2
abbrev m_take : Stmt := inClass (topS 6) 3
abbrev m_rows : Stmt := inClass (topS 6) 4
abbrev m_row : Stmt := inClass (topS 6) 5
abbrev m_let : Stmt := inClass (topS 6) 6
abbrev m_when : Stmt := inClass (topS 6) 7
abbrev m_loop : Stmt := inClass (topS 6) 8
abbrev m_again : Stmt := inClass (topS 6) 9
/-- the class and the constants of the top -/
structure Rc (K : PySem.W.Frag) (mg : Str → Option Value) (C : Addr) : Prop where
  cl : Cls K C
  nW : NoAttr K C "worths"
  nM : NoAttr K C "most"
  nN : NoAttr K C "steps"
  nS : NoAttr K C "said"
  nE : NoAttr K C "ending"
  round : ∃ t, mg "ROUND" = some (.int 1000000 t)
  done : ∃ t, mg "DONE" = some (.str "done" t)
  long : ∃ t, mg "TOO_LONG" = some (.str "too long" t)
  nought : ∃ t, mg "BY_NOUGHT" = some (.str "by nought" t)
/-- a method that lets nothing out, as its callers need it -/
structure Dm (P : Program) (w : World) (K : PySem.W.Frag) (mg : Str → Option Value) (base : Heap) (C : Addr) (m : Str) (k : Nat) (f : Addr) (fd : FuncData) (ps : List Str) (sp : Sp) : Prop where
  ok : FnOk P w K mg base CX0 k f fd ps sp
  me : Meth K C m f
  b : Binds K fd ps []
theorem pe_dm {X : Cx} {C : Addr} {m : Str} {k : Nat} {f : Addr} {fd : FuncData} {ps : List Str} {sp : Sp} {o e : Expr} {es : List Expr} {apos pos : Pos} {ta : TE} {t : TA} {pl : Sem Bool} (D : Dm X.prog X.w X.K X.mg X.base C m k f fd ps sp) (c : Cls X.K C) (hr : Room k X.A) (ho : PE X o ta) (ha : PA X (e :: es) t)
    (hst : starEach (e :: es) X.env = (false, eval e X.env) :: starEach es X.env := by rfl) (hpl : (backTo pos (starEach es X.env)).any (·.1) = false := by rfl)
    (ht : eval (.Call (.Attribute o m apos) (e :: es) [] pos) X.env = (do
      let ov ← eval o X.env
      standAt apos.atName
      let (f, first) ← holding [ov] (getMethod ov m pl)
      callWith pos f first (backTo pos (starEach (e :: es) X.env)) (backToKw pos (keywordEach [] X.env))) := by rfl) :
    PE X (.Call (.Attribute o m apos) (e :: es) [] pos) (tMeth C m sp [] E0 ta t) := pe_meth ho c D.me D.ok hr D.b .nil pass0 ha hst hpl ht
theorem pe_dm0 {X : Cx} {C : Addr} {m : Str} {k : Nat} {f : Addr} {fd : FuncData} {ps : List Str} {sp : Sp} {o : Expr} {apos pos : Pos} {ta : TE} {pl : Sem Bool} (D : Dm X.prog X.w X.K X.mg X.base C m k f fd ps sp) (c : Cls X.K C) (hr : Room k X.A) (ho : PE X o ta)
    (ht : eval (.Call (.Attribute o m apos) [] [] pos) X.env = (do
      let ov ← eval o X.env
      standAt apos.atName
      let (f, first) ← holding [ov] (getMethod ov m pl)
      callWith pos f first (backTo pos (starEach [] X.env)) (backToKw pos (keywordEach [] X.env))) := by rfl) :
    PE X (.Call (.Attribute o m apos) [] [] pos) (tMeth C m sp [] E0 ta tNil) := pe_meth0 ho c D.me D.ok hr D.b .nil pass0 ht
def spCome : Sp := fun vs H Q _ => ∃ (sg : Str) (a b : Int), vs = [.str sg, .int a, .int b] ∧ (0 ≤ a ∧ a < 1000000) ∧ (0 ≤ b ∧ b < 1000000) ∧ sg ∈ signs ∧ ¬ (sg = "/" ∧ b = 0) ∧ Q (.int (comeTo sg a b)) H
def spPinit (C : Addr) : Sp := fun vs H Q _ => ∃ (p dx g : Addr) (kvs : List (Key × V)) (ρ : Wh) (m : Nat) (Hc : Hp), vs = [.ref p, .ref g, .int m] ∧ H p = some (.ins C dx []) ∧ H g = some (.dK kvs) ∧ DV (.dK kvs) ρ 100 ∧ ρ.small ∧ m ≤ 100000 ∧ Same Hc H ∧ Hc p = none ∧
  ∀ (H' : Hp) (d s : Addr), Pr C Hc H' p d s m ⟨ρ, [], 0⟩ "done" → Q .non H'
/-- a run from nothing done: what it tells -/
def spRun (K : PySem.W.Frag) (n : Nat) : Sp := fun vs H Q _ => ∃ (l g : Addr) (kvs : List (Key × V)) (ρ : Wh) (m : Nat) (rs : List Row) (ss : List Str), vs = [.ref l, .ref g, .int m] ∧ RowsAt K H l rs ∧ oks ss rs ∧ deps rs < n ∧ H g = some (.dK kvs) ∧ DV (.dK kvs) ρ 100 ∧ ρ.small ∧ m ≤ 100000 ∧
  ∀ (H' : Hp) (t : Tale) (e : Ed) (q s d : Addr) (v : V), Does m (.all rs) ⟨ρ, [], 0⟩ t e → Same H H' → H' q = some (.tup [.ref s, .str e.txt, v, .int t.steps]) → H s = none → H' s = some (.lst (t.said.map V.int)) → t.said.length ≤ t.steps → t.steps ≤ m → v = (if e = Ed.done then V.ref d else V.non) → H d = none →
    (∃ ks, H' d = some (.dK ks) ∧ DV (.dK ks) t.ρ (100 + t.steps)) → Q (.ref q) H'
def spWorth (C : Addr) : Sp := fun vs H Q _ => ∃ (p d s : Addr) (Hc : Hp) (m : Nat) (t : Tale) (e : Str) (v : V), vs = [.ref p, v] ∧ Pr C Hc H p d s m t e ∧ ((∃ z, v = .str z) ∨ ∃ i, v = .int i) ∧ Q (.int (t.ρ.get v)) H
def spStop (C : Addr) : Sp := fun vs H Q _ => ∃ (p d s : Addr) (Hc : Hp) (m : Nat) (t : Tale) (e z : Str), vs = [.ref p, .str z] ∧ Pr C Hc H p d s m t e ∧ ∀ H', Pr C Hc H' p d s m t z → Q (.bl false) H'
def spTake (C : Addr) : Sp := fun vs H Q _ => ∃ (p d s : Addr) (Hc : Hp) (m : Nat) (t : Tale), vs = [.ref p] ∧ Pr C Hc H p d s m t "done" ∧ (m ≤ t.steps → ∀ H', Pr C Hc H' p d s m t "too long" → Q (.bl false) H') ∧
  (t.steps < m → ∀ H', Pr C Hc H' p d s m t.tick "done" → H' d = H d → Q (.bl true) H')
/-- whatever comes of it, the run stands so behind it -/
def Did (C : Addr) (Hc : Hp) (p d s : Addr) (m : Nat) (c : Cmd) (t : Tale) (Q : VK) : Prop := ∀ (H' : Hp) (t' : Tale) (e : Ed), Does m c t t' e → Pr C Hc H' p d s m t' e.txt → Q (.bl (decide (e = Ed.done))) H'
def spRows (K : PySem.W.Frag) (C : Addr) (n : Nat) : Sp := fun vs H Q _ => ∃ (p d s : Addr) (Hc : Hp) (m : Nat) (t : Tale) (l : Addr) (rs : List Row) (ss : List Str), vs = [.ref p, .ref l] ∧ Pr C Hc H p d s m t "done" ∧ RowsAt K Hc l rs ∧ oks ss rs ∧ deps rs < n ∧ Did C Hc p d s m (.all rs) t Q
def spRow (K : PySem.W.Frag) (C : Addr) (n : Nat) : Sp := fun vs H Q _ => ∃ (p d s : Addr) (Hc : Hp) (m : Nat) (t : Tale) (v : V) (r : Row) (ss : List Str), vs = [.ref p, v] ∧ Pr C Hc H p d s m t "done" ∧ RowAt K Hc r v ∧ r.ok ss ∧ r.dep ≤ n ∧ Did C Hc p d s m (.one r) t Q
/-- one row without rows in it, behind its step -/
def spLetP (K : PySem.W.Frag) (C : Addr) : Sp := fun vs H Q _ => ∃ (p d s : Addr) (Hc : Hp) (m : Nat) (t : Tale) (v : V) (to sg : Str) (a b : Vl) (ss : List Str) (kvs : List (Key × V)), vs = [.ref p, v] ∧ t.steps < m ∧ H d = some (.dK kvs) ∧ DV (.dK kvs) t.ρ (100 + t.steps) ∧ Pr C Hc H p d s m t.tick "done" ∧ RowAt K Hc (.lt to sg a b) v ∧ (Row.lt to sg a b).ok ss ∧ Did C Hc p d s m (.one (.lt to sg a b)) t Q
def spBlk (K : PySem.W.Frag) (C : Addr) (n : Nat) (kd : Str) : Sp := fun vs H Q _ => ∃ (p d s : Addr) (Hc : Hp) (m : Nat) (t : Tale) (x : Str) (l : Addr) (rs : List Row) (ss : List Str), vs = [.ref p, .str x, .ref l] ∧ Pr C Hc H p d s m t "done" ∧ RowsAt K Hc l rs ∧ oks ss rs ∧ deps rs < n ∧ Did C Hc p d s m (.one (.bk kd (.str x) rs)) t Q
section
variable {P : Program} {w : World} {K : PySem.W.Frag} {mg : Str → Option Value} {base : Heap} {f C : Addr} {fd : FuncData}
theorem sc_come : FnScope ["sign", "one", "other"] ["sign", "one", "other"] (defScope s_come) := ⟨rfl, rfl, rfl, by decide +kernel, rfl, by decide +kernel, by decide +kernel⟩
theorem sg_eq (x y : Str) : decide (V.str x = V.str y) = decide (x = y) := by
  by_cases h : x = y
  · rw [h, decide_eq_true rfl, decide_eq_true rfl]
  · rw [decide_eq_false h, decide_eq_false (fun z => h (V.str.inj z))]
theorem ok_come (F : Fun K "come_to" "come_to" s_come f fd) (T : Rc K mg C) : FnOk P w K mg base CX0 1 f fd ["sign", "one", "other"] spCome := by
  refine F.ok sc_come (fun vs H Q E h => ?_) (fun cdv A outer s H vs Q E hr h => ?_)
  · obtain ⟨sg, a, b, rfl, _⟩ := h
    rfl
  obtain ⟨sg, a, b, rfl, ha, hb, hs, hn, k⟩ := h
  obtain ⟨tr, hR⟩ := T.round
  refine ⟨_, pss_cons (ps_if (pt_cmpR op_eq (pv 0) pe_str (nomark _)) (pss_one (ps_ret (pe_op op_mod (pe_op op_add (pv 1) (pv 2)) (pe_glob (v := .int 1000000) rfl hR ⟨_, rfl⟩)))) pss_nil) <|
    pss_cons (ps_if (pt_cmpR op_eq (pv 0) pe_str (nomark _)) (pss_one (ps_ret (pe_op op_mod (pe_op op_sub (pv 1) (pv 2)) (pe_glob (v := .int 1000000) rfl hR ⟨_, rfl⟩)))) pss_nil) <|
    pss_cons (ps_if (pt_cmpR op_eq (pv 0) pe_str (nomark _)) (pss_one (ps_ret (pe_op op_mod (pe_op op_mul (pv 1) (pv 2)) (pe_glob (v := .int 1000000) rfl hR ⟨_, rfl⟩)))) pss_nil) <|
    pss_cons (ps_if (pt_cmpR op_eq (pv 0) pe_str (nomark _)) (pss_one (ps_ret (pe_ifExp (pt_cmpR op_lt (pv 1) (pv 2) (nomark _)) pe_int pe_int))) pss_nil) <|
    pss_one (ps_ret (pe_op op_fdivN (pv 1) (pv 2))), ?_⟩
  have way : ∀ (z : Str) {A B : Prop}, (sg = z → A) → (¬ sg = z → B) → if decide (V.str sg = V.str z) = true then A else B := fun z A B h1 h2 => by
    rw [sg_eq]
    by_cases c : sg = z
    · rw [decide_eq_true c]
      exact iteT (h1 c)
    · rw [decide_eq_false c]
      exact iteF (h2 c)
  refine ⟨_, rfl, rfl, _, rfl, way _ (fun c => ?_) (fun c1 => ?_)⟩
  · refine ⟨_, rfl, _, rfl, _, _, rfl, rfl, _, _, rfl, rfl, (by show (0 : Int) < 1000000; decide), ?_⟩
    have e : comeTo sg a b = (a + b) % 1000000 := if_pos c
    rw [e] at k
    exact k
  refine ⟨_, rfl, rfl, _, rfl, way _ (fun c => ?_) (fun c2 => ?_)⟩
  · refine ⟨_, rfl, _, rfl, _, _, rfl, rfl, _, _, rfl, rfl, (by show (0 : Int) < 1000000; decide), ?_⟩
    have e : comeTo sg a b = (a - b) % 1000000 := (if_neg c1).trans (if_pos c)
    rw [e] at k
    exact k
  refine ⟨_, rfl, rfl, _, rfl, way _ (fun c => ?_) (fun c3 => ?_)⟩
  · refine ⟨_, rfl, _, rfl, _, _, rfl, rfl, .inl ⟨by omega, by omega⟩, _, _, rfl, rfl, (by show (0 : Int) < 1000000; decide), ?_⟩
    have e : comeTo sg a b = a * b % 1000000 := (if_neg c1).trans ((if_neg c2).trans (if_pos c))
    rw [e] at k
    exact k
  refine ⟨_, rfl, rfl, _, rfl, way _ (fun c => ?_) (fun c4 => ?_)⟩
  · refine ⟨_, rfl, _, rfl, _, _, rfl, rfl, _, rfl, ?_⟩
    have e : comeTo sg a b = (if a < b then 1 else 0) := (if_neg c1).trans ((if_neg c2).trans ((if_neg c3).trans (if_pos c)))
    rw [e] at k
    refine ite2 (fun c => ?_) (fun c => ?_)
    · rw [if_pos (of_decide_eq_true c)] at k
      exact k
    · rw [if_neg (of_decide_eq_false (Bool.eq_false_iff.mpr c))] at k
      exact k
  · have c5 : sg = "/" := by
      simp only [signs, List.mem_cons, List.not_mem_nil, or_false] at hs
      rcases hs with e | e | e | e | e
      · exact absurd e c1
      · exact absurd e c2
      · exact absurd e c3
      · exact absurd e c4
      · exact e
    have nb : b ≠ 0 := fun z => hn ⟨c5, z⟩
    have e : comeTo sg a b = a.fdiv b := (if_neg c1).trans ((if_neg c2).trans ((if_neg c3).trans (if_neg c4)))
    rw [e] at k
    exact ⟨_, rfl, _, rfl, _, _, rfl, rfl, ⟨nb, by omega⟩, k⟩
theorem sc_worth : FnScope ["self", "part"] ["self", "part"] (defScope m_worth) := ⟨rfl, rfl, rfl, by decide +kernel, rfl, by decide +kernel, by decide +kernel⟩
theorem ok_worth (F : Fun K "worth" "Progress.worth" m_worth f fd) (T : Rc K mg C) (B : Bn mg) : FnOk P w K mg base CX0 1 f fd ["self", "part"] (spWorth C) := by
  refine F.ok sc_worth (fun vs H Q E h => ?_) (fun cdv A outer s H vs Q E hr h => ?_)
  · obtain ⟨p, d, s, Hc, m, t, e, v, rfl, _⟩ := h
    rfl
  obtain ⟨p, d, s, Hc, m, t, e, v, rfl, hP, hv, k⟩ := h
  have hu := hu_of hr
  refine ⟨_, pss_cons (ps_if (pt_val (pe_callB call_isi rfl B.isinstance (by decide +kernel) (pa_cons (pv 1) (pa_cons (pe_bltn (v := .ty "str") rfl B.str (by decide +kernel) rfl) pa_nil))))
      (pss_one (ps_ret (pe_dget2 hu (pe_fld (pv 0) rfl) (pv 1) pe_int ⟨rfl, rfl, rfl, rfl⟩))) pss_nil) <|
    pss_one (ps_ret (pv 1)), ?_⟩
  obtain ⟨dx, h1⟩ := hP.ob
  obtain ⟨kvs, h2, h3⟩ := hP.dc
  rcases hv with ⟨z, rfl⟩ | ⟨i, rfl⟩
  · refine ⟨_, rfl, _, _, _, _, true, rfl, .ty _, ty_str _, kit_ty (by decide +kernel), _, rfl, iteT ?_⟩
    refine ⟨_, rfl, p, C, dx, _, _, rfl, h1, T.cl, T.nW, pf_worths _ _ _ _ _, d, rfl, .inl ⟨kvs, .inl h2⟩, _, rfl, _, DGet.k (k := Sum.inr z) h2, ?_⟩
    rw [h3.get z]
    exact k
  · exact ⟨_, rfl, _, _, _, _, false, rfl, .ty _, ty_int _, kit_ty (by decide +kernel), _, rfl, iteF ⟨_, rfl, k⟩⟩
theorem sc_stop : FnScope ["self", "ending"] ["self", "ending"] (defScope m_stop) := ⟨rfl, rfl, rfl, by decide +kernel, rfl, by decide +kernel, by decide +kernel⟩
theorem ok_stop (F : Fun K "stop" "Progress.stop" m_stop f fd) (T : Rc K mg C) : FnOk P w K mg base CX0 1 f fd ["self", "ending"] (spStop C) := by
  refine F.ok sc_stop (fun vs H Q E h => ?_) (fun cdv A outer s H vs Q E hr h => ?_)
  · obtain ⟨p, d, s, Hc, m, t, e, z, rfl, _⟩ := h
    rfl
  obtain ⟨p, d, s, Hc, m, t, e, z, rfl, hP, k⟩ := h
  refine ⟨_, pss_cons (ps_fld (pv 0) (pv 1) rfl) <| pss_one (ps_ret pe_bl), ?_⟩
  obtain ⟨dx, h1⟩ := hP.ob
  exact ⟨_, rfl, _, rfl, p, C, dx, _, rfl, h1, T.cl, T.nE, pf_len _ _ _ _ _, k _ (hP.ended z)⟩
theorem sc_take : FnScope ["self"] ["self"] (defScope m_take) := ⟨rfl, rfl, rfl, by decide +kernel, rfl, by decide +kernel, by decide +kernel⟩
theorem ok_take {fs : Addr} {ds : FuncData} (F : Fun K "take_step" "Progress.take_step" m_take f fd) (T : Rc K mg C) (S : Dm P w K mg base C "stop" 1 fs ds ["self", "ending"] (spStop C)) : FnOk P w K mg base CX0 2 f fd ["self"] (spTake C) := by
  refine F.ok sc_take (fun vs H Q E h => ?_) (fun cdv A outer s H vs Q E hr h => ?_)
  · obtain ⟨p, d, s, Hc, m, t, rfl, _⟩ := h
    rfl
  obtain ⟨p, d, s, Hc, m, t, rfl, hP, k1, k2⟩ := h
  obtain ⟨tl, hL⟩ := T.long
  refine ⟨_, pss_cons (ps_if (pt_cmpR op_ge (pe_fld (pv 0) rfl) (pe_fld (pv 0) rfl) (nomark _)) (pss_one (ps_ret (pe_dm S T.cl hr (pv 0) (pa_cons (pe_glob (v := .str "too long") rfl hL ⟨_, rfl⟩) pa_nil)))) pss_nil) <|
    pss_cons (ps_fldaug (pv 0) pe_int in_add) <| pss_one (ps_ret pe_bl), ?_⟩
  obtain ⟨dx, h1⟩ := hP.ob
  refine ⟨_, rfl, p, C, dx, _, _, rfl, h1, T.cl, T.nN, pf_steps _ _ _ _ _, _, rfl, p, C, dx, _, _, rfl, h1, T.cl, T.nM, pf_most _ _ _ _ _, _, _, rfl, rfl, _, rfl, ?_⟩
  refine ite2 (fun c => ?_) (fun c => ?_)
  · have c' : (m : Int) ≤ (t.steps : Int) := of_decide_eq_true c
    exact ⟨_, rfl, p, dx, _, rfl, h1, pf_no _ _ _ _ _ (by decide +kernel), p, d, s, Hc, m, t, _, _, rfl, hP, k1 (by omega)⟩
  · have c' : ¬ (m : Int) ≤ (t.steps : Int) := of_decide_eq_false (Bool.eq_false_iff.mpr c)
    refine ⟨_, rfl, p, C, dx, _, _, rfl, h1, T.cl, T.nN, pf_steps _ _ _ _ _, _, _, rfl, rfl, dx, _, h1, pf_len _ _ _ _ _, ?_⟩
    exact k2 (by omega) _ (hP.ticked (by omega)) (upd_ne hP.ne.1.symm)
end
end Lm
namespace Lm
open PySem L2
section
variable {P : Program} {w : World} {K : PySem.W.Frag} {mg : Str → Option Value} {base : Heap} {f C : Addr} {fd : FuncData}
abbrev nLetP : List Str := ["self", "row", "_", "to", "sign", "one", "other", "divisor"]
theorem sc_plet : FnScope nLetP ["self", "row"] (defScope m_let) := ⟨rfl, rfl, rfl, by decide +kernel, rfl, by decide +kernel, by decide +kernel⟩
theorem Vl.kind : ∀ x : Vl, (∃ z, x.v = .str z) ∨ ∃ i, x.v = .int i
  | .nm s => .inl ⟨s, rfl⟩
  | .nu i => .inr ⟨i, rfl⟩
theorem ok_plet {fw fs fc : Addr} {dw ds dc : FuncData} (F : Fun K "do_let" "Progress.do_let" m_let f fd) (T : Rc K mg C) (W : Dm P w K mg base C "worth" 1 fw dw ["self", "part"] (spWorth C)) (S : Dm P w K mg base C "stop" 1 fs ds ["self", "ending"] (spStop C))
    (Co : Df P w K mg base "come_to" 1 fc dc ["sign", "one", "other"] spCome) : FnOk P w K mg base CX0 2 f fd ["self", "row"] (spLetP K C) := by
  refine F.ok sc_plet (fun vs H Q E h => ?_) (fun cdv A outer s H vs Q E hr h => ?_)
  · obtain ⟨p, d, s, Hc, m, t, v, to, sg, a, b, ss, kvs, rfl, _⟩ := h
    rfl
  obtain ⟨p, d, s, Hc, m, t, v, to, sg, a, b, ss, kvs, rfl, hm, g2, g3, hP, ⟨q, h1, h2⟩, hok, k⟩ := h
  subst h1
  obtain ⟨tn, hN⟩ := T.nought
  have nd := sc_plet.nd
  have hu := hu_of hr
  refine ⟨_, pss_cons (ps_asg (pv 1) (pg_tup rfl (pgs_cons (pg_name (i := 2) nd rfl (Or.inl rfl)) (pgs_cons (pg_name (i := 3) nd rfl (Or.inl rfl)) (pgs_cons (pg_name (i := 4) nd rfl (Or.inl rfl)) (pgs_cons (pg_name (i := 5) nd rfl (Or.inl rfl)) (pgs_cons (pg_name (i := 6) nd rfl (Or.inl rfl)) pgs_nil))))))) <|
    pss_cons (ps_set (i := 7) nd rfl (Or.inl rfl) (pe_dm W T.cl hr (pv 0) (pa_cons (pv 6) pa_nil))) <|
    pss_cons (ps_if (PW.pt (pw_and (pt_cmpR op_eq (pv 4) pe_str (nomark _)) (pw_and1 (pt_cmpR op_eq (pv 7) pe_int (nomark _))))) (pss_one (ps_ret (pe_dm S T.cl hr (pv 0) (pa_cons (pe_glob (v := .str "by nought") rfl hN ⟨_, rfl⟩) pa_nil)))) pss_nil) <|
    pss_cons (ps_dput hu (pe_fld (pv 0) rfl) (pv 3) (pe_df Co hr (pa_cons (pv 4) (pa_cons (pe_dm W T.cl hr (pv 0) (pa_cons (pv 5) pa_nil)) (pa_cons (pv 7) pa_nil)))) rfl) <|
    pss_one (ps_ret pe_bl), ?_⟩
  obtain ⟨dx, g1⟩ := hP.ob
  have hT : SqT K H q [.str "let", .str to, .str sg, a.v, b.v] := Kp.sqT (Same.kp hP.cl) h2
  have bsm : 0 ≤ t.ρ.get b.v ∧ t.ρ.get b.v < 1000000 := Wh.small.vl hP.sm hok.2.2.2
  have asm_ : 0 ≤ t.ρ.get a.v ∧ t.ρ.get a.v < 1000000 := Wh.small.vl hP.sm hok.2.2.1
  have meW := pf_no d s (m : Int) ((t.tick.steps : Nat) : Int) "done" (x := "worth") (by decide +kernel)
  have meS := pf_no d s (m : Int) ((t.tick.steps : Nat) : Int) "done" (x := "stop") (by decide +kernel)
  have room : kvs.length < sizeLine := by
    obtain ⟨kvs', e, _, _, _, hl⟩ := g3.ex
    cases e
    have := hP.mm
    rw [sizeLine_eq]
    omega
  refine ⟨_, rfl, q, _, rfl, hT, rfl, _, _, rfl, _, _, rfl, _, _, rfl, _, _, rfl, _, _, rfl, rfl, ?_⟩
  refine ⟨_, rfl, p, dx, _, rfl, g1, meW, _, rfl, p, d, s, Hc, m, t.tick, "done", b.v, rfl, hP, b.kind, ?_⟩
  have fin : ¬ (sg = "/" ∧ t.ρ.get b.v = 0) → Q (.bl true) (upd H d (.dK (putK kvs (Sum.inr to) (.int (comeTo sg (t.ρ.get a.v) (t.ρ.get b.v)))))) := fun hn => by
    have cs := comeTo_small (sg := sg) asm_ bsm
    exact k _ _ .done (.letDone hm hn) (hP.puts g2 g3 to cs.1 cs.2)
  have put : ¬ (sg = "/" ∧ t.ρ.get b.v = 0) → ∃ (v : V), some (some (V.ref p)) = some (some v) := fun _ => ⟨_, rfl⟩
  have last := fun (hn : ¬ (sg = "/" ∧ t.ρ.get b.v = 0)) => fin hn
  refine ⟨_, rfl, rfl, _, rfl, ?_⟩
  rw [sg_eq]
  by_cases c1 : sg = "/"
  · rw [decide_eq_true c1]
    refine iteT ⟨_, rfl, rfl, _, rfl, ?_⟩
    refine ite2 (fun c2 => ?_) (fun c2 => ?_)
    · have z : t.ρ.get b.v = 0 := V.int.inj (of_decide_eq_true c2)
      exact ⟨_, rfl, p, dx, _, rfl, g1, meS, p, d, s, Hc, m, t.tick, "done", "by nought", rfl, hP, fun H' hP' => k H' t.tick .nought (.letNought hm c1 z) hP'⟩
    · have z : ¬ (sg = "/" ∧ t.ρ.get b.v = 0) := fun y => c2 (decide_eq_true (by rw [show t.tick.ρ.get b.v = 0 from y.2]))
      refine ⟨_, rfl, _, rfl, p, dx, _, rfl, g1, meW, _, rfl, p, d, s, Hc, m, t.tick, "done", a.v, rfl, hP, a.kind, _, rfl, sg, _, _, rfl, asm_, bsm, hok.2.1, z, ?_⟩
      exact ⟨_, rfl, p, C, dx, _, _, rfl, g1, T.cl, T.nW, pf_worths _ _ _ _ _, _, rfl, d, _, rfl, DPut.k (k := Sum.inr to) g2 room, last z⟩
  · rw [decide_eq_false c1]
    have z : ¬ (sg = "/" ∧ t.ρ.get b.v = 0) := fun y => c1 y.1
    refine iteF ?_
    refine ⟨_, rfl, _, rfl, p, dx, _, rfl, g1, meW, _, rfl, p, d, s, Hc, m, t.tick, "done", a.v, rfl, hP, a.kind, _, rfl, sg, _, _, rfl, asm_, bsm, hok.2.1, z, ?_⟩
    exact ⟨_, rfl, p, C, dx, _, _, rfl, g1, T.cl, T.nW, pf_worths _ _ _ _ _, _, rfl, d, _, rfl, DPut.k (k := Sum.inr to) g2 room, last z⟩
theorem sc_prows : FnScope ["self", "rows", "row"] ["self", "rows"] (defScope m_rows) := ⟨rfl, rfl, rfl, by decide +kernel, rfl, by decide +kernel, by decide +kernel⟩
theorem ok_prows {n k : Nat} {f1 : Addr} {d1 : FuncData} (F : Fun K "do_rows" "Progress.do_rows" m_rows f fd) (T : Rc K mg C) (R : Dm P w K mg base C "do_row" k f1 d1 ["self", "row"] (spRow K C n)) : FnOk P w K mg base CX0 (k + 1) f fd ["self", "rows"] (spRows K C (n + 1)) := by
  refine F.ok sc_prows (fun vs H Q E h => ?_) (fun cdv A outer s H vs Q E hr h => ?_)
  · obtain ⟨p, d, s, Hc, m, t, l, rs, ss, rfl, _⟩ := h
    rfl
  obtain ⟨p, d, s, Hc, m, t, l, rs, ss, rfl, hP, ⟨vs, eS, eA⟩, hok, hd, q⟩ := h
  have nd := sc_prows.nd
  refine ⟨_, pss_cons (ps_for PassesOwn.never rfl (pi_list (pv 1)) (pg_name (i := 2) nd rfl (Or.inl rfl))
      (pss_one (ps_if (pt_not (pt_val (pe_dm R T.cl hr (pv 0) (pa_cons (pv 2) pa_nil)))) (pss_one (ps_ret pe_bl)) pss_nil))) <|
    pss_one (ps_ret pe_bl), ?_⟩
  refine ⟨_, rfl, l, rfl, ⟨_, hP.cl.seq eS⟩, for_list (K := K) (a := l) (xs := vs) (fun i σ H' => ∃ (v2 : Option V) (t' : Tale), σ = [some (.ref p), some (.ref l), v2] ∧ Pr C Hc H' p d s m t' "done" ∧ Does m (.all (rs.take i)) t t' .done)
    ⟨none, t, rfl, hP, .nil⟩ (fun i σ H' _ ⟨_, _, _, e, _⟩ => e.cl.seq eS) ?_ ?_⟩
  · rintro i v σ H1 hi ⟨v2, t1, rfl, hP1, hD1⟩
    obtain ⟨r, hri, hrow⟩ := eA.at hi
    have hdr := dep_at hri
    obtain ⟨dx, g1⟩ := hP1.ob
    refine ⟨_, rfl, p, dx, _, rfl, g1, pf_no _ _ _ _ _ (by decide +kernel), _, rfl, p, d, s, Hc, m, t1, v, r, ss, rfl, hP1, hrow, oks_at hok hri, by omega, fun H2 t2 e hD2 hP2 => ⟨_, rfl, ?_⟩⟩
    by_cases c : e = Ed.done
    · subst c
      exact iteF ⟨_, t2, rfl, hP2, hD1.step hri hD2⟩
    · have z := q H2 t2 e (hD1.stop hri hD2 c) hP2
      rw [decide_eq_false c] at z ⊢
      exact iteT z
  · rintro σ H1 ⟨v2, t1, rfl, hP1, hD1⟩
    rw [eA.len, List.take_length] at hD1
    exact q H1 t1 .done hD1 hP1
theorem sc_pwhen : FnScope ["self", "test", "rows"] ["self", "test", "rows"] (defScope m_when) := ⟨rfl, rfl, rfl, by decide +kernel, rfl, by decide +kernel, by decide +kernel⟩
theorem ok_pwhen {n k : Nat} {f1 f2 f3 : Addr} {d1 d2 d3 : FuncData} (F : Fun K "do_when" "Progress.do_when" m_when f fd) (T : Rc K mg C) (W : Dm P w K mg base C "worth" 1 f1 d1 ["self", "part"] (spWorth C)) (S : Dm P w K mg base C "take_step" 2 f2 d2 ["self"] (spTake C))
    (R : Dm P w K mg base C "do_rows" k f3 d3 ["self", "rows"] (spRows K C n)) (hk : 2 ≤ k) : FnOk P w K mg base CX0 (k + 1) f fd ["self", "test", "rows"] (spBlk K C n "when") := by
  refine F.ok sc_pwhen (fun vs H Q E h => ?_) (fun cdv A outer s H vs Q E hr h => ?_)
  · obtain ⟨p, d, s, Hc, m, t, x, l, rs, ss, rfl, _⟩ := h
    rfl
  obtain ⟨p, d, s, Hc, m, t, x, l, rs, ss, rfl, hP, hR, hok, hd, q⟩ := h
  have r1 : Room 1 _ := hr.mono (by omega)
  have r2 : Room 2 _ := hr.mono hk
  refine ⟨_, pss_cons (ps_if (pt_not (pt_val (pe_dm0 S T.cl r2 (pv 0)))) (pss_one (ps_ret pe_bl)) pss_nil) <|
    pss_one (ps_ret (pe_or (pe_cmpR op_eq (pe_dm W T.cl r1 (pv 0) (pa_cons (pv 1) pa_nil)) pe_int (nomark _)) (pe_one (pe_dm R T.cl hr (pv 0) (pa_cons (pv 2) pa_nil))))), ?_⟩
  obtain ⟨dx, g1⟩ := hP.ob
  refine ⟨_, rfl, p, dx, _, rfl, g1, pf_no _ _ _ _ _ (by decide +kernel), p, d, s, Hc, m, t, rfl, hP, fun hm H1 hP1 => ⟨_, rfl, iteT ?_⟩, fun hm H1 hP1 _ => ⟨_, rfl, iteF ?_⟩⟩
  · exact q H1 t .long (.whenLong rfl hm) hP1
  obtain ⟨dx1, e1⟩ := hP1.ob
  refine ⟨_, rfl, p, dx1, _, rfl, e1, pf_no _ _ _ _ _ (by decide +kernel), _, rfl, p, d, s, Hc, m, t.tick, "done", .str x, rfl, hP1, .inl ⟨_, rfl⟩, rfl, _, rfl, ?_⟩
  refine ite2 (fun c => ?_) (fun c => ?_)
  · have z : t.ρ.get (.str x) = 0 := V.int.inj (of_decide_eq_true c)
    exact q H1 t.tick .done (.whenNo rfl hm z) hP1
  · have z : t.ρ.get (.str x) ≠ 0 := fun y => c (decide_eq_true (by rw [show t.tick.ρ.get (.str x) = 0 from y]))
    exact ⟨_, rfl, p, dx1, _, rfl, e1, pf_no _ _ _ _ _ (by decide +kernel), _, rfl, p, d, s, Hc, m, t.tick, l, rs, ss, rfl, hP1, hR, hok, hd, fun H2 t2 e hD2 hP2 => q H2 t2 e (.whenIn rfl hm z hD2) hP2⟩
theorem sc_ploop : FnScope ["self", "test", "rows"] ["self", "test", "rows"] (defScope m_loop) := ⟨rfl, rfl, rfl, by decide +kernel, rfl, by decide +kernel, by decide +kernel⟩
theorem ok_ploop {n k : Nat} {f1 f2 f3 : Addr} {d1 d2 d3 : FuncData} (F : Fun K "do_loop" "Progress.do_loop" m_loop f fd) (T : Rc K mg C) (W : Dm P w K mg base C "worth" 1 f1 d1 ["self", "part"] (spWorth C)) (S : Dm P w K mg base C "take_step" 2 f2 d2 ["self"] (spTake C))
    (R : Dm P w K mg base C "do_rows" k f3 d3 ["self", "rows"] (spRows K C n)) (hk : 2 ≤ k) : FnOk P w K mg base CX0 (k + 1) f fd ["self", "test", "rows"] (spBlk K C n "loop") := by
  refine F.ok sc_ploop (fun vs H Q E h => ?_) (fun cdv A outer s H vs Q E hr h => ?_)
  · obtain ⟨p, d, s, Hc, m, t, x, l, rs, ss, rfl, _⟩ := h
    rfl
  obtain ⟨p, d, s, Hc, m, t, x, l, rs, ss, rfl, hP, hR, hok, hd, q⟩ := h
  have r1 : Room 1 _ := hr.mono (by omega)
  have r2 : Room 2 _ := hr.mono hk
  refine ⟨_, pss_cons (ps_while PassesOwn.never (pt_val (pe_dm0 S T.cl r2 (pv 0)))
      (pss_cons (ps_if (pt_cmpR op_eq (pe_dm W T.cl r1 (pv 0) (pa_cons (pv 1) pa_nil)) pe_int (nomark _)) (pss_one (ps_ret pe_bl)) pss_nil) <|
       pss_one (ps_if (pt_not (pt_val (pe_dm R T.cl hr (pv 0) (pa_cons (pv 2) pa_nil)))) (pss_one (ps_ret pe_bl)) pss_nil))) <|
    pss_one (ps_ret pe_bl), ?_⟩
  refine ⟨fun j σ H' => ∃ t1 : Tale, j = m - t1.steps ∧ σ = [some (.ref p), some (.str x), some (.ref l)] ∧ Pr C Hc H' p d s m t1 "done" ∧ Did C Hc p d s m (.lp (.str x) rs) t1 Q, ⟨_, t, rfl, rfl, hP, fun H' t' e hD hP' => q H' t' e (.loop rfl hD) hP'⟩, ?_⟩
  rintro j σ H0 ⟨t1, rfl, rfl, hP0, q0⟩
  obtain ⟨dx, g1⟩ := hP0.ob
  refine ⟨_, rfl, p, dx, _, rfl, g1, pf_no _ _ _ _ _ (by decide +kernel), p, d, s, Hc, m, t1, rfl, hP0, fun hm H1 hP1 => ⟨_, rfl, iteF ?_⟩, fun hm H1 hP1 _ => ⟨_, rfl, iteT ?_⟩⟩
  · exact q0 H1 t1 .long (.lpLong hm) hP1
  obtain ⟨dx1, e1⟩ := hP1.ob
  refine ⟨fun σ' H' => ∃ t2 : Tale, t1.steps < t2.steps ∧ σ' = [some (.ref p), some (.str x), some (.ref l)] ∧ Pr C Hc H' p d s m t2 "done" ∧ Did C Hc p d s m (.lp (.str x) rs) t2 Q, fun σ' H' ⟨t2, h1, h2, h3, h4⟩ => ⟨m - t2.steps, by omega, t2, rfl, h2, h3, h4⟩, ?_⟩
  refine ⟨_, rfl, p, dx1, _, rfl, e1, pf_no _ _ _ _ _ (by decide +kernel), _, rfl, p, d, s, Hc, m, t1.tick, "done", .str x, rfl, hP1, .inl ⟨_, rfl⟩, rfl, _, rfl, ?_⟩
  refine ite2 (fun c => ?_) (fun c => ?_)
  · have z : t1.ρ.get (.str x) = 0 := V.int.inj (of_decide_eq_true c)
    exact q0 H1 t1.tick .done (.lpNo hm z) hP1
  · have z : t1.ρ.get (.str x) ≠ 0 := fun y => c (decide_eq_true (by rw [show t1.tick.ρ.get (.str x) = 0 from y]))
    refine ⟨_, rfl, p, dx1, _, rfl, e1, pf_no _ _ _ _ _ (by decide +kernel), _, rfl, p, d, s, Hc, m, t1.tick, l, rs, ss, rfl, hP1, hR, hok, hd, fun H2 t2 e hD2 hP2 => ⟨_, rfl, ?_⟩⟩
    by_cases c3 : e = Ed.done
    · subst c3
      exact iteF ⟨t2, by have := hD2.steps.1; exact Nat.lt_of_lt_of_le (Nat.lt_succ_self _) this, rfl, hP2, fun H3 t3 e3 hD3 hP3 => q0 H3 t3 e3 (.lpRound hm z hD2 hD3) hP3⟩
    · have y := q0 H2 t2 e (.lpStop hm z hD2 c3) hP2
      rw [decide_eq_false c3] at y ⊢
      exact iteT y
theorem sc_pagain : FnScope ["self", "test", "rows"] ["self", "test", "rows"] (defScope m_again) := ⟨rfl, rfl, rfl, by decide +kernel, rfl, by decide +kernel, by decide +kernel⟩
theorem ok_pagain {n k : Nat} {f1 f2 f3 : Addr} {d1 d2 d3 : FuncData} (F : Fun K "do_again" "Progress.do_again" m_again f fd) (T : Rc K mg C) (W : Dm P w K mg base C "worth" 1 f1 d1 ["self", "part"] (spWorth C)) (S : Dm P w K mg base C "take_step" 2 f2 d2 ["self"] (spTake C))
    (R : Dm P w K mg base C "do_rows" k f3 d3 ["self", "rows"] (spRows K C n)) (hk : 2 ≤ k) : FnOk P w K mg base CX0 (k + 1) f fd ["self", "test", "rows"] (spBlk K C n "again") := by
  refine F.ok sc_pagain (fun vs H Q E h => ?_) (fun cdv A outer s H vs Q E hr h => ?_)
  · obtain ⟨p, d, s, Hc, m, t, x, l, rs, ss, rfl, _⟩ := h
    rfl
  obtain ⟨p, d, s, Hc, m, t, x, l, rs, ss, rfl, hP, hR, hok, hd, q⟩ := h
  have r1 : Room 1 _ := hr.mono (by omega)
  have r2 : Room 2 _ := hr.mono hk
  refine ⟨_, pss_cons (ps_while PassesOwn.never (PW.pt (pw_and (pt_val (pe_dm R T.cl hr (pv 0) (pa_cons (pv 2) pa_nil))) (pw_and1 (pt_val (pe_dm0 S T.cl r2 (pv 0))))))
      (pss_one (ps_if (pt_cmpR op_eq (pe_dm W T.cl r1 (pv 0) (pa_cons (pv 1) pa_nil)) pe_int (nomark _)) (pss_one (ps_ret pe_bl)) pss_nil))) <|
    pss_one (ps_ret pe_bl), ?_⟩
  refine ⟨fun j σ H' => ∃ t1 : Tale, j = m - t1.steps ∧ σ = [some (.ref p), some (.str x), some (.ref l)] ∧ Pr C Hc H' p d s m t1 "done" ∧ Did C Hc p d s m (.one (.bk "again" (.str x) rs)) t1 Q, ⟨_, t, rfl, rfl, hP, q⟩, ?_⟩
  rintro j σ H0 ⟨t1, rfl, rfl, hP0, q0⟩
  obtain ⟨dx, g1⟩ := hP0.ob
  refine ⟨_, rfl, p, dx, _, rfl, g1, pf_no _ _ _ _ _ (by decide +kernel), _, rfl, p, d, s, Hc, m, t1, l, rs, ss, rfl, hP0, hR, hok, hd, fun H1 t2 e hD1 hP1 => ⟨_, rfl, ?_⟩⟩
  by_cases c3 : e = Ed.done
  case neg =>
    have y := q0 H1 t2 e (.againStop rfl hD1 c3) hP1
    rw [decide_eq_false c3] at y ⊢
    exact iteF (iteF y)
  subst c3
  obtain ⟨dx1, e1⟩ := hP1.ob
  refine iteT ⟨_, rfl, p, dx1, _, rfl, e1, pf_no _ _ _ _ _ (by decide +kernel), p, d, s, Hc, m, t2, rfl, hP1, fun hm H2 hP2 => ⟨_, rfl, iteF ?_⟩, fun hm H2 hP2 _ => ⟨_, rfl, iteT ?_⟩⟩
  · exact q0 H2 t2 .long (.again rfl hD1 (.lpLong hm)) hP2
  obtain ⟨dx2, e2⟩ := hP2.ob
  refine ⟨fun σ' H' => ∃ t3 : Tale, t1.steps < t3.steps ∧ σ' = [some (.ref p), some (.str x), some (.ref l)] ∧ Pr C Hc H' p d s m t3 "done" ∧ Did C Hc p d s m (.one (.bk "again" (.str x) rs)) t3 Q, fun σ' H' ⟨t3, h1, h2, h3, h4⟩ => ⟨m - t3.steps, by have := hP0.st; have := h3.st; omega, t3, rfl, h2, h3, h4⟩, ?_⟩
  refine ⟨_, rfl, p, dx2, _, rfl, e2, pf_no _ _ _ _ _ (by decide +kernel), _, rfl, p, d, s, Hc, m, t2.tick, "done", .str x, rfl, hP2, .inl ⟨_, rfl⟩, rfl, _, rfl, ?_⟩
  refine ite2 (fun c => ?_) (fun c => ?_)
  · have z : t2.ρ.get (.str x) = 0 := V.int.inj (of_decide_eq_true c)
    exact q0 H2 t2.tick .done (.again rfl hD1 (.lpNo hm z)) hP2
  · have z : t2.ρ.get (.str x) ≠ 0 := fun y => c (decide_eq_true (by rw [show t2.tick.ρ.get (.str x) = 0 from y]))
    exact ⟨t2.tick, Nat.lt_succ_of_le hD1.steps.1, rfl, hP2, fun H3 t3 e3 hD3 hP3 => q0 H3 t3 e3 (.round rfl hD1 hm z hD3) hP3⟩
theorem sc_prow : FnScope ["self", "row", "word"] ["self", "row"] (defScope m_row) := ⟨rfl, rfl, rfl, by decide +kernel, rfl, by decide +kernel, by decide +kernel⟩
theorem ok_prow {n k : Nat} {f1 f2 f3 f4 f5 f6 : Addr} {d1 d2 d3 d4 d5 d6 : FuncData} (F : Fun K "do_row" "Progress.do_row" m_row f fd) (T : Rc K mg C) (W : Dm P w K mg base C "worth" 1 f1 d1 ["self", "part"] (spWorth C)) (S : Dm P w K mg base C "take_step" 2 f2 d2 ["self"] (spTake C))
    (L : Dm P w K mg base C "do_let" 2 f3 d3 ["self", "row"] (spLetP K C)) (B1 : Dm P w K mg base C "do_when" k f4 d4 ["self", "test", "rows"] (spBlk K C n "when")) (B2 : Dm P w K mg base C "do_loop" k f5 d5 ["self", "test", "rows"] (spBlk K C n "loop"))
    (B3 : Dm P w K mg base C "do_again" k f6 d6 ["self", "test", "rows"] (spBlk K C n "again")) (hk : 2 ≤ k) : FnOk P w K mg base CX0 (k + 1) f fd ["self", "row"] (spRow K C n) := by
  refine F.ok sc_prow (fun vs H Q E h => ?_) (fun cdv A outer s H vs Q E hr h => ?_)
  · obtain ⟨p, d, s, Hc, m, t, v, r, ss, rfl, _⟩ := h
    rfl
  obtain ⟨p, d, s, Hc, m, t, v, r, ss, rfl, hP, hR, hok, hd, q⟩ := h
  have nd := sc_prow.nd
  have r1 : Room 1 _ := hr.mono (by omega)
  have r2 : Room 2 _ := hr.mono hk
  refine ⟨_, pss_cons (ps_set (i := 2) nd rfl (Or.inl rfl) (pe_ix ix_tup (pv 1) pe_int (fun _ _ => rfl))) <|
    pss_cons (ps_if (pt_cmpR op_eq (pv 2) pe_str (nomark _)) (pss_one (ps_ret (pe_dm B1 T.cl hr (pv 0) (pa_cons (pe_ix ix_tup (pv 1) pe_int (fun _ _ => rfl)) (pa_cons (pe_ix ix_tup (pv 1) pe_int (fun _ _ => rfl)) pa_nil))))) pss_nil) <|
    pss_cons (ps_if (pt_cmpR op_eq (pv 2) pe_str (nomark _)) (pss_one (ps_ret (pe_dm B2 T.cl hr (pv 0) (pa_cons (pe_ix ix_tup (pv 1) pe_int (fun _ _ => rfl)) (pa_cons (pe_ix ix_tup (pv 1) pe_int (fun _ _ => rfl)) pa_nil))))) pss_nil) <|
    pss_cons (ps_if (pt_cmpR op_eq (pv 2) pe_str (nomark _)) (pss_one (ps_ret (pe_dm B3 T.cl hr (pv 0) (pa_cons (pe_ix ix_tup (pv 1) pe_int (fun _ _ => rfl)) (pa_cons (pe_ix ix_tup (pv 1) pe_int (fun _ _ => rfl)) pa_nil))))) pss_nil) <|
    pss_cons (ps_if (pt_not (pt_val (pe_dm0 S T.cl r2 (pv 0)))) (pss_one (ps_ret pe_bl)) pss_nil) <|
    pss_cons (ps_if (pt_cmpR op_eq (pv 2) pe_str (nomark _)) (pss_one (ps_ret (pe_dm L T.cl r2 (pv 0) (pa_cons (pv 1) pa_nil)))) pss_nil) <|
    pss_cons (ps_expr (pe_bm PySem.F.plainAttrs_list PySem.F.slot_list_append PySem.F.type_list_append mt_append (pe_fld (pv 0) rfl) (pa_cons (pe_dm W T.cl r1 (pv 0) (pa_cons (pe_ix ix_tup (pv 1) pe_int (fun _ _ => rfl)) pa_nil)) pa_nil))) <|
    pss_one (ps_ret pe_bl), ?_⟩
  obtain ⟨dx, g1⟩ := hP.ob
  have kk := Same.kp hP.cl
  match r, hR, hok, hd, q with
  | .lt to sg a b, ⟨u, h1, h2⟩, hok, hd, q =>
    subst h1
    have hT := Kp.sqT kk h2
    refine ⟨_, rfl, u, _, _, _, rfl, rfl, hT, atI_nat (j := 0) rfl, ?_⟩
    refine ⟨_, rfl, rfl, _, rfl, ifF (by decide +kernel) ⟨_, rfl, rfl, _, rfl, ifF (by decide +kernel) ⟨_, rfl, rfl, _, rfl, ifF (by decide +kernel) ?_⟩⟩⟩
    obtain ⟨kvs, g2, g3⟩ := hP.dc
    refine ⟨_, rfl, p, dx, _, rfl, g1, pf_no _ _ _ _ _ (by decide +kernel), p, d, s, Hc, m, t, rfl, hP, fun hm H1 hP1 => ⟨_, rfl, iteT ?_⟩, fun hm H1 hP1 ed => ⟨_, rfl, iteF ?_⟩⟩
    · exact q H1 t .long (.letLong hm) hP1
    obtain ⟨dx1, e1⟩ := hP1.ob
    refine ⟨_, rfl, rfl, _, rfl, ifT (decide_eq_true rfl) ?_⟩
    exact ⟨_, rfl, p, dx1, _, rfl, e1, pf_no _ _ _ _ _ (by decide +kernel), _, rfl, p, d, s, Hc, m, t, .ref u, to, sg, a, b, ss, kvs, rfl, hm, ed.trans g2, g3, hP1, ⟨u, rfl, h2⟩, hok, q⟩
  | .sy a, ⟨u, h1, h2⟩, hok, hd, q =>
    subst h1
    have hT := Kp.sqT kk h2
    refine ⟨_, rfl, u, _, _, _, rfl, rfl, hT, atI_nat (j := 0) rfl, ?_⟩
    refine ⟨_, rfl, rfl, _, rfl, ifF (by decide +kernel) ⟨_, rfl, rfl, _, rfl, ifF (by decide +kernel) ⟨_, rfl, rfl, _, rfl, ifF (by decide +kernel) ?_⟩⟩⟩
    refine ⟨_, rfl, p, dx, _, rfl, g1, pf_no _ _ _ _ _ (by decide +kernel), p, d, s, Hc, m, t, rfl, hP, fun hm H1 hP1 => ⟨_, rfl, iteT ?_⟩, fun hm H1 hP1 ed => ⟨_, rfl, iteF ?_⟩⟩
    · exact q H1 t .long (.sayLong hm) hP1
    obtain ⟨dx1, e1⟩ := hP1.ob
    have hT1 := Kp.sqT (Same.kp hP1.cl) h2
    refine ⟨_, rfl, rfl, _, rfl, ifF (by decide +kernel) ?_⟩
    refine ⟨_, rfl, p, C, dx1, _, _, rfl, e1, T.cl, T.nS, pf_said _ _ _ _ _, .inl ⟨rfl, _, SqL.of hP1.sd⟩, ?_⟩
    refine ⟨_, rfl, p, dx1, _, rfl, e1, pf_no _ _ _ _ _ (by decide +kernel), _, rfl, u, _, _, _, rfl, rfl, hT1, atI_nat (j := 1) rfl, p, d, s, Hc, m, t.tick, "done", a.v, rfl, hP1, a.kind, ?_⟩
    refine ⟨s, _, _, rfl, rfl, hP1.sd, ?_, ?_⟩
    · have h7 := hP1.sl
      have h8 := hP1.st
      have h9 := hP1.mm
      rw [List.length_map, sizeLine_eq]
      omega
    · exact q _ _ .done (.sayDone hm) (hP1.says hP.sl _)
  | .bk kd ts rs, ⟨u, l, vs, h1, h2, h3, h4⟩, hok, hd, q =>
    subst h1
    have hT := Kp.sqT kk h2
    obtain ⟨hk1, ⟨x, rfl, hx⟩, hl, hok2⟩ := hok
    have hdr : deps rs < n := hd
    refine ⟨_, rfl, u, _, _, _, rfl, rfl, hT, atI_nat (j := 0) rfl, ?_⟩
    have args : ∀ {Q' : V → Hp → Prop}, True := fun {_} => trivial
    simp only [kinds, List.mem_cons, List.not_mem_nil, or_false] at hk1
    rcases hk1 with e | e | e
    · subst e
      refine ⟨_, rfl, rfl, _, rfl, ifT (by decide +kernel) ?_⟩
      exact ⟨_, rfl, p, dx, _, rfl, g1, pf_no _ _ _ _ _ (by decide +kernel), _, rfl, u, _, _, _, rfl, rfl, hT, atI_nat (j := 1) rfl, _, rfl, u, _, _, _, rfl, rfl, hT, atI_nat (j := 2) rfl, p, d, s, Hc, m, t, x, l, rs, ss, rfl, hP, ⟨vs, h3, h4⟩, hok2, hdr, q⟩
    · subst e
      refine ⟨_, rfl, rfl, _, rfl, ifF (by decide +kernel) ⟨_, rfl, rfl, _, rfl, ifT (by decide +kernel) ?_⟩⟩
      exact ⟨_, rfl, p, dx, _, rfl, g1, pf_no _ _ _ _ _ (by decide +kernel), _, rfl, u, _, _, _, rfl, rfl, hT, atI_nat (j := 1) rfl, _, rfl, u, _, _, _, rfl, rfl, hT, atI_nat (j := 2) rfl, p, d, s, Hc, m, t, x, l, rs, ss, rfl, hP, ⟨vs, h3, h4⟩, hok2, hdr, q⟩
    · subst e
      refine ⟨_, rfl, rfl, _, rfl, ifF (by decide +kernel) ⟨_, rfl, rfl, _, rfl, ifF (by decide +kernel) ⟨_, rfl, rfl, _, rfl, ifT (by decide +kernel) ?_⟩⟩⟩
      exact ⟨_, rfl, p, dx, _, rfl, g1, pf_no _ _ _ _ _ (by decide +kernel), _, rfl, u, _, _, _, rfl, rfl, hT, atI_nat (j := 1) rfl, _, rfl, u, _, _, _, rfl, rfl, hT, atI_nat (j := 2) rfl, p, d, s, Hc, m, t, x, l, rs, ss, rfl, hP, ⟨vs, h3, h4⟩, hok2, hdr, q⟩
end
end Lm
namespace Lm
open PySem L2
section
variable {P : Program} {w : World} {K : PySem.W.Frag} {mg : Str → Option Value} {base : Heap} {f C : Addr} {fd : FuncData}
theorem sc_pinit : FnScope ["self", "given", "most"] ["self", "given", "most"] (defScope m_pinit) := ⟨rfl, rfl, rfl, by decide +kernel, rfl, by decide +kernel, by decide +kernel⟩
theorem ok_pinit (F : Fun K "__init__" "Progress.__init__" m_pinit f fd) (T : Rc K mg C) (md : mg "dict" = none) : FnOk P w K mg base CX0 1 f fd ["self", "given", "most"] (spPinit C) := by
  refine F.ok sc_pinit (fun vs H Q E h => ?_) (fun cdv A outer s H vs Q E hr h => ?_)
  · obtain ⟨p, dx, g, kvs, ρ, m, Hc, rfl, _⟩ := h
    rfl
  obtain ⟨p, dx, g, kvs, ρ, m, Hc, rfl, hp, hg, hv, hs, hm, hc, hcp, k⟩ := h
  obtain ⟨td, hD⟩ := T.done
  refine ⟨_, pss_cons (ps_fld (pv 0) (pe_callTy call_dictD rfl md (by decide +kernel) (pa_cons (pv 1) pa_nil)) rfl) <|
    pss_cons (ps_fld (pv 0) (pv 2) rfl) <|
    pss_cons (ps_fld (pv 0) pe_int rfl) <|
    pss_cons (ps_fld (pv 0) (pe_lst pa_nil) rfl) <|
    pss_one (ps_fld (pv 0) (pe_glob (v := .str "done") rfl hD ⟨_, rfl⟩) rfl), ?_⟩
  refine ⟨_, rfl, g, kvs, rfl, .inl hg, fun d hd => ?_⟩
  have npd : p ≠ d := ne_of_none hp hd
  refine ⟨_, rfl, p, C, dx, _, rfl, (by rw [upd_ne npd]; exact hp), T.cl, T.nW, (by show 0 < 1000; decide), ?_⟩
  refine ⟨_, rfl, _, rfl, p, C, dx, _, rfl, upd_same, T.cl, T.nM, (by show 1 < 1000; decide), ?_⟩
  refine ⟨_, rfl, p, C, dx, _, rfl, upd_same, T.cl, T.nN, (by (repeat (first | rw [put_end] | rw [put_next (by decide +kernel)])); show 2 < 1000; decide), ?_⟩
  refine ⟨(by show 0 ≤ sizeLine; decide), fun s hs0 => ?_⟩
  have nps : p ≠ s := ne_of_none upd_same hs0
  have hs1 : (upd H d (.dK kvs)) s = none := by rw [upd_ne nps.symm, upd_ne nps.symm, upd_ne nps.symm] at hs0; exact hs0
  have nds : d ≠ s := ne_of_none upd_same hs1
  have hs2 : H s = none := by rw [upd_ne nds.symm] at hs1; exact hs1
  refine ⟨_, rfl, p, C, dx, _, rfl, (by rw [upd_ne nps]; exact upd_same), T.cl, T.nS, (by (repeat (first | rw [put_end] | rw [put_next (by decide +kernel)])); show 3 < 1000; decide), ?_⟩
  refine ⟨_, rfl, p, C, dx, _, rfl, upd_same, T.cl, T.nE, (by (repeat (first | rw [put_end] | rw [put_next (by decide +kernel)])); show 4 < 1000; decide), ?_⟩
  refine k _ d s ⟨⟨dx, by rw [upd_same, pf_made]; rfl⟩, ⟨kvs, ?_, hv.more (Nat.le_refl _)⟩, ?_, Nat.le_refl _, Nat.zero_le _, hs, fun b o hb => ?_, hcp, hc.free hd, hc.free hs2, hm⟩
  · rw [upd_ne npd.symm, upd_ne npd.symm, upd_ne nds, upd_ne npd.symm, upd_ne npd.symm, upd_ne npd.symm, upd_same]
  · rw [upd_ne nps.symm, upd_ne nps.symm, upd_same]
    rfl
  · have hbp := ne_of_none hb hcp
    have h0 := hc b o hb
    rw [upd_ne hbp, upd_ne hbp, upd_ne (ne_of_none h0 hs2), upd_ne hbp, upd_ne hbp, upd_ne hbp, upd_ne (ne_of_none h0 hd)]
    exact h0
theorem sc_run : FnScope ["rows", "given", "most", "progress", "values"] ["rows", "given", "most"] (defScope s_run) := ⟨rfl, rfl, rfl, by decide +kernel, rfl, by decide +kernel, by decide +kernel⟩
theorem ok_run {n k : Nat} {fi fr : Addr} {di dr : FuncData} (F : Fun K "run" "run" s_run f fd) (T : Rc K mg C) (gC : mg "Progress" = some (.ref C)) (M : Mk K C fi) (I : FnOk P w K mg base CX0 1 fi di ["self", "given", "most"] (spPinit C)) (bi : Binds K di ["self", "given", "most"] [])
    (R : Dm P w K mg base C "do_rows" k fr dr ["self", "rows"] (spRows K C n)) (hk : 2 ≤ k) : FnOk P w K mg base CX0 (k + 1) f fd ["rows", "given", "most"] (spRun K n) := by
  refine F.ok sc_run (fun vs H Q E h => ?_) (fun cdv A outer s H vs Q E hr h => ?_)
  · obtain ⟨l, g, kvs, ρ, m, rs, ss, rfl, _⟩ := h
    rfl
  obtain ⟨l, g, kvs, ρ, m, rs, ss, rfl, hR, hok, hd, hg, hv, hs, hm, q⟩ := h
  have nd := sc_run.nd
  have r2 : Room 2 _ := hr.mono hk
  refine ⟨_, pss_cons (ps_set (i := 3) nd rfl (Or.inl rfl) (pe_make M I r2 rfl gC bi .nil pass0 (pa_cons (pv 1) (pa_cons (pv 2) pa_nil)))) <|
    pss_cons (ps_set (i := 4) nd rfl (Or.inl rfl) (pe_ifExp (pt_val (pe_dm R T.cl hr (pv 3) (pa_cons (pv 0) pa_nil))) (pe_fld (pv 3) rfl) pe_non)) <|
    pss_one (ps_ret (pe_tup (pa_cons (pe_fld (pv 3) rfl) (pa_cons (pe_fld (pv 3) rfl) (pa_cons (pv 4) (pa_cons (pe_fld (pv 3) rfl) pa_nil)))))), ?_⟩
  refine ⟨_, rfl, _, rfl, fun p dx hp hdx ndx => ?_⟩
  have s1 : Same H (upd (upd H dx (.own p)) p (.ins C dx [])) := fun b o hb => by
    rw [upd_ne (ne_of_none hb hp), upd_ne (ne_of_none hb hdx)]
    exact hb
  refine ⟨p, dx, g, kvs, ρ, m, H, rfl, upd_same, s1 _ _ hg, hv, hs, hm, s1, hp, fun H1 d s hP => ⟨rfl, ?_⟩⟩
  obtain ⟨dx1, e1⟩ := hP.ob
  refine ⟨_, rfl, p, dx1, _, rfl, e1, pf_no _ _ _ _ _ (by decide +kernel), _, rfl, p, d, s, H, m, _, l, rs, ss, rfl, hP, hR, hok, hd, fun H2 t e hD hP2 => ⟨_, rfl, ?_⟩⟩
  obtain ⟨dx2, e2⟩ := hP2.ob
  have fin : ∀ v : V, v = (if e = Ed.done then V.ref d else V.non) → (∀ q0, H2 q0 = none → Q (.ref q0) (upd H2 q0 (.tup [.ref s, .str e.txt, v, .int t.steps]))) := fun v ev q0 hq0 => by
    have s2 : Same H2 (upd H2 q0 (.tup [.ref s, .str e.txt, v, .int t.steps])) := same_new hq0 _
    obtain ⟨ks, g1, g2⟩ := hP2.dc
    exact q _ t e q0 s d v hD (hP2.cl.trans s2) upd_same hP2.cs (s2 _ _ hP2.sd) hP2.sl hP2.st ev hP2.cd ⟨ks, s2 _ _ g1, g2⟩
  by_cases c : e = Ed.done
  · rw [decide_eq_true c]
    refine iteT ⟨_, rfl, p, C, dx2, _, _, rfl, e2, T.cl, T.nW, pf_worths _ _ _ _ _, ?_⟩
    refine ⟨_, rfl, p, C, dx2, _, _, rfl, e2, T.cl, T.nS, pf_said _ _ _ _ _, _, rfl, p, C, dx2, _, _, rfl, e2, T.cl, T.nE, pf_ending _ _ _ _ _, _, rfl, _, rfl, p, C, dx2, _, _, rfl, e2, T.cl, T.nN, pf_steps _ _ _ _ _, (by show 4 ≤ sizeLine; decide), fun q0 hq0 => ?_⟩
    exact fin _ (if_pos c).symm q0 hq0
  · rw [decide_eq_false c]
    refine iteF ?_
    refine ⟨_, rfl, p, C, dx2, _, _, rfl, e2, T.cl, T.nS, pf_said _ _ _ _ _, _, rfl, p, C, dx2, _, _, rfl, e2, T.cl, T.nE, pf_ending _ _ _ _ _, _, rfl, _, rfl, p, C, dx2, _, _, rfl, e2, T.cl, T.nN, pf_steps _ _ _ _ _, (by show 4 ≤ sizeLine; decide), fun q0 hq0 => ?_⟩
    exact fin _ (if_neg c).symm q0 hq0
/-- the methods, by their names -/
structure Pm (K : PySem.W.Frag) (C f1 f2 f3 f4 f5 f6 f7 f8 f9 : Addr) (d1 d2 d3 d4 d5 d6 d7 d8 d9 : FuncData) : Prop where
  worth : Mt K C "worth" "Progress.worth" m_worth ["self", "part"] f1 d1
  stop : Mt K C "stop" "Progress.stop" m_stop ["self", "ending"] f2 d2
  take : Mt K C "take_step" "Progress.take_step" m_take ["self"] f3 d3
  rows : Mt K C "do_rows" "Progress.do_rows" m_rows ["self", "rows"] f4 d4
  row : Mt K C "do_row" "Progress.do_row" m_row ["self", "row"] f5 d5
  lt : Mt K C "do_let" "Progress.do_let" m_let ["self", "row"] f6 d6
  whn : Mt K C "do_when" "Progress.do_when" m_when ["self", "test", "rows"] f7 d7
  loop : Mt K C "do_loop" "Progress.do_loop" m_loop ["self", "test", "rows"] f8 d8
  again : Mt K C "do_again" "Progress.do_again" m_again ["self", "test", "rows"] f9 d9
theorem all_prows {f1 f2 f3 f4 f5 f6 f7 f8 f9 fc : Addr} {d1 d2 d3 d4 d5 d6 d7 d8 d9 dc : FuncData} (T : Rc K mg C) (B : Bn mg) (M : Pm K C f1 f2 f3 f4 f5 f6 f7 f8 f9 d1 d2 d3 d4 d5 d6 d7 d8 d9) (Co : Df P w K mg base "come_to" 1 fc dc ["sign", "one", "other"] spCome) :
    ∀ n, Dm P w K mg base C "do_rows" (3 * n + 3) f4 d4 ["self", "rows"] (spRows K C n)
  | 0 => ⟨none_left fun vs H Q E ⟨p, d, s, Hc, m, t, l, rs, ss, _, _, _, _, h, _⟩ => absurd h (Nat.not_lt_zero _), M.rows.me, M.rows.b⟩
  | n + 1 => by
    have W : Dm P w K mg base C "worth" 1 f1 d1 ["self", "part"] (spWorth C) := ⟨ok_worth M.worth.fn T B, M.worth.me, M.worth.b⟩
    have S : Dm P w K mg base C "stop" 1 f2 d2 ["self", "ending"] (spStop C) := ⟨ok_stop M.stop.fn T, M.stop.me, M.stop.b⟩
    have S2 : Dm P w K mg base C "take_step" 2 f3 d3 ["self"] (spTake C) := ⟨ok_take M.take.fn T S, M.take.me, M.take.b⟩
    have L : Dm P w K mg base C "do_let" 2 f6 d6 ["self", "row"] (spLetP K C) := ⟨ok_plet M.lt.fn T W S Co, M.lt.me, M.lt.b⟩
    have R := all_prows T B M Co n
    have B1 : Dm P w K mg base C "do_when" (3 * n + 4) f7 d7 ["self", "test", "rows"] (spBlk K C n "when") := ⟨ok_pwhen M.whn.fn T W S2 R (by omega), M.whn.me, M.whn.b⟩
    have B2 : Dm P w K mg base C "do_loop" (3 * n + 4) f8 d8 ["self", "test", "rows"] (spBlk K C n "loop") := ⟨ok_ploop M.loop.fn T W S2 R (by omega), M.loop.me, M.loop.b⟩
    have B3 : Dm P w K mg base C "do_again" (3 * n + 4) f9 d9 ["self", "test", "rows"] (spBlk K C n "again") := ⟨ok_pagain M.again.fn T W S2 R (by omega), M.again.me, M.again.b⟩
    have R1 : Dm P w K mg base C "do_row" (3 * n + 5) f5 d5 ["self", "row"] (spRow K C n) := ⟨ok_prow M.row.fn T W S2 L B1 B2 B3 (by omega), M.row.me, M.row.b⟩
    exact ⟨ok_prows M.rows.fn T R1, M.rows.me, M.rows.b⟩
end
end Lm
namespace Lm
open PySem L2
abbrev s_same : Stmt := topS 27
def spSame (K : PySem.W.Frag) : Sp := fun vs H Q _ => ∃ (a b : Addr) (ka kb : List (Key × V)) (ρ : Wh) (n m : Nat), vs = [.ref a, .ref b] ∧ a ≠ b ∧ H a = some (.dK ka) ∧ H b = some (.dK kb) ∧ DV (.dK ka) ρ n ∧ DV (.dK kb) ρ m ∧ Q (.bl true) H
section
variable {P : Program} {w : World} {K : PySem.W.Frag} {mg : Str → Option Value} {base : Heap} {f : Addr} {fd : FuncData}
theorem sc_same : FnScope ["_law_found", "_law_due", "_law_name"] ["_law_found", "_law_due"] (defScope s_same) := ⟨rfl, rfl, rfl, by decide +kernel, rfl, by decide +kernel, by decide +kernel⟩
theorem ok_same {fw : Addr} {dw : FuncData} (F : Fun K "_law_same_values" "_law_same_values" s_same f fd) (B : Bn mg) (md : mg "dict" = none) (W : Df P w K mg base "_law_whole" 1 fw dw ["_law_found"] spWhole) : FnOk P w K mg base CX0 2 f fd ["_law_found", "_law_due"] (spSame K) := by
  refine F.ok sc_same (fun vs H Q E h => ?_) (fun cdv A outer s H vs Q E hr h => ?_)
  · obtain ⟨a, b, ka, kb, ρ, n, m, rfl, _⟩ := h
    rfl
  obtain ⟨a, b, ka, kb, ρ, n, m, rfl, nab, ha, hb, da, db, k⟩ := h
  have nd := sc_same.nd
  have hu := hu_of hr
  refine ⟨_, pss_cons (ps_if (PW.pt (pw_or (pt_not (pt_val (pe_callB call_isi rfl B.isinstance (by decide +kernel) (pa_cons (pv 0) (pa_cons (pe_bltn (v := .ty "dict") rfl md (by decide +kernel) rfl) pa_nil)))))
      (pw_or1 (pt_cmpR op_ne (pe_callB call_lenD rfl B.len PySem.boot_len (pa_cons (pv 0) pa_nil)) (pe_callB call_lenD rfl B.len PySem.boot_len (pa_cons (pv 1) pa_nil)) (nomark _)))))
      (pss_one (ps_ret pe_bl)) pss_nil) <|
    pss_cons (ps_lock (ps_for PassesOwn.never rfl (pi_keys (pv 1)) (pg_name (i := 2) nd rfl (Or.inl rfl))
      (pss_one (ps_if (PW.pt (pw_or (pt_cmp (pc_dnotin hu (pv 2) (pv 0))) (pw_or (pt_not (pt_val (pe_df W hr (pa_cons (pe_dget hu (pv 0) (pv 2) (fun _ _ => rfl)) pa_nil))))
          (pw_or1 (pt_cmpR op_ne (pe_dget hu (pv 0) (pv 2) (fun _ _ => rfl)) (pe_dget hu (pv 1) (pv 2) (fun _ _ => rfl)) (nomark _))))))
        (pss_one (ps_ret pe_bl)) pss_nil)))) <|
    pss_one (ps_ret pe_bl), ?_⟩
  obtain ⟨hl, hv⟩ := da.same db
  refine ⟨_, rfl, _, _, _, _, true, rfl, .ty _, .base (.dK ha), kit_ty (by decide +kernel), _, rfl, iteF ⟨_, rfl, a, ka, rfl, ha, _, rfl, b, kb, rfl, hb, rfl, _, rfl, iteNS (by rw [hl]) ?_⟩⟩
  refine ⟨b, _, hb, True.intro, fun od => ?_⟩
  refine ⟨_, rfl, b, od, rfl, .inl ⟨kb, upd_same, ?_⟩⟩
  refine for_it (walk_keys (d := b) (o := od) (kvs := kb)) (fun i σ H' => ∃ v2 : Option V, σ = [some (.ref a), some (.ref b), v2] ∧ H' = upd H b (.frz od (.dK kb))) ⟨none, rfl, rfl⟩ (fun i σ H' _ ⟨_, _, e⟩ => by rw [e]; exact upd_same) ?_ ?_
  · rintro i y σ H1 H2 hi ⟨v2, rfl, rfl⟩ ⟨rfl, key, val, hkv, rfl⟩
    obtain ⟨x, z, e1, e2⟩ := hv _ (List.mem_of_getElem? hkv)
    cases e1
    have ha' : (upd H b (.frz od (.dK kb))) a = some (.dK ka) := by rw [upd_ne nab]; exact ha
    have g1 := DGet.k (k := Sum.inr x) ha'
    rw [e2] at g1
    have g2 : DGet (upd H b (.frz od (.dK kb))) b (.str x) (some (.int z)) := .inl ⟨kb, Sum.inr x, .inr ⟨od, upd_same⟩, rfl, (db.nodupV hkv).symm⟩
    refine ⟨_, rfl, _, rfl, a, _, rfl, g1, _, rfl, iteF ?_⟩
    refine ⟨_, rfl, _, rfl, a, _, rfl, g1, z, rfl, _, rfl, iteF ?_⟩
    refine ⟨_, rfl, _, rfl, a, _, rfl, g1, _, rfl, _, rfl, b, _, rfl, g2, rfl, _, rfl, iteNS rfl ?_⟩
    exact ⟨_, rfl, rfl⟩
  · rintro σ H1 ⟨v2, rfl, rfl⟩
    refine ⟨upd_same, ?_⟩
    rw [upd_upd, upd_self hb]
    exact k
end
end Lm
namespace Lm
open PySem L2
abbrev s_lval : Stmt := topS 21
abbrev s_lstep : Stmt := topS 22
abbrev s_llet : Stmt := topS 23
abbrev s_lrow : Stmt := topS 24
abbrev s_ldone : Stmt := topS 25
abbrev s_ltale : Stmt := topS 26
def spLVal : Sp := fun vs H Q _ => ∃ (a d s : Addr) (Hc : Hp) (m : Nat) (t : Tale) (e : Str) (v : V), vs = [v, .ref a] ∧ Tl Hc H a d s m t e ∧ ((∃ z, v = .str z) ∨ ∃ i, v = .int i) ∧ Q (.int (t.ρ.get v)) H
def spLStep : Sp := fun vs H Q _ => ∃ (a d s : Addr) (Hc : Hp) (m : Nat) (t : Tale), vs = [.ref a] ∧ Tl Hc H a d s m t "done" ∧ (m ≤ t.steps → ∀ H', Tl Hc H' a d s m t "too long" → Q (.bl false) H') ∧
  (t.steps < m → ∀ H', Tl Hc H' a d s m t.tick "done" → H' d = H d → Q (.bl true) H')
def LDid (Hc : Hp) (a d s : Addr) (m : Nat) (c : Cmd) (t : Tale) (Q : VK) : Prop := ∀ (H' : Hp) (t' : Tale) (e : Ed), Does m c t t' e → Tl Hc H' a d s m t' e.txt → Q (.bl (decide (e = Ed.done))) H'
def spLLet (K : PySem.W.Frag) : Sp := fun vs H Q _ => ∃ (a d s : Addr) (Hc : Hp) (m : Nat) (t : Tale) (v : V) (to sg : Str) (x y : Vl) (ss : List Str) (kvs : List (Key × V)), vs = [v, .ref a] ∧ t.steps < m ∧ H d = some (.dK kvs) ∧ DV (.dK kvs) t.ρ (100 + t.steps) ∧ Tl Hc H a d s m t.tick "done" ∧
  RowAt K Hc (.lt to sg x y) v ∧ (Row.lt to sg x y).ok ss ∧ LDid Hc a d s m (.one (.lt to sg x y)) t Q
def spLRow (K : PySem.W.Frag) (n : Nat) : Sp := fun vs H Q _ => ∃ (a d s : Addr) (Hc : Hp) (m : Nat) (t : Tale) (v : V) (r : Row) (ss : List Str), vs = [v, .ref a] ∧ Tl Hc H a d s m t "done" ∧ RowAt K Hc r v ∧ r.ok ss ∧ r.dep ≤ n ∧ LDid Hc a d s m (.one r) t Q
def spLDone (K : PySem.W.Frag) (n : Nat) : Sp := fun vs H Q _ => ∃ (a d s : Addr) (Hc : Hp) (m : Nat) (t : Tale) (l : Addr) (rs : List Row) (ss : List Str), vs = [.ref l, .ref a] ∧ Tl Hc H a d s m t "done" ∧ RowsAt K Hc l rs ∧ oks ss rs ∧ deps rs < n ∧ LDid Hc a d s m (.all rs) t Q
def spLTale (K : PySem.W.Frag) (n : Nat) : Sp := fun vs H Q _ => ∃ (l g : Addr) (kvs : List (Key × V)) (ρ : Wh) (m : Nat) (rs : List Row) (ss : List Str), vs = [.ref l, .ref g, .int m] ∧ RowsAt K H l rs ∧ oks ss rs ∧ deps rs < n ∧ H g = some (.dK kvs) ∧ DV (.dK kvs) ρ 100 ∧ ρ.small ∧ m ≤ 100000 ∧
  ∀ (H' : Hp) (t : Tale) (e : Ed) (a d s : Addr), Does m (.all rs) ⟨ρ, [], 0⟩ t e → Tl H H' a d s m t e.txt → Q (.ref a) H'
section
variable {P : Program} {w : World} {K : PySem.W.Frag} {mg : Str → Option Value} {base : Heap} {f : Addr} {fd : FuncData}
theorem sc_lval : FnScope ["_law_thing", "_law_tale_here"] ["_law_thing", "_law_tale_here"] (defScope s_lval) := ⟨rfl, rfl, rfl, by decide +kernel, rfl, by decide +kernel, by decide +kernel⟩
theorem ok_lval (F : Fun K "_law_value_of" "_law_value_of" s_lval f fd) (B : Bn mg) : FnOk P w K mg base CX0 1 f fd ["_law_thing", "_law_tale_here"] spLVal := by
  refine F.ok sc_lval (fun vs H Q E h => ?_) (fun cdv A outer s H vs Q E hr h => ?_)
  · obtain ⟨a, d, s, Hc, m, t, e, v, rfl, _⟩ := h
    rfl
  obtain ⟨a, d, s, Hc, m, t, e, v, rfl, hP, hv, k⟩ := h
  have hu := hu_of hr
  refine ⟨_, pss_cons (ps_if (pt_val (pe_callB call_isi rfl B.isinstance (by decide +kernel) (pa_cons (pv 0) (pa_cons (pe_bltn (v := .ty "str") rfl B.str (by decide +kernel) rfl) pa_nil))))
      (pss_one (ps_ret (pe_dget2 hu (pe_dget hu (pv 1) pe_str (fun _ _ => rfl)) (pv 0) pe_int ⟨rfl, rfl, rfl, rfl⟩))) pss_nil) <|
    pss_one (ps_ret (pv 0)), ?_⟩
  obtain ⟨kvs, h2, h3⟩ := hP.dc
  have g1 := DGet.k (k := Sum.inr "values") hP.ob
  rw [tk_values] at g1
  rcases hv with ⟨z, rfl⟩ | ⟨i, rfl⟩
  · refine ⟨_, rfl, _, _, _, _, true, rfl, .ty _, ty_str _, kit_ty (by decide +kernel), _, rfl, iteT ?_⟩
    refine ⟨_, rfl, a, _, rfl, g1, d, rfl, .inl ⟨kvs, .inl h2⟩, _, rfl, _, DGet.k (k := Sum.inr z) h2, ?_⟩
    rw [h3.get z]
    exact k
  · exact ⟨_, rfl, _, _, _, _, false, rfl, .ty _, ty_int _, kit_ty (by decide +kernel), _, rfl, iteF ⟨_, rfl, k⟩⟩
theorem tk_room (d s : Addr) (n m : Int) (e : Str) : (tk d s n m e).length < sizeLine := by
  show 5 < sizeLine
  decide
theorem sc_lstep : FnScope ["_law_tale_here"] ["_law_tale_here"] (defScope s_lstep) := ⟨rfl, rfl, rfl, by decide +kernel, rfl, by decide +kernel, by decide +kernel⟩
theorem ok_lstep (F : Fun K "_law_step" "_law_step" s_lstep f fd) : FnOk P w K mg base CX0 1 f fd ["_law_tale_here"] spLStep := by
  refine F.ok sc_lstep (fun vs H Q E h => ?_) (fun cdv A outer s H vs Q E hr h => ?_)
  · obtain ⟨a, d, s, Hc, m, t, rfl, _⟩ := h
    rfl
  obtain ⟨a, d, s, Hc, m, t, rfl, hP, k1, k2⟩ := h
  have hu := hu_of hr
  refine ⟨_, pss_cons (ps_if (pt_cmpR op_eq (pe_dget hu (pv 0) pe_str (fun _ _ => rfl)) (pe_dget hu (pv 0) pe_str (fun _ _ => rfl)) (nomark _)) (pss_cons (ps_dput hu (pv 0) pe_str pe_str rfl) (pss_one (ps_ret pe_bl))) pss_nil) <|
    pss_cons (ps_dput hu (pv 0) pe_str (pe_op op_add (pe_dget hu (pv 0) pe_str (fun _ _ => rfl)) pe_int) rfl) <| pss_one (ps_ret pe_bl), ?_⟩
  have g1 := DGet.k (k := Sum.inr "steps") hP.ob
  rw [tk_steps] at g1
  have g2 := DGet.k (k := Sum.inr "most") hP.ob
  rw [tk_most] at g2
  have hst := hP.st
  refine ⟨_, rfl, a, _, rfl, g1, _, rfl, a, _, rfl, g2, rfl, _, rfl, ?_⟩
  refine ite2 (fun c => ?_) (fun c => ?_)
  · have c' : (t.steps : Int) = (m : Int) := V.int.inj (of_decide_eq_true c)
    exact ⟨_, rfl, a, _, rfl, DPut.k (k := Sum.inr "ending") hP.ob (tk_room _ _ _ _ _), k1 (by omega) _ (hP.ended _)⟩
  · have c' : ¬ t.steps = m := fun z => c (decide_eq_true (by rw [z]))
    exact ⟨_, rfl, a, _, rfl, g1, _, _, rfl, rfl, _, rfl, a, _, rfl, DPut.k (k := Sum.inr "steps") hP.ob (tk_room _ _ _ _ _), k2 (by omega) _ (hP.ticked (by omega)) (upd_ne hP.ne.1.symm)⟩
theorem sc_llet : FnScope ["_law_row", "_law_tale_here", "_law_one", "_law_other", "_law_came"] ["_law_row", "_law_tale_here"] (defScope s_llet) := ⟨rfl, rfl, rfl, by decide +kernel, rfl, by decide +kernel, by decide +kernel⟩
theorem sgq (x y : Str) : decide (V.str x = V.str y) = decide (x = y) := by
  by_cases h : x = y
  · rw [h, decide_eq_true rfl, decide_eq_true rfl]
  · rw [decide_eq_false h, decide_eq_false (fun z => h (V.str.inj z))]
theorem ok_llet {fw : Addr} {dw : FuncData} (F : Fun K "_law_let_done" "_law_let_done" s_llet f fd) (mi : mg "int" = none) (W : Df P w K mg base "_law_value_of" 1 fw dw ["_law_thing", "_law_tale_here"] spLVal) : FnOk P w K mg base CX0 2 f fd ["_law_row", "_law_tale_here"] (spLLet K) := by
  refine F.ok sc_llet (fun vs H Q E h => ?_) (fun cdv A outer s H vs Q E hr h => ?_)
  · obtain ⟨a, d, s, Hc, m, t, v, to, sg, x, y, ss, kvs, rfl, _⟩ := h
    rfl
  obtain ⟨a, d, s, Hc, m, t, v, to, sg, x, y, ss, kvs, rfl, hm, h2, h3, hP, ⟨q, h1, hq⟩, hok, k⟩ := h
  subst h1
  have nd := sc_llet.nd
  have hu := hu_of hr
  refine ⟨_, pss_cons (ps_set (i := 2) nd rfl (Or.inl rfl) (pe_df W hr (pa_cons (pe_ix ix_tup (pv 0) pe_int (fun _ _ => rfl)) (pa_cons (pv 1) pa_nil)))) <|
    pss_cons (ps_set (i := 3) nd rfl (Or.inl rfl) (pe_df W hr (pa_cons (pe_ix ix_tup (pv 0) pe_int (fun _ _ => rfl)) (pa_cons (pv 1) pa_nil)))) <|
    pss_cons (ps_if (PW.pt (pw_and (pt_cmpR op_eq (pe_ix ix_tup (pv 0) pe_int (fun _ _ => rfl)) pe_str (nomark _)) (pw_and1 (pt_cmpR op_eq (pv 3) pe_int (nomark _)))))
      (pss_cons (ps_dput hu (pv 1) pe_str pe_str rfl) (pss_one (ps_ret pe_bl))) pss_nil) <|
    C8.pss_cut (ps_if (pt_cmpR op_eq (pe_ix ix_tup (pv 0) pe_int (fun _ _ => rfl)) pe_str (nomark _)) (pss_one (ps_set (i := 4) nd rfl (Or.inl rfl) (pe_op op_mod (pe_op op_add (pv 2) (pv 3)) pe_int)))
      (pss_one (ps_if (pt_cmpR op_eq (pe_ix ix_tup (pv 0) pe_int (fun _ _ => rfl)) pe_str (nomark _)) (pss_one (ps_set (i := 4) nd rfl (Or.inl rfl) (pe_op op_mod (pe_op op_sub (pv 2) (pv 3)) pe_int)))
        (pss_one (ps_if (pt_cmpR op_eq (pe_ix ix_tup (pv 0) pe_int (fun _ _ => rfl)) pe_str (nomark _)) (pss_one (ps_set (i := 4) nd rfl (Or.inl rfl) (pe_op op_mod (pe_op op_mul (pv 2) (pv 3)) pe_int)))
          (pss_one (ps_if (pt_cmpR op_eq (pe_ix ix_tup (pv 0) pe_int (fun _ _ => rfl)) pe_str (nomark _)) (pss_one (ps_set (i := 4) nd rfl (Or.inl rfl) (pe_callTy call_int1 rfl mi (by decide +kernel) (pa_cons (pe_cmpR op_lt (pv 2) (pv 3) (nomark _)) pa_nil))))
            (pss_one (ps_set (i := 4) nd rfl (Or.inl rfl) (pe_op op_fdivN (pv 2) (pv 3))))))))))) <|
    pss_cons (ps_dput hu (pe_dget hu (pv 1) pe_str (fun _ _ => rfl)) (pe_ix ix_tup (pv 0) pe_int (fun _ _ => rfl)) (pv 4) rfl) <|
    pss_one (ps_ret pe_bl), ?_⟩
  have hT : SqT K H q [.str "let", .str to, .str sg, x.v, y.v] := Kp.sqT (Same.kp hP.cl) hq
  have ysm : 0 ≤ t.ρ.get y.v ∧ t.ρ.get y.v < 1000000 := Wh.small.vl hP.sm hok.2.2.2
  have xsm : 0 ≤ t.ρ.get x.v ∧ t.ρ.get x.v < 1000000 := Wh.small.vl hP.sm hok.2.2.1
  have room : kvs.length < sizeLine := by
    obtain ⟨kvs', e, _, _, _, hl⟩ := h3.ex
    cases e
    have := hP.mm
    rw [sizeLine_eq]
    omega
  have kd : ∀ z : Vl, (∃ u, z.v = .str u) ∨ ∃ i, z.v = .int i := fun z => match z with
    | .nm u => .inl ⟨u, rfl⟩
    | .nu i => .inr ⟨i, rfl⟩
  refine ⟨_, rfl, q, _, _, _, rfl, rfl, hT, atI_nat (j := 3) rfl, _, rfl, a, d, s, Hc, m, t.tick, "done", x.v, rfl, hP, kd x, ?_⟩
  refine ⟨_, rfl, q, _, _, _, rfl, rfl, hT, atI_nat (j := 4) rfl, _, rfl, a, d, s, Hc, m, t.tick, "done", y.v, rfl, hP, kd y, ?_⟩
  have g2 := DGet.k (k := Sum.inr "values") hP.ob
  rw [tk_values] at g2
  have xsm' : 0 ≤ t.tick.ρ.get x.v ∧ t.tick.ρ.get x.v < 1000000 := xsm
  have ysm' : 0 ≤ t.tick.ρ.get y.v ∧ t.tick.ρ.get y.v < 1000000 := ysm
  have fin : ¬ (sg = "/" ∧ t.ρ.get y.v = 0) → Q (.bl true) (upd H d (.dK (putK kvs (Sum.inr to) (.int (comeTo sg (t.ρ.get x.v) (t.ρ.get y.v)))))) := fun hn => by
    have cs := comeTo_small (sg := sg) xsm ysm
    exact k _ _ .done (.letDone hm hn) (hP.puts h3 to cs.1 cs.2)
  have last : ∀ v4 : Int, ¬ (sg = "/" ∧ t.ρ.get y.v = 0) → v4 = comeTo sg (t.ρ.get x.v) (t.ρ.get y.v) → Q (.bl true) (upd H d (.dK (putK kvs (Sum.inr to) (.int v4)))) := fun v4 hn e => by
    rw [e]
    exact fin hn
  have way : ∀ (z : Str) {A B : Prop}, (sg = z → A) → (¬ sg = z → B) → if decide (V.str sg = V.str z) = true then A else B := fun z A B h1 h2 => by
    rw [sgq]
    by_cases c : sg = z
    · rw [decide_eq_true c]
      exact iteT (h1 c)
    · rw [decide_eq_false c]
      exact iteF (h2 c)
  refine ⟨_, rfl, q, _, _, _, rfl, rfl, hT, atI_nat (j := 2) rfl, rfl, _, rfl, ?_⟩
  rw [sgq]
  by_cases hn : sg = "/" ∧ t.ρ.get y.v = 0
  · rw [decide_eq_true hn.1]
    refine iteT ⟨_, rfl, rfl, _, rfl, ifT (decide_eq_true (by rw [show t.tick.ρ.get y.v = 0 from hn.2])) ?_⟩
    exact ⟨_, rfl, a, _, rfl, DPut.k (k := Sum.inr "ending") hP.ob (tk_room _ _ _ _ _), k _ t.tick .nought (.letNought hm hn.1 hn.2) (hP.ended _)⟩
  by_cases c0 : sg = "/" <;> first
    | (rw [decide_eq_true c0]; refine iteT ⟨_, rfl, rfl, _, rfl, ifF (decide_eq_false fun z => hn ⟨c0, V.int.inj z⟩) ?_⟩)
    | (rw [decide_eq_false c0]; refine iteF ?_)
  all_goals
    refine ⟨fun σ H' => ∃ v4 : Int, σ = [some (.ref q), some (.ref a), some (.int (t.ρ.get x.v)), some (.int (t.ρ.get y.v)), some (.int v4)] ∧ H' = H ∧ v4 = comeTo sg (t.ρ.get x.v) (t.ρ.get y.v), ?_, ?_⟩
    · refine ⟨_, rfl, q, _, _, _, rfl, rfl, hT, atI_nat (j := 2) rfl, rfl, _, rfl, way _ (fun c1 => ?_) (fun c1 => ?_)⟩
      · exact ⟨_, rfl, _, rfl, _, _, rfl, rfl, _, _, rfl, rfl, (by show (0 : Int) < 1000000; decide), _, rfl, rfl, (if_pos c1).symm⟩
      refine ⟨_, rfl, q, _, _, _, rfl, rfl, hT, atI_nat (j := 2) rfl, rfl, _, rfl, way _ (fun c2 => ?_) (fun c2 => ?_)⟩
      · exact ⟨_, rfl, _, rfl, _, _, rfl, rfl, _, _, rfl, rfl, (by show (0 : Int) < 1000000; decide), _, rfl, rfl, ((if_neg c1).trans (if_pos c2)).symm⟩
      refine ⟨_, rfl, q, _, _, _, rfl, rfl, hT, atI_nat (j := 2) rfl, rfl, _, rfl, way _ (fun c3 => ?_) (fun c3 => ?_)⟩
      · exact ⟨_, rfl, _, rfl, _, _, rfl, rfl, .inl ⟨by omega, by omega⟩, _, _, rfl, rfl, (by show (0 : Int) < 1000000; decide), _, rfl, rfl, ((if_neg c1).trans ((if_neg c2).trans (if_pos c3))).symm⟩
      refine ⟨_, rfl, q, _, _, _, rfl, rfl, hT, atI_nat (j := 2) rfl, rfl, _, rfl, way _ (fun c4 => ?_) (fun c4 => ?_)⟩
      · refine ⟨_, rfl, _, rfl, _, _, rfl, rfl, .inr ⟨_, rfl, _, rfl, rfl, ?_⟩⟩
        refine Eq.trans ?_ ((if_neg c1).trans ((if_neg c2).trans ((if_neg c3).trans (if_pos c4)))).symm
        by_cases c : t.ρ.get x.v < t.ρ.get y.v
        · rw [if_pos c]
          exact if_pos (decide_eq_true c)
        · rw [if_neg c]
          exact if_neg (by rw [show decide (t.tick.ρ.get x.v < t.tick.ρ.get y.v) = false from decide_eq_false c]; exact Bool.false_ne_true)
      · have c5 : sg = "/" := by
          have hs := hok.2.1
          simp only [signs, List.mem_cons, List.not_mem_nil, or_false] at hs
          rcases hs with e | e | e | e | e
          · exact absurd e c1
          · exact absurd e c2
          · exact absurd e c3
          · exact absurd e c4
          · exact e
        exact ⟨_, rfl, _, rfl, _, _, rfl, rfl, ⟨fun z => hn ⟨c5, z⟩, by omega⟩, _, rfl, rfl, ((if_neg c1).trans ((if_neg c2).trans ((if_neg c3).trans (if_neg c4)))).symm⟩
    · rintro σ H' ⟨v4, rfl, rfl, e4⟩
      exact ⟨_, rfl, _, rfl, a, _, rfl, g2, _, rfl, q, _, _, _, rfl, rfl, hT, atI_nat (j := 1) rfl, d, _, rfl, DPut.k (k := Sum.inr to) h2 room, last v4 hn e4⟩
end
end Lm
namespace Lm
open PySem L2
section
variable {P : Program} {w : World} {K : PySem.W.Frag} {mg : Str → Option Value} {base : Heap} {f : Addr} {fd : FuncData}
theorem sc_lrow : FnScope ["_law_row", "_law_tale_here"] ["_law_row", "_law_tale_here"] (defScope s_lrow) := ⟨rfl, rfl, rfl, by decide +kernel, rfl, by decide +kernel, by decide +kernel⟩
theorem ok_lrow {n k : Nat} {f1 f2 f3 f4 : Addr} {d1 d2 d3 d4 : FuncData} (F : Fun K "_law_row_done" "_law_row_done" s_lrow f fd) (W : Df P w K mg base "_law_value_of" 1 f1 d1 ["_law_thing", "_law_tale_here"] spLVal) (S : Df P w K mg base "_law_step" 1 f2 d2 ["_law_tale_here"] spLStep)
    (L : Df P w K mg base "_law_let_done" 2 f3 d3 ["_law_row", "_law_tale_here"] (spLLet K)) (R : Df P w K mg base "_law_done" k f4 d4 ["_law_rows", "_law_tale_here"] (spLDone K n)) (hk : 2 ≤ k) : FnOk P w K mg base CX0 (k + 1) f fd ["_law_row", "_law_tale_here"] (spLRow K n) := by
  refine F.ok sc_lrow (fun vs H Q E h => ?_) (fun cdv A outer s H vs Q E hr h => ?_)
  · obtain ⟨a, d, s, Hc, m, t, v, r, ss, rfl, _⟩ := h
    rfl
  obtain ⟨a, d, s, Hc, m, t, v, r, ss, rfl, hP, hR, hok, hd, q⟩ := h
  have r1 : Room 1 _ := hr.mono (by omega)
  have r2 : Room 2 _ := hr.mono hk
  have hu := hu_of hr
  refine ⟨_, pss_cons (ps_if (pt_cmpR op_eq (pe_ix ix_tup (pv 0) pe_int (fun _ _ => rfl)) pe_str (nomark _)) (pss_one (ps_ret (pe_and (pe_df S r1 (pa_cons (pv 1) pa_nil)) (pe_one (pe_df L r2 (pa_cons (pv 0) (pa_cons (pv 1) pa_nil))))))) pss_nil) <|
    pss_cons (ps_if (pt_cmpR op_eq (pe_ix ix_tup (pv 0) pe_int (fun _ _ => rfl)) pe_str (nomark _))
      (pss_cons (ps_if (pt_not (pt_val (pe_df S r1 (pa_cons (pv 1) pa_nil)))) (pss_one (ps_ret pe_bl)) pss_nil) <|
       pss_cons (ps_expr (pe_bm PySem.F.plainAttrs_list PySem.F.slot_list_append PySem.F.type_list_append mt_append (pe_dget hu (pv 1) pe_str (fun _ _ => rfl)) (pa_cons (pe_df W r1 (pa_cons (pe_ix ix_tup (pv 0) pe_int (fun _ _ => rfl)) (pa_cons (pv 1) pa_nil))) pa_nil))) <|
       pss_one (ps_ret pe_bl)) pss_nil) <|
    pss_cons (ps_if (PW.pt (pw_and (pt_cmpR op_eq (pe_ix ix_tup (pv 0) pe_int (fun _ _ => rfl)) pe_str (nomark _)) (pw_and1 (pt_not (pt_val (pe_df R hr (pa_cons (pe_ix ix_tup (pv 0) pe_int (fun _ _ => rfl)) (pa_cons (pv 1) pa_nil))))))))
      (pss_one (ps_ret pe_bl)) pss_nil) <|
    pss_cons (ps_while PassesOwn.never (pt_val (pe_df S r1 (pa_cons (pv 1) pa_nil)))
      (pss_cons (ps_if (pt_cmpR op_eq (pe_df W r1 (pa_cons (pe_ix ix_tup (pv 0) pe_int (fun _ _ => rfl)) (pa_cons (pv 1) pa_nil))) pe_int (nomark _)) (pss_one (ps_ret pe_bl)) pss_nil) <|
       pss_cons (ps_if (pt_not (pt_val (pe_df R hr (pa_cons (pe_ix ix_tup (pv 0) pe_int (fun _ _ => rfl)) (pa_cons (pv 1) pa_nil))))) (pss_one (ps_ret pe_bl)) pss_nil) <|
       pss_one (ps_if (pt_cmpR op_eq (pe_ix ix_tup (pv 0) pe_int (fun _ _ => rfl)) pe_str (nomark _)) (pss_one (ps_ret pe_bl)) pss_nil))) <|
    pss_one (ps_ret pe_bl), ?_⟩
  have kk := Same.kp hP.cl
  match r, hR, hok, hd, q with
  | .lt to sg x y, ⟨u, h1, h2⟩, hok, hd, q =>
    subst h1
    have hT := Kp.sqT kk h2
    obtain ⟨kvs, g2, g3⟩ := hP.dc
    refine ⟨_, rfl, u, _, _, _, rfl, rfl, hT, atI_nat (j := 0) rfl, rfl, _, rfl, ifT (decide_eq_true rfl) ?_⟩
    refine ⟨_, rfl, a, d, s, Hc, m, t, rfl, hP, fun hm H1 hP1 => ⟨_, rfl, iteF ?_⟩, fun hm H1 hP1 ed => ⟨_, rfl, iteT ?_⟩⟩
    · exact q H1 t .long (.letLong hm) hP1
    · exact ⟨_, rfl, _, rfl, a, d, s, Hc, m, t, .ref u, to, sg, x, y, ss, kvs, rfl, hm, ed.trans g2, g3, hP1, ⟨u, rfl, h2⟩, hok, q⟩
  | .sy x, ⟨u, h1, h2⟩, hok, hd, q =>
    subst h1
    have hT := Kp.sqT kk h2
    have kd : ∀ z : Vl, (∃ u, z.v = .str u) ∨ ∃ i, z.v = .int i := fun z => match z with
      | .nm u => .inl ⟨u, rfl⟩
      | .nu i => .inr ⟨i, rfl⟩
    refine ⟨_, rfl, u, _, _, _, rfl, rfl, hT, atI_nat (j := 0) rfl, rfl, _, rfl, ifF (by decide +kernel) ?_⟩
    refine ⟨_, rfl, u, _, _, _, rfl, rfl, hT, atI_nat (j := 0) rfl, rfl, _, rfl, ifT (decide_eq_true rfl) ?_⟩
    refine ⟨_, rfl, a, d, s, Hc, m, t, rfl, hP, fun hm H1 hP1 => ⟨_, rfl, iteT ?_⟩, fun hm H1 hP1 ed => ⟨_, rfl, iteF ?_⟩⟩
    · exact q H1 t .long (.sayLong hm) hP1
    have hT1 := Kp.sqT (Same.kp hP1.cl) h2
    have g1 := DGet.k (k := Sum.inr "said") hP1.ob
    rw [tk_said] at g1
    refine ⟨_, rfl, a, _, rfl, g1, .inl ⟨rfl, _, SqL.of hP1.sd⟩, ?_⟩
    refine ⟨_, rfl, u, _, _, _, rfl, rfl, hT1, atI_nat (j := 1) rfl, _, rfl, a, d, s, Hc, m, t.tick, "done", x.v, rfl, hP1, kd x, ?_⟩
    refine ⟨s, _, _, rfl, rfl, hP1.sd, ?_, ?_⟩
    · have h7 := hP1.sl
      have h8 := hP1.st
      have h9 := hP1.mm
      rw [List.length_map, sizeLine_eq]
      omega
    · exact q _ _ .done (.sayDone hm) (hP1.says hP.sl _)
  | .bk kd ts rs, ⟨u, l, vs, h1, h2, h3, h4⟩, hok, hd, q =>
    subst h1
    obtain ⟨hk1, ⟨x, rfl, hx⟩, hl, hok2⟩ := hok
    have hdr : deps rs < n := hd
    have hT := Kp.sqT kk h2
    have hTa : ∀ {H' : Hp} {t' : Tale} {e : Str}, Tl Hc H' a d s m t' e → SqT K H' u [.str kd, .str x, .ref l] := fun h => Kp.sqT (Same.kp h.cl) h2
    refine ⟨_, rfl, u, _, _, _, rfl, rfl, hT, atI_nat (j := 0) rfl, rfl, _, rfl, ifF (kd_let hk1) ?_⟩
    refine ⟨_, rfl, u, _, _, _, rfl, rfl, hT, atI_nat (j := 0) rfl, rfl, _, rfl, ifF (kd_say hk1) ?_⟩
    refine ⟨_, rfl, u, _, _, _, rfl, rfl, hT, atI_nat (j := 0) rfl, rfl, _, rfl, ?_⟩
    simp only [kinds, List.mem_cons, List.not_mem_nil, or_false] at hk1
    have hnw : ∀ {y : Str}, kd = y → ¬ y = "when" → ¬ kd = "when" := fun h1 h2 h3 => h2 (h1.symm.trans h3)
    rcases hk1 with e | e | e
    · obtain ⟨c, t0, H0, tu, hP0, q0, eH⟩ : ∃ (c : Cmd) (t0 : Tale) (H0 : Hp), Turns m kd x rs c ∧ Tl Hc H0 a d s m t0 "done" ∧ LDid Hc a d s m c t0 Q ∧ H0 = H := ⟨_, t, H, by rw [e]; exact turns_when, hP, by rw [e] at q; exact q, rfl⟩
      refine ifF (by rw [e]; decide +kernel) (iteF ?_)
      rw [← eH]
      refine ⟨fun j σ H' => ∃ t1 : Tale, j = m - t1.steps ∧ σ = [some (.ref u), some (.ref a)] ∧ Tl Hc H' a d s m t1 "done" ∧ LDid Hc a d s m c t1 Q, ⟨_, t0, rfl, rfl, hP0, q0⟩, ?_⟩
      rintro j σ H1 ⟨t1, rfl, rfl, hP1, q1⟩
      refine ⟨_, rfl, a, d, s, Hc, m, t1, rfl, hP1, fun hm H2 hP2 => ⟨_, rfl, iteF ?_⟩, fun hm H2 hP2 _ => ⟨_, rfl, iteT ?_⟩⟩
      · exact q1 H2 t1 .long (tu.long _ hm) hP2
      refine ⟨fun σ' H' => ∃ t2 : Tale, t1.steps < t2.steps ∧ σ' = [some (.ref u), some (.ref a)] ∧ Tl Hc H' a d s m t2 "done" ∧ LDid Hc a d s m c t2 Q, fun σ' H' ⟨t2, y1, y2, y3, y4⟩ => ⟨m - t2.steps, by omega, t2, rfl, y2, y3, y4⟩, ?_⟩
      refine ⟨_, rfl, u, _, _, _, rfl, rfl, hTa hP2, atI_nat (j := 1) rfl, _, rfl, a, d, s, Hc, m, t1.tick, "done", .str x, rfl, hP2, .inl ⟨_, rfl⟩, rfl, _, rfl, ?_⟩
      refine ite2 (fun c0 => ?_) (fun c0 => ?_)
      · have z : t1.ρ.get (.str x) = 0 := V.int.inj (of_decide_eq_true c0)
        exact q1 H2 t1.tick .done (tu.no _ hm z) hP2
      have z : t1.ρ.get (.str x) ≠ 0 := fun y => c0 (decide_eq_true (by rw [show t1.tick.ρ.get (.str x) = 0 from y]))
      refine ⟨_, rfl, u, _, _, _, rfl, rfl, hTa hP2, atI_nat (j := 2) rfl, _, rfl, a, d, s, Hc, m, t1.tick, l, rs, ss, rfl, hP2, ⟨vs, h3, h4⟩, hok2, hdr, fun H3 t3 e3 hD3 hP3 => ⟨_, rfl, ?_⟩⟩
      by_cases c3 : e3 = Ed.done
      · subst c3
        refine iteF ⟨_, rfl, u, _, _, _, rfl, rfl, hTa hP3, atI_nat (j := 0) rfl, rfl, _, rfl, ?_⟩
        by_cases c4 : kd = "when"
        · exact ifT (by rw [c4]; exact decide_eq_true rfl) (q1 H3 t3 .done (tu.once _ _ c4 hm z hD3) hP3)
        · exact ifF (decide_eq_false fun y => c4 (V.str.inj y)) ⟨t3, Nat.lt_of_lt_of_le (Nat.lt_succ_self _) hD3.steps.1, rfl, hP3, fun H4 t4 e4 hD4 hP4 => q1 H4 t4 e4 (tu.round _ _ _ _ c4 hm z hD3 hD4) hP4⟩
      · have y := q1 H3 t3 e3 (tu.stop _ _ _ hm z hD3 c3) hP3
        rw [decide_eq_false c3] at y ⊢
        exact iteT y
    · obtain ⟨c, t0, H0, tu, hP0, q0, eH⟩ : ∃ (c : Cmd) (t0 : Tale) (H0 : Hp), Turns m kd x rs c ∧ Tl Hc H0 a d s m t0 "done" ∧ LDid Hc a d s m c t0 Q ∧ H0 = H := ⟨_, t, H, turns_lp (hnw e (by decide +kernel)), hP, fun H' t' e' hD hP' => q H' t' e' (.loop e hD) hP', rfl⟩
      refine ifF (by rw [e]; decide +kernel) (iteF ?_)
      rw [← eH]
      refine ⟨fun j σ H' => ∃ t1 : Tale, j = m - t1.steps ∧ σ = [some (.ref u), some (.ref a)] ∧ Tl Hc H' a d s m t1 "done" ∧ LDid Hc a d s m c t1 Q, ⟨_, t0, rfl, rfl, hP0, q0⟩, ?_⟩
      rintro j σ H1 ⟨t1, rfl, rfl, hP1, q1⟩
      refine ⟨_, rfl, a, d, s, Hc, m, t1, rfl, hP1, fun hm H2 hP2 => ⟨_, rfl, iteF ?_⟩, fun hm H2 hP2 _ => ⟨_, rfl, iteT ?_⟩⟩
      · exact q1 H2 t1 .long (tu.long _ hm) hP2
      refine ⟨fun σ' H' => ∃ t2 : Tale, t1.steps < t2.steps ∧ σ' = [some (.ref u), some (.ref a)] ∧ Tl Hc H' a d s m t2 "done" ∧ LDid Hc a d s m c t2 Q, fun σ' H' ⟨t2, y1, y2, y3, y4⟩ => ⟨m - t2.steps, by omega, t2, rfl, y2, y3, y4⟩, ?_⟩
      refine ⟨_, rfl, u, _, _, _, rfl, rfl, hTa hP2, atI_nat (j := 1) rfl, _, rfl, a, d, s, Hc, m, t1.tick, "done", .str x, rfl, hP2, .inl ⟨_, rfl⟩, rfl, _, rfl, ?_⟩
      refine ite2 (fun c0 => ?_) (fun c0 => ?_)
      · have z : t1.ρ.get (.str x) = 0 := V.int.inj (of_decide_eq_true c0)
        exact q1 H2 t1.tick .done (tu.no _ hm z) hP2
      have z : t1.ρ.get (.str x) ≠ 0 := fun y => c0 (decide_eq_true (by rw [show t1.tick.ρ.get (.str x) = 0 from y]))
      refine ⟨_, rfl, u, _, _, _, rfl, rfl, hTa hP2, atI_nat (j := 2) rfl, _, rfl, a, d, s, Hc, m, t1.tick, l, rs, ss, rfl, hP2, ⟨vs, h3, h4⟩, hok2, hdr, fun H3 t3 e3 hD3 hP3 => ⟨_, rfl, ?_⟩⟩
      by_cases c3 : e3 = Ed.done
      · subst c3
        refine iteF ⟨_, rfl, u, _, _, _, rfl, rfl, hTa hP3, atI_nat (j := 0) rfl, rfl, _, rfl, ?_⟩
        by_cases c4 : kd = "when"
        · exact ifT (by rw [c4]; exact decide_eq_true rfl) (q1 H3 t3 .done (tu.once _ _ c4 hm z hD3) hP3)
        · exact ifF (decide_eq_false fun y => c4 (V.str.inj y)) ⟨t3, Nat.lt_of_lt_of_le (Nat.lt_succ_self _) hD3.steps.1, rfl, hP3, fun H4 t4 e4 hD4 hP4 => q1 H4 t4 e4 (tu.round _ _ _ _ c4 hm z hD3 hD4) hP4⟩
      · have y := q1 H3 t3 e3 (tu.stop _ _ _ hm z hD3 c3) hP3
        rw [decide_eq_false c3] at y ⊢
        exact iteT y
    · refine ifT (by rw [e]; decide +kernel) ⟨_, rfl, u, _, _, _, rfl, rfl, hT, atI_nat (j := 2) rfl, _, rfl, a, d, s, Hc, m, t, l, rs, ss, rfl, hP, ⟨vs, h3, h4⟩, hok2, hdr, fun H0 t0 e0 hD0 hP0 => ⟨_, rfl, ?_⟩⟩
      by_cases c2 : e0 = Ed.done
      case neg =>
        have y := q H0 t0 e0 (.againStop e hD0 c2) hP0
        rw [decide_eq_false c2] at y ⊢
        exact iteT y
      subst c2
      have tu := turns_lp (m := m) (x := x) (rs := rs) (hnw e (by decide +kernel))
      have q0 : LDid Hc a d s m (.lp (.str x) rs) t0 Q := fun H' t' e' hD hP' => q H' t' e' (.again e hD0 hD) hP'
      obtain ⟨c, ec⟩ : ∃ c : Cmd, c = .lp (.str x) rs := ⟨_, rfl⟩
      rw [← ec] at tu q0
      refine iteF ?_
      refine ⟨fun j σ H' => ∃ t1 : Tale, j = m - t1.steps ∧ σ = [some (.ref u), some (.ref a)] ∧ Tl Hc H' a d s m t1 "done" ∧ LDid Hc a d s m c t1 Q, ⟨_, t0, rfl, rfl, hP0, q0⟩, ?_⟩
      rintro j σ H1 ⟨t1, rfl, rfl, hP1, q1⟩
      refine ⟨_, rfl, a, d, s, Hc, m, t1, rfl, hP1, fun hm H2 hP2 => ⟨_, rfl, iteF ?_⟩, fun hm H2 hP2 _ => ⟨_, rfl, iteT ?_⟩⟩
      · exact q1 H2 t1 .long (tu.long _ hm) hP2
      refine ⟨fun σ' H' => ∃ t2 : Tale, t1.steps < t2.steps ∧ σ' = [some (.ref u), some (.ref a)] ∧ Tl Hc H' a d s m t2 "done" ∧ LDid Hc a d s m c t2 Q, fun σ' H' ⟨t2, y1, y2, y3, y4⟩ => ⟨m - t2.steps, by omega, t2, rfl, y2, y3, y4⟩, ?_⟩
      refine ⟨_, rfl, u, _, _, _, rfl, rfl, hTa hP2, atI_nat (j := 1) rfl, _, rfl, a, d, s, Hc, m, t1.tick, "done", .str x, rfl, hP2, .inl ⟨_, rfl⟩, rfl, _, rfl, ?_⟩
      refine ite2 (fun c0 => ?_) (fun c0 => ?_)
      · have z : t1.ρ.get (.str x) = 0 := V.int.inj (of_decide_eq_true c0)
        exact q1 H2 t1.tick .done (tu.no _ hm z) hP2
      have z : t1.ρ.get (.str x) ≠ 0 := fun y => c0 (decide_eq_true (by rw [show t1.tick.ρ.get (.str x) = 0 from y]))
      refine ⟨_, rfl, u, _, _, _, rfl, rfl, hTa hP2, atI_nat (j := 2) rfl, _, rfl, a, d, s, Hc, m, t1.tick, l, rs, ss, rfl, hP2, ⟨vs, h3, h4⟩, hok2, hdr, fun H3 t3 e3 hD3 hP3 => ⟨_, rfl, ?_⟩⟩
      by_cases c3 : e3 = Ed.done
      · subst c3
        refine iteF ⟨_, rfl, u, _, _, _, rfl, rfl, hTa hP3, atI_nat (j := 0) rfl, rfl, _, rfl, ?_⟩
        by_cases c4 : kd = "when"
        · exact ifT (by rw [c4]; exact decide_eq_true rfl) (q1 H3 t3 .done (tu.once _ _ c4 hm z hD3) hP3)
        · exact ifF (decide_eq_false fun y => c4 (V.str.inj y)) ⟨t3, Nat.lt_of_lt_of_le (Nat.lt_succ_self _) hD3.steps.1, rfl, hP3, fun H4 t4 e4 hD4 hP4 => q1 H4 t4 e4 (tu.round _ _ _ _ c4 hm z hD3 hD4) hP4⟩
      · have y := q1 H3 t3 e3 (tu.stop _ _ _ hm z hD3 c3) hP3
        rw [decide_eq_false c3] at y ⊢
        exact iteT y
theorem sc_ldone : FnScope ["_law_rows", "_law_tale_here", "_law_row"] ["_law_rows", "_law_tale_here"] (defScope s_ldone) := ⟨rfl, rfl, rfl, by decide +kernel, rfl, by decide +kernel, by decide +kernel⟩
theorem ok_ldone {n k : Nat} {f1 : Addr} {d1 : FuncData} (F : Fun K "_law_done" "_law_done" s_ldone f fd) (R : Df P w K mg base "_law_row_done" k f1 d1 ["_law_row", "_law_tale_here"] (spLRow K n)) : FnOk P w K mg base CX0 (k + 1) f fd ["_law_rows", "_law_tale_here"] (spLDone K (n + 1)) := by
  refine F.ok sc_ldone (fun vs H Q E h => ?_) (fun cdv A outer s H vs Q E hr h => ?_)
  · obtain ⟨a, d, s, Hc, m, t, l, rs, ss, rfl, _⟩ := h
    rfl
  obtain ⟨a, d, s, Hc, m, t, l, rs, ss, rfl, hP, ⟨vs, eS, eA⟩, hok, hd, q⟩ := h
  have nd := sc_ldone.nd
  refine ⟨_, pss_cons (ps_for PassesOwn.never rfl (pi_list (pv 0)) (pg_name (i := 2) nd rfl (Or.inl rfl))
      (pss_one (ps_if (pt_not (pt_val (pe_df R hr (pa_cons (pv 2) (pa_cons (pv 1) pa_nil))))) (pss_one (ps_ret pe_bl)) pss_nil))) <|
    pss_one (ps_ret pe_bl), ?_⟩
  refine ⟨_, rfl, l, rfl, ⟨_, hP.cl.seq eS⟩, for_list (K := K) (a := l) (xs := vs) (fun i σ H' => ∃ (v2 : Option V) (t' : Tale), σ = [some (.ref l), some (.ref a), v2] ∧ Tl Hc H' a d s m t' "done" ∧ Does m (.all (rs.take i)) t t' .done)
    ⟨none, t, rfl, hP, .nil⟩ (fun i σ H' _ ⟨_, _, _, e, _⟩ => e.cl.seq eS) ?_ ?_⟩
  · rintro i v σ H1 hi ⟨v2, t1, rfl, hP1, hD1⟩
    obtain ⟨r, hri, hrow⟩ := eA.at hi
    have hdr := dep_at hri
    refine ⟨_, rfl, _, rfl, a, d, s, Hc, m, t1, v, r, ss, rfl, hP1, hrow, oks_at hok hri, by omega, fun H2 t2 e hD2 hP2 => ⟨_, rfl, ?_⟩⟩
    by_cases c : e = Ed.done
    · subst c
      exact iteF ⟨_, t2, rfl, hP2, hD1.step hri hD2⟩
    · have z := q H2 t2 e (hD1.stop hri hD2 c) hP2
      rw [decide_eq_false c] at z ⊢
      exact iteT z
  · rintro σ H1 ⟨v2, t1, rfl, hP1, hD1⟩
    rw [eA.len, List.take_length] at hD1
    exact q H1 t1 .done hD1 hP1
theorem sc_ltale : FnScope ["_law_rows", "_law_given_here", "_law_most", "_law_tale_here"] ["_law_rows", "_law_given_here", "_law_most"] (defScope s_ltale) := ⟨rfl, rfl, rfl, by decide +kernel, rfl, by decide +kernel, by decide +kernel⟩
theorem ok_ltale {n k : Nat} {f1 : Addr} {d1 : FuncData} (F : Fun K "_law_tale" "_law_tale" s_ltale f fd) (md : mg "dict" = none) (R : Df P w K mg base "_law_done" k f1 d1 ["_law_rows", "_law_tale_here"] (spLDone K n)) : FnOk P w K mg base CX0 (k + 1) f fd ["_law_rows", "_law_given_here", "_law_most"] (spLTale K n) := by
  refine F.ok sc_ltale (fun vs H Q E h => ?_) (fun cdv A outer s H vs Q E hr h => ?_)
  · obtain ⟨l, g, kvs, ρ, m, rs, ss, rfl, _⟩ := h
    rfl
  obtain ⟨l, g, kvs, ρ, m, rs, ss, rfl, hR, hok, hd, hg, hv, hs, hm, q⟩ := h
  have nd := sc_ltale.nd
  refine ⟨_, pss_cons (ps_set (i := 3) nd rfl (Or.inl rfl) (pe_disp (pps_cons pe_str (pe_callTy call_dictD rfl md (by decide +kernel) (pa_cons (pv 1) pa_nil)) (pps_cons pe_str (pe_lst pa_nil) (pps_cons pe_str pe_int (pps_cons pe_str (pv 2) (pps_cons pe_str pe_str pps_nil))))) (by rfl) (by rfl) (fun z => by cases z) (by decide))) <|
    pss_cons (ps_expr (pe_df R hr (pa_cons (pv 0) (pa_cons (pv 3) pa_nil)))) <|
    pss_one (ps_ret (pv 3)), ?_⟩
  intro a ha
  have s0 := same_new ha (.dK [])
  refine ⟨_, rfl, g, kvs, rfl, .inl (s0 _ _ hg), fun d hd0 => ?_⟩
  have nad : a ≠ d := ne_of_none upd_same hd0
  have hd1 : H d = none := by rw [upd_ne nad.symm] at hd0; exact hd0
  refine ⟨(by show 0 ≤ sizeLine; decide), fun s hs0 => ?_⟩
  have nds : d ≠ s := ne_of_none upd_same hs0
  have hs1 : (upd H a (.dK [])) s = none := by rw [upd_ne nds.symm] at hs0; exact hs0
  have nas : a ≠ s := ne_of_none upd_same hs1
  have hs2 : H s = none := by rw [upd_ne nas.symm] at hs1; exact hs1
  refine ⟨_, rfl, ?_⟩
  refine ⟨by rw [upd_ne nas, upd_ne nad, upd_same], tk d s 0 m "done", rfl, (by show 5 ≤ 15; decide), ?_⟩
  rw [tk_made]
  have tl : Tl H (upd (upd (upd (upd H a (.dK [])) d (.dK kvs)) s (.lst [])) a (.dK (tk d s 0 m "done"))) a d s m ⟨ρ, [], 0⟩ "done" :=
    ⟨upd_same, nad, ⟨kvs, by rw [upd_ne nad.symm, upd_ne nds, upd_same], hv.more (Nat.le_refl _)⟩, by rw [upd_ne nas.symm, upd_same]; rfl, Nat.le_refl _, Nat.zero_le _, hs, fun b o hb => by
      rw [upd_ne (ne_of_none hb ha), upd_ne (ne_of_none hb hs2), upd_ne (ne_of_none hb hd1), upd_ne (ne_of_none hb ha)]
      exact hb, ha, hd1, hs2, hm⟩
  exact ⟨_, rfl, _, rfl, a, d, s, H, m, _, l, rs, ss, rfl, tl, hR, hok, hd, fun H2 t e hD hP2 => ⟨_, rfl, q H2 t e a d s hD hP2⟩⟩
theorem all_ldone {f1 f2 f3 f4 f5 : Addr} {d1 d2 d3 d4 d5 : FuncData} (mi : mg "int" = none) (W : Df P w K mg base "_law_value_of" 1 f1 d1 ["_law_thing", "_law_tale_here"] spLVal) (S : Df P w K mg base "_law_step" 1 f2 d2 ["_law_tale_here"] spLStep)
    (L : Df P w K mg base "_law_let_done" 2 f3 d3 ["_law_row", "_law_tale_here"] (spLLet K)) (F1 : Fun K "_law_row_done" "_law_row_done" s_lrow f4 d4) (m1 : mg "_law_row_done" = some (.ref f4)) (b1 : Binds K d4 ["_law_row", "_law_tale_here"] [])
    (F2 : Fun K "_law_done" "_law_done" s_ldone f5 d5) (m2 : mg "_law_done" = some (.ref f5)) (b2 : Binds K d5 ["_law_rows", "_law_tale_here"] []) : ∀ n, Df P w K mg base "_law_done" (2 * n + 2) f5 d5 ["_law_rows", "_law_tale_here"] (spLDone K n)
  | 0 => ⟨none_left fun vs H Q E ⟨a, d, s, Hc, m, t, l, rs, ss, _, _, _, _, h, _⟩ => absurd h (Nat.not_lt_zero _), m2, F2.kp, b2⟩
  | n + 1 => ⟨ok_ldone F2 ⟨ok_lrow F1 W S L (all_ldone mi W S L F1 m1 b1 F2 m2 b2 n) (by omega), m1, F1.kp, b1⟩, m2, F2.kp, b2⟩
end
end Lm
namespace Lm
open PySem L2
abbrev s_given : Stmt := topS 17
def spGiven (K : PySem.W.Frag) : Sp := fun vs H Q _ => ∃ (c : Int) (a : Addr) (ss : List Str), vs = [.int c, .ref a] ∧ NamesAt K H a ss ∧ ∀ (g : Addr) (H' : Hp) (kvs : List (Key × V)) (ρ : Wh), H g = none → Same H H' → H' g = some (.dK kvs) → DV (.dK kvs) ρ 22 → ρ.small → Q (.ref g) H'
section
variable {P : Program} {w : World} {K : PySem.W.Frag} {mg : Str → Option Value} {base : Heap} {f a1 : Addr} {fd d1 : FuncData}
theorem sc_given : FnScope ["_law_cell", "_law_names_here", "_law_given_here", "_law_k", "_law_number"] ["_law_cell", "_law_names_here"] (defScope s_given) := ⟨rfl, rfl, rfl, by decide +kernel, rfl, by decide +kernel, by decide +kernel⟩
theorem ok_given (F : Fun K "_law_given" "_law_given" s_given f fd) (mr : mg "range" = none) (M : Df P w K mg base "_law_mixed" 1 a1 d1 ["_law_cell", "_law_k"] spMixed) : FnOk P w K mg base CX0 2 f fd ["_law_cell", "_law_names_here"] (spGiven K) := by
  refine F.ok sc_given (fun vs H Q E h => ?_) (fun cdv A outer s H vs Q E hr h => ?_)
  · obtain ⟨c, a, ss, rfl, _⟩ := h
    rfl
  obtain ⟨c, a, ss, rfl, hN, q⟩ := h
  have nd := sc_given.nd
  have hu := hu_of hr
  refine ⟨_, pss_cons (ps_set (i := 2) nd rfl (Or.inl rfl) pe_dnewK) <|
    pss_cons (ps_for PassesOwn.never rfl (pi_range1 rfl mr (pa_cons pe_int pa_nil)) (pg_name (i := 3) nd rfl (Or.inl rfl))
      (pss_cons (ps_set (i := 4) nd rfl (Or.inl rfl) (pe_df M hr (pa_cons (pv 0) (pa_cons (pv 3) pa_nil)))) <|
       C8.pss_cut (ps_if (pt_cmpR op_gt (pe_op op_mod (pv 4) pe_int) pe_int (nomark _)) (pss_one (ps_dput hu (pv 2) (pe_ix ix_list (pv 1) (pv 3) (fun _ _ => rfl)) (pe_op op_mod (pe_op op_fdiv (pv 4) pe_int) pe_int) rfl)) pss_nil) <|
       pss_one (ps_if (pt_cmpR op_eq (pe_op op_mod (pv 4) pe_int) pe_int (nomark _)) (pss_one (ps_dput hu (pv 2) (pe_ix ix_list (pv 1) (pv 3) (fun _ _ => rfl)) (pe_op op_mod (pe_op op_fdiv (pv 4) pe_int) pe_int) rfl)) pss_nil))) <|
    pss_one (ps_ret (pv 2)), ?_⟩
  intro g hg
  have s0 := same_new hg (.dK [])
  refine ⟨11, rfl, by decide, by decide, for_range (lo := 0) (n := 11) (fun i σ H' => ∃ (kvs : List (Key × V)) (ρ : Wh) (v3 v4 : Option V), σ = [some (.int c), some (.ref a), some (.ref g), v3, v4] ∧ Same H H' ∧ H' g = some (.dK kvs) ∧ DV (.dK kvs) ρ (2 * i) ∧ ρ.small)
    ⟨[], _, none, none, rfl, s0, upd_same, DV.nil, fun x v e => by cases e⟩ ?_ ?_⟩
  · rintro i σ H1 hi ⟨kvs, ρ, v3, v4, rfl, s1, eg, dv, sm⟩
    refine ⟨_, rfl, _, rfl, _, _, rfl, fun n hn0 hn1 => ?_⟩
    obtain ⟨nm, hnm, enm⟩ := (hN.mono (Same.kp s1)).at (z := 0 + (i : Int)) (by omega) (by omega)
    refine ⟨fun σ H' => ∃ (kvs : List (Key × V)) (ρ : Wh), σ = [some (.int c), some (.ref a), some (.ref g), some (.int (0 + (i : Int))), some (.int n)] ∧ Same H H' ∧ H' g = some (.dK kvs) ∧ DV (.dK kvs) ρ (2 * i + 1) ∧ ρ.small, ?_, ?_⟩
    · refine ⟨_, rfl, _, _, rfl, rfl, (by show (0 : Int) < 3; decide), _, _, rfl, rfl, _, rfl, ?_⟩
      refine ite2 (fun c1 => ?_) (fun c1 => ?_)
      · refine ⟨_, rfl, _, _, rfl, rfl, ⟨by decide, by decide⟩, _, _, rfl, rfl, (by show (0 : Int) < 4; decide), _, rfl, _, rfl, _, rfl, a, _, _, _, rfl, rfl, (hN.mono (Same.kp s1)).1, enm, g, _, rfl, DPut.k (k := Sum.inr nm) eg (by have := dv.few; rw [sizeLine_eq]; omega), ?_⟩
        exact ⟨_, _, rfl, fun b o hb => by rw [upd_ne (ne_of_none hb hg)]; exact s1 b o hb, upd_same, dv.put nm _, sm.put (by omega) (by omega)⟩
      · exact ⟨_, _, rfl, s1, eg, dv.more (by omega), sm⟩
    · rintro σ H2 ⟨kvs2, ρ2, rfl, s2, eg2, dv2, sm2⟩
      refine ⟨_, rfl, _, _, rfl, rfl, (by show (0 : Int) < 24; decide), rfl, _, rfl, ?_⟩
      refine ite2 (fun c1 => ?_) (fun c1 => ?_)
      · refine ⟨_, rfl, _, _, rfl, rfl, ⟨by decide, by decide⟩, _, _, rfl, rfl, (by show (0 : Int) < 1000000; decide), _, rfl, _, rfl, _, rfl, a, _, _, _, rfl, rfl, (hN.mono (Same.kp s2)).1, enm, g, _, rfl, DPut.k (k := Sum.inr nm) eg2 (by have := dv2.few; rw [sizeLine_eq]; omega), ?_⟩
        exact ⟨_, _, _, _, rfl, fun b o hb => by rw [upd_ne (ne_of_none hb hg)]; exact s2 b o hb, upd_same, (dv2.put nm _).more (by omega), sm2.put (by omega) (by omega)⟩
      · exact ⟨_, _, _, _, rfl, s2, eg2, dv2.more (by omega), sm2⟩
  · rintro σ H1 ⟨kvs, ρ, v3, v4, rfl, s1, eg, dv, sm⟩
    exact ⟨_, rfl, q g H1 kvs ρ hg s1 eg dv sm⟩
end
end Lm
namespace Lm
open PySem L2
abbrev s_law : Stmt := topS 28
def spLaw (K : PySem.W.Frag) : Sp := fun vs H Q _ => ∃ (a : Addr) (ns : List Int), vs = [.ref a] ∧ SqL K H a (ns.map V.int) ∧ ns.length ≤ 63 ∧ ∀ H', Q (.bl true) H'
theorem alk_ints {K : PySem.W.Frag} {H : Hp} {n : Nat} {p q : Addr} {xs : List Int} (h1 : SqL K H p (xs.map V.int)) (h2 : SqL K H q (xs.map V.int)) (hl : xs.length ≤ 10000) : Alk K H (n + 2) (.ref p) (.ref q) := by
  refine Or.inr (.inr (.inl ⟨p, q, _, _, rfl, rfl, h1, h2, rfl, by rw [List.length_map]; exact hl, fun i a b ha hb => ?_⟩))
  rw [ha] at hb
  cases hb
  rw [List.getElem?_map] at ha
  cases e : xs[i]? with
  | none => rw [e] at ha; cases ha
  | some y =>
    rw [e] at ha
    cases ha
    exact alk_int y
/-- three things told -/
theorem alk_three {K : PySem.W.Frag} {H : Hp} {n : Nat} {p q a b : Addr} {e : Str} {i : Int} {xs : List Int} (h1 : SqL K H p [.ref a, .str e, .int i]) (h2 : SqL K H q [.ref b, .str e, .int i]) (h3 : SqL K H a (xs.map V.int)) (h4 : SqL K H b (xs.map V.int)) (hl : xs.length ≤ 10000) :
    Alk K H (n + 3) (.ref p) (.ref q) := by
  refine Or.inr (.inr (.inl ⟨p, q, _, _, rfl, rfl, h1, h2, rfl, by simp, fun j x y hx hy => ?_⟩))
  match j, hx, hy with
  | 0, hx, hy =>
    cases hx
    cases hy
    exact alk_ints h3 h4 hl
  | 1, hx, hy =>
    cases hx
    cases hy
    exact alk_str _
  | 2, hx, hy =>
    cases hx
    cases hy
    exact alk_int _
  | j + 3, hx, hy => exact (get_nil (i := j) hx).elim
section
variable {P : Program} {w : World} {K : PySem.W.Frag} {mg : Str → Option Value} {base : Heap} {f a1 a2 a3 a4 a5 a6 a7 a8 a9 : Addr} {fd d1 d2 d3 d4 d5 d6 d7 d8 d9 : FuncData} {cdv : Value} {A : Around} {outer : List Env} {s : Shared} {H0 : Hp} {Q : VK} {E : XK}
abbrev nLaw : List Str := ["_law_script", "_law_names_here", "_law_rows", "_law_given_here", "_law_more", "_law_k", "_law_tale_here", "_law_way", "_law_handed", "_law_found"]
theorem sc_law : FnScope nLaw ["_law_script"] (defScope s_law) := ⟨rfl, rfl, rfl, by decide +kernel, rfl, by decide +kernel, by decide +kernel⟩
abbrev Around.law (A : Around) (f : Addr) (s : Shared) (cdv : Value) : Around := A.deeper (PyProof.Rows.envOfC "law" (defScope s_law) s.heap.objs.size f cdv)
/-- behind the first comparison: a second run, from nothing given -/
theorem law_end (B : Bn mg) (D5 : Df P w K mg base "_law_alike" 101 a5 d5 ["_law_found", "_law_due"] (spAlike K 100)) (D7 : Df P w K mg base "_law_tale" 85 a7 d7 ["_law_rows", "_law_given_here", "_law_most"] (spLTale K 41)) (D8 : Df P w K mg base "run" 127 a8 d8 ["rows", "given", "most"] (spRun K 41))
    (hr : Room 127 (Around.law A f s cdv)) (k : ∀ H', Q (.bl true) H') :
    ∃ u, PSs (cxOf CX0 P w K mg base nLaw "law" (defScope s_law) f cdv A outer s H0 E).nox ((defBody s_law).drop 15) u ∧ ∀ σ H, (∃ (HB : Hp) (l lh hd gh q sd : Addr) (xs ys : List V) (rows : List Row) (ss : List Str) (v0 v1 v3 v4 v5 v6 v7 : Option V),
      σ = [v0, v1, some (.ref l), v3, v4, v5, v6, v7, some (.ref hd), some (.ref q)] ∧ Same HB H ∧ HB sd = none ∧ RowsAt K HB l rows ∧ RowsAt K HB lh rows ∧ oks ss rows ∧ deps rows ≤ 40 ∧ HB hd = some (.lst [.ref lh, .ref gh]) ∧ H q = some (.tup (.ref sd :: ys)) ∧ H sd = some (.lst xs) ∧ xs.length ≤ 1000) →
      u { nx := fun _ H' => Q .non H', rt := Q } σ H := by
  have nd := sc_law.nd
  have hu := hu_of hr
  have r101 : Room 101 (Around.law A f s cdv) := hr.mono (by decide)
  have r85 : Room 85 (Around.law A f s cdv) := hr.mono (by decide)
  refine ⟨_, pss_cons (ps_expr (pe_bm PySem.F.plainAttrs_list PySem.F.slot_list_append PySem.F.type_list_append mt_append (pe_ix ix_tup (pv 9) pe_int (fun _ _ => rfl)) (pa_cons pe_int pa_nil))) <|
    pss_cons (ps_set (i := 6) nd rfl (Or.inl rfl) (pe_df D7 r85 (pa_cons (pv 2) (pa_cons pe_dnewK (pa_cons pe_int pa_nil))))) <|
    pss_cons (ps_set (i := 9) nd rfl (Or.inl rfl) (pe_df D8 hr (pa_cons (pe_ix ix_list (pv 8) pe_int (fun _ _ => rfl)) (pa_cons pe_dnewK (pa_cons pe_int pa_nil))))) <|
    pss_one (ps_ret (pe_df D5 r101 (pa_cons (pe_lst (pa_cons (pe_ix ix_tup (pv 9) pe_int (fun _ _ => rfl)) (pa_cons (pe_ix ix_tup (pv 9) pe_int (fun _ _ => rfl)) (pa_cons (pe_ix ix_tup (pv 9) pe_int (fun _ _ => rfl)) pa_nil))))
      (pa_cons (pe_lst (pa_cons (pe_dget hu (pv 6) pe_str (fun _ _ => rfl)) (pa_cons (pe_dget hu (pv 6) pe_str (fun _ _ => rfl)) (pa_cons (pe_dget hu (pv 6) pe_str (fun _ _ => rfl)) pa_nil)))) pa_nil)))), ?_⟩
  rintro σ H ⟨HB, l, lh, hd, gh, q, sd, xs, ys, rows, ss, v0, v1, v3, v4, v5, v6, v7, rfl, sB, hsd, hR, hRh, hok, hdep, ehd, eq, esd, hxl⟩
  refine ⟨_, rfl, q, _, _, _, rfl, rfl, SqT.of eq, atI_nat (j := 0) rfl, .inl ⟨rfl, _, SqL.of esd⟩, sd, _, _, rfl, rfl, esd, (by rw [sizeLine_eq]; omega), ?_⟩
  have s1 := same_put sB hsd (.lst (xs ++ [.int 7]))
  obtain ⟨H1, eH1⟩ : ∃ H1, upd H sd (.lst (xs ++ [.int 7])) = H1 := ⟨_, rfl⟩
  rw [eH1] at s1 ⊢
  refine ⟨_, rfl, ?_⟩
  intro g hg
  obtain ⟨H2, g2, s2, eg⟩ := newH hg (.dK [])
  rw [g2]
  have s12 := s1.trans s2
  refine ⟨l, g, [], fun _ => none, 200, rows, ss, rfl, hR.mono (Same.kp s12), hok, by omega, eg, DV.nil.more (by decide), (fun x v e => by cases e), by decide, fun H3 t e a d sl hD hT => ?_⟩
  have s3 := s12.trans hT.cl
  refine ⟨_, rfl, hd, _, _, _, rfl, rfl, SqL.of (s3 _ _ ehd), atI_nat (j := 0) rfl, ?_⟩
  intro g3 hg3
  obtain ⟨H4, g4, s4, eg3⟩ := newH hg3 (.dK [])
  rw [g4]
  refine ⟨lh, g3, [], fun _ => none, 200, rows, ss, rfl, hRh.mono (Same.kp (s3.trans s4)), hok, by omega, eg3, DV.nil.more (by decide), (fun x v e => by cases e), by decide, ?_⟩
  intro HZ t2 e2 q2 sdz dz v hD2 sZ eq2 hsn hsz hslz hstz ev hdn _
  obtain ⟨r1, r2⟩ := hD2.det hD
  subst r1 r2
  refine ⟨_, rfl, q2, _, _, _, rfl, rfl, SqT.of eq2, atI_nat (j := 0) rfl, _, rfl, q2, _, _, _, rfl, rfl, SqT.of eq2, atI_nat (j := 1) rfl, _, rfl, q2, _, _, _, rfl, rfl, SqT.of eq2, atI_nat (j := 3) rfl, (by show 3 ≤ sizeLine; decide), fun q9 hq9 => ?_⟩
  obtain ⟨HW, gW, sW, eq9⟩ := newH hq9 (.lst [.ref sdz, .str e2.txt, .int (t2.steps : Int)])
  rw [gW]
  have sT := s4.trans (sZ.trans sW)
  have hob := sT _ _ hT.ob
  have y1 := DGet.k (k := Sum.inr "said") hob
  rw [tk_said] at y1
  have y2 := DGet.k (k := Sum.inr "ending") hob
  rw [tk_ending] at y2
  have y3 := DGet.k (k := Sum.inr "steps") hob
  rw [tk_steps] at y3
  refine ⟨_, rfl, a, _, rfl, y1, _, rfl, a, _, rfl, y2, _, rfl, a, _, rfl, y3, (by show 3 ≤ sizeLine; decide), fun q8 hq8 => ?_⟩
  obtain ⟨HV, gV, sV, eq8⟩ := newH hq8 (.lst [.ref sl, .str e2.txt, .int (t2.steps : Int)])
  rw [gV]
  exact ⟨_, _, rfl, (alk_three (n := 97) (SqL.of (sV _ _ eq9)) (SqL.of eq8) (SqL.of ((sW.trans sV) _ _ hsz)) (SqL.of ((sT.trans sV) _ _ hT.sd)) (by omega)).up (by decide), fun HU sU => k _⟩
end
end Lm
namespace Lm
open PySem L2
section
variable {P : Program} {w : World} {K : PySem.W.Frag} {mg : Str → Option Value} {base : Heap} {f a1 a2 a3 a4 a5 a6 a7 a8 a9 : Addr} {fd d1 d2 d3 d4 d5 d6 d7 d8 d9 : FuncData} {cdv : Value} {A : Around} {outer : List Env} {s : Shared} {H0 : Hp} {Q : VK} {E : XK}
/-- what is known of a tale that the law told -/
structure Told (H : Hp) (a d sl : Addr) (rows : List Row) (ρ : Wh) (m : Nat) (t : Tale) (e : Ed) : Prop where
  does : Does m (.all rows) ⟨ρ, [], 0⟩ t e
  ob : H a = some (.dK (tk d sl t.steps m e.txt))
  sd : H sl = some (.lst (t.said.map V.int))
  dc : ∃ kvs, H d = some (.dK kvs) ∧ DV (.dK kvs) t.ρ (100 + t.steps)
  mm : m ≤ 100000
theorem Told.of {B H : Hp} {a d sl : Addr} {rows : List Row} {ρ : Wh} {m : Nat} {t : Tale} {e : Ed} (hD : Does m (.all rows) ⟨ρ, [], 0⟩ t e) (h : Tl B H a d sl m t e.txt) : Told H a d sl rows ρ m t e := ⟨hD, h.ob, h.sd, h.dc, h.mm⟩
theorem Told.same {H H' : Hp} (s : Same H H') {a d sl : Addr} {rows : List Row} {ρ : Wh} {m : Nat} {t : Tale} {e : Ed} (h : Told H a d sl rows ρ m t e) : Told H' a d sl rows ρ m t e :=
  ⟨h.does, s _ _ h.ob, s _ _ h.sd, let ⟨k, a, b⟩ := h.dc; ⟨k, s _ _ a, b⟩, h.mm⟩
theorem ed_txt {e : Ed} (h : ¬ e = .done) : ¬ e.txt = "done" := by
  cases e with
  | done => exact absurd rfl h
  | long => decide +kernel
  | nought => decide +kernel
/-- the first comparison -/
theorem law_mid (B : Bn mg) (md : mg "dict" = none) (D4 : Df P w K mg base "_law_copied" 50 a4 d4 ["_law_rows"] (spCopied K 50)) (D5 : Df P w K mg base "_law_alike" 101 a5 d5 ["_law_found", "_law_due"] (spAlike K 100)) (D6 : Df P w K mg base "_law_same_values" 2 a6 d6 ["_law_found", "_law_due"] (spSame K))
    (D7 : Df P w K mg base "_law_tale" 85 a7 d7 ["_law_rows", "_law_given_here", "_law_most"] (spLTale K 41)) (D8 : Df P w K mg base "run" 127 a8 d8 ["rows", "given", "most"] (spRun K 41)) (hr : Room 127 (Around.law A f s cdv)) (k : ∀ H', Q (.bl true) H') :
    ∃ u, PSs (cxOf CX0 P w K mg base nLaw "law" (defScope s_law) f cdv A outer s H0 E).nox ((defBody s_law).drop 8) u ∧ ∀ σ H, (∃ (l g a d sl : Addr) (kvs : List (Key × V)) (ρ : Wh) (m : Nat) (t : Tale) (e : Ed) (rows : List Row) (ss : List Str) (v0 v1 v4 v5 v7 : Option V),
      σ = [v0, v1, some (.ref l), some (.ref g), v4, v5, some (.ref a), v7, none, none] ∧ RowsAt K H l rows ∧ oks ss rows ∧ deps rows ≤ 40 ∧ rows.length ≤ 2000 ∧ H g = some (.dK kvs) ∧ DV (.dK kvs) ρ 30 ∧ ρ.small ∧ m ≤ 200 ∧ Told H a d sl rows ρ m t e) →
      u { nx := fun _ H' => Q .non H', rt := Q } σ H := by
  have nd := sc_law.nd
  have hu := hu_of hr
  have r2 : Room 2 (Around.law A f s cdv) := hr.mono (by decide)
  have r50 : Room 50 (Around.law A f s cdv) := hr.mono (by decide)
  have r101 : Room 101 (Around.law A f s cdv) := hr.mono (by decide)
  obtain ⟨u, hu1, hu2⟩ := law_end (outer := outer) (s := s) (H0 := H0) (E := E) (cdv := cdv) (A := A) (f := f) B D5 D7 D8 hr k
  refine ⟨_, pss_cons (ps_set (i := 8) nd rfl (Or.inl rfl) (pe_lst (pa_cons (pe_df D4 r50 (pa_cons (pv 2) pa_nil)) (pa_cons (pe_callTy call_dictD rfl md (by decide +kernel) (pa_cons (pv 3) pa_nil)) pa_nil)))) <|
    pss_cons (ps_set (i := 9) nd rfl (Or.inl rfl) (pe_df D8 hr (pa_cons (pe_ix ix_list (pv 8) pe_int (fun _ _ => rfl)) (pa_cons (pe_ix ix_list (pv 8) pe_int (fun _ _ => rfl)) (pa_cons (pe_dget hu (pv 6) pe_str (fun _ _ => rfl)) pa_nil))))) <|
    pss_cons (ps_if (PW.pt (pw_or (pt_not (pt_val (pe_callB call_isi rfl B.isinstance (by decide +kernel) (pa_cons (pv 9) (pa_cons (pe_bltn (v := .ty "tuple") rfl B.tuple (by decide +kernel) rfl) pa_nil))))) (pw_or1 (pt_cmpR op_ne (pe_callB call_len_seq rfl B.len PySem.boot_len (pa_cons (pv 9) pa_nil)) pe_int (nomark _)))))
      (pss_one (ps_ret pe_bl)) pss_nil) <|
    pss_cons (ps_if (pt_not (pt_val (pe_df D5 r101 (pa_cons (pe_lst (pa_cons (pe_ix ix_tup (pv 9) pe_int (fun _ _ => rfl)) (pa_cons (pe_ix ix_tup (pv 9) pe_int (fun _ _ => rfl)) (pa_cons (pe_ix ix_tup (pv 9) pe_int (fun _ _ => rfl)) pa_nil))))
      (pa_cons (pe_lst (pa_cons (pe_dget hu (pv 6) pe_str (fun _ _ => rfl)) (pa_cons (pe_dget hu (pv 6) pe_str (fun _ _ => rfl)) (pa_cons (pe_dget hu (pv 6) pe_str (fun _ _ => rfl)) pa_nil)))) pa_nil))))) (pss_one (ps_ret pe_bl)) pss_nil) <|
    C8.pss_cut (ps_if (PW.pt (pw_and (pt_cmpR op_eq (pe_dget hu (pv 6) pe_str (fun _ _ => rfl)) pe_str (nomark _)) (pw_and1 (pt_not (pt_val (pe_df D6 r2 (pa_cons (pe_ix ix_tup (pv 9) pe_int (fun _ _ => rfl)) (pa_cons (pe_dget hu (pv 6) pe_str (fun _ _ => rfl)) pa_nil))))))))
      (pss_one (ps_ret pe_bl)) pss_nil) <|
    C8.pss_cut (ps_if (PW.pt (pw_and (pt_cmpR op_ne (pe_dget hu (pv 6) pe_str (fun _ _ => rfl)) pe_str (nomark _)) (pw_and1 (pt_cmpR op_notN (pe_ix ix_tup (pv 9) pe_int (fun _ _ => rfl)) pe_non (nomark _)))))
      (pss_one (ps_ret pe_bl)) pss_nil) <|
    C8.pss_cut (ps_if (PW.pt (pw_or (pt_not (pt_val (pe_df D5 r101 (pa_cons (pe_ix ix_list (pv 8) pe_int (fun _ _ => rfl)) (pa_cons (pv 2) pa_nil))))) (pw_or1 (pt_not (pt_val (pe_df D6 r2 (pa_cons (pe_ix ix_list (pv 8) pe_int (fun _ _ => rfl)) (pa_cons (pv 3) pa_nil))))))))
      (pss_one (ps_ret pe_bl)) pss_nil) hu1, ?_⟩
  rintro σ H ⟨l, g, a, d, sl, kvs, ρ, m, t, e, rows, ss, v0, v1, v4, v5, v7, rfl, hR, hok, hdep, hlen, hg, dv, sm, hm, hT⟩
  refine ⟨_, rfl, l, rows, H, rfl, Same.refl _, hR, by omega, hlen, oks_thins _ hok, fun Hc H1 lh pt hRh => ?_⟩
  have s1 := pt.all
  have hRh1 := hRh.mono (Same.kp pt.sub)
  refine ⟨_, rfl, g, kvs, rfl, .inl (s1 _ _ hg), fun gh hgh => ?_⟩
  obtain ⟨H2, g2, s2, egh⟩ := newH hgh (.dK kvs)
  rw [g2]
  refine ⟨(by show 2 ≤ sizeLine; decide), fun hd hhd => ?_⟩
  obtain ⟨HB, g3, s3, ehd⟩ := newH hhd (.lst [.ref lh, .ref gh])
  rw [g3]
  have sB := s1.trans (s2.trans s3)
  have eghB := s3 _ _ egh
  have hRB := hR.mono (Same.kp sB)
  have hRhB := hRh1.mono (Same.kp (s2.trans s3))
  have egB := sB _ _ hg
  have ngg : gh ≠ g := (ne_of_none (s1 _ _ hg) hgh).symm
  have hTB := hT.same sB
  have y0 := DGet.k (k := Sum.inr "most") hTB.ob
  rw [tk_most] at y0
  refine ⟨_, rfl, hd, _, _, _, rfl, rfl, SqL.of ehd, atI_nat (j := 0) rfl, _, rfl, hd, _, _, _, rfl, rfl, SqL.of ehd, atI_nat (j := 1) rfl, _, rfl, a, _, rfl, y0, lh, gh, kvs, ρ, m, rows, ss, rfl, hRhB, hok, by omega, eghB, dv.more (by decide), sm, by omega, ?_⟩
  intro HZ t2 e2 q sdz dz v hD2 sZ eq hsn hsz hslz hstz ev hdn ⟨ksz, hdz, hvz⟩
  obtain ⟨r1, r2'⟩ := hD2.det hT.does
  subst r1 r2'
  refine ⟨_, rfl, _, _, _, _, true, rfl, .ty _, ty_tuple (SqT.of eq), kit_ty (by decide +kernel), _, rfl, iteF ?_⟩
  refine ⟨_, rfl, q, _, rfl, .inr (SqT.of eq), rfl, _, rfl, ifF rfl ?_⟩
  refine ⟨_, rfl, q, _, _, _, rfl, rfl, SqT.of eq, atI_nat (j := 0) rfl, _, rfl, q, _, _, _, rfl, rfl, SqT.of eq, atI_nat (j := 1) rfl, _, rfl, q, _, _, _, rfl, rfl, SqT.of eq, atI_nat (j := 3) rfl, (by show 3 ≤ sizeLine; decide), fun q9 hq9 => ?_⟩
  obtain ⟨HW, gW, sW, eq9⟩ := newH hq9 (.lst [.ref sdz, .str e2.txt, .int (t2.steps : Int)])
  rw [gW]
  have sT := sZ.trans sW
  have hTW := hTB.same sT
  have y1 := DGet.k (k := Sum.inr "said") hTW.ob
  rw [tk_said] at y1
  have y2 := DGet.k (k := Sum.inr "ending") hTW.ob
  rw [tk_ending] at y2
  have y3 := DGet.k (k := Sum.inr "steps") hTW.ob
  rw [tk_steps] at y3
  refine ⟨_, rfl, a, _, rfl, y1, _, rfl, a, _, rfl, y2, _, rfl, a, _, rfl, y3, (by show 3 ≤ sizeLine; decide), fun q8 hq8 => ?_⟩
  obtain ⟨HV, gV, sV, eq8⟩ := newH hq8 (.lst [.ref sl, .str e2.txt, .int (t2.steps : Int)])
  rw [gV]
  refine ⟨_, _, rfl, (alk_three (n := 97) (SqL.of (sV _ _ eq9)) (SqL.of eq8) (SqL.of ((sW.trans sV) _ _ hsz)) (SqL.of (sV _ _ hTW.sd)) (by omega)).up (by decide), fun HU sU => ⟨_, rfl, iteF ?_⟩⟩
  have sU9 := sT.trans (sV.trans sU)
  have hTU := hTB.same sU9
  have eqU := ((sW.trans sV).trans sU) _ _ eq
  have y4 := DGet.k (k := Sum.inr "ending") hTU.ob
  rw [tk_ending] at y4
  have y5 := DGet.k (k := Sum.inr "values") hTU.ob
  rw [tk_values] at y5
  obtain ⟨kt, hkt, dvt⟩ := hTU.dc
  obtain ⟨kt0, hkt0, _⟩ := hTB.dc
  refine ⟨fun σ H' => σ = [v0, v1, some (.ref l), some (.ref g), v4, v5, some (.ref a), v7, some (.ref hd), some (.ref q)] ∧ H' = HU, ?_, ?_⟩
  · refine ⟨_, rfl, a, _, rfl, y4, rfl, _, rfl, ?_⟩
    by_cases c : e2 = Ed.done
    · have ev2 : v = .ref dz := ev.trans (if_pos c)
      have edn : e2.txt = "done" := by rw [c]; rfl
      rw [ev2] at eqU
      refine ifT (decide_eq_true (by rw [edn])) ⟨_, rfl, q, _, _, _, rfl, rfl, SqT.of eqU, atI_nat (j := 2) rfl, _, rfl, a, _, rfl, y5, dz, d, ksz, kt, _, _, _, rfl, (ne_of_none hkt0 hdn).symm, ((sW.trans sV).trans sU) _ _ hdz, hkt, hvz, dvt, ⟨_, rfl, iteF ⟨rfl, rfl⟩⟩⟩
    · exact ifF (decide_eq_false fun z => ed_txt c (V.str.inj z)) (iteF ⟨rfl, rfl⟩)
  rintro σ H' ⟨rfl, eH⟩
  rw [eH]
  refine ⟨fun σ H' => σ = [v0, v1, some (.ref l), some (.ref g), v4, v5, some (.ref a), v7, some (.ref hd), some (.ref q)] ∧ H' = HU, ?_, ?_⟩
  · refine ⟨_, rfl, a, _, rfl, y4, rfl, _, rfl, ?_⟩
    by_cases c : e2 = Ed.done
    · have edn : e2.txt = "done" := by rw [c]; rfl
      exact ifF (by rw [edn, decide_eq_true rfl]; rfl) (iteF ⟨rfl, rfl⟩)
    · have ev2 : v = .non := ev.trans (if_neg c)
      rw [ev2] at eqU
      exact ifT (by rw [decide_eq_false fun z => ed_txt c (V.str.inj z)]; rfl) ⟨_, rfl, q, _, _, _, rfl, rfl, SqT.of eqU, atI_nat (j := 2) rfl, rfl, _, rfl, ifF rfl ⟨rfl, rfl⟩⟩
  rintro σ H' ⟨rfl, eH⟩
  rw [eH]
  refine ⟨fun σ H' => σ = [v0, v1, some (.ref l), some (.ref g), v4, v5, some (.ref a), v7, some (.ref hd), some (.ref q)] ∧ Same HU H', ?_, ?_⟩
  · refine ⟨_, rfl, hd, _, _, _, rfl, rfl, SqL.of ((sZ.trans ((sW.trans sV).trans sU)) _ _ ehd), atI_nat (j := 0) rfl, _, rfl, _, _, rfl, (RowsAt.alk hok (by omega) (hRhB.mono (Same.kp sU9)) (hRB.mono (Same.kp sU9))).up (by omega), fun HT sT2 => ⟨_, rfl, iteF ?_⟩⟩
    exact ⟨_, rfl, hd, _, _, _, rfl, rfl, SqL.of ((sU9.trans sT2) _ _ ehd), atI_nat (j := 1) rfl, _, rfl, gh, g, kvs, kvs, ρ, _, _, rfl, ngg, (sU9.trans sT2) _ _ eghB, (sU9.trans sT2) _ _ egB, dv, dv, ⟨_, rfl, iteF ⟨rfl, sT2⟩⟩⟩
  rintro σ H' ⟨rfl, sT2⟩
  have sL := sU9.trans sT2
  exact hu2 _ _ ⟨HB, l, lh, hd, gh, q, sdz, _, _, rows, ss, v0, v1, _, v4, v5, _, v7, rfl, sL, hsn, hRB, hRhB, hok, hdep, ehd, sT2 _ _ eqU, (((sW.trans sV).trans sU).trans sT2) _ _ hsz, by rw [List.length_map]; omega⟩
end
end Lm
namespace Lm
open PySem L2
theorem cut3 (ns : List Int) : ∃ ms : List Int, cutV (ns.map V.int) (some 3) none = ms.map V.int ∧ ms.length ≤ ns.length := by
  refine ⟨(ns.drop (HT.sIx ns.length 0 (some 3))).take (HT.sIx ns.length ns.length none - HT.sIx ns.length 0 (some 3)), ?_, ?_⟩
  · unfold cutV
    rw [List.length_map, List.map_take, List.map_drop]
    all_goals rfl
  · rw [List.length_take, List.length_drop]
    omega
theorem two_of (u v : V) (z : Int) : atI [u, v] (z % 2) = some u ∨ atI [u, v] (z % 2) = some v := by
  rcases Int.emod_two_eq z with e | e <;> rw [e]
  · exact .inl (atI_nat (j := 0) rfl)
  · exact .inr (atI_nat (j := 1) rfl)
theorem four_at (b c d : Int) (z : Int) : ∃ x, (x = 0 ∨ x = b ∨ x = c ∨ x = d) ∧ atI [V.int 0, V.int b, V.int c, V.int d] (z % 4) = some (.int x) := by
  obtain ⟨j, ej⟩ : ∃ j : Nat, z % 4 = (j : Int) := ⟨(z % 4).toNat, by omega⟩
  rw [ej]
  match j, (by omega : j < 4) with
  | 0, _ => exact ⟨0, .inl rfl, atI_nat rfl⟩
  | 1, _ => exact ⟨b, .inr (.inl rfl), atI_nat rfl⟩
  | 2, _ => exact ⟨c, .inr (.inr (.inl rfl)), atI_nat rfl⟩
  | 3, _ => exact ⟨d, .inr (.inr (.inr rfl)), atI_nat rfl⟩
  | j + 4, h => exact absurd h (by omega)
section
variable {P : Program} {w : World} {K : PySem.W.Frag} {mg : Str → Option Value} {base : Heap} {f a1 a2 a3 a4 a5 a6 a7 a8 a9 b1 b2 : Addr} {fd d1 d2 d3 d4 d5 d6 d7 d8 d9 e1 e2 : FuncData} {cdv : Value} {A : Around} {outer : List Env} {s : Shared} {H0 : Hp} {Q : VK} {E : XK}
/-- how many steps: the tale, perhaps told once more -/
theorem law_way (B : Bn mg) (md : mg "dict" = none) (mmax : mg "max" = none) (D4 : Df P w K mg base "_law_copied" 50 a4 d4 ["_law_rows"] (spCopied K 50)) (D5 : Df P w K mg base "_law_alike" 101 a5 d5 ["_law_found", "_law_due"] (spAlike K 100)) (D6 : Df P w K mg base "_law_same_values" 2 a6 d6 ["_law_found", "_law_due"] (spSame K))
    (D7 : Df P w K mg base "_law_tale" 85 a7 d7 ["_law_rows", "_law_given_here", "_law_most"] (spLTale K 41)) (D8 : Df P w K mg base "run" 127 a8 d8 ["rows", "given", "most"] (spRun K 41)) (hr : Room 127 (Around.law A f s cdv)) (k : ∀ H', Q (.bl true) H') :
    ∃ u, PSs (cxOf CX0 P w K mg base nLaw "law" (defScope s_law) f cdv A outer s H0 E).nox ((defBody s_law).drop 5) u ∧ ∀ σ H, (∃ (l g : Addr) (kvs : List (Key × V)) (ρ : Wh) (more : Int) (rows : List Row) (ss : List Str) (v0 v1 v5 : Option V),
      σ = [v0, v1, some (.ref l), some (.ref g), some (.int more), v5, none, none, none, none] ∧ RowsAt K H l rows ∧ oks ss rows ∧ deps rows ≤ 40 ∧ rows.length ≤ 2000 ∧ H g = some (.dK kvs) ∧ DV (.dK kvs) ρ 30 ∧ ρ.small) →
      u { nx := fun _ H' => Q .non H', rt := Q } σ H := by
  have nd := sc_law.nd
  have hu := hu_of hr
  have r85 : Room 85 (Around.law A f s cdv) := hr.mono (by decide)
  obtain ⟨u, hu1, hu2⟩ := law_mid (outer := outer) (s := s) (H0 := H0) (E := E) (cdv := cdv) (A := A) (f := f) B md D4 D5 D6 D7 D8 hr k
  refine ⟨_, pss_cons (ps_set (i := 6) nd rfl (Or.inl rfl) (pe_df D7 r85 (pa_cons (pv 2) (pa_cons (pv 3) (pa_cons pe_int pa_nil))))) <|
    pss_cons (ps_set (i := 7) nd rfl (Or.inl rfl) (pe_op op_mod (pv 4) pe_int)) <|
    C8.pss_cut (ps_if (pt_cmpR op_gt (pv 7) pe_int (nomark _))
      (pss_one (ps_set (i := 6) nd rfl (Or.inl rfl) (pe_df D7 r85 (pa_cons (pv 2) (pa_cons (pv 3) (pa_cons (pe_ix ix_list (pe_lst (pa_cons pe_int (pa_cons (pe_dget hu (pv 6) pe_str (fun _ _ => rfl)) (pa_cons (pe_callB (call_max2 rfl) rfl mmax (by decide +kernel) (pa_cons pe_int (pa_cons (pe_op op_sub (pe_dget hu (pv 6) pe_str (fun _ _ => rfl)) pe_int) pa_nil)))
        (pa_cons (pe_op op_fdiv (pe_dget hu (pv 6) pe_str (fun _ _ => rfl)) pe_int) pa_nil))))) (pv 7) (fun _ _ => rfl)) pa_nil)))))) pss_nil) hu1, ?_⟩
  rintro σ H ⟨l, g, kvs, ρ, more, rows, ss, v0, v1, v5, rfl, hR, hok, hdep, hlen, hg, dv, sm⟩
  refine ⟨_, rfl, _, rfl, l, g, kvs, ρ, 200, rows, ss, rfl, hR, hok, by omega, hg, dv.more (by decide), sm, by decide, fun H1 t e a d sl hD hT => ?_⟩
  have s1 := hT.cl
  have hT1 := Told.of hD hT
  have hst := hD.steps.2 (Nat.zero_le _)
  refine ⟨_, rfl, _, _, rfl, rfl, (by show (0 : Int) < 4; decide), ?_⟩
  refine ⟨fun σ H' => ∃ (a d sl : Addr) (m : Nat) (t : Tale) (e : Ed), σ = [v0, v1, some (.ref l), some (.ref g), some (.int more), v5, some (.ref a), some (.int (more % 4)), none, none] ∧ Same H H' ∧ m ≤ 200 ∧ Told H' a d sl rows ρ m t e, ?_, ?_⟩
  · refine ⟨_, rfl, _, _, rfl, rfl, _, rfl, ?_⟩
    refine ite2 (fun c => ?_) (fun c => ?_)
    · have y := DGet.k (k := Sum.inr "steps") hT1.ob
      rw [tk_steps] at y
      refine ⟨_, rfl, _, rfl, _, rfl, a, _, rfl, y, _, rfl, a, _, rfl, y, _, _, rfl, rfl, _, _, rfl, _, rfl, a, _, rfl, y, _, _, rfl, rfl, ⟨by decide, by decide⟩, (by show 4 ≤ sizeLine; decide), fun q1 hq1 => ?_⟩
      obtain ⟨H2, g2, s2, eq1⟩ := newH hq1 (.lst [.int 0, .int (t.steps : Int), .int (if (t.steps : Int) - 1 > 0 then (t.steps : Int) - 1 else 0), .int ((t.steps : Int) / 10)])
      rw [g2]
      obtain ⟨x, hx, ax⟩ := four_at (t.steps : Int) (if (t.steps : Int) - 1 > 0 then (t.steps : Int) - 1 else 0) ((t.steps : Int) / 10) more
      obtain ⟨m, rfl, hm⟩ : ∃ m : Nat, x = (m : Int) ∧ m ≤ 200 := by
        have : 0 ≤ x ∧ x ≤ 200 := by
          rcases hx with z | z | z | z
          · omega
          · omega
          · split at z <;> omega
          · omega
        exact ⟨x.toNat, by omega, by omega⟩
      have s12 := s1.trans s2
      refine ⟨_, rfl, q1, _, _, _, rfl, rfl, SqL.of eq1, ax, l, g, kvs, ρ, m, rows, ss, rfl, hR.mono (Same.kp s12), hok, by omega, s12 _ _ hg, dv.more (by decide), sm, by omega, fun H3 t2 e2 a2 d2 sl2 hD2 hT2 => ?_⟩
      exact ⟨a2, d2, sl2, m, t2, e2, rfl, s12.trans hT2.cl, hm, Told.of hD2 hT2⟩
    · exact ⟨a, d, sl, 200, t, e, rfl, s1, Nat.le_refl _, hT1⟩
  rintro σ H2 ⟨a, d, sl, m, t, e, rfl, s2, hm, hT2⟩
  exact hu2 _ _ ⟨l, g, a, d, sl, kvs, ρ, m, t, e, rows, ss, v0, v1, _, v5, _, rfl, hR.mono (Same.kp s2), hok, hdep, hlen, s2 _ _ hg, dv, sm, hm, hT2⟩
theorem ok_law (F : Fun K "law" "law" s_law f fd) (B : Bn mg) (md : mg "dict" = none) (mmax : mg "max" = none) (D1 : Df P w K mg base "_law_cell_at" 1 a1 d1 ["_law_script", "_law_k"] (spCell K)) (D2 : Df P w K mg base "_law_names" 1 a2 d2 ["_law_cell"] spNames) (D3 : Df P w K mg base "_law_program" 3 a3 d3 ["_law_cells", "_law_names_here"] (spProgram K))
    (D4 : Df P w K mg base "_law_copied" 50 a4 d4 ["_law_rows"] (spCopied K 50)) (D5 : Df P w K mg base "_law_alike" 101 a5 d5 ["_law_found", "_law_due"] (spAlike K 100)) (D6 : Df P w K mg base "_law_same_values" 2 a6 d6 ["_law_found", "_law_due"] (spSame K))
    (D7 : Df P w K mg base "_law_tale" 85 a7 d7 ["_law_rows", "_law_given_here", "_law_most"] (spLTale K 41)) (D8 : Df P w K mg base "run" 127 a8 d8 ["rows", "given", "most"] (spRun K 41)) (D9 : Df P w K mg base "_law_given" 2 a9 d9 ["_law_cell", "_law_names_here"] (spGiven K))
    (E1 : Df P w K mg base "_law_mixed" 1 b1 e1 ["_law_cell", "_law_k"] spMixed) : FnOk P w K mg base CX0 128 f fd ["_law_script"] (spLaw K) := by
  refine F.ok sc_law (fun vs H Q E h => ?_) (fun cdv A outer s H vs Q E hr h => ?_)
  · obtain ⟨a, ns, rfl, _⟩ := h
    rfl
  obtain ⟨a, ns, rfl, hS, h63, k⟩ := h
  have nd := sc_law.nd
  have hu := hu_of hr
  have r1 : Room 1 _ := hr.mono (by decide)
  have r2 : Room 2 _ := hr.mono (by decide)
  have r3 : Room 3 _ := hr.mono (by decide)
  obtain ⟨u, hu1, hu2⟩ := law_way (outer := outer) (s := s) (H0 := H) (E := E) (cdv := cdv) (A := A) (f := f) B md mmax D4 D5 D6 D7 D8 hr k
  refine ⟨_, pss_cons (ps_set (i := 1) nd rfl (Or.inl rfl) (pe_df D2 r1 (pa_cons (pe_df D1 r1 (pa_cons (pv 0) (pa_cons pe_int pa_nil))) pa_nil))) <|
    pss_cons (ps_set (i := 2) nd rfl (Or.inl rfl) (pe_df D3 r3 (pa_cons (pe_slice sl_list (pv 0) (po_some pe_int) po_none) (pa_cons (pv 1) pa_nil)))) <|
    pss_cons (ps_set (i := 3) nd rfl (Or.inl rfl) (pe_df D9 r2 (pa_cons (pe_df D1 r1 (pa_cons (pv 0) (pa_cons pe_int pa_nil))) (pa_cons (pv 1) pa_nil)))) <|
    pss_cons (ps_set (i := 4) nd rfl (Or.inl rfl) (pe_df D1 r1 (pa_cons (pv 0) (pa_cons pe_int pa_nil)))) <|
    C8.pss_cut (ps_if (pt_cmpR op_eq (pe_op op_mod (pe_op op_fdiv (pv 4) pe_int) pe_int) pe_int (nomark _))
      (pss_cons (ps_dput hu (pv 3) pe_str pe_int rfl) <|
       pss_cons (ps_dput hu (pv 3) pe_str pe_int rfl) <|
       pss_one (ps_for PassesOwn.never rfl (pi_range1 rfl B.range (pa_cons (pe_op op_add pe_int (pe_op op_mod (pe_op op_fdiv (pv 4) pe_int) pe_int)) pa_nil)) (pg_name (i := 5) nd rfl (Or.inl rfl))
        (pss_one (ps_set (i := 2) nd rfl (Or.inl rfl) (pe_ix ix_list (pe_lst (pa_cons (pe_lst (pa_cons (pe_tup (pa_cons pe_str (pa_cons pe_str (pa_cons (pv 2) pa_nil)))) pa_nil)) (pa_cons (pe_lst (pa_cons (pe_tup (pa_cons pe_str (pa_cons pe_str (pa_cons (pv 2) pa_nil)))) pa_nil)) pa_nil)))
          (pe_op op_mod (pe_df E1 r1 (pa_cons (pv 4) (pa_cons (pv 5) pa_nil))) pe_int) (fun _ _ => rfl)))))) pss_nil) hu1, ?_⟩
  refine ⟨_, rfl, a, ns, 0, rfl, hS, by decide, fun z0 => ⟨z0, rfl, fun ln ss H1 s1 fln eln len1 hgood => ?_⟩⟩
  have hN1 : NamesAt K H1 ln ss := ⟨SqL.of eln, len1⟩
  obtain ⟨ms, ems, hms⟩ := cut3 ns
  refine ⟨_, rfl, _, rfl, a, _, rfl, s1.seq hS, fun q7 hq7 => ?_⟩
  rw [ems]
  obtain ⟨H2, g2, s2, eq7⟩ := newH hq7 (.lst (ms.map V.int))
  rw [g2]
  refine ⟨_, rfl, q7, ln, ms, ss, rfl, SqL.of eq7, Nat.le_trans hms h63, hN1.mono (Same.kp s2), fun H3 l rows s3 fl hR ok dep tot => ?_⟩
  have hS3 := (s1.trans (s2.trans s3)).seq hS
  refine ⟨_, rfl, a, ns, 1, rfl, hS3, by decide, fun z1 => ⟨_, rfl, z1, ln, ss, rfl, hN1.mono (Same.kp (s2.trans s3)), fun g H4 kvs ρ hg s4 eg dv sm => ?_⟩⟩
  refine ⟨_, rfl, a, ns, 2, rfl, s4.seq hS3, by decide, fun more => ?_⟩
  have lr := len_tots rows
  obtain ⟨st, est⟩ : ∃ st : List Str, st = ("tt" : Str) :: ("uu" : Str) :: ss := ⟨_, rfl⟩
  have tin : ("tt" : Str) ∈ st := by rw [est]; exact List.mem_cons_self
  have uin : ("uu" : Str) ∈ st := by rw [est]; exact List.mem_cons_of_mem _ List.mem_cons_self
  have okt : oks st rows := oks_mono (fun x hx => by rw [est]; exact List.mem_cons_of_mem _ (List.mem_cons_of_mem _ hx)) rows ok
  refine ⟨fun σ H' => ∃ (l : Addr) (rows : List Row) (kvs : List (Key × V)) (ρ : Wh) (v5 : Option V), σ = [some (.ref a), some (.ref ln), some (.ref l), some (.ref g), some (.int more), v5, none, none, none, none] ∧ RowsAt K H' l rows ∧ oks st rows ∧ deps rows ≤ 40 ∧ rows.length ≤ 2000 ∧ H' g = some (.dK kvs) ∧ DV (.dK kvs) ρ 30 ∧ ρ.small, ?_, ?_⟩
  · refine ⟨_, rfl, _, _, rfl, rfl, ⟨by decide, by decide⟩, _, _, rfl, rfl, (by show (0 : Int) < 3; decide), rfl, _, rfl, ?_⟩
    refine ite2 (fun c => ?_) (fun c => ?_)
    · have f1 := dv.few
      refine ⟨_, rfl, g, _, rfl, DPut.k (k := Sum.inr "tt") eg (by rw [sizeLine_eq]; omega), ?_⟩
      have dv1 := dv.put "tt" 1
      have f2 := dv1.few
      refine ⟨_, rfl, g, _, rfl, DPut.k (k := Sum.inr "uu") upd_same (by rw [sizeLine_eq]; omega), ?_⟩
      have dv2 := dv1.put "uu" 0
      rw [upd_upd]
      have s5 := same_put (same_put (Same.refl H3) hg (.dK [])) hg (.dK [])
      have sB : Same H3 (upd H4 g (.dK (putK (putK kvs (Sum.inr "tt") (.int 1)) (Sum.inr "uu") (.int 0)))) := same_put s4 hg _
      obtain ⟨HB, eHB⟩ : ∃ HB, upd H4 g (.dK (putK (putK kvs (Sum.inr "tt") (.int 1)) (Sum.inr "uu") (.int 0))) = HB := ⟨_, rfl⟩
      have egB : HB g = some (.dK (putK (putK kvs (Sum.inr "tt") (.int 1)) (Sum.inr "uu") (.int 0))) := by rw [← eHB]; exact upd_same
      rw [eHB] at sB ⊢
      have hR' := RowsL.mono (Same.kp sB) hR
      refine ⟨_, rfl, _, _, rfl, rfl, ⟨by decide, by decide⟩, _, _, rfl, rfl, (by show (0 : Int) < 37; decide), _, _, rfl, rfl, _, rfl, by omega, by omega, ?_⟩
      refine for_range (lo := 0) (n := (1 + more / 12 % 37).toNat) (fun i σ H' => ∃ (l1 : Addr) (rs1 : List Row) (v5 : Option V), σ = [some (.ref a), some (.ref ln), some (.ref l1), some (.ref g), some (.int more), v5, none, none, none, none] ∧ Same HB H' ∧ RowsL K H' l1 rs1 ∧ oks st rs1 ∧ deps rs1 ≤ 3 + i ∧ rs1.length ≤ 2000)
        ⟨l, rows, none, rfl, Same.refl _, hR', okt, by omega, by omega⟩ ?_ ?_
      · rintro i σ H5 hi ⟨l1, rs1, v5, rfl, s5, hR5, ok5, dep5, len5⟩
        refine ⟨_, rfl, (by show 3 ≤ sizeLine; decide), fun p1 hp1 => ?_⟩
        obtain ⟨J1, j1, u1, ep1⟩ := newH hp1 (.tup [.str "when", .str "tt", .ref l1])
        rw [j1]
        refine ⟨(by show 1 ≤ sizeLine; decide), fun p2 hp2 => ?_⟩
        obtain ⟨J2, j2, u2, ep2⟩ := newH hp2 (.lst [.ref p1])
        rw [j2]
        refine ⟨_, rfl, (by show 3 ≤ sizeLine; decide), fun p3 hp3 => ?_⟩
        obtain ⟨J3, j3, u3, ep3⟩ := newH hp3 (.tup [.str "again", .str "uu", .ref l1])
        rw [j3]
        refine ⟨(by show 1 ≤ sizeLine; decide), fun p4 hp4 => ?_⟩
        obtain ⟨J4, j4, u4, ep4⟩ := newH hp4 (.lst [.ref p3])
        rw [j4]
        refine ⟨(by show 2 ≤ sizeLine; decide), fun p5 hp5 => ?_⟩
        obtain ⟨J5, j5, u5, ep5⟩ := newH hp5 (.lst [.ref p2, .ref p4])
        rw [j5]
        refine ⟨_, rfl, _, rfl, _, _, rfl, fun z hz0 hz1 => ⟨_, _, rfl, rfl, (by show (0 : Int) < 2; decide), ?_⟩⟩
        have sAll := u1.trans (u2.trans (u3.trans (u4.trans u5)))
        obtain ⟨ws, w1, w2⟩ := RowsL.mono (Same.kp sAll) hR5
        rcases two_of (.ref p2) (.ref p4) z with az | az
        · refine ⟨p5, _, _, _, rfl, rfl, SqL.of ep5, az, ?_⟩
          refine ⟨p2, [.bk "when" (.str "tt") rs1], _, rfl, s5.trans sAll, ⟨_, (u3.trans (u4.trans u5)) _ _ ep2, AllAt.one (r := .bk "when" (.str "tt") rs1) (v := .ref p1) ⟨p1, l1, ws, rfl, SqT.of ((u2.trans (u3.trans (u4.trans u5))) _ _ ep1), SqL.of w1, w2⟩⟩, ⟨⟨by decide +kernel, ⟨_, rfl, tin⟩, len5, ok5⟩, True.intro⟩, ?_, by show 1 ≤ 2000; decide⟩
          show max (deps rs1 + 1) 0 ≤ 3 + (i + 1)
          omega
        · refine ⟨p5, _, _, _, rfl, rfl, SqL.of ep5, az, ?_⟩
          refine ⟨p4, [.bk "again" (.str "uu") rs1], _, rfl, s5.trans sAll, ⟨_, u5 _ _ ep4, AllAt.one (r := .bk "again" (.str "uu") rs1) (v := .ref p3) ⟨p3, l1, ws, rfl, SqT.of ((u4.trans u5) _ _ ep3), SqL.of w1, w2⟩⟩, ⟨⟨by decide +kernel, ⟨_, rfl, uin⟩, len5, ok5⟩, True.intro⟩, ?_, by show 1 ≤ 2000; decide⟩
          show max (deps rs1 + 1) 0 ≤ 3 + (i + 1)
          omega
      · rintro σ H5 ⟨l1, rs1, v5, rfl, s5, hR5, ok5, dep5, len5⟩
        exact ⟨l1, rs1, _, _, v5, rfl, hR5.rows, ok5, by omega, len5, s5 _ _ egB, dv2.more (by decide), (sm.put (by decide) (by decide)).put (by decide) (by decide)⟩
    · exact ⟨l, rows, kvs, ρ, none, rfl, (RowsL.mono (Same.kp s4) hR).rows, okt, by omega, by omega, eg, dv.more (by decide), sm⟩
  rintro σ H5 ⟨l, rows, kvs, ρ, v5, rfl, hR, hok, hdep, hlen, hg, dv, sm⟩
  exact hu2 _ _ ⟨l, g, kvs, ρ, more, rows, st, _, _, v5, rfl, hR, hok, hdep, hlen, hg, dv, sm⟩
end
end Lm
namespace Lm
open PySem PySem.Spec PyProof.Rows L2 GxR
/-! ### what the top leaves -/
def mkD (x : Str) (i : Nat) : He.DefD := ⟨(x, none), x, x, defArgs (topS i), defBody (topS i), defScope (topS i), [], []⟩
def mkM (c x y : Str) (st : Stmt) : He.DefD := ⟨(c, some x), x, y, defArgs st, defBody st, defScope st, [], []⟩
def fn0 : List He.DefD := [mkD "come_to" 5, mkD "run" 7, mkD "_law_cell_at" 9, mkD "_law_mixed" 10, mkD "_law_names" 11, mkD "_law_value" 12, mkD "_law_let" 13, mkD "_law_closed" 14, mkD "_law_opened" 15, mkD "_law_program" 16, mkD "_law_given" 17, mkD "_law_whole" 18]
def fn1 : List He.DefD := [mkD "_law_alike" 19, mkD "_law_copied" 20, mkD "_law_value_of" 21, mkD "_law_step" 22, mkD "_law_let_done" 23, mkD "_law_row_done" 24, mkD "_law_done" 25, mkD "_law_tale" 26, mkD "_law_same_values" 27, mkD "law" 28, mkM "Progress" "__init__" "Progress.__init__" (inClass (topS 6) 0), mkM "Progress" "worth" "Progress.worth" (inClass (topS 6) 1)]
def fn2 : List He.DefD := [mkM "Progress" "stop" "Progress.stop" (inClass (topS 6) 2), mkM "Progress" "take_step" "Progress.take_step" (inClass (topS 6) 3), mkM "Progress" "do_rows" "Progress.do_rows" (inClass (topS 6) 4), mkM "Progress" "do_row" "Progress.do_row" (inClass (topS 6) 5), mkM "Progress" "do_let" "Progress.do_let" (inClass (topS 6) 6), mkM "Progress" "do_when" "Progress.do_when" (inClass (topS 6) 7), mkM "Progress" "do_loop" "Progress.do_loop" (inClass (topS 6) 8), mkM "Progress" "do_again" "Progress.do_again" (inClass (topS 6) 9)]
def fn : List He.DefD := fn0 ++ fn1 ++ fn2
def own0 : List Str := ["come_to", "run", "_law_cell_at", "_law_mixed", "_law_names", "_law_value", "_law_let", "_law_closed", "_law_opened", "_law_program", "_law_given", "_law_whole", "_law_alike", "_law_copied"]
def own1 : List Str := ["_law_value_of", "_law_step", "_law_let_done", "_law_row_done", "_law_done", "_law_tale", "_law_same_values", "law", "Progress"]
def own : List Str := own0 ++ own1
def bare : List Str := ["all", "bool", "dict", "int", "isinstance", "len", "list", "max", "range", "str", "tuple"]
def fas0 : List He.Fa := [.int "ROUND" 1000000, .str "DONE" "done", .str "TOO_LONG" "too long", .str "BY_NOUGHT" "by nought", .cls "Progress", .noat "Progress" "worths", .noat "Progress" "most", .noat "Progress" "steps", .noat "Progress" "said", .noat "Progress" "ending", .meth "Progress" "worth", .meth "Progress" "stop"]
def fas1 : List He.Fa := [.meth "Progress" "take_step", .meth "Progress" "do_rows", .meth "Progress" "do_row", .meth "Progress" "do_let", .meth "Progress" "do_when", .meth "Progress" "do_loop", .meth "Progress" "do_again", .mkr "Progress"]
def fas : List He.Fa := fas0 ++ fas1
def fa : List He.Fa := fas ++ (own.map He.Fa.glo ++ bare.map He.Fa.free)
theorem glo_fa {x : Str} (h : x ∈ own) : He.Fa.glo x ∈ fa := List.mem_append_right _ (List.mem_append_left _ (List.mem_map_of_mem h))
theorem free_fa {x : Str} (h : x ∈ bare) : He.Fa.free x ∈ fa := List.mem_append_right _ (List.mem_append_right _ (List.mem_map_of_mem h))
/-- a tuple of the top -/
def tupB (K : PySem.W.Frag) (a : Addr) (xs : List V) : Bool := match K.lookup a with
  | some ⟨.type c, _, .seq its _, _⟩ => decide (c = "tuple") && He.relAll xs its.toList
  | _ => false
theorem relAll_len : ∀ {xs : List V} {us : List Value}, He.relAll xs us = true → us.length = xs.length
  | [], [], _ => rfl
  | [], _ :: _, h => by cases h
  | _ :: _, [], h => by cases h
  | x :: xs, u :: us, h => by
    have h' : (He.relB x u && He.relAll xs us) = true := h
    rw [List.length_cons, List.length_cons, relAll_len (Bool.and_eq_true_iff.mp h').2]
theorem tupB_ok {K : PySem.W.Frag} {a : Addr} {xs : List V} (h : tupB K a xs = true) (hl : xs.length ≤ 1000) (H : Hp) : SqT K H a xs := by
  unfold tupB at h
  cases q : K.lookup a with
  | none =>
    rw [q] at h
    cases h
  | some o =>
    rw [q] at h
    obtain ⟨oc, od, dt, sl⟩ := o
    cases oc with
    | type c =>
      cases dt with
      | seq its n =>
        obtain ⟨h1, h2⟩ := Bool.and_eq_true_iff.mp h
        refine .inr ⟨_, its, n, q, congrArg Value.type (of_decide_eq_true h1), rfl, ?_, He.relAll_ok h2⟩
        have e := relAll_len h2
        rw [Array.length_toList] at e
        rw [e]
        exact Nat.le_of_lt (small1000 hl)
      | _ => cases h
    | _ => cases h
def ex (K : PySem.W.Frag) : Bool := true
def ts : List He.Tab := []
def tf : List He.Defn := []
theorem fun_of {K : PySem.W.Frag} {x y : Str} {st : Stmt} {f : Addr} {fd : FuncData} {d : He.DefD} (F : FunD K d.name d.qual d.params d.body d.scope (d.dvs K) (d.kws K) f fd) (h1 : d.name = x) (h2 : d.qual = y) (h3 : d.params = defArgs st) (h4 : d.body = defBody st) (h5 : d.scope = defScope st) (h6 : d.dfl = []) : Fun K x y st f fd := by
  obtain ⟨oc, od, dV, kV, doc, pm, an, cdv, ct, osl, e, lk, hcd, hd, _⟩ := F.ex
  rw [h1, h2, h3, h4, h5] at e
  rw [h2] at hcd
  have hdv : d.dvs K = [] := by
    unfold He.DefD.dvs
    rw [h6]
    rfl
  rcases hd with ⟨_, hd⟩ | ⟨hd, _⟩
  · subst hd
    exact ⟨⟨oc, od, kV, doc, pm, an, cdv, ct, osl, e, lk, hcd⟩, F.kp⟩
  · exact absurd hdv hd
theorem fun_to {K : PySem.W.Frag} {x qual : Str} {st : Stmt} {f : Addr} {fd : FuncData} {ps : List Str} (F : Fun K x qual st f fd)
    (h : ∀ (kV doc pm : Value) (an : Option Addr) (cdv ct : Value) (us : List Value), us.length = ps.length → bindArgs (PySem.W.fnOf x qual (defArgs st) (defBody st) (defScope st) .none kV doc pm an cdv ct) ⟨us, []⟩ = pure (ps.zip us)) (s : Shared) (us : List Value) (hl : us.length = ps.length) :
    BindsTo s fd ⟨us, []⟩ (ps.zip us) := by
  obtain ⟨oc, od, kV, doc, pm, an, cdv, ct, osl, rfl, lk, hcd⟩ := F.ex
  exact .of_eq (h kV doc pm an cdv ct us hl)
/-- a def by its name: where it stands, its function object -/
structure At (K : PySem.W.Frag) (mg : Str → Option Value) (x : Str) (i : Nat) (f : Addr) (fd : FuncData) : Prop where
  fn : Fun K x x (topS i) f fd
  m : mg x = some (.ref f)
theorem at_of_says {K : PySem.W.Frag} {h : Heap} {mg : Str → Option Value} (X : K.In h) (G : h.Ns mainGlobals mg) (c : He.SaysD fa fn K) (j : Nat) {x : Str} {i : Nat} (hg : x ∈ own) (hd : fn[j]? = some (mkD x i) := by rfl) : ∃ fd, At K mg x i (He.ga K x) fd := by
  obtain ⟨fd, F⟩ := c.def_ j hd
  exact ⟨fd, fun_of F rfl rfl rfl rfl rfl rfl, He.glo_ok X G (c.facts (glo_fa hg))⟩
theorem me_of_says {K : PySem.W.Frag} (c : He.SaysD fa fn K) (j k : Nat) {cl x y : Str} {st : Stmt} (hd : fn[j]? = some (mkM cl x y st) := by rfl) (hf : fa[k]? = some (.meth cl x) := by rfl) : ∃ fd, Fun K x y st (He.ma K (He.ga K cl) x) fd ∧ Meth K (He.ga K cl) x (He.ma K (He.ga K cl) x) := by
  obtain ⟨fd, F⟩ := c.def_ j hd
  exact ⟨fd, fun_of F rfl rfl rfl rfl rfl rfl, He.meth_ok (c.fact k hf)⟩
theorem mk_of_says {K : PySem.W.Frag} (c : He.SaysD fa fn K) (j k : Nat) {cl y : Str} {st : Stmt} (hd : fn[j]? = some (mkM cl "__init__" y st) := by rfl) (hf : fa[k]? = some (.mkr cl) := by rfl) : ∃ fd, Fun K "__init__" y st (He.ma K (He.ga K cl) "__init__") fd ∧ Mk K (He.ga K cl) (He.ma K (He.ga K cl) "__init__") := by
  obtain ⟨fd, F⟩ := c.def_ j hd
  exact ⟨fd, fun_of F rfl rfl rfl rfl rfl rfl, He.mkr_ok (c.fact k hf)⟩
end Lm
namespace Lm
open PySem PySem.Spec PyProof.Rows L2 GxR
/-- the law's promise, from what the top leaves -/
theorem law_at {l : PySem.W.OpenLaw} {w : World} {K : PySem.W.Frag} {h : Heap} {mg : Str → Option Value} {fl : Addr} (X : K.In h) (G : h.Ns mainGlobals mg) (hfl : mg "law" = some (.ref fl)) (c : He.SaysX fa fn ts tf ex w h K) :
    LamX.LawAtS l w K CX0 128 63 "_law_script" mg fl h := by
  have cD : He.SaysD fa fn K := congrArg (fun z : He.AlT => z.1) c.t
  have bn : ∀ {x : Str}, x ∈ bare → mg x = none := fun hx => He.free_ok X G (cD.facts (free_fa hx))
  have own_ : ∀ {x : Str}, x ∈ own → mg x = some (.ref (He.ga K x)) := fun hx => He.glo_ok X G (cD.facts (glo_fa hx))
  have B : Bn mg := ⟨bn (by decide +kernel), bn (by decide +kernel), bn (by decide +kernel), bn (by decide +kernel), bn (by decide +kernel), bn (by decide +kernel), bn (by decide +kernel), bn (by decide +kernel), bn (by decide +kernel)⟩
  obtain ⟨d_come_to, A_come_to⟩ := at_of_says X G cD 0 (x := "come_to") (i := 5) (by decide +kernel)
  have b_come_to : Binds K d_come_to ["sign", "one", "other"] [] := A_come_to.fn.binds fun _ _ _ _ _ _ us hl => match us, hl with | [_, _, _], _ => rfl
  obtain ⟨d_run, A_run⟩ := at_of_says X G cD 1 (x := "run") (i := 7) (by decide +kernel)
  have b_run : Binds K d_run ["rows", "given", "most"] [] := A_run.fn.binds fun _ _ _ _ _ _ us hl => match us, hl with | [_, _, _], _ => rfl
  obtain ⟨d__law_cell_at, A__law_cell_at⟩ := at_of_says X G cD 2 (x := "_law_cell_at") (i := 9) (by decide +kernel)
  have b__law_cell_at : Binds K d__law_cell_at ["_law_script", "_law_k"] [] := A__law_cell_at.fn.binds fun _ _ _ _ _ _ us hl => match us, hl with | [_, _], _ => rfl
  obtain ⟨d__law_mixed, A__law_mixed⟩ := at_of_says X G cD 3 (x := "_law_mixed") (i := 10) (by decide +kernel)
  have b__law_mixed : Binds K d__law_mixed ["_law_cell", "_law_k"] [] := A__law_mixed.fn.binds fun _ _ _ _ _ _ us hl => match us, hl with | [_, _], _ => rfl
  obtain ⟨d__law_names, A__law_names⟩ := at_of_says X G cD 4 (x := "_law_names") (i := 11) (by decide +kernel)
  have b__law_names : Binds K d__law_names ["_law_cell"] [] := A__law_names.fn.binds fun _ _ _ _ _ _ us hl => match us, hl with | [_], _ => rfl
  obtain ⟨d__law_value, A__law_value⟩ := at_of_says X G cD 5 (x := "_law_value") (i := 12) (by decide +kernel)
  have b__law_value : Binds K d__law_value ["_law_kind", "_law_number", "_law_names_here"] [] := A__law_value.fn.binds fun _ _ _ _ _ _ us hl => match us, hl with | [_, _, _], _ => rfl
  obtain ⟨d__law_let, A__law_let⟩ := at_of_says X G cD 6 (x := "_law_let") (i := 13) (by decide +kernel)
  have b__law_let : Binds K d__law_let ["_law_number", "_law_names_here"] [] := A__law_let.fn.binds fun _ _ _ _ _ _ us hl => match us, hl with | [_, _], _ => rfl
  obtain ⟨d__law_closed, A__law_closed⟩ := at_of_says X G cD 7 (x := "_law_closed") (i := 14) (by decide +kernel)
  have b__law_closed : Binds K d__law_closed ["_law_stack", "_law_tests"] [] := A__law_closed.fn.binds fun _ _ _ _ _ _ us hl => match us, hl with | [_, _], _ => rfl
  obtain ⟨d__law_opened, A__law_opened⟩ := at_of_says X G cD 8 (x := "_law_opened") (i := 15) (by decide +kernel)
  have b__law_opened : Binds K d__law_opened ["_law_number", "_law_names_here", "_law_stack", "_law_tests"] [] := A__law_opened.fn.binds fun _ _ _ _ _ _ us hl => match us, hl with | [_, _, _, _], _ => rfl
  obtain ⟨d__law_program, A__law_program⟩ := at_of_says X G cD 9 (x := "_law_program") (i := 16) (by decide +kernel)
  have b__law_program : Binds K d__law_program ["_law_cells", "_law_names_here"] [] := A__law_program.fn.binds fun _ _ _ _ _ _ us hl => match us, hl with | [_, _], _ => rfl
  obtain ⟨d__law_given, A__law_given⟩ := at_of_says X G cD 10 (x := "_law_given") (i := 17) (by decide +kernel)
  have b__law_given : Binds K d__law_given ["_law_cell", "_law_names_here"] [] := A__law_given.fn.binds fun _ _ _ _ _ _ us hl => match us, hl with | [_, _], _ => rfl
  obtain ⟨d__law_whole, A__law_whole⟩ := at_of_says X G cD 11 (x := "_law_whole") (i := 18) (by decide +kernel)
  have b__law_whole : Binds K d__law_whole ["_law_found"] [] := A__law_whole.fn.binds fun _ _ _ _ _ _ us hl => match us, hl with | [_], _ => rfl
  obtain ⟨d__law_alike, A__law_alike⟩ := at_of_says X G cD 12 (x := "_law_alike") (i := 19) (by decide +kernel)
  have b__law_alike : Binds K d__law_alike ["_law_found", "_law_due"] [] := A__law_alike.fn.binds fun _ _ _ _ _ _ us hl => match us, hl with | [_, _], _ => rfl
  obtain ⟨d__law_copied, A__law_copied⟩ := at_of_says X G cD 13 (x := "_law_copied") (i := 20) (by decide +kernel)
  have b__law_copied : Binds K d__law_copied ["_law_rows"] [] := A__law_copied.fn.binds fun _ _ _ _ _ _ us hl => match us, hl with | [_], _ => rfl
  obtain ⟨d__law_value_of, A__law_value_of⟩ := at_of_says X G cD 14 (x := "_law_value_of") (i := 21) (by decide +kernel)
  have b__law_value_of : Binds K d__law_value_of ["_law_thing", "_law_tale_here"] [] := A__law_value_of.fn.binds fun _ _ _ _ _ _ us hl => match us, hl with | [_, _], _ => rfl
  obtain ⟨d__law_step, A__law_step⟩ := at_of_says X G cD 15 (x := "_law_step") (i := 22) (by decide +kernel)
  have b__law_step : Binds K d__law_step ["_law_tale_here"] [] := A__law_step.fn.binds fun _ _ _ _ _ _ us hl => match us, hl with | [_], _ => rfl
  obtain ⟨d__law_let_done, A__law_let_done⟩ := at_of_says X G cD 16 (x := "_law_let_done") (i := 23) (by decide +kernel)
  have b__law_let_done : Binds K d__law_let_done ["_law_row", "_law_tale_here"] [] := A__law_let_done.fn.binds fun _ _ _ _ _ _ us hl => match us, hl with | [_, _], _ => rfl
  obtain ⟨d__law_row_done, A__law_row_done⟩ := at_of_says X G cD 17 (x := "_law_row_done") (i := 24) (by decide +kernel)
  have b__law_row_done : Binds K d__law_row_done ["_law_row", "_law_tale_here"] [] := A__law_row_done.fn.binds fun _ _ _ _ _ _ us hl => match us, hl with | [_, _], _ => rfl
  obtain ⟨d__law_done, A__law_done⟩ := at_of_says X G cD 18 (x := "_law_done") (i := 25) (by decide +kernel)
  have b__law_done : Binds K d__law_done ["_law_rows", "_law_tale_here"] [] := A__law_done.fn.binds fun _ _ _ _ _ _ us hl => match us, hl with | [_, _], _ => rfl
  obtain ⟨d__law_tale, A__law_tale⟩ := at_of_says X G cD 19 (x := "_law_tale") (i := 26) (by decide +kernel)
  have b__law_tale : Binds K d__law_tale ["_law_rows", "_law_given_here", "_law_most"] [] := A__law_tale.fn.binds fun _ _ _ _ _ _ us hl => match us, hl with | [_, _, _], _ => rfl
  obtain ⟨d__law_same_values, A__law_same_values⟩ := at_of_says X G cD 20 (x := "_law_same_values") (i := 27) (by decide +kernel)
  have b__law_same_values : Binds K d__law_same_values ["_law_found", "_law_due"] [] := A__law_same_values.fn.binds fun _ _ _ _ _ _ us hl => match us, hl with | [_, _], _ => rfl
  obtain ⟨d_law, A_law⟩ := at_of_says X G cD 21 (x := "law") (i := 28) (by decide +kernel)
  have b_law : Binds K d_law ["_law_script"] [] := A_law.fn.binds fun _ _ _ _ _ _ us hl => match us, hl with | [_], _ => rfl
  obtain ⟨d_Progress___init__, F_Progress___init__, M_Progress___init__⟩ := mk_of_says cD 22 19 (cl := "Progress") (y := "Progress.__init__") (st := inClass (topS 6) 0)
  have b_Progress___init__ : Binds K d_Progress___init__ ["self", "given", "most"] [] := F_Progress___init__.binds fun _ _ _ _ _ _ us hl => match us, hl with | [_, _, _], _ => rfl
  obtain ⟨d_Progress_worth, F_Progress_worth, M_Progress_worth⟩ := me_of_says cD 23 10 (cl := "Progress") (x := "worth") (y := "Progress.worth") (st := inClass (topS 6) 1)
  have b_Progress_worth : Binds K d_Progress_worth ["self", "part"] [] := F_Progress_worth.binds fun _ _ _ _ _ _ us hl => match us, hl with | [_, _], _ => rfl
  obtain ⟨d_Progress_stop, F_Progress_stop, M_Progress_stop⟩ := me_of_says cD 24 11 (cl := "Progress") (x := "stop") (y := "Progress.stop") (st := inClass (topS 6) 2)
  have b_Progress_stop : Binds K d_Progress_stop ["self", "ending"] [] := F_Progress_stop.binds fun _ _ _ _ _ _ us hl => match us, hl with | [_, _], _ => rfl
  obtain ⟨d_Progress_take_step, F_Progress_take_step, M_Progress_take_step⟩ := me_of_says cD 25 12 (cl := "Progress") (x := "take_step") (y := "Progress.take_step") (st := inClass (topS 6) 3)
  have b_Progress_take_step : Binds K d_Progress_take_step ["self"] [] := F_Progress_take_step.binds fun _ _ _ _ _ _ us hl => match us, hl with | [_], _ => rfl
  obtain ⟨d_Progress_do_rows, F_Progress_do_rows, M_Progress_do_rows⟩ := me_of_says cD 26 13 (cl := "Progress") (x := "do_rows") (y := "Progress.do_rows") (st := inClass (topS 6) 4)
  have b_Progress_do_rows : Binds K d_Progress_do_rows ["self", "rows"] [] := F_Progress_do_rows.binds fun _ _ _ _ _ _ us hl => match us, hl with | [_, _], _ => rfl
  obtain ⟨d_Progress_do_row, F_Progress_do_row, M_Progress_do_row⟩ := me_of_says cD 27 14 (cl := "Progress") (x := "do_row") (y := "Progress.do_row") (st := inClass (topS 6) 5)
  have b_Progress_do_row : Binds K d_Progress_do_row ["self", "row"] [] := F_Progress_do_row.binds fun _ _ _ _ _ _ us hl => match us, hl with | [_, _], _ => rfl
  obtain ⟨d_Progress_do_let, F_Progress_do_let, M_Progress_do_let⟩ := me_of_says cD 28 15 (cl := "Progress") (x := "do_let") (y := "Progress.do_let") (st := inClass (topS 6) 6)
  have b_Progress_do_let : Binds K d_Progress_do_let ["self", "row"] [] := F_Progress_do_let.binds fun _ _ _ _ _ _ us hl => match us, hl with | [_, _], _ => rfl
  obtain ⟨d_Progress_do_when, F_Progress_do_when, M_Progress_do_when⟩ := me_of_says cD 29 16 (cl := "Progress") (x := "do_when") (y := "Progress.do_when") (st := inClass (topS 6) 7)
  have b_Progress_do_when : Binds K d_Progress_do_when ["self", "test", "rows"] [] := F_Progress_do_when.binds fun _ _ _ _ _ _ us hl => match us, hl with | [_, _, _], _ => rfl
  obtain ⟨d_Progress_do_loop, F_Progress_do_loop, M_Progress_do_loop⟩ := me_of_says cD 30 17 (cl := "Progress") (x := "do_loop") (y := "Progress.do_loop") (st := inClass (topS 6) 8)
  have b_Progress_do_loop : Binds K d_Progress_do_loop ["self", "test", "rows"] [] := F_Progress_do_loop.binds fun _ _ _ _ _ _ us hl => match us, hl with | [_, _, _], _ => rfl
  obtain ⟨d_Progress_do_again, F_Progress_do_again, M_Progress_do_again⟩ := me_of_says cD 31 18 (cl := "Progress") (x := "do_again") (y := "Progress.do_again") (st := inClass (topS 6) 9)
  have b_Progress_do_again : Binds K d_Progress_do_again ["self", "test", "rows"] [] := F_Progress_do_again.binds fun _ _ _ _ _ _ us hl => match us, hl with | [_, _, _], _ => rfl
  have efl : fl = He.ga K "law" := by
    have e := hfl.symm.trans A_law.m
    cases e
    rfl
  subst efl
  refine ⟨d_law, [], spLaw K, fun p hp => by simp at hp, fun p hp => by simp at hp, fun p hp => by simp at hp, ?_, ?_, ?_⟩
  · intro s v
    exact fun_to (ps := ["_law_script"]) A_law.fn (fun _ _ _ _ _ _ us hl => match us, hl with | [_], _ => rfl) s [v] rfl
  · intro H a ns hl _ hT hS
    exact ⟨a, ns, rfl, hS, hl, fun _ => rfl⟩
  · intro base hX hG hTB
    have T : Rc K mg (He.ga K "Progress") := ⟨He.cls_ok (cD.fact 4 (f := .cls "Progress") rfl), He.noat_ok (cD.fact 5 (f := .noat "Progress" "worths") rfl), He.noat_ok (cD.fact 6 (f := .noat "Progress" "most") rfl), He.noat_ok (cD.fact 7 (f := .noat "Progress" "steps") rfl), He.noat_ok (cD.fact 8 (f := .noat "Progress" "said") rfl), He.noat_ok (cD.fact 9 (f := .noat "Progress" "ending") rfl), He.int_ok X G (cD.fact 0 (f := .int "ROUND" 1000000) rfl), He.str_ok X G (cD.fact 1 (f := .str "DONE" "done") rfl), He.str_ok X G (cD.fact 2 (f := .str "TOO_LONG" "too long") rfl), He.str_ok X G (cD.fact 3 (f := .str "BY_NOUGHT" "by nought") rfl)⟩
    have md : mg "dict" = none := bn (by decide +kernel)
    have D_come_to : Df l.prog w K mg base "come_to" (1) _ d_come_to ["sign", "one", "other"] (spCome) := ⟨ok_come A_come_to.fn T, A_come_to.m, A_come_to.fn.kp, b_come_to⟩
    have PM := (⟨⟨F_Progress_worth, M_Progress_worth, b_Progress_worth⟩, ⟨F_Progress_stop, M_Progress_stop, b_Progress_stop⟩, ⟨F_Progress_take_step, M_Progress_take_step, b_Progress_take_step⟩, ⟨F_Progress_do_rows, M_Progress_do_rows, b_Progress_do_rows⟩, ⟨F_Progress_do_row, M_Progress_do_row, b_Progress_do_row⟩, ⟨F_Progress_do_let, M_Progress_do_let, b_Progress_do_let⟩, ⟨F_Progress_do_when, M_Progress_do_when, b_Progress_do_when⟩, ⟨F_Progress_do_loop, M_Progress_do_loop, b_Progress_do_loop⟩, ⟨F_Progress_do_again, M_Progress_do_again, b_Progress_do_again⟩⟩ : Pm K (He.ga K "Progress") _ _ _ _ _ _ _ _ _ _ _ _ _ _ _ _ _ _)
    have PR := all_prows (P := l.prog) (w := w) (mg := mg) (base := base) T B PM D_come_to 41
    have D_run : Df l.prog w K mg base "run" (127) _ d_run ["rows", "given", "most"] (spRun K 41) := ⟨ok_run A_run.fn T (own_ (by decide +kernel)) M_Progress___init__ (ok_pinit F_Progress___init__ T md) b_Progress___init__ PR (by decide), A_run.m, A_run.fn.kp, b_run⟩
    have D__law_cell_at : Df l.prog w K mg base "_law_cell_at" (1) _ d__law_cell_at ["_law_script", "_law_k"] (spCell K) := ⟨ok_cell A__law_cell_at.fn B.len, A__law_cell_at.m, A__law_cell_at.fn.kp, b__law_cell_at⟩
    have D__law_mixed : Df l.prog w K mg base "_law_mixed" (1) _ d__law_mixed ["_law_cell", "_law_k"] (spMixed) := ⟨ok_mixed A__law_mixed.fn, A__law_mixed.m, A__law_mixed.fn.kp, b__law_mixed⟩
    have D__law_names : Df l.prog w K mg base "_law_names" (1) _ d__law_names ["_law_cell"] (spNames) := ⟨ok_names A__law_names.fn B.range, A__law_names.m, A__law_names.fn.kp, b__law_names⟩
    have D__law_value : Df l.prog w K mg base "_law_value" (1) _ d__law_value ["_law_kind", "_law_number", "_law_names_here"] (spValue K) := ⟨ok_value A__law_value.fn, A__law_value.m, A__law_value.fn.kp, b__law_value⟩
    have D__law_let : Df l.prog w K mg base "_law_let" (2) _ d__law_let ["_law_number", "_law_names_here"] (spLet K) := ⟨ok_let A__law_let.fn D__law_value, A__law_let.m, A__law_let.fn.kp, b__law_let⟩
    have D__law_closed : Df l.prog w K mg base "_law_closed" (1) _ d__law_closed ["_law_stack", "_law_tests"] (spClosed K) := ⟨ok_closed A__law_closed.fn, A__law_closed.m, A__law_closed.fn.kp, b__law_closed⟩
    have D__law_opened : Df l.prog w K mg base "_law_opened" (1) _ d__law_opened ["_law_number", "_law_names_here", "_law_stack", "_law_tests"] (spOpened K) := ⟨ok_opened A__law_opened.fn B.len (bn (by decide +kernel)) B.int, A__law_opened.m, A__law_opened.fn.kp, b__law_opened⟩
    have D__law_program : Df l.prog w K mg base "_law_program" (3) _ d__law_program ["_law_cells", "_law_names_here"] (spProgram K) := ⟨ok_program A__law_program.fn B.len B.range D__law_mixed D__law_opened D__law_closed D__law_value D__law_let, A__law_program.m, A__law_program.fn.kp, b__law_program⟩
    have D__law_given : Df l.prog w K mg base "_law_given" (2) _ d__law_given ["_law_cell", "_law_names_here"] (spGiven K) := ⟨ok_given A__law_given.fn B.range D__law_mixed, A__law_given.m, A__law_given.fn.kp, b__law_given⟩
    have D__law_whole : Df l.prog w K mg base "_law_whole" (1) _ d__law_whole ["_law_found"] (spWhole) := ⟨ok_whole A__law_whole.fn B, A__law_whole.m, A__law_whole.fn.kp, b__law_whole⟩
    have D__law_alike : Df l.prog w K mg base "_law_alike" (101) _ d__law_alike ["_law_found", "_law_due"] (spAlike K 100) := ⟨all_alike A__law_alike.fn A__law_alike.m b__law_alike B D__law_whole 100, A__law_alike.m, A__law_alike.fn.kp, b__law_alike⟩
    have D__law_copied : Df l.prog w K mg base "_law_copied" (50) _ d__law_copied ["_law_rows"] (spCopied K 50) := ⟨all_copied A__law_copied.fn A__law_copied.m b__law_copied B.len 50, A__law_copied.m, A__law_copied.fn.kp, b__law_copied⟩
    have D__law_same_values : Df l.prog w K mg base "_law_same_values" (2) _ d__law_same_values ["_law_found", "_law_due"] (spSame K) := ⟨ok_same A__law_same_values.fn B md D__law_whole, A__law_same_values.m, A__law_same_values.fn.kp, b__law_same_values⟩
    have D__law_value_of : Df l.prog w K mg base "_law_value_of" (1) _ d__law_value_of ["_law_thing", "_law_tale_here"] (spLVal) := ⟨ok_lval A__law_value_of.fn B, A__law_value_of.m, A__law_value_of.fn.kp, b__law_value_of⟩
    have D__law_step : Df l.prog w K mg base "_law_step" (1) _ d__law_step ["_law_tale_here"] (spLStep) := ⟨ok_lstep A__law_step.fn, A__law_step.m, A__law_step.fn.kp, b__law_step⟩
    have D__law_let_done : Df l.prog w K mg base "_law_let_done" (2) _ d__law_let_done ["_law_row", "_law_tale_here"] (spLLet K) := ⟨ok_llet A__law_let_done.fn B.int D__law_value_of, A__law_let_done.m, A__law_let_done.fn.kp, b__law_let_done⟩
    have LD := all_ldone (P := l.prog) (w := w) (base := base) B.int D__law_value_of D__law_step D__law_let_done A__law_row_done.fn A__law_row_done.m b__law_row_done A__law_done.fn A__law_done.m b__law_done 41
    have D__law_tale : Df l.prog w K mg base "_law_tale" (85) _ d__law_tale ["_law_rows", "_law_given_here", "_law_most"] (spLTale K 41) := ⟨ok_ltale A__law_tale.fn md LD, A__law_tale.m, A__law_tale.fn.kp, b__law_tale⟩
    exact ok_law A_law.fn B md (bn (by decide +kernel)) D__law_cell_at D__law_names D__law_program D__law_copied D__law_alike D__law_same_values D__law_tale D_run D__law_given D__law_mixed
end Lm
namespace Lm
open PySem PySem.Spec PyProof.Rows L2 GxR
def loose0 : List PySem.Str := ["ROUND", "DONE", "TOO_LONG", "BY_NOUGHT", "come_to", "Progress", "run", "_law_cell_at", "_law_mixed", "_law_names", "_law_value", "_law_let", "_law_closed", "_law_opened"]
def loose1 : List PySem.Str := ["_law_program", "_law_given", "_law_whole", "_law_alike", "_law_copied", "_law_value_of", "_law_step", "_law_let_done", "_law_row_done", "_law_done", "_law_tale", "_law_same_values"]
/-- the names that the top binds besides the law -/
def loose : List PySem.Str := loose0 ++ loose1
abbrev R : PySem.W.OpenRow := PySem.W.OpenLaw.row PySem.Challenge.rw_loopmover_k05_blocks_run
abbrev hk : PySem.W.Hook := He.hookX 4 fa fn ts tf ex
def ob (s : PySem.W.SharedT) : He.AlX := He.obsX 4 fa fn ts tf ex (HandSHeadRun.getT s)
theorem ob_eq (s : PySem.W.SharedT) : ob s = hk.obs s.abs := He.obsX_eq (HandSHeadRun.getT_eq s)
set_option maxHeartbeats 0 in
theorem runF (w : World) : HandSHeadRun.RunEq R (PySem.W.view R.prog [28]) hk ob 3000 loose (w.withFollow "special-get-raises" false) := by
  intro os
  kernel_rfl
set_option maxHeartbeats 0 in
theorem runT (w : World) : HandSHeadRun.RunEq R (PySem.W.view R.prog [28]) hk ob 3000 loose (w.withFollow "special-get-raises" true) := by
  intro os
  kernel_rfl
theorem run (w : World) : HandSHeadRun.RunEq R (PySem.W.view R.prog [28]) hk ob 3000 loose w := PySem.W.byRow2 "special-get-raises" (P := fun w => HandSHeadRun.RunEq R (PySem.W.view R.prog [28]) hk ob 3000 loose w) runF runT w
end Lm
open PySem PySem.W PySem.Calls PyProof.Rows
set_option maxRecDepth 100000 in
set_option maxHeartbeats 0 in
theorem PySem.Challenge.cw_loopmover_k05_blocks_run_holds : PySem.Challenge.rw_loopmover_k05_blocks_run.Holds := by
  w_on; o_law
  refine HandSHeadRun.head_any (r := OpenLaw.row PySem.Challenge.rw_loopmover_k05_blocks_run) (q := view (OpenLaw.row PySem.Challenge.rw_loopmover_k05_blocks_run).prog [28]) (H := Lm.hk) (ob := Lm.ob) (M := 3000) (loose := Lm.loose) (d := HandSHeadRun.topDef (OpenLaw.row PySem.Challenge.rw_loopmover_k05_blocks_run).prog 28) (kwd := []) Lm.ob_eq
    (by kernel_rfl) (fun s => by kernel_rfl) Lm.run (by kernel_rfl) (by kernel_rfl) (by kernel_rfl) (by rfl) (by first | assumption | decide +kernel) (by decide +kernel) ⟨rfl, rfl, rfl, rfl, rfl, by decide +kernel⟩ ?hw ?hc
  case hw => w_witness2
  case hc =>
    refine LamX.walk_ofTsE (l := PySem.Challenge.rw_loopmover_k05_blocks_run) (n := 63) (k := 128) (x := "_law_script") (CX := fun _ => L2.CX0) rfl (by decide) (by kernel_rfl) ⟨rfl, by decide, by decide⟩ ?F (fun _ _ _ _ _ z => z)
    intro w mg fl h Y G hmg0
    obtain ⟨K, KX, c⟩ := Y
    have hmg : mg ("law" : PySem.Str) = some (.ref fl) := by
      have e : (HandSHeadRun.topDef (OpenLaw.row PySem.Challenge.rw_loopmover_k05_blocks_run).prog 28).name = ("law" : PySem.Str) := by kernel_rfl
      rw [← e]
      exact hmg0
    exact ⟨K, KX, Lm.law_at KX G hmg c⟩
