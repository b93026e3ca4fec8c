import PyProof.Rows.All
import Wide.All
import OpenK.AllK
import Wide.FinOn
import HandS.Base
import HandS.Call
import HandS.List
import HandS.Words
import HandS.WordsList
import HandS.Text
import HandS.Comp
import HandS.IsInst
import HandS.AnyAll
import HandS.Set
import HandS.SetKeys
import HandS.Style
import HandS.Dict
import HandS.Walk
import HandS.WordsDict
import HandS.More
import HandS.Codes
import HandS.DictComp
import HandS.EndTab
import HandS.HeadWalk
import HandS.HeadHook4
import HandS.Head0
import HandS.Head1
import HandS.Head2
import HandS.HeadEnd
import PySem.Challenge.RW_loopmover_k08_one_loop_saves
set_option Elab.async false
set_option linter.all false
set_option maxRecDepth 100000
set_option maxHeartbeats 4000000
/-! Names, values and rows, in plain Lean. -/
namespace Lm
open PySem
/-- the words that no name is, by their codes -/
def bars : List (List Nat) := [[115, 97, 121], [119, 104, 101, 110], [108, 111, 111, 112], [97, 103, 97, 105, 110], [101, 110, 100]]
def sameL : List Nat → List Nat → Bool
  | [], [] => true
  | a :: r, b :: s => Nat.beq a b && sameL r s
  | _, _ => false
theorem sameL_iff : ∀ {l m : List Nat}, sameL l m = true ↔ l = m
  | [], [] => by simp [sameL]
  | [], _ :: _ => by simp [sameL]
  | _ :: _, [] => by simp [sameL]
  | a :: r, b :: s => by
    show (Nat.beq a b && sameL r s) = true ↔ _
    rw [Bool.and_eq_true, sameL_iff, Nat.beq_eq, List.cons.injEq]
def isBar (l : List Nat) : Bool := bars.any (sameL l)
def lettersB : List Nat → Bool
  | [] => true
  | c :: r => Nat.ble 97 c && (Nat.ble c 122 && lettersB r)
/-- codes that make a name -/
def GoodL (l : List Nat) : Bool := Nat.ble 1 l.length && Nat.ble l.length 6 && lettersB l && !isBar l
def Good (s : Str) : Prop := GoodL s.cps.toList = true
def ltr (i : Nat) : Nat := 97 + i % 26
/-- six letters, five apart -/
def tailN (c : Nat) : List Nat := [ltr (c + 1), ltr (c + 6), ltr (c + 11), ltr (c + 16), ltr (c + 21), ltr (c + 26)]
/-- one letter in the place of one of the six -/
def w1 (c k place size : Nat) : List Nat := (tailN c).take place ++ ltr (c + 5 * k) :: ((tailN c).drop (place + 1)).take (size - (place + 1))
def w2 (c k t : Nat) : List Nat := ltr (c + 7 * (k / 4)) :: (tailN c).take (k % 4 + t)
def w0 (a u m : Nat) : List Nat := ltr a :: [ltr u, ltr (u + 3), ltr (u + 6), ltr (u + 9), ltr (u + 12)].take m
def below (n : Nat) (f : Nat → Bool) : Bool := (List.range n).all f
theorem below_at {n : Nat} {f : Nat → Bool} (h : below n f = true) {i : Nat} (hi : i < n) : f i = true :=
  List.all_eq_true.mp h i (List.mem_range.mpr hi)
theorem w1_all : below 26 (fun c => below 16 fun k => below 7 fun size => below size fun place => GoodL (w1 c k place size)) = true := by decide +kernel
theorem w2_all : below 26 (fun c => below 16 fun k => below 3 fun t => GoodL (w2 c k t)) = true := by decide +kernel
theorem w0_all : below 26 (fun a => below 26 fun u => below 6 fun m => GoodL (w0 a u m)) = true := by decide +kernel
theorem w1_ok {c k place size : Nat} (h1 : c < 26) (h2 : k < 16) (h3 : size < 7) (h4 : place < size) : GoodL (w1 c k place size) = true :=
  below_at (below_at (below_at (below_at w1_all h1) h2) h3) h4
theorem w2_ok {c k t : Nat} (h1 : c < 26) (h2 : k < 16) (h3 : t < 3) : GoodL (w2 c k t) = true := below_at (below_at (below_at w2_all h1) h2) h3
theorem w0_ok {a u m : Nat} (h1 : a < 26) (h2 : u < 26) (h3 : m < 6) : GoodL (w0 a u m) = true := below_at (below_at (below_at w0_all h1) h2) h3
end Lm
/-! Rows as they stand in the heap. -/
namespace Lm
open PySem L2
/-- a def that lets nothing out, as its callers need it -/
structure Df (P : Program) (w : World) (K : PySem.W.Frag) (mg : Str → Option Value) (base : Heap) (x : Str) (k : Nat) (f : Addr) (fd : FuncData) (ps : List Str) (sp : Sp) : Prop where
  ok : FnOk P w K mg base CX0 k f fd ps sp
  m : mg x = some (.ref f)
  kp : PySem.W.keepIn K (.ref f) = true
  b : Binds K fd ps []
theorem pe_df {X : Cx} {x : Str} {k : Nat} {f : Addr} {fd : FuncData} {ps : List Str} {sp : Sp} {e : Expr} {es : List Expr} {p pos : Pos} {t : TA} (D : Df X.prog X.w X.K X.mg X.base x k f fd ps sp) (hr : Room k X.A) (ha : PA X (e :: es) t) (hg : Gl X x := by rfl)
    (hdb : (x == ("__debug__" : Str)) = false := by decide) (he : starEach (e :: es) X.env = (false, eval e X.env) :: starEach es X.env := by rfl) (hpl : (backTo pos (starEach es X.env)).any (·.1) = false := by rfl) :
    PE X (.Call (.Name x p) (e :: es) [] pos) (tCall sp [] E0 t) := pe_call D.ok hr hg D.m D.kp D.b .nil pass0 ha hdb he hpl
/-- no test in a comprehension -/
theorem kept {A B : Prop} (h : A) : (fun b : Bool => if b = true then A else B) true := by
  show if true = true then A else B
  rw [if_pos rfl]
  exact h
/-- a value of a row: a name or a number -/
inductive Vl where
  | nm (s : Str)
  | nu (i : Int)
def Vl.v : Vl → V
  | .nm s => .str s
  | .nu i => .int i
def Vl.ok (ss : List Str) : Vl → Prop
  | .nm s => s ∈ ss
  | .nu i => 0 ≤ i ∧ i < 1000000
/-- a row; a block's test is any value -/
inductive Row where
  | lt (to sg : Str) (a b : Vl)
  | sy (a : Vl)
  | bk (kd : Str) (ts : V) (rs : List Row)
def signs : List Str := ["+", "-", "*", "<", "/"]
def kinds : List Str := ["when", "loop", "again"]
mutual
/-- the rows lean on the names ss alone, no list in them is long -/
def Row.ok (ss : List Str) : Row → Prop
  | .lt to sg a b => to ∈ ss ∧ sg ∈ signs ∧ a.ok ss ∧ b.ok ss
  | .sy a => a.ok ss
  | .bk kd ts rs => kd ∈ kinds ∧ (∃ s, ts = .str s ∧ s ∈ ss) ∧ rs.length ≤ 2000 ∧ oks ss rs
def oks (ss : List Str) : List Row → Prop
  | [] => True
  | r :: rs => r.ok ss ∧ oks ss rs
end
mutual
def Row.dep : Row → Nat
  | .lt _ _ _ _ => 0
  | .sy _ => 0
  | .bk _ _ rs => deps rs + 1
def deps : List Row → Nat
  | [] => 0
  | r :: rs => max r.dep (deps rs)
end
mutual
/-- how many rows -/
def Row.tot : Row → Nat
  | .lt _ _ _ _ => 1
  | .sy _ => 1
  | .bk _ _ rs => tots rs + 1
def tots : List Row → Nat
  | [] => 0
  | r :: rs => r.tot + tots rs
end
theorem Row.tot_pos : ∀ r : Row, 1 ≤ r.tot
  | .lt _ _ _ _ => Nat.le_refl 1
  | .sy _ => Nat.le_refl 1
  | .bk _ _ rs => by
    show 1 ≤ tots rs + 1
    omega
theorem tots_app : ∀ {rs qs : List Row}, tots (rs ++ qs) = tots rs + tots qs
  | [], qs => (Nat.zero_add _).symm
  | r :: rs, qs => by
    show r.tot + tots (rs ++ qs) = (r.tot + tots rs) + tots qs
    rw [tots_app, Nat.add_assoc]
theorem len_tots : ∀ rs : List Row, rs.length ≤ tots rs
  | [] => Nat.le_refl 0
  | r :: rs => by
    have h1 := r.tot_pos
    have h2 := len_tots rs
    show rs.length + 1 ≤ r.tot + tots rs
    omega
mutual
/-- the row stands at v -/
def RowAt (K : PySem.W.Frag) (H : Hp) : Row → V → Prop
  | .lt to sg a b, v => ∃ p, v = .ref p ∧ SqT K H p [.str "let", .str to, .str sg, a.v, b.v]
  | .sy a, v => ∃ p, v = .ref p ∧ SqT K H p [.str "say", a.v]
  | .bk kd ts rs, v => ∃ p l vs, v = .ref p ∧ SqT K H p [.str kd, ts, .ref l] ∧ SqL K H l vs ∧ AllAt K H rs vs
def AllAt (K : PySem.W.Frag) (H : Hp) : List Row → List V → Prop
  | [], vs => vs = []
  | r :: rs, vs => ∃ v ws, vs = v :: ws ∧ RowAt K H r v ∧ AllAt K H rs ws
end
/-- the rows stand in the list at l -/
def RowsAt (K : PySem.W.Frag) (H : Hp) (l : Addr) (rs : List Row) : Prop := ∃ vs, SqL K H l vs ∧ AllAt K H rs vs
/-- the same, in a list of the heap's own -/
def RowsL (K : PySem.W.Frag) (H : Hp) (l : Addr) (rs : List Row) : Prop := ∃ vs, H l = some (.lst vs) ∧ AllAt K H rs vs
theorem RowsL.rows {K : PySem.W.Frag} {H : Hp} {l : Addr} {rs : List Row} (h : RowsL K H l rs) : RowsAt K H l rs := let ⟨vs, h1, h2⟩ := h; ⟨vs, SqL.of h1, h2⟩
/-- what stood stands; tables may have grown -/
structure Kp (H H' : Hp) : Prop where
  at_ : ∀ b o, H b = some o → (∀ ps, o ≠ .tbl ps) → H' b = some o
  tb : ∀ b ps, H b = some (.tbl ps) → ∃ qs, H' b = some (.tbl qs)
theorem Same.kp {H H' : Hp} (h : Same H H') : Kp H H' := ⟨fun b o e _ => h b o e, fun b ps e => ⟨ps, h _ _ e⟩⟩
theorem Kp.refl (H : Hp) : Kp H H := Same.kp (Same.refl H)
theorem Kp.trans {H H1 H2 : Hp} (a : Kp H H1) (b : Kp H1 H2) : Kp H H2 := ⟨fun c o e n => b.at_ c o (a.at_ c o e n) n, fun c ps e => let ⟨qs, q⟩ := a.tb c ps e; b.tb c qs q⟩
theorem Kp.free {H H' : Hp} (k : Kp H H') {p : Addr} (h : H' p = none) : H p = none := by
  cases q : H p with
  | none => rfl
  | some o =>
    cases o with
    | tbl ps =>
      obtain ⟨qs, e⟩ := k.tb p ps q
      rw [h] at e
      cases e
    | _ =>
      have e := k.at_ p _ q (fun ps z => by cases z)
      rw [h] at e
      cases e
theorem Kp.put {H H' : Hp} (k : Kp H H') {p : Addr} (h : H p = none) (o : HO) : Kp H (upd H' p o) := ⟨fun b u e n => by rw [upd_ne (ne_of_none e h)]; exact k.at_ b u e n, fun b ps e => by rw [upd_ne (ne_of_none e h)]; exact k.tb b ps e⟩
theorem same_new {H : Hp} {p : Addr} (h : H p = none) (o : HO) : Same H (upd H p o) := fun b u q => by rw [upd_ne (ne_of_none q h)]; exact q
theorem Kp.sqL {K : PySem.W.Frag} {H H' : Hp} {a : Addr} {xs : List V} (e : Kp H H') (h : SqL K H a xs) : SqL K H' a xs := by
  rcases h with (h | ⟨o, h⟩) | h
  · exact .inl (.inl (e.at_ _ _ h (fun _ q => by cases q)))
  · exact .inl (.inr ⟨o, e.at_ _ _ h (fun _ q => by cases q)⟩)
  · exact .inr h
theorem Kp.sqT {K : PySem.W.Frag} {H H' : Hp} {a : Addr} {xs : List V} (e : Kp H H') (h : SqT K H a xs) : SqT K H' a xs := by
  rcases h with (h | ⟨o, h⟩) | h
  · exact .inl (.inl (e.at_ _ _ h (fun _ q => by cases q)))
  · exact .inl (.inr ⟨o, e.at_ _ _ h (fun _ q => by cases q)⟩)
  · exact .inr h
mutual
theorem RowAt.mono {K : PySem.W.Frag} {H H' : Hp} (e : Kp H H') : ∀ (r : Row) (v : V), RowAt K H r v → RowAt K H' r v
  | .lt _ _ _ _, _, ⟨p, h1, h2⟩ => ⟨p, h1, e.sqT h2⟩
  | .sy _, _, ⟨p, h1, h2⟩ => ⟨p, h1, e.sqT h2⟩
  | .bk _ _ rs, _, ⟨p, l, vs, h1, h2, h3, h4⟩ => ⟨p, l, vs, h1, e.sqT h2, e.sqL h3, AllAt.mono e rs vs h4⟩
theorem AllAt.mono {K : PySem.W.Frag} {H H' : Hp} (e : Kp H H') : ∀ (rs : List Row) (vs : List V), AllAt K H rs vs → AllAt K H' rs vs
  | [], _, h => h
  | r :: rs, _, ⟨v, ws, h1, h2, h3⟩ => ⟨v, ws, h1, RowAt.mono e r v h2, AllAt.mono e rs ws h3⟩
end
theorem RowsAt.mono {K : PySem.W.Frag} {H H' : Hp} (e : Kp H H') {l : Addr} {rs : List Row} (h : RowsAt K H l rs) : RowsAt K H' l rs :=
  let ⟨vs, h1, h2⟩ := h; ⟨vs, e.sqL h1, AllAt.mono e rs vs h2⟩
theorem RowsL.mono {K : PySem.W.Frag} {H H' : Hp} (e : Kp H H') {l : Addr} {rs : List Row} (h : RowsL K H l rs) : RowsL K H' l rs :=
  let ⟨vs, h1, h2⟩ := h; ⟨vs, e.at_ _ _ h1 (fun _ q => by cases q), AllAt.mono e rs vs h2⟩
theorem AllAt.len {K : PySem.W.Frag} {H : Hp} : ∀ {rs : List Row} {vs : List V}, AllAt K H rs vs → vs.length = rs.length
  | [], _, h => by
    have e : _ = [] := h
    rw [e]
    rfl
  | r :: rs, _, ⟨v, ws, h1, _, h3⟩ => by rw [h1, List.length_cons, List.length_cons, AllAt.len h3]
theorem AllAt.app {K : PySem.W.Frag} {H : Hp} : ∀ {rs qs : List Row} {vs ws : List V}, AllAt K H rs vs → AllAt K H qs ws → AllAt K H (rs ++ qs) (vs ++ ws)
  | [], _, _, _, h, q => by
    have e : _ = [] := h
    rw [e]
    exact q
  | r :: rs, _, _, _, ⟨v, us, h1, h2, h3⟩, q => by
    rw [h1]
    exact ⟨v, us ++ _, rfl, h2, AllAt.app h3 q⟩
theorem AllAt.one {K : PySem.W.Frag} {H : Hp} {r : Row} {v : V} (h : RowAt K H r v) : AllAt K H [r] [v] := ⟨v, [], rfl, h, rfl⟩
theorem AllAt.at {K : PySem.W.Frag} {H : Hp} : ∀ {rs : List Row} {vs : List V} {i : Nat} {v : V}, AllAt K H rs vs → vs[i]? = some v → ∃ r, rs[i]? = some r ∧ RowAt K H r v
  | [], _, i, v, h, e => by
    have e' : _ = [] := h
    rw [e'] at e
    cases e
  | r :: rs, _, 0, v, ⟨v', ws, h1, h2, h3⟩, e => by
    rw [h1] at e
    cases e
    exact ⟨r, rfl, h2⟩
  | r :: rs, _, i + 1, v, ⟨v', ws, h1, h2, h3⟩, e => by
    rw [h1] at e
    exact AllAt.at (rs := rs) h3 (by simpa using e)
theorem oks_app {ss : List Str} : ∀ {rs qs : List Row}, oks ss rs → oks ss qs → oks ss (rs ++ qs)
  | [], _, _, q => q
  | _ :: _, _, ⟨h1, h2⟩, q => ⟨h1, oks_app h2 q⟩
theorem oks_at {ss : List Str} : ∀ {rs : List Row} {i : Nat} {r : Row}, oks ss rs → rs[i]? = some r → r.ok ss
  | [], _, _, _, e => by cases e
  | _ :: _, 0, _, h, e => by
    cases e
    exact h.1
  | _ :: _, _ + 1, _, h, e => oks_at h.2 e
theorem deps_app : ∀ {rs qs : List Row}, deps (rs ++ qs) = max (deps rs) (deps qs)
  | [], qs => by
    show deps qs = max 0 (deps qs)
    omega
  | r :: rs, qs => by
    show max r.dep (deps (rs ++ qs)) = max (max r.dep (deps rs)) (deps qs)
    rw [deps_app]
    omega
theorem dep_at : ∀ {rs : List Row} {i : Nat} {r : Row}, rs[i]? = some r → r.dep ≤ deps rs
  | [], _, _, e => by cases e
  | r :: rs, 0, _, e => by
    cases e
    exact Nat.le_max_left _ _
  | r :: rs, _ + 1, _, e => Nat.le_trans (dep_at (rs := rs) e) (Nat.le_max_right _ _)
/-- built-in names that the top leaves alone -/
structure Bn (mg : Str → Option Value) : Prop where
  len : mg "len" = none
  range : mg "range" = none
  isinstance : mg "isinstance" = none
  list : mg "list" = none
  tuple : mg "tuple" = none
  str : mg "str" = none
  int : mg "int" = none
  bool : mg "bool" = none
  all : mg "all" = none
end Lm
/-! The sixteen names. -/
namespace Lm
open PySem L2
def abc : Str := "abcdefghijklmnopqrstuvwxyz"
theorem abc_all : below 26 (fun n => abc.cps.toList[n]? == some (97 + n)) = true := by decide +kernel
theorem abc_at {z : Int} (h0 : 0 ≤ z) (h1 : z < 26) : atI abc.cps.toList z = some (97 + z.toNat) :=
  at_nat' h0 (by simpa using below_at abc_all (i := z.toNat) (by omega))
where
  at_nat' {xs : List Nat} {z : Int} {v : Nat} (h0 : 0 ≤ z) (h : xs[z.toNat]? = some v) : atI xs z = some v := by
    have q : atI xs ((z.toNat : Nat) : Int) = some v := atI_nat h
    rw [show ((z.toNat : Nat) : Int) = z by omega] at q
    exact q
theorem yes {σ : St} {H : Hp} {Q : Bool → Hp → Prop} (h : Q true H) : tYes σ H Q := h
/-- one letter as a text -/
def one (n : Nat) : Str := ⟨#[n]⟩
theorem abc_mod (z : Int) : atI abc.cps.toList (z % 26) = some (97 + (z % 26).toNat) := abc_at (Int.emod_nonneg _ (by decide)) (Int.emod_lt_of_pos _ (by decide))
theorem ltr_int (c : Int) (m : Nat) : 97 + ((c + (m : Int)) % 26).toNat = ltr ((c % 26).toNat + m) := by
  unfold ltr
  omega
theorem app_toList (x y : Str) : (x ++ y).cps.toList = x.cps.toList ++ y.cps.toList := by
  show (x.cps ++ y.cps).toList = _
  simp
theorem len_toList (x : Str) : x.length = x.cps.toList.length := by simp [Str.length]
theorem one_toList (n : Nat) : (one n).cps.toList = [n] := rfl
theorem cut_head (z : Str) (k : Nat) (h : k ≤ z.length) : (cutS z none (some (k : Int))).cps.toList = z.cps.toList.take k := by
  unfold cutS
  rw [HT.sIx_nat]
  show ((z.cps.toList.drop 0).take (min k z.length - 0)).toArray.toList = _
  rw [List.drop_zero, Nat.sub_zero, Nat.min_eq_left h]
theorem cut_mid (z : Str) (j k : Nat) (h : j ≤ z.length) (h2 : k ≤ z.length) : (cutS z (some (j : Int)) (some (k : Int))).cps.toList = (z.cps.toList.drop j).take (k - j) := by
  unfold cutS
  rw [HT.sIx_nat, HT.sIx_nat, Nat.min_eq_left h, Nat.min_eq_left h2]
theorem cut_len (z : Str) (lo hi : Option Int) : (cutS z lo hi).length ≤ z.length := by
  rw [len_toList, len_toList z]
  unfold cutS
  simp only [List.toList_toArray, List.length_take, List.length_drop]
  omega
theorem good_len {s : Str} (h : Good s) : 1 ≤ s.length ∧ s.length ≤ 6 := by
  unfold Good GoodL at h
  simp only [Bool.and_eq_true] at h
  obtain ⟨⟨⟨h1, h2⟩, _⟩, _⟩ := h
  rw [len_toList]
  exact ⟨Nat.le_of_ble_eq_true h1, Nat.le_of_ble_eq_true h2⟩
theorem app_len (x y : Str) : (x ++ y).length = x.length + y.length := by
  rw [len_toList, app_toList, List.length_append, ← len_toList, ← len_toList]
/-- the six letters as a text -/
def tailS (c : Nat) : Str := ⟨#[ltr (c + 1), ltr (c + 6), ltr (c + 11), ltr (c + 16), ltr (c + 21), ltr (c + 26)]⟩
theorem tailS_list (c : Nat) : (tailS c).cps.toList = tailN c := rfl
theorem tailS_len (c : Nat) : (tailS c).length = 6 := rfl
/-- the first i of the six letters, one a text -/
def tl (c : Nat) (i : Nat) : List Str := [one (ltr (c + 1)), one (ltr (c + 6)), one (ltr (c + 11)), one (ltr (c + 16)), one (ltr (c + 21)), one (ltr (c + 26))].take i
theorem tl_more (c : Nat) : ∀ i : Nat, i < 6 → tl c (i + 1) = tl c i ++ [one (ltr (c + (5 * i + 1)))]
  | 0, _ => rfl
  | 1, _ => rfl
  | 2, _ => rfl
  | 3, _ => rfl
  | 4, _ => rfl
  | 5, _ => rfl
  | _ + 6, h => absurd h (by omega)
theorem tl_len (c : Nat) {i : Nat} (h : i ≤ 6) : (tl c i).length = i := by
  unfold tl
  rw [List.length_take]
  show min i 6 = i
  omega
theorem nul_str : ("" : Str) = Str.empty := by decide +kernel
theorem tl_join (c : Nat) : Txt.join "" (tl c 6) = tailS c := by
  rw [nul_str]
  show Builtin.Str.glued Str.empty (tl c 6) = tailS c
  unfold tl tailS one Builtin.Str.glued Str.empty
  simp
theorem tl_sum (c : Nat) : ((tl c 6).map (·.length)).sum + (tl c 6).length * Str.length ("" : Str) ≤ 16777216 := by
  rw [nul_str]
  show 6 + 6 * 0 ≤ 16777216
  decide
theorem w0_more (a u : Nat) : ∀ i : Nat, i < 5 → w0 a u (i + 1) = w0 a u i ++ [ltr (u + 3 * i)]
  | 0, _ => rfl
  | 1, _ => rfl
  | 2, _ => rfl
  | 3, _ => rfl
  | 4, _ => rfl
  | _ + 5, h => absurd h (by omega)
theorem w0_len (a u : Nat) {i : Nat} (h : i < 6) : (w0 a u i).length = i + 1 := by
  unfold w0
  rw [List.length_cons, List.length_take]
  show min i 5 + 1 = i + 1
  omega
/-- the words that may stand for a name -/
def tens : List Str := ["whens", "essay", "reloop", "let", "ends", "sayer", "loops", "send", "agains", "awhen"]
theorem tens_good : ∀ s ∈ tens, Good s := by
  have h : tens.all (fun s => GoodL s.cps.toList) = true := by decide +kernel
  exact fun s hs => List.all_eq_true.mp h s hs
/-- case by case, the word of one turn -/
theorem word1 {c : Nat} (hc : c < 26) {k place size : Nat} (hk : k < 16) (hs : size < 7) (hp : place < size) :
    Good (cutS (tailS c) none (some (place : Int)) ++ one (ltr (c + 5 * k)) ++ cutS (tailS c) (some ((place : Int) + 1)) (some (size : Int))) := by
  have e : ((place : Int) + 1) = ((place + 1 : Nat) : Int) := by omega
  unfold Good
  rw [app_toList, app_toList, cut_head _ _ (by rw [tailS_len]; omega), e, cut_mid _ _ _ (by rw [tailS_len]; omega) (by rw [tailS_len]; omega), one_toList, tailS_list, List.append_assoc]
  exact w1_ok hc hk hs hp
theorem word2 {c : Nat} (hc : c < 26) {k t : Nat} (hk : k < 16) (ht : t < 3) : Good (one (ltr (c + 7 * (k / 4))) ++ cutS (tailS c) none (some ((k % 4 + t : Nat) : Int))) := by
  unfold Good
  rw [app_toList, cut_head _ _ (by rw [tailS_len]; omega), one_toList, tailS_list]
  exact w2_ok hc hk ht
end Lm
/-! A program while it is built: lists that are open, one in another, on a stack. -/
namespace Lm
open PySem L2
/-- the open lists around `child`, from within outwards; Hc: what is closed -/
def Outs (K : PySem.W.Frag) (ss : List Str) (m : Nat) (Hc H : Hp) : Addr → List (Addr × List Row) → Prop
  | _, [] => True
  | child, q :: o => (∃ (vs : List V) (t : Addr) (kd ts : Str), H q.1 = some (.lst (vs ++ [.ref t])) ∧ AllAt K Hc q.2 vs ∧ Hc t = some (.tup [.str kd, .str ts, .ref child]) ∧ kd ∈ kinds ∧ ts ∈ ss) ∧
    oks ss q.2 ∧ q.2.length ≤ m ∧ deps q.2 + o.length ≤ 3 ∧ Outs K ss m Hc H q.1 o
theorem Outs.mono {K : PySem.W.Frag} {ss : List Str} {m m' : Nat} {Hc Hc' H H' : Hp} (hm : m ≤ m') (hs : Same Hc Hc') : ∀ {o : List (Addr × List Row)} {c : Addr}, (∀ b ∈ o.map (·.1), H' b = H b) → Outs K ss m Hc H c o → Outs K ss m' Hc' H' c o
  | [], _, _, _ => True.intro
  | q :: o, c, hb, ⟨⟨vs, t, kd, ts, h1, h2, h3, h4, h5⟩, h6, h7, h8, h9⟩ =>
    ⟨⟨vs, t, kd, ts, by rw [hb q.1 (by simp)]; exact h1, AllAt.mono (Same.kp hs) _ _ h2, hs _ _ h3, h4, h5⟩, h6, Nat.le_trans h7 hm, h8, Outs.mono hm hs (fun b h => hb b (by simp only [List.map_cons, List.mem_cons]; exact .inr h)) h9⟩
/-- how many rows stand in the open lists, their blocks with them -/
def outs : List (Addr × List Row) → Nat
  | [] => 0
  | q :: o => tots q.2 + 1 + outs o
/-- the open lists' addresses -/
abbrev opens (l : Addr) (o : List (Addr × List Row)) : List Addr := l :: o.map (·.1)
structure Prog (K : PySem.W.Frag) (ss : List Str) (m : Nat) (H0 Hc H : Hp) (S T l : Addr) (rs : List Row) (o : List (Addr × List Row)) (ts : List Str) : Prop where
  old : Same H0 Hc
  cl : Same Hc H
  inn : ∃ vs, H l = some (.lst vs) ∧ AllAt K Hc rs vs
  out : Outs K ss m Hc H l o
  no : ∀ b ∈ S :: T :: opens l o, Hc b = none
  nd : (S :: T :: opens l o).Nodup
  ok : oks ss rs
  dep : deps rs + o.length ≤ 3
  wid : rs.length ≤ m
  num : tots rs + outs o ≤ m
  st : H S = some (.lst ((opens l o).reverse.map V.ref))
  te : H T = some (.lst (ts.map V.str))
  tok : ∀ t ∈ ts, t = "" ∨ t ∈ ss
section
variable {K : PySem.W.Frag} {ss : List Str} {m : Nat} {H0 Hc H : Hp} {S T l : Addr} {rs : List Row} {o : List (Addr × List Row)} {ts : List Str}
theorem Outs.some : ∀ {o : List (Addr × List Row)} {c : Addr}, Outs K ss m Hc H c o → ∀ b ∈ o.map (·.1), ∃ xs, H b = some (.lst xs)
  | [], _, _, b, hb => by cases hb
  | q :: o, c, ⟨⟨vs, t, kd, ts, h1, _⟩, _, _, _, h9⟩, b, hb => by
    rcases List.mem_cons.mp (by simpa using hb : b ∈ q.1 :: o.map (·.1)) with e | e
    · rw [e]
      exact ⟨_, h1⟩
    · exact Outs.some h9 b e
theorem Prog.there (h : Prog K ss m H0 Hc H S T l rs o ts) : ∀ b ∈ S :: T :: opens l o, ∃ xs, H b = some (.lst xs) := fun b hb => by
  rcases List.mem_cons.mp hb with e | hb
  · rw [e]
    exact ⟨_, h.st⟩
  rcases List.mem_cons.mp hb with e | hb
  · rw [e]
    exact ⟨_, h.te⟩
  rcases List.mem_cons.mp hb with e | hb
  · rw [e]
    obtain ⟨vs, h1, _⟩ := h.inn
    exact ⟨_, h1⟩
  · exact Outs.some h.out b hb
theorem Prog.apart (h : Prog K ss m H0 Hc H S T l rs o ts) {p : Addr} (hp : H p = none) : ∀ b ∈ S :: T :: opens l o, b ≠ p := fun b hb => by
  obtain ⟨xs, e⟩ := h.there b hb
  exact ne_of_none e hp
theorem Prog.same (h : Prog K ss m H0 Hc H S T l rs o ts) : Same H0 H := h.old.trans h.cl
theorem Prog.more (h : Prog K ss m H0 Hc H S T l rs o ts) {m' : Nat} (hm : m ≤ m') : Prog K ss m' H0 Hc H S T l rs o ts :=
  { h with out := Outs.mono hm (Same.refl _) (fun _ _ => rfl) h.out, wid := Nat.le_trans h.wid hm, num := Nat.le_trans h.num hm }
/-- a new object that will not change -/
theorem Prog.alloc (h : Prog K ss m H0 Hc H S T l rs o ts) {p : Addr} (hp : H p = none) (u : HO) : Prog K ss m H0 (upd Hc p u) (upd H p u) S T l rs o ts := by
  have hcp : Hc p = none := h.cl.free hp
  have ap := h.apart hp
  have s1 : Same Hc (upd Hc p u) := same_new hcp u
  have ne : ∀ b ∈ S :: T :: opens l o, upd H p u b = H b := fun b hb => upd_ne (ap b hb)
  obtain ⟨vs, e1, e2⟩ := h.inn
  refine ⟨h.old.trans s1, fun b x hb => ?_, ⟨vs, ?_, AllAt.mono (Same.kp s1) _ _ e2⟩, Outs.mono (Nat.le_refl _) s1 (fun b hb => ne b ?_) h.out, fun b hb => ?_, h.nd, h.ok, h.dep, h.wid, h.num, ?_, ?_, h.tok⟩
  · by_cases e : b = p
    · rw [e, upd_same] at hb
      rw [e, upd_same]
      exact hb
    · rw [upd_ne e] at hb
      rw [upd_ne e]
      exact h.cl b x hb
  · rw [ne l (by simp)]
    exact e1
  · exact List.mem_cons_of_mem _ (List.mem_cons_of_mem _ (List.mem_cons_of_mem _ hb))
  · rw [upd_ne (ap b hb)]
    exact h.no b hb
  · rw [ne S (by simp)]
    exact h.st
  · rw [ne T (by simp)]
    exact h.te
theorem Prog.nST (h : Prog K ss m H0 Hc H S T l rs o ts) : S ≠ T ∧ S ≠ l ∧ T ≠ l ∧ (∀ b ∈ o.map (·.1), b ≠ S ∧ b ≠ T ∧ b ≠ l) := by
  have h1 := h.nd
  simp only [opens, List.nodup_cons, List.mem_cons, not_or] at h1
  obtain ⟨⟨a1, a2, a3⟩, ⟨b1, b2⟩, c1, _⟩ := h1
  exact ⟨a1, a2, b1, fun b hb => ⟨fun e => a3 (e ▸ hb), fun e => b2 (e ▸ hb), fun e => c1 (e ▸ hb)⟩⟩
/-- what is written to an open list, to the stack or to the tests leaves what is closed -/
theorem Prog.cl_upd (h : Prog K ss m H0 Hc H S T l rs o ts) {b : Addr} (hb : b ∈ S :: T :: opens l o) (u : HO) : Same Hc (upd H b u) := fun c x hc => by
  rw [upd_ne (ne_of_none hc (h.no b hb))]
  exact h.cl c x hc
/-- a row behind those of the innermost list -/
theorem Prog.app (h : Prog K ss m H0 Hc H S T l rs o ts) {r : Row} {v : V} {vs : List V} (hl : H l = some (.lst vs)) (hr : RowAt K Hc r v) (hok : r.ok ss) (hd : r.dep + o.length ≤ 3) (h1 : r.tot = 1) :
    Prog K ss (m + 1) H0 Hc (upd H l (.lst (vs ++ [v]))) S T l (rs ++ [r]) o ts := by
  obtain ⟨vs', e1, e2⟩ := h.inn
  have ev : vs' = vs := by
    have z := e1.symm.trans hl
    cases z
    rfl
  subst ev
  obtain ⟨n1, n2, n3, n4⟩ := h.nST
  refine ⟨h.old, h.cl_upd (by simp) _, ⟨_, upd_same, e2.app (AllAt.one hr)⟩, Outs.mono (Nat.le_succ _) (Same.refl _) (fun b hb => upd_ne (n4 b hb).2.2) h.out, h.no, h.nd, oks_app h.ok ⟨hok, True.intro⟩, ?_, ?_, ?_, ?_, ?_, h.tok⟩
  · rw [deps_app]
    have := h.dep
    show max (deps rs) (max r.dep 0) + o.length ≤ 3
    omega
  · rw [List.length_append]
    exact Nat.succ_le_succ h.wid
  · have := h.num
    rw [tots_app]
    show tots rs + (r.tot + 0) + outs o ≤ m + 1
    omega
  · rw [upd_ne n2]
    exact h.st
  · rw [upd_ne n3]
    exact h.te
theorem Prog.tests (h : Prog K ss m H0 Hc H S T l rs o ts) {ts' : List Str} (ht : ∀ t ∈ ts', t = "" ∨ t ∈ ss) : Prog K ss m H0 Hc (upd H T (.lst (ts'.map V.str))) S T l rs o ts' := by
  obtain ⟨vs, e1, e2⟩ := h.inn
  obtain ⟨n1, n2, n3, n4⟩ := h.nST
  exact ⟨h.old, h.cl_upd (by simp) _, ⟨vs, by rw [upd_ne n3.symm]; exact e1, e2⟩, Outs.mono (Nat.le_refl _) (Same.refl _) (fun b hb => upd_ne (n4 b hb).2.1) h.out, h.no, h.nd, h.ok, h.dep, h.wid, h.num, by rw [upd_ne n1]; exact h.st, upd_same, ht⟩
/-- a block opens: q its list, p its row -/
theorem Prog.push (h : Prog K ss m H0 Hc H S T l rs o ts) {p q : Addr} {kd te : Str} {vs : List V} (hl : H l = some (.lst vs)) (hq : H q = none) (hp : (upd H q (.lst [])) p = none) (hk : kd ∈ kinds) (hte : te ∈ ss) (h3 : o.length < 3) :
    Prog K ss (m + 1) H0 (upd Hc p (.tup [.str kd, .str te, .ref q])) (upd (upd (upd (upd H q (.lst [])) p (.tup [.str kd, .str te, .ref q])) l (.lst (vs ++ [.ref p]))) S (.lst ((opens l o).reverse.map V.ref ++ [.ref q]))) S T q [] ((l, rs) :: o) ts := by
  obtain ⟨vs', e1, e2⟩ := h.inn
  have ev : vs' = vs := by
    have z := e1.symm.trans hl
    cases z
    rfl
  subst ev
  obtain ⟨n1, n2, n3, n4⟩ := h.nST
  have npq : p ≠ q := fun e => by rw [e, upd_same] at hp; cases hp
  have hp0 : H p = none := by rw [upd_ne npq] at hp; exact hp
  have aq := h.apart hq
  have ap := h.apart hp0
  have hcp : Hc p = none := h.cl.free hp0
  have hcq : Hc q = none := h.cl.free hq
  have s1 : Same Hc (upd Hc p (.tup [.str kd, .str te, .ref q])) := same_new hcp _
  have mS : S ∈ S :: T :: opens l o := by simp
  have mT : T ∈ S :: T :: opens l o := by simp
  have ml : l ∈ S :: T :: opens l o := by simp
  have mo : ∀ b ∈ o.map (·.1), b ∈ S :: T :: opens l o := fun b hb => List.mem_cons_of_mem _ (List.mem_cons_of_mem _ (List.mem_cons_of_mem _ hb))
  refine ⟨h.old.trans s1, fun b x hb => ?_, ⟨[], ?_, rfl⟩, ⟨⟨vs', p, kd, te, ?_, AllAt.mono (Same.kp s1) _ _ e2, upd_same, hk, hte⟩, h.ok, Nat.le_succ_of_le h.wid, h.dep, Outs.mono (Nat.le_succ _) s1 (fun b hb => ?_) h.out⟩, fun b hb => ?_, ?_, True.intro, ?_, Nat.zero_le _, ?_, ?_, ?_, h.tok⟩
  · by_cases e : b = p
    · rw [e, upd_same] at hb
      rw [e, upd_ne (ap S mS).symm, upd_ne (ap l ml).symm, upd_same]
      exact hb
    · rw [upd_ne e] at hb
      have hS := ne_of_none hb (h.no S mS)
      have hL := ne_of_none hb (h.no l ml)
      have hQ := ne_of_none hb hcq
      rw [upd_ne hS, upd_ne hL, upd_ne e, upd_ne hQ]
      exact h.cl b x hb
  · rw [upd_ne (aq S mS).symm, upd_ne (aq l ml).symm, upd_ne npq.symm, upd_same]
  · rw [upd_ne n2.symm, upd_same]
  · obtain ⟨z1, z2, z3⟩ := n4 b hb
    rw [upd_ne z1, upd_ne z3, upd_ne (ap b (mo b hb)), upd_ne (aq b (mo b hb))]
  · have hb' : b = q ∨ b ∈ S :: T :: opens l o := by
      simp only [opens, List.map_cons, List.mem_cons] at hb ⊢
      rcases hb with e | e | e | e | e
      · exact .inr (.inl e)
      · exact .inr (.inr (.inl e))
      · exact .inl e
      · exact .inr (.inr (.inr (.inl e)))
      · exact .inr (.inr (.inr (.inr e)))
    rcases hb' with e | e
    · rw [e, upd_ne npq.symm]
      exact hcq
    · rw [upd_ne (ap b e)]
      exact h.no b e
  · have h1 := h.nd
    have hq1 : ¬ q ∈ S :: T :: opens l o := fun z => (aq q z) rfl
    simp only [opens, List.map_cons, List.nodup_cons, List.mem_cons, not_or] at h1 hq1 ⊢
    obtain ⟨⟨a1, a2, a3⟩, ⟨b1, b2⟩, c1, c2⟩ := h1
    obtain ⟨q1, q2, q3, q4⟩ := hq1
    exact ⟨⟨a1, Ne.symm q1, a2, a3⟩, ⟨Ne.symm q2, b1, b2⟩, ⟨q3, q4⟩, c1, c2⟩
  · show 0 + (o.length + 1) ≤ 3
    omega
  · have := h.num
    show 0 + (tots rs + 1 + outs o) ≤ m + 1
    omega
  · rw [upd_same]
    simp [opens]
  · rw [upd_ne n1.symm, upd_ne n3, upd_ne (ap T mT), upd_ne (aq T mT)]
    exact h.te
theorem Prog.pushes (h : Prog K ss m H0 Hc H S T l rs o ts) {p q : Addr} (kd te : Str) {vs : List V} (hl : H l = some (.lst vs)) (hq : H q = none) (hp : (upd H q (.lst [])) p = none) :
    (upd (upd H q (.lst [])) p (.tup [.str kd, .str te, .ref q])) l = some (.lst vs) ∧
    (upd (upd (upd H q (.lst [])) p (.tup [.str kd, .str te, .ref q])) l (.lst (vs ++ [.ref p]))) S = some (.lst ((opens l o).reverse.map V.ref)) ∧
    (upd (upd (upd H q (.lst [])) p (.tup [.str kd, .str te, .ref q])) l (.lst (vs ++ [.ref p]))) p = some (.tup [.str kd, .str te, .ref q]) := by
  have npq : p ≠ q := fun e => by rw [e, upd_same] at hp; cases hp
  have hp0 : H p = none := by rw [upd_ne npq] at hp; exact hp
  have aq := h.apart hq
  have ap := h.apart hp0
  obtain ⟨n1, n2, n3, n4⟩ := h.nST
  refine ⟨?_, ?_, ?_⟩
  · rw [upd_ne (ap l (by simp)), upd_ne (aq l (by simp))]
    exact hl
  · rw [upd_ne n2, upd_ne (ap S (by simp)), upd_ne (aq S (by simp))]
    exact h.st
  · rw [upd_ne (ap l (by simp)).symm, upd_same]
theorem Prog.roomS (h : Prog K ss m H0 Hc H S T l rs o ts) : ((opens l o).reverse.map V.ref).length < sizeLine := by
  have := h.dep
  rw [List.length_map, List.length_reverse]
  exact small1000 (by show (o.map (·.1)).length + 1 ≤ 1000; rw [List.length_map]; omega)
/-- a block closes -/
theorem Prog.pop {q : Addr × List Row} (h : Prog K ss m H0 Hc H S T l rs (q :: o) ts) (hm : m ≤ 2000) :
    ∃ Hc' kd te, Prog K ss (m + 1) H0 Hc' (upd H S (.lst ((opens q.1 o).reverse.map V.ref))) S T q.1 (q.2 ++ [.bk kd (.str te) rs]) o ts := by
  obtain ⟨vs, e1, e2⟩ := h.inn
  obtain ⟨⟨ws, t, kd, te, g1, g2, g3, g4, g5⟩, g6, g7, g8, g9⟩ := h.out
  obtain ⟨n1, n2, n3, n4⟩ := h.nST
  have hcl : Hc l = none := h.no l (by simp)
  have s1 : Same Hc (upd Hc l (.lst vs)) := same_new hcl _
  obtain ⟨z1, z2, z3⟩ := n4 q.1 (by simp)
  have nb : ∀ b ∈ o.map (·.1), b ≠ S ∧ b ≠ T ∧ b ≠ l := fun b hb => n4 b (by simp only [List.map_cons, List.mem_cons]; exact .inr hb)
  refine ⟨upd Hc l (.lst vs), kd, te, h.old.trans s1, fun b x hb => ?_, ⟨_, by rw [upd_ne z1]; exact g1, (AllAt.mono (Same.kp s1) _ _ g2).app (AllAt.one ⟨t, l, vs, rfl, SqT.of (s1 _ _ g3), SqL.of upd_same, AllAt.mono (Same.kp s1) _ _ e2⟩)⟩,
    Outs.mono (Nat.le_succ _) s1 (fun b hb => upd_ne (nb b hb).1) g9, fun b hb => ?_, ?_, oks_app g6 ⟨⟨g4, ⟨te, rfl, g5⟩, Nat.le_trans h.wid hm, h.ok⟩, True.intro⟩, ?_, ?_, ?_, upd_same, ?_, h.tok⟩
  · by_cases e : b = l
    · rw [e, upd_same] at hb
      rw [e, upd_ne n2.symm]
      exact e1.trans hb
    · rw [upd_ne e] at hb
      rw [upd_ne (ne_of_none hb (h.no S (by simp)))]
      exact h.cl b x hb
  · have hbl : b ≠ l := by
      rcases List.mem_cons.mp hb with e | hb
      · rw [e]; exact n2
      rcases List.mem_cons.mp hb with e | hb
      · rw [e]; exact n3
      rcases List.mem_cons.mp hb with e | hb
      · rw [e]; exact z3
      · exact (nb b hb).2.2
    rw [upd_ne hbl]
    refine h.no b ?_
    simp only [opens, List.map_cons, List.mem_cons] at hb ⊢
    rcases hb with e | e | e | e
    · exact .inl e
    · exact .inr (.inl e)
    · exact .inr (.inr (.inr (.inl e)))
    · exact .inr (.inr (.inr (.inr e)))
  · have h1 := h.nd
    simp only [opens, List.map_cons, List.nodup_cons, List.mem_cons, not_or] at h1 ⊢
    obtain ⟨⟨a1, a2, a3, a4⟩, ⟨b1, b2, b3⟩, c1, d1, d2⟩ := h1
    exact ⟨⟨a1, a3, a4⟩, ⟨b2, b3⟩, d1, d2⟩
  · have hd : deps rs + (o.length + 1) ≤ 3 := h.dep
    rw [deps_app]
    show max (deps q.2) (max (deps rs + 1) 0) + o.length ≤ 3
    omega
  · rw [List.length_append]
    exact Nat.succ_le_succ g7
  · have hn : tots rs + (tots q.2 + 1 + outs o) ≤ m := h.num
    rw [tots_app]
    show tots q.2 + (tots rs + 1 + 0) + outs o ≤ m + 1
    omega
  · rw [upd_ne n1.symm]
    exact h.te
end
end Lm
/-! Kinds of values; things that are alike; rows that are thin; rows in further blocks. -/
namespace Lm
open PySem L2
theorem ty_list {K : PySem.W.Frag} {H : Hp} {a : Addr} {xs : List V} (h : SqL K H a xs) : TyX K H (.ref a) (.type "list") := by
  rcases h with (h | ⟨o, h⟩) | ⟨o, its, n, h1, h2, _⟩
  · exact .base (.lst h)
  · exact .base (.frz h)
  · exact .kList h1 h2
theorem ty_tuple {K : PySem.W.Frag} {H : Hp} {a : Addr} {xs : List V} (h : SqT K H a xs) : TyX K H (.ref a) (.type "tuple") := by
  rcases h with (h | ⟨o, h⟩) | ⟨o, its, n, h1, h2, _⟩
  · exact .base (.tup h)
  · exact .fTuple h
  · exact .kTuple h1 h2
theorem ty_int {K : PySem.W.Frag} {H : Hp} (i : Int) : TyX K H (.int i) (.type "int") := .base (.int i)
theorem ty_str {K : PySem.W.Frag} {H : Hp} (x : Str) : TyX K H (.str x) (.type "str") := .base (.str x)
theorem ty_bl {K : PySem.W.Frag} {H : Hp} (b : Bool) : TyX K H (.bl b) (.type "bool") := .base (.bl b)
/-- x and y are data of one form, at most n deep -/
def Alk (K : PySem.W.Frag) (H : Hp) : Nat → V → V → Prop
  | 0, _, _ => False
  | n + 1, x, y => (∃ s, x = .str s ∧ y = .str s) ∨ (∃ i, x = .int i ∧ y = .int i) ∨
    (∃ p q xs ys, x = .ref p ∧ y = .ref q ∧ SqL K H p xs ∧ SqL K H q ys ∧ xs.length = ys.length ∧ xs.length ≤ 10000 ∧ ∀ (i : Nat) (a b : V), xs[i]? = some a → ys[i]? = some b → Alk K H n a b) ∨
    (∃ p q xs ys, x = .ref p ∧ y = .ref q ∧ SqT K H p xs ∧ SqT K H q ys ∧ xs.length = ys.length ∧ xs.length ≤ 10000 ∧ ∀ (i : Nat) (a b : V), xs[i]? = some a → ys[i]? = some b → Alk K H n a b)
theorem Alk.mono {K : PySem.W.Frag} {H H' : Hp} (e : Kp H H') : ∀ {n m : Nat} {x y : V}, n ≤ m → Alk K H n x y → Alk K H' m x y
  | 0, _, _, _, _, h => h.elim
  | _ + 1, 0, _, _, hm, _ => absurd hm (by omega)
  | n + 1, m + 1, x, y, hm, h => by
    rcases h with h | h | ⟨p, q, xs, ys, h1, h2, h3, h4, h5, h6, h7⟩ | ⟨p, q, xs, ys, h1, h2, h3, h4, h5, h6, h7⟩
    · exact .inl h
    · exact .inr (.inl h)
    · exact .inr (.inr (.inl ⟨p, q, xs, ys, h1, h2, e.sqL h3, e.sqL h4, h5, h6, fun i a b ha hb => Alk.mono e (Nat.le_of_succ_le_succ hm) (h7 i a b ha hb)⟩))
    · exact .inr (.inr (.inr ⟨p, q, xs, ys, h1, h2, e.sqT h3, e.sqT h4, h5, h6, fun i a b ha hb => Alk.mono e (Nat.le_of_succ_le_succ hm) (h7 i a b ha hb)⟩))
theorem Alk.up {K : PySem.W.Frag} {H : Hp} {n m : Nat} {x y : V} (h : Alk K H n x y) (hm : n ≤ m) : Alk K H m x y := h.mono (Kp.refl H) hm
theorem alk_str {K : PySem.W.Frag} {H : Hp} {n : Nat} (s : Str) : Alk K H (n + 1) (.str s) (.str s) := Or.inl ⟨s, rfl, rfl⟩
theorem alk_int {K : PySem.W.Frag} {H : Hp} {n : Nat} (i : Int) : Alk K H (n + 1) (.int i) (.int i) := Or.inr (.inl ⟨i, rfl, rfl⟩)
theorem alk_vl {K : PySem.W.Frag} {H : Hp} {n : Nat} : ∀ x : Vl, Alk K H (n + 1) x.v x.v
  | .nm s => alk_str s
  | .nu i => alk_int i
theorem get_nil {α : Type} {i : Nat} {a : α} (h : ([] : List α)[i]? = some a) : False := by simp at h
mutual
theorem RowAt.alk {K : PySem.W.Frag} {H : Hp} {ss : List Str} : ∀ (r : Row) {v u : V}, r.ok ss → RowAt K H r v → RowAt K H r u → Alk K H (2 * r.dep + 2) v u
  | .lt to sg x y, v, u, ok, ⟨p, h1, h2⟩, ⟨q, g1, g2⟩ => by
    refine Or.inr (.inr (.inr ⟨p, q, _, _, h1, g1, h2, g2, rfl, by simp, fun i a b ha hb => ?_⟩))
    rw [ha] at hb
    cases hb
    match i, ha with
    | 0, ha => cases ha; exact alk_str _
    | 1, ha => cases ha; exact alk_str _
    | 2, ha => cases ha; exact alk_str _
    | 3, ha => cases ha; exact alk_vl _
    | 4, ha => cases ha; exact alk_vl _
    | i + 5, ha => exact (get_nil (i := i) ha).elim
  | .sy x, v, u, ok, ⟨p, h1, h2⟩, ⟨q, g1, g2⟩ => by
    refine Or.inr (.inr (.inr ⟨p, q, _, _, h1, g1, h2, g2, rfl, by simp, fun i a b ha hb => ?_⟩))
    rw [ha] at hb
    cases hb
    match i, ha with
    | 0, ha => cases ha; exact alk_str _
    | 1, ha => cases ha; exact alk_vl _
    | i + 2, ha => exact (get_nil (i := i) ha).elim
  | .bk kd ts rs, v, u, ⟨_, ⟨s, es, _⟩, hlen, hok⟩, ⟨p, l, vs, h1, h2, h3, h4⟩, ⟨q, k, us, g1, g2, g3, g4⟩ => by
    refine Or.inr (.inr (.inr ⟨p, q, _, _, h1, g1, h2, g2, rfl, by simp, fun i a b ha hb => ?_⟩))
    match i, ha, hb with
    | 0, ha, hb => cases ha; cases hb; exact alk_str _
    | 1, ha, hb => cases ha; cases hb; rw [es]; exact alk_str _
    | 2, ha, hb =>
      cases ha; cases hb
      have d : (Row.bk kd ts rs).dep = deps rs + 1 := rfl
      rw [d]
      exact Or.inr (.inr (.inl ⟨l, k, vs, us, rfl, rfl, h3, g3, by rw [h4.len, g4.len], by rw [h4.len]; omega, fun i a b ha hb => AllAt.alk rs hok h4 g4 ha hb⟩))
    | i + 3, ha, hb => exact (get_nil (i := i) ha).elim
theorem AllAt.alk {K : PySem.W.Frag} {H : Hp} {ss : List Str} : ∀ (rs : List Row) {vs us : List V} {i : Nat} {a b : V}, oks ss rs → AllAt K H rs vs → AllAt K H rs us → vs[i]? = some a → us[i]? = some b → Alk K H (2 * deps rs + 2) a b
  | [], vs, us, i, a, b, _, h, _, ha, _ => by
    have e : vs = [] := h
    rw [e] at ha
    exact (get_nil ha).elim
  | r :: rs, _, _, 0, a, b, ok, ⟨v, ws, h1, h2, h3⟩, ⟨u, zs, g1, g2, g3⟩, ha, hb => by
    rw [h1] at ha
    rw [g1] at hb
    cases ha
    cases hb
    have d : deps (r :: rs) = max r.dep (deps rs) := rfl
    exact (RowAt.alk r ok.1 h2 g2).up (by omega)
  | r :: rs, _, _, i + 1, a, b, ok, ⟨v, ws, h1, h2, h3⟩, ⟨u, zs, g1, g2, g3⟩, ha, hb => by
    rw [h1] at ha
    rw [g1] at hb
    have d : deps (r :: rs) = max r.dep (deps rs) := rfl
    exact (AllAt.alk rs ok.2 h3 g3 (by simpa using ha) (by simpa using hb)).up (by omega)
end
theorem RowsAt.alk {K : PySem.W.Frag} {H : Hp} {ss : List Str} {rs : List Row} {l k : Addr} (ok : oks ss rs) (hl : rs.length ≤ 10000) (h : RowsAt K H l rs) (g : RowsAt K H k rs) : Alk K H (2 * deps rs + 3) (.ref l) (.ref k) := by
  obtain ⟨vs, h3, h4⟩ := h
  obtain ⟨us, g3, g4⟩ := g
  exact Or.inr (.inr (.inl ⟨l, k, vs, us, rfl, rfl, h3, g3, by rw [h4.len, g4.len], by rw [h4.len]; exact hl, fun i a b ha hb => AllAt.alk rs ok h4 g4 ha hb⟩))
theorem take_one {α : Type} {l : List α} {i : Nat} {x : α} (h : l[i]? = some x) : l.take (i + 1) = l.take i ++ [x] := by
  rw [List.take_add_one, h]
  rfl
/-- the heap Hc is a part of H that stays; Hc' and H' are theirs later: nothing of H comes into it -/
structure Part (Hc H Hc' H' : Hp) : Prop where
  all : Same H H'
  cl : Same Hc Hc'
  sub : Same Hc' H'
  no : ∀ b o, H b = some o → Hc b = none → Hc' b = none
theorem Part.refl {Hc H : Hp} (h : Same Hc H) : Part Hc H Hc H := ⟨Same.refl _, Same.refl _, h, fun _ _ _ h => h⟩
theorem Part.trans {Hc H Hd G He F : Hp} (p : Part Hc H Hd G) (q : Part Hd G He F) : Part Hc H He F :=
  ⟨p.all.trans q.all, p.cl.trans q.cl, q.sub, fun b o h1 h2 => q.no b o (p.all b o h1) (p.no b o h1 h2)⟩
/-- a new object that stays -/
theorem Part.new {Hc H : Hp} (h : Same Hc H) {p : Addr} (hp : H p = none) (u : HO) : Part Hc H (upd Hc p u) (upd H p u) := by
  have hcp : Hc p = none := h.free hp
  refine ⟨same_new hp u, same_new hcp u, fun b x hb => ?_, fun b o h1 h2 => ?_⟩
  · by_cases e : b = p
    · rw [e, upd_same] at hb
      rw [e, upd_same]
      exact hb
    · rw [upd_ne e] at hb
      rw [upd_ne e]
      exact h b x hb
  · rw [upd_ne (ne_of_none h1 hp)]
    exact h2
/-- a new object that will change -/
theorem Part.open {Hc H : Hp} (h : Same Hc H) {p : Addr} (hp : H p = none) (u : HO) : Part Hc H Hc (upd H p u) :=
  ⟨same_new hp u, Same.refl _, h.trans (same_new hp u), fun _ _ _ h => h⟩
mutual
/-- no list in it is long -/
def Row.thin : Row → Prop
  | .lt _ _ _ _ => True
  | .sy _ => True
  | .bk _ _ rs => rs.length ≤ 2000 ∧ thins rs
def thins : List Row → Prop
  | [] => True
  | r :: rs => r.thin ∧ thins rs
end
mutual
theorem Row.ok_thin {ss : List Str} : ∀ (r : Row), r.ok ss → r.thin
  | .lt _ _ _ _, _ => True.intro
  | .sy _, _ => True.intro
  | .bk _ _ rs, ⟨_, _, h, g⟩ => ⟨h, oks_thins rs g⟩
theorem oks_thins {ss : List Str} : ∀ (rs : List Row), oks ss rs → thins rs
  | [], _ => True.intro
  | r :: rs, ⟨h, g⟩ => ⟨Row.ok_thin r h, oks_thins rs g⟩
end
theorem thins_at : ∀ {rs : List Row} {i : Nat} {r : Row}, thins rs → rs[i]? = some r → r.thin
  | [], _, _, _, e => by cases e
  | _ :: _, 0, _, h, e => by
    cases e
    exact h.1
  | _ :: _, _ + 1, _, h, e => thins_at h.2 e
theorem thins_app : ∀ {rs qs : List Row}, thins rs → thins qs → thins (rs ++ qs)
  | [], _, _, q => q
  | _ :: _, _, ⟨h1, h2⟩, q => ⟨h1, thins_app h2 q⟩
/-- qs is rs in n further blocks, each about the next -/
inductive Wrap (ss : List Str) (rs : List Row) : Nat → List Row → Prop where
  | base : Wrap ss rs 0 rs
  | next {n : Nat} {qs : List Row} {kd te : Str} : Wrap ss rs n qs → kd ∈ kinds → te ∈ ss → Wrap ss rs (n + 1) [.bk kd (.str te) qs]
theorem Wrap.len {ss : List Str} {rs qs : List Row} {n : Nat} (h : Wrap ss rs n qs) (hl : rs.length ≤ 2000) : qs.length ≤ 2000 := by
  cases h with
  | base => exact hl
  | next => show 1 ≤ 2000; decide
theorem Wrap.ok {ss : List Str} {rs qs : List Row} {n : Nat} (h : Wrap ss rs n qs) (hl : rs.length ≤ 2000) (ok : oks ss rs) : oks ss qs := by
  induction h with
  | base => exact ok
  | next h1 h2 h3 ih => exact ⟨⟨h2, ⟨_, rfl, h3⟩, h1.len hl, ih⟩, True.intro⟩
theorem Wrap.thin {ss : List Str} {rs qs : List Row} {n : Nat} (h : Wrap ss rs n qs) (hl : rs.length ≤ 2000) (ok : thins rs) : thins qs := by
  induction h with
  | base => exact ok
  | next h1 h2 h3 ih => exact ⟨⟨h1.len hl, ih⟩, True.intro⟩
theorem Wrap.deps {ss : List Str} {rs qs : List Row} {n : Nat} (h : Wrap ss rs n qs) : Lm.deps qs = Lm.deps rs + n := by
  induction h with
  | base => rfl
  | @next n qs kd te h1 h2 h3 ih =>
    show max (Lm.deps qs + 1) 0 = _
    omega
theorem Wrap.tots {ss : List Str} {rs qs : List Row} {n : Nat} (h : Wrap ss rs n qs) : Lm.tots qs = Lm.tots rs + n := by
  induction h with
  | base => rfl
  | @next n qs kd te h1 h2 h3 ih =>
    show Lm.tots qs + 1 + 0 = _
    omega
end Lm
/-! A test of each letter; tables that grow. -/
namespace Lm
open PySem PySem.Spec PyProof.Rows L2 GxR
theorem lt_one (a b : Nat) : decide (([a] : List Nat) < [b]) = decide (a < b) := by
  by_cases h : a < b
  · rw [decide_eq_true h]
    exact decide_eq_true (List.Lex.rel h)
  · rw [decide_eq_false h]
    refine decide_eq_false fun z => h ?_
    cases z with
    | rel q => exact q
    | cons q => cases q
def letter (c : Nat) : Bool := decide (97 ≤ c) && decide (c ≤ 122)
/-- 'a' <= x <= 'z' -/
theorem elt_letter {prog : Program} {w : World} {scope : Scope} {x : Str} {j k : Nat} {p1 p2 p3 p4 : Pos} (hk : scope.kind = .function) (hl : scope.names.lookup x = some .local) (hd : (x == ("__debug__" : Str)) = false := by decide) :
    EltP prog w scope x (.Compare (.Constant (.str "a") j p1) [.LtE, .LtE] [.Name x p2, .Constant (.str "z") k p3] p4) letter := by
  intro cenv A' E' c t s₂ m₂ hs hn hm
  refine Compare_chain (Calls.Constant_str (chain_link (wpAny_Name (wpAny_loadName_local (by rw [hs]; exact hk) (show cenv.scope.names.lookup x = some .local by rw [hs]; exact hl) hn hm ?_) hd))) (by with_unfolding_all rfl)
  refine PySem.P.le_str (wpAny_truthy_bool ?_)
  have e1 : decide ((⟨#[c]⟩ : Str).cps.toList < ("a" : Str).cps.toList) = decide (c < 97) := lt_one c 97
  have e2 : decide (("z" : Str).cps.toList < (⟨#[c]⟩ : Str).cps.toList) = decide (122 < c) := lt_one 122 c
  rw [e1]
  by_cases h : c < 97
  · have z : letter c = false := by unfold letter; rw [decide_eq_false (by omega)]; rfl
    rw [decide_eq_true h, z]
    exact ite_ff ⟨rfl, keeps_tok _ _⟩
  · rw [decide_eq_false h]
    refine ite_tt (chain_last (Calls.Constant_str (PySem.P.le_str ?_)))
    rw [e2]
    refine ⟨?_, keeps_tok _ _⟩
    unfold letter
    rw [decide_eq_true (by omega : 97 ≤ c), Bool.true_and]
    by_cases g : 122 < c
    · rw [decide_eq_true g, decide_eq_false (by omega)]; rfl
    · rw [decide_eq_false g, decide_eq_true (by omega)]; rfl
theorem ble_dec (a b : Nat) : Nat.ble a b = decide (a ≤ b) := by
  rw [Bool.eq_iff_iff, decide_eq_true_eq]
  exact ⟨Nat.le_of_ble_eq_true, Nat.ble_eq_true_of_le⟩
theorem letters_all : ∀ l : List Nat, lettersB l = l.all letter
  | [] => rfl
  | c :: r => by
    show (Nat.ble 97 c && (Nat.ble c 122 && lettersB r)) = (letter c && r.all letter)
    rw [letters_all r, ← Bool.and_assoc, ble_dec, ble_dec]
    rfl
/-- the table has grown, all else is as it was -/
theorem tabbed_kp {P : Addr} {H H' : Hp} (hP : TabG H P) (h : Tabbed P H H') : Kp H H' := ⟨fun b o e n => by
  have hb : b ≠ P := fun z => by
    obtain ⟨ps, q, _⟩ := hP
    rw [z, q] at e
    cases e
    exact n ps rfl
  rw [h.2 b hb]
  exact e, fun b ps e => by
  by_cases hb : b = P
  · obtain ⟨qs, q, _⟩ := h.1
    rw [hb]
    exact ⟨qs, q⟩
  · exact ⟨ps, by rw [h.2 b hb]; exact e⟩⟩
theorem tab_upd {P b : Addr} {H : Hp} {o : HO} (hP : TabG H P) (hb : P ≠ b) : TabG (upd H b o) P := by
  obtain ⟨ps, q, r⟩ := hP
  exact ⟨ps, by rw [upd_ne hb]; exact q, r⟩
theorem tab_ne {P b : Addr} {H : Hp} {o : HO} (hP : TabG H P) (hb : H b = some o) (n : ∀ ps, o ≠ .tbl ps) : P ≠ b := fun z => by
  obtain ⟨ps, q, _⟩ := hP
  rw [z, hb] at q
  cases q
  exact n ps rfl
theorem tab_free {P b : Addr} {H : Hp} (hP : TabG H P) (hb : H b = none) : P ≠ b := fun z => by
  obtain ⟨ps, q, _⟩ := hP
  rw [z, hb] at q
  cases q
theorem tab_new {P b : Addr} {H : Hp} {o : HO} (hP : TabG H P) (hb : H b = none) : TabG (upd H b o) P := tab_upd hP (tab_free hP hb)
theorem tab_same {P : Addr} {H H' : Hp} (hP : TabG H P) (h : Same H H') : TabG H' P := by
  obtain ⟨ps, q, r⟩ := hP
  exact ⟨ps, h _ _ q, r⟩
theorem Tabbed.refl {P : Addr} {H : Hp} (hP : TabG H P) : Tabbed P H H := ⟨hP, fun _ _ => rfl⟩
def barsS : List Str := ["say", "when", "loop", "again", "end"]
theorem str_eq {x y : Str} (h : x.cps.toList = y.cps.toList) : x = y := by
  obtain ⟨a⟩ := x
  obtain ⟨b⟩ := y
  have e : a = b := Array.toList_inj.mp h
  rw [e]
theorem bars_in (s : Str) : inV (.str s) (barsS.map V.str) = isBar s.cps.toList := by
  have h : ∀ y : Str, eqV (.str y) (.str s) = sameL s.cps.toList y.cps.toList := fun y => by
    show (y == s) = _
    rw [Bool.eq_iff_iff, beq_iff_eq, sameL_iff]
    exact ⟨fun e => by rw [e], fun e => (str_eq e).symm⟩
  have e : bars = barsS.map (fun y => y.cps.toList) := by decide +kernel
  unfold inV isBar
  rw [e, List.any_map, List.any_map]
  exact congrArg (fun f => List.any barsS f) (funext fun y => h y)
/-- a def whose code object is told -/
theorem ok_code {P : Program} {w : World} {K : PySem.W.Frag} {mg : Str → Option Value} {base : Heap} {x qual : Str} {st : Stmt} {f : Addr} {fd : FuncData} {N ps : List Str} {k : Nat} {sp : Sp} (F : Fun K x qual st f fd) (S : FnScope N ps (defScope st))
    (len : ∀ vs H Q E, sp vs H Q E → vs.length = ps.length)
    (hbody : ∀ (A : Around) (outer : List Env) (s : Shared) (H : Hp) (vs : List V) (Q : VK) (E : XK), Room k (A.deeper (envOfC qual (defScope st) s.heap.objs.size f fd.code)) → sp vs H Q E →
      ∃ t, PSs (cxOf CX0 P w K mg base N qual (defScope st) f fd.code A outer s H E).nox (defBody st) t ∧ t { nx := fun _ H' => Q .non H', rt := Q } (L2.start N vs) H) : FnOk P w K mg base CX0 (k + 1) f fd ps sp := by
  obtain ⟨oc, od, kV, doc, pm, an, cdv, ct, osl, rfl, lk, hcd⟩ := F.ex
  exact fn_of lk hcd S len fun A outer s H vs Q E hr h => let ⟨t, h1, h2⟩ := hbody A outer s H vs Q E hr h; ⟨t, h1.nox, h2⟩
/-- is it a name -/
def isNm : V → Bool
  | .str s => GoodL s.cps.toList
  | _ => false
end Lm
set_option maxHeartbeats 2000000
/-! Sets of texts whose order of walking is known to end: made, filled, sorted. -/
namespace Lm
open PySem PySem.Spec PyProof.Rows L2
/-- the text of an entry -/
def txt (e : Int × Value) : Str := match e.2 with
  | .str x _ => x
  | _ => Str.empty
def TxtE (w : World) (e : Int × Value) : Prop := ∃ x tk, e.2 = Value.str x tk ∧ e.1 = hashStr w x
/-- at a stands a set of texts: its members, how many they are -/
structure TxtRaw (w : World) (S : Str → Bool) (n : Nat) (o : Obj) (es : Array (Int × Value)) (ep : Nat) (t : SetTable) : Prop where
  ex : o.ExactSet
  dat : o.data = .set es ep t
  ent : ∀ e ∈ es.toList, TxtE w e
  nd : (es.toList.map txt).Nodup
  mem : ∀ x, S x = true ↔ x ∈ es.toList.map txt
  few : es.size < scanBound
  fit : t.fits es.size = true
  num : es.size = n
  ris : Ris t.place.toList
  led : w.params.followText "set-order" = true ∨ t.led = true
def TxtSet (w : World) (h : Heap) (a : Addr) (S : Str → Bool) (n : Nat) : Prop := ∃ o es ep t, h.get? a = some o ∧ TxtRaw w S n o es ep t
section
variable {P : Program} {w : World} {h h' : Heap} {a : Addr} {S : Str → Bool} {n : Nat}
theorem txt_elems {l : List (Int × Value)} (g : ∀ e ∈ l, TxtE w e) : ElemsOf (PySem.strKind P w) l := by
  intro e he
  obtain ⟨x, tk, q1, q2⟩ := g e he
  exact ⟨⟨x, by rw [q1]; exact strKind_is P w x tk, q2⟩, by rw [q1]; rfl⟩
theorem txt_is {e : Int × Value} (g : TxtE w e) (x : Str) : (PySem.strKind P w).is x e.2 = true ↔ txt e = x := by
  obtain ⟨y, tk, q1, _⟩ := g
  have e1 : txt e = y := by
    unfold txt
    rw [q1]
  rw [e1, q1]
  constructor
  · intro z
    have z' : Value.isStrOf x (.str y tk) = true := z
    obtain ⟨u, eu⟩ := Value.isStrOf_shape z'
    injection eu with e2 _
  · rintro rfl
    exact strKind_is P w y tk
theorem txt_mem {l : List (Int × Value)} (g : ∀ e ∈ l, TxtE w e) (x : Str) : x ∈ l.map txt ↔ ∃ e ∈ l, (PySem.strKind P w).is x e.2 = true := by
  constructor
  · intro hx
    obtain ⟨e, he, q⟩ := List.mem_map.mp hx
    exact ⟨e, he, (txt_is (g e he) x).mpr q⟩
  · rintro ⟨e, he, q⟩
    exact List.mem_map.mpr ⟨e, he, (txt_is (g e he) x).mp q⟩
theorem TxtSet.setOf (R : TxtSet w h a S n) : h.SetOf (PySem.strKind P w) a S n :=
  let ⟨o, es, ep, t, ho, r⟩ := R
  ⟨o, es, ep, t, ho, r.ex, r.dat, txt_elems r.ent, fun x => (r.mem x).trans (txt_mem r.ent x), r.few, r.fit, r.num⟩
theorem txt_fresh {h : Heap} (w : World) : TxtSet w (h.push { cls := .type "set", dict := none, data := .set #[] 0 (.fresh 0 0 (!w.params.followText "set-order")) }) h.objs.size (fun _ => false) 0 := by
  refine ⟨_, #[], 0, _, Heap.get?_push_size _ rfl, ⟨⟨rfl, rfl, rfl⟩, rfl, fun e he => by simp at he, by simp, fun k => by simp, by decide, rfl, rfl, List.Pairwise.nil, ?_⟩⟩
  show _ ∨ (!w.params.followText "set-order") = true
  cases w.params.followText "set-order" with
  | false => exact Or.inr rfl
  | true => exact Or.inl rfl
end
section
variable {P : Program} {w : World} {A : Around} {E : Value → Shared → Prop} {s : Shared} {a : Addr} {S : Str → Bool} {n : Nat}
theorem put_at {h : Heap} {o : Obj} {es es' : Array (Int × Value)} {ep : Nat} {t t' : SetTable} (ho : h.get? a = some o) (hd : o.data = .set es ep t) : (h.update a (Obj.putSet es' t')).get? a = some { o with data := .set es' (ep + 1) t' } := by
  have z := Heap.get?_update_self (Obj.putSet es' t') ho (by rw [putSet_of es' t' hd]; rfl)
  rwa [putSet_of es' t' hd] at z
/-- what is laid is stored; a table that is too full is laid anew -/
theorem txt_tail {g : Bool → Sem Unit} (hg : ∀ (b : Bool) (s₁ : Shared) (Q' : Unit → Shared → Prop), Q' () s₁ → wpAny (model P w) A (g b) Q' E s₁)
    {o : Obj} {es : Array (Int × Value)} {ep : Nat} {t : SetTable} (ho : s.heap.get? a = some o) (hex : o.ExactSet) (hd : o.data = .set es ep t) {eN : Array (Int × Value)} {tN : SetTable} {S' : Str → Bool}
    (q1 : ∀ e ∈ eN.toList, TxtE w e) (q2 : (eN.toList.map txt).Nodup) (q3 : ∀ x, S' x = true ↔ x ∈ eN.toList.map txt) (q4 : eN.size < scanBound) (q5 : tN.fits eN.size = true) (q6 : Ris tN.place.toList)
    (q7 : w.params.followText "set-order" = true ∨ tN.led = true) {dum : Bool} {R : Option Bool → Shared → Prop} (hR : ∀ h', Heap.SameBut a s.heap h' → TxtSet w h' a S' eN.size → R (some true) { s with heap := h' }) :
    wpAny (model P w) A (do
      storeSet a eN tN
      if (!dum && tN.tooFull) = true then do
        g (relayAll tN eN (SetTable.grown eN.size)).2.2
        storeSet a (relayAll tN eN (SetTable.grown eN.size)).1 (relayAll tN eN (SetTable.grown eN.size)).2.1
        pure (some true)
      else pure (some true)) R E s := by
  have b1 := Heap.SameBut.update s.heap a (Obj.putSet eN tN)
  have a1 := put_at (es' := eN) (t' := tN) ho hd
  refine wpAny_bind (wpAny_storeSet_of ho hd ?_ (fits_of_scanBound q4))
  by_cases c : (!dum && tN.tooFull) = true
  · rw [if_pos c]
    have z1 := relayAll_perm tN eN (SetTable.grown eN.size)
    have z2 := relayAll_fits tN eN (SetTable.grown eN.size)
    have z3 := relayAll_ris tN eN (SetTable.grown eN.size)
    have z4 := relayAll_led tN eN (SetTable.grown eN.size)
    revert z1 z2 z3 z4
    generalize relayAll tN eN (SetTable.grown eN.size) = Z
    obtain ⟨eM, tM, gv⟩ := Z
    intro z1 z2 z3 z4
    dsimp only at z1 z2 z3 z4 ⊢
    have z5 : eM.size = eN.size := by rw [← Array.length_toList, z1.length_eq, Array.length_toList]
    have z6 : eM.size < scanBound := by rw [z5]; exact q4
    refine wpAny_bind (hg gv _ _ (wpAny_bind (wpAny_storeSet_of a1 rfl ?_ (fits_of_scanBound z6))))
    have a2 := put_at (es' := eM) (t' := tM) a1 rfl
    exact wpAny_pure (hR _ (b1.trans (Heap.SameBut.update _ a _)) ⟨_, eM, _, tM, a2, ⟨hex, rfl, fun e he => q1 e (z1.mem_iff.mp he), (z1.map txt).nodup_iff.mpr q2, fun x => (q3 x).trans (z1.map txt).mem_iff.symm, z6, z2, z5, z3, q7.imp id (fun z => z4.trans z)⟩⟩)
  · rw [if_neg c]
    exact wpAny_pure (hR _ b1 ⟨_, eN, _, tN, a1, ⟨hex, rfl, q1, q2, q3, q4, q5, rfl, q6, q7⟩⟩)
theorem txt_hashed {x : Str} {tk : Tok} {Q : Bool → Shared → Prop} (R : TxtSet w s.heap a S n) (room : n + 1 < scanBound)
    (hQ : ∀ h', Heap.SameBut a s.heap h' → TxtSet w h' a (fun y => S y || decide (y = x)) (if S x = true then n else n + 1) → Q (!S x) { s with heap := h' }) :
    wpAny (model P w) A (setAddHashed a (.str x tk) ((PySem.strKind P w).hash x)) Q E s := by
  obtain ⟨o, es, ep, t, ho, r⟩ := R
  have key : (PySem.strKind P w).is x (.str x tk) = true := strKind_is P w x tk
  have sc : (Value.str x tk).scannable = true := rfl
  have el : ElemsOf (PySem.strKind P w) es.toList := txt_elems r.ent
  unfold setAddHashed setAddHashedIn
  refine wpAny_holding (wpAny_bind (wpAny_setState_of ho r.dat r.fit ?_))
  dsimp only
  rw [byScan_of sc r.few el]
  simp only [↓reduceIte]
  unfold setAddByScan
  refine wpAny_bind (wpAny_bind (wpAny_rule (wpAny_bind (wpAny_setScan_of key ho r.dat r.fit el ?_))))
  cases hfi : List.findIdx? (fun e => (PySem.strKind P w).is x e.2) es.toList with
  | some j =>
    obtain ⟨hj, pj, _⟩ := List.findIdx?_eq_some_iff_getElem.mp hfi
    have inS : S x = true := (r.mem x).mpr ((txt_mem (P := P) (w := w) r.ent x).mpr ⟨es.toList[j], List.getElem_mem hj, pj⟩)
    have z := hQ s.heap (Heap.SameBut.refl a s.heap) ⟨o, es, ep, t, ho, { r with mem := fun y => ?_, num := by rw [if_pos inS]; exact r.num }⟩
    · rw [inS] at z
      dsimp only
      exact wpAny_pure (wpAny_pure z)
    · rw [Bool.or_eq_true, decide_eq_true_eq, ← r.mem y]
      exact ⟨fun c => c.elim id fun e => by rw [e]; exact inS, Or.inl⟩
  | none =>
    have notIn : x ∉ es.toList.map txt := fun c => by
      obtain ⟨e, he, q⟩ := (txt_mem (P := P) (w := w) r.ent x).mp c
      have d := List.findIdx?_eq_none_iff.mp hfi e he
      rw [q] at d
      exact Bool.noConfusion d
    have notS : S x = false := Bool.eq_false_iff.mpr fun c => notIn ((r.mem x).mp c)
    have gave : ∀ (b : Bool) {s₁ : Shared} {Q' : Unit → Shared → Prop}, Q' () s₁ → wpAny (model P w) A (match b with | true => rule "set.scan.the-table-gave-way" | false => pure ()) Q' E s₁ := by
      intro b s₁ Q' q
      cases b with
      | true => exact wpAny_rule q
      | false => exact wpAny_pure q
    dsimp only
    have z1 := layNew_perm t es ((PySem.strKind P w).hash x) (.str x tk)
    have z2 := layNew_fits t es ((PySem.strKind P w).hash x) (.str x tk)
    have z3 := layNew_ris t es ((PySem.strKind P w).hash x) (.str x tk) r.ris
    have z4 := layNew_led t es ((PySem.strKind P w).hash x) (.str x tk)
    revert z1 z2 z3 z4
    generalize layNew t es ((PySem.strKind P w).hash x) (.str x tk) = Z
    obtain ⟨eN, tN, dum, gv⟩ := Z
    intro z1 z2 z3 z4
    dsimp only at z1 z2 z3 z4 ⊢
    rw [Array.toList_push] at z1
    have pc : eN.toList.Perm (((PySem.strKind P w).hash x, Value.str x tk) :: es.toList) := z1.trans (List.perm_append_singleton _ _)
    have pk : (eN.toList.map txt).Perm (x :: es.toList.map txt) := pc.map txt
    have q1 : ∀ e ∈ eN.toList, TxtE w e := by
      intro e he
      rcases List.mem_cons.mp (pc.mem_iff.mp he) with c | c
      · exact ⟨x, tk, by rw [c], by rw [c]; rfl⟩
      · exact r.ent e c
    have q2 : (eN.toList.map txt).Nodup := pk.nodup_iff.mpr (List.nodup_cons.mpr ⟨notIn, r.nd⟩)
    have q3 : ∀ y, (S y || decide (y = x)) = true ↔ y ∈ eN.toList.map txt := by
      intro y
      rw [pk.mem_iff, List.mem_cons, Bool.or_eq_true, decide_eq_true_eq, r.mem y, or_comm]
    have sz : eN.size = n + 1 := by rw [← Array.length_toList, pc.length_eq, List.length_cons, Array.length_toList, r.num]
    have q4 : eN.size < scanBound := by rw [sz]; exact room
    have q7 : w.params.followText "set-order" = true ∨ tN.led = true := r.led.imp id fun c => by rw [z4]; exact c
    have done : ∀ h', Heap.SameBut a s.heap h' → TxtSet w h' a (fun y => S y || decide (y = x)) eN.size → Q true { s with heap := h' } := by
      intro h' sb c
      have z := hQ h' sb
      rw [notS] at z
      rw [sz] at c
      exact z c
    have give : ∀ (b : Bool) (s₁ : Shared) (Q' : Unit → Shared → Prop), Q' () s₁ → wpAny (model P w) A (match b with | true => rule "set.scan.the-table-gave-way" | false => pure ()) Q' E s₁ := fun b s₁ Q' q => gave b q
    refine wpAny_bind (gave gv ?_)
    split
    · refine wpAny_bind ?_
      rw [hashByValue_scannable 8 sc]
      refine wpAny_pure (txt_tail give ho r.ex r.dat q1 q2 q3 q4 ?_ ?_ ?_ fun h' sb c => ?_)
      · split
        · exact SetTable.fits_plain_off z2
        · exact z2
      · split <;> exact z3
      · split <;> exact q7
      · dsimp only
        exact wpAny_pure (done h' sb c)
    · refine wpAny_bind (wpAny_pure ?_)
      simp only [↓reduceIte]
      refine txt_tail give ho r.ex r.dat q1 q2 q3 q4 z2 z3 q7 fun h' sb c => ?_
      dsimp only
      exact wpAny_pure (done h' sb c)
/-- found.add(x) -/
theorem txt_add {x : Str} {tk : Tok} {Q : Value → Shared → Prop} (R : TxtSet w s.heap a S n) (room : n + 1 < scanBound)
    (hQ : ∀ h', Heap.SameBut a s.heap h' → TxtSet w h' a (fun y => S y || decide (y = x)) (if S x = true then n else n + 1) → Q .none { s with heap := h', toks := s.toks + 1 }) :
    wpAny (model P w) A (call (.builtin "set.add") [.ref a, .str x tk]) Q E s := by
  refine wpAny_call_entry F.slot_set_add (TxtSet.setOf (P := P) R).typeIs F.entry_set_add ?_ (F.args_set_add_2 _ _)
  unfold Builtin.«set.add» Builtin.Frozenset.oneOther
  simp only [List.isEmpty_nil, bind_assoc]
  unfold Builtin.Frozenset.addrOf setAdd
  refine wpAny_bind (wpAny_pure ?_)
  try dsimp only
  refine wpAny_bind (wpAny_pure ?_)
  try dsimp only
  refine wpAny_bind (wpAny_holding (wpAny_bind ((PySem.strKind P w).pyHash (k := x) (strKind_is P w x tk) ?_)))
  refine txt_hashed (s := { s with toks := s.toks + 1 }) R room fun h' sb c => ?_
  show wpAny _ _ (ret Value.none) _ _ _
  exact wpAny_pure ⟨_, rfl, hQ h' sb c⟩
theorem strs_of : ∀ (l : List (Int × Value)), (∀ e ∈ l, TxtE w e) → StrsAre (l.map (·.2)) (l.map txt)
  | [], _ => .nil
  | e :: l, h => by
    obtain ⟨x, tk, q, _⟩ := h e List.mem_cons_self
    have e1 : txt e = x := by unfold txt; rw [q]
    rw [List.map_cons, List.map_cons, e1, q]
    exact .cons x tk (strs_of l fun u hu => h u (List.mem_cons_of_mem _ hu))
theorem strs_perm : ∀ {vs us : List Value} {xs : List Str}, vs.Perm us → StrsAre us xs → ∃ ys, StrsAre vs ys ∧ ys.Perm xs := by
  intro vs us xs p
  induction p generalizing xs with
  | nil => exact fun h => ⟨xs, h, List.Perm.refl _⟩
  | cons v _ ih =>
    intro h
    cases h with
    | cons x t r =>
      obtain ⟨ys, h1, h2⟩ := ih r
      exact ⟨x :: ys, .cons x t h1, h2.cons x⟩
  | swap v u l =>
    intro h
    cases h with
    | cons x t r =>
      cases r with
      | cons y t' r => exact ⟨y :: x :: _, .cons y t' (.cons x t r), List.Perm.swap _ _ _⟩
  | trans _ _ ih1 ih2 =>
    intro h
    obtain ⟨ys, h1, h2⟩ := ih2 h
    obtain ⟨zs, g1, g2⟩ := ih1 h1
    exact ⟨zs, g1, g2.trans h2⟩
theorem strs_len : ∀ {vs : List Value} {xs : List Str}, StrsAre vs xs → vs.length = xs.length
  | _, _, .nil => rfl
  | _, _, .cons _ _ r => by rw [List.length_cons, List.length_cons, strs_len r]
/-- sorted(found), fewer than 64 members -/
theorem txt_sorted {Q : Value → Shared → Prop} (R : TxtSet w s.heap a S n) (hh : A.handled = none) (h64 : n < 64)
    (hQ : ∀ s' p (out : Array Value) (c : Nat) (ys : List Str), (∀ b o, s.heap.get? b = some o → s'.heap.get? b = some o) → s'.gens = s.gens → s'.os = s.os → s.heap.objs.size ≤ p →
      s'.heap.get? p = some (seqObj "list" out c) → StrsAre out.toList ys → sortedS ys = true → ys.Nodup → (∀ x, x ∈ ys ↔ S x = true) → ys.length = n → Q (.ref p) s') :
    wpAny (model P w) A (call (.builtin "sorted") [.ref a]) Q E s := by
  obtain ⟨o, es, ep, t, ho, r⟩ := R
  refine Calls.call_function_entry kind_sorted plain_sorted entry_sorted (args_sorted1 _) ?_
  unfold Builtin.«sorted»
  refine wpAny_bind (m := checkCount "sorted" 1 1 _) (wpAny_pure (wpAny_bind (collect_set (A := A.in1) hh ⟨o, ho, r.ex.1, r.dat⟩ r.fit r.few r.ris r.led fun s1 vs k1 hz g1 o1 pm => ?_)))
  obtain ⟨xs, x1, x2⟩ := strs_perm pm (strs_of (w := w) es.toList r.ent)
  have lv : vs.length = n := by rw [pm.length_eq, List.length_map, Array.length_toList, r.num]
  have at1 : (s1.heap.push (seqObj "list" vs.toArray 0)).get? s1.heap.objs.size = some (seqObj "list" vs.toArray 0) := Heap.get?_push_size _ rfl
  refine wpAny_bind (wpAny_newList ?_ (by rw [lv, sizeLine_eq]; omega))
  refine wpAny_bind (wpAny_holding (wpAny_call_entry slot_list_sort ⟨_, at1, rfl⟩ entry_list_sort (list_sort_treeK strKind_oneLt at1 x1.keysOf (fun v₁ v₂ rest e => keyKind_strs (by rw [← e]; exact x1)) (by rw [lv]; exact h64) fun st' hp hs => ?_) (args_list_sort _)))
  obtain ⟨ys, y1, y2, y3⟩ := sorted_out_str x1 hp hs
  obtain ⟨c, hc⟩ := sortedHeap_at (vs := vs) (out := (arrOf st').map (·.2)) at1
  have pn : ys.Perm (es.toList.map txt) := y2.trans x2
  refine ⟨_, rfl, wpAny_pure ⟨_, rfl, hQ _ s1.heap.objs.size _ c ys (fun b u e => ?_) g1 o1 hz hc y1 y3 (pn.nodup_iff.mpr r.nd) (fun x => by rw [pn.mem_iff, ← r.mem x]) ?_⟩⟩
  · have old := k1 b u e
    have lt := Heap.lt_size old
    show (sortedHeap (s1.heap.push (seqObj "list" vs.toArray 0)) s1.heap.objs.size vs ((arrOf st').map (·.2))).get? b = some u
    rw [sortedHeap_old (Nat.ne_of_lt lt) (by rw [size_push']; exact Nat.lt_succ_of_lt lt)]
    exact Heap.get?_push_of_some _ old
  · rw [pn.length_eq, List.length_map, Array.length_toList, r.num]
end
/-! ### the layer's rules -/
/-- the set of texts at a -/
def SetX (w : World) (a : Addr) (S : Str → Bool) (n : Nat) : HO := .ext fun h => TxtSet w h a S n
section
variable {X : Cx}
theorem setX_new {P : Program} {w : World} {H : Hp} {h : Heap} {a : Addr} {S : Str → Bool} {n : Nat} (R : TxtSet w h a S n) : ObjOk P w H h a (SetX w a S n) := by
  have ⟨o, _, _, _, ho, _⟩ := R
  exact ⟨R, ⟨o, ho⟩, fun h1 h2 ⟨o, es, ep, t, e, r⟩ k => ⟨o, es, ep, t, k o e, r⟩⟩
theorem setX_get {pins : List (Addr × Obj)} {σ : L2.St} {H : Hp} {s : Shared} {a : Addr} {S : Str → Bool} {n : Nat} (I : Inv X pins σ H s) (ha : H a = some (SetX X.w a S n)) : TxtSet X.w s.heap a S n := (I.hok a _ ha).1
def rSet0X (w : World) : List V → Hp → VK → Prop := fun xs H Q => xs = [] ∧ ∀ p, H p = none → Q (.ref p) (upd H p (SetX w p (fun _ => false) 0))
theorem cr_set0X : CallR X (.type "set") (rSet0X X.w) := by
  intro pins s σ H xs us Q I r h
  obtain ⟨rfl, q⟩ := h
  cases r
  exact setR_new fun _ => ⟨.ref _, _, I.laid (t' := s.toks) (fun b u e => Heap.get?_push_of_some _ e) (Nat.le_refl _) (setX_new (txt_fresh X.w)), rfl, q _ (I.hok.fresh (Nat.le_refl _))⟩
def rSAddX (w : World) : V → List V → Hp → VK → Prop := fun x xs H Q => ∃ (a : Addr) (z : Str) (S : Str → Bool) (n : Nat), x = V.ref a ∧ xs = [.str z] ∧ H a = some (SetX w a S n) ∧ n + 1 < scanBound ∧
  Q .non (upd H a (SetX w a (fun y => S y || decide (y = z)) (if S z = true then n else n + 1)))
theorem mt_saddX : MtR X "set.add" (rSAddX X.w) := by
  intro pins s σ H x xs v us Q I rx rxs h
  obtain ⟨a, z, S, n, rfl, rfl, ha, room, q⟩ := h
  cases rx
  cases rxs with
  | cons ry rt =>
    cases rt
    obtain ⟨tk, rfl⟩ := ry
    refine txt_add (setX_get I ha) room fun h' sb c => ?_
    have he : ∃ u, h'.get? a = some u := let ⟨o, _, _, _, ho, _⟩ := c; ⟨o, ho⟩
    exact ⟨.non, _, I.write (e := a) (t' := s.toks + 1) (by rw [ha]; trivial) (Or.inl rfl) (fun b u hb hu => (sb.2 b hb).trans hu) he (setX_new c), rfl, q⟩
def tSAddX (w : World) (to : TE) (t : TA) : TE := fun σ H Q => to σ H fun x H1 => (∃ a S n, x = V.ref a ∧ H1 a = some (SetX w a S n)) ∧ t σ H1 fun xs H2 => rSAddX w x xs H2 Q
theorem pe_saddX {o e : Expr} {es : List Expr} {to : TE} {t : TA} {apos cpos : Pos} (ho : PE X o to) (ha : PA X (e :: es) t) (hbase : attributeBase o "add" X.env (eval o X.env) = eval o X.env := by rfl)
    (hfew : ((backTo cpos (starEach (e :: es) X.env)).all (fun x => !x.1) && (backToKw cpos (keywordEach [] X.env)).all (fun x => x.1.isSome) && decide ((e :: es).length + ([] : List Keyword).length + (if ([] : List Keyword).isEmpty then 0 else 1) < 30)) = true := by rfl)
    (hline : (apos.endLine == cpos.line) = true := by rfl) (hst : starEach (e :: es) X.env = (false, eval e X.env) :: starEach es X.env := by rfl) (hpl : (backTo cpos (starEach es X.env)).any (·.1) = false := by rfl) :
    PE X (.Call (.Attribute o "add" apos) (e :: es) [] cpos) (tSAddX X.w to t) := by
  refine ⟨fun pins s σ H Q I h => wpAny_Call_method_late hbase hfew hline rfl (thn (ho.run pins s σ H _ I h) fun v s1 ⟨x, H1, I1, r1, ty, q1⟩ => ?_)⟩
  obtain ⟨a, S, n, rfl, hka⟩ := ty
  have hS := TxtSet.setOf (P := X.prog) (setX_get I1 hka)
  cases r1
  refine ⟨"set", "set.add", F.plainAttrs_set, F.slot_set_add, F.type_set_add, hS.typeIs, hS.noDict, ?_⟩
  have hA := ha.run cpos pins s1 σ H1 _ I1 q1
  rw [hst] at hA ⊢
  exact Calls.callWith_builtin (by show (false || (backTo cpos (starEach es X.env)).any (·.1)) = false; rw [hpl]; rfl) (Calls.evalArgs_plain (thn hA fun us s2 ⟨vs, H2, I2, r2, q2⟩ => mt_saddX pins s2 σ H2 (.ref a) vs (.ref a) us Q I2 rfl r2 q2))
/-- sorted(found), fewer than 64 members -/
def rSortX (w : World) : List V → Hp → VK → Prop := fun vs H Q => ∃ (a : Addr) (S : Str → Bool) (n : Nat), vs = [V.ref a] ∧ H a = some (SetX w a S n) ∧ n < 64 ∧
  ∀ (ys : List Str) (p : Addr), sortedS ys = true → ys.Nodup → (∀ x, x ∈ ys ↔ S x = true) → H p = none → Q (.ref p) (upd H p (.lst (ys.map V.str)))
theorem cr_sortX (hc : X.calm = true) : CallR X (.builtin "sorted") (rSortX X.w) := by
  intro pins s σ H vs us Q I r h
  obtain ⟨a, S, n, rfl, ha, h64, q⟩ := h
  rw [Vals.ref1 r]
  refine txt_sorted (setX_get I ha) (I.ok.hd hc) h64 fun s' p out c ys k g o hp hg hi hs hnd hm hl => ?_
  have free : H p = none := I.hok.fresh hp
  have fits : (ys.map V.str).length ≤ sizeLine := by rw [List.length_map, hl, sizeLine_eq]; omega
  have J : Inv X pins σ (upd H p (.lst (ys.map V.str))) { s with heap := s'.heap, gens := s'.gens, drawn := s'.drawn, toks := s'.toks } :=
    I.call (ch := []) (Un.laid k hp free) (I.hok.laid k hp ⟨fits, out.toList, c, vals_of_strs hi, hg⟩) (by rw [g]; exact I.bare) (fun _ z => by cases z)
  have e : s' = { s with heap := s'.heap, gens := s'.gens, drawn := s'.drawn, toks := s'.toks } := by
    obtain ⟨_, _, _, _, _⟩ := s'
    obtain ⟨_, _, _, _, _⟩ := s
    cases o
    rfl
  rw [e]
  exact ⟨.ref p, _, J, rfl, q ys p hs hnd hm free⟩
end
end Lm
/-! Rows one behind another, at any depth; what one row asks for, sets, may do. -/
namespace Lm
open PySem L2
theorem ifT {c : Bool} {A B : Prop} (hc : c = true) (h : A) : if c = true then A else B := (if_pos hc).symm ▸ h
theorem ifF {c : Bool} {A B : Prop} (hc : c = false) (h : B) : if c = true then A else B := by
  subst hc
  exact iteF h
mutual
def Row.flat : Row → List Row
  | .lt to sg a b => [.lt to sg a b]
  | .sy a => [.sy a]
  | .bk kd ts rs => .bk kd ts rs :: flats rs
def flats : List Row → List Row
  | [] => []
  | r :: rs => r.flat ++ flats rs
end
mutual
theorem Row.flat_len : ∀ r : Row, r.flat.length = r.tot
  | .lt _ _ _ _ => rfl
  | .sy _ => rfl
  | .bk _ _ rs => by
    show (flats rs).length + 1 = tots rs + 1
    rw [flats_len rs]
theorem flats_len : ∀ rs : List Row, (flats rs).length = tots rs
  | [] => rfl
  | r :: rs => by
    show (r.flat ++ flats rs).length = r.tot + tots rs
    rw [List.length_append, Row.flat_len r, flats_len rs]
end
/-- the values that one row asks for -/
def Row.asks : Row → List V
  | .lt _ _ a b => [a.v, b.v]
  | .sy a => [a.v]
  | .bk _ ts _ => [ts]
def Vl.nought : Vl → Bool
  | .nm _ => true
  | .nu i => decide (i = 0)
def Row.fails : Row → Bool
  | .lt _ sg _ b => decide (sg = "/") && b.nought
  | _ => false
def Row.says : Row → Bool
  | .sy _ => true
  | _ => false
theorem kd_let {kd : Str} (h : kd ∈ kinds) : decide (V.str kd = V.str "let") = false := by
  simp only [kinds, List.mem_cons, List.not_mem_nil, or_false] at h
  rcases h with e | e | e <;> (rw [e]; decide +kernel)
theorem kd_say {kd : Str} (h : kd ∈ kinds) : decide (V.str kd = V.str "say") = false := by
  simp only [kinds, List.mem_cons, List.not_mem_nil, or_false] at h
  rcases h with e | e | e <;> (rw [e]; decide +kernel)
theorem kd_in {kd : Str} (h : kd ∈ kinds) : inV (.str kd) (kinds.map V.str) = true := by
  simp only [kinds, List.mem_cons, List.not_mem_nil, or_false] at h
  rcases h with e | e | e <;> (rw [e]; decide +kernel)
theorem let_in : inV (.str "let") (kinds.map V.str) = false := by decide +kernel
theorem say_in : inV (.str "say") (kinds.map V.str) = false := by decide +kernel
theorem kinds_flat : (kinds.map V.str).all flatV = true := by decide +kernel
theorem oks_flats {ss : List Str} : ∀ {rs : List Row}, oks ss rs → oks ss (flats rs)
  | rs, h => go rs h
where
  go1 : ∀ (r : Row), r.ok ss → oks ss r.flat
    | .lt _ _ _ _, h => ⟨h, True.intro⟩
    | .sy _, h => ⟨h, True.intro⟩
    | .bk _ _ rs, h => ⟨h, go rs h.2.2.2⟩
  go : ∀ (rs : List Row), oks ss rs → oks ss (flats rs)
    | [], _ => True.intro
    | r :: rs, h => oks_app (go1 r h.1) (go rs h.2)
theorem flats_app : ∀ {rs qs : List Row}, flats (rs ++ qs) = flats rs ++ flats qs
  | [], _ => rfl
  | r :: rs, qs => by
    show r.flat ++ flats (rs ++ qs) = (r.flat ++ flats rs) ++ flats qs
    rw [flats_app, List.append_assoc]
end Lm
/-! What is found, name by name. -/
namespace Lm
open PySem L2
theorem nodup_le : ∀ {l m : List Str}, l.Nodup → (∀ x ∈ l, x ∈ m) → l.length ≤ m.length
  | [], _, _, _ => Nat.zero_le _
  | x :: l, m, nd, h => by
    obtain ⟨h1, h2⟩ := List.nodup_cons.mp nd
    have hx : x ∈ m := h x List.mem_cons_self
    have ih := nodup_le (l := l) (m := m.erase x) h2 fun y hy => (List.mem_erase_of_ne (fun e => h1 (by rw [← e]; exact hy))).mpr (h y (List.mem_cons_of_mem _ hy))
    rw [List.length_erase_of_mem hx] at ih
    have := List.length_pos_of_mem hx
    show l.length + 1 ≤ m.length
    omega
/-- at F a set of the texts ns, all of them of ss -/
structure Fnd (w : World) (F : Addr) (H : Hp) (ss ns : List Str) : Prop where
  at_ : ∃ S n, H F = some (SetX w F S n) ∧ (∀ x, S x = true ↔ x ∈ ns) ∧ n = ns.length
  nd : ns.Nodup
  sub : ∀ x ∈ ns, x ∈ ss
theorem Fnd.few {w : World} {F : Addr} {H : Hp} {ss ns : List Str} (h : Fnd w F H ss ns) (hs : ss.length ≤ 60) : ns.length ≤ 60 := Nat.le_trans (nodup_le h.nd h.sub) hs
theorem Fnd.kp {w : World} {F : Addr} {H H' : Hp} {ss ns : List Str} (h : Fnd w F H ss ns) (k : Kp H H') : Fnd w F H' ss ns :=
  let ⟨S, n, h1, h2, h3⟩ := h.at_; ⟨⟨S, n, k.at_ _ _ h1 (fun ps q => by cases q), h2, h3⟩, h.nd, h.sub⟩
theorem Fnd.add {w : World} {F : Addr} {H : Hp} {ss ns : List Str} (h : Fnd w F H ss ns) (hs : ss.length ≤ 60) {z : Str} (hz : z ∈ ss) : ∃ S n ns', H F = some (SetX w F S n) ∧ n + 1 < scanBound ∧
    Fnd w F (upd H F (SetX w F (fun y => S y || decide (y = z)) (if S z = true then n else n + 1))) ss ns' ∧ ∀ x, x ∈ ns' ↔ x ∈ ns ∨ x = z := by
  obtain ⟨S, n, h1, h2, h3⟩ := h.at_
  have few := h.few hs
  have hb : n + 1 < scanBound := by
    rw [h3]
    show ns.length + 1 < 4096
    omega
  by_cases c : z ∈ ns
  · have cS : S z = true := (h2 z).mpr c
    refine ⟨S, n, ns, h1, hb, ⟨⟨_, _, upd_same, fun x => ?_, by rw [if_pos cS]; exact h3⟩, h.nd, h.sub⟩, fun x => ⟨Or.inl, fun e => e.elim id fun e => by rw [e]; exact c⟩⟩
    rw [Bool.or_eq_true, decide_eq_true_eq, h2 x]
    exact ⟨fun e => e.elim id fun e => by rw [e]; exact c, Or.inl⟩
  · have cS : ¬ S z = true := fun e => c ((h2 z).mp e)
    refine ⟨S, n, ns ++ [z], h1, hb, ⟨⟨_, _, upd_same, fun x => ?_, by rw [if_neg cS, List.length_append, h3]; rfl⟩, ?_, fun x hx => ?_⟩, fun x => ?_⟩
    · rw [Bool.or_eq_true, decide_eq_true_eq, h2 x, List.mem_append, List.mem_singleton]
    · rw [List.nodup_append]
      exact ⟨h.nd, by simp, fun a ha b hb e => c (by rw [List.mem_singleton.mp hb] at e; rw [← e]; exact ha)⟩
    · rcases List.mem_append.mp hx with e | e
      · exact h.sub x e
      · rw [List.mem_singleton.mp e]
        exact hz
    · rw [List.mem_append, List.mem_singleton]
/-- the name that one row sets -/
def Row.sets : Row → List Str
  | .lt to _ _ _ => [to]
  | _ => []
theorem Vl.ok_v {ss : List Str} : ∀ {x : Vl}, x.ok ss → (∃ s, x.v = .str s ∧ s ∈ ss) ∨ ∃ i, x.v = .int i
  | .nm s, h => .inl ⟨s, rfl, h⟩
  | .nu i, _ => .inr ⟨i, rfl⟩
theorem Row.asks_ok {ss : List Str} {r : Row} (h : r.ok ss) {v : V} (hv : v ∈ r.asks) : (∃ s, v = .str s ∧ s ∈ ss) ∨ ∃ i, v = .int i := by
  match r, h, hv with
  | .lt to sg a b, h, hv =>
    rcases List.mem_cons.mp hv with e | e
    · rw [e]; exact Vl.ok_v h.2.2.1
    · rw [List.mem_singleton.mp e]; exact Vl.ok_v h.2.2.2
  | .sy a, h, hv => rw [List.mem_singleton.mp hv]; exact Vl.ok_v h
  | .bk kd ts rs, h, hv =>
    obtain ⟨s, e, hs⟩ := h.2.1
    rw [List.mem_singleton.mp hv]
    exact .inl ⟨s, e, hs⟩
/-- the names that some of the rows asks for -/
def askN (rs : List Row) (x : Str) : Prop := ∃ r ∈ rs, V.str x ∈ r.asks
def setN (rs : List Row) (x : Str) : Prop := ∃ r ∈ rs, x ∈ r.sets
theorem askN_one {rs : List Row} {i : Nat} {r : Row} (h : rs[i]? = some r) (x : Str) : askN (rs.take (i + 1)) x ↔ askN (rs.take i) x ∨ V.str x ∈ r.asks := by
  unfold askN
  rw [take_one h]
  simp only [List.mem_append, List.mem_singleton]
  constructor
  · rintro ⟨q, h1 | h1, h2⟩
    · exact .inl ⟨q, h1, h2⟩
    · rw [h1] at h2; exact .inr h2
  · rintro (⟨q, h1, h2⟩ | h2)
    · exact ⟨q, .inl h1, h2⟩
    · exact ⟨r, .inr rfl, h2⟩
theorem setN_one {rs : List Row} {i : Nat} {r : Row} (h : rs[i]? = some r) (x : Str) : setN (rs.take (i + 1)) x ↔ setN (rs.take i) x ∨ x ∈ r.sets := by
  unfold setN
  rw [take_one h]
  simp only [List.mem_append, List.mem_singleton]
  constructor
  · rintro ⟨q, h1 | h1, h2⟩
    · exact .inl ⟨q, h1, h2⟩
    · rw [h1] at h2; exact .inr h2
  · rintro (⟨q, h1, h2⟩ | h2)
    · exact ⟨q, .inl h1, h2⟩
    · exact ⟨r, .inr rfl, h2⟩
end Lm
/-! Sorted lists of texts are one; what the law gathers. -/
namespace Lm
open PySem L2 PyProof.Rows
theorem ltc (a b : Str) : Spec.ltCps a.cps.toList b.cps.toList = decide (a.cps.toList < b.cps.toList) := PyProof.Rows.ltCps_eq _ _
theorem rising_pw : ∀ (r : List Str) (p : Str), risingS p r = true → (p :: r).Pairwise (fun a b => ¬ b.cps.toList < a.cps.toList)
  | [], p, _ => by simp
  | x :: r, p, h => by
    have h' : (!Spec.ltCps x.cps.toList p.cps.toList && risingS x r) = true := h
    rw [Bool.and_eq_true, ltc] at h'
    have h1 : ¬ x.cps.toList < p.cps.toList := by
      intro z
      rw [decide_eq_true z] at h'
      exact Bool.noConfusion h'.1
    have ih := rising_pw r x h'.2
    refine List.pairwise_cons.mpr ⟨fun y hy => ?_, ih⟩
    rcases List.mem_cons.mp hy with e | hy
    · rw [e]; exact h1
    · intro z
      have h2 := (List.pairwise_cons.mp ih).1 y hy
      rcases List.le_iff_lt_or_eq.mp (List.not_lt.mp h2) with q | q
      · exact h1 (List.lt_trans q z)
      · rw [← q] at z
        exact h1 z
theorem sorted_pw {l : List Str} (h : sortedS l = true) : l.Pairwise (fun a b => ¬ b.cps.toList < a.cps.toList) := by
  cases l with
  | nil => exact List.Pairwise.nil
  | cons x r => exact rising_pw r x h
theorem sorted_one {l m : List Str} (h1 : sortedS l = true) (h2 : sortedS m = true) (n1 : l.Nodup) (n2 : m.Nodup) (h : ∀ x, x ∈ l ↔ x ∈ m) : l = m :=
  List.Perm.eq_of_pairwise (fun a b _ _ q1 q2 => str_eq (List.le_antisymm (List.not_lt.mp q1) (List.not_lt.mp q2))) (sorted_pw h1) (sorted_pw h2) ((List.perm_ext_iff_of_nodup n1 n2).mpr h)
theorem alk_strs {K : PySem.W.Frag} {H : Hp} {p q : Addr} {ys : List Str} (h1 : SqL K H p (ys.map V.str)) (h2 : SqL K H q (ys.map V.str)) (hl : ys.length ≤ 10000) : Alk K H 2 (.ref p) (.ref q) := by
  refine Or.inr (.inr (.inl ⟨p, q, _, _, rfl, rfl, h1, h2, rfl, by rw [List.length_map]; exact hl, fun i a b ha hb => ?_⟩))
  rw [ha] at hb
  cases hb
  rw [List.getElem?_map] at ha
  cases e : ys[i]? with
  | none => rw [e] at ha; cases ha
  | some y =>
    rw [e] at ha
    cases ha
    exact alk_str y
/-- a dict whose values are all True -/
def dkv (ks : List Key) : List (Key × V) := ks.map fun k => (k, V.bl true)
theorem dkv_keys (ks : List Key) : (dkv ks).map (·.1) = ks := by
  unfold dkv
  rw [List.map_map]
  exact List.map_id ks
theorem dkv_put (ks : List Key) (k : Key) : ∃ ks', putK (dkv ks) k (V.bl true) = dkv ks' ∧ (ks.Nodup → ks'.Nodup) ∧ (∀ j, j ∈ ks' ↔ j ∈ ks ∨ j = k) ∧ ks'.length ≤ ks.length + 1 := by
  have ea : ((dkv ks).any fun kv => decide (kv.1 = k)) = true ↔ k ∈ ks := by
    unfold dkv
    rw [List.any_map, List.any_eq_true]
    exact ⟨fun ⟨x, h1, h2⟩ => by rw [← of_decide_eq_true h2]; exact h1, fun h => ⟨k, h, decide_eq_true rfl⟩⟩
  by_cases h : k ∈ ks
  · refine ⟨ks, ?_, id, fun j => ⟨Or.inl, fun e => e.elim id fun e => by rw [e]; exact h⟩, Nat.le_succ _⟩
    unfold putK
    rw [if_pos (ea.mpr h)]
    unfold dkv
    rw [List.map_map]
    refine List.map_congr_left fun x _ => ?_
    show (if x = k then (x, V.bl true) else (x, V.bl true)) = (x, V.bl true)
    split <;> rfl
  · refine ⟨ks ++ [k], ?_, fun n => ?_, fun j => by rw [List.mem_append, List.mem_singleton], by rw [List.length_append]; exact Nat.le_refl _⟩
    · unfold putK
      rw [if_neg (fun z => h (ea.mp z))]
      unfold dkv
      rw [List.map_append]
      rfl
    · rw [List.nodup_append]
      exact ⟨n, by simp, fun a ha b hb e => h (by rw [List.mem_singleton.mp hb] at e; rw [← e]; exact ha)⟩
/-- the keys that some of the rows asks for -/
def askK (rs : List Row) (k : Key) : Prop := ∃ r ∈ rs, kV k ∈ r.asks
def setK (rs : List Row) (k : Key) : Prop := ∃ r ∈ rs, ∃ x ∈ r.sets, k = Sum.inr x
theorem askK_app (rs qs : List Row) (k : Key) : askK (rs ++ qs) k ↔ askK rs k ∨ askK qs k := by
  unfold askK
  simp only [List.mem_append]
  exact ⟨fun ⟨r, h, q⟩ => h.elim (fun h => .inl ⟨r, h, q⟩) fun h => .inr ⟨r, h, q⟩, fun h => h.elim (fun ⟨r, h, q⟩ => ⟨r, .inl h, q⟩) fun ⟨r, h, q⟩ => ⟨r, .inr h, q⟩⟩
theorem setK_app (rs qs : List Row) (k : Key) : setK (rs ++ qs) k ↔ setK rs k ∨ setK qs k := by
  unfold setK
  simp only [List.mem_append]
  exact ⟨fun ⟨r, h, q⟩ => h.elim (fun h => .inl ⟨r, h, q⟩) fun h => .inr ⟨r, h, q⟩, fun h => h.elim (fun ⟨r, h, q⟩ => ⟨r, .inl h, q⟩) fun ⟨r, h, q⟩ => ⟨r, .inr h, q⟩⟩
theorem askK_one (r : Row) (k : Key) : askK [r] k ↔ kV k ∈ r.asks := by simp [askK]
theorem setK_one (r : Row) (k : Key) : setK [r] k ↔ ∃ x ∈ r.sets, k = Sum.inr x := by simp [setK]
theorem askK_N (rs : List Row) (x : Str) : askK rs (Sum.inr x) ↔ askN rs x := Iff.rfl
theorem setK_N (rs : List Row) (x : Str) : setK rs (Sum.inr x) ↔ setN rs x := by
  unfold setK setN
  exact ⟨fun ⟨r, h, y, hy, e⟩ => ⟨r, h, by cases e; exact hy⟩, fun ⟨r, h, hx⟩ => ⟨r, h, x, hx, rfl⟩⟩
theorem kV_inj {j k : Key} (h : kV j = kV k) : j = k := by
  cases j with
  | inl a =>
    cases k with
    | inl b => rw [V.int.inj h]
    | inr b => cases h
  | inr a =>
    cases k with
    | inl b => cases h
    | inr b => rw [V.str.inj h]
theorem Vl.key : ∀ x : Vl, ∃ k, x.v = kV k
  | .nm s => ⟨Sum.inr s, rfl⟩
  | .nu i => ⟨Sum.inl i, rfl⟩
theorem flats_take {rs : List Row} {i : Nat} {r : Row} (h : rs[i]? = some r) : flats (rs.take (i + 1)) = flats (rs.take i) ++ r.flat := by
  rw [take_one h, flats_app]
  show flats (rs.take i) ++ (r.flat ++ []) = _
  rw [List.append_nil]
theorem tots_take {rs : List Row} {i : Nat} {r : Row} (h : rs[i]? = some r) : tots (rs.take (i + 1)) = tots (rs.take i) + r.tot := by
  rw [take_one h, tots_app]
  show tots (rs.take i) + (r.tot + 0) = _
  rw [Nat.add_zero]
theorem tots_take_le (rs : List Row) (i : Nat) : tots (rs.take i) ≤ tots rs := by
  have h := tots_app (rs := rs.take i) (qs := rs.drop i)
  rw [List.take_append_drop] at h
  omega
theorem upd_self {H : Hp} {a : Addr} {o : HO} (h : H a = some o) : upd H a o = H := by
  funext b
  by_cases e : b = a
  · rw [e, upd_same, h]
  · rw [upd_ne e]
end Lm
/-! What a run is, step by step. -/
namespace Lm
open PySem L2
/-- the values of the names -/
abbrev Wh := Str → Option Int
def Wh.get (ρ : Wh) : V → Int
  | .str s => (ρ s).getD 0
  | .int i => i
  | _ => 0
def Wh.set (ρ : Wh) (s : Str) (i : Int) : Wh := fun x => if x = s then some i else ρ x
def comeTo (sg : Str) (a b : Int) : Int :=
  if sg = "+" then (a + b) % 1000000 else if sg = "-" then (a - b) % 1000000 else if sg = "*" then a * b % 1000000 else if sg = "<" then (if a < b then 1 else 0) else a.fdiv b
structure Tale where
  ρ : Wh
  said : List Int
  steps : Nat
def Tale.tick (t : Tale) : Tale := { t with steps := t.steps + 1 }
inductive Ed where
  | done | long | nought
  deriving DecidableEq
def Ed.txt : Ed → Str
  | .done => "done"
  | .long => "too long"
  | .nought => "by nought"
inductive Cmd where
  | one (r : Row)
  | all (rs : List Row)
  | lp (ts : V) (rs : List Row)
/-- what is done, with at most m steps -/
inductive Does (m : Nat) : Cmd → Tale → Tale → Ed → Prop
  | letLong {to sg : Str} {a b : Vl} {t : Tale} : m ≤ t.steps → Does m (.one (.lt to sg a b)) t t .long
  | letNought {to sg : Str} {a b : Vl} {t : Tale} : t.steps < m → sg = "/" → t.ρ.get b.v = 0 → Does m (.one (.lt to sg a b)) t t.tick .nought
  | letDone {to sg : Str} {a b : Vl} {t : Tale} : t.steps < m → ¬ (sg = "/" ∧ t.ρ.get b.v = 0) → Does m (.one (.lt to sg a b)) t { t.tick with ρ := t.ρ.set to (comeTo sg (t.ρ.get a.v) (t.ρ.get b.v)) } .done
  | sayLong {a t} : m ≤ t.steps → Does m (.one (.sy a)) t t .long
  | sayDone {a t} : t.steps < m → Does m (.one (.sy a)) t { t.tick with said := t.said ++ [t.ρ.get a.v] } .done
  | whenLong {kd : Str} {ts : V} {rs : List Row} {t : Tale} : kd = "when" → m ≤ t.steps → Does m (.one (.bk kd ts rs)) t t .long
  | whenNo {kd : Str} {ts : V} {rs : List Row} {t : Tale} : kd = "when" → t.steps < m → t.ρ.get ts = 0 → Does m (.one (.bk kd ts rs)) t t.tick .done
  | whenIn {kd : Str} {ts : V} {rs : List Row} {t t1 : Tale} {e : Ed} : kd = "when" → t.steps < m → t.ρ.get ts ≠ 0 → Does m (.all rs) t.tick t1 e → Does m (.one (.bk kd ts rs)) t t1 e
  | loop {kd : Str} {ts : V} {rs : List Row} {t t1 : Tale} {e : Ed} : kd = "loop" → Does m (.lp ts rs) t t1 e → Does m (.one (.bk kd ts rs)) t t1 e
  | again {kd : Str} {ts : V} {rs : List Row} {t t1 t2 : Tale} {e : Ed} : kd = "again" → Does m (.all rs) t t1 .done → Does m (.lp ts rs) t1 t2 e → Does m (.one (.bk kd ts rs)) t t2 e
  | againStop {kd : Str} {ts : V} {rs : List Row} {t t1 : Tale} {e : Ed} : kd = "again" → Does m (.all rs) t t1 e → e ≠ .done → Does m (.one (.bk kd ts rs)) t t1 e
  | lpLong {ts rs t} : m ≤ t.steps → Does m (.lp ts rs) t t .long
  | lpNo {ts rs t} : t.steps < m → t.ρ.get ts = 0 → Does m (.lp ts rs) t t.tick .done
  | lpRound {ts rs t t1 t2 e} : t.steps < m → t.ρ.get ts ≠ 0 → Does m (.all rs) t.tick t1 .done → Does m (.lp ts rs) t1 t2 e → Does m (.lp ts rs) t t2 e
  | lpStop {ts rs t t1 e} : t.steps < m → t.ρ.get ts ≠ 0 → Does m (.all rs) t.tick t1 e → e ≠ .done → Does m (.lp ts rs) t t1 e
  | nil {t} : Does m (.all []) t t .done
  | cons {r rs t t1 t2 e} : Does m (.one r) t t1 .done → Does m (.all rs) t1 t2 e → Does m (.all (r :: rs)) t t2 e
  | consStop {r rs t t1 e} : Does m (.one r) t t1 e → e ≠ .done → Does m (.all (r :: rs)) t t1 e
theorem wl : ¬ ("when" : Str) = "loop" := by decide +kernel
theorem wa : ¬ ("when" : Str) = "again" := by decide +kernel
theorem la : ¬ ("loop" : Str) = "again" := by decide +kernel
theorem Does.det {m : Nat} {c : Cmd} {t t1 t2 : Tale} {e1 e2 : Ed} (h : Does m c t t1 e1) : Does m c t t2 e2 → t1 = t2 ∧ e1 = e2 := by
  have no1 : ∀ {n : Nat}, n < m → m ≤ n → False := fun h1 h2 => by omega
  induction h generalizing t2 e2 with
  | letLong h1 =>
    intro h2
    cases h2 with
    | letLong => exact ⟨rfl, rfl⟩
    | letNought g1 => exact (no1 g1 h1).elim
    | letDone g1 => exact (no1 g1 h1).elim
  | letNought h1 h3 h4 =>
    intro h2
    cases h2 with
    | letLong g1 => exact (no1 h1 g1).elim
    | letNought => exact ⟨rfl, rfl⟩
    | letDone _ g2 => exact (g2 ⟨h3, h4⟩).elim
  | letDone h1 h3 =>
    intro h2
    cases h2 with
    | letLong g1 => exact (no1 h1 g1).elim
    | letNought _ g2 g3 => exact (h3 ⟨g2, g3⟩).elim
    | letDone => exact ⟨rfl, rfl⟩
  | sayLong h1 =>
    intro h2
    cases h2 with
    | sayLong => exact ⟨rfl, rfl⟩
    | sayDone g1 => exact (no1 g1 h1).elim
  | sayDone h1 =>
    intro h2
    cases h2 with
    | sayLong g1 => exact (no1 h1 g1).elim
    | sayDone => exact ⟨rfl, rfl⟩
  | whenLong hk h1 =>
    intro h2
    cases h2 with
    | whenLong => exact ⟨rfl, rfl⟩
    | whenNo _ g1 => exact (no1 g1 h1).elim
    | whenIn _ g1 => exact (no1 g1 h1).elim
    | loop g => exact (wl (hk.symm.trans g)).elim
    | again g => exact (wa (hk.symm.trans g)).elim
    | againStop g => exact (wa (hk.symm.trans g)).elim
  | whenNo hk h1 h3 =>
    intro h2
    cases h2 with
    | whenLong _ g1 => exact (no1 h1 g1).elim
    | whenNo => exact ⟨rfl, rfl⟩
    | whenIn _ _ g1 => exact (g1 h3).elim
    | loop g => exact (wl (hk.symm.trans g)).elim
    | again g => exact (wa (hk.symm.trans g)).elim
    | againStop g => exact (wa (hk.symm.trans g)).elim
  | whenIn hk h1 h3 _ ih =>
    intro h2
    cases h2 with
    | whenLong _ g1 => exact (no1 h1 g1).elim
    | whenNo _ _ g1 => exact (h3 g1).elim
    | whenIn _ _ _ g1 => exact ih g1
    | loop g => exact (wl (hk.symm.trans g)).elim
    | again g => exact (wa (hk.symm.trans g)).elim
    | againStop g => exact (wa (hk.symm.trans g)).elim
  | loop hk _ ih =>
    intro h2
    cases h2 with
    | whenLong g => exact (wl (g.symm.trans hk)).elim
    | whenNo g => exact (wl (g.symm.trans hk)).elim
    | whenIn g => exact (wl (g.symm.trans hk)).elim
    | loop _ g => exact ih g
    | again g => exact (la (hk.symm.trans g)).elim
    | againStop g => exact (la (hk.symm.trans g)).elim
  | again hk _ _ ih1 ih2 =>
    intro h2
    cases h2 with
    | whenLong g => exact (wa (g.symm.trans hk)).elim
    | whenNo g => exact (wa (g.symm.trans hk)).elim
    | whenIn g => exact (wa (g.symm.trans hk)).elim
    | loop g => exact (la (g.symm.trans hk)).elim
    | again _ g1 g2 =>
      obtain ⟨rfl, _⟩ := ih1 g1
      exact ih2 g2
    | againStop _ g1 g2 =>
      obtain ⟨_, e⟩ := ih1 g1
      exact (g2 e.symm).elim
  | againStop hk _ hn ih =>
    intro h2
    cases h2 with
    | whenLong g => exact (wa (g.symm.trans hk)).elim
    | whenNo g => exact (wa (g.symm.trans hk)).elim
    | whenIn g => exact (wa (g.symm.trans hk)).elim
    | loop g => exact (la (g.symm.trans hk)).elim
    | again _ g1 g2 =>
      obtain ⟨_, e⟩ := ih g1
      exact (hn e).elim
    | againStop _ g1 g2 => exact ih g1
  | lpLong h1 =>
    intro h2
    cases h2 with
    | lpLong => exact ⟨rfl, rfl⟩
    | lpNo g1 => exact (no1 g1 h1).elim
    | lpRound g1 => exact (no1 g1 h1).elim
    | lpStop g1 => exact (no1 g1 h1).elim
  | lpNo h1 h3 =>
    intro h2
    cases h2 with
    | lpLong g1 => exact (no1 h1 g1).elim
    | lpNo => exact ⟨rfl, rfl⟩
    | lpRound _ g1 => exact (g1 h3).elim
    | lpStop _ g1 => exact (g1 h3).elim
  | lpRound h1 h3 _ _ ih1 ih2 =>
    intro h2
    cases h2 with
    | lpLong g1 => exact (no1 h1 g1).elim
    | lpNo _ g1 => exact (h3 g1).elim
    | lpRound _ _ g1 g2 =>
      obtain ⟨rfl, _⟩ := ih1 g1
      exact ih2 g2
    | lpStop _ _ g1 g2 =>
      obtain ⟨_, e⟩ := ih1 g1
      exact (g2 e.symm).elim
  | lpStop h1 h3 _ hn ih =>
    intro h2
    cases h2 with
    | lpLong g1 => exact (no1 h1 g1).elim
    | lpNo _ g1 => exact (h3 g1).elim
    | lpRound _ _ g1 g2 =>
      obtain ⟨_, e⟩ := ih g1
      exact (hn e).elim
    | lpStop _ _ g1 g2 => exact ih g1
  | nil =>
    intro h2
    cases h2
    exact ⟨rfl, rfl⟩
  | cons _ _ ih1 ih2 =>
    intro h2
    cases h2 with
    | cons g1 g2 =>
      obtain ⟨rfl, _⟩ := ih1 g1
      exact ih2 g2
    | consStop g1 g2 =>
      obtain ⟨_, e⟩ := ih1 g1
      exact (g2 e.symm).elim
  | consStop _ hn ih =>
    intro h2
    cases h2 with
    | cons g1 g2 =>
      obtain ⟨_, e⟩ := ih g1
      exact (hn e).elim
    | consStop g1 g2 => exact ih g1
/-- the steps do not fall, and never pass the most -/
theorem Does.steps {m : Nat} {c : Cmd} {t t1 : Tale} {e : Ed} (h : Does m c t t1 e) : t.steps ≤ t1.steps ∧ (t.steps ≤ m → t1.steps ≤ m) := by
  have tk : ∀ t : Tale, t.tick.steps = t.steps + 1 := fun _ => rfl
  induction h with
  | letLong h1 => exact ⟨Nat.le_refl _, id⟩
  | letNought h1 => exact ⟨Nat.le_succ _, fun _ => h1⟩
  | letDone h1 => exact ⟨Nat.le_succ _, fun _ => h1⟩
  | sayLong => exact ⟨Nat.le_refl _, id⟩
  | sayDone h1 => exact ⟨Nat.le_succ _, fun _ => h1⟩
  | whenLong => exact ⟨Nat.le_refl _, id⟩
  | whenNo _ h1 => exact ⟨Nat.le_succ _, fun _ => h1⟩
  | whenIn _ h1 _ _ ih => rw [tk] at ih; omega
  | loop _ _ ih => exact ih
  | again _ _ _ ih1 ih2 => omega
  | againStop _ _ _ ih => exact ih
  | lpLong => exact ⟨Nat.le_refl _, id⟩
  | lpNo h1 => exact ⟨Nat.le_succ _, fun _ => h1⟩
  | lpRound h1 _ _ _ ih1 ih2 => rw [tk] at ih1; omega
  | lpStop h1 _ _ _ ih => rw [tk] at ih; omega
  | nil => exact ⟨Nat.le_refl _, id⟩
  | cons _ _ ih1 ih2 => omega
  | consStop _ _ ih => exact ih
/-! ### values in a dict -/
/-- values from 0 to 999999 -/
def Wh.small (ρ : Wh) : Prop := ∀ x v, ρ x = some v → 0 ≤ v ∧ v < 1000000
theorem Wh.small.at {ρ : Wh} (h : ρ.small) (s : Str) : 0 ≤ (ρ s).getD 0 ∧ (ρ s).getD 0 < 1000000 := by
  cases e : ρ s with
  | none => exact ⟨Int.le_refl _, by decide⟩
  | some v => exact h s v e
theorem Wh.small.vl {ρ : Wh} (h : ρ.small) {ss : List Str} : ∀ {x : Vl}, x.ok ss → 0 ≤ ρ.get x.v ∧ ρ.get x.v < 1000000
  | .nm s, _ => h.at s
  | .nu i, hi => hi
theorem Wh.small.put {ρ : Wh} (h : ρ.small) {s : Str} {i : Int} (h0 : 0 ≤ i) (h1 : i < 1000000) : (ρ.set s i).small := fun x v e => by
  unfold Wh.set at e
  by_cases c : x = s
  · rw [if_pos c] at e
    cases e
    exact ⟨h0, h1⟩
  · rw [if_neg c] at e
    exact h x v e
theorem comeTo_small {sg : Str} {a b : Int} (ha : 0 ≤ a ∧ a < 1000000) (hb : 0 ≤ b ∧ b < 1000000) : 0 ≤ comeTo sg a b ∧ comeTo sg a b < 1000000 := by
  unfold comeTo
  split
  · exact ⟨Int.emod_nonneg _ (by decide), Int.emod_lt_of_pos _ (by decide)⟩
  split
  · exact ⟨Int.emod_nonneg _ (by decide), Int.emod_lt_of_pos _ (by decide)⟩
  split
  · exact ⟨Int.emod_nonneg _ (by decide), Int.emod_lt_of_pos _ (by decide)⟩
  split
  · split <;> exact ⟨by decide, by decide⟩
  · rw [Int.fdiv_eq_ediv_of_nonneg _ hb.1]
    exact ⟨Int.ediv_nonneg ha.1 hb.1, Int.lt_of_le_of_lt (Int.ediv_le_self _ ha.1) ha.2⟩
/-- at d a dict of the values ρ, at most n of them -/
structure DV (o : HO) (ρ : Wh) (n : Nat) : Prop where
  ex : ∃ kvs : List (Key × V), o = .dK kvs ∧ (kvs.map (·.1)).Nodup ∧ (∀ k ∈ kvs.map (·.1), ∃ x, k = Sum.inr x) ∧ (∀ x, valV kvs (Sum.inr x) = (ρ x).map V.int) ∧ kvs.length ≤ n
theorem DV.nil : DV (.dK []) (fun _ => none) 0 := ⟨⟨[], rfl, List.nodup_nil, fun k h => absurd h List.not_mem_nil, fun x => rfl, Nat.le_refl _⟩⟩
theorem putK_keys (kvs : List (Key × V)) (k : Key) (v : V) : (putK kvs k v).map (·.1) = if (valV kvs k).isSome then kvs.map (·.1) else kvs.map (·.1) ++ [k] := by
  cases e : valV kvs k with
  | none =>
    rw [putK_new v e, List.map_append]
    rfl
  | some u =>
    unfold putK
    have h := valV_any k kvs
    rw [e] at h
    have h' : (kvs.any fun kv => decide (kv.1 = k)) = true := h
    rw [if_pos h', List.map_map]
    refine (List.map_congr_left fun x _ => ?_).trans rfl
    show (if x.1 = k then (x.1, v) else x).1 = x.1
    split <;> rfl
theorem DV.put {kvs : List (Key × V)} {ρ : Wh} {n : Nat} (h : DV (.dK kvs) ρ n) (s : Str) (i : Int) : DV (.dK (putK kvs (Sum.inr s) (.int i))) (ρ.set s i) (n + 1) := by
  obtain ⟨kvs', e, h1, h2, h3, h4⟩ := h.ex
  cases e
  refine ⟨⟨_, rfl, ?_, ?_, fun x => ?_, Nat.le_trans (length_putK _ _ _) (Nat.succ_le_succ h4)⟩⟩
  · cases e : valV kvs (Sum.inr s) with
    | none => exact nd_putK _ h1 e
    | some u =>
      rw [putK_keys, e]
      exact h1
  · rw [putK_keys]
    intro k hk
    split at hk
    · exact h2 k hk
    · rcases List.mem_append.mp hk with z | z
      · exact h2 k z
      · exact ⟨s, List.mem_singleton.mp z⟩
  · rw [valV_put]
    unfold Wh.set
    by_cases c : x = s
    · rw [if_pos (by rw [c]), if_pos c]
      rfl
    · rw [if_neg (fun z => c (Sum.inr.inj z)), if_neg c]
      exact h3 x
theorem DV.more {o : HO} {ρ : Wh} {n m : Nat} (h : DV o ρ n) (hm : n ≤ m) : DV o ρ m := let ⟨kvs, a, b, c, d, e⟩ := h.ex; ⟨⟨kvs, a, b, c, d, Nat.le_trans e hm⟩⟩
theorem DV.get {kvs : List (Key × V)} {ρ : Wh} {n : Nat} (h : DV (.dK kvs) ρ n) (s : Str) : (valV kvs (Sum.inr s)).getD (.int 0) = .int ((ρ s).getD 0) := by
  obtain ⟨kvs', e, h1, h2, h3, h4⟩ := h.ex
  cases e
  rw [h3]
  cases ρ s <;> rfl
end Lm
namespace Lm
open PySem L2
theorem lkc {α : Type} (f g : Str) (y : α) (fs : List (Str × α)) : ((f, y) :: fs).lookup g = if g = f then some y else fs.lookup g := by
  by_cases h : g = f
  · subst h
    simp [List.lookup]
  · have e : (g == f) = false := by simpa using h
    rw [if_neg h]
    simp [List.lookup, e]
theorem put_same (f : Str) (v x : V) (r : List (Str × V)) : putF f v ((f, x) :: r) = (f, v) :: r := if_pos rfl
theorem put_next {f g : Str} (h : ¬ g = f) (v x : V) (r : List (Str × V)) : putF f v ((g, x) :: r) = (g, x) :: putF f v r := if_neg h
theorem put_end (f : Str) (v : V) : putF f v [] = [(f, v)] := rfl
/-- the attributes of a run -/
def pf (d s : Addr) (m n : Int) (e : Str) : List (Str × V) := [("worths", .ref d), ("most", .int m), ("steps", .int n), ("said", .ref s), ("ending", .str e)]
section
variable (d s : Addr) (m n : Int) (e : Str)
theorem pf_worths : (pf d s m n e).lookup ("worths" : Str) = some (.ref d) := by
  unfold pf
  rw [lkc, if_pos rfl]
theorem pf_most : (pf d s m n e).lookup ("most" : Str) = some (.int m) := by
  unfold pf
  rw [lkc, if_neg (by decide +kernel), lkc, if_pos rfl]
theorem pf_steps : (pf d s m n e).lookup ("steps" : Str) = some (.int n) := by
  unfold pf
  rw [lkc, if_neg (by decide +kernel), lkc, if_neg (by decide +kernel), lkc, if_pos rfl]
theorem pf_said : (pf d s m n e).lookup ("said" : Str) = some (.ref s) := by
  unfold pf
  rw [lkc, if_neg (by decide +kernel), lkc, if_neg (by decide +kernel), lkc, if_neg (by decide +kernel), lkc, if_pos rfl]
theorem pf_ending : (pf d s m n e).lookup ("ending" : Str) = some (.str e) := by
  unfold pf
  rw [lkc, if_neg (by decide +kernel), lkc, if_neg (by decide +kernel), lkc, if_neg (by decide +kernel), lkc, if_neg (by decide +kernel), lkc, if_pos rfl]
def pfN : List Str := ["worths", "most", "steps", "said", "ending"]
theorem pf_no {x : Str} (h : x ∉ pfN) : (pf d s m n e).lookup x = none := by
  simp only [pfN, List.mem_cons, List.not_mem_nil, or_false, not_or] at h
  unfold pf
  rw [lkc, if_neg h.1, lkc, if_neg h.2.1, lkc, if_neg h.2.2.1, lkc, if_neg h.2.2.2.1, lkc, if_neg h.2.2.2.2]
  rfl
theorem pf_tick (j : Int) : putF "steps" (.int j) (pf d s m n e) = pf d s m j e := by
  unfold pf
  rw [put_next (by decide +kernel), put_next (by decide +kernel), put_same]
theorem pf_end (z : Str) : putF "ending" (.str z) (pf d s m n e) = pf d s m n z := by
  unfold pf
  rw [put_next (by decide +kernel), put_next (by decide +kernel), put_next (by decide +kernel), put_next (by decide +kernel), put_same]
theorem pf_made : putF "ending" (.str e) (putF "said" (.ref s) (putF "steps" (.int n) (putF "most" (.int m) (putF "worths" (.ref d) [])))) = pf d s m n e := by
  unfold pf
  repeat (first | rw [put_end] | rw [put_next (by decide +kernel)])
theorem pf_len : (pf d s m n e).length < 1000 := by
  show 5 < 1000
  decide
end
/-- a run stands at p; Hc: what stood before -/
structure Pr (C : Addr) (Hc H : Hp) (p d s : Addr) (m : Nat) (t : Tale) (e : Str) : Prop where
  ob : ∃ dx, H p = some (.ins C dx (pf d s m t.steps e))
  dc : ∃ kvs, H d = some (.dK kvs) ∧ DV (.dK kvs) t.ρ (100 + t.steps)
  sd : H s = some (.lst (t.said.map V.int))
  sl : t.said.length ≤ t.steps
  st : t.steps ≤ m
  sm : t.ρ.small
  cl : Same Hc H
  cp : Hc p = none
  cd : Hc d = none
  cs : Hc s = none
  mm : m ≤ 100000
section
variable {C : Addr} {Hc H : Hp} {p d s : Addr} {m : Nat} {t : Tale} {e : Str}
theorem Pr.ne (h : Pr C Hc H p d s m t e) : p ≠ d ∧ p ≠ s ∧ d ≠ s := by
  obtain ⟨dx, h1⟩ := h.ob
  obtain ⟨kvs, h2, _⟩ := h.dc
  have h3 := h.sd
  exact ⟨ne_of h1 h2 (by intro z; cases z), ne_of h1 h3 (by intro z; cases z), ne_of h2 h3 (by intro z; cases z)⟩
theorem Pr.keep (h : Pr C Hc H p d s m t e) {b : Addr} (hb : Hc b = none) (o : HO) : Same Hc (upd H b o) := fun c x hc => by
  rw [upd_ne (ne_of_none hc hb)]
  exact h.cl c x hc
theorem Pr.ended (h : Pr C Hc H p d s m t e) {dx : Addr} (z : Str) : Pr C Hc (upd H p (.ins C dx (putF "ending" (.str z) (pf d s m t.steps e)))) p d s m t z := by
  obtain ⟨n1, n2, n3⟩ := h.ne
  obtain ⟨kvs, h2, h3⟩ := h.dc
  exact ⟨⟨dx, by rw [upd_same, pf_end]⟩, ⟨kvs, by rw [upd_ne n1.symm]; exact h2, h3⟩, by rw [upd_ne n2.symm]; exact h.sd, h.sl, h.st, h.sm, h.keep h.cp _, h.cp, h.cd, h.cs, h.mm⟩
theorem Pr.ticked (h : Pr C Hc H p d s m t e) {dx : Addr} (hm : t.steps < m) : Pr C Hc (upd H p (.ins C dx (putF "steps" (.int ((t.steps : Int) + 1)) (pf d s m t.steps e)))) p d s m t.tick e := by
  obtain ⟨n1, n2, n3⟩ := h.ne
  obtain ⟨kvs, h2, h3⟩ := h.dc
  exact ⟨⟨dx, by rw [upd_same, pf_tick]; rfl⟩, ⟨kvs, by rw [upd_ne n1.symm]; exact h2, h3.more (Nat.le_succ _)⟩, by rw [upd_ne n2.symm]; exact h.sd, Nat.le_succ_of_le h.sl, hm, h.sm, h.keep h.cp _, h.cp, h.cd, h.cs, h.mm⟩
/-- behind a step something more is said -/
theorem Pr.says (h : Pr C Hc H p d s m t.tick e) (hl : t.said.length ≤ t.steps) (i : Int) : Pr C Hc (upd H s (.lst (t.said.map V.int ++ [.int i]))) p d s m { t.tick with said := t.said ++ [i] } e := by
  obtain ⟨n1, n2, n3⟩ := h.ne
  obtain ⟨kvs, h2, h3⟩ := h.dc
  obtain ⟨dx, h1⟩ := h.ob
  exact ⟨⟨dx, by rw [upd_ne n2]; exact h1⟩, ⟨kvs, by rw [upd_ne n3]; exact h2, h3⟩, by rw [upd_same, List.map_append]; rfl, by rw [List.length_append]; exact Nat.succ_le_succ hl, h.st, h.sm, h.keep h.cs _, h.cp, h.cd, h.cs, h.mm⟩
/-- behind a step a name gets a value -/
theorem Pr.puts (h : Pr C Hc H p d s m t.tick e) {kvs : List (Key × V)} (hd : H d = some (.dK kvs)) (hv : DV (.dK kvs) t.ρ (100 + t.steps)) (to : Str) {i : Int} (h0 : 0 ≤ i) (h1 : i < 1000000) :
    Pr C Hc (upd H d (.dK (putK kvs (Sum.inr to) (.int i)))) p d s m { t.tick with ρ := t.ρ.set to i } e := by
  obtain ⟨n1, n2, n3⟩ := h.ne
  obtain ⟨dx, g1⟩ := h.ob
  exact ⟨⟨dx, by rw [upd_ne n1]; exact g1⟩, ⟨_, upd_same, hv.put to i⟩, by rw [upd_ne n3.symm]; exact h.sd, h.sl, h.st, h.sm.put h0 h1, h.keep h.cd _, h.cp, h.cd, h.cs, h.mm⟩
end
theorem Does.app {m : Nat} : ∀ {xs ys : List Row} {t t1 t2 : Tale} {e : Ed}, Does m (.all xs) t t1 .done → Does m (.all ys) t1 t2 e → Does m (.all (xs ++ ys)) t t2 e
  | [], ys, t, t1, t2, e, h, g => by
    cases h
    exact g
  | x :: xs, ys, t, t1, t2, e, h, g => by
    cases h with
    | cons h1 h2 => exact .cons h1 (Does.app h2 g)
    | consStop _ h2 => exact absurd rfl h2
/-- behind the rows so far one row that goes on -/
theorem Does.step {m : Nat} {rs : List Row} {i : Nat} {r : Row} {t t1 t2 : Tale} (h : Does m (.all (rs.take i)) t t1 .done) (hi : rs[i]? = some r) (g : Does m (.one r) t1 t2 .done) : Does m (.all (rs.take (i + 1))) t t2 .done := by
  rw [take_one hi]
  exact h.app (.cons g .nil)
/-- or that ends the run -/
theorem Does.stop {m : Nat} {rs : List Row} {i : Nat} {r : Row} {t t1 t2 : Tale} {e : Ed} (h : Does m (.all (rs.take i)) t t1 .done) (hi : rs[i]? = some r) (g : Does m (.one r) t1 t2 e) (he : e ≠ .done) : Does m (.all rs) t t2 e := by
  have e1 : rs = rs.take i ++ r :: rs.drop (i + 1) := by
    have := List.take_append_drop i rs
    have h2 : rs.drop i = r :: rs.drop (i + 1) := by
      obtain ⟨hl, hx⟩ := List.getElem?_eq_some_iff.mp hi
      rw [List.drop_eq_getElem_cons hl, hx]
    rw [← h2, this]
  rw [e1]
  exact h.app (.consStop g he)
theorem Does.round {m : Nat} {kd : Str} {ts : V} {rs : List Row} {t t1 t2 : Tale} {e : Ed} (hk : kd = "again") (h : Does m (.all rs) t t1 .done) (hm : t1.steps < m) (hx : t1.ρ.get ts ≠ 0) (g : Does m (.one (.bk kd ts rs)) t1.tick t2 e) : Does m (.one (.bk kd ts rs)) t t2 e := by
  cases g with
  | whenLong z => exact absurd (z.symm.trans hk) wa
  | whenNo z => exact absurd (z.symm.trans hk) wa
  | whenIn z => exact absurd (z.symm.trans hk) wa
  | loop z => exact absurd (z.symm.trans hk) la
  | again _ g1 g2 => exact .again hk h (.lpRound hm hx g1 g2)
  | againStop _ g1 g2 => exact .again hk h (.lpStop hm hx g1 g2)
theorem none_left {P : Program} {w : World} {K : PySem.W.Frag} {mg : Str → Option Value} {base : Heap} {f : Addr} {fd : FuncData} {k : Nat} {ps : List Str} {sp : Sp} (no : ∀ vs H Q E, ¬ sp vs H Q E) : FnOk P w K mg base CX0 k f fd ps sp :=
  ⟨fun vs H Q E h => absurd h (no vs H Q E), fun A outer s H args us vs Q E _ _ _ _ h => absurd h (no vs H Q E)⟩
/-- a method by its name -/
structure Mt (K : PySem.W.Frag) (C : Addr) (x q : Str) (st : Stmt) (ps : List Str) (f : Addr) (fd : FuncData) : Prop where
  fn : Fun K x q st f fd
  me : Meth K C x f
  b : Binds K fd ps []
theorem DV.nodupV {kvs : List (Key × V)} {ρ : Wh} {n : Nat} (h : DV (.dK kvs) ρ n) {i : Nat} {k : Key} {v : V} (hi : kvs[i]? = some (k, v)) : valV kvs k = some v := by
  obtain ⟨kvs', e, h1, _⟩ := h.ex
  cases e
  exact val_nodup h1 (k, v) (List.mem_of_getElem? hi)
theorem nodup_len {α : Type} [DecidableEq α] : ∀ {l m : List α}, l.Nodup → (∀ x ∈ l, x ∈ m) → l.length ≤ m.length
  | [], _, _, _ => Nat.zero_le _
  | x :: l, m, nd, h => by
    obtain ⟨h1, h2⟩ := List.nodup_cons.mp nd
    have hx : x ∈ m := h x List.mem_cons_self
    have ih := nodup_len (l := l) (m := m.erase x) h2 fun y hy => (List.mem_erase_of_ne (fun e => h1 (by rw [← e]; exact hy))).mpr (h y (List.mem_cons_of_mem _ hy))
    rw [List.length_erase_of_mem hx] at ih
    have := List.length_pos_of_mem hx
    show l.length + 1 ≤ m.length
    omega
theorem DV.same {ka kb : List (Key × V)} {ρ : Wh} {n m : Nat} (a : DV (.dK ka) ρ n) (b : DV (.dK kb) ρ m) : ka.length = kb.length ∧ ∀ p ∈ kb, ∃ x z, p = (Sum.inr x, V.int z) ∧ valV ka (Sum.inr x) = some (V.int z) := by
  have sub : ∀ {la lb : List (Key × V)} {n m : Nat}, DV (.dK la) ρ n → DV (.dK lb) ρ m → ∀ p ∈ la, ∃ x z, p = (Sum.inr x, V.int z) ∧ valV lb (Sum.inr x) = some (V.int z) := fun {la lb _ _} ha hb p hp => by
    obtain ⟨l1, e1, a1, a2, a3, a4⟩ := ha.ex
    obtain ⟨l2, e2, b1, b2, b3, b4⟩ := hb.ex
    cases e1
    cases e2
    obtain ⟨x, ex⟩ := a2 p.1 (List.mem_map_of_mem hp)
    have q := val_nodup a1 p hp
    rw [ex, a3] at q
    cases ez : ρ x with
    | none => rw [ez] at q; cases q
    | some z =>
      rw [ez] at q
      have q2 : V.int z = p.2 := Option.some.inj q
      exact ⟨x, z, Prod.ext ex q2.symm, by rw [b3, ez]; rfl⟩
  have le : ∀ {la lb : List (Key × V)} {n m : Nat}, DV (.dK la) ρ n → DV (.dK lb) ρ m → la.length ≤ lb.length := fun {la lb _ _} ha hb => by
    obtain ⟨l1, e1, a1, _⟩ := ha.ex
    cases e1
    have z := nodup_len (m := lb.map (·.1)) a1 fun k hk => by
      obtain ⟨p, hp, rfl⟩ := List.mem_map.mp hk
      obtain ⟨x, z, e, q⟩ := sub ha hb p hp
      rw [e]
      exact valV_in q
    rw [List.length_map, List.length_map] at z
    exact z
  exact ⟨Nat.le_antisymm (le a b) (le b a), sub b a⟩
/-- a new object, by a name for the heap with it -/
theorem newH {H : Hp} {p : Addr} (hp : H p = none) (o : HO) : ∃ H', upd H p o = H' ∧ Same H H' ∧ H' p = some o := ⟨_, rfl, same_new hp o, upd_same⟩
/-- a change at a place that is not of the base -/
theorem same_put {B H : Hp} (s : Same B H) {p : Addr} (hp : B p = none) (o : HO) : Same B (upd H p o) := fun b u hb => by
  rw [upd_ne (ne_of_none hb hp)]
  exact s b u hb
theorem DV.few {kvs : List (Key × V)} {ρ : Wh} {n : Nat} (h : DV (.dK kvs) ρ n) : kvs.length ≤ n := by
  obtain ⟨kvs', e, _, _, _, hl⟩ := h.ex
  cases e
  exact hl
theorem DV.tight {kvs : List (Key × V)} {ρ : Wh} {n : Nat} (h : DV (.dK kvs) ρ n) : DV (.dK kvs) ρ kvs.length := by
  obtain ⟨kvs', e, h1, h2, h3, _⟩ := h.ex
  cases e
  exact ⟨⟨kvs, rfl, h1, h2, h3, Nat.le_refl _⟩⟩
end Lm
/-! What goes ahead. -/
namespace Lm
open PySem L2
/-- the row r goes ahead; st: the rows that stay so far, be: those behind it -/
def Goes (st : List Row) (r : Row) (be : List Row) : Prop :=
  ∃ to sg a b, r = .lt to sg a b ∧ (flats st).any Row.fails = false ∧ (r.fails = true → (flats st).any Row.says = false) ∧ ¬ setN (flats st) to ∧ ¬ setN (flats be) to ∧ ¬ askN (flats st) to ∧
    ∀ x, V.str x ∈ r.asks → x ≠ to ∧ ¬ setN (flats st) x ∧ ¬ setN (flats be) x
open Classical in
/-- those that go ahead, those that stay -/
noncomputable def parts (st : List Row) : List Row → List Row × List Row
  | [] => ([], [])
  | r :: rs => if Goes st r rs then (r :: (parts st rs).1, (parts st rs).2) else ((parts (st ++ [r]) rs).1, r :: (parts (st ++ [r]) rs).2)
theorem parts_go {st : List Row} {r : Row} {rs : List Row} (h : Goes st r rs) : parts st (r :: rs) = (r :: (parts st rs).1, (parts st rs).2) := if_pos h
theorem parts_no {st : List Row} {r : Row} {rs : List Row} (h : ¬ Goes st r rs) : parts st (r :: rs) = ((parts (st ++ [r]) rs).1, r :: (parts (st ++ [r]) rs).2) := if_neg h
/-- behind some of the rows -/
structure Mid (rs be ah st : List Row) : Prop where
  one : (parts [] rs).1 = ah ++ (parts st be).1
  two : (parts [] rs).2 = st ++ (parts st be).2
theorem Mid.start (rs : List Row) : Mid rs rs [] [] := ⟨rfl, rfl⟩
theorem Mid.go {rs be ah st : List Row} {r : Row} (h : Mid rs (r :: be) ah st) (g : Goes st r be) : Mid rs be (ah ++ [r]) st := by
  obtain ⟨h1, h2⟩ := h
  rw [parts_go g] at h1 h2
  exact ⟨by rw [h1, List.append_assoc]; rfl, h2⟩
theorem Mid.no {rs be ah st : List Row} {r : Row} (h : Mid rs (r :: be) ah st) (g : ¬ Goes st r be) : Mid rs be ah (st ++ [r]) := by
  obtain ⟨h1, h2⟩ := h
  rw [parts_no g] at h1 h2
  exact ⟨h1, by rw [h2, List.append_assoc]; rfl⟩
theorem Mid.end_ {rs ah st : List Row} (h : Mid rs [] ah st) : (parts [] rs).1 = ah ∧ (parts [] rs).2 = st := by
  obtain ⟨h1, h2⟩ := h
  exact ⟨h1.trans (List.append_nil _), h2.trans (List.append_nil _)⟩
theorem setN_app (rs qs : List Row) (x : Str) : setN (rs ++ qs) x ↔ setN rs x ∨ setN qs x := by
  unfold setN
  simp only [List.mem_append]
  exact ⟨fun ⟨r, h, q⟩ => h.elim (fun h => .inl ⟨r, h, q⟩) fun h => .inr ⟨r, h, q⟩, fun h => h.elim (fun ⟨r, h, q⟩ => ⟨r, .inl h, q⟩) fun ⟨r, h, q⟩ => ⟨r, .inr h, q⟩⟩
theorem askN_app (rs qs : List Row) (x : Str) : askN (rs ++ qs) x ↔ askN rs x ∨ askN qs x := by
  unfold askN
  simp only [List.mem_append]
  exact ⟨fun ⟨r, h, q⟩ => h.elim (fun h => .inl ⟨r, h, q⟩) fun h => .inr ⟨r, h, q⟩, fun h => h.elim (fun ⟨r, h, q⟩ => ⟨r, .inl h, q⟩) fun ⟨r, h, q⟩ => ⟨r, .inr h, q⟩⟩
theorem flats_cons (r : Row) (rs : List Row) : flats (r :: rs) = r.flat ++ flats rs := rfl
theorem flats_one (r : Row) : flats [r] = r.flat := by
  show r.flat ++ [] = _
  rw [List.append_nil]
theorem setN_nil (x : Str) : ¬ setN [] x := fun ⟨r, h, _⟩ => by cases h
theorem setN_let (to sg : Str) (a b : Vl) (x : Str) : setN (Row.lt to sg a b).flat x ↔ x = to := by
  show setN [Row.lt to sg a b] x ↔ _
  unfold setN
  constructor
  · rintro ⟨r, h1, h2⟩
    rw [List.mem_singleton.mp h1] at h2
    exact List.mem_singleton.mp h2
  · rintro rfl
    exact ⟨_, List.mem_singleton.mpr rfl, List.mem_singleton.mpr rfl⟩
open Classical in
/-- how many of the rows set a name -/
noncomputable def cnt : List Row → Str → Nat
  | [], _ => 0
  | r :: rs, x => (if setN r.flat x then 1 else 0) + cnt rs x
theorem cnt_app : ∀ (rs qs : List Row) (x : Str), cnt (rs ++ qs) x = cnt rs x + cnt qs x
  | [], qs, x => (Nat.zero_add _).symm
  | r :: rs, qs, x => by
    show _ + cnt (rs ++ qs) x = (_ + cnt rs x) + cnt qs x
    rw [cnt_app rs qs x, Nat.add_assoc]
open Classical in
theorem cnt_zero : ∀ (rs : List Row) (x : Str), cnt rs x = 0 ↔ ¬ setN (flats rs) x
  | [], x => ⟨fun _ => setN_nil x, fun _ => rfl⟩
  | r :: rs, x => by
    rw [flats_cons, setN_app, not_or, ← cnt_zero rs x]
    show (if setN r.flat x then 1 else 0) + cnt rs x = 0 ↔ _
    by_cases h : setN r.flat x
    · rw [if_pos h]
      exact ⟨fun z => by omega, fun z => absurd h z.1⟩
    · rw [if_neg h]
      exact ⟨fun z => ⟨h, by omega⟩, fun z => by omega⟩
open Classical in
theorem cnt_let (st be : List Row) (to sg : Str) (a b : Vl) (x : Str) : cnt (st ++ .lt to sg a b :: be) x = cnt st x + (if x = to then 1 else 0) + cnt be x := by
  rw [cnt_app]
  show _ + ((if setN (Row.lt to sg a b).flat x then 1 else 0) + cnt be x) = _
  by_cases h : x = to
  · rw [if_pos ((setN_let to sg a b x).mpr h), if_pos h]
    omega
  · rw [if_neg (fun z => h ((setN_let to sg a b x).mp z)), if_neg h]
    omega
open Classical in
theorem cnt_one (rs : List Row) (r : Row) (x : Str) : cnt (rs ++ [r]) x = cnt rs x + (if setN r.flat x then 1 else 0) := by
  rw [cnt_app]
  show _ + (_ + 0) = _
  rw [Nat.add_zero]
/-- the attributes of a look -/
def lf (g d : Addr) (fl sp : Bool) : List (Str × V) := [("setters", .ref g), ("asked", .ref d), ("failing", .bl fl), ("speaking", .bl sp)]
section
variable (g d : Addr) (fl sp : Bool)
theorem lf_setters : (lf g d fl sp).lookup ("setters" : Str) = some (.ref g) := by
  unfold lf
  rw [lkc, if_pos rfl]
theorem lf_asked : (lf g d fl sp).lookup ("asked" : Str) = some (.ref d) := by
  unfold lf
  rw [lkc, if_neg (by decide +kernel), lkc, if_pos rfl]
theorem lf_failing : (lf g d fl sp).lookup ("failing" : Str) = some (.bl fl) := by
  unfold lf
  rw [lkc, if_neg (by decide +kernel), lkc, if_neg (by decide +kernel), lkc, if_pos rfl]
theorem lf_speaking : (lf g d fl sp).lookup ("speaking" : Str) = some (.bl sp) := by
  unfold lf
  rw [lkc, if_neg (by decide +kernel), lkc, if_neg (by decide +kernel), lkc, if_neg (by decide +kernel), lkc, if_pos rfl]
def lfN : List Str := ["setters", "asked", "failing", "speaking"]
theorem lf_no {x : Str} (h : x ∉ lfN) : (lf g d fl sp).lookup x = none := by
  simp only [lfN, List.mem_cons, List.not_mem_nil, or_false, not_or] at h
  unfold lf
  rw [lkc, if_neg h.1, lkc, if_neg h.2.1, lkc, if_neg h.2.2.1, lkc, if_neg h.2.2.2]
  rfl
theorem lf_put_f (b : Bool) : putF "failing" (.bl b) (lf g d fl sp) = lf g d b sp := by
  unfold lf
  rw [put_next (by decide +kernel), put_next (by decide +kernel), put_same]
theorem lf_put_s (b : Bool) : putF "speaking" (.bl b) (lf g d fl sp) = lf g d fl b := by
  unfold lf
  rw [put_next (by decide +kernel), put_next (by decide +kernel), put_next (by decide +kernel), put_same]
theorem lf_made : putF "speaking" (.bl sp) (putF "failing" (.bl fl) (putF "asked" (.ref d) (putF "setters" (.ref g) []))) = lf g d fl sp := by
  unfold lf
  repeat (first | rw [put_end] | rw [put_next (by decide +kernel)])
theorem lf_len : (lf g d fl sp).length < 1000 := by
  show 4 < 1000
  decide
end
/-- a look stands at p; st: what stays so far, be: what is still to be looked at -/
structure LookAt (C : Addr) (Hc H : Hp) (p g d : Addr) (st be : List Row) : Prop where
  ob : ∃ dx, H p = some (.ins C dx (lf g d ((flats st).any Row.fails) ((flats st).any Row.says)))
  ngd : g ≠ d
  sg : ∃ kvs ρ, H g = some (.dK kvs) ∧ DV (.dK kvs) ρ 500000 ∧ kvs.length + be.length ≤ 400000 ∧ ∀ x, (ρ x).getD 0 = (cnt (st ++ be) x : Int)
  ask : ∃ ks : List Key, H d = some (.dK (dkv ks)) ∧ ks.Nodup ∧ ks.length ≤ 100 * st.length ∧ (∀ k ∈ ks, ∃ x, k = Sum.inr x) ∧ ∀ x, Sum.inr x ∈ ks ↔ askN (flats st) x
  cl : Same Hc H
  cp : Hc p = none
  cg : Hc g = none
  cd : Hc d = none
theorem LookAt.ne {C : Addr} {Hc H : Hp} {p g d : Addr} {st be : List Row} (h : LookAt C Hc H p g d st be) : p ≠ g ∧ p ≠ d ∧ g ≠ d := by
  obtain ⟨dx, h1⟩ := h.ob
  obtain ⟨kvs, ρ, h2, _⟩ := h.sg
  obtain ⟨ks, h3, _⟩ := h.ask
  exact ⟨ne_of h1 h2 (by intro z; cases z), ne_of h1 h3 (by intro z; cases z), h.ngd⟩
theorem LookAt.same {C : Addr} {Hc H H' : Hp} {p g d : Addr} {st be : List Row} (s : Same H H') (h : LookAt C Hc H p g d st be) : LookAt C Hc H' p g d st be :=
  ⟨let ⟨dx, e⟩ := h.ob; ⟨dx, s _ _ e⟩, h.ngd, let ⟨k, ρ, a, b, c, e⟩ := h.sg; ⟨k, ρ, s _ _ a, b, c, e⟩, let ⟨k, a, b, c, e, f⟩ := h.ask; ⟨k, s _ _ a, b, c, e, f⟩, h.cl.trans s, h.cp, h.cg, h.cd⟩
theorem setN_in' {ss : List Str} {rs : List Row} (h : oks ss rs) {x : Str} (hx : setN rs x) : x ∈ ss := by
  obtain ⟨r, hr, hv⟩ := hx
  obtain ⟨i, hi, e⟩ := List.getElem_of_mem hr
  have ho : r.ok ss := oks_at (i := i) h (by rw [List.getElem?_eq_getElem hi, e])
  match r, ho, hv with
  | .lt to sg a b, ho, hv =>
    rw [List.mem_singleton.mp hv]
    exact ho.1
  | .sy a, _, hv => cases hv
  | .bk kd ts qs, _, hv => cases hv
theorem askN_in' {ss : List Str} {rs : List Row} (h : oks ss rs) {x : Str} (hx : askN rs x) : x ∈ ss := by
  obtain ⟨r, hr, hv⟩ := hx
  obtain ⟨i, hi, e⟩ := List.getElem_of_mem hr
  have ho : r.ok ss := oks_at (i := i) h (by rw [List.getElem?_eq_getElem hi, e])
  rcases Row.asks_ok ho hv with ⟨s, e, hs⟩ | ⟨z, e⟩
  · rw [V.str.inj e]
    exact hs
  · cases e
end Lm
/-! The moved program; rows whose lists are their own. -/
namespace Lm
open PySem L2
/-- rows and their values, taken apart in order -/
inductive Cut : List Row → List V → List Row → List V → List Row → List V → Prop
  | nil : Cut [] [] [] [] [] []
  | left {rs ah st : List Row} {vs us ws : List V} {r : Row} {v : V} : Cut rs vs ah us st ws → Cut (rs ++ [r]) (vs ++ [v]) (ah ++ [r]) (us ++ [v]) st ws
  | right {rs ah st : List Row} {vs us ws : List V} {r : Row} {v : V} : Cut rs vs ah us st ws → Cut (rs ++ [r]) (vs ++ [v]) ah us (st ++ [r]) (ws ++ [v])
theorem AllAt.unsnoc {K : PySem.W.Frag} {H : Hp} : ∀ {rs : List Row} {vs : List V} {r : Row} {v : V}, AllAt K H (rs ++ [r]) (vs ++ [v]) → AllAt K H rs vs ∧ RowAt K H r v
  | [], vs, r, v, ⟨u, ws, h1, h2, h3⟩ => by
    have e : ws = [] := h3
    subst e
    cases vs with
    | nil =>
      cases h1
      exact ⟨rfl, h2⟩
    | cons a b =>
      have := congrArg List.length h1
      simp at this
  | q :: rs, vs, r, v, ⟨u, ws, h1, h2, h3⟩ => by
    cases vs with
    | nil =>
      have e : ws = [] := (List.cons.inj h1).2.symm
      subst e
      have := h3.len
      simp at this
    | cons a b =>
      have h1' : a :: (b ++ [v]) = u :: ws := h1
      have e1 : u = a := (List.cons.inj h1').1.symm
      have e2 : ws = b ++ [v] := (List.cons.inj h1').2.symm
      subst e1
      subst e2
      obtain ⟨g1, g2⟩ := AllAt.unsnoc h3
      exact ⟨⟨_, _, rfl, h2, g1⟩, g2⟩
theorem AllAt.take {K : PySem.W.Frag} {H : Hp} : ∀ {rs : List Row} {vs : List V} (i : Nat), AllAt K H rs vs → AllAt K H (rs.take i) (vs.take i)
  | [], vs, i, h => by
    have e : vs = [] := h
    subst e
    rw [List.take_nil, List.take_nil]
    rfl
  | r :: rs, _, 0, _ => rfl
  | r :: rs, _, i + 1, ⟨v, ws, h1, h2, h3⟩ => by
    subst h1
    exact ⟨v, ws.take i, rfl, h2, h3.take i⟩
theorem Cut.at_ {K : PySem.W.Frag} {H : Hp} {rs ah st : List Row} {vs us ws : List V} (h : Cut rs vs ah us st ws) : AllAt K H rs vs → AllAt K H ah us ∧ AllAt K H st ws := by
  induction h with
  | nil => exact fun _ => ⟨rfl, rfl⟩
  | left h ih =>
    intro a
    obtain ⟨a1, a2⟩ := a.unsnoc
    obtain ⟨i1, i2⟩ := ih a1
    exact ⟨i1.app (AllAt.one a2), i2⟩
  | right h ih =>
    intro a
    obtain ⟨a1, a2⟩ := a.unsnoc
    obtain ⟨i1, i2⟩ := ih a1
    exact ⟨i1, i2.app (AllAt.one a2)⟩
/-! ### rows whose lists are their own -/
mutual
/-- F: the places of the lists in it, each once; none is of B -/
def OwnR (K : PySem.W.Frag) (B H : Hp) : Row → V → (Addr → Prop) → Prop
  | .lt to sg a b, v, F => RowAt K H (.lt to sg a b) v ∧ ∀ c, ¬ F c
  | .sy a, v, F => RowAt K H (.sy a) v ∧ ∀ c, ¬ F c
  | .bk kd ts rs, v, F => ∃ (p l : Addr) (vs : List V) (G : Addr → Prop), v = .ref p ∧ SqT K H p [.str kd, ts, .ref l] ∧ H l = some (.lst vs) ∧ B l = none ∧ OwnRs K B H rs vs G ∧ ¬ G l ∧ ∀ c, F c ↔ c = l ∨ G c
def OwnRs (K : PySem.W.Frag) (B H : Hp) : List Row → List V → (Addr → Prop) → Prop
  | [], vs, F => vs = [] ∧ ∀ c, ¬ F c
  | r :: rs, vs, F => ∃ (v : V) (ws : List V) (F1 F2 : Addr → Prop), vs = v :: ws ∧ OwnR K B H r v F1 ∧ OwnRs K B H rs ws F2 ∧ (∀ c, F1 c → F2 c → False) ∧ ∀ c, F c ↔ F1 c ∨ F2 c
end
mutual
theorem OwnR.row {K : PySem.W.Frag} {B H : Hp} : ∀ (r : Row) {v : V} {F : Addr → Prop}, OwnR K B H r v F → RowAt K H r v
  | .lt _ _ _ _, _, _, h => h.1
  | .sy _, _, _, h => h.1
  | .bk _ _ rs, _, _, ⟨p, l, vs, G, h1, h2, h3, h4, h5, _⟩ => ⟨p, l, vs, h1, h2, SqL.of h3, OwnRs.all rs h5⟩
theorem OwnRs.all {K : PySem.W.Frag} {B H : Hp} : ∀ (rs : List Row) {vs : List V} {F : Addr → Prop}, OwnRs K B H rs vs F → AllAt K H rs vs
  | [], _, _, h => h.1
  | r :: rs, _, _, ⟨v, ws, F1, F2, h1, h2, h3, _⟩ => ⟨v, ws, h1, OwnR.row r h2, OwnRs.all rs h3⟩
end
mutual
theorem OwnR.out {K : PySem.W.Frag} {B H : Hp} : ∀ (r : Row) {v : V} {F : Addr → Prop}, OwnR K B H r v F → ∀ c, F c → B c = none ∧ ∃ xs, H c = some (.lst xs)
  | .lt _ _ _ _, _, _, h, c, hc => absurd hc (h.2 c)
  | .sy _, _, _, h, c, hc => absurd hc (h.2 c)
  | .bk _ _ rs, _, _, ⟨p, l, vs, G, h1, h2, h3, h4, h5, h6, h7⟩, c, hc => by
    rcases (h7 c).mp hc with e | e
    · rw [e]
      exact ⟨h4, _, h3⟩
    · exact OwnRs.out rs h5 c e
theorem OwnRs.out {K : PySem.W.Frag} {B H : Hp} : ∀ (rs : List Row) {vs : List V} {F : Addr → Prop}, OwnRs K B H rs vs F → ∀ c, F c → B c = none ∧ ∃ xs, H c = some (.lst xs)
  | [], _, _, h, c, hc => absurd hc (h.2 c)
  | r :: rs, _, _, ⟨v, ws, F1, F2, h1, h2, h3, h4, h5⟩, c, hc => by
    rcases (h5 c).mp hc with e | e
    · exact OwnR.out r h2 c e
    · exact OwnRs.out rs h3 c e
end
mutual
/-- what is changed elsewhere leaves it -/
theorem OwnR.keep {K : PySem.W.Frag} {B B' H H' : Hp} (hB : ∀ c, B c = none → B' c = none) (hT : ∀ p xs, SqT K H p xs → SqT K H' p xs) : ∀ (r : Row) {v : V} {F : Addr → Prop}, (∀ c, F c → H' c = H c) → OwnR K B H r v F → OwnR K B' H' r v F
  | .lt _ _ _ _, _, _, _, ⟨⟨p, h1, h2⟩, h3⟩ => ⟨⟨p, h1, hT _ _ h2⟩, h3⟩
  | .sy _, _, _, _, ⟨⟨p, h1, h2⟩, h3⟩ => ⟨⟨p, h1, hT _ _ h2⟩, h3⟩
  | .bk _ _ rs, _, _, hF, ⟨p, l, vs, G, h1, h2, h3, h4, h5, h6, h7⟩ =>
    ⟨p, l, vs, G, h1, hT _ _ h2, by rw [hF l ((h7 l).mpr (.inl rfl))]; exact h3, hB _ h4, OwnRs.keep hB hT rs (fun c hc => hF c ((h7 c).mpr (.inr hc))) h5, h6, h7⟩
theorem OwnRs.keep {K : PySem.W.Frag} {B B' H H' : Hp} (hB : ∀ c, B c = none → B' c = none) (hT : ∀ p xs, SqT K H p xs → SqT K H' p xs) : ∀ (rs : List Row) {vs : List V} {F : Addr → Prop}, (∀ c, F c → H' c = H c) → OwnRs K B H rs vs F → OwnRs K B' H' rs vs F
  | [], _, _, _, h => h
  | r :: rs, _, _, hF, ⟨v, ws, F1, F2, h1, h2, h3, h4, h5⟩ =>
    ⟨v, ws, F1, F2, h1, OwnR.keep hB hT r (fun c hc => hF c ((h5 c).mpr (.inl hc))) h2, OwnRs.keep hB hT rs (fun c hc => hF c ((h5 c).mpr (.inr hc))) h3, h4, h5⟩
end
/-- the heap has grown -/
theorem OwnRs.grow {K : PySem.W.Frag} {B B' H H' : Hp} {rs : List Row} {vs : List V} {F : Addr → Prop} (hB : ∀ c, B c = none → B' c = none) (s : Same H H') (h : OwnRs K B H rs vs F) : OwnRs K B' H' rs vs F :=
  OwnRs.keep hB (fun p xs q => Kp.sqT (Same.kp s) q) rs (fun c hc => by
    obtain ⟨_, xs, e⟩ := OwnRs.out rs h c hc
    rw [e, s _ _ e]) h
theorem OwnRs.nil {K : PySem.W.Frag} {B H : Hp} : OwnRs K B H [] [] (fun _ => False) := ⟨rfl, fun _ h => h⟩
theorem OwnRs.app {K : PySem.W.Frag} {B H : Hp} : ∀ {rs qs : List Row} {vs ws : List V} {F G : Addr → Prop}, OwnRs K B H rs vs F → OwnRs K B H qs ws G → (∀ c, F c → G c → False) → OwnRs K B H (rs ++ qs) (vs ++ ws) (fun c => F c ∨ G c)
  | [], qs, vs, ws, F, G, ⟨h1, h2⟩, g, _ => by
    subst h1
    refine OwnRs.cong (F := G) (fun c => ⟨Or.inr, fun h => h.elim (fun z => absurd z (h2 c)) id⟩) g
  | r :: rs, qs, vs, ws, F, G, ⟨v, us, F1, F2, h1, h2, h3, h4, h5⟩, g, hd => by
    subst h1
    have ih := OwnRs.app h3 g (fun c a b => hd c ((h5 c).mpr (.inr a)) b)
    exact ⟨v, us ++ ws, F1, fun c => F2 c ∨ G c, rfl, h2, ih, fun c a b => b.elim (h4 c a) (hd c ((h5 c).mpr (.inl a))), fun c => by
      show (F c ∨ G c) ↔ F1 c ∨ (F2 c ∨ G c)
      rw [h5 c, or_assoc]⟩
where
  OwnRs.cong {K : PySem.W.Frag} {B H : Hp} : ∀ {rs : List Row} {vs : List V} {F G : Addr → Prop}, (∀ c, F c ↔ G c) → OwnRs K B H rs vs F → OwnRs K B H rs vs G
    | [], _, _, _, h, ⟨a, b⟩ => ⟨a, fun c z => b c ((h c).mpr z)⟩
    | r :: rs, _, _, _, h, ⟨v, ws, F1, F2, h1, h2, h3, h4, h5⟩ => ⟨v, ws, F1, F2, h1, h2, h3, h4, fun c => (h c).symm.trans (h5 c)⟩
theorem OwnRs.one {K : PySem.W.Frag} {B H : Hp} {r : Row} {v : V} {F : Addr → Prop} (h : OwnR K B H r v F) : OwnRs K B H [r] [v] F := ⟨v, [], F, fun _ => False, rfl, h, OwnRs.nil, fun _ _ h => h, fun c => ⟨Or.inl, fun h => h.elim id False.elim⟩⟩
theorem OwnRs.unsnoc {K : PySem.W.Frag} {B H : Hp} : ∀ {rs : List Row} {vs : List V} {r : Row} {v : V} {F : Addr → Prop}, OwnRs K B H (rs ++ [r]) (vs ++ [v]) F → ∃ F1 F2, OwnRs K B H rs vs F1 ∧ OwnR K B H r v F2 ∧ (∀ c, F1 c → F2 c → False) ∧ ∀ c, F c ↔ F1 c ∨ F2 c
  | [], vs, r, v, F, ⟨u, ws, F1, F2, h1, h2, ⟨h3, h3'⟩, h4, h5⟩ => by
    subst h3
    cases vs with
    | nil =>
      cases h1
      exact ⟨fun _ => False, F1, OwnRs.nil, h2, fun _ h _ => h, fun c => (h5 c).trans ⟨fun h => h.elim .inr fun z => absurd z (h3' c), fun h => h.elim False.elim .inl⟩⟩
    | cons a b =>
      have := congrArg List.length h1
      simp at this
  | q :: rs, vs, r, v, F, ⟨u, ws, F1, F2, h1, h2, h3, h4, h5⟩ => by
    cases vs with
    | nil =>
      have e : ws = [] := (List.cons.inj h1).2.symm
      subst e
      have := (OwnRs.all _ h3).len
      simp at this
    | cons a b =>
      have h1' : a :: (b ++ [v]) = u :: ws := h1
      have e1 : u = a := (List.cons.inj h1').1.symm
      have e2 : ws = b ++ [v] := (List.cons.inj h1').2.symm
      subst e1
      subst e2
      obtain ⟨G1, G2, g1, g2, g3, g4⟩ := OwnRs.unsnoc h3
      refine ⟨fun c => F1 c ∨ G1 c, G2, ⟨_, _, F1, G1, rfl, h2, g1, fun c x y => h4 c x ((g4 c).mpr (.inl y)), fun _ => Iff.rfl⟩, g2, fun c x y => x.elim (fun z => h4 c z ((g4 c).mpr (.inr y))) (fun z => g3 c z y), fun c => ?_⟩
      show F c ↔ (F1 c ∨ G1 c) ∨ G2 c
      rw [h5 c, g4 c, or_assoc]
/-- taken apart, what goes ahead and what stays is each its own -/
theorem Cut.own {K : PySem.W.Frag} {B H : Hp} {rs ah st : List Row} {vs us ws : List V} (h : Cut rs vs ah us st ws) : ∀ {F : Addr → Prop}, OwnRs K B H rs vs F → ∃ F1 F2, OwnRs K B H ah us F1 ∧ OwnRs K B H st ws F2 ∧ (∀ c, F1 c → F2 c → False) ∧ ∀ c, F1 c ∨ F2 c → F c := by
  induction h with
  | nil => exact fun _ => ⟨_, _, OwnRs.nil, OwnRs.nil, fun _ h _ => h, fun c h => h.elim False.elim False.elim⟩
  | left h ih =>
    intro F a
    obtain ⟨G1, G2, g1, g2, g3, g4⟩ := a.unsnoc
    obtain ⟨F1, F2, f1, f2, f3, f4⟩ := ih g1
    exact ⟨_, F2, f1.app (OwnRs.one g2) (fun c x y => g3 c (f4 c (.inl x)) y), f2, fun c x y => x.elim (fun z => f3 c z y) (fun z => g3 c (f4 c (.inr y)) z), fun c x => (g4 c).mpr (x.elim (fun z => z.elim (fun y => .inl (f4 c (.inl y))) .inr) (fun y => .inl (f4 c (.inr y))))⟩
  | right h ih =>
    intro F a
    obtain ⟨G1, G2, g1, g2, g3, g4⟩ := a.unsnoc
    obtain ⟨F1, F2, f1, f2, f3, f4⟩ := ih g1
    exact ⟨F1, _, f1, f2.app (OwnRs.one g2) (fun c x y => g3 c (f4 c (.inr x)) y), fun c x y => y.elim (fun z => f3 c x z) (fun z => g3 c (f4 c (.inl x)) z), fun c x => (g4 c).mpr (x.elim (fun y => .inl (f4 c (.inl y))) (fun z => z.elim (fun y => .inl (f4 c (.inr y))) .inr))⟩
/-! ### the moved program -/
open Classical in
noncomputable def mvB (kd : Str) (ts : V) (body : List Row) : List Row :=
  if kd = "when" then [.bk "when" ts body] else
  if kd = "loop" then (if (parts [] body).1 = [] then [.bk "loop" ts (parts [] body).2] else [.bk "when" ts ((parts [] body).1 ++ [.bk "again" ts (parts [] body).2])])
  else (parts [] body).1 ++ [.bk "again" ts (parts [] body).2]
mutual
noncomputable def Row.mv : Row → List Row
  | .lt to sg a b => [.lt to sg a b]
  | .sy a => [.sy a]
  | .bk kd ts rs => mvB kd ts (mvs rs)
noncomputable def mvs : List Row → List Row
  | [] => []
  | r :: rs => r.mv ++ mvs rs
end
theorem mvs_app : ∀ (rs qs : List Row), mvs (rs ++ qs) = mvs rs ++ mvs qs
  | [], qs => rfl
  | r :: rs, qs => by
    show r.mv ++ mvs (rs ++ qs) = (r.mv ++ mvs rs) ++ mvs qs
    rw [mvs_app rs qs, List.append_assoc]
theorem mvs_one (r : Row) : mvs [r] = r.mv := by
  show r.mv ++ [] = _
  rw [List.append_nil]
theorem mvs_take {rs : List Row} {i : Nat} {r : Row} (h : rs[i]? = some r) : mvs (rs.take (i + 1)) = mvs (rs.take i) ++ r.mv := by
  rw [take_one h, mvs_app, mvs_one]
/-! how much there is -/
theorem parts_tots : ∀ (rs st : List Row), tots (parts st rs).1 + tots (parts st rs).2 = tots rs
  | [], _ => rfl
  | r :: rs, st => by
    by_cases h : Goes st r rs
    · rw [parts_go h]
      have := parts_tots rs st
      show (r.tot + tots (parts st rs).1) + tots (parts st rs).2 = r.tot + tots rs
      omega
    · rw [parts_no h]
      have := parts_tots rs (st ++ [r])
      show tots (parts (st ++ [r]) rs).1 + (r.tot + tots (parts (st ++ [r]) rs).2) = r.tot + tots rs
      omega
theorem parts_deps : ∀ (rs st : List Row), deps (parts st rs).1 = 0 ∧ deps (parts st rs).2 ≤ deps rs
  | [], _ => ⟨rfl, Nat.le_refl _⟩
  | r :: rs, st => by
    by_cases h : Goes st r rs
    · rw [parts_go h]
      obtain ⟨h1, h2⟩ := parts_deps rs st
      obtain ⟨to, sg, a, b, e, _⟩ := h
      subst e
      refine ⟨?_, ?_⟩
      · show max 0 (deps (parts st rs).1) = 0
        omega
      · show deps (parts st rs).2 ≤ max 0 (deps rs)
        omega
    · rw [parts_no h]
      obtain ⟨h1, h2⟩ := parts_deps rs (st ++ [r])
      refine ⟨h1, ?_⟩
      show max r.dep (deps (parts (st ++ [r]) rs).2) ≤ max r.dep (deps rs)
      omega
theorem parts_oks {ss : List Str} : ∀ (rs st : List Row), oks ss rs → oks ss (parts st rs).1 ∧ oks ss (parts st rs).2
  | [], _, _ => ⟨True.intro, True.intro⟩
  | r :: rs, st, ⟨h1, h2⟩ => by
    by_cases h : Goes st r rs
    · rw [parts_go h]
      obtain ⟨g1, g2⟩ := parts_oks rs st h2
      exact ⟨⟨h1, g1⟩, g2⟩
    · rw [parts_no h]
      obtain ⟨g1, g2⟩ := parts_oks rs (st ++ [r]) h2
      exact ⟨g1, h1, g2⟩
theorem parts_len : ∀ (rs st : List Row), (parts st rs).1.length + (parts st rs).2.length = rs.length
  | [], _ => rfl
  | r :: rs, st => by
    by_cases h : Goes st r rs
    · rw [parts_go h]
      have := parts_len rs st
      show (parts st rs).1.length + 1 + (parts st rs).2.length = rs.length + 1
      omega
    · rw [parts_no h]
      have := parts_len rs (st ++ [r])
      show (parts (st ++ [r]) rs).1.length + ((parts (st ++ [r]) rs).2.length + 1) = rs.length + 1
      omega
theorem mvB_tots (kd : Str) (ts : V) (body : List Row) : tots (mvB kd ts body) ≤ tots body + 2 := by
  have h := parts_tots body []
  unfold mvB
  split
  · show tots body + 1 + 0 ≤ _
    omega
  · split
    · split
      · show tots (parts [] body).2 + 1 + 0 ≤ _
        omega
      · show tots ((parts [] body).1 ++ [.bk "again" ts (parts [] body).2]) + 1 + 0 ≤ _
        rw [tots_app]
        show tots (parts [] body).1 + (tots (parts [] body).2 + 1 + 0) + 1 + 0 ≤ _
        omega
    · rw [tots_app]
      show tots (parts [] body).1 + (tots (parts [] body).2 + 1 + 0) ≤ _
      omega
theorem mvB_deps (kd : Str) (ts : V) (body : List Row) : deps (mvB kd ts body) ≤ deps body + 2 := by
  obtain ⟨h1, h2⟩ := parts_deps body []
  unfold mvB
  split
  · show max (deps body + 1) 0 ≤ _
    omega
  · split
    · split
      · show max (deps (parts [] body).2 + 1) 0 ≤ _
        omega
      · show max (deps ((parts [] body).1 ++ [.bk "again" ts (parts [] body).2]) + 1) 0 ≤ _
        rw [deps_app]
        show max (max (deps (parts [] body).1) (max (deps (parts [] body).2 + 1) 0) + 1) 0 ≤ _
        omega
    · rw [deps_app]
      show max (deps (parts [] body).1) (max (deps (parts [] body).2 + 1) 0) ≤ _
      omega
mutual
theorem Row.mv_tots : ∀ r : Row, tots r.mv ≤ 2 * r.tot
  | .lt _ _ _ _ => by show 1 + 0 ≤ 2; omega
  | .sy _ => by show 1 + 0 ≤ 2; omega
  | .bk kd ts rs => by
    have h1 := mvB_tots kd ts (mvs rs)
    have h2 := mvs_tots rs
    show tots (mvB kd ts (mvs rs)) ≤ 2 * (tots rs + 1)
    omega
theorem mvs_tots : ∀ rs : List Row, tots (mvs rs) ≤ 2 * tots rs
  | [] => Nat.le_refl _
  | r :: rs => by
    have h1 := Row.mv_tots r
    have h2 := mvs_tots rs
    show tots (r.mv ++ mvs rs) ≤ 2 * (r.tot + tots rs)
    rw [tots_app]
    omega
end
mutual
theorem Row.mv_deps : ∀ r : Row, deps r.mv ≤ 2 * r.dep
  | .lt _ _ _ _ => Nat.le_refl _
  | .sy _ => Nat.le_refl _
  | .bk kd ts rs => by
    have h1 := mvB_deps kd ts (mvs rs)
    have h2 := mvs_deps rs
    show deps (mvB kd ts (mvs rs)) ≤ 2 * (deps rs + 1)
    omega
theorem mvs_deps : ∀ rs : List Row, deps (mvs rs) ≤ 2 * deps rs
  | [] => Nat.le_refl _
  | r :: rs => by
    have h1 := Row.mv_deps r
    have h2 := mvs_deps rs
    show deps (r.mv ++ mvs rs) ≤ 2 * max r.dep (deps rs)
    rw [deps_app]
    omega
end
theorem mvB_ok {ss : List Str} {kd te : Str} {body : List Row} (hk : kd ∈ kinds) (ht : te ∈ ss) (ok : oks ss body) (hl : tots body ≤ 1900) : oks ss (mvB kd (.str te) body) := by
  obtain ⟨h1, h2⟩ := parts_oks body [] ok
  have hp := parts_tots body []
  have l0 := len_tots body
  have l1 := len_tots (parts [] body).1
  have l2 := len_tots (parts [] body).2
  unfold mvB
  split
  · exact ⟨⟨by decide +kernel, ⟨_, rfl, ht⟩, by omega, ok⟩, True.intro⟩
  · split
    · split
      · exact ⟨⟨by decide +kernel, ⟨_, rfl, ht⟩, by omega, h2⟩, True.intro⟩
      · exact ⟨⟨by decide +kernel, ⟨_, rfl, ht⟩, by rw [List.length_append]; show _ + 1 ≤ 2000; omega, oks_app h1 ⟨⟨by decide +kernel, ⟨_, rfl, ht⟩, by omega, h2⟩, True.intro⟩⟩, True.intro⟩
    · exact oks_app h1 ⟨⟨by decide +kernel, ⟨_, rfl, ht⟩, by omega, h2⟩, True.intro⟩
mutual
theorem Row.mv_ok {ss : List Str} : ∀ r : Row, r.ok ss → r.tot ≤ 900 → oks ss r.mv
  | .lt _ _ _ _, h, _ => ⟨h, True.intro⟩
  | .sy _, h, _ => ⟨h, True.intro⟩
  | .bk kd ts rs, ⟨h1, ⟨x, h2, h3⟩, h4, h5⟩, hl => by
    have ht := mvs_tots rs
    have hl' : tots rs + 1 ≤ 900 := hl
    subst h2
    exact mvB_ok h1 h3 (mvs_ok rs h5 (by omega)) (by omega)
theorem mvs_ok {ss : List Str} : ∀ rs : List Row, oks ss rs → tots rs ≤ 900 → oks ss (mvs rs)
  | [], _, _ => True.intro
  | r :: rs, ⟨h1, h2⟩, hl => by
    have hl' : r.tot + tots rs ≤ 900 := hl
    exact oks_app (Row.mv_ok r h1 (by omega)) (mvs_ok rs h2 (by omega))
end
theorem sqT_upd {K : PySem.W.Frag} {H : Hp} {D : Addr} {us : List V} {o : HO} (e : H D = some (.lst us)) {p : Addr} {xs : List V} (h : SqT K H p xs) : SqT K (upd H D o) p xs := by
  rcases h with (h | ⟨u, h⟩) | h
  · exact .inl (.inl (by rw [upd_ne (ne_of h e (by intro z; cases z))]; exact h))
  · exact .inl (.inr ⟨u, by rw [upd_ne (ne_of h e (by intro z; cases z))]; exact h⟩)
  · exact .inr h
end Lm
/-! Moved once is enough. -/
namespace Lm
open PySem L2
theorem parts_set {x : Str} : ∀ (be st : List Row), (setN (flats st) x ∨ askN (flats st) x) → setN (flats be) x → setN (flats (parts st be).2) x
  | [], _, _, h => h
  | q :: be, st, hx, h => by
    rw [flats_cons, setN_app] at h
    by_cases g : Goes st q be
    · rw [parts_go g]
      obtain ⟨to, sg, a, b, rfl, _, _, n1, _, n2, _⟩ := g
      rcases h with h | h
      · have e := (setN_let to sg a b x).mp h
        subst e
        exact absurd hx (fun z => z.elim n1 n2)
      · exact parts_set be st hx h
    · rw [parts_no g]
      show setN (flats (q :: (parts (st ++ [q]) be).2)) x
      rw [flats_cons, setN_app]
      rcases h with h | h
      · exact .inl h
      · refine .inr (parts_set be (st ++ [q]) ?_ h)
        rw [flats_app, setN_app, askN_app]
        exact hx.elim (fun z => .inl (.inl z)) fun z => .inr (.inl z)
theorem Goes.back {st be : List Row} {r : Row} (h : Goes st r (parts (st ++ [r]) be).2) : Goes st r be := by
  obtain ⟨to, sg, a, b, rfl, h1, h2, h3, h4, h5, h6⟩ := h
  refine ⟨to, sg, a, b, rfl, h1, h2, h3, fun z => h4 (parts_set be _ (.inl ?_) z), h5, fun x hx => ⟨(h6 x hx).1, (h6 x hx).2.1, fun z => (h6 x hx).2.2 (parts_set be _ (.inr ?_) z)⟩⟩
  · rw [flats_app, setN_app, flats_one]
    exact .inr ((setN_let to sg a b to).mpr rfl)
  · rw [flats_app, askN_app, flats_one]
    exact .inr ⟨_, List.mem_singleton.mpr rfl, hx⟩
/-- of those that stay none goes ahead -/
theorem parts_again : ∀ (be st : List Row), parts st (parts st be).2 = ([], (parts st be).2)
  | [], st => rfl
  | r :: be, st => by
    by_cases g : Goes st r be
    · rw [parts_go g]
      exact parts_again be st
    · rw [parts_no g]
      show parts st (r :: (parts (st ++ [r]) be).2) = _
      rw [parts_no (fun z => g z.back), parts_again be (st ++ [r])]
theorem parts_stay : ∀ (rs st : List Row), (parts st rs).1 = [] → (parts st rs).2 = rs
  | [], _, _ => rfl
  | r :: rs, st, h => by
    by_cases g : Goes st r rs
    · rw [parts_go g] at h
      cases h
    · rw [parts_no g] at h ⊢
      show r :: (parts (st ++ [r]) rs).2 = _
      rw [parts_stay rs (st ++ [r]) h]
mutual
/-- nothing is left to move -/
def Row.still : Row → Prop
  | .lt _ _ _ _ => True
  | .sy _ => True
  | .bk kd ts rs => stills rs ∧ (kd = "when" ∨ (kd = "loop" ∨ kd = "again") ∧ (parts [] rs).1 = [])
def stills : List Row → Prop
  | [] => True
  | r :: rs => r.still ∧ stills rs
end
theorem stills_app : ∀ {rs qs : List Row}, stills rs → stills qs → stills (rs ++ qs)
  | [], _, _, h => h
  | r :: rs, _, ⟨h1, h2⟩, h => ⟨h1, stills_app h2 h⟩
theorem parts_still : ∀ (rs st : List Row), stills rs → stills (parts st rs).1 ∧ stills (parts st rs).2
  | [], _, _ => ⟨True.intro, True.intro⟩
  | r :: rs, st, ⟨h1, h2⟩ => by
    by_cases g : Goes st r rs
    · rw [parts_go g]
      obtain ⟨a, b⟩ := parts_still rs st h2
      exact ⟨⟨h1, a⟩, b⟩
    · rw [parts_no g]
      obtain ⟨a, b⟩ := parts_still rs (st ++ [r]) h2
      exact ⟨a, h1, b⟩
theorem again_still (ts : V) {body : List Row} (h : stills body) : (Row.bk "again" ts (parts [] body).2).still :=
  ⟨(parts_still body [] h).2, .inr ⟨.inr rfl, by rw [parts_again body []]⟩⟩
theorem mvB_still (kd : Str) (ts : V) {body : List Row} (h : stills body) : stills (mvB kd ts body) := by
  obtain ⟨h1, h2⟩ := parts_still body [] h
  unfold mvB
  split
  · exact ⟨⟨h, .inl rfl⟩, True.intro⟩
  · split
    · split
      · exact ⟨⟨h2, .inr ⟨.inl rfl, by rw [parts_again body []]⟩⟩, True.intro⟩
      · exact ⟨⟨stills_app h1 ⟨again_still ts h, True.intro⟩, .inl rfl⟩, True.intro⟩
    · exact stills_app h1 ⟨again_still ts h, True.intro⟩
mutual
theorem Row.mv_still : ∀ r : Row, stills r.mv
  | .lt _ _ _ _ => ⟨True.intro, True.intro⟩
  | .sy _ => ⟨True.intro, True.intro⟩
  | .bk kd ts rs => mvB_still kd ts (mvs_still rs)
theorem mvs_still : ∀ rs : List Row, stills (mvs rs)
  | [] => True.intro
  | r :: rs => stills_app (Row.mv_still r) (mvs_still rs)
end
mutual
theorem Row.still_mv : ∀ r : Row, r.still → r.mv = [r]
  | .lt _ _ _ _, _ => rfl
  | .sy _, _ => rfl
  | .bk kd ts rs, ⟨h1, h2⟩ => by
    show mvB kd ts (mvs rs) = _
    rw [stills_mvs rs h1]
    rcases h2 with e | ⟨e | e, h⟩
    · subst e
      exact if_pos rfl
    · subst e
      refine (if_neg (by decide)).trans ((if_pos rfl).trans ((if_pos h).trans ?_))
      rw [parts_stay rs [] h]
    · subst e
      refine (if_neg (by decide)).trans ((if_neg (by decide)).trans ?_)
      rw [h, parts_stay rs [] h]
      rfl
theorem stills_mvs : ∀ rs : List Row, stills rs → mvs rs = rs
  | [], _ => rfl
  | r :: rs, ⟨h1, h2⟩ => by
    show r.mv ++ mvs rs = _
    rw [Row.still_mv r h1, stills_mvs rs h2]
    rfl
end
theorem mvs_mvs (rs : List Row) : mvs (mvs rs) = mvs rs := stills_mvs _ (mvs_still rs)
end Lm
/-! What is left of rows; data of lets; a part of the heap with one more. -/
namespace Lm
open PySem L2
theorem AllAt.drop {K : PySem.W.Frag} {H : Hp} : ∀ {rs : List Row} {vs : List V} (i : Nat), AllAt K H rs vs → AllAt K H (rs.drop i) (vs.drop i)
  | [], vs, i, h => by
    have e : vs = [] := h
    subst e
    rw [List.drop_nil, List.drop_nil]
    rfl
  | r :: rs, _, 0, h => h
  | r :: rs, _, i + 1, ⟨v, ws, h1, h2, h3⟩ => by
    subst h1
    exact h3.drop i
theorem oks_left {ss : List Str} : ∀ {rs qs : List Row}, oks ss (rs ++ qs) → oks ss rs
  | [], _, _ => True.intro
  | _ :: _, _, ⟨h1, h2⟩ => ⟨h1, oks_left h2⟩
theorem oks_drop {ss : List Str} : ∀ {rs : List Row} (i : Nat), oks ss rs → oks ss (rs.drop i)
  | [], i, h => by rw [List.drop_nil]; exact h
  | _ :: _, 0, h => h
  | _ :: rs, i + 1, h => oks_drop (rs := rs) i h.2
theorem oks_take {ss : List Str} : ∀ {rs : List Row} (i : Nat), oks ss rs → oks ss (rs.take i)
  | [], i, h => by rw [List.take_nil]; exact h
  | _ :: _, 0, _ => True.intro
  | _ :: rs, i + 1, h => ⟨h.1, oks_take (rs := rs) i h.2⟩
theorem tots_drop_le (rs : List Row) (i : Nat) : tots (rs.drop i) ≤ tots rs := by
  have h := tots_app (rs := rs.take i) (qs := rs.drop i)
  rw [List.take_append_drop] at h
  omega
theorem deps_drop_le (rs : List Row) (i : Nat) : deps (rs.drop i) ≤ deps rs := by
  have h := deps_app (rs := rs.take i) (qs := rs.drop i)
  rw [List.take_append_drop] at h
  omega
theorem Mid.st_ok {ss : List Str} {rs be ah st : List Row} (h : Mid rs be ah st) (ok : oks ss rs) : oks ss st := oks_left (qs := (parts st be).2) (by rw [← h.two]; exact (parts_oks rs [] ok).2)
theorem Mid.st_tots {rs be ah st : List Row} (h : Mid rs be ah st) : tots st ≤ tots rs := by
  have h1 := parts_tots rs []
  have h2 := h.two
  rw [h2, tots_app] at h1
  omega
theorem Mid.st_deps {rs be ah st : List Row} (h : Mid rs be ah st) : deps st ≤ deps rs := by
  have h1 := (parts_deps rs []).2
  have h2 := h.two
  rw [h2, deps_app] at h1
  omega
theorem cut_drop (xs : List V) (i : Nat) {z : Int} (hz : z = (i : Int)) : cutV xs (some z) none = xs.drop i := by
  subst hz
  unfold cutV
  rw [HT.sIx_nat]
  show (xs.drop (min i xs.length)).take (xs.length - min i xs.length) = _
  by_cases h : i ≤ xs.length
  · rw [Nat.min_eq_left h]
    exact List.take_of_length_le (by rw [List.length_drop]; exact Nat.le_refl _)
  · rw [Nat.min_eq_right (by omega), Nat.sub_self, List.take_zero, List.drop_eq_nil_of_le (by omega)]
theorem drop_one {α : Type} {l : List α} {i : Nat} {x : α} (h : l[i]? = some x) : l.drop i = x :: l.drop (i + 1) := by
  obtain ⟨hl, hx⟩ := List.getElem?_eq_some_iff.mp h
  rw [List.drop_eq_getElem_cons hl, hx]
/-- one more object that stays -/
theorem Part.add {Hc H Hc' H' : Hp} (p : Part Hc H Hc' H') {a : Addr} {o : HO} (hc : Hc a = none) (h : H a = none) (e : H' a = some o) : Part Hc H (upd Hc' a o) H' :=
  ⟨p.all, fun b u q => by rw [upd_ne (ne_of_none q hc)]; exact p.cl b u q, fun b u q => by
    by_cases z : b = a
    · rw [z, upd_same] at q
      rw [z, ← q]
      exact e
    · rw [upd_ne z] at q
      exact p.sub b u q, fun b u q n => by rw [upd_ne (ne_of_none q h)]; exact p.no b u q n⟩
theorem Part.grown {Hc H H' : Hp} (h : Same Hc H) (s : Same H H') : Part Hc H Hc H' := ⟨s, Same.refl _, h.trans s, fun _ _ _ z => z⟩
theorem parts_lets : ∀ (rs st : List Row), ∀ r ∈ (parts st rs).1, ∃ to sg a b, r = Row.lt to sg a b
  | [], _, r, h => by cases h
  | q :: rs, st, r, h => by
    by_cases g : Goes st q rs
    · rw [parts_go g] at h
      rcases List.mem_cons.mp h with e | e
      · obtain ⟨to, sg, a, b, e2, _⟩ := g
        exact ⟨to, sg, a, b, e.trans e2⟩
      · exact parts_lets rs st r e
    · rw [parts_no g] at h
      exact parts_lets rs (st ++ [q]) r h
theorem letters_le : ∀ {l : List Nat}, lettersB l = true → ∀ c ∈ l, c < 1114112
  | [], _, c, h => by cases h
  | d :: l, hb, c, h => by
    have hb' : (Nat.ble 97 d && (Nat.ble d 122 && lettersB l)) = true := hb
    rw [Bool.and_eq_true, Bool.and_eq_true] at hb'
    rcases List.mem_cons.mp h with e | e
    · have := Nat.le_of_ble_eq_true hb'.2.1
      rw [e]
      omega
    · exact letters_le hb'.2.2 c e
theorem good_letters {s : Str} (h : Good s) : lettersB s.cps.toList = true := by
  unfold Good GoodL at h
  simp only [Bool.and_eq_true] at h
  exact h.1.2
theorem good_strOk {s : Str} (h : Good s) : PyData.strOk s = true := by
  unfold PyData.strOk
  rw [← Array.all_toList, List.all_eq_true]
  exact fun c hc => decide_eq_true (letters_le (good_letters h) c hc)
def Vl.dat : Vl → PyData
  | .nm s => .str s
  | .nu i => .int i
theorem Vl.dp {K : PySem.W.Frag} {H : Hp} : ∀ x : Vl, Dp K H x.v x.dat
  | .nm s => .str s
  | .nu i => .int i
theorem Vl.dat_ok {ss : List Str} (hg : ∀ s ∈ ss, Good s) : ∀ {x : Vl}, x.ok ss → x.dat.canLay0 = true
  | .nm s, h => by
    show PyData.canLay0 (.str s) = true
    unfold PyData.canLay0
    exact good_strOk (hg s h)
  | .nu i, _ => by
    show PyData.canLay0 (.int i) = true
    unfold PyData.canLay0
    rfl
theorem Vl.dat_depth : ∀ x : Vl, x.dat.depth = 0
  | .nm s => by
    show PyData.depth (.str s) = 0
    unfold PyData.depth
    rfl
  | .nu i => by
    show PyData.depth (.int i) = 0
    unfold PyData.depth
    rfl
theorem sign_strOk : ∀ sg ∈ signs, PyData.strOk sg = true := by
  have h : signs.all (fun s => PyData.strOk s) = true := by decide +kernel
  exact fun s hs => List.all_eq_true.mp h s hs
def letD (to sg : Str) (a b : Vl) : PyData := .tuple [.str "let", .str to, .str sg, a.dat, b.dat]
theorem letD_ok {ss : List Str} (hg : ∀ s ∈ ss, Good s) {to sg : Str} {a b : Vl} (h : (Row.lt to sg a b).ok ss) : (letD to sg a b).canLay0 = true ∧ (letD to sg a b).depth = 1 := by
  obtain ⟨h1, h2, h3, h4⟩ := h
  constructor
  · have e1 : PyData.canLay0 (.str "let") = true := by unfold PyData.canLay0; decide +kernel
    have e2 : PyData.canLay0 (.str to) = true := by unfold PyData.canLay0; exact good_strOk (hg _ h1)
    have e3 : PyData.canLay0 (.str sg) = true := by unfold PyData.canLay0; exact sign_strOk _ h2
    unfold letD
    simp only [PyData.canLay0, PyData.canLayAll0] at e1 e2 e3 ⊢
    rw [e1, e2, e3, Vl.dat_ok hg h3, Vl.dat_ok hg h4]
    rfl
  · unfold letD
    simp only [PyData.depth, PyData.depthAll]
    rw [Vl.dat_depth, Vl.dat_depth]
    rfl
theorem lets_dp {K : PySem.W.Frag} {H : Hp} {ss : List Str} (hg : ∀ s ∈ ss, Good s) : ∀ {rs : List Row} {vs : List V}, (∀ r ∈ rs, ∃ to sg a b, r = Row.lt to sg a b) → oks ss rs → AllAt K H rs vs → ∃ ds : List PyData, DpAll K H vs ds ∧ PyData.canLayAll0 ds = true ∧ PyData.depthAll ds ≤ 1 ∧ ds.length = rs.length
  | [], vs, _, _, h => by
    have e : vs = [] := h
    subst e
    exact ⟨[], .nil, by unfold PyData.canLayAll0; rfl, by unfold PyData.depthAll; decide, rfl⟩
  | r :: rs, _, hl, ok, ⟨v, ws, h1, h2, h3⟩ => by
    subst h1
    obtain ⟨to, sg, a, b, rfl⟩ := hl r List.mem_cons_self
    obtain ⟨p, e1, e2⟩ := h2
    subst e1
    obtain ⟨ds, d1, d2, d3, d4⟩ := lets_dp hg (fun q hq => hl q (List.mem_cons_of_mem _ hq)) ok.2 h3
    obtain ⟨k1, k2⟩ := letD_ok hg ok.1
    refine ⟨letD to sg a b :: ds, .cons (.tup e2 (.cons (.str _) (.cons (.str _) (.cons (.str _) (.cons a.dp (.cons b.dp .nil)))))) d1, ?_, ?_, by rw [List.length_cons, List.length_cons, d4]⟩
    · unfold PyData.canLayAll0
      rw [k1, d2]
      rfl
    · unfold PyData.depthAll
      rw [k2]
      omega
theorem shaped_list {ds : List PyData} (h1 : PyData.canLayAll0 ds = true) (h2 : PyData.depthAll ds ≤ 1) : SeqAt.shaped (.list ds) = true := by
  unfold SeqAt.shaped
  rw [Bool.and_eq_true]
  refine ⟨by unfold PyData.canLay0; exact h1, decide_eq_true ?_⟩
  unfold PyData.depth
  omega
theorem eqv_nil : ∀ ds : List PyData, PyData.eqv (.list ds) (.list []) = decide (ds.length = 0)
  | [] => by
    unfold PyData.eqv PyData.eqvAll
    rfl
  | d :: ds => by
    unfold PyData.eqv PyData.eqvAll
    rw [decide_eq_false (by rw [List.length_cons]; omega)]
/-- what changes elsewhere leaves a tuple -/
theorem sqT_off {K : PySem.W.Frag} {H H' : Hp} {F : Addr → Prop} (f : ∀ c o, H c = some o → ¬ F c → H' c = some o) (hF : ∀ c, F c → ∃ xs, H c = some (.lst xs)) {p : Addr} {xs : List V} (h : SqT K H p xs) : SqT K H' p xs := by
  have no : ∀ {o : HO}, H p = some o → (∀ xs, o ≠ .lst xs) → ¬ F p := fun e n q => by
    obtain ⟨xs, e2⟩ := hF p q
    rw [e] at e2
    exact n xs (Option.some.inj e2)
  rcases h with (h | ⟨u, h⟩) | h
  · exact .inl (.inl (f _ _ h (no h (fun _ z => by cases z))))
  · exact .inl (.inr ⟨u, f _ _ h (no h (fun _ z => by cases z))⟩)
  · exact .inr h
theorem own_bk {K : PySem.W.Frag} {B H : Hp} {p l : Addr} {kd : Str} {ts : V} {rs : List Row} {xs : List V} {F : Addr → Prop} (hp : SqT K H p [.str kd, ts, .ref l]) (hl : H l = some (.lst xs)) (hB : B l = none) (h : OwnRs K B H rs xs F) (hF : ¬ F l) : OwnR K B H (.bk kd ts rs) (.ref p) (fun c => c = l ∨ F c) :=
  ⟨p, l, xs, F, rfl, hp, hl, hB, h, hF, fun _ => Iff.rfl⟩
theorem cut_take (xs : List V) (i : Nat) {z : Int} (hz : z = (i : Int)) : cutV xs none (some z) = xs.take i := by
  subst hz
  unfold cutV
  rw [HT.sIx_nat]
  show (xs.drop 0).take (min i xs.length - 0) = _
  rw [List.drop_zero, Nat.sub_zero]
  by_cases h : i ≤ xs.length
  · rw [Nat.min_eq_left h]
  · rw [Nat.min_eq_right (by omega), List.take_length, List.take_of_length_le (by omega)]
theorem Vl.more {ss ss' : List Str} (h : ∀ s ∈ ss, s ∈ ss') : ∀ {x : Vl}, x.ok ss → x.ok ss'
  | .nm s, q => h s q
  | .nu _, q => q
mutual
theorem Row.more {ss ss' : List Str} (h : ∀ s ∈ ss, s ∈ ss') : ∀ (r : Row), r.ok ss → r.ok ss'
  | .lt _ _ _ _, ⟨a, b, c, d⟩ => ⟨h _ a, b, Vl.more h c, Vl.more h d⟩
  | .sy _, q => Vl.more h q
  | .bk _ _ rs, ⟨a, ⟨s, e, b⟩, c, d⟩ => ⟨a, ⟨s, e, h _ b⟩, c, oks_more h rs d⟩
theorem oks_more {ss ss' : List Str} (h : ∀ s ∈ ss, s ∈ ss') : ∀ (rs : List Row), oks ss rs → oks ss' rs
  | [], _ => True.intro
  | r :: rs, ⟨a, b⟩ => ⟨Row.more h r a, oks_more h rs b⟩
end
theorem all_true (n : Nat) : (List.replicate n true).all id = true := by simp
theorem ints_dp {K : PySem.W.Frag} {H : Hp} : ∀ xs : List Int, DpAll K H (xs.map V.int) (xs.map PyData.int) ∧ PyData.canLayAll0 (xs.map PyData.int) = true ∧ PyData.depthAll (xs.map PyData.int) = 0 ∧ PyData.eqvAll (xs.map PyData.int) (xs.map PyData.int) = true
  | [] => ⟨.nil, by show PyData.canLayAll0 [] = true; unfold PyData.canLayAll0; rfl, by show PyData.depthAll [] = 0; unfold PyData.depthAll; rfl, by show PyData.eqvAll [] [] = true; unfold PyData.eqvAll; rfl⟩
  | x :: xs => by
    obtain ⟨h1, h2, h3, h4⟩ := ints_dp (K := K) (H := H) xs
    refine ⟨.cons (.int x) h1, ?_, ?_, ?_⟩
    · show PyData.canLayAll0 (.int x :: xs.map PyData.int) = true
      unfold PyData.canLayAll0
      rw [h2]
      unfold PyData.canLay0
      rfl
    · show PyData.depthAll (.int x :: xs.map PyData.int) = 0
      unfold PyData.depthAll
      rw [h3]
      unfold PyData.depth
      rfl
    · show PyData.eqvAll (.int x :: xs.map PyData.int) (.int x :: xs.map PyData.int) = true
      unfold PyData.eqvAll
      rw [h4]
      unfold PyData.eqv
      simp
theorem ints_same {K : PySem.W.Frag} {H : Hp} {p q : Addr} {xs : List Int} (h1 : SqL K H p (xs.map V.int)) (h2 : SqL K H q (xs.map V.int)) : ∃ d, Dp K H (.ref p) d ∧ Dp K H (.ref q) d ∧ SeqAt.shaped d = true ∧ PyData.eqv d d = true := by
  obtain ⟨a1, a2, a3, a4⟩ := ints_dp (K := K) (H := H) xs
  refine ⟨.list (xs.map PyData.int), .lst h1 a1, .lst h2 a1, shaped_list a2 (by omega), ?_⟩
  unfold PyData.eqv
  exact a4
end Lm
/-! The law's own tale of a run: a dict. -/
namespace Lm
open PySem L2
def tk (d s : Addr) (n m : Int) (e : Str) : List (Key × V) := [(Sum.inr "values", .ref d), (Sum.inr "said", .ref s), (Sum.inr "steps", .int n), (Sum.inr "most", .int m), (Sum.inr "ending", .str e)]
theorem kne {x y : Str} (h : ¬ x = y) : ¬ (Sum.inr x : Key) = Sum.inr y := fun z => h (Sum.inr.inj z)
section
variable (d s : Addr) (n m : Int) (e : Str)
theorem tk_values : valV (tk d s n m e) (Sum.inr "values") = some (.ref d) := by
  unfold tk
  rw [valV_pos rfl]
theorem tk_said : valV (tk d s n m e) (Sum.inr "said") = some (.ref s) := by
  unfold tk
  rw [valV_neg (kne (by decide +kernel)), valV_pos rfl]
theorem tk_steps : valV (tk d s n m e) (Sum.inr "steps") = some (.int n) := by
  unfold tk
  rw [valV_neg (kne (by decide +kernel)), valV_neg (kne (by decide +kernel)), valV_pos rfl]
theorem tk_most : valV (tk d s n m e) (Sum.inr "most") = some (.int m) := by
  unfold tk
  rw [valV_neg (kne (by decide +kernel)), valV_neg (kne (by decide +kernel)), valV_neg (kne (by decide +kernel)), valV_pos rfl]
theorem tk_ending : valV (tk d s n m e) (Sum.inr "ending") = some (.str e) := by
  unfold tk
  rw [valV_neg (kne (by decide +kernel)), valV_neg (kne (by decide +kernel)), valV_neg (kne (by decide +kernel)), valV_neg (kne (by decide +kernel)), valV_pos rfl]
theorem putK_hit {kvs : List (Key × V)} {k : Key} (v : V) (h : (valV kvs k).isSome = true) : putK kvs k v = kvs.map (fun kv => if kv.1 = k then (kv.1, v) else kv) := by
  unfold putK
  rw [valV_any]
  exact if_pos h
theorem tk_tick (j : Int) : putK (tk d s n m e) (Sum.inr "steps") (.int j) = tk d s j m e := by
  rw [putK_hit _ (by rw [tk_steps]; rfl)]
  unfold tk
  dsimp only [List.map]
  rw [if_neg (kne (by decide +kernel)), if_neg (kne (by decide +kernel)), if_pos rfl, if_neg (kne (by decide +kernel)), if_neg (kne (by decide +kernel))]
theorem tk_end (z : Str) : putK (tk d s n m e) (Sum.inr "ending") (.str z) = tk d s n m z := by
  rw [putK_hit _ (by rw [tk_ending]; rfl)]
  unfold tk
  dsimp only [List.map]
  rw [if_neg (kne (by decide +kernel)), if_neg (kne (by decide +kernel)), if_neg (kne (by decide +kernel)), if_neg (kne (by decide +kernel)), if_pos rfl]
end
theorem merge_nodup : ∀ (more acc : List (Key × V)), ((acc ++ more).map (·.1)).Nodup → mergeK acc more = acc ++ more
  | [], acc, _ => (List.append_nil acc).symm
  | p :: r, acc, h => by
    have no : valV acc p.1 = none := by
      cases e : valV acc p.1 with
      | none => rfl
      | some u =>
        have hin := valV_in e
        rw [List.map_append, List.nodup_append] at h
        exact absurd rfl (h.2.2 _ hin _ (by simp))
    have e1 : acc ++ p :: r = (acc ++ [p]) ++ r := by simp
    show mergeK (putK acc p.1 p.2) r = _
    rw [putK_new _ no, e1]
    exact merge_nodup r _ (by rw [e1] at h; exact h)
theorem tk_made (d s : Addr) (n m : Int) (e : Str) : mergeK [] (tk d s n m e) = tk d s n m e := by
  refine merge_nodup _ [] ?_
  show ([Sum.inr "values", Sum.inr "said", Sum.inr "steps", Sum.inr "most", Sum.inr "ending"] : List Key).Nodup
  decide +kernel
/-- a tale stands at a; Hc: what stood before -/
structure Tl (Hc H : Hp) (a d s : Addr) (m : Nat) (t : Tale) (e : Str) : Prop where
  ob : H a = some (.dK (tk d s t.steps m e))
  nad : a ≠ d
  dc : ∃ kvs, H d = some (.dK kvs) ∧ DV (.dK kvs) t.ρ (100 + t.steps)
  sd : H s = some (.lst (t.said.map V.int))
  sl : t.said.length ≤ t.steps
  st : t.steps ≤ m
  sm : t.ρ.small
  cl : Same Hc H
  ca : Hc a = none
  cd : Hc d = none
  cs : Hc s = none
  mm : m ≤ 100000
section
variable {Hc H : Hp} {a d s : Addr} {m : Nat} {t : Tale} {e : Str}
theorem Tl.ne (h : Tl Hc H a d s m t e) : a ≠ d ∧ a ≠ s ∧ d ≠ s := by
  obtain ⟨kvs, h2, _⟩ := h.dc
  exact ⟨h.nad, ne_of h.ob h.sd (by intro z; cases z), ne_of h2 h.sd (by intro z; cases z)⟩
theorem Tl.keep (h : Tl Hc H a d s m t e) {b : Addr} (hb : Hc b = none) (o : HO) : Same Hc (upd H b o) := fun c x hc => by
  rw [upd_ne (ne_of_none hc hb)]
  exact h.cl c x hc
theorem Tl.ended (h : Tl Hc H a d s m t e) (z : Str) : Tl Hc (upd H a (.dK (putK (tk d s t.steps m e) (Sum.inr "ending") (.str z)))) a d s m t z := by
  obtain ⟨n1, n2, n3⟩ := h.ne
  obtain ⟨kvs, h2, h3⟩ := h.dc
  exact ⟨by rw [upd_same, tk_end], h.nad, ⟨kvs, by rw [upd_ne n1.symm]; exact h2, h3⟩, by rw [upd_ne n2.symm]; exact h.sd, h.sl, h.st, h.sm, h.keep h.ca _, h.ca, h.cd, h.cs, h.mm⟩
theorem Tl.ticked (h : Tl Hc H a d s m t e) (hm : t.steps < m) : Tl Hc (upd H a (.dK (putK (tk d s t.steps m e) (Sum.inr "steps") (.int ((t.steps : Int) + 1))))) a d s m t.tick e := by
  obtain ⟨n1, n2, n3⟩ := h.ne
  obtain ⟨kvs, h2, h3⟩ := h.dc
  exact ⟨by rw [upd_same, tk_tick]; rfl, h.nad, ⟨kvs, by rw [upd_ne n1.symm]; exact h2, h3.more (Nat.le_succ _)⟩, by rw [upd_ne n2.symm]; exact h.sd, Nat.le_succ_of_le h.sl, hm, h.sm, h.keep h.ca _, h.ca, h.cd, h.cs, h.mm⟩
theorem Tl.says (h : Tl Hc H a d s m t.tick e) (hl : t.said.length ≤ t.steps) (i : Int) : Tl Hc (upd H s (.lst (t.said.map V.int ++ [.int i]))) a d s m { t.tick with said := t.said ++ [i] } e := by
  obtain ⟨n1, n2, n3⟩ := h.ne
  obtain ⟨kvs, h2, h3⟩ := h.dc
  exact ⟨by rw [upd_ne n2]; exact h.ob, h.nad, ⟨kvs, by rw [upd_ne n3]; exact h2, h3⟩, by rw [upd_same, List.map_append]; rfl, by rw [List.length_append]; exact Nat.succ_le_succ hl, h.st, h.sm, h.keep h.cs _, h.ca, h.cd, h.cs, h.mm⟩
theorem Tl.puts (h : Tl Hc H a d s m t.tick e) {kvs : List (Key × V)} (hv : DV (.dK kvs) t.ρ (100 + t.steps)) (to : Str) {i : Int} (h0 : 0 ≤ i) (h1 : i < 1000000) :
    Tl Hc (upd H d (.dK (putK kvs (Sum.inr to) (.int i)))) a d s m { t.tick with ρ := t.ρ.set to i } e := by
  obtain ⟨n1, n2, n3⟩ := h.ne
  exact ⟨by rw [upd_ne n1]; exact h.ob, h.nad, ⟨_, upd_same, hv.put to i⟩, by rw [upd_ne n3.symm]; exact h.sd, h.sl, h.st, h.sm.put h0 h1, h.keep h.cd _, h.ca, h.cd, h.cs, h.mm⟩
end
/-- what a turn of a block's test does -/
structure Turns (m : Nat) (kd x : Str) (rs : List Row) (c : Cmd) : Prop where
  long : ∀ t, m ≤ t.steps → Does m c t t .long
  no : ∀ t, t.steps < m → t.ρ.get (.str x) = 0 → Does m c t t.tick .done
  stop : ∀ t t1 e, t.steps < m → t.ρ.get (.str x) ≠ 0 → Does m (.all rs) t.tick t1 e → e ≠ .done → Does m c t t1 e
  once : ∀ t t1, kd = "when" → t.steps < m → t.ρ.get (.str x) ≠ 0 → Does m (.all rs) t.tick t1 .done → Does m c t t1 .done
  round : ∀ t t1 t2 e, ¬ kd = "when" → t.steps < m → t.ρ.get (.str x) ≠ 0 → Does m (.all rs) t.tick t1 .done → Does m c t1 t2 e → Does m c t t2 e
theorem turns_when {m : Nat} {x : Str} {rs : List Row} : Turns m "when" x rs (.one (.bk "when" (.str x) rs)) :=
  ⟨fun _ => .whenLong rfl, fun _ => .whenNo rfl, fun _ _ _ h1 h2 h3 _ => .whenIn rfl h1 h2 h3, fun _ _ _ h1 h2 h3 => .whenIn rfl h1 h2 h3, fun _ _ _ _ h => absurd rfl h⟩
theorem turns_lp {m : Nat} {kd x : Str} {rs : List Row} (hk : ¬ kd = "when") : Turns m kd x rs (.lp (.str x) rs) :=
  ⟨fun _ => .lpLong, fun _ => .lpNo, fun _ _ _ => .lpStop, fun _ _ h => absurd h hk, fun _ _ _ _ _ => .lpRound⟩
theorem Vl.ok_mono {ss ts : List Str} (h : ∀ x ∈ ss, x ∈ ts) : ∀ {x : Vl}, x.ok ss → x.ok ts
  | .nm _, hx => h _ hx
  | .nu _, hx => hx
mutual
theorem Row.ok_mono {ss ts : List Str} (h : ∀ x ∈ ss, x ∈ ts) : ∀ (r : Row), r.ok ss → r.ok ts
  | .lt _ _ _ _, ⟨h1, h2, h3, h4⟩ => ⟨h _ h1, h2, Vl.ok_mono h h3, Vl.ok_mono h h4⟩
  | .sy _, h1 => Vl.ok_mono h h1
  | .bk _ _ rs, ⟨h1, ⟨x, h2, h3⟩, h4, h5⟩ => ⟨h1, ⟨x, h2, h _ h3⟩, h4, oks_mono h rs h5⟩
theorem oks_mono {ss ts : List Str} (h : ∀ x ∈ ss, x ∈ ts) : ∀ (rs : List Row), oks ss rs → oks ts rs
  | [], _ => True.intro
  | r :: rs, ⟨h1, h2⟩ => ⟨Row.ok_mono h r h1, oks_mono h rs h2⟩
end
end Lm
/-! The moved program: the same tale in no more steps. -/
namespace Lm
open PySem L2
/-- a run with as many steps as are wanted: the values behind it, what is said, the steps, whether it is done -/
inductive Rn : Cmd → Wh → Wh → List Int → Nat → Bool → Prop
  | letNo {to sg : Str} {a b : Vl} {ρ : Wh} : sg = "/" → ρ.get b.v = 0 → Rn (.one (.lt to sg a b)) ρ ρ [] 1 false
  | letDo {to sg : Str} {a b : Vl} {ρ : Wh} : ¬ (sg = "/" ∧ ρ.get b.v = 0) → Rn (.one (.lt to sg a b)) ρ (ρ.set to (comeTo sg (ρ.get a.v) (ρ.get b.v))) [] 1 true
  | say {a : Vl} {ρ : Wh} : Rn (.one (.sy a)) ρ ρ [ρ.get a.v] 1 true
  | whenNo {kd : Str} {ts : V} {rs : List Row} {ρ : Wh} : kd = "when" → ρ.get ts = 0 → Rn (.one (.bk kd ts rs)) ρ ρ [] 1 true
  | whenIn {kd : Str} {ts : V} {rs : List Row} {ρ ρ1 : Wh} {o : List Int} {n : Nat} {e : Bool} : kd = "when" → ρ.get ts ≠ 0 → Rn (.all rs) ρ ρ1 o n e → Rn (.one (.bk kd ts rs)) ρ ρ1 o (n + 1) e
  | loop {kd : Str} {ts : V} {rs : List Row} {ρ ρ1 : Wh} {o : List Int} {n : Nat} {e : Bool} : kd = "loop" → Rn (.lp ts rs) ρ ρ1 o n e → Rn (.one (.bk kd ts rs)) ρ ρ1 o n e
  | again {kd : Str} {ts : V} {rs : List Row} {ρ ρ1 ρ2 : Wh} {o1 o2 : List Int} {n1 n2 : Nat} {e : Bool} : kd = "again" → Rn (.all rs) ρ ρ1 o1 n1 true → Rn (.lp ts rs) ρ1 ρ2 o2 n2 e → Rn (.one (.bk kd ts rs)) ρ ρ2 (o1 ++ o2) (n1 + n2) e
  | againNo {kd : Str} {ts : V} {rs : List Row} {ρ ρ1 : Wh} {o : List Int} {n : Nat} : kd = "again" → Rn (.all rs) ρ ρ1 o n false → Rn (.one (.bk kd ts rs)) ρ ρ1 o n false
  | lpNo {ts : V} {rs : List Row} {ρ : Wh} : ρ.get ts = 0 → Rn (.lp ts rs) ρ ρ [] 1 true
  | lpIn {ts : V} {rs : List Row} {ρ ρ1 ρ2 : Wh} {o1 o2 : List Int} {n1 n2 : Nat} {e : Bool} : ρ.get ts ≠ 0 → Rn (.all rs) ρ ρ1 o1 n1 true → Rn (.lp ts rs) ρ1 ρ2 o2 n2 e → Rn (.lp ts rs) ρ ρ2 (o1 ++ o2) (n1 + n2 + 1) e
  | lpStop {ts : V} {rs : List Row} {ρ ρ1 : Wh} {o : List Int} {n : Nat} : ρ.get ts ≠ 0 → Rn (.all rs) ρ ρ1 o n false → Rn (.lp ts rs) ρ ρ1 o (n + 1) false
  | nil {ρ : Wh} : Rn (.all []) ρ ρ [] 0 true
  | cons {r : Row} {rs : List Row} {ρ ρ1 ρ2 : Wh} {o1 o2 : List Int} {n1 n2 : Nat} {e : Bool} : Rn (.one r) ρ ρ1 o1 n1 true → Rn (.all rs) ρ1 ρ2 o2 n2 e → Rn (.all (r :: rs)) ρ ρ2 (o1 ++ o2) (n1 + n2) e
  | consNo {r : Row} {rs : List Row} {ρ ρ1 : Wh} {o : List Int} {n : Nat} : Rn (.one r) ρ ρ1 o n false → Rn (.all (r :: rs)) ρ ρ1 o n false
def Cmd.rows : Cmd → List Row
  | .one r => [r]
  | .all rs => rs
  | .lp ts rs => [.bk "loop" ts rs]
def Cmd.asks (c : Cmd) (x : Str) : Prop := askN (flats c.rows) x
def Cmd.sets (c : Cmd) (x : Str) : Prop := setN (flats c.rows) x
theorem flats_bk (kd : Str) (ts : V) (rs : List Row) : flats [.bk kd ts rs] = .bk kd ts rs :: flats rs := flats_one _
theorem setN_bk {kd : Str} {ts : V} {rs : List Row} {x : Str} : setN (flats [.bk kd ts rs]) x ↔ setN (flats rs) x := by
  rw [flats_bk]
  unfold setN
  simp only [List.mem_cons]
  exact ⟨fun ⟨r, h, q⟩ => h.elim (fun e => by rw [e] at q; cases q) fun h => ⟨r, h, q⟩, fun ⟨r, h, q⟩ => ⟨r, .inr h, q⟩⟩
theorem askN_bk {kd : Str} {ts : V} {rs : List Row} {x : Str} : askN (flats [.bk kd ts rs]) x ↔ ts = V.str x ∨ askN (flats rs) x := by
  rw [flats_bk]
  unfold askN
  simp only [List.mem_cons]
  exact ⟨fun ⟨r, h, q⟩ => h.elim (fun e => by rw [e] at q; exact .inl (List.mem_singleton.mp q).symm) fun h => .inr ⟨r, h, q⟩, fun h => h.elim (fun e => ⟨_, .inl rfl, List.mem_singleton.mpr e.symm⟩) fun ⟨r, h, q⟩ => ⟨r, .inr h, q⟩⟩
theorem setN_cons {r : Row} {rs : List Row} {x : Str} : setN (flats (r :: rs)) x ↔ setN (flats [r]) x ∨ setN (flats rs) x := by rw [flats_cons, setN_app, flats_one]
theorem askN_cons {r : Row} {rs : List Row} {x : Str} : askN (flats (r :: rs)) x ↔ askN (flats [r]) x ∨ askN (flats rs) x := by rw [flats_cons, askN_app, flats_one]
theorem setN_lt {to sg : Str} {a b : Vl} {x : Str} : setN (flats [.lt to sg a b]) x ↔ x = to := by rw [flats_one]; exact setN_let to sg a b x
theorem askN_lt {to sg : Str} {a b : Vl} {x : Str} : askN (flats [.lt to sg a b]) x ↔ V.str x ∈ [a.v, b.v] := by
  rw [flats_one]
  show askN [Row.lt to sg a b] x ↔ _
  unfold askN
  exact ⟨fun ⟨r, h, q⟩ => by rw [List.mem_singleton.mp h] at q; exact q, fun h => ⟨_, List.mem_singleton.mpr rfl, h⟩⟩
theorem askN_sy {a : Vl} {x : Str} : askN (flats [.sy a]) x ↔ a.v = V.str x := by
  rw [flats_one]
  show askN [Row.sy a] x ↔ _
  unfold askN
  exact ⟨fun ⟨r, h, q⟩ => by rw [List.mem_singleton.mp h] at q; exact (List.mem_singleton.mp q).symm, fun h => ⟨_, List.mem_singleton.mpr rfl, List.mem_singleton.mpr h.symm⟩⟩
theorem Wh.get_same {ρ τ : Wh} {v : V} (h : ∀ x, v = V.str x → ρ x = τ x) : ρ.get v = τ.get v := by
  cases v with
  | str x =>
    show (ρ x).getD 0 = (τ x).getD 0
    rw [h x rfl]
  | _ => rfl
/-- what isn't set stays -/
theorem Rn.frame {c : Cmd} {ρ ρ' : Wh} {o : List Int} {n : Nat} {e : Bool} (h : Rn c ρ ρ' o n e) {x : Str} : ¬ c.sets x → ρ' x = ρ x := by
  induction h with
  | letNo _ _ => exact fun _ => rfl
  | letDo _ =>
    intro hx
    unfold Wh.set
    rw [if_neg (fun e => hx (setN_lt.mpr e))]
  | say => exact fun _ => rfl
  | whenNo _ _ => exact fun _ => rfl
  | whenIn _ _ _ ih => exact fun hx => ih (fun z => hx (setN_bk.mpr z))
  | loop _ _ ih => exact fun hx => ih (fun z => hx (setN_bk.mpr (setN_bk.mp z)))
  | again _ _ _ ih1 ih2 => exact fun hx => (ih2 (fun z => hx (setN_bk.mpr (setN_bk.mp z)))).trans (ih1 (fun z => hx (setN_bk.mpr z)))
  | againNo _ _ ih => exact fun hx => ih (fun z => hx (setN_bk.mpr z))
  | lpNo _ => exact fun _ => rfl
  | lpIn _ _ _ ih1 ih2 => exact fun hx => (ih2 hx).trans (ih1 (fun z => hx (setN_bk.mpr z)))
  | lpStop _ _ ih => exact fun hx => ih (fun z => hx (setN_bk.mpr z))
  | nil => exact fun _ => rfl
  | cons _ _ ih1 ih2 => exact fun hx => (ih2 (fun z => hx (setN_cons.mpr (.inr z)))).trans (ih1 (fun z => hx (setN_cons.mpr (.inl z))))
  | consNo _ ih => exact fun hx => ih (fun z => hx (setN_cons.mpr (.inl z)))
/-- what isn't read matters not -/
theorem Rn.agree {D : Str → Prop} {c : Cmd} {ρ ρ' : Wh} {o : List Int} {n : Nat} {e : Bool} (h : Rn c ρ ρ' o n e) : ∀ τ : Wh, (∀ x, ¬ D x → ρ x = τ x) → (∀ x, c.asks x → ¬ D x) → ∃ τ', Rn c τ τ' o n e ∧ ∀ x, ¬ D x → ρ' x = τ' x := by
  induction h with
  | @letNo to sg a b ρ h1 h2 =>
    intro τ hs ha
    have e2 : ρ.get b.v = τ.get b.v := Wh.get_same fun x hx => hs x (ha x (askN_lt.mpr (by simp [hx])))
    exact ⟨τ, .letNo h1 (e2 ▸ h2), hs⟩
  | @letDo to sg a b ρ h1 =>
    intro τ hs ha
    have e1 : ρ.get a.v = τ.get a.v := Wh.get_same fun x hx => hs x (ha x (askN_lt.mpr (by simp [hx])))
    have e2 : ρ.get b.v = τ.get b.v := Wh.get_same fun x hx => hs x (ha x (askN_lt.mpr (by simp [hx])))
    refine ⟨_, .letDo (by rw [← e2]; exact h1), fun x hx => ?_⟩
    rw [e1, e2]
    unfold Wh.set
    split
    · rfl
    · exact hs x hx
  | @say a ρ =>
    intro τ hs ha
    have e1 : ρ.get a.v = τ.get a.v := Wh.get_same fun x hx => hs x (ha x (askN_sy.mpr hx))
    rw [e1]
    exact ⟨τ, .say, hs⟩
  | @whenNo kd ts rs ρ hk h1 =>
    intro τ hs ha
    have e1 : ρ.get ts = τ.get ts := Wh.get_same fun x hx => hs x (ha x (askN_bk.mpr (.inl hx)))
    exact ⟨τ, .whenNo hk (e1 ▸ h1), hs⟩
  | @whenIn kd ts rs ρ ρ1 o n e hk h1 _ ih =>
    intro τ hs ha
    have e1 : ρ.get ts = τ.get ts := Wh.get_same fun x hx => hs x (ha x (askN_bk.mpr (.inl hx)))
    obtain ⟨τ', g1, g2⟩ := ih τ hs fun x hx => ha x (askN_bk.mpr (.inr hx))
    exact ⟨τ', .whenIn hk (e1 ▸ h1) g1, g2⟩
  | loop hk _ ih =>
    intro τ hs ha
    obtain ⟨τ', g1, g2⟩ := ih τ hs fun x hx => ha x (askN_bk.mpr (askN_bk.mp hx))
    exact ⟨τ', .loop hk g1, g2⟩
  | again hk _ _ ih1 ih2 =>
    intro τ hs ha
    obtain ⟨τ1, g1, g2⟩ := ih1 τ hs fun x hx => ha x (askN_bk.mpr (.inr hx))
    obtain ⟨τ2, g3, g4⟩ := ih2 τ1 g2 fun x hx => ha x (askN_bk.mpr (askN_bk.mp hx))
    exact ⟨τ2, .again hk g1 g3, g4⟩
  | againNo hk _ ih =>
    intro τ hs ha
    obtain ⟨τ1, g1, g2⟩ := ih τ hs fun x hx => ha x (askN_bk.mpr (.inr hx))
    exact ⟨τ1, .againNo hk g1, g2⟩
  | @lpNo ts rs ρ h1 =>
    intro τ hs ha
    have e1 : ρ.get ts = τ.get ts := Wh.get_same fun x hx => hs x (ha x (askN_bk.mpr (.inl hx)))
    exact ⟨τ, .lpNo (e1 ▸ h1), hs⟩
  | @lpIn ts rs ρ ρ1 ρ2 o1 o2 n1 n2 e h1 _ _ ih1 ih2 =>
    intro τ hs ha
    have e1 : ρ.get ts = τ.get ts := Wh.get_same fun x hx => hs x (ha x (askN_bk.mpr (.inl hx)))
    obtain ⟨τ1, g1, g2⟩ := ih1 τ hs fun x hx => ha x (askN_bk.mpr (.inr hx))
    obtain ⟨τ2, g3, g4⟩ := ih2 τ1 g2 ha
    exact ⟨τ2, .lpIn (e1 ▸ h1) g1 g3, g4⟩
  | @lpStop ts rs ρ ρ1 o n h1 _ ih =>
    intro τ hs ha
    have e1 : ρ.get ts = τ.get ts := Wh.get_same fun x hx => hs x (ha x (askN_bk.mpr (.inl hx)))
    obtain ⟨τ1, g1, g2⟩ := ih τ hs fun x hx => ha x (askN_bk.mpr (.inr hx))
    exact ⟨τ1, .lpStop (e1 ▸ h1) g1, g2⟩
  | nil => exact fun τ hs _ => ⟨τ, .nil, hs⟩
  | cons _ _ ih1 ih2 =>
    intro τ hs ha
    obtain ⟨τ1, g1, g2⟩ := ih1 τ hs fun x hx => ha x (askN_cons.mpr (.inl hx))
    obtain ⟨τ2, g3, g4⟩ := ih2 τ1 g2 fun x hx => ha x (askN_cons.mpr (.inr hx))
    exact ⟨τ2, .cons g1 g3, g4⟩
  | consNo _ ih =>
    intro τ hs ha
    obtain ⟨τ1, g1, g2⟩ := ih τ hs fun x hx => ha x (askN_cons.mpr (.inl hx))
    exact ⟨τ1, .consNo g1, g2⟩
theorem any_bk {p : Row → Bool} {kd : Str} {ts : V} {rs : List Row} (hp : p (.bk kd ts rs) = false) : (flats [.bk kd ts rs]).any p = (flats rs).any p := by
  rw [flats_bk, List.any_cons, hp, Bool.false_or]
theorem any_cons {p : Row → Bool} {r : Row} {rs : List Row} : (flats (r :: rs)).any p = ((flats [r]).any p || (flats rs).any p) := by rw [flats_cons, List.any_append, flats_one]
theorem Rn.quiet {c : Cmd} {ρ ρ' : Wh} {o : List Int} {n : Nat} {e : Bool} (h : Rn c ρ ρ' o n e) : (flats c.rows).any Row.says = false → o = [] := by
  induction h with
  | letNo _ _ => exact fun _ => rfl
  | letDo _ => exact fun _ => rfl
  | say => exact fun z => by cases z
  | whenNo _ _ => exact fun _ => rfl
  | whenIn _ _ _ ih => exact fun z => ih ((any_bk rfl).symm.trans z)
  | loop _ _ ih => exact fun z => ih ((any_bk rfl).trans ((any_bk rfl).symm.trans z))
  | again _ _ _ ih1 ih2 =>
    intro z
    rw [ih1 ((any_bk rfl).symm.trans z), ih2 ((any_bk rfl).trans ((any_bk rfl).symm.trans z))]
    rfl
  | againNo _ _ ih => exact fun z => ih ((any_bk rfl).symm.trans z)
  | lpNo _ => exact fun _ => rfl
  | lpIn _ _ _ ih1 ih2 =>
    intro z
    rw [ih1 ((any_bk rfl).symm.trans z), ih2 z]
    rfl
  | lpStop _ _ ih => exact fun z => ih ((any_bk rfl).symm.trans z)
  | nil => exact fun _ => rfl
  | cons _ _ ih1 ih2 =>
    intro z
    have z' := any_cons.symm.trans z
    rw [Bool.or_eq_false_iff] at z'
    rw [ih1 z'.1, ih2 z'.2]
    rfl
  | consNo _ ih =>
    intro z
    have z' := any_cons.symm.trans z
    rw [Bool.or_eq_false_iff] at z'
    exact ih z'.1
theorem Rn.fails {c : Cmd} {ρ ρ' : Wh} {o : List Int} {n : Nat} {e : Bool} (h : Rn c ρ ρ' o n e) : e = false → (flats c.rows).any Row.fails = true := by
  induction h with
  | @letNo to sg a b ρ h1 h2 =>
    intro _
    have hb : b.nought = true := by
      match b, h2 with
      | .nm s, _ => rfl
      | .nu i, h2 => exact decide_eq_true h2
    show (flats [Row.lt to sg a b]).any Row.fails = true
    rw [flats_one]
    show ((decide (sg = "/") && b.nought) || false) = true
    rw [decide_eq_true h1, hb]
    rfl
  | letDo _ => exact fun z => by cases z
  | say => exact fun z => by cases z
  | whenNo _ _ => exact fun z => by cases z
  | whenIn _ _ _ ih => exact fun z => (any_bk rfl).trans (ih z)
  | loop _ _ ih => exact fun z => (any_bk rfl).trans ((any_bk rfl).symm.trans (ih z))
  | again _ _ _ _ ih2 => exact fun z => (any_bk rfl).trans ((any_bk rfl).symm.trans (ih2 z))
  | againNo _ _ ih => exact fun z => (any_bk rfl).trans (ih z)
  | lpNo _ => exact fun z => by cases z
  | lpIn _ _ _ _ ih2 => exact fun z => ih2 z
  | lpStop _ _ ih => exact fun z => (any_bk rfl).trans (ih z)
  | nil => exact fun z => by cases z
  | @cons r rs ρ ρ1 ρ2 o1 o2 n1 n2 e _ _ _ ih2 =>
    intro z
    have z2 : (flats rs).any Row.fails = true := ih2 z
    show (flats (r :: rs)).any Row.fails = true
    rw [any_cons, z2, Bool.or_true]
  | @consNo r rs ρ ρ1 o n _ ih =>
    intro z
    have z2 : (flats [r]).any Row.fails = true := ih z
    show (flats (r :: rs)).any Row.fails = true
    rw [any_cons, z2, Bool.true_or]
theorem flats_lets : ∀ {l : List Row}, (∀ q ∈ l, ∃ to sg a b, q = Row.lt to sg a b) → flats l = l
  | [], _ => rfl
  | q :: l, h => by
    obtain ⟨to, sg, a, b, e⟩ := h q List.mem_cons_self
    rw [flats_cons, flats_lets (fun p hp => h p (List.mem_cons_of_mem _ hp)), e]
    rfl
theorem parts_set1 {x : Str} : ∀ (be st : List Row), setN (flats (parts st be).1) x → setN (flats be) x
  | [], _, h => h
  | r :: be, st, h => by
    by_cases g : Goes st r be
    · rw [parts_go g] at h
      rcases setN_cons.mp h with h | h
      · exact setN_cons.mpr (.inl h)
      · exact setN_cons.mpr (.inr (parts_set1 be st h))
    · rw [parts_no g] at h
      exact setN_cons.mpr (.inr (parts_set1 be _ h))
theorem parts_set2 {x : Str} : ∀ (be st : List Row), setN (flats (parts st be).2) x → setN (flats be) x
  | [], _, h => h
  | r :: be, st, h => by
    by_cases g : Goes st r be
    · rw [parts_go g] at h
      exact setN_cons.mpr (.inr (parts_set2 be st h))
    · rw [parts_no g] at h
      rcases setN_cons.mp h with h | h
      · exact setN_cons.mpr (.inl h)
      · exact setN_cons.mpr (.inr (parts_set2 be _ h))
/-- q goes ahead of the rows st that stay -/
structure Past (st : List Row) (q : Row) : Prop where
  fl : (flats st).any Row.fails = false
  sy : q.fails = true → (flats st).any Row.says = false
  nt : ∀ x, x ∈ q.sets → ¬ setN (flats st) x ∧ ¬ askN (flats st) x
  ak : ∀ x, V.str x ∈ q.asks → ¬ setN (flats st) x
theorem Past.of {st be : List Row} {q : Row} (h : Goes st q be) : Past st q := by
  obtain ⟨to, sg, a, b, rfl, h1, h2, h3, h4, h5, h6⟩ := h
  exact ⟨h1, h2, fun x hx => by rw [List.mem_singleton.mp hx]; exact ⟨h3, h5⟩, fun x hx => (h6 x hx).2.1⟩
theorem Past.less {st : List Row} {r q : Row} (h : Past (st ++ [r]) q) : Past st q ∧ Past [r] q := by
  have f := h.fl
  rw [flats_app, List.any_append, Bool.or_eq_false_iff] at f
  have s : q.fails = true → (flats st).any Row.says = false ∧ (flats [r]).any Row.says = false := fun z => by
    have s := h.sy z
    rw [flats_app, List.any_append, Bool.or_eq_false_iff] at s
    exact s
  have e1 : ∀ x, setN (flats (st ++ [r])) x ↔ setN (flats st) x ∨ setN (flats [r]) x := fun x => by rw [flats_app, setN_app]
  have e2 : ∀ x, askN (flats (st ++ [r])) x ↔ askN (flats st) x ∨ askN (flats [r]) x := fun x => by rw [flats_app, askN_app]
  refine ⟨⟨f.1, fun z => (s z).1, fun x hx => ⟨fun z => (h.nt x hx).1 ((e1 x).mpr (.inl z)), fun z => (h.nt x hx).2 ((e2 x).mpr (.inl z))⟩, fun x hx z => h.ak x hx ((e1 x).mpr (.inl z))⟩,
    ⟨f.2, fun z => (s z).2, fun x hx => ⟨fun z => (h.nt x hx).1 ((e1 x).mpr (.inr z)), fun z => (h.nt x hx).2 ((e2 x).mpr (.inr z))⟩, fun x hx z => h.ak x hx ((e1 x).mpr (.inr z))⟩⟩
theorem parts_past : ∀ (be st : List Row) (q : Row), q ∈ (parts st be).1 → Past st q
  | [], _, q, h => by cases h
  | r :: be, st, q, h => by
    by_cases g : Goes st r be
    · rw [parts_go g] at h
      rcases List.mem_cons.mp h with e | h
      · rw [e]
        exact Past.of g
      · exact parts_past be st q h
    · rw [parts_no g] at h
      exact (parts_past be _ q h).less.1
theorem parts_past1 {be st : List Row} {r q : Row} (h : q ∈ (parts (st ++ [r]) be).1) : Past [r] q := (parts_past be _ q h).less.2
/-- names that a row that goes ahead has to do with are set by none that stays -/
theorem parts_off {x : Str} : ∀ (be st : List Row) (q : Row), q ∈ (parts st be).1 → (x ∈ q.sets ∨ V.str x ∈ q.asks) → ¬ setN (flats (parts st be).2) x
  | [], _, q, h, _ => by cases h
  | r :: be, st, q, h, hx => by
    by_cases g : Goes st r be
    · rw [parts_go g] at h ⊢
      rcases List.mem_cons.mp h with e | h
      · obtain ⟨to, sg, a, b, rfl, h1, h2, h3, h4, h5, h6⟩ := g
        subst e
        intro z
        have z' := parts_set2 be st z
        rcases hx with hx | hx
        · rw [List.mem_singleton.mp hx] at z'
          exact h4 z'
        · exact (h6 x hx).2.2 z'
      · exact parts_off be st q h hx
    · rw [parts_no g] at h ⊢
      intro z
      rcases setN_cons.mp z with z | z
      · have p := parts_past1 h
        exact hx.elim (fun hx => (p.nt x hx).1 z) (fun hx => p.ak x hx z)
      · exact parts_off be _ q h hx z
/-- a row that stays, behind those that go ahead -/
theorem swap {r : Row} {ah : List Row} {σ ρ1 α1 : Wh} {o1 : List Int} {n1 m1 : Nat} (hl : ∀ q ∈ ah, ∃ to sg a b, q = Row.lt to sg a b) (hp : ∀ q ∈ ah, Past [r] q) (h1 : Rn (.one r) σ ρ1 o1 n1 true) (h2 : Rn (.all ah) ρ1 α1 [] m1 true) :
    ∃ α, Rn (.all ah) σ α [] m1 true ∧ Rn (.one r) α α1 o1 n1 true := by
  have fl := flats_lets hl
  have set_ : ∀ x, setN (flats ah) x → ¬ setN (flats [r]) x ∧ ¬ askN (flats [r]) x := fun x h => by
    rw [fl] at h
    obtain ⟨q, hq, hx⟩ := h
    exact (hp q hq).nt x hx
  have ask_ : ∀ x, askN (flats ah) x → ¬ setN (flats [r]) x := fun x h => by
    rw [fl] at h
    obtain ⟨q, hq, hx⟩ := h
    exact (hp q hq).ak x hx
  obtain ⟨α, g1, g2⟩ := h2.agree (D := fun x => setN (flats [r]) x) σ (fun x hx => h1.frame (c := .one r) hx) ask_
  obtain ⟨β, g3, g4⟩ := h1.agree (D := fun x => setN (flats ah) x) α (fun x hx => (g1.frame (c := .all ah) hx).symm) (fun x hx z => (set_ x z).2 hx)
  have e : β = α1 := by
    funext x
    by_cases hx : setN (flats ah) x
    · rw [g3.frame (c := .one r) (set_ x hx).1, g2 x (set_ x hx).1]
    · rw [← g4 x hx, h2.frame (c := .all ah) hx]
  rw [e] at g3
  exact ⟨α, g1, g3⟩
/-- the rows of a body, done once: those that go ahead first -/
theorem parts_run : ∀ (be st : List Row) {σ σ' : Wh} {out : List Int} {n : Nat} {e : Bool}, Rn (.all be) σ σ' out n e →
    (∃ α n2, Rn (.all (parts st be).1) σ α [] (parts st be).1.length true ∧ Rn (.all (parts st be).2) α σ' out n2 e ∧ (parts st be).1.length + n2 = n) ∨ (e = false ∧ out = [] ∧ ∃ w n', Rn (.all (parts st be).1) σ w [] n' false ∧ n' ≤ n)
  | [], st, σ, σ', out, n, e, h => by
    cases h
    exact .inl ⟨σ, 0, .nil, .nil, rfl⟩
  | r :: be, st, σ, σ', out, n, e, h => by
    by_cases g : Goes st r be
    · rw [parts_go g]
      obtain ⟨to, sg, a, b, rfl, _⟩ := g
      cases h with
      | cons h1 h2 =>
        cases h1 with
        | letDo hn =>
          rcases parts_run be st h2 with ⟨α, m2, a1, a2, a3⟩ | ⟨a1, a2, w, n', a3, a4⟩
          · refine .inl ⟨α, m2, ?_, a2, ?_⟩
            · have := Rn.cons (.letDo hn) a1
              rw [Nat.add_comm] at this
              exact this
            · show (parts st be).1.length + 1 + m2 = _
              omega
          · exact .inr ⟨a1, a2, w, 1 + n', .cons (.letDo hn) a3, by omega⟩
      | consNo h1 =>
        cases h1 with
        | letNo h3 h4 => exact .inr ⟨rfl, rfl, _, 1, .consNo (.letNo h3 h4), Nat.le_refl _⟩
    · rw [parts_no g]
      have lets := parts_lets be (st ++ [r])
      cases h with
      | cons h1 h2 =>
        rcases parts_run be (st ++ [r]) h2 with ⟨α, m2, a1, a2, a3⟩ | ⟨a1, a2, w, n', a3, a4⟩
        · obtain ⟨β, b1, b2⟩ := swap lets (fun q hq => parts_past1 hq) h1 a1
          exact .inl ⟨β, _, b1, .cons b2 a2, by show (parts (st ++ [r]) be).1.length + _ = _; omega⟩
        · subst a1
          subst a2
          have fl := flats_lets lets
          have z := a3.fails rfl
          rw [show (Cmd.all (parts (st ++ [r]) be).1).rows = (parts (st ++ [r]) be).1 from rfl, fl, List.any_eq_true] at z
          obtain ⟨q, hq, hf⟩ := z
          have quiet := h1.quiet ((parts_past1 hq).sy hf)
          subst quiet
          obtain ⟨w', c1, _⟩ := a3.agree (D := fun x => setN (flats [r]) x) σ (fun x hx => h1.frame (c := .one r) hx) (fun x hx => by
            have hx' : askN (flats (parts (st ++ [r]) be).1) x := hx
            rw [fl] at hx'
            obtain ⟨q, hq, hx'⟩ := hx'
            exact (parts_past1 hq).ak x hx')
          exact .inr ⟨rfl, rfl, w', n', c1, by omega⟩
      | consNo h1 =>
        have em : (parts (st ++ [r]) be).1 = [] := List.eq_nil_iff_forall_not_mem.mpr fun q hq => by
          have z := h1.fails rfl
          rw [show (Cmd.one r).rows = [r] from rfl, (parts_past1 hq).fl] at z
          cases z
        rw [em]
        exact .inl ⟨σ, n, .nil, .consNo h1, Nat.zero_add _⟩
/-- what goes ahead would come to the same -/
def Settled (ah : List Row) (σ : Wh) : Prop := ∀ to sg a b, Row.lt to sg a b ∈ ah → ¬ (sg = "/" ∧ σ.get b.v = 0) ∧ σ to = some (comeTo sg (σ.get a.v) (σ.get b.v))
theorem Settled.keep {ah : List Row} {σ σ' : Wh} (h : Settled ah σ) (f : ∀ q ∈ ah, ∀ x, (x ∈ q.sets ∨ V.str x ∈ q.asks) → σ' x = σ x) : Settled ah σ' := fun to sg a b hm => by
  obtain ⟨h1, h2⟩ := h to sg a b hm
  have ea : σ'.get a.v = σ.get a.v := Wh.get_same fun x hx => f _ hm x (.inr (by show V.str x ∈ [a.v, b.v]; simp [hx]))
  have eb : σ'.get b.v = σ.get b.v := Wh.get_same fun x hx => f _ hm x (.inr (by show V.str x ∈ [a.v, b.v]; simp [hx]))
  rw [ea, eb, f _ hm to (.inl (List.mem_singleton.mpr rfl))]
  exact ⟨h1, h2⟩
theorem parts_settled : ∀ (be st : List Row) {σ α : Wh} {out : List Int} {n : Nat}, Rn (.all (parts st be).1) σ α out n true → Settled (parts st be).1 α
  | [], _, _, _, _, _, _ => fun _ _ _ _ h => by cases h
  | r :: be, st, σ, α, out, n, h => by
    by_cases g : Goes st r be
    · rw [parts_go g] at h ⊢
      obtain ⟨to, sg, a, b, rfl, g1, g2, g3, g4, g5, g6⟩ := g
      cases h with
      | cons h1 h2 =>
        cases h1 with
        | letDo hn =>
          have ih := parts_settled be st h2
          intro to' sg' a' b' hm
          rcases List.mem_cons.mp hm with e | hm
          · cases e
            have off : ∀ x, ¬ setN (flats be) x → α x = (σ.set to (comeTo sg (σ.get a.v) (σ.get b.v))) x := fun x hx => h2.frame (c := .all (parts st be).1) (fun z => hx (parts_set1 be st z))
            have rd : ∀ x, V.str x ∈ [a.v, b.v] → α x = σ x := fun x hx => by
              obtain ⟨n1, n2, n3⟩ := g6 x hx
              rw [off x n3]
              unfold Wh.set
              rw [if_neg n1]
            have ea : α.get a.v = σ.get a.v := Wh.get_same fun x hx => rd x (by simp [hx])
            have eb : α.get b.v = σ.get b.v := Wh.get_same fun x hx => rd x (by simp [hx])
            rw [ea, eb, off to g4]
            refine ⟨hn, ?_⟩
            unfold Wh.set
            rw [if_pos rfl]
          · exact ih to' sg' a' b' hm
    · rw [parts_no g] at h ⊢
      exact parts_settled be _ h
/-- a later round: what went ahead needn't be done -/
theorem parts_round : ∀ (be st : List Row) {σ σ' : Wh} {out : List Int} {n : Nat} {e : Bool}, Settled (parts st be).1 σ → Rn (.all be) σ σ' out n e → ∃ n', Rn (.all (parts st be).2) σ σ' out n' e ∧ n' ≤ n ∧ (e = true → n = n' + (parts st be).1.length)
  | [], st, σ, σ', out, n, e, _, h => by
    cases h
    exact ⟨0, .nil, Nat.le_refl _, fun _ => rfl⟩
  | r :: be, st, σ, σ', out, n, e, hs, h => by
    by_cases g : Goes st r be
    · rw [parts_go g] at hs ⊢
      obtain ⟨to, sg, a, b, rfl, _⟩ := g
      obtain ⟨s1, s2⟩ := hs to sg a b List.mem_cons_self
      have hs' : Settled (parts st be).1 σ := fun to sg a b hm => hs to sg a b (List.mem_cons_of_mem _ hm)
      cases h with
      | cons h1 h2 =>
        cases h1 with
        | letDo hn =>
          have same : σ.set to (comeTo sg (σ.get a.v) (σ.get b.v)) = σ := by
            funext x
            unfold Wh.set
            split
            · rename_i ex
              rw [ex, s2]
            · rfl
          rw [same] at h2
          obtain ⟨n', a1, a2, a3⟩ := parts_round be st hs' h2
          exact ⟨n', a1, by omega, fun z => by have := a3 z; show _ = n' + ((parts st be).1.length + 1); omega⟩
      | consNo h1 =>
        cases h1 with
        | letNo h3 h4 => exact absurd ⟨h3, h4⟩ s1
    · rw [parts_no g] at hs ⊢
      cases h with
      | cons h1 h2 =>
        have hs' : Settled (parts (st ++ [r]) be).1 _ := hs.keep fun q hq x hx => h1.frame (c := .one r) fun z => hx.elim (fun hx => ((parts_past1 hq).nt x hx).1 z) (fun hx => (parts_past1 hq).ak x hx z)
        obtain ⟨n', a1, a2, a3⟩ := parts_round be _ hs' h2
        exact ⟨_, .cons h1 a1, by omega, fun z => by have := a3 z; show _ = _ + (parts (st ++ [r]) be).1.length; omega⟩
      | consNo h1 => exact ⟨n, .consNo h1, Nat.le_refl _, fun z => by cases z⟩
theorem Settled.round {be : List Row} {σ σ' : Wh} {out : List Int} {n : Nat} {e : Bool} (h : Settled (parts [] be).1 σ) (r : Rn (.all (parts [] be).2) σ σ' out n e) : Settled (parts [] be).1 σ' :=
  h.keep fun q hq x hx => r.frame (c := .all (parts [] be).2) (parts_off be [] q hq hx)
theorem lp_moved {ts : V} {be : List Row} {c : Cmd} {σ σ' : Wh} {out : List Int} {n : Nat} {e : Bool} (h : Rn c σ σ' out n e) : c = .lp ts be → Settled (parts [] be).1 σ → ∃ n', Rn (.lp ts (parts [] be).2) σ σ' out n' e ∧ n' ≤ n := by
  induction h with
  | lpNo h1 =>
    intro hc hs
    cases hc
    exact ⟨1, .lpNo h1, Nat.le_refl _⟩
  | lpIn h1 h2 _ _ ih =>
    intro hc hs
    cases hc
    obtain ⟨m1, a1, a2, _⟩ := parts_round be [] hs h2
    obtain ⟨m2, b1, b2⟩ := ih rfl (hs.round a1)
    exact ⟨_, .lpIn h1 a1 b1, by omega⟩
  | lpStop h1 h2 _ =>
    intro hc hs
    cases hc
    obtain ⟨m1, a1, a2, _⟩ := parts_round be [] hs h2
    exact ⟨_, .lpStop h1 a1, by omega⟩
  | _ => intro hc; cases hc
theorem Rn.app {xs ys : List Row} {ρ ρ1 ρ2 : Wh} {o1 o2 : List Int} {n1 n2 : Nat} {e : Bool} : Rn (.all xs) ρ ρ1 o1 n1 true → Rn (.all ys) ρ1 ρ2 o2 n2 e → Rn (.all (xs ++ ys)) ρ ρ2 (o1 ++ o2) (n1 + n2) e := by
  induction xs generalizing ρ o1 n1 with
  | nil =>
    intro h g
    cases h
    rw [Nat.zero_add]
    exact g
  | cons x xs ih =>
    intro h g
    cases h with
    | cons h1 h2 =>
      have := Rn.cons h1 (ih h2 g)
      rw [← Nat.add_assoc, ← List.append_assoc] at this
      exact this
theorem Rn.appNo {xs ys : List Row} {ρ ρ1 : Wh} {o : List Int} {n : Nat} : Rn (.all xs) ρ ρ1 o n false → Rn (.all (xs ++ ys)) ρ ρ1 o n false := by
  induction xs generalizing ρ o n with
  | nil =>
    intro h
    cases h
  | cons x xs ih =>
    intro h
    cases h with
    | cons h1 h2 => exact .cons h1 (ih h2)
    | consNo h1 => exact .consNo h1
theorem Rn.single {r : Row} {ρ ρ1 : Wh} {o : List Int} {n : Nat} {e : Bool} (h : Rn (.one r) ρ ρ1 o n e) : Rn (.all [r]) ρ ρ1 o n e := by
  cases e with
  | false => exact .consNo h
  | true =>
    have := Rn.cons h .nil
    rw [List.append_nil] at this
    exact this
/-- the rows that go ahead stand ahead of an again -/
theorem again_moved {ts : V} {be : List Row} {σ σ' : Wh} {out : List Int} {n : Nat} {e : Bool} (h : Rn (.one (.bk "again" ts be)) σ σ' out n e) :
    ∃ σ'' n', Rn (.all ((parts [] be).1 ++ [.bk "again" ts (parts [] be).2])) σ σ'' out n' e ∧ n' ≤ n ∧ (e = true → σ'' = σ') := by
  cases h with
  | whenNo hk => exact absurd hk.symm wa
  | whenIn hk => exact absurd hk.symm wa
  | loop hk => exact absurd hk.symm la
  | again _ h1 h2 =>
    rcases parts_run be [] h1 with ⟨α, m2, a1, a2, a3⟩ | ⟨a1, _⟩
    · obtain ⟨m3, b1, b2⟩ := lp_moved h2 rfl ((parts_settled be [] a1).round a2)
      exact ⟨σ', _, a1.app (Rn.single (.again rfl a2 b1)), by omega, fun _ => rfl⟩
    · cases a1
  | againNo _ h1 =>
    rcases parts_run be [] h1 with ⟨α, m2, a1, a2, a3⟩ | ⟨_, a2, w, n', a3, a4⟩
    · exact ⟨σ', _, a1.app (Rn.single (.againNo rfl a2)), by omega, fun _ => rfl⟩
    · subst a2
      exact ⟨w, n', a3.appNo, a4, fun z => by cases z⟩
/-- the second tells the same as the first, in no more steps -/
structure Sim (c d : Cmd) : Prop where
  run : ∀ {σ σ' : Wh} {out : List Int} {n : Nat} {e : Bool}, Rn c σ σ' out n e → ∃ σ'' n', Rn d σ σ'' out n' e ∧ n' ≤ n ∧ (e = true → σ'' = σ')
theorem Sim.one (r : Row) : Sim (.one r) (.all [r]) := ⟨fun h => ⟨_, _, Rn.single h, Nat.le_refl _, fun _ => rfl⟩⟩
theorem Sim.trans {a b c : Cmd} (h : Sim a b) (g : Sim b c) : Sim a c := ⟨fun r => by
  obtain ⟨σ1, n1, a1, a2, a3⟩ := h.run r
  obtain ⟨σ2, n2, b1, b2, b3⟩ := g.run a1
  exact ⟨σ2, n2, b1, by omega, fun z => (b3 z).trans (a3 z)⟩⟩
theorem Sim.cons {r : Row} {rs qs ps : List Row} (h : Sim (.one r) (.all qs)) (g : Sim (.all rs) (.all ps)) : Sim (.all (r :: rs)) (.all (qs ++ ps)) := by
  refine ⟨fun x => ?_⟩
  cases x with
  | cons h1 h2 =>
    obtain ⟨σ1, n1, a1, a2, a3⟩ := h.run h1
    obtain ⟨σ2, n2, b1, b2, b3⟩ := g.run h2
    rw [a3 rfl] at a1
    exact ⟨σ2, _, a1.app b1, by omega, b3⟩
  | consNo h1 =>
    obtain ⟨σ1, n1, a1, a2, a3⟩ := h.run h1
    exact ⟨σ1, _, a1.appNo, a2, a3⟩
theorem Sim.lp {ts : V} {b b' : List Row} (g : Sim (.all b) (.all b')) {c : Cmd} {σ σ' : Wh} {out : List Int} {n : Nat} {e : Bool} (h : Rn c σ σ' out n e) : c = .lp ts b → ∃ σ'' n', Rn (.lp ts b') σ σ'' out n' e ∧ n' ≤ n ∧ (e = true → σ'' = σ') := by
  induction h with
  | lpNo h1 =>
    intro hc
    cases hc
    exact ⟨_, 1, .lpNo h1, Nat.le_refl _, fun _ => rfl⟩
  | lpIn h1 h2 _ _ ih =>
    intro hc
    cases hc
    obtain ⟨σ1, m1, a1, a2, a3⟩ := g.run h2
    obtain ⟨σ2, m2, b1, b2, b3⟩ := ih rfl
    rw [a3 rfl] at a1
    exact ⟨σ2, _, .lpIn h1 a1 b1, by omega, b3⟩
  | lpStop h1 h2 _ =>
    intro hc
    cases hc
    obtain ⟨σ1, m1, a1, a2, a3⟩ := g.run h2
    exact ⟨σ1, _, .lpStop h1 a1, by omega, fun z => by cases z⟩
  | _ => intro hc; cases hc
theorem Sim.block {kd : Str} {ts : V} {b b' : List Row} (g : Sim (.all b) (.all b')) : Sim (.one (.bk kd ts b)) (.one (.bk kd ts b')) := by
  refine ⟨fun h => ?_⟩
  cases h with
  | whenNo hk h1 => exact ⟨_, _, .whenNo hk h1, Nat.le_refl _, fun _ => rfl⟩
  | whenIn hk h1 h2 =>
    obtain ⟨σ1, m1, a1, a2, a3⟩ := g.run h2
    exact ⟨σ1, _, .whenIn hk h1 a1, by omega, a3⟩
  | loop hk h1 =>
    obtain ⟨σ1, m1, a1, a2, a3⟩ := g.lp h1 rfl
    exact ⟨σ1, _, .loop hk a1, a2, a3⟩
  | again hk h1 h2 =>
    obtain ⟨σ1, m1, a1, a2, a3⟩ := g.run h1
    obtain ⟨σ2, m2, b1, b2, b3⟩ := g.lp h2 rfl
    rw [a3 rfl] at a1
    exact ⟨σ2, _, .again hk a1 b1, by omega, b3⟩
  | againNo hk h1 =>
    obtain ⟨σ1, m1, a1, a2, a3⟩ := g.run h1
    exact ⟨σ1, _, .againNo hk a1, a2, a3⟩
theorem mvB_sim {kd : Str} {ts : V} {b : List Row} (hk : kd ∈ kinds) : Sim (.one (.bk kd ts b)) (.all (mvB kd ts b)) := by
  simp only [kinds, List.mem_cons, List.not_mem_nil, or_false] at hk
  by_cases cw : kd = "when"
  · subst cw
    rw [show mvB "when" ts b = [.bk "when" ts b] from if_pos rfl]
    exact Sim.one _
  by_cases cl : kd = "loop"
  · subst cl
    by_cases c0 : (parts [] b).1 = []
    · rw [show mvB "loop" ts b = [.bk "loop" ts (parts [] b).2] from (if_neg cw).trans ((if_pos rfl).trans (if_pos c0)), parts_stay b [] c0]
      exact Sim.one _
    · rw [show mvB "loop" ts b = [.bk "when" ts ((parts [] b).1 ++ [.bk "again" ts (parts [] b).2])] from (if_neg cw).trans ((if_pos rfl).trans (if_neg c0))]
      refine ⟨fun h => ?_⟩
      cases h with
      | whenNo hk => exact absurd hk cw
      | whenIn hk => exact absurd hk cw
      | again hk => exact absurd hk la
      | againNo hk => exact absurd hk la
      | loop _ h1 =>
        cases h1 with
        | lpNo h1 => exact ⟨_, _, Rn.single (.whenNo rfl h1), Nat.le_refl _, fun _ => rfl⟩
        | lpIn h1 h2 h3 =>
          obtain ⟨σ1, m1, a1, a2, a3⟩ := again_moved (.again rfl h2 h3)
          exact ⟨σ1, _, Rn.single (.whenIn rfl h1 a1), by omega, a3⟩
        | lpStop h1 h2 =>
          obtain ⟨σ1, m1, a1, a2, a3⟩ := again_moved (.againNo rfl h2)
          exact ⟨σ1, _, Rn.single (.whenIn rfl h1 a1), by omega, a3⟩
  · have ca : kd = "again" := hk.elim (fun z => absurd z cw) fun h => h.elim (fun z => absurd z cl) id
    subst ca
    rw [show mvB "again" ts b = (parts [] b).1 ++ [.bk "again" ts (parts [] b).2] from (if_neg cw).trans (if_neg cl)]
    exact ⟨fun h => again_moved h⟩
mutual
theorem Row.mv_sim {ss : List Str} : ∀ r : Row, r.ok ss → Sim (.one r) (.all r.mv)
  | .lt _ _ _ _, _ => Sim.one _
  | .sy _, _ => Sim.one _
  | .bk kd ts rs, ⟨h1, _, _, h4⟩ => (mvs_sim rs h4).block.trans (mvB_sim h1)
theorem mvs_sim {ss : List Str} : ∀ rs : List Row, oks ss rs → Sim (.all rs) (.all (mvs rs))
  | [], _ => ⟨fun h => ⟨_, _, h, Nat.le_refl _, fun _ => rfl⟩⟩
  | r :: rs, ⟨h1, h2⟩ => (Row.mv_sim r h1).cons (mvs_sim rs h2)
end
/-! ### with a number of steps -/
theorem Does.rn {m : Nat} {c : Cmd} {t t' : Tale} {e : Ed} (h : Does m c t t' e) : e ≠ .long → ∃ out n, Rn c t.ρ t'.ρ out n (decide (e = .done)) ∧ t'.said = t.said ++ out ∧ t'.steps = t.steps + n := by
  induction h with
  | letLong _ => exact fun z => absurd rfl z
  | letNought _ h2 h3 => exact fun _ => ⟨[], 1, .letNo h2 h3, (List.append_nil _).symm, rfl⟩
  | letDone _ h2 => exact fun _ => ⟨[], 1, .letDo h2, (List.append_nil _).symm, rfl⟩
  | sayLong _ => exact fun z => absurd rfl z
  | sayDone _ => exact fun _ => ⟨_, 1, .say, rfl, rfl⟩
  | whenLong _ _ => exact fun z => absurd rfl z
  | whenNo hk _ h2 => exact fun _ => ⟨[], 1, .whenNo hk h2, (List.append_nil _).symm, rfl⟩
  | whenIn hk _ h2 _ ih =>
    intro z
    obtain ⟨o, n, a1, a2, a3⟩ := ih z
    exact ⟨o, n + 1, .whenIn hk h2 a1, a2, by rw [a3]; show _ + 1 + n = _; omega⟩
  | loop hk _ ih =>
    intro z
    obtain ⟨o, n, a1, a2, a3⟩ := ih z
    exact ⟨o, n, .loop hk a1, a2, a3⟩
  | again hk _ _ ih1 ih2 =>
    intro z
    obtain ⟨o1, n1, a1, a2, a3⟩ := ih1 (by decide)
    obtain ⟨o2, n2, b1, b2, b3⟩ := ih2 z
    exact ⟨o1 ++ o2, n1 + n2, .again hk a1 b1, by rw [b2, a2, List.append_assoc], by rw [b3, a3]; omega⟩
  | @againStop kd ts rs t t1 e hk _ hn ih =>
    intro z
    obtain ⟨o, n, a1, a2, a3⟩ := ih z
    rw [decide_eq_false hn] at a1 ⊢
    exact ⟨o, n, .againNo hk a1, a2, a3⟩
  | lpLong _ => exact fun z => absurd rfl z
  | lpNo _ h2 => exact fun _ => ⟨[], 1, .lpNo h2, (List.append_nil _).symm, rfl⟩
  | lpRound _ h2 _ _ ih1 ih2 =>
    intro z
    obtain ⟨o1, n1, a1, a2, a3⟩ := ih1 (by decide)
    obtain ⟨o2, n2, b1, b2, b3⟩ := ih2 z
    exact ⟨o1 ++ o2, n1 + n2 + 1, .lpIn h2 a1 b1, by rw [b2, a2, List.append_assoc]; rfl, by rw [b3, a3]; show _ + 1 + n1 + n2 = _; omega⟩
  | lpStop _ h2 _ hn ih =>
    intro z
    obtain ⟨o, n, a1, a2, a3⟩ := ih z
    rw [decide_eq_false hn] at a1 ⊢
    exact ⟨o, n + 1, .lpStop h2 a1, a2, by rw [a3]; show _ + 1 + n = _; omega⟩
  | nil => exact fun _ => ⟨[], 0, .nil, (List.append_nil _).symm, rfl⟩
  | cons _ _ ih1 ih2 =>
    intro z
    obtain ⟨o1, n1, a1, a2, a3⟩ := ih1 (by decide)
    obtain ⟨o2, n2, b1, b2, b3⟩ := ih2 z
    exact ⟨o1 ++ o2, n1 + n2, .cons a1 b1, by rw [b2, a2, List.append_assoc], by rw [b3, a3]; omega⟩
  | consStop _ hn ih =>
    intro z
    obtain ⟨o, n, a1, a2, a3⟩ := ih z
    rw [decide_eq_false hn] at a1 ⊢
    exact ⟨o, n, .consNo a1, a2, a3⟩
def edOf (e : Bool) : Ed := if e = true then .done else .nought
theorem edOf_no : edOf false ≠ .done := by decide
theorem Rn.does {c : Cmd} {ρ ρ' : Wh} {o : List Int} {n : Nat} {e : Bool} (h : Rn c ρ ρ' o n e) : ∀ (m k : Nat) (s : List Int), k + n ≤ m → Does m c ⟨ρ, s, k⟩ ⟨ρ', s ++ o, k + n⟩ (edOf e) := by
  induction h with
  | letNo h1 h2 =>
    intro m k s hm
    rw [List.append_nil]
    exact .letNought (t := ⟨_, s, k⟩) (by show k < m; omega) h1 h2
  | letDo h1 =>
    intro m k s hm
    rw [List.append_nil]
    exact .letDone (t := ⟨_, s, k⟩) (by show k < m; omega) h1
  | say =>
    intro m k s hm
    exact .sayDone (t := ⟨_, s, k⟩) (by show k < m; omega)
  | whenNo hk h1 =>
    intro m k s hm
    rw [List.append_nil]
    exact .whenNo (t := ⟨_, s, k⟩) hk (by show k < m; omega) h1
  | @whenIn kd ts rs ρ ρ1 o n e hk h1 _ ih =>
    intro m k s hm
    have := ih m (k + 1) s (by omega)
    rw [show k + 1 + n = k + (n + 1) by omega] at this
    exact .whenIn (t := ⟨_, s, k⟩) hk (by show k < m; omega) h1 this
  | loop hk _ ih =>
    intro m k s hm
    exact .loop hk (ih m k s hm)
  | @again kd ts rs ρ ρ1 ρ2 o1 o2 n1 n2 e hk _ _ ih1 ih2 =>
    intro m k s hm
    have a := ih1 m k s (by omega)
    have b := ih2 m (k + n1) (s ++ o1) (by omega)
    rw [List.append_assoc, Nat.add_assoc] at b
    exact .again hk a b
  | againNo hk _ ih =>
    intro m k s hm
    exact .againStop hk (ih m k s hm) edOf_no
  | lpNo h1 =>
    intro m k s hm
    rw [List.append_nil]
    exact .lpNo (t := ⟨_, s, k⟩) (by show k < m; omega) h1
  | @lpIn ts rs ρ ρ1 ρ2 o1 o2 n1 n2 e h1 _ _ ih1 ih2 =>
    intro m k s hm
    have a := ih1 m (k + 1) s (by omega)
    have b := ih2 m (k + 1 + n1) (s ++ o1) (by omega)
    rw [List.append_assoc, show k + 1 + n1 + n2 = k + (n1 + n2 + 1) by omega] at b
    exact .lpRound (t := ⟨_, s, k⟩) (by show k < m; omega) h1 a b
  | @lpStop ts rs ρ ρ1 o n h1 _ ih =>
    intro m k s hm
    have a := ih m (k + 1) s (by omega)
    rw [show k + 1 + n = k + (n + 1) by omega] at a
    exact .lpStop (t := ⟨_, s, k⟩) (by show k < m; omega) h1 a edOf_no
  | nil =>
    intro m k s hm
    rw [List.append_nil]
    exact .nil
  | @cons r rs ρ ρ1 ρ2 o1 o2 n1 n2 e _ _ ih1 ih2 =>
    intro m k s hm
    have a := ih1 m k s (by omega)
    have b := ih2 m (k + n1) (s ++ o1) (by omega)
    rw [List.append_assoc, Nat.add_assoc] at b
    exact .cons a b
  | consNo _ ih =>
    intro m k s hm
    exact .consStop (ih m k s hm) edOf_no
theorem edOf_dec {e : Ed} (h : e ≠ .long) : edOf (decide (e = .done)) = e := by
  cases e with
  | done => rfl
  | long => exact absurd rfl h
  | nought => rfl
/-- the moved program tells the same in no more steps -/
theorem same_tale {ss : List Str} {rs : List Row} (ok : oks ss rs) {m : Nat} {t0 t : Tale} {e : Ed} (h : Does m (.all rs) t0 t e) (he : e ≠ .long) : ∃ t', Does t.steps (.all (mvs rs)) t0 t' e ∧ t'.said = t.said ∧ t'.steps ≤ t.steps ∧ (e = .done → t'.ρ = t.ρ) := by
  obtain ⟨out, n, a1, a2, a3⟩ := h.rn he
  obtain ⟨σ, n', b1, b2, b3⟩ := (mvs_sim rs ok).run a1
  have c := b1.does t.steps t0.steps t0.said (by omega)
  rw [edOf_dec he] at c
  exact ⟨_, c, a2.symm, by show t0.steps + n' ≤ _; omega, fun z => b3 (decide_eq_true z)⟩
end Lm
/-! The sixteen names differ. -/
namespace Lm
open PySem L2
/-- how the words are made -/
inductive Sh where
  | a (c place size : Nat)
  | b (c t : Nat)
  | d (c u v : Nat)
def Sh.ok : Sh → Prop
  | .a c place size => c < 26 ∧ place < size ∧ size < 7
  | .b c t => c < 26 ∧ t < 3
  | .d c u v => c < 26 ∧ u < 26 ∧ v < 6
def Sh.word : Sh → Nat → List Nat
  | .a c place size, k => w1 c k place size
  | .b c t, k => w2 c k t
  | .d c u v, k => w0 ((c + 5 * k) % 26) ((u + k) % 26) ((v + k) % 6)
theorem tail_at (c : Nat) : ∀ p : Nat, p < 6 → (tailN c)[p]? = some (ltr (c + 5 * p + 1))
  | 0, _ => rfl
  | 1, _ => rfl
  | 2, _ => rfl
  | 3, _ => rfl
  | 4, _ => rfl
  | 5, _ => rfl
  | p + 6, h => absurd h (by omega)
theorem w1_place {c k place size : Nat} (h : place < size) (h2 : size < 7) : (w1 c k place size)[place]? = some (ltr (c + 5 * k)) := by
  have hl : ((tailN c).take place).length = place := by
    rw [List.length_take]
    show min place 6 = place
    omega
  unfold w1
  rw [List.getElem?_append_right (by omega), hl, Nat.sub_self]
  rfl
theorem w1_else {c k place size p : Nat} (h : place < size) (h2 : size < 7) (hp : p < size) (hn : p ≠ place) : (w1 c k place size)[p]? = some (ltr (c + 5 * p + 1)) := by
  have hl : ((tailN c).take place).length = place := by
    rw [List.length_take]
    show min place 6 = place
    omega
  unfold w1
  by_cases c1 : p < place
  · rw [List.getElem?_append_left (by omega), List.getElem?_take, if_pos c1]
    exact tail_at c p (by omega)
  · rw [List.getElem?_append_right (by omega), hl]
    obtain ⟨q, rfl⟩ : ∃ q, p = place + 1 + q := ⟨p - place - 1, by omega⟩
    rw [show place + 1 + q - place = q + 1 by omega, List.getElem?_cons_succ, List.getElem?_take, if_pos (by omega), List.getElem?_drop]
    exact tail_at c _ (by omega)
theorem ltr_eq {i j : Nat} (h : some (ltr i) = some (ltr j)) : i % 26 = j % 26 := by
  have e : ltr i = ltr j := Option.some.inj h
  unfold ltr at e
  omega
theorem word_inj {s : Sh} (hs : s.ok) {i j : Nat} (hi : i < 16) (hj : j < 16) (h : s.word i = s.word j) : i = j := by
  cases s with
  | a c place size =>
    obtain ⟨h1, h2, h3⟩ := hs
    have e : (w1 c i place size)[place]? = (w1 c j place size)[place]? := congrArg (fun l => l[place]?) h
    rw [w1_place h2 h3, w1_place h2 h3] at e
    have := ltr_eq e
    omega
  | b c t =>
    obtain ⟨h1, h2⟩ := hs
    have e : (w2 c i t)[0]? = (w2 c j t)[0]? := congrArg (fun l => l[0]?) h
    have e1 := ltr_eq (show some (ltr (c + 7 * (i / 4))) = some (ltr (c + 7 * (j / 4))) from e)
    have e2 : (w2 c i t).length = (w2 c j t).length := congrArg List.length h
    unfold w2 at e2
    rw [List.length_cons, List.length_cons, List.length_take, List.length_take] at e2
    have e3 : min (i % 4 + t) 6 + 1 = min (j % 4 + t) 6 + 1 := e2
    omega
  | d c u v =>
    obtain ⟨h1, h2, h3⟩ := hs
    have e : (w0 ((c + 5 * i) % 26) ((u + i) % 26) ((v + i) % 6))[0]? = (w0 ((c + 5 * j) % 26) ((u + j) % 26) ((v + j) % 6))[0]? := congrArg (fun l => l[0]?) h
    have e1 := ltr_eq (show some (ltr ((c + 5 * i) % 26)) = some (ltr ((c + 5 * j) % 26)) from e)
    omega
/-- a text whose letters at p and q are not n apart -/
def apartL (l : List Nat) (p q n : Nat) : Bool := match l[p]?, l[q]? with
  | some x, some y => decide ((x + n) % 26 ≠ y % 26)
  | _, _ => false
theorem apart_no {l : List Nat} {p q n x : Nat} (h : apartL l p q n = true) (hp : l[p]? = some (ltr x)) (hq : l[q]? = some (ltr (x + n))) : False := by
  unfold apartL at h
  rw [hp, hq] at h
  have h' : (ltr x + n) % 26 ≠ ltr (x + n) % 26 := of_decide_eq_true h
  apply h'
  unfold ltr
  omega
/-- it is no such word -/
def oddL (l : List Nat) : Bool := apartL l 1 2 5 && apartL l 1 2 3 && decide (3 ≤ l.length)
/-- one letter changed: two others are wrong -/
def oddA (l : List Nat) : Bool := (List.range l.length).all fun place => (place != 1 && place != 2 && apartL l 1 2 5) || (place != 0 && place != 2 && apartL l 0 2 10) || (place != 0 && place != 1 && apartL l 0 1 5) || (place != 2 && place != 3 && apartL l 2 3 5)
theorem word_odd {s : Sh} (hs : s.ok) {i : Nat} {l : List Nat} (h1 : oddL l = true) (h2 : oddA l = true) : s.word i ≠ l := by
  intro h
  unfold oddL at h1
  obtain ⟨h12, h3⟩ := Bool.and_eq_true_iff.mp h1
  obtain ⟨h5, h4⟩ := Bool.and_eq_true_iff.mp h12
  have hl : 3 ≤ l.length := of_decide_eq_true h3
  cases s with
  | a c place size =>
    obtain ⟨g1, g2, g3⟩ := hs
    have hw : w1 c i place size = l := h
    have len : l.length = size := by
      rw [← hw]
      unfold w1
      rw [List.length_append, List.length_cons, List.length_take, List.length_take, List.length_drop]
      show min place 6 + (min (size - (place + 1)) (6 - (place + 1)) + 1) = size
      omega
    have at_ : ∀ p, p < size → p ≠ place → l[p]? = some (ltr (c + 5 * p + 1)) := fun p hp hn => by
      rw [← hw]
      exact w1_else g2 g3 hp hn
    have z := List.all_eq_true.mp h2 place (List.mem_range.mpr (by omega))
    simp only [Bool.or_eq_true, Bool.and_eq_true, bne_iff_ne] at z
    rcases z with ((⟨⟨n1, n2⟩, ha⟩ | ⟨⟨n1, n2⟩, ha⟩) | ⟨⟨n1, n2⟩, ha⟩) | ⟨⟨n1, n2⟩, ha⟩
    · exact apart_no ha (at_ 1 (by omega) (Ne.symm n1)) (by rw [at_ 2 (by omega) (Ne.symm n2)])
    · exact apart_no ha (at_ 0 (by omega) (Ne.symm n1)) (by rw [at_ 2 (by omega) (Ne.symm n2)])
    · exact apart_no ha (at_ 0 (by omega) (Ne.symm n1)) (by rw [at_ 1 (by omega) (Ne.symm n2)])
    · have h3l : 3 < size := by
        unfold apartL at ha
        cases e : l[3]? with
        | none =>
          rw [e] at ha
          cases q : l[2]? <;> rw [q] at ha <;> cases ha
        | some y =>
          have := (List.getElem?_eq_some_iff.mp e).1
          omega
      exact apart_no ha (at_ 2 (by omega) (Ne.symm n1)) (by rw [at_ 3 h3l (Ne.symm n2)])
  | b c t =>
    have hw : w2 c i t = l := h
    have len : l.length = min (i % 4 + t) 6 + 1 := by
      rw [← hw]
      unfold w2
      rw [List.length_cons, List.length_take]
      rfl
    have at_ : ∀ p, p + 1 < l.length → l[p + 1]? = some (ltr (c + 5 * p + 1)) := fun p hp => by
      rw [← hw]
      unfold w2
      rw [List.getElem?_cons_succ, List.getElem?_take, if_pos (by omega)]
      exact tail_at c p (by omega)
    exact apart_no h5 (at_ 0 (by omega)) (by rw [at_ 1 (by omega)])
  | d c u v =>
    have hw : w0 ((c + 5 * i) % 26) ((u + i) % 26) ((v + i) % 6) = l := h
    have at1 : l[1]? = some (ltr ((u + i) % 26)) := by
      rw [← hw]
      rw [← hw] at hl
      unfold w0 at hl ⊢
      rw [List.length_cons, List.length_take] at hl
      rw [List.getElem?_cons_succ, List.getElem?_take, if_pos (by omega)]
      rfl
    have at2 : l[2]? = some (ltr ((u + i) % 26 + 3)) := by
      rw [← hw]
      rw [← hw] at hl
      unfold w0 at hl ⊢
      rw [List.length_cons, List.length_take] at hl
      rw [List.getElem?_cons_succ, List.getElem?_take, if_pos (by omega)]
      rfl
    exact apart_no h4 at1 at2
theorem tens_odd : tens.all (fun t => oddL t.cps.toList && oddA t.cps.toList) = true := by decide +kernel
/-- the names: words of one shape, one of them perhaps a word of the ten -/
structure Nms (sh : Sh) (j8 : Nat) (ss : List Str) : Prop where
  ok : sh.ok
  lt : j8 < 8
  at_ : ∀ (j : Nat) (s : Str), ss[j]? = some s → s.cps.toList = sh.word j ∨ (j = j8 ∧ s ∈ tens)
theorem Nms.nodup {sh : Sh} {j8 : Nat} {ss : List Str} (h : Nms sh j8 ss) (hl : ss.length = 16) : ss.Nodup := by
  refine List.pairwise_iff_getElem.mpr fun i j hi hj hij e => ?_
  obtain ⟨s, hs, es⟩ : ∃ s, ss[i]? = some s ∧ s = ss[i] := ⟨_, List.getElem?_eq_getElem hi, rfl⟩
  have hs2 : ss[j]? = some s := by rw [List.getElem?_eq_getElem hj, es, e]
  have no : ∀ k, s.cps.toList = sh.word k → s ∈ tens → False := fun k e1 e2 => by
    have z := List.all_eq_true.mp tens_odd s e2
    obtain ⟨z1, z2⟩ := Bool.and_eq_true_iff.mp z
    exact word_odd h.ok z1 z2 e1.symm
  rcases h.at_ i s hs with a | ⟨a1, a2⟩
  · rcases h.at_ j s hs2 with b | ⟨b1, b2⟩
    · have := word_inj h.ok (by omega) (by omega) (a.symm.trans b)
      omega
    · exact no i a b2
  · rcases h.at_ j s hs2 with b | ⟨b1, b2⟩
    · exact no j b a2
    · omega
def shOf (c : Int) : Sh := if c % 3 = 1 then .a (c / 72 % 26).toNat (c / 18 % (1 + c / 3 % 6)).toNat (1 + c / 3 % 6).toNat else if c % 3 = 2 then .b (c / 72 % 26).toNat (c / 18 % 3).toNat else .d (c / 72 % 26).toNat (c / 7 % 26).toNat (c / 26 % 6).toNat
theorem shOf_ok (c : Int) : (shOf c).ok := by
  unfold shOf
  split
  · have h1 := Int.emod_nonneg (c / 18) (b := 1 + c / 3 % 6) (by omega)
    have h2 := Int.emod_lt_of_pos (c / 18) (b := 1 + c / 3 % 6) (by omega)
    exact ⟨by omega, by omega, by omega⟩
  · split
    · exact ⟨by omega, by omega⟩
    · exact ⟨by omega, by omega, by omega⟩
theorem word1L {c : Nat} {k place size : Nat} (hs : size < 7) (hp : place < size) : (cutS (tailS c) none (some (place : Int)) ++ one (ltr (c + 5 * k)) ++ cutS (tailS c) (some ((place : Int) + 1)) (some (size : Int))).cps.toList = w1 c k place size := by
  have e : ((place : Int) + 1) = ((place + 1 : Nat) : Int) := by omega
  rw [app_toList, app_toList, cut_head _ _ (by rw [tailS_len]; omega), e, cut_mid _ _ _ (by rw [tailS_len]; omega) (by rw [tailS_len]; omega), one_toList, tailS_list, List.append_assoc]
  rfl
theorem word2L {c : Nat} {k t : Nat} (ht : t < 3) : (one (ltr (c + 7 * (k / 4))) ++ cutS (tailS c) none (some ((k % 4 + t : Nat) : Int))).cps.toList = w2 c k t := by
  rw [app_toList, cut_head _ _ (by rw [tailS_len]; omega), one_toList, tailS_list]
  rfl
end Lm
/-! One loop, counted down: how many steps are saved. -/
namespace Lm
open PySem L2
/-- a let or a say -/
def Row.flat1 : Row → Prop
  | .bk _ _ _ => False
  | _ => True
theorem simple_total : ∀ (rs : List Row), (∀ r ∈ rs, r.flat1) → ∀ ρ : Wh, ∃ ρ' o n e, Rn (.all rs) ρ ρ' o n e ∧ n ≤ rs.length
  | [], _, ρ => ⟨ρ, [], 0, true, .nil, Nat.le_refl _⟩
  | r :: rs, h, ρ => by
    have one : ∃ ρ' o e, Rn (.one r) ρ ρ' o 1 e := by
      have hr := h r List.mem_cons_self
      match r, hr with
      | .lt to sg a b, _ =>
        by_cases c : sg = "/" ∧ ρ.get b.v = 0
        · exact ⟨_, _, _, .letNo c.1 c.2⟩
        · exact ⟨_, _, _, .letDo c⟩
      | .sy a, _ => exact ⟨_, _, _, .say⟩
      | .bk _ _ _, z => exact z.elim
    obtain ⟨ρ1, o1, e1, h1⟩ := one
    cases e1 with
    | false => exact ⟨ρ1, o1, 1, false, .consNo h1, by rw [List.length_cons]; omega⟩
    | true =>
      obtain ⟨ρ2, o2, n2, e2, h2, h3⟩ := simple_total rs (fun q hq => h q (List.mem_cons_of_mem _ hq)) ρ1
      exact ⟨ρ2, _, 1 + n2, e2, .cons h1 h2, by rw [List.length_cons]; omega⟩
theorem Rn.split {xs ys : List Row} : ∀ {ρ ρ2 : Wh} {o : List Int} {n : Nat}, Rn (.all (xs ++ ys)) ρ ρ2 o n true → ∃ ρ1 o1 n1 o2 n2, Rn (.all xs) ρ ρ1 o1 n1 true ∧ Rn (.all ys) ρ1 ρ2 o2 n2 true := by
  induction xs with
  | nil =>
    intro ρ ρ2 o n h
    exact ⟨ρ, [], 0, o, n, .nil, h⟩
  | cons x xs ih =>
    intro ρ ρ2 o n h
    cases h with
    | cons h1 h2 =>
      obtain ⟨ρ1, o1, n1, o2, n2, a1, a2⟩ := ih h2
      exact ⟨ρ1, _, _, o2, n2, .cons h1 a1, a2⟩
/-- a body that counts x down -/
structure Down (x : Str) (be : List Row) : Prop where
  ex : ∃ pre : List Row, be = pre ++ [.lt x "-" (.nm x) (.nu 1)] ∧ (∀ r ∈ pre, r.flat1) ∧ ¬ setN (flats pre) x
theorem Down.simple {x : Str} {be : List Row} (h : Down x be) : ∀ r ∈ be, r.flat1 := by
  obtain ⟨pre, rfl, h1, _⟩ := h.ex
  intro r hr
  rcases List.mem_append.mp hr with e | e
  · exact h1 r e
  · rw [List.mem_singleton.mp e]
    exact True.intro
theorem Down.dec {x : Str} {be : List Row} (h : Down x be) {ρ ρ' : Wh} {o : List Int} {n : Nat} (r : Rn (.all be) ρ ρ' o n true) : ρ'.get (.str x) = (ρ.get (.str x) - 1) % 1000000 := by
  obtain ⟨pre, rfl, h1, h2⟩ := h.ex
  obtain ⟨ρ1, o1, n1, o2, n2, a1, a2⟩ := r.split
  have e1 : ρ1.get (.str x) = ρ.get (.str x) := Wh.get_same fun y hy => by
    cases hy
    exact a1.frame (c := .all pre) h2
  cases a2 with
  | cons b1 b2 =>
    cases b2
    cases b1 with
    | letDo _ =>
      rw [← e1]
      show ((ρ1.set x _) x).getD 0 = _
      unfold Wh.set
      rw [if_pos rfl]
      show comeTo "-" (ρ1.get (.str x)) 1 = _
      unfold comeTo
      rw [if_neg (by decide), if_pos rfl]
/-- what is left of a loop that counts down, with what it saves -/
theorem lp_total {x : Str} {be : List Row} (h : Down x be) : ∀ (k : Nat), k ≤ 10 → ∀ σ : Wh, σ.get (.str x) = (k : Int) → Settled (parts [] be).1 σ → ∃ σ' o n n' e, Rn (.lp (.str x) be) σ σ' o n e ∧ n ≤ k * (be.length + 1) + 1 ∧ Rn (.lp (.str x) (parts [] be).2) σ σ' o n' e ∧ n' ≤ n ∧ (e = true → n = n' + (parts [] be).1.length * k)
  | 0, _, σ, hk, _ => ⟨σ, [], 1, 1, true, .lpNo hk, by omega, .lpNo hk, Nat.le_refl _, fun _ => by omega⟩
  | k + 1, hk10, σ, hk, hs => by
    have ne : σ.get (.str x) ≠ 0 := by rw [hk]; omega
    obtain ⟨σ1, o1, n1, e1, a1, a2⟩ := simple_total be h.simple σ
    obtain ⟨m1, b1, b2, b3⟩ := parts_round be [] hs a1
    have mul : (k + 1) * (be.length + 1) = k * (be.length + 1) + (be.length + 1) := Nat.succ_mul _ _
    cases e1 with
    | false => exact ⟨σ1, o1, n1 + 1, m1 + 1, false, .lpStop ne a1, by omega, .lpStop ne b1, by omega, fun z => by cases z⟩
    | true =>
      have d := h.dec a1
      rw [hk] at d
      have hk1 : σ1.get (.str x) = (k : Int) := by omega
      obtain ⟨σ2, o2, n2, m2, e2, c1, c2, c3, c4, c5⟩ := lp_total h k (by omega) σ1 hk1 (hs.round b1)
      have b3' := b3 rfl
      refine ⟨σ2, _, _, _, e2, .lpIn ne a1 c1, by omega, .lpIn ne b1 c3, by omega, fun z => ?_⟩
      have := c5 z
      have mul2 : (parts [] be).1.length * (k + 1) = (parts [] be).1.length * k + (parts [] be).1.length := Nat.mul_succ _ _
      omega
def begin_ (x : Str) (k : Int) : Row := .lt x "+" (.nu k) (.nu 0)
def oneP (x : Str) (k : Int) (be : List Row) : List Row := [begin_ x k, .bk "when" (.str x) [.bk "again" (.str x) be]]
noncomputable def othP (x : Str) (k : Int) (be : List Row) : List Row := [begin_ x k, .bk "when" (.str x) ((parts [] be).1 ++ [.bk "again" (.str x) (parts [] be).2])]
theorem begin_does (x : Str) {k : Int} (h0 : 0 ≤ k) (h1 : k < 1000000) (ρ : Wh) : Rn (.one (begin_ x k)) ρ (ρ.set x k) [] 1 true := by
  have e : comeTo "+" (ρ.get (Vl.nu k).v) (ρ.get (Vl.nu 0).v) = k := by
    show comeTo "+" k 0 = k
    unfold comeTo
    rw [if_pos rfl]
    omega
  have r := Rn.letDo (to := x) (sg := "+") (a := .nu k) (b := .nu 0) (ρ := ρ) (fun z => absurd z.1 (by decide))
  rw [e] at r
  exact r
/-- both programs to their end -/
theorem loop_saves {x : Str} {be : List Row} (h : Down x be) (hl : be.length ≤ 100) {k : Int} (h0 : 0 ≤ k) (h6 : k ≤ 6) (ρ : Wh) :
    ∃ ρ1 ρ2 o n n2 e, Rn (.all (oneP x k be)) ρ ρ1 o n e ∧ n ≤ 5000 ∧ Rn (.all (othP x k be)) ρ ρ2 o n2 e ∧ n2 ≤ n ∧ (e = true → ρ2 = ρ1 ∧ n = n2 + (parts [] be).1.length * (k - 1).toNat) := by
  have b := begin_does x h0 (by omega) ρ
  have gx : (ρ.set x k).get (.str x) = k := by
    show ((ρ.set x k) x).getD 0 = k
    unfold Wh.set
    rw [if_pos rfl]
    rfl
  by_cases c : k = 0
  · have g0 : (ρ.set x k).get (.str x) = 0 := gx.trans c
    exact ⟨_, _, _, _, _, true, .cons b (Rn.single (.whenNo rfl g0)), by decide, .cons b (Rn.single (.whenNo rfl g0)), Nat.le_refl _, fun _ => ⟨rfl, by rw [c]; rfl⟩⟩
  have ne : (ρ.set x k).get (.str x) ≠ 0 := fun z => c (gx.symm.trans z)
  obtain ⟨j, ej⟩ : ∃ j : Nat, k = (j : Int) + 1 := ⟨(k - 1).toNat, by omega⟩
  obtain ⟨σ1, o1, n1, e1, a1, a2⟩ := simple_total be h.simple (ρ.set x k)
  have hjn : (k - 1).toNat = j := by omega
  rw [hjn]
  have jb : j ≤ 5 := by omega
  have mul5 : j * (be.length + 1) ≤ 5 * 101 := Nat.mul_le_mul jb (by omega)
  cases e1 with
  | false =>
    rcases parts_run be [] a1 with ⟨α, m2, b1, b2, b3⟩ | ⟨_, b2, w, n', b3, b4⟩
    · exact ⟨_, _, _, _, _, false, .cons b (Rn.single (.whenIn rfl ne (Rn.single (.againNo rfl a1)))), by omega, .cons b (Rn.single (.whenIn rfl ne (b1.app (Rn.single (.againNo rfl b2))))), by omega, fun z => by cases z⟩
    · subst b2
      exact ⟨_, _, _, _, _, false, .cons b (Rn.single (.whenIn rfl ne (Rn.single (.againNo rfl a1)))), by omega, .cons b (Rn.single (.whenIn rfl ne b3.appNo)), by omega, fun z => by cases z⟩
  | true =>
    rcases parts_run be [] a1 with ⟨α, m2, b1, b2, b3⟩ | ⟨z, _⟩
    · have d := h.dec a1
      rw [gx] at d
      have hk1 : σ1.get (.str x) = (j : Int) := by omega
      have st := (parts_settled be [] b1).round b2
      obtain ⟨σ2, o2, n2, n2', e2, c1, c2, c3, c4, c5⟩ := lp_total h j (by omega) σ1 hk1 st
      refine ⟨_, _, _, _, _, e2, .cons b (Rn.single (.whenIn rfl ne (Rn.single (.again rfl a1 c1)))), by omega, .cons b (Rn.single (.whenIn rfl ne (b1.app (Rn.single (.again rfl b2 c3))))), by omega, fun z => ⟨rfl, ?_⟩⟩
      have := c5 z
      omega
    · cases z
/-- x stands for no name of two z behind one letter -/
def zzL : List Nat → Bool
  | [_, b, c] => Nat.beq b 122 && Nat.beq c 122
  | _ => false
theorem zz1 : below 26 (fun c => below 7 fun size => below size fun place => !zzL (w1 c 15 place size)) = true := by decide +kernel
theorem zz2 : below 26 (fun c => below 3 fun t => !zzL (w2 c 15 t)) = true := by decide +kernel
theorem zz0 : below 26 (fun a => below 26 fun u => below 6 fun m => !zzL (w0 a u m)) = true := by decide +kernel
theorem word_zz {s : Sh} (hs : s.ok) : zzL (s.word 15) = false := by
  have no : ∀ b : Bool, (!b) = true → b = false := by decide
  cases s with
  | a c place size => exact no _ (below_at (below_at (below_at zz1 hs.1) hs.2.2) hs.2.1)
  | b c t => exact no _ (below_at (below_at zz2 hs.1) hs.2)
  | d c u v => exact no _ (below_at (below_at (below_at zz0 (Nat.mod_lt _ (by decide))) (Nat.mod_lt _ (by decide))) (Nat.mod_lt _ (by decide)))
def zz25 : List Str := (List.range 25).map fun k => (⟨#[97 + k]⟩ : Str) ++ "zz"
theorem zz25_in {i : Nat} (h : i < 25) : (⟨#[97 + i]⟩ : Str) ++ "zz" ∈ zz25 := List.mem_map.mpr ⟨i, List.mem_range.mpr h, rfl⟩
theorem zz25_zz : zz25.all (fun s => zzL s.cps.toList) = true := by decide +kernel
theorem nodup_at {α : Type} : ∀ {l : List α}, l.Nodup → ∀ {i j : Nat} {x : α}, l[i]? = some x → l[j]? = some x → i = j
  | [], _, _, _, _, h, _ => by cases h
  | y :: l, nd, 0, 0, _, _, _ => rfl
  | y :: l, nd, 0, j + 1, x, h1, h2 => by
    cases h1
    exact absurd (List.mem_of_getElem? (by simpa using h2)) (List.nodup_cons.mp nd).1
  | y :: l, nd, i + 1, 0, x, h1, h2 => by
    cases h2
    exact absurd (List.mem_of_getElem? (by simpa using h1)) (List.nodup_cons.mp nd).1
  | y :: l, nd, i + 1, j + 1, x, h1, h2 => by rw [nodup_at (List.nodup_cons.mp nd).2 (i := i) (j := j) (x := x) (by simpa using h1) (by simpa using h2)]
theorem Nms.last {sh : Sh} {j8 : Nat} {ss : List Str} (h : Nms sh j8 ss) (hl : ss.length = 16) {x : Str} (hx : ss[15]? = some x) : x ∉ zz25 ∧ ∀ j s, j < 8 → ss[j]? = some s → s ≠ x := by
  constructor
  · intro hz
    have z := List.all_eq_true.mp zz25_zz x hz
    rcases h.at_ 15 x hx with e | ⟨e, _⟩
    · rw [e, word_zz h.ok] at z
      cases z
    · have := h.lt
      omega
  · intro j s hj hs e
    have nd := h.nodup hl
    obtain ⟨l1, e1⟩ := List.getElem?_eq_some_iff.mp hs
    obtain ⟨l2, e2⟩ := List.getElem?_eq_some_iff.mp hx
    have := (nodup_at nd hs (by rw [hx, e]))
    omega
end Lm
/-! ### the text by places -/
namespace Lm
open PySem L2
def topS (i : Nat) : Stmt := PySem.Challenge.pw_loopmover_k08_one_loop_saves.main.body.getD i (.Pass ⟨0, 0, 0, 0⟩)
abbrev s_cell : Stmt := topS 16
abbrev s_names : Stmt := topS 18
/-- a list of names that are good -/
def NamesAt (K : PySem.W.Frag) (H : Hp) (a : Addr) (ss : List Str) : Prop := SqL K H a (ss.map V.str) ∧ ss.length = 16
theorem NamesAt.mono {K : PySem.W.Frag} {H H' : Hp} {a : Addr} {ss : List Str} (e : Kp H H') (h : NamesAt K H a ss) : NamesAt K H' a ss := ⟨e.sqL h.1, h.2⟩
theorem NamesAt.at {K : PySem.W.Frag} {H : Hp} {a : Addr} {ss : List Str} (h : NamesAt K H a ss) {z : Int} (h0 : 0 ≤ z) (h1 : z < 16) : ∃ s, s ∈ ss ∧ atI (ss.map V.str) z = some (.str s) := by
  have hk : z.toNat < ss.length := by rw [h.2]; omega
  refine ⟨ss[z.toNat], List.getElem_mem hk, at_of (j := z.toNat) (by omega) ?_⟩
  rw [List.getElem?_map, List.getElem?_eq_getElem hk]
  all_goals rfl
def spCell (K : PySem.W.Frag) : Sp := fun vs H Q _ => ∃ (a : Addr) (ns : List Int) (k : Int), vs = [.ref a, .int k] ∧ SqL K H a (ns.map V.int) ∧ 0 ≤ k ∧ ∀ z : Int, Q (.int z) H
section
variable {P : Program} {w : World} {K : PySem.W.Frag} {mg : Str → Option Value} {base : Heap} {f : Addr} {fd : FuncData}
theorem sc_cell : FnScope ["_law_script", "_law_k"] ["_law_script", "_law_k"] (defScope s_cell) := ⟨rfl, rfl, rfl, by decide +kernel, rfl, by decide +kernel, by decide +kernel⟩
theorem ok_cell (F : Fun K "_law_cell_at" "_law_cell_at" s_cell f fd) (ml : mg "len" = none) : FnOk P w K mg base CX0 1 f fd ["_law_script", "_law_k"] (spCell K) := by
  refine F.ok sc_cell (fun vs H Q E h => ?_) (fun cdv A outer s H vs Q E hr h => ?_)
  · obtain ⟨a, ns, k, rfl, _⟩ := h
    rfl
  obtain ⟨a, ns, k, rfl, hS, h0, q⟩ := h
  refine ⟨_, pss_cons (ps_if (pt_cmpR op_lt (pv 1) (pe_callB call_len_seq rfl ml PySem.boot_len (pa_cons (pv 0) pa_nil)) (nomark _)) (pss_one (ps_ret (pe_ix ix_list (pv 0) (pv 1) (fun _ _ => rfl)))) pss_nil)
    (pss_one (ps_ret pe_int)), ?_⟩
  refine ⟨_, rfl, _, rfl, a, _, rfl, .inl hS, _, _, rfl, rfl, _, rfl, ?_⟩
  refine ite2 (fun c => ?_) (fun c => ?_)
  · have c' : k < (((ns.map V.int).length : Nat) : Int) := of_decide_eq_true c
    rw [List.length_map] at c'
    have hk : k.toNat < ns.length := by omega
    exact ⟨_, rfl, _, rfl, a, _, _, _, rfl, rfl, hS, at_of (j := k.toNat) (v := .int ns[k.toNat]) (by omega) (by rw [List.getElem?_map, List.getElem?_eq_getElem hk]; all_goals rfl), q _⟩
  · exact q 0
end
end Lm
namespace Lm
open PySem L2
abbrev s_mixed : Stmt := topS 17
abbrev s_value : Stmt := topS 19
abbrev s_let : Stmt := topS 20
def spMixed : Sp := fun vs H Q _ => ∃ c k : Int, vs = [.int c, .int k] ∧ ∀ z : Int, 0 ≤ z → z < 2147483647 → Q (.int z) H
def spValue (K : PySem.W.Frag) : Sp := fun vs H Q _ => ∃ (k n : Int) (a : Addr) (ss : List Str), vs = [.int k, .int n, .ref a] ∧ 0 ≤ k ∧ k < 16 ∧ NamesAt K H a ss ∧ ∀ x : Vl, x.ok ss → Q x.v H
def spLet (K : PySem.W.Frag) : Sp := fun vs H Q _ => ∃ (n : Int) (a : Addr) (ss : List Str), vs = [.int n, .ref a] ∧ NamesAt K H a ss ∧
  ∀ (p : Addr) (to sg : Str) (x y : Vl) (H' : Hp), H p = none → (Row.lt to sg x y).ok ss → H' = upd H p (.tup [.str "let", .str to, .str sg, x.v, y.v]) → Q (.ref p) H'
/-- the same, with where the name stands -/
def spLetC (K : PySem.W.Frag) : Sp := fun vs H Q _ => ∃ (n : Int) (a : Addr) (ss : List Str), vs = [.int n, .ref a] ∧ NamesAt K H a ss ∧
  ∀ (p : Addr) (to sg : Str) (x y : Vl) (H' : Hp), H p = none → (Row.lt to sg x y).ok ss → (∃ j, j < 8 ∧ ss[j]? = some to) → H' = upd H p (.tup [.str "let", .str to, .str sg, x.v, y.v]) → Q (.ref p) H'
theorem NamesAt.where_ {K : PySem.W.Frag} {H : Hp} {a : Addr} {ss : List Str} (h : NamesAt K H a ss) {z : Int} (h0 : 0 ≤ z) (h1 : z < 16) : ∃ s, ss[z.toNat]? = some s ∧ atI (ss.map V.str) z = some (.str s) := by
  have hk : z.toNat < ss.length := by rw [h.2]; omega
  refine ⟨ss[z.toNat], List.getElem?_eq_getElem hk, at_of (j := z.toNat) (by omega) ?_⟩
  rw [List.getElem?_map, List.getElem?_eq_getElem hk]
  all_goals rfl
section
variable {P : Program} {w : World} {K : PySem.W.Frag} {mg : Str → Option Value} {base : Heap} {f : Addr} {fd : FuncData}
theorem sc_mixed : FnScope ["_law_cell", "_law_k", "_law_number"] ["_law_cell", "_law_k"] (defScope s_mixed) := ⟨rfl, rfl, rfl, by decide +kernel, rfl, by decide +kernel, by decide +kernel⟩
theorem ok_mixed (F : Fun K "_law_mixed" "_law_mixed" s_mixed f fd) : FnOk P w K mg base CX0 1 f fd ["_law_cell", "_law_k"] spMixed := by
  refine F.ok sc_mixed (fun vs H Q E h => ?_) (fun cdv A outer s H vs Q E hr h => ?_)
  · obtain ⟨c, k, rfl, _⟩ := h
    rfl
  obtain ⟨c, k, rfl, q⟩ := h
  refine ⟨_, pss_cons (ps_set (i := 2) sc_mixed.nd rfl (Or.inl rfl) (pe_op op_mod (pe_op op_mul (pe_op op_add (pe_op op_add (pv 0) (pe_op op_mul pe_int (pv 1))) pe_int) pe_int) pe_int))
    (pss_one (ps_ret (pe_op op_mod (pe_op op_mul (pv 2) (pv 2)) pe_int))), ?_⟩
  have h1 : 0 ≤ ((c + 7 * k + 3) * 48271) % 2147483647 := Int.emod_nonneg _ (by decide)
  have h2 : ((c + 7 * k + 3) * 48271) % 2147483647 < 2147483647 := Int.emod_lt_of_pos _ (by decide)
  refine ⟨_, rfl, _, rfl, _, _, rfl, rfl, .inl ⟨by decide, by decide⟩, _, _, rfl, rfl, _, _, rfl, rfl, _, _, rfl, rfl, .inr ⟨by decide, by decide⟩, _, _, rfl, rfl, (by show (0 : Int) < 2147483647; decide), _, rfl, _, rfl, _, _, rfl, rfl, .inl ⟨by omega, by omega⟩, _, _, rfl, rfl, (by show (0 : Int) < 2147483647; decide), ?_⟩
  exact q _ (Int.emod_nonneg _ (by decide)) (Int.emod_lt_of_pos _ (by decide))
theorem sc_value : FnScope ["_law_kind", "_law_number", "_law_names_here"] ["_law_kind", "_law_number", "_law_names_here"] (defScope s_value) := ⟨rfl, rfl, rfl, by decide +kernel, rfl, by decide +kernel, by decide +kernel⟩
theorem ok_value (F : Fun K "_law_value" "_law_value" s_value f fd) : FnOk P w K mg base CX0 1 f fd ["_law_kind", "_law_number", "_law_names_here"] (spValue K) := by
  refine F.ok sc_value (fun vs H Q E h => ?_) (fun cdv A outer s H vs Q E hr h => ?_)
  · obtain ⟨k, n, a, ss, rfl, _⟩ := h
    rfl
  obtain ⟨k, n, a, ss, rfl, h0, h1, hN, q⟩ := h
  refine ⟨_, pss_cons (ps_if (pt_cmpR op_lt (pv 0) pe_int (nomark _)) (pss_one (ps_ret (pe_ix ix_list (pv 2) (pv 0) (fun _ _ => rfl)))) pss_nil)
    (pss_cons (ps_if (pt_cmpR op_lt (pv 0) pe_int (nomark _)) (pss_one (ps_ret (pe_op op_sub (pv 0) pe_int))) pss_nil)
    (pss_one (ps_ret (pe_op op_mod (pv 1) pe_int)))), ?_⟩
  refine ⟨_, rfl, _, _, rfl, rfl, _, rfl, ?_⟩
  refine ite2 (fun c => ?_) (fun c => ?_)
  · obtain ⟨s, hs, es⟩ := hN.at h0 h1
    exact ⟨_, rfl, _, rfl, a, _, _, _, rfl, rfl, hN.1, es, q (.nm s) hs⟩
  have c' : ¬ k < 11 := of_decide_eq_false (Bool.eq_false_iff.mpr c)
  refine ⟨_, rfl, _, _, rfl, rfl, _, rfl, ?_⟩
  refine ite2 (fun d => ?_) (fun d => ?_)
  · have d' : k < 14 := of_decide_eq_true d
    exact ⟨_, rfl, _, _, rfl, rfl, q (.nu (k - 11)) ⟨by omega, by omega⟩⟩
  · exact ⟨_, rfl, _, _, rfl, rfl, (by show (0 : Int) < 1000000; decide), q (.nu (n % 1000000)) ⟨Int.emod_nonneg _ (by decide), Int.emod_lt_of_pos _ (by decide)⟩⟩
theorem sc_let : FnScope ["_law_number", "_law_names_here", "_law_one", "_law_other"] ["_law_number", "_law_names_here"] (defScope s_let) := ⟨rfl, rfl, rfl, by decide +kernel, rfl, by decide +kernel, by decide +kernel⟩
theorem sign_at (z : Int) (h0 : 0 ≤ z) (h1 : z < 5) : ∃ c : Nat, atI (Str.cps "+-*</").toList z = some c ∧ (⟨#[c]⟩ : Str) ∈ signs := by
  obtain ⟨n, rfl⟩ : ∃ n : Nat, z = (n : Int) := ⟨z.toNat, by omega⟩
  match n, h1 with
  | 0, _ => exact ⟨43, by decide +kernel, by decide +kernel⟩
  | 1, _ => exact ⟨45, by decide +kernel, by decide +kernel⟩
  | 2, _ => exact ⟨42, by decide +kernel, by decide +kernel⟩
  | 3, _ => exact ⟨60, by decide +kernel, by decide +kernel⟩
  | 4, _ => exact ⟨47, by decide +kernel, by decide +kernel⟩
  | n + 5, h => exact absurd h (by omega)
theorem ok_letC {fv : Addr} {dv : FuncData} (F : Fun K "_law_let" "_law_let" s_let f fd) (V : Df P w K mg base "_law_value" 1 fv dv ["_law_kind", "_law_number", "_law_names_here"] (spValue K)) :
    FnOk P w K mg base CX0 2 f fd ["_law_number", "_law_names_here"] (spLetC K) := by
  refine F.ok sc_let (fun vs H Q E h => ?_) (fun cdv A outer s H vs Q E hr h => ?_)
  · obtain ⟨n, a, ss, rfl, _⟩ := h
    rfl
  obtain ⟨n, a, ss, rfl, hN, q⟩ := h
  refine ⟨_, pss_cons (ps_set (i := 2) sc_let.nd rfl (Or.inl rfl) (pe_df V hr (pa_cons (pe_op op_mod (pe_op op_fdiv (pv 0) pe_int) pe_int) (pa_cons (pe_op op_fdiv (pv 0) pe_int) (pa_cons (pv 1) pa_nil)))))
    (pss_cons (ps_set (i := 3) sc_let.nd rfl (Or.inl rfl) (pe_df V hr (pa_cons (pe_op op_mod (pe_op op_fdiv (pv 0) pe_int) pe_int) (pa_cons (pe_op op_fdiv (pv 0) pe_int) (pa_cons (pv 1) pa_nil)))))
    (pss_one (ps_ret (pe_tup (pa_cons pe_str (pa_cons (pe_ix ix_list (pv 1) (pe_op op_mod (pv 0) pe_int) (fun _ _ => rfl)) (pa_cons (pe_ix ix_str pe_str (pe_op op_mod (pe_op op_fdiv (pv 0) pe_int) pe_int) (fun _ _ => rfl)) (pa_cons (pv 2) (pa_cons (pv 3) pa_nil))))))))), ?_⟩
  refine ⟨_, rfl, _, _, rfl, rfl, ⟨by decide, by decide⟩, _, _, rfl, rfl, (by show (0 : Int) < 16; decide), _, rfl, _, _, rfl, rfl, ⟨by decide, by decide⟩, _, rfl, _, _, a, ss, rfl, Int.emod_nonneg _ (by decide), Int.emod_lt_of_pos _ (by decide), hN, fun x hx => ?_⟩
  refine ⟨_, rfl, _, _, rfl, rfl, ⟨by decide, by decide⟩, _, _, rfl, rfl, (by show (0 : Int) < 16; decide), _, rfl, _, _, rfl, rfl, ⟨by decide, by decide⟩, _, rfl, _, _, a, ss, rfl, Int.emod_nonneg _ (by decide), Int.emod_lt_of_pos _ (by decide), hN, fun y hy => ?_⟩
  obtain ⟨to, wto, eto⟩ := hN.where_ (z := n % 8) (Int.emod_nonneg _ (by decide)) (by have := Int.emod_lt_of_pos n (b := 8) (by decide); omega)
  obtain ⟨c, hc, hsg⟩ := sign_at (n / 8 % 5) (Int.emod_nonneg _ (by decide)) (Int.emod_lt_of_pos _ (by decide))
  refine ⟨_, rfl, _, rfl, _, _, rfl, rfl, (by show (0 : Int) < 8; decide), a, _, _, _, rfl, rfl, hN.1, eto, _, rfl, _, _, rfl, rfl, ⟨by decide, by decide⟩, _, _, rfl, rfl, (by show (0 : Int) < 5; decide), _, _, c, rfl, rfl, (by decide +kernel), hc, _, rfl, _, rfl, (by show 5 ≤ sizeLine; decide), fun p hp => ?_⟩
  exact q p to ⟨#[c]⟩ x y _ hp ⟨List.mem_of_getElem? wto, hsg, hx, hy⟩ ⟨(n % 8).toNat, by have h1 := Int.emod_nonneg n (b := 8) (by decide); have h2 := Int.emod_lt_of_pos n (b := 8) (by decide); omega, wto⟩ rfl
theorem ok_let {fv : Addr} {dv : FuncData} (F : Fun K "_law_let" "_law_let" s_let f fd) (V : Df P w K mg base "_law_value" 1 fv dv ["_law_kind", "_law_number", "_law_names_here"] (spValue K)) :
    FnOk P w K mg base CX0 2 f fd ["_law_number", "_law_names_here"] (spLet K) :=
  (ok_letC F V).imp fun _ _ _ _ ⟨n, a, ss, e, h1, k⟩ => ⟨n, a, ss, e, h1, fun p to sg x y H' hp ok _ e => k p to sg x y H' hp ok e⟩
end
end Lm
namespace Lm
open PySem L2
def spNamesD : Sp := fun vs H Q _ => ∃ c : Int, vs = [.int c] ∧ ∀ (l : Addr) (ss : List Str) (H' : Hp), Same H H' → H l = none → H' l = some (.lst (ss.map V.str)) → ss.length = 16 → (∀ s ∈ ss, Good s) → (∀ (sh : Sh) (j8 : Nat), Nms sh j8 ss → Q (.ref l) H')
section
variable {P : Program} {w : World} {K : PySem.W.Frag} {mg : Str → Option Value} {base : Heap} {f : Addr} {fd : FuncData}
abbrev nNames : List Str := ["_law_cell", "_law_letters", "_law_some", "_law_size", "_law_j", "_law_tail", "_law_k", "_law_word", "_law_place", "_law_words"]
theorem sc_names : FnScope nNames ["_law_cell"] (defScope s_names) := ⟨rfl, rfl, rfl, by decide +kernel, rfl, by decide +kernel, by decide +kernel⟩
theorem ok_names (F : Fun K "_law_names" "_law_names" s_names f fd) (mr : mg "range" = none) : FnOk P w K mg base CX0 1 f fd ["_law_cell"] spNamesD := by
  refine F.ok sc_names (fun vs H Q E h => ?_) (fun cdv A outer s H vs Q E hr h => ?_)
  · obtain ⟨c, rfl, _⟩ := h
    rfl
  obtain ⟨c, rfl, q⟩ := h
  have nd := sc_names.nd
  refine ⟨_, pss_cons (ps_set (i := 1) nd rfl (Or.inr rfl) pe_str) <|
    pss_cons (ps_set (i := 2) nd rfl (Or.inl rfl) (pe_lst pa_nil)) <|
    pss_cons (ps_set (i := 3) nd rfl (Or.inl rfl) (pe_op op_add pe_int (pe_op op_mod (pe_op op_fdiv (pv 0) pe_int) pe_int))) <|
    pss_cons (ps_set (i := 5) nd rfl (Or.inl rfl) (pe_join pe_str (pe_lc (own := [("_law_j", 4)]) (g := gName 4) rfl nd (pi_range1 rfl mr (pa_cons pe_int pa_nil)) (blkOk_by (N := nNames) (sc := defScope s_names) (by decide +kernel))
      (fun _ _ _ _ _ => pg_name (i := 4) nd rfl (Or.inl rfl)) (fun _ _ _ _ _ => pts_nil)
      (fun _ _ _ _ _ => pe_ix ix_str (pv 1) (pe_op op_mod (pe_op op_add (pe_op op_add (pe_op op_fdiv (pv 0) pe_int) (pe_op op_mul pe_int (pv 4))) pe_int) pe_int) (fun _ _ => rfl))))) <|
    pss_cons (ps_for PassesOwn.never rfl (pi_range1 rfl mr (pa_cons pe_int pa_nil)) (pg_name (i := 6) nd rfl (Or.inl rfl))
      (pss_cons (ps_set (i := 7) nd rfl (Or.inl rfl) (pe_ix ix_str (pv 1) (pe_op op_mod (pe_op op_add (pe_op op_fdiv (pv 0) pe_int) (pe_op op_mul pe_int (pv 6))) pe_int) (fun _ _ => rfl))) <|
      pss_cons (ps_if (pt_cmpR op_eq (pe_op op_mod (pv 0) pe_int) pe_int (nomark _))
        (pss_cons (ps_set (i := 8) nd rfl (Or.inl rfl) (pe_op op_mod (pe_op op_fdiv (pv 0) pe_int) (pv 3))) <|
          pss_one (ps_set (i := 7) nd rfl (Or.inl rfl) (pe_op op_add_str (pe_op op_add_str (pe_slice sl_str (pv 5) po_none (po_some (pv 8))) (pv 7)) (pe_slice sl_str (pv 5) (po_some (pe_op op_add (pv 8) pe_int)) (po_some (pv 3))))))
        (pss_one (ps_if (pt_cmpR op_eq (pe_op op_mod (pv 0) pe_int) pe_int (nomark _))
          (pss_cons (ps_set (i := 7) nd rfl (Or.inl rfl) (pe_ix ix_str (pv 1) (pe_op op_mod (pe_op op_add (pe_op op_fdiv (pv 0) pe_int) (pe_op op_mul pe_int (pe_op op_fdiv (pv 6) pe_int))) pe_int) (fun _ _ => rfl))) <|
            pss_one (ps_set (i := 7) nd rfl (Or.inl rfl) (pe_op op_add_str (pv 7) (pe_slice sl_str (pv 5) po_none (po_some (pe_op op_add (pe_op op_mod (pv 6) pe_int) (pe_op op_mod (pe_op op_fdiv (pv 0) pe_int) pe_int)))))))
          (pss_one (ps_for PassesOwn.never rfl (pi_range1 rfl mr (pa_cons (pe_op op_mod (pe_op op_add (pe_op op_fdiv (pv 0) pe_int) (pv 6)) pe_int) pa_nil)) (pg_name (i := 4) nd rfl (Or.inl rfl))
            (pss_one (ps_set (i := 7) nd rfl (Or.inl rfl) (pe_op op_add_str (pv 7) (pe_ix ix_str (pv 1) (pe_op op_mod (pe_op op_add (pe_op op_add (pe_op op_fdiv (pv 0) pe_int) (pe_op op_mul pe_int (pv 4))) (pv 6)) pe_int) (fun _ _ => rfl)))))))))) <|
      pss_one (ps_expr (pe_bm PySem.F.plainAttrs_list PySem.F.slot_list_append PySem.F.type_list_append mt_append (pv 2) (pa_cons (pv 7) pa_nil))))) <|
    pss_cons (ps_if (pt_cmpR op_eq (pe_op op_mod (pv 0) pe_int) pe_int (nomark _))
      (pss_cons (ps_set (i := 9) nd rfl (Or.inl rfl) (pe_lst (pa_cons pe_str (pa_cons pe_str (pa_cons pe_str (pa_cons pe_str (pa_cons pe_str (pa_cons pe_str (pa_cons pe_str (pa_cons pe_str (pa_cons pe_str (pa_cons pe_str pa_nil)))))))))))) <|
        pss_one (ps_asg (pe_ix ix_list (pv 9) (pe_op op_mod (pe_op op_fdiv (pv 0) pe_int) pe_int) (fun _ _ => rfl)) (pg_sub (pv 2) (pe_op op_mod (pe_op op_fdiv (pv 0) pe_int) pe_int) set_list)))
      pss_nil) <|
    pss_one (ps_ret (pv 2)), ?_⟩
  have hc26 : (c / 72 % 26).toNat < 26 := by omega
  have code1 : ∀ i : Nat, atI abc.cps.toList ((c / 72 + 5 * (0 + (i : Int)) + 1) % 26) = some (ltr ((c / 72 % 26).toNat + (5 * i + 1))) := fun i => (abc_mod _).trans (congrArg some (by unfold ltr; omega))
  have code2 : ∀ i : Nat, atI abc.cps.toList ((c / 72 + 5 * (0 + (i : Int))) % 26) = some (ltr ((c / 72 % 26).toNat + 5 * i)) := fun i => (abc_mod _).trans (congrArg some (by unfold ltr; omega))
  have code3 : ∀ i : Nat, atI abc.cps.toList ((c / 72 + 7 * ((0 + (i : Int)) / 4)) % 26) = some (ltr ((c / 72 % 26).toNat + 7 * (i / 4))) := fun i => (abc_mod _).trans (congrArg some (by unfold ltr; omega))
  have code4 : ∀ i j : Nat, atI abc.cps.toList ((c / 7 + 3 * (0 + (j : Int)) + (0 + (i : Int))) % 26) = some (ltr (((c / 7 + (i : Int)) % 26).toNat + 3 * j)) := fun i j => (abc_mod _).trans (congrArg some (by unfold ltr; omega))
  have abcLen : abc.length ≤ sizeLine := by decide +kernel
  refine ⟨(by show 0 ≤ sizeLine; decide), fun L hL => ?_⟩
  have sL : Same H (upd H L (.lst [])) := same_new hL _
  refine ⟨_, rfl, _, _, rfl, rfl, ⟨by decide, by decide⟩, _, _, rfl, rfl, (by show (0 : Int) < 6; decide), _, _, rfl, rfl, ?_⟩
  refine ⟨⟨_, rfl⟩, 6, rfl, by decide, by decide, fun D hD => lc_range (lo := 0) (n := 6) (fun i H' => H' D = some (.lst ((tl (c / 72 % 26).toNat i).map V.str)) ∧ Same (upd H L (.lst [])) H') ⟨upd_same, same_new hD _⟩ ?_ ?_⟩
  · intro i H1 hi ⟨e1, s1⟩
    refine ⟨rfl, yes (iteT ?_)⟩
    refine ⟨_, rfl, _, rfl, _, _, rfl, rfl, ⟨by decide, by decide⟩, _, rfl, _, _, rfl, rfl, .inl ⟨by decide, by decide⟩, _, _, rfl, rfl, _, _, rfl, rfl, _, _, rfl, rfl, (by show (0 : Int) < 26; decide), _, _, _, rfl, rfl, abcLen, code1 i, _, e1, ?_, ?_, ?_⟩
    · rw [List.length_map, tl_len _ (by omega)]
      exact small1000 (by omega)
    · rw [upd_same, tl_more _ i hi, List.map_append]
      rfl
    · exact fun b o hb => by rw [upd_ne (ne_of_none hb hD)]; exact s1 b o hb
  intro H1 ⟨e1, s1⟩
  refine ⟨_, D, tl (c / 72 % 26).toNat 6, rfl, rfl, .inl (SqL.of e1), tl_sum _, ?_⟩
  rw [tl_join]
  have s2 : Same H H1 := sL.trans s1
  have e2 : H1 L = some (.lst []) := s1 _ _ upd_same
  have sz1 : 0 ≤ 1 + c / 3 % 6 := by omega
  have sz2 : 1 + c / 3 % 6 < 7 := by omega
  obtain ⟨size, esz⟩ : ∃ n : Nat, 1 + c / 3 % 6 = (n : Int) := ⟨(1 + c / 3 % 6).toNat, by omega⟩
  refine ⟨16, rfl, by decide, by decide, for_range (lo := 0) (n := 16) (fun i σ H' => ∃ (ss : List Str) (vj vk vw vp : Option V), σ = [some (.int c), some (.str abc), some (.ref L), some (.int (1 + c / 3 % 6)), vj, some (.str (tailS (c / 72 % 26).toNat)), vk, vw, vp, none] ∧
    Same H H' ∧ H' L = some (.lst (ss.map V.str)) ∧ ss.length = i ∧ (∀ s ∈ ss, Good s) ∧ ∀ (j : Nat) (s : Str), ss[j]? = some s → s.cps.toList = (shOf c).word j) ⟨[], none, none, none, none, rfl, s2, e2, rfl, fun s hs => (by cases hs), fun j s hs => (get_nil hs).elim⟩ ?_ ?_⟩
  · rintro i σ H2 hi ⟨ss, vj, vk, vw, vp, rfl, s3, e3, hlen, hgood, hword⟩
    have fin : ∀ (s : Str) (vj vk vp : Option V), Good s → s.cps.toList = (shOf c).word i → ∃ (ss' : List Str) (vj' vk' vw' vp' : Option V), [some (V.int c), some (.str abc), some (.ref L), some (.int (1 + c / 3 % 6)), vj, some (.str (tailS (c / 72 % 26).toNat)), vk, some (.str s), vp, none] = [some (V.int c), some (.str abc), some (.ref L), some (.int (1 + c / 3 % 6)), vj', some (.str (tailS (c / 72 % 26).toNat)), vk', vw', vp', none] ∧
        Same H (upd H2 L (.lst (ss.map V.str ++ [.str s]))) ∧ (upd H2 L (.lst (ss.map V.str ++ [.str s]))) L = some (.lst (ss'.map V.str)) ∧ ss'.length = i + 1 ∧ (∀ s ∈ ss', Good s) ∧ ∀ (j : Nat) (s : Str), ss'[j]? = some s → s.cps.toList = (shOf c).word j := fun s vj vk vp hs hsw => by
      refine ⟨ss ++ [s], _, _, _, _, rfl, fun b o hb => by rw [upd_ne (ne_of_none hb hL)]; exact s3 b o hb, ?_, by rw [List.length_append, hlen]; rfl, fun z hz => ?_, fun j z hz => ?_⟩
      · rw [upd_same, List.map_append]
        all_goals rfl
      · rcases List.mem_append.mp hz with h1 | h1
        · exact hgood z h1
        · rw [List.mem_singleton.mp h1]
          exact hs
      · by_cases cj : j < i
        · rw [List.getElem?_append_left (by omega)] at hz
          exact hword j z hz
        · rw [List.getElem?_append_right (by omega)] at hz
          have ej : j = i := by
            have := (List.getElem?_eq_some_iff.mp hz).1
            rw [List.length_singleton] at this
            omega
          subst ej
          rw [hlen, Nat.sub_self] at hz
          cases hz
          exact hsw
    have room : (ss.map V.str).length < sizeLine := by
      rw [List.length_map, hlen]
      exact small1000 (by omega)
    refine ⟨_, rfl, _, rfl, _, _, rfl, rfl, ⟨by decide, by decide⟩, _, rfl, _, _, rfl, rfl, .inl ⟨by decide, by decide⟩, _, _, rfl, rfl, _, _, rfl, rfl, (by show (0 : Int) < 26; decide), _, _, _, rfl, rfl, abcLen, code2 i, ?_⟩
    refine ⟨_, rfl, _, _, rfl, rfl, (by show (0 : Int) < 3; decide), rfl, _, rfl, ?_⟩
    refine ite2 (fun c1 => ?_) (fun c1 => ?_)
    · -- one letter in the place of another
      obtain ⟨place, epl⟩ : ∃ n : Nat, c / 18 % (1 + c / 3 % 6) = (n : Int) := ⟨(c / 18 % (1 + c / 3 % 6)).toNat, by have := Int.emod_nonneg (c / 18) (b := 1 + c / 3 % 6) (by omega); omega⟩
      have hpl : place < size := by have := Int.emod_lt_of_pos (c / 18) (b := 1 + c / 3 % 6) (by omega); omega
      refine ⟨_, rfl, _, _, rfl, rfl, ⟨by decide, by decide⟩, _, rfl, _, _, rfl, rfl, (by show (0 : Int) < 1 + c / 3 % 6; omega), ?_⟩
      have g := word1 hc26 hi (by omega : size < 7) hpl
      rw [← epl, ← esz] at g
      refine ⟨_, rfl, _, rfl, _, rfl, _, rfl, (by rw [tailS_len]; decide), _, rfl, _, _, rfl, rfl, ?_, ?_⟩
      · have := cut_len (tailS (c / 72 % 26).toNat) none (some (c / 18 % (1 + c / 3 % 6)))
        rw [tailS_len] at this
        exact Nat.le_of_lt (small1000 (Nat.le_trans (Nat.add_le_add this (Nat.le_refl _)) (by show 6 + 1 ≤ 1000; decide)))
      refine ⟨_, rfl, _, rfl, _, _, rfl, rfl, _, rfl, _, rfl, _, rfl, _, rfl, (by rw [tailS_len]; decide), _, _, rfl, rfl, ?_, ?_⟩
      · have h9 := (good_len g).2
        rw [app_len] at h9
        exact Nat.le_of_lt (small1000 (Nat.le_trans h9 (by decide)))
      refine ⟨_, rfl, .inl ⟨rfl, _, SqL.of e3⟩, _, rfl, L, _, _, rfl, rfl, e3, room, ?_⟩
      have gw := word1L (c := (c / 72 % 26).toNat) (k := i) (by omega : size < 7) hpl
      rw [← epl, ← esz] at gw
      refine fin _ _ _ _ g (gw.trans ?_)
      have e1 : c % 3 = 1 := V.int.inj (of_decide_eq_true c1)
      have ep : (c / 18 % (1 + c / 3 % 6)).toNat = place := by omega
      have es : (1 + c / 3 % 6).toNat = size := by omega
      unfold shOf
      rw [if_pos e1, ep, es]
      rfl
    refine ⟨_, rfl, _, _, rfl, rfl, (by show (0 : Int) < 3; decide), rfl, _, rfl, ?_⟩
    refine ite2 (fun c2 => ?_) (fun c2 => ?_)
    · -- a letter and the first of the six
      have g := word2 hc26 hi (by omega : (c / 18 % 3).toNat < 3)
      have ek : ((i % 4 + (c / 18 % 3).toNat : Nat) : Int) = (0 + (i : Int)) % 4 + c / 18 % 3 := by omega
      rw [ek] at g
      refine ⟨_, rfl, _, rfl, _, _, rfl, rfl, ⟨by decide, by decide⟩, _, rfl, _, _, rfl, rfl, ⟨by decide, by decide⟩, _, _, rfl, rfl, .inl ⟨by decide, by decide⟩, _, _, rfl, rfl, _, _, rfl, rfl, (by show (0 : Int) < 26; decide), _, _, _, rfl, rfl, abcLen, code3 i, ?_⟩
      refine ⟨_, rfl, _, rfl, _, rfl, _, _, rfl, rfl, (by show (0 : Int) < 4; decide), _, rfl, _, _, rfl, rfl, ⟨by decide, by decide⟩, _, _, rfl, rfl, (by show (0 : Int) < 3; decide), _, _, rfl, rfl, _, rfl, _, rfl, (by rw [tailS_len]; decide), _, _, rfl, rfl, ?_, ?_⟩
      · have h9 := (good_len g).2
        rw [app_len] at h9
        exact Nat.le_of_lt (small1000 (Nat.le_trans h9 (by decide)))
      refine ⟨_, rfl, .inl ⟨rfl, _, SqL.of e3⟩, _, rfl, L, _, _, rfl, rfl, e3, room, ?_⟩
      have gw := word2L (c := (c / 72 % 26).toNat) (k := i) (by omega : (c / 18 % 3).toNat < 3)
      rw [ek] at gw
      refine fin _ _ _ _ g (gw.trans ?_)
      have e1 : ¬ c % 3 = 1 := fun z => c1 (decide_eq_true (congrArg V.int z))
      have e2 : c % 3 = 2 := V.int.inj (of_decide_eq_true c2)
      unfold shOf
      rw [if_neg e1, if_pos e2]
      rfl
    · -- letters three apart
      have hm0 : 0 ≤ (c / 26 + (0 + (i : Int))) % 6 := Int.emod_nonneg _ (by decide)
      have hm1 : (c / 26 + (0 + (i : Int))) % 6 < 6 := Int.emod_lt_of_pos _ (by decide)
      refine ⟨_, rfl, _, _, rfl, rfl, ⟨by decide, by decide⟩, _, rfl, _, _, rfl, rfl, _, _, rfl, rfl, (by show (0 : Int) < 6; decide), _, rfl, by omega, by omega, ?_⟩
      refine for_range (lo := 0) (fun j σ H' => ∃ (vj : Option V) (s : Str), σ = [some (.int c), some (.str abc), some (.ref L), some (.int (1 + c / 3 % 6)), vj, some (.str (tailS (c / 72 % 26).toNat)), some (.int (0 + (i : Int))), some (.str s), vp, none] ∧ H' = H2 ∧
        s.cps.toList = w0 (((c / 72 % 26).toNat + 5 * i) % 26) (((c / 7 + (i : Int)) % 26).toNat) j) ⟨_, _, rfl, rfl, ?_⟩ ?_ ?_
      · show [ltr _] = [ltr _]
        unfold ltr
        rw [Nat.mod_mod]
      · rintro j σ H3 hj ⟨vj, s, rfl, rfl, es⟩
        have hj5 : j < 5 := by omega
        refine ⟨_, rfl, _, rfl, _, rfl, _, _, rfl, rfl, ⟨by decide, by decide⟩, _, rfl, _, _, rfl, rfl, .inl ⟨by decide, by decide⟩, _, _, rfl, rfl, _, rfl, _, _, rfl, rfl, _, _, rfl, rfl, (by show (0 : Int) < 26; decide), _, _, _, rfl, rfl, abcLen, code4 i j, _, _, rfl, rfl, ?_, ?_⟩
        · rw [len_toList, es, w0_len _ _ (by omega)]
          exact Nat.le_of_lt (small1000 (by show j + 1 + 1 ≤ 1000; omega))
        · refine ⟨_, _, rfl, rfl, ?_⟩
          rw [app_toList, es, w0_more _ _ j hj5]
      · rintro σ H3 ⟨vj, s, rfl, rfl, es⟩
        have g : Good s := by
          unfold Good
          rw [es]
          exact w0_ok (by omega) (by omega) (by omega)
        refine ⟨_, rfl, .inl ⟨rfl, _, SqL.of e3⟩, _, rfl, L, _, _, rfl, rfl, e3, room, ?_⟩
        refine fin _ _ _ _ g (es.trans ?_)
        have e1 : ¬ c % 3 = 1 := fun z => c1 (decide_eq_true (congrArg V.int z))
        have e2 : ¬ c % 3 = 2 := fun z => c2 (decide_eq_true (congrArg V.int z))
        have x1 : ((c / 7 + (i : Int)) % 26).toNat = ((c / 7 % 26).toNat + i) % 26 := by omega
        have x2 : ((c / 26 + (0 + (i : Int))) % 6).toNat = ((c / 26 % 6).toNat + i) % 6 := by omega
        unfold shOf
        rw [if_neg e1, if_neg e2, x1, x2]
        rfl
  · rintro σ H2 ⟨ss, vj, vk, vw, vp, rfl, s3, e3, hlen, hgood, hword⟩
    refine ⟨_, rfl, _, _, rfl, rfl, (by show (0 : Int) < 5; decide), rfl, _, rfl, ?_⟩
    refine ite2 (fun c1 => ?_) (fun c1 => ?_)
    · refine ⟨(by show 10 ≤ sizeLine; decide), fun p hp => ?_⟩
      have e4 : (upd H2 p (.lst (tens.map V.str))) L = some (.lst (ss.map V.str)) := by
        rw [upd_ne (ne_of_none e3 hp)]
        exact e3
      obtain ⟨j, ej⟩ : ∃ j : Nat, c / 40 % 10 = (j : Int) := ⟨(c / 40 % 10).toNat, by omega⟩
      have hj : j < tens.length := by show j < 10; omega
      obtain ⟨j8, ej8⟩ : ∃ j : Nat, c / 5 % 8 = (j : Int) := ⟨(c / 5 % 8).toNat, by omega⟩
      have hj8 : ixN (ss.map V.str).length (c / 5 % 8) = some j8 := by
        unfold ixN
        rw [List.length_map, hlen, ej8, if_pos (by omega), if_pos (by omega)]
        simp
      refine ⟨_, rfl, _, rfl, _, _, rfl, rfl, ⟨by decide, by decide⟩, _, _, rfl, rfl, (by show (0 : Int) < 10; decide), p, tens.map V.str, _, _, rfl, rfl, SqL.of upd_same, at_of (j := j) (v := .str tens[j]) ej (by rw [List.getElem?_map, List.getElem?_eq_getElem hj]; all_goals rfl), ?_⟩
      refine ⟨_, rfl, _, rfl, _, _, rfl, rfl, ⟨by decide, by decide⟩, _, _, rfl, rfl, (by show (0 : Int) < 8; decide), L, _, _, j8, rfl, rfl, e4, hj8, ?_⟩
      refine ⟨_, rfl, q L (ss.set j8 tens[j]) _ (fun b o hb => ?_) hL ?_ (by rw [List.length_set]; exact hlen) (fun s hs => ?_) (shOf c) j8 ⟨shOf_ok c, by omega, fun i s hs => ?_⟩⟩
      · rw [upd_ne (ne_of_none hb hL), upd_ne (ne_of_none (s3 b o hb) hp)]
        exact s3 b o hb
      · rw [upd_same, List.map_set]
      · rcases List.mem_or_eq_of_mem_set hs with h1 | h1
        · exact hgood s h1
        · rw [h1]
          exact tens_good _ (List.getElem_mem hj)
      · by_cases ci : j8 = i
        · subst ci
          rw [List.getElem?_set_self (by
            have := (List.getElem?_eq_some_iff.mp hs).1
            rw [List.length_set] at this
            exact this)] at hs
          cases hs
          exact .inr ⟨rfl, List.getElem_mem hj⟩
        · rw [List.getElem?_set_ne ci] at hs
          exact .inl (hword i s hs)
    · exact ⟨_, rfl, q L ss H2 s3 hL e3 hlen hgood (shOf c) 0 ⟨shOf_ok c, by decide, fun j s hs => .inl (hword j s hs)⟩⟩
end
end Lm
namespace Lm
open PySem L2
abbrev s_copied : Stmt := topS 24
def spCopied (K : PySem.W.Frag) (n : Nat) : Sp := fun vs H Q _ => ∃ (l : Addr) (rs : List Row) (Hc : Hp), vs = [.ref l] ∧ Same Hc H ∧ RowsAt K Hc l rs ∧ deps rs < n ∧ rs.length ≤ 2000 ∧ thins rs ∧
  ∀ (Hc' H' : Hp) (l' : Addr), Part Hc H Hc' H' → RowsAt K Hc' l' rs → Q (.ref l') H'
section
variable {P : Program} {w : World} {K : PySem.W.Frag} {mg : Str → Option Value} {base : Heap} {f : Addr} {fd : FuncData}
theorem sc_copied : FnScope ["_law_rows", "_law_made", "_law_row"] ["_law_rows"] (defScope s_copied) := ⟨rfl, rfl, rfl, by decide +kernel, rfl, by decide +kernel, by decide +kernel⟩
theorem ok_copied {n : Nat} (F : Fun K "_law_copied" "_law_copied" s_copied f fd) (ml : mg "len" = none) (G : Df P w K mg base "_law_copied" n f fd ["_law_rows"] (spCopied K n)) : FnOk P w K mg base CX0 (n + 1) f fd ["_law_rows"] (spCopied K (n + 1)) := by
  refine F.ok sc_copied (fun vs H Q E h => ?_) (fun cdv A outer s H vs Q E hr h => ?_)
  · obtain ⟨l, rs, Hc, rfl, _⟩ := h
    rfl
  obtain ⟨l, rs, Hc, rfl, hc, hR, hd, hlen, hth, k⟩ := h
  have nd := sc_copied.nd
  refine ⟨_, pss_cons (ps_set (i := 1) nd rfl (Or.inl rfl) (pe_lst pa_nil)) <|
    pss_cons (ps_for PassesOwn.never rfl (pi_list (pv 0)) (pg_name (i := 2) nd rfl (Or.inl rfl))
      (pss_one (ps_if (pt_cmpR op_eq (pe_callB call_len_seq rfl ml PySem.boot_len (pa_cons (pv 2) pa_nil)) pe_int (nomark _))
        (pss_one (ps_expr (pe_bm PySem.F.plainAttrs_list PySem.F.slot_list_append PySem.F.type_list_append mt_append (pv 1)
          (pa_cons (pe_tup (pa_cons (pe_ix ix_tup (pv 2) pe_int (fun _ _ => rfl)) (pa_cons (pe_ix ix_tup (pv 2) pe_int (fun _ _ => rfl)) (pa_cons (pe_df G hr (pa_cons (pe_ix ix_tup (pv 2) pe_int (fun _ _ => rfl)) pa_nil)) pa_nil)))) pa_nil))))
        (pss_one (ps_expr (pe_bm PySem.F.plainAttrs_list PySem.F.slot_list_append PySem.F.type_list_append mt_append (pv 1) (pa_cons (pv 2) pa_nil))))))) <|
    pss_one (ps_ret (pv 1)), ?_⟩
  obtain ⟨vs, eS, eA⟩ := hR
  refine ⟨(by show 0 ≤ sizeLine; decide), fun D hD => ?_⟩
  have p0 : Part Hc H Hc (upd H D (.lst [])) := Part.open hc hD _
  have eS0 := hc.seq eS
  refine ⟨_, rfl, l, rfl, ⟨_, p0.all.seq eS0⟩, for_list (K := K) (a := l) (xs := vs) (fun i σ H' => ∃ (v2 : Option V) (us : List V) (Hd : Hp), σ = [some (.ref l), some (.ref D), v2] ∧ Same H H' ∧ Same Hc Hd ∧ Same Hd H' ∧ (∀ b o, H b = some o → Hc b = none → Hd b = none) ∧ Hd D = none ∧ H' D = some (.lst us) ∧ AllAt K Hd (rs.take i) us)
    ⟨none, [], Hc, rfl, p0.all, Same.refl _, p0.sub, fun _ _ _ h => h, hc.free hD, upd_same, rfl⟩ (fun i σ H' _ ⟨_, _, _, _, s1, _⟩ => s1.seq eS0) ?_ ?_⟩
  · rintro i v σ H1 hi ⟨v2, us, Hd, rfl, s1, s2, s3, s4, s5, eD, eU⟩
    obtain ⟨r, hri, hRow⟩ := eA.at hi
    have hRow1 := RowAt.mono (Same.kp s2) r v hRow
    have room : us.length < sizeLine := by
      rw [eU.len, List.length_take]
      exact Nat.lt_of_le_of_lt (Nat.le_trans (Nat.min_le_right _ _) hlen) (by decide)
    have fin : ∀ (Hd' H2 : Hp) (v' : V) (w2 : Option V), Part Hd H1 Hd' H2 → RowAt K Hd' r v' → H2 D = some (.lst us) ∧ ∃ (v2 : Option V) (us' : List V) (He : Hp), [some (V.ref l), some (V.ref D), w2] = [some (V.ref l), some (V.ref D), v2] ∧ Same H (upd H2 D (.lst (us ++ [v']))) ∧ Same Hc He ∧ Same He (upd H2 D (.lst (us ++ [v']))) ∧
        (∀ b o, H b = some o → Hc b = none → He b = none) ∧ He D = none ∧ (upd H2 D (.lst (us ++ [v']))) D = some (.lst us') ∧ AllAt K He (rs.take (i + 1)) us' := fun Hd' H2 v' w2 pt hrow => by
      have hD2 : Hd' D = none := pt.no D _ eD s5
      refine ⟨pt.all _ _ eD, w2, us ++ [v'], Hd', rfl, fun b o hb => ?_, s2.trans pt.cl, fun b o hb => ?_, fun b o h1 h2 => pt.no b o (s1 b o h1) (s4 b o h1 h2), hD2, upd_same, ?_⟩
      · rw [upd_ne (ne_of_none hb hD)]
        exact pt.all _ _ (s1 b o hb)
      · rw [upd_ne (ne_of_none hb hD2)]
        exact pt.sub b o hb
      · rw [take_one hri]
        exact (AllAt.mono (Same.kp pt.cl) _ _ eU).app (AllAt.one hrow)
    match r, hri, hRow, hRow1, fin with
    | .lt to sg x y, hri, ⟨p, h1, h2⟩, hRow1, fin =>
      subst h1
      refine ⟨_, rfl, p, _, rfl, .inr (Kp.sqT (Same.kp (hc.trans s1)) h2), rfl, _, rfl, ?_⟩
      refine ite2 (fun c => absurd (V.int.inj (of_decide_eq_true c)) (by show ¬ ((5 : Nat) : Int) = 3; decide)) (fun c => ?_)
      exact ⟨_, rfl, .inl ⟨rfl, _, SqL.of eD⟩, _, rfl, D, us, _, rfl, rfl, eD, room, (fin Hd H1 _ _ (Part.refl s3) hRow1).2⟩
    | .sy x, hri, ⟨p, h1, h2⟩, hRow1, fin =>
      subst h1
      refine ⟨_, rfl, p, _, rfl, .inr (Kp.sqT (Same.kp (hc.trans s1)) h2), rfl, _, rfl, ?_⟩
      refine ite2 (fun c => absurd (V.int.inj (of_decide_eq_true c)) (by show ¬ ((2 : Nat) : Int) = 3; decide)) (fun c => ?_)
      exact ⟨_, rfl, .inl ⟨rfl, _, SqL.of eD⟩, _, rfl, D, us, _, rfl, rfl, eD, room, (fin Hd H1 _ _ (Part.refl s3) hRow1).2⟩
    | .bk kd ts qs, hri, ⟨p, l2, ws, h1, h2, h3, h4⟩, hRow1, fin =>
      subst h1
      have hT := Kp.sqT (Same.kp (hc.trans s1)) h2
      have hdep : deps qs + 1 ≤ deps rs := dep_at hri
      obtain ⟨hq1, hq2⟩ : qs.length ≤ 2000 ∧ thins qs := thins_at hth hri
      refine ⟨_, rfl, p, _, rfl, .inr hT, rfl, _, rfl, ?_⟩
      refine ite2 (fun c => ?_) (fun c => absurd (decide_eq_true (rfl : V.int 3 = V.int 3)) c)
      refine ⟨_, rfl, .inl ⟨rfl, _, SqL.of eD⟩, _, rfl, p, _, _, _, rfl, rfl, hT, atI_nat (j := 0) rfl, _, rfl, p, _, _, _, rfl, rfl, hT, atI_nat (j := 1) rfl, _, rfl, p, _, _, _, rfl, rfl, hT, atI_nat (j := 2) rfl, l2, qs, Hd, rfl, s3, RowsAt.mono (Same.kp s2) ⟨ws, h3, h4⟩, by omega, hq1, hq2, fun He H2 l3 pt hR3 => ?_⟩
      refine ⟨(by show 3 ≤ sizeLine; decide), fun q hq => ?_⟩
      have pn := Part.new pt.sub hq (.tup [.str kd, ts, .ref l3])
      obtain ⟨zs, g1, g2⟩ := hR3.mono (Same.kp pn.cl)
      obtain ⟨f1, f2⟩ := fin _ _ (.ref q) (some (.ref p)) (pt.trans pn) ⟨q, l3, zs, rfl, SqT.of upd_same, g1, g2⟩
      exact ⟨D, us, _, rfl, rfl, f1, room, f2⟩
  · rintro σ H1 ⟨v2, us, Hd, rfl, s1, s2, s3, s4, s5, eD, eU⟩
    rw [eA.len, List.take_length] at eU
    have sD : Same Hd (upd Hd D (.lst us)) := same_new s5 _
    refine ⟨_, rfl, k (upd Hd D (.lst us)) H1 D ⟨s1, s2.trans sD, fun b o hb => ?_, fun b o h1 h2 => ?_⟩ ⟨us, SqL.of upd_same, AllAt.mono (Same.kp sD) _ _ eU⟩⟩
    · by_cases e : b = D
      · rw [e, upd_same] at hb
        rw [e, ← hb]
        exact eD
      · rw [upd_ne e] at hb
        exact s3 b o hb
    · rw [upd_ne (ne_of_none h1 hD)]
      exact s4 b o h1 h2
theorem all_copied (F : Fun K "_law_copied" "_law_copied" s_copied f fd) (m : mg "_law_copied" = some (.ref f)) (b : Binds K fd ["_law_rows"] []) (ml : mg "len" = none) : ∀ n, FnOk P w K mg base CX0 n f fd ["_law_rows"] (spCopied K n)
  | 0 => none_left fun vs H Q E ⟨l, rs, Hc, _, _, _, h, _⟩ => absurd h (Nat.not_lt_zero _)
  | n + 1 => ok_copied F ml ⟨all_copied F m b ml n, m, F.kp, b⟩
end
end Lm
namespace Lm
open PySem L2
abbrev s_whole : Stmt := topS 22
def spWhole : Sp := fun vs H Q _ => ∃ i : Int, vs = [.int i] ∧ Q (.bl true) H
section
variable {P : Program} {w : World} {K : PySem.W.Frag} {mg : Str → Option Value} {base : Heap} {f : Addr} {fd : FuncData}
theorem sc_whole : FnScope ["_law_found"] ["_law_found"] (defScope s_whole) := ⟨rfl, rfl, rfl, by decide +kernel, rfl, by decide +kernel, by decide +kernel⟩
theorem ok_whole (F : Fun K "_law_whole" "_law_whole" s_whole f fd) (B : Bn mg) : FnOk P w K mg base CX0 1 f fd ["_law_found"] spWhole := by
  refine F.ok sc_whole (fun vs H Q E h => ?_) (fun cdv A outer s H vs Q E hr h => ?_)
  · obtain ⟨i, rfl, _⟩ := h
    rfl
  obtain ⟨i, rfl, k⟩ := h
  refine ⟨_, pss_one (ps_ret (pe_and (pe_callB call_isi rfl B.isinstance (by decide +kernel) (pa_cons (pv 0) (pa_cons (pe_bltn (v := .ty "int") rfl B.int (by decide +kernel) rfl) pa_nil)))
    (pe_one (pe_not (pe_callB call_isi rfl B.isinstance (by decide +kernel) (pa_cons (pv 0) (pa_cons (pe_bltn (v := .ty "bool") rfl B.bool (by decide +kernel) rfl) pa_nil))))))), ?_⟩
  exact ⟨_, rfl, _, _, _, _, true, rfl, .ty _, ty_int _, kit_ty (by decide +kernel), _, rfl, iteT ⟨_, rfl, _, _, _, _, false, rfl, .ty _, ty_int _, kit_ty (by decide +kernel), _, rfl, k⟩⟩
end
end Lm
namespace Lm
open PySem L2
abbrev s_all_rows : Stmt := topS 2
abbrev s_asked : Stmt := topS 3
abbrev s_rmf : Stmt := topS 4
/-- the words of blocks, as the top has them -/
structure Cb (K : PySem.W.Frag) (mg : Str → Option Value) (aK : Addr) : Prop where
  blocks : mg "BLOCKS" = some (.ref aK)
  blocksT : ∀ H, SqT K H aK (kinds.map V.str)
def spAllRows (K : PySem.W.Frag) : Sp := fun vs H Q _ => ∃ (l : Addr) (ss : List Str) (rs : List Row) (Hc : Hp), vs = [.ref l] ∧ Same Hc H ∧ RowsAt K Hc l rs ∧ oks ss rs ∧ tots rs ≤ 10000 ∧
  ∀ (H' : Hp) (p : Addr) (us : List V), Same H H' → H' p = some (.lst us) → AllAt K Hc (flats rs) us → Q (.ref p) H'
def spAsked (K : PySem.W.Frag) : Sp := fun vs H Q _ => ∃ (v : V) (r : Row) (ss : List Str), vs = [v] ∧ RowAt K H r v ∧ r.ok ss ∧ ∀ p, H p = none → Q (.ref p) (upd H p (.lst r.asks))
def spRmf (K : PySem.W.Frag) : Sp := fun vs H Q _ => ∃ (v : V) (r : Row) (ss : List Str), vs = [v] ∧ RowAt K H r v ∧ r.ok ss ∧ Q (.bl r.fails) H
section
variable {P : Program} {w : World} {K : PySem.W.Frag} {mg : Str → Option Value} {base : Heap} {f aK : Addr} {fd : FuncData}
theorem sc_asked : FnScope ["row"] ["row"] (defScope s_asked) := ⟨rfl, rfl, rfl, by decide +kernel, rfl, by decide +kernel, by decide +kernel⟩
theorem ok_asked (F : Fun K "asked_parts" "asked_parts" s_asked f fd) : FnOk P w K mg base CX0 1 f fd ["row"] (spAsked K) := by
  refine F.ok sc_asked (fun vs H Q E h => ?_) (fun cdv A outer s H vs Q E hr h => ?_)
  · obtain ⟨v, r, ss, rfl, _⟩ := h
    rfl
  obtain ⟨v, r, ss, rfl, hR, hok, k⟩ := h
  refine ⟨_, pss_cons (ps_if (pt_cmpR op_eq (pe_ix ix_tup (pv 0) pe_int (fun _ _ => rfl)) pe_str (nomark _))
      (pss_one (ps_ret (pe_lst (pa_cons (pe_ix ix_tup (pv 0) pe_int (fun _ _ => rfl)) (pa_cons (pe_ix ix_tup (pv 0) pe_int (fun _ _ => rfl)) pa_nil))))) pss_nil) <|
    pss_one (ps_ret (pe_lst (pa_cons (pe_ix ix_tup (pv 0) pe_int (fun _ _ => rfl)) pa_nil))), ?_⟩
  match r, hR, hok, k with
  | .lt to sg a b, ⟨p, h1, h2⟩, hok, k =>
    subst h1
    refine ⟨_, rfl, p, _, _, _, rfl, rfl, h2, atI_nat (j := 0) rfl, rfl, _, rfl, ?_⟩
    refine ite2 (fun c => ?_) (fun c => absurd (decide_eq_true rfl) c)
    exact ⟨_, rfl, p, _, _, _, rfl, rfl, h2, atI_nat (j := 3) rfl, _, rfl, p, _, _, _, rfl, rfl, h2, atI_nat (j := 4) rfl, (by show 2 ≤ sizeLine; decide), k⟩
  | .sy a, ⟨p, h1, h2⟩, hok, k =>
    subst h1
    refine ⟨_, rfl, p, _, _, _, rfl, rfl, h2, atI_nat (j := 0) rfl, rfl, _, rfl, ?_⟩
    refine ite2 (fun c => absurd c (by decide +kernel)) (fun c => ?_)
    exact ⟨_, rfl, p, _, _, _, rfl, rfl, h2, atI_nat (j := 1) rfl, (by show 1 ≤ sizeLine; decide), k⟩
  | .bk kd ts rs, ⟨p, l, vs, h1, h2, _⟩, hok, k =>
    subst h1
    refine ⟨_, rfl, p, _, _, _, rfl, rfl, h2, atI_nat (j := 0) rfl, rfl, _, rfl, ?_⟩
    refine ite2 (fun c => absurd (c.symm.trans (kd_let hok.1)) Bool.noConfusion) (fun c => ?_)
    exact ⟨_, rfl, p, _, _, _, rfl, rfl, h2, atI_nat (j := 1) rfl, (by show 1 ≤ sizeLine; decide), k⟩
theorem sc_rmf : FnScope ["row"] ["row"] (defScope s_rmf) := ⟨rfl, rfl, rfl, by decide +kernel, rfl, by decide +kernel, by decide +kernel⟩
theorem ok_rmf (F : Fun K "row_may_fail" "row_may_fail" s_rmf f fd) (B : Bn mg) : FnOk P w K mg base CX0 1 f fd ["row"] (spRmf K) := by
  refine F.ok sc_rmf (fun vs H Q E h => ?_) (fun cdv A outer s H vs Q E hr h => ?_)
  · obtain ⟨v, r, ss, rfl, _⟩ := h
    rfl
  obtain ⟨v, r, ss, rfl, hR, hok, k⟩ := h
  refine ⟨_, pss_cons (ps_if (PW.pt (pw_or (pt_cmpR op_ne (pe_ix ix_tup (pv 0) pe_int (fun _ _ => rfl)) pe_str (nomark _)) (pw_or1 (pt_cmpR op_ne (pe_ix ix_tup (pv 0) pe_int (fun _ _ => rfl)) pe_str (nomark _)))))
      (pss_one (ps_ret pe_bl)) pss_nil) <|
    pss_one (ps_ret (pe_or (pe_callB call_isi rfl B.isinstance (by decide +kernel) (pa_cons (pe_ix ix_tup (pv 0) pe_int (fun _ _ => rfl)) (pa_cons (pe_bltn (v := .ty "str") rfl B.str (by decide +kernel) rfl) pa_nil))) (pe_one (pe_cmpR op_eq (pe_ix ix_tup (pv 0) pe_int (fun _ _ => rfl)) pe_int (nomark _))))), ?_⟩
  match r, hR, hok, k with
  | .lt to sg a b, ⟨p, h1, h2⟩, hok, k =>
    subst h1
    refine ⟨_, rfl, p, _, _, _, rfl, rfl, h2, atI_nat (j := 0) rfl, rfl, _, rfl, ?_⟩
    refine iteNS rfl ⟨_, rfl, p, _, _, _, rfl, rfl, h2, atI_nat (j := 2) rfl, rfl, _, rfl, ?_⟩
    by_cases c : sg = "/"
    · subst c
      refine iteNS rfl ?_
      refine ⟨_, rfl, p, _, _, _, rfl, rfl, h2, atI_nat (j := 4) rfl, ?_⟩
      match b, hok, k with
      | .nm s, hok, k => exact ⟨_, _, _, _, true, rfl, .ty _, ty_str _, kit_ty (by decide +kernel), _, rfl, iteT k⟩
      | .nu i, hok, k =>
        refine ⟨_, _, _, _, false, rfl, .ty _, ty_int _, kit_ty (by decide +kernel), _, rfl, iteF ?_⟩
        refine ⟨_, rfl, p, _, _, _, rfl, rfl, h2, atI_nat (j := 4) rfl, rfl, ?_⟩
        have e : (Row.lt to "/" a (Vl.nu i)).fails = decide (V.int i = V.int 0) := by
          show (decide (("/" : Str) = "/") && decide (i = 0)) = _
          rw [decide_eq_true rfl, Bool.true_and]
          by_cases z : i = 0
          · rw [z]; rfl
          · rw [decide_eq_false z, decide_eq_false (fun y => z (V.int.inj y))]
        rw [e] at k
        exact k
    · have e : (Row.lt to sg a b).fails = false := by
        show (decide (sg = "/") && _) = false
        rw [decide_eq_false c, Bool.false_and]
      rw [e] at k
      have ec : (!decide (V.str sg = V.str "/")) = true := by
        rw [decide_eq_false (fun y => c (V.str.inj y))]
        rfl
      exact ifT ec k
  | .sy a, ⟨p, h1, h2⟩, hok, k =>
    subst h1
    refine ⟨_, rfl, p, _, _, _, rfl, rfl, h2, atI_nat (j := 0) rfl, rfl, _, rfl, ?_⟩
    exact ifT (by decide +kernel) (iteT k)
  | .bk kd ts rs, ⟨p, l, vs, h1, h2, _⟩, hok, k =>
    subst h1
    refine ⟨_, rfl, p, _, _, _, rfl, rfl, h2, atI_nat (j := 0) rfl, rfl, _, rfl, ?_⟩
    exact ifT (by rw [kd_let hok.1]; rfl) (iteT k)
theorem sc_all_rows : FnScope ["rows", "found", "waiting", "row"] ["rows"] (defScope s_all_rows) := ⟨rfl, rfl, rfl, by decide +kernel, rfl, by decide +kernel, by decide +kernel⟩
theorem ok_all_rows (F : Fun K "all_rows" "all_rows" s_all_rows f fd) (C : Cb K mg aK) : FnOk P w K mg base CX0 1 f fd ["rows"] (spAllRows K) := by
  refine F.ok sc_all_rows (fun vs H Q E h => ?_) (fun cdv A outer s H vs Q E hr h => ?_)
  · obtain ⟨l, ss, rs, Hc, rfl, _⟩ := h
    rfl
  obtain ⟨l, ss, rs, Hc, rfl, hc, ⟨vs0, eS, eA⟩, hok, hnum, k⟩ := h
  have nd := sc_all_rows.nd
  refine ⟨_, pss_cons (ps_set (i := 1) nd rfl (Or.inl rfl) (pe_lst pa_nil)) <|
    pss_cons (ps_set (i := 2) nd rfl (Or.inl rfl) (pe_revL (pv 0))) <|
    pss_cons (ps_while PassesOwn.never (pt_truth (pv 2) (by intro _; rfl))
      (pss_cons (ps_set (i := 3) nd rfl (Or.inl rfl) (pe_bm0 PySem.F.plainAttrs_list PySem.F.slot_list_pop PySem.F.type_list_pop mt_pop (pv 2))) <|
      pss_cons (ps_expr (pe_bm PySem.F.plainAttrs_list PySem.F.slot_list_append PySem.F.type_list_append mt_append (pv 1) (pa_cons (pv 3) pa_nil))) <|
      pss_one (ps_if (pt_cmpR op_in_seq (pe_ix ix_tup (pv 3) pe_int (fun _ _ => rfl)) (pe_glob (v := .ref aK) rfl C.blocks rfl) (by rfl))
        (pss_one (ps_expr (pe_bm PySem.F.plainAttrs_list PySem.F.slot_list_extend PySem.F.type_list_extend mt_extend (pv 2) (pa_cons (pe_revL (pe_ix ix_tup (pv 3) pe_int (fun _ _ => rfl))) pa_nil)))) pss_nil))) <|
    pss_one (ps_ret (pv 1)), ?_⟩
  refine ⟨(by show 0 ≤ sizeLine; decide), fun D hD => ?_⟩
  have sD : Same H (upd H D (.lst [])) := same_new hD _
  refine ⟨_, rfl, l, vs0, rfl, (hc.trans sD).seq eS, fun W hW => ?_⟩
  have nWD : W ≠ D := fun e => by rw [e, upd_same] at hW; cases hW
  have hW0 : H W = none := by rw [upd_ne nWD] at hW; exact hW
  refine ⟨fun m σ H' => ∃ (done rem : List Row) (us ws : List V) (v3 : Option V), m = tots rem ∧ σ = [some (.ref l), some (.ref D), some (.ref W), v3] ∧ Same H H' ∧ H' D = some (.lst us) ∧ H' W = some (.lst ws) ∧ AllAt K Hc done us ∧ AllAt K Hc rem ws.reverse ∧ oks ss rem ∧ done ++ flats rem = flats rs,
    ⟨_, [], rs, [], vs0.reverse, none, rfl, rfl, sD.trans (same_new hW _), by rw [upd_ne nWD.symm, upd_same], upd_same, rfl, by rw [List.reverse_reverse]; exact eA, hok, rfl⟩, ?_⟩
  rintro m σ H1 ⟨done, rem, us, ws, v3, rfl, rfl, s1, eD, eW, aD, aW, hoks, hfl⟩
  have hcount : done.length + tots rem = tots rs := by
    have e := congrArg List.length hfl
    rw [List.length_append, flats_len, flats_len] at e
    exact e
  refine ⟨_, rfl, !ws.isEmpty, .inl ⟨ws, SqL.of eW, rfl⟩, ?_⟩
  match rem, aW, hoks, hfl, hcount with
  | [], aW, hoks, hfl, hcount =>
    have e1 : ws = [] := List.reverse_eq_nil_iff.mp aW
    subst e1
    refine ifF rfl ⟨_, rfl, k H1 D us s1 eD ?_⟩
    rw [show flats rs = done by rw [← hfl]; exact List.append_nil _]
    exact aD
  | r :: rem', ⟨v, t, e1, aR, aT⟩, hoks, hfl, hcount =>
    have e2 : ws = t.reverse ++ [v] := by
      have z := congrArg List.reverse e1
      rw [List.reverse_reverse, List.reverse_cons] at z
      exact z
    subst e2
    have pos := r.tot_pos
    have hc2 : done.length + (r.tot + tots rem') = tots rs := hcount
    have hlt : tots rem' < tots (r :: rem') := by
      show tots rem' < r.tot + tots rem'
      omega
    refine ifT (by simp) ⟨fun σ' H'' => ∃ m', m' < tots (r :: rem') ∧ ∃ (done rem : List Row) (us ws : List V) (v3 : Option V), m' = tots rem ∧ σ' = [some (.ref l), some (.ref D), some (.ref W), v3] ∧ Same H H'' ∧ H'' D = some (.lst us) ∧ H'' W = some (.lst ws) ∧ AllAt K Hc done us ∧ AllAt K Hc rem ws.reverse ∧ oks ss rem ∧ done ++ flats rem = flats rs,
      fun _ _ z => z, ?_⟩
    have eD2 : (upd H1 W (.lst t.reverse)) D = some (.lst us) := by
      rw [upd_ne nWD.symm]
      exact eD
    refine ⟨_, rfl, .inl ⟨rfl, _, SqL.of eW⟩, W, _, v, rfl, rfl, eW, by simp, ?_⟩
    rw [List.dropLast_concat]
    have room : us.length < sizeLine := by
      rw [aD.len, sizeLine_eq]
      omega
    refine ⟨_, rfl, .inl ⟨rfl, _, SqL.of eD2⟩, _, rfl, D, us, _, rfl, rfl, eD2, room, ?_⟩
    have s2 : Same H (upd (upd H1 W (.lst t.reverse)) D (.lst (us ++ [v]))) := fun b o hb => by
      rw [upd_ne (ne_of_none hb hD), upd_ne (ne_of_none hb hW0)]
      exact s1 b o hb
    have eW2 : (upd (upd H1 W (.lst t.reverse)) D (.lst (us ++ [v]))) W = some (.lst t.reverse) := by
      rw [upd_ne nWD, upd_same]
    match r, aR, hoks, hfl, hc2 with
    | .lt to sg a b, ⟨p, h1, h2⟩, hoks, hfl, hc2 =>
      have aR' : RowAt K Hc (.lt to sg a b) v := ⟨p, h1, h2⟩
      subst h1
      refine ⟨_, rfl, p, _, _, _, rfl, rfl, Kp.sqT (Same.kp (hc.trans s2)) h2, atI_nat (j := 0) rfl, aK, _, rfl, .inr (C.blocksT _), rfl, kinds_flat, _, rfl, ?_⟩
      exact ifF let_in ⟨_, hlt, done ++ [.lt to sg a b], rem', us ++ [.ref p], t.reverse, _, rfl, rfl, s2, upd_same, eW2, aD.app (AllAt.one aR'), by rw [List.reverse_reverse]; exact aT, hoks.2, by rw [List.append_assoc]; exact hfl⟩
    | .sy a, ⟨p, h1, h2⟩, hoks, hfl, hc2 =>
      have aR' : RowAt K Hc (.sy a) v := ⟨p, h1, h2⟩
      subst h1
      refine ⟨_, rfl, p, _, _, _, rfl, rfl, Kp.sqT (Same.kp (hc.trans s2)) h2, atI_nat (j := 0) rfl, aK, _, rfl, .inr (C.blocksT _), rfl, kinds_flat, _, rfl, ?_⟩
      exact ifF say_in ⟨_, hlt, done ++ [.sy a], rem', us ++ [.ref p], t.reverse, _, rfl, rfl, s2, upd_same, eW2, aD.app (AllAt.one aR'), by rw [List.reverse_reverse]; exact aT, hoks.2, by rw [List.append_assoc]; exact hfl⟩
    | .bk kd ts qs, ⟨p, l2, zs, h1, h2, h3, h4⟩, hoks, hfl, hc2 =>
      have aR' : RowAt K Hc (.bk kd ts qs) v := ⟨p, l2, zs, h1, h2, h3, h4⟩
      subst h1
      have hT := Kp.sqT (Same.kp (hc.trans s2)) h2
      have hc3 : done.length + ((tots qs + 1) + tots rem') = tots rs := hc2
      refine ⟨_, rfl, p, _, _, _, rfl, rfl, hT, atI_nat (j := 0) rfl, aK, _, rfl, .inr (C.blocksT _), rfl, kinds_flat, _, rfl, ?_⟩
      refine ifT (kd_in hoks.1.1) ⟨_, rfl, .inl ⟨rfl, _, SqL.of eW2⟩, _, rfl, p, _, _, _, rfl, rfl, hT, atI_nat (j := 2) rfl, l2, zs, rfl, (hc.trans s2).seq h3, fun q hq => ?_⟩
      have nWq := ne_of_none eW2 hq
      have s3 := s2.trans (same_new hq (.lst zs.reverse))
      refine ⟨W, q, _, _, rfl, rfl, by rw [upd_ne nWq]; exact eW2, upd_same, ?_, ?_⟩
      · have l1 := len_tots qs
        have l2 := len_tots rem'
        rw [List.length_reverse, List.length_reverse, aT.len, h4.len, sizeLine_eq]
        omega
      · refine ⟨tots (qs ++ rem'), ?_, done ++ [.bk kd ts qs], qs ++ rem', us ++ [.ref p], t.reverse ++ zs.reverse, _, rfl, rfl, fun b o hb => ?_, ?_, upd_same, aD.app (AllAt.one aR'), ?_, oks_app hoks.1.2.2.2 hoks.2, ?_⟩
        · rw [tots_app]
          show tots qs + tots rem' < (tots qs + 1) + tots rem'
          omega
        · rw [upd_ne (ne_of_none hb hW0)]
          exact s3 b o hb
        · rw [upd_ne nWD.symm, upd_ne (ne_of_none upd_same hq), upd_same]
        · rw [List.reverse_append, List.reverse_reverse, List.reverse_reverse]
          exact h4.app aT
        · rw [flats_app, List.append_assoc]
          exact hfl
end
end Lm
namespace Lm
open PySem L2
abbrev s_reads : Stmt := topS 5
abbrev s_sets : Stmt := topS 6
abbrev s_may : Stmt := topS 7
abbrev s_speaks : Stmt := topS 8
/-- a program that stands at l -/
structure Pg (K : PySem.W.Frag) (H : Hp) (l : Addr) (ss : List Str) (rs : List Row) : Prop where
  at_ : RowsAt K H l rs
  ok : oks ss rs
  num : tots rs ≤ 10000
  few : ss.length ≤ 60
theorem Pg.kp {K : PySem.W.Frag} {H H' : Hp} {l : Addr} {ss : List Str} {rs : List Row} (h : Pg K H l ss rs) (k : Kp H H') : Pg K H' l ss rs := ⟨h.at_.mono k, h.ok, h.num, h.few⟩
def spNamed (K : PySem.W.Frag) (p : List Row → Str → Prop) : Sp := fun vs H Q _ => ∃ (l : Addr) (ss : List Str) (rs : List Row), vs = [.ref l] ∧ Pg K H l ss rs ∧
  ∀ (H' : Hp) (q : Addr) (ys : List Str), Same H H' → H q = none → H' q = some (.lst (ys.map V.str)) → PyProof.Rows.sortedS ys = true → ys.Nodup → (∀ x, x ∈ ys ↔ p (flats rs) x) → Q (.ref q) H'
def spSome (K : PySem.W.Frag) (p : Row → Bool) : Sp := fun vs H Q _ => ∃ (l : Addr) (ss : List Str) (rs : List Row), vs = [.ref l] ∧ Pg K H l ss rs ∧
  ∀ (H' : Hp), Same H H' → Q (.bl ((flats rs).any p)) H'
structure Bp (mg : Str → Option Value) : Prop where
  any : mg "any" = none
  set : mg "set" = none
  sorted : mg "sorted" = none
theorem any_of {p : Row → Bool} (rs : List Row) : (rs.map p).any id = rs.any p := by
  rw [List.any_map]
  rfl
section
variable {P : Program} {w : World} {K : PySem.W.Frag} {mg : Str → Option Value} {base : Heap} {f aK fr fa : Addr} {fd dr da : FuncData}
theorem sc_reads : FnScope ["rows", "found", "row", "part"] ["rows"] (defScope s_reads) := ⟨rfl, rfl, rfl, by decide +kernel, rfl, by decide +kernel, by decide +kernel⟩
theorem ok_reads (F : Fun K "reads" "reads" s_reads f fd) (Bi : Bn mg) (B : Bp mg) (DR : Df P w K mg base "all_rows" 1 fr dr ["rows"] (spAllRows K)) (DA : Df P w K mg base "asked_parts" 1 fa da ["row"] (spAsked K)) :
    FnOk P w K mg base CX0 2 f fd ["rows"] (spNamed K askN) := by
  refine F.ok sc_reads (fun vs H Q E h => ?_) (fun cdv A outer s H vs Q E hr h => ?_)
  · obtain ⟨l, ss, rs, rfl, _⟩ := h
    rfl
  obtain ⟨l, ss, rs, rfl, hP, k⟩ := h
  have nd := sc_reads.nd
  refine ⟨_, pss_cons (ps_set (i := 1) nd rfl (Or.inl rfl) (pe_callTy0 cr_set0X rfl B.set (by decide +kernel))) <|
    pss_cons (ps_for PassesOwn.never rfl (pi_list (pe_df DR hr (pa_cons (pv 0) pa_nil))) (pg_name (i := 2) nd rfl (Or.inl rfl))
      (pss_one (ps_for PassesOwn.never rfl (pi_list (pe_df DA hr (pa_cons (pv 2) pa_nil))) (pg_name (i := 3) nd rfl (Or.inl rfl))
        (pss_one (ps_if (pt_val (pe_callB call_isi rfl Bi.isinstance (by decide +kernel) (pa_cons (pv 3) (pa_cons (pe_bltn (v := .ty "str") rfl Bi.str (by decide +kernel) rfl) pa_nil)))) (pss_one (ps_expr (pe_saddX (pv 1) (pa_cons (pv 3) pa_nil)))) pss_nil))))) <|
    pss_one (ps_ret (pe_callB (cr_sortX rfl) rfl B.sorted (by decide +kernel) (pa_cons (pv 1) pa_nil))), ?_⟩
  refine ⟨rfl, fun F0 hF => ?_⟩
  have sF : Same H (upd H F0 (SetX w F0 (fun _ => false) 0)) := same_new hF _
  refine ⟨_, rfl, l, ss, rs, H, rfl, sF, hP.at_, hP.ok, hP.num, fun H1 q us s1 eq aU => ?_⟩
  have hokf := oks_flats hP.ok
  have eF1 := s1 _ _ (upd_same (H := H) (a := F0) (o := SetX w F0 (fun _ => false) 0))
  have nqF : q ≠ F0 := ne_of eq eF1 (by intro z; cases z)
  refine ⟨q, rfl, ⟨_, SqL.of eq⟩, for_list (K := K) (a := q) (xs := us) (fun i σ H' => ∃ (ns : List Str) (v2 v3 : Option V), σ = [some (.ref l), some (.ref F0), v2, v3] ∧ H' q = some (.lst us) ∧ Same H H' ∧ Fnd w F0 H' ss ns ∧ ∀ x, x ∈ ns ↔ askN ((flats rs).take i) x)
    ⟨[], none, none, rfl, eq, sF.trans s1, ⟨⟨_, 0, eF1, fun x => by simp, rfl⟩, List.nodup_nil, fun x hx => by cases hx⟩, fun x => by simp [askN]⟩ (fun i σ H' _ ⟨_, _, _, _, e, _⟩ => SqL.of e) ?_ ?_⟩
  · rintro i v σ H2 hi ⟨ns, v2, v3, rfl, eq2, k2, fnd, hns⟩
    obtain ⟨r, hri, hrow⟩ := aU.at hi
    have hrok := oks_at hokf hri
    refine ⟨_, rfl, v, r, ss, rfl, RowAt.mono (Same.kp k2) r v hrow, hrok, fun A hA => ⟨A, rfl, ⟨_, SqL.of upd_same⟩, ?_⟩⟩
    have kA : Same H2 (upd H2 A (.lst r.asks)) := same_new hA _
    have eF2 : ∃ S n, H2 F0 = some (SetX w F0 S n) := let ⟨S, n, e, _⟩ := fnd.at_; ⟨S, n, e⟩
    obtain ⟨S2, n2, eF2⟩ := eF2
    have nAF : A ≠ F0 := (ne_of_none eF2 hA).symm
    refine for_list (K := K) (a := A) (xs := r.asks) (fun j σ H' => ∃ (ms : List Str) (v3 : Option V), σ = [some (.ref l), some (.ref F0), some v, v3] ∧ H' A = some (.lst r.asks) ∧ H' q = some (.lst us) ∧ Same H H' ∧ Fnd w F0 H' ss ms ∧ ∀ x, x ∈ ms ↔ x ∈ ns ∨ V.str x ∈ r.asks.take j)
      ⟨ns, v3, rfl, upd_same, kA _ _ eq2, k2.trans kA, fnd.kp (Same.kp kA), fun x => ⟨Or.inl, fun h => h.elim id fun z => by cases z⟩⟩ (fun j σ H' _ ⟨_, _, _, e, _⟩ => SqL.of e) ?_ ?_
    · rintro j y σ H3 hj ⟨ms, v3', rfl, eA3, eq3, k3, fnd3, hms⟩
      have hy := Row.asks_ok hrok (List.mem_of_getElem? hj)
      rcases hy with ⟨z, rfl, hz⟩ | ⟨z, rfl⟩
      · obtain ⟨S, n, ms', f1, f2, f3, f4⟩ := fnd3.add hP.few hz
        refine ⟨_, rfl, _, _, _, _, true, rfl, .ty _, ty_str _, kit_ty (by decide +kernel), _, rfl, iteT ⟨_, rfl, ⟨F0, S, n, rfl, f1⟩, _, rfl, F0, z, S, n, rfl, rfl, f1, f2, ?_⟩⟩
        refine ⟨ms', _, rfl, by rw [upd_ne nAF]; exact eA3, by rw [upd_ne nqF]; exact eq3, fun c o hc => by rw [upd_ne (ne_of_none hc hF)]; exact k3 c o hc, f3, fun x => ?_⟩
        · rw [f4 x, hms x, take_one hj, List.mem_append, List.mem_singleton, V.str.injEq, or_assoc]
      · refine ⟨_, rfl, _, _, _, _, false, rfl, .ty _, ty_int _, kit_ty (by decide +kernel), _, rfl, iteF ⟨ms, _, rfl, eA3, eq3, k3, fnd3, fun x => ?_⟩⟩
        rw [hms x, take_one hj, List.mem_append, List.mem_singleton]
        exact ⟨fun h => h.elim Or.inl fun h => .inr (.inl h), fun h => h.elim Or.inl fun h => h.elim .inr fun h => by cases h⟩
    · rintro σ H3 ⟨ms, v3', rfl, eA3, eq3, k3, fnd3, hms⟩
      refine ⟨ms, _, _, rfl, eq3, k3, fnd3, fun x => ?_⟩
      rw [hms x, List.take_length, hns x, askN_one hri]
  · rintro σ H2 ⟨ns, v2, v3, rfl, eq2, k2, fnd, hns⟩
    rw [aU.len, List.take_length] at hns
    obtain ⟨S, n, f1, f2, f3⟩ := fnd.at_
    have few := fnd.few hP.few
    refine ⟨_, rfl, F0, S, n, rfl, f1, by omega, fun ys p h1 h2 h3 hp => ?_⟩
    have sp := same_new hp (.lst (ys.map V.str))
    exact k _ p ys (k2.trans sp) (k2.free hp) upd_same h1 h2 (fun x => by rw [h3 x, f2 x, hns x])
theorem sc_sets : FnScope ["rows", "found", "row"] ["rows"] (defScope s_sets) := ⟨rfl, rfl, rfl, by decide +kernel, rfl, by decide +kernel, by decide +kernel⟩
theorem ok_sets (F : Fun K "sets" "sets" s_sets f fd) (B : Bp mg) (DR : Df P w K mg base "all_rows" 1 fr dr ["rows"] (spAllRows K)) : FnOk P w K mg base CX0 2 f fd ["rows"] (spNamed K setN) := by
  refine F.ok sc_sets (fun vs H Q E h => ?_) (fun cdv A outer s H vs Q E hr h => ?_)
  · obtain ⟨l, ss, rs, rfl, _⟩ := h
    rfl
  obtain ⟨l, ss, rs, rfl, hP, k⟩ := h
  have nd := sc_sets.nd
  refine ⟨_, pss_cons (ps_set (i := 1) nd rfl (Or.inl rfl) (pe_callTy0 cr_set0X rfl B.set (by decide +kernel))) <|
    pss_cons (ps_for PassesOwn.never rfl (pi_list (pe_df DR hr (pa_cons (pv 0) pa_nil))) (pg_name (i := 2) nd rfl (Or.inl rfl))
      (pss_one (ps_if (pt_cmpR op_eq (pe_ix ix_tup (pv 2) pe_int (fun _ _ => rfl)) pe_str (nomark _)) (pss_one (ps_expr (pe_saddX (pv 1) (pa_cons (pe_ix ix_tup (pv 2) pe_int (fun _ _ => rfl)) pa_nil)))) pss_nil))) <|
    pss_one (ps_ret (pe_callB (cr_sortX rfl) rfl B.sorted (by decide +kernel) (pa_cons (pv 1) pa_nil))), ?_⟩
  refine ⟨rfl, fun F0 hF => ?_⟩
  have sF : Same H (upd H F0 (SetX w F0 (fun _ => false) 0)) := same_new hF _
  refine ⟨_, rfl, l, ss, rs, H, rfl, sF, hP.at_, hP.ok, hP.num, fun H1 q us s1 eq aU => ?_⟩
  have hokf := oks_flats hP.ok
  have eF1 := s1 _ _ (upd_same (H := H) (a := F0) (o := SetX w F0 (fun _ => false) 0))
  have nqF : q ≠ F0 := ne_of eq eF1 (by intro z; cases z)
  refine ⟨q, rfl, ⟨_, SqL.of eq⟩, for_list (K := K) (a := q) (xs := us) (fun i σ H' => ∃ (ns : List Str) (v2 : Option V), σ = [some (.ref l), some (.ref F0), v2] ∧ H' q = some (.lst us) ∧ Same H H' ∧ Fnd w F0 H' ss ns ∧ ∀ x, x ∈ ns ↔ setN ((flats rs).take i) x)
    ⟨[], none, rfl, eq, sF.trans s1, ⟨⟨_, 0, eF1, fun x => by simp, rfl⟩, List.nodup_nil, fun x hx => by cases hx⟩, fun x => by simp [setN]⟩ (fun i σ H' _ ⟨_, _, _, e, _⟩ => SqL.of e) ?_ ?_⟩
  · rintro i v σ H2 hi ⟨ns, v2, rfl, eq2, k2, fnd, hns⟩
    obtain ⟨r, hri, hrow⟩ := aU.at hi
    have hrok := oks_at hokf hri
    have hrow2 := RowAt.mono (Same.kp k2) r v hrow
    match r, hri, hrok, hrow2 with
    | .lt to sg a b, hri, hrok, ⟨p, h1, h2⟩ =>
      subst h1
      obtain ⟨S, n, ms, f1, f2, f3, f4⟩ := fnd.add hP.few hrok.1
      refine ⟨_, rfl, p, _, _, _, rfl, rfl, h2, atI_nat (j := 0) rfl, rfl, _, rfl, ?_⟩
      refine ifT (decide_eq_true rfl) ⟨_, rfl, ⟨F0, S, n, rfl, f1⟩, _, rfl, p, _, _, _, rfl, rfl, h2, atI_nat (j := 1) rfl, F0, to, S, n, rfl, rfl, f1, f2, ?_⟩
      refine ⟨ms, _, rfl, by rw [upd_ne nqF]; exact eq2, fun c o hc => by rw [upd_ne (ne_of_none hc hF)]; exact k2 c o hc, f3, fun x => ?_⟩
      rw [f4 x, hns x, setN_one hri]
      exact or_congr Iff.rfl (List.mem_singleton).symm
    | .sy a, hri, hrok, ⟨p, h1, h2⟩ =>
      subst h1
      refine ⟨_, rfl, p, _, _, _, rfl, rfl, h2, atI_nat (j := 0) rfl, rfl, _, rfl, ?_⟩
      refine ifF (by decide +kernel) ⟨ns, _, rfl, eq2, k2, fnd, fun x => ?_⟩
      rw [hns x, setN_one hri]
      exact ⟨Or.inl, fun h => h.elim id fun h => by cases h⟩
    | .bk kd ts qs, hri, hrok, ⟨p, l2, zs, h1, h2, _⟩ =>
      subst h1
      refine ⟨_, rfl, p, _, _, _, rfl, rfl, h2, atI_nat (j := 0) rfl, rfl, _, rfl, ?_⟩
      refine ifF (kd_let hrok.1) ⟨ns, _, rfl, eq2, k2, fnd, fun x => ?_⟩
      rw [hns x, setN_one hri]
      exact ⟨Or.inl, fun h => h.elim id fun h => by cases h⟩
  · rintro σ H2 ⟨ns, v2, rfl, eq2, k2, fnd, hns⟩
    rw [aU.len, List.take_length] at hns
    obtain ⟨S, n, f1, f2, f3⟩ := fnd.at_
    have few := fnd.few hP.few
    refine ⟨_, rfl, F0, S, n, rfl, f1, by omega, fun ys p h1 h2 h3 hp => ?_⟩
    have sp := same_new hp (.lst (ys.map V.str))
    exact k _ p ys (k2.trans sp) (k2.free hp) upd_same h1 h2 (fun x => by rw [h3 x, f2 x, hns x])
theorem sc_may : FnScope ["rows", "row"] ["rows"] (defScope s_may) := ⟨rfl, rfl, rfl, by decide +kernel, rfl, by decide +kernel, by decide +kernel⟩
theorem ok_may (F : Fun K "may_fail" "may_fail" s_may f fd) (B : Bp mg) (DR : Df P w K mg base "all_rows" 1 fr dr ["rows"] (spAllRows K)) (DM : Df P w K mg base "row_may_fail" 1 fa da ["row"] (spRmf K)) : FnOk P w K mg base CX0 2 f fd ["rows"] (spSome K Row.fails) := by
  refine F.ok sc_may (fun vs H Q E h => ?_) (fun cdv A outer s H vs Q E hr h => ?_)
  · obtain ⟨l, ss, rs, rfl, _⟩ := h
    rfl
  obtain ⟨l, ss, rs, rfl, hP, k⟩ := h
  have nd := sc_may.nd
  refine ⟨_, pss_one (ps_ret (pe_callB (cr_any rfl) rfl B.any (by decide +kernel) (pa_cons (pe_lc (own := [("row", 1)]) (g := gName 1) rfl nd (pi_list (pe_df DR hr (pa_cons (pv 0) pa_nil)))
    (blkOk_by (N := ["rows", "row"]) (sc := defScope s_may) (by decide +kernel)) (fun _ _ _ _ _ => pg_name (i := 1) nd rfl (Or.inl rfl)) (fun _ _ _ _ _ => pts_nil) (fun _ _ _ _ _ => pe_df DM hr (pa_cons (pv 1) pa_nil))) pa_nil))), ?_⟩
  refine ⟨_, rfl, l, ss, rs, H, rfl, Same.refl H, hP.at_, hP.ok, hP.num, fun H1 q us s1 eq aU => ⟨q, rfl, ⟨_, SqL.of eq⟩, fun D hD => lc_list (xs := us) (fun i H' => H' D = some (.lst ((((flats rs).take i).map Row.fails).map V.bl)) ∧ Same H1 H') ⟨upd_same, same_new hD _⟩ (fun i H' _ p => p.2.seq (SqL.of eq)) ?_ ?_⟩⟩
  · intro i v H2 hi ⟨eD, k2⟩
    obtain ⟨r, hri, hrow⟩ := aU.at hi
    refine ⟨rfl, yes (iteT ?_)⟩
    refine ⟨_, rfl, v, r, ss, rfl, RowAt.mono (Same.kp (s1.trans k2)) r v hrow, oks_at (oks_flats hP.ok) hri, ?_⟩
    refine ⟨_, eD, ?_, ?_, fun c o hc => ?_⟩
    · rw [List.length_map, List.length_map, List.length_take, flats_len, sizeLine_eq]
      have := hP.num
      omega
    · rw [upd_same, take_one hri, List.map_append, List.map_append]
      all_goals rfl
    · rw [upd_ne (ne_of_none hc hD)]
      exact k2 c o hc
  · intro H2 ⟨eD, k2⟩
    refine ⟨D, _, rfl, SqL.of eD, ?_⟩
    rw [aU.len, List.take_length, any_of]
    exact k H2 (s1.trans k2)
theorem sc_speaks : FnScope ["rows", "row"] ["rows"] (defScope s_speaks) := ⟨rfl, rfl, rfl, by decide +kernel, rfl, by decide +kernel, by decide +kernel⟩
theorem ok_speaks (F : Fun K "speaks" "speaks" s_speaks f fd) (B : Bp mg) (DR : Df P w K mg base "all_rows" 1 fr dr ["rows"] (spAllRows K)) : FnOk P w K mg base CX0 2 f fd ["rows"] (spSome K Row.says) := by
  refine F.ok sc_speaks (fun vs H Q E h => ?_) (fun cdv A outer s H vs Q E hr h => ?_)
  · obtain ⟨l, ss, rs, rfl, _⟩ := h
    rfl
  obtain ⟨l, ss, rs, rfl, hP, k⟩ := h
  have nd := sc_speaks.nd
  refine ⟨_, pss_one (ps_ret (pe_callB (cr_any rfl) rfl B.any (by decide +kernel) (pa_cons (pe_lc (own := [("row", 1)]) (g := gName 1) rfl nd (pi_list (pe_df DR hr (pa_cons (pv 0) pa_nil)))
    (blkOk_by (N := ["rows", "row"]) (sc := defScope s_speaks) (by decide +kernel)) (fun _ _ _ _ _ => pg_name (i := 1) nd rfl (Or.inl rfl)) (fun _ _ _ _ _ => pts_nil)
    (fun _ _ _ _ _ => pe_cmpR op_eq (pe_ix (r := rIxT K) (show IxR _ (rIxT K) from ix_tup) (pv 1) pe_int (fun _ _ => rfl)) pe_str (nomark _))) pa_nil))), ?_⟩
  refine ⟨_, rfl, l, ss, rs, H, rfl, Same.refl H, hP.at_, hP.ok, hP.num, fun H1 q us s1 eq aU => ⟨q, rfl, ⟨_, SqL.of eq⟩, fun D hD => lc_list (xs := us) (fun i H' => H' D = some (.lst ((((flats rs).take i).map Row.says).map V.bl)) ∧ Same H1 H') ⟨upd_same, same_new hD _⟩ (fun i H' _ p => p.2.seq (SqL.of eq)) ?_ ?_⟩⟩
  · intro i v H2 hi ⟨eD, k2⟩
    obtain ⟨r, hri, hrow⟩ := aU.at hi
    have hrok := oks_at (oks_flats hP.ok) hri
    have hrow2 := RowAt.mono (Same.kp (s1.trans k2)) r v hrow
    have fin : ∀ b : Bool, b = r.says → ∃ acc, H2 D = some (.lst acc) ∧ acc.length < sizeLine ∧ (upd H2 D (.lst (acc ++ [.bl b]))) D = some (.lst ((((flats rs).take (i + 1)).map Row.says).map V.bl)) ∧ Same H1 (upd H2 D (.lst (acc ++ [.bl b]))) := fun b hb => by
      refine ⟨_, eD, ?_, ?_, fun c o hc => ?_⟩
      · rw [List.length_map, List.length_map, List.length_take, flats_len, sizeLine_eq]
        have := hP.num
        omega
      · rw [upd_same, take_one hri, List.map_append, List.map_append, hb]
        all_goals rfl
      · rw [upd_ne (ne_of_none hc hD)]
        exact k2 c o hc
    refine ⟨rfl, yes (iteT ?_)⟩
    match r, hrok, hrow2, fin with
    | .lt to sg a b, hrok, ⟨p, h1, h2⟩, fin =>
      subst h1
      exact ⟨_, rfl, p, _, _, _, rfl, rfl, h2, atI_nat (j := 0) rfl, rfl, fin _ (show decide (V.str "let" = V.str "say") = false by decide +kernel)⟩
    | .sy a, hrok, ⟨p, h1, h2⟩, fin =>
      subst h1
      exact ⟨_, rfl, p, _, _, _, rfl, rfl, h2, atI_nat (j := 0) rfl, rfl, fin _ (decide_eq_true rfl)⟩
    | .bk kd ts qs, hrok, ⟨p, l2, zs, h1, h2, _⟩, fin =>
      subst h1
      exact ⟨_, rfl, p, _, _, _, rfl, rfl, h2, atI_nat (j := 0) rfl, rfl, fin _ (kd_say hrok.1)⟩
  · intro H2 ⟨eD, k2⟩
    refine ⟨D, _, rfl, SqL.of eD, ?_⟩
    rw [aU.len, List.take_length, any_of]
    exact k H2 (s1.trans k2)
end
end Lm
namespace Lm
open PySem L2
abbrev s_count : Stmt := topS 10
abbrev s_split : Stmt := topS 12
abbrev m_linit : Stmt := inClass (topS 11) 0
abbrev m_goes : Stmt := inClass (topS 11) 1
abbrev m_send : Stmt := inClass (topS 11) 2
abbrev m_keep : Stmt := inClass (topS 11) 3
/-- a method that lets nothing out, as its callers need it -/
structure Dm (P : Program) (w : World) (K : PySem.W.Frag) (mg : Str → Option Value) (base : Heap) (C : Addr) (m : Str) (k : Nat) (f : Addr) (fd : FuncData) (ps : List Str) (sp : Sp) : Prop where
  ok : FnOk P w K mg base CX0 k f fd ps sp
  me : Meth K C m f
  b : Binds K fd ps []
theorem pe_dm {X : Cx} {C : Addr} {m : Str} {k : Nat} {f : Addr} {fd : FuncData} {ps : List Str} {sp : Sp} {o e : Expr} {es : List Expr} {apos pos : Pos} {ta : TE} {t : TA} {pl : Sem Bool} (D : Dm X.prog X.w X.K X.mg X.base C m k f fd ps sp) (c : Cls X.K C) (hr : Room k X.A) (ho : PE X o ta) (ha : PA X (e :: es) t)
    (hst : starEach (e :: es) X.env = (false, eval e X.env) :: starEach es X.env := by rfl) (hpl : (backTo pos (starEach es X.env)).any (·.1) = false := by rfl)
    (ht : eval (.Call (.Attribute o m apos) (e :: es) [] pos) X.env = (do
      let ov ← eval o X.env
      standAt apos.atName
      let (f, first) ← holding [ov] (getMethod ov m pl)
      callWith pos f first (backTo pos (starEach (e :: es) X.env)) (backToKw pos (keywordEach [] X.env))) := by rfl) :
    PE X (.Call (.Attribute o m apos) (e :: es) [] pos) (tMeth C m sp [] E0 ta t) := pe_meth ho c D.me D.ok hr D.b .nil pass0 ha hst hpl ht
/-- the class of the top -/
structure Lk (K : PySem.W.Frag) (C : Addr) : Prop where
  cl : Cls K C
  nS : NoAttr K C "setters"
  nA : NoAttr K C "asked"
  nF : NoAttr K C "failing"
  nP : NoAttr K C "speaking"
/-- rows of a body -/
structure Bd (K : PySem.W.Frag) (Hc : Hp) (l : Addr) (ss : List Str) (rs : List Row) : Prop where
  at_ : RowsAt K Hc l rs
  ok : oks ss rs
  num : tots rs ≤ 10000
  few : ss.length ≤ 60
def spCount (K : PySem.W.Frag) : Sp := fun vs H Q _ => ∃ (l : Addr) (ss : List Str) (rs : List Row), vs = [.ref l] ∧ Bd K H l ss rs ∧ ∀ (H' : Hp) (g : Addr) (kvs : List (Key × V)) (ρ : Wh), H g = none → Same H H' → H' g = some (.dK kvs) → DV (.dK kvs) ρ (60 * rs.length) → (∀ x, (ρ x).getD 0 = (cnt rs x : Int)) → Q (.ref g) H'
def spLinit (K : PySem.W.Frag) (C : Addr) : Sp := fun vs H Q _ => ∃ (p dx l : Addr) (ss : List Str) (rs : List Row) (Hc : Hp), vs = [.ref p, .ref l] ∧ H p = some (.ins C dx []) ∧ Same Hc H ∧ Hc p = none ∧ Bd K Hc l ss rs ∧ rs.length ≤ 3000 ∧ ∀ (H' : Hp) (g d : Addr), LookAt C Hc H' p g d [] rs → Q .non H'
def spGoes (K : PySem.W.Frag) (C : Addr) : Sp := fun vs H Q _ => ∃ (p g d : Addr) (v : V) (Hc : Hp) (st be : List Row) (r : Row) (ss : List Str), vs = [.ref p, v] ∧ LookAt C Hc H p g d st (r :: be) ∧ RowAt K Hc r v ∧ r.ok ss ∧ r.tot ≤ 10000 ∧ ss.length ≤ 60 ∧
  (Goes st r be → ∀ H', Same H H' → Q (.bl true) H') ∧ (¬ Goes st r be → ∀ H', Same H H' → Q (.bl false) H')
def spSend (K : PySem.W.Frag) (C : Addr) : Sp := fun vs H Q _ => ∃ (p g d : Addr) (v : V) (Hc : Hp) (st be : List Row) (to sg : Str) (a b : Vl), vs = [.ref p, v] ∧ LookAt C Hc H p g d st (.lt to sg a b :: be) ∧ RowAt K Hc (.lt to sg a b) v ∧
  ∀ H', (∀ c o, H c = some o → c ≠ g → H' c = some o) → LookAt C Hc H' p g d st be → Q .non H'
def spKeep (K : PySem.W.Frag) (C : Addr) : Sp := fun vs H Q _ => ∃ (p g d : Addr) (v : V) (Hc : Hp) (st be : List Row) (r : Row) (ss : List Str), vs = [.ref p, v] ∧ LookAt C Hc H p g d st (r :: be) ∧ RowAt K Hc r v ∧ r.ok ss ∧ r.tot ≤ 10000 ∧ ss.length ≤ 60 ∧ st.length ≤ 3000 ∧
  ∀ H', (∀ c o, H c = some o → c ≠ p → c ≠ d → H' c = some o) → LookAt C Hc H' p g d (st ++ [r]) be → Q .non H'
theorem pg_one {K : PySem.W.Frag} {H : Hp} {L : Addr} {v : V} {r : Row} {ss : List Str} (e : H L = some (.lst [v])) (h : RowAt K H r v) (ok : r.ok ss) (n : r.tot ≤ 10000) (f : ss.length ≤ 60) : Pg K H L ss [r] := ⟨⟨[v], SqL.of e, AllAt.one h⟩, ⟨ok, True.intro⟩, n, f⟩
section
variable {P : Program} {w : World} {K : PySem.W.Frag} {mg : Str → Option Value} {base : Heap} {f C f1 f2 f3 : Addr} {fd d1 d2 d3 : FuncData}
theorem sc_count : FnScope ["body", "setters", "row", "name"] ["body"] (defScope s_count) := ⟨rfl, rfl, rfl, by decide +kernel, rfl, by decide +kernel, by decide +kernel⟩
theorem row_tot_le : ∀ {rs : List Row} {i : Nat} {r : Row}, rs[i]? = some r → r.tot ≤ tots rs
  | [], _, _, e => by cases e
  | q :: rs, 0, r, e => by
    cases e
    exact Nat.le_add_right _ _
  | q :: rs, i + 1, r, e => Nat.le_trans (row_tot_le (rs := rs) (by simpa using e)) (Nat.le_add_left _ _)
open Classical in
theorem ok_count (F : Fun K "count_setters" "count_setters" s_count f fd) (DS : Df P w K mg base "sets" 2 f1 d1 ["rows"] (spNamed K setN)) : FnOk P w K mg base CX0 3 f fd ["body"] (spCount K) := by
  refine F.ok sc_count (fun vs H Q E h => ?_) (fun cdv A outer s H vs Q E hr h => ?_)
  · obtain ⟨l, ss, rs, rfl, _⟩ := h
    rfl
  obtain ⟨l, ss, rs, rfl, ⟨⟨vs, eS, eA⟩, hok, hnum, hfew⟩, k⟩ := h
  have nd := sc_count.nd
  have hu := hu_of hr
  refine ⟨_, pss_cons (ps_set (i := 1) nd rfl (Or.inl rfl) pe_dnewK) <|
    pss_cons (ps_for PassesOwn.never rfl (pi_list (pv 0)) (pg_name (i := 2) nd rfl (Or.inl rfl))
      (pss_one (ps_for PassesOwn.never rfl (pi_list (pe_df DS hr (pa_cons (pe_lst (pa_cons (pv 2) pa_nil)) pa_nil))) (pg_name (i := 3) nd rfl (Or.inl rfl))
        (pss_one (ps_dput hu (pv 1) (pv 3) (pe_op op_add (pe_dget2 hu (pv 1) (pv 3) pe_int ⟨rfl, rfl, rfl, rfl⟩) pe_int) rfl))))) <|
    pss_one (ps_ret (pv 1)), ?_⟩
  intro g hg
  have s0 := same_new hg (.dK [])
  have hl := len_tots rs
  refine ⟨_, rfl, l, rfl, ⟨_, s0.seq eS⟩, for_list (K := K) (a := l) (xs := vs) (fun i σ H' => ∃ (v2 v3 : Option V) (kvs : List (Key × V)) (ρ : Wh), σ = [some (.ref l), some (.ref g), v2, v3] ∧ Same H H' ∧ H' g = some (.dK kvs) ∧ DV (.dK kvs) ρ (60 * i) ∧ ∀ x, (ρ x).getD 0 = (cnt (rs.take i) x : Int))
    ⟨none, none, [], _, rfl, s0, upd_same, DV.nil, fun x => rfl⟩ (fun i σ H' _ ⟨_, _, _, _, _, s1, _⟩ => s1.seq eS) ?_ ?_⟩
  · rintro i v σ H1 hi ⟨v2, v3, kvs, ρ, rfl, s1, eg, dv, hc⟩
    obtain ⟨r, hri, hrow⟩ := eA.at hi
    have hir : i < rs.length := (List.getElem?_eq_some_iff.mp hri).1
    refine ⟨_, rfl, (by show 1 ≤ sizeLine; decide), fun L hL => ?_⟩
    obtain ⟨H2, g2, s2, eL⟩ := newH hL (.lst [v])
    rw [g2]
    have s12 := s1.trans s2
    refine ⟨L, ss, [r], rfl, pg_one eL (RowAt.mono (Same.kp s12) r v hrow) (oks_at hok hri) (Nat.le_trans (row_tot_le hri) hnum) hfew, fun H3 q ys s3 hq eq so ndy mem => ?_⟩
    have s13 := s12.trans s3
    have eg3 := (s2.trans s3) _ _ eg
    have nqg : q ≠ g := ne_of eq eg3 (by intro z; cases z)
    have few : ys.length ≤ 60 := Nat.le_trans (nodup_le ndy fun x hx => setN_in' (oks_flats (rs := [r]) ⟨oks_at hok hri, True.intro⟩) ((mem x).mp hx)) hfew
    refine ⟨q, rfl, ⟨_, SqL.of eq⟩, for_list (K := K) (a := q) (xs := ys.map V.str) (fun j σ H' => ∃ (v3 : Option V) (kvs : List (Key × V)) (ρ : Wh), σ = [some (.ref l), some (.ref g), some v, v3] ∧ Same H H' ∧ H' q = some (.lst (ys.map V.str)) ∧ H' g = some (.dK kvs) ∧ DV (.dK kvs) ρ (60 * i + j) ∧ ∀ x, (ρ x).getD 0 = (cnt (rs.take i) x : Int) + (if x ∈ ys.take j then 1 else 0))
      ⟨v3, kvs, ρ, rfl, s13, eq, eg3, dv, fun x => by rw [hc x]; simp⟩ (fun j σ H' _ ⟨_, _, _, _, _, e, _⟩ => SqL.of e) ?_ ?_⟩
    · rintro j y σ H4 hj ⟨v3', kvs', ρ', rfl, s4, eq4, eg4, dv4, hc4⟩
      obtain ⟨z, hz, rfl⟩ : ∃ z, ys[j]? = some z ∧ y = V.str z := by
        rw [List.getElem?_map] at hj
        cases e : ys[j]? with
        | none => rw [e] at hj; cases hj
        | some z => rw [e] at hj; exact ⟨z, rfl, (Option.some.inj hj).symm⟩
      have hjl : j < ys.length := (List.getElem?_eq_some_iff.mp hz).1
      refine ⟨_, rfl, g, rfl, .inl ⟨kvs', .inl eg4⟩, _, rfl, _, DGet.k (k := Sum.inr z) eg4, ?_⟩
      rw [dv4.get z]
      have f4 := dv4.few
      refine ⟨_, _, rfl, rfl, _, rfl, _, rfl, g, _, rfl, DPut.k (k := Sum.inr z) eg4 (by rw [sizeLine_eq]; omega), ?_⟩
      have nz : z ∉ ys.take j := fun hm => by
        have e1 := List.take_append_drop j ys
        have e2 : ys.drop j = z :: ys.drop (j + 1) := by
          obtain ⟨h5, h6⟩ := List.getElem?_eq_some_iff.mp hz
          rw [List.drop_eq_getElem_cons h5, h6]
        rw [← e1, e2, List.nodup_append] at ndy
        exact ndy.2.2 z hm z List.mem_cons_self rfl
      refine ⟨_, _, _, rfl, fun b o hb => by rw [upd_ne (ne_of_none hb hg)]; exact s4 b o hb, by rw [upd_ne nqg]; exact eq4, upd_same, dv4.put z _, fun x => ?_⟩
      rw [take_one hz]
      unfold Wh.set
      by_cases c : x = z
      · subst c
        rw [if_pos rfl, if_pos (List.mem_append_right _ (List.mem_singleton.mpr rfl))]
        show (ρ' x).getD 0 + 1 = _
        rw [hc4 x, if_neg nz]
        omega
      · rw [if_neg c, hc4 x]
        by_cases c2 : x ∈ ys.take j
        · rw [if_pos c2, if_pos (List.mem_append_left _ c2)]
        · rw [if_neg c2, if_neg (fun h => (List.mem_append.mp h).elim c2 fun h => c (List.mem_singleton.mp h))]
    · rintro σ H4 ⟨v3', kvs', ρ', rfl, s4, eq4, eg4, dv4, hc4⟩
      rw [List.length_map] at dv4 hc4
      refine ⟨_, _, kvs', ρ', rfl, s4, eg4, dv4.more (by omega), fun x => ?_⟩
      rw [hc4 x, List.take_length, take_one hri, cnt_one]
      by_cases c : x ∈ ys
      · have := (mem x).mp c
        rw [flats_one] at this
        rw [if_pos c, if_pos this]
        push_cast
        rfl
      · have : ¬ setN r.flat x := fun h => c ((mem x).mpr (by rw [flats_one]; exact h))
        rw [if_neg c, if_neg this]
        push_cast
        rfl
  · rintro σ H1 ⟨v2, v3, kvs, ρ, rfl, s1, eg, dv, hc⟩
    rw [eA.len] at dv hc
    rw [List.take_length] at hc
    exact ⟨_, rfl, k H1 g kvs ρ hg s1 eg dv hc⟩
end
end Lm
namespace Lm
open PySem L2
theorem dkv_some {ks : List Key} {k : Key} : (valV (dkv ks) k).isSome = true ↔ k ∈ ks := by
  cases e : valV (dkv ks) k with
  | none =>
    have h := valV_not e
    rw [dkv_keys] at h
    exact ⟨fun z => (by cases z), fun z => absurd z h⟩
  | some v =>
    have h := valV_in e
    rw [dkv_keys] at h
    exact ⟨fun _ => h, fun _ => rfl⟩
section
variable {P : Program} {w : World} {K : PySem.W.Frag} {mg : Str → Option Value} {base : Heap} {f C f1 f2 f3 : Addr} {fd d1 d2 d3 : FuncData}
theorem sc_linit : FnScope ["self", "body"] ["self", "body"] (defScope m_linit) := ⟨rfl, rfl, rfl, by decide +kernel, rfl, by decide +kernel, by decide +kernel⟩
theorem ok_linit (F : Fun K "__init__" "Look.__init__" m_linit f fd) (T : Lk K C) (DC : Df P w K mg base "count_setters" 3 f1 d1 ["body"] (spCount K)) : FnOk P w K mg base CX0 4 f fd ["self", "body"] (spLinit K C) := by
  refine F.ok sc_linit (fun vs H Q E h => ?_) (fun cdv A outer s H vs Q E hr h => ?_)
  · obtain ⟨p, dx, l, ss, rs, Hc, rfl, _⟩ := h
    rfl
  obtain ⟨p, dx, l, ss, rs, Hc, rfl, hp, hc, hcp, hB, hlen, k⟩ := h
  refine ⟨_, pss_cons (ps_fld (pv 0) (pe_df DC hr (pa_cons (pv 1) pa_nil)) rfl) <|
    pss_cons (ps_fld (pv 0) pe_dnewK rfl) <|
    pss_cons (ps_fld (pv 0) pe_bl rfl) <|
    pss_one (ps_fld (pv 0) pe_bl rfl), ?_⟩
  refine ⟨_, rfl, l, ss, rs, rfl, ⟨hB.at_.mono (Same.kp hc), hB.ok, hB.num, hB.few⟩, fun H1 g kvs ρ hg s1 eg dv hcn => ?_⟩
  have npg : p ≠ g := ne_of_none hp hg
  refine ⟨_, rfl, p, C, dx, _, rfl, s1 _ _ hp, T.cl, T.nS, (by show 0 < 1000; decide), ?_⟩
  intro d hd
  have npd : p ≠ d := ne_of_none upd_same hd
  have hd1 : H1 d = none := by rw [upd_ne npd.symm] at hd; exact hd
  have ngd : g ≠ d := ne_of_none eg hd1
  have hcd : Hc d = none := hc.free (s1.free hd1)
  refine ⟨_, rfl, p, C, dx, _, rfl, (by rw [upd_ne npd]; exact upd_same), T.cl, T.nA, (by show 1 < 1000; decide), ?_⟩
  refine ⟨_, rfl, p, C, dx, _, rfl, upd_same, T.cl, T.nF, (by (repeat (first | rw [put_end] | rw [put_next (by decide +kernel)])); show 2 < 1000; decide), ?_⟩
  refine ⟨_, rfl, p, C, dx, _, rfl, upd_same, T.cl, T.nP, (by (repeat (first | rw [put_end] | rw [put_next (by decide +kernel)])); show 3 < 1000; decide), ?_⟩
  have hfew := dv.few
  refine k _ g d ⟨⟨dx, by rw [upd_same, lf_made]; rfl⟩, ngd, ⟨kvs, ρ, ?_, dv.more (by omega), by omega, fun x => hcn x⟩, ⟨[], ?_, List.nodup_nil, Nat.zero_le _, (fun _ h => by cases h), fun x => ⟨fun h => (by cases h), fun ⟨r, h, _⟩ => (by cases h)⟩⟩, fun b o hb => ?_, hcp, hc.free hg, hcd⟩
  · rw [upd_ne npg.symm, upd_ne npg.symm, upd_ne npg.symm, upd_ne ngd, upd_ne npg.symm]
    exact eg
  · rw [upd_ne npd.symm, upd_ne npd.symm, upd_ne npd.symm, upd_same]
    rfl
  · have hbp := ne_of_none hb hcp
    rw [upd_ne hbp, upd_ne hbp, upd_ne hbp, upd_ne (ne_of_none hb hcd), upd_ne hbp]
    exact s1 b o (hc b o hb)
abbrev nGoes : List Str := ["self", "row", "to", "name"]
theorem sc_goes : FnScope nGoes ["self", "row"] (defScope m_goes) := ⟨rfl, rfl, rfl, by decide +kernel, rfl, by decide +kernel, by decide +kernel⟩
theorem ok_goes (F : Fun K "goes_ahead" "Look.goes_ahead" m_goes f fd) (T : Lk K C) (B : Bn mg) (DM : Df P w K mg base "may_fail" 2 f1 d1 ["rows"] (spSome K Row.fails)) (DR : Df P w K mg base "reads" 2 f2 d2 ["rows"] (spNamed K askN)) : FnOk P w K mg base CX0 3 f fd ["self", "row"] (spGoes K C) := by
  refine F.ok sc_goes (fun vs H Q E h => ?_) (fun cdv A outer s H vs Q E hr h => ?_)
  · obtain ⟨p, g, d, v, Hc, st, be, r, ss, rfl, _⟩ := h
    rfl
  obtain ⟨p, g, d, v, Hc, st, be, r, ss, rfl, hL, hR, hok, htot, hfew, k1, k2⟩ := h
  have nd := sc_goes.nd
  have hu := hu_of hr
  refine ⟨_, pss_cons (ps_if (PW.pt (pw_or (pt_cmpR op_ne (pe_ix ix_tup (pv 1) pe_int (fun _ _ => rfl)) pe_str (nomark _)) (pw_or1 (pt_val (pe_fld (pv 0) rfl))))) (pss_one (ps_ret pe_bl)) pss_nil) <|
    C8.pss_cut (ps_if (PW.pt (pw_and (pt_val (pe_fld (pv 0) rfl)) (pw_and1 (pt_val (pe_df DM hr (pa_cons (pe_lst (pa_cons (pv 1) pa_nil)) pa_nil)))))) (pss_one (ps_ret pe_bl)) pss_nil) <|
    pss_cons (ps_set (i := 2) nd rfl (Or.inl rfl) (pe_ix ix_tup (pv 1) pe_int (fun _ _ => rfl))) <|
    pss_cons (ps_if (PW.pt (pw_or (pt_cmpR op_gt (pe_dget hu (pe_fld (pv 0) rfl) (pv 2) (fun _ _ => rfl)) pe_int (nomark _)) (pw_or1 (pt_cmp (pc_din hu (pv 2) (pe_fld (pv 0) rfl)))))) (pss_one (ps_ret pe_bl)) pss_nil) <|
    pss_one (ps_ret (pe_callB (cr_all rfl) rfl B.all (by decide +kernel) (pa_cons (pe_lc (own := [("name", 3)]) (g := gName 3) rfl nd (pi_list (pe_df DR hr (pa_cons (pe_lst (pa_cons (pv 1) pa_nil)) pa_nil)))
      (blkOk_by (N := nGoes) (sc := defScope m_goes) (by decide +kernel)) (fun _ _ _ _ _ => pg_name (i := 3) nd rfl (Or.inl rfl)) (fun _ _ _ _ _ => pts_nil)
      (fun _ _ _ _ _ => pe_cmpR op_eq (pe_dget2 hu (show PE _ _ (tFld K (tVar 0) "setters") from pe_fld (pv 0) rfl) (pv 3) pe_int ⟨rfl, rfl, rfl, rfl⟩) pe_int (nomark _))) pa_nil))), ?_⟩
  obtain ⟨dx, h1⟩ := hL.ob
  match r, hR, hok, htot, hL, k1, k2 with
  | .sy a, ⟨u, e1, e2⟩, hok, htot, hL, k1, k2 =>
    subst e1
    have hT := Kp.sqT (Same.kp hL.cl) e2
    refine ⟨_, rfl, u, _, _, _, rfl, rfl, hT, atI_nat (j := 0) rfl, rfl, _, rfl, ifT (by decide +kernel) (iteT ?_)⟩
    exact k2 (fun ⟨to, sg, x, y, z, _⟩ => Row.noConfusion z) H (Same.refl H)
  | .bk kd ts qs, ⟨u, l2, zs, e1, e2, _⟩, hok, htot, hL, k1, k2 =>
    subst e1
    have hT := Kp.sqT (Same.kp hL.cl) e2
    refine ⟨_, rfl, u, _, _, _, rfl, rfl, hT, atI_nat (j := 0) rfl, rfl, _, rfl, ifT (by rw [kd_let hok.1]; rfl) (iteT ?_)⟩
    exact k2 (fun ⟨to, sg, x, y, z, _⟩ => Row.noConfusion z) H (Same.refl H)
  | .lt to sg a b, ⟨u, e1, e2⟩, hok, htot, hL, k1, k2 =>
    subst e1
    have hT := Kp.sqT (Same.kp hL.cl) e2
    refine ⟨_, rfl, u, _, _, _, rfl, rfl, hT, atI_nat (j := 0) rfl, rfl, _, rfl, iteNS rfl ?_⟩
    refine ⟨_, rfl, p, C, dx, _, _, rfl, h1, T.cl, T.nF, lf_failing _ _ _ _, _, rfl, ?_⟩
    by_cases c1 : (flats st).any Row.fails = true
    · refine ifT c1 (k2 (fun ⟨to', sg', x, y, z, g1, _⟩ => by rw [c1] at g1; cases g1) H (Same.refl H))
    have c1' : (flats st).any Row.fails = false := Bool.eq_false_iff.mpr c1
    refine ifF c1' ?_
    have only : ∀ {to' sg' : Str} {x y : Vl}, Row.lt to sg a b = .lt to' sg' x y → to' = to := fun e => by cases e; rfl
    have fone : (flats [Row.lt to sg a b]).any Row.fails = (Row.lt to sg a b).fails := by
      rw [flats_one]
      show ((Row.lt to sg a b).fails || false) = _
      rw [Bool.or_false]
    refine ⟨fun σ H' => σ = [some (.ref p), some (.ref u), none, none] ∧ Same H H' ∧ ((Row.lt to sg a b).fails = true → (flats st).any Row.says = false), ?_, ?_⟩
    · refine ⟨_, rfl, p, C, dx, _, _, rfl, h1, T.cl, T.nP, lf_speaking _ _ _ _, _, rfl, ?_⟩
      by_cases c2 : (flats st).any Row.says = true
      · refine ifT c2 ⟨_, rfl, (by show 1 ≤ sizeLine; decide), fun L hL1 => ?_⟩
        obtain ⟨H2, g2, s2, eL⟩ := newH hL1 (.lst [.ref u])
        rw [g2]
        refine ⟨L, ss, [.lt to sg a b], rfl, pg_one eL ⟨u, rfl, Kp.sqT (Same.kp s2) hT⟩ hok htot hfew, fun H3 s3 => ⟨_, rfl, ?_⟩⟩
        rw [fone]
        by_cases c3 : (Row.lt to sg a b).fails = true
        · refine ifT c3 (k2 (fun ⟨to', sg', x, y, z, g1, g3, _⟩ => ?_) H3 (s2.trans s3))
          have := g3 c3
          rw [c2] at this
          cases this
        · exact ifF (Bool.eq_false_iff.mpr c3) ⟨rfl, s2.trans s3, fun z => absurd z c3⟩
      · have c2' := Bool.eq_false_iff.mpr c2
        exact ifF c2' (iteF ⟨rfl, Same.refl H, fun _ => c2'⟩)
    rintro σ H1 ⟨rfl, s1, hsay⟩
    have hL1 := hL.same s1
    have hT1 := Kp.sqT (Same.kp s1) hT
    obtain ⟨dx1, h2⟩ := hL1.ob
    obtain ⟨kvs, ρ, eg, dv, hkl, hcn⟩ := hL1.sg
    obtain ⟨ks, ed, knd, klen, kin, kmem⟩ := hL1.ask
    have ct : (ρ to).getD 0 = ((cnt st to + 1 + cnt be to : Nat) : Int) := by rw [hcn to, cnt_let, if_pos rfl]
    obtain ⟨c0, hc0⟩ : ∃ c0, ρ to = some c0 := by
      cases e : ρ to with
      | none => rw [e] at ct; have : (0 : Int) = ((cnt st to + 1 + cnt be to : Nat) : Int) := ct; omega
      | some c0 => exact ⟨c0, rfl⟩
    have hc1 : c0 = ((cnt st to + 1 + cnt be to : Nat) : Int) := by rw [hc0] at ct; exact ct
    have gs := DGet.k (k := Sum.inr to) eg
    obtain ⟨kvs', ek, _, _, hv, _⟩ := dv.ex
    cases ek
    rw [hv to, hc0] at gs
    refine ⟨_, rfl, u, _, _, _, rfl, rfl, hT1, atI_nat (j := 1) rfl, ?_⟩
    refine ⟨_, rfl, p, C, dx1, _, _, rfl, h2, T.cl, T.nS, lf_setters _ _ _ _, _, rfl, g, _, rfl, gs, _, _, rfl, rfl, _, rfl, ?_⟩
    have nset : ¬ (setN (flats st) to ∨ setN (flats be) to) ↔ c0 = 1 := by
      rw [not_or, ← cnt_zero, ← cnt_zero]
      omega
    by_cases c2 : c0 > 1
    · refine ifT (decide_eq_true c2) (iteT (k2 (fun ⟨to', sg', x, y, z, g1, g3, g4, g5, _⟩ => ?_) H1 s1))
      have e := only z
      subst e
      have := nset.mp (fun h => h.elim g4 g5)
      omega
    have c3 : c0 = 1 := by omega
    refine ifF (decide_eq_false c2) ?_
    refine ⟨_, rfl, _, rfl, p, C, dx1, _, _, rfl, h2, T.cl, T.nA, lf_asked _ _ _ _, d, _, rfl, DGet.k (k := Sum.inr to) ed, _, rfl, ?_⟩
    by_cases c4 : (valV (dkv ks) (Sum.inr to)).isSome = true
    · refine ifT c4 (k2 (fun ⟨to', sg', x, y, z, g1, g3, g4, g5, g6, _⟩ => ?_) H1 s1)
      have e := only z
      subst e
      exact g6 ((kmem to').mp (dkv_some.mp c4))
    have nask : ¬ askN (flats st) to := fun h => c4 (dkv_some.mpr ((kmem to).mpr h))
    refine ifF (Bool.eq_false_iff.mpr c4) ?_
    refine ⟨_, rfl, (by show 1 ≤ sizeLine; decide), fun L hL2 => ?_⟩
    obtain ⟨H2, g2, s2, eL⟩ := newH hL2 (.lst [.ref u])
    rw [g2]
    refine ⟨L, ss, [.lt to sg a b], rfl, pg_one eL ⟨u, rfl, Kp.sqT (Same.kp s2) hT1⟩ hok htot hfew, fun H3 q ys s3 hq eq so ndy mem => ?_⟩
    have s13 := s2.trans s3
    refine ⟨q, rfl, ⟨_, SqL.of eq⟩, fun D hD => lc_list (xs := ys.map V.str) (fun i H' => H' D = some (.lst (((ys.take i).map fun x => decide ((ρ x).getD 0 = 0)).map V.bl)) ∧ Same H3 H') ⟨upd_same, same_new hD _⟩ (fun i H' _ p => p.2.seq (SqL.of eq)) ?_ ?_⟩
    · intro i y H4 hi ⟨eD, s4⟩
      obtain ⟨z, hz, rfl⟩ : ∃ z, ys[i]? = some z ∧ y = V.str z := by
        rw [List.getElem?_map] at hi
        cases e : ys[i]? with
        | none => rw [e] at hi; cases hi
        | some z => rw [e] at hi; exact ⟨z, rfl, (Option.some.inj hi).symm⟩
      have few : ys.length ≤ 60 := Nat.le_trans (nodup_le ndy fun x hx => askN_in' (oks_flats (rs := [.lt to sg a b]) ⟨hok, True.intro⟩) ((mem x).mp hx)) hfew
      have eg4 := (s13.trans s4) _ _ eg
      refine ⟨rfl, yes (iteT ?_)⟩
      refine ⟨_, rfl, p, C, dx1, _, _, rfl, (s13.trans s4) _ _ h2, T.cl, T.nS, lf_setters _ _ _ _, g, rfl, .inl ⟨kvs, .inl eg4⟩, _, rfl, _, DGet.k (k := Sum.inr z) eg4, ?_⟩
      rw [dv.get z]
      refine ⟨rfl, ?_⟩
      refine ⟨_, eD, ?_, ?_, fun c o hc => ?_⟩
      · rw [List.length_map, List.length_map, List.length_take, sizeLine_eq]
        omega
      · rw [upd_same, take_one hz, List.map_append, List.map_append]
        have e : decide (V.int ((ρ z).getD 0) = V.int 0) = decide ((ρ z).getD 0 = 0) := by
          by_cases h : (ρ z).getD 0 = 0
          · rw [h]; rfl
          · rw [decide_eq_false h, decide_eq_false (fun y => h (V.int.inj y))]
        rw [e]
        rfl
      · rw [upd_ne (ne_of_none hc hD)]
        exact s4 c o hc
    · intro H4 ⟨eD, s4⟩
      refine ⟨D, _, rfl, SqL.of eD, ?_⟩
      have s14 := s1.trans (s13.trans s4)
      rw [List.length_map, List.take_length]
      have ask1 : ∀ x, x ∈ ys ↔ V.str x ∈ (Row.lt to sg a b).asks := fun x => by
        rw [mem x, flats_one]
        show askN [Row.lt to sg a b] x ↔ _
        unfold askN
        simp
      have zero : ∀ x, (ρ x).getD 0 = 0 ↔ (x ≠ to ∧ ¬ setN (flats st) x ∧ ¬ setN (flats be) x) := fun x => by
        rw [hcn x, cnt_let, ← cnt_zero, ← cnt_zero]
        by_cases h : x = to
        · rw [if_pos h]
          exact ⟨fun z => by omega, fun z => absurd h z.1⟩
        · rw [if_neg h]
          exact ⟨fun z => ⟨h, by omega, by omega⟩, fun z => by omega⟩
      by_cases c5 : ∀ x, V.str x ∈ (Row.lt to sg a b).asks → x ≠ to ∧ ¬ setN (flats st) x ∧ ¬ setN (flats be) x
      · have e : (ys.map fun x => decide ((ρ x).getD 0 = 0)).all id = true := by
          rw [List.all_map, List.all_eq_true]
          exact fun x hx => decide_eq_true ((zero x).mpr (c5 x ((ask1 x).mp hx)))
        rw [e]
        have ns := nset.mpr c3
        exact k1 ⟨to, sg, a, b, rfl, c1', hsay, fun h => ns (.inl h), fun h => ns (.inr h), nask, c5⟩ H4 s14
      · have e : (ys.map fun x => decide ((ρ x).getD 0 = 0)).all id = false := by
          rw [Bool.eq_false_iff]
          intro h
          rw [List.all_map, List.all_eq_true] at h
          exact c5 fun x hx => (zero x).mp (of_decide_eq_true (h x ((ask1 x).mpr hx)))
        rw [e]
        refine k2 (fun ⟨to', sg', x, y, z, g1, g3, g4, g5, g6, g7⟩ => c5 ?_) H4 s14
        have e := only z
        subst e
        exact g7
end
end Lm
namespace Lm
open PySem L2
section
variable {P : Program} {w : World} {K : PySem.W.Frag} {mg : Str → Option Value} {base : Heap} {f C f1 f2 f3 f4 : Addr} {fd d1 d2 d3 d4 : FuncData}
theorem sc_send : FnScope ["self", "row"] ["self", "row"] (defScope m_send) := ⟨rfl, rfl, rfl, by decide +kernel, rfl, by decide +kernel, by decide +kernel⟩
theorem ok_send (F : Fun K "send_ahead" "Look.send_ahead" m_send f fd) (T : Lk K C) : FnOk P w K mg base CX0 1 f fd ["self", "row"] (spSend K C) := by
  refine F.ok sc_send (fun vs H Q E h => ?_) (fun cdv A outer s H vs Q E hr h => ?_)
  · obtain ⟨p, g, d, v, Hc, st, be, to, sg, a, b, rfl, _⟩ := h
    rfl
  obtain ⟨p, g, d, v, Hc, st, be, to, sg, a, b, rfl, hL, ⟨u, e1, e2⟩, k⟩ := h
  subst e1
  have hu := hu_of hr
  refine ⟨_, pss_one (ps_daug hu (pe_fld (pv 0) rfl) (pe_ix ix_tup (pv 1) pe_int (fun _ _ => rfl)) pe_int in_sub (fun _ _ _ => rfl)), ?_⟩
  obtain ⟨n1, n2, n3⟩ := hL.ne
  obtain ⟨dx, h1⟩ := hL.ob
  obtain ⟨kvs, ρ, eg, dv, hkl, hcn⟩ := hL.sg
  obtain ⟨ks, ed, knd, klen, kin, kmem⟩ := hL.ask
  have hT := Kp.sqT (Same.kp hL.cl) e2
  have ct : (ρ to).getD 0 = ((cnt st to + 1 + cnt be to : Nat) : Int) := by rw [hcn to, cnt_let, if_pos rfl]
  obtain ⟨c0, hc0⟩ : ∃ c0, ρ to = some c0 := by
    cases e : ρ to with
    | none => rw [e] at ct; have : (0 : Int) = ((cnt st to + 1 + cnt be to : Nat) : Int) := ct; omega
    | some c0 => exact ⟨c0, rfl⟩
  have hc1 : c0 = ((cnt st to + 1 + cnt be to : Nat) : Int) := by rw [hc0] at ct; exact ct
  have gs := DGet.k (k := Sum.inr to) eg
  obtain ⟨kvs', ek, _, _, hv, _⟩ := dv.ex
  cases ek
  rw [hv to, hc0] at gs
  have hbe : (Row.lt to sg a b :: be).length = be.length + 1 := rfl
  refine ⟨_, rfl, p, C, dx, _, _, rfl, h1, T.cl, T.nS, lf_setters _ _ _ _, _, rfl, u, _, _, _, rfl, rfl, hT, atI_nat (j := 1) rfl, g, _, rfl, gs, _, _, rfl, rfl, _, DPut.k (k := Sum.inr to) eg (by rw [sizeLine_eq]; omega), ?_⟩
  have hpl := length_putK kvs (Sum.inr to) (V.int (c0 - 1))
  refine k _ (fun c o hc hn => by rw [upd_ne hn]; exact hc) ⟨⟨dx, by rw [upd_ne n1]; exact h1⟩, hL.ngd, ⟨_, _, upd_same, (dv.tight.put to (c0 - 1)).more (by omega), by omega, fun x => ?_⟩, ⟨ks, by rw [upd_ne n3.symm]; exact ed, knd, klen, kin, kmem⟩, same_put hL.cl hL.cg _, hL.cp, hL.cg, hL.cd⟩
  unfold Wh.set
  by_cases c : x = to
  · subst c
    rw [if_pos rfl, cnt_app]
    show c0 - 1 = _
    omega
  · rw [if_neg c, hcn x, cnt_let, if_neg c, cnt_app, Nat.add_zero]
theorem sc_keep : FnScope ["self", "row", "name"] ["self", "row"] (defScope m_keep) := ⟨rfl, rfl, rfl, by decide +kernel, rfl, by decide +kernel, by decide +kernel⟩
theorem ok_keep (F : Fun K "keep" "Look.keep" m_keep f fd) (T : Lk K C) (DR : Df P w K mg base "reads" 2 f1 d1 ["rows"] (spNamed K askN)) (DM : Df P w K mg base "may_fail" 2 f2 d2 ["rows"] (spSome K Row.fails)) (DS : Df P w K mg base "speaks" 2 f3 d3 ["rows"] (spSome K Row.says)) : FnOk P w K mg base CX0 3 f fd ["self", "row"] (spKeep K C) := by
  refine F.ok sc_keep (fun vs H Q E h => ?_) (fun cdv A outer s H vs Q E hr h => ?_)
  · obtain ⟨p, g, d, v, Hc, st, be, r, ss, rfl, _⟩ := h
    rfl
  obtain ⟨p, g, d, v, Hc, st, be, r, ss, rfl, hL, hR, hok, htot, hfew, hstl, k⟩ := h
  have nd := sc_keep.nd
  have hu := hu_of hr
  refine ⟨_, pss_cons (ps_for PassesOwn.never rfl (pi_list (pe_df DR hr (pa_cons (pe_lst (pa_cons (pv 1) pa_nil)) pa_nil))) (pg_name (i := 2) nd rfl (Or.inl rfl)) (pss_one (ps_dput hu (pe_fld (pv 0) rfl) (pv 2) pe_bl rfl))) <|
    C8.pss_cut (ps_fld (pv 0) (pe_or (pe_fld (pv 0) rfl) (pe_one (pe_df DM hr (pa_cons (pe_lst (pa_cons (pv 1) pa_nil)) pa_nil)))) rfl) <|
    pss_one (ps_fld (pv 0) (pe_or (pe_fld (pv 0) rfl) (pe_one (pe_df DS hr (pa_cons (pe_lst (pa_cons (pv 1) pa_nil)) pa_nil)))) rfl), ?_⟩
  obtain ⟨n1, n2, n3⟩ := hL.ne
  obtain ⟨dx, h1⟩ := hL.ob
  obtain ⟨kvs, ρ, eg, dv, hkl, hcn⟩ := hL.sg
  obtain ⟨ks, ed, knd, klen, kin, kmem⟩ := hL.ask
  have hR0 := RowAt.mono (Same.kp hL.cl) r v hR
  refine ⟨_, rfl, (by show 1 ≤ sizeLine; decide), fun L hL0 => ?_⟩
  obtain ⟨H1, g1, s1, eL⟩ := newH hL0 (.lst [v])
  rw [g1]
  refine ⟨L, ss, [r], rfl, pg_one eL (RowAt.mono (Same.kp s1) r v hR0) hok htot hfew, fun H2 q ys s2 hq eq so ndy mem => ?_⟩
  have s12 := s1.trans s2
  have few : ys.length ≤ 60 := Nat.le_trans (nodup_le ndy fun x hx => askN_in' (oks_flats (rs := [r]) ⟨hok, True.intro⟩) ((mem x).mp hx)) hfew
  have ed2 := s12 _ _ ed
  have nqd : q ≠ d := ne_of eq ed2 (by intro z; cases z)
  -- what stood stands, but for d
  refine ⟨q, rfl, ⟨_, SqL.of eq⟩, for_list (K := K) (a := q) (xs := ys.map V.str) (fun j σ H' => ∃ (v2 : Option V) (ms : List Key), σ = [some (.ref p), some v, v2] ∧ (∀ c o, H2 c = some o → c ≠ d → H' c = some o) ∧ H' d = some (.dK (dkv ms)) ∧ ms.Nodup ∧ ms.length ≤ ks.length + j ∧ (∀ k ∈ ms, ∃ x, k = Sum.inr x) ∧ ∀ x, Sum.inr x ∈ ms ↔ Sum.inr x ∈ ks ∨ x ∈ ys.take j)
    ⟨none, ks, rfl, fun c o hc _ => hc, ed2, knd, Nat.le_refl _, kin, fun x => by simp⟩ (fun j σ H' _ ⟨_, _, _, e, _⟩ => SqL.of (e _ _ eq nqd)) ?_ ?_⟩
  · rintro j y σ H3 hj ⟨v2, ms, rfl, f3, ed3, m1, m2, m3, m4⟩
    obtain ⟨z, hz, rfl⟩ : ∃ z, ys[j]? = some z ∧ y = V.str z := by
      rw [List.getElem?_map] at hj
      cases e : ys[j]? with
      | none => rw [e] at hj; cases hj
      | some z => rw [e] at hj; exact ⟨z, rfl, (Option.some.inj hj).symm⟩
    have hjl : j < ys.length := (List.getElem?_eq_some_iff.mp hz).1
    obtain ⟨m', p1, p2, p3, p4⟩ := dkv_put ms (Sum.inr z)
    have hdl : (dkv ms).length < sizeLine := by
      unfold dkv
      rw [List.length_map, sizeLine_eq]
      omega
    refine ⟨_, rfl, p, C, dx, _, _, rfl, f3 _ _ (s12 _ _ h1) n2, T.cl, T.nA, lf_asked _ _ _ _, _, rfl, d, _, rfl, DPut.k (k := Sum.inr z) ed3 hdl, ?_⟩
    rw [p1]
    refine ⟨_, m', rfl, fun c o hc hn => by rw [upd_ne hn]; exact f3 c o hc hn, upd_same, p2 m1, by omega, fun k hk => ?_, fun x => ?_⟩
    · rcases (p3 k).mp hk with h | h
      · exact m3 k h
      · exact ⟨z, h⟩
    · rw [p3, m4, take_one hz, List.mem_append, List.mem_singleton, or_assoc]
      exact or_congr Iff.rfl (or_congr Iff.rfl ⟨Sum.inr.inj, fun h => by rw [h]⟩)
  rintro σ H3 ⟨v2, ms, rfl, f3, ed3, m1, m2, m3, m4⟩
  rw [List.length_map] at m2 m4
  rw [List.take_length] at m4
  have sB : Same Hc H3 := fun c o hc => f3 c o (s12 _ _ (hL.cl _ _ hc)) (ne_of_none hc hL.cd)
  have h3 := f3 _ _ (s12 _ _ h1) n2
  have eg3 := f3 _ _ (s12 _ _ eg) n3
  have hR3 := RowAt.mono (Same.kp sB) r v hR
  have fone : (flats [r]).any Row.fails = r.flat.any Row.fails := by rw [flats_one]
  have sone : (flats [r]).any Row.says = r.flat.any Row.says := by rw [flats_one]
  refine ⟨fun σ H' => σ = [some (.ref p), some v, v2] ∧ (∀ c o, H3 c = some o → c ≠ p → H' c = some o) ∧ H' p = some (.ins C dx (lf g d ((flats st).any Row.fails || r.flat.any Row.fails) ((flats st).any Row.says))), ?_, ?_⟩
  · refine ⟨_, rfl, p, C, dx, _, _, rfl, h3, T.cl, T.nF, lf_failing _ _ _ _, _, rfl, ?_⟩
    by_cases c : (flats st).any Row.fails = true
    · refine ifT c ⟨_, rfl, p, C, dx, _, rfl, h3, T.cl, T.nF, lf_len _ _ _ _, ?_⟩
      exact ⟨rfl, fun c o hc hn => by rw [upd_ne hn]; exact hc, by rw [upd_same, lf_put_f, c]; rfl⟩
    · have c' := Bool.eq_false_iff.mpr c
      refine ifF c' ⟨_, rfl, (by show 1 ≤ sizeLine; decide), fun L2 hL2 => ?_⟩
      obtain ⟨H4, g4, s4, eL2⟩ := newH hL2 (.lst [v])
      rw [g4]
      refine ⟨L2, ss, [r], rfl, pg_one eL2 (RowAt.mono (Same.kp s4) r v hR3) hok htot hfew, fun H5 s5 => ?_⟩
      refine ⟨_, rfl, p, C, dx, _, rfl, (s4.trans s5) _ _ h3, T.cl, T.nF, lf_len _ _ _ _, ?_⟩
      exact ⟨rfl, fun c o hc hn => by rw [upd_ne hn]; exact (s4.trans s5) c o hc, by rw [upd_same, lf_put_f, fone, c']; rfl⟩
  rintro σ H4 ⟨rfl, f4, h4⟩
  have sB4 : Same Hc H4 := fun c o hc => f4 c o (sB c o hc) (ne_of_none hc hL.cp)
  have hR4 := RowAt.mono (Same.kp sB4) r v hR
  have fin : ∀ (H5 : Hp), (∀ c o, H4 c = some o → c ≠ p → H5 c = some o) → H5 p = some (.ins C dx (lf g d ((flats st).any Row.fails || r.flat.any Row.fails) ((flats st).any Row.says || r.flat.any Row.says))) → Q .non H5 := fun H5 f5 h5 => by
    have eall : ∀ pr : Row → Bool, (flats (st ++ [r])).any pr = ((flats st).any pr || r.flat.any pr) := fun pr => by rw [flats_app, flats_one, List.any_append]
    refine k H5 (fun c o hc n1' n2' => f5 c o (f4 c o (f3 c o (s12 c o hc) n2') n1') n1') ⟨⟨dx, by rw [h5, eall, eall]⟩, hL.ngd, ⟨kvs, ρ, f5 _ _ (f4 _ _ eg3 n1.symm) n1.symm, dv, ?_, fun x => ?_⟩, ⟨ms, f5 _ _ (f4 _ _ ed3 n2.symm) n2.symm, m1, ?_, m3, fun x => ?_⟩, fun c o hc => f5 c o (sB4 c o hc) (ne_of_none hc hL.cp), hL.cp, hL.cg, hL.cd⟩
    · have hbe : (r :: be).length = be.length + 1 := rfl
      omega
    · rw [List.append_assoc]
      exact hcn x
    · rw [List.length_append]
      show _ ≤ 100 * (st.length + 1)
      omega
    · rw [m4, kmem, mem, flats_app, askN_app]
  refine ⟨_, rfl, p, C, dx, _, _, rfl, h4, T.cl, T.nP, lf_speaking _ _ _ _, _, rfl, ?_⟩
  by_cases c : (flats st).any Row.says = true
  · refine ifT c ⟨_, rfl, p, C, dx, _, rfl, h4, T.cl, T.nP, lf_len _ _ _ _, ?_⟩
    exact fin _ (fun c o hc hn => by rw [upd_ne hn]; exact hc) (by rw [upd_same, lf_put_s, c]; rfl)
  · have c' := Bool.eq_false_iff.mpr c
    refine ifF c' ⟨_, rfl, (by show 1 ≤ sizeLine; decide), fun L2 hL2 => ?_⟩
    obtain ⟨H5, g5, s5, eL2⟩ := newH hL2 (.lst [v])
    rw [g5]
    refine ⟨L2, ss, [r], rfl, pg_one eL2 (RowAt.mono (Same.kp s5) r v hR4) hok htot hfew, fun H6 s6 => ?_⟩
    refine ⟨_, rfl, p, C, dx, _, rfl, (s5.trans s6) _ _ h4, T.cl, T.nP, lf_len _ _ _ _, ?_⟩
    exact fin _ (fun c o hc hn => by rw [upd_ne hn]; exact (s5.trans s6) c o hc) (by rw [upd_same, lf_put_s, sone, c']; rfl)
/-- the rows that go ahead and those that stay, in two new lists -/
def spSplit (K : PySem.W.Frag) : Sp := fun vs H Q _ => ∃ (l : Addr) (ss : List Str) (rs : List Row) (xs : List V), vs = [.ref l] ∧ SqL K H l xs ∧ AllAt K H rs xs ∧ Bd K H l ss rs ∧ rs.length ≤ 3000 ∧
  ∀ (H' : Hp) (q A S : Addr) (us ws : List V), Same H H' → H A = none → H S = none → A ≠ S → H' q = some (.tup [.ref A, .ref S]) → H' A = some (.lst us) → H' S = some (.lst ws) → Cut rs xs (parts [] rs).1 us (parts [] rs).2 ws → Q (.ref q) H'
theorem sc_split : FnScope ["body", "look", "ahead", "stay", "row"] ["body"] (defScope s_split) := ⟨rfl, rfl, rfl, by decide +kernel, rfl, by decide +kernel, by decide +kernel⟩
theorem ok_split (F : Fun K "split_body" "split_body" s_split f fd) (T : Lk K C) (gC : mg "Look" = some (.ref C)) (M : Mk K C f1) (I : FnOk P w K mg base CX0 4 f1 d1 ["self", "body"] (spLinit K C)) (bi : Binds K d1 ["self", "body"] [])
    (G : Dm P w K mg base C "goes_ahead" 3 f2 d2 ["self", "row"] (spGoes K C)) (S : Dm P w K mg base C "send_ahead" 1 f3 d3 ["self", "row"] (spSend K C)) (Kp_ : Dm P w K mg base C "keep" 3 f4 d4 ["self", "row"] (spKeep K C)) : FnOk P w K mg base CX0 6 f fd ["body"] (spSplit K) := by
  refine F.ok sc_split (fun vs H Q E h => ?_) (fun cdv A outer s H vs Q E hr h => ?_)
  · obtain ⟨l, ss, rs, xs, rfl, _⟩ := h
    rfl
  obtain ⟨l, ss, rs, vs, rfl, eS, eA, hB, hlen, k⟩ := h
  have nd := sc_split.nd
  have r1 : Room 1 _ := hr.mono (by decide)
  have r3 : Room 3 _ := hr.mono (by decide)
  refine ⟨_, pss_cons (ps_set (i := 1) nd rfl (Or.inl rfl) (pe_make M I hr rfl gC bi .nil pass0 (pa_cons (pv 0) pa_nil))) <|
    pss_cons (ps_set (i := 2) nd rfl (Or.inl rfl) (pe_lst pa_nil)) <|
    pss_cons (ps_set (i := 3) nd rfl (Or.inl rfl) (pe_lst pa_nil)) <|
    pss_cons (ps_for PassesOwn.never rfl (pi_list (pv 0)) (pg_name (i := 4) nd rfl (Or.inl rfl))
      (pss_one (ps_if (pt_val (pe_dm G T.cl r3 (pv 1) (pa_cons (pv 4) pa_nil)))
        (pss_cons (ps_expr (pe_dm S T.cl r1 (pv 1) (pa_cons (pv 4) pa_nil))) <|
         pss_one (ps_expr (pe_bm PySem.F.plainAttrs_list PySem.F.slot_list_append PySem.F.type_list_append mt_append (pv 2) (pa_cons (pv 4) pa_nil))))
        (pss_cons (ps_expr (pe_dm Kp_ T.cl r3 (pv 1) (pa_cons (pv 4) pa_nil))) <|
         pss_one (ps_expr (pe_bm PySem.F.plainAttrs_list PySem.F.slot_list_append PySem.F.type_list_append mt_append (pv 3) (pa_cons (pv 4) pa_nil))))))) <|
    pss_one (ps_ret (pe_tup (pa_cons (pv 2) (pa_cons (pv 3) pa_nil)))), ?_⟩
  refine ⟨_, rfl, fun p dx hp hdx ndx => ?_⟩
  have s1 : Same H (upd (upd H dx (.own p)) p (.ins C dx [])) := fun b o hb => by
    rw [upd_ne (ne_of_none hb hp), upd_ne (ne_of_none hb hdx)]
    exact hb
  refine ⟨p, dx, l, ss, rs, H, rfl, upd_same, s1, hp, hB, hlen, fun H1 g d hL => ⟨rfl, ?_⟩⟩
  refine ⟨(by show 0 ≤ sizeLine; decide), fun Aa hA => ?_⟩
  obtain ⟨H2, g2, s2, eA2⟩ := newH hA (.lst [])
  rw [g2]
  refine ⟨(by show 0 ≤ sizeLine; decide), fun Ss hS => ?_⟩
  obtain ⟨H3, g3, s3, eS3⟩ := newH hS (.lst [])
  rw [g3]
  have nAS : Aa ≠ Ss := ne_of_none eA2 hS
  have hL3 := hL.same (s2.trans s3)
  have hHA : H Aa = none := hL.cl.free hA
  have hHS : H Ss = none := (hL.cl.trans s2).free hS
  have sL := eS
  refine ⟨_, rfl, l, rfl, ⟨_, hL3.cl.seq eS⟩, for_list (K := K) (a := l) (xs := vs) (fun i σ H' => ∃ (v4 : Option V) (ah st : List Row) (us ws : List V), σ = [some (.ref l), some (.ref p), some (.ref Aa), some (.ref Ss), v4] ∧ LookAt C H H' p g d st (rs.drop i) ∧ Mid rs (rs.drop i) ah st ∧ H' Aa = some (.lst us) ∧ H' Ss = some (.lst ws) ∧ Cut (rs.take i) (vs.take i) ah us st ws ∧ ah.length + st.length = i)
    ⟨none, [], [], [], [], rfl, hL3, Mid.start rs, s3 _ _ eA2, eS3, .nil, rfl⟩ (fun i σ H' _ ⟨_, _, _, _, _, _, e, _⟩ => e.cl.seq eS) ?_ ?_⟩
  · rintro i v σ H4 hi ⟨v4, ah, st, us, ws, rfl, hL4, hM, eA4, eS4, cu, hn⟩
    obtain ⟨r, hri, hrow⟩ := eA.at hi
    have hir : i < rs.length := (List.getElem?_eq_some_iff.mp hri).1
    have edr : rs.drop i = r :: rs.drop (i + 1) := by
      obtain ⟨hl, hx⟩ := List.getElem?_eq_some_iff.mp hri
      rw [List.drop_eq_getElem_cons hl, hx]
    rw [edr] at hL4 hM
    obtain ⟨dx4, h4⟩ := hL4.ob
    have hrok := oks_at hB.ok hri
    have htot := Nat.le_trans (row_tot_le hri) hB.num
    have aT : AllAt K H (rs.take i) (vs.take i) := eA.take i
    have lA := (cu.at_ aT).1.len
    have lW := (cu.at_ aT).2.len
    obtain ⟨n1, n2, n3⟩ := hL4.ne
    obtain ⟨kvs, ρ, eg, _⟩ := hL4.sg
    obtain ⟨ks, ed, _⟩ := hL4.ask
    have nAg : Aa ≠ g := ne_of eA4 eg (by intro z; cases z)
    have nAd : Aa ≠ d := ne_of eA4 ed (by intro z; cases z)
    have nAp : Aa ≠ p := ne_of eA4 h4 (by intro z; cases z)
    have nSg : Ss ≠ g := ne_of eS4 eg (by intro z; cases z)
    have nSd : Ss ≠ d := ne_of eS4 ed (by intro z; cases z)
    have nSp : Ss ≠ p := ne_of eS4 h4 (by intro z; cases z)
    have lput : ∀ {H' : Hp} {st be : List Row} {b : Addr} {o o' : HO}, LookAt C H H' p g d st be → H b = none → b ≠ p → b ≠ g → b ≠ d → LookAt C H (upd H' b o) p g d st be := fun h hb q1 q2 q3 =>
      ⟨let ⟨dx, e⟩ := h.ob; ⟨dx, by rw [upd_ne q1.symm]; exact e⟩, h.ngd, let ⟨k, ρ, a, b, c, e⟩ := h.sg; ⟨k, ρ, by rw [upd_ne q2.symm]; exact a, b, c, e⟩, let ⟨k, a, b, c, e, f⟩ := h.ask; ⟨k, by rw [upd_ne q3.symm]; exact a, b, c, e, f⟩, same_put h.cl hb _, h.cp, h.cg, h.cd⟩
    refine ⟨_, rfl, p, dx4, _, rfl, h4, lf_no _ _ _ _ (by decide +kernel), _, rfl, p, g, d, v, H, st, rs.drop (i + 1), r, ss, rfl, hL4, hrow, hrok, htot, hB.few, fun hg H5 s5 => ⟨_, rfl, iteT ?_⟩, fun hg H5 s5 => ⟨_, rfl, iteF ?_⟩⟩
    · obtain ⟨to, sg, a, b, er, _⟩ := id hg
      have hL5 := hL4.same s5
      have h5 := s5 _ _ h4
      have hrow' : RowAt K H (.lt to sg a b) v := by rw [← er]; exact hrow
      rw [er] at hL5
      refine ⟨_, rfl, p, dx4, _, rfl, h5, lf_no _ _ _ _ (by decide +kernel), _, rfl, p, g, d, v, H, st, rs.drop (i + 1), to, sg, a, b, rfl, hL5, hrow', fun H6 f6 hL6 => ?_⟩
      have eA6 := f6 _ _ (s5 _ _ eA4) nAg
      have eS6 := f6 _ _ (s5 _ _ eS4) nSg
      refine ⟨_, rfl, .inl ⟨rfl, _, SqL.of eA6⟩, _, rfl, Aa, us, _, rfl, rfl, eA6, (by rw [sizeLine_eq]; omega), ?_⟩
      exact ⟨_, ah ++ [r], st, us ++ [v], ws, rfl, lput (o' := .lst []) hL6 hHA nAp nAg nAd, hM.go hg, upd_same, by rw [upd_ne nAS.symm]; exact eS6, by rw [take_one hri, take_one hi]; exact cu.left, by rw [List.length_append]; show ah.length + 1 + st.length = _; omega⟩
    · have hL5 := hL4.same s5
      have h5 := s5 _ _ h4
      refine ⟨_, rfl, p, dx4, _, rfl, h5, lf_no _ _ _ _ (by decide +kernel), _, rfl, p, g, d, v, H, st, rs.drop (i + 1), r, ss, rfl, hL5, hrow, hrok, htot, hB.few, by omega, fun H6 f6 hL6 => ?_⟩
      have eA6 := f6 _ _ (s5 _ _ eA4) nAp nAd
      have eS6 := f6 _ _ (s5 _ _ eS4) nSp nSd
      refine ⟨_, rfl, .inl ⟨rfl, _, SqL.of eS6⟩, _, rfl, Ss, ws, _, rfl, rfl, eS6, (by rw [sizeLine_eq]; omega), ?_⟩
      exact ⟨_, ah, st ++ [r], us, ws ++ [v], rfl, lput (o' := .lst []) hL6 hHS nSp nSg nSd, hM.no hg, by rw [upd_ne nAS]; exact eA6, upd_same, by rw [take_one hri, take_one hi]; exact cu.right, by rw [List.length_append]; show ah.length + (st.length + 1) = _; omega⟩
  · rintro σ H4 ⟨v4, ah, st, us, ws, rfl, hL4, hM, eA4, eS4, cu, hn⟩
    rw [eA.len, List.drop_length] at hM
    obtain ⟨m1, m2⟩ := hM.end_
    refine ⟨_, rfl, _, rfl, (by show 2 ≤ sizeLine; decide), fun q hq => ?_⟩
    have s5 := same_new hq (.tup [.ref Aa, .ref Ss])
    rw [List.take_length, eA.len, List.take_length] at cu
    rw [← m1, ← m2] at cu
    exact k _ q Aa Ss us ws (hL4.cl.trans s5) hHA hHS nAS upd_same (s5 _ _ eA4) (s5 _ _ eS4) cu
end
end Lm
namespace Lm
open PySem L2
abbrev s_copy : Stmt := topS 13
abbrev s_parted : Stmt := topS 14
def spCopy (K : PySem.W.Frag) (n : Nat) : Sp := fun vs H Q _ => ∃ (l : Addr) (ss : List Str) (rs : List Row), vs = [.ref l] ∧ RowsAt K H l rs ∧ oks ss rs ∧ deps rs < n ∧ tots rs ≤ 3000 ∧
  ∀ (H' : Hp) (l' : Addr) (ys : List V) (F' : Addr → Prop), Same H H' → H l' = none → H' l' = some (.lst ys) → OwnRs K H H' rs ys F' → ¬ F' l' → Q (.ref l') H'
def spParted (K : PySem.W.Frag) (n : Nat) : Sp := fun vs H Q _ => ∃ (l : Addr) (ss : List Str) (rs : List Row), vs = [.ref l] ∧ RowsAt K H l rs ∧ oks ss rs ∧ deps rs < n ∧ tots rs ≤ 3000 ∧ ss.length ≤ 60 ∧
  ∀ (H' : Hp) (q A S : Addr) (us ws : List V) (F1 F2 : Addr → Prop), Same H H' → H A = none → H S = none → A ≠ S → H' q = some (.tup [.ref A, .ref S]) → H' A = some (.lst us) → H' S = some (.lst ws) → OwnRs K H H' (parts [] rs).1 us F1 → OwnRs K H H' (parts [] rs).2 ws F2 →
    (∀ c, F1 c → F2 c → False) → ¬ F1 A → ¬ F1 S → ¬ F2 A → ¬ F2 S → Q (.ref q) H'
section
variable {P : Program} {w : World} {K : PySem.W.Frag} {mg : Str → Option Value} {base : Heap} {f f1 f2 aK : Addr} {fd d1 d2 : FuncData}
theorem sc_copy : FnScope ["rows", "found", "row"] ["rows"] (defScope s_copy) := ⟨rfl, rfl, rfl, by decide +kernel, rfl, by decide +kernel, by decide +kernel⟩
theorem ok_copy {n : Nat} (F : Fun K "copied" "copied" s_copy f fd) (C : Cb K mg aK) (G : Df P w K mg base "copied" n f fd ["rows"] (spCopy K n)) : FnOk P w K mg base CX0 (n + 1) f fd ["rows"] (spCopy K (n + 1)) := by
  refine F.ok sc_copy (fun vs H Q E h => ?_) (fun cdv A outer s H vs Q E hr h => ?_)
  · obtain ⟨l, ss, rs, rfl, _⟩ := h
    rfl
  obtain ⟨l, ss, rs, rfl, ⟨vs, eS, eA⟩, hok, hd, htot, k⟩ := h
  have nd := sc_copy.nd
  refine ⟨_, pss_cons (ps_set (i := 1) nd rfl (Or.inl rfl) (pe_lst pa_nil)) <|
    pss_cons (ps_for PassesOwn.never rfl (pi_list (pv 0)) (pg_name (i := 2) nd rfl (Or.inl rfl))
      (pss_one (ps_if (pt_cmpR op_in_seq (pe_ix ix_tup (pv 2) pe_int (fun _ _ => rfl)) (pe_glob (v := .ref aK) rfl C.blocks rfl) (by rfl))
        (pss_one (ps_expr (pe_bm PySem.F.plainAttrs_list PySem.F.slot_list_append PySem.F.type_list_append mt_append (pv 1) (pa_cons (pe_tup (pa_cons (pe_ix ix_tup (pv 2) pe_int (fun _ _ => rfl)) (pa_cons (pe_ix ix_tup (pv 2) pe_int (fun _ _ => rfl)) (pa_cons (pe_df G hr (pa_cons (pe_ix ix_tup (pv 2) pe_int (fun _ _ => rfl)) pa_nil)) pa_nil)))) pa_nil))))
        (pss_one (ps_expr (pe_bm PySem.F.plainAttrs_list PySem.F.slot_list_append PySem.F.type_list_append mt_append (pv 1) (pa_cons (pv 2) pa_nil))))))) <|
    pss_one (ps_ret (pv 1)), ?_⟩
  refine ⟨(by show 0 ≤ sizeLine; decide), fun D hD => ?_⟩
  have s0 := same_new hD (.lst [])
  have lr := len_tots rs
  refine ⟨_, rfl, l, rfl, ⟨_, s0.seq eS⟩, for_list (K := K) (a := l) (xs := vs) (fun i σ H' => ∃ (v2 : Option V) (us : List V) (F : Addr → Prop), σ = [some (.ref l), some (.ref D), v2] ∧ Same H H' ∧ H' D = some (.lst us) ∧ OwnRs K H H' (rs.take i) us F ∧ ¬ F D)
    ⟨none, [], _, rfl, s0, upd_same, OwnRs.nil, fun h => h⟩ (fun i σ H' _ ⟨_, _, _, _, s1, _⟩ => s1.seq eS) ?_ ?_⟩
  · rintro i v σ H1 hi ⟨v2, us, F, rfl, s1, eD, hO, hFD⟩
    obtain ⟨r, hri, hrow⟩ := eA.at hi
    have hrow0 := hrow
    have hrok := oks_at hok hri
    have htr := row_tot_le hri
    have hrow1 := RowAt.mono (Same.kp s1) r v hrow
    have tt := tots_take_le rs i
    have ul := (OwnRs.all _ hO).len
    have ul2 := len_tots (rs.take i)
    have room : us.length < sizeLine := by rw [sizeLine_eq]; omega
    have fin : ∀ (H2 : Hp) (v' : V) (F2 : Addr → Prop) (w2 : Option V), Same H1 H2 → OwnR K H1 H2 r v' F2 → ∃ (v2 : Option V) (us' : List V) (F : Addr → Prop), [some (V.ref l), some (V.ref D), w2] = [some (.ref l), some (.ref D), v2] ∧ Same H (upd H2 D (.lst (us ++ [v']))) ∧ (upd H2 D (.lst (us ++ [v']))) D = some (.lst us') ∧ OwnRs K H (upd H2 D (.lst (us ++ [v']))) (rs.take (i + 1)) us' F ∧ ¬ F D := fun H2 v' F2 w2 s2 ho => by
      have eD2 := s2 _ _ eD
      have nF2 : ∀ c, F2 c → H1 c = none := fun c hc => (OwnR.out _ ho c hc).1
      have nD2 : ¬ F2 D := fun h => by rw [nF2 D h] at eD; cases eD
      have hOD : OwnRs K H (upd H2 D (.lst (us ++ [v']))) (rs.take i) us F := OwnRs.keep (fun _ h => h) (fun p xs h => sqT_upd eD2 h) _ (fun c hc => upd_ne (fun e => hFD (by rw [← e]; exact hc))) (OwnRs.grow (B' := H) (fun _ h => h) s2 hO)
      have ho2 : OwnR K H (upd H2 D (.lst (us ++ [v']))) r v' F2 := OwnR.keep (fun c h => s1.free h) (fun p xs h => sqT_upd eD2 h) _ (fun c hc => upd_ne (fun e => nD2 (by rw [← e]; exact hc))) ho
      refine ⟨_, us ++ [v'], (fun c => F c ∨ F2 c), rfl, same_put (s1.trans s2) hD _, upd_same, ?_, fun h => h.elim hFD nD2⟩
      rw [take_one hri]
      exact hOD.app (OwnRs.one ho2) fun c x y => by
        obtain ⟨_, zz, ez⟩ := OwnRs.out _ hO c x
        rw [nF2 c y] at ez
        cases ez
    match r, hri, hrow, hrow1, hrok, htr, fin with
    | .lt to sg a b, hri, hrow, ⟨p, h1, h2⟩, hrok, htr, fin =>
      subst h1
      refine ⟨_, rfl, p, _, _, _, rfl, rfl, h2, atI_nat (j := 0) rfl, aK, _, rfl, .inr (C.blocksT _), rfl, kinds_flat, _, rfl, ifF let_in ?_⟩
      exact ⟨_, rfl, .inl ⟨rfl, _, SqL.of eD⟩, _, rfl, D, us, _, rfl, rfl, eD, room, fin H1 _ (fun _ => False) _ (Same.refl _) ⟨⟨p, rfl, h2⟩, fun _ z => z⟩⟩
    | .sy a, hri, hrow, ⟨p, h1, h2⟩, hrok, htr, fin =>
      subst h1
      refine ⟨_, rfl, p, _, _, _, rfl, rfl, h2, atI_nat (j := 0) rfl, aK, _, rfl, .inr (C.blocksT _), rfl, kinds_flat, _, rfl, ifF say_in ?_⟩
      exact ⟨_, rfl, .inl ⟨rfl, _, SqL.of eD⟩, _, rfl, D, us, _, rfl, rfl, eD, room, fin H1 _ (fun _ => False) _ (Same.refl _) ⟨⟨p, rfl, h2⟩, fun _ z => z⟩⟩
    | .bk kd ts qs, hri, hrow, ⟨p, l2, zs, h1, h2, h3, h4⟩, hrok, htr, fin =>
      subst h1
      obtain ⟨hk, _, hql, hqok⟩ := hrok
      have hdq : deps qs + 1 ≤ deps rs := dep_at hri
      have htq : tots qs + 1 ≤ tots rs := htr
      refine ⟨_, rfl, p, _, _, _, rfl, rfl, h2, atI_nat (j := 0) rfl, aK, _, rfl, .inr (C.blocksT _), rfl, kinds_flat, _, rfl, ifT (kd_in hk) ?_⟩
      refine ⟨_, rfl, .inl ⟨rfl, _, SqL.of eD⟩, _, rfl, p, _, _, _, rfl, rfl, h2, atI_nat (j := 0) rfl, _, rfl, p, _, _, _, rfl, rfl, h2, atI_nat (j := 1) rfl, _, rfl, p, _, _, _, rfl, rfl, h2, atI_nat (j := 2) rfl, l2, ss, qs, rfl, ⟨zs, h3, h4⟩, hqok, by omega, by omega, fun H2 l3 ys F2 s2 hl3 el3 hO2 hF2 => ⟨(by show 3 ≤ sizeLine; decide), fun q hq => ?_⟩⟩
      have s3 := same_new hq (.tup [.str kd, ts, .ref l3])
      have eD3 : (upd H2 q (.tup [.str kd, ts, .ref l3])) D = some (.lst us) := (s2.trans s3) _ _ eD
      exact ⟨D, us, _, rfl, rfl, eD3, room, fin _ _ _ _ (s2.trans s3) (own_bk (SqT.of upd_same) (s3 _ _ el3) hl3 (OwnRs.grow (fun _ h => h) s3 hO2) hF2)⟩
  · rintro σ H1 ⟨v2, us, F, rfl, s1, eD, hO, hFD⟩
    rw [eA.len, List.take_length] at hO
    exact ⟨_, rfl, k H1 D us F s1 hD eD hO hFD⟩
theorem all_copy (F : Fun K "copied" "copied" s_copy f fd) (m : mg "copied" = some (.ref f)) (b : Binds K fd ["rows"] []) (C : Cb K mg aK) : ∀ n, FnOk P w K mg base CX0 n f fd ["rows"] (spCopy K n)
  | 0 => none_left fun vs H Q E ⟨l, ss, rs, _, _, _, h, _⟩ => absurd h (Nat.not_lt_zero _)
  | n + 1 => ok_copy F C ⟨all_copy F m b C n, m, F.kp, b⟩
theorem sc_parted : FnScope ["body"] ["body"] (defScope s_parted) := ⟨rfl, rfl, rfl, by decide +kernel, rfl, by decide +kernel, by decide +kernel⟩
theorem ok_parted {n : Nat} (F : Fun K "parted" "parted" s_parted f fd) (DC : Df P w K mg base "copied" n f1 d1 ["rows"] (spCopy K n)) (DS : Df P w K mg base "split_body" 6 f2 d2 ["body"] (spSplit K)) (hn : 6 ≤ n) : FnOk P w K mg base CX0 (n + 1) f fd ["body"] (spParted K n) := by
  refine F.ok sc_parted (fun vs H Q E h => ?_) (fun cdv A outer s H vs Q E hr h => ?_)
  · obtain ⟨l, ss, rs, rfl, _⟩ := h
    rfl
  obtain ⟨l, ss, rs, rfl, hR, hok, hd, htot, hfew, k⟩ := h
  have lr := len_tots rs
  refine ⟨_, pss_one (ps_ret (pe_df DS (hr.mono hn) (pa_cons (pe_df DC hr (pa_cons (pv 0) pa_nil)) pa_nil))), ?_⟩
  refine ⟨_, rfl, l, ss, rs, rfl, hR, hok, hd, htot, fun H1 l1 ys F1 s1 hl1 el1 hO1 hF1 => ?_⟩
  have aO := OwnRs.all _ hO1
  refine ⟨l1, ss, rs, ys, rfl, SqL.of el1, aO, ⟨⟨ys, SqL.of el1, aO⟩, hok, by omega, hfew⟩, by omega, fun H2 q Aa Ss us ws s2 hA hS nAS eq eA eS cu => ?_⟩
  obtain ⟨Fa, Fs, o1, o2, o3, o4⟩ := cu.own (OwnRs.grow (B' := H) (fun _ h => h) s2 hO1)
  have nF : ∀ {c}, H1 c = none → ¬ F1 c := fun hc h => by
    obtain ⟨_, zz, ez⟩ := OwnRs.out _ hO1 _ h
    rw [hc] at ez
    cases ez
  exact k H2 q Aa Ss us ws Fa Fs (s1.trans s2) (s1.free hA) (s1.free hS) nAS eq eA eS o1 o2 o3 (fun h => nF hA (o4 _ (.inl h))) (fun h => nF hS (o4 _ (.inl h))) (fun h => nF hA (o4 _ (.inr h))) (fun h => nF hS (o4 _ (.inr h)))
end
end Lm
namespace Lm
open PySem L2
abbrev s_srow : Stmt := topS 25
abbrev s_sound : Stmt := topS 26
def spSRow (K : PySem.W.Frag) (n : Nat) : Sp := fun vs H Q _ => ∃ (v : V) (ss : List Str) (r : Row), vs = [v] ∧ RowAt K H r v ∧ r.ok ss ∧ r.dep ≤ n ∧ ∀ H' : Hp, Same H H' → Q (.bl true) H'
def spSound (K : PySem.W.Frag) (n : Nat) : Sp := fun vs H Q _ => ∃ (l : Addr) (ss : List Str) (rs : List Row), vs = [.ref l] ∧ RowsAt K H l rs ∧ oks ss rs ∧ deps rs < n ∧ rs.length ≤ 2000 ∧ ∀ H' : Hp, Same H H' → Q (.bl true) H'
section
variable {P : Program} {w : World} {K : PySem.W.Frag} {mg : Str → Option Value} {base : Heap} {f : Addr} {fd : FuncData}
theorem sc_srow : FnScope ["_law_row", "_law_thing"] ["_law_row"] (defScope s_srow) := ⟨rfl, rfl, rfl, by decide +kernel, rfl, by decide +kernel, by decide +kernel⟩
theorem sg_in {sg : Str} (h : sg ∈ signs) : inV (.str sg) [.str "+", .str "-", .str "*", .str "<", .str "/"] = true := by
  simp only [signs, List.mem_cons, List.not_mem_nil, or_false] at h
  rcases h with e | e | e | e | e <;> (rw [e]; decide +kernel)
theorem kd_in3 {kd : Str} (h : kd ∈ kinds) : inV (.str kd) [.str "when", .str "loop", .str "again"] = true := kd_in h
theorem ok_srow {n : Nat} {fw fs : Addr} {dw ds : FuncData} (F : Fun K "_law_sound_row" "_law_sound_row" s_srow f fd) (B : Bn mg) (W : Df P w K mg base "_law_whole" 1 fw dw ["_law_found"] spWhole)
    (G : Df P w K mg base "_law_sound" (2 * n + 1) fs ds ["_law_rows"] (spSound K n)) : FnOk P w K mg base CX0 (2 * n + 2) f fd ["_law_row"] (spSRow K n) := by
  refine F.ok sc_srow (fun vs H Q E h => ?_) (fun cdv A outer s H vs Q E hr h => ?_)
  · obtain ⟨v, ss, r, rfl, _⟩ := h
    rfl
  obtain ⟨v, ss, r, rfl, hrow, hok, hd, k⟩ := h
  have nd := sc_srow.nd
  have r1 : Room 1 _ := hr.mono (by omega)
  refine ⟨_, pss_cons (ps_if (PW.pt (pw_or (pt_not (pt_val (pe_callB call_isi rfl B.isinstance (by decide +kernel) (pa_cons (pv 0) (pa_cons (pe_bltn (v := .ty "tuple") rfl B.tuple (by decide +kernel) rfl) pa_nil)))))
      (pw_or (pt_cmpR op_notIn_seq (pe_callB call_len_seq rfl B.len PySem.boot_len (pa_cons (pv 0) pa_nil)) (pe_tup (pa_cons pe_int (pa_cons pe_int (pa_cons pe_int pa_nil)))) (by rfl))
      (pw_or1 (pt_not (pt_val (pe_callB call_isi rfl B.isinstance (by decide +kernel) (pa_cons (pe_ix ix_tup (pv 0) pe_int (fun _ _ => rfl)) (pa_cons (pe_bltn (v := .ty "str") rfl B.str (by decide +kernel) rfl) pa_nil)))))))))
      (pss_one (ps_ret pe_bl)) pss_nil) <|
    pss_cons (ps_if (pt_cmpR op_eq (pe_callB call_len_seq rfl B.len PySem.boot_len (pa_cons (pv 0) pa_nil)) pe_int (nomark _))
      (pss_one (ps_ret (pe_and (pe_cmpR op_in_seq (pe_ix ix_tup (pv 0) pe_int (fun _ _ => rfl)) (pe_tup (pa_cons pe_str (pa_cons pe_str (pa_cons pe_str pa_nil)))) (by rfl))
        (pe_and (pe_callB call_isi rfl B.isinstance (by decide +kernel) (pa_cons (pe_ix ix_tup (pv 0) pe_int (fun _ _ => rfl)) (pa_cons (pe_bltn (v := .ty "str") rfl B.str (by decide +kernel) rfl) pa_nil)))
        (pe_one (pe_df G (hr.mono (by omega)) (pa_cons (pe_ix ix_tup (pv 0) pe_int (fun _ _ => rfl)) pa_nil))))))) pss_nil) <|
    pss_cons (ps_for PassesOwn.never rfl (pi_tup (pe_slice sl_tup (pv 0) (po_some (pe_op op_sub (pe_op op_sub (pe_callB call_len_seq rfl B.len PySem.boot_len (pa_cons (pv 0) pa_nil)) pe_int)
          (pe_callTy call_int1 rfl B.int (by decide +kernel) (pa_cons (pe_cmpR op_eq (pe_callB call_len_seq rfl B.len PySem.boot_len (pa_cons (pv 0) pa_nil)) pe_int (nomark _)) pa_nil)))) po_none)) (pg_name (i := 1) nd rfl (Or.inl rfl))
      (pss_one (ps_if (PW.pt (pw_and (pt_not (pt_val (pe_callB call_isi rfl B.isinstance (by decide +kernel) (pa_cons (pv 1) (pa_cons (pe_bltn (v := .ty "str") rfl B.str (by decide +kernel) rfl) pa_nil)))))
        (pw_and1 (pt_not (pt_val (pe_df W r1 (pa_cons (pv 1) pa_nil))))))) (pss_one (ps_ret pe_bl)) pss_nil))) <|
    pss_cons (ps_if (pt_cmpR op_eq (pe_callB call_len_seq rfl B.len PySem.boot_len (pa_cons (pv 0) pa_nil)) pe_int (nomark _))
      (pss_one (ps_ret (pe_cmpR op_eq (pe_ix ix_tup (pv 0) pe_int (fun _ _ => rfl)) pe_str (nomark _)))) pss_nil) <|
    pss_cons (ps_if (PW.pt (pw_or (pt_cmpR op_ne (pe_ix ix_tup (pv 0) pe_int (fun _ _ => rfl)) pe_str (nomark _))
      (pw_or (pt_not (pt_val (pe_callB call_isi rfl B.isinstance (by decide +kernel) (pa_cons (pe_ix ix_tup (pv 0) pe_int (fun _ _ => rfl)) (pa_cons (pe_bltn (v := .ty "str") rfl B.str (by decide +kernel) rfl) pa_nil)))))
      (pw_or1 (pt_not (pt_val (pe_callB call_isi rfl B.isinstance (by decide +kernel) (pa_cons (pe_ix ix_tup (pv 0) pe_int (fun _ _ => rfl)) (pa_cons (pe_bltn (v := .ty "str") rfl B.str (by decide +kernel) rfl) pa_nil)))))))))
      (pss_one (ps_ret pe_bl)) pss_nil) <|
    pss_one (ps_ret (pe_cmpR op_in_seq (pe_ix ix_tup (pv 0) pe_int (fun _ _ => rfl)) (pe_tup (pa_cons pe_str (pa_cons pe_str (pa_cons pe_str (pa_cons pe_str (pa_cons pe_str pa_nil)))))) (by rfl))), ?_⟩
  have lit : ∀ x : Vl, (∃ s, x.v = .str s) ∨ ∃ z, x.v = .int z := fun x => match x with
    | .nm s => .inl ⟨s, rfl⟩
    | .nu i => .inr ⟨i, rfl⟩
  match r, hrow, hok, hd with
  | .sy a, ⟨p, h1, h2⟩, hok, hd =>
    subst h1
    refine ⟨_, rfl, _, _, _, _, true, rfl, .ty _, ty_tuple h2, kit_ty (by decide +kernel), _, rfl, iteF ⟨_, rfl, p, _, rfl, .inr h2, (by show 3 ≤ sizeLine; decide), fun q1 hq1 => ?_⟩⟩
    obtain ⟨H1, g1, s1, e1⟩ := newH hq1 (.tup [.int 2, .int 3, .int 5])
    rw [g1]
    have t1 := Kp.sqT (Same.kp s1) h2
    refine ⟨q1, _, rfl, .inr (SqT.of e1), rfl, by decide +kernel, _, rfl, ifF (by show (!inV (V.int ((2 : Nat) : Int)) [V.int 2, V.int 3, V.int 5]) = false; decide +kernel) ⟨_, rfl, p, _, _, _, rfl, rfl, t1, atI_nat (j := 0) rfl, _, _, _, _, true, rfl, .ty _, ty_str _, kit_ty (by decide +kernel), _, rfl, iteF ?_⟩⟩
    refine ⟨_, rfl, p, _, rfl, .inr t1, rfl, _, rfl, ifF (show decide (V.int ((2 : Nat) : Int) = V.int 3) = false by decide) ?_⟩
    refine ⟨_, rfl, _, rfl, p, _, rfl, .inr t1, _, _, rfl, rfl, _, rfl, p, _, rfl, .inr t1, rfl, .inr ⟨_, rfl, _, _, rfl, rfl, 1, rfl, p, _, rfl, t1, (by show ¬ (HT.sIx 2 0 (some 1) = 0 ∧ HT.sIx 2 2 none = 2); decide), fun q2 hq2 => ?_⟩⟩
    obtain ⟨H2, g2, s2, e2⟩ := newH hq2 (.tup [a.v])
    have g2' : upd H1 q2 (.tup (cutV [.str "say", a.v] (some 1) none)) = H2 := g2
    rw [g2']
    have t2 := Kp.sqT (Same.kp s2) t1
    refine ⟨q2, rfl, ⟨_, SqT.of e2⟩, for_tup (K := K) (a := q2) (xs := [a.v]) (fun i σ H' => ∃ v1 : Option V, σ = [some (.ref p), v1] ∧ H' = H2) ⟨none, rfl, rfl⟩ (fun i σ H' _ ⟨_, _, e⟩ => by rw [e]; exact SqT.of e2) ?_ ?_⟩
    · rintro i v σ H' hi ⟨v1, rfl, rfl⟩
      have hv : (∃ s, v = .str s) ∨ ∃ z, v = .int z := by
        match i, hi with
        | 0, hi =>
          cases hi
          exact lit a
      rcases hv with ⟨z, rfl⟩ | ⟨z, rfl⟩
      · exact ⟨_, rfl, _, _, _, _, true, rfl, .ty _, ty_str _, kit_ty (by decide +kernel), _, rfl, iteF ⟨_, rfl, rfl⟩⟩
      · exact ⟨_, rfl, _, _, _, _, false, rfl, .ty _, ty_int _, kit_ty (by decide +kernel), _, rfl, iteT ⟨_, rfl, z, rfl, _, rfl, iteF ⟨_, rfl, rfl⟩⟩⟩
    · rintro σ H' ⟨v1, rfl, rfl⟩
      refine ⟨_, rfl, p, _, rfl, .inr t2, rfl, _, rfl, ifT (show decide (V.int ((2 : Nat) : Int) = V.int 2) = true by decide) ?_⟩
      refine ⟨_, rfl, p, _, _, _, rfl, rfl, t2, atI_nat (j := 0) rfl, rfl, ?_⟩
      show Q (.bl (decide (V.str "say" = V.str "say"))) _
      rw [decide_eq_true rfl]
      exact k _ (s1.trans s2)
  | .lt to sg a b, ⟨p, h1, h2⟩, hok, hd =>
    subst h1
    refine ⟨_, rfl, _, _, _, _, true, rfl, .ty _, ty_tuple h2, kit_ty (by decide +kernel), _, rfl, iteF ⟨_, rfl, p, _, rfl, .inr h2, (by show 3 ≤ sizeLine; decide), fun q1 hq1 => ?_⟩⟩
    obtain ⟨H1, g1, s1, e1⟩ := newH hq1 (.tup [.int 2, .int 3, .int 5])
    rw [g1]
    have t1 := Kp.sqT (Same.kp s1) h2
    refine ⟨q1, _, rfl, .inr (SqT.of e1), rfl, by decide +kernel, _, rfl, ifF (by show (!inV (V.int ((5 : Nat) : Int)) [V.int 2, V.int 3, V.int 5]) = false; decide +kernel) ⟨_, rfl, p, _, _, _, rfl, rfl, t1, atI_nat (j := 0) rfl, _, _, _, _, true, rfl, .ty _, ty_str _, kit_ty (by decide +kernel), _, rfl, iteF ?_⟩⟩
    refine ⟨_, rfl, p, _, rfl, .inr t1, rfl, _, rfl, ifF (show decide (V.int ((5 : Nat) : Int) = V.int 3) = false by decide) ?_⟩
    refine ⟨_, rfl, _, rfl, p, _, rfl, .inr t1, _, _, rfl, rfl, _, rfl, p, _, rfl, .inr t1, rfl, .inr ⟨_, rfl, _, _, rfl, rfl, 3, rfl, p, _, rfl, t1, (by show ¬ (HT.sIx 5 0 (some 3) = 0 ∧ HT.sIx 5 5 none = 5); decide), fun q2 hq2 => ?_⟩⟩
    obtain ⟨H2, g2, s2, e2⟩ := newH hq2 (.tup [a.v, b.v])
    have g2' : upd H1 q2 (.tup (cutV [.str "let", .str to, .str sg, a.v, b.v] (some 3) none)) = H2 := g2
    rw [g2']
    have t2 := Kp.sqT (Same.kp s2) t1
    refine ⟨q2, rfl, ⟨_, SqT.of e2⟩, for_tup (K := K) (a := q2) (xs := [a.v, b.v]) (fun i σ H' => ∃ v1 : Option V, σ = [some (.ref p), v1] ∧ H' = H2) ⟨none, rfl, rfl⟩ (fun i σ H' _ ⟨_, _, e⟩ => by rw [e]; exact SqT.of e2) ?_ ?_⟩
    · rintro i v σ H' hi ⟨v1, rfl, rfl⟩
      have hv : (∃ s, v = .str s) ∨ ∃ z, v = .int z := by
        match i, hi with
        | 0, hi =>
          cases hi
          exact lit a
        | 1, hi =>
          cases hi
          exact lit b
      rcases hv with ⟨z, rfl⟩ | ⟨z, rfl⟩
      · exact ⟨_, rfl, _, _, _, _, true, rfl, .ty _, ty_str _, kit_ty (by decide +kernel), _, rfl, iteF ⟨_, rfl, rfl⟩⟩
      · exact ⟨_, rfl, _, _, _, _, false, rfl, .ty _, ty_int _, kit_ty (by decide +kernel), _, rfl, iteT ⟨_, rfl, z, rfl, _, rfl, iteF ⟨_, rfl, rfl⟩⟩⟩
    · rintro σ H' ⟨v1, rfl, rfl⟩
      refine ⟨_, rfl, p, _, rfl, .inr t2, rfl, _, rfl, ifF (show decide (V.int ((5 : Nat) : Int) = V.int 2) = false by decide) ?_⟩
      refine ⟨_, rfl, p, _, _, _, rfl, rfl, t2, atI_nat (j := 0) rfl, rfl, _, rfl, ifF (show (!decide (V.str "let" = V.str "let")) = false by decide) ?_⟩
      refine ⟨_, rfl, p, _, _, _, rfl, rfl, t2, atI_nat (j := 1) rfl, _, _, _, _, true, rfl, .ty _, ty_str _, kit_ty (by decide +kernel), _, rfl, iteF ?_⟩
      refine ⟨_, rfl, p, _, _, _, rfl, rfl, t2, atI_nat (j := 2) rfl, _, _, _, _, true, rfl, .ty _, ty_str _, kit_ty (by decide +kernel), _, rfl, iteF ?_⟩
      refine ⟨_, rfl, p, _, _, _, rfl, rfl, t2, atI_nat (j := 2) rfl, (by show 5 ≤ sizeLine; decide), fun q3 hq3 => ?_⟩
      obtain ⟨H3, g3, s3, e3⟩ := newH hq3 (.tup [.str "+", .str "-", .str "*", .str "<", .str "/"])
      rw [g3]
      refine ⟨q3, _, rfl, .inr (SqT.of e3), rfl, by decide +kernel, ?_⟩
      show Q (.bl (inV (.str sg) [.str "+", .str "-", .str "*", .str "<", .str "/"])) H3
      rw [sg_in hok.2.1]
      exact k _ (s1.trans (s2.trans s3))
  | .bk kd ts qs, ⟨p, l2, zs, h1, h2, h3, h4⟩, hok, hd =>
    subst h1
    obtain ⟨hk, ⟨te, hte, htes⟩, hql, hqok⟩ := hok
    subst hte
    have hdq : deps qs + 1 ≤ n := hd
    refine ⟨_, rfl, _, _, _, _, true, rfl, .ty _, ty_tuple h2, kit_ty (by decide +kernel), _, rfl, iteF ⟨_, rfl, p, _, rfl, .inr h2, (by show 3 ≤ sizeLine; decide), fun q1 hq1 => ?_⟩⟩
    obtain ⟨H1, g1, s1, e1⟩ := newH hq1 (.tup [.int 2, .int 3, .int 5])
    rw [g1]
    have t1 := Kp.sqT (Same.kp s1) h2
    refine ⟨q1, _, rfl, .inr (SqT.of e1), rfl, by decide +kernel, _, rfl, ifF (by show (!inV (V.int ((3 : Nat) : Int)) [V.int 2, V.int 3, V.int 5]) = false; decide +kernel) ⟨_, rfl, p, _, _, _, rfl, rfl, t1, atI_nat (j := 0) rfl, _, _, _, _, true, rfl, .ty _, ty_str _, kit_ty (by decide +kernel), _, rfl, iteF ?_⟩⟩
    refine ⟨_, rfl, p, _, rfl, .inr t1, rfl, _, rfl, ifT (show decide (V.int ((3 : Nat) : Int) = V.int 3) = true by decide) ?_⟩
    refine ⟨_, rfl, p, _, _, _, rfl, rfl, t1, atI_nat (j := 0) rfl, (by show 3 ≤ sizeLine; decide), fun q2 hq2 => ?_⟩
    obtain ⟨H2, g2, s2, e2⟩ := newH hq2 (.tup [.str "when", .str "loop", .str "again"])
    rw [g2]
    have t2 := Kp.sqT (Same.kp s2) t1
    have s12 := s1.trans s2
    refine ⟨q2, _, rfl, .inr (SqT.of e2), rfl, by decide +kernel, _, rfl, ifT (kd_in3 hk) ?_⟩
    refine ⟨_, rfl, p, _, _, _, rfl, rfl, t2, atI_nat (j := 1) rfl, _, _, _, _, true, rfl, .ty _, ty_str _, kit_ty (by decide +kernel), _, rfl, iteT ?_⟩
    obtain ⟨zs', f3, f4⟩ := RowsAt.mono (Same.kp s12) ⟨zs, h3, h4⟩
    exact ⟨_, rfl, p, _, _, _, rfl, rfl, t2, atI_nat (j := 2) rfl, l2, ss, qs, rfl, ⟨zs', f3, f4⟩, hqok, by omega, hql, fun H' s3 => k H' (s12.trans s3)⟩
theorem sc_sound : FnScope ["_law_rows", "_law_row"] ["_law_rows"] (defScope s_sound) := ⟨rfl, rfl, rfl, by decide +kernel, rfl, by decide +kernel, by decide +kernel⟩
theorem ok_sound {n : Nat} {fr : Addr} {dr : FuncData} (F : Fun K "_law_sound" "_law_sound" s_sound f fd) (B : Bn mg)
    (R : Df P w K mg base "_law_sound_row" (2 * n + 2) fr dr ["_law_row"] (spSRow K n)) : FnOk P w K mg base CX0 (2 * n + 3) f fd ["_law_rows"] (spSound K (n + 1)) := by
  refine F.ok sc_sound (fun vs H Q E h => ?_) (fun cdv A outer s H vs Q E hr h => ?_)
  · obtain ⟨l, ss, rs, rfl, _⟩ := h
    rfl
  obtain ⟨l, ss, rs, rfl, ⟨vs, eS, eA⟩, hok, hd, hlen, k⟩ := h
  have nd := sc_sound.nd
  refine ⟨_, pss_cons (ps_if (pt_not (pt_val (pe_callB call_isi rfl B.isinstance (by decide +kernel) (pa_cons (pv 0) (pa_cons (pe_bltn (v := .ty "list") rfl B.list (by decide +kernel) rfl) pa_nil)))))
      (pss_one (ps_ret pe_bl)) pss_nil) <|
    pss_one (ps_ret (pe_callB (cr_all rfl) rfl B.all (by decide +kernel) (pa_cons (pe_lc (own := [("_law_row", 1)]) (g := gName 1) rfl nd (pi_list (pv 0))
          (blkOk_by (N := ["_law_rows", "_law_row"]) (sc := defScope s_sound) (by decide +kernel)) (fun _ _ _ _ _ => pg_name (i := 1) nd rfl (Or.inl rfl)) (fun _ _ _ _ _ => pts_nil)
          (fun _ _ _ _ _ => pe_df R hr (pa_cons (pv 1) pa_nil))) pa_nil))), ?_⟩
  refine ⟨_, rfl, _, _, _, _, true, rfl, .ty _, ty_list eS, kit_ty (by decide +kernel), _, rfl, iteF ?_⟩
  refine ⟨_, rfl, l, rfl, ⟨_, eS⟩, fun D hD => lc_list (xs := vs) (fun i H' => H' D = some (.lst ((List.replicate i true).map V.bl)) ∧ Same H H') ⟨upd_same, same_new hD _⟩ (fun i H' _ p => p.2.seq eS) ?_ ?_⟩
  · intro i v H1 hi ⟨e1, s1⟩
    obtain ⟨r, hri, hrow⟩ := eA.at hi
    have hdr : r.dep ≤ deps rs := dep_at hri
    have hil : i < rs.length := by
      obtain ⟨h, _⟩ := List.getElem?_eq_some_iff.mp hri
      exact h
    refine ⟨rfl, yes (iteT ?_)⟩
    refine ⟨_, rfl, v, ss, r, rfl, RowAt.mono (Same.kp s1) r v hrow, oks_at hok hri, by omega, fun H2 s2 => ?_⟩
    refine ⟨_, s2 _ _ e1, ?_, ?_, fun b o hb => ?_⟩
    · rw [List.length_map, List.length_replicate, sizeLine_eq]
      omega
    · rw [upd_same, List.replicate_succ', List.map_append]
      rfl
    · rw [upd_ne (ne_of_none hb hD)]
      exact s2 b o (s1 b o hb)
  · intro H1 ⟨e1, s1⟩
    refine ⟨D, _, rfl, SqL.of e1, ?_⟩
    rw [all_true]
    exact k H1 s1
theorem all_sound {fw fr : Addr} {dw dr : FuncData} (F : Fun K "_law_sound" "_law_sound" s_sound f fd) (m : mg "_law_sound" = some (.ref f)) (b : Binds K fd ["_law_rows"] []) (FR : Fun K "_law_sound_row" "_law_sound_row" s_srow fr dr) (mR : mg "_law_sound_row" = some (.ref fr)) (bR : Binds K dr ["_law_row"] [])
    (B : Bn mg) (W : Df P w K mg base "_law_whole" 1 fw dw ["_law_found"] spWhole) : ∀ n, FnOk P w K mg base CX0 (2 * n + 1) f fd ["_law_rows"] (spSound K n)
  | 0 => none_left fun vs H Q E ⟨l, ss, rs, _, _, _, h, _⟩ => absurd h (Nat.not_lt_zero _)
  | n + 1 => ok_sound F B ⟨ok_srow FR B W ⟨all_sound F m b FR mR bR B W n, m, F.kp, b⟩, mR, FR.kp, bR⟩
end
end Lm
namespace Lm
open PySem L2
abbrev s_lval : Stmt := topS 27
abbrev s_lstep : Stmt := topS 28
abbrev s_llet : Stmt := topS 29
abbrev s_lrow : Stmt := topS 30
abbrev s_ldone : Stmt := topS 31
abbrev s_ltale : Stmt := topS 32
def spLVal : Sp := fun vs H Q _ => ∃ (a d s : Addr) (Hc : Hp) (m : Nat) (t : Tale) (e : Str) (v : V), vs = [v, .ref a] ∧ Tl Hc H a d s m t e ∧ ((∃ z, v = .str z) ∨ ∃ i, v = .int i) ∧ Q (.int (t.ρ.get v)) H
def spLStep : Sp := fun vs H Q _ => ∃ (a d s : Addr) (Hc : Hp) (m : Nat) (t : Tale), vs = [.ref a] ∧ Tl Hc H a d s m t "done" ∧ (m ≤ t.steps → ∀ H', Tl Hc H' a d s m t "too long" → Q (.bl false) H') ∧
  (t.steps < m → ∀ H', Tl Hc H' a d s m t.tick "done" → H' d = H d → Q (.bl true) H')
def LDid (Hc : Hp) (a d s : Addr) (m : Nat) (c : Cmd) (t : Tale) (Q : VK) : Prop := ∀ (H' : Hp) (t' : Tale) (e : Ed), Does m c t t' e → Tl Hc H' a d s m t' e.txt → Q (.bl (decide (e = Ed.done))) H'
def spLLet (K : PySem.W.Frag) : Sp := fun vs H Q _ => ∃ (a d s : Addr) (Hc : Hp) (m : Nat) (t : Tale) (v : V) (to sg : Str) (x y : Vl) (ss : List Str) (kvs : List (Key × V)), vs = [v, .ref a] ∧ t.steps < m ∧ H d = some (.dK kvs) ∧ DV (.dK kvs) t.ρ (100 + t.steps) ∧ Tl Hc H a d s m t.tick "done" ∧
  RowAt K Hc (.lt to sg x y) v ∧ (Row.lt to sg x y).ok ss ∧ LDid Hc a d s m (.one (.lt to sg x y)) t Q
def spLRow (K : PySem.W.Frag) (n : Nat) : Sp := fun vs H Q _ => ∃ (a d s : Addr) (Hc : Hp) (m : Nat) (t : Tale) (v : V) (r : Row) (ss : List Str), vs = [v, .ref a] ∧ Tl Hc H a d s m t "done" ∧ RowAt K Hc r v ∧ r.ok ss ∧ r.dep ≤ n ∧ LDid Hc a d s m (.one r) t Q
def spLDone (K : PySem.W.Frag) (n : Nat) : Sp := fun vs H Q _ => ∃ (a d s : Addr) (Hc : Hp) (m : Nat) (t : Tale) (l : Addr) (rs : List Row) (ss : List Str), vs = [.ref l, .ref a] ∧ Tl Hc H a d s m t "done" ∧ RowsAt K Hc l rs ∧ oks ss rs ∧ deps rs < n ∧ LDid Hc a d s m (.all rs) t Q
def spLTale (K : PySem.W.Frag) (n : Nat) : Sp := fun vs H Q _ => ∃ (l g : Addr) (kvs : List (Key × V)) (ρ : Wh) (m : Nat) (rs : List Row) (ss : List Str), vs = [.ref l, .ref g, .int m] ∧ RowsAt K H l rs ∧ oks ss rs ∧ deps rs < n ∧ H g = some (.dK kvs) ∧ DV (.dK kvs) ρ 100 ∧ ρ.small ∧ m ≤ 100000 ∧
  ∀ (H' : Hp) (t : Tale) (e : Ed) (a d s : Addr), Does m (.all rs) ⟨ρ, [], 0⟩ t e → Tl H H' a d s m t e.txt → Q (.ref a) H'
section
variable {P : Program} {w : World} {K : PySem.W.Frag} {mg : Str → Option Value} {base : Heap} {f : Addr} {fd : FuncData}
theorem sc_lval : FnScope ["_law_thing", "_law_tale_here"] ["_law_thing", "_law_tale_here"] (defScope s_lval) := ⟨rfl, rfl, rfl, by decide +kernel, rfl, by decide +kernel, by decide +kernel⟩
theorem ok_lval (F : Fun K "_law_value_of" "_law_value_of" s_lval f fd) (B : Bn mg) : FnOk P w K mg base CX0 1 f fd ["_law_thing", "_law_tale_here"] spLVal := by
  refine F.ok sc_lval (fun vs H Q E h => ?_) (fun cdv A outer s H vs Q E hr h => ?_)
  · obtain ⟨a, d, s, Hc, m, t, e, v, rfl, _⟩ := h
    rfl
  obtain ⟨a, d, s, Hc, m, t, e, v, rfl, hP, hv, k⟩ := h
  have hu := hu_of hr
  refine ⟨_, pss_cons (ps_if (pt_val (pe_callB call_isi rfl B.isinstance (by decide +kernel) (pa_cons (pv 0) (pa_cons (pe_bltn (v := .ty "str") rfl B.str (by decide +kernel) rfl) pa_nil))))
      (pss_one (ps_ret (pe_dget2 hu (pe_dget hu (pv 1) pe_str (fun _ _ => rfl)) (pv 0) pe_int ⟨rfl, rfl, rfl, rfl⟩))) pss_nil) <|
    pss_one (ps_ret (pv 0)), ?_⟩
  obtain ⟨kvs, h2, h3⟩ := hP.dc
  have g1 := DGet.k (k := Sum.inr "values") hP.ob
  rw [tk_values] at g1
  rcases hv with ⟨z, rfl⟩ | ⟨i, rfl⟩
  · refine ⟨_, rfl, _, _, _, _, true, rfl, .ty _, ty_str _, kit_ty (by decide +kernel), _, rfl, iteT ?_⟩
    refine ⟨_, rfl, a, _, rfl, g1, d, rfl, .inl ⟨kvs, .inl h2⟩, _, rfl, _, DGet.k (k := Sum.inr z) h2, ?_⟩
    rw [h3.get z]
    exact k
  · exact ⟨_, rfl, _, _, _, _, false, rfl, .ty _, ty_int _, kit_ty (by decide +kernel), _, rfl, iteF ⟨_, rfl, k⟩⟩
theorem tk_room (d s : Addr) (n m : Int) (e : Str) : (tk d s n m e).length < sizeLine := by
  show 5 < sizeLine
  decide
theorem sc_lstep : FnScope ["_law_tale_here"] ["_law_tale_here"] (defScope s_lstep) := ⟨rfl, rfl, rfl, by decide +kernel, rfl, by decide +kernel, by decide +kernel⟩
theorem ok_lstep (F : Fun K "_law_step" "_law_step" s_lstep f fd) : FnOk P w K mg base CX0 1 f fd ["_law_tale_here"] spLStep := by
  refine F.ok sc_lstep (fun vs H Q E h => ?_) (fun cdv A outer s H vs Q E hr h => ?_)
  · obtain ⟨a, d, s, Hc, m, t, rfl, _⟩ := h
    rfl
  obtain ⟨a, d, s, Hc, m, t, rfl, hP, k1, k2⟩ := h
  have hu := hu_of hr
  refine ⟨_, pss_cons (ps_if (pt_cmpR op_eq (pe_dget hu (pv 0) pe_str (fun _ _ => rfl)) (pe_dget hu (pv 0) pe_str (fun _ _ => rfl)) (nomark _)) (pss_cons (ps_dput hu (pv 0) pe_str pe_str rfl) (pss_one (ps_ret pe_bl))) pss_nil) <|
    pss_cons (ps_dput hu (pv 0) pe_str (pe_op op_add (pe_dget hu (pv 0) pe_str (fun _ _ => rfl)) pe_int) rfl) <| pss_one (ps_ret pe_bl), ?_⟩
  have g1 := DGet.k (k := Sum.inr "steps") hP.ob
  rw [tk_steps] at g1
  have g2 := DGet.k (k := Sum.inr "most") hP.ob
  rw [tk_most] at g2
  have hst := hP.st
  refine ⟨_, rfl, a, _, rfl, g1, _, rfl, a, _, rfl, g2, rfl, _, rfl, ?_⟩
  refine ite2 (fun c => ?_) (fun c => ?_)
  · have c' : (t.steps : Int) = (m : Int) := V.int.inj (of_decide_eq_true c)
    exact ⟨_, rfl, a, _, rfl, DPut.k (k := Sum.inr "ending") hP.ob (tk_room _ _ _ _ _), k1 (by omega) _ (hP.ended _)⟩
  · have c' : ¬ t.steps = m := fun z => c (decide_eq_true (by rw [z]))
    exact ⟨_, rfl, a, _, rfl, g1, _, _, rfl, rfl, _, rfl, a, _, rfl, DPut.k (k := Sum.inr "steps") hP.ob (tk_room _ _ _ _ _), k2 (by omega) _ (hP.ticked (by omega)) (upd_ne hP.ne.1.symm)⟩
theorem sc_llet : FnScope ["_law_row", "_law_tale_here", "_law_one", "_law_other", "_law_came"] ["_law_row", "_law_tale_here"] (defScope s_llet) := ⟨rfl, rfl, rfl, by decide +kernel, rfl, by decide +kernel, by decide +kernel⟩
theorem sgq (x y : Str) : decide (V.str x = V.str y) = decide (x = y) := by
  by_cases h : x = y
  · rw [h, decide_eq_true rfl, decide_eq_true rfl]
  · rw [decide_eq_false h, decide_eq_false (fun z => h (V.str.inj z))]
theorem ok_llet {fw : Addr} {dw : FuncData} (F : Fun K "_law_let_done" "_law_let_done" s_llet f fd) (mi : mg "int" = none) (W : Df P w K mg base "_law_value_of" 1 fw dw ["_law_thing", "_law_tale_here"] spLVal) : FnOk P w K mg base CX0 2 f fd ["_law_row", "_law_tale_here"] (spLLet K) := by
  refine F.ok sc_llet (fun vs H Q E h => ?_) (fun cdv A outer s H vs Q E hr h => ?_)
  · obtain ⟨a, d, s, Hc, m, t, v, to, sg, x, y, ss, kvs, rfl, _⟩ := h
    rfl
  obtain ⟨a, d, s, Hc, m, t, v, to, sg, x, y, ss, kvs, rfl, hm, h2, h3, hP, ⟨q, h1, hq⟩, hok, k⟩ := h
  subst h1
  have nd := sc_llet.nd
  have hu := hu_of hr
  refine ⟨_, pss_cons (ps_set (i := 2) nd rfl (Or.inl rfl) (pe_df W hr (pa_cons (pe_ix ix_tup (pv 0) pe_int (fun _ _ => rfl)) (pa_cons (pv 1) pa_nil)))) <|
    pss_cons (ps_set (i := 3) nd rfl (Or.inl rfl) (pe_df W hr (pa_cons (pe_ix ix_tup (pv 0) pe_int (fun _ _ => rfl)) (pa_cons (pv 1) pa_nil)))) <|
    pss_cons (ps_if (PW.pt (pw_and (pt_cmpR op_eq (pe_ix ix_tup (pv 0) pe_int (fun _ _ => rfl)) pe_str (nomark _)) (pw_and1 (pt_cmpR op_eq (pv 3) pe_int (nomark _)))))
      (pss_cons (ps_dput hu (pv 1) pe_str pe_str rfl) (pss_one (ps_ret pe_bl))) pss_nil) <|
    C8.pss_cut (ps_if (pt_cmpR op_eq (pe_ix ix_tup (pv 0) pe_int (fun _ _ => rfl)) pe_str (nomark _)) (pss_one (ps_set (i := 4) nd rfl (Or.inl rfl) (pe_op op_mod (pe_op op_add (pv 2) (pv 3)) pe_int)))
      (pss_one (ps_if (pt_cmpR op_eq (pe_ix ix_tup (pv 0) pe_int (fun _ _ => rfl)) pe_str (nomark _)) (pss_one (ps_set (i := 4) nd rfl (Or.inl rfl) (pe_op op_mod (pe_op op_sub (pv 2) (pv 3)) pe_int)))
        (pss_one (ps_if (pt_cmpR op_eq (pe_ix ix_tup (pv 0) pe_int (fun _ _ => rfl)) pe_str (nomark _)) (pss_one (ps_set (i := 4) nd rfl (Or.inl rfl) (pe_op op_mod (pe_op op_mul (pv 2) (pv 3)) pe_int)))
          (pss_one (ps_if (pt_cmpR op_eq (pe_ix ix_tup (pv 0) pe_int (fun _ _ => rfl)) pe_str (nomark _)) (pss_one (ps_set (i := 4) nd rfl (Or.inl rfl) (pe_callTy call_int1 rfl mi (by decide +kernel) (pa_cons (pe_cmpR op_lt (pv 2) (pv 3) (nomark _)) pa_nil))))
            (pss_one (ps_set (i := 4) nd rfl (Or.inl rfl) (pe_op op_fdivN (pv 2) (pv 3))))))))))) <|
    pss_cons (ps_dput hu (pe_dget hu (pv 1) pe_str (fun _ _ => rfl)) (pe_ix ix_tup (pv 0) pe_int (fun _ _ => rfl)) (pv 4) rfl) <|
    pss_one (ps_ret pe_bl), ?_⟩
  have hT : SqT K H q [.str "let", .str to, .str sg, x.v, y.v] := Kp.sqT (Same.kp hP.cl) hq
  have ysm : 0 ≤ t.ρ.get y.v ∧ t.ρ.get y.v < 1000000 := Wh.small.vl hP.sm hok.2.2.2
  have xsm : 0 ≤ t.ρ.get x.v ∧ t.ρ.get x.v < 1000000 := Wh.small.vl hP.sm hok.2.2.1
  have room : kvs.length < sizeLine := by
    obtain ⟨kvs', e, _, _, _, hl⟩ := h3.ex
    cases e
    have := hP.mm
    rw [sizeLine_eq]
    omega
  have kd : ∀ z : Vl, (∃ u, z.v = .str u) ∨ ∃ i, z.v = .int i := fun z => match z with
    | .nm u => .inl ⟨u, rfl⟩
    | .nu i => .inr ⟨i, rfl⟩
  refine ⟨_, rfl, q, _, _, _, rfl, rfl, hT, atI_nat (j := 3) rfl, _, rfl, a, d, s, Hc, m, t.tick, "done", x.v, rfl, hP, kd x, ?_⟩
  refine ⟨_, rfl, q, _, _, _, rfl, rfl, hT, atI_nat (j := 4) rfl, _, rfl, a, d, s, Hc, m, t.tick, "done", y.v, rfl, hP, kd y, ?_⟩
  have g2 := DGet.k (k := Sum.inr "values") hP.ob
  rw [tk_values] at g2
  have xsm' : 0 ≤ t.tick.ρ.get x.v ∧ t.tick.ρ.get x.v < 1000000 := xsm
  have ysm' : 0 ≤ t.tick.ρ.get y.v ∧ t.tick.ρ.get y.v < 1000000 := ysm
  have fin : ¬ (sg = "/" ∧ t.ρ.get y.v = 0) → Q (.bl true) (upd H d (.dK (putK kvs (Sum.inr to) (.int (comeTo sg (t.ρ.get x.v) (t.ρ.get y.v)))))) := fun hn => by
    have cs := comeTo_small (sg := sg) xsm ysm
    exact k _ _ .done (.letDone hm hn) (hP.puts h3 to cs.1 cs.2)
  have last : ∀ v4 : Int, ¬ (sg = "/" ∧ t.ρ.get y.v = 0) → v4 = comeTo sg (t.ρ.get x.v) (t.ρ.get y.v) → Q (.bl true) (upd H d (.dK (putK kvs (Sum.inr to) (.int v4)))) := fun v4 hn e => by
    rw [e]
    exact fin hn
  have way : ∀ (z : Str) {A B : Prop}, (sg = z → A) → (¬ sg = z → B) → if decide (V.str sg = V.str z) = true then A else B := fun z A B h1 h2 => by
    rw [sgq]
    by_cases c : sg = z
    · rw [decide_eq_true c]
      exact iteT (h1 c)
    · rw [decide_eq_false c]
      exact iteF (h2 c)
  refine ⟨_, rfl, q, _, _, _, rfl, rfl, hT, atI_nat (j := 2) rfl, rfl, _, rfl, ?_⟩
  rw [sgq]
  by_cases hn : sg = "/" ∧ t.ρ.get y.v = 0
  · rw [decide_eq_true hn.1]
    refine iteT ⟨_, rfl, rfl, _, rfl, ifT (decide_eq_true (by rw [show t.tick.ρ.get y.v = 0 from hn.2])) ?_⟩
    exact ⟨_, rfl, a, _, rfl, DPut.k (k := Sum.inr "ending") hP.ob (tk_room _ _ _ _ _), k _ t.tick .nought (.letNought hm hn.1 hn.2) (hP.ended _)⟩
  by_cases c0 : sg = "/" <;> first
    | (rw [decide_eq_true c0]; refine iteT ⟨_, rfl, rfl, _, rfl, ifF (decide_eq_false fun z => hn ⟨c0, V.int.inj z⟩) ?_⟩)
    | (rw [decide_eq_false c0]; refine iteF ?_)
  all_goals
    refine ⟨fun σ H' => ∃ v4 : Int, σ = [some (.ref q), some (.ref a), some (.int (t.ρ.get x.v)), some (.int (t.ρ.get y.v)), some (.int v4)] ∧ H' = H ∧ v4 = comeTo sg (t.ρ.get x.v) (t.ρ.get y.v), ?_, ?_⟩
    · refine ⟨_, rfl, q, _, _, _, rfl, rfl, hT, atI_nat (j := 2) rfl, rfl, _, rfl, way _ (fun c1 => ?_) (fun c1 => ?_)⟩
      · exact ⟨_, rfl, _, rfl, _, _, rfl, rfl, _, _, rfl, rfl, (by show (0 : Int) < 1000000; decide), _, rfl, rfl, (if_pos c1).symm⟩
      refine ⟨_, rfl, q, _, _, _, rfl, rfl, hT, atI_nat (j := 2) rfl, rfl, _, rfl, way _ (fun c2 => ?_) (fun c2 => ?_)⟩
      · exact ⟨_, rfl, _, rfl, _, _, rfl, rfl, _, _, rfl, rfl, (by show (0 : Int) < 1000000; decide), _, rfl, rfl, ((if_neg c1).trans (if_pos c2)).symm⟩
      refine ⟨_, rfl, q, _, _, _, rfl, rfl, hT, atI_nat (j := 2) rfl, rfl, _, rfl, way _ (fun c3 => ?_) (fun c3 => ?_)⟩
      · exact ⟨_, rfl, _, rfl, _, _, rfl, rfl, .inl ⟨by omega, by omega⟩, _, _, rfl, rfl, (by show (0 : Int) < 1000000; decide), _, rfl, rfl, ((if_neg c1).trans ((if_neg c2).trans (if_pos c3))).symm⟩
      refine ⟨_, rfl, q, _, _, _, rfl, rfl, hT, atI_nat (j := 2) rfl, rfl, _, rfl, way _ (fun c4 => ?_) (fun c4 => ?_)⟩
      · refine ⟨_, rfl, _, rfl, _, _, rfl, rfl, .inr ⟨_, rfl, _, rfl, rfl, ?_⟩⟩
        refine Eq.trans ?_ ((if_neg c1).trans ((if_neg c2).trans ((if_neg c3).trans (if_pos c4)))).symm
        by_cases c : t.ρ.get x.v < t.ρ.get y.v
        · rw [if_pos c]
          exact if_pos (decide_eq_true c)
        · rw [if_neg c]
          exact if_neg (by rw [show decide (t.tick.ρ.get x.v < t.tick.ρ.get y.v) = false from decide_eq_false c]; exact Bool.false_ne_true)
      · have c5 : sg = "/" := by
          have hs := hok.2.1
          simp only [signs, List.mem_cons, List.not_mem_nil, or_false] at hs
          rcases hs with e | e | e | e | e
          · exact absurd e c1
          · exact absurd e c2
          · exact absurd e c3
          · exact absurd e c4
          · exact e
        exact ⟨_, rfl, _, rfl, _, _, rfl, rfl, ⟨fun z => hn ⟨c5, z⟩, by omega⟩, _, rfl, rfl, ((if_neg c1).trans ((if_neg c2).trans ((if_neg c3).trans (if_neg c4)))).symm⟩
    · rintro σ H' ⟨v4, rfl, rfl, e4⟩
      exact ⟨_, rfl, _, rfl, a, _, rfl, g2, _, rfl, q, _, _, _, rfl, rfl, hT, atI_nat (j := 1) rfl, d, _, rfl, DPut.k (k := Sum.inr to) h2 room, last v4 hn e4⟩
end
end Lm
namespace Lm
open PySem L2
section
variable {P : Program} {w : World} {K : PySem.W.Frag} {mg : Str → Option Value} {base : Heap} {f : Addr} {fd : FuncData}
theorem sc_lrow : FnScope ["_law_row", "_law_tale_here"] ["_law_row", "_law_tale_here"] (defScope s_lrow) := ⟨rfl, rfl, rfl, by decide +kernel, rfl, by decide +kernel, by decide +kernel⟩
theorem ok_lrow {n k : Nat} {f1 f2 f3 f4 : Addr} {d1 d2 d3 d4 : FuncData} (F : Fun K "_law_row_done" "_law_row_done" s_lrow f fd) (W : Df P w K mg base "_law_value_of" 1 f1 d1 ["_law_thing", "_law_tale_here"] spLVal) (S : Df P w K mg base "_law_step" 1 f2 d2 ["_law_tale_here"] spLStep)
    (L : Df P w K mg base "_law_let_done" 2 f3 d3 ["_law_row", "_law_tale_here"] (spLLet K)) (R : Df P w K mg base "_law_done" k f4 d4 ["_law_rows", "_law_tale_here"] (spLDone K n)) (hk : 2 ≤ k) : FnOk P w K mg base CX0 (k + 1) f fd ["_law_row", "_law_tale_here"] (spLRow K n) := by
  refine F.ok sc_lrow (fun vs H Q E h => ?_) (fun cdv A outer s H vs Q E hr h => ?_)
  · obtain ⟨a, d, s, Hc, m, t, v, r, ss, rfl, _⟩ := h
    rfl
  obtain ⟨a, d, s, Hc, m, t, v, r, ss, rfl, hP, hR, hok, hd, q⟩ := h
  have r1 : Room 1 _ := hr.mono (by omega)
  have r2 : Room 2 _ := hr.mono hk
  have hu := hu_of hr
  refine ⟨_, pss_cons (ps_if (pt_cmpR op_eq (pe_ix ix_tup (pv 0) pe_int (fun _ _ => rfl)) pe_str (nomark _)) (pss_one (ps_ret (pe_and (pe_df S r1 (pa_cons (pv 1) pa_nil)) (pe_one (pe_df L r2 (pa_cons (pv 0) (pa_cons (pv 1) pa_nil))))))) pss_nil) <|
    pss_cons (ps_if (pt_cmpR op_eq (pe_ix ix_tup (pv 0) pe_int (fun _ _ => rfl)) pe_str (nomark _))
      (pss_cons (ps_if (pt_not (pt_val (pe_df S r1 (pa_cons (pv 1) pa_nil)))) (pss_one (ps_ret pe_bl)) pss_nil) <|
       pss_cons (ps_expr (pe_bm PySem.F.plainAttrs_list PySem.F.slot_list_append PySem.F.type_list_append mt_append (pe_dget hu (pv 1) pe_str (fun _ _ => rfl)) (pa_cons (pe_df W r1 (pa_cons (pe_ix ix_tup (pv 0) pe_int (fun _ _ => rfl)) (pa_cons (pv 1) pa_nil))) pa_nil))) <|
       pss_one (ps_ret pe_bl)) pss_nil) <|
    pss_cons (ps_if (PW.pt (pw_and (pt_cmpR op_eq (pe_ix ix_tup (pv 0) pe_int (fun _ _ => rfl)) pe_str (nomark _)) (pw_and1 (pt_not (pt_val (pe_df R hr (pa_cons (pe_ix ix_tup (pv 0) pe_int (fun _ _ => rfl)) (pa_cons (pv 1) pa_nil))))))))
      (pss_one (ps_ret pe_bl)) pss_nil) <|
    pss_cons (ps_while PassesOwn.never (pt_val (pe_df S r1 (pa_cons (pv 1) pa_nil)))
      (pss_cons (ps_if (pt_cmpR op_eq (pe_df W r1 (pa_cons (pe_ix ix_tup (pv 0) pe_int (fun _ _ => rfl)) (pa_cons (pv 1) pa_nil))) pe_int (nomark _)) (pss_one (ps_ret pe_bl)) pss_nil) <|
       pss_cons (ps_if (pt_not (pt_val (pe_df R hr (pa_cons (pe_ix ix_tup (pv 0) pe_int (fun _ _ => rfl)) (pa_cons (pv 1) pa_nil))))) (pss_one (ps_ret pe_bl)) pss_nil) <|
       pss_one (ps_if (pt_cmpR op_eq (pe_ix ix_tup (pv 0) pe_int (fun _ _ => rfl)) pe_str (nomark _)) (pss_one (ps_ret pe_bl)) pss_nil))) <|
    pss_one (ps_ret pe_bl), ?_⟩
  have kk := Same.kp hP.cl
  match r, hR, hok, hd, q with
  | .lt to sg x y, ⟨u, h1, h2⟩, hok, hd, q =>
    subst h1
    have hT := Kp.sqT kk h2
    obtain ⟨kvs, g2, g3⟩ := hP.dc
    refine ⟨_, rfl, u, _, _, _, rfl, rfl, hT, atI_nat (j := 0) rfl, rfl, _, rfl, ifT (decide_eq_true rfl) ?_⟩
    refine ⟨_, rfl, a, d, s, Hc, m, t, rfl, hP, fun hm H1 hP1 => ⟨_, rfl, iteF ?_⟩, fun hm H1 hP1 ed => ⟨_, rfl, iteT ?_⟩⟩
    · exact q H1 t .long (.letLong hm) hP1
    · exact ⟨_, rfl, _, rfl, a, d, s, Hc, m, t, .ref u, to, sg, x, y, ss, kvs, rfl, hm, ed.trans g2, g3, hP1, ⟨u, rfl, h2⟩, hok, q⟩
  | .sy x, ⟨u, h1, h2⟩, hok, hd, q =>
    subst h1
    have hT := Kp.sqT kk h2
    have kd : ∀ z : Vl, (∃ u, z.v = .str u) ∨ ∃ i, z.v = .int i := fun z => match z with
      | .nm u => .inl ⟨u, rfl⟩
      | .nu i => .inr ⟨i, rfl⟩
    refine ⟨_, rfl, u, _, _, _, rfl, rfl, hT, atI_nat (j := 0) rfl, rfl, _, rfl, ifF (by decide +kernel) ?_⟩
    refine ⟨_, rfl, u, _, _, _, rfl, rfl, hT, atI_nat (j := 0) rfl, rfl, _, rfl, ifT (decide_eq_true rfl) ?_⟩
    refine ⟨_, rfl, a, d, s, Hc, m, t, rfl, hP, fun hm H1 hP1 => ⟨_, rfl, iteT ?_⟩, fun hm H1 hP1 ed => ⟨_, rfl, iteF ?_⟩⟩
    · exact q H1 t .long (.sayLong hm) hP1
    have hT1 := Kp.sqT (Same.kp hP1.cl) h2
    have g1 := DGet.k (k := Sum.inr "said") hP1.ob
    rw [tk_said] at g1
    refine ⟨_, rfl, a, _, rfl, g1, .inl ⟨rfl, _, SqL.of hP1.sd⟩, ?_⟩
    refine ⟨_, rfl, u, _, _, _, rfl, rfl, hT1, atI_nat (j := 1) rfl, _, rfl, a, d, s, Hc, m, t.tick, "done", x.v, rfl, hP1, kd x, ?_⟩
    refine ⟨s, _, _, rfl, rfl, hP1.sd, ?_, ?_⟩
    · have h7 := hP1.sl
      have h8 := hP1.st
      have h9 := hP1.mm
      rw [List.length_map, sizeLine_eq]
      omega
    · exact q _ _ .done (.sayDone hm) (hP1.says hP.sl _)
  | .bk kd ts rs, ⟨u, l, vs, h1, h2, h3, h4⟩, hok, hd, q =>
    subst h1
    obtain ⟨hk1, ⟨x, rfl, hx⟩, hl, hok2⟩ := hok
    have hdr : deps rs < n := hd
    have hT := Kp.sqT kk h2
    have hTa : ∀ {H' : Hp} {t' : Tale} {e : Str}, Tl Hc H' a d s m t' e → SqT K H' u [.str kd, .str x, .ref l] := fun h => Kp.sqT (Same.kp h.cl) h2
    refine ⟨_, rfl, u, _, _, _, rfl, rfl, hT, atI_nat (j := 0) rfl, rfl, _, rfl, ifF (kd_let hk1) ?_⟩
    refine ⟨_, rfl, u, _, _, _, rfl, rfl, hT, atI_nat (j := 0) rfl, rfl, _, rfl, ifF (kd_say hk1) ?_⟩
    refine ⟨_, rfl, u, _, _, _, rfl, rfl, hT, atI_nat (j := 0) rfl, rfl, _, rfl, ?_⟩
    simp only [kinds, List.mem_cons, List.not_mem_nil, or_false] at hk1
    have hnw : ∀ {y : Str}, kd = y → ¬ y = "when" → ¬ kd = "when" := fun h1 h2 h3 => h2 (h1.symm.trans h3)
    rcases hk1 with e | e | e
    · obtain ⟨c, t0, H0, tu, hP0, q0, eH⟩ : ∃ (c : Cmd) (t0 : Tale) (H0 : Hp), Turns m kd x rs c ∧ Tl Hc H0 a d s m t0 "done" ∧ LDid Hc a d s m c t0 Q ∧ H0 = H := ⟨_, t, H, by rw [e]; exact turns_when, hP, by rw [e] at q; exact q, rfl⟩
      refine ifF (by rw [e]; decide +kernel) (iteF ?_)
      rw [← eH]
      refine ⟨fun j σ H' => ∃ t1 : Tale, j = m - t1.steps ∧ σ = [some (.ref u), some (.ref a)] ∧ Tl Hc H' a d s m t1 "done" ∧ LDid Hc a d s m c t1 Q, ⟨_, t0, rfl, rfl, hP0, q0⟩, ?_⟩
      rintro j σ H1 ⟨t1, rfl, rfl, hP1, q1⟩
      refine ⟨_, rfl, a, d, s, Hc, m, t1, rfl, hP1, fun hm H2 hP2 => ⟨_, rfl, iteF ?_⟩, fun hm H2 hP2 _ => ⟨_, rfl, iteT ?_⟩⟩
      · exact q1 H2 t1 .long (tu.long _ hm) hP2
      refine ⟨fun σ' H' => ∃ t2 : Tale, t1.steps < t2.steps ∧ σ' = [some (.ref u), some (.ref a)] ∧ Tl Hc H' a d s m t2 "done" ∧ LDid Hc a d s m c t2 Q, fun σ' H' ⟨t2, y1, y2, y3, y4⟩ => ⟨m - t2.steps, by omega, t2, rfl, y2, y3, y4⟩, ?_⟩
      refine ⟨_, rfl, u, _, _, _, rfl, rfl, hTa hP2, atI_nat (j := 1) rfl, _, rfl, a, d, s, Hc, m, t1.tick, "done", .str x, rfl, hP2, .inl ⟨_, rfl⟩, rfl, _, rfl, ?_⟩
      refine ite2 (fun c0 => ?_) (fun c0 => ?_)
      · have z : t1.ρ.get (.str x) = 0 := V.int.inj (of_decide_eq_true c0)
        exact q1 H2 t1.tick .done (tu.no _ hm z) hP2
      have z : t1.ρ.get (.str x) ≠ 0 := fun y => c0 (decide_eq_true (by rw [show t1.tick.ρ.get (.str x) = 0 from y]))
      refine ⟨_, rfl, u, _, _, _, rfl, rfl, hTa hP2, atI_nat (j := 2) rfl, _, rfl, a, d, s, Hc, m, t1.tick, l, rs, ss, rfl, hP2, ⟨vs, h3, h4⟩, hok2, hdr, fun H3 t3 e3 hD3 hP3 => ⟨_, rfl, ?_⟩⟩
      by_cases c3 : e3 = Ed.done
      · subst c3
        refine iteF ⟨_, rfl, u, _, _, _, rfl, rfl, hTa hP3, atI_nat (j := 0) rfl, rfl, _, rfl, ?_⟩
        by_cases c4 : kd = "when"
        · exact ifT (by rw [c4]; exact decide_eq_true rfl) (q1 H3 t3 .done (tu.once _ _ c4 hm z hD3) hP3)
        · exact ifF (decide_eq_false fun y => c4 (V.str.inj y)) ⟨t3, Nat.lt_of_lt_of_le (Nat.lt_succ_self _) hD3.steps.1, rfl, hP3, fun H4 t4 e4 hD4 hP4 => q1 H4 t4 e4 (tu.round _ _ _ _ c4 hm z hD3 hD4) hP4⟩
      · have y := q1 H3 t3 e3 (tu.stop _ _ _ hm z hD3 c3) hP3
        rw [decide_eq_false c3] at y ⊢
        exact iteT y
    · obtain ⟨c, t0, H0, tu, hP0, q0, eH⟩ : ∃ (c : Cmd) (t0 : Tale) (H0 : Hp), Turns m kd x rs c ∧ Tl Hc H0 a d s m t0 "done" ∧ LDid Hc a d s m c t0 Q ∧ H0 = H := ⟨_, t, H, turns_lp (hnw e (by decide +kernel)), hP, fun H' t' e' hD hP' => q H' t' e' (.loop e hD) hP', rfl⟩
      refine ifF (by rw [e]; decide +kernel) (iteF ?_)
      rw [← eH]
      refine ⟨fun j σ H' => ∃ t1 : Tale, j = m - t1.steps ∧ σ = [some (.ref u), some (.ref a)] ∧ Tl Hc H' a d s m t1 "done" ∧ LDid Hc a d s m c t1 Q, ⟨_, t0, rfl, rfl, hP0, q0⟩, ?_⟩
      rintro j σ H1 ⟨t1, rfl, rfl, hP1, q1⟩
      refine ⟨_, rfl, a, d, s, Hc, m, t1, rfl, hP1, fun hm H2 hP2 => ⟨_, rfl, iteF ?_⟩, fun hm H2 hP2 _ => ⟨_, rfl, iteT ?_⟩⟩
      · exact q1 H2 t1 .long (tu.long _ hm) hP2
      refine ⟨fun σ' H' => ∃ t2 : Tale, t1.steps < t2.steps ∧ σ' = [some (.ref u), some (.ref a)] ∧ Tl Hc H' a d s m t2 "done" ∧ LDid Hc a d s m c t2 Q, fun σ' H' ⟨t2, y1, y2, y3, y4⟩ => ⟨m - t2.steps, by omega, t2, rfl, y2, y3, y4⟩, ?_⟩
      refine ⟨_, rfl, u, _, _, _, rfl, rfl, hTa hP2, atI_nat (j := 1) rfl, _, rfl, a, d, s, Hc, m, t1.tick, "done", .str x, rfl, hP2, .inl ⟨_, rfl⟩, rfl, _, rfl, ?_⟩
      refine ite2 (fun c0 => ?_) (fun c0 => ?_)
      · have z : t1.ρ.get (.str x) = 0 := V.int.inj (of_decide_eq_true c0)
        exact q1 H2 t1.tick .done (tu.no _ hm z) hP2
      have z : t1.ρ.get (.str x) ≠ 0 := fun y => c0 (decide_eq_true (by rw [show t1.tick.ρ.get (.str x) = 0 from y]))
      refine ⟨_, rfl, u, _, _, _, rfl, rfl, hTa hP2, atI_nat (j := 2) rfl, _, rfl, a, d, s, Hc, m, t1.tick, l, rs, ss, rfl, hP2, ⟨vs, h3, h4⟩, hok2, hdr, fun H3 t3 e3 hD3 hP3 => ⟨_, rfl, ?_⟩⟩
      by_cases c3 : e3 = Ed.done
      · subst c3
        refine iteF ⟨_, rfl, u, _, _, _, rfl, rfl, hTa hP3, atI_nat (j := 0) rfl, rfl, _, rfl, ?_⟩
        by_cases c4 : kd = "when"
        · exact ifT (by rw [c4]; exact decide_eq_true rfl) (q1 H3 t3 .done (tu.once _ _ c4 hm z hD3) hP3)
        · exact ifF (decide_eq_false fun y => c4 (V.str.inj y)) ⟨t3, Nat.lt_of_lt_of_le (Nat.lt_succ_self _) hD3.steps.1, rfl, hP3, fun H4 t4 e4 hD4 hP4 => q1 H4 t4 e4 (tu.round _ _ _ _ c4 hm z hD3 hD4) hP4⟩
      · have y := q1 H3 t3 e3 (tu.stop _ _ _ hm z hD3 c3) hP3
        rw [decide_eq_false c3] at y ⊢
        exact iteT y
    · refine ifT (by rw [e]; decide +kernel) ⟨_, rfl, u, _, _, _, rfl, rfl, hT, atI_nat (j := 2) rfl, _, rfl, a, d, s, Hc, m, t, l, rs, ss, rfl, hP, ⟨vs, h3, h4⟩, hok2, hdr, fun H0 t0 e0 hD0 hP0 => ⟨_, rfl, ?_⟩⟩
      by_cases c2 : e0 = Ed.done
      case neg =>
        have y := q H0 t0 e0 (.againStop e hD0 c2) hP0
        rw [decide_eq_false c2] at y ⊢
        exact iteT y
      subst c2
      have tu := turns_lp (m := m) (x := x) (rs := rs) (hnw e (by decide +kernel))
      have q0 : LDid Hc a d s m (.lp (.str x) rs) t0 Q := fun H' t' e' hD hP' => q H' t' e' (.again e hD0 hD) hP'
      obtain ⟨c, ec⟩ : ∃ c : Cmd, c = .lp (.str x) rs := ⟨_, rfl⟩
      rw [← ec] at tu q0
      refine iteF ?_
      refine ⟨fun j σ H' => ∃ t1 : Tale, j = m - t1.steps ∧ σ = [some (.ref u), some (.ref a)] ∧ Tl Hc H' a d s m t1 "done" ∧ LDid Hc a d s m c t1 Q, ⟨_, t0, rfl, rfl, hP0, q0⟩, ?_⟩
      rintro j σ H1 ⟨t1, rfl, rfl, hP1, q1⟩
      refine ⟨_, rfl, a, d, s, Hc, m, t1, rfl, hP1, fun hm H2 hP2 => ⟨_, rfl, iteF ?_⟩, fun hm H2 hP2 _ => ⟨_, rfl, iteT ?_⟩⟩
      · exact q1 H2 t1 .long (tu.long _ hm) hP2
      refine ⟨fun σ' H' => ∃ t2 : Tale, t1.steps < t2.steps ∧ σ' = [some (.ref u), some (.ref a)] ∧ Tl Hc H' a d s m t2 "done" ∧ LDid Hc a d s m c t2 Q, fun σ' H' ⟨t2, y1, y2, y3, y4⟩ => ⟨m - t2.steps, by omega, t2, rfl, y2, y3, y4⟩, ?_⟩
      refine ⟨_, rfl, u, _, _, _, rfl, rfl, hTa hP2, atI_nat (j := 1) rfl, _, rfl, a, d, s, Hc, m, t1.tick, "done", .str x, rfl, hP2, .inl ⟨_, rfl⟩, rfl, _, rfl, ?_⟩
      refine ite2 (fun c0 => ?_) (fun c0 => ?_)
      · have z : t1.ρ.get (.str x) = 0 := V.int.inj (of_decide_eq_true c0)
        exact q1 H2 t1.tick .done (tu.no _ hm z) hP2
      have z : t1.ρ.get (.str x) ≠ 0 := fun y => c0 (decide_eq_true (by rw [show t1.tick.ρ.get (.str x) = 0 from y]))
      refine ⟨_, rfl, u, _, _, _, rfl, rfl, hTa hP2, atI_nat (j := 2) rfl, _, rfl, a, d, s, Hc, m, t1.tick, l, rs, ss, rfl, hP2, ⟨vs, h3, h4⟩, hok2, hdr, fun H3 t3 e3 hD3 hP3 => ⟨_, rfl, ?_⟩⟩
      by_cases c3 : e3 = Ed.done
      · subst c3
        refine iteF ⟨_, rfl, u, _, _, _, rfl, rfl, hTa hP3, atI_nat (j := 0) rfl, rfl, _, rfl, ?_⟩
        by_cases c4 : kd = "when"
        · exact ifT (by rw [c4]; exact decide_eq_true rfl) (q1 H3 t3 .done (tu.once _ _ c4 hm z hD3) hP3)
        · exact ifF (decide_eq_false fun y => c4 (V.str.inj y)) ⟨t3, Nat.lt_of_lt_of_le (Nat.lt_succ_self _) hD3.steps.1, rfl, hP3, fun H4 t4 e4 hD4 hP4 => q1 H4 t4 e4 (tu.round _ _ _ _ c4 hm z hD3 hD4) hP4⟩
      · have y := q1 H3 t3 e3 (tu.stop _ _ _ hm z hD3 c3) hP3
        rw [decide_eq_false c3] at y ⊢
        exact iteT y
theorem sc_ldone : FnScope ["_law_rows", "_law_tale_here", "_law_row"] ["_law_rows", "_law_tale_here"] (defScope s_ldone) := ⟨rfl, rfl, rfl, by decide +kernel, rfl, by decide +kernel, by decide +kernel⟩
theorem ok_ldone {n k : Nat} {f1 : Addr} {d1 : FuncData} (F : Fun K "_law_done" "_law_done" s_ldone f fd) (R : Df P w K mg base "_law_row_done" k f1 d1 ["_law_row", "_law_tale_here"] (spLRow K n)) : FnOk P w K mg base CX0 (k + 1) f fd ["_law_rows", "_law_tale_here"] (spLDone K (n + 1)) := by
  refine F.ok sc_ldone (fun vs H Q E h => ?_) (fun cdv A outer s H vs Q E hr h => ?_)
  · obtain ⟨a, d, s, Hc, m, t, l, rs, ss, rfl, _⟩ := h
    rfl
  obtain ⟨a, d, s, Hc, m, t, l, rs, ss, rfl, hP, ⟨vs, eS, eA⟩, hok, hd, q⟩ := h
  have nd := sc_ldone.nd
  refine ⟨_, pss_cons (ps_for PassesOwn.never rfl (pi_list (pv 0)) (pg_name (i := 2) nd rfl (Or.inl rfl))
      (pss_one (ps_if (pt_not (pt_val (pe_df R hr (pa_cons (pv 2) (pa_cons (pv 1) pa_nil))))) (pss_one (ps_ret pe_bl)) pss_nil))) <|
    pss_one (ps_ret pe_bl), ?_⟩
  refine ⟨_, rfl, l, rfl, ⟨_, hP.cl.seq eS⟩, for_list (K := K) (a := l) (xs := vs) (fun i σ H' => ∃ (v2 : Option V) (t' : Tale), σ = [some (.ref l), some (.ref a), v2] ∧ Tl Hc H' a d s m t' "done" ∧ Does m (.all (rs.take i)) t t' .done)
    ⟨none, t, rfl, hP, .nil⟩ (fun i σ H' _ ⟨_, _, _, e, _⟩ => e.cl.seq eS) ?_ ?_⟩
  · rintro i v σ H1 hi ⟨v2, t1, rfl, hP1, hD1⟩
    obtain ⟨r, hri, hrow⟩ := eA.at hi
    have hdr := dep_at hri
    refine ⟨_, rfl, _, rfl, a, d, s, Hc, m, t1, v, r, ss, rfl, hP1, hrow, oks_at hok hri, by omega, fun H2 t2 e hD2 hP2 => ⟨_, rfl, ?_⟩⟩
    by_cases c : e = Ed.done
    · subst c
      exact iteF ⟨_, t2, rfl, hP2, hD1.step hri hD2⟩
    · have z := q H2 t2 e (hD1.stop hri hD2 c) hP2
      rw [decide_eq_false c] at z ⊢
      exact iteT z
  · rintro σ H1 ⟨v2, t1, rfl, hP1, hD1⟩
    rw [eA.len, List.take_length] at hD1
    exact q H1 t1 .done hD1 hP1
theorem sc_ltale : FnScope ["_law_rows", "_law_given_here", "_law_most", "_law_tale_here"] ["_law_rows", "_law_given_here", "_law_most"] (defScope s_ltale) := ⟨rfl, rfl, rfl, by decide +kernel, rfl, by decide +kernel, by decide +kernel⟩
theorem ok_ltale {n k : Nat} {f1 : Addr} {d1 : FuncData} (F : Fun K "_law_tale" "_law_tale" s_ltale f fd) (md : mg "dict" = none) (R : Df P w K mg base "_law_done" k f1 d1 ["_law_rows", "_law_tale_here"] (spLDone K n)) : FnOk P w K mg base CX0 (k + 1) f fd ["_law_rows", "_law_given_here", "_law_most"] (spLTale K n) := by
  refine F.ok sc_ltale (fun vs H Q E h => ?_) (fun cdv A outer s H vs Q E hr h => ?_)
  · obtain ⟨l, g, kvs, ρ, m, rs, ss, rfl, _⟩ := h
    rfl
  obtain ⟨l, g, kvs, ρ, m, rs, ss, rfl, hR, hok, hd, hg, hv, hs, hm, q⟩ := h
  have nd := sc_ltale.nd
  refine ⟨_, pss_cons (ps_set (i := 3) nd rfl (Or.inl rfl) (pe_disp (pps_cons pe_str (pe_callTy call_dictD rfl md (by decide +kernel) (pa_cons (pv 1) pa_nil)) (pps_cons pe_str (pe_lst pa_nil) (pps_cons pe_str pe_int (pps_cons pe_str (pv 2) (pps_cons pe_str pe_str pps_nil))))) (by rfl) (by rfl) (fun z => by cases z) (by decide))) <|
    pss_cons (ps_expr (pe_df R hr (pa_cons (pv 0) (pa_cons (pv 3) pa_nil)))) <|
    pss_one (ps_ret (pv 3)), ?_⟩
  intro a ha
  have s0 := same_new ha (.dK [])
  refine ⟨_, rfl, g, kvs, rfl, .inl (s0 _ _ hg), fun d hd0 => ?_⟩
  have nad : a ≠ d := ne_of_none upd_same hd0
  have hd1 : H d = none := by rw [upd_ne nad.symm] at hd0; exact hd0
  refine ⟨(by show 0 ≤ sizeLine; decide), fun s hs0 => ?_⟩
  have nds : d ≠ s := ne_of_none upd_same hs0
  have hs1 : (upd H a (.dK [])) s = none := by rw [upd_ne nds.symm] at hs0; exact hs0
  have nas : a ≠ s := ne_of_none upd_same hs1
  have hs2 : H s = none := by rw [upd_ne nas.symm] at hs1; exact hs1
  refine ⟨_, rfl, ?_⟩
  refine ⟨by rw [upd_ne nas, upd_ne nad, upd_same], tk d s 0 m "done", rfl, (by show 5 ≤ 15; decide), ?_⟩
  rw [tk_made]
  have tl : Tl H (upd (upd (upd (upd H a (.dK [])) d (.dK kvs)) s (.lst [])) a (.dK (tk d s 0 m "done"))) a d s m ⟨ρ, [], 0⟩ "done" :=
    ⟨upd_same, nad, ⟨kvs, by rw [upd_ne nad.symm, upd_ne nds, upd_same], hv.more (Nat.le_refl _)⟩, by rw [upd_ne nas.symm, upd_same]; rfl, Nat.le_refl _, Nat.zero_le _, hs, fun b o hb => by
      rw [upd_ne (ne_of_none hb ha), upd_ne (ne_of_none hb hs2), upd_ne (ne_of_none hb hd1), upd_ne (ne_of_none hb ha)]
      exact hb, ha, hd1, hs2, hm⟩
  exact ⟨_, rfl, _, rfl, a, d, s, H, m, _, l, rs, ss, rfl, tl, hR, hok, hd, fun H2 t e hD hP2 => ⟨_, rfl, q H2 t e a d s hD hP2⟩⟩
theorem all_ldone {f1 f2 f3 f4 f5 : Addr} {d1 d2 d3 d4 d5 : FuncData} (mi : mg "int" = none) (W : Df P w K mg base "_law_value_of" 1 f1 d1 ["_law_thing", "_law_tale_here"] spLVal) (S : Df P w K mg base "_law_step" 1 f2 d2 ["_law_tale_here"] spLStep)
    (L : Df P w K mg base "_law_let_done" 2 f3 d3 ["_law_row", "_law_tale_here"] (spLLet K)) (F1 : Fun K "_law_row_done" "_law_row_done" s_lrow f4 d4) (m1 : mg "_law_row_done" = some (.ref f4)) (b1 : Binds K d4 ["_law_row", "_law_tale_here"] [])
    (F2 : Fun K "_law_done" "_law_done" s_ldone f5 d5) (m2 : mg "_law_done" = some (.ref f5)) (b2 : Binds K d5 ["_law_rows", "_law_tale_here"] []) : ∀ n, Df P w K mg base "_law_done" (2 * n + 2) f5 d5 ["_law_rows", "_law_tale_here"] (spLDone K n)
  | 0 => ⟨none_left fun vs H Q E ⟨a, d, s, Hc, m, t, l, rs, ss, _, _, _, _, h, _⟩ => absurd h (Nat.not_lt_zero _), m2, F2.kp, b2⟩
  | n + 1 => ⟨ok_ldone F2 ⟨ok_lrow F1 W S L (all_ldone mi W S L F1 m1 b1 F2 m2 b2 n) (by omega), m1, F1.kp, b1⟩, m2, F2.kp, b2⟩
end
end Lm
namespace Lm
open PySem L2
abbrev s_given : Stmt := topS 21
def spGiven (K : PySem.W.Frag) : Sp := fun vs H Q _ => ∃ (c : Int) (a : Addr) (ss : List Str), vs = [.int c, .ref a] ∧ NamesAt K H a ss ∧ ∀ (g : Addr) (H' : Hp) (kvs : List (Key × V)) (ρ : Wh), H g = none → Same H H' → H' g = some (.dK kvs) → DV (.dK kvs) ρ 22 → ρ.small → Q (.ref g) H'
section
variable {P : Program} {w : World} {K : PySem.W.Frag} {mg : Str → Option Value} {base : Heap} {f a1 : Addr} {fd d1 : FuncData}
theorem sc_given : FnScope ["_law_cell", "_law_names_here", "_law_given_here", "_law_k", "_law_number"] ["_law_cell", "_law_names_here"] (defScope s_given) := ⟨rfl, rfl, rfl, by decide +kernel, rfl, by decide +kernel, by decide +kernel⟩
theorem ok_given (F : Fun K "_law_given" "_law_given" s_given f fd) (mr : mg "range" = none) (M : Df P w K mg base "_law_mixed" 1 a1 d1 ["_law_cell", "_law_k"] spMixed) : FnOk P w K mg base CX0 2 f fd ["_law_cell", "_law_names_here"] (spGiven K) := by
  refine F.ok sc_given (fun vs H Q E h => ?_) (fun cdv A outer s H vs Q E hr h => ?_)
  · obtain ⟨c, a, ss, rfl, _⟩ := h
    rfl
  obtain ⟨c, a, ss, rfl, hN, q⟩ := h
  have nd := sc_given.nd
  have hu := hu_of hr
  refine ⟨_, pss_cons (ps_set (i := 2) nd rfl (Or.inl rfl) pe_dnewK) <|
    pss_cons (ps_for PassesOwn.never rfl (pi_range1 rfl mr (pa_cons pe_int pa_nil)) (pg_name (i := 3) nd rfl (Or.inl rfl))
      (pss_cons (ps_set (i := 4) nd rfl (Or.inl rfl) (pe_df M hr (pa_cons (pv 0) (pa_cons (pv 3) pa_nil)))) <|
       C8.pss_cut (ps_if (pt_cmpR op_gt (pe_op op_mod (pv 4) pe_int) pe_int (nomark _)) (pss_one (ps_dput hu (pv 2) (pe_ix ix_list (pv 1) (pv 3) (fun _ _ => rfl)) (pe_op op_mod (pe_op op_fdiv (pv 4) pe_int) pe_int) rfl)) pss_nil) <|
       pss_one (ps_if (pt_cmpR op_eq (pe_op op_mod (pv 4) pe_int) pe_int (nomark _)) (pss_one (ps_dput hu (pv 2) (pe_ix ix_list (pv 1) (pv 3) (fun _ _ => rfl)) (pe_op op_mod (pe_op op_fdiv (pv 4) pe_int) pe_int) rfl)) pss_nil))) <|
    pss_one (ps_ret (pv 2)), ?_⟩
  intro g hg
  have s0 := same_new hg (.dK [])
  refine ⟨11, rfl, by decide, by decide, for_range (lo := 0) (n := 11) (fun i σ H' => ∃ (kvs : List (Key × V)) (ρ : Wh) (v3 v4 : Option V), σ = [some (.int c), some (.ref a), some (.ref g), v3, v4] ∧ Same H H' ∧ H' g = some (.dK kvs) ∧ DV (.dK kvs) ρ (2 * i) ∧ ρ.small)
    ⟨[], _, none, none, rfl, s0, upd_same, DV.nil, fun x v e => by cases e⟩ ?_ ?_⟩
  · rintro i σ H1 hi ⟨kvs, ρ, v3, v4, rfl, s1, eg, dv, sm⟩
    refine ⟨_, rfl, _, rfl, _, _, rfl, fun n hn0 hn1 => ?_⟩
    obtain ⟨nm, hnm, enm⟩ := (hN.mono (Same.kp s1)).at (z := 0 + (i : Int)) (by omega) (by omega)
    refine ⟨fun σ H' => ∃ (kvs : List (Key × V)) (ρ : Wh), σ = [some (.int c), some (.ref a), some (.ref g), some (.int (0 + (i : Int))), some (.int n)] ∧ Same H H' ∧ H' g = some (.dK kvs) ∧ DV (.dK kvs) ρ (2 * i + 1) ∧ ρ.small, ?_, ?_⟩
    · refine ⟨_, rfl, _, _, rfl, rfl, (by show (0 : Int) < 3; decide), _, _, rfl, rfl, _, rfl, ?_⟩
      refine ite2 (fun c1 => ?_) (fun c1 => ?_)
      · refine ⟨_, rfl, _, _, rfl, rfl, ⟨by decide, by decide⟩, _, _, rfl, rfl, (by show (0 : Int) < 4; decide), _, rfl, _, rfl, _, rfl, a, _, _, _, rfl, rfl, (hN.mono (Same.kp s1)).1, enm, g, _, rfl, DPut.k (k := Sum.inr nm) eg (by have := dv.few; rw [sizeLine_eq]; omega), ?_⟩
        exact ⟨_, _, rfl, fun b o hb => by rw [upd_ne (ne_of_none hb hg)]; exact s1 b o hb, upd_same, dv.put nm _, sm.put (by omega) (by omega)⟩
      · exact ⟨_, _, rfl, s1, eg, dv.more (by omega), sm⟩
    · rintro σ H2 ⟨kvs2, ρ2, rfl, s2, eg2, dv2, sm2⟩
      refine ⟨_, rfl, _, _, rfl, rfl, (by show (0 : Int) < 24; decide), rfl, _, rfl, ?_⟩
      refine ite2 (fun c1 => ?_) (fun c1 => ?_)
      · refine ⟨_, rfl, _, _, rfl, rfl, ⟨by decide, by decide⟩, _, _, rfl, rfl, (by show (0 : Int) < 1000000; decide), _, rfl, _, rfl, _, rfl, a, _, _, _, rfl, rfl, (hN.mono (Same.kp s2)).1, enm, g, _, rfl, DPut.k (k := Sum.inr nm) eg2 (by have := dv2.few; rw [sizeLine_eq]; omega), ?_⟩
        exact ⟨_, _, _, _, rfl, fun b o hb => by rw [upd_ne (ne_of_none hb hg)]; exact s2 b o hb, upd_same, (dv2.put nm _).more (by omega), sm2.put (by omega) (by omega)⟩
      · exact ⟨_, _, _, _, rfl, s2, eg2, dv2.more (by omega), sm2⟩
  · rintro σ H1 ⟨kvs, ρ, v3, v4, rfl, s1, eg, dv, sm⟩
    exact ⟨_, rfl, q g H1 kvs ρ hg s1 eg dv sm⟩
end
end Lm
namespace Lm
open PySem L2
abbrev s_law : Stmt := topS 33
def spLaw (K : PySem.W.Frag) : Sp := fun vs H Q _ => ∃ (a : Addr) (ns : List Int), vs = [.ref a] ∧ SqL K H a (ns.map V.int) ∧ ns.length ≤ 63 ∧ ∀ H', Q (.bl true) H'
theorem cutI (ns : List Int) (lo hi : Option Int) : ∃ ms : List Int, cutV (ns.map V.int) lo hi = ms.map V.int ∧ ms.length ≤ ns.length := by
  refine ⟨(ns.drop (HT.sIx ns.length 0 lo)).take (HT.sIx ns.length ns.length hi - HT.sIx ns.length 0 lo), ?_, ?_⟩
  · unfold cutV
    rw [List.length_map, List.map_take, List.map_drop]
    all_goals rfl
  · rw [List.length_take, List.length_drop]
    omega
theorem ed_done {e : Ed} : V.str e.txt = V.str "done" ↔ e = .done := by
  cases e with
  | done => exact ⟨fun _ => rfl, fun _ => rfl⟩
  | long => exact ⟨fun z => absurd (V.str.inj z) (by decide +kernel), fun z => by cases z⟩
  | nought => exact ⟨fun z => absurd (V.str.inj z) (by decide +kernel), fun z => by cases z⟩
def abcY : Str := "abcdefghijklmnopqrstuvwxy"
theorem abcY_all : below 25 (fun n => abcY.cps.toList[n]? == some (97 + n)) = true := by decide +kernel
theorem abcY_at {i : Nat} (h : i < 25) : atI abcY.cps.toList (0 + (i : Int)) = some (97 + i) := by
  rw [Int.zero_add]
  exact atI_nat (by simpa using below_at abcY_all (i := i) h)
theorem flat1_deps : ∀ {rs : List Row}, (∀ r ∈ rs, r.flat1) → deps rs = 0 ∧ tots rs = rs.length
  | [], _ => ⟨rfl, rfl⟩
  | r :: rs, h => by
    obtain ⟨h1, h2⟩ := flat1_deps (rs := rs) fun q hq => h q (List.mem_cons_of_mem _ hq)
    have hr := h r List.mem_cons_self
    match r, hr with
    | .lt to sg a b, _ => exact ⟨by show max 0 (deps rs) = 0; omega, by show 1 + tots rs = rs.length + 1; omega⟩
    | .sy a, _ => exact ⟨by show max 0 (deps rs) = 0; omega, by show 1 + tots rs = rs.length + 1; omega⟩
    | .bk _ _ _, z => exact z.elim
/-- the body while it is built; x: the name that counts down -/
structure Bq (K : PySem.W.Frag) (H2 Hc H : Hp) (l : Addr) (ss : List Str) (x : Str) (rs : List Row) (us : List V) : Prop where
  old : Same H2 Hc
  cl : Same Hc H
  no : Hc l = none
  at_ : H l = some (.lst us)
  all : AllAt K Hc rs us
  ok : oks (ss ++ zz25) rs
  flat : ∀ r ∈ rs, r.flat1
  off : ¬ setN (flats rs) x
/-- a row for it, at v -/
structure Rq (K : PySem.W.Frag) (Hc H : Hp) (ss : List Str) (x : Str) (v : V) (r : Row) : Prop where
  ex : ∃ Hd, Part Hc H Hd H ∧ RowAt K Hd r v
  ok : r.ok (ss ++ zz25)
  flat : r.flat1
  off : ¬ setN (flats [r]) x
section
variable {P : Program} {w : World} {K : PySem.W.Frag} {mg : Str → Option Value} {base : Heap} {f a0 a1 a2 a3 a4 a5 a6 a7 a8 a9 : Addr} {fd d0 d1 d2 d3 d4 d5 d6 d7 d8 d9 : FuncData}
abbrev nLaw : List Str := ["_law_script", "_law_names_here", "_law_given_here", "_law_rounds", "_law_body", "_law_k", "_law_number", "_law_row", "_law_found", "_law_begin", "_law_one", "_law_other"]
theorem sc_law : FnScope nLaw ["_law_script"] (defScope s_law) := ⟨rfl, rfl, rfl, by decide +kernel, rfl, by decide +kernel, by decide +kernel⟩
theorem ok_law (F : Fun K "law" "law" s_law f fd) (B : Bn mg) (mn : mg "min" = none) (mx : mg "max" = none) (D0 : Df P w K mg base "_law_mixed" 1 a0 d0 ["_law_cell", "_law_k"] spMixed) (D1 : Df P w K mg base "_law_cell_at" 1 a1 d1 ["_law_script", "_law_k"] (spCell K)) (D2 : Df P w K mg base "_law_names" 1 a2 d2 ["_law_cell"] spNamesD)
    (D3 : Df P w K mg base "_law_value" 1 a3 d3 ["_law_kind", "_law_number", "_law_names_here"] (spValue K)) (D4 : Df P w K mg base "_law_let" 2 a4 d4 ["_law_number", "_law_names_here"] (spLetC K))
    (D5 : Df P w K mg base "parted" 51 a5 d5 ["body"] (spParted K 50)) (D6 : Df P w K mg base "_law_sound" 101 a6 d6 ["_law_rows"] (spSound K 50)) (D7 : Df P w K mg base "_law_copied" 50 a7 d7 ["_law_rows"] (spCopied K 50))
    (D8 : Df P w K mg base "_law_given" 2 a8 d8 ["_law_cell", "_law_names_here"] (spGiven K)) (D9 : Df P w K mg base "_law_tale" 43 a9 d9 ["_law_rows", "_law_given_here", "_law_most"] (spLTale K 20)) : FnOk P w K mg base CX0 102 f fd ["_law_script"] (spLaw K) := by
  refine F.ok sc_law (fun vs H Q E h => ?_) (fun cdv A outer s H vs Q E hr h => ?_)
  · obtain ⟨a, ns, rfl, _⟩ := h
    rfl
  obtain ⟨a, ns, rfl, hS, h63, k⟩ := h
  have nd := sc_law.nd
  have hu := hu_of hr
  have r1 : Room 1 _ := hr.mono (by decide)
  have r2 : Room 2 _ := hr.mono (by decide)
  have r43 : Room 43 _ := hr.mono (by decide)
  have r50 : Room 50 _ := hr.mono (by decide)
  have r51 : Room 51 _ := hr.mono (by decide)
  have r101 : Room 101 _ := hr.mono (by decide)
  refine ⟨_, pss_cons (ps_set (i := 1) nd rfl (Or.inl rfl) (pe_df D2 r1 (pa_cons (pe_df D1 r1 (pa_cons (pv 0) (pa_cons pe_int pa_nil))) pa_nil))) <|
    pss_cons (ps_set (i := 2) nd rfl (Or.inl rfl) (pe_df D8 r2 (pa_cons (pe_df D1 r1 (pa_cons (pv 0) (pa_cons pe_int pa_nil))) (pa_cons (pv 1) pa_nil)))) <|
    pss_cons (ps_set (i := 3) nd rfl (Or.inl rfl) (pe_op op_mod (pe_df D1 r1 (pa_cons (pv 0) (pa_cons pe_int pa_nil))) pe_int)) <|
    pss_cons (ps_set (i := 4) nd rfl (Or.inl rfl) (pe_lst pa_nil)) <|
    pss_cons (ps_for PassesOwn.never rfl (pi_range1 rfl B.range (pa_cons (pe_callB (call_min2 rfl) rfl mn (by decide +kernel) (pa_cons pe_int (pa_cons (pe_callB call_len_seq rfl B.len PySem.boot_len (pa_cons (pe_slice sl_list (pv 0) (po_some pe_int) po_none) pa_nil)) pa_nil))) pa_nil)) (pg_name (i := 5) nd rfl (Or.inl rfl))
      (pss_cons (ps_set (i := 6) nd rfl (Or.inl rfl) (pe_df D0 r1 (pa_cons (pe_ix ix_list (pv 0) (pe_op op_add pe_int (pv 5)) (fun _ _ => rfl)) (pa_cons (pv 5) pa_nil)))) <|
       pss_cons (ps_set (i := 7) nd rfl (Or.inl rfl) (pe_df D4 r2 (pa_cons (pe_op op_fdiv (pv 6) pe_int) (pa_cons (pv 1) pa_nil)))) <|
       C8.pss_cut (ps_if (PW.pt (pw_and (pt_cmpR op_gt (pe_op op_mod (pv 6) pe_int) pe_int (nomark _)) (pw_and1 (pt_cmpR op_lt (pv 5) pe_int (nomark _)))))
        (pss_one (ps_set (i := 7) nd rfl (Or.inl rfl) (pe_tup (pa_cons pe_str (pa_cons (pe_op op_add_str (pe_ix ix_str pe_str (pv 5) (fun _ _ => rfl)) pe_str) (pa_cons (pe_ix ix_tup (pv 7) pe_int (fun _ _ => rfl)) (pa_cons (pe_ix ix_tup (pv 7) pe_int (fun _ _ => rfl)) (pa_cons (pe_ix ix_tup (pv 7) pe_int (fun _ _ => rfl)) pa_nil)))))))) pss_nil) <|
       C8.pss_cut (ps_if (pt_cmpR op_lt (pe_op op_mod (pv 6) pe_int) pe_int (nomark _))
        (pss_one (ps_set (i := 7) nd rfl (Or.inl rfl) (pe_tup (pa_cons pe_str (pa_cons (pe_df D3 r1 (pa_cons (pe_op op_mod (pe_op op_fdiv (pv 6) pe_int) pe_int) (pa_cons (pe_op op_fdiv (pv 6) pe_int) (pa_cons (pv 1) pa_nil)))) pa_nil))))) pss_nil) <|
       pss_one (ps_expr (pe_bm PySem.F.plainAttrs_list PySem.F.slot_list_append PySem.F.type_list_append mt_append (pv 4) (pa_cons (pv 7) pa_nil))))) <|
    pss_cons (ps_set (i := 4) nd rfl (Or.inl rfl) (pe_op op_cat (pv 4) (pe_lst (pa_cons (pe_tup (pa_cons pe_str (pa_cons (pe_ix ix_list (pv 1) pe_int (fun _ _ => rfl)) (pa_cons pe_str (pa_cons (pe_ix ix_list (pv 1) pe_int (fun _ _ => rfl)) (pa_cons pe_int pa_nil)))))) pa_nil)))) <|
    pss_cons (ps_set (i := 8) nd rfl (Or.inl rfl) (pe_df D5 r51 (pa_cons (pe_df D7 r50 (pa_cons (pv 4) pa_nil)) pa_nil))) <|
    pss_cons (ps_if (PW.pt (pw_or (pt_not (pt_val (pe_callB call_isi rfl B.isinstance (by decide +kernel) (pa_cons (pv 8) (pa_cons (pe_bltn (v := .ty "tuple") rfl B.tuple (by decide +kernel) rfl) pa_nil)))))
      (pw_or (pt_cmpR op_ne (pe_callB call_len_seq rfl B.len PySem.boot_len (pa_cons (pv 8) pa_nil)) pe_int (nomark _))
      (pw_or (pt_not (pt_val (pe_df D6 r101 (pa_cons (pe_ix ix_tup (pv 8) pe_int (fun _ _ => rfl)) pa_nil))))
      (pw_or1 (pt_not (pt_val (pe_df D6 r101 (pa_cons (pe_ix ix_tup (pv 8) pe_int (fun _ _ => rfl)) pa_nil))))))))) (pss_one (ps_ret pe_bl)) pss_nil) <|
    pss_cons (ps_if (pt_cmpR op_ne (pe_op op_add (pe_callB call_len_seq rfl B.len PySem.boot_len (pa_cons (pe_ix ix_tup (pv 8) pe_int (fun _ _ => rfl)) pa_nil)) (pe_callB call_len_seq rfl B.len PySem.boot_len (pa_cons (pe_ix ix_tup (pv 8) pe_int (fun _ _ => rfl)) pa_nil))) (pe_callB call_len_seq rfl B.len PySem.boot_len (pa_cons (pv 4) pa_nil)) (nomark _)) (pss_one (ps_ret pe_bl)) pss_nil) <|
    pss_cons (ps_set (i := 9) nd rfl (Or.inl rfl) (pe_tup (pa_cons pe_str (pa_cons (pe_ix ix_list (pv 1) pe_int (fun _ _ => rfl)) (pa_cons pe_str (pa_cons (pv 3) (pa_cons pe_int pa_nil))))))) <|
    pss_cons (ps_set (i := 10) nd rfl (Or.inl rfl) (pe_df D9 r43 (pa_cons (pe_lst (pa_cons (pv 9) (pa_cons (pe_tup (pa_cons pe_str (pa_cons (pe_ix ix_list (pv 1) pe_int (fun _ _ => rfl)) (pa_cons (pe_lst (pa_cons (pe_tup (pa_cons pe_str (pa_cons (pe_ix ix_list (pv 1) pe_int (fun _ _ => rfl)) (pa_cons (pv 4) pa_nil)))) pa_nil)) pa_nil)))) pa_nil))) (pa_cons (pv 2) (pa_cons pe_int pa_nil))))) <|
    pss_cons (ps_set (i := 11) nd rfl (Or.inl rfl) (pe_df D9 r43 (pa_cons (pe_lst (pa_cons (pv 9) (pa_cons (pe_tup (pa_cons pe_str (pa_cons (pe_ix ix_list (pv 1) pe_int (fun _ _ => rfl)) (pa_cons (pe_op op_cat (pe_ix ix_tup (pv 8) pe_int (fun _ _ => rfl)) (pe_lst (pa_cons (pe_tup (pa_cons pe_str (pa_cons (pe_ix ix_list (pv 1) pe_int (fun _ _ => rfl)) (pa_cons (pe_ix ix_tup (pv 8) pe_int (fun _ _ => rfl)) pa_nil)))) pa_nil))) pa_nil)))) pa_nil))) (pa_cons (pv 2) (pa_cons pe_int pa_nil))))) <|
    pss_cons (ps_if (PW.pt (pw_or (pt_cmpR (op_neD hr.units) (pe_dget hu (pv 11) pe_str (fun _ _ => rfl)) (pe_dget hu (pv 10) pe_str (fun _ _ => rfl)) (nomark _))
      (pw_or1 (pt_cmpR op_ne (pe_dget hu (pv 11) pe_str (fun _ _ => rfl)) (pe_dget hu (pv 10) pe_str (fun _ _ => rfl)) (nomark _))))) (pss_one (ps_ret pe_bl)) pss_nil) <|
    pss_cons (ps_if (pt_cmpR op_ne (pe_dget hu (pv 10) pe_str (fun _ _ => rfl)) pe_str (nomark _)) (pss_one (ps_ret (pe_cmpR op_le (pe_dget hu (pv 11) pe_str (fun _ _ => rfl)) (pe_dget hu (pv 10) pe_str (fun _ _ => rfl)) (nomark _)))) pss_nil) <|
    pss_one (ps_ret (pe_and (pe_cmpR (op_eq_dictA hr.units0) (pe_dget hu (pv 11) pe_str (fun _ _ => rfl)) (pe_dget hu (pv 10) pe_str (fun _ _ => rfl)) (nomark _)) (pe_one (pe_cmpR op_eq (pe_dget hu (pv 11) pe_str (fun _ _ => rfl))
      (pe_op op_sub (pe_dget hu (pv 10) pe_str (fun _ _ => rfl)) (pe_op op_mul (pe_callB call_len_seq rfl B.len PySem.boot_len (pa_cons (pe_ix ix_tup (pv 8) pe_int (fun _ _ => rfl)) pa_nil)) (pe_callB (call_max2 rfl) rfl mx (by decide +kernel) (pa_cons pe_int (pa_cons (pe_op op_sub (pv 3) pe_int) pa_nil))))) (nomark _))))), ?_⟩
  refine ⟨_, rfl, a, ns, 0, rfl, hS, by decide, fun cell => ⟨cell, rfl, fun ln ss H1 s1 fln eln len1 hgood sh j8 hnms => ?_⟩⟩
  have hN1 : NamesAt K H1 ln ss := ⟨SqL.of eln, len1⟩
  refine ⟨_, rfl, a, ns, 1, rfl, s1.seq hS, by decide, fun z1 => ⟨_, rfl, z1, ln, ss, rfl, hN1, fun g H2 gk ρ hg s2 eg dv sm => ?_⟩⟩
  have hS2 := (s1.trans s2).seq hS
  have hN2 := hN1.mono (Same.kp s2)
  obtain ⟨x, hx15, ex15⟩ := hN2.where_ (z := 15) (by decide) (by decide)
  have hx15' : ss[15]? = some x := hx15
  obtain ⟨nzz, n8⟩ := hnms.last len1 hx15'
  have hxs : x ∈ ss := List.mem_of_getElem? hx15'
  refine ⟨_, rfl, a, ns, 2, rfl, hS2, by decide, fun z2 => ⟨_, _, rfl, rfl, (by show (0 : Int) < 7; decide), ?_⟩⟩
  have hk0 : 0 ≤ z2 % 7 := Int.emod_nonneg _ (by decide)
  have hk6 : z2 % 7 ≤ 6 := by have := Int.emod_lt_of_pos z2 (b := 7) (by decide); omega
  refine ⟨(by show 0 ≤ sizeLine; decide), fun l hl => ?_⟩
  obtain ⟨H3, g3, s3, e3⟩ := newH hl (.lst [])
  rw [g3]
  have hS3 := s3.seq hS2
  refine ⟨_, rfl, _, rfl, a, _, rfl, hS3, fun q4 hq4 => ?_⟩
  rw [show cutV (ns.map V.int) (some 3) none = (ns.map V.int).drop 3 from cut_drop _ 3 rfl]
  obtain ⟨H4, g4, s4, e4⟩ := newH hq4 (.lst ((ns.map V.int).drop 3))
  rw [g4]
  refine ⟨q4, _, rfl, .inl (SqL.of e4), _, _, rfl, ?_⟩
  obtain ⟨cn, ecn, hcn30, hcn⟩ : ∃ cn : Nat, (if (((((ns.map V.int).drop 3).length : Nat) : Int)) < 30 then ((((ns.map V.int).drop 3).length : Nat) : Int) else 30) = (cn : Int) ∧ cn ≤ 30 ∧ cn + 3 ≤ max ns.length 3 := by
    rw [List.length_drop, List.length_map]
    by_cases c : ((ns.length - 3 : Nat) : Int) < 30
    · rw [if_pos c]
      exact ⟨ns.length - 3, rfl, by omega, by omega⟩
    · rw [if_neg c]
      exact ⟨30, rfl, by omega, by omega⟩
  rw [ecn]
  have bq0 : Bq K H2 H2 H4 l ss x [] [] := ⟨Same.refl _, s3.trans s4, hl, s4 _ _ e3, rfl, True.intro, fun _ h => (by cases h), fun h => setN_nil x h⟩
  have sub : ∀ s ∈ ss, s ∈ ss ++ zz25 := fun s h => List.mem_append_left _ h
  refine ⟨_, rfl, by omega, by omega, for_range (lo := 0) (n := ((cn : Int)).toNat) (fun i σ H' => ∃ (v5 v6 v7 : Option V) (Hc : Hp) (rs : List Row) (us : List V), σ = [some (.ref a), some (.ref ln), some (.ref g), some (.int (z2 % 7)), some (.ref l), v5, v6, v7, none, none, none, none] ∧ Bq K H2 Hc H' l ss x rs us ∧ rs.length = i)
    ⟨none, none, none, H2, [], [], rfl, bq0, rfl⟩ ?_ ?_⟩
  · rintro i σ H5 hi ⟨v5, v6, v7, Hc, rs, us, rfl, bq, hlen⟩
    have hi30 : i < 30 := by omega
    have hns : 3 + i < ns.length := by omega
    have s25 := bq.old.trans bq.cl
    have hN5 := hN2.mono (Same.kp s25)
    have lu := bq.all.len
    refine ⟨_, rfl, _, rfl, _, _, rfl, rfl, a, _, _, _, rfl, rfl, s25.seq hS2, at_of (j := 3 + i) (v := .int ns[3 + i]) (by omega) (by rw [List.getElem?_map, List.getElem?_eq_getElem hns]; all_goals rfl), _, rfl, _, _, rfl, fun num hm0 hm1 => ?_⟩
    refine ⟨_, rfl, _, _, rfl, rfl, ⟨by decide, by decide⟩, _, rfl, _, ln, ss, rfl, hN5, fun p to sg va vb H6 hp hrok ⟨j, hj8, hjs⟩ eH6 => ?_⟩
    subst eH6
    have hto : to ≠ x := n8 j to hj8 hjs
    -- a let or a say in a new tuple, ready to stand in the body
    have mk : ∀ {HA HB : Hp} {pp : Addr} {xs : List V} {r : Row}, Part Hc H5 Hc HA → HA pp = none → HB = upd HA pp (.tup xs) → (∀ Hx, Hx pp = some (.tup xs) → RowAt K Hx r (.ref pp)) → r.ok (ss ++ zz25) → r.flat1 → ¬ setN (flats [r]) x → ∃ Hd, Part Hc H5 Hd HB ∧ RowAt K Hd r (.ref pp) := fun {HA HB pp xs r} p1 hp e hrow _ _ _ => by
      subst e
      exact ⟨_, p1.trans (Part.new p1.sub hp _), hrow _ upd_same⟩
    have mem8 : ∀ {v : V} {r : Row} {HB : Hp}, True := fun {_ _ _} => trivial
    refine ⟨fun σ H' => ∃ (v : V) (r : Row) (Hd : Hp), σ = [some (.ref a), some (.ref ln), some (.ref g), some (.int (z2 % 7)), some (.ref l), some (.int (0 + (i : Int))), some (.int num), some v, none, none, none, none] ∧ Part Hc H5 Hd H' ∧ RowAt K Hd r v ∧ r.ok (ss ++ zz25) ∧ r.flat1 ∧ ¬ setN (flats [r]) x, ?_, ?_⟩
    · have pt0 := Part.new bq.cl hp (.tup [.str "let", .str to, .str sg, va.v, vb.v])
      have r0 : RowAt K (upd Hc p (.tup [.str "let", .str to, .str sg, va.v, vb.v])) (.lt to sg va vb) (.ref p) := ⟨p, rfl, SqT.of upd_same⟩
      have fine : ∃ (v : V) (r : Row) (Hd : Hp), [some (V.ref a), some (.ref ln), some (.ref g), some (.int (z2 % 7)), some (.ref l), some (.int (0 + (i : Int))), some (.int num), some (.ref p), none, none, none, none] = [some (.ref a), some (.ref ln), some (.ref g), some (.int (z2 % 7)), some (.ref l), some (.int (0 + (i : Int))), some (.int num), some v, none, none, none, none] ∧ Part Hc H5 Hd (upd H5 p (.tup [.str "let", .str to, .str sg, va.v, vb.v])) ∧ RowAt K Hd r v ∧ r.ok (ss ++ zz25) ∧ r.flat1 ∧ ¬ setN (flats [r]) x :=
        ⟨_, _, _, rfl, pt0, r0, Row.more sub _ hrok, True.intro, fun z => hto (setN_lt.mp z).symm⟩
      refine ⟨_, rfl, _, _, rfl, rfl, (by show (0 : Int) < 8; decide), _, _, rfl, rfl, _, rfl, ?_⟩
      refine ite2 (fun c1 => ?_) (fun c1 => iteF fine)
      refine ⟨_, rfl, _, _, rfl, rfl, _, rfl, ?_⟩
      refine ite2 (fun c2 => ?_) (fun c2 => fine)
      have hi25 : i < 25 := by have : (0 + (i : Int)) < 25 := of_decide_eq_true c2; omega
      have hT : SqT K (upd H5 p (.tup [.str "let", .str to, .str sg, va.v, vb.v])) p [.str "let", .str to, .str sg, va.v, vb.v] := SqT.of upd_same
      refine ⟨_, rfl, _, _, _, rfl, rfl, (by decide +kernel), abcY_at hi25, _, _, rfl, rfl, (by rw [show ("zz" : Str).length = 2 from by decide +kernel]; show 1 + 2 ≤ sizeLine; decide), _, rfl, p, _, _, _, rfl, rfl, hT, atI_nat (j := 2) rfl, _, rfl, p, _, _, _, rfl, rfl, hT, atI_nat (j := 3) rfl, _, rfl, p, _, _, _, rfl, rfl, hT, atI_nat (j := 4) rfl, (by show 5 ≤ sizeLine; decide), fun p2 hp2 => ?_⟩
      have pt1 := Part.new pt0.sub hp2 (.tup [.str "let", .str ((⟨#[97 + i]⟩ : Str) ++ "zz"), .str sg, va.v, vb.v])
      refine ⟨.ref p2, .lt ((⟨#[97 + i]⟩ : Str) ++ "zz") sg va vb, _, rfl, pt0.trans pt1, ⟨p2, rfl, SqT.of upd_same⟩, ⟨List.mem_append_right _ (zz25_in hi25), hrok.2.1, Vl.more sub hrok.2.2.1, Vl.more sub hrok.2.2.2⟩, True.intro, fun z => nzz (by rw [setN_lt.mp z]; exact zz25_in hi25)⟩
    rintro σ H7 ⟨v, r, Hd, rfl, pt, hrow, rok, rfl1, roff⟩
    have hN7 := hN5.mono (Same.kp pt.all)
    refine ⟨fun σ H' => ∃ (v : V) (r : Row) (Hd : Hp), σ = [some (.ref a), some (.ref ln), some (.ref g), some (.int (z2 % 7)), some (.ref l), some (.int (0 + (i : Int))), some (.int num), some v, none, none, none, none] ∧ Part Hc H5 Hd H' ∧ RowAt K Hd r v ∧ r.ok (ss ++ zz25) ∧ r.flat1 ∧ ¬ setN (flats [r]) x, ?_, ?_⟩
    · refine ⟨_, rfl, _, _, rfl, rfl, (by show (0 : Int) < 8; decide), _, _, rfl, rfl, _, rfl, ?_⟩
      refine ite2 (fun c1 => ?_) (fun c1 => ⟨v, r, Hd, rfl, pt, hrow, rok, rfl1, roff⟩)
      refine ⟨_, rfl, _, _, rfl, rfl, ⟨by decide, by decide⟩, _, _, rfl, rfl, (by show (0 : Int) < 16; decide), _, rfl, _, _, rfl, rfl, ⟨by decide, by decide⟩, _, rfl, _, _, ln, ss, rfl, Int.emod_nonneg _ (by decide), Int.emod_lt_of_pos _ (by decide), hN7, fun y hy => ⟨(by show 2 ≤ sizeLine; decide), fun p2 hp2 => ?_⟩⟩
      have pt1 := Part.new pt.sub hp2 (.tup [.str "say", y.v])
      refine ⟨.ref p2, .sy y, _, rfl, pt.trans pt1, ⟨p2, rfl, SqT.of upd_same⟩, Vl.more sub hy, True.intro, fun z => ?_⟩
      rw [flats_one] at z
      obtain ⟨q, hq, hz⟩ := z
      rw [List.mem_singleton.mp hq] at hz
      cases hz
    rintro σ H8 ⟨v, r, Hd, rfl, pt, hrow, rok, rfl1, roff⟩
    have el8 := pt.all _ _ bq.at_
    have hdl : Hd l = none := pt.no l _ bq.at_ bq.no
    refine ⟨_, rfl, .inl ⟨rfl, _, SqL.of el8⟩, _, rfl, l, us, _, rfl, rfl, el8, (by rw [sizeLine_eq]; omega), ?_⟩
    refine ⟨_, _, _, Hd, rs ++ [r], us ++ [v], rfl, ⟨bq.old.trans pt.cl, fun b o hb => ?_, hdl, upd_same, (AllAt.mono (Same.kp pt.cl) _ _ bq.all).app (AllAt.one hrow), oks_app bq.ok ⟨rok, True.intro⟩, fun q hq => ?_, fun z => ?_⟩, by rw [List.length_append, hlen]; rfl⟩
    · rw [upd_ne (ne_of_none hb hdl)]
      exact pt.sub b o hb
    · rcases List.mem_append.mp hq with e | e
      · exact bq.flat q e
      · rw [List.mem_singleton.mp e]
        exact rfl1
    · rw [flats_app, setN_app] at z
      exact z.elim bq.off roff
  rintro σ H5 ⟨v5, v6, v7, Hc, rs, us, rfl, bq, hlen⟩
  have hlen30 : rs.length ≤ 30 := by omega
  have s25 := bq.old.trans bq.cl
  have hN5 := hN2.mono (Same.kp s25)
  have lu := bq.all.len
  have aU5 := AllAt.mono (Same.kp bq.cl) _ _ bq.all
  refine ⟨_, rfl, _, rfl, ln, _, _, _, rfl, rfl, hN5.1, ex15, _, rfl, ln, _, _, _, rfl, rfl, hN5.1, ex15, (by show 5 ≤ sizeLine; decide), fun p6 hp6 => ?_⟩
  obtain ⟨H6, g6, s6, e6⟩ := newH hp6 (.tup [.str "let", .str x, .str "-", .str x, .int 1])
  rw [g6]
  refine ⟨(by show 1 ≤ sizeLine; decide), fun q7 hq7 => ?_⟩
  obtain ⟨H7, g7, s7, e7⟩ := newH hq7 (.lst [.ref p6])
  rw [g7]
  refine ⟨l, q7, us, [.ref p6], rfl, rfl, (s6.trans s7) _ _ bq.at_, e7, (by rw [sizeLine_eq]; show us.length + 1 ≤ _; omega), fun lb hlb => ?_⟩
  obtain ⟨H8, g8, s8, e8⟩ := newH hlb (.lst (us ++ [.ref p6]))
  rw [g8]
  have s68 := s6.trans (s7.trans s8)
  have xin : x ∈ ss ++ zz25 := sub _ hxs
  obtain ⟨be, ebe⟩ : ∃ be, rs ++ [Row.lt x "-" (.nm x) (.nu 1)] = be := ⟨_, rfl⟩
  have hdown : Down x be := ⟨⟨rs, ebe.symm, bq.flat, bq.off⟩⟩
  have hrow6 : RowAt K H8 (.lt x "-" (.nm x) (.nu 1)) (.ref p6) := ⟨p6, rfl, SqT.of ((s7.trans s8) _ _ e6)⟩
  have hR8 : RowsAt K H8 lb be := by
    rw [← ebe]
    exact ⟨_, SqL.of e8, (AllAt.mono (Same.kp s68) _ _ aU5).app (AllAt.one hrow6)⟩
  have okb : oks (ss ++ zz25) be := by
    rw [← ebe]
    exact oks_app bq.ok ⟨⟨xin, by decide +kernel, xin, by decide, by decide⟩, True.intro⟩
  have lbe : be.length ≤ 31 := by
    rw [← ebe, List.length_append]
    show rs.length + 1 ≤ 31
    omega
  obtain ⟨dbe, tbe⟩ := flat1_deps hdown.simple
  have lbu : (us ++ [V.ref p6]).length = be.length := by
    rw [← ebe, List.length_append, List.length_append, lu]
    rfl
  have few : (ss ++ zz25).length ≤ 60 := by
    rw [List.length_append, len1]
    decide
  refine ⟨_, rfl, lb, be, H8, rfl, Same.refl _, hR8, by omega, by omega, oks_thins _ okb, fun Hc9 H9 lk pt hRk => ?_⟩
  have hK9 := hRk.mono (Same.kp pt.sub)
  obtain ⟨okA, okS⟩ := parts_oks be [] okb
  obtain ⟨dA, dS⟩ := parts_deps be []
  have ptt := parts_tots be []
  have plen := parts_len be []
  refine ⟨lk, ss ++ zz25, be, rfl, hK9, okb, by omega, by omega, few, fun HA qA Aa Sa ua wa F1 F2 sA fA fS nAS eqA eAa eSa o1 o2 dis n1 n2 n3 n4 => ?_⟩
  have rAa : RowsAt K HA Aa (parts [] be).1 := ⟨ua, SqL.of eAa, OwnRs.all _ o1⟩
  have rSa : RowsAt K HA Sa (parts [] be).2 := ⟨wa, SqL.of eSa, OwnRs.all _ o2⟩
  have lua := (OwnRs.all _ o1).len
  have lwa := (OwnRs.all _ o2).len
  have hTA := SqT.of (K := K) eqA
  refine ⟨_, rfl, _, _, _, _, true, rfl, .ty _, ty_tuple hTA, kit_ty (by decide +kernel), _, rfl, iteF ?_⟩
  refine ⟨_, rfl, qA, _, rfl, .inr hTA, rfl, _, rfl, ifF (show (!decide (V.int ((2 : Nat) : Int) = V.int 2)) = false by decide) ?_⟩
  refine ⟨_, rfl, qA, _, _, _, rfl, rfl, hTA, atI_nat (j := 0) rfl, Aa, ss ++ zz25, _, rfl, rAa, okA, by omega, by omega, fun HB sB => ⟨_, rfl, iteF ?_⟩⟩
  have hTB := Kp.sqT (Same.kp sB) hTA
  refine ⟨_, rfl, qA, _, _, _, rfl, rfl, hTB, atI_nat (j := 1) rfl, Sa, ss ++ zz25, _, rfl, rSa.mono (Same.kp sB), okS, by omega, by omega, fun HC sC => ⟨_, rfl, iteF ?_⟩⟩
  have sAC := sB.trans sC
  have hTC := Kp.sqT (Same.kp sAC) hTA
  have eAC := sAC _ _ eAa
  have eSC := sAC _ _ eSa
  have s8C : Same H8 HC := pt.all.trans (sA.trans sAC)
  have ebC := s8C _ _ e8
  refine ⟨_, rfl, qA, _, _, _, rfl, rfl, hTC, atI_nat (j := 0) rfl, Aa, _, rfl, .inl (SqL.of eAC), _, rfl, qA, _, _, _, rfl, rfl, hTC, atI_nat (j := 1) rfl, Sa, _, rfl, .inl (SqL.of eSC), _, _, rfl, rfl, _, rfl, lb, _, rfl, .inl (SqL.of ebC), rfl, _, rfl, iteNS (by rw [lbu, lua, lwa, ← plen]; rfl) ?_⟩
  have s2C : Same H2 HC := s25.trans (s68.trans s8C)
  have hNC := hN2.mono (Same.kp s2C)
  refine ⟨_, rfl, ln, _, _, _, rfl, rfl, hNC.1, ex15, _, rfl, (by show 5 ≤ sizeLine; decide), fun pb hpb => ?_⟩
  obtain ⟨HD, gD, sD, eD⟩ := newH hpb (.tup [.str "let", .str x, .str "+", .int (z2 % 7), .int 0])
  rw [gD]
  -- the first program
  have hND := hNC.mono (Same.kp sD)
  refine ⟨_, rfl, _, rfl, ln, _, _, _, rfl, rfl, hND.1, ex15, _, rfl, ln, _, _, _, rfl, rfl, hND.1, ex15, _, rfl, (by show 3 ≤ sizeLine; decide), fun p1 hp1 => ?_⟩
  obtain ⟨HE, gE, sE, eE⟩ := newH hp1 (.tup [.str "again", .str x, .ref lb])
  rw [gE]
  refine ⟨(by show 1 ≤ sizeLine; decide), fun l1 hl1 => ?_⟩
  obtain ⟨HF, gF, sF, eF⟩ := newH hl1 (.lst [.ref p1])
  rw [gF]
  refine ⟨(by show 3 ≤ sizeLine; decide), fun p2 hp2 => ?_⟩
  obtain ⟨HG, gG, sG, eG⟩ := newH hp2 (.tup [.str "when", .str x, .ref l1])
  rw [gG]
  refine ⟨(by show 2 ≤ sizeLine; decide), fun l2 hl2 => ?_⟩
  obtain ⟨HI, gI, sI, eI⟩ := newH hl2 (.lst [.ref pb, .ref p2])
  rw [gI]
  have sDI := sE.trans (sF.trans (sG.trans sI))
  have sCI := sD.trans sDI
  have bkAt : ∀ {Hx : Hp} {pp la : Addr} {xd : Str} {b : List Row}, Hx pp = some (.tup [.str xd, .str x, .ref la]) → RowsAt K Hx la b → RowAt K Hx (.bk xd (.str x) b) (.ref pp) := fun h ⟨us, a, b⟩ => ⟨_, _, us, rfl, SqT.of h, a, b⟩
  have kx0 : (0 : Int) ≤ (z2 % 7) ∧ (z2 % 7) < 1000000 := ⟨hk0, by omega⟩
  have begAt : ∀ {Hx}, Same HD Hx → RowAt K Hx (begin_ x (z2 % 7)) (.ref pb) := fun s => ⟨pb, rfl, SqT.of (s _ _ eD)⟩
  have begOk : (begin_ x (z2 % 7)).ok (ss ++ zz25) := ⟨xin, by decide +kernel, kx0, by decide, by decide⟩
  have hP1 : RowsAt K HI l2 (oneP x (z2 % 7) be) := ⟨_, SqL.of eI, _, _, rfl, begAt sDI, AllAt.one (bkAt (sI _ _ eG) ⟨_, SqL.of ((sG.trans sI) _ _ eF), AllAt.one (bkAt ((sF.trans (sG.trans sI)) _ _ eE) (hR8.mono (Same.kp (s8C.trans sCI))))⟩)⟩
  have okP1 : oks (ss ++ zz25) (oneP x (z2 % 7) be) := ⟨begOk, ⟨by decide +kernel, ⟨_, rfl, xin⟩, by show 1 ≤ 2000; decide, ⟨by decide +kernel, ⟨_, rfl, xin⟩, by omega, okb⟩, True.intro⟩, True.intro⟩
  have dP1 : deps (oneP x (z2 % 7) be) < 20 := by
    show max 0 (max (max (deps be + 1) 0 + 1) 0) < 20
    omega
  have s2I := s2C.trans sCI
  refine ⟨_, rfl, l2, g, gk, ρ, 100000, oneP x (z2 % 7) be, ss ++ zz25, rfl, hP1, okP1, dP1, s2I _ _ eg, dv.more (by decide), sm, by decide, fun HJ t1 e1 ta td ts' hD1 hT1 => ?_⟩
  obtain ⟨ρ1, ρ2, o, n, m, e, x1, x2, x3, x4, x5⟩ := loop_saves hdown (by omega) hk0 hk6 ρ
  have y1 := x1.does 100000 0 [] (by omega)
  have y2 := x3.does 100000 0 [] (by omega)
  obtain ⟨z1, z2'⟩ := hD1.det y1
  subst z1 z2'
  have sIJ := hT1.cl
  have eT1 := hT1.ob
  -- the second program
  have sCJ := sCI.trans sIJ
  have hNJ := hNC.mono (Same.kp sCJ)
  have hTJ := Kp.sqT (Same.kp sCJ) hTC
  refine ⟨_, rfl, _, rfl, ln, _, _, _, rfl, rfl, hNJ.1, ex15, _, rfl, qA, _, _, _, rfl, rfl, hTJ, atI_nat (j := 0) rfl, _, rfl, ln, _, _, _, rfl, rfl, hNJ.1, ex15, _, rfl, qA, _, _, _, rfl, rfl, hTJ, atI_nat (j := 1) rfl, (by show 3 ≤ sizeLine; decide), fun p3 hp3 => ?_⟩
  obtain ⟨HL, gL, sL, eL⟩ := newH hp3 (.tup [.str "again", .str x, .ref Sa])
  rw [gL]
  refine ⟨(by show 1 ≤ sizeLine; decide), fun l3 hl3 => ?_⟩
  obtain ⟨HM, gM, sM, eM⟩ := newH hl3 (.lst [.ref p3])
  rw [gM]
  refine ⟨Aa, l3, ua, [.ref p3], rfl, rfl, (sCJ.trans (sL.trans sM)) _ _ eAC, eM, (by rw [sizeLine_eq]; show ua.length + 1 ≤ _; omega), fun l4 hl4 => ?_⟩
  obtain ⟨HN, gN, sN, eN⟩ := newH hl4 (.lst (ua ++ [.ref p3]))
  rw [gN]
  refine ⟨(by show 3 ≤ sizeLine; decide), fun p4 hp4 => ?_⟩
  obtain ⟨HO_, gO, sO, eO⟩ := newH hp4 (.tup [.str "when", .str x, .ref l4])
  rw [gO]
  refine ⟨(by show 2 ≤ sizeLine; decide), fun l5 hl5 => ?_⟩
  obtain ⟨HP, gP, sP, eP⟩ := newH hl5 (.lst [.ref pb, .ref p4])
  rw [gP]
  have sJP := sL.trans (sM.trans (sN.trans (sO.trans sP)))
  have sCP := sCJ.trans sJP
  have kAP := Same.kp (sAC.trans sCP)
  have hP2 : RowsAt K HP l5 (othP x (z2 % 7) be) := ⟨_, SqL.of eP, _, _, rfl, begAt (sDI.trans (sIJ.trans sJP)), AllAt.one (bkAt (sP _ _ eO) ⟨_, SqL.of ((sO.trans sP) _ _ eN), (AllAt.mono kAP _ _ (OwnRs.all _ o1)).app (AllAt.one (bkAt ((sM.trans (sN.trans (sO.trans sP))) _ _ eL) (rSa.mono kAP)))⟩)⟩
  have okP2 : oks (ss ++ zz25) (othP x (z2 % 7) be) := ⟨begOk, ⟨by decide +kernel, ⟨_, rfl, xin⟩, by rw [List.length_append]; show _ + 1 ≤ 2000; omega, oks_app okA ⟨⟨by decide +kernel, ⟨_, rfl, xin⟩, by omega, okS⟩, True.intro⟩⟩, True.intro⟩
  have dP2 : deps (othP x (z2 % 7) be) < 20 := by
    show max 0 (max (deps ((parts [] be).1 ++ [.bk "again" (.str x) (parts [] be).2]) + 1) 0) < 20
    rw [deps_app]
    show max 0 (max (max (deps (parts [] be).1) (max (deps (parts [] be).2 + 1) 0) + 1) 0) < 20
    omega
  refine ⟨_, rfl, l5, g, gk, ρ, 100000, othP x (z2 % 7) be, ss ++ zz25, rfl, hP2, okP2, dP2, (s2C.trans sCP) _ _ eg, dv.more (by decide), sm, by decide, fun HQ t2 e2 tb ub vb hD2 hT2 => ?_⟩
  obtain ⟨z3, z4⟩ := hD2.det y2
  subst z3 z4
  have sPQ := hT2.cl
  have eT2 := hT2.ob
  have eTQ := (sJP.trans sPQ) _ _ eT1
  have v1 := DGet.k (k := Sum.inr "said") eT2
  rw [tk_said] at v1
  have v2 := DGet.k (k := Sum.inr "said") eTQ
  rw [tk_said] at v2
  have v3 := DGet.k (k := Sum.inr "ending") eT2
  rw [tk_ending] at v3
  have v4 := DGet.k (k := Sum.inr "ending") eTQ
  rw [tk_ending] at v4
  have u1 := DGet.k (k := Sum.inr "steps") eT2
  rw [tk_steps] at u1
  have u2 := DGet.k (k := Sum.inr "steps") eTQ
  rw [tk_steps] at u2
  obtain ⟨d, f1, f2, f3, f4⟩ := ints_same (K := K) (SqL.of hT2.sd) (SqL.of ((sJP.trans sPQ) _ _ hT1.sd))
  refine ⟨_, rfl, tb, _, rfl, v1, _, rfl, ta, _, rfl, v2, d, d, f1, f2, f3, f3, _, rfl, ifF (by rw [f4]; rfl) ?_⟩
  refine ⟨_, rfl, tb, _, rfl, v3, _, rfl, ta, _, rfl, v4, rfl, _, rfl, ifF (by rw [decide_eq_true rfl]; rfl) ?_⟩
  refine ⟨_, rfl, ta, _, rfl, v4, rfl, _, rfl, ?_⟩
  cases e with
  | false =>
    refine ifT (show (!decide (V.str (edOf false).txt = V.str "done")) = true by decide +kernel) ?_
    refine ⟨_, rfl, tb, _, rfl, u1, _, rfl, ta, _, rfl, u2, _, _, rfl, rfl, ?_⟩
    show Q (.bl (decide (((0 + m : Nat) : Int) ≤ ((0 + n : Nat) : Int)))) HQ
    rw [decide_eq_true (by omega)]
    exact k _
  | true =>
    obtain ⟨w1, w2⟩ := x5 rfl
    refine ifF (show (!decide (V.str (edOf true).txt = V.str "done")) = false by decide +kernel) ?_
    have v5 := DGet.k (k := Sum.inr "values") eT2
    rw [tk_values] at v5
    have v6 := DGet.k (k := Sum.inr "values") eTQ
    rw [tk_values] at v6
    obtain ⟨k1, c1, c2⟩ := hT2.dc
    obtain ⟨k2, c3, c4⟩ := hT1.dc
    have c2' : DV (.dK k1) ρ1 (100 + (0 + m)) := by rw [← w1]; exact c2
    obtain ⟨n1', n2'⟩ := (show DV (.dK k2) ρ1 _ from c4).same c2'
    refine ⟨_, rfl, tb, _, rfl, v5, _, rfl, ta, _, rfl, v6, ub, td, k1, k2, rfl, rfl, c1, (sJP.trans sPQ) _ _ c3, n1'.symm, fun p hp => ?_, _, rfl, iteT ?_⟩
    · obtain ⟨y, z, ep, ev⟩ := n2' p hp
      rw [ep]
      exact ⟨ev, rfl⟩
    refine ⟨_, rfl, tb, _, rfl, u1, _, rfl, ta, _, rfl, u2, _, rfl, qA, _, _, _, rfl, rfl, Kp.sqT (Same.kp (sCP.trans sPQ)) hTC, atI_nat (j := 0) rfl, Aa, _, rfl, .inl (SqL.of ((sCP.trans sPQ) _ _ eAC)), _, rfl, _, _, rfl, rfl, _, _, rfl, _, _, rfl, rfl, ?_, _, _, rfl, rfl, rfl, ?_⟩
    · exact .inl ⟨by omega, by omega⟩
    · have hmax : (if (z2 % 7) - 1 > 0 then (z2 % 7) - 1 else 0) = (((z2 % 7) - 1).toNat : Int) := by
        split <;> omega
      have key : ((0 + m : Nat) : Int) = ((0 + n : Nat) : Int) - ((ua.length : Nat) : Int) * (if (z2 % 7) - 1 > 0 then (z2 % 7) - 1 else 0) := by
        rw [hmax, lua, w2]
        push_cast
        omega
      show Q (.bl (decide (V.int ((0 + m : Nat) : Int) = V.int (((0 + n : Nat) : Int) - ((ua.length : Nat) : Int) * (if (z2 % 7) - 1 > 0 then (z2 % 7) - 1 else 0))))) HQ
      rw [← key, decide_eq_true rfl]
      exact k _
end
end Lm
namespace Lm
open PySem PySem.Spec PyProof.Rows L2 GxR
/-! ### what the top leaves -/
def mkD (x : Str) (i : Nat) : He.DefD := ⟨(x, none), x, x, defArgs (topS i), defBody (topS i), defScope (topS i), [], []⟩
def mkM (c x y : Str) (st : Stmt) : He.DefD := ⟨(c, some x), x, y, defArgs st, defBody st, defScope st, [], []⟩
def fn0 : List He.DefD := [mkD "all_rows" 2, mkD "asked_parts" 3, mkD "row_may_fail" 4, mkD "reads" 5, mkD "sets" 6, mkD "may_fail" 7, mkD "speaks" 8, mkD "count_setters" 10, mkD "split_body" 12, mkD "copied" 13, mkD "parted" 14, mkD "_law_cell_at" 16]
def fn1 : List He.DefD := [mkD "_law_mixed" 17, mkD "_law_names" 18, mkD "_law_value" 19, mkD "_law_let" 20, mkD "_law_given" 21, mkD "_law_whole" 22, mkD "_law_alike" 23, mkD "_law_copied" 24, mkD "_law_sound_row" 25, mkD "_law_sound" 26, mkD "_law_value_of" 27, mkD "_law_step" 28]
def fn2 : List He.DefD := [mkD "_law_let_done" 29, mkD "_law_row_done" 30, mkD "_law_done" 31, mkD "_law_tale" 32, mkD "law" 33, mkM "Look" "__init__" "Look.__init__" (inClass (topS 11) 0), mkM "Look" "goes_ahead" "Look.goes_ahead" (inClass (topS 11) 1), mkM "Look" "send_ahead" "Look.send_ahead" (inClass (topS 11) 2), mkM "Look" "keep" "Look.keep" (inClass (topS 11) 3)]
def fn : List He.DefD := fn0 ++ fn1 ++ fn2
def own0 : List Str := ["all_rows", "asked_parts", "row_may_fail", "reads", "sets", "may_fail", "speaks", "count_setters", "split_body", "copied", "parted", "_law_cell_at", "_law_mixed", "_law_names"]
def own1 : List Str := ["_law_value", "_law_let", "_law_given", "_law_whole", "_law_alike", "_law_copied", "_law_sound_row", "_law_sound", "_law_value_of", "_law_step", "_law_let_done", "_law_row_done", "_law_done", "_law_tale"]
def own2 : List Str := ["law", "Look", "BLOCKS"]
def own : List Str := own0 ++ own1 ++ own2
def bare : List Str := ["all", "any", "bool", "dict", "int", "isinstance", "len", "list", "max", "min", "range", "set", "sorted", "str", "tuple"]
def fas0 : List He.Fa := [.cls "Look", .noat "Look" "setters", .noat "Look" "asked", .noat "Look" "failing", .noat "Look" "speaking", .meth "Look" "goes_ahead", .meth "Look" "send_ahead", .meth "Look" "keep", .mkr "Look"]
def fas : List He.Fa := fas0
def fa : List He.Fa := fas ++ (own.map He.Fa.glo ++ bare.map He.Fa.free)
theorem glo_fa {x : Str} (h : x ∈ own) : He.Fa.glo x ∈ fa := List.mem_append_right _ (List.mem_append_left _ (List.mem_map_of_mem h))
theorem free_fa {x : Str} (h : x ∈ bare) : He.Fa.free x ∈ fa := List.mem_append_right _ (List.mem_append_right _ (List.mem_map_of_mem h))
/-- a tuple of the top -/
def tupB (K : PySem.W.Frag) (a : Addr) (xs : List V) : Bool := match K.lookup a with
  | some ⟨.type c, _, .seq its _, _⟩ => decide (c = "tuple") && He.relAll xs its.toList
  | _ => false
theorem relAll_len : ∀ {xs : List V} {us : List Value}, He.relAll xs us = true → us.length = xs.length
  | [], [], _ => rfl
  | [], _ :: _, h => by cases h
  | _ :: _, [], h => by cases h
  | x :: xs, u :: us, h => by
    have h' : (He.relB x u && He.relAll xs us) = true := h
    rw [List.length_cons, List.length_cons, relAll_len (Bool.and_eq_true_iff.mp h').2]
theorem tupB_ok {K : PySem.W.Frag} {a : Addr} {xs : List V} (h : tupB K a xs = true) (hl : xs.length ≤ 1000) (H : Hp) : SqT K H a xs := by
  unfold tupB at h
  cases q : K.lookup a with
  | none =>
    rw [q] at h
    cases h
  | some o =>
    rw [q] at h
    obtain ⟨oc, od, dt, sl⟩ := o
    cases oc with
    | type c =>
      cases dt with
      | seq its n =>
        obtain ⟨h1, h2⟩ := Bool.and_eq_true_iff.mp h
        refine .inr ⟨_, its, n, q, congrArg Value.type (of_decide_eq_true h1), rfl, ?_, He.relAll_ok h2⟩
        have e := relAll_len h2
        rw [Array.length_toList] at e
        rw [e]
        exact Nat.le_of_lt (small1000 hl)
      | _ => cases h
    | _ => cases h
def ex (K : PySem.W.Frag) : Bool := tupB K (He.ga K "BLOCKS") (kinds.map V.str)
def ts : List He.Tab := []
def tf : List He.Defn := []
theorem fun_of {K : PySem.W.Frag} {x y : Str} {st : Stmt} {f : Addr} {fd : FuncData} {d : He.DefD} (F : FunD K d.name d.qual d.params d.body d.scope (d.dvs K) (d.kws K) f fd) (h1 : d.name = x) (h2 : d.qual = y) (h3 : d.params = defArgs st) (h4 : d.body = defBody st) (h5 : d.scope = defScope st) (h6 : d.dfl = []) : Fun K x y st f fd := by
  obtain ⟨oc, od, dV, kV, doc, pm, an, cdv, ct, osl, e, lk, hcd, hd, _⟩ := F.ex
  rw [h1, h2, h3, h4, h5] at e
  rw [h2] at hcd
  have hdv : d.dvs K = [] := by
    unfold He.DefD.dvs
    rw [h6]
    rfl
  rcases hd with ⟨_, hd⟩ | ⟨hd, _⟩
  · subst hd
    exact ⟨⟨oc, od, kV, doc, pm, an, cdv, ct, osl, e, lk, hcd⟩, F.kp⟩
  · exact absurd hdv hd
theorem fun_to {K : PySem.W.Frag} {x qual : Str} {st : Stmt} {f : Addr} {fd : FuncData} {ps : List Str} (F : Fun K x qual st f fd)
    (h : ∀ (kV doc pm : Value) (an : Option Addr) (cdv ct : Value) (us : List Value), us.length = ps.length → bindArgs (PySem.W.fnOf x qual (defArgs st) (defBody st) (defScope st) .none kV doc pm an cdv ct) ⟨us, []⟩ = pure (ps.zip us)) (s : Shared) (us : List Value) (hl : us.length = ps.length) :
    BindsTo s fd ⟨us, []⟩ (ps.zip us) := by
  obtain ⟨oc, od, kV, doc, pm, an, cdv, ct, osl, rfl, lk, hcd⟩ := F.ex
  exact .of_eq (h kV doc pm an cdv ct us hl)
/-- a def by its name: where it stands, its function object -/
structure At (K : PySem.W.Frag) (mg : Str → Option Value) (x : Str) (i : Nat) (f : Addr) (fd : FuncData) : Prop where
  fn : Fun K x x (topS i) f fd
  m : mg x = some (.ref f)
theorem at_of_says {K : PySem.W.Frag} {h : Heap} {mg : Str → Option Value} (X : K.In h) (G : h.Ns mainGlobals mg) (c : He.SaysD fa fn K) (j : Nat) {x : Str} {i : Nat} (hg : x ∈ own) (hd : fn[j]? = some (mkD x i) := by rfl) : ∃ fd, At K mg x i (He.ga K x) fd := by
  obtain ⟨fd, F⟩ := c.def_ j hd
  exact ⟨fd, fun_of F rfl rfl rfl rfl rfl rfl, He.glo_ok X G (c.facts (glo_fa hg))⟩
theorem me_of_says {K : PySem.W.Frag} (c : He.SaysD fa fn K) (j k : Nat) {cl x y : Str} {st : Stmt} (hd : fn[j]? = some (mkM cl x y st) := by rfl) (hf : fa[k]? = some (.meth cl x) := by rfl) : ∃ fd, Fun K x y st (He.ma K (He.ga K cl) x) fd ∧ Meth K (He.ga K cl) x (He.ma K (He.ga K cl) x) := by
  obtain ⟨fd, F⟩ := c.def_ j hd
  exact ⟨fd, fun_of F rfl rfl rfl rfl rfl rfl, He.meth_ok (c.fact k hf)⟩
theorem mk_of_says {K : PySem.W.Frag} (c : He.SaysD fa fn K) (j k : Nat) {cl y : Str} {st : Stmt} (hd : fn[j]? = some (mkM cl "__init__" y st) := by rfl) (hf : fa[k]? = some (.mkr cl) := by rfl) : ∃ fd, Fun K "__init__" y st (He.ma K (He.ga K cl) "__init__") fd ∧ Mk K (He.ga K cl) (He.ma K (He.ga K cl) "__init__") := by
  obtain ⟨fd, F⟩ := c.def_ j hd
  exact ⟨fd, fun_of F rfl rfl rfl rfl rfl rfl, He.mkr_ok (c.fact k hf)⟩
end Lm
namespace Lm
open PySem PySem.Spec PyProof.Rows L2 GxR
/-- the law's promise, from what the top leaves -/
theorem law_at {l : PySem.W.OpenLaw} {w : World} {K : PySem.W.Frag} {h : Heap} {mg : Str → Option Value} {fl : Addr} (X : K.In h) (G : h.Ns mainGlobals mg) (hfl : mg "law" = some (.ref fl)) (c : He.SaysX fa fn ts tf ex w h K) :
    LamX.LawAtS l w K CX0 102 63 "_law_script" mg fl h := by
  have cD : He.SaysD fa fn K := congrArg (fun z : He.AlT => z.1) c.t
  have bn : ∀ {x : Str}, x ∈ bare → mg x = none := fun hx => He.free_ok X G (cD.facts (free_fa hx))
  have own_ : ∀ {x : Str}, x ∈ own → mg x = some (.ref (He.ga K x)) := fun hx => He.glo_ok X G (cD.facts (glo_fa hx))
  have B : Bn mg := ⟨bn (by decide +kernel), bn (by decide +kernel), bn (by decide +kernel), bn (by decide +kernel), bn (by decide +kernel), bn (by decide +kernel), bn (by decide +kernel), bn (by decide +kernel), bn (by decide +kernel)⟩
  obtain ⟨d_all_rows, A_all_rows⟩ := at_of_says X G cD 0 (x := "all_rows") (i := 2) (by decide +kernel)
  have b_all_rows : Binds K d_all_rows ["rows"] [] := A_all_rows.fn.binds fun _ _ _ _ _ _ us hl => match us, hl with | [_], _ => rfl
  obtain ⟨d_asked_parts, A_asked_parts⟩ := at_of_says X G cD 1 (x := "asked_parts") (i := 3) (by decide +kernel)
  have b_asked_parts : Binds K d_asked_parts ["row"] [] := A_asked_parts.fn.binds fun _ _ _ _ _ _ us hl => match us, hl with | [_], _ => rfl
  obtain ⟨d_row_may_fail, A_row_may_fail⟩ := at_of_says X G cD 2 (x := "row_may_fail") (i := 4) (by decide +kernel)
  have b_row_may_fail : Binds K d_row_may_fail ["row"] [] := A_row_may_fail.fn.binds fun _ _ _ _ _ _ us hl => match us, hl with | [_], _ => rfl
  obtain ⟨d_reads, A_reads⟩ := at_of_says X G cD 3 (x := "reads") (i := 5) (by decide +kernel)
  have b_reads : Binds K d_reads ["rows"] [] := A_reads.fn.binds fun _ _ _ _ _ _ us hl => match us, hl with | [_], _ => rfl
  obtain ⟨d_sets, A_sets⟩ := at_of_says X G cD 4 (x := "sets") (i := 6) (by decide +kernel)
  have b_sets : Binds K d_sets ["rows"] [] := A_sets.fn.binds fun _ _ _ _ _ _ us hl => match us, hl with | [_], _ => rfl
  obtain ⟨d_may_fail, A_may_fail⟩ := at_of_says X G cD 5 (x := "may_fail") (i := 7) (by decide +kernel)
  have b_may_fail : Binds K d_may_fail ["rows"] [] := A_may_fail.fn.binds fun _ _ _ _ _ _ us hl => match us, hl with | [_], _ => rfl
  obtain ⟨d_speaks, A_speaks⟩ := at_of_says X G cD 6 (x := "speaks") (i := 8) (by decide +kernel)
  have b_speaks : Binds K d_speaks ["rows"] [] := A_speaks.fn.binds fun _ _ _ _ _ _ us hl => match us, hl with | [_], _ => rfl
  obtain ⟨d_count_setters, A_count_setters⟩ := at_of_says X G cD 7 (x := "count_setters") (i := 10) (by decide +kernel)
  have b_count_setters : Binds K d_count_setters ["body"] [] := A_count_setters.fn.binds fun _ _ _ _ _ _ us hl => match us, hl with | [_], _ => rfl
  obtain ⟨d_split_body, A_split_body⟩ := at_of_says X G cD 8 (x := "split_body") (i := 12) (by decide +kernel)
  have b_split_body : Binds K d_split_body ["body"] [] := A_split_body.fn.binds fun _ _ _ _ _ _ us hl => match us, hl with | [_], _ => rfl
  obtain ⟨d_copied, A_copied⟩ := at_of_says X G cD 9 (x := "copied") (i := 13) (by decide +kernel)
  have b_copied : Binds K d_copied ["rows"] [] := A_copied.fn.binds fun _ _ _ _ _ _ us hl => match us, hl with | [_], _ => rfl
  obtain ⟨d_parted, A_parted⟩ := at_of_says X G cD 10 (x := "parted") (i := 14) (by decide +kernel)
  have b_parted : Binds K d_parted ["body"] [] := A_parted.fn.binds fun _ _ _ _ _ _ us hl => match us, hl with | [_], _ => rfl
  obtain ⟨d__law_cell_at, A__law_cell_at⟩ := at_of_says X G cD 11 (x := "_law_cell_at") (i := 16) (by decide +kernel)
  have b__law_cell_at : Binds K d__law_cell_at ["_law_script", "_law_k"] [] := A__law_cell_at.fn.binds fun _ _ _ _ _ _ us hl => match us, hl with | [_, _], _ => rfl
  obtain ⟨d__law_mixed, A__law_mixed⟩ := at_of_says X G cD 12 (x := "_law_mixed") (i := 17) (by decide +kernel)
  have b__law_mixed : Binds K d__law_mixed ["_law_cell", "_law_k"] [] := A__law_mixed.fn.binds fun _ _ _ _ _ _ us hl => match us, hl with | [_, _], _ => rfl
  obtain ⟨d__law_names, A__law_names⟩ := at_of_says X G cD 13 (x := "_law_names") (i := 18) (by decide +kernel)
  have b__law_names : Binds K d__law_names ["_law_cell"] [] := A__law_names.fn.binds fun _ _ _ _ _ _ us hl => match us, hl with | [_], _ => rfl
  obtain ⟨d__law_value, A__law_value⟩ := at_of_says X G cD 14 (x := "_law_value") (i := 19) (by decide +kernel)
  have b__law_value : Binds K d__law_value ["_law_kind", "_law_number", "_law_names_here"] [] := A__law_value.fn.binds fun _ _ _ _ _ _ us hl => match us, hl with | [_, _, _], _ => rfl
  obtain ⟨d__law_let, A__law_let⟩ := at_of_says X G cD 15 (x := "_law_let") (i := 20) (by decide +kernel)
  have b__law_let : Binds K d__law_let ["_law_number", "_law_names_here"] [] := A__law_let.fn.binds fun _ _ _ _ _ _ us hl => match us, hl with | [_, _], _ => rfl
  obtain ⟨d__law_given, A__law_given⟩ := at_of_says X G cD 16 (x := "_law_given") (i := 21) (by decide +kernel)
  have b__law_given : Binds K d__law_given ["_law_cell", "_law_names_here"] [] := A__law_given.fn.binds fun _ _ _ _ _ _ us hl => match us, hl with | [_, _], _ => rfl
  obtain ⟨d__law_whole, A__law_whole⟩ := at_of_says X G cD 17 (x := "_law_whole") (i := 22) (by decide +kernel)
  have b__law_whole : Binds K d__law_whole ["_law_found"] [] := A__law_whole.fn.binds fun _ _ _ _ _ _ us hl => match us, hl with | [_], _ => rfl
  obtain ⟨d__law_alike, A__law_alike⟩ := at_of_says X G cD 18 (x := "_law_alike") (i := 23) (by decide +kernel)
  have b__law_alike : Binds K d__law_alike ["_law_found", "_law_due"] [] := A__law_alike.fn.binds fun _ _ _ _ _ _ us hl => match us, hl with | [_, _], _ => rfl
  obtain ⟨d__law_copied, A__law_copied⟩ := at_of_says X G cD 19 (x := "_law_copied") (i := 24) (by decide +kernel)
  have b__law_copied : Binds K d__law_copied ["_law_rows"] [] := A__law_copied.fn.binds fun _ _ _ _ _ _ us hl => match us, hl with | [_], _ => rfl
  obtain ⟨d__law_sound_row, A__law_sound_row⟩ := at_of_says X G cD 20 (x := "_law_sound_row") (i := 25) (by decide +kernel)
  have b__law_sound_row : Binds K d__law_sound_row ["_law_row"] [] := A__law_sound_row.fn.binds fun _ _ _ _ _ _ us hl => match us, hl with | [_], _ => rfl
  obtain ⟨d__law_sound, A__law_sound⟩ := at_of_says X G cD 21 (x := "_law_sound") (i := 26) (by decide +kernel)
  have b__law_sound : Binds K d__law_sound ["_law_rows"] [] := A__law_sound.fn.binds fun _ _ _ _ _ _ us hl => match us, hl with | [_], _ => rfl
  obtain ⟨d__law_value_of, A__law_value_of⟩ := at_of_says X G cD 22 (x := "_law_value_of") (i := 27) (by decide +kernel)
  have b__law_value_of : Binds K d__law_value_of ["_law_thing", "_law_tale_here"] [] := A__law_value_of.fn.binds fun _ _ _ _ _ _ us hl => match us, hl with | [_, _], _ => rfl
  obtain ⟨d__law_step, A__law_step⟩ := at_of_says X G cD 23 (x := "_law_step") (i := 28) (by decide +kernel)
  have b__law_step : Binds K d__law_step ["_law_tale_here"] [] := A__law_step.fn.binds fun _ _ _ _ _ _ us hl => match us, hl with | [_], _ => rfl
  obtain ⟨d__law_let_done, A__law_let_done⟩ := at_of_says X G cD 24 (x := "_law_let_done") (i := 29) (by decide +kernel)
  have b__law_let_done : Binds K d__law_let_done ["_law_row", "_law_tale_here"] [] := A__law_let_done.fn.binds fun _ _ _ _ _ _ us hl => match us, hl with | [_, _], _ => rfl
  obtain ⟨d__law_row_done, A__law_row_done⟩ := at_of_says X G cD 25 (x := "_law_row_done") (i := 30) (by decide +kernel)
  have b__law_row_done : Binds K d__law_row_done ["_law_row", "_law_tale_here"] [] := A__law_row_done.fn.binds fun _ _ _ _ _ _ us hl => match us, hl with | [_, _], _ => rfl
  obtain ⟨d__law_done, A__law_done⟩ := at_of_says X G cD 26 (x := "_law_done") (i := 31) (by decide +kernel)
  have b__law_done : Binds K d__law_done ["_law_rows", "_law_tale_here"] [] := A__law_done.fn.binds fun _ _ _ _ _ _ us hl => match us, hl with | [_, _], _ => rfl
  obtain ⟨d__law_tale, A__law_tale⟩ := at_of_says X G cD 27 (x := "_law_tale") (i := 32) (by decide +kernel)
  have b__law_tale : Binds K d__law_tale ["_law_rows", "_law_given_here", "_law_most"] [] := A__law_tale.fn.binds fun _ _ _ _ _ _ us hl => match us, hl with | [_, _, _], _ => rfl
  obtain ⟨d_law, A_law⟩ := at_of_says X G cD 28 (x := "law") (i := 33) (by decide +kernel)
  have b_law : Binds K d_law ["_law_script"] [] := A_law.fn.binds fun _ _ _ _ _ _ us hl => match us, hl with | [_], _ => rfl
  obtain ⟨d_Look___init__, F_Look___init__, M_Look___init__⟩ := mk_of_says cD 29 8 (cl := "Look") (y := "Look.__init__") (st := inClass (topS 11) 0)
  have b_Look___init__ : Binds K d_Look___init__ ["self", "body"] [] := F_Look___init__.binds fun _ _ _ _ _ _ us hl => match us, hl with | [_, _], _ => rfl
  obtain ⟨d_Look_goes_ahead, F_Look_goes_ahead, M_Look_goes_ahead⟩ := me_of_says cD 30 5 (cl := "Look") (x := "goes_ahead") (y := "Look.goes_ahead") (st := inClass (topS 11) 1)
  have b_Look_goes_ahead : Binds K d_Look_goes_ahead ["self", "row"] [] := F_Look_goes_ahead.binds fun _ _ _ _ _ _ us hl => match us, hl with | [_, _], _ => rfl
  obtain ⟨d_Look_send_ahead, F_Look_send_ahead, M_Look_send_ahead⟩ := me_of_says cD 31 6 (cl := "Look") (x := "send_ahead") (y := "Look.send_ahead") (st := inClass (topS 11) 2)
  have b_Look_send_ahead : Binds K d_Look_send_ahead ["self", "row"] [] := F_Look_send_ahead.binds fun _ _ _ _ _ _ us hl => match us, hl with | [_, _], _ => rfl
  obtain ⟨d_Look_keep, F_Look_keep, M_Look_keep⟩ := me_of_says cD 32 7 (cl := "Look") (x := "keep") (y := "Look.keep") (st := inClass (topS 11) 3)
  have b_Look_keep : Binds K d_Look_keep ["self", "row"] [] := F_Look_keep.binds fun _ _ _ _ _ _ us hl => match us, hl with | [_, _], _ => rfl
  have efl : fl = He.ga K "law" := by
    have e := hfl.symm.trans A_law.m
    cases e
    rfl
  subst efl
  refine ⟨d_law, [], spLaw K, fun p hp => by simp at hp, fun p hp => by simp at hp, fun p hp => by simp at hp, ?_, ?_, ?_⟩
  · intro s v
    exact fun_to (ps := ["_law_script"]) A_law.fn (fun _ _ _ _ _ _ us hl => match us, hl with | [_], _ => rfl) s [v] rfl
  · intro H a ns hl _ hT hS
    exact ⟨a, ns, rfl, hS, hl, fun _ => rfl⟩
  · intro base hX hG hTB
    have Bq : Bp mg := ⟨bn (by decide +kernel), bn (by decide +kernel), bn (by decide +kernel)⟩
    have C : Cb K mg (He.ga K "BLOCKS") := ⟨own_ (by decide +kernel), tupB_ok c.more (by decide +kernel)⟩
    have T : Lk K (He.ga K "Look") := ⟨He.cls_ok (cD.fact 0 (f := .cls "Look") rfl), He.noat_ok (cD.fact 1 (f := .noat "Look" "setters") rfl), He.noat_ok (cD.fact 2 (f := .noat "Look" "asked") rfl), He.noat_ok (cD.fact 3 (f := .noat "Look" "failing") rfl), He.noat_ok (cD.fact 4 (f := .noat "Look" "speaking") rfl)⟩
    have D_all_rows : Df l.prog w K mg base "all_rows" (1) _ d_all_rows ["rows"] (spAllRows K) := ⟨ok_all_rows A_all_rows.fn C, A_all_rows.m, A_all_rows.fn.kp, b_all_rows⟩
    have D_asked_parts : Df l.prog w K mg base "asked_parts" (1) _ d_asked_parts ["row"] (spAsked K) := ⟨ok_asked A_asked_parts.fn, A_asked_parts.m, A_asked_parts.fn.kp, b_asked_parts⟩
    have D_row_may_fail : Df l.prog w K mg base "row_may_fail" (1) _ d_row_may_fail ["row"] (spRmf K) := ⟨ok_rmf A_row_may_fail.fn B, A_row_may_fail.m, A_row_may_fail.fn.kp, b_row_may_fail⟩
    have D_reads : Df l.prog w K mg base "reads" (2) _ d_reads ["rows"] (spNamed K askN) := ⟨ok_reads A_reads.fn B Bq D_all_rows D_asked_parts, A_reads.m, A_reads.fn.kp, b_reads⟩
    have D_sets : Df l.prog w K mg base "sets" (2) _ d_sets ["rows"] (spNamed K setN) := ⟨ok_sets A_sets.fn Bq D_all_rows, A_sets.m, A_sets.fn.kp, b_sets⟩
    have D_may_fail : Df l.prog w K mg base "may_fail" (2) _ d_may_fail ["rows"] (spSome K Row.fails) := ⟨ok_may A_may_fail.fn Bq D_all_rows D_row_may_fail, A_may_fail.m, A_may_fail.fn.kp, b_may_fail⟩
    have D_speaks : Df l.prog w K mg base "speaks" (2) _ d_speaks ["rows"] (spSome K Row.says) := ⟨ok_speaks A_speaks.fn Bq D_all_rows, A_speaks.m, A_speaks.fn.kp, b_speaks⟩
    have D_count_setters : Df l.prog w K mg base "count_setters" (3) _ d_count_setters ["body"] (spCount K) := ⟨ok_count A_count_setters.fn D_sets, A_count_setters.m, A_count_setters.fn.kp, b_count_setters⟩
    have MG : Dm l.prog w K mg base (He.ga K "Look") "goes_ahead" 3 _ _ ["self", "row"] (spGoes K (He.ga K "Look")) := ⟨ok_goes F_Look_goes_ahead T B D_may_fail D_reads, M_Look_goes_ahead, b_Look_goes_ahead⟩
    have MS : Dm l.prog w K mg base (He.ga K "Look") "send_ahead" 1 _ _ ["self", "row"] (spSend K (He.ga K "Look")) := ⟨ok_send F_Look_send_ahead T, M_Look_send_ahead, b_Look_send_ahead⟩
    have MK : Dm l.prog w K mg base (He.ga K "Look") "keep" 3 _ _ ["self", "row"] (spKeep K (He.ga K "Look")) := ⟨ok_keep F_Look_keep T D_reads D_may_fail D_speaks, M_Look_keep, b_Look_keep⟩
    have D_split_body : Df l.prog w K mg base "split_body" (6) _ d_split_body ["body"] (spSplit K) := ⟨ok_split A_split_body.fn T (own_ (by decide +kernel)) M_Look___init__ (ok_linit F_Look___init__ T D_count_setters) b_Look___init__ MG MS MK, A_split_body.m, A_split_body.fn.kp, b_split_body⟩
    have D_copied : Df l.prog w K mg base "copied" (50) _ d_copied ["rows"] (spCopy K 50) := ⟨all_copy A_copied.fn A_copied.m b_copied C 50, A_copied.m, A_copied.fn.kp, b_copied⟩
    have D_parted : Df l.prog w K mg base "parted" (51) _ d_parted ["body"] (spParted K 50) := ⟨ok_parted A_parted.fn D_copied D_split_body (by decide), A_parted.m, A_parted.fn.kp, b_parted⟩
    have D__law_cell_at : Df l.prog w K mg base "_law_cell_at" (1) _ d__law_cell_at ["_law_script", "_law_k"] (spCell K) := ⟨ok_cell A__law_cell_at.fn B.len, A__law_cell_at.m, A__law_cell_at.fn.kp, b__law_cell_at⟩
    have D__law_mixed : Df l.prog w K mg base "_law_mixed" (1) _ d__law_mixed ["_law_cell", "_law_k"] (spMixed) := ⟨ok_mixed A__law_mixed.fn, A__law_mixed.m, A__law_mixed.fn.kp, b__law_mixed⟩
    have D__law_names : Df l.prog w K mg base "_law_names" (1) _ d__law_names ["_law_cell"] (spNamesD) := ⟨ok_names A__law_names.fn B.range, A__law_names.m, A__law_names.fn.kp, b__law_names⟩
    have D__law_value : Df l.prog w K mg base "_law_value" (1) _ d__law_value ["_law_kind", "_law_number", "_law_names_here"] (spValue K) := ⟨ok_value A__law_value.fn, A__law_value.m, A__law_value.fn.kp, b__law_value⟩
    have D__law_let : Df l.prog w K mg base "_law_let" (2) _ d__law_let ["_law_number", "_law_names_here"] (spLetC K) := ⟨ok_letC A__law_let.fn D__law_value, A__law_let.m, A__law_let.fn.kp, b__law_let⟩
    have D__law_given : Df l.prog w K mg base "_law_given" (2) _ d__law_given ["_law_cell", "_law_names_here"] (spGiven K) := ⟨ok_given A__law_given.fn B.range D__law_mixed, A__law_given.m, A__law_given.fn.kp, b__law_given⟩
    have D__law_whole : Df l.prog w K mg base "_law_whole" (1) _ d__law_whole ["_law_found"] (spWhole) := ⟨ok_whole A__law_whole.fn B, A__law_whole.m, A__law_whole.fn.kp, b__law_whole⟩
    have D__law_copied : Df l.prog w K mg base "_law_copied" (50) _ d__law_copied ["_law_rows"] (spCopied K 50) := ⟨all_copied A__law_copied.fn A__law_copied.m b__law_copied B.len 50, A__law_copied.m, A__law_copied.fn.kp, b__law_copied⟩
    have D__law_sound : Df l.prog w K mg base "_law_sound" (101) _ d__law_sound ["_law_rows"] (spSound K 50) := ⟨all_sound A__law_sound.fn A__law_sound.m b__law_sound A__law_sound_row.fn A__law_sound_row.m b__law_sound_row B D__law_whole 50, A__law_sound.m, A__law_sound.fn.kp, b__law_sound⟩
    have md : mg "dict" = none := bn (by decide +kernel)
    have D__law_value_of : Df l.prog w K mg base "_law_value_of" (1) _ d__law_value_of ["_law_thing", "_law_tale_here"] (spLVal) := ⟨ok_lval A__law_value_of.fn B, A__law_value_of.m, A__law_value_of.fn.kp, b__law_value_of⟩
    have D__law_step : Df l.prog w K mg base "_law_step" (1) _ d__law_step ["_law_tale_here"] (spLStep) := ⟨ok_lstep A__law_step.fn, A__law_step.m, A__law_step.fn.kp, b__law_step⟩
    have D__law_let_done : Df l.prog w K mg base "_law_let_done" (2) _ d__law_let_done ["_law_row", "_law_tale_here"] (spLLet K) := ⟨ok_llet A__law_let_done.fn B.int D__law_value_of, A__law_let_done.m, A__law_let_done.fn.kp, b__law_let_done⟩
    have LD := all_ldone (P := l.prog) (w := w) (base := base) B.int D__law_value_of D__law_step D__law_let_done A__law_row_done.fn A__law_row_done.m b__law_row_done A__law_done.fn A__law_done.m b__law_done 20
    have D__law_tale : Df l.prog w K mg base "_law_tale" (43) _ d__law_tale ["_law_rows", "_law_given_here", "_law_most"] (spLTale K 20) := ⟨ok_ltale A__law_tale.fn md LD, A__law_tale.m, A__law_tale.fn.kp, b__law_tale⟩
    exact ok_law A_law.fn B (bn (by decide +kernel)) (bn (by decide +kernel)) D__law_mixed D__law_cell_at D__law_names D__law_value D__law_let D_parted D__law_sound D__law_copied D__law_given D__law_tale
end Lm
namespace Lm
open PySem PySem.Spec PyProof.Rows L2 GxR
def loose0 : List PySem.Str := ["BLOCKS", "all_rows", "asked_parts", "row_may_fail", "reads", "sets", "may_fail", "speaks", "count_setters", "Look", "split_body", "copied", "parted", "_law_cell_at"]
def loose1 : List PySem.Str := ["_law_mixed", "_law_names", "_law_value", "_law_let", "_law_given", "_law_whole", "_law_alike", "_law_copied", "_law_sound_row", "_law_sound", "_law_value_of", "_law_step", "_law_let_done", "_law_row_done"]
def loose2 : List PySem.Str := ["_law_done", "_law_tale"]
/-- the names that the top binds besides the law -/
def loose : List PySem.Str := loose0 ++ loose1 ++ loose2
abbrev R : PySem.W.OpenRow := PySem.W.OpenLaw.row PySem.Challenge.rw_loopmover_k08_one_loop_saves
abbrev hk : PySem.W.Hook := He.hookX 4 fa fn ts tf ex
def ob (s : PySem.W.SharedT) : He.AlX := He.obsX 4 fa fn ts tf ex (HandSHeadRun.getT s)
theorem ob_eq (s : PySem.W.SharedT) : ob s = hk.obs s.abs := He.obsX_eq (HandSHeadRun.getT_eq s)
set_option maxHeartbeats 0 in
theorem runF (w : World) : HandSHeadRun.RunEq R (PySem.W.view R.prog [33]) hk ob 3000 loose (w.withFollow "special-get-raises" false) := by
  intro os
  kernel_rfl
set_option maxHeartbeats 0 in
theorem runT (w : World) : HandSHeadRun.RunEq R (PySem.W.view R.prog [33]) hk ob 3000 loose (w.withFollow "special-get-raises" true) := by
  intro os
  kernel_rfl
theorem run (w : World) : HandSHeadRun.RunEq R (PySem.W.view R.prog [33]) hk ob 3000 loose w := PySem.W.byRow2 "special-get-raises" (P := fun w => HandSHeadRun.RunEq R (PySem.W.view R.prog [33]) hk ob 3000 loose w) runF runT w
end Lm
open PySem PySem.W PySem.Calls PyProof.Rows
set_option maxRecDepth 100000 in
set_option maxHeartbeats 0 in
theorem PySem.Challenge.cw_loopmover_k08_one_loop_saves_holds : PySem.Challenge.rw_loopmover_k08_one_loop_saves.Holds := by
  w_on; o_law
  refine HandSHeadRun.head_any (r := OpenLaw.row PySem.Challenge.rw_loopmover_k08_one_loop_saves) (q := view (OpenLaw.row PySem.Challenge.rw_loopmover_k08_one_loop_saves).prog [33]) (H := Lm.hk) (ob := Lm.ob) (M := 3000) (loose := Lm.loose) (d := HandSHeadRun.topDef (OpenLaw.row PySem.Challenge.rw_loopmover_k08_one_loop_saves).prog 33) (kwd := []) Lm.ob_eq
    (by kernel_rfl) (fun s => by kernel_rfl) Lm.run (by kernel_rfl) (by kernel_rfl) (by kernel_rfl) (by rfl) (by first | assumption | decide +kernel) (by decide +kernel) ⟨rfl, rfl, rfl, rfl, rfl, by decide +kernel⟩ ?hw ?hc
  case hw => w_witness2
  case hc =>
    refine LamX.walk_ofTsE (l := PySem.Challenge.rw_loopmover_k08_one_loop_saves) (n := 63) (k := 102) (x := "_law_script") (CX := fun _ => L2.CX0) rfl (by decide) (by kernel_rfl) ⟨rfl, by decide, by decide⟩ ?F (fun _ _ _ _ _ z => z)
    intro w mg fl h Y G hmg0
    obtain ⟨K, KX, c⟩ := Y
    have hmg : mg ("law" : PySem.Str) = some (.ref fl) := by
      have e : (HandSHeadRun.topDef (OpenLaw.row PySem.Challenge.rw_loopmover_k08_one_loop_saves).prog 33).name = ("law" : PySem.Str) := by kernel_rfl
      rw [← e]
      exact hmg0
    exact ⟨K, KX, Lm.law_at KX G hmg c⟩
