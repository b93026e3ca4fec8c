import PyProof.Rows.All
import Wide.All
import OpenK.AllK
import Wide.FinOn
import HandS.Base
import HandS.Call
import HandS.List
import HandS.Words
import HandS.WordsList
import HandS.Text
import HandS.Comp
import HandS.IsInst
import HandS.AnyAll
import HandS.Style
import HandS.Dict
import HandS.ExcIs
import KE.KExcIs
import HandS.Exc
import HandS.ExcOwn
import KE.KExcSuper
import KE.KSuper
import HandS.ExcSuper
import HandS.Ends
import HandS.FStr
import HandS.WordsExc
import HandS.RaiseMore
import HandS.More
import HandS.Codes
import HandS.EndTab
import HandS.HeadWalk
import HandS.HeadHook4
import HandS.Head0
import HandS.Head1
import HandS.Head2
import HandS.HeadEnd
import PySem.Challenge.RW_loopmover_k04_what_is_no_program
set_option Elab.async false
set_option linter.all false
set_option maxRecDepth 100000
set_option maxHeartbeats 4000000
/-! Names, values and rows, in plain Lean. -/
namespace Lm
open PySem
/-- the words that no name is, by their codes -/
def bars : List (List Nat) := [[115, 97, 121], [119, 104, 101, 110], [108, 111, 111, 112], [97, 103, 97, 105, 110], [101, 110, 100]]
def sameL : List Nat → List Nat → Bool
  | [], [] => true
  | a :: r, b :: s => Nat.beq a b && sameL r s
  | _, _ => false
theorem sameL_iff : ∀ {l m : List Nat}, sameL l m = true ↔ l = m
  | [], [] => by simp [sameL]
  | [], _ :: _ => by simp [sameL]
  | _ :: _, [] => by simp [sameL]
  | a :: r, b :: s => by
    show (Nat.beq a b && sameL r s) = true ↔ _
    rw [Bool.and_eq_true, sameL_iff, Nat.beq_eq, List.cons.injEq]
def isBar (l : List Nat) : Bool := bars.any (sameL l)
def lettersB : List Nat → Bool
  | [] => true
  | c :: r => Nat.ble 97 c && (Nat.ble c 122 && lettersB r)
/-- codes that make a name -/
def GoodL (l : List Nat) : Bool := Nat.ble 1 l.length && Nat.ble l.length 6 && lettersB l && !isBar l
def Good (s : Str) : Prop := GoodL s.cps.toList = true
def ltr (i : Nat) : Nat := 97 + i % 26
/-- six letters, five apart -/
def tailN (c : Nat) : List Nat := [ltr (c + 1), ltr (c + 6), ltr (c + 11), ltr (c + 16), ltr (c + 21), ltr (c + 26)]
/-- one letter in the place of one of the six -/
def w1 (c k place size : Nat) : List Nat := (tailN c).take place ++ ltr (c + 5 * k) :: ((tailN c).drop (place + 1)).take (size - (place + 1))
def w2 (c k t : Nat) : List Nat := ltr (c + 7 * (k / 4)) :: (tailN c).take (k % 4 + t)
def w0 (a u m : Nat) : List Nat := ltr a :: [ltr u, ltr (u + 3), ltr (u + 6), ltr (u + 9), ltr (u + 12)].take m
def below (n : Nat) (f : Nat → Bool) : Bool := (List.range n).all f
theorem below_at {n : Nat} {f : Nat → Bool} (h : below n f = true) {i : Nat} (hi : i < n) : f i = true :=
  List.all_eq_true.mp h i (List.mem_range.mpr hi)
theorem w1_all : below 26 (fun c => below 16 fun k => below 7 fun size => below size fun place => GoodL (w1 c k place size)) = true := by decide +kernel
theorem w2_all : below 26 (fun c => below 16 fun k => below 3 fun t => GoodL (w2 c k t)) = true := by decide +kernel
theorem w0_all : below 26 (fun a => below 26 fun u => below 6 fun m => GoodL (w0 a u m)) = true := by decide +kernel
theorem w1_ok {c k place size : Nat} (h1 : c < 26) (h2 : k < 16) (h3 : size < 7) (h4 : place < size) : GoodL (w1 c k place size) = true :=
  below_at (below_at (below_at (below_at w1_all h1) h2) h3) h4
theorem w2_ok {c k t : Nat} (h1 : c < 26) (h2 : k < 16) (h3 : t < 3) : GoodL (w2 c k t) = true := below_at (below_at (below_at w2_all h1) h2) h3
theorem w0_ok {a u m : Nat} (h1 : a < 26) (h2 : u < 26) (h3 : m < 6) : GoodL (w0 a u m) = true := below_at (below_at (below_at w0_all h1) h2) h3
end Lm
/-! Rows as they stand in the heap. -/
namespace Lm
open PySem L2
/-- a def that lets nothing out, as its callers need it -/
structure Df (P : Program) (w : World) (K : PySem.W.Frag) (mg : Str → Option Value) (base : Heap) (x : Str) (k : Nat) (f : Addr) (fd : FuncData) (ps : List Str) (sp : Sp) : Prop where
  ok : FnOk P w K mg base CX0 k f fd ps sp
  m : mg x = some (.ref f)
  kp : PySem.W.keepIn K (.ref f) = true
  b : Binds K fd ps []
theorem pe_df {X : Cx} {x : Str} {k : Nat} {f : Addr} {fd : FuncData} {ps : List Str} {sp : Sp} {e : Expr} {es : List Expr} {p pos : Pos} {t : TA} (D : Df X.prog X.w X.K X.mg X.base x k f fd ps sp) (hr : Room k X.A) (ha : PA X (e :: es) t) (hg : Gl X x := by rfl)
    (hdb : (x == ("__debug__" : Str)) = false := by decide) (he : starEach (e :: es) X.env = (false, eval e X.env) :: starEach es X.env := by rfl) (hpl : (backTo pos (starEach es X.env)).any (·.1) = false := by rfl) :
    PE X (.Call (.Name x p) (e :: es) [] pos) (tCall sp [] E0 t) := pe_call D.ok hr hg D.m D.kp D.b .nil pass0 ha hdb he hpl
/-- no test in a comprehension -/
theorem kept {A B : Prop} (h : A) : (fun b : Bool => if b = true then A else B) true := by
  show if true = true then A else B
  rw [if_pos rfl]
  exact h
/-- a value of a row: a name or a number -/
inductive Vl where
  | nm (s : Str)
  | nu (i : Int)
def Vl.v : Vl → V
  | .nm s => .str s
  | .nu i => .int i
def Vl.ok (ss : List Str) : Vl → Prop
  | .nm s => s ∈ ss
  | .nu i => 0 ≤ i ∧ i < 1000000
/-- a row; a block's test is any value -/
inductive Row where
  | lt (to sg : Str) (a b : Vl)
  | sy (a : Vl)
  | bk (kd : Str) (ts : V) (rs : List Row)
def signs : List Str := ["+", "-", "*", "<", "/"]
def kinds : List Str := ["when", "loop", "again"]
mutual
/-- the rows lean on the names ss alone, no list in them is long -/
def Row.ok (ss : List Str) : Row → Prop
  | .lt to sg a b => to ∈ ss ∧ sg ∈ signs ∧ a.ok ss ∧ b.ok ss
  | .sy a => a.ok ss
  | .bk kd ts rs => kd ∈ kinds ∧ (∃ s, ts = .str s ∧ s ∈ ss) ∧ rs.length ≤ 2000 ∧ oks ss rs
def oks (ss : List Str) : List Row → Prop
  | [] => True
  | r :: rs => r.ok ss ∧ oks ss rs
end
mutual
def Row.dep : Row → Nat
  | .lt _ _ _ _ => 0
  | .sy _ => 0
  | .bk _ _ rs => deps rs + 1
def deps : List Row → Nat
  | [] => 0
  | r :: rs => max r.dep (deps rs)
end
mutual
/-- how many rows -/
def Row.tot : Row → Nat
  | .lt _ _ _ _ => 1
  | .sy _ => 1
  | .bk _ _ rs => tots rs + 1
def tots : List Row → Nat
  | [] => 0
  | r :: rs => r.tot + tots rs
end
theorem Row.tot_pos : ∀ r : Row, 1 ≤ r.tot
  | .lt _ _ _ _ => Nat.le_refl 1
  | .sy _ => Nat.le_refl 1
  | .bk _ _ rs => by
    show 1 ≤ tots rs + 1
    omega
theorem tots_app : ∀ {rs qs : List Row}, tots (rs ++ qs) = tots rs + tots qs
  | [], qs => (Nat.zero_add _).symm
  | r :: rs, qs => by
    show r.tot + tots (rs ++ qs) = (r.tot + tots rs) + tots qs
    rw [tots_app, Nat.add_assoc]
theorem len_tots : ∀ rs : List Row, rs.length ≤ tots rs
  | [] => Nat.le_refl 0
  | r :: rs => by
    have h1 := r.tot_pos
    have h2 := len_tots rs
    show rs.length + 1 ≤ r.tot + tots rs
    omega
mutual
/-- the row stands at v -/
def RowAt (K : PySem.W.Frag) (H : Hp) : Row → V → Prop
  | .lt to sg a b, v => ∃ p, v = .ref p ∧ SqT K H p [.str "let", .str to, .str sg, a.v, b.v]
  | .sy a, v => ∃ p, v = .ref p ∧ SqT K H p [.str "say", a.v]
  | .bk kd ts rs, v => ∃ p l vs, v = .ref p ∧ SqT K H p [.str kd, ts, .ref l] ∧ SqL K H l vs ∧ AllAt K H rs vs
def AllAt (K : PySem.W.Frag) (H : Hp) : List Row → List V → Prop
  | [], vs => vs = []
  | r :: rs, vs => ∃ v ws, vs = v :: ws ∧ RowAt K H r v ∧ AllAt K H rs ws
end
/-- the rows stand in the list at l -/
def RowsAt (K : PySem.W.Frag) (H : Hp) (l : Addr) (rs : List Row) : Prop := ∃ vs, SqL K H l vs ∧ AllAt K H rs vs
/-- the same, in a list of the heap's own -/
def RowsL (K : PySem.W.Frag) (H : Hp) (l : Addr) (rs : List Row) : Prop := ∃ vs, H l = some (.lst vs) ∧ AllAt K H rs vs
theorem RowsL.rows {K : PySem.W.Frag} {H : Hp} {l : Addr} {rs : List Row} (h : RowsL K H l rs) : RowsAt K H l rs := let ⟨vs, h1, h2⟩ := h; ⟨vs, SqL.of h1, h2⟩
/-- what stood stands; tables may have grown -/
structure Kp (H H' : Hp) : Prop where
  at_ : ∀ b o, H b = some o → (∀ ps, o ≠ .tbl ps) → H' b = some o
  tb : ∀ b ps, H b = some (.tbl ps) → ∃ qs, H' b = some (.tbl qs)
theorem Same.kp {H H' : Hp} (h : Same H H') : Kp H H' := ⟨fun b o e _ => h b o e, fun b ps e => ⟨ps, h _ _ e⟩⟩
theorem Kp.refl (H : Hp) : Kp H H := Same.kp (Same.refl H)
theorem Kp.trans {H H1 H2 : Hp} (a : Kp H H1) (b : Kp H1 H2) : Kp H H2 := ⟨fun c o e n => b.at_ c o (a.at_ c o e n) n, fun c ps e => let ⟨qs, q⟩ := a.tb c ps e; b.tb c qs q⟩
theorem Kp.free {H H' : Hp} (k : Kp H H') {p : Addr} (h : H' p = none) : H p = none := by
  cases q : H p with
  | none => rfl
  | some o =>
    cases o with
    | tbl ps =>
      obtain ⟨qs, e⟩ := k.tb p ps q
      rw [h] at e
      cases e
    | _ =>
      have e := k.at_ p _ q (fun ps z => by cases z)
      rw [h] at e
      cases e
theorem Kp.put {H H' : Hp} (k : Kp H H') {p : Addr} (h : H p = none) (o : HO) : Kp H (upd H' p o) := ⟨fun b u e n => by rw [upd_ne (ne_of_none e h)]; exact k.at_ b u e n, fun b ps e => by rw [upd_ne (ne_of_none e h)]; exact k.tb b ps e⟩
theorem same_new {H : Hp} {p : Addr} (h : H p = none) (o : HO) : Same H (upd H p o) := fun b u q => by rw [upd_ne (ne_of_none q h)]; exact q
theorem Kp.sqL {K : PySem.W.Frag} {H H' : Hp} {a : Addr} {xs : List V} (e : Kp H H') (h : SqL K H a xs) : SqL K H' a xs := by
  rcases h with (h | ⟨o, h⟩) | h
  · exact .inl (.inl (e.at_ _ _ h (fun _ q => by cases q)))
  · exact .inl (.inr ⟨o, e.at_ _ _ h (fun _ q => by cases q)⟩)
  · exact .inr h
theorem Kp.sqT {K : PySem.W.Frag} {H H' : Hp} {a : Addr} {xs : List V} (e : Kp H H') (h : SqT K H a xs) : SqT K H' a xs := by
  rcases h with (h | ⟨o, h⟩) | h
  · exact .inl (.inl (e.at_ _ _ h (fun _ q => by cases q)))
  · exact .inl (.inr ⟨o, e.at_ _ _ h (fun _ q => by cases q)⟩)
  · exact .inr h
mutual
theorem RowAt.mono {K : PySem.W.Frag} {H H' : Hp} (e : Kp H H') : ∀ (r : Row) (v : V), RowAt K H r v → RowAt K H' r v
  | .lt _ _ _ _, _, ⟨p, h1, h2⟩ => ⟨p, h1, e.sqT h2⟩
  | .sy _, _, ⟨p, h1, h2⟩ => ⟨p, h1, e.sqT h2⟩
  | .bk _ _ rs, _, ⟨p, l, vs, h1, h2, h3, h4⟩ => ⟨p, l, vs, h1, e.sqT h2, e.sqL h3, AllAt.mono e rs vs h4⟩
theorem AllAt.mono {K : PySem.W.Frag} {H H' : Hp} (e : Kp H H') : ∀ (rs : List Row) (vs : List V), AllAt K H rs vs → AllAt K H' rs vs
  | [], _, h => h
  | r :: rs, _, ⟨v, ws, h1, h2, h3⟩ => ⟨v, ws, h1, RowAt.mono e r v h2, AllAt.mono e rs ws h3⟩
end
theorem RowsAt.mono {K : PySem.W.Frag} {H H' : Hp} (e : Kp H H') {l : Addr} {rs : List Row} (h : RowsAt K H l rs) : RowsAt K H' l rs :=
  let ⟨vs, h1, h2⟩ := h; ⟨vs, e.sqL h1, AllAt.mono e rs vs h2⟩
theorem RowsL.mono {K : PySem.W.Frag} {H H' : Hp} (e : Kp H H') {l : Addr} {rs : List Row} (h : RowsL K H l rs) : RowsL K H' l rs :=
  let ⟨vs, h1, h2⟩ := h; ⟨vs, e.at_ _ _ h1 (fun _ q => by cases q), AllAt.mono e rs vs h2⟩
theorem AllAt.len {K : PySem.W.Frag} {H : Hp} : ∀ {rs : List Row} {vs : List V}, AllAt K H rs vs → vs.length = rs.length
  | [], _, h => by
    have e : _ = [] := h
    rw [e]
    rfl
  | r :: rs, _, ⟨v, ws, h1, _, h3⟩ => by rw [h1, List.length_cons, List.length_cons, AllAt.len h3]
theorem AllAt.app {K : PySem.W.Frag} {H : Hp} : ∀ {rs qs : List Row} {vs ws : List V}, AllAt K H rs vs → AllAt K H qs ws → AllAt K H (rs ++ qs) (vs ++ ws)
  | [], _, _, _, h, q => by
    have e : _ = [] := h
    rw [e]
    exact q
  | r :: rs, _, _, _, ⟨v, us, h1, h2, h3⟩, q => by
    rw [h1]
    exact ⟨v, us ++ _, rfl, h2, AllAt.app h3 q⟩
theorem AllAt.one {K : PySem.W.Frag} {H : Hp} {r : Row} {v : V} (h : RowAt K H r v) : AllAt K H [r] [v] := ⟨v, [], rfl, h, rfl⟩
theorem AllAt.at {K : PySem.W.Frag} {H : Hp} : ∀ {rs : List Row} {vs : List V} {i : Nat} {v : V}, AllAt K H rs vs → vs[i]? = some v → ∃ r, rs[i]? = some r ∧ RowAt K H r v
  | [], _, i, v, h, e => by
    have e' : _ = [] := h
    rw [e'] at e
    cases e
  | r :: rs, _, 0, v, ⟨v', ws, h1, h2, h3⟩, e => by
    rw [h1] at e
    cases e
    exact ⟨r, rfl, h2⟩
  | r :: rs, _, i + 1, v, ⟨v', ws, h1, h2, h3⟩, e => by
    rw [h1] at e
    exact AllAt.at (rs := rs) h3 (by simpa using e)
theorem oks_app {ss : List Str} : ∀ {rs qs : List Row}, oks ss rs → oks ss qs → oks ss (rs ++ qs)
  | [], _, _, q => q
  | _ :: _, _, ⟨h1, h2⟩, q => ⟨h1, oks_app h2 q⟩
theorem oks_at {ss : List Str} : ∀ {rs : List Row} {i : Nat} {r : Row}, oks ss rs → rs[i]? = some r → r.ok ss
  | [], _, _, _, e => by cases e
  | _ :: _, 0, _, h, e => by
    cases e
    exact h.1
  | _ :: _, _ + 1, _, h, e => oks_at h.2 e
theorem deps_app : ∀ {rs qs : List Row}, deps (rs ++ qs) = max (deps rs) (deps qs)
  | [], qs => by
    show deps qs = max 0 (deps qs)
    omega
  | r :: rs, qs => by
    show max r.dep (deps (rs ++ qs)) = max (max r.dep (deps rs)) (deps qs)
    rw [deps_app]
    omega
theorem dep_at : ∀ {rs : List Row} {i : Nat} {r : Row}, rs[i]? = some r → r.dep ≤ deps rs
  | [], _, _, e => by cases e
  | r :: rs, 0, _, e => by
    cases e
    exact Nat.le_max_left _ _
  | r :: rs, _ + 1, _, e => Nat.le_trans (dep_at (rs := rs) e) (Nat.le_max_right _ _)
end Lm
/-! The sixteen names. -/
namespace Lm
open PySem L2
def abc : Str := "abcdefghijklmnopqrstuvwxyz"
theorem abc_all : below 26 (fun n => abc.cps.toList[n]? == some (97 + n)) = true := by decide +kernel
theorem abc_at {z : Int} (h0 : 0 ≤ z) (h1 : z < 26) : atI abc.cps.toList z = some (97 + z.toNat) :=
  at_nat' h0 (by simpa using below_at abc_all (i := z.toNat) (by omega))
where
  at_nat' {xs : List Nat} {z : Int} {v : Nat} (h0 : 0 ≤ z) (h : xs[z.toNat]? = some v) : atI xs z = some v := by
    have q : atI xs ((z.toNat : Nat) : Int) = some v := atI_nat h
    rw [show ((z.toNat : Nat) : Int) = z by omega] at q
    exact q
theorem yes {σ : St} {H : Hp} {Q : Bool → Hp → Prop} (h : Q true H) : tYes σ H Q := h
/-- one letter as a text -/
def one (n : Nat) : Str := ⟨#[n]⟩
theorem abc_mod (z : Int) : atI abc.cps.toList (z % 26) = some (97 + (z % 26).toNat) := abc_at (Int.emod_nonneg _ (by decide)) (Int.emod_lt_of_pos _ (by decide))
theorem ltr_int (c : Int) (m : Nat) : 97 + ((c + (m : Int)) % 26).toNat = ltr ((c % 26).toNat + m) := by
  unfold ltr
  omega
theorem app_toList (x y : Str) : (x ++ y).cps.toList = x.cps.toList ++ y.cps.toList := by
  show (x.cps ++ y.cps).toList = _
  simp
theorem len_toList (x : Str) : x.length = x.cps.toList.length := by simp [Str.length]
theorem one_toList (n : Nat) : (one n).cps.toList = [n] := rfl
theorem cut_head (z : Str) (k : Nat) (h : k ≤ z.length) : (cutS z none (some (k : Int))).cps.toList = z.cps.toList.take k := by
  unfold cutS
  rw [HT.sIx_nat]
  show ((z.cps.toList.drop 0).take (min k z.length - 0)).toArray.toList = _
  rw [List.drop_zero, Nat.sub_zero, Nat.min_eq_left h]
theorem cut_mid (z : Str) (j k : Nat) (h : j ≤ z.length) (h2 : k ≤ z.length) : (cutS z (some (j : Int)) (some (k : Int))).cps.toList = (z.cps.toList.drop j).take (k - j) := by
  unfold cutS
  rw [HT.sIx_nat, HT.sIx_nat, Nat.min_eq_left h, Nat.min_eq_left h2]
theorem cut_len (z : Str) (lo hi : Option Int) : (cutS z lo hi).length ≤ z.length := by
  rw [len_toList, len_toList z]
  unfold cutS
  simp only [List.toList_toArray, List.length_take, List.length_drop]
  omega
theorem good_len {s : Str} (h : Good s) : 1 ≤ s.length ∧ s.length ≤ 6 := by
  unfold Good GoodL at h
  simp only [Bool.and_eq_true] at h
  obtain ⟨⟨⟨h1, h2⟩, _⟩, _⟩ := h
  rw [len_toList]
  exact ⟨Nat.le_of_ble_eq_true h1, Nat.le_of_ble_eq_true h2⟩
theorem app_len (x y : Str) : (x ++ y).length = x.length + y.length := by
  rw [len_toList, app_toList, List.length_append, ← len_toList, ← len_toList]
/-- the six letters as a text -/
def tailS (c : Nat) : Str := ⟨#[ltr (c + 1), ltr (c + 6), ltr (c + 11), ltr (c + 16), ltr (c + 21), ltr (c + 26)]⟩
theorem tailS_list (c : Nat) : (tailS c).cps.toList = tailN c := rfl
theorem tailS_len (c : Nat) : (tailS c).length = 6 := rfl
/-- the first i of the six letters, one a text -/
def tl (c : Nat) (i : Nat) : List Str := [one (ltr (c + 1)), one (ltr (c + 6)), one (ltr (c + 11)), one (ltr (c + 16)), one (ltr (c + 21)), one (ltr (c + 26))].take i
theorem tl_more (c : Nat) : ∀ i : Nat, i < 6 → tl c (i + 1) = tl c i ++ [one (ltr (c + (5 * i + 1)))]
  | 0, _ => rfl
  | 1, _ => rfl
  | 2, _ => rfl
  | 3, _ => rfl
  | 4, _ => rfl
  | 5, _ => rfl
  | _ + 6, h => absurd h (by omega)
theorem tl_len (c : Nat) {i : Nat} (h : i ≤ 6) : (tl c i).length = i := by
  unfold tl
  rw [List.length_take]
  show min i 6 = i
  omega
theorem nul_str : ("" : Str) = Str.empty := by decide +kernel
theorem tl_join (c : Nat) : Txt.join "" (tl c 6) = tailS c := by
  rw [nul_str]
  show Builtin.Str.glued Str.empty (tl c 6) = tailS c
  unfold tl tailS one Builtin.Str.glued Str.empty
  simp
theorem tl_sum (c : Nat) : ((tl c 6).map (·.length)).sum + (tl c 6).length * Str.length ("" : Str) ≤ 16777216 := by
  rw [nul_str]
  show 6 + 6 * 0 ≤ 16777216
  decide
theorem w0_more (a u : Nat) : ∀ i : Nat, i < 5 → w0 a u (i + 1) = w0 a u i ++ [ltr (u + 3 * i)]
  | 0, _ => rfl
  | 1, _ => rfl
  | 2, _ => rfl
  | 3, _ => rfl
  | 4, _ => rfl
  | _ + 5, h => absurd h (by omega)
theorem w0_len (a u : Nat) {i : Nat} (h : i < 6) : (w0 a u i).length = i + 1 := by
  unfold w0
  rw [List.length_cons, List.length_take]
  show min i 5 + 1 = i + 1
  omega
/-- the words that may stand for a name -/
def tens : List Str := ["whens", "essay", "reloop", "let", "ends", "sayer", "loops", "send", "agains", "awhen"]
theorem tens_good : ∀ s ∈ tens, Good s := by
  have h : tens.all (fun s => GoodL s.cps.toList) = true := by decide +kernel
  exact fun s hs => List.all_eq_true.mp h s hs
/-- case by case, the word of one turn -/
theorem word1 {c : Nat} (hc : c < 26) {k place size : Nat} (hk : k < 16) (hs : size < 7) (hp : place < size) :
    Good (cutS (tailS c) none (some (place : Int)) ++ one (ltr (c + 5 * k)) ++ cutS (tailS c) (some ((place : Int) + 1)) (some (size : Int))) := by
  have e : ((place : Int) + 1) = ((place + 1 : Nat) : Int) := by omega
  unfold Good
  rw [app_toList, app_toList, cut_head _ _ (by rw [tailS_len]; omega), e, cut_mid _ _ _ (by rw [tailS_len]; omega) (by rw [tailS_len]; omega), one_toList, tailS_list, List.append_assoc]
  exact w1_ok hc hk hs hp
theorem word2 {c : Nat} (hc : c < 26) {k t : Nat} (hk : k < 16) (ht : t < 3) : Good (one (ltr (c + 7 * (k / 4))) ++ cutS (tailS c) none (some ((k % 4 + t : Nat) : Int))) := by
  unfold Good
  rw [app_toList, cut_head _ _ (by rw [tailS_len]; omega), one_toList, tailS_list]
  exact w2_ok hc hk ht
end Lm
/-! A program while it is built: lists that are open, one in another, on a stack. -/
namespace Lm
open PySem L2
/-- the open lists around `child`, from within outwards; Hc: what is closed -/
def Outs (K : PySem.W.Frag) (ss : List Str) (m : Nat) (Hc H : Hp) : Addr → List (Addr × List Row) → Prop
  | _, [] => True
  | child, q :: o => (∃ (vs : List V) (t : Addr) (kd ts : Str), H q.1 = some (.lst (vs ++ [.ref t])) ∧ AllAt K Hc q.2 vs ∧ Hc t = some (.tup [.str kd, .str ts, .ref child]) ∧ kd ∈ kinds ∧ ts ∈ ss) ∧
    oks ss q.2 ∧ q.2.length ≤ m ∧ deps q.2 + o.length ≤ 3 ∧ Outs K ss m Hc H q.1 o
theorem Outs.mono {K : PySem.W.Frag} {ss : List Str} {m m' : Nat} {Hc Hc' H H' : Hp} (hm : m ≤ m') (hs : Same Hc Hc') : ∀ {o : List (Addr × List Row)} {c : Addr}, (∀ b ∈ o.map (·.1), H' b = H b) → Outs K ss m Hc H c o → Outs K ss m' Hc' H' c o
  | [], _, _, _ => True.intro
  | q :: o, c, hb, ⟨⟨vs, t, kd, ts, h1, h2, h3, h4, h5⟩, h6, h7, h8, h9⟩ =>
    ⟨⟨vs, t, kd, ts, by rw [hb q.1 (by simp)]; exact h1, AllAt.mono (Same.kp hs) _ _ h2, hs _ _ h3, h4, h5⟩, h6, Nat.le_trans h7 hm, h8, Outs.mono hm hs (fun b h => hb b (by simp only [List.map_cons, List.mem_cons]; exact .inr h)) h9⟩
/-- how many rows stand in the open lists, their blocks with them -/
def outs : List (Addr × List Row) → Nat
  | [] => 0
  | q :: o => tots q.2 + 1 + outs o
/-- the open lists' addresses -/
abbrev opens (l : Addr) (o : List (Addr × List Row)) : List Addr := l :: o.map (·.1)
structure Prog (K : PySem.W.Frag) (ss : List Str) (m : Nat) (H0 Hc H : Hp) (S T l : Addr) (rs : List Row) (o : List (Addr × List Row)) (ts : List Str) : Prop where
  old : Same H0 Hc
  cl : Same Hc H
  inn : ∃ vs, H l = some (.lst vs) ∧ AllAt K Hc rs vs
  out : Outs K ss m Hc H l o
  no : ∀ b ∈ S :: T :: opens l o, Hc b = none
  nd : (S :: T :: opens l o).Nodup
  ok : oks ss rs
  dep : deps rs + o.length ≤ 3
  wid : rs.length ≤ m
  num : tots rs + outs o ≤ m
  st : H S = some (.lst ((opens l o).reverse.map V.ref))
  te : H T = some (.lst (ts.map V.str))
  tok : ∀ t ∈ ts, t = "" ∨ t ∈ ss
section
variable {K : PySem.W.Frag} {ss : List Str} {m : Nat} {H0 Hc H : Hp} {S T l : Addr} {rs : List Row} {o : List (Addr × List Row)} {ts : List Str}
theorem Outs.some : ∀ {o : List (Addr × List Row)} {c : Addr}, Outs K ss m Hc H c o → ∀ b ∈ o.map (·.1), ∃ xs, H b = some (.lst xs)
  | [], _, _, b, hb => by cases hb
  | q :: o, c, ⟨⟨vs, t, kd, ts, h1, _⟩, _, _, _, h9⟩, b, hb => by
    rcases List.mem_cons.mp (by simpa using hb : b ∈ q.1 :: o.map (·.1)) with e | e
    · rw [e]
      exact ⟨_, h1⟩
    · exact Outs.some h9 b e
theorem Prog.there (h : Prog K ss m H0 Hc H S T l rs o ts) : ∀ b ∈ S :: T :: opens l o, ∃ xs, H b = some (.lst xs) := fun b hb => by
  rcases List.mem_cons.mp hb with e | hb
  · rw [e]
    exact ⟨_, h.st⟩
  rcases List.mem_cons.mp hb with e | hb
  · rw [e]
    exact ⟨_, h.te⟩
  rcases List.mem_cons.mp hb with e | hb
  · rw [e]
    obtain ⟨vs, h1, _⟩ := h.inn
    exact ⟨_, h1⟩
  · exact Outs.some h.out b hb
theorem Prog.apart (h : Prog K ss m H0 Hc H S T l rs o ts) {p : Addr} (hp : H p = none) : ∀ b ∈ S :: T :: opens l o, b ≠ p := fun b hb => by
  obtain ⟨xs, e⟩ := h.there b hb
  exact ne_of_none e hp
theorem Prog.same (h : Prog K ss m H0 Hc H S T l rs o ts) : Same H0 H := h.old.trans h.cl
theorem Prog.more (h : Prog K ss m H0 Hc H S T l rs o ts) {m' : Nat} (hm : m ≤ m') : Prog K ss m' H0 Hc H S T l rs o ts :=
  { h with out := Outs.mono hm (Same.refl _) (fun _ _ => rfl) h.out, wid := Nat.le_trans h.wid hm, num := Nat.le_trans h.num hm }
/-- a new object that will not change -/
theorem Prog.alloc (h : Prog K ss m H0 Hc H S T l rs o ts) {p : Addr} (hp : H p = none) (u : HO) : Prog K ss m H0 (upd Hc p u) (upd H p u) S T l rs o ts := by
  have hcp : Hc p = none := h.cl.free hp
  have ap := h.apart hp
  have s1 : Same Hc (upd Hc p u) := same_new hcp u
  have ne : ∀ b ∈ S :: T :: opens l o, upd H p u b = H b := fun b hb => upd_ne (ap b hb)
  obtain ⟨vs, e1, e2⟩ := h.inn
  refine ⟨h.old.trans s1, fun b x hb => ?_, ⟨vs, ?_, AllAt.mono (Same.kp s1) _ _ e2⟩, Outs.mono (Nat.le_refl _) s1 (fun b hb => ne b ?_) h.out, fun b hb => ?_, h.nd, h.ok, h.dep, h.wid, h.num, ?_, ?_, h.tok⟩
  · by_cases e : b = p
    · rw [e, upd_same] at hb
      rw [e, upd_same]
      exact hb
    · rw [upd_ne e] at hb
      rw [upd_ne e]
      exact h.cl b x hb
  · rw [ne l (by simp)]
    exact e1
  · exact List.mem_cons_of_mem _ (List.mem_cons_of_mem _ (List.mem_cons_of_mem _ hb))
  · rw [upd_ne (ap b hb)]
    exact h.no b hb
  · rw [ne S (by simp)]
    exact h.st
  · rw [ne T (by simp)]
    exact h.te
theorem Prog.nST (h : Prog K ss m H0 Hc H S T l rs o ts) : S ≠ T ∧ S ≠ l ∧ T ≠ l ∧ (∀ b ∈ o.map (·.1), b ≠ S ∧ b ≠ T ∧ b ≠ l) := by
  have h1 := h.nd
  simp only [opens, List.nodup_cons, List.mem_cons, not_or] at h1
  obtain ⟨⟨a1, a2, a3⟩, ⟨b1, b2⟩, c1, _⟩ := h1
  exact ⟨a1, a2, b1, fun b hb => ⟨fun e => a3 (e ▸ hb), fun e => b2 (e ▸ hb), fun e => c1 (e ▸ hb)⟩⟩
/-- what is written to an open list, to the stack or to the tests leaves what is closed -/
theorem Prog.cl_upd (h : Prog K ss m H0 Hc H S T l rs o ts) {b : Addr} (hb : b ∈ S :: T :: opens l o) (u : HO) : Same Hc (upd H b u) := fun c x hc => by
  rw [upd_ne (ne_of_none hc (h.no b hb))]
  exact h.cl c x hc
/-- a row behind those of the innermost list -/
theorem Prog.app (h : Prog K ss m H0 Hc H S T l rs o ts) {r : Row} {v : V} {vs : List V} (hl : H l = some (.lst vs)) (hr : RowAt K Hc r v) (hok : r.ok ss) (hd : r.dep + o.length ≤ 3) (h1 : r.tot = 1) :
    Prog K ss (m + 1) H0 Hc (upd H l (.lst (vs ++ [v]))) S T l (rs ++ [r]) o ts := by
  obtain ⟨vs', e1, e2⟩ := h.inn
  have ev : vs' = vs := by
    have z := e1.symm.trans hl
    cases z
    rfl
  subst ev
  obtain ⟨n1, n2, n3, n4⟩ := h.nST
  refine ⟨h.old, h.cl_upd (by simp) _, ⟨_, upd_same, e2.app (AllAt.one hr)⟩, Outs.mono (Nat.le_succ _) (Same.refl _) (fun b hb => upd_ne (n4 b hb).2.2) h.out, h.no, h.nd, oks_app h.ok ⟨hok, True.intro⟩, ?_, ?_, ?_, ?_, ?_, h.tok⟩
  · rw [deps_app]
    have := h.dep
    show max (deps rs) (max r.dep 0) + o.length ≤ 3
    omega
  · rw [List.length_append]
    exact Nat.succ_le_succ h.wid
  · have := h.num
    rw [tots_app]
    show tots rs + (r.tot + 0) + outs o ≤ m + 1
    omega
  · rw [upd_ne n2]
    exact h.st
  · rw [upd_ne n3]
    exact h.te
theorem Prog.tests (h : Prog K ss m H0 Hc H S T l rs o ts) {ts' : List Str} (ht : ∀ t ∈ ts', t = "" ∨ t ∈ ss) : Prog K ss m H0 Hc (upd H T (.lst (ts'.map V.str))) S T l rs o ts' := by
  obtain ⟨vs, e1, e2⟩ := h.inn
  obtain ⟨n1, n2, n3, n4⟩ := h.nST
  exact ⟨h.old, h.cl_upd (by simp) _, ⟨vs, by rw [upd_ne n3.symm]; exact e1, e2⟩, Outs.mono (Nat.le_refl _) (Same.refl _) (fun b hb => upd_ne (n4 b hb).2.1) h.out, h.no, h.nd, h.ok, h.dep, h.wid, h.num, by rw [upd_ne n1]; exact h.st, upd_same, ht⟩
/-- a block opens: q its list, p its row -/
theorem Prog.push (h : Prog K ss m H0 Hc H S T l rs o ts) {p q : Addr} {kd te : Str} {vs : List V} (hl : H l = some (.lst vs)) (hq : H q = none) (hp : (upd H q (.lst [])) p = none) (hk : kd ∈ kinds) (hte : te ∈ ss) (h3 : o.length < 3) :
    Prog K ss (m + 1) H0 (upd Hc p (.tup [.str kd, .str te, .ref q])) (upd (upd (upd (upd H q (.lst [])) p (.tup [.str kd, .str te, .ref q])) l (.lst (vs ++ [.ref p]))) S (.lst ((opens l o).reverse.map V.ref ++ [.ref q]))) S T q [] ((l, rs) :: o) ts := by
  obtain ⟨vs', e1, e2⟩ := h.inn
  have ev : vs' = vs := by
    have z := e1.symm.trans hl
    cases z
    rfl
  subst ev
  obtain ⟨n1, n2, n3, n4⟩ := h.nST
  have npq : p ≠ q := fun e => by rw [e, upd_same] at hp; cases hp
  have hp0 : H p = none := by rw [upd_ne npq] at hp; exact hp
  have aq := h.apart hq
  have ap := h.apart hp0
  have hcp : Hc p = none := h.cl.free hp0
  have hcq : Hc q = none := h.cl.free hq
  have s1 : Same Hc (upd Hc p (.tup [.str kd, .str te, .ref q])) := same_new hcp _
  have mS : S ∈ S :: T :: opens l o := by simp
  have mT : T ∈ S :: T :: opens l o := by simp
  have ml : l ∈ S :: T :: opens l o := by simp
  have mo : ∀ b ∈ o.map (·.1), b ∈ S :: T :: opens l o := fun b hb => List.mem_cons_of_mem _ (List.mem_cons_of_mem _ (List.mem_cons_of_mem _ hb))
  refine ⟨h.old.trans s1, fun b x hb => ?_, ⟨[], ?_, rfl⟩, ⟨⟨vs', p, kd, te, ?_, AllAt.mono (Same.kp s1) _ _ e2, upd_same, hk, hte⟩, h.ok, Nat.le_succ_of_le h.wid, h.dep, Outs.mono (Nat.le_succ _) s1 (fun b hb => ?_) h.out⟩, fun b hb => ?_, ?_, True.intro, ?_, Nat.zero_le _, ?_, ?_, ?_, h.tok⟩
  · by_cases e : b = p
    · rw [e, upd_same] at hb
      rw [e, upd_ne (ap S mS).symm, upd_ne (ap l ml).symm, upd_same]
      exact hb
    · rw [upd_ne e] at hb
      have hS := ne_of_none hb (h.no S mS)
      have hL := ne_of_none hb (h.no l ml)
      have hQ := ne_of_none hb hcq
      rw [upd_ne hS, upd_ne hL, upd_ne e, upd_ne hQ]
      exact h.cl b x hb
  · rw [upd_ne (aq S mS).symm, upd_ne (aq l ml).symm, upd_ne npq.symm, upd_same]
  · rw [upd_ne n2.symm, upd_same]
  · obtain ⟨z1, z2, z3⟩ := n4 b hb
    rw [upd_ne z1, upd_ne z3, upd_ne (ap b (mo b hb)), upd_ne (aq b (mo b hb))]
  · have hb' : b = q ∨ b ∈ S :: T :: opens l o := by
      simp only [opens, List.map_cons, List.mem_cons] at hb ⊢
      rcases hb with e | e | e | e | e
      · exact .inr (.inl e)
      · exact .inr (.inr (.inl e))
      · exact .inl e
      · exact .inr (.inr (.inr (.inl e)))
      · exact .inr (.inr (.inr (.inr e)))
    rcases hb' with e | e
    · rw [e, upd_ne npq.symm]
      exact hcq
    · rw [upd_ne (ap b e)]
      exact h.no b e
  · have h1 := h.nd
    have hq1 : ¬ q ∈ S :: T :: opens l o := fun z => (aq q z) rfl
    simp only [opens, List.map_cons, List.nodup_cons, List.mem_cons, not_or] at h1 hq1 ⊢
    obtain ⟨⟨a1, a2, a3⟩, ⟨b1, b2⟩, c1, c2⟩ := h1
    obtain ⟨q1, q2, q3, q4⟩ := hq1
    exact ⟨⟨a1, Ne.symm q1, a2, a3⟩, ⟨Ne.symm q2, b1, b2⟩, ⟨q3, q4⟩, c1, c2⟩
  · show 0 + (o.length + 1) ≤ 3
    omega
  · have := h.num
    show 0 + (tots rs + 1 + outs o) ≤ m + 1
    omega
  · rw [upd_same]
    simp [opens]
  · rw [upd_ne n1.symm, upd_ne n3, upd_ne (ap T mT), upd_ne (aq T mT)]
    exact h.te
theorem Prog.pushes (h : Prog K ss m H0 Hc H S T l rs o ts) {p q : Addr} (kd te : Str) {vs : List V} (hl : H l = some (.lst vs)) (hq : H q = none) (hp : (upd H q (.lst [])) p = none) :
    (upd (upd H q (.lst [])) p (.tup [.str kd, .str te, .ref q])) l = some (.lst vs) ∧
    (upd (upd (upd H q (.lst [])) p (.tup [.str kd, .str te, .ref q])) l (.lst (vs ++ [.ref p]))) S = some (.lst ((opens l o).reverse.map V.ref)) ∧
    (upd (upd (upd H q (.lst [])) p (.tup [.str kd, .str te, .ref q])) l (.lst (vs ++ [.ref p]))) p = some (.tup [.str kd, .str te, .ref q]) := by
  have npq : p ≠ q := fun e => by rw [e, upd_same] at hp; cases hp
  have hp0 : H p = none := by rw [upd_ne npq] at hp; exact hp
  have aq := h.apart hq
  have ap := h.apart hp0
  obtain ⟨n1, n2, n3, n4⟩ := h.nST
  refine ⟨?_, ?_, ?_⟩
  · rw [upd_ne (ap l (by simp)), upd_ne (aq l (by simp))]
    exact hl
  · rw [upd_ne n2, upd_ne (ap S (by simp)), upd_ne (aq S (by simp))]
    exact h.st
  · rw [upd_ne (ap l (by simp)).symm, upd_same]
theorem Prog.roomS (h : Prog K ss m H0 Hc H S T l rs o ts) : ((opens l o).reverse.map V.ref).length < sizeLine := by
  have := h.dep
  rw [List.length_map, List.length_reverse]
  exact small1000 (by show (o.map (·.1)).length + 1 ≤ 1000; rw [List.length_map]; omega)
/-- a block closes -/
theorem Prog.pop {q : Addr × List Row} (h : Prog K ss m H0 Hc H S T l rs (q :: o) ts) (hm : m ≤ 2000) :
    ∃ Hc' kd te, Prog K ss (m + 1) H0 Hc' (upd H S (.lst ((opens q.1 o).reverse.map V.ref))) S T q.1 (q.2 ++ [.bk kd (.str te) rs]) o ts := by
  obtain ⟨vs, e1, e2⟩ := h.inn
  obtain ⟨⟨ws, t, kd, te, g1, g2, g3, g4, g5⟩, g6, g7, g8, g9⟩ := h.out
  obtain ⟨n1, n2, n3, n4⟩ := h.nST
  have hcl : Hc l = none := h.no l (by simp)
  have s1 : Same Hc (upd Hc l (.lst vs)) := same_new hcl _
  obtain ⟨z1, z2, z3⟩ := n4 q.1 (by simp)
  have nb : ∀ b ∈ o.map (·.1), b ≠ S ∧ b ≠ T ∧ b ≠ l := fun b hb => n4 b (by simp only [List.map_cons, List.mem_cons]; exact .inr hb)
  refine ⟨upd Hc l (.lst vs), kd, te, h.old.trans s1, fun b x hb => ?_, ⟨_, by rw [upd_ne z1]; exact g1, (AllAt.mono (Same.kp s1) _ _ g2).app (AllAt.one ⟨t, l, vs, rfl, SqT.of (s1 _ _ g3), SqL.of upd_same, AllAt.mono (Same.kp s1) _ _ e2⟩)⟩,
    Outs.mono (Nat.le_succ _) s1 (fun b hb => upd_ne (nb b hb).1) g9, fun b hb => ?_, ?_, oks_app g6 ⟨⟨g4, ⟨te, rfl, g5⟩, Nat.le_trans h.wid hm, h.ok⟩, True.intro⟩, ?_, ?_, ?_, upd_same, ?_, h.tok⟩
  · by_cases e : b = l
    · rw [e, upd_same] at hb
      rw [e, upd_ne n2.symm]
      exact e1.trans hb
    · rw [upd_ne e] at hb
      rw [upd_ne (ne_of_none hb (h.no S (by simp)))]
      exact h.cl b x hb
  · have hbl : b ≠ l := by
      rcases List.mem_cons.mp hb with e | hb
      · rw [e]; exact n2
      rcases List.mem_cons.mp hb with e | hb
      · rw [e]; exact n3
      rcases List.mem_cons.mp hb with e | hb
      · rw [e]; exact z3
      · exact (nb b hb).2.2
    rw [upd_ne hbl]
    refine h.no b ?_
    simp only [opens, List.map_cons, List.mem_cons] at hb ⊢
    rcases hb with e | e | e | e
    · exact .inl e
    · exact .inr (.inl e)
    · exact .inr (.inr (.inr (.inl e)))
    · exact .inr (.inr (.inr (.inr e)))
  · have h1 := h.nd
    simp only [opens, List.map_cons, List.nodup_cons, List.mem_cons, not_or] at h1 ⊢
    obtain ⟨⟨a1, a2, a3, a4⟩, ⟨b1, b2, b3⟩, c1, d1, d2⟩ := h1
    exact ⟨⟨a1, a3, a4⟩, ⟨b2, b3⟩, d1, d2⟩
  · have hd : deps rs + (o.length + 1) ≤ 3 := h.dep
    rw [deps_app]
    show max (deps q.2) (max (deps rs + 1) 0) + o.length ≤ 3
    omega
  · rw [List.length_append]
    exact Nat.succ_le_succ g7
  · have hn : tots rs + (tots q.2 + 1 + outs o) ≤ m := h.num
    rw [tots_app]
    show tots q.2 + (tots rs + 1 + 0) + outs o ≤ m + 1
    omega
  · rw [upd_ne n1.symm]
    exact h.te
end
end Lm
/-! Kinds of values; things that are alike; rows that are thin; rows in further blocks. -/
namespace Lm
open PySem L2
theorem ty_list {K : PySem.W.Frag} {H : Hp} {a : Addr} {xs : List V} (h : SqL K H a xs) : TyX K H (.ref a) (.type "list") := by
  rcases h with (h | ⟨o, h⟩) | ⟨o, its, n, h1, h2, _⟩
  · exact .base (.lst h)
  · exact .base (.frz h)
  · exact .kList h1 h2
theorem ty_tuple {K : PySem.W.Frag} {H : Hp} {a : Addr} {xs : List V} (h : SqT K H a xs) : TyX K H (.ref a) (.type "tuple") := by
  rcases h with (h | ⟨o, h⟩) | ⟨o, its, n, h1, h2, _⟩
  · exact .base (.tup h)
  · exact .fTuple h
  · exact .kTuple h1 h2
theorem ty_int {K : PySem.W.Frag} {H : Hp} (i : Int) : TyX K H (.int i) (.type "int") := .base (.int i)
theorem ty_str {K : PySem.W.Frag} {H : Hp} (x : Str) : TyX K H (.str x) (.type "str") := .base (.str x)
theorem ty_bl {K : PySem.W.Frag} {H : Hp} (b : Bool) : TyX K H (.bl b) (.type "bool") := .base (.bl b)
/-- x and y are data of one form, at most n deep -/
def Alk (K : PySem.W.Frag) (H : Hp) : Nat → V → V → Prop
  | 0, _, _ => False
  | n + 1, x, y => (∃ s, x = .str s ∧ y = .str s) ∨ (∃ i, x = .int i ∧ y = .int i) ∨
    (∃ p q xs ys, x = .ref p ∧ y = .ref q ∧ SqL K H p xs ∧ SqL K H q ys ∧ xs.length = ys.length ∧ xs.length ≤ 10000 ∧ ∀ (i : Nat) (a b : V), xs[i]? = some a → ys[i]? = some b → Alk K H n a b) ∨
    (∃ p q xs ys, x = .ref p ∧ y = .ref q ∧ SqT K H p xs ∧ SqT K H q ys ∧ xs.length = ys.length ∧ xs.length ≤ 10000 ∧ ∀ (i : Nat) (a b : V), xs[i]? = some a → ys[i]? = some b → Alk K H n a b)
theorem Alk.mono {K : PySem.W.Frag} {H H' : Hp} (e : Kp H H') : ∀ {n m : Nat} {x y : V}, n ≤ m → Alk K H n x y → Alk K H' m x y
  | 0, _, _, _, _, h => h.elim
  | _ + 1, 0, _, _, hm, _ => absurd hm (by omega)
  | n + 1, m + 1, x, y, hm, h => by
    rcases h with h | h | ⟨p, q, xs, ys, h1, h2, h3, h4, h5, h6, h7⟩ | ⟨p, q, xs, ys, h1, h2, h3, h4, h5, h6, h7⟩
    · exact .inl h
    · exact .inr (.inl h)
    · exact .inr (.inr (.inl ⟨p, q, xs, ys, h1, h2, e.sqL h3, e.sqL h4, h5, h6, fun i a b ha hb => Alk.mono e (Nat.le_of_succ_le_succ hm) (h7 i a b ha hb)⟩))
    · exact .inr (.inr (.inr ⟨p, q, xs, ys, h1, h2, e.sqT h3, e.sqT h4, h5, h6, fun i a b ha hb => Alk.mono e (Nat.le_of_succ_le_succ hm) (h7 i a b ha hb)⟩))
theorem Alk.up {K : PySem.W.Frag} {H : Hp} {n m : Nat} {x y : V} (h : Alk K H n x y) (hm : n ≤ m) : Alk K H m x y := h.mono (Kp.refl H) hm
theorem alk_str {K : PySem.W.Frag} {H : Hp} {n : Nat} (s : Str) : Alk K H (n + 1) (.str s) (.str s) := Or.inl ⟨s, rfl, rfl⟩
theorem alk_int {K : PySem.W.Frag} {H : Hp} {n : Nat} (i : Int) : Alk K H (n + 1) (.int i) (.int i) := Or.inr (.inl ⟨i, rfl, rfl⟩)
theorem alk_vl {K : PySem.W.Frag} {H : Hp} {n : Nat} : ∀ x : Vl, Alk K H (n + 1) x.v x.v
  | .nm s => alk_str s
  | .nu i => alk_int i
theorem get_nil {α : Type} {i : Nat} {a : α} (h : ([] : List α)[i]? = some a) : False := by simp at h
mutual
theorem RowAt.alk {K : PySem.W.Frag} {H : Hp} {ss : List Str} : ∀ (r : Row) {v u : V}, r.ok ss → RowAt K H r v → RowAt K H r u → Alk K H (2 * r.dep + 2) v u
  | .lt to sg x y, v, u, ok, ⟨p, h1, h2⟩, ⟨q, g1, g2⟩ => by
    refine Or.inr (.inr (.inr ⟨p, q, _, _, h1, g1, h2, g2, rfl, by simp, fun i a b ha hb => ?_⟩))
    rw [ha] at hb
    cases hb
    match i, ha with
    | 0, ha => cases ha; exact alk_str _
    | 1, ha => cases ha; exact alk_str _
    | 2, ha => cases ha; exact alk_str _
    | 3, ha => cases ha; exact alk_vl _
    | 4, ha => cases ha; exact alk_vl _
    | i + 5, ha => exact (get_nil (i := i) ha).elim
  | .sy x, v, u, ok, ⟨p, h1, h2⟩, ⟨q, g1, g2⟩ => by
    refine Or.inr (.inr (.inr ⟨p, q, _, _, h1, g1, h2, g2, rfl, by simp, fun i a b ha hb => ?_⟩))
    rw [ha] at hb
    cases hb
    match i, ha with
    | 0, ha => cases ha; exact alk_str _
    | 1, ha => cases ha; exact alk_vl _
    | i + 2, ha => exact (get_nil (i := i) ha).elim
  | .bk kd ts rs, v, u, ⟨_, ⟨s, es, _⟩, hlen, hok⟩, ⟨p, l, vs, h1, h2, h3, h4⟩, ⟨q, k, us, g1, g2, g3, g4⟩ => by
    refine Or.inr (.inr (.inr ⟨p, q, _, _, h1, g1, h2, g2, rfl, by simp, fun i a b ha hb => ?_⟩))
    match i, ha, hb with
    | 0, ha, hb => cases ha; cases hb; exact alk_str _
    | 1, ha, hb => cases ha; cases hb; rw [es]; exact alk_str _
    | 2, ha, hb =>
      cases ha; cases hb
      have d : (Row.bk kd ts rs).dep = deps rs + 1 := rfl
      rw [d]
      exact Or.inr (.inr (.inl ⟨l, k, vs, us, rfl, rfl, h3, g3, by rw [h4.len, g4.len], by rw [h4.len]; omega, fun i a b ha hb => AllAt.alk rs hok h4 g4 ha hb⟩))
    | i + 3, ha, hb => exact (get_nil (i := i) ha).elim
theorem AllAt.alk {K : PySem.W.Frag} {H : Hp} {ss : List Str} : ∀ (rs : List Row) {vs us : List V} {i : Nat} {a b : V}, oks ss rs → AllAt K H rs vs → AllAt K H rs us → vs[i]? = some a → us[i]? = some b → Alk K H (2 * deps rs + 2) a b
  | [], vs, us, i, a, b, _, h, _, ha, _ => by
    have e : vs = [] := h
    rw [e] at ha
    exact (get_nil ha).elim
  | r :: rs, _, _, 0, a, b, ok, ⟨v, ws, h1, h2, h3⟩, ⟨u, zs, g1, g2, g3⟩, ha, hb => by
    rw [h1] at ha
    rw [g1] at hb
    cases ha
    cases hb
    have d : deps (r :: rs) = max r.dep (deps rs) := rfl
    exact (RowAt.alk r ok.1 h2 g2).up (by omega)
  | r :: rs, _, _, i + 1, a, b, ok, ⟨v, ws, h1, h2, h3⟩, ⟨u, zs, g1, g2, g3⟩, ha, hb => by
    rw [h1] at ha
    rw [g1] at hb
    have d : deps (r :: rs) = max r.dep (deps rs) := rfl
    exact (AllAt.alk rs ok.2 h3 g3 (by simpa using ha) (by simpa using hb)).up (by omega)
end
theorem RowsAt.alk {K : PySem.W.Frag} {H : Hp} {ss : List Str} {rs : List Row} {l k : Addr} (ok : oks ss rs) (hl : rs.length ≤ 10000) (h : RowsAt K H l rs) (g : RowsAt K H k rs) : Alk K H (2 * deps rs + 3) (.ref l) (.ref k) := by
  obtain ⟨vs, h3, h4⟩ := h
  obtain ⟨us, g3, g4⟩ := g
  exact Or.inr (.inr (.inl ⟨l, k, vs, us, rfl, rfl, h3, g3, by rw [h4.len, g4.len], by rw [h4.len]; exact hl, fun i a b ha hb => AllAt.alk rs ok h4 g4 ha hb⟩))
theorem take_one {α : Type} {l : List α} {i : Nat} {x : α} (h : l[i]? = some x) : l.take (i + 1) = l.take i ++ [x] := by
  rw [List.take_add_one, h]
  rfl
/-- the heap Hc is a part of H that stays; Hc' and H' are theirs later: nothing of H comes into it -/
structure Part (Hc H Hc' H' : Hp) : Prop where
  all : Same H H'
  cl : Same Hc Hc'
  sub : Same Hc' H'
  no : ∀ b o, H b = some o → Hc b = none → Hc' b = none
theorem Part.refl {Hc H : Hp} (h : Same Hc H) : Part Hc H Hc H := ⟨Same.refl _, Same.refl _, h, fun _ _ _ h => h⟩
theorem Part.trans {Hc H Hd G He F : Hp} (p : Part Hc H Hd G) (q : Part Hd G He F) : Part Hc H He F :=
  ⟨p.all.trans q.all, p.cl.trans q.cl, q.sub, fun b o h1 h2 => q.no b o (p.all b o h1) (p.no b o h1 h2)⟩
/-- a new object that stays -/
theorem Part.new {Hc H : Hp} (h : Same Hc H) {p : Addr} (hp : H p = none) (u : HO) : Part Hc H (upd Hc p u) (upd H p u) := by
  have hcp : Hc p = none := h.free hp
  refine ⟨same_new hp u, same_new hcp u, fun b x hb => ?_, fun b o h1 h2 => ?_⟩
  · by_cases e : b = p
    · rw [e, upd_same] at hb
      rw [e, upd_same]
      exact hb
    · rw [upd_ne e] at hb
      rw [upd_ne e]
      exact h b x hb
  · rw [upd_ne (ne_of_none h1 hp)]
    exact h2
/-- a new object that will change -/
theorem Part.open {Hc H : Hp} (h : Same Hc H) {p : Addr} (hp : H p = none) (u : HO) : Part Hc H Hc (upd H p u) :=
  ⟨same_new hp u, Same.refl _, h.trans (same_new hp u), fun _ _ _ h => h⟩
mutual
/-- no list in it is long -/
def Row.thin : Row → Prop
  | .lt _ _ _ _ => True
  | .sy _ => True
  | .bk _ _ rs => rs.length ≤ 2000 ∧ thins rs
def thins : List Row → Prop
  | [] => True
  | r :: rs => r.thin ∧ thins rs
end
mutual
theorem Row.ok_thin {ss : List Str} : ∀ (r : Row), r.ok ss → r.thin
  | .lt _ _ _ _, _ => True.intro
  | .sy _, _ => True.intro
  | .bk _ _ rs, ⟨_, _, h, g⟩ => ⟨h, oks_thins rs g⟩
theorem oks_thins {ss : List Str} : ∀ (rs : List Row), oks ss rs → thins rs
  | [], _ => True.intro
  | r :: rs, ⟨h, g⟩ => ⟨Row.ok_thin r h, oks_thins rs g⟩
end
theorem thins_at : ∀ {rs : List Row} {i : Nat} {r : Row}, thins rs → rs[i]? = some r → r.thin
  | [], _, _, _, e => by cases e
  | _ :: _, 0, _, h, e => by
    cases e
    exact h.1
  | _ :: _, _ + 1, _, h, e => thins_at h.2 e
theorem thins_app : ∀ {rs qs : List Row}, thins rs → thins qs → thins (rs ++ qs)
  | [], _, _, q => q
  | _ :: _, _, ⟨h1, h2⟩, q => ⟨h1, thins_app h2 q⟩
/-- qs is rs in n further blocks, each about the next -/
inductive Wrap (ss : List Str) (rs : List Row) : Nat → List Row → Prop where
  | base : Wrap ss rs 0 rs
  | next {n : Nat} {qs : List Row} {kd te : Str} : Wrap ss rs n qs → kd ∈ kinds → te ∈ ss → Wrap ss rs (n + 1) [.bk kd (.str te) qs]
theorem Wrap.len {ss : List Str} {rs qs : List Row} {n : Nat} (h : Wrap ss rs n qs) (hl : rs.length ≤ 2000) : qs.length ≤ 2000 := by
  cases h with
  | base => exact hl
  | next => show 1 ≤ 2000; decide
theorem Wrap.ok {ss : List Str} {rs qs : List Row} {n : Nat} (h : Wrap ss rs n qs) (hl : rs.length ≤ 2000) (ok : oks ss rs) : oks ss qs := by
  induction h with
  | base => exact ok
  | next h1 h2 h3 ih => exact ⟨⟨h2, ⟨_, rfl, h3⟩, h1.len hl, ih⟩, True.intro⟩
theorem Wrap.thin {ss : List Str} {rs qs : List Row} {n : Nat} (h : Wrap ss rs n qs) (hl : rs.length ≤ 2000) (ok : thins rs) : thins qs := by
  induction h with
  | base => exact ok
  | next h1 h2 h3 ih => exact ⟨⟨h1.len hl, ih⟩, True.intro⟩
theorem Wrap.deps {ss : List Str} {rs qs : List Row} {n : Nat} (h : Wrap ss rs n qs) : Lm.deps qs = Lm.deps rs + n := by
  induction h with
  | base => rfl
  | @next n qs kd te h1 h2 h3 ih =>
    show max (Lm.deps qs + 1) 0 = _
    omega
theorem Wrap.tots {ss : List Str} {rs qs : List Row} {n : Nat} (h : Wrap ss rs n qs) : Lm.tots qs = Lm.tots rs + n := by
  induction h with
  | base => rfl
  | @next n qs kd te h1 h2 h3 ih =>
    show Lm.tots qs + 1 + 0 = _
    omega
end Lm
/-! A test of each letter; tables that grow. -/
namespace Lm
open PySem PySem.Spec PyProof.Rows L2 GxR
theorem lt_one (a b : Nat) : decide (([a] : List Nat) < [b]) = decide (a < b) := by
  by_cases h : a < b
  · rw [decide_eq_true h]
    exact decide_eq_true (List.Lex.rel h)
  · rw [decide_eq_false h]
    refine decide_eq_false fun z => h ?_
    cases z with
    | rel q => exact q
    | cons q => cases q
def letter (c : Nat) : Bool := decide (97 ≤ c) && decide (c ≤ 122)
/-- 'a' <= x <= 'z' -/
theorem elt_letter {prog : Program} {w : World} {scope : Scope} {x : Str} {j k : Nat} {p1 p2 p3 p4 : Pos} (hk : scope.kind = .function) (hl : scope.names.lookup x = some .local) (hd : (x == ("__debug__" : Str)) = false := by decide) :
    EltP prog w scope x (.Compare (.Constant (.str "a") j p1) [.LtE, .LtE] [.Name x p2, .Constant (.str "z") k p3] p4) letter := by
  intro cenv A' E' c t s₂ m₂ hs hn hm
  refine Compare_chain (Calls.Constant_str (chain_link (wpAny_Name (wpAny_loadName_local (by rw [hs]; exact hk) (show cenv.scope.names.lookup x = some .local by rw [hs]; exact hl) hn hm ?_) hd))) (by with_unfolding_all rfl)
  refine PySem.P.le_str (wpAny_truthy_bool ?_)
  have e1 : decide ((⟨#[c]⟩ : Str).cps.toList < ("a" : Str).cps.toList) = decide (c < 97) := lt_one c 97
  have e2 : decide (("z" : Str).cps.toList < (⟨#[c]⟩ : Str).cps.toList) = decide (122 < c) := lt_one 122 c
  rw [e1]
  by_cases h : c < 97
  · have z : letter c = false := by unfold letter; rw [decide_eq_false (by omega)]; rfl
    rw [decide_eq_true h, z]
    exact ite_ff ⟨rfl, keeps_tok _ _⟩
  · rw [decide_eq_false h]
    refine ite_tt (chain_last (Calls.Constant_str (PySem.P.le_str ?_)))
    rw [e2]
    refine ⟨?_, keeps_tok _ _⟩
    unfold letter
    rw [decide_eq_true (by omega : 97 ≤ c), Bool.true_and]
    by_cases g : 122 < c
    · rw [decide_eq_true g, decide_eq_false (by omega)]; rfl
    · rw [decide_eq_false g, decide_eq_true (by omega)]; rfl
theorem ble_dec (a b : Nat) : Nat.ble a b = decide (a ≤ b) := by
  rw [Bool.eq_iff_iff, decide_eq_true_eq]
  exact ⟨Nat.le_of_ble_eq_true, Nat.ble_eq_true_of_le⟩
theorem letters_all : ∀ l : List Nat, lettersB l = l.all letter
  | [] => rfl
  | c :: r => by
    show (Nat.ble 97 c && (Nat.ble c 122 && lettersB r)) = (letter c && r.all letter)
    rw [letters_all r, ← Bool.and_assoc, ble_dec, ble_dec]
    rfl
/-- the table has grown, all else is as it was -/
theorem tabbed_kp {P : Addr} {H H' : Hp} (hP : TabG H P) (h : Tabbed P H H') : Kp H H' := ⟨fun b o e n => by
  have hb : b ≠ P := fun z => by
    obtain ⟨ps, q, _⟩ := hP
    rw [z, q] at e
    cases e
    exact n ps rfl
  rw [h.2 b hb]
  exact e, fun b ps e => by
  by_cases hb : b = P
  · obtain ⟨qs, q, _⟩ := h.1
    rw [hb]
    exact ⟨qs, q⟩
  · exact ⟨ps, by rw [h.2 b hb]; exact e⟩⟩
theorem tab_upd {P b : Addr} {H : Hp} {o : HO} (hP : TabG H P) (hb : P ≠ b) : TabG (upd H b o) P := by
  obtain ⟨ps, q, r⟩ := hP
  exact ⟨ps, by rw [upd_ne hb]; exact q, r⟩
theorem tab_ne {P b : Addr} {H : Hp} {o : HO} (hP : TabG H P) (hb : H b = some o) (n : ∀ ps, o ≠ .tbl ps) : P ≠ b := fun z => by
  obtain ⟨ps, q, _⟩ := hP
  rw [z, hb] at q
  cases q
  exact n ps rfl
theorem tab_free {P b : Addr} {H : Hp} (hP : TabG H P) (hb : H b = none) : P ≠ b := fun z => by
  obtain ⟨ps, q, _⟩ := hP
  rw [z, hb] at q
  cases q
theorem tab_new {P b : Addr} {H : Hp} {o : HO} (hP : TabG H P) (hb : H b = none) : TabG (upd H b o) P := tab_upd hP (tab_free hP hb)
theorem tab_same {P : Addr} {H H' : Hp} (hP : TabG H P) (h : Same H H') : TabG H' P := by
  obtain ⟨ps, q, r⟩ := hP
  exact ⟨ps, h _ _ q, r⟩
theorem Tabbed.refl {P : Addr} {H : Hp} (hP : TabG H P) : Tabbed P H H := ⟨hP, fun _ _ => rfl⟩
def barsS : List Str := ["say", "when", "loop", "again", "end"]
theorem str_eq {x y : Str} (h : x.cps.toList = y.cps.toList) : x = y := by
  obtain ⟨a⟩ := x
  obtain ⟨b⟩ := y
  have e : a = b := Array.toList_inj.mp h
  rw [e]
theorem bars_in (s : Str) : inV (.str s) (barsS.map V.str) = isBar s.cps.toList := by
  have h : ∀ y : Str, eqV (.str y) (.str s) = sameL s.cps.toList y.cps.toList := fun y => by
    show (y == s) = _
    rw [Bool.eq_iff_iff, beq_iff_eq, sameL_iff]
    exact ⟨fun e => by rw [e], fun e => (str_eq e).symm⟩
  have e : bars = barsS.map (fun y => y.cps.toList) := by decide +kernel
  unfold inV isBar
  rw [e, List.any_map, List.any_map]
  exact congrArg (fun f => List.any barsS f) (funext fun y => h y)
/-- a def whose code object is told -/
theorem ok_code {P : Program} {w : World} {K : PySem.W.Frag} {mg : Str → Option Value} {base : Heap} {x qual : Str} {st : Stmt} {f : Addr} {fd : FuncData} {N ps : List Str} {k : Nat} {sp : Sp} (F : Fun K x qual st f fd) (S : FnScope N ps (defScope st))
    (len : ∀ vs H Q E, sp vs H Q E → vs.length = ps.length)
    (hbody : ∀ (A : Around) (outer : List Env) (s : Shared) (H : Hp) (vs : List V) (Q : VK) (E : XK), Room k (A.deeper (envOfC qual (defScope st) s.heap.objs.size f fd.code)) → sp vs H Q E →
      ∃ t, PSs (cxOf CX0 P w K mg base N qual (defScope st) f fd.code A outer s H E).nox (defBody st) t ∧ t { nx := fun _ H' => Q .non H', rt := Q } (L2.start N vs) H) : FnOk P w K mg base CX0 (k + 1) f fd ps sp := by
  obtain ⟨oc, od, kV, doc, pm, an, cdv, ct, osl, rfl, lk, hcd⟩ := F.ex
  exact fn_of lk hcd S len fun A outer s H vs Q E hr h => let ⟨t, h1, h2⟩ := hbody A outer s H vs Q E hr h; ⟨t, h1.nox, h2⟩
/-- is it a name -/
def isNm : V → Bool
  | .str s => GoodL s.cps.toList
  | _ => false
end Lm
/-! Rows one behind another, at any depth; what one row asks for, sets, may do. -/
namespace Lm
open PySem L2
theorem ifT {c : Bool} {A B : Prop} (hc : c = true) (h : A) : if c = true then A else B := (if_pos hc).symm ▸ h
theorem ifF {c : Bool} {A B : Prop} (hc : c = false) (h : B) : if c = true then A else B := by
  subst hc
  exact iteF h
mutual
def Row.flat : Row → List Row
  | .lt to sg a b => [.lt to sg a b]
  | .sy a => [.sy a]
  | .bk kd ts rs => .bk kd ts rs :: flats rs
def flats : List Row → List Row
  | [] => []
  | r :: rs => r.flat ++ flats rs
end
mutual
theorem Row.flat_len : ∀ r : Row, r.flat.length = r.tot
  | .lt _ _ _ _ => rfl
  | .sy _ => rfl
  | .bk _ _ rs => by
    show (flats rs).length + 1 = tots rs + 1
    rw [flats_len rs]
theorem flats_len : ∀ rs : List Row, (flats rs).length = tots rs
  | [] => rfl
  | r :: rs => by
    show (r.flat ++ flats rs).length = r.tot + tots rs
    rw [List.length_append, Row.flat_len r, flats_len rs]
end
/-- the values that one row asks for -/
def Row.asks : Row → List V
  | .lt _ _ a b => [a.v, b.v]
  | .sy a => [a.v]
  | .bk _ ts _ => [ts]
def Vl.nought : Vl → Bool
  | .nm _ => true
  | .nu i => decide (i = 0)
def Row.fails : Row → Bool
  | .lt _ sg _ b => decide (sg = "/") && b.nought
  | _ => false
def Row.says : Row → Bool
  | .sy _ => true
  | _ => false
theorem kd_let {kd : Str} (h : kd ∈ kinds) : decide (V.str kd = V.str "let") = false := by
  simp only [kinds, List.mem_cons, List.not_mem_nil, or_false] at h
  rcases h with e | e | e <;> (rw [e]; decide +kernel)
theorem kd_say {kd : Str} (h : kd ∈ kinds) : decide (V.str kd = V.str "say") = false := by
  simp only [kinds, List.mem_cons, List.not_mem_nil, or_false] at h
  rcases h with e | e | e <;> (rw [e]; decide +kernel)
theorem kd_in {kd : Str} (h : kd ∈ kinds) : inV (.str kd) (kinds.map V.str) = true := by
  simp only [kinds, List.mem_cons, List.not_mem_nil, or_false] at h
  rcases h with e | e | e <;> (rw [e]; decide +kernel)
theorem let_in : inV (.str "let") (kinds.map V.str) = false := by decide +kernel
theorem say_in : inV (.str "say") (kinds.map V.str) = false := by decide +kernel
theorem kinds_flat : (kinds.map V.str).all flatV = true := by decide +kernel
theorem oks_flats {ss : List Str} : ∀ {rs : List Row}, oks ss rs → oks ss (flats rs)
  | rs, h => go rs h
where
  go1 : ∀ (r : Row), r.ok ss → oks ss r.flat
    | .lt _ _ _ _, h => ⟨h, True.intro⟩
    | .sy _, h => ⟨h, True.intro⟩
    | .bk _ _ rs, h => ⟨h, go rs h.2.2.2⟩
  go : ∀ (rs : List Row), oks ss rs → oks ss (flats rs)
    | [], _ => True.intro
    | r :: rs, h => oks_app (go1 r h.1) (go rs h.2)
theorem flats_app : ∀ {rs qs : List Row}, flats (rs ++ qs) = flats rs ++ flats qs
  | [], _ => rfl
  | r :: rs, qs => by
    show r.flat ++ flats (rs ++ qs) = (r.flat ++ flats rs) ++ flats qs
    rw [flats_app, List.append_assoc]
end Lm
/-! Things that may stand in a program, good or not; how they are looked at. -/
namespace Lm
open PySem L2 GxR
/-- a thing: flat, a tuple, a list, an empty dict -/
inductive Th where
  | v (x : V)
  | tp (xs : List Th)
  | ls (xs : List Th)
  | dc
def flt : V → Prop
  | .int _ => True
  | .str s => s.length ≤ 1000
  | .bl _ => True
  | .non => True
  | _ => False
mutual
def ThAt (K : PySem.W.Frag) (H : Hp) : Th → V → Prop
  | .v x, y => y = x ∧ flt x
  | .tp xs, y => ∃ p vs, y = .ref p ∧ SqT K H p vs ∧ ThsAt K H xs vs
  | .ls xs, y => ∃ p vs, y = .ref p ∧ SqL K H p vs ∧ ThsAt K H xs vs
  | .dc, y => ∃ p, y = .ref p ∧ H p = some (.dK [])
def ThsAt (K : PySem.W.Frag) (H : Hp) : List Th → List V → Prop
  | [], vs => vs = []
  | x :: xs, vs => ∃ v t, vs = v :: t ∧ ThAt K H x v ∧ ThsAt K H xs t
end
mutual
theorem ThAt.mono {K : PySem.W.Frag} {H H' : Hp} (e : Kp H H') : ∀ (t : Th) (v : V), ThAt K H t v → ThAt K H' t v
  | .v x, v, h => h
  | .tp xs, v, ⟨p, vs, h1, h2, h3⟩ => ⟨p, vs, h1, e.sqT h2, ThsAt.mono e xs vs h3⟩
  | .ls xs, v, ⟨p, vs, h1, h2, h3⟩ => ⟨p, vs, h1, e.sqL h2, ThsAt.mono e xs vs h3⟩
  | .dc, v, ⟨p, h1, h2⟩ => ⟨p, h1, e.at_ p _ h2 (fun ps z => by cases z)⟩
theorem ThsAt.mono {K : PySem.W.Frag} {H H' : Hp} (e : Kp H H') : ∀ (ts : List Th) (vs : List V), ThsAt K H ts vs → ThsAt K H' ts vs
  | [], vs, h => h
  | t :: ts, vs, ⟨v, us, h1, h2, h3⟩ => ⟨v, us, h1, ThAt.mono e t v h2, ThsAt.mono e ts us h3⟩
end
theorem ThsAt.len {K : PySem.W.Frag} {H : Hp} : ∀ {ts : List Th} {vs : List V}, ThsAt K H ts vs → vs.length = ts.length
  | [], vs, h => by rw [show vs = [] from h]; rfl
  | t :: ts, vs, ⟨v, us, h1, _, h3⟩ => by rw [h1, List.length_cons, List.length_cons, ThsAt.len h3]
theorem ThsAt.at {K : PySem.W.Frag} {H : Hp} : ∀ {ts : List Th} {vs : List V} {i : Nat} {v : V}, ThsAt K H ts vs → vs[i]? = some v → ∃ t, ts[i]? = some t ∧ ThAt K H t v
  | [], vs, i, v, h, e => by
    rw [show vs = [] from h] at e
    cases e
  | t :: ts, vs, 0, v, ⟨u, us, h1, h2, _⟩, e => by
    rw [h1] at e
    cases e
    exact ⟨t, rfl, h2⟩
  | t :: ts, vs, i + 1, v, ⟨u, us, h1, _, h3⟩, e => by
    rw [h1] at e
    exact ThsAt.at (ts := ts) (i := i) h3 e
theorem ThsAt.app {K : PySem.W.Frag} {H : Hp} : ∀ {ts us : List Th} {vs ws : List V}, ThsAt K H ts vs → ThsAt K H us ws → ThsAt K H (ts ++ us) (vs ++ ws)
  | [], us, vs, ws, h, k => by
    rw [show vs = [] from h]
    exact k
  | t :: ts, us, vs, ws, ⟨v, r, h1, h2, h3⟩, k => ⟨v, r ++ ws, by rw [h1]; rfl, h2, ThsAt.app h3 k⟩
/-- the type of a thing -/
def Th.ty : Th → String
  | .v (.int _) => "int"
  | .v (.str _) => "str"
  | .v (.bl _) => "bool"
  | .v _ => "NoneType"
  | .tp _ => "tuple"
  | .ls _ => "list"
  | .dc => "dict"
theorem ThAt.ty {K : PySem.W.Frag} {H : Hp} : ∀ {t : Th} {v : V}, ThAt K H t v → TyX K H v (.type t.ty)
  | .v (.int i), v, ⟨h, _⟩ => by rw [h]; exact ty_int i
  | .v (.str s), v, ⟨h, _⟩ => by rw [h]; exact ty_str s
  | .v (.bl b), v, ⟨h, _⟩ => by rw [h]; exact ty_bl b
  | .v .non, v, ⟨h, _⟩ => by rw [h]; exact .base .non
  | .v (.byt _), v, ⟨_, h⟩ => h.elim
  | .v (.flt _), v, ⟨_, h⟩ => h.elim
  | .v (.ref _), v, ⟨_, h⟩ => h.elim
  | .v (.ty _), v, ⟨_, h⟩ => h.elim
  | .tp xs, v, ⟨p, vs, h1, h2, _⟩ => by rw [h1]; exact ty_tuple h2
  | .ls xs, v, ⟨p, vs, h1, h2, _⟩ => by rw [h1]; exact ty_list h2
  | .dc, v, ⟨p, h1, h2⟩ => by rw [h1]; exact .base (.dK h2)
def Th.isS : Th → Bool
  | .v (.str _) => true
  | _ => false
theorem Th.kit {K : PySem.W.Frag} (t : Th) (n : String) {b : Bool} (h : kitB t.ty n = some b) : PySem.W.kitOne K (.type t.ty) (.type n) = some b := kit_ty h
theorem Th.kit_str (t : Th) : kitB t.ty "str" = some t.isS := by
  match t with
  | .v (.int i) => exact (by decide +kernel : kitB "int" "str" = some false)
  | .v (.str s) => exact (by decide +kernel : kitB "str" "str" = some true)
  | .v (.bl b) => exact (by decide +kernel : kitB "bool" "str" = some false)
  | .v .non => exact (by decide +kernel : kitB "NoneType" "str" = some false)
  | .v (.byt b) => exact (by decide +kernel : kitB "NoneType" "str" = some false)
  | .v (.flt b) => exact (by decide +kernel : kitB "NoneType" "str" = some false)
  | .v (.ref b) => exact (by decide +kernel : kitB "NoneType" "str" = some false)
  | .v (.ty b) => exact (by decide +kernel : kitB "NoneType" "str" = some false)
  | .tp xs => exact (by decide +kernel : kitB "tuple" "str" = some false)
  | .ls xs => exact (by decide +kernel : kitB "list" "str" = some false)
  | .dc => exact (by decide +kernel : kitB "dict" "str" = some false)
def Th.isI : Th → Bool
  | .v (.int _) => true
  | .v (.bl _) => true
  | _ => false
theorem Th.kit_int (t : Th) : kitB t.ty "int" = some t.isI := by
  match t with
  | .v (.int i) => exact (by decide +kernel : kitB "int" "int" = some true)
  | .v (.str s) => exact (by decide +kernel : kitB "str" "int" = some false)
  | .v (.bl b) => exact (by decide +kernel : kitB "bool" "int" = some true)
  | .v .non => exact (by decide +kernel : kitB "NoneType" "int" = some false)
  | .v (.byt b) => exact (by decide +kernel : kitB "NoneType" "int" = some false)
  | .v (.flt b) => exact (by decide +kernel : kitB "NoneType" "int" = some false)
  | .v (.ref b) => exact (by decide +kernel : kitB "NoneType" "int" = some false)
  | .v (.ty b) => exact (by decide +kernel : kitB "NoneType" "int" = some false)
  | .tp xs => exact (by decide +kernel : kitB "tuple" "int" = some false)
  | .ls xs => exact (by decide +kernel : kitB "list" "int" = some false)
  | .dc => exact (by decide +kernel : kitB "dict" "int" = some false)
def Th.isB : Th → Bool
  | .v (.bl _) => true
  | _ => false
theorem Th.kit_bool (t : Th) : kitB t.ty "bool" = some t.isB := by
  match t with
  | .v (.int i) => exact (by decide +kernel : kitB "int" "bool" = some false)
  | .v (.str s) => exact (by decide +kernel : kitB "str" "bool" = some false)
  | .v (.bl b) => exact (by decide +kernel : kitB "bool" "bool" = some true)
  | .v .non => exact (by decide +kernel : kitB "NoneType" "bool" = some false)
  | .v (.byt b) => exact (by decide +kernel : kitB "NoneType" "bool" = some false)
  | .v (.flt b) => exact (by decide +kernel : kitB "NoneType" "bool" = some false)
  | .v (.ref b) => exact (by decide +kernel : kitB "NoneType" "bool" = some false)
  | .v (.ty b) => exact (by decide +kernel : kitB "NoneType" "bool" = some false)
  | .tp xs => exact (by decide +kernel : kitB "tuple" "bool" = some false)
  | .ls xs => exact (by decide +kernel : kitB "list" "bool" = some false)
  | .dc => exact (by decide +kernel : kitB "dict" "bool" = some false)
def Th.isT : Th → Bool
  | .tp _ => true
  | _ => false
theorem Th.kit_tuple (t : Th) : kitB t.ty "tuple" = some t.isT := by
  match t with
  | .v (.int i) => exact (by decide +kernel : kitB "int" "tuple" = some false)
  | .v (.str s) => exact (by decide +kernel : kitB "str" "tuple" = some false)
  | .v (.bl b) => exact (by decide +kernel : kitB "bool" "tuple" = some false)
  | .v .non => exact (by decide +kernel : kitB "NoneType" "tuple" = some false)
  | .v (.byt b) => exact (by decide +kernel : kitB "NoneType" "tuple" = some false)
  | .v (.flt b) => exact (by decide +kernel : kitB "NoneType" "tuple" = some false)
  | .v (.ref b) => exact (by decide +kernel : kitB "NoneType" "tuple" = some false)
  | .v (.ty b) => exact (by decide +kernel : kitB "NoneType" "tuple" = some false)
  | .tp xs => exact (by decide +kernel : kitB "tuple" "tuple" = some true)
  | .ls xs => exact (by decide +kernel : kitB "list" "tuple" = some false)
  | .dc => exact (by decide +kernel : kitB "dict" "tuple" = some false)
def Th.isL : Th → Bool
  | .ls _ => true
  | _ => false
theorem Th.kit_list (t : Th) : kitB t.ty "list" = some t.isL := by
  match t with
  | .v (.int i) => exact (by decide +kernel : kitB "int" "list" = some false)
  | .v (.str s) => exact (by decide +kernel : kitB "str" "list" = some false)
  | .v (.bl b) => exact (by decide +kernel : kitB "bool" "list" = some false)
  | .v .non => exact (by decide +kernel : kitB "NoneType" "list" = some false)
  | .v (.byt b) => exact (by decide +kernel : kitB "NoneType" "list" = some false)
  | .v (.flt b) => exact (by decide +kernel : kitB "NoneType" "list" = some false)
  | .v (.ref b) => exact (by decide +kernel : kitB "NoneType" "list" = some false)
  | .v (.ty b) => exact (by decide +kernel : kitB "NoneType" "list" = some false)
  | .tp xs => exact (by decide +kernel : kitB "tuple" "list" = some false)
  | .ls xs => exact (by decide +kernel : kitB "list" "list" = some true)
  | .dc => exact (by decide +kernel : kitB "dict" "list" = some false)
/-! ### what is refused -/
inductive Cls where
  | row
  | name
  | num
  | deep (n : Nat)
deriving DecidableEq
def Th.isN : Th → Bool
  | .v x => isNm x
  | _ => false
def Th.isNum : Th → Bool
  | .v (.int i) => decide (0 ≤ i) && decide (i ≤ 999999)
  | _ => false
def Th.isSg : Th → Bool
  | .v (.str s) => inV (.str s) (signs.map V.str)
  | _ => false
def ckName (t : Th) : Option Cls := if t.isN then none else some .name
def ckSign (t : Th) : Option Cls := if t.isSg then none else some .row
def ckWorth (t : Th) : Option Cls := if t.isS then ckName t else if t.isNum then none else some .num
def lens (s : Str) : Option Nat := if s = "let" then some 5 else if s = "say" then some 2 else if s = "when" then some 3 else if s = "loop" then some 3 else if s = "again" then some 3 else none
/-- its form is one of the forms -/
def Th.form : Th → Bool
  | .tp (.v (.str s) :: xs) => decide (lens s = some (xs.length + 1))
  | _ => false
def isBlk (s : Str) : Bool := inV (.str s) (kinds.map V.str)
def ckLet : List Th → Option Cls
  | [a, b, c, e] => match ckName a with
    | some x => some x
    | none => match ckSign b with
      | some x => some x
      | none => match ckWorth c with
        | some x => some x
        | none => ckWorth e
  | _ => some .row
mutual
def lkRow : Nat → Th → Nat → Except Cls Nat
  | m, .tp (.v (.str s) :: a :: xs), n =>
    if Th.form (.tp (.v (.str s) :: a :: xs)) then
      if isBlk s then (match m with
        | 0 => .error (.deep n)
        | m + 1 => match ckName a with
          | some c => .error c
          | none => match xs with
            | r :: _ => lkRows m r (n + 1)
            | [] => .error .row)
      else match (if s = "let" then ckLet (a :: xs) else ckWorth a) with
        | some c => .error c
        | none => .ok (n + 1)
    else .error .row
  | _, _, _ => .error .row
def lkRows : Nat → Th → Nat → Except Cls Nat
  | m, .ls xs, n => lkAll m xs n
  | _, _, _ => .error .row
def lkAll : Nat → List Th → Nat → Except Cls Nat
  | _, [], n => .ok n
  | m, x :: xs, n => match lkRow m x n with
    | .error c => .error c
    | .ok k => lkAll m xs k
end
theorem lkRow_noform {m n : Nat} : ∀ {t : Th}, t.form = false → lkRow m t n = .error .row
  | .v x, _ => by unfold lkRow; rfl
  | .ls xs, _ => by unfold lkRow; rfl
  | .dc, _ => by unfold lkRow; rfl
  | .tp [], _ => by unfold lkRow; rfl
  | .tp [x], _ => by
    cases x with
    | v y => cases y <;> (unfold lkRow; rfl)
    | tp _ => unfold lkRow; rfl
    | ls _ => unfold lkRow; rfl
    | dc => unfold lkRow; rfl
  | .tp (.v (.str s) :: a :: xs), h => by
    unfold lkRow
    rw [if_neg (by rw [h]; exact Bool.false_ne_true)]
  | .tp (.v (.int s) :: a :: xs), h => by unfold lkRow; rfl
  | .tp (.v (.bl s) :: a :: xs), h => by unfold lkRow; rfl
  | .tp (.v (.non) :: a :: xs), h => by unfold lkRow; rfl
  | .tp (.v (.byt s) :: a :: xs), h => by unfold lkRow; rfl
  | .tp (.v (.flt s) :: a :: xs), h => by unfold lkRow; rfl
  | .tp (.v (.ref s) :: a :: xs), h => by unfold lkRow; rfl
  | .tp (.v (.ty s) :: a :: xs), h => by unfold lkRow; rfl
  | .tp (.tp s :: a :: xs), h => by unfold lkRow; rfl
  | .tp (.ls s :: a :: xs), h => by unfold lkRow; rfl
  | .tp (.dc :: a :: xs), h => by unfold lkRow; rfl
end Lm
/-! Written data: what stands there. -/
namespace Lm
open PySem L2 GxR
def litsBy (f : Expr → Option Th) : List Expr → Option (List Th)
  | [] => some []
  | e :: es => match f e with
    | some t => (litsBy f es).map (t :: ·)
    | none => none
def lit : Nat → Expr → Option Th
  | 0, _ => none
  | _ + 1, .Constant (.str s) _ _ => if s.length ≤ 1000 then some (.v (.str s)) else none
  | _ + 1, .Constant (.int i) _ _ => some (.v (.int i))
  | _ + 1, .Constant (.bool b) _ _ => some (.v (.bl b))
  | _ + 1, .Constant .none _ _ => some (.v .non)
  | _ + 1, .UnaryOp .USub (.Constant (.int i) _ _) _ => some (.v (.int (-i)))
  | _ + 1, .Dict [] [] _ => some .dc
  | n + 1, .Tuple es _ _ => if es.length ≤ 1000 then (litsBy (lit n) es).map .tp else none
  | n + 1, .List es _ => if es.length ≤ 1000 then (litsBy (lit n) es).map .ls else none
  | _ + 1, _ => none
/-- what stands in H' and did not in H -/
def nw (H H' : Hp) : Hp := fun b => match H b with
  | none => H' b
  | some _ => none
theorem nw_at {H H' : Hp} {p : Addr} (h : H p = none) : nw H H' p = H' p := by
  unfold nw
  rw [h]
theorem nw_out {H H' : Hp} {p : Addr} {o : HO} (h : H p = some o) : nw H H' p = none := by
  unfold nw
  rw [h]
theorem nw_old {H H' : Hp} {p : Addr} {o : HO} (h : nw H H' p = some o) : H p = none ∧ H' p = some o := by
  cases e : H p with
  | none => exact ⟨rfl, by rw [nw_at e] at h; exact h⟩
  | some u => rw [nw_out e] at h; cases h
theorem nw_same {H H' : Hp} : Same (nw H H') H' := fun b o e => (nw_old e).2
theorem nw_mono {H H1 H2 : Hp} (s : Same H1 H2) : Same (nw H H1) (nw H H2) := fun b o e => by
  obtain ⟨e1, e2⟩ := nw_old e
  rw [nw_at e1]
  exact s b o e2
theorem nw_left {H H1 H2 : Hp} (s : Same H H1) : Same (nw H1 H2) (nw H H2) := fun b o e => by
  obtain ⟨e1, e2⟩ := nw_old e
  have e3 : H b = none := by
    cases z : H b with
    | none => rfl
    | some u => rw [s b u z] at e1; cases e1
  rw [nw_at e3]
  exact e2
theorem same_none {H H1 : Hp} (s : Same H H1) {p : Addr} (h : H1 p = none) : H p = none := by
  cases z : H p with
  | none => rfl
  | some u => rw [s p u z] at h; cases h
def tLit (K : PySem.W.Frag) (t : Th) : TE := fun _ H Q => ∀ v H', Same H H' → ThAt K (nw H H') t v → Q v H'
def tLits (K : PySem.W.Frag) (ts : List Th) : TA := fun _ H Q => ∀ vs H', Same H H' → ThsAt K (nw H H') ts vs → Q vs H'
theorem PE.imp {X : Cx} {e : Expr} {t t' : TE} (h : PE X e t) (i : ∀ σ H Q, t' σ H Q → t σ H Q) : PE X e t' := ⟨fun pins s σ H Q I q => h.run pins s σ H Q I (i σ H Q q)⟩
theorem PA.imp {X : Cx} {e : List Expr} {t t' : TA} (h : PA X e t) (i : ∀ σ H Q, t' σ H Q → t σ H Q) : PA X e t' := ⟨fun pos pins s σ H Q I q => h.run pos pins s σ H Q I (i σ H Q q)⟩
theorem lit_star {X : Cx} : ∀ {n : Nat} {e : Expr} {t : Th} {es : List Expr}, lit n e = some t → starEach (e :: es) X.env = (false, eval e X.env) :: starEach es X.env
  | 0, e, t, es, h => by cases h
  | n + 1, e, t, es, h => by
    cases e <;> first
      | rfl
      | (exfalso; unfold lit at h; cases h)
theorem lits_len {f : Expr → Option Th} : ∀ {es : List Expr} {ts : List Th}, litsBy f es = some ts → ts.length = es.length
  | [], ts, h => by cases h; rfl
  | e :: es, ts, h => by
    unfold litsBy at h
    cases e1 : f e with
    | none => rw [e1] at h; cases h
    | some t =>
      rw [e1] at h
      cases e2 : litsBy f es with
      | none => rw [show (match some t with | some t => Option.map (t :: ·) (litsBy f es) | none => none) = Option.map (t :: ·) (litsBy f es) from rfl, e2] at h; cases h
      | some us =>
        rw [show (match some t with | some t => Option.map (t :: ·) (litsBy f es) | none => none) = Option.map (t :: ·) (litsBy f es) from rfl, e2] at h
        cases h
        rw [List.length_cons, List.length_cons, lits_len e2]
theorem pa_lits {X : Cx} {n : Nat} (ih : ∀ {e : Expr} {t : Th}, lit n e = some t → PE X e (tLit X.K t)) : ∀ {es : List Expr} {ts : List Th}, litsBy (lit n) es = some ts → PA X es (tLits X.K ts)
  | [], ts, h => by
    cases h
    exact PA.imp pa_nil fun σ H Q q => q [] H (Same.refl H) rfl
  | e :: es, ts, h => by
    unfold litsBy at h
    cases e1 : lit n e with
    | none => rw [e1] at h; cases h
    | some t =>
      rw [e1] at h
      cases e2 : litsBy (lit n) es with
      | none =>
        have e3 : Option.map (t :: ·) (litsBy (lit n) es) = some ts := h
        rw [e2] at e3
        cases e3
      | some us =>
        have e3 : Option.map (t :: ·) (litsBy (lit n) es) = some ts := h
        rw [e2] at e3
        cases e3
        refine PA.imp (pa_cons (ih e1) (pa_lits ih e2) (lit_star e1)) fun σ H Q q => ?_
        exact fun v H1 s1 h1 vs H2 s2 h2 => q (v :: vs) H2 (s1.trans s2) ⟨v, vs, rfl, h1.mono (Same.kp (nw_mono s2)), h2.mono (Same.kp (nw_left s1))⟩
theorem pe_lit {X : Cx} : ∀ {n : Nat} {e : Expr} {t : Th}, lit n e = some t → PE X e (tLit X.K t)
  | 0, e, t, h => by cases h
  | n + 1, e, t, h => by
    unfold lit at h
    split at h
    · cases h
    · split at h
      · rename_i hz
        cases h
        exact PE.imp pe_str fun σ H Q q => q _ H (Same.refl H) ⟨rfl, hz⟩
      · cases h
    · cases h
      exact PE.imp pe_int fun σ H Q q => q _ H (Same.refl H) ⟨rfl, True.intro⟩
    · cases h
      exact PE.imp pe_bl fun σ H Q q => q _ H (Same.refl H) ⟨rfl, True.intro⟩
    · cases h
      exact PE.imp pe_non fun σ H Q q => q _ H (Same.refl H) ⟨rfl, True.intro⟩
    · cases h
      exact PE.imp (pe_un un_neg pe_int) fun σ H Q q => ⟨_, rfl, q _ H (Same.refl H) ⟨rfl, True.intro⟩⟩
    · cases h
      exact PE.imp pe_dnewK fun σ H Q q => fun p hp => q _ _ (same_new hp _) ⟨p, rfl, by rw [nw_at hp]; exact upd_same⟩
    · split at h
      · rename_i n2 es k2 pos2 heq hz
        cases heq
        cases e1 : litsBy (lit n) es with
        | none => rw [e1] at h; cases h
        | some ts =>
          rw [e1] at h
          cases h
          refine PE.imp (pe_tup (pa_lits (fun h => pe_lit h) e1)) fun σ H Q q => ?_
          intro vs H1 s1 h1
          refine ⟨?_, fun p hp => q _ _ (s1.trans (same_new hp _)) ⟨p, vs, rfl, SqT.of (by rw [nw_at (same_none s1 hp)]; exact upd_same), h1.mono (Same.kp (nw_mono (same_new hp _)))⟩⟩
          rw [h1.len, lits_len e1, sizeLine_eq]
          omega
      · cases h
    · split at h
      · rename_i n2 es pos2 heq hz
        cases heq
        cases e1 : litsBy (lit n) es with
        | none => rw [e1] at h; cases h
        | some ts =>
          rw [e1] at h
          cases h
          refine PE.imp (pe_lst (pa_lits (fun h => pe_lit h) e1)) fun σ H Q q => ?_
          intro vs H1 s1 h1
          refine ⟨?_, fun p hp => q _ _ (s1.trans (same_new hp _)) ⟨p, vs, rfl, SqL.of (by rw [nw_at (same_none s1 hp)]; exact upd_same), h1.mono (Same.kp (nw_mono (same_new hp _)))⟩⟩
          rw [h1.len, lits_len e1, sizeLine_eq]
          omega
      · cases h
    · cases h
end Lm
/-! isinstance of a caught error that may have a dict of its own; a text once or not at all. -/
namespace Lm
open PySem PySem.Spec PyProof.Rows L2
/-- isinstance(e, c), e the error that the suite holds: its class cls, its dict dd -/
def rIsA (K : PySem.W.Frag) (a : Addr) (cls : Value) (dd : Option Addr) : List V → Hp → VK → Prop := fun xs H Q => ∃ (D : Addr) (c : V) (cv : Value) (b : Bool), xs = [.ref a, c] ∧ cls = .ref D ∧ ExcC K D ∧ (∀ d, dd = some d → ∃ fs, H d = some (.xd fs)) ∧ (∀ u, RelV c u → u = cv) ∧ PySem.W.kitOne K (.ref D) cv = some b ∧ Q (.bl b) H
theorem call_isA {X : Cx} {a : Addr} {cls : Value} {dd : Option Addr} {oe : Obj} {pn : List (Addr × Obj)} (hz : Zc cls dd oe) (hf : ∃ vs, oe.data = .fields vs) : CallR (X.suite a ((a, oe) :: pn)) (.builtin "isinstance") (rIsA X.K a cls dd) := by
  intro pins s σ H xs us Q I r h
  obtain ⟨D, c, cv, b, rfl, rfl, C, hd, hcv, e, q⟩ := h
  cases r with
  | cons rx rr =>
    cases rr with
    | cons rt rr =>
      cases rr
      cases rx
      have ec := hcv _ rt
      subst ec
      obtain ⟨hget, _⟩ := I.pin (a, oe) (List.mem_append.mpr (.inl List.mem_cons_self))
      obtain ⟨vs, hv⟩ := hf
      have J : ∃ od, PySem.W.InstAt s.heap a oe D od := by
        obtain ⟨h1, h2⟩ := hz
        cases dd with
        | none => exact ⟨none, hget, h1, by unfold PySem.W.notCls; rw [hv] <;> rfl, by rw [h2]; exact True.intro⟩
        | some d =>
          obtain ⟨fs, ef⟩ := hd d rfl
          have hx : ObjOk X.prog X.w H s.heap d (.xd fs) := I.hok d _ ef
          obtain ⟨mA, hns, _⟩ := hx
          obtain ⟨od, ho, _⟩ := lookIn_ns hns
          exact ⟨some od, hget, h1, by unfold PySem.W.notCls; rw [hv] <;> rfl, by rw [h2]; exact ho⟩
      obtain ⟨od, J⟩ := J
      exact PySem.W.kia_one (PySem.W.kitx_exc (by obtain ⟨cd, hc, _⟩ := PySem.W.any_some C.hd; rw [hc]; rfl) C.hg C.hk C.hs C.ha C.hn C.ht C.hm) I.kIn J e (fun z => nomatch z) fun tk => ⟨.bl b, H, I.kept (t' := tk) fun _ _ z => z, rfl, q⟩
/-- a text, once or not at all -/
theorem op_mul_s {X : Cx} : OpR X (binaryOp .Mult) (fun x y H Q => ∃ (z : Str) (b : Bool), x = .str z ∧ y = .int (if b then 1 else 0) ∧ z.length ≤ 1000 ∧ Q (.str (if b then z else Str.empty)) H) := by
  intro pins s σ H x y v u Q I rx ry h
  obtain ⟨z, b, rfl, rfl, hz, q⟩ := h
  obtain ⟨t, rfl⟩ := rx
  obtain ⟨t', rfl⟩ := ry
  have hs : z.length ≤ sizeLine := by rw [sizeLine_eq]; omega
  cases b with
  | false => exact PySem.P.mul_str_none (by decide) (by decide) ⟨.str Str.empty, H, I.tok _, ⟨_, rfl⟩, q⟩
  | true =>
    refine PySem.P.mul_str (n := 1) (by decide) (fun _ e => by exact absurd e (by simp)) (fun _ e => by exact absurd e (by simp)) ?_
    rw [if_neg (by decide), if_pos (by simp)]
    exact ⟨.str z, H, I, ⟨_, rfl⟩, q⟩
end Lm
/-! an own error whose __init__ says super().__init__(f'..{place}..') and self.place = place -/
namespace DeepX
open PySem PySem.W PySem.Calls PyProof.Rows PySem.HandSPX
def iA (p1 p2 : Pos) : Arguments := { posonlyargs := [], args := [{ arg := "self", annotation := none, pos := p1 }, { arg := "place", annotation := none, pos := p2 }], vararg := none, kwonlyargs := [], kw_defaults := [], kwarg := none, defaults := [] }
structure Ps where
  p1 : Pos
  p2 : Pos
  p3 : Pos
  p4 : Pos
  p5 : Pos
  p6 : Pos
  p7 : Pos
  p8 : Pos
  p9 : Pos
  p10 : Pos
  p11 : Pos
  p12 : Pos
  p13 : Pos
  p14 : Pos
def iJ (t1 t2 : Str) (p : Ps) : Expr := .JoinedStr [.Constant (.str t1) 0 p.p4, .FormattedValue (.Name "place" p.p5) (-1) none p.p6, .Constant (.str t2) 0 p.p7] p.p8
def iC (t1 t2 : Str) (p : Ps) : Expr := .Call (.Attribute (.Call (.Name "super" p.p1) [] [] p.p2) "__init__" p.p3) [iJ t1 t2 p] [] p.p9
def iB (t1 t2 : Str) (p : Ps) : List Stmt := [.Expr (iC t1 t2 p) p.p10, .Assign [.Attribute (.Name "self" p.p11) "place" p.p12] (.Name "place" p.p13) p.p14]
def iS : Scope := { kind := .function, names := [(PySem.Str.ofString "self", .local), (PySem.Str.ofString "place", .local), (PySem.Str.ofString "__class__", .free), (PySem.Str.ofString "super", .globalImplicit)], isGenerator := false, isCoroutine := false, more := [] }
theorem kSelf : iS.names.lookup ("self" : Str) = some .local := by decide +kernel
theorem kPlace : iS.names.lookup ("place" : Str) = some .local := by decide +kernel
theorem kSuper : iS.names.lookup ("super" : Str) = some .globalImplicit := by decide +kernel
theorem kClass : iS.names.lookup ("__class__" : Str) = some .free := by decide +kernel
/-- what the written part says of the class at C (its name cn), and of its __init__, at fI -/
structure DeepTxt (P : Program) (K : Frag) (mg : Str → Option Value) (cn : Str) (t1 t2 : Str) (C fI : Addr) : Prop where
  gC : mg cn = some (.ref C)
  gS : mg "super" = none
  cls : ∃ nm q N bs bm sn sub ab col dd k0 k1 k2 k3 k5, K.lookup C = some (excClassObj nm q C N bs bm true sn sub ab col dd k0 k1 k2 k3 k5 "ValueError.__new__") ∧ refsVE bm = true
  sa : findIn K (.ref C) "__setattr__" = some (some (.builtin "object.__setattr__"))
  ga : findIn K (.ref C) "__getattribute__" = some (some (.builtin "BaseException.__getattribute__"))
  gg : findIn K (.ref C) "__getattr__" = some none
  noN : findIn K (.ref C) "place" = some none
  iC : findIn K (.ref C) "__init__" = some (some (.ref fI))
  tC : typeIn K (.ref fI) = some (.type "function")
  kC : keepIn K (.ref C) = true
  exC : subIn K (.ref C) (.type "BaseException") = some true
  veC : subIn K (.ref C) (.type "ValueError") = some true
  tyC : typeIn K (.ref C) = some (.type "type")
  hdC : hasDictIn K C = true
  seC : mroIn K C (.ref C) = some true
  opq : nsIn K cStatics "thirdparty.any" = some none
  sup : ks_superIn K C C "__init__" = some (some (.builtin "ValueError.__init__"))
  fn : ∃ (oc : Value) (od : Option Addr) (doc pm : Value) (an : Option Addr) (cda : Addr) (ct : Value) (osl : Array (Option Value)) (qn : Str) (p1 p2 : Pos) (p : Ps) (cc : Addr) (cl : Value) (cld : Option Addr) (csl : Array (Option Value)) (ccl : Value) (cdd : Option Addr) (vs : Array Value) (ccs : Array (Option Value)) (file : Str) (tf : Tok),
    K.lookup fI = some ⟨oc, od, .func (ksFn "__init__" qn (iA p1 p2) (iB t1 t2 p) iS .none .none doc pm an (.ref cda) ct cc), osl⟩ ∧ codeIn K (.ref cda) qn = true ∧
    K.lookup cda = some ⟨ccl, cdd, .fields vs, ccs⟩ ∧ vs[2]? = some (.str file tf) ∧ ((P.main.file : Str) == file) = true ∧ (p.p3.endLine == p.p9.line) = true ∧ K.lookup cc = some ⟨cl, cld, .cell (some (.ref C)), csl⟩
  top : (P.main.scope.names.lookup ("super" : Str)).isSome = false
/-- what __init__ leaves of a fresh exception at x -/
structure InitEnd (h h' : Heap) (x C dx : Addr) (v : Value) : Prop where
  keep : ∀ b o, b ≠ x → h.get? b = some o → h'.get? b = some o
  obj : ∃ t1 : Addr, h'.get? x = some { cls := .ref C, dict := some dx, data := .fields #[.ref t1, .none, .none, .none, .bool false, .none] }
  dbig : h.objs.size ≤ dx
  dne : dx ≠ x
  ns : h'.Ns1 dx (fun y => if y = "place" then some v else none)
/-- a made one -/
structure OwnMade (h h' : Heap) (e C d : Addr) (v : Value) : Prop where
  keep : ∀ b o, h.get? b = some o → h'.get? b = some o
  new : h.objs.size ≤ e
  obj : ∃ oe vs, h'.get? e = some oe ∧ oe.cls = .ref C ∧ oe.dict = some d ∧ oe.data = .fields vs ∧ vs[1]? = some .none
  dbig : h.objs.size ≤ d
  dne : d ≠ e
  ns : h'.Ns1 d (fun y => if y = "place" then some v else none)
theorem ldS {M : Model} {s : Shared} {env : Env} {m : Str → Option Value} {x : Str} {pos : Pos} {v : Value} {Q : Value → Shared → Prop} {A : Around} {E : Value → Shared → Prop} (hn : s.heap.Ns env.locals m) (hv : m x = some v) (h : Q v s)
    (hk : env.scope.kind = .function := by rfl) (hl : env.kindOf x = some .local := by rfl) (hd : (x == ("__debug__" : Str)) = false := by decide) :
    wpAny M A (eval (.Name x pos) env) Q E s := wpAny_Name (wpAny_loadName_local hk hl hn hv h) hd
theorem eval_meth1 (o : Expr) (name : Str) (e : Expr) (p3 p9 : Pos) (env : Env) (hs : starEach [e] env = [(false, eval e env)]) (h : (p3.endLine == p9.line) = true) : ∃ pl, eval (.Call (.Attribute o name p3) [e] [] p9) env = (do
      let ov ← attributeBase o name env (eval o env)
      standAt p3.atName
      let (f, first) ← holding [ov] (getMethod ov name pl)
      callWith p9 f first (backTo p9 (starEach [e] env)) []) := by
  have q : ∀ few, methodCallPos few o env p3 p9 = pure p9 := fun few => by
    unfold methodCallPos
    rw [h, Bool.or_true]
    rfl
  have k : backToKw p9 (keywordEach [] env) = [] := rfl
  refine ⟨(do return (← importBound o env).getD true), ?_⟩
  rw [arm_eval_Call]
  unfold methodCall
  simp only [q, pure_bind, k]
  rw [hs]
  rfl
theorem ns_other {h h' : Heap} {L : Addr} {m : Str → Option Value} (hn : h.Ns L m) (k : ∀ o, h.get? L = some o → h'.get? L = some o) : h'.Ns L m := by
  obtain ⟨oL, es, ep, hL, r⟩ := hn
  exact ⟨oL, es, ep, k _ hL, r⟩
theorem ns_keeps {h h' : Heap} {L : Addr} {m : Str → Option Value} (hn : h.Ns L m) (k : ∀ b o, h.get? b = some o → h'.get? b = some o) : h'.Ns L m := hn.keeps k
section
variable {prog : Program} {w : World} {A : Around} {E : Value → Shared → Prop} {h : Heap} {g : Array GenState} {d : Drawn} {t : Nat} {os : OsState}
variable {nm q : Str} {C N : Addr} {bs bm : List Value} {hdct : Bool} {sn : List Str} {sub : List Value} {ab : Bool} {col : Option Bool} {dd : Option Addr} {k0 k1 k2 k3 k5 : Option Value}
/-- the bound ValueError.__init__ is called -/
theorem call_bwVE {u e t0 : Addr} {rest : List Value} {Q : Value → Shared → Prop}
    (hC : h.get? C = some (excClassObj nm q C N bs bm hdct sn sub ab col dd k0 k1 k2 k3 k5 "ValueError.__new__")) (he : h.get? e = some (excO C t0)) (hu : h.get? u = some (kxs_mw "ValueError.__init__" e)) (hrest : rest.length ≤ sizeLine)
    (hq : ∀ h' t1, (∀ b o, b ≠ e → h.get? b = some o → h'.get? b = some o) → h'.get? e = some (excO C t1) → Q .none ⟨h', g, d, t, os⟩) :
    wpAny (model prog w) A (call (.ref u) rest) Q E ⟨h, g, d, t, os⟩ := by
  refine wpAny_call (codeAny_of_tree ?_)
  show wpAny _ A.in1 (callAny (.ref u) ⟨rest, []⟩) _ _ _
  simp only [callAny]
  refine wpAny_bind (wpAny_load hu ?_)
  simp only [kxs_mw, show (Value.type "method-wrapper" == Value.type "method" || Value.type "method-wrapper" == Value.type "builtin_function_or_method" || Value.type "method-wrapper" == Value.type "method-wrapper") = true by decide, if_true]
  refine W.KFB.if_so (by decide) ?_
  refine wpAny_bind (ESX.check_bound F.excBase_ValueError hC he rfl ?_)
  refine wpAny_bind (wpAny_pure (wpAny_pure ?_))
  refine ⟨Code.quiet_builtin _ (by decide +kernel), codeAny_builtin F.excBase_ValueError.initEntry ?_⟩
  rw [Around.under_plainId F.excBase_ValueError.init.plain _]
  wp_walk
  refine hq _ h.objs.size (fun b o hb ho => ?_) ?_
  · rw [Heap.get?_update_other _ _ (Ne.symm hb)]
    exact Heap.get?_push_of_some _ ho
  · rw [Heap.get?_update_self _ (Heap.get?_push_of_some _ he) rfl]
    rfl
end
section
variable {prog : Program} {w : World} {A : Around} {E : Value → Shared → Prop} {R : Result → Shared → Prop} {s : Shared} {K : Frag} {mg : Str → Option Value} {C fI : Addr} {cn t1 t2 : Str} {base : Heap}
theorem deep_init (T : DeepTxt prog K mg cn t1 t2 C fI) (BM : L2.Mod K mg base) (bk : ∀ b o, base.get? b = some o → s.heap.get? b = some o) {x t0 : Addr} {i : Int} {ti : Tok} (hi : i.natAbs.log2 < 1920) (ht1 : t1.length ≤ 1000) (ht2 : t2.length ≤ 1000)
    (hlim : s.heap.NoLimit) (hx : s.heap.get? x = some (excO C t0)) (hnb : base.get? x = none) (hroom : A.depth < recursionLimit)
    (hq : ∀ h' tk dx, InitEnd s.heap h' x C dx (.int i ti) → R (.ok (.ret .none)) { s with heap := h', toks := tk }) :
    codeAny (model prog w) A (.call (.ref fI) ⟨[.ref x, .int i ti], []⟩) R s := by
  have X : K.In s.heap := BM.kin.keeps bk
  obtain ⟨oc, od, doc, pm, an, cda, ct, osl, qn, p1, p2, p, cc, cl, cld, csl, ccl, cdd, vs, ccs, file, tf, ho, hcd, hcode, hvs, hfile, hpos, hcell⟩ := T.fn
  obtain ⟨nm, q, N, bs, bm, sn, sub, ab, col, dd, k0, k1, k2, k3, k5, hC, hbm⟩ := T.cls
  obtain ⟨mb, hb1, hb2⟩ := BM.blt
  have hcl : clsIn K C = some { name := nm, bases := bs, mro := .ref C :: bm, ns := N, qualname := q, hasDict := true, slotNames := sn, subclasses := sub, abstract := ab, collection := col, hasDel := false } := by unfold clsIn; rw [hC] <;> rfl
  refine ks_codeAny_call_defAt (fd := ksFn "__init__" qn (iA p1 p2) (iB t1 t2 p) iS .none .none doc pm an (.ref cda) ct cc) (body := iB t1 t2 p) (binds := [("self", .ref x), ("place", .int i ti)]) hroom (X _ _ ho) rfl hlim (codeRec_of X hcd) rfl
    (BindsTo.of_eq (by first | rfl | with_unfolding_all rfl)) (by show ∀ x ∈ iS.names, x.2 ≠ NameKind.cell; decide +kernel) (by intro y hy; simp only [List.mem_cons, List.not_mem_nil, or_false] at hy; rcases hy with rfl | rfl <;> (first | rfl | exact (by decide +kernel : iS.names.lookup (PySem.Str.ofString "self") = some .local) | exact (by decide +kernel : iS.names.lookup (PySem.Str.ofString "place") = some .local))) (fun h₁ hns hk₁ => ?_) rfl rfl rfl
  have X₁ : K.In h₁ := X.keeps hk₁
  have bk₁ : ∀ b o, base.get? b = some o → h₁.get? b = some o := fun b o e => hk₁ b o (bk b o e)
  have hx₁ := hk₁ _ _ hx
  refine ks_wpAt_execs_cons ?_
  obtain ⟨pl, hpl⟩ := eval_meth1 (.Call (.Name "super" p.p1) [] [] p.p2) "__init__" (iJ t1 t2 p) p.p3 p.p9 (callEnv (ksFn "__init__" qn (iA p1 p2) (iB t1 t2 p) iS .none .none doc pm an (.ref cda) ct cc) s.heap.objs.size fI) (by rfl) hpos
  refine ks_wpAt_Expr_any (ks_wpAt_MethodCall (pl := pl) ?_ hpl)
  refine ks_wpAt_super_base (env := callEnv (ksFn "__init__" qn (iA p1 p2) (iB t1 t2 p) iS .none .none doc pm an (.ref cda) ct cc) s.heap.objs.size fI) kSuper kClass (by decide +kernel) rfl (X₁ _ _ ho) rfl rfl rfl (X₁ _ _ hcode) rfl hvs hfile T.top ?_
  refine ks_loadName_global rfl kSuper (loadGlobal_builtin (BM.glob.keeps bk₁) T.gS (hb1.keeps bk₁) ((hb2 _ (by decide +kernel)).trans (by first | boot_by_name | rfl | kernel_rfl)) ⟨rfl, ?_⟩)
  refine wpAny_loadName_free rfl kClass rfl ⟨_, X₁ _ _ hcell, rfl⟩ ?_
  refine wpAny_loadName_local rfl kSelf hns (v := .ref x) (by first | rfl | with_unfolding_all rfl | kernel_rfl) ?_
  refine ks_wpAny_isType_cls (X₁ _ _ hC) rfl ⟨rfl, ?_⟩
  refine ks_wpAny_call_super (X₁ _ _ hC) rfl hx₁ rfl (fun c e => by cases e) (looks_mroIn X₁ T.seC) (fun h₂ hso k₂ => ?_)
  have X₂ : K.In h₂ := X₁.keeps k₂
  have hx₂ := k₂ _ _ hx₁
  have hxC : x ≠ C := fun z => by
    have y := X₁ _ _ hC
    rw [← z, hx₁] at y
    cases y
  have IX : InstAt h₂ x (excO C t0) C none := ⟨hx₂, rfl, rfl, trivial⟩
  have hsup : alongIn K "__init__" (((.ref C :: bm : List Value).dropWhile (· != .ref C)).drop 1) = some (some (.builtin "ValueError.__init__")) := by
    have y := T.sup
    unfold ks_superIn at y
    rw [hcl] at y
    exact y
  refine kxs_getMethod kxs_ValueError hso (looks_opaque X₂ T.opq) (l₀ := .ref C :: bm) (fun A Q E s k q => wpAny_bind ((looks_clsIn X₂ hcl) A _ E s k (wpAny_pure q))) rfl X₂ hsup (IX.type.andThen (looks_subIn X₂ T.veC)) hxC (by decide +kernel) ?_
  refine kxs_callWith (i := "ValueError.__init__") (x := x) (by rfl) (evalArgs_plain ?_)
  refine spliced_cons ?_
  have L1 : s.heap.objs.size < h₁.objs.size := hns.lt
  have k₃ : ∀ b o, h₁.get? b = some o → (h₂.push (kxs_mw "ValueError.__init__" x)).get? b = some o := fun b o e => Heap.get?_push_of_some _ (k₂ b o e)
  have hns₃ := hns.keeps k₃
  refine wpAny_JoinedStr (pos := p.p8) ?_
  have li : (Str.ofString (toString i)).length ≤ 1921 := by
    have e := int_text_length_le (k := 1920) (by decide) hi
    rw [PySem.ofString_length]
    exact e
  have z1 : (Str.empty ++ t1).length ≤ 1000 := by
    rw [Str.length_append]
    have : Str.empty.length = 0 := rfl
    omega
  have z2 : (Str.empty ++ t1 ++ Str.ofString (toString i)).length ≤ 3000 := by
    rw [Str.length_append]
    omega
  have z3 : (Str.empty ++ t1 ++ Str.ofString (toString i) ++ t2).length ≤ 4000 := by
    rw [Str.length_append]
    omega
  refine wpAny_Constant_str ⟨t1, _, rfl, by rw [sizeLine_eq]; omega, ?_⟩
  refine wpAny_FormattedValue_plain (ldS hns₃ (v := .int i ti) (by first | rfl | with_unfolding_all rfl | kernel_rfl) (wpAny_formatField_int hi ⟨Str.ofString (toString i), _, rfl, by rw [sizeLine_eq]; omega, ?_⟩) rfl kPlace)
  refine wpAny_Constant_str ⟨t2, _, rfl, by rw [sizeLine_eq]; omega, ?_⟩
  refine ⟨by rw [sizeLine_eq]; omega, ?_⟩
  refine spliced_nil ⟨Heap.get?_push_at rfl rfl, ?_⟩
  refine call_bwVE (t0 := t0) (k₃ _ _ (X₁ _ _ hC)) (k₃ _ _ hx₁) (Heap.get?_push_at rfl rfl) (by show 1 ≤ sizeLine; rw [sizeLine_eq]; omega) (fun h₄ u4 k₄ hx₄ => ?_)
  refine wpAt_of_wpAny ?_
  have hxL : s.heap.objs.size ≠ x := Nat.ne_of_gt (Heap.lt_size hx)
  have kb : ∀ b o, base.get? b = some o → h₄.get? b = some o := fun b o e => k₄ b o (fun z => by rw [z, hnb] at e; cases e) (k₃ _ _ (bk₁ b o e))
  have X₄ : K.In h₄ := BM.kin.keeps kb
  have hns₄ := ns_other hns₃ (h' := h₄) fun o e => k₄ _ o hxL e
  refine wpAny_execs_cons (plainObj_wpAny_Assign_Attribute ?_)
  refine ldS (v := .int i ti) hns₄ (by first | rfl | with_unfolding_all rfl | kernel_rfl) (ldS (v := .ref x) hns₄ (by first | rfl | with_unfolding_all rfl | kernel_rfl) ?_ rfl kSelf) rfl kPlace
  refine set_plain X₄ (ox := excO C u4) (od := none) ⟨hx₄, rfl, rfl, trivial⟩ T.sa ?_
  refine exc_osa X₄ hx₄ hcl (show refsVE (.ref C :: bm) = true from hbm) rfl T.noN (fun h₅ tk₅ dx k₅ dn dne hx₅ hn₅ => ?_)
  have z5 : s.heap.objs.size ≤ dx := by
    obtain ⟨oL, es, ep, hL, r⟩ := hns₄
    have y : s.heap.objs.size < h₄.objs.size := Heap.lt_size hL
    exact Nat.le_trans (Nat.le_of_lt y) dn
  exact wpAny_execs_nil (hq h₅ tk₅ dx ⟨fun b o hb e => k₅ b o hb (k₄ b o hb (k₃ b o (hk₁ b o e))), ⟨u4, hx₅⟩, z5, dne, hn₅⟩)
theorem deep_made (T : DeepTxt prog K mg cn t1 t2 C fI) (BM : L2.Mod K mg base) (bk : ∀ b o, base.get? b = some o → s.heap.get? b = some o) {i : Int} {ti : Tok} (hi : i.natAbs.log2 < 1920) (ht1 : t1.length ≤ 1000) (ht2 : t2.length ≤ 1000) (hlim : s.heap.NoLimit) (hroom : A.depth + 1 < recursionLimit)
    (hq : ∀ h' tk e d, OwnMade s.heap h' e C d (.int i ti) → R (.ok (.ret (.ref e))) { s with heap := h', toks := tk }) :
    codeAny (model prog w) A (.call (.ref C) ⟨[.int i ti], []⟩) R s := by
  have X : K.In s.heap := BM.kin.keeps bk
  obtain ⟨nm, q, N, bs, bm, sn, sub, ab, col, dd, k0, k1, k2, k3, k5, hC, hbm⟩ := T.cls
  obtain ⟨hp, g, dr, tk, os⟩ := s
  have k : ∀ b o, hp.get? b = some o → ((hp.push (kdv_tup [.int i ti])).push (excO C hp.objs.size)).get? b = some o := fun b o e => Heap.get?_push_of_some _ (Heap.get?_push_of_some _ e)
  have hget : ((hp.push (kdv_tup [.int i ti])).push (excO C hp.objs.size)).get? (hp.objs.size + 1) = some (excO C hp.objs.size) := by heap_get
  have hnb : base.get? (hp.objs.size + 1) = none := by
    cases e : base.get? (hp.objs.size + 1) with
    | none => rfl
    | some o =>
      have z : hp.get? (hp.objs.size + 1) = some o := bk _ _ e
      exact absurd (Nat.lt_of_succ_lt (Heap.lt_size z)) (Nat.lt_irrefl _)
  refine call_own F.excBase_ValueError (fun X => refsVE_contains X bm hbm) (X _ _ hC) (looks_findIn X T.iC) (fun self => bind_fn X self T.tC) (by show 1 ≤ sizeLine; rw [sizeLine_eq]; omega) ?_
  refine deep_init (s := ⟨(hp.push (kdv_tup [.int i ti])).push (excO C hp.objs.size), g, dr, tk, os⟩) T BM (fun b o e => k b o (bk b o e)) hi ht1 ht2 (hlim.keeps k) hget hnb ?_ fun h' tk' dx ⟨k', hx, dn, dne, hns⟩ => ?_
  · show A.depth + 1 < recursionLimit
    exact hroom
  · have old : ∀ b o, hp.get? b = some o → h'.get? b = some o := fun b o e => k' b o (Nat.ne_of_lt (Nat.lt_succ_of_lt (Heap.lt_size e))) (k b o e)
    have z : hp.objs.size + 1 + 1 ≤ dx := by
      first
        | (simpa only [Heap.size_push] using dn)
        | exact dn
        | (have q := dn; rw [Heap.size_push, Heap.size_push] at q; exact q)
    obtain ⟨t1, hx⟩ := hx
    exact ⟨rfl, hq h' tk' (hp.objs.size + 1) dx ⟨old, Nat.le_succ _, ⟨_, _, hx, rfl, rfl, rfl, rfl⟩, Nat.le_trans (Nat.le_trans (Nat.le_succ _) (Nat.le_succ _)) z, dne, hns⟩⟩
end
end DeepX
namespace L2
open PySem PySem.Spec PyProof.Rows
theorem relO_deep {v : V} {v' : Value} (r : RelV v v') (f : Str) : RelO (List.lookup f [(("place" : Str), v)]) (if f = "place" then some v' else none) := by
  by_cases hw : f = "place"
  · subst hw
    rw [if_pos rfl]
    have q : List.lookup ("place" : Str) [(("place" : Str), v)] = some v := by simp [List.lookup]
    rw [q]
    exact r
  · rw [if_neg hw]
    have qw : (f == ("place" : Str)) = false := by simpa using hw
    have q2 : List.lookup f [(("place" : Str), v)] = none := by simp [List.lookup, qw]
    rw [q2]
    trivial
section
variable {X : Cx} {C fI : Addr} {cn t1 t2 : Str}
/-- C(e) -/
def tMkDeep (C : Addr) (ta : TA) : St → Hp → XK → Prop := fun σ H Q => ta σ H fun vs H1 => ∃ i : Int, vs = [.int i] ∧ i.natAbs.log2 < 1920 ∧ ∀ d, H1 d = none → Q (.ref C) (some d) (upd H1 d (.xd [(("place" : Str), .int i)]))
theorem pmk_deep {a : Expr} {ta : TA} {p pos : Pos} {k : Nat} (T : DeepX.DeepTxt X.prog X.K X.mg cn t1 t2 C fI) (hr : Room k X.A) (ha : PA X [a] ta) (ht1 : t1.length ≤ 1000) (ht2 : t2.length ≤ 1000) (hdb : (cn == ("__debug__" : Str)) = false) (hg : Gl X cn := by rfl)
    (he : starEach (a :: []) X.env = (false, eval a X.env) :: starEach [] X.env := by rfl) (hpl : (backTo pos (starEach [] X.env)).any (·.1) = false := by rfl) :
    PMk X (.Call (.Name cn p) [a] [] pos) (tMkDeep C ta) := by
  intro pins s σ H Q I h
  refine wpAny_Call_Name_kw (ld_glob I hg T.gC ?_ hdb)
  refine PySem.W.callWith_K (h₀ := X.base) I.ok.mod.kin T.kC (thn (ha.run pos pins s σ H _ I h) fun us s1 hh => ?_) he hpl
  obtain ⟨vs, H1, I1, r1, i, ev, hi, q1⟩ := hh
  subst ev
  refine ⟨I1.kIn, ?_⟩
  cases r1 with
  | cons rv rn =>
    rename_i v' us'
    cases rn
    obtain ⟨ti, rfl⟩ := rv
    show wpAny _ _ (call (.ref C) [.int i ti]) _ _ _
    have hlim := I1.nolimit
    have bk := I1.bk
    obtain ⟨hp, g, dr, tk, os⟩ := s1
    refine wpAny_call (DeepX.deep_made T I1.ok.mod bk hi ht1 ht2 hlim (by have := hr.dp; omega) fun h' tk' e d M => ?_)
    show MkP X pins σ Q (.ref e) ⟨h', g, dr, tk', os⟩
    obtain ⟨oe, fv, hoe, hc, hd, hdat, h1⟩ := M.obj
    have hns := M.ns
    obtain ⟨G', g1, g2⟩ := restrict h' fun b => decide (b ≠ e)
    have gk : ∀ b, b ≠ e → G'.get? b = h'.get? b := fun b hb => g1 b (decide_eq_true hb)
    have ge : G'.get? e = none := g2 e (by simp)
    have old : ∀ b o, hp.get? b = some o → G'.get? b = some o := fun b o q => (gk b (Nat.ne_of_lt (Nat.lt_of_lt_of_le (Heap.lt_size q) M.new))).trans (M.keep b o q)
    have ob : ObjOk X.prog X.w (upd H1 d (.xd [(("place" : Str), .int i)])) G' d (.xd [(("place" : Str), .int i)]) :=
      ⟨_, hns.at (fun o q => (gk d M.dne).trans q), fun f => relO_deep (v := .int i) (v' := .int i ti) (show RelV (.int i) (.int i ti) from ⟨ti, rfl⟩) f⟩
    have J : Inv X pins σ (upd H1 d (.xd [(("place" : Str), .int i)])) ⟨G', g, dr, tk', os⟩ := I1.laid (t' := tk') old M.dbig ob
    refine ⟨e, oe, fv, ⟨G', g, dr, tk', os⟩, _, .ref C, some d, rfl, J, fun b o q => ?_, ge, hoe, ⟨hc, hd⟩, hdat, h1, ?_, rfl, I1.bare, raises_own T.exC T.tyC, q1 d (I1.hok.fresh M.dbig)⟩
    · by_cases hb : b = e
      · have q' : G'.get? b = some o := q
        rw [hb, ge] at q'; cases q'
      · exact (gk b hb).symm.trans q
    · rw [upd_ne (Ne.symm M.dne)]
      exact I1.hok.fresh M.new
/-- raise C(e) -/
def tRaiseDeep (C : Addr) (W : WX) (ta : TA) : TS := fun _ σ H => tMkDeep C ta σ H fun cls d H' => W cls d σ H'
theorem ps_raiseDeep {a : Expr} {ta : TA} {W : WX} {p pos pos2 : Pos} {k : Nat} (hc : X.calm = true) (T : DeepX.DeepTxt X.prog X.K X.mg cn t1 t2 C fI) (hr : Room k X.A) (tk : Takes X W) (ha : PA X [a] ta) (ht1 : t1.length ≤ 1000) (ht2 : t2.length ≤ 1000) (hdb : (cn == ("__debug__" : Str)) = false) (hg : Gl X cn := by rfl)
    (he : starEach (a :: []) X.env = (false, eval a X.env) :: starEach [] X.env := by rfl) (hpl : (backTo pos (starEach [] X.env)).any (·.1) = false := by rfl) :
    PS X (.Raise (some (.Call (.Name cn p) [a] [] pos)) none pos2) (tRaiseDeep C W ta) := ps_raise hc tk (pmk_deep T hr ha ht1 ht2 hdb hg he hpl)
/-- e.place, e the exception that the suite holds (at a; its class cls, its dict d) -/
def tByDeep (C : Addr) (a : Addr) (cls : Value) (d : Option Addr) (te : TE) : TE := fun σ H Q => te σ H fun x H1 => x = .ref a ∧ cls = .ref C ∧ ∃ (dd : Addr) (v : V), d = some dd ∧ H1 dd = some (.xd [(("place" : Str), v)]) ∧ Q v H1
theorem pe_byDeep {a : Addr} {oe : Obj} {cls : Value} {d : Option Addr} {pn : List (Addr × Obj)} {e : Expr} {te : TE} {pos : Pos} (T : DeepX.DeepTxt X.prog X.K X.mg cn t1 t2 C fI) (hz : Zc cls d oe) (hf : ∃ vs, oe.data = .fields vs) (he : PE (X.suite a ((a, oe) :: pn)) e te)
    (hb : attributeBase e "place" X.env (eval e X.env) = eval e X.env := by rfl) :
    PE (X.suite a ((a, oe) :: pn)) (.Attribute e "place" pos) (tByDeep C a cls d te) := by
  refine ⟨fun pins s σ H Q I h => ?_⟩
  refine attr_of hb (thn (he.run pins s σ H _ I h) fun u s1 hh => ?_)
  obtain ⟨x, H1, I1, rx, ex, ec, dd, v, ed, ea, q⟩ := hh
  subst ex
  obtain rfl : u = Value.ref a := rx
  subst ec
  subst ed
  obtain ⟨ha, _⟩ := I1.pin (a, oe) (List.mem_append_left _ List.mem_cons_self)
  obtain ⟨vs, hd⟩ := hf
  have hx : ObjOk X.prog X.w H1 s1.heap dd (.xd [(("place" : Str), v)]) := I1.hok dd _ ea
  obtain ⟨mA, hns, hr⟩ := hx
  obtain ⟨od, ho, hl⟩ := lookIn_ns hns
  have l : List.lookup ("place" : Str) [(("place" : Str), v)] = some v := by simp [List.lookup]
  obtain ⟨u, hu, ru⟩ := RelO.some_of (v := v) (o := mA "place") (by rw [← l]; exact hr "place")
  have J : PySem.W.InstAt s1.heap a oe C (some od) := ⟨ha, hz.1, by unfold PySem.W.notCls; rw [hd] <;> rfl, by rw [hz.2]; exact ho⟩
  exact HandSPX.exc_get I1.kIn J T.ga T.gg T.exC (PySem.W.findObj_own T.hdC T.noN rfl (by rw [hl, hu])) (handed_of ru) ⟨v, H1, I1.tok _, ru, q⟩
end
end L2
namespace Lm
open PySem L2
def topS (i : Nat) : Stmt := PySem.Challenge.pw_loopmover_k04_what_is_no_program.main.body.getD i (.Pass ⟨0, 0, 0, 0⟩)
/-- built-in names that the top leaves alone -/
structure Bn (mg : Str → Option Value) : Prop where
  len : mg "len" = none
  range : mg "range" = none
  isinstance : mg "isinstance" = none
  list : mg "list" = none
  tuple : mg "tuple" = none
  str : mg "str" = none
  int : mg "int" = none
  bool : mg "bool" = none
  all : mg "all" = none
end Lm
namespace Lm
open PySem L2 GxR
abbrev s_is_name : Stmt := topS 15
/-- what the top's constants are -/
structure Cn (K : PySem.W.Frag) (mg : Str → Option Value) (aB aK : Addr) : Prop where
  barred : mg "BARRED" = some (.ref aB)
  barredT : ∀ H, SqT K H aB (barsS.map V.str)
  blocks : mg "BLOCKS" = some (.ref aK)
  blocksT : ∀ H, SqT K H aK (kinds.map V.str)
  longest : ∃ t, mg "LONGEST_NAME" = some (.int 6 t)
def spIsName (P : Addr) : Sp := fun vs H Q _ => ∃ x : V, vs = [x] ∧ ((∃ s, x = .str s ∧ s.length ≤ sizeLine) ∨ ∃ i, x = .int i) ∧ TabG H P ∧ ∀ H', Tabbed P H H' → Q (.bl (isNm x)) H'
section
variable {P : Program} {w : World} {K : PySem.W.Frag} {mg : Str → Option Value} {base : Heap} {f aB aK c T : Addr} {fd : FuncData}
theorem sc_is_name : FnScope ["thing"] ["thing"] (defScope s_is_name) := ⟨rfl, rfl, rfl, by decide +kernel, rfl, by decide +kernel, by decide +kernel⟩
theorem ok_is_name (F : Fun K "is_name" "is_name" s_is_name f fd) (B : Bn mg) (C : Cn K mg aB aK) (TB : TabB base mg c T) (hc : fd.code = .ref c) : FnOk P w K mg base CX0 2 f fd ["thing"] (spIsName T) := by
  refine ok_code F sc_is_name (fun vs H Q E h => ?_) (fun A outer s H vs Q E hr h => ?_)
  · obtain ⟨x, rfl, _⟩ := h
    rfl
  obtain ⟨x, rfl, hx, hT, k⟩ := h
  obtain ⟨t6, h6⟩ := C.longest
  refine ⟨_, pss_cons (ps_if (PW.pt (pw_or (pt_not (pt_val (pe_callB call_isi rfl B.isinstance (by decide +kernel) (pa_cons (pv 0) (pa_cons (pe_bltn (v := .ty "str") rfl B.str (by decide +kernel) rfl) pa_nil)))))
      (pw_or1 (pt_cmpR op_in_seq (pv 0) (pe_glob (v := .ref aB) rfl C.barred rfl) (by rfl))))) (pss_one (ps_ret pe_bl)) pss_nil) <|
    pss_cons (ps_if (pt_not (pt_chain op_le op_le pe_int (pe_callB call_len_str rfl B.len PySem.boot_len (pa_cons (pv 0) pa_nil)) (pe_glob (v := .int 6) rfl h6 ⟨_, rfl⟩))) (pss_one (ps_ret pe_bl)) pss_nil) <|
    pss_one (ps_ret (pe_allS hr rfl B.all (by decide +kernel) TB hc ⟨rfl, rfl, by decide +kernel, by decide +kernel, by decide +kernel, fun y hy e => by exfalso; revert y; decide +kernel⟩ (pv 0) (elt_letter rfl (by decide +kernel)) (fun _ => rfl))), ?_⟩
  rcases hx with ⟨z, rfl, hz⟩ | ⟨i, rfl⟩
  · have eN : isNm (.str z) = (Nat.ble 1 z.cps.toList.length && Nat.ble z.cps.toList.length 6 && lettersB z.cps.toList && !isBar z.cps.toList) := rfl
    rw [← len_toList] at eN
    refine ⟨_, rfl, _, _, _, _, true, rfl, .ty _, ty_str _, kit_ty (by decide +kernel), _, rfl, iteF ⟨_, rfl, aB, _, rfl, .inr (C.barredT _), rfl, by decide +kernel, _, rfl, ?_⟩⟩
    refine ite2 (fun c1 => ?_) (fun c1 => ?_)
    · have c1' : inV (.str z) (barsS.map V.str) = true := c1
      rw [bars_in] at c1'
      rw [c1', Bool.not_true, Bool.and_false] at eN
      have q := k H (Tabbed.refl hT)
      rw [eN] at q
      exact q
    have c1' : inV (.str z) (barsS.map V.str) = false := Bool.eq_false_iff.mpr c1
    rw [bars_in] at c1'
    rw [c1', Bool.not_false, Bool.and_true, ble_dec, ble_dec] at eN
    refine ⟨_, rfl, z, rfl, hz, _, _, rfl, rfl, _, rfl, ?_⟩
    refine ite2 (fun c2 => ?_) (fun c2 => ?_)
    · have c2' : (1 : Int) ≤ (z.length : Int) := of_decide_eq_true c2
      have n1 : decide (1 ≤ z.length) = true := decide_eq_true (by omega)
      rw [n1, Bool.true_and] at eN
      refine ⟨_, _, rfl, rfl, _, rfl, ?_⟩
      refine ite2 (fun c3 => ?_) (fun c3 => ?_)
      · have c3' : decide ((z.length : Int) ≤ 6) = false := by
          cases q : decide ((z.length : Int) ≤ 6) with
          | false => rfl
          | true =>
            have c4 : (!decide ((z.length : Int) ≤ 6)) = true := c3
            rw [q] at c4
            cases c4
        have n2 : decide (z.length ≤ 6) = false := decide_eq_false (by have := of_decide_eq_false c3'; omega)
        rw [n2, Bool.false_and] at eN
        have q := k H (Tabbed.refl hT)
        rw [eN] at q
        exact q
      · have c3' : (z.length : Int) ≤ 6 := by
          cases q : decide ((z.length : Int) ≤ 6) with
          | true => exact of_decide_eq_true q
          | false =>
            have c4 : ¬ (!decide ((z.length : Int) ≤ 6)) = true := c3
            rw [q] at c4
            exact absurd rfl c4
        have n2 : decide (z.length ≤ 6) = true := decide_eq_true (by omega)
        rw [n2, Bool.true_and, letters_all] at eN
        refine ⟨_, rfl, z, rfl, hT, fun H' hH => ?_⟩
        have q := k H' hH
        rw [eN] at q
        exact q
    · have n1 : decide (1 ≤ z.length) = false := decide_eq_false (fun e => c2 (decide_eq_true (by show (1 : Int) ≤ (z.length : Int); omega)))
      rw [n1, Bool.false_and, Bool.false_and] at eN
      have q := k H (Tabbed.refl hT)
      rw [eN] at q
      exact ⟨_, rfl, iteT q⟩
  · exact ⟨_, rfl, _, _, _, _, false, rfl, .ty _, ty_int _, kit_ty (by decide +kernel), _, rfl, iteT (iteT (k H (Tabbed.refl hT)))⟩
end
end Lm
/-! ### the text by places -/
namespace Lm
open PySem L2
abbrev s_cell : Stmt := topS 26
abbrev s_mixed : Stmt := topS 27
abbrev s_names : Stmt := topS 28
abbrev s_value : Stmt := topS 29
abbrev s_let : Stmt := topS 30
/-- a list of names that are good -/
def NamesAt (K : PySem.W.Frag) (H : Hp) (a : Addr) (ss : List Str) : Prop := SqL K H a (ss.map V.str) ∧ ss.length = 16
theorem NamesAt.mono {K : PySem.W.Frag} {H H' : Hp} {a : Addr} {ss : List Str} (e : Kp H H') (h : NamesAt K H a ss) : NamesAt K H' a ss := ⟨e.sqL h.1, h.2⟩
theorem NamesAt.at {K : PySem.W.Frag} {H : Hp} {a : Addr} {ss : List Str} (h : NamesAt K H a ss) {z : Int} (h0 : 0 ≤ z) (h1 : z < 16) : ∃ s, s ∈ ss ∧ atI (ss.map V.str) z = some (.str s) := by
  have hk : z.toNat < ss.length := by rw [h.2]; omega
  refine ⟨ss[z.toNat], List.getElem_mem hk, at_of (j := z.toNat) (by omega) ?_⟩
  rw [List.getElem?_map, List.getElem?_eq_getElem hk]
  all_goals rfl
def spCell (K : PySem.W.Frag) : Sp := fun vs H Q _ => ∃ (a : Addr) (ns : List Int) (k : Int), vs = [.ref a, .int k] ∧ SqL K H a (ns.map V.int) ∧ 0 ≤ k ∧ ∀ z : Int, Q (.int z) H
def spMixed : Sp := fun vs H Q _ => ∃ c k : Int, vs = [.int c, .int k] ∧ ∀ z : Int, 0 ≤ z → z < 2147483647 → Q (.int z) H
def spValue (K : PySem.W.Frag) : Sp := fun vs H Q _ => ∃ (k n : Int) (a : Addr) (ss : List Str), vs = [.int k, .int n, .ref a] ∧ 0 ≤ k ∧ k < 16 ∧ NamesAt K H a ss ∧ ∀ x : Vl, x.ok ss → Q x.v H
def spLet (K : PySem.W.Frag) : Sp := fun vs H Q _ => ∃ (n : Int) (a : Addr) (ss : List Str), vs = [.int n, .ref a] ∧ NamesAt K H a ss ∧
  ∀ (p : Addr) (to sg : Str) (x y : Vl) (H' : Hp), H p = none → (Row.lt to sg x y).ok ss → H' = upd H p (.tup [.str "let", .str to, .str sg, x.v, y.v]) → Q (.ref p) H'
section
variable {P : Program} {w : World} {K : PySem.W.Frag} {mg : Str → Option Value} {base : Heap} {f : Addr} {fd : FuncData}
theorem sc_cell : FnScope ["_law_script", "_law_k"] ["_law_script", "_law_k"] (defScope s_cell) := ⟨rfl, rfl, rfl, by decide +kernel, rfl, by decide +kernel, by decide +kernel⟩
theorem ok_cell (F : Fun K "_law_cell_at" "_law_cell_at" s_cell f fd) (ml : mg "len" = none) : FnOk P w K mg base CX0 1 f fd ["_law_script", "_law_k"] (spCell K) := by
  refine F.ok sc_cell (fun vs H Q E h => ?_) (fun cdv A outer s H vs Q E hr h => ?_)
  · obtain ⟨a, ns, k, rfl, _⟩ := h
    rfl
  obtain ⟨a, ns, k, rfl, hS, h0, q⟩ := h
  refine ⟨_, pss_cons (ps_if (pt_cmpR op_lt (pv 1) (pe_callB call_len_seq rfl ml PySem.boot_len (pa_cons (pv 0) pa_nil)) (nomark _)) (pss_one (ps_ret (pe_ix ix_list (pv 0) (pv 1) (fun _ _ => rfl)))) pss_nil)
    (pss_one (ps_ret pe_int)), ?_⟩
  refine ⟨_, rfl, _, rfl, a, _, rfl, .inl hS, _, _, rfl, rfl, _, rfl, ?_⟩
  refine ite2 (fun c => ?_) (fun c => ?_)
  · have c' : k < (((ns.map V.int).length : Nat) : Int) := of_decide_eq_true c
    rw [List.length_map] at c'
    have hk : k.toNat < ns.length := by omega
    exact ⟨_, rfl, _, rfl, a, _, _, _, rfl, rfl, hS, at_of (j := k.toNat) (v := .int ns[k.toNat]) (by omega) (by rw [List.getElem?_map, List.getElem?_eq_getElem hk]; all_goals rfl), q _⟩
  · exact q 0
theorem sc_mixed : FnScope ["_law_cell", "_law_k", "_law_number"] ["_law_cell", "_law_k"] (defScope s_mixed) := ⟨rfl, rfl, rfl, by decide +kernel, rfl, by decide +kernel, by decide +kernel⟩
theorem ok_mixed (F : Fun K "_law_mixed" "_law_mixed" s_mixed f fd) : FnOk P w K mg base CX0 1 f fd ["_law_cell", "_law_k"] spMixed := by
  refine F.ok sc_mixed (fun vs H Q E h => ?_) (fun cdv A outer s H vs Q E hr h => ?_)
  · obtain ⟨c, k, rfl, _⟩ := h
    rfl
  obtain ⟨c, k, rfl, q⟩ := h
  refine ⟨_, pss_cons (ps_set (i := 2) sc_mixed.nd rfl (Or.inl rfl) (pe_op op_mod (pe_op op_mul (pe_op op_add (pe_op op_add (pv 0) (pe_op op_mul pe_int (pv 1))) pe_int) pe_int) pe_int))
    (pss_one (ps_ret (pe_op op_mod (pe_op op_mul (pv 2) (pv 2)) pe_int))), ?_⟩
  have h1 : 0 ≤ ((c + 7 * k + 3) * 48271) % 2147483647 := Int.emod_nonneg _ (by decide)
  have h2 : ((c + 7 * k + 3) * 48271) % 2147483647 < 2147483647 := Int.emod_lt_of_pos _ (by decide)
  refine ⟨_, rfl, _, rfl, _, _, rfl, rfl, .inl ⟨by decide, by decide⟩, _, _, rfl, rfl, _, _, rfl, rfl, _, _, rfl, rfl, .inr ⟨by decide, by decide⟩, _, _, rfl, rfl, (by show (0 : Int) < 2147483647; decide), _, rfl, _, rfl, _, _, rfl, rfl, .inl ⟨by omega, by omega⟩, _, _, rfl, rfl, (by show (0 : Int) < 2147483647; decide), ?_⟩
  exact q _ (Int.emod_nonneg _ (by decide)) (Int.emod_lt_of_pos _ (by decide))
theorem sc_value : FnScope ["_law_kind_here", "_law_number", "_law_names_here"] ["_law_kind_here", "_law_number", "_law_names_here"] (defScope s_value) := ⟨rfl, rfl, rfl, by decide +kernel, rfl, by decide +kernel, by decide +kernel⟩
theorem ok_value (F : Fun K "_law_value" "_law_value" s_value f fd) : FnOk P w K mg base CX0 1 f fd ["_law_kind_here", "_law_number", "_law_names_here"] (spValue K) := by
  refine F.ok sc_value (fun vs H Q E h => ?_) (fun cdv A outer s H vs Q E hr h => ?_)
  · obtain ⟨k, n, a, ss, rfl, _⟩ := h
    rfl
  obtain ⟨k, n, a, ss, rfl, h0, h1, hN, q⟩ := h
  refine ⟨_, pss_cons (ps_if (pt_cmpR op_lt (pv 0) pe_int (nomark _)) (pss_one (ps_ret (pe_ix ix_list (pv 2) (pv 0) (fun _ _ => rfl)))) pss_nil)
    (pss_cons (ps_if (pt_cmpR op_lt (pv 0) pe_int (nomark _)) (pss_one (ps_ret (pe_op op_sub (pv 0) pe_int))) pss_nil)
    (pss_one (ps_ret (pe_op op_mod (pv 1) pe_int)))), ?_⟩
  refine ⟨_, rfl, _, _, rfl, rfl, _, rfl, ?_⟩
  refine ite2 (fun c => ?_) (fun c => ?_)
  · obtain ⟨s, hs, es⟩ := hN.at h0 h1
    exact ⟨_, rfl, _, rfl, a, _, _, _, rfl, rfl, hN.1, es, q (.nm s) hs⟩
  have c' : ¬ k < 11 := of_decide_eq_false (Bool.eq_false_iff.mpr c)
  refine ⟨_, rfl, _, _, rfl, rfl, _, rfl, ?_⟩
  refine ite2 (fun d => ?_) (fun d => ?_)
  · have d' : k < 14 := of_decide_eq_true d
    exact ⟨_, rfl, _, _, rfl, rfl, q (.nu (k - 11)) ⟨by omega, by omega⟩⟩
  · exact ⟨_, rfl, _, _, rfl, rfl, (by show (0 : Int) < 1000000; decide), q (.nu (n % 1000000)) ⟨Int.emod_nonneg _ (by decide), Int.emod_lt_of_pos _ (by decide)⟩⟩
theorem sc_let : FnScope ["_law_number", "_law_names_here", "_law_one", "_law_other"] ["_law_number", "_law_names_here"] (defScope s_let) := ⟨rfl, rfl, rfl, by decide +kernel, rfl, by decide +kernel, by decide +kernel⟩
theorem sign_at (z : Int) (h0 : 0 ≤ z) (h1 : z < 5) : ∃ c : Nat, atI (Str.cps "+-*</").toList z = some c ∧ (⟨#[c]⟩ : Str) ∈ signs := by
  obtain ⟨n, rfl⟩ : ∃ n : Nat, z = (n : Int) := ⟨z.toNat, by omega⟩
  match n, h1 with
  | 0, _ => exact ⟨43, by decide +kernel, by decide +kernel⟩
  | 1, _ => exact ⟨45, by decide +kernel, by decide +kernel⟩
  | 2, _ => exact ⟨42, by decide +kernel, by decide +kernel⟩
  | 3, _ => exact ⟨60, by decide +kernel, by decide +kernel⟩
  | 4, _ => exact ⟨47, by decide +kernel, by decide +kernel⟩
  | n + 5, h => exact absurd h (by omega)
theorem ok_let {fv : Addr} {dv : FuncData} (F : Fun K "_law_let" "_law_let" s_let f fd) (V : Df P w K mg base "_law_value" 1 fv dv ["_law_kind_here", "_law_number", "_law_names_here"] (spValue K)) :
    FnOk P w K mg base CX0 2 f fd ["_law_number", "_law_names_here"] (spLet K) := by
  refine F.ok sc_let (fun vs H Q E h => ?_) (fun cdv A outer s H vs Q E hr h => ?_)
  · obtain ⟨n, a, ss, rfl, _⟩ := h
    rfl
  obtain ⟨n, a, ss, rfl, hN, q⟩ := h
  refine ⟨_, pss_cons (ps_set (i := 2) sc_let.nd rfl (Or.inl rfl) (pe_df V hr (pa_cons (pe_op op_mod (pe_op op_fdiv (pv 0) pe_int) pe_int) (pa_cons (pe_op op_fdiv (pv 0) pe_int) (pa_cons (pv 1) pa_nil)))))
    (pss_cons (ps_set (i := 3) sc_let.nd rfl (Or.inl rfl) (pe_df V hr (pa_cons (pe_op op_mod (pe_op op_fdiv (pv 0) pe_int) pe_int) (pa_cons (pe_op op_fdiv (pv 0) pe_int) (pa_cons (pv 1) pa_nil)))))
    (pss_one (ps_ret (pe_tup (pa_cons pe_str (pa_cons (pe_ix ix_list (pv 1) (pe_op op_mod (pv 0) pe_int) (fun _ _ => rfl)) (pa_cons (pe_ix ix_str pe_str (pe_op op_mod (pe_op op_fdiv (pv 0) pe_int) pe_int) (fun _ _ => rfl)) (pa_cons (pv 2) (pa_cons (pv 3) pa_nil))))))))), ?_⟩
  refine ⟨_, rfl, _, _, rfl, rfl, ⟨by decide, by decide⟩, _, _, rfl, rfl, (by show (0 : Int) < 16; decide), _, rfl, _, _, rfl, rfl, ⟨by decide, by decide⟩, _, rfl, _, _, a, ss, rfl, Int.emod_nonneg _ (by decide), Int.emod_lt_of_pos _ (by decide), hN, fun x hx => ?_⟩
  refine ⟨_, rfl, _, _, rfl, rfl, ⟨by decide, by decide⟩, _, _, rfl, rfl, (by show (0 : Int) < 16; decide), _, rfl, _, _, rfl, rfl, ⟨by decide, by decide⟩, _, rfl, _, _, a, ss, rfl, Int.emod_nonneg _ (by decide), Int.emod_lt_of_pos _ (by decide), hN, fun y hy => ?_⟩
  obtain ⟨to, hto, eto⟩ := hN.at (z := n % 8) (Int.emod_nonneg _ (by decide)) (by have := Int.emod_lt_of_pos n (b := 8) (by decide); omega)
  obtain ⟨c, hc, hsg⟩ := sign_at (n / 8 % 5) (Int.emod_nonneg _ (by decide)) (Int.emod_lt_of_pos _ (by decide))
  refine ⟨_, rfl, _, rfl, _, _, rfl, rfl, (by show (0 : Int) < 8; decide), a, _, _, _, rfl, rfl, hN.1, eto, _, rfl, _, _, rfl, rfl, ⟨by decide, by decide⟩, _, _, rfl, rfl, (by show (0 : Int) < 5; decide), _, _, c, rfl, rfl, (by decide +kernel), hc, _, rfl, _, rfl, (by show 5 ≤ sizeLine; decide), fun p hp => ?_⟩
  exact q p to ⟨#[c]⟩ x y _ hp ⟨hto, hsg, hx, hy⟩ rfl
end
end Lm
namespace Lm
open PySem L2
def spNames : Sp := fun vs H Q _ => ∃ c : Int, vs = [.int c] ∧ ∀ (l : Addr) (ss : List Str) (H' : Hp), Same H H' → H l = none → H' l = some (.lst (ss.map V.str)) → ss.length = 16 → (∀ s ∈ ss, Good s) → Q (.ref l) H'
section
variable {P : Program} {w : World} {K : PySem.W.Frag} {mg : Str → Option Value} {base : Heap} {f : Addr} {fd : FuncData}
abbrev nNames : List Str := ["_law_cell", "_law_letters", "_law_some", "_law_size", "_law_j", "_law_tail", "_law_k", "_law_word", "_law_place", "_law_words"]
theorem sc_names : FnScope nNames ["_law_cell"] (defScope s_names) := ⟨rfl, rfl, rfl, by decide +kernel, rfl, by decide +kernel, by decide +kernel⟩
theorem ok_names (F : Fun K "_law_names" "_law_names" s_names f fd) (mr : mg "range" = none) : FnOk P w K mg base CX0 1 f fd ["_law_cell"] spNames := by
  refine F.ok sc_names (fun vs H Q E h => ?_) (fun cdv A outer s H vs Q E hr h => ?_)
  · obtain ⟨c, rfl, _⟩ := h
    rfl
  obtain ⟨c, rfl, q⟩ := h
  have nd := sc_names.nd
  refine ⟨_, pss_cons (ps_set (i := 1) nd rfl (Or.inr rfl) pe_str) <|
    pss_cons (ps_set (i := 2) nd rfl (Or.inl rfl) (pe_lst pa_nil)) <|
    pss_cons (ps_set (i := 3) nd rfl (Or.inl rfl) (pe_op op_add pe_int (pe_op op_mod (pe_op op_fdiv (pv 0) pe_int) pe_int))) <|
    pss_cons (ps_set (i := 5) nd rfl (Or.inl rfl) (pe_join pe_str (pe_lc (own := [("_law_j", 4)]) (g := gName 4) rfl nd (pi_range1 rfl mr (pa_cons pe_int pa_nil)) (blkOk_by (N := nNames) (sc := defScope s_names) (by decide +kernel))
      (fun _ _ _ _ _ => pg_name (i := 4) nd rfl (Or.inl rfl)) (fun _ _ _ _ _ => pts_nil)
      (fun _ _ _ _ _ => pe_ix ix_str (pv 1) (pe_op op_mod (pe_op op_add (pe_op op_add (pe_op op_fdiv (pv 0) pe_int) (pe_op op_mul pe_int (pv 4))) pe_int) pe_int) (fun _ _ => rfl))))) <|
    pss_cons (ps_for PassesOwn.never rfl (pi_range1 rfl mr (pa_cons pe_int pa_nil)) (pg_name (i := 6) nd rfl (Or.inl rfl))
      (pss_cons (ps_set (i := 7) nd rfl (Or.inl rfl) (pe_ix ix_str (pv 1) (pe_op op_mod (pe_op op_add (pe_op op_fdiv (pv 0) pe_int) (pe_op op_mul pe_int (pv 6))) pe_int) (fun _ _ => rfl))) <|
      pss_cons (ps_if (pt_cmpR op_eq (pe_op op_mod (pv 0) pe_int) pe_int (nomark _))
        (pss_cons (ps_set (i := 8) nd rfl (Or.inl rfl) (pe_op op_mod (pe_op op_fdiv (pv 0) pe_int) (pv 3))) <|
          pss_one (ps_set (i := 7) nd rfl (Or.inl rfl) (pe_op op_add_str (pe_op op_add_str (pe_slice sl_str (pv 5) po_none (po_some (pv 8))) (pv 7)) (pe_slice sl_str (pv 5) (po_some (pe_op op_add (pv 8) pe_int)) (po_some (pv 3))))))
        (pss_one (ps_if (pt_cmpR op_eq (pe_op op_mod (pv 0) pe_int) pe_int (nomark _))
          (pss_cons (ps_set (i := 7) nd rfl (Or.inl rfl) (pe_ix ix_str (pv 1) (pe_op op_mod (pe_op op_add (pe_op op_fdiv (pv 0) pe_int) (pe_op op_mul pe_int (pe_op op_fdiv (pv 6) pe_int))) pe_int) (fun _ _ => rfl))) <|
            pss_one (ps_set (i := 7) nd rfl (Or.inl rfl) (pe_op op_add_str (pv 7) (pe_slice sl_str (pv 5) po_none (po_some (pe_op op_add (pe_op op_mod (pv 6) pe_int) (pe_op op_mod (pe_op op_fdiv (pv 0) pe_int) pe_int)))))))
          (pss_one (ps_for PassesOwn.never rfl (pi_range1 rfl mr (pa_cons (pe_op op_mod (pe_op op_add (pe_op op_fdiv (pv 0) pe_int) (pv 6)) pe_int) pa_nil)) (pg_name (i := 4) nd rfl (Or.inl rfl))
            (pss_one (ps_set (i := 7) nd rfl (Or.inl rfl) (pe_op op_add_str (pv 7) (pe_ix ix_str (pv 1) (pe_op op_mod (pe_op op_add (pe_op op_add (pe_op op_fdiv (pv 0) pe_int) (pe_op op_mul pe_int (pv 4))) (pv 6)) pe_int) (fun _ _ => rfl)))))))))) <|
      pss_one (ps_expr (pe_bm PySem.F.plainAttrs_list PySem.F.slot_list_append PySem.F.type_list_append mt_append (pv 2) (pa_cons (pv 7) pa_nil))))) <|
    pss_cons (ps_if (pt_cmpR op_eq (pe_op op_mod (pv 0) pe_int) pe_int (nomark _))
      (pss_cons (ps_set (i := 9) nd rfl (Or.inl rfl) (pe_lst (pa_cons pe_str (pa_cons pe_str (pa_cons pe_str (pa_cons pe_str (pa_cons pe_str (pa_cons pe_str (pa_cons pe_str (pa_cons pe_str (pa_cons pe_str (pa_cons pe_str pa_nil)))))))))))) <|
        pss_one (ps_asg (pe_ix ix_list (pv 9) (pe_op op_mod (pe_op op_fdiv (pv 0) pe_int) pe_int) (fun _ _ => rfl)) (pg_sub (pv 2) (pe_op op_mod (pe_op op_fdiv (pv 0) pe_int) pe_int) set_list)))
      pss_nil) <|
    pss_one (ps_ret (pv 2)), ?_⟩
  have hc26 : (c / 72 % 26).toNat < 26 := by omega
  have code1 : ∀ i : Nat, atI abc.cps.toList ((c / 72 + 5 * (0 + (i : Int)) + 1) % 26) = some (ltr ((c / 72 % 26).toNat + (5 * i + 1))) := fun i => (abc_mod _).trans (congrArg some (by unfold ltr; omega))
  have code2 : ∀ i : Nat, atI abc.cps.toList ((c / 72 + 5 * (0 + (i : Int))) % 26) = some (ltr ((c / 72 % 26).toNat + 5 * i)) := fun i => (abc_mod _).trans (congrArg some (by unfold ltr; omega))
  have code3 : ∀ i : Nat, atI abc.cps.toList ((c / 72 + 7 * ((0 + (i : Int)) / 4)) % 26) = some (ltr ((c / 72 % 26).toNat + 7 * (i / 4))) := fun i => (abc_mod _).trans (congrArg some (by unfold ltr; omega))
  have code4 : ∀ i j : Nat, atI abc.cps.toList ((c / 7 + 3 * (0 + (j : Int)) + (0 + (i : Int))) % 26) = some (ltr (((c / 7 + (i : Int)) % 26).toNat + 3 * j)) := fun i j => (abc_mod _).trans (congrArg some (by unfold ltr; omega))
  have abcLen : abc.length ≤ sizeLine := by decide +kernel
  refine ⟨(by show 0 ≤ sizeLine; decide), fun L hL => ?_⟩
  have sL : Same H (upd H L (.lst [])) := same_new hL _
  refine ⟨_, rfl, _, _, rfl, rfl, ⟨by decide, by decide⟩, _, _, rfl, rfl, (by show (0 : Int) < 6; decide), _, _, rfl, rfl, ?_⟩
  refine ⟨⟨_, rfl⟩, 6, rfl, by decide, by decide, fun D hD => lc_range (lo := 0) (n := 6) (fun i H' => H' D = some (.lst ((tl (c / 72 % 26).toNat i).map V.str)) ∧ Same (upd H L (.lst [])) H') ⟨upd_same, same_new hD _⟩ ?_ ?_⟩
  · intro i H1 hi ⟨e1, s1⟩
    refine ⟨rfl, yes (iteT ?_)⟩
    refine ⟨_, rfl, _, rfl, _, _, rfl, rfl, ⟨by decide, by decide⟩, _, rfl, _, _, rfl, rfl, .inl ⟨by decide, by decide⟩, _, _, rfl, rfl, _, _, rfl, rfl, _, _, rfl, rfl, (by show (0 : Int) < 26; decide), _, _, _, rfl, rfl, abcLen, code1 i, _, e1, ?_, ?_, ?_⟩
    · rw [List.length_map, tl_len _ (by omega)]
      exact small1000 (by omega)
    · rw [upd_same, tl_more _ i hi, List.map_append]
      rfl
    · exact fun b o hb => by rw [upd_ne (ne_of_none hb hD)]; exact s1 b o hb
  intro H1 ⟨e1, s1⟩
  refine ⟨_, D, tl (c / 72 % 26).toNat 6, rfl, rfl, .inl (SqL.of e1), tl_sum _, ?_⟩
  rw [tl_join]
  have s2 : Same H H1 := sL.trans s1
  have e2 : H1 L = some (.lst []) := s1 _ _ upd_same
  have sz1 : 0 ≤ 1 + c / 3 % 6 := by omega
  have sz2 : 1 + c / 3 % 6 < 7 := by omega
  obtain ⟨size, esz⟩ : ∃ n : Nat, 1 + c / 3 % 6 = (n : Int) := ⟨(1 + c / 3 % 6).toNat, by omega⟩
  refine ⟨16, rfl, by decide, by decide, for_range (lo := 0) (n := 16) (fun i σ H' => ∃ (ss : List Str) (vj vk vw vp : Option V), σ = [some (.int c), some (.str abc), some (.ref L), some (.int (1 + c / 3 % 6)), vj, some (.str (tailS (c / 72 % 26).toNat)), vk, vw, vp, none] ∧
    Same H H' ∧ H' L = some (.lst (ss.map V.str)) ∧ ss.length = i ∧ ∀ s ∈ ss, Good s) ⟨[], none, none, none, none, rfl, s2, e2, rfl, fun s hs => by cases hs⟩ ?_ ?_⟩
  · rintro i σ H2 hi ⟨ss, vj, vk, vw, vp, rfl, s3, e3, hlen, hgood⟩
    have fin : ∀ (s : Str) (vj vk vp : Option V), Good s → ∃ (ss' : List Str) (vj' vk' vw' vp' : Option V), [some (V.int c), some (.str abc), some (.ref L), some (.int (1 + c / 3 % 6)), vj, some (.str (tailS (c / 72 % 26).toNat)), vk, some (.str s), vp, none] = [some (V.int c), some (.str abc), some (.ref L), some (.int (1 + c / 3 % 6)), vj', some (.str (tailS (c / 72 % 26).toNat)), vk', vw', vp', none] ∧
        Same H (upd H2 L (.lst (ss.map V.str ++ [.str s]))) ∧ (upd H2 L (.lst (ss.map V.str ++ [.str s]))) L = some (.lst (ss'.map V.str)) ∧ ss'.length = i + 1 ∧ ∀ s ∈ ss', Good s := fun s vj vk vp hs => by
      refine ⟨ss ++ [s], _, _, _, _, rfl, fun b o hb => by rw [upd_ne (ne_of_none hb hL)]; exact s3 b o hb, ?_, by rw [List.length_append, hlen]; rfl, fun z hz => ?_⟩
      · rw [upd_same, List.map_append]
        all_goals rfl
      · rcases List.mem_append.mp hz with h1 | h1
        · exact hgood z h1
        · rw [List.mem_singleton.mp h1]
          exact hs
    have room : (ss.map V.str).length < sizeLine := by
      rw [List.length_map, hlen]
      exact small1000 (by omega)
    refine ⟨_, rfl, _, rfl, _, _, rfl, rfl, ⟨by decide, by decide⟩, _, rfl, _, _, rfl, rfl, .inl ⟨by decide, by decide⟩, _, _, rfl, rfl, _, _, rfl, rfl, (by show (0 : Int) < 26; decide), _, _, _, rfl, rfl, abcLen, code2 i, ?_⟩
    refine ⟨_, rfl, _, _, rfl, rfl, (by show (0 : Int) < 3; decide), rfl, _, rfl, ?_⟩
    refine ite2 (fun c1 => ?_) (fun c1 => ?_)
    · -- one letter in the place of another
      obtain ⟨place, epl⟩ : ∃ n : Nat, c / 18 % (1 + c / 3 % 6) = (n : Int) := ⟨(c / 18 % (1 + c / 3 % 6)).toNat, by have := Int.emod_nonneg (c / 18) (b := 1 + c / 3 % 6) (by omega); omega⟩
      have hpl : place < size := by have := Int.emod_lt_of_pos (c / 18) (b := 1 + c / 3 % 6) (by omega); omega
      refine ⟨_, rfl, _, _, rfl, rfl, ⟨by decide, by decide⟩, _, rfl, _, _, rfl, rfl, (by show (0 : Int) < 1 + c / 3 % 6; omega), ?_⟩
      have g := word1 hc26 hi (by omega : size < 7) hpl
      rw [← epl, ← esz] at g
      refine ⟨_, rfl, _, rfl, _, rfl, _, rfl, (by rw [tailS_len]; decide), _, rfl, _, _, rfl, rfl, ?_, ?_⟩
      · have := cut_len (tailS (c / 72 % 26).toNat) none (some (c / 18 % (1 + c / 3 % 6)))
        rw [tailS_len] at this
        exact Nat.le_of_lt (small1000 (Nat.le_trans (Nat.add_le_add this (Nat.le_refl _)) (by show 6 + 1 ≤ 1000; decide)))
      refine ⟨_, rfl, _, rfl, _, _, rfl, rfl, _, rfl, _, rfl, _, rfl, _, rfl, (by rw [tailS_len]; decide), _, _, rfl, rfl, ?_, ?_⟩
      · have h9 := (good_len g).2
        rw [app_len] at h9
        exact Nat.le_of_lt (small1000 (Nat.le_trans h9 (by decide)))
      refine ⟨_, rfl, .inl ⟨rfl, _, SqL.of e3⟩, _, rfl, L, _, _, rfl, rfl, e3, room, ?_⟩
      exact fin _ _ _ _ g
    refine ⟨_, rfl, _, _, rfl, rfl, (by show (0 : Int) < 3; decide), rfl, _, rfl, ?_⟩
    refine ite2 (fun c2 => ?_) (fun c2 => ?_)
    · -- a letter and the first of the six
      have g := word2 hc26 hi (by omega : (c / 18 % 3).toNat < 3)
      have ek : ((i % 4 + (c / 18 % 3).toNat : Nat) : Int) = (0 + (i : Int)) % 4 + c / 18 % 3 := by omega
      rw [ek] at g
      refine ⟨_, rfl, _, rfl, _, _, rfl, rfl, ⟨by decide, by decide⟩, _, rfl, _, _, rfl, rfl, ⟨by decide, by decide⟩, _, _, rfl, rfl, .inl ⟨by decide, by decide⟩, _, _, rfl, rfl, _, _, rfl, rfl, (by show (0 : Int) < 26; decide), _, _, _, rfl, rfl, abcLen, code3 i, ?_⟩
      refine ⟨_, rfl, _, rfl, _, rfl, _, _, rfl, rfl, (by show (0 : Int) < 4; decide), _, rfl, _, _, rfl, rfl, ⟨by decide, by decide⟩, _, _, rfl, rfl, (by show (0 : Int) < 3; decide), _, _, rfl, rfl, _, rfl, _, rfl, (by rw [tailS_len]; decide), _, _, rfl, rfl, ?_, ?_⟩
      · have h9 := (good_len g).2
        rw [app_len] at h9
        exact Nat.le_of_lt (small1000 (Nat.le_trans h9 (by decide)))
      refine ⟨_, rfl, .inl ⟨rfl, _, SqL.of e3⟩, _, rfl, L, _, _, rfl, rfl, e3, room, ?_⟩
      exact fin _ _ _ _ g
    · -- letters three apart
      have hm0 : 0 ≤ (c / 26 + (0 + (i : Int))) % 6 := Int.emod_nonneg _ (by decide)
      have hm1 : (c / 26 + (0 + (i : Int))) % 6 < 6 := Int.emod_lt_of_pos _ (by decide)
      refine ⟨_, rfl, _, _, rfl, rfl, ⟨by decide, by decide⟩, _, rfl, _, _, rfl, rfl, _, _, rfl, rfl, (by show (0 : Int) < 6; decide), _, rfl, by omega, by omega, ?_⟩
      refine for_range (lo := 0) (fun j σ H' => ∃ (vj : Option V) (s : Str), σ = [some (.int c), some (.str abc), some (.ref L), some (.int (1 + c / 3 % 6)), vj, some (.str (tailS (c / 72 % 26).toNat)), some (.int (0 + (i : Int))), some (.str s), vp, none] ∧ H' = H2 ∧
        s.cps.toList = w0 (((c / 72 % 26).toNat + 5 * i) % 26) (((c / 7 + (i : Int)) % 26).toNat) j) ⟨_, _, rfl, rfl, ?_⟩ ?_ ?_
      · show [ltr _] = [ltr _]
        unfold ltr
        rw [Nat.mod_mod]
      · rintro j σ H3 hj ⟨vj, s, rfl, rfl, es⟩
        have hj5 : j < 5 := by omega
        refine ⟨_, rfl, _, rfl, _, rfl, _, _, rfl, rfl, ⟨by decide, by decide⟩, _, rfl, _, _, rfl, rfl, .inl ⟨by decide, by decide⟩, _, _, rfl, rfl, _, rfl, _, _, rfl, rfl, _, _, rfl, rfl, (by show (0 : Int) < 26; decide), _, _, _, rfl, rfl, abcLen, code4 i j, _, _, rfl, rfl, ?_, ?_⟩
        · rw [len_toList, es, w0_len _ _ (by omega)]
          exact Nat.le_of_lt (small1000 (by show j + 1 + 1 ≤ 1000; omega))
        · refine ⟨_, _, rfl, rfl, ?_⟩
          rw [app_toList, es, w0_more _ _ j hj5]
      · rintro σ H3 ⟨vj, s, rfl, rfl, es⟩
        have g : Good s := by
          unfold Good
          rw [es]
          exact w0_ok (by omega) (by omega) (by omega)
        refine ⟨_, rfl, .inl ⟨rfl, _, SqL.of e3⟩, _, rfl, L, _, _, rfl, rfl, e3, room, ?_⟩
        exact fin _ _ _ _ g
  · rintro σ H2 ⟨ss, vj, vk, vw, vp, rfl, s3, e3, hlen, hgood⟩
    refine ⟨_, rfl, _, _, rfl, rfl, (by show (0 : Int) < 5; decide), rfl, _, rfl, ?_⟩
    refine ite2 (fun c1 => ?_) (fun c1 => ?_)
    · refine ⟨(by show 10 ≤ sizeLine; decide), fun p hp => ?_⟩
      have e4 : (upd H2 p (.lst (tens.map V.str))) L = some (.lst (ss.map V.str)) := by
        rw [upd_ne (ne_of_none e3 hp)]
        exact e3
      obtain ⟨j, ej⟩ : ∃ j : Nat, c / 40 % 10 = (j : Int) := ⟨(c / 40 % 10).toNat, by omega⟩
      have hj : j < tens.length := by show j < 10; omega
      obtain ⟨j8, ej8⟩ : ∃ j : Nat, c / 5 % 8 = (j : Int) := ⟨(c / 5 % 8).toNat, by omega⟩
      have hj8 : ixN (ss.map V.str).length (c / 5 % 8) = some j8 := by
        unfold ixN
        rw [List.length_map, hlen, ej8, if_pos (by omega), if_pos (by omega)]
        simp
      refine ⟨_, rfl, _, rfl, _, _, rfl, rfl, ⟨by decide, by decide⟩, _, _, rfl, rfl, (by show (0 : Int) < 10; decide), p, tens.map V.str, _, _, rfl, rfl, SqL.of upd_same, at_of (j := j) (v := .str tens[j]) ej (by rw [List.getElem?_map, List.getElem?_eq_getElem hj]; all_goals rfl), ?_⟩
      refine ⟨_, rfl, _, rfl, _, _, rfl, rfl, ⟨by decide, by decide⟩, _, _, rfl, rfl, (by show (0 : Int) < 8; decide), L, _, _, j8, rfl, rfl, e4, hj8, ?_⟩
      refine ⟨_, rfl, q L (ss.set j8 tens[j]) _ (fun b o hb => ?_) hL ?_ (by rw [List.length_set]; exact hlen) fun s hs => ?_⟩
      · rw [upd_ne (ne_of_none hb hL), upd_ne (ne_of_none (s3 b o hb) hp)]
        exact s3 b o hb
      · rw [upd_same, List.map_set]
      · rcases List.mem_or_eq_of_mem_set hs with h1 | h1
        · exact hgood s h1
        · rw [h1]
          exact tens_good _ (List.getElem_mem hj)
    · exact ⟨_, rfl, q L ss H2 s3 hL e3 hlen hgood⟩
end
end Lm
namespace Lm
open PySem L2 GxR
/-- a def that may raise, as its callers need it -/
structure Dx (P : Program) (w : World) (K : PySem.W.Frag) (mg : Str → Option Value) (base : Heap) (x : Str) (k : Nat) (f : Addr) (fd : FuncData) (ps : List Str) (sp : Sp) : Prop where
  ok : FnOk P w K mg base (L2.CX P w) k f fd ps sp
  m : mg x = some (.ref f)
  kp : PySem.W.keepIn K (.ref f) = true
  b : Binds K fd ps []
theorem pe_dx {X : Cx} {W : WX} {x : Str} {k : Nat} {f : Addr} {fd : FuncData} {ps : List Str} {sp : Sp} {e : Expr} {es : List Expr} {p pos : Pos} {t : TA} (D : Dx X.prog X.w X.K X.mg X.base x k f fd ps sp) (hr : Room k X.A) (tk : Takes X W) (ha : PA X (e :: es) t) (hg : Gl X x := by rfl)
    (hdb : (x == ("__debug__" : Str)) = false := by decide) (he : starEach (e :: es) X.env = (false, eval e X.env) :: starEach es X.env := by rfl) (hpl : (backTo pos (starEach es X.env)).any (·.1) = false := by rfl) :
    PE X (.Call (.Name x p) (e :: es) [] pos) (tCallS sp (WE W) t) := pe_callS D.ok hr hg D.m D.kp D.b (fun σ => passAt tk σ) ha hdb he hpl
/-- an own error class without an __init__ -/
structure OwnE (K : PySem.W.Frag) (mg : Str → Option Value) (cn : Str) (C : Addr) : Prop where
  g : mg cn = some (.ref C)
  x : PySem.W.excIn K C [.type "ValueError", .type "Exception", .type "BaseException", .type "object"] "ValueError.__new__" = true
  k : PySem.W.keepIn K (.ref C) = true
  b : PySem.W.subIn K (.ref C) (.type "BaseException") = some true
  t : PySem.W.typeIn K (.ref C) = some (.type "type")
/-- where the error classes stand -/
structure Ad where
  row : Addr
  name : Addr
  num : Addr
  deep : Addr
/-- an error of that kind, behind which the heap is H -/
def ErrAt (C : Ad) (H : Hp) : Cls → Value → Option Addr → Prop
  | .row, cls, d => cls = .ref C.row ∧ d = none
  | .name, cls, d => cls = .ref C.name ∧ d = none
  | .num, cls, d => cls = .ref C.num ∧ d = none
  | .deep n, cls, d => cls = .ref C.deep ∧ ∃ dd, d = some dd ∧ H dd = some (.xd [(("place" : Str), .int (n : Int))])
/-- the heap went on: what stood stands, but the table at T -/
structure On (T : Addr) (H H' : Hp) : Prop where
  k : Kp H H'
  t : TabG H' T
theorem On.refl {T : Addr} {H : Hp} (h : TabG H T) : On T H H := ⟨Kp.refl H, h⟩
theorem On.trans {T : Addr} {H H1 H2 : Hp} (a : On T H H1) (b : On T H1 H2) : On T H H2 := ⟨a.k.trans b.k, b.t⟩
/-- what a check promises: nothing, or an error -/
def outc (T : Addr) (C : Ad) (H : Hp) (Q : VK) (E : XK) : Option Cls → Prop
  | none => ∀ H', On T H H' → Q .non H'
  | some c => ∀ H' cls d, On T H H' → ErrAt C H' c cls d → E cls d H'
/-- .. : a number, or an error -/
def outn (T : Addr) (C : Ad) (H : Hp) (Q : VK) (E : XK) : Except Cls Nat → Prop
  | .ok n => ∀ H', On T H H' → Q (.int (n : Int)) H'
  | .error c => ∀ H' cls d, On T H H' → ErrAt C H' c cls d → E cls d H'
def spIsN (K : PySem.W.Frag) (T : Addr) : Sp := fun vs H Q _ => ∃ (x : V) (t : Th), vs = [x] ∧ ThAt K H t x ∧ TabG H T ∧ ∀ H', On T H H' → Q (.bl t.isN) H'
def spIsNum (K : PySem.W.Frag) : Sp := fun vs H Q _ => ∃ (x : V) (t : Th), vs = [x] ∧ ThAt K H t x ∧ Q (.bl t.isNum) H
def spCk (K : PySem.W.Frag) (T : Addr) (C : Ad) (ck : Th → Option Cls) : Sp := fun vs H Q E => ∃ (x : V) (t : Th), vs = [x] ∧ ThAt K H t x ∧ TabG H T ∧ outc T C H Q E (ck t)
abbrev s_is_number : Stmt := topS 16
abbrev s_check_form : Stmt := topS 17
abbrev s_check_name : Stmt := topS 18
abbrev s_check_sign : Stmt := topS 19
abbrev s_check_worth : Stmt := topS 20
abbrev s_check_let : Stmt := topS 21
theorem isN_str {s : Str} : (Th.v (.str s)).isN = isNm (.str s) := rfl
theorem isS_is {t : Th} (h : t.isS = true) : ∃ z, t = .v (.str z) := by
  match t, h with
  | .v (.str z), _ => exact ⟨z, rfl⟩
theorem isB_is {t : Th} (h : t.isB = true) : ∃ z, t = .v (.bl z) := by
  match t, h with
  | .v (.bl z), _ => exact ⟨z, rfl⟩
theorem isI_is {t : Th} (h : t.isI = true) (h2 : t.isB = false) : ∃ z, t = .v (.int z) := by
  match t, h, h2 with
  | .v (.int z), _, _ => exact ⟨z, rfl⟩
theorem isI_not {t : Th} (h : t.isI = false) : t.isNum = false := by
  match t, h with
  | .v (.str i), _ => rfl
  | .v .non, _ => rfl
  | .v (.byt b), _ => rfl
  | .v (.flt b), _ => rfl
  | .v (.ref b), _ => rfl
  | .v (.ty b), _ => rfl
  | .tp xs, _ => rfl
  | .ls xs, _ => rfl
  | .dc, _ => rfl
theorem isN_not {t : Th} (h : t.isS = false) : t.isN = false := by
  match t, h with
  | .v (.int i), _ => rfl
  | .v (.bl b), _ => rfl
  | .v .non, _ => rfl
  | .v (.byt b), _ => rfl
  | .v (.flt b), _ => rfl
  | .v (.ref b), _ => rfl
  | .v (.ty b), _ => rfl
  | .tp xs, _ => rfl
  | .ls xs, _ => rfl
  | .dc, _ => rfl
section
variable {P : Program} {w : World} {K : PySem.W.Frag} {mg : Str → Option Value} {base : Heap} {f aB aK aS c T fn f2 : Addr} {fd dn d2 : FuncData} {C : Ad}
/-- is_name of anything: what stands in no text is asked no further -/
theorem ok_isN (F : Fun K "is_name" "is_name" s_is_name f fd) (B : Bn mg) (Cc : Cn K mg aB aK) (TB : TabB base mg c T) (hc : fd.code = .ref c) : FnOk P w K mg base CX0 2 f fd ["thing"] (spIsN K T) := by
  refine ok_code F sc_is_name (fun vs H Q E h => ?_) (fun A outer s H vs Q E hr h => ?_)
  · obtain ⟨x, t, rfl, _⟩ := h
    rfl
  obtain ⟨x, t, rfl, hx, hT, k⟩ := h
  obtain ⟨t6, h6⟩ := Cc.longest
  refine ⟨_, pss_cons (ps_if (PW.pt (pw_or (pt_not (pt_val (pe_callB call_isi rfl B.isinstance (by decide +kernel) (pa_cons (pv 0) (pa_cons (pe_bltn (v := .ty "str") rfl B.str (by decide +kernel) rfl) pa_nil)))))
      (pw_or1 (pt_cmpR op_in_seq (pv 0) (pe_glob (v := .ref aB) rfl Cc.barred rfl) (by rfl))))) (pss_one (ps_ret pe_bl)) pss_nil) <|
    pss_cons (ps_if (pt_not (pt_chain op_le op_le pe_int (pe_callB call_len_str rfl B.len PySem.boot_len (pa_cons (pv 0) pa_nil)) (pe_glob (v := .int 6) rfl h6 ⟨_, rfl⟩))) (pss_one (ps_ret pe_bl)) pss_nil) <|
    pss_one (ps_ret (pe_allS hr rfl B.all (by decide +kernel) TB hc ⟨rfl, rfl, by decide +kernel, by decide +kernel, by decide +kernel, fun y hy e => by exfalso; revert y; decide +kernel⟩ (pv 0) (elt_letter rfl (by decide +kernel)) (fun _ => rfl))), ?_⟩
  have on : ∀ {H'}, Tabbed T H H' → On T H H' := fun h => ⟨tabbed_kp hT h, h.1⟩
  refine ⟨_, rfl, _, _, _, _, t.isS, rfl, .ty _, hx.ty, t.kit "str" t.kit_str, _, rfl, ?_⟩
  cases hs : t.isS with
  | false =>
    have q := k H (On.refl hT)
    rw [isN_not hs] at q
    exact iteT (iteT q)
  | true =>
    · obtain ⟨z, rfl⟩ := isS_is hs
      obtain ⟨hx1, hz1⟩ := hx
      subst hx1
      have hz : z.length ≤ sizeLine := by
        have hz2 : z.length ≤ 1000 := hz1
        rw [sizeLine_eq]
        omega
      rw [isN_str] at k
      have eN : isNm (.str z) = (Nat.ble 1 z.cps.toList.length && Nat.ble z.cps.toList.length 6 && lettersB z.cps.toList && !isBar z.cps.toList) := rfl
      rw [← len_toList] at eN
      refine iteF ⟨_, rfl, aB, _, rfl, .inr (Cc.barredT _), rfl, by decide +kernel, _, rfl, ?_⟩
      refine ite2 (fun c1 => ?_) (fun c1 => ?_)
      · have c1' : inV (.str z) (barsS.map V.str) = true := c1
        rw [bars_in] at c1'
        rw [c1', Bool.not_true, Bool.and_false] at eN
        have q := k H (On.refl hT)
        rw [eN] at q
        exact q
      have c1' : inV (.str z) (barsS.map V.str) = false := Bool.eq_false_iff.mpr c1
      rw [bars_in] at c1'
      rw [c1', Bool.not_false, Bool.and_true, ble_dec, ble_dec] at eN
      refine ⟨_, rfl, z, rfl, hz, _, _, rfl, rfl, _, rfl, ?_⟩
      refine ite2 (fun c2 => ?_) (fun c2 => ?_)
      · have c2' : (1 : Int) ≤ (z.length : Int) := of_decide_eq_true c2
        have n1 : decide (1 ≤ z.length) = true := decide_eq_true (by omega)
        rw [n1, Bool.true_and] at eN
        refine ⟨_, _, rfl, rfl, _, rfl, ?_⟩
        refine ite2 (fun c3 => ?_) (fun c3 => ?_)
        · have c3' : decide ((z.length : Int) ≤ 6) = false := by
            cases q : decide ((z.length : Int) ≤ 6) with
            | false => rfl
            | true =>
              have c4 : (!decide ((z.length : Int) ≤ 6)) = true := c3
              rw [q] at c4
              cases c4
          have n2 : decide (z.length ≤ 6) = false := decide_eq_false (by have := of_decide_eq_false c3'; omega)
          rw [n2, Bool.false_and] at eN
          have q := k H (On.refl hT)
          rw [eN] at q
          exact q
        · have c3' : (z.length : Int) ≤ 6 := by
            cases q : decide ((z.length : Int) ≤ 6) with
            | true => exact of_decide_eq_true q
            | false =>
              have c4 : ¬ (!decide ((z.length : Int) ≤ 6)) = true := c3
              rw [q] at c4
              exact absurd rfl c4
          have n2 : decide (z.length ≤ 6) = true := decide_eq_true (by omega)
          rw [n2, Bool.true_and, letters_all] at eN
          refine ⟨_, rfl, z, rfl, hT, fun H' hH => ?_⟩
          have q := k H' (on hH)
          rw [eN] at q
          exact q
      · have n1 : decide (1 ≤ z.length) = false := decide_eq_false (fun e => c2 (decide_eq_true (by show (1 : Int) ≤ (z.length : Int); omega)))
        rw [n1, Bool.false_and, Bool.false_and] at eN
        have q := k H (On.refl hT)
        rw [eN] at q
        exact ⟨_, rfl, iteT q⟩
theorem sc_is_number : FnScope ["thing"] ["thing"] (defScope s_is_number) := ⟨rfl, rfl, rfl, by decide +kernel, rfl, by decide +kernel, by decide +kernel⟩
theorem ok_isNum (F : Fun K "is_number" "is_number" s_is_number f fd) (B : Bn mg) {th : Tok} (hh : mg "HIGHEST_NUMBER" = some (.int 999999 th)) : FnOk P w K mg base CX0 1 f fd ["thing"] (spIsNum K) := by
  refine F.ok sc_is_number (fun vs H Q E h => ?_) (fun cdv A outer s H vs Q E hr h => ?_)
  · obtain ⟨x, t, rfl, _⟩ := h
    rfl
  obtain ⟨x, t, rfl, hx, k⟩ := h
  refine ⟨_, pss_cons (ps_if (PW.pt (pw_or (pt_not (pt_val (pe_callB call_isi rfl B.isinstance (by decide +kernel) (pa_cons (pv 0) (pa_cons (pe_bltn (v := .ty "int") rfl B.int (by decide +kernel) rfl) pa_nil)))))
      (pw_or1 (pt_val (pe_callB call_isi rfl B.isinstance (by decide +kernel) (pa_cons (pv 0) (pa_cons (pe_bltn (v := .ty "bool") rfl B.bool (by decide +kernel) rfl) pa_nil))))))) (pss_one (ps_ret pe_bl)) pss_nil) <|
    pss_one (ps_ret (pe_chain op_le op_le pe_int (pv 0) (pe_glob (v := .int 999999) rfl hh ⟨_, rfl⟩))), ?_⟩
  refine ⟨_, rfl, _, _, _, _, t.isI, rfl, .ty _, hx.ty, t.kit "int" t.kit_int, _, rfl, ?_⟩
  cases hi : t.isI with
  | false =>
    rw [isI_not hi] at k
    exact iteT (iteT k)
  | true =>
    refine iteF ⟨_, rfl, _, _, _, _, t.isB, rfl, .ty _, hx.ty, t.kit "bool" t.kit_bool, _, rfl, ?_⟩
    cases hb : t.isB with
    | true =>
      obtain ⟨z, rfl⟩ := isB_is hb
      exact iteT k
    | false =>
      obtain ⟨i, rfl⟩ := isI_is hi hb
      obtain ⟨hx1, _⟩ := hx
      subst hx1
      have q : Q (.bl (decide (0 ≤ i) && decide (i ≤ 999999))) H := k
      refine iteF ⟨_, rfl, _, _, rfl, rfl, _, rfl, ?_⟩
      by_cases c1 : 0 ≤ i
      · rw [decide_eq_true c1, Bool.true_and] at q
        exact ifT (decide_eq_true c1) ⟨_, _, rfl, rfl, q⟩
      · rw [decide_eq_false c1, Bool.false_and] at q
        exact ifF (decide_eq_false c1) q
end
end Lm
namespace Lm
open PySem L2 GxR
theorem sc_check_name : FnScope ["thing"] ["thing"] (defScope s_check_name) := ⟨rfl, rfl, rfl, by decide +kernel, rfl, by decide +kernel, by decide +kernel⟩
theorem sc_check_sign : FnScope ["thing"] ["thing"] (defScope s_check_sign) := ⟨rfl, rfl, rfl, by decide +kernel, rfl, by decide +kernel, by decide +kernel⟩
theorem sc_check_worth : FnScope ["thing"] ["thing"] (defScope s_check_worth) := ⟨rfl, rfl, rfl, by decide +kernel, rfl, by decide +kernel, by decide +kernel⟩
theorem sc_check_let : FnScope ["row"] ["row"] (defScope s_check_let) := ⟨rfl, rfl, rfl, by decide +kernel, rfl, by decide +kernel, by decide +kernel⟩
abbrev ve : List Value := [.type "ValueError", .type "Exception", .type "BaseException", .type "object"]
theorem outc_on {T : Addr} {C : Ad} {H H1 : Hp} {Q : VK} {E : XK} (o : On T H H1) : ∀ {r : Option Cls}, outc T C H Q E r → outc T C H1 Q E r
  | none, h => fun H' o' => h H' (o.trans o')
  | some _, h => fun H' cls d o' => h H' cls d (o.trans o')
section
variable {P : Program} {w : World} {K : PySem.W.Frag} {mg : Str → Option Value} {base : Heap} {f aS T fn f2 f3 : Addr} {fd dn d2 d3 : FuncData} {C : Ad}
theorem ok_ckName (F : Fun K "check_name" "check_name" s_check_name f fd) (N : OwnE K mg "BadName" C.name) (DN : Df P w K mg base "is_name" 2 fn dn ["thing"] (spIsN K T)) : FnOk P w K mg base (L2.CX P w) 3 f fd ["thing"] (spCk K T C ckName) := by
  refine F.okX sc_check_name (fun vs H Q E h => ?_) (fun cdv A outer s H vs Q E hr h => ?_)
  · obtain ⟨x, t, rfl, _⟩ := h
    rfl
  obtain ⟨x, t, rfl, hx, hT, k⟩ := h
  refine ⟨_, pss_one (ps_if (pt_not (pt_val (pe_df DN hr (pa_cons (pv 0) pa_nil)))) (pss_one (ps_raise rfl (takes_of rfl rfl rfl rfl) (pmk_own PySem.F.excBase_ValueError N.x N.g N.k (raises_own N.b N.t) rfl))) pss_nil), ?_⟩
  refine ⟨_, rfl, x, t, rfl, hx, hT, fun H' o => ⟨_, rfl, ?_⟩⟩
  cases e : t.isN with
  | true =>
    have q : outc T C H Q E (if t.isN then none else some .name) := k
    rw [e] at q
    exact iteF (q H' o)
  | false =>
    have q : outc T C H Q E (if t.isN then none else some .name) := k
    rw [e] at q
    exact iteT (q H' _ _ o ⟨rfl, rfl⟩)
theorem ok_ckSign (F : Fun K "check_sign" "check_sign" s_check_sign f fd) (B : Bn mg) (N : OwnE K mg "BadRow" C.row) (mS : mg "SIGNS" = some (.ref aS)) (hS : ∀ H, SqT K H aS (signs.map V.str)) : FnOk P w K mg base (L2.CX P w) 1 f fd ["thing"] (spCk K T C ckSign) := by
  refine F.okX sc_check_sign (fun vs H Q E h => ?_) (fun cdv A outer s H vs Q E hr h => ?_)
  · obtain ⟨x, t, rfl, _⟩ := h
    rfl
  obtain ⟨x, t, rfl, hx, hT, k⟩ := h
  refine ⟨_, pss_one (ps_if (PW.pt (pw_or (pt_not (pt_val (pe_callB call_isi rfl B.isinstance (by decide +kernel) (pa_cons (pv 0) (pa_cons (pe_bltn (v := .ty "str") rfl B.str (by decide +kernel) rfl) pa_nil)))))
      (pw_or1 (pt_cmpR op_notIn_seq (pv 0) (pe_glob (v := .ref aS) rfl mS rfl) (by rfl)))))
      (pss_one (ps_raise rfl (takes_of rfl rfl rfl rfl) (pmk_own PySem.F.excBase_ValueError N.x N.g N.k (raises_own N.b N.t) rfl))) pss_nil), ?_⟩
  have q : outc T C H Q E (if t.isSg then none else some .row) := k
  refine ⟨_, rfl, _, _, _, _, t.isS, rfl, .ty _, hx.ty, t.kit "str" t.kit_str, _, rfl, ?_⟩
  cases hs : t.isS with
  | false =>
    have e : t.isSg = false := by
      cases e : t.isSg with
      | false => rfl
      | true =>
        match t, hs, e with
        | .v (.int i), _, e => cases e
        | .v (.bl b), _, e => cases e
        | .v .non, _, e => cases e
        | .v (.byt b), _, e => cases e
        | .v (.flt b), _, e => cases e
        | .v (.ref b), _, e => cases e
        | .v (.ty b), _, e => cases e
        | .tp xs, _, e => cases e
        | .ls xs, _, e => cases e
        | .dc, _, e => cases e
    rw [e] at q
    exact iteT (iteT (q H _ _ (On.refl hT) ⟨rfl, rfl⟩))
  | true =>
    obtain ⟨z, rfl⟩ := isS_is hs
    obtain ⟨hx1, hz1⟩ := hx
    subst hx1
    refine iteF ⟨_, rfl, aS, _, rfl, .inr (hS _), rfl, by decide +kernel, _, rfl, ?_⟩
    cases e : inV (.str z) (signs.map V.str) with
    | true =>
      have e2 : (Th.v (.str z)).isSg = true := e
      rw [e2] at q
      exact iteF (q H (On.refl hT))
    | false =>
      have e2 : (Th.v (.str z)).isSg = false := e
      rw [e2] at q
      exact iteT (q H _ _ (On.refl hT) ⟨rfl, rfl⟩)
theorem ok_ckWorth (F : Fun K "check_worth" "check_worth" s_check_worth f fd) (B : Bn mg) (N : OwnE K mg "BadNumber" C.num) (D1 : Dx P w K mg base "check_name" 3 f2 d2 ["thing"] (spCk K T C ckName)) (D2 : Df P w K mg base "is_number" 1 f3 d3 ["thing"] (spIsNum K)) :
    FnOk P w K mg base (L2.CX P w) 4 f fd ["thing"] (spCk K T C ckWorth) := by
  refine F.okX sc_check_worth (fun vs H Q E h => ?_) (fun cdv A outer s H vs Q E hr h => ?_)
  · obtain ⟨x, t, rfl, _⟩ := h
    rfl
  obtain ⟨x, t, rfl, hx, hT, k⟩ := h
  have hr1 : Room 1 _ := hr.mono (by decide)
  refine ⟨_, pss_one (ps_if (pt_val (pe_callB call_isi rfl B.isinstance (by decide +kernel) (pa_cons (pv 0) (pa_cons (pe_bltn (v := .ty "str") rfl B.str (by decide +kernel) rfl) pa_nil))))
      (pss_one (ps_expr (pe_dx D1 hr (takes_of rfl rfl rfl rfl) (pa_cons (pv 0) pa_nil))))
      (pss_one (ps_if (pt_not (pt_val (pe_df D2 hr1 (pa_cons (pv 0) pa_nil)))) (pss_one (ps_raise rfl (takes_of rfl rfl rfl rfl) (pmk_own PySem.F.excBase_ValueError N.x N.g N.k (raises_own N.b N.t) rfl))) pss_nil))), ?_⟩
  have q : outc T C H Q E (if t.isS then ckName t else if t.isNum then none else some .num) := k
  refine ⟨_, rfl, _, _, _, _, t.isS, rfl, .ty _, hx.ty, t.kit "str" t.kit_str, _, rfl, ?_⟩
  cases hs : t.isS with
  | true =>
    rw [hs] at q
    refine iteT ⟨_, rfl, x, t, rfl, hx, hT, ?_⟩
    have q2 : outc T C H Q E (ckName t) := q
    cases e : ckName t with
    | none =>
      rw [e] at q2
      exact fun H' o => q2 H' o
    | some c =>
      rw [e] at q2
      exact fun H' cls d o h => q2 H' cls d o h
  | false =>
    rw [hs] at q
    have q2 : outc T C H Q E (if t.isNum then none else some .num) := q
    refine iteF ⟨_, rfl, x, t, rfl, hx, _, rfl, ?_⟩
    cases e : t.isNum with
    | true =>
      rw [e] at q2
      exact iteF (q2 H (On.refl hT))
    | false =>
      rw [e] at q2
      exact iteT (q2 H _ _ (On.refl hT) ⟨rfl, rfl⟩)
end
end Lm
namespace Lm
open PySem L2 GxR
/-- LENGTHS as it is written -/
structure LenK (K : PySem.W.Frag) (w : World) (mg : Str → Option Value) (aL : Addr) : Prop where
  m : mg "LENGTHS" = some (.ref aL)
  d : ∃ es n, KDict K w aL es n
  get : ∀ s : Str, ∃ r, PySem.W.nsIn K aL s = some r ∧ (match lens s with | none => r = none | some k => ∃ tk, r = some (.int (k : Int) tk))
theorem LenK.none_ {K : PySem.W.Frag} {w : World} {mg : Str → Option Value} {aL : Addr} (L : LenK K w mg aL) {s : Str} (h : lens s = none) : PySem.W.nsIn K aL s = some none := by
  obtain ⟨r, e, q⟩ := L.get s
  rw [h] at q
  rw [e, show r = none from q]
theorem LenK.some_ {K : PySem.W.Frag} {w : World} {mg : Str → Option Value} {aL : Addr} (L : LenK K w mg aL) {s : Str} {k : Nat} (h : lens s = some k) : ∃ tk, PySem.W.nsIn K aL s = some (some (.int (k : Int) tk)) := by
  obtain ⟨r, e, q⟩ := L.get s
  rw [h] at q
  obtain ⟨tk, q⟩ := (show ∃ tk, r = some (.int (k : Int) tk) from q)
  exact ⟨tk, by rw [e, q]⟩
theorem LenK.kd {K : PySem.W.Frag} {w : World} {mg : Str → Option Value} {aL : Addr} (L : LenK K w mg aL) {s : Str} {k : Nat} (h : lens s = some k) : KDct K w aL s (.int (k : Int)) := by
  obtain ⟨es, n, D⟩ := L.d
  obtain ⟨tk, e⟩ := L.some_ h
  exact ⟨es, n, _, D.at_, D.lit, e, ⟨tk, rfl⟩⟩
theorem lens_le {s : Str} {k : Nat} (h : lens s = some k) : 2 ≤ k ∧ k ≤ 5 := by
  unfold lens at h
  repeat' split at h
  all_goals first
    | (cases h; omega)
    | cases h
theorem form_is {t : Th} (h : t.form = true) : ∃ s xs, t = .tp (.v (.str s) :: xs) ∧ lens s = some (xs.length + 1) := by
  match t, h with
  | .tp (.v (.str s) :: xs), h => exact ⟨s, xs, rfl, of_decide_eq_true h⟩
theorem ckLet1 {a b c e : Th} {x : Cls} (e1 : ckName a = some x) : ckLet [a, b, c, e] = some x := by simp [ckLet, e1]
theorem ckLet2 {a b c e : Th} {x : Cls} (e1 : ckName a = none) (e2 : ckSign b = some x) : ckLet [a, b, c, e] = some x := by simp [ckLet, e1, e2]
theorem ckLet3 {a b c e : Th} {x : Cls} (e1 : ckName a = none) (e2 : ckSign b = none) (e3 : ckWorth c = some x) : ckLet [a, b, c, e] = some x := by simp [ckLet, e1, e2, e3]
theorem ckLet4 {a b c e : Th} (e1 : ckName a = none) (e2 : ckSign b = none) (e3 : ckWorth c = none) : ckLet [a, b, c, e] = ckWorth e := by simp [ckLet, e1, e2, e3]
theorem isT_is {t : Th} (h : t.isT = true) : ∃ z, t = .tp z := by
  match t, h with
  | .tp z, _ => exact ⟨z, rfl⟩
theorem form_noT {t : Th} (h : t.isT = false) : t.form = false := by
  match t, h with
  | .v _, _ => rfl
  | .ls xs, _ => rfl
  | .dc, _ => rfl
theorem form_noS {t : Th} {xs : List Th} (h : t.isS = false) : (Th.tp (t :: xs)).form = false := by
  match t, h with
  | .v (.int i), _ => rfl
  | .v (.bl b), _ => rfl
  | .v .non, _ => rfl
  | .v (.byt b), _ => rfl
  | .v (.flt b), _ => rfl
  | .v (.ref b), _ => rfl
  | .v (.ty b), _ => rfl
  | .tp xs, _ => rfl
  | .ls xs, _ => rfl
  | .dc, _ => rfl
def spForm (K : PySem.W.Frag) (T : Addr) (C : Ad) : Sp := fun vs H Q E => ∃ (x : V) (t : Th), vs = [x] ∧ ThAt K H t x ∧ (t.form = true → Q .non H) ∧ (t.form = false → E (.ref C.row) none H)
def spLetC (K : PySem.W.Frag) (T : Addr) (C : Ad) : Sp := fun vs H Q E => ∃ (x : V) (w a b c e : Th), vs = [x] ∧ ThAt K H (.tp [w, a, b, c, e]) x ∧ TabG H T ∧ outc T C H Q E (ckLet [a, b, c, e])
theorem th5 {K : PySem.W.Frag} {H : Hp} {w a b c e : Th} {x : V} (h : ThAt K H (.tp [w, a, b, c, e]) x) : ∃ p w' a' b' c' e', x = .ref p ∧ SqT K H p [w', a', b', c', e'] ∧ ThAt K H w w' ∧ ThAt K H a a' ∧ ThAt K H b b' ∧ ThAt K H c c' ∧ ThAt K H e e' := by
  obtain ⟨p, vs, h1, h2, w', t1, rfl, hw, a', t2, rfl, ha, b', t3, rfl, hb, c', t4, rfl, hc, e', t5, rfl, he, h5⟩ := h
  have e5 : t5 = [] := h5
  subst e5
  exact ⟨p, w', a', b', c', e', h1, h2, hw, ha, hb, hc, he⟩
theorem outc_done {T : Addr} {C : Ad} {H : Hp} {Q : VK} {E : XK} {r : Option Cls} (k : outc T C H Q E r) {H1 : Hp} {Q1 : VK} (o : On T H H1)
    (h : r = none → (∀ H', On T H H' → Q .non H') → ∀ H', On T H1 H' → Q1 .non H') : outc T C H1 Q1 E r := by
  cases r with
  | none => exact h rfl k
  | some c => exact fun H' cls d o' e => k H' cls d (o.trans o') e
section
variable {P : Program} {w : World} {K : PySem.W.Frag} {mg : Str → Option Value} {base : Heap} {f aL T f1 f2 f3 : Addr} {fd d1 d2 d3 : FuncData} {C : Ad}
theorem ok_ckLet (F : Fun K "check_let" "check_let" s_check_let f fd) (D1 : Dx P w K mg base "check_name" 3 f1 d1 ["thing"] (spCk K T C ckName)) (D2 : Dx P w K mg base "check_sign" 1 f2 d2 ["thing"] (spCk K T C ckSign))
    (D3 : Dx P w K mg base "check_worth" 4 f3 d3 ["thing"] (spCk K T C ckWorth)) : FnOk P w K mg base (L2.CX P w) 5 f fd ["row"] (spLetC K T C) := by
  refine F.okX sc_check_let (fun vs H Q E h => ?_) (fun cdv A outer s H vs Q E hr h => ?_)
  · obtain ⟨x, _, _, _, _, _, rfl, _⟩ := h
    rfl
  obtain ⟨x, w0, a, b, c, e, rfl, hx, hT, k⟩ := h
  have hr3 : Room 3 _ := hr.mono (by decide)
  have hr1 : Room 1 _ := hr.mono (by decide)
  refine ⟨_, pss_cons (ps_expr (pe_dx D1 hr3 (takes_of rfl rfl rfl rfl) (pa_cons (pe_ix ix_tup (pv 0) pe_int (fun _ _ => rfl)) pa_nil))) <|
    pss_cons (ps_expr (pe_dx D2 hr1 (takes_of rfl rfl rfl rfl) (pa_cons (pe_ix ix_tup (pv 0) pe_int (fun _ _ => rfl)) pa_nil))) <|
    pss_cons (ps_expr (pe_dx D3 hr (takes_of rfl rfl rfl rfl) (pa_cons (pe_ix ix_tup (pv 0) pe_int (fun _ _ => rfl)) pa_nil))) <|
    pss_one (ps_expr (pe_dx D3 hr (takes_of rfl rfl rfl rfl) (pa_cons (pe_ix ix_tup (pv 0) pe_int (fun _ _ => rfl)) pa_nil))), ?_⟩
  obtain ⟨p, w', a', b', c', e', rfl, h2, hw, ha, hb, hc, he⟩ := th5 hx
  refine ⟨_, rfl, p, _, _, _, rfl, rfl, h2, atI_nat (j := 1) rfl, a', a, rfl, ha, hT, ?_⟩
  cases e1 : ckName a with
  | some x =>
    have q := k
    rw [ckLet1 e1] at q
    exact fun H' cls d o h => q H' cls d o h
  | none =>
  intro H1 o1
  refine ⟨_, rfl, p, _, _, _, rfl, rfl, Kp.sqT o1.k h2, atI_nat (j := 2) rfl, b', b, rfl, hb.mono o1.k, o1.t, ?_⟩
  cases e2 : ckSign b with
  | some x =>
    have q := k
    rw [ckLet2 e1 e2] at q
    exact fun H' cls d o h => q H' cls d (o1.trans o) h
  | none =>
  intro H2 o2
  have o12 := o1.trans o2
  refine ⟨_, rfl, p, _, _, _, rfl, rfl, Kp.sqT o12.k h2, atI_nat (j := 3) rfl, c', c, rfl, hc.mono o12.k, o12.t, ?_⟩
  cases e3 : ckWorth c with
  | some x =>
    have q := k
    rw [ckLet3 e1 e2 e3] at q
    exact fun H' cls d o h => q H' cls d (o12.trans o) h
  | none =>
  intro H3 o3
  have o13 := o12.trans o3
  refine ⟨_, rfl, p, _, _, _, rfl, rfl, Kp.sqT o13.k h2, atI_nat (j := 4) rfl, e', e, rfl, he.mono o13.k, o13.t, ?_⟩
  have q := k
  rw [ckLet4 e1 e2 e3] at q
  cases e4 : ckWorth e with
  | some x =>
    rw [e4] at q
    exact fun H' cls d o h => q H' cls d (o13.trans o) h
  | none =>
    rw [e4] at q
    exact fun H' o => q H' (o13.trans o)
theorem sc_check_form : FnScope ["row", "word"] ["row"] (defScope s_check_form) := ⟨rfl, rfl, rfl, by decide +kernel, rfl, by decide +kernel, by decide +kernel⟩
theorem ok_ckForm (F : Fun K "check_form" "check_form" s_check_form f fd) (B : Bn mg) (N : OwnE K mg "BadRow" C.row) (L : LenK K w mg aL) : FnOk P w K mg base (L2.CX P w) 1 f fd ["row"] (spForm K T C) := by
  obtain ⟨es, n, D⟩ := L.d
  refine F.okX sc_check_form (fun vs H Q E h => ?_) (fun cdv A outer s H vs Q E hr h => ?_)
  · obtain ⟨x, t, rfl, _⟩ := h
    rfl
  obtain ⟨x, t, rfl, hx, k1, k2⟩ := h
  have nd := sc_check_form.nd
  refine ⟨_, pss_cons (ps_if (PW.pt (pw_or (pt_not (pt_val (pe_callB call_isi rfl B.isinstance (by decide +kernel) (pa_cons (pv 0) (pa_cons (pe_bltn (v := .ty "tuple") rfl B.tuple (by decide +kernel) rfl) pa_nil)))))
      (pw_or1 (pt_cmpR op_eq (pe_callB call_len_seq rfl B.len PySem.boot_len (pa_cons (pv 0) pa_nil)) pe_int (nomark _)))))
      (pss_one (ps_raise rfl (takes_of rfl rfl rfl rfl) (pmk_own PySem.F.excBase_ValueError N.x N.g N.k (raises_own N.b N.t) rfl))) pss_nil) <|
    pss_cons (ps_set (i := 1) nd rfl (Or.inl rfl) (pe_ix ix_tup (pv 0) pe_int (fun _ _ => rfl))) <|
    pss_cons (ps_if (PW.pt (pw_or (pt_not (pt_val (pe_callB call_isi rfl B.isinstance (by decide +kernel) (pa_cons (pv 1) (pa_cons (pe_bltn (v := .ty "str") rfl B.str (by decide +kernel) rfl) pa_nil)))))
      (pw_or1 (pt_cmpR (op_notIn_kd D) (pv 1) (pe_glob (v := .ref aL) rfl L.m rfl) (by rfl)))))
      (pss_one (ps_raise rfl (takes_of rfl rfl rfl rfl) (pmk_own PySem.F.excBase_ValueError N.x N.g N.k (raises_own N.b N.t) rfl))) pss_nil) <|
    pss_one (ps_if (pt_cmpR op_ne (pe_callB call_len_seq rfl B.len PySem.boot_len (pa_cons (pv 0) pa_nil)) (pe_ix ix_kdict (pe_glob (v := .ref aL) rfl L.m rfl) (pv 1) (fun _ _ => rfl)) (nomark _))
      (pss_one (ps_raise rfl (takes_of rfl rfl rfl rfl) (SkE.pmk_own1 PySem.F.excBase_ValueError N.x N.g N.k (raises_own N.b N.t) rfl
        (pe_joined (.cons pe_str (.cons (pe_fmt (pv 1)) (.cons pe_str (.cons (pe_fmt (pe_ix ix_kdict (pe_glob (v := .ref aL) rfl L.m rfl) (pv 1) (fun _ _ => rfl))) (.cons pe_str .nil)))))))) ) pss_nil), ?_⟩
  refine ⟨_, rfl, _, _, _, _, t.isT, rfl, .ty _, hx.ty, t.kit "tuple" t.kit_tuple, _, rfl, ?_⟩
  cases hs : t.isT with
  | false => exact iteT (iteT (k2 (form_noT hs)))
  | true =>
  obtain ⟨xs, rfl⟩ := isT_is hs
  obtain ⟨p, vs, rfl, h2, h3⟩ := hx
  refine iteF ⟨_, rfl, p, _, rfl, .inr h2, rfl, _, rfl, ?_⟩
  cases xs with
  | nil =>
    obtain rfl : vs = [] := h3
    exact iteT (k2 rfl)
  | cons w0 xs =>
  obtain ⟨v, us, rfl, hv, h4⟩ := h3
  have hl := h4.len
  refine ifF (decide_eq_false (fun e => by
    have e2 := V.int.inj e
    rw [List.length_cons] at e2
    omega)) ?_
  refine ⟨_, rfl, p, _, _, _, rfl, rfl, h2, atI_nat (j := 0) rfl, ?_⟩
  refine ⟨_, rfl, _, _, _, _, w0.isS, rfl, .ty _, hv.ty, w0.kit "str" w0.kit_str, _, rfl, ?_⟩
  cases hw : w0.isS with
  | false => exact iteT (iteT (k2 (form_noS hw)))
  | true =>
  obtain ⟨z, rfl⟩ := isS_is hw
  obtain ⟨hv1, hz1⟩ := hv
  subst hv1
  have hz : z.length ≤ 1000 := hz1
  cases hz2 : lens z with
  | none =>
    refine iteF ⟨_, rfl, z, _, rfl, rfl, L.none_ hz2, _, rfl, ?_⟩
    refine iteT (k2 ?_)
    show decide (lens z = some (xs.length + 1)) = false
    rw [hz2]
    rfl
  | some k =>
    obtain ⟨tk, e⟩ := L.some_ hz2
    refine iteF ⟨_, rfl, z, _, rfl, rfl, e, _, rfl, ?_⟩
    refine iteF ?_
    refine ⟨_, rfl, p, _, rfl, .inr h2, _, rfl, aL, z, _, rfl, rfl, L.kd hz2, rfl, _, rfl, ?_⟩
    have hlen : (((V.str z :: us).length : Nat) : Int) = ((xs.length + 1 : Nat) : Int) := by rw [List.length_cons, hl]
    by_cases c : k = xs.length + 1
    · refine ifF ?_ (k1 ?_)
      · rw [hlen, c, decide_eq_true rfl]
        rfl
      · show decide (lens z = some (xs.length + 1)) = true
        rw [hz2, c]
        exact decide_eq_true rfl
    · refine ifT ?_ ?_
      · rw [hlen, decide_eq_false (fun e => c (by have := V.int.inj e; omega))]
        rfl
      · have q := k2 (by
          show decide (lens z = some (xs.length + 1)) = false
          rw [hz2]
          exact decide_eq_false (fun e => c (Option.some.inj e)))
        have hk := lens_le hz2
        have lg : ((k : Int)).natAbs.log2 < 1920 := by
          have e : ((k : Int)).natAbs = k := by omega
          rw [e]
          match k, hk.2 with
          | 0, _ => decide
          | 1, _ => decide
          | 2, _ => decide
          | 3, _ => decide
          | 4, _ => decide
          | 5, _ => decide
        have li : (Str.ofString (toString (k : Int))).length ≤ 1921 := by
          have e := int_text_length_le (k := 1920) (by decide) lg
          rw [PySem.ofString_length]
          exact e
        have l1 : (("a row that begins with " : Str)).length ≤ 100 := by decide +kernel
        have l2 : ((" has " : Str)).length ≤ 100 := by decide +kernel
        have l3 : ((" parts" : Str)).length ≤ 100 := by decide +kernel
        have l0 : Str.empty.length = 0 := rfl
        refine ⟨_, rfl, ?_, _, rfl, .inl ⟨z, rfl, ?_, z, rfl, ?_, _, rfl, ?_, _, rfl, aL, z, _, rfl, rfl, L.kd hz2, .inr ⟨(k : Int), rfl, lg, _, rfl, ?_, _, rfl, ?_, q⟩⟩⟩
        all_goals ((try simp only [app_len]); rw [sizeLine_eq]; omega)
end
end Lm
namespace Lm
open PySem L2 GxR
abbrev s_row : Stmt := topS 22
abbrev s_rows : Stmt := topS 23
abbrev s_checked : Stmt := topS 24
theorem lens_blk {s : Str} (h : isBlk s = true) : lens s = some 3 ∧ s ≠ "let" := by
  have hs : s ∈ kinds := by
    have e : (kinds.map V.str).any (fun y => eqV y (.str s)) = true := h
    rw [List.any_map, List.any_eq_true] at e
    obtain ⟨y, hy, e⟩ := e
    have e2 : y = s := of_decide_eq_true e
    rw [← e2]
    exact hy
  rcases List.mem_cons.mp hs with rfl | hs
  · exact ⟨by decide +kernel, by decide +kernel⟩
  rcases List.mem_cons.mp hs with rfl | hs
  · exact ⟨by decide +kernel, by decide +kernel⟩
  rcases List.mem_cons.mp hs with rfl | hs
  · exact ⟨by decide +kernel, by decide +kernel⟩
  · cases hs
theorem lens_not {s : Str} {k : Nat} (h : isBlk s = false) (e : lens s = some k) : (s = "let" ∧ k = 5) ∨ (s = "say" ∧ k = 2) := by
  unfold lens at e
  repeat' split at e
  · rename_i c
    exact .inl ⟨c, (Option.some.inj e).symm⟩
  · rename_i c
    exact .inr ⟨c, (Option.some.inj e).symm⟩
  · rename_i c
    subst c
    exact absurd h (by decide +kernel)
  · rename_i c
    subst c
    exact absurd h (by decide +kernel)
  · rename_i c
    subst c
    exact absurd h (by decide +kernel)
  · cases e
theorem lk_blk0 {s : Str} {a r : Th} {n : Nat} (h : isBlk s = true) : lkRow 0 (.tp [.v (.str s), a, r]) n = .error (.deep n) := by
  have f : (Th.tp [.v (.str s), a, r]).form = true := by
    show decide (lens s = some 3) = true
    rw [(lens_blk h).1]
    rfl
  unfold lkRow
  rw [if_pos f, if_pos h]
theorem lk_blk {s : Str} {a r : Th} {m n : Nat} (h : isBlk s = true) : lkRow (m + 1) (.tp [.v (.str s), a, r]) n = match ckName a with | some c => .error c | none => lkRows m r (n + 1) := by
  have f : (Th.tp [.v (.str s), a, r]).form = true := by
    show decide (lens s = some 3) = true
    rw [(lens_blk h).1]
    rfl
  conv => lhs; unfold lkRow
  rw [if_pos f, if_pos h]
  all_goals (cases ckName a <;> rfl)
theorem lk_let {a b c e : Th} {m n : Nat} : lkRow m (.tp [.v (.str "let"), a, b, c, e]) n = match ckLet [a, b, c, e] with | some c => .error c | none => .ok (n + 1) := by
  have f : (Th.tp [.v (.str "let"), a, b, c, e]).form = true := by
    show decide (lens "let" = some 5) = true
    decide +kernel
  unfold lkRow
  rw [if_pos f, if_neg (by decide +kernel), if_pos rfl]
  all_goals (cases ckLet [a, b, c, e] <;> rfl)
theorem lk_say {a : Th} {m n : Nat} : lkRow m (.tp [.v (.str "say"), a]) n = match ckWorth a with | some c => .error c | none => .ok (n + 1) := by
  have f : (Th.tp [.v (.str "say"), a]).form = true := by
    show decide (lens "say" = some 2) = true
    decide +kernel
  unfold lkRow
  rw [if_pos f, if_neg (by decide +kernel), if_neg (by decide +kernel)]
  all_goals (cases ckWorth a <;> rfl)
theorem outn_on {T : Addr} {C : Ad} {H H1 : Hp} {Q : VK} {E : XK} (o : On T H H1) : ∀ {r : Except Cls Nat}, outn T C H Q E r → outn T C H1 Q E r
  | .ok _, h => fun H' o' => h H' (o.trans o')
  | .error _, h => fun H' cls d o' => h H' cls d (o.trans o')
/-- a place that can be told -/
def Told (r : Except Cls Nat) : Prop := ∀ k, r = .error (.deep k) → k < 1000000000
def spRowC (K : PySem.W.Frag) (T : Addr) (C : Ad) (m : Nat) : Sp := fun vs H Q E => ∃ (x : V) (t : Th) (n : Nat) (d : Int), vs = [x, .int (n : Int), .int d] ∧ d + (m : Int) = 20 ∧ ThAt K H t x ∧ TabG H T ∧ Told (lkRow m t n) ∧ outn T C H Q E (lkRow m t n)
def spRowsC (K : PySem.W.Frag) (T : Addr) (C : Ad) (m : Nat) : Sp := fun vs H Q E => ∃ (x : V) (t : Th) (n : Nat) (d : Int), vs = [x, .int (n : Int), .int d] ∧ d + (m : Int) = 20 ∧ ThAt K H t x ∧ TabG H T ∧ Told (lkRows m t n) ∧ outn T C H Q E (lkRows m t n)
def spRowsB (K : PySem.W.Frag) (T : Addr) (C : Ad) : Nat → Sp
  | 0 => fun _ _ _ _ => False
  | m + 1 => spRowsC K T C m
abbrev nRow : List Str := ["row", "looked", "depth"]
theorem sc_row : FnScope nRow nRow (defScope s_row) := ⟨rfl, rfl, rfl, by decide +kernel, rfl, by decide +kernel, by decide +kernel⟩
abbrev nRows : List Str := ["rows", "looked", "depth", "row"]
theorem sc_rows : FnScope nRows ["rows", "looked", "depth"] (defScope s_rows) := ⟨rfl, rfl, rfl, by decide +kernel, rfl, by decide +kernel, by decide +kernel⟩
section
variable {P : Program} {w : World} {K : PySem.W.Frag} {mg : Str → Option Value} {base : Heap} {f aB aK aL T f1 f2 f3 f4 f5 fI : Addr} {fd d1 d2 d3 d4 d5 : FuncData} {C : Ad} {t1 t2 : Str}
theorem ok_row {m : Nat} {td : Tok} (F : Fun K "look_at_row" "look_at_row" s_row f fd) (Cc : Cn K mg aB aK) (hd : mg "DEEPEST_BLOCK" = some (.int 20 td)) (TD : DeepX.DeepTxt P K mg "TooDeep" t1 t2 C.deep fI) (ht1 : t1.length ≤ 1000) (ht2 : t2.length ≤ 1000)
    (D1 : Dx P w K mg base "check_form" 1 f1 d1 ["row"] (spForm K T C)) (D2 : Dx P w K mg base "check_name" 3 f2 d2 ["thing"] (spCk K T C ckName)) (D3 : Dx P w K mg base "check_worth" 4 f3 d3 ["thing"] (spCk K T C ckWorth)) (D4 : Dx P w K mg base "check_let" 5 f4 d4 ["row"] (spLetC K T C))
    (D5 : Dx P w K mg base "look_at_rows" (2 * m + 5) f5 d5 ["rows", "looked", "depth"] (spRowsB K T C m)) : FnOk P w K mg base (L2.CX P w) (2 * m + 6) f fd nRow (spRowC K T C m) := by
  refine F.okX sc_row (fun vs H Q E h => ?_) (fun cdv A outer s H vs Q E hr h => ?_)
  · obtain ⟨x, t, n, d, rfl, _⟩ := h
    rfl
  obtain ⟨x, t, n, d, rfl, hdm, hx, hT, ht, k⟩ := h
  have hr5 : Room 5 _ := hr.mono (by omega)
  have hr4 : Room 4 _ := hr.mono (by omega)
  have hr3 : Room 3 _ := hr.mono (by omega)
  have hr1 : Room 1 _ := hr.mono (by omega)
  refine ⟨_, pss_cons (ps_expr (pe_dx D1 hr1 (takes_of rfl rfl rfl rfl) (pa_cons (pv 0) pa_nil))) <|
    pss_cons (ps_if (pt_cmpR op_in_seq (pe_ix ix_tup (pv 0) pe_int (fun _ _ => rfl)) (pe_glob (v := .ref aK) rfl Cc.blocks rfl) (by rfl))
      (pss_cons (ps_if (pt_cmpR op_eq (pv 2) (pe_glob (v := .int 20) rfl hd ⟨_, rfl⟩) (nomark _)) (pss_one (ps_raiseDeep rfl TD hr3 (takes_of rfl rfl rfl rfl) (pa_cons (pv 1) pa_nil) ht1 ht2 (by decide +kernel))) pss_nil) <|
       pss_cons (ps_expr (pe_dx D2 hr3 (takes_of rfl rfl rfl rfl) (pa_cons (pe_ix ix_tup (pv 0) pe_int (fun _ _ => rfl)) pa_nil))) <|
       pss_one (ps_ret (pe_dx D5 hr (takes_of rfl rfl rfl rfl) (pa_cons (pe_ix ix_tup (pv 0) pe_int (fun _ _ => rfl)) (pa_cons (pe_op op_add (pv 1) pe_int) (pa_cons (pe_op op_add (pv 2) pe_int) pa_nil))))))
      pss_nil) <|
    pss_cons (ps_if (pt_cmpR op_eq (pe_ix ix_tup (pv 0) pe_int (fun _ _ => rfl)) pe_str (nomark _)) (pss_one (ps_expr (pe_dx D4 hr5 (takes_of rfl rfl rfl rfl) (pa_cons (pv 0) pa_nil))))
      (pss_one (ps_expr (pe_dx D3 hr4 (takes_of rfl rfl rfl rfl) (pa_cons (pe_ix ix_tup (pv 0) pe_int (fun _ _ => rfl)) pa_nil))))) <|
    pss_one (ps_ret (pe_op op_add (pv 1) pe_int)), ?_⟩
  refine ⟨_, rfl, x, t, rfl, hx, fun hf => ?_, fun hf => ?_⟩
  rotate_left
  · rw [lkRow_noform hf] at k
    exact k H _ _ (On.refl hT) ⟨rfl, rfl⟩
  obtain ⟨s, xs, rfl, hl⟩ := form_is hf
  have hx0 := hx
  obtain ⟨p, vs, rfl, h2, v, us, rfl, hv, h4⟩ := hx
  obtain ⟨hv1, hs1⟩ := hv
  subst hv1
  refine ⟨_, rfl, p, _, _, _, rfl, rfl, h2, atI_nat (j := 0) rfl, aK, _, rfl, .inr (Cc.blocksT _), rfl, kinds_flat, _, rfl, ?_⟩
  cases hb : isBlk s with
  | true =>
    refine ifT hb ?_
    have l3 := (lens_blk hb).1
    rw [l3] at hl
    have l2 : xs.length = 2 := by
      have := Option.some.inj hl
      omega
    obtain ⟨a, r, rfl⟩ : ∃ a r, xs = [a, r] := by
      match xs, l2 with
      | [a, r], _ => exact ⟨a, r, rfl⟩
    obtain ⟨a', u2, rfl, ha, r', u3, rfl, hr', h5⟩ := h4
    obtain rfl : u3 = [] := h5
    refine ⟨_, rfl, rfl, _, rfl, ?_⟩
    cases m with
    | zero =>
      rw [lk_blk0 hb] at k ht
      have hn := ht n rfl
      refine ifT (decide_eq_true (congrArg V.int (by omega))) ⟨_, rfl, (n : Int), rfl, ?_, fun dd hdd => ?_⟩
      · have e : ((n : Int)).natAbs = n := by omega
        rw [e]
        have : n.log2 < 31 := by
          by_cases z : n = 0
          · subst z; decide
          · exact (Nat.log2_lt z).mpr (by omega)
        omega
      · exact k _ _ _ ⟨Same.kp (same_new hdd _), tab_new hT hdd⟩ ⟨rfl, dd, rfl, upd_same⟩
    | succ m =>
      rw [lk_blk hb] at k ht
      refine ifF (decide_eq_false (fun e => by
        have := V.int.inj e
        omega)) ?_
      refine ⟨_, rfl, p, _, _, _, rfl, rfl, h2, atI_nat (j := 1) rfl, a', a, rfl, ha, hT, ?_⟩
      cases e1 : ckName a with
      | some c =>
        rw [e1] at k
        exact fun H' cls d o h => k H' cls d o h
      | none =>
        rw [e1] at k ht
        intro H1 o1
        refine ⟨_, rfl, p, _, _, _, rfl, rfl, Kp.sqT o1.k h2, atI_nat (j := 2) rfl, _, rfl, _, _, rfl, rfl, _, rfl, _, _, rfl, rfl, ?_⟩
        exact ⟨r', r, n + 1, d + 1, rfl, by omega, hr'.mono o1.k, o1.t, ht, outn_on o1 k⟩
  | false =>
    refine ifF hb ?_
    rcases lens_not hb hl with ⟨rfl, l5⟩ | ⟨rfl, l2⟩
    · obtain ⟨a, b, c, e, rfl⟩ : ∃ a b c e, xs = [a, b, c, e] := by
        match xs, (by omega : xs.length = 4) with
        | [a, b, c, e], _ => exact ⟨a, b, c, e, rfl⟩
      refine ⟨_, rfl, p, _, _, _, rfl, rfl, h2, atI_nat (j := 0) rfl, rfl, _, rfl, ?_⟩
      rw [lk_let] at k
      refine ifT (decide_eq_true rfl) ⟨_, rfl, _, _, a, b, c, e, rfl, hx0, hT, ?_⟩
      cases e1 : ckLet [a, b, c, e] with
      | some c =>
        rw [e1] at k
        exact fun H' cls d o h => k H' cls d o h
      | none =>
        rw [e1] at k
        intro H1 o1
        exact ⟨_, rfl, _, _, rfl, rfl, k H1 o1⟩
    · obtain ⟨a, rfl⟩ : ∃ a, xs = [a] := by
        match xs, (by omega : xs.length = 1) with
        | [a], _ => exact ⟨a, rfl⟩
      obtain ⟨a', u2, rfl, ha, h5⟩ := h4
      refine ⟨_, rfl, p, _, _, _, rfl, rfl, h2, atI_nat (j := 0) rfl, rfl, _, rfl, ?_⟩
      rw [lk_say] at k
      refine ifF (by decide +kernel) ⟨_, rfl, p, _, _, _, rfl, rfl, h2, atI_nat (j := 1) rfl, a', a, rfl, ha, hT, ?_⟩
      cases e1 : ckWorth a with
      | some c =>
        rw [e1] at k
        exact fun H' cls d o h => k H' cls d o h
      | none =>
        rw [e1] at k
        intro H1 o1
        exact ⟨_, rfl, _, _, rfl, rfl, k H1 o1⟩
end
end Lm
namespace Lm
open PySem L2 GxR
theorem lkRows_noL {m n : Nat} {t : Th} (h : t.isL = false) : lkRows m t n = .error .row := by
  match t, h with
  | .v x, _ => unfold lkRows; rfl
  | .tp xs, _ => unfold lkRows; rfl
  | .dc, _ => unfold lkRows; rfl
theorem lkRows_ls {m n : Nat} {xs : List Th} : lkRows m (.ls xs) n = lkAll m xs n := by unfold lkRows; rfl
theorem lkAll_nil {m n : Nat} : lkAll m [] n = .ok n := by unfold lkAll; rfl
theorem lkAll_cons {m n : Nat} {x : Th} {xs : List Th} : lkAll m (x :: xs) n = match lkRow m x n with | .error c => .error c | .ok k => lkAll m xs k := by
  conv => lhs; unfold lkAll
  all_goals (cases lkRow m x n <;> rfl)
theorem isL_is {t : Th} (h : t.isL = true) : ∃ z, t = .ls z := by
  match t, h with
  | .ls z, _ => exact ⟨z, rfl⟩
theorem drop_at {α : Type} {xs : List α} {i : Nat} {x : α} (h : xs[i]? = some x) : xs.drop i = x :: xs.drop (i + 1) := by
  obtain ⟨hi, rfl⟩ := List.getElem?_eq_some_iff.mp h
  exact List.drop_eq_getElem_cons hi
section
variable {P : Program} {w : World} {K : PySem.W.Frag} {mg : Str → Option Value} {base : Heap} {f aB aK aL T f1 f2 f3 f4 f5 fI : Addr} {fd d1 d2 d3 d4 d5 : FuncData} {C : Ad} {t1 t2 : Str}
theorem ok_rowsC {m : Nat} (F : Fun K "look_at_rows" "look_at_rows" s_rows f fd) (B : Bn mg) (N : OwnE K mg "BadRow" C.row) (D : Dx P w K mg base "look_at_row" (2 * m + 6) f1 d1 nRow (spRowC K T C m)) :
    FnOk P w K mg base (L2.CX P w) (2 * m + 7) f fd ["rows", "looked", "depth"] (spRowsC K T C m) := by
  refine F.okX sc_rows (fun vs H Q E h => ?_) (fun cdv A outer s H vs Q E hr h => ?_)
  · obtain ⟨x, t, n, d, rfl, _⟩ := h
    rfl
  obtain ⟨x, t, n, d, rfl, hdm, hx, hT, ht, k⟩ := h
  have nd := sc_rows.nd
  refine ⟨_, pss_cons (ps_if (pt_not (pt_val (pe_callB call_isi rfl B.isinstance (by decide +kernel) (pa_cons (pv 0) (pa_cons (pe_bltn (v := .ty "list") rfl B.list (by decide +kernel) rfl) pa_nil)))))
      (pss_one (ps_raise rfl (takes_of rfl rfl rfl rfl) (pmk_own PySem.F.excBase_ValueError N.x N.g N.k (raises_own N.b N.t) rfl))) pss_nil) <|
    pss_cons (ps_for (passes_of rfl) rfl (pi_list (pv 0)) (pg_name (i := 3) nd rfl (Or.inl rfl))
      (pss_one (ps_set (i := 1) nd rfl (Or.inl rfl) (pe_dx D hr (takes_of rfl rfl rfl rfl) (pa_cons (pv 3) (pa_cons (pv 1) (pa_cons (pv 2) pa_nil))))))) <|
    pss_one (ps_ret (pv 1)), ?_⟩
  refine ⟨_, rfl, _, _, _, _, t.isL, rfl, .ty _, hx.ty, t.kit "list" t.kit_list, _, rfl, ?_⟩
  cases hl : t.isL with
  | false =>
    rw [lkRows_noL hl] at k
    exact iteT (k H _ _ (On.refl hT) ⟨rfl, rfl⟩)
  | true =>
    obtain ⟨xs, rfl⟩ := isL_is hl
    obtain ⟨p, vs, rfl, h2, h3⟩ := hx
    rw [lkRows_ls] at k ht
    have hlen := h3.len
    refine iteF ⟨_, rfl, p, rfl, ⟨_, h2⟩, for_list (K := K) (a := p) (xs := vs) (fun i σ H' => ∃ (j : Nat) (v3 : Option V), σ = [some (.ref p), some (.int (j : Int)), some (.int d), v3] ∧ On T H H' ∧ lkAll m xs n = lkAll m (xs.drop i) j)
      ⟨n, none, rfl, On.refl hT, rfl⟩ (fun i σ H' _ ⟨_, _, _, o, _⟩ => Kp.sqL o.k h2) ?_ ?_⟩
    · rintro i v σ H1 hi ⟨j, v3, rfl, o, e⟩
      obtain ⟨r, hri, hrow⟩ := h3.at hi
      rw [drop_at hri, lkAll_cons] at e
      refine ⟨_, rfl, _, rfl, _, rfl, ?_⟩
      refine ⟨v, r, j, d, rfl, hdm, hrow.mono o.k, o.t, ?_, ?_⟩
      · intro k2 e2
        rw [e2] at e
        exact ht k2 e
      · cases e2 : lkRow m r j with
        | error c =>
          rw [e2] at e
          rw [show lkAll m xs n = .error c from e] at k
          exact fun H' cls d o' h => k H' cls d (o.trans o') h
        | ok j2 =>
          rw [e2] at e
          exact fun H' o' => ⟨j2, _, rfl, o.trans o', e⟩
    · rintro σ H1 ⟨j, v3, rfl, o, e⟩
      rw [hlen, List.drop_length, lkAll_nil] at e
      rw [e] at k
      exact ⟨_, rfl, k H1 o⟩
theorem all_rowsC (F1 : Fun K "look_at_row" "look_at_row" s_row f1 d1) (m1 : mg "look_at_row" = some (.ref f1)) (b1 : Binds K d1 nRow []) (F5 : Fun K "look_at_rows" "look_at_rows" s_rows f5 d5) (m5 : mg "look_at_rows" = some (.ref f5)) (b5 : Binds K d5 ["rows", "looked", "depth"] [])
    (step : ∀ m : Nat, Dx P w K mg base "look_at_rows" (2 * m + 5) f5 d5 ["rows", "looked", "depth"] (spRowsB K T C m) → FnOk P w K mg base (L2.CX P w) (2 * m + 6) f1 d1 nRow (spRowC K T C m))
    (B : Bn mg) (N : OwnE K mg "BadRow" C.row) : ∀ m : Nat, FnOk P w K mg base (L2.CX P w) (2 * m + 7) f5 d5 ["rows", "looked", "depth"] (spRowsC K T C m)
  | 0 => ok_rowsC F5 B N ⟨step 0 ⟨⟨fun _ _ _ _ h => h.elim, fun _ _ _ _ _ _ _ _ _ _ _ _ _ h => h.elim⟩, m5, F5.kp, b5⟩, m1, F1.kp, b1⟩
  | m + 1 => ok_rowsC F5 B N ⟨step (m + 1) ⟨all_rowsC F1 m1 b1 F5 m5 b5 step B N m, m5, F5.kp, b5⟩, m1, F1.kp, b1⟩
/-- checked(rows): how many, or the first that is wrong -/
def spChecked (K : PySem.W.Frag) (T : Addr) (C : Ad) : Sp := fun vs H Q E => ∃ (x : V) (t : Th), vs = [x] ∧ ThAt K H t x ∧ TabG H T ∧ Told (lkRows 20 t 0) ∧ outn T C H Q E (lkRows 20 t 0)
theorem sc_checked : FnScope ["rows"] ["rows"] (defScope s_checked) := ⟨rfl, rfl, rfl, by decide +kernel, rfl, by decide +kernel, by decide +kernel⟩
theorem ok_checked (F : Fun K "checked" "checked" s_checked f fd) (D : Dx P w K mg base "look_at_rows" 47 f5 d5 ["rows", "looked", "depth"] (spRowsC K T C 20)) : FnOk P w K mg base (L2.CX P w) 48 f fd ["rows"] (spChecked K T C) := by
  refine F.okX sc_checked (fun vs H Q E h => ?_) (fun cdv A outer s H vs Q E hr h => ?_)
  · obtain ⟨x, t, rfl, _⟩ := h
    rfl
  obtain ⟨x, t, rfl, hx, hT, ht, k⟩ := h
  refine ⟨_, pss_one (ps_ret (pe_dx D hr (takes_of rfl rfl rfl rfl) (pa_cons (pv 0) (pa_cons pe_int (pa_cons pe_int pa_nil))))), ?_⟩
  exact ⟨_, rfl, x, t, 0, 0, rfl, by omega, hx, hT, ht, k⟩
end
end Lm
namespace Lm
open PySem L2 GxR
abbrev s_nested : Stmt := topS 32
abbrev s_whole : Stmt := topS 31
abbrev s_kind : Stmt := topS 33
abbrev s_isblk : Stmt := topS 35
abbrev s_refused : Stmt := topS 36
def spWhole : Sp := fun vs H Q _ => ∃ i : Int, vs = [.int i] ∧ Q (.bl true) H
/-- t in that many blocks -/
inductive WrapT (ss : List Str) (t : Th) : Nat → Th → Prop where
  | base : WrapT ss t 0 t
  | next {n : Nat} {u : Th} {kd nm : Str} (h : WrapT ss t n u) (hk : kd ∈ kinds) (hn : nm ∈ ss) : WrapT ss t (n + 1) (.ls [.tp [.v (.str kd), .v (.str nm), u]])
def spNestedT (K : PySem.W.Frag) : Sp := fun vs H Q _ => ∃ (x : V) (t : Th) (a : Addr) (n c : Int) (ss : List Str), vs = [x, .int n, .ref a, .int c] ∧ ThAt K H t x ∧ NamesAt K H a ss ∧ (∀ s ∈ ss, s.length ≤ 1000) ∧ 0 ≤ n ∧ n ≤ 40 ∧
  ∀ (H' : Hp) (x' : V) (t' : Th), Same H H' → ThAt K H' t' x' → WrapT ss t n.toNat t' → Q x' H'
def Th.isBlk : Th → Bool
  | .tp [.v (.str s), _, _] => Lm.isBlk s
  | _ => false
def spIsBlk (K : PySem.W.Frag) : Sp := fun vs H Q _ => ∃ (x : V) (t : Th), vs = [x] ∧ ThAt K H t x ∧ ∀ H', Same H H' → Q (.bl t.isBlk) H'
def Cls.txt : Cls → Str
  | .row => "row"
  | .name => "name"
  | .num => "number"
  | .deep _ => "deep"
def Ad.at_ (C : Ad) : Cls → Addr
  | .row => C.row
  | .name => C.name
  | .num => C.num
  | .deep _ => C.deep
def txtOf : Except Cls Nat → Str
  | .ok _ => "good"
  | .error c => c.txt
def spKind (K : PySem.W.Frag) (T : Addr) : Sp := fun vs H Q _ => ∃ (x : V) (t : Th), vs = [x] ∧ ThAt K H t x ∧ TabG H T ∧ Told (lkRows 20 t 0) ∧ ∀ H', On T H H' → Q (.str (txtOf (lkRows 20 t 0))) H'
def kindT (s : Str) : Str := ((((if decide (s = "row") = true then ("row" : Str) else Str.empty) ++ (if decide (s = "name") = true then ("name" : Str) else Str.empty)) ++ (if decide (s = "number") = true then ("number" : Str) else Str.empty)) ++ (if decide (s = "deep") = true then ("deep" : Str) else Str.empty)) ++ (if false = true then ("line" : Str) else Str.empty)
theorem kindT_is : ∀ c : Cls, kindT c.txt = c.txt
  | .row => by decide +kernel
  | .name => by decide +kernel
  | .num => by decide +kernel
  | .deep n => (by decide +kernel : kindT "deep" = "deep")
theorem once_len {b : Bool} {z : Str} (h : z.length ≤ 10) : (if b = true then z else Str.empty).length ≤ 10 := by
  cases b
  · exact Nat.zero_le _
  · exact h
def isErr : Except Cls Nat → Bool
  | .ok _ => false
  | .error _ => true
def spRefused (K : PySem.W.Frag) (T : Addr) : Sp := fun vs H Q _ => ∃ (x : V) (t : Th), vs = [x] ∧ ThAt K H t x ∧ TabG H T ∧ Told (lkRows 20 t 0) ∧ ∀ H', On T H H' → Q (.bl (isErr (lkRows 20 t 0))) H'
/-- what isinstance and except say of the error classes -/
structure ErrC (K : PySem.W.Frag) (mg : Str → Option Value) (C : Ad) (L BL : Addr) : Prop where
  gL : mg "LoopError" = some (.ref L)
  gR : mg "BadRow" = some (.ref C.row)
  gN : mg "BadName" = some (.ref C.name)
  gU : mg "BadNumber" = some (.ref C.num)
  gD : mg "TooDeep" = some (.ref C.deep)
  gB : mg "BadLine" = some (.ref BL)
  gV : mg "ValueError" = none
  exm : ∀ c, PySem.W.exmOne K (.ref (C.at_ c)) (.ref L) = some true
  exc : ∀ c, ExcC K (C.at_ c)
  kR : ∀ c, PySem.W.kitOne K (.ref (C.at_ c)) (.ref C.row) = some (decide (c.txt = "row"))
  kN : ∀ c, PySem.W.kitOne K (.ref (C.at_ c)) (.ref C.name) = some (decide (c.txt = "name"))
  kU : ∀ c, PySem.W.kitOne K (.ref (C.at_ c)) (.ref C.num) = some (decide (c.txt = "number"))
  kD : ∀ c, PySem.W.kitOne K (.ref (C.at_ c)) (.ref C.deep) = some (decide (c.txt = "deep"))
  kB : ∀ c, PySem.W.kitOne K (.ref (C.at_ c)) (.ref BL) = some false
  kV : ∀ c, PySem.W.kitOne K (.ref (C.at_ c)) (.type "ValueError") = some true
theorem errAt_cls {C : Ad} {H : Hp} {c : Cls} {cls : Value} {d : Option Addr} (h : ErrAt C H c cls d) : cls = .ref (C.at_ c) := by
  cases c with
  | row => exact h.1
  | name => exact h.1
  | num => exact h.1
  | deep n => exact h.1
theorem errAt_d {C : Ad} {H : Hp} {c : Cls} {cls : Value} {d : Option Addr} (h : ErrAt C H c cls d) : ∀ d', d = some d' → ∃ fs, H d' = some (.xd fs) := by
  cases c with
  | row => intro d' e; rw [h.2] at e; cases e
  | name => intro d' e; rw [h.2] at e; cases e
  | num => intro d' e; rw [h.2] at e; cases e
  | deep n =>
    obtain ⟨_, dd, e1, e2⟩ := h
    intro d' e
    rw [e1] at e
    cases e
    exact ⟨_, e2⟩
theorem kind3_at (z : Int) : ∃ kd, kd ∈ kinds ∧ atI ([.str "when", .str "loop", .str "again"] : List V) (z % 3) = some (.str kd) := by
  have h0 : 0 ≤ z % 3 := Int.emod_nonneg _ (by decide)
  have h1 : z % 3 < 3 := Int.emod_lt_of_pos _ (by decide)
  obtain ⟨j, ej⟩ : ∃ j : Nat, z % 3 = (j : Int) := ⟨(z % 3).toNat, by omega⟩
  rw [ej]
  match j, (by omega : j < 3) with
  | 0, _ => exact ⟨"when", by decide +kernel, atI_nat rfl⟩
  | 1, _ => exact ⟨"loop", by decide +kernel, atI_nat rfl⟩
  | 2, _ => exact ⟨"again", by decide +kernel, atI_nat rfl⟩
  | j + 3, h => exact absurd h (by omega)
theorem kind_len {kd : Str} (h : kd ∈ kinds) : kd.length ≤ 1000 := by
  rcases List.mem_cons.mp h with rfl | h
  · decide +kernel
  rcases List.mem_cons.mp h with rfl | h
  · decide +kernel
  rcases List.mem_cons.mp h with rfl | h
  · decide +kernel
  · cases h
section
variable {P : Program} {w : World} {K : PySem.W.Frag} {mg : Str → Option Value} {base : Heap} {f T f1 L BL : Addr} {fd d1 : FuncData} {C : Ad}
theorem sc_whole : FnScope ["_law_found"] ["_law_found"] (defScope s_whole) := ⟨rfl, rfl, rfl, by decide +kernel, rfl, by decide +kernel, by decide +kernel⟩
theorem ok_whole (F : Fun K "_law_whole" "_law_whole" s_whole f fd) (B : Bn mg) : FnOk P w K mg base CX0 1 f fd ["_law_found"] spWhole := by
  refine F.ok sc_whole (fun vs H Q E h => ?_) (fun cdv A outer s H vs Q E hr h => ?_)
  · obtain ⟨i, rfl, _⟩ := h
    rfl
  obtain ⟨i, rfl, k⟩ := h
  refine ⟨_, pss_one (ps_ret (pe_and (pe_callB call_isi rfl B.isinstance (by decide +kernel) (pa_cons (pv 0) (pa_cons (pe_bltn (v := .ty "int") rfl B.int (by decide +kernel) rfl) pa_nil)))
    (pe_one (pe_not (pe_callB call_isi rfl B.isinstance (by decide +kernel) (pa_cons (pv 0) (pa_cons (pe_bltn (v := .ty "bool") rfl B.bool (by decide +kernel) rfl) pa_nil))))))), ?_⟩
  exact ⟨_, rfl, _, _, _, _, true, rfl, .ty _, ty_int _, kit_ty (by decide +kernel), _, rfl, iteT ⟨_, rfl, _, _, _, _, false, rfl, .ty _, ty_int _, kit_ty (by decide +kernel), _, rfl, k⟩⟩
theorem sc_nested : FnScope ["_law_rows", "_law_count", "_law_names_here", "_law_cell", "_law_k"] ["_law_rows", "_law_count", "_law_names_here", "_law_cell"] (defScope s_nested) := ⟨rfl, rfl, rfl, by decide +kernel, rfl, by decide +kernel, by decide +kernel⟩
theorem ok_nestedT {fm : Addr} {dm : FuncData} (F : Fun K "_law_nested" "_law_nested" s_nested f fd) (mr : mg "range" = none) (M : Df P w K mg base "_law_mixed" 1 fm dm ["_law_cell", "_law_k"] spMixed) :
    FnOk P w K mg base CX0 2 f fd ["_law_rows", "_law_count", "_law_names_here", "_law_cell"] (spNestedT K) := by
  refine F.ok sc_nested (fun vs H Q E h => ?_) (fun cdv A outer s H vs Q E hr h => ?_)
  · obtain ⟨x, t, a, n, c, ss, rfl, _⟩ := h
    rfl
  obtain ⟨x, t, a, n, c, ss, rfl, hR, hN, hz, h0, h40, k⟩ := h
  have nd := sc_nested.nd
  refine ⟨_, pss_cons (ps_for PassesOwn.never rfl (pi_range1 rfl mr (pa_cons (pv 1) pa_nil)) (pg_name (i := 4) nd rfl (Or.inl rfl))
      (pss_one (ps_set (i := 0) nd rfl (Or.inl rfl) (pe_lst (pa_cons (pe_tup (pa_cons (pe_ix ix_list (pe_lst (pa_cons pe_str (pa_cons pe_str (pa_cons pe_str pa_nil)))) (pe_op op_mod (pe_df M hr (pa_cons (pv 3) (pa_cons (pv 4) pa_nil))) pe_int) (fun _ _ => rfl))
        (pa_cons (pe_ix ix_list (pv 2) (pe_op op_mod (pe_op op_fdiv (pe_df M hr (pa_cons (pv 3) (pa_cons (pv 4) pa_nil))) pe_int) pe_int) (fun _ _ => rfl)) (pa_cons (pv 0) pa_nil)))) pa_nil))))) <|
    pss_one (ps_ret (pv 0)), ?_⟩
  refine ⟨_, rfl, _, rfl, by omega, by omega, for_range (lo := 0) (n := n.toNat) (fun i σ H' => ∃ (x1 : V) (u1 : Th) (v4 : Option V), σ = [some x1, some (.int n), some (.ref a), some (.int c), v4] ∧ Same H H' ∧ ThAt K H' u1 x1 ∧ WrapT ss t i u1)
    ⟨x, t, none, rfl, Same.refl _, hR, .base⟩ ?_ ?_⟩
  · rintro i σ H1 hi ⟨x1, u1, v4, rfl, s1, hR1, hW⟩
    refine ⟨(by show 3 ≤ sizeLine; decide), fun p0 hp0 => ?_⟩
    have s2 := s1.trans (same_new hp0 (.lst [.str "when", .str "loop", .str "again"]))
    refine ⟨_, rfl, _, rfl, _, _, rfl, fun z1 _ _ => ?_⟩
    obtain ⟨kd, hkd, ekd⟩ := kind3_at z1
    have hN2 := hN.mono (Same.kp s2)
    refine ⟨_, _, rfl, rfl, (by show (0 : Int) < 3; decide), p0, _, _, _, rfl, rfl, SqL.of upd_same, ekd, _, rfl, _, rfl, _, rfl, _, _, rfl, fun z2 _ _ => ?_⟩
    obtain ⟨te, hte, ete⟩ := hN2.at (z := z2 / 3 % 8) (Int.emod_nonneg _ (by decide)) (by have := Int.emod_lt_of_pos (z2 / 3) (b := 8) (by decide); omega)
    refine ⟨_, _, rfl, rfl, ⟨by decide, by decide⟩, _, _, rfl, rfl, (by show (0 : Int) < 8; decide), a, _, _, _, rfl, rfl, hN2.1, ete, _, rfl, (by show 3 ≤ sizeLine; decide), fun p hp => ⟨(by show 1 ≤ sizeLine; decide), fun q hq => ?_⟩⟩
    have s3 := same_new hp (.tup [.str kd, .str te, x1])
    have s4 := same_new hq (.lst [.ref p])
    have hR2 := hR1.mono (Same.kp (((same_new hp0 _).trans s3).trans s4))
    exact ⟨.ref q, .ls [.tp [.v (.str kd), .v (.str te), u1]], _, rfl, (s2.trans s3).trans s4, ⟨q, [.ref p], rfl, SqL.of upd_same, .ref p, [], rfl, ⟨p, [.str kd, .str te, x1], rfl, SqT.of (s4 _ _ upd_same), .str kd, _, rfl, ⟨rfl, kind_len hkd⟩, .str te, _, rfl, ⟨rfl, hz te hte⟩, x1, [], rfl, hR2, rfl⟩, rfl⟩, .next hW hkd hte⟩
  · rintro σ H1 ⟨x1, u1, v4, rfl, s1, hR1, hW⟩
    exact ⟨_, rfl, k H1 x1 u1 s1 hR1 hW⟩
abbrev nKind : List Str := ["_law_rows", "e", "_law_found"]
theorem sc_kind : FnScope nKind ["_law_rows"] (defScope s_kind) := ⟨rfl, rfl, rfl, by decide +kernel, rfl, by decide +kernel, by decide +kernel⟩
theorem ok_kind (F : Fun K "_law_kind" "_law_kind" s_kind f fd) (B : Bn mg) (EC : ErrC K mg C L BL) (D : Dx P w K mg base "checked" 48 f1 d1 ["rows"] (spChecked K T C)) : FnOk P w K mg base CX0 49 f fd ["_law_rows"] (spKind K T) := by
  refine F.ok sc_kind (fun vs H Q E h => ?_) (fun cdv A outer s H vs Q E hr h => ?_)
  · obtain ⟨x, t, rfl, _⟩ := h
    rfl
  obtain ⟨x, t, rfl, hx, hT, ht, k⟩ := h
  have nd := sc_kind.nd
  refine ⟨_, pss_cons (ps_try_as (i := 1) rfl rfl nd rfl rfl ⟨rfl, by decide, .inl EC.gL⟩ takes0 (fun W pn xe tk _ => pss_one (ps_expr (pe_dx D hr tk (pa_cons (pv 0) pa_nil))))
      (fun a oe cls d pn hz hf => pss_cons (ps_set (i := 2) nd rfl (Or.inl rfl) (pe_op op_add_str
          (pe_op op_mul_s pe_str (pe_callTy call_int1 rfl B.int (by decide +kernel) (pa_cons (pe_callB (call_isA hz hf) rfl B.isinstance (by decide +kernel) (pa_cons (pv 1) (pa_cons (pe_glob (v := .ref C.row) rfl EC.gR rfl) pa_nil))) pa_nil)))
          (pe_op op_mul_s pe_str (pe_callTy call_int1 rfl B.int (by decide +kernel) (pa_cons (pe_callB (call_isA hz hf) rfl B.isinstance (by decide +kernel) (pa_cons (pv 1) (pa_cons (pe_glob (v := .ref C.name) rfl EC.gN rfl) pa_nil))) pa_nil))))) <|
        pss_cons (ps_set (i := 2) nd rfl (Or.inl rfl) (pe_op op_add_str (pe_op op_add_str (pv 2)
          (pe_op op_mul_s pe_str (pe_callTy call_int1 rfl B.int (by decide +kernel) (pa_cons (pe_callB (call_isA hz hf) rfl B.isinstance (by decide +kernel) (pa_cons (pv 1) (pa_cons (pe_glob (v := .ref C.num) rfl EC.gU rfl) pa_nil))) pa_nil))))
          (pe_op op_mul_s pe_str (pe_callTy call_int1 rfl B.int (by decide +kernel) (pa_cons (pe_callB (call_isA hz hf) rfl B.isinstance (by decide +kernel) (pa_cons (pv 1) (pa_cons (pe_glob (v := .ref C.deep) rfl EC.gD rfl) pa_nil))) pa_nil))))) <|
        pss_one (ps_ret (pe_op op_add_str (pv 2)
          (pe_op op_mul_s pe_str (pe_callTy call_int1 rfl B.int (by decide +kernel) (pa_cons (pe_callB (call_isA hz hf) rfl B.isinstance (by decide +kernel) (pa_cons (pv 1) (pa_cons (pe_glob (v := .ref BL) rfl EC.gB rfl) pa_nil))) pa_nil))))))) <|
    pss_one (ps_ret pe_str), ?_⟩
  refine ⟨_, rfl, x, t, rfl, hx, hT, ht, ?_⟩
  cases e : lkRows 20 t 0 with
  | ok n =>
    rw [e] at k
    exact fun H' o => k H' o
  | error c =>
    rw [e] at k
    intro H' cls d o he
    have ecls := errAt_cls he
    have ed := errAt_d he
    subst ecls
    refine ⟨true, EC.exm c, fun _ a ha => ?_, fun q => nomatch q⟩
    have hq := k H' o
    have n1 := once_len (b := decide (c.txt = "row")) (z := "row") (by decide +kernel)
    have n2 := once_len (b := decide (c.txt = "name")) (z := "name") (by decide +kernel)
    have n3 := once_len (b := decide (c.txt = "number")) (z := "number") (by decide +kernel)
    have n4 := once_len (b := decide (c.txt = "deep")) (z := "deep") (by decide +kernel)
    have n5 := once_len (b := false) (z := "line") (by decide +kernel)
    refine ⟨_, rfl, C.at_ c, _, _, _, rfl, rfl, EC.exc c, ed, fun _ r => r, EC.kR c, .inr ⟨_, rfl, _, _, rfl, rfl, by decide +kernel, ?_⟩⟩
    refine ⟨_, rfl, C.at_ c, _, _, _, rfl, rfl, EC.exc c, ed, fun _ r => r, EC.kN c, .inr ⟨_, rfl, _, _, rfl, rfl, by decide +kernel, _, _, rfl, rfl, ?_, ?_⟩⟩
    · rw [sizeLine_eq]; omega
    refine ⟨_, rfl, _, rfl, C.at_ c, _, _, _, rfl, rfl, EC.exc c, ed, fun _ r => r, EC.kU c, .inr ⟨_, rfl, _, _, rfl, rfl, by decide +kernel, _, _, rfl, rfl, ?_, ?_⟩⟩
    · simp only [app_len]; rw [sizeLine_eq]; omega
    refine ⟨_, rfl, C.at_ c, _, _, _, rfl, rfl, EC.exc c, ed, fun _ r => r, EC.kD c, .inr ⟨_, rfl, _, _, rfl, rfl, by decide +kernel, _, _, rfl, rfl, ?_, ?_⟩⟩
    · simp only [app_len]; rw [sizeLine_eq]; omega
    refine ⟨_, rfl, _, rfl, C.at_ c, _, _, _, rfl, rfl, EC.exc c, ed, fun _ r => r, EC.kB c, .inr ⟨_, rfl, _, _, rfl, rfl, by decide +kernel, _, _, rfl, rfl, ?_, ?_⟩⟩
    · simp only [app_len]; rw [sizeLine_eq]; omega
    rw [show txtOf (.error c) = kindT c.txt from (kindT_is c).symm] at hq
    exact hq
end
end Lm
namespace Lm
open PySem L2 GxR
section
variable {P : Program} {w : World} {K : PySem.W.Frag} {mg : Str → Option Value} {base : Heap} {f T f1 L BL : Addr} {fd d1 : FuncData} {C : Ad}
abbrev nRef : List Str := ["_law_rows", "e"]
theorem sc_refused : FnScope nRef ["_law_rows"] (defScope s_refused) := ⟨rfl, rfl, rfl, by decide +kernel, rfl, by decide +kernel, by decide +kernel⟩
theorem ok_refused (F : Fun K "_law_refused_by_any" "_law_refused_by_any" s_refused f fd) (B : Bn mg) (EC : ErrC K mg C L BL) (D : Dx P w K mg base "checked" 48 f1 d1 ["rows"] (spChecked K T C)) : FnOk P w K mg base CX0 49 f fd ["_law_rows"] (spRefused K T) := by
  refine F.ok sc_refused (fun vs H Q E h => ?_) (fun cdv A outer s H vs Q E hr h => ?_)
  · obtain ⟨x, t, rfl, _⟩ := h
    rfl
  obtain ⟨x, t, rfl, hx, hT, ht, k⟩ := h
  have nd := sc_refused.nd
  refine ⟨_, pss_cons (ps_try_as (i := 1) rfl rfl nd rfl rfl ⟨rfl, by decide, .inl EC.gL⟩ takes0 (fun W pn xe tk _ => pss_one (ps_expr (pe_dx D hr tk (pa_cons (pv 0) pa_nil))))
      (fun a oe cls d pn hz hf => pss_one (ps_ret (pe_callB (call_isA hz hf) rfl B.isinstance (by decide +kernel) (pa_cons (pv 1) (pa_cons (pe_bltn (v := .ty "ValueError") rfl EC.gV (by decide +kernel) rfl) pa_nil)))))) <|
    pss_one (ps_ret pe_bl), ?_⟩
  refine ⟨_, rfl, x, t, rfl, hx, hT, ht, ?_⟩
  cases e : lkRows 20 t 0 with
  | ok n =>
    rw [e] at k
    exact fun H' o => k H' o
  | error c =>
    rw [e] at k
    intro H' cls d o he
    have ecls := errAt_cls he
    have ed := errAt_d he
    subst ecls
    refine ⟨true, EC.exm c, fun _ a ha => ?_, fun q => nomatch q⟩
    exact ⟨_, rfl, C.at_ c, _, _, _, rfl, rfl, EC.exc c, ed, fun _ r => r, EC.kV c, k H' o⟩
theorem sc_isblk : FnScope ["_law_row"] ["_law_row"] (defScope s_isblk) := ⟨rfl, rfl, rfl, by decide +kernel, rfl, by decide +kernel, by decide +kernel⟩
theorem isblk_noT {t : Th} (h : t.isT = false) : t.isBlk = false := by
  match t, h with
  | .v _, _ => rfl
  | .ls xs, _ => rfl
  | .dc, _ => rfl
theorem isblk_len {xs : List Th} (h : xs.length ≠ 3) : (Th.tp xs).isBlk = false := by
  match xs, h with
  | [], _ => rfl
  | [a], _ => cases a with
    | v y => cases y <;> rfl
    | _ => rfl
  | [a, b], _ => cases a with
    | v y => cases y <;> rfl
    | _ => rfl
  | [a, b, c], h => exact absurd rfl h
  | a :: b :: c :: d :: xs, _ => cases a with
    | v y => cases y <;> rfl
    | _ => rfl
theorem isblk_noS {a b c : Th} (h : a.isS = false) : (Th.tp [a, b, c]).isBlk = false := by
  match a, h with
  | .v (.int i), _ => rfl
  | .v (.bl b), _ => rfl
  | .v .non, _ => rfl
  | .v (.byt b), _ => rfl
  | .v (.flt b), _ => rfl
  | .v (.ref b), _ => rfl
  | .v (.ty b), _ => rfl
  | .tp xs, _ => rfl
  | .ls xs, _ => rfl
  | .dc, _ => rfl
theorem ok_isBlk (F : Fun K "_law_is_block" "_law_is_block" s_isblk f fd) (B : Bn mg) : FnOk P w K mg base CX0 1 f fd ["_law_row"] (spIsBlk K) := by
  refine F.ok sc_isblk (fun vs H Q E h => ?_) (fun cdv A outer s H vs Q E hr h => ?_)
  · obtain ⟨x, t, rfl, _⟩ := h
    rfl
  obtain ⟨x, t, rfl, hx, k⟩ := h
  refine ⟨_, pss_cons (ps_if (PW.pt (pw_or (pt_not (pt_val (pe_callB call_isi rfl B.isinstance (by decide +kernel) (pa_cons (pv 0) (pa_cons (pe_bltn (v := .ty "tuple") rfl B.tuple (by decide +kernel) rfl) pa_nil)))))
      (pw_or (pt_cmpR op_ne (pe_callB call_len_seq rfl B.len PySem.boot_len (pa_cons (pv 0) pa_nil)) pe_int (nomark _))
      (pw_or1 (pt_not (pt_val (pe_callB call_isi rfl B.isinstance (by decide +kernel) (pa_cons (pe_ix ix_tup (pv 0) pe_int (fun _ _ => rfl)) (pa_cons (pe_bltn (v := .ty "str") rfl B.str (by decide +kernel) rfl) pa_nil)))))))))
      (pss_one (ps_ret pe_bl)) pss_nil) <|
    pss_one (ps_ret (pe_cmpR op_in_seq (pe_ix ix_tup (pv 0) pe_int (fun _ _ => rfl)) (pe_tup (pa_cons pe_str (pa_cons pe_str (pa_cons pe_str pa_nil)))) (by rfl))), ?_⟩
  refine ⟨_, rfl, _, _, _, _, t.isT, rfl, .ty _, hx.ty, t.kit "tuple" t.kit_tuple, _, rfl, ?_⟩
  cases hs : t.isT with
  | false =>
    have q := k H (Same.refl H)
    rw [isblk_noT hs] at q
    exact iteT (iteT q)
  | true =>
  obtain ⟨xs, rfl⟩ := isT_is hs
  obtain ⟨p, vs, rfl, h2, h3⟩ := hx
  have hl := h3.len
  refine iteF ⟨_, rfl, p, _, rfl, .inr h2, rfl, _, rfl, ?_⟩
  by_cases c : xs.length = 3
  · obtain ⟨a, b, e, rfl⟩ : ∃ a b e, xs = [a, b, e] := by
      match xs, c with
      | [a, b, e], _ => exact ⟨a, b, e, rfl⟩
    obtain ⟨a', u1, rfl, ha, b', u2, rfl, hb, e', u3, rfl, he, h5⟩ := h3
    obtain rfl : u3 = [] := h5
    refine iteNS rfl ⟨_, rfl, p, _, _, _, rfl, rfl, h2, atI_nat (j := 0) rfl, _, _, _, _, a.isS, rfl, .ty _, ha.ty, a.kit "str" a.kit_str, _, rfl, ?_⟩
    cases hw : a.isS with
    | false =>
      have q := k H (Same.refl H)
      rw [isblk_noS hw] at q
      exact iteT q
    | true =>
      obtain ⟨z, rfl⟩ := isS_is hw
      obtain ⟨ha1, _⟩ := ha
      subst ha1
      refine iteF ⟨_, rfl, p, _, _, _, rfl, rfl, h2, atI_nat (j := 0) rfl, (by show 3 ≤ sizeLine; decide), fun q hq => ⟨q, _, rfl, .inr (SqT.of upd_same), rfl, by decide +kernel, ?_⟩⟩
      exact k _ (same_new hq _)
  · have q := k H (Same.refl H)
    rw [isblk_len c] at q
    refine ifT ?_ (iteT q)
    rw [decide_eq_false (fun e => c (by have := V.int.inj e; omega))]
    rfl
end
end Lm
namespace Lm
open PySem L2 GxR
abbrev s_bad : Stmt := topS 34
/-- what is wrong with a row that is looked at below the limit of blocks -/
def badOf : Th → Option Cls
  | .tp [.v (.str s), a] => if s = "say" then ckWorth a else some .row
  | .tp [.v (.str s), a, r] => if isBlk s then (match ckName a with | some c => some c | none => if r.isL then none else some .row) else some .row
  | .tp [.v (.str s), a, b, c, e] => if s = "let" then ckLet [a, b, c, e] else some .row
  | _ => some .row
def chk : Th → Bool
  | .tp [x, .v (.str d)] => (decide (d = "row") && decide (badOf x = some .row)) || (decide (d = "name") && x.isS && !x.isN) || (decide (d = "number") && !x.isS && !x.isNum)
  | _ => false
/-- the row th is wrong, and due tells how -/
structure BadAs (th : Th) (due : Str) : Prop where
  c : ∃ c, badOf th = some c ∧ c.txt = due ∧ due ≠ "good" ∧ due ≠ "deep"
def stE : Stmt → List Expr
  | .Assign _ (.List es _) _ => es
  | .Assign _ (.BinOp _ _ (.List es _) _) _ => es
  | _ => []
def lbs (k : Nat) : List Th := (litsBy (lit 6) (stE ((defBody s_bad).getD k (.Pass ⟨0, 0, 0, 0⟩)))).getD []
def LB : List Th := lbs 0 ++ lbs 1 ++ lbs 2 ++ lbs 3 ++ lbs 4 ++ lbs 5 ++ lbs 6 ++ lbs 7 ++ lbs 8 ++ lbs 9 ++ lbs 10 ++ lbs 11 ++ lbs 12 ++ lbs 13 ++ lbs 14
theorem LB_len : LB.length = 54 := by decide +kernel
theorem LB_chk : LB.all chk = true := by decide +kernel
theorem lb_ok (k : Nat) (h : (litsBy (lit 6) (stE ((defBody s_bad).getD k (.Pass ⟨0, 0, 0, 0⟩)))).isSome = true) : litsBy (lit 6) (stE ((defBody s_bad).getD k (.Pass ⟨0, 0, 0, 0⟩))) = some (lbs k) := by
  unfold lbs
  cases e : litsBy (lit 6) (stE ((defBody s_bad).getD k (.Pass ⟨0, 0, 0, 0⟩))) with
  | none => rw [e] at h; cases h
  | some ts => rfl
theorem lb0 : litsBy (lit 6) (stE ((defBody s_bad).getD 0 (.Pass ⟨0, 0, 0, 0⟩))) = some (lbs 0) := lb_ok 0 (by decide +kernel)
theorem lb1 : litsBy (lit 6) (stE ((defBody s_bad).getD 1 (.Pass ⟨0, 0, 0, 0⟩))) = some (lbs 1) := lb_ok 1 (by decide +kernel)
theorem lb2 : litsBy (lit 6) (stE ((defBody s_bad).getD 2 (.Pass ⟨0, 0, 0, 0⟩))) = some (lbs 2) := lb_ok 2 (by decide +kernel)
theorem lb3 : litsBy (lit 6) (stE ((defBody s_bad).getD 3 (.Pass ⟨0, 0, 0, 0⟩))) = some (lbs 3) := lb_ok 3 (by decide +kernel)
theorem lb4 : litsBy (lit 6) (stE ((defBody s_bad).getD 4 (.Pass ⟨0, 0, 0, 0⟩))) = some (lbs 4) := lb_ok 4 (by decide +kernel)
theorem lb5 : litsBy (lit 6) (stE ((defBody s_bad).getD 5 (.Pass ⟨0, 0, 0, 0⟩))) = some (lbs 5) := lb_ok 5 (by decide +kernel)
theorem lb6 : litsBy (lit 6) (stE ((defBody s_bad).getD 6 (.Pass ⟨0, 0, 0, 0⟩))) = some (lbs 6) := lb_ok 6 (by decide +kernel)
theorem lb7 : litsBy (lit 6) (stE ((defBody s_bad).getD 7 (.Pass ⟨0, 0, 0, 0⟩))) = some (lbs 7) := lb_ok 7 (by decide +kernel)
theorem lb8 : litsBy (lit 6) (stE ((defBody s_bad).getD 8 (.Pass ⟨0, 0, 0, 0⟩))) = some (lbs 8) := lb_ok 8 (by decide +kernel)
theorem lb9 : litsBy (lit 6) (stE ((defBody s_bad).getD 9 (.Pass ⟨0, 0, 0, 0⟩))) = some (lbs 9) := lb_ok 9 (by decide +kernel)
theorem lb10 : litsBy (lit 6) (stE ((defBody s_bad).getD 10 (.Pass ⟨0, 0, 0, 0⟩))) = some (lbs 10) := lb_ok 10 (by decide +kernel)
theorem lb11 : litsBy (lit 6) (stE ((defBody s_bad).getD 11 (.Pass ⟨0, 0, 0, 0⟩))) = some (lbs 11) := lb_ok 11 (by decide +kernel)
theorem lb12 : litsBy (lit 6) (stE ((defBody s_bad).getD 12 (.Pass ⟨0, 0, 0, 0⟩))) = some (lbs 12) := lb_ok 12 (by decide +kernel)
theorem lb13 : litsBy (lit 6) (stE ((defBody s_bad).getD 13 (.Pass ⟨0, 0, 0, 0⟩))) = some (lbs 13) := lb_ok 13 (by decide +kernel)
theorem lb14 : litsBy (lit 6) (stE ((defBody s_bad).getD 14 (.Pass ⟨0, 0, 0, 0⟩))) = some (lbs 14) := lb_ok 14 (by decide +kernel)
theorem lbs_len : (lbs 0).length + (lbs 1).length + (lbs 2).length + (lbs 3).length + (lbs 4).length + (lbs 5).length + (lbs 6).length + (lbs 7).length + (lbs 8).length + (lbs 9).length + (lbs 10).length + (lbs 11).length + (lbs 12).length + (lbs 13).length + (lbs 14).length = 54 := by decide +kernel
theorem chk_is {t : Th} (h : chk t = true) : ∃ x d, t = .tp [x, .v (.str d)] ∧ ((d = "row" ∧ badOf x = some .row) ∨ (d ≠ "row" ∧ d ≠ "good" ∧ d ≠ "deep" ∧ ckName x = some .name ∧ ∃ c, ckWorth x = some c ∧ c.txt = d)) := by
  match t, h with
  | .tp [x, .v (.str d)], h =>
    have h' : ((decide (d = "row") && decide (badOf x = some .row)) || (decide (d = "name") && x.isS && !x.isN) || (decide (d = "number") && !x.isS && !x.isNum)) = true := h
    refine ⟨x, d, rfl, ?_⟩
    simp only [Bool.or_eq_true, Bool.and_eq_true, decide_eq_true_eq, Bool.not_eq_true'] at h'
    rcases h' with (⟨h1, h2⟩ | ⟨⟨h1, h2⟩, h3⟩) | ⟨⟨h1, h2⟩, h3⟩
    · exact .inl ⟨h1, h2⟩
    · subst h1
      have e1 : ckName x = some .name := by unfold ckName; rw [h3]; rfl
      exact .inr ⟨by decide +kernel, by decide +kernel, by decide +kernel, e1, .name, by unfold ckWorth; rw [h2]; exact e1, rfl⟩
    · subst h1
      have e1 : ckName x = some .name := by unfold ckName; rw [isN_not h2]; rfl
      exact .inr ⟨by decide +kernel, by decide +kernel, by decide +kernel, e1, .num, by unfold ckWorth; rw [h2, h3]; rfl, rfl⟩
theorem ck_a : ckName (.v (.str "a")) = none := by decide +kernel
theorem ck_z : ckName (.v (.str "z")) = none := by decide +kernel
theorem ck_wb : ckWorth (.v (.str "b")) = none := by decide +kernel
theorem ck_lt : ckSign (.v (.str "<")) = none := by decide +kernel
theorem ck_dv : ckSign (.v (.str "/")) = none := by decide +kernel
theorem bad_say {x : Th} {c : Cls} (h : ckWorth x = some c) : badOf (.tp [.v (.str "say"), x]) = some c := by
  show (if ("say" : Str) = "say" then ckWorth x else some .row) = _
  rw [if_pos rfl, h]
theorem bad_w1 {x : Th} {c : Cls} (h : ckWorth x = some c) : badOf (.tp [.v (.str "let"), .v (.str "a"), .v (.str "<"), .v (.str "b"), x]) = some c := by
  show (if ("let" : Str) = "let" then ckLet [.v (.str "a"), .v (.str "<"), .v (.str "b"), x] else some .row) = _
  rw [if_pos rfl, ckLet4 ck_a ck_lt ck_wb, h]
theorem bad_w2 {x : Th} {c : Cls} {e : Th} (h : ckWorth x = some c) : badOf (.tp [.v (.str "let"), .v (.str "z"), .v (.str "/"), x, e]) = some c := by
  show (if ("let" : Str) = "let" then ckLet [.v (.str "z"), .v (.str "/"), x, e] else some .row) = _
  rw [if_pos rfl, ckLet3 ck_z ck_dv h]
theorem bad_w3 {x b c e : Th} (h : ckName x = some .name) : badOf (.tp [.v (.str "let"), x, b, c, e]) = some .name := by
  show (if ("let" : Str) = "let" then ckLet [x, b, c, e] else some .row) = _
  rw [if_pos rfl, ckLet1 h]
theorem bad_w4 {kd : Str} {x r : Th} (hk : isBlk kd = true) (h : ckName x = some .name) : badOf (.tp [.v (.str kd), x, r]) = some .name := by
  show (if isBlk kd then (match ckName x with | some c => some c | none => if r.isL then none else some .row) else some .row) = _
  rw [if_pos hk, h]
theorem kinds_blk {kd : Str} (h : kd ∈ kinds) : isBlk kd = true := kd_in h
theorem strAt {K : PySem.W.Frag} {H : Hp} {s : Str} (h : s.length ≤ 1000) : ThAt K H (.v (.str s)) (.str s) := ⟨rfl, h⟩
theorem two_at (z : Int) : ∃ v t, ((v = V.str "+" ∧ t = Th.v (.str "+")) ∨ (v = V.non ∧ t = Th.v .non)) ∧ atI ([.str "+", .non] : List V) (z % 2) = some v := by
  have h0 : 0 ≤ z % 2 := Int.emod_nonneg _ (by decide)
  have h1 : z % 2 < 2 := Int.emod_lt_of_pos _ (by decide)
  obtain ⟨j, ej⟩ : ∃ j : Nat, z % 2 = (j : Int) := ⟨(z % 2).toNat, by omega⟩
  rw [ej]
  match j, (by omega : j < 2) with
  | 0, _ => exact ⟨_, _, .inl ⟨rfl, rfl⟩, atI_nat rfl⟩
  | 1, _ => exact ⟨_, _, .inr ⟨rfl, rfl⟩, atI_nat rfl⟩
  | j + 2, h => exact absurd h (by omega)
theorem cat_step {K : PySem.W.Frag} {ts TS : List Th} {D : Ends} {n v2 v3 : Option V} {l : Addr} {xs : List V} {HB H : Hp} (s0 : Same HB H) (hl : H l = some (.lst xs)) (hx : ThsAt K (nw HB H) TS xs) (hz : TS.length + ts.length ≤ 1000)
    (h : ∀ p ws H', Same H H' → H' p = some (.lst ws) → ThsAt K (nw HB H') (TS ++ ts) ws → D.nx [n, some (.ref p), v2, v3] H') : tAsg (tOp rCat (tVar 1) (tLst (tLits K ts))) (gName 1) D [n, some (.ref l), v2, v3] H := by
  refine ⟨_, rfl, fun vs H1 s1 h1 => ⟨?_, fun b hb => ?_⟩⟩
  · rw [h1.len, sizeLine_eq]
    omega
  · have s2 := s1.trans (same_new hb (.lst vs))
    refine ⟨l, b, xs, vs, rfl, rfl, s2 _ _ hl, upd_same, ?_, fun p hp => ?_⟩
    · rw [h1.len, hx.len, sizeLine_eq]
      omega
    · have s3 := same_new hp (.lst (xs ++ vs))
      exact h p _ _ (s2.trans s3) upd_same ((hx.mono (Same.kp (nw_mono (s2.trans s3)))).app (h1.mono (Same.kp ((nw_left s0).trans (nw_mono ((same_new hb _).trans s3))))))
def spBad (K : PySem.W.Frag) : Sp := fun vs H Q _ => ∃ n : Int, vs = [.int n] ∧ 0 ≤ n ∧ ∀ (p : Addr) (v : V) (th : Th) (due : Str) (H' : Hp), Same H H' → SqT K H' p [v, .str due] → ThAt K (nw H H') th v → BadAs th due → Q (.ref p) H'
abbrev nBad : List Str := ["_law_number", "_law_some", "_law_thing", "_law_way"]
theorem sc_bad : FnScope nBad ["_law_number"] (defScope s_bad) := ⟨rfl, rfl, rfl, by decide +kernel, rfl, by decide +kernel, by decide +kernel⟩
section
variable {P : Program} {w : World} {K : PySem.W.Frag} {mg : Str → Option Value} {base : Heap} {f : Addr} {fd : FuncData}
theorem ok_bad (F : Fun K "_law_bad_row" "_law_bad_row" s_bad f fd) (B : Bn mg) : FnOk P w K mg base CX0 1 f fd ["_law_number"] (spBad K) := by
  refine F.ok sc_bad (fun vs H Q E h => ?_) (fun cdv A outer s H vs Q E hr h => ?_)
  · obtain ⟨n, rfl, _⟩ := h
    rfl
  obtain ⟨n, rfl, h0, k⟩ := h
  have nd := sc_bad.nd
  refine ⟨_, pss_cons (ps_set (i := 1) nd rfl (Or.inl rfl) (pe_lst (pa_lits pe_lit lb0))) <|
    pss_cons (ps_set (i := 1) nd rfl (Or.inl rfl) (pe_op op_cat (pv 1) (pe_lst (pa_lits pe_lit lb1)))) <|
    pss_cons (ps_set (i := 1) nd rfl (Or.inl rfl) (pe_op op_cat (pv 1) (pe_lst (pa_lits pe_lit lb2)))) <|
    pss_cons (ps_set (i := 1) nd rfl (Or.inl rfl) (pe_op op_cat (pv 1) (pe_lst (pa_lits pe_lit lb3)))) <|
    pss_cons (ps_set (i := 1) nd rfl (Or.inl rfl) (pe_op op_cat (pv 1) (pe_lst (pa_lits pe_lit lb4)))) <|
    pss_cons (ps_set (i := 1) nd rfl (Or.inl rfl) (pe_op op_cat (pv 1) (pe_lst (pa_lits pe_lit lb5)))) <|
    pss_cons (ps_set (i := 1) nd rfl (Or.inl rfl) (pe_op op_cat (pv 1) (pe_lst (pa_lits pe_lit lb6)))) <|
    pss_cons (ps_set (i := 1) nd rfl (Or.inl rfl) (pe_op op_cat (pv 1) (pe_lst (pa_lits pe_lit lb7)))) <|
    pss_cons (ps_set (i := 1) nd rfl (Or.inl rfl) (pe_op op_cat (pv 1) (pe_lst (pa_lits pe_lit lb8)))) <|
    pss_cons (ps_set (i := 1) nd rfl (Or.inl rfl) (pe_op op_cat (pv 1) (pe_lst (pa_lits pe_lit lb9)))) <|
    pss_cons (ps_set (i := 1) nd rfl (Or.inl rfl) (pe_op op_cat (pv 1) (pe_lst (pa_lits pe_lit lb10)))) <|
    pss_cons (ps_set (i := 1) nd rfl (Or.inl rfl) (pe_op op_cat (pv 1) (pe_lst (pa_lits pe_lit lb11)))) <|
    pss_cons (ps_set (i := 1) nd rfl (Or.inl rfl) (pe_op op_cat (pv 1) (pe_lst (pa_lits pe_lit lb12)))) <|
    pss_cons (ps_set (i := 1) nd rfl (Or.inl rfl) (pe_op op_cat (pv 1) (pe_lst (pa_lits pe_lit lb13)))) <|
    pss_cons (ps_set (i := 1) nd rfl (Or.inl rfl) (pe_op op_cat (pv 1) (pe_lst (pa_lits pe_lit lb14)))) <|
    pss_cons (ps_set (i := 2) nd rfl (Or.inl rfl) (pe_ix ix_list (pv 1) (pe_op op_mod (pv 0) (pe_callB call_len_seq rfl B.len PySem.boot_len (pa_cons (pv 1) pa_nil))) (fun _ _ => rfl))) <|
    pss_cons (ps_set (i := 3) nd rfl (Or.inl rfl) (pe_op op_mod (pe_op op_fdiv (pv 0) (pe_callB call_len_seq rfl B.len PySem.boot_len (pa_cons (pv 1) pa_nil))) pe_int)) <|
    pss_cons (ps_if (pt_cmpR op_eq (pe_ix ix_tup (pv 2) pe_int (fun _ _ => rfl)) pe_str (nomark _)) (pss_one (ps_ret (pv 2))) pss_nil) <|
    pss_cons (ps_if (pt_cmpR op_eq (pv 3) pe_int (nomark _)) (pss_one (ps_ret (pe_tup (pa_cons (pe_tup (pa_cons pe_str (pa_cons (pe_ix ix_tup (pv 2) pe_int (fun _ _ => rfl)) pa_nil))) (pa_cons (pe_ix ix_tup (pv 2) pe_int (fun _ _ => rfl)) pa_nil))))) pss_nil) <|
    pss_cons (ps_if (pt_cmpR op_eq (pv 3) pe_int (nomark _)) (pss_one (ps_ret (pe_tup (pa_cons (pe_tup (pa_cons pe_str (pa_cons pe_str (pa_cons pe_str (pa_cons pe_str (pa_cons (pe_ix ix_tup (pv 2) pe_int (fun _ _ => rfl)) pa_nil)))))) (pa_cons (pe_ix ix_tup (pv 2) pe_int (fun _ _ => rfl)) pa_nil))))) pss_nil) <|
    pss_cons (ps_if (pt_cmpR op_eq (pv 3) pe_int (nomark _)) (pss_one (ps_ret (pe_tup (pa_cons (pe_tup (pa_cons pe_str (pa_cons pe_str (pa_cons pe_str (pa_cons (pe_ix ix_tup (pv 2) pe_int (fun _ _ => rfl)) (pa_cons (pe_un un_neg pe_int) pa_nil)))))) (pa_cons (pe_ix ix_tup (pv 2) pe_int (fun _ _ => rfl)) pa_nil))))) pss_nil) <|
    pss_cons (ps_if (pt_cmpR op_eq (pv 3) pe_int (nomark _)) (pss_one (ps_ret (pe_tup (pa_cons (pe_tup (pa_cons pe_str (pa_cons (pe_ix ix_tup (pv 2) pe_int (fun _ _ => rfl)) (pa_cons (pe_ix ix_list (pe_lst (pa_cons pe_str (pa_cons pe_non pa_nil))) (pe_op op_mod (pv 0) pe_int) (fun _ _ => rfl)) (pa_cons pe_int (pa_cons pe_str pa_nil)))))) (pa_cons pe_str pa_nil))))) pss_nil) <|
    pss_one (ps_ret (pe_tup (pa_cons (pe_tup (pa_cons (pe_ix ix_list (pe_lst (pa_cons pe_str (pa_cons pe_str (pa_cons pe_str pa_nil)))) (pe_op op_mod (pe_op op_fdiv (pv 0) pe_int) pe_int) (fun _ _ => rfl)) (pa_cons (pe_ix ix_tup (pv 2) pe_int (fun _ _ => rfl)) (pa_cons pe_non pa_nil)))) (pa_cons pe_str pa_nil)))), ?_⟩
  have hlen := lbs_len
  refine fun vs0 H0 s0 h0' => ⟨?_, fun p0 hp0 => ?_⟩
  · rw [h0'.len, sizeLine_eq]
    omega
  have e0 : (upd H0 p0 (.lst vs0)) p0 = some (.lst vs0) := upd_same
  have t0 := s0.trans (same_new hp0 (.lst vs0))
  have a0 := h0'.mono (Same.kp (nw_mono (same_new hp0 (.lst vs0))))
  refine cat_step t0 e0 a0 (by (try simp only [List.length_append]); omega) fun p1 ws1 H1 s1 e1 a1 => ?_
  have t1 := t0.trans s1
  refine cat_step t1 e1 a1 (by (try simp only [List.length_append]); omega) fun p2 ws2 H2 s2 e2 a2 => ?_
  have t2 := t1.trans s2
  refine cat_step t2 e2 a2 (by (try simp only [List.length_append]); omega) fun p3 ws3 H3 s3 e3 a3 => ?_
  have t3 := t2.trans s3
  refine cat_step t3 e3 a3 (by (try simp only [List.length_append]); omega) fun p4 ws4 H4 s4 e4 a4 => ?_
  have t4 := t3.trans s4
  refine cat_step t4 e4 a4 (by (try simp only [List.length_append]); omega) fun p5 ws5 H5 s5 e5 a5 => ?_
  have t5 := t4.trans s5
  refine cat_step t5 e5 a5 (by (try simp only [List.length_append]); omega) fun p6 ws6 H6 s6 e6 a6 => ?_
  have t6 := t5.trans s6
  refine cat_step t6 e6 a6 (by (try simp only [List.length_append]); omega) fun p7 ws7 H7 s7 e7 a7 => ?_
  have t7 := t6.trans s7
  refine cat_step t7 e7 a7 (by (try simp only [List.length_append]); omega) fun p8 ws8 H8 s8 e8 a8 => ?_
  have t8 := t7.trans s8
  refine cat_step t8 e8 a8 (by (try simp only [List.length_append]); omega) fun p9 ws9 H9 s9 e9 a9 => ?_
  have t9 := t8.trans s9
  refine cat_step t9 e9 a9 (by (try simp only [List.length_append]); omega) fun p10 ws10 H10 s10 e10 a10 => ?_
  have t10 := t9.trans s10
  refine cat_step t10 e10 a10 (by (try simp only [List.length_append]); omega) fun p11 ws11 H11 s11 e11 a11 => ?_
  have t11 := t10.trans s11
  refine cat_step t11 e11 a11 (by (try simp only [List.length_append]); omega) fun p12 ws12 H12 s12 e12 a12 => ?_
  have t12 := t11.trans s12
  refine cat_step t12 e12 a12 (by (try simp only [List.length_append]); omega) fun p13 ws13 H13 s13 e13 a13 => ?_
  have t13 := t12.trans s13
  refine cat_step t13 e13 a13 (by (try simp only [List.length_append]); omega) fun p14 ws14 H14 s14 e14 a14 => ?_
  have t14 := t13.trans s14
  have A : ThsAt K (nw H H14) LB ws14 := a14
  have hw : ws14.length = 54 := by rw [A.len, LB_len]
  have n54 : 0 ≤ n % 54 := Int.emod_nonneg _ (by decide)
  have n54' : n % 54 < 54 := Int.emod_lt_of_pos _ (by decide)
  have hlw : (((ws14.length : Nat)) : Int) = 54 := by rw [hw]; rfl
  have hj : (n % 54).toNat < ws14.length := by omega
  have hj2 : ws14[(n % 54).toNat]? = some ws14[(n % 54).toNat] := List.getElem?_eq_getElem hj
  obtain ⟨t1, ht1, hx1⟩ := A.at hj2
  have hc : chk t1 = true := List.all_eq_true.mp LB_chk t1 (List.mem_of_getElem? ht1)
  obtain ⟨x, d, rfl, hd⟩ := chk_is hc
  obtain ⟨pt, vs1, ep, hT0, xv, u1, rfl, hx, dv, u2, rfl, hdv, h5⟩ := hx1
  obtain rfl : u2 = [] := h5
  obtain ⟨hdv1, hd9⟩ := hdv
  subst hdv1
  have hT := Kp.sqT (Same.kp nw_same) hT0
  refine ⟨_, rfl, _, rfl, _, rfl, p14, _, rfl, .inl (SqL.of e14), _, _, rfl, rfl, (by show (0 : Int) < ((ws14.length : Nat) : Int); omega), p14, _, _, .ref pt, rfl, rfl, SqL.of e14, ?_, ?_⟩
  · rw [hlw]
    exact at_of (j := (n % 54).toNat) (by omega) (by rw [hj2, ep])
  refine ⟨_, rfl, _, rfl, p14, _, rfl, .inl (SqL.of e14), _, _, rfl, rfl, ⟨by omega, by omega⟩, _, _, rfl, rfl, (by show (0 : Int) < 5; decide), ?_⟩
  rw [hlw]
  refine ⟨_, rfl, pt, _, _, _, rfl, rfl, hT, atI_nat (j := 1) rfl, rfl, _, rfl, ?_⟩
  rcases hd with ⟨rfl, hb⟩ | ⟨d1, d2, d3, hn, c, hc1, hc2⟩
  · exact ifT (decide_eq_true rfl) ⟨_, rfl, k pt xv x "row" H14 t14 hT hx ⟨.row, hb, rfl, by decide +kernel, by decide +kernel⟩⟩
  refine ifF (decide_eq_false (fun e => d1 (V.str.inj e))) ?_
  have fin : ∀ {q p : Addr} {us : List V} {th : Th} {due : Str} {H1 : Hp}, Same H14 H1 → H1 q = none → (∀ H2, Same (nw H H14) H2 → SqT K H2 q us → ThAt K H2 th (.ref q)) → BadAs th due → (upd H1 q (.tup us)) p = none →
      Q (.ref p) (upd (upd H1 q (.tup us)) p (.tup [.ref q, .str due])) := fun {q p us th due H1} s h1 ht hb hp => by
    have s2 := same_new h1 (.tup us)
    have s3 := same_new hp (.tup [.ref q, .str due])
    have t9 := s.trans (s2.trans s3)
    exact k p (.ref q) th due _ (t14.trans t9) (SqT.of upd_same) (ht _ (nw_mono t9) (SqT.of (by rw [nw_at (same_none (t14.trans s) h1)]; exact s3 _ _ upd_same))) hb
  refine ⟨_, rfl, rfl, _, rfl, ite2 (fun _ => ?_) fun _ => ?_⟩
  · refine ⟨_, rfl, pt, _, _, _, rfl, rfl, hT, atI_nat (j := 0) rfl, (by show 2 ≤ sizeLine; decide), fun q hq => ⟨_, rfl, pt, _, _, _, rfl, rfl, Kp.sqT (Same.kp (same_new hq _)) hT, atI_nat (j := 1) rfl, (by show 2 ≤ sizeLine; decide), fun p hp => ?_⟩⟩
    exact fin (th := .tp [.v (.str "say"), x]) (Same.refl _) hq (fun H2 s2 h2 => ⟨q, _, rfl, h2, _, _, rfl, ⟨rfl, by show ("say" : Str).length ≤ 1000; decide +kernel⟩, xv, [], rfl, hx.mono (Same.kp s2), rfl⟩) ⟨c, bad_say hc1, hc2, d2, d3⟩ hp
  refine ⟨_, rfl, rfl, _, rfl, ite2 (fun _ => ?_) fun _ => ?_⟩
  · refine ⟨_, rfl, pt, _, _, _, rfl, rfl, hT, atI_nat (j := 0) rfl, (by show 5 ≤ sizeLine; decide), fun q hq => ⟨_, rfl, pt, _, _, _, rfl, rfl, Kp.sqT (Same.kp (same_new hq _)) hT, atI_nat (j := 1) rfl, (by show 2 ≤ sizeLine; decide), fun p hp => ?_⟩⟩
    exact fin (th := .tp [.v (.str "let"), .v (.str "a"), .v (.str "<"), .v (.str "b"), x]) (Same.refl _) hq (fun H2 s2 h2 => ⟨q, _, rfl, h2, _, _, rfl, strAt (by decide +kernel), _, _, rfl, strAt (by decide +kernel), _, _, rfl, strAt (by decide +kernel), _, _, rfl, strAt (by decide +kernel), xv, [], rfl, hx.mono (Same.kp s2), rfl⟩) ⟨c, bad_w1 hc1, hc2, d2, d3⟩ hp
  refine ⟨_, rfl, rfl, _, rfl, ite2 (fun _ => ?_) fun _ => ?_⟩
  · refine ⟨_, rfl, pt, _, _, _, rfl, rfl, hT, atI_nat (j := 0) rfl, _, rfl, (by show 5 ≤ sizeLine; decide), fun q hq => ⟨_, rfl, pt, _, _, _, rfl, rfl, Kp.sqT (Same.kp (same_new hq _)) hT, atI_nat (j := 1) rfl, (by show 2 ≤ sizeLine; decide), fun p hp => ?_⟩⟩
    exact fin (th := .tp [.v (.str "let"), .v (.str "z"), .v (.str "/"), x, .v (.int (-1))]) (Same.refl _) hq (fun H2 s2 h2 => ⟨q, _, rfl, h2, _, _, rfl, strAt (by decide +kernel), _, _, rfl, strAt (by decide +kernel), _, _, rfl, strAt (by decide +kernel), xv, _, rfl, hx.mono (Same.kp s2), _, [], rfl, ⟨rfl, True.intro⟩, rfl⟩) ⟨c, bad_w2 hc1, hc2, d2, d3⟩ hp
  have dN : ("name" : Str) ≠ "good" ∧ ("name" : Str) ≠ "deep" := by decide +kernel
  refine ⟨_, rfl, rfl, _, rfl, ite2 (fun _ => ?_) fun _ => ?_⟩
  · refine ⟨_, rfl, pt, _, _, _, rfl, rfl, hT, atI_nat (j := 0) rfl, (by show 2 ≤ sizeLine; decide), fun pl hpl => ?_⟩
    obtain ⟨v, tv, hv, ev⟩ := two_at n
    refine ⟨_, rfl, _, _, rfl, rfl, (by show (0 : Int) < 2; decide), pl, _, _, v, rfl, rfl, SqL.of upd_same, ev, (by show 5 ≤ sizeLine; decide), fun q hq => ⟨(by show 2 ≤ sizeLine; decide), fun p hp => ?_⟩⟩
    have sl := same_new hpl (.lst [.str "+", .non])
    exact fin (th := .tp [.v (.str "let"), x, tv, .v (.int 1), .v (.str "")]) sl hq (fun H2 s2 h2 => ⟨q, _, rfl, h2, _, _, rfl, strAt (by decide +kernel), xv, _, rfl, hx.mono (Same.kp s2), v, _, rfl, by rcases hv with ⟨rfl, rfl⟩ | ⟨rfl, rfl⟩; exact strAt (by decide +kernel); exact ⟨rfl, True.intro⟩, _, _, rfl, ⟨rfl, True.intro⟩, _, [], rfl, strAt (by decide +kernel), rfl⟩) ⟨.name, bad_w3 hn, rfl, dN.1, dN.2⟩ hp
  refine ⟨(by show 3 ≤ sizeLine; decide), fun pl hpl => ?_⟩
  obtain ⟨kd, hkd, ekd⟩ := kind3_at (n / 270)
  have sl := same_new hpl (.lst [.str "when", .str "loop", .str "again"])
  refine ⟨_, rfl, _, _, rfl, rfl, ⟨by decide, by decide⟩, _, _, rfl, rfl, (by show (0 : Int) < 3; decide), pl, _, _, _, rfl, rfl, SqL.of upd_same, ekd, _, rfl, pt, _, _, _, rfl, rfl, Kp.sqT (Same.kp sl) hT, atI_nat (j := 0) rfl, (by show 3 ≤ sizeLine; decide), fun q hq => ⟨(by show 2 ≤ sizeLine; decide), fun p hp => ?_⟩⟩
  exact fin (th := .tp [.v (.str kd), x, .v .non]) sl hq (fun H2 s2 h2 => ⟨q, _, rfl, h2, _, _, rfl, strAt (kind_len hkd), xv, _, rfl, hx.mono (Same.kp s2), _, [], rfl, ⟨rfl, True.intro⟩, rfl⟩) ⟨.name, bad_w4 (kinds_blk hkd) hn, rfl, dN.1, dN.2⟩ hp
end
end Lm
namespace Lm
open PySem L2 GxR
def ndeep (c : Cls) : Prop := ∀ k, c ≠ .deep k
theorem ckName_nd {t : Th} {c : Cls} (h : ckName t = some c) : ndeep c := by
  unfold ckName at h
  split at h
  · cases h
  · cases h; intro k e; cases e
theorem ckSign_nd {t : Th} {c : Cls} (h : ckSign t = some c) : ndeep c := by
  unfold ckSign at h
  split at h
  · cases h
  · cases h; intro k e; cases e
theorem ckWorth_nd {t : Th} {c : Cls} (h : ckWorth t = some c) : ndeep c := by
  unfold ckWorth at h
  split at h
  · exact ckName_nd h
  · split at h
    · cases h
    · cases h; intro k e; cases e
theorem ckLet_nd {a b d e : Th} {c : Cls} (h : ckLet [a, b, d, e] = some c) : ndeep c := by
  cases e1 : ckName a with
  | some x =>
    rw [ckLet1 e1] at h
    cases h
    exact ckName_nd e1
  | none =>
    cases e2 : ckSign b with
    | some x =>
      rw [ckLet2 e1 e2] at h
      cases h
      exact ckSign_nd e2
    | none =>
      cases e3 : ckWorth d with
      | some x =>
        rw [ckLet3 e1 e2 e3] at h
        cases h
        exact ckWorth_nd e3
      | none =>
        rw [ckLet4 e1 e2 e3] at h
        exact ckWorth_nd h
theorem row_nd : ndeep .row := fun k e => by cases e
/-- how a row is wrong, at every depth but the last -/
structure Wrong (th : Th) (c : Cls) : Prop where
  nd : ndeep c
  at_ : ∀ m n, 1 ≤ m → lkRow m th n = .error c
  at0 : th.isBlk = false → ∀ n, lkRow 0 th n = .error c
theorem wrong_form {th : Th} (h : th.form = false) : Wrong th .row := ⟨row_nd, fun m n _ => lkRow_noform h, fun _ n => lkRow_noform h⟩
theorem form_len {s : Str} {xs : List Th} (h : ∀ k, lens s = some k → k ≠ xs.length + 1) : (Th.tp (.v (.str s) :: xs)).form = false := by
  show decide (lens s = some (xs.length + 1)) = false
  exact decide_eq_false fun e => h _ e rfl
theorem lens_3 {s : Str} (h : lens s = some 3) : isBlk s = true := by
  cases hb : isBlk s with
  | true => rfl
  | false => rcases lens_not hb h with ⟨_, e⟩ | ⟨_, e⟩ <;> cases e
theorem lens_2 {s : Str} (h : lens s = some 2) : s = "say" := by
  cases hb : isBlk s with
  | true =>
    rw [(lens_blk hb).1] at h
    cases h
  | false =>
    rcases lens_not hb h with ⟨_, e⟩ | ⟨e, _⟩
    · cases e
    · exact e
theorem lens_5 {s : Str} (h : lens s = some 5) : s = "let" := by
  cases hb : isBlk s with
  | true =>
    rw [(lens_blk hb).1] at h
    cases h
  | false =>
    rcases lens_not hb h with ⟨e, _⟩ | ⟨_, e⟩
    · exact e
    · cases e
theorem lens_any {s : Str} {k : Nat} (h : lens s = some k) : k = 2 ∨ k = 3 ∨ k = 5 := by
  cases hb : isBlk s with
  | true =>
    rw [(lens_blk hb).1] at h
    cases h
    exact .inr (.inl rfl)
  | false =>
    rcases lens_not hb h with ⟨_, e⟩ | ⟨_, e⟩
    · exact .inr (.inr e)
    · exact .inl e
theorem wrong_say {a : Th} {c : Cls} (h : ckWorth a = some c) : Wrong (.tp [.v (.str "say"), a]) c := ⟨ckWorth_nd h, fun m n _ => by rw [lk_say, h], fun _ n => by rw [lk_say, h]⟩
theorem wrong_let {a b d e : Th} {c : Cls} (h : ckLet [a, b, d, e] = some c) : Wrong (.tp [.v (.str "let"), a, b, d, e]) c := ⟨ckLet_nd h, fun m n _ => by rw [lk_let, h], fun _ n => by rw [lk_let, h]⟩
theorem wrong_blk {s : Str} {a r : Th} {c : Cls} (hb : isBlk s = true) (h : ckName a = some c ∨ (ckName a = none ∧ r.isL = false ∧ c = .row)) : Wrong (.tp [.v (.str s), a, r]) c := by
  refine ⟨?_, fun m n hm => ?_, fun e => ?_⟩
  · rcases h with h | ⟨_, _, rfl⟩
    · exact ckName_nd h
    · exact row_nd
  · obtain ⟨m', rfl⟩ : ∃ m', m = m' + 1 := ⟨m - 1, by omega⟩
    rw [lk_blk hb]
    rcases h with h | ⟨h, hl, rfl⟩
    · rw [h]
    · rw [h]
      exact lkRows_noL hl
  · have e2 : isBlk s = false := e
    rw [hb] at e2
    cases e2
theorem wrong_of {th : Th} {c : Cls} (h : badOf th = some c) : Wrong th c := by
  match th, h with
  | .v x, h =>
    obtain rfl : Cls.row = c := Option.some.inj h
    exact wrong_form rfl
  | .ls x, h =>
    obtain rfl : Cls.row = c := Option.some.inj h
    exact wrong_form rfl
  | .dc, h =>
    obtain rfl : Cls.row = c := Option.some.inj h
    exact wrong_form rfl
  | .tp [], h =>
    obtain rfl : Cls.row = c := Option.some.inj h
    exact wrong_form rfl
  | .tp (t :: xs), h =>
    cases ht : t.isS with
    | false =>
      have e : c = .row := by
        match t, xs, ht, h with
        | .v (.int _), [], _, h => cases h; rfl
        | .v (.int _), [_], _, h => cases h; rfl
        | .v (.int _), [_, _], _, h => cases h; rfl
        | .v (.int _), [_, _, _], _, h => cases h; rfl
        | .v (.int _), [_, _, _, _], _, h => cases h; rfl
        | .v (.int _), _ :: _ :: _ :: _ :: _ :: _, _, h => cases h; rfl
        | .v (.bl _), [], _, h => cases h; rfl
        | .v (.bl _), [_], _, h => cases h; rfl
        | .v (.bl _), [_, _], _, h => cases h; rfl
        | .v (.bl _), [_, _, _], _, h => cases h; rfl
        | .v (.bl _), [_, _, _, _], _, h => cases h; rfl
        | .v (.bl _), _ :: _ :: _ :: _ :: _ :: _, _, h => cases h; rfl
        | .v .non, [], _, h => cases h; rfl
        | .v .non, [_], _, h => cases h; rfl
        | .v .non, [_, _], _, h => cases h; rfl
        | .v .non, [_, _, _], _, h => cases h; rfl
        | .v .non, [_, _, _, _], _, h => cases h; rfl
        | .v .non, _ :: _ :: _ :: _ :: _ :: _, _, h => cases h; rfl
        | .v (.byt _), [], _, h => cases h; rfl
        | .v (.byt _), [_], _, h => cases h; rfl
        | .v (.byt _), [_, _], _, h => cases h; rfl
        | .v (.byt _), [_, _, _], _, h => cases h; rfl
        | .v (.byt _), [_, _, _, _], _, h => cases h; rfl
        | .v (.byt _), _ :: _ :: _ :: _ :: _ :: _, _, h => cases h; rfl
        | .v (.flt _), [], _, h => cases h; rfl
        | .v (.flt _), [_], _, h => cases h; rfl
        | .v (.flt _), [_, _], _, h => cases h; rfl
        | .v (.flt _), [_, _, _], _, h => cases h; rfl
        | .v (.flt _), [_, _, _, _], _, h => cases h; rfl
        | .v (.flt _), _ :: _ :: _ :: _ :: _ :: _, _, h => cases h; rfl
        | .v (.ref _), [], _, h => cases h; rfl
        | .v (.ref _), [_], _, h => cases h; rfl
        | .v (.ref _), [_, _], _, h => cases h; rfl
        | .v (.ref _), [_, _, _], _, h => cases h; rfl
        | .v (.ref _), [_, _, _, _], _, h => cases h; rfl
        | .v (.ref _), _ :: _ :: _ :: _ :: _ :: _, _, h => cases h; rfl
        | .v (.ty _), [], _, h => cases h; rfl
        | .v (.ty _), [_], _, h => cases h; rfl
        | .v (.ty _), [_, _], _, h => cases h; rfl
        | .v (.ty _), [_, _, _], _, h => cases h; rfl
        | .v (.ty _), [_, _, _, _], _, h => cases h; rfl
        | .v (.ty _), _ :: _ :: _ :: _ :: _ :: _, _, h => cases h; rfl
        | .tp _, [], _, h => cases h; rfl
        | .tp _, [_], _, h => cases h; rfl
        | .tp _, [_, _], _, h => cases h; rfl
        | .tp _, [_, _, _], _, h => cases h; rfl
        | .tp _, [_, _, _, _], _, h => cases h; rfl
        | .tp _, _ :: _ :: _ :: _ :: _ :: _, _, h => cases h; rfl
        | .ls _, [], _, h => cases h; rfl
        | .ls _, [_], _, h => cases h; rfl
        | .ls _, [_, _], _, h => cases h; rfl
        | .ls _, [_, _, _], _, h => cases h; rfl
        | .ls _, [_, _, _, _], _, h => cases h; rfl
        | .ls _, _ :: _ :: _ :: _ :: _ :: _, _, h => cases h; rfl
        | .dc, [], _, h => cases h; rfl
        | .dc, [_], _, h => cases h; rfl
        | .dc, [_, _], _, h => cases h; rfl
        | .dc, [_, _, _], _, h => cases h; rfl
        | .dc, [_, _, _, _], _, h => cases h; rfl
        | .dc, _ :: _ :: _ :: _ :: _ :: _, _, h => cases h; rfl
      subst e
      exact wrong_form (form_noS ht)
    | true =>
      obtain ⟨s, rfl⟩ := isS_is ht
      match xs, h with
      | [], h =>
        obtain rfl : Cls.row = c := Option.some.inj h
        exact wrong_form (form_len fun k e => by have := lens_any e; simp only [List.length_nil]; omega)
      | [a], h =>
        have h' : (if s = "say" then ckWorth a else some Cls.row) = some c := h
        split at h'
        · rename_i e
          subst e
          exact wrong_say h'
        · rename_i e
          cases h'
          exact wrong_form (form_len fun k ek e2 => e (lens_2 (by rw [ek, e2]; rfl)))
      | [a, r], h =>
        have h' : (if isBlk s then (match ckName a with | some c => some c | none => if r.isL then none else some .row) else some Cls.row) = some c := h
        split at h'
        · rename_i e
          cases e1 : ckName a with
          | some x =>
            rw [e1] at h'
            cases h'
            exact wrong_blk e (.inl e1)
          | none =>
            rw [e1] at h'
            have h2 : (if r.isL then none else some Cls.row) = some c := h'
            split at h2
            · cases h2
            · rename_i e2
              cases h2
              exact wrong_blk e (.inr ⟨e1, Bool.eq_false_iff.mpr e2, rfl⟩)
        · rename_i e
          cases h'
          exact wrong_form (form_len fun k ek e2 => e (lens_3 (by rw [ek, e2]; rfl)))
      | [a, b, d], h =>
        obtain rfl : Cls.row = c := Option.some.inj h
        exact wrong_form (form_len fun k e => by have := lens_any e; simp only [List.length_cons, List.length_nil]; omega)
      | [a, b, d, e], h =>
        have h' : (if s = "let" then ckLet [a, b, d, e] else some Cls.row) = some c := h
        split at h'
        · rename_i e
          subst e
          exact wrong_let h'
        · rename_i e
          cases h'
          exact wrong_form (form_len fun k ek e2 => e (lens_5 (by rw [ek, e2]; rfl)))
      | a :: b :: d :: e :: g :: xs, h =>
        obtain rfl : Cls.row = c := Option.some.inj h
        exact wrong_form (form_len fun k e => by have := lens_any e; simp only [List.length_cons]; omega)
/-! ### good rows, and where the first wrong one stands -/
def GoodT (t : Th) : Prop := ∀ m n, lkRow m t n = .ok (n + 1)
theorem lkAll_good {m : Nat} : ∀ {ts us : List Th} {n : Nat}, (∀ t ∈ ts, GoodT t) → lkAll m (ts ++ us) n = lkAll m us (n + ts.length)
  | [], us, n, _ => rfl
  | t :: ts, us, n, h => by
    rw [List.cons_append, lkAll_cons, h t (List.mem_cons_self ..) m n]
    show lkAll m (ts ++ us) (n + 1) = _
    rw [lkAll_good (fun x hx => h x (List.mem_cons_of_mem _ hx)), List.length_cons]
    congr 1
    omega
theorem lkAll_all {m n : Nat} {ts : List Th} (h : ∀ t ∈ ts, GoodT t) : lkAll m ts n = .ok (n + ts.length) := by
  have e := lkAll_good (m := m) (us := []) (n := n) h
  rw [List.append_nil, lkAll_nil] at e
  exact e
theorem lkAll_bad {m n : Nat} {ts us : List Th} {x : Th} {c : Cls} (h : ∀ t ∈ ts, GoodT t) (e : lkRow m x (n + ts.length) = .error c) : lkAll m (ts ++ x :: us) n = .error c := by
  rw [lkAll_good h, lkAll_cons, e]
theorem ckName_good {s : Str} (h : Good s) : ckName (.v (.str s)) = none := by
  have e : (Th.v (.str s)).isN = true := h
  unfold ckName
  rw [e]
  rfl
theorem wrap_rows {ss : List Str} (hg : ∀ s ∈ ss, Good s) {t : Th} : ∀ {j : Nat} {u : Th}, WrapT ss t j u → ∀ m n, j ≤ m → lkRows m u n = lkRows (m - j) t (n + j)
  | 0, _, .base, m, n, _ => rfl
  | j + 1, _, .next (u := u) (kd := kd) (nm := nm) h hk hn, m, n, hm => by
    obtain ⟨m', rfl⟩ : ∃ m', m = m' + 1 := ⟨m - 1, by omega⟩
    rw [lkRows_ls, lkAll_cons, lk_blk (kinds_blk hk), ckName_good (hg nm hn)]
    have ih := wrap_rows hg h m' (n + 1) (by omega)
    show (match lkRows m' u (n + 1) with | .error c => Except.error c | .ok k => lkAll (m' + 1) [] k) = _
    rw [ih, show m' + 1 - (j + 1) = m' - j by omega, show n + 1 + j = n + (j + 1) by omega]
    cases lkRows (m' - j) t (n + (j + 1)) with
    | error c => rfl
    | ok k => exact lkAll_nil
theorem isSg_sign {sg : Str} (h : sg ∈ signs) : (Th.v (.str sg)).isSg = true := by
  show inV (.str sg) (signs.map V.str) = true
  unfold inV
  rw [List.any_map, List.any_eq_true]
  exact ⟨sg, h, decide_eq_true rfl⟩
theorem ckSign_good {sg : Str} (h : sg ∈ signs) : ckSign (.v (.str sg)) = none := by
  unfold ckSign
  rw [isSg_sign h]
  rfl
theorem ckWorth_good {ss : List Str} (hg : ∀ s ∈ ss, Good s) {x : Vl} (h : x.ok ss) : ckWorth (.v x.v) = none := by
  cases x with
  | nm s =>
    have e : ckName (.v (.str s)) = none := ckName_good (hg s h)
    unfold ckWorth
    exact e
  | nu i =>
    have e : (Th.v (.int i)).isNum = true := by
      obtain ⟨h0, h1⟩ := h
      show (decide (0 ≤ i) && decide (i ≤ 999999)) = true
      rw [decide_eq_true h0, decide_eq_true (by omega : i ≤ 999999)]
      rfl
    unfold ckWorth
    show (if (Th.v (.int i)).isNum then none else some Cls.num) = none
    rw [e]
    rfl
theorem good_let {ss : List Str} (hg : ∀ s ∈ ss, Good s) {to sg : Str} {x y : Vl} (h : (Row.lt to sg x y).ok ss) : GoodT (.tp [.v (.str "let"), .v (.str to), .v (.str sg), .v x.v, .v y.v]) := fun m n => by
  rw [lk_let, ckLet4 (ckName_good (hg to h.1)) (ckSign_good h.2.1) (ckWorth_good hg h.2.2.1), ckWorth_good hg h.2.2.2]
theorem good_say {ss : List Str} (hg : ∀ s ∈ ss, Good s) {x : Vl} (h : x.ok ss) : GoodT (.tp [.v (.str "say"), .v x.v]) := fun m n => by
  rw [lk_say, ckWorth_good hg h]
theorem say_one (i : Int) (h0 : 0 ≤ i) (h1 : i ≤ 9) : GoodT (.tp [.v (.str "say"), .v (.int i)]) := good_say (ss := []) (fun s hs => by cases hs) (x := .nu i) ⟨h0, by omega⟩
/-- the row X is wrong as d tells: at a depth where two blocks may still come; at the last depth, where it is no block -/
structure BadX (X : Th) (d : Str) : Prop where
  ne : d ≠ "good" ∧ d ≠ "deep"
  two : ∀ m n, 2 ≤ m → ∃ c, lkRow m X n = .error c ∧ c.txt = d ∧ ndeep c
  zero : X.isBlk = false → ∀ n, ∃ c, lkRow 0 X n = .error c ∧ c.txt = d ∧ ndeep c
theorem badX_of {X : Th} {d : Str} (h : BadAs X d) : BadX X d := by
  obtain ⟨c, h1, h2, h3, h4⟩ := h.c
  have w := wrong_of h1
  exact ⟨⟨h3, h4⟩, fun m n hm => ⟨c, w.at_ m n (by omega), h2, w.nd⟩, fun e n => ⟨c, w.at0 e n, h2, w.nd⟩⟩
theorem badX_wrap {X : Th} {d kd nm : Str} (h : BadAs X d) (hk : kd ∈ kinds) (hn : Good nm) : BadX (.tp [.v (.str kd), .v (.str nm), .ls [.tp [.v (.str "say"), .v (.int 1)], X, .tp [.v (.str "say"), .v (.int 2)]]]) d := by
  obtain ⟨c, h1, h2, h3, h4⟩ := h.c
  have w := wrong_of h1
  refine ⟨⟨h3, h4⟩, fun m n hm => ?_, fun e => ?_⟩
  · obtain ⟨m', rfl⟩ : ∃ m', m = m' + 1 := ⟨m - 1, by omega⟩
    refine ⟨c, ?_, h2, w.nd⟩
    rw [lk_blk (kinds_blk hk), ckName_good hn]
    show lkRows m' (.ls [.tp [.v (.str "say"), .v (.int 1)], X, .tp [.v (.str "say"), .v (.int 2)]]) (n + 1) = _
    rw [lkRows_ls, lkAll_cons, say_one 1 (by decide) (by decide) m' (n + 1)]
    show lkAll m' (X :: [.tp [.v (.str "say"), .v (.int 2)]]) (n + 1 + 1) = _
    rw [lkAll_cons, w.at_ m' _ (by omega)]
  · have e2 : isBlk kd = false := e
    rw [kinds_blk hk] at e2
    cases e2
end Lm
namespace Lm
open PySem L2 GxR
abbrev s_holds : Stmt := topS 37
def wo (H : Hp) (R : Addr) : Hp := fun b => if b = R then none else H b
theorem wo_at {H : Hp} {p R : Addr} (h : p ≠ R) : wo H R p = H p := if_neg h
theorem wo_out {H : Hp} {R : Addr} : wo H R R = none := if_pos rfl
theorem wo_old {H : Hp} {R b : Addr} {o : HO} (e : wo H R b = some o) : b ≠ R ∧ H b = some o := by
  by_cases h : b = R
  · rw [h, wo_out] at e
    cases e
  · rw [wo_at h] at e
    exact ⟨h, e⟩
theorem wo_same {H : Hp} {R : Addr} : Same (wo H R) H := fun b o e => (wo_old e).2
theorem wo_mono {H H' : Hp} {R : Addr} (s : Same H H') : Same (wo H R) (wo H' R) := fun b o e => by
  obtain ⟨h1, h2⟩ := wo_old e
  rw [wo_at h1]
  exact s b o h2
theorem wo_upd {H : Hp} {R : Addr} {u : HO} : Same (wo H R) (wo (upd H R u) R) := fun b o e => by
  obtain ⟨h1, h2⟩ := wo_old e
  rw [wo_at h1, upd_ne h1]
  exact h2
theorem nw_wo {H H' : Hp} {R : Addr} {u : HO} (h : H R = some u) : Same (nw H H') (wo H' R) := fun b o e => by
  obtain ⟨h1, h2⟩ := nw_old e
  rw [wo_at (fun z => by rw [z, h] at h1; cases h1)]
  exact h2
theorem same_upd {H H' : Hp} {R : Addr} {u : HO} (s : Same H H') (h : H R = none) : Same H (upd H' R u) := fun b o e => by
  rw [upd_ne (ne_of_none e h)]
  exact s b o e
theorem ThsAt.set {K : PySem.W.Frag} {H : Hp} {t : Th} {v : V} (ht : ThAt K H t v) : ∀ {ts : List Th} {vs : List V} (i : Nat), ThsAt K H ts vs → ThsAt K H (ts.set i t) (vs.set i v)
  | [], vs, i, h => by
    rw [show vs = [] from h]
    exact rfl
  | x :: xs, vs, 0, ⟨u, us, h1, h2, h3⟩ => by
    rw [h1]
    exact ⟨v, us, rfl, ht, h3⟩
  | x :: xs, vs, i + 1, ⟨u, us, h1, h2, h3⟩ => by
    rw [h1]
    exact ⟨u, us.set i v, rfl, h2, ThsAt.set ht i h3⟩
theorem ThsAt.one {K : PySem.W.Frag} {H : Hp} {t : Th} {v : V} (h : ThAt K H t v) : ThsAt K H [t] [v] := ⟨v, [], rfl, h, rfl⟩
theorem vl_flt {ss : List Str} (hg : ∀ s ∈ ss, Good s) {x : Vl} (h : x.ok ss) {K : PySem.W.Frag} {H : Hp} : ThAt K H (.v x.v) x.v := by
  cases x with
  | nm s =>
    have h2 : s.length ≤ 6 := (good_len (hg s h)).2
    exact ⟨rfl, by show s.length ≤ 1000; omega⟩
  | nu i => exact ⟨rfl, True.intro⟩
theorem name_flt {ss : List Str} (hg : ∀ s ∈ ss, Good s) {s : Str} (h : s ∈ ss) {K : PySem.W.Frag} {H : Hp} : ThAt K H (.v (.str s)) (.str s) := ⟨rfl, by have h2 : s.length ≤ 6 := (good_len (hg s h)).2; show s.length ≤ 1000; omega⟩
theorem sign_len {s : Str} (h : s ∈ signs) : s.length ≤ 1000 := by
  have e : signs.all (fun z => decide (z.length ≤ 1000)) = true := by decide +kernel
  exact of_decide_eq_true (List.all_eq_true.mp e s h)
theorem ixN_of {n j : Nat} {k : Int} (e : k = (j : Int)) (h : j < n) : ixN n k = some j := by
  unfold ixN
  rw [e, if_pos (by omega), if_pos (by omega)]
  simp
theorem sqT_put {K : PySem.W.Frag} {H : Hp} {R p : Addr} {vs xs : List V} {u : HO} (hR : H R = some (.lst vs)) (h : SqT K H p xs) : SqT K (upd H R u) p xs := by
  rcases h with (h | ⟨o, h⟩) | h
  · exact .inl (.inl (by rw [upd_ne (fun z => by rw [z, hR] at h; cases h)]; exact h))
  · exact .inl (.inr ⟨o, by rw [upd_ne (fun z => by rw [z, hR] at h; cases h)]; exact h⟩)
  · exact .inr h
/-- where the first wrong row stands -/
def Fst (ts : List Th) (due : Str) (at_ : Nat) : Prop := ∃ X, ts[at_]? = some X ∧ (∀ (i : Nat) (t : Th), i < at_ → ts[i]? = some t → GoodT t) ∧ BadX X due
def St (ts : List Th) (due : Str) (v : Option V) : Prop := (due = "good" ∧ ∀ t ∈ ts, GoodT t) ∨ ∃ at_ : Nat, v = some (.int (at_ : Int)) ∧ Fst ts due at_
theorem Fst.put {ts : List Th} {due d2 : Str} {at_ : Nat} {X : Th} (h : ∀ (i : Nat) (t : Th), i < at_ → ts[i]? = some t → GoodT t) (hl : at_ < ts.length) (b : BadX X d2) : Fst (ts.set at_ X) d2 at_ :=
  ⟨X, by rw [List.getElem?_set_self hl], fun i t hi e => h i t hi (by rw [List.getElem?_set_ne (by omega)] at e; exact e), b⟩
theorem Fst.later {ts : List Th} {due : Str} {at_ j : Nat} {Y : Th} (h : Fst ts due at_) (hj : at_ < j) : Fst (ts.set j Y) due at_ := by
  obtain ⟨X, e, g, b⟩ := h
  exact ⟨X, by rw [List.getElem?_set_ne (by omega)]; exact e, fun i t hi e2 => g i t hi (by rw [List.getElem?_set_ne (by omega)] at e2; exact e2), b⟩
theorem Fst.split {ts : List Th} {due : Str} {at_ : Nat} (h : Fst ts due at_) : ∃ X, ts[at_]? = some X ∧ ts = ts.take at_ ++ X :: ts.drop (at_ + 1) ∧ (ts.take at_).length = at_ ∧ (∀ t ∈ ts.take at_, GoodT t) ∧ BadX X due := by
  obtain ⟨X, e, g, b⟩ := h
  obtain ⟨hl, _⟩ := List.getElem?_eq_some_iff.mp e
  refine ⟨X, e, ?_, by rw [List.length_take]; omega, fun t ht => ?_, b⟩
  · rw [← drop_at e, List.take_append_drop]
  · obtain ⟨i, hi, ei⟩ := List.getElem_of_mem ht
    have hi2 : i < at_ := by
      rw [List.length_take] at hi
      omega
    refine g i t hi2 ?_
    rw [← ei, List.getElem_take, List.getElem?_eq_getElem]
theorem fst_err {ts : List Th} {due : Str} {at_ m n : Nat} (h : Fst ts due at_) (hm : 2 ≤ m) : ∃ c, lkRows m (.ls ts) n = .error c ∧ c.txt = due ∧ ndeep c := by
  obtain ⟨X, _, e, hl, hg, b⟩ := h.split
  obtain ⟨c, h1, h2, h3⟩ := b.two m (n + (ts.take at_).length) hm
  refine ⟨c, ?_, h2, h3⟩
  rw [lkRows_ls, e]
  exact lkAll_bad hg h1
theorem fst_err0 {ts : List Th} {due : Str} {at_ n : Nat} {X : Th} (h : Fst ts due at_) (hX : ts[at_]? = some X) (hb : X.isBlk = false) : ∃ c, lkRows 0 (.ls ts) n = .error c ∧ c.txt = due ∧ ndeep c := by
  obtain ⟨Y, e0, e, hl, hg, b⟩ := h.split
  rw [hX] at e0
  obtain rfl := Option.some.inj e0
  obtain ⟨c, h1, h2, h3⟩ := b.zero hb (n + (ts.take at_).length)
  refine ⟨c, ?_, h2, h3⟩
  rw [lkRows_ls, e]
  exact lkAll_bad hg h1
theorem isBlk_deep {X : Th} {n : Nat} (h : X.isBlk = true) : lkRow 0 X n = .error (.deep n) := by
  match X, h with
  | .tp [.v (.str s), a, b], h => exact lk_blk0 h
theorem fst_deep {ts : List Th} {due : Str} {at_ n : Nat} {X : Th} (h : Fst ts due at_) (hX : ts[at_]? = some X) (hb : X.isBlk = true) : lkRows 0 (.ls ts) n = .error (.deep (n + at_)) := by
  obtain ⟨Y, e0, e, hl, hg, b⟩ := h.split
  rw [hX] at e0
  obtain rfl := Option.some.inj e0
  rw [lkRows_ls, e]
  refine lkAll_bad hg ?_
  rw [hl]
  exact isBlk_deep hb
/-- what is due is what comes -/
def Res (R0 : Th) (due : Str) (many c : Nat) : Prop := (due = "good" ∧ lkRows (20 - c) R0 c = .ok (c + many)) ∨ (due ≠ "good" ∧ ∃ cl, lkRows (20 - c) R0 c = .error cl ∧ cl.txt = due ∧ Told (.error cl))
theorem told_nd {c : Cls} (h : ndeep c) : Told (.error c) := fun k e => absurd (Except.error.inj e) (h k)
theorem four_at (a b c d : V) (z : Int) : ∃ v, (v = a ∨ v = b ∨ v = c ∨ v = d) ∧ atI [a, b, c, d] (z % 4) = some v := by
  have h0 : 0 ≤ z % 4 := Int.emod_nonneg _ (by decide)
  have h1 : z % 4 < 4 := Int.emod_lt_of_pos _ (by decide)
  obtain ⟨j, ej⟩ : ∃ j : Nat, z % 4 = (j : Int) := ⟨(z % 4).toNat, by omega⟩
  rw [ej]
  match j, (by omega : j < 4) with
  | 0, _ => exact ⟨_, .inl rfl, atI_nat rfl⟩
  | 1, _ => exact ⟨_, .inr (.inl rfl), atI_nat rfl⟩
  | 2, _ => exact ⟨_, .inr (.inr (.inl rfl)), atI_nat rfl⟩
  | 3, _ => exact ⟨_, .inr (.inr (.inr rfl)), atI_nat rfl⟩
  | j + 4, h => exact absurd h (by omega)
def Fin9 (R0 : Th) (due : Str) (many : Nat) (v : Option V) : Prop := (∃ qs, R0 = .ls qs ∧ many = qs.length ∧ 0 < many ∧ many ≤ 8 ∧ St qs due v) ∨ (R0.isL = false ∧ due = "row" ∧ many = 0)
def spHolds (K : PySem.W.Frag) (T : Addr) : Sp := fun vs H Q _ => ∃ (a ln : Addr) (ns : List Int) (j : Int) (ss : List Str), vs = [.ref a, .int j, .ref ln] ∧ SqL K H a (ns.map V.int) ∧ NamesAt K H ln ss ∧ (∀ s ∈ ss, Good s) ∧ 0 ≤ j ∧ j ≤ 4 ∧ TabG H T ∧ ∀ H', On T H H' → Q (.bl true) H'
abbrev nHolds : List Str := ["_law_script", "_law_turn", "_law_names_here", "_law_more", "_law_rows", "_law_k", "_law_number", "_law_due", "_law_many", "_law_bad", "_law_at", "_law_later", "_law_count", "_law_found"]
theorem sc_holds : FnScope nHolds ["_law_script", "_law_turn", "_law_names_here"] (defScope s_holds) := ⟨rfl, rfl, rfl, by decide +kernel, rfl, by decide +kernel, by decide +kernel⟩
section
variable {P : Program} {w : World} {K : PySem.W.Frag} {mg : Str → Option Value} {base : Heap} {f T a1 a2 a4 a5 a6 a7 a8 a9 b1 b2 b3 : Addr} {fd d1 d2 d4 d5 d6 d7 d8 d9 e1 e2 e3 : FuncData} {C : Ad}
theorem ok_holds (F : Fun K "_law_holds" "_law_holds" s_holds f fd) (B : Bn mg) (D1 : Df P w K mg base "_law_cell_at" 1 a1 d1 ["_law_script", "_law_k"] (spCell K)) (D2 : Df P w K mg base "_law_mixed" 1 a2 d2 ["_law_cell", "_law_k"] spMixed)
    (D4 : Df P w K mg base "_law_value" 1 a4 d4 ["_law_kind_here", "_law_number", "_law_names_here"] (spValue K)) (D5 : Df P w K mg base "_law_let" 2 a5 d5 ["_law_number", "_law_names_here"] (spLet K))
    (D6 : Df P w K mg base "_law_nested" 2 a6 d6 ["_law_rows", "_law_count", "_law_names_here", "_law_cell"] (spNestedT K)) (DB : Df P w K mg base "_law_bad_row" 1 a7 d7 ["_law_number"] (spBad K)) (DI : Df P w K mg base "_law_is_block" 1 a8 d8 ["_law_row"] (spIsBlk K))
    (DK : Df P w K mg base "_law_kind" 49 a9 d9 ["_law_rows"] (spKind K T)) (DR : Df P w K mg base "_law_refused_by_any" 49 b1 e1 ["_law_rows"] (spRefused K T)) (DW : Df P w K mg base "_law_whole" 1 b2 e2 ["_law_found"] spWhole)
    (DC : Dx P w K mg base "checked" 48 b3 e3 ["rows"] (spChecked K T C)) : FnOk P w K mg base CX0 50 f fd ["_law_script", "_law_turn", "_law_names_here"] (spHolds K T) := by
  refine F.ok sc_holds (fun vs H Q E h => ?_) (fun cdv A outer s H vs Q E hr h => ?_)
  · obtain ⟨a, ln, ns, j, ss, rfl, _⟩ := h
    rfl
  obtain ⟨a, ln, ns, jt, ss, rfl, hS, hN, hg, hj0, hj4, hT, k⟩ := h
  have nd := sc_holds.nd
  have r1 : Room 1 _ := hr.mono (by decide)
  have r2 : Room 2 _ := hr.mono (by decide)
  have r48 : Room 48 _ := hr.mono (by decide)
  have r49 : Room 49 _ := hr.mono (by decide)
  refine ⟨_, pss_cons (ps_set (i := 3) nd rfl (Or.inl rfl) (pe_op op_fdiv (pe_df D2 r1 (pa_cons (pe_df D1 r1 (pa_cons (pv 0) (pa_cons pe_int pa_nil))) (pa_cons (pe_op op_mul pe_int (pv 1)) pa_nil))) pe_int)) <|
    pss_cons (ps_set (i := 4) nd rfl (Or.inl rfl) (pe_lst pa_nil)) <|
    pss_cons (ps_for PassesOwn.never rfl (pi_range1 rfl B.range (pa_cons (pe_op op_add pe_int (pe_op op_mod (pv 3) pe_int)) pa_nil)) (pg_name (i := 5) nd rfl (Or.inl rfl)) (pss_cons (ps_set (i := 6) nd rfl (Or.inl rfl) (pe_df D2 r1 (pa_cons (pe_df D1 r1 (pa_cons (pv 0) (pa_cons (pe_op op_add pe_int (pv 5)) pa_nil))) (pa_cons (pe_op op_add (pv 5) (pv 1)) pa_nil)))) <|
      pss_cons (ps_expr (pe_bm PySem.F.plainAttrs_list PySem.F.slot_list_append PySem.F.type_list_append mt_append (pv 4) (pa_cons (pe_df D5 r2 (pa_cons (pe_op op_fdiv (pv 6) pe_int) (pa_cons (pv 2) pa_nil))) pa_nil))) <|
      pss_one (ps_if (pt_cmpR op_eq (pe_op op_mod (pv 6) pe_int) pe_int (nomark _)) (pss_one (ps_asg (pe_tup (pa_cons pe_str (pa_cons (pe_df D4 r1 (pa_cons (pe_op op_mod (pe_op op_fdiv (pv 6) pe_int) pe_int) (pa_cons (pe_op op_fdiv (pv 6) pe_int) (pa_cons (pv 2) pa_nil)))) pa_nil))) (pg_sub (pv 4) (pv 5) set_list))) pss_nil))) <|
    pss_cons (ps_set (i := 7) nd rfl (Or.inl rfl) pe_str) <|
    pss_cons (ps_set (i := 8) nd rfl (Or.inl rfl) (pe_callB call_len_seq rfl B.len PySem.boot_len (pa_cons (pv 4) pa_nil))) <|
    C8.pss_cut (ps_if (pt_cmpR op_gt (pe_op op_mod (pe_op op_fdiv (pv 3) pe_int) pe_int) pe_int (nomark _)) (pss_cons (ps_set (i := 9) nd rfl (Or.inl rfl) (pe_df DB r1 (pa_cons (pe_df D2 r1 (pa_cons (pe_df D1 r1 (pa_cons (pv 0) (pa_cons pe_int pa_nil))) (pa_cons (pe_op op_mul pe_int (pv 1)) pa_nil))) pa_nil))) <|
      pss_cons (ps_set (i := 10) nd rfl (Or.inl rfl) (pe_op op_mod (pe_df D1 r1 (pa_cons (pv 0) (pa_cons pe_int pa_nil))) (pe_callB call_len_seq rfl B.len PySem.boot_len (pa_cons (pv 4) pa_nil)))) <|
      pss_cons (ps_asg (pe_ix ix_tup (pv 9) pe_int (fun _ _ => rfl)) (pg_sub (pv 4) (pv 10) set_list)) <|
      pss_cons (ps_set (i := 7) nd rfl (Or.inl rfl) (pe_ix ix_tup (pv 9) pe_int (fun _ _ => rfl))) <|
      C8.pss_cut (ps_if (pt_cmpR op_eq (pe_op op_mod (pe_op op_fdiv (pv 3) pe_int) pe_int) pe_int (nomark _)) (pss_one (ps_asg (pe_tup (pa_cons (pe_ix ix_list (pe_lst (pa_cons pe_str (pa_cons pe_str (pa_cons pe_str pa_nil)))) (pe_op op_mod (pv 10) pe_int) (fun _ _ => rfl)) (pa_cons (pe_ix ix_list (pv 2) pe_int (fun _ _ => rfl)) (pa_cons (pe_lst (pa_cons (pe_tup (pa_cons pe_str (pa_cons pe_int pa_nil))) (pa_cons (pe_ix ix_tup (pv 9) pe_int (fun _ _ => rfl)) (pa_cons (pe_tup (pa_cons pe_str (pa_cons pe_int pa_nil))) pa_nil)))) pa_nil)))) (pg_sub (pv 4) (pv 10) set_list))) pss_nil) <|
      pss_one (ps_if (PW.pt (pw_and (pt_cmpR op_eq (pe_op op_mod (pe_op op_fdiv (pv 3) pe_int) pe_int) pe_int (nomark _)) (pw_and1 (pt_cmpR op_lt (pe_op op_add (pv 10) pe_int) (pe_callB call_len_seq rfl B.len PySem.boot_len (pa_cons (pv 4) pa_nil)) (nomark _))))) (pss_cons (ps_set (i := 11) nd rfl (Or.inl rfl) (pe_op op_add (pe_op op_add (pv 10) pe_int) (pe_op op_mod (pe_df D1 r1 (pa_cons (pv 0) (pa_cons pe_int pa_nil))) (pe_op op_sub (pe_op op_sub (pe_callB call_len_seq rfl B.len PySem.boot_len (pa_cons (pv 4) pa_nil)) (pv 10)) pe_int)))) <| pss_one (ps_asg (pe_ix ix_tup (pe_df DB r1 (pa_cons (pe_df D2 r1 (pa_cons (pe_df D1 r1 (pa_cons (pv 0) (pa_cons pe_int pa_nil))) (pa_cons (pe_op op_add pe_int (pv 1)) pa_nil))) pa_nil)) pe_int (fun _ _ => rfl)) (pg_sub (pv 4) (pv 11) set_list))) pss_nil)) pss_nil) <|
    C8.pss_cut (ps_if (pt_cmpR op_eq (pe_op op_mod (pe_op op_fdiv (pv 3) pe_int) pe_int) pe_int (nomark _)) (pss_cons (ps_set (i := 4) nd rfl (Or.inl rfl) (pe_ix ix_list (pe_lst (pa_cons (pe_callTy call_tuple_of rfl B.tuple (by decide +kernel) (pa_cons (pv 4) pa_nil)) (pa_cons pe_non (pa_cons pe_str (pa_cons pe_int pa_nil))))) (pe_op op_mod (pe_df D1 r1 (pa_cons (pv 0) (pa_cons pe_int pa_nil))) pe_int) (fun _ _ => rfl))) <| pss_cons (ps_set (i := 7) nd rfl (Or.inl rfl) pe_str) <| pss_one (ps_set (i := 8) nd rfl (Or.inl rfl) pe_int)) pss_nil) <|
    pss_cons (ps_set (i := 12) nd rfl (Or.inl rfl) (pe_ix ix_list (pe_lst (pa_cons pe_int (pa_cons pe_int (pa_cons pe_int (pa_cons pe_int pa_nil))))) (pe_op op_mod (pe_op op_fdiv (pv 3) pe_int) pe_int) (fun _ _ => rfl))) <|
    C8.pss_cut (ps_if (PW.pt (pw_and (pt_cmpR op_eq (pv 12) pe_int (nomark _)) (pw_and (pt_cmpR op_ne (pv 7) pe_str (nomark _)) (pw_and (pt_cmpR op_gt (pv 8) pe_int (nomark _)) (pw_and1 (pt_val (pe_df DI r1 (pa_cons (pe_ix ix_list (pv 4) (pv 10) (fun _ _ => rfl)) pa_nil)))))))) (pss_one (ps_set (i := 7) nd rfl (Or.inl rfl) pe_str)) pss_nil) <|
    pss_cons (ps_set (i := 4) nd rfl (Or.inl rfl) (pe_df D6 r2 (pa_cons (pv 4) (pa_cons (pv 12) (pa_cons (pv 2) (pa_cons (pv 3) pa_nil)))))) <|
    pss_cons (ps_if (pt_cmpR op_ne (pv 7) pe_str (nomark _)) (pss_one (ps_ret (pe_and (pe_cmpR op_eq (pe_df DK r49 (pa_cons (pv 4) pa_nil)) (pv 7) (nomark _)) (pe_one (pe_df DR r49 (pa_cons (pv 4) pa_nil)))))) pss_nil) <|
    pss_cons (ps_set (i := 13) nd rfl (Or.inl rfl) (pe_dx DC r48 (W := fun _ _ _ _ => False) takes0 (pa_cons (pv 4) pa_nil))) <|
    pss_one (ps_ret (pe_and (pe_df DW r1 (pa_cons (pv 13) pa_nil)) (pe_one (pe_cmpR op_eq (pv 13) (pe_op op_add (pv 8) (pv 12)) (nomark _))))), ?_⟩
  refine ⟨_, rfl, a, ns, 1, rfl, hS, by decide, fun z1 => ⟨_, rfl, _, _, rfl, rfl, .inl ⟨by decide, by decide⟩, _, _, rfl, fun m0 hm0 hm1 => ⟨_, _, rfl, rfl, ⟨by decide, by decide⟩, ?_⟩⟩⟩
  have hmore0 : 0 ≤ m0 / 5 := by omega
  refine ⟨(by show 0 ≤ sizeLine; decide), fun R hR => ?_⟩
  have sR := same_new hR (.lst [])
  refine ⟨_, rfl, _, _, rfl, rfl, (by show (0 : Int) < 6; decide), _, _, rfl, rfl, _, rfl, by omega, by omega, for_range (lo := 0) (n := (3 + m0 / 5 % 6).toNat) (fun i σ H' => ∃ (ts : List Th) (vs : List V) (v5 v6 : Option V), σ = [some (.ref a), some (.int jt), some (.ref ln), some (.int (m0 / 5)), some (.ref R), v5, v6, none, none, none, none, none, none, none] ∧ Same H H' ∧ H' R = some (.lst vs) ∧ ThsAt K (wo H' R) ts vs ∧ ts.length = i ∧ ∀ t ∈ ts, GoodT t)
    ⟨[], [], none, none, rfl, sR, upd_same, rfl, rfl, fun t ht => by cases ht⟩ ?_ ?_⟩
  · rintro i σ H1 hi ⟨ts, vs, v5, v6, rfl, s1, eR, eA, hl, hgd⟩
    have hvl := eA.len
    refine ⟨_, rfl, _, rfl, _, _, rfl, rfl, a, ns, _, rfl, s1.seq hS, by omega, fun z2 => ⟨_, rfl, _, rfl, _, _, rfl, rfl, _, _, rfl, fun num hn0 hn1 => ?_⟩⟩
    have hN1 := hN.mono (Same.kp s1)
    refine ⟨_, rfl, .inl ⟨rfl, _, SqL.of eR⟩, _, rfl, _, _, rfl, rfl, ⟨by decide, by decide⟩, _, rfl, _, ln, ss, rfl, hN1, fun p to sg x y H2 hp hok eH => ?_⟩
    subst eH
    have s2 := same_new hp (.tup [.str "let", .str to, .str sg, x.v, y.v])
    have npR : p ≠ R := (ne_of_none eR hp).symm
    have h9 : i < 9 := by omega
    refine ⟨R, vs, .ref p, rfl, rfl, s2 _ _ eR, by rw [hvl, hl, sizeLine_eq]; omega, ?_⟩
    have s3 : Same H (upd (upd H1 p (.tup [.str "let", .str to, .str sg, x.v, y.v])) R (.lst (vs ++ [.ref p]))) := same_upd (s1.trans s2) hR
    have hT1 : ThAt K (wo (upd (upd H1 p (.tup [.str "let", .str to, .str sg, x.v, y.v])) R (.lst (vs ++ [.ref p]))) R) (.tp [.v (.str "let"), .v (.str to), .v (.str sg), .v x.v, .v y.v]) (.ref p) :=
      ⟨p, _, rfl, SqT.of (by rw [wo_at npR, upd_ne npR, upd_same]), _, _, rfl, strAt (by decide +kernel), _, _, rfl, name_flt hg hok.1, _, _, rfl, strAt (sign_len hok.2.1), _, _, rfl, vl_flt hg hok.2.2.1, _, [], rfl, vl_flt hg hok.2.2.2, rfl⟩
    have eA3 := (eA.mono (Same.kp ((wo_mono s2).trans (wo_upd (u := .lst (vs ++ [.ref p])))))).app (ThsAt.one hT1)
    refine ⟨_, rfl, _, _, rfl, rfl, (by show (0 : Int) < 2; decide), rfl, _, rfl, ite2 (fun _ => ?_) fun _ => ?_⟩
    · refine ⟨_, rfl, _, _, rfl, rfl, ⟨by decide, by decide⟩, _, _, rfl, rfl, (by show (0 : Int) < 16; decide), _, rfl, _, _, rfl, rfl, ⟨by decide, by decide⟩, _, rfl, _, _, ln, ss, rfl, Int.emod_nonneg _ (by decide), Int.emod_lt_of_pos _ (by decide), hN.mono (Same.kp s3), fun z hz => ⟨(by show 2 ≤ sizeLine; decide), fun p2 hp2 => ?_⟩⟩
      have s4 := same_new hp2 (.tup [.str "say", z.v])
      have np2 : p2 ≠ R := (ne_of_none upd_same hp2).symm
      refine ⟨_, rfl, _, rfl, R, _, _, i, rfl, rfl, s4 _ _ upd_same, ixN_of (by omega) (by rw [List.length_append, hvl, hl, List.length_singleton]; omega), ?_⟩
      have hT2 : ThAt K (wo (upd (upd (upd (upd H1 p (.tup [.str "let", .str to, .str sg, x.v, y.v])) R (.lst (vs ++ [.ref p]))) p2 (.tup [.str "say", z.v])) R (.lst ((vs ++ [V.ref p]).set i (V.ref p2)))) R) (.tp [.v (.str "say"), .v z.v]) (.ref p2) :=
        ⟨p2, _, rfl, SqT.of (by rw [wo_at np2, upd_ne np2, upd_same]), _, _, rfl, strAt (by decide +kernel), _, [], rfl, vl_flt hg hz, rfl⟩
      have eA4 := ThsAt.set hT2 i (eA3.mono (Same.kp ((wo_mono s4).trans (wo_upd (u := .lst ((vs ++ [V.ref p]).set i (V.ref p2)))))))
      refine ⟨_, _, _, _, rfl, same_upd (s3.trans s4) hR, upd_same, eA4, by rw [List.length_set, List.length_append, hl]; rfl, fun t ht => ?_⟩
      rcases List.mem_or_eq_of_mem_set ht with ht | rfl
      · rcases List.mem_append.mp ht with ht | ht
        · exact hgd t ht
        · rw [List.mem_singleton.mp ht]
          exact good_let hg hok
      · exact good_say hg hz
    · refine ⟨_, _, _, _, rfl, s3, upd_same, eA3, by rw [List.length_append, hl]; rfl, fun t ht => ?_⟩
      rcases List.mem_append.mp ht with ht | ht
      · exact hgd t ht
      · rw [List.mem_singleton.mp ht]
        exact good_let hg hok
  rintro σ H1 ⟨ts, vs, v5, v6, rfl, s1, eR, eA, hl, hgd⟩
  have hvl := eA.len
  have hvn : vs.length = (3 + m0 / 5 % 6).toNat := by rw [hvl, hl]
  have hvp : 3 ≤ vs.length ∧ vs.length ≤ 8 := by omega
  refine ⟨_, rfl, R, _, rfl, .inl (SqL.of eR), ?_⟩
  refine ⟨fun σ H' => ∃ (us : List V) (qs : List Th) (due : Str) (v9 v10 v11 : Option V), σ = [some (.ref a), some (.int jt), some (.ref ln), some (.int (m0 / 5)), some (.ref R), v5, v6, some (.str due), some (.int ((vs.length : Nat) : Int)), v9, v10, v11, none, none] ∧ Same H H' ∧ H' R = some (.lst us) ∧ ThsAt K (wo H' R) qs us ∧ qs.length = vs.length ∧ St qs due v10, ?_, ?_⟩
  · refine ⟨_, rfl, _, _, rfl, rfl, ⟨by decide, by decide⟩, _, _, rfl, rfl, (by show (0 : Int) < 8; decide), _, _, rfl, rfl, _, rfl, ite2 (fun _ => ?_) fun _ => ?_⟩
    rotate_left
    · exact ⟨vs, ts, "good", none, none, none, rfl, s1, eR, eA, hvl.symm, .inl ⟨rfl, hgd⟩⟩
    refine ⟨_, rfl, a, ns, 2, rfl, s1.seq hS, by decide, fun z2 => ⟨_, rfl, _, _, rfl, rfl, .inl ⟨by decide, by decide⟩, _, _, rfl, fun nb hb0 hb1 => ⟨nb, rfl, hb0, fun pb bv th due1 H2 s2 hpb hth hbad => ?_⟩⟩⟩
    have eR2 := s2 _ _ eR
    have s12 := s1.trans s2
    refine ⟨_, rfl, a, ns, 3, rfl, s12.seq hS, by decide, fun z3 => ⟨_, rfl, R, _, rfl, .inl (SqL.of eR2), _, _, rfl, rfl, (by show (0 : Int) < ((vs.length : Nat) : Int); omega), ?_⟩⟩
    obtain ⟨jx, ejx, hjx⟩ : ∃ jx : Nat, z3 % ((vs.length : Nat) : Int) = (jx : Int) ∧ jx < vs.length := by
      have q0 : 0 ≤ z3 % ((vs.length : Nat) : Int) := Int.emod_nonneg _ (by omega)
      have q1 : z3 % ((vs.length : Nat) : Int) < ((vs.length : Nat) : Int) := Int.emod_lt_of_pos _ (by omega)
      exact ⟨(z3 % ((vs.length : Nat) : Int)).toNat, by omega, by omega⟩
    refine ⟨_, rfl, pb, _, _, _, rfl, rfl, hpb, atI_nat (j := 0) rfl, _, rfl, _, rfl, R, _, _, jx, rfl, rfl, eR2, ixN_of ejx hjx, ?_⟩
    have hpb3 := sqT_put (u := .lst (vs.set jx bv)) eR2 hpb
    have eA2 := eA.mono (Same.kp (wo_mono s2))
    have hth2 := hth.mono (Same.kp (nw_wo eR (H' := H2)))
    have eA3 := (ThsAt.set hth2 jx eA2).mono (Same.kp (wo_upd (u := .lst (vs.set jx bv))))
    have hth3 := hth2.mono (Same.kp (wo_upd (u := .lst (vs.set jx bv))))
    have pre : ∀ (i : Nat) (t : Th), i < jx → ts[i]? = some t → GoodT t := fun i t _ e => hgd t (List.mem_of_getElem? e)
    refine ⟨_, rfl, pb, _, _, _, rfl, rfl, hpb3, atI_nat (j := 1) rfl, ?_⟩
    refine ⟨fun σ H' => ∃ (us : List V) (qs : List Th), σ = [some (.ref a), some (.int jt), some (.ref ln), some (.int (m0 / 5)), some (.ref R), v5, v6, some (.str due1), some (.int ((vs.length : Nat) : Int)), some (.ref pb), some (.int (z3 % ((vs.length : Nat) : Int))), none, none, none] ∧ Same H H' ∧ H' R = some (.lst us) ∧ ThsAt K (wo H' R) qs us ∧ qs.length = vs.length ∧ Fst qs due1 jx, ?_, ?_⟩
    · refine ⟨_, rfl, _, _, rfl, rfl, ⟨by decide, by decide⟩, _, _, rfl, rfl, (by show (0 : Int) < 3; decide), rfl, _, rfl, ite2 (fun _ => ?_) fun _ => ?_⟩
      rotate_left
      · exact ⟨_, _, rfl, same_upd s12 hR, upd_same, eA3, by rw [List.length_set, hvl], Fst.put (due := due1) pre (by omega) (badX_of hbad)⟩
      refine ⟨(by show 3 ≤ sizeLine; decide), fun pk hpk => ?_⟩
      obtain ⟨kd, hkd, ekd⟩ := kind3_at (z3 % ((vs.length : Nat) : Int))
      have k1 := same_new hpk (.lst [.str "when", .str "loop", .str "again"])
      have s3 := same_upd (u := .lst (vs.set jx bv)) s12 hR
      obtain ⟨nm, hnm, enm⟩ := (hN.mono (Same.kp (s3.trans k1))).at (z := 2) (by decide) (by decide)
      refine ⟨_, rfl, _, _, rfl, rfl, (by show (0 : Int) < 3; decide), pk, _, _, _, rfl, rfl, SqL.of upd_same, ekd, _, rfl, ln, _, _, .str nm, rfl, rfl, (hN.mono (Same.kp (s3.trans k1))).1, enm, (by show 2 ≤ sizeLine; decide), fun q1 hq1 => ?_⟩
      have k2 := k1.trans (same_new hq1 (.tup [.str "say", .int 1]))
      refine ⟨_, rfl, pb, _, _, _, rfl, rfl, Kp.sqT (Same.kp k2) hpb3, atI_nat (j := 0) rfl, (by show 2 ≤ sizeLine; decide), fun q2 hq2 => ⟨(by show 3 ≤ sizeLine; decide), fun q3 hq3 => ⟨(by show 3 ≤ sizeLine; decide), fun q4 hq4 => ?_⟩⟩⟩
      have n2 := same_new hq2 (.tup [.str "say", .int 2])
      have n3 := same_new hq3 (.lst [.ref q1, bv, .ref q2])
      have n4 := same_new hq4 (.tup [.str kd, .str nm, .ref q3])
      have k4 := k2.trans (n2.trans (n3.trans n4))
      have eR3 : (upd H2 R (.lst (vs.set jx bv))) R = some (.lst (vs.set jx bv)) := upd_same
      have eR4 := k4 _ _ eR3
      refine ⟨_, rfl, _, rfl, R, _, _, jx, rfl, rfl, eR4, ixN_of ejx (by rw [List.length_set]; exact hjx), ?_⟩
      have m1 := (n2.trans (n3.trans n4)) q1 _ upd_same
      have m2 := (n3.trans n4) q2 _ upd_same
      have m3 := n4 q3 _ upd_same
      have r1' : q1 ≠ R := (ne_of_none (k1 _ _ eR3) hq1).symm
      have r2' : q2 ≠ R := (ne_of_none (k2 _ _ eR3) hq2).symm
      have r3' : q3 ≠ R := (ne_of_none ((k2.trans n2) _ _ eR3) hq3).symm
      have r4' : q4 ≠ R := (ne_of_none ((k2.trans (n2.trans n3)) _ _ eR3) hq4).symm
      have hW := wo_mono (R := R) k4
      have hX : ThAt K (wo _ R) (.tp [.v (.str kd), .v (.str nm), .ls [.tp [.v (.str "say"), .v (.int 1)], th, .tp [.v (.str "say"), .v (.int 2)]]]) (.ref q4) :=
        ⟨q4, _, rfl, SqT.of (by rw [wo_at r4']; exact upd_same), _, _, rfl, strAt (kind_len hkd), _, _, rfl, name_flt hg hnm, .ref q3, [], rfl, ⟨q3, _, rfl, SqL.of (by rw [wo_at r3']; exact m3), .ref q1, _, rfl, ⟨q1, _, rfl, SqT.of (by rw [wo_at r1']; exact m1), _, _, rfl, strAt (by decide +kernel), _, [], rfl, ⟨rfl, True.intro⟩, rfl⟩,
          bv, _, rfl, hth3.mono (Same.kp hW), .ref q2, [], rfl, ⟨q2, _, rfl, SqT.of (by rw [wo_at r2']; exact m2), _, _, rfl, strAt (by decide +kernel), _, [], rfl, ⟨rfl, True.intro⟩, rfl⟩, rfl⟩, rfl⟩
      have eA5 := (ThsAt.set hX jx (eA3.mono (Same.kp hW))).mono (Same.kp (wo_upd (u := .lst ((vs.set jx bv).set jx (V.ref q4)))))
      exact ⟨_, _, rfl, same_upd (s3.trans k4) hR, upd_same, eA5, by rw [List.length_set, List.length_set, hvl], Fst.put (due := due1) (ts := ts.set jx th) (fun i t hi e => pre i t hi (by rw [List.getElem?_set_ne (by omega)] at e; exact e)) (by rw [List.length_set]; omega) (badX_wrap hbad hkd (hg nm hnm))⟩
    rintro σ H4 ⟨us, qs, rfl, s4, eR4, eA4, hl4, hF⟩
    have hul := eA4.len
    have done : ∃ (us' : List V) (qs' : List Th) (due : Str) (v9 v10 v11 : Option V), [some (.ref a), some (.int jt), some (.ref ln), some (.int (m0 / 5)), some (.ref R), v5, v6, some (.str due1), some (.int ((vs.length : Nat) : Int)), some (.ref pb), some (.int (z3 % ((vs.length : Nat) : Int))), none, none, none] = [some (.ref a), some (.int jt), some (.ref ln), some (.int (m0 / 5)), some (.ref R), v5, v6, some (.str due), some (.int ((vs.length : Nat) : Int)), v9, v10, v11, none, none] ∧ Same H H4 ∧ H4 R = some (.lst us') ∧ ThsAt K (wo H4 R) qs' us' ∧ qs'.length = vs.length ∧ St qs' due v10 :=
      ⟨us, qs, due1, _, _, _, rfl, s4, eR4, eA4, hl4, .inr ⟨jx, by rw [ejx], hF⟩⟩
    refine ⟨_, rfl, _, _, rfl, rfl, ⟨by decide, by decide⟩, _, _, rfl, rfl, (by show (0 : Int) < 2; decide), rfl, _, rfl, ite2 (fun _ => ?_) fun _ => ?_⟩
    rotate_left
    · exact iteF done
    refine ⟨_, rfl, _, _, rfl, rfl, _, rfl, R, _, rfl, .inl (SqL.of eR4), _, _, rfl, rfl, _, rfl, ite2 (fun c => ?_) fun _ => ?_⟩
    rotate_left
    · exact done
    have c' : z3 % ((vs.length : Nat) : Int) + 1 < ((us.length : Nat) : Int) := of_decide_eq_true c
    refine ⟨_, rfl, _, _, rfl, rfl, _, rfl, a, ns, 4, rfl, s4.seq hS, by decide, fun z4 => ⟨_, rfl, R, _, rfl, .inl (SqL.of eR4), _, rfl, _, _, rfl, rfl, _, _, rfl, rfl, _, _, rfl, rfl, ?_, _, _, rfl, rfl, ?_⟩⟩
    · show (0 : Int) < ((us.length : Nat) : Int) - z3 % ((vs.length : Nat) : Int) - 1
      omega
    refine ⟨_, rfl, a, ns, 5, rfl, s4.seq hS, by decide, fun z5 => ⟨_, rfl, _, _, rfl, rfl, _, _, rfl, fun nb2 hb2 _ => ⟨nb2, rfl, hb2, fun pb2 bv2 th2 due2 H5 s5 hp5 hth5 hbad2 => ?_⟩⟩⟩
    have eR5 := s5 _ _ eR4
    obtain ⟨jy, ejy, hjy, hjy2⟩ : ∃ jy : Nat, z3 % ((vs.length : Nat) : Int) + 1 + z4 % (((us.length : Nat) : Int) - z3 % ((vs.length : Nat) : Int) - 1) = (jy : Int) ∧ jx < jy ∧ jy < us.length := by
      have q0 : 0 ≤ z4 % (((us.length : Nat) : Int) - z3 % ((vs.length : Nat) : Int) - 1) := Int.emod_nonneg _ (by omega)
      have q1 : z4 % (((us.length : Nat) : Int) - z3 % ((vs.length : Nat) : Int) - 1) < ((us.length : Nat) : Int) - z3 % ((vs.length : Nat) : Int) - 1 := Int.emod_lt_of_pos _ (by omega)
      exact ⟨(z3 % ((vs.length : Nat) : Int) + 1 + z4 % (((us.length : Nat) : Int) - z3 % ((vs.length : Nat) : Int) - 1)).toNat, by omega, by omega, by omega⟩
    refine ⟨pb2, _, _, _, rfl, rfl, hp5, atI_nat (j := 0) rfl, _, rfl, _, rfl, R, _, _, jy, rfl, rfl, eR5, ixN_of ejy hjy2, ?_⟩
    have eA5 := (ThsAt.set (hth5.mono (Same.kp (nw_wo eR4))) jy (eA4.mono (Same.kp (wo_mono s5)))).mono (Same.kp (wo_upd (u := .lst (us.set jy bv2))))
    exact ⟨_, _, due1, _, _, _, rfl, same_upd (s4.trans s5) hR, upd_same, eA5, by rw [List.length_set]; exact hl4, .inr ⟨jx, by rw [ejx], hF.later hjy⟩⟩
  rintro σ H2 ⟨us, qs, due0, v9, v10, v11, rfl, s2, eR2, eA2, hl2, hst⟩
  refine ⟨fun σ H' => ∃ (xr : V) (R0 : Th) (due : Str) (many : Nat), σ = [some (.ref a), some (.int jt), some (.ref ln), some (.int (m0 / 5)), some xr, v5, v6, some (.str due), some (.int (many : Int)), v9, v10, v11, none, none] ∧ Same H H' ∧ ThAt K H' R0 xr ∧ Fin9 R0 due many v10, ?_, ?_⟩
  · refine ⟨_, rfl, _, _, rfl, rfl, ⟨by decide, by decide⟩, _, _, rfl, rfl, (by show (0 : Int) < 9; decide), rfl, _, rfl, ite2 (fun _ => ?_) fun _ => ?_⟩
    rotate_left
    · exact ⟨.ref R, .ls qs, due0, vs.length, rfl, s2, ⟨R, us, rfl, SqL.of eR2, eA2.mono (Same.kp wo_same)⟩, .inl ⟨qs, rfl, hl2.symm, by omega, by omega, hst⟩⟩
    refine ⟨_, rfl, R, us, rfl, .inl ⟨SqL.of eR2, fun pt hpt => ⟨(by show 4 ≤ sizeLine; decide), fun pl hpl => ?_⟩⟩⟩
    have n1 := same_new hpt (.tup us)
    have n2 := same_new hpl (.lst [.ref pt, .non, .str "rows", .int 5])
    have s4 := s2.trans (n1.trans n2)
    refine ⟨_, rfl, a, ns, 6, rfl, s4.seq hS, by decide, fun z6 => ?_⟩
    obtain ⟨v, hv, ev⟩ := four_at (.ref pt) .non (.str "rows") (.int 5) z6
    refine ⟨_, _, rfl, rfl, (by show (0 : Int) < 4; decide), pl, _, _, v, rfl, rfl, SqL.of upd_same, ev, ?_⟩
    rcases hv with rfl | rfl | rfl | rfl
    · exact ⟨_, .tp qs, "row", 0, rfl, s4, ⟨pt, us, rfl, SqT.of (n2 _ _ upd_same), (eA2.mono (Same.kp wo_same)).mono (Same.kp (n1.trans n2))⟩, .inr ⟨rfl, rfl, rfl⟩⟩
    · exact ⟨_, .v .non, "row", 0, rfl, s4, ⟨rfl, True.intro⟩, .inr ⟨rfl, rfl, rfl⟩⟩
    · exact ⟨_, .v (.str "rows"), "row", 0, rfl, s4, strAt (by decide +kernel), .inr ⟨rfl, rfl, rfl⟩⟩
    · exact ⟨_, .v (.int 5), "row", 0, rfl, s4, ⟨rfl, True.intro⟩, .inr ⟨rfl, rfl, rfl⟩⟩
  rintro σ H3 ⟨xr, R0, due, many, rfl, s3, hR0, hfin⟩
  refine ⟨(by show 4 ≤ sizeLine; decide), fun pc hpc => ?_⟩
  obtain ⟨vc, hvc, evc⟩ := four_at (.int 0) (.int 1) (.int 2) (.int 20) (m0 / 5 / 2592)
  refine ⟨_, rfl, _, _, rfl, rfl, ⟨by decide, by decide⟩, _, _, rfl, rfl, (by show (0 : Int) < 4; decide), pc, _, _, vc, rfl, rfl, SqL.of upd_same, evc, ?_⟩
  obtain ⟨c, hvc2, hc⟩ : ∃ c : Nat, vc = .int (c : Int) ∧ (c ≤ 2 ∨ c = 20) := by
    rcases hvc with rfl | rfl | rfl | rfl
    · exact ⟨0, rfl, .inl (by omega)⟩
    · exact ⟨1, rfl, .inl (by omega)⟩
    · exact ⟨2, rfl, .inl (by omega)⟩
    · exact ⟨20, rfl, .inr rfl⟩
  subst hvc2
  have n5 := same_new hpc (.lst [.int 0, .int 1, .int 2, .int 20])
  have s5 := s3.trans n5
  have hR5 := hR0.mono (Same.kp n5)
  refine ⟨fun σ H' => ∃ (due2 : Str), σ = [some (.ref a), some (.int jt), some (.ref ln), some (.int (m0 / 5)), some xr, v5, v6, some (.str due2), some (.int (many : Int)), v9, v10, v11, some (.int (c : Int)), none] ∧ Same H H' ∧ ThAt K H' R0 xr ∧ Res R0 due2 many c, ?_, ?_⟩
  · -- where nothing is changed
    have keep : (due = "good" ∨ c ≤ 2 ∨ many = 0) → Res R0 due many c := fun hk => by
      rcases hfin with ⟨qs2, rfl, hm, hm0, hm8, hst2⟩ | ⟨hnl, rfl, hm⟩
      · rcases hst2 with ⟨hd, hg2⟩ | ⟨at2, hv2, hF⟩
        · exact .inl ⟨hd, by rw [lkRows_ls, lkAll_all hg2, hm]⟩
        · obtain ⟨_, _, _, _, _, bX⟩ := hF.split
          have hc2 : c ≤ 2 := by
            rcases hk with hk | hk | hk
            · exact absurd hk bX.ne.1
            · exact hk
            · omega
          obtain ⟨cl, h1, h2, h3⟩ := fst_err (n := c) (m := 20 - c) hF (by omega)
          exact .inr ⟨bX.ne.1, cl, h1, h2, told_nd h3⟩
      · exact .inr ⟨by decide +kernel, .row, lkRows_noL hnl, rfl, told_nd row_nd⟩
    refine ⟨_, rfl, rfl, _, rfl, ite2 (fun e20 => ?_) fun n20 => ?_⟩
    rotate_left
    · refine iteF ⟨due, rfl, s5, hR5, keep (.inr (.inl ?_))⟩
      rcases hc with hc | hc
      · exact hc
      · subst hc
        exact absurd (decide_eq_true rfl) n20
    refine ⟨_, rfl, rfl, _, rfl, ite2 (fun ng => ?_) fun eg => ?_⟩
    rotate_left
    · refine iteF ⟨due, rfl, s5, hR5, keep (.inl ?_)⟩
      cases hd : decide (V.str due = V.str "good") with
      | true => exact V.str.inj (of_decide_eq_true hd)
      | false => exact absurd (show (!decide (V.str due = V.str "good")) = true by rw [hd]; rfl) eg
    refine ⟨_, rfl, _, _, rfl, rfl, _, rfl, ite2 (fun m0' => ?_) fun nm => ?_⟩
    rotate_left
    · refine iteF ⟨due, rfl, s5, hR5, keep (.inr (.inr ?_))⟩
      have : ¬ (0 : Int) < (many : Int) := fun q => nm (decide_eq_true q)
      omega
    have hm0 : 0 < many := by
      have : (0 : Int) < (many : Int) := of_decide_eq_true m0'
      omega
    have hdg : due ≠ "good" := fun e => by
      have q : (!decide (V.str due = V.str "good")) = true := ng
      rw [e, decide_eq_true rfl] at q
      cases q
    have hc20 : c = 20 := by
      have q := V.int.inj (of_decide_eq_true e20)
      omega
    subst hc20
    rcases hfin with ⟨qs2, rfl, hm, _, hm8, hst2⟩ | ⟨_, _, hm⟩
    rotate_left
    · omega
    rcases hst2 with ⟨hd, _⟩ | ⟨at2, hv2, hF⟩
    · exact absurd hd hdg
    obtain ⟨X, eX, _, _, _, bX⟩ := hF.split
    obtain ⟨p5, vs5, rfl, h52, h53⟩ := hR5
    obtain ⟨hlt, _⟩ := List.getElem?_eq_some_iff.mp eX
    have hl5 : at2 < vs5.length := by rw [h53.len]; exact hlt
    have ev5 : vs5[at2]? = some vs5[at2] := List.getElem?_eq_getElem hl5
    obtain ⟨X2, eX2, hX2⟩ := h53.at ev5
    rw [eX] at eX2
    obtain rfl := Option.some.inj eX2
    subst hv2
    refine ⟨_, rfl, _, rfl, p5, vs5, _, _, rfl, rfl, h52, at_of (j := at2) rfl ev5, _, X, rfl, hX2, fun H7 s7 => ⟨_, rfl, ?_⟩⟩
    have h57 : ThAt K H7 (.ls qs2) (.ref p5) := ⟨p5, vs5, rfl, (Same.kp s7).sqL h52, h53.mono (Same.kp s7)⟩
    cases hb : X.isBlk with
    | true =>
      refine iteT ⟨"deep", rfl, s5.trans s7, h57, .inr ⟨by decide +kernel, .deep (20 + at2), fst_deep hF eX hb, rfl, fun k e => ?_⟩⟩
      cases e
      omega
    | false =>
      obtain ⟨cl, h1, h2, h3⟩ := fst_err0 (n := 20) hF eX hb
      exact iteF ⟨due, rfl, s5.trans s7, h57, .inr ⟨hdg, cl, h1, h2, told_nd h3⟩⟩
  rintro σ H6 ⟨due2, rfl, s6, hR6, hres⟩
  refine ⟨_, rfl, _, rfl, _, rfl, _, rfl, xr, R0, ln, (c : Int), _, ss, rfl, hR6, hN.mono (Same.kp s6), fun s hs => by have := (good_len (hg s hs)).2; omega, by omega, by omega, fun H7 x7 u7 s7 hx7 hW => ?_⟩
  have ew : lkRows 20 u7 0 = lkRows (20 - c) R0 c := by
    have q := wrap_rows hg hW 20 0 (by omega)
    rw [Int.toNat_natCast, Nat.zero_add] at q
    exact q
  have o7 : On T H H7 := ⟨Same.kp (s6.trans s7), tab_same hT (s6.trans s7)⟩
  rcases hres with ⟨hd, hok⟩ | ⟨hd, cl, herr, htx, htold⟩
  · rw [hok] at ew
    refine ⟨_, rfl, rfl, _, rfl, ifF ?_ ?_⟩
    · rw [hd, decide_eq_true rfl]
      rfl
    refine ⟨_, rfl, x7, u7, rfl, hx7, o7.t, by rw [ew]; exact fun k e => (by cases e), ?_⟩
    rw [ew]
    intro H8 o8
    refine ⟨_, rfl, _, rfl, _, rfl, iteT ⟨_, rfl, _, rfl, _, rfl, _, _, rfl, rfl, rfl, ?_⟩⟩
    have q := k H8 (o7.trans o8)
    have e : decide (V.int ((c + many : Nat) : Int) = V.int ((many : Int) + (c : Int))) = true := decide_eq_true (congrArg V.int (by omega))
    rw [← e] at q
    exact q
  · rw [herr] at ew
    refine ⟨_, rfl, rfl, _, rfl, ifT ?_ ?_⟩
    · rw [decide_eq_false (fun e => hd (V.str.inj e))]
      rfl
    have ht7 : Told (lkRows 20 u7 0) := by rw [ew]; exact htold
    refine ⟨_, rfl, x7, u7, rfl, hx7, o7.t, ht7, fun H8 o8 => ?_⟩
    rw [ew]
    refine ⟨_, rfl, rfl, _, rfl, ifT (decide_eq_true (congrArg V.str htx)) ?_⟩
    refine ⟨_, rfl, x7, u7, rfl, hx7.mono o8.k, o8.t, ht7, fun H9 o9 => ?_⟩
    rw [ew]
    exact k H9 (o7.trans (o8.trans o9))
end
end Lm
namespace Lm
open PySem L2 GxR
abbrev s_law : Stmt := topS 38
def spLaw (K : PySem.W.Frag) (T : Addr) : Sp := fun vs H Q _ => ∃ (a : Addr) (ns : List Int), vs = [.ref a] ∧ SqL K H a (ns.map V.int) ∧ ns.length ≤ 63 ∧ TabG H T ∧ ∀ H', Q (.bl true) H'
theorem all_true (n : Nat) : (List.replicate n true).all id = true := by simp
section
variable {P : Program} {w : World} {K : PySem.W.Frag} {mg : Str → Option Value} {base : Heap} {f T a1 a3 b1 : Addr} {fd d1 d3 e1 : FuncData}
abbrev nLaw : List Str := ["_law_script", "_law_names_here", "_law_turn"]
theorem sc_law : FnScope nLaw ["_law_script"] (defScope s_law) := ⟨rfl, rfl, rfl, by decide +kernel, rfl, by decide +kernel, by decide +kernel⟩
theorem ok_law (F : Fun K "law" "law" s_law f fd) (B : Bn mg) (D1 : Df P w K mg base "_law_cell_at" 1 a1 d1 ["_law_script", "_law_k"] (spCell K)) (D3 : Df P w K mg base "_law_names" 1 a3 d3 ["_law_cell"] spNames)
    (DH : Df P w K mg base "_law_holds" 50 b1 e1 ["_law_script", "_law_turn", "_law_names_here"] (spHolds K T)) : FnOk P w K mg base CX0 51 f fd ["_law_script"] (spLaw K T) := by
  refine F.ok sc_law (fun vs H Q E h => ?_) (fun cdv A outer s H vs Q E hr h => ?_)
  · obtain ⟨a, ns, rfl, _⟩ := h
    rfl
  obtain ⟨a, ns, rfl, hS, h63, hT, k⟩ := h
  have nd := sc_law.nd
  have r1 : Room 1 _ := hr.mono (by decide)
  refine ⟨_, pss_cons (ps_set (i := 1) nd rfl (Or.inr rfl) (pe_df D3 r1 (pa_cons (pe_df D1 r1 (pa_cons (pv 0) (pa_cons pe_int pa_nil))) pa_nil))) <|
    pss_one (ps_ret (pe_callB (cr_all rfl) rfl B.all (by decide +kernel) (pa_cons (pe_lc (own := [("_law_turn", 2)]) (g := gName 2) rfl nd (pi_range1 rfl B.range (pa_cons pe_int pa_nil))
      (blkOk_by (N := nLaw) (sc := defScope s_law) (by decide +kernel)) (fun _ _ _ _ _ => pg_name (i := 2) nd rfl (Or.inl rfl)) (fun _ _ _ _ _ => pts_nil)
      (fun _ _ _ _ _ => pe_df DH hr (pa_cons (pv 0) (pa_cons (pv 2) (pa_cons (pv 1) pa_nil))))) pa_nil))), ?_⟩
  refine ⟨_, rfl, a, ns, 0, rfl, hS, by decide, fun z0 => ⟨z0, rfl, fun ln ss H1 s1 fln eln len1 hgood => ?_⟩⟩
  have hN1 : NamesAt K H1 ln ss := ⟨SqL.of eln, len1⟩
  have o1 : On T H H1 := ⟨Same.kp s1, tab_same hT s1⟩
  refine ⟨4, rfl, by omega, by omega, fun D hD => lc_range (lo := 0) (n := (4 : Int).toNat) (fun i H' => H' D = some (.lst ((List.replicate i true).map V.bl)) ∧ On T H1 H') ⟨upd_same, ⟨Same.kp (same_new hD _), tab_new o1.t hD⟩⟩ ?_ ?_⟩
  · intro i H2 hi ⟨e2, o2⟩
    refine ⟨rfl, yes (iteT ?_)⟩
    refine ⟨_, rfl, _, rfl, _, rfl, a, ln, ns, _, ss, rfl, o2.k.sqL (s1.seq hS), hN1.mono o2.k, hgood, by omega, by omega, o2.t, fun H3 o3 => ?_⟩
    refine ⟨_, o3.k.at_ _ _ e2 (fun ps z => by cases z), ?_, ?_, ⟨(o2.k.trans o3.k).put hD _, tab_upd o3.t (tab_free o1.t hD)⟩⟩
    · rw [List.length_map, List.length_replicate, sizeLine_eq]
      have : i < 4 := hi
      omega
    · rw [upd_same, List.replicate_succ', List.map_append]
      rfl
  · intro H2 ⟨e2, o2⟩
    refine ⟨D, _, rfl, SqL.of e2, ?_⟩
    rw [all_true]
    exact k H2
end
end Lm
namespace Lm
open PySem PySem.Spec PyProof.Rows L2 GxR
/-! ### the top's hook, with the statics beside what the names reach -/
def asY (g : Addr → Option Obj) : List Addr := He.asD g 4 ++ [cStatics]
section
variable {fa : List He.Fa} {fn : List He.DefD} {ts : List He.Tab} {tf : List He.Defn} {ex : PySem.W.Frag → Bool} {w : World} {h : Heap} {as : List Addr}
theorem saysY (e1 : He.obsT fa fn ts (He.frT h.get? as) = He.valT fn ts w) (e2 : (ex (He.frT h.get? as) && He.tabsB h.get? tf (He.frT h.get? as)) = true) : He.SaysX fa fn ts tf ex w h (He.frT h.get? as) := by
  obtain ⟨more, tabs⟩ := Bool.and_eq_true_iff.mp e2
  have each : ∀ p ∈ tf, PySem.W.codeHdIn (He.frT h.get? as) (He.cT (He.frT h.get? as) p).1 (He.cT (He.frT h.get? as) p).2 = true ∧ h.get? (He.cT (He.frT h.get? as) p).2 = some { cls := .none, data := .fields #[] } := by
    intro p hp
    have both := Bool.and_eq_true_iff.mp (List.all_eq_true.mp tabs p hp)
    refine ⟨both.1, ?_⟩
    have b2 := both.2
    cases q : h.get? (He.cT (He.frT h.get? as) p).2 with
    | none =>
      rw [q] at b2
      exact absurd b2 Bool.false_ne_true
    | some o =>
      rw [q] at b2
      exact congrArg some (He.emptyTab_eq b2)
  constructor
  · exact e1
  · exact more
  · intro p hp
    exact (each p hp).1
  · intro p hp
    exact He.frT_none (each p hp).2 rfl
  · intro p hp
    exact (each p hp).2
end
def obY (fa : List He.Fa) (fn : List He.DefD) (ts : List He.Tab) (tf : List He.Defn) (ex : PySem.W.Frag → Bool) (g : Addr → Option Obj) : He.AlX := (He.obsT fa fn ts (He.frT g (asY g)), ex (He.frT g (asY g)) && He.tabsB g tf (He.frT g (asY g)))
def hookY (fa : List He.Fa) (fn : List He.DefD) (ts : List He.Tab) (tf : List He.Defn) (ex : PySem.W.Frag → Bool) : PySem.W.Hook where
  α := He.AlX
  obs := fun s => obY fa fn ts tf ex s.heap.get?
  val := fun w => (He.valT fn ts w, true)
  says := fun w h => ∃ K : PySem.W.Frag, K.In h ∧ He.SaysX fa fn ts tf ex w h K
  of := fun _ h e => ⟨_, He.frT_in, saysY (congrArg Prod.fst e) (congrArg Prod.snd e)⟩
  keeps := fun _ _ _ ⟨K, hK, c⟩ k => ⟨K, hK.keeps k, ⟨c.t, c.more, c.hd, c.out, fun p hp => k _ _ (c.empty p hp)⟩⟩
theorem obY_eq {fa : List He.Fa} {fn : List He.DefD} {ts : List He.Tab} {tf : List He.Defn} {ex : PySem.W.Frag → Bool} {g : Addr → Option Obj} {s : Shared} (h : ∀ a, g a = s.heap.get? a) : obY fa fn ts tf ex g = (hookY fa fn ts tf ex).obs s := by
  obtain rfl : g = s.heap.get? := funext h
  rfl
/-! ### written tuples, the written dict -/
def tupB (K : PySem.W.Frag) (a : Addr) (xs : List V) : Bool := match K.lookup a with
  | some ⟨.type c, _, .seq its _, _⟩ => decide (c = "tuple") && He.relAll xs its.toList
  | _ => false
theorem relAll_len : ∀ {xs : List V} {us : List Value}, He.relAll xs us = true → us.length = xs.length
  | [], [], _ => rfl
  | [], _ :: _, h => by cases h
  | _ :: _, [], h => by cases h
  | x :: xs, u :: us, h => by
    have h' : (He.relB x u && He.relAll xs us) = true := h
    rw [List.length_cons, List.length_cons, relAll_len (Bool.and_eq_true_iff.mp h').2]
theorem tupB_ok {K : PySem.W.Frag} {a : Addr} {xs : List V} (h : tupB K a xs = true) (hl : xs.length ≤ 1000) (H : Hp) : SqT K H a xs := by
  unfold tupB at h
  cases q : K.lookup a with
  | none =>
    rw [q] at h
    cases h
  | some o =>
    rw [q] at h
    obtain ⟨oc, od, dt, sl⟩ := o
    cases oc with
    | type c =>
      cases dt with
      | seq its n =>
        obtain ⟨h1, h2⟩ := Bool.and_eq_true_iff.mp h
        refine .inr ⟨_, its, n, q, congrArg Value.type (of_decide_eq_true h1), rfl, ?_, He.relAll_ok h2⟩
        have e := relAll_len h2
        rw [Array.length_toList] at e
        rw [e]
        exact Nat.le_of_lt (small1000 hl)
      | _ => cases h
    | _ => cases h
def kv (e : DictEntry) : Option (Str × Int) := match e.key, e.val with
  | .str x _, .int i _ => some (x, i)
  | _, _ => none
def lenL : List (Str × Int) := [("let", 5), ("say", 2), ("when", 3), ("loop", 3), ("again", 3)]
def lenB (K : PySem.W.Frag) (a : Addr) : Bool := match K.lookup a with
  | some ⟨_, _, .dict es _, _⟩ => decide (es.toList.map kv = lenL.map some)
  | _ => false
theorem lk_put {α : Type} (f g : Str) (y : α) (fs : List (Str × α)) : ((f, y) :: fs).lookup g = if g = f then some y else fs.lookup g := by
  by_cases h : g = f
  · subst h
    simp [List.lookup]
  · have e : (g == f) = false := by simpa using h
    rw [if_neg h]
    simp [List.lookup, e]
theorem find_kv (s : Str) : ∀ {l : List DictEntry} {L : List (Str × Int)}, l.map kv = L.map some → l.any (·.refKey) = false ∧ (match L.lookup s with
    | some i => ∃ e t, l.find? (·.key.isStr s) = some e ∧ e.val = .int i t
    | none => l.find? (·.key.isStr s) = none)
  | [], [], _ => ⟨rfl, rfl⟩
  | [], _ :: _, h => by cases h
  | _ :: _, [], h => by cases h
  | e :: l, (x, i) :: L, h => by
    obtain ⟨h1, h2⟩ := List.cons.inj h
    have ih := find_kv s h2
    obtain ⟨eh, ek, ev⟩ := e
    have h1' : kv ⟨eh, ek, ev⟩ = some (x, i) := h1
    cases ek with
    | str y t =>
      cases ev with
      | int j u =>
        have h3 : (y, j) = (x, i) := Option.some.inj h1'
        cases h3
        refine ⟨?_, ?_⟩
        · rw [List.any_cons, ih.1]
          rfl
        · have is : (Value.str x t).isStr s = (x == s) := by rw [PySem.W.isStr_of]; rfl
          rw [lk_put]
          by_cases c : s = x
          · rw [if_pos c]
            refine ⟨_, u, by rw [List.find?_cons]; rw [show (Value.str x t).isStr s = true by rw [is, c]; exact beq_self_eq_true x], rfl⟩
          · rw [if_neg c]
            have n : (Value.str x t).isStr s = false := by rw [is]; exact beq_eq_false_iff_ne.mpr (Ne.symm c)
            rw [show List.find? (fun z : DictEntry => z.key.isStr s) (⟨eh, .str x t, .int i u⟩ :: l) = List.find? (fun z => z.key.isStr s) l by rw [List.find?_cons, n]]
            exact ih.2
      | _ => cases h1'
    | _ => cases h1'
theorem lens_lookup (s : Str) : (lens s).map (fun n : Nat => (n : Int)) = lenL.lookup s := by
  unfold lens lenL
  rw [lk_put, lk_put, lk_put, lk_put, lk_put]
  repeat' split
  all_goals rfl
theorem lenB_ok {K : PySem.W.Frag} {a : Addr} (h : lenB K a = true) (s : Str) : ∃ r, PySem.W.nsIn K a s = some r ∧ (match lens s with | none => r = none | some k => ∃ tk, r = some (.int (k : Int) tk)) := by
  unfold lenB at h
  cases q : K.lookup a with
  | none =>
    rw [q] at h
    cases h
  | some o =>
    rw [q] at h
    obtain ⟨oc, od, dt, sl⟩ := o
    cases dt with
    | dict es n =>
      have e : es.toList.map kv = lenL.map some := of_decide_eq_true h
      obtain ⟨h1, h2⟩ := find_kv s e
      have ll := lens_lookup s
      unfold PySem.W.nsIn
      rw [q]
      cases hl : lens s with
      | none =>
        rw [hl] at ll
        rw [← ll] at h2
        have h3 : es.toList.find? (·.key.isStr s) = none := h2
        refine ⟨none, ?_, rfl⟩
        dsimp only
        rw [h3, h1]
        rfl
      | some k =>
        rw [hl] at ll
        rw [← ll] at h2
        obtain ⟨e, t, h3, h4⟩ := h2
        refine ⟨some e.val, ?_, t, by rw [h4]⟩
        dsimp only
        rw [h3]
    | _ => cases h
end Lm
namespace Lm
open PySem PySem.Spec PyProof.Rows L2 GxR
theorem bd {p : Prop} [Decidable p] {b : Bool} (h : (decide p && b) = true) : p ∧ b = true := ⟨of_decide_eq_true (Bool.and_eq_true_iff.mp h).1, (Bool.and_eq_true_iff.mp h).2⟩
/-! ### the error classes -/
def excCB (K : PySem.W.Frag) (D : Addr) : Bool :=
  He.eqO (PySem.W.findIn K (.ref D) "__getattribute__") (some (some (.builtin "BaseException.__getattribute__"))) && (He.eqO (PySem.W.findIn K (.ref D) "__getattr__") (some none) && (decide (PySem.W.subIn K (.ref D) (.type "BaseException") = some true) && (PySem.W.hasDictIn K D &&
    (He.eqO (PySem.W.findIn K (.ref D) "__class__") (some (some (.builtin "object.__class__"))) && (He.eqO (PySem.W.specialIn K (.builtin "object.__class__") "__get__") (some (some (.builtin "getset_descriptor.__get__"))) && (decide (PySem.W.takesIn K (.builtin "object.__class__") = some true) && decide (PySem.W.mroIn K D (.type "object") = some true)))))))
theorem excCB_ok {K : PySem.W.Frag} {D : Addr} (h : excCB K D = true) : ExcC K D := by
  obtain ⟨h1, h⟩ := Bool.and_eq_true_iff.mp h
  obtain ⟨h2, h⟩ := Bool.and_eq_true_iff.mp h
  obtain ⟨h3, h⟩ := bd h
  obtain ⟨h4, h⟩ := Bool.and_eq_true_iff.mp h
  obtain ⟨h5, h⟩ := Bool.and_eq_true_iff.mp h
  obtain ⟨h6, h⟩ := Bool.and_eq_true_iff.mp h
  obtain ⟨h7, h⟩ := bd h
  exact ⟨He.eqO_ok h1, He.eqO_ok h2, h3, h4, He.eqO_ok h5, He.eqO_ok h6, h7, of_decide_eq_true h⟩
def adK (K : PySem.W.Frag) : Ad := ⟨He.ga K "BadRow", He.ga K "BadName", He.ga K "BadNumber", He.ga K "TooDeep"⟩
def kitB1 (K : PySem.W.Frag) (L BL X : Addr) (s : Str) : Bool :=
  decide (PySem.W.kitOne K (.ref X) (.ref (adK K).row) = some (decide (s = "row"))) && (decide (PySem.W.kitOne K (.ref X) (.ref (adK K).name) = some (decide (s = "name"))) && (decide (PySem.W.kitOne K (.ref X) (.ref (adK K).num) = some (decide (s = "number"))) &&
    (decide (PySem.W.kitOne K (.ref X) (.ref (adK K).deep) = some (decide (s = "deep"))) && (decide (PySem.W.kitOne K (.ref X) (.ref BL) = some false) && (decide (PySem.W.kitOne K (.ref X) (.type "ValueError") = some true) && (decide (PySem.W.exmOne K (.ref X) (.ref L) = some true) && excCB K X))))))
def errB (K : PySem.W.Frag) (L BL : Addr) : Bool := kitB1 K L BL (adK K).row "row" && (kitB1 K L BL (adK K).name "name" && (kitB1 K L BL (adK K).num "number" && kitB1 K L BL (adK K).deep "deep"))
theorem errB_at {K : PySem.W.Frag} {L BL : Addr} (h : errB K L BL = true) (c : Cls) : kitB1 K L BL ((adK K).at_ c) c.txt = true := by
  obtain ⟨h1, h⟩ := Bool.and_eq_true_iff.mp h
  obtain ⟨h2, h⟩ := Bool.and_eq_true_iff.mp h
  obtain ⟨h3, h4⟩ := Bool.and_eq_true_iff.mp h
  cases c with
  | row => exact h1
  | name => exact h2
  | num => exact h3
  | deep n => exact h4
theorem errC_of {K : PySem.W.Frag} {mg : Str → Option Value} {L BL : Addr} (h : errB K L BL = true) (gL : mg "LoopError" = some (.ref L)) (gR : mg "BadRow" = some (.ref (adK K).row)) (gN : mg "BadName" = some (.ref (adK K).name)) (gU : mg "BadNumber" = some (.ref (adK K).num))
    (gD : mg "TooDeep" = some (.ref (adK K).deep)) (gB : mg "BadLine" = some (.ref BL)) (gV : mg "ValueError" = none) : ErrC K mg (adK K) L BL := by
  have f := fun c => errB_at h c
  have g1 := fun c => bd (f c)
  have g2 := fun c => bd (g1 c).2
  have g3 := fun c => bd (g2 c).2
  have g4 := fun c => bd (g3 c).2
  have g5 := fun c => bd (g4 c).2
  have g6 := fun c => bd (g5 c).2
  have g7 := fun c => bd (g6 c).2
  exact ⟨gL, gR, gN, gU, gD, gB, gV, fun c => (g7 c).1, fun c => excCB_ok (g7 c).2, fun c => (g1 c).1, fun c => (g2 c).1, fun c => (g3 c).1, fun c => (g4 c).1, fun c => (g5 c).1, fun c => (g6 c).1⟩
/-! ### the class with its own __init__ -/
def clsVB (K : PySem.W.Frag) (C : Addr) : Bool := match K.lookup C with
  | some ⟨.type t, _, .cls cd, sl⟩ => (match cd.mro, sl.toList with
    | .ref C' :: bm, [_, _, _, _, some (.builtin n), _] => decide (t = "type") && (decide (C' = C) && (decide (n = "ValueError.__new__") && (decide (cd.hasDel = false) && (decide (cd.hasDict = true) && PySem.HandSPX.refsVE bm))))
    | _, _ => false)
  | _ => false
theorem clsVB_ok {K : PySem.W.Frag} {C : Addr} (h : clsVB K C = true) : ∃ nm q N bs bm sn sub ab col dd k0 k1 k2 k3 k5, K.lookup C = some (excClassObj nm q C N bs bm true sn sub ab col dd k0 k1 k2 k3 k5 "ValueError.__new__") ∧ PySem.HandSPX.refsVE bm = true := by
  unfold clsVB at h
  split at h
  · rename_i t od cd sl e
    split at h
    · rename_i C' bm k0 k1 k2 k3 n k5 em es
      obtain ⟨h1, h⟩ := bd h
      obtain ⟨h2, h⟩ := bd h
      obtain ⟨h3, h⟩ := bd h
      obtain ⟨h4, h⟩ := bd h
      obtain ⟨h5, h6⟩ := bd h
      subst h1 h2 h3
      obtain ⟨nm, bs, mro, N, q, hd, sn, sub, ab, col, dl⟩ := cd
      dsimp only at em h4 h5
      subst em h4 h5
      have e2 : sl = #[k0, k1, k2, k3, some (.builtin "ValueError.__new__"), k5] := by
        obtain ⟨l⟩ := sl
        exact congrArg Array.mk es
      subst e2
      exact ⟨nm, q, N, bs, bm, sn, sub, ab, col, od, k0, k1, k2, k3, k5, e, h6⟩
    · cases h
  · cases h
def argB : Arguments → Option (Pos × Pos)
  | ⟨[], [⟨a, none, p1⟩, ⟨b, none, p2⟩], none, [], [], none, []⟩ => if a = "self" ∧ b = "place" then some (p1, p2) else none
  | _ => none
theorem argB_ok {a : Arguments} {p1 p2 : Pos} (h : argB a = some (p1, p2)) : a = DeepX.iA p1 p2 := by
  unfold argB at h
  split at h
  · split at h
    · rename_i c
      obtain ⟨rfl, rfl⟩ := c
      cases h
      rfl
    · cases h
  · cases h
def bodB : FuncBody → Option (Str × Str × DeepX.Ps)
  | .stmts [.Expr (.Call (.Attribute (.Call (.Name s1 p1) [] [] p2) a1 p3) [.JoinedStr [.Constant (.str t1) k1 p4, .FormattedValue (.Name n1 p5) c none p6, .Constant (.str t2) k2 p7] p8] [] p9) p10, .Assign [.Attribute (.Name s2 p11) a2 p12] (.Name n2 p13) p14] =>
    if (s1 = "super" ∧ a1 = "__init__" ∧ n1 = "place" ∧ c = -1 ∧ k1 = 0 ∧ k2 = 0) ∧ s2 = "self" ∧ a2 = "place" ∧ n2 = "place" then some (t1, t2, ⟨p1, p2, p3, p4, p5, p6, p7, p8, p9, p10, p11, p12, p13, p14⟩) else none
  | _ => none
theorem bodB_ok {b : FuncBody} {t1 t2 : Str} {p : DeepX.Ps} (h : bodB b = some (t1, t2, p)) : b = .stmts (DeepX.iB t1 t2 p) := by
  unfold bodB at h
  split at h
  · split at h
    · rename_i c
      obtain ⟨⟨rfl, rfl, rfl, rfl, rfl, rfl⟩, rfl, rfl, rfl⟩ := c
      cases h
      rfl
    · cases h
  · cases h
def cellB (K : PySem.W.Frag) (cc C : Addr) : Bool := match K.lookup cc with
  | some ⟨_, _, .cell (some (.ref D)), _⟩ => decide (D = C)
  | _ => false
def codB (K : PySem.W.Frag) (cda : Addr) (file : Str) : Bool := match K.lookup cda with
  | some ⟨_, _, .fields vs, _⟩ => (match vs[2]? with
    | some (Value.str f _) => file == f
    | _ => false)
  | _ => false
def iniB (K : PySem.W.Frag) (fI C : Addr) (file t1 t2 : Str) : Bool := match K.lookup fI with
  | some ⟨_, _, .func ⟨nm, qn, ps, bd, sc, gl, cl, dV, kV, _, _, _, cdv, _, bi⟩, _⟩ => (match argB ps, bodB bd, cl, dV, kV, cdv with
    | some _, some (u1, u2, p), [(x, cc)], .none, .none, .ref cda => decide (nm = "__init__") && (decide (u1 = t1) && (decide (u2 = t2) && (decide (sc = DeepX.iS) && (decide (gl = mainGlobals) && (decide (x = "__class__") && (decide (bi = builtinsNs) && (PySem.W.codeIn K (.ref cda) qn && (codB K cda file && ((p.p3.endLine == p.p9.line) && cellB K cc C)))))))))
    | _, _, _, _, _, _ => false)
  | _ => false
theorem iniB_ok {K : PySem.W.Frag} {fI C : Addr} {P : Program} {t1 t2 : Str} (h : iniB K fI C P.main.file t1 t2 = true) : ∃ (oc : Value) (od : Option Addr) (doc pm : Value) (an : Option Addr) (cda : Addr) (ct : Value) (osl : Array (Option Value)) (qn : Str) (p1 p2 : Pos) (p : DeepX.Ps) (cc : Addr) (cl : Value) (cld : Option Addr) (csl : Array (Option Value)) (ccl : Value) (cdd : Option Addr) (vs : Array Value) (ccs : Array (Option Value)) (file : Str) (tf : Tok),
    K.lookup fI = some ⟨oc, od, .func (PySem.W.ksFn "__init__" qn (DeepX.iA p1 p2) (DeepX.iB t1 t2 p) DeepX.iS .none .none doc pm an (.ref cda) ct cc), osl⟩ ∧ PySem.W.codeIn K (.ref cda) qn = true ∧
    K.lookup cda = some ⟨ccl, cdd, .fields vs, ccs⟩ ∧ vs[2]? = some (.str file tf) ∧ ((P.main.file : Str) == file) = true ∧ (p.p3.endLine == p.p9.line) = true ∧ K.lookup cc = some ⟨cl, cld, .cell (some (.ref C)), csl⟩ := by
  unfold iniB at h
  split at h
  · rename_i oc od nm qn ps bo sc gl cl0 dV kV doc pm an cdv ct bi osl e
    split at h
    · rename_i pp u1 u2 p x cc cda ea eb
      obtain ⟨p1, p2⟩ := pp
      obtain ⟨h1, h⟩ := bd h
      obtain ⟨h2, h⟩ := bd h
      obtain ⟨h3, h⟩ := bd h
      obtain ⟨h4, h⟩ := bd h
      obtain ⟨h5, h⟩ := bd h
      obtain ⟨h6, h⟩ := bd h
      obtain ⟨h7, h⟩ := bd h
      obtain ⟨h8, h⟩ := Bool.and_eq_true_iff.mp h
      obtain ⟨h9, h⟩ := Bool.and_eq_true_iff.mp h
      obtain ⟨h10, h11⟩ := Bool.and_eq_true_iff.mp h
      have ea2 := argB_ok ea
      have eb2 := bodB_ok eb
      subst h1 h2 h3 h4 h5 h6 h7 ea2 eb2
      unfold codB at h9
      split at h9
      · rename_i ccl cdd vs ccs ec
        split at h9
        · rename_i f tf ev
          unfold cellB at h11
          split at h11
          · rename_i cl cld D csl el
            have eD := of_decide_eq_true h11
            subst eD
            exact ⟨oc, od, doc, pm, an, cda, ct, osl, qn, p1, p2, p, cc, cl, cld, csl, ccl, cdd, vs, ccs, f, tf, e, h8, ec, ev, h9, h10, el⟩
          · cases h11
        · cases h9
      · cases h9
    · cases h
  · cases h
end Lm
namespace Lm
open PySem PySem.Spec PyProof.Rows L2 GxR
/-! ### what the top leaves -/
def mkD (x : Str) (i : Nat) : He.DefD := ⟨(x, none), x, x, defArgs (topS i), defBody (topS i), defScope (topS i), [], []⟩
def fn : List He.DefD := [mkD "is_name" 15, mkD "is_number" 16, mkD "check_form" 17, mkD "check_name" 18, mkD "check_sign" 19, mkD "check_worth" 20, mkD "check_let" 21, mkD "look_at_row" 22, mkD "look_at_rows" 23, mkD "checked" 24, mkD "_law_cell_at" 26, mkD "_law_mixed" 27, mkD "_law_names" 28, mkD "_law_value" 29, mkD "_law_let" 30, mkD "_law_whole" 31, mkD "_law_nested" 32, mkD "_law_kind" 33, mkD "_law_bad_row" 34, mkD "_law_is_block" 35, mkD "_law_refused_by_any" 36, mkD "_law_holds" 37, mkD "law" 38]
def own1 : List Str := ["is_name", "is_number", "check_form", "check_name", "check_sign", "check_worth", "check_let", "look_at_row", "look_at_rows", "checked", "_law_cell_at", "_law_mixed", "_law_names", "_law_value", "_law_let", "_law_whole"]
def own2 : List Str := ["_law_nested", "_law_kind", "_law_bad_row", "_law_is_block", "_law_refused_by_any", "_law_holds", "law", "BARRED", "BLOCKS", "SIGNS", "LENGTHS", "LoopError", "BadRow", "BadName", "BadNumber", "BadLine", "TooDeep"]
def own : List Str := own1 ++ own2
def bare : List Str := ["len", "range", "isinstance", "list", "tuple", "str", "int", "bool", "all", "super", "ValueError"]
def fa : List He.Fa := .int "LONGEST_NAME" 6 :: .int "HIGHEST_NUMBER" 999999 :: .int "DEEPEST_BLOCK" 20 :: .exc "BadRow" :: .exc "BadName" :: .exc "BadNumber" :: (own.map He.Fa.glo ++ bare.map He.Fa.free)
theorem in_fa {f : He.Fa} (h : f ∈ own.map He.Fa.glo ++ bare.map He.Fa.free) : f ∈ fa := List.mem_cons_of_mem _ (List.mem_cons_of_mem _ (List.mem_cons_of_mem _ (List.mem_cons_of_mem _ (List.mem_cons_of_mem _ (List.mem_cons_of_mem _ h)))))
theorem glo_fa {x : Str} (h : x ∈ own) : He.Fa.glo x ∈ fa := in_fa (List.mem_append_left _ (List.mem_map_of_mem h))
theorem free_fa {x : Str} (h : x ∈ bare) : He.Fa.free x ∈ fa := in_fa (List.mem_append_right _ (List.mem_map_of_mem h))
abbrev pwL : Program := (PySem.W.OpenLaw.row PySem.Challenge.rw_loopmover_k04_what_is_no_program).prog
abbrev tA : Str := "the block at "
abbrev tZ : Str := " lies too deep"
def deepB (K : PySem.W.Frag) (C fI : Addr) : Bool := clsVB K C && (He.eqO (PySem.W.findIn K (.ref C) "__setattr__") (some (some (.builtin "object.__setattr__"))) && (He.eqO (PySem.W.findIn K (.ref C) "__getattribute__") (some (some (.builtin "BaseException.__getattribute__"))) && (He.eqO (PySem.W.findIn K (.ref C) "__getattr__") (some none) &&
  (He.eqO (PySem.W.findIn K (.ref C) "place") (some none) && (He.eqO (PySem.W.findIn K (.ref C) "__init__") (some (some (.ref fI))) && (decide (PySem.W.typeIn K (.ref fI) = some (.type "function")) && (PySem.W.keepIn K (.ref C) && (decide (PySem.W.subIn K (.ref C) (.type "BaseException") = some true) &&
  (decide (PySem.W.subIn K (.ref C) (.type "ValueError") = some true) && (decide (PySem.W.typeIn K (.ref C) = some (.type "type")) && (PySem.W.hasDictIn K C && (decide (PySem.W.mroIn K C (.ref C) = some true) && (He.eqO (PySem.W.nsIn K cStatics "thirdparty.any") (some none) &&
  (He.eqO (PySem.W.ks_superIn K C C "__init__") (some (some (.builtin "ValueError.__init__"))) && iniB K fI C pwL.main.file tA tZ))))))))))))))
theorem deepB_ok {K : PySem.W.Frag} {mg : Str → Option Value} {C fI : Addr} (h : deepB K C fI = true) (gC : mg "TooDeep" = some (.ref C)) (gS : mg "super" = none) : DeepX.DeepTxt pwL K mg "TooDeep" tA tZ C fI := by
  obtain ⟨h1, h⟩ := Bool.and_eq_true_iff.mp h
  obtain ⟨h2, h⟩ := Bool.and_eq_true_iff.mp h
  obtain ⟨h3, h⟩ := Bool.and_eq_true_iff.mp h
  obtain ⟨h4, h⟩ := Bool.and_eq_true_iff.mp h
  obtain ⟨h5, h⟩ := Bool.and_eq_true_iff.mp h
  obtain ⟨h6, h⟩ := Bool.and_eq_true_iff.mp h
  obtain ⟨h7, h⟩ := bd h
  obtain ⟨h8, h⟩ := Bool.and_eq_true_iff.mp h
  obtain ⟨h9, h⟩ := bd h
  obtain ⟨h10, h⟩ := bd h
  obtain ⟨h11, h⟩ := bd h
  obtain ⟨h12, h⟩ := Bool.and_eq_true_iff.mp h
  obtain ⟨h13, h⟩ := bd h
  obtain ⟨h14, h⟩ := Bool.and_eq_true_iff.mp h
  obtain ⟨h15, h16⟩ := Bool.and_eq_true_iff.mp h
  exact ⟨gC, gS, clsVB_ok h1, He.eqO_ok h2, He.eqO_ok h3, He.eqO_ok h4, He.eqO_ok h5, He.eqO_ok h6, h7, h8, h9, h10, h11, h12, h13, He.eqO_ok h14, He.eqO_ok h15, iniB_ok h16, by decide +kernel⟩
def ex (K : PySem.W.Frag) : Bool := tupB K (He.ga K "BARRED") (barsS.map V.str) && (tupB K (He.ga K "BLOCKS") (kinds.map V.str) && (tupB K (He.ga K "SIGNS") (signs.map V.str) && (lenB K (He.ga K "LENGTHS") && (errB K (He.ga K "LoopError") (He.ga K "BadLine") && deepB K (He.ga K "TooDeep") (He.ma K (He.ga K "TooDeep") "__init__")))))
def ts : List He.Tab := [(fun K => He.ga K "LENGTHS", ["let", "say", "when", "loop", "again"])]
def tf : List He.Defn := [("is_name", none)]
theorem fun_of {K : PySem.W.Frag} {x : Str} {i : Nat} {f : Addr} {fd : FuncData} (F : FunD K (mkD x i).name (mkD x i).qual (mkD x i).params (mkD x i).body (mkD x i).scope ((mkD x i).dvs K) ((mkD x i).kws K) f fd) : Fun K x x (topS i) f fd := by
  obtain ⟨oc, od, dV, kV, doc, pm, an, cdv, ct, osl, e, lk, hcd, hd, _⟩ := F.ex
  rcases hd with ⟨_, hd⟩ | ⟨hd, _⟩
  · subst hd
    exact ⟨⟨oc, od, kV, doc, pm, an, cdv, ct, osl, e, lk, hcd⟩, F.kp⟩
  · exact absurd rfl hd
theorem fun_to {K : PySem.W.Frag} {x qual : Str} {st : Stmt} {f : Addr} {fd : FuncData} {ps : List Str} (F : Fun K x qual st f fd)
    (h : ∀ (kV doc pm : Value) (an : Option Addr) (cdv ct : Value) (us : List Value), us.length = ps.length → bindArgs (PySem.W.fnOf x qual (defArgs st) (defBody st) (defScope st) .none kV doc pm an cdv ct) ⟨us, []⟩ = pure (ps.zip us)) (s : Shared) (us : List Value) (hl : us.length = ps.length) :
    BindsTo s fd ⟨us, []⟩ (ps.zip us) := by
  obtain ⟨oc, od, kV, doc, pm, an, cdv, ct, osl, rfl, lk, hcd⟩ := F.ex
  exact .of_eq (h kV doc pm an cdv ct us hl)
/-- a def by its name: where it stands, its function object -/
structure At (K : PySem.W.Frag) (mg : Str → Option Value) (x : Str) (i : Nat) (f : Addr) (fd : FuncData) : Prop where
  fn : Fun K x x (topS i) f fd
  m : mg x = some (.ref f)
theorem at_of_says {K : PySem.W.Frag} {h : Heap} {mg : Str → Option Value} (X : K.In h) (G : h.Ns mainGlobals mg) (c : He.SaysD fa fn K) (j : Nat) {x : Str} {i : Nat} (hg : x ∈ own) (hd : fn[j]? = some (mkD x i) := by rfl) : ∃ fd, At K mg x i (He.ga K x) fd := by
  obtain ⟨fd, F⟩ := c.def_ j hd
  exact ⟨fd, fun_of F, He.glo_ok X G (c.facts (glo_fa hg))⟩
theorem code_at {K : PySem.W.Frag} {x : Str} {st : Stmt} {fd : FuncData} (F : Fun K x x st (He.ga K x) fd) : fd.code = .ref (He.codeOf K (x, none)) := by
  obtain ⟨oc, od, kV, doc, pm, an, cdv, ct, osl, e, lk, hcd⟩ := F.ex
  obtain ⟨c, ec⟩ := He.codeIn_ref hcd
  have e2 : fd.code = .ref c := by rw [e, ← ec]
  rw [He.codeOf_eq (p := (x, none)) lk e2]
  exact e2
theorem ownE_of {K : PySem.W.Frag} {mg : Str → Option Value} {x : Str} (g : mg x = some (.ref (He.ga K x))) (c : (He.Fa.exc x).ok K = true) : OwnE K mg x (He.ga K x) := by
  obtain ⟨h1, h2, h3, h4⟩ := He.exc_ok c
  exact ⟨g, h1, h2, h3, h4⟩
/-- the law's promise, from what the top leaves -/
theorem law_at {w : World} {K : PySem.W.Frag} {h : Heap} {mg : Str → Option Value} {fl : Addr} (X : K.In h) (G : h.Ns mainGlobals mg) (hfl : mg "law" = some (.ref fl)) (c : He.SaysX fa fn ts tf ex w h K) :
    LamX.LawAtS PySem.Challenge.rw_loopmover_k04_what_is_no_program w K CX0 51 63 "_law_script" mg fl h := by
  have cD : He.SaysD fa fn K := congrArg (fun z : He.AlT => z.1) c.t
  have bn : ∀ {x : Str}, x ∈ bare → mg x = none := fun hx => He.free_ok X G (cD.facts (free_fa hx))
  have gl : ∀ {x : Str}, x ∈ own → mg x = some (.ref (He.ga K x)) := fun hx => He.glo_ok X G (cD.facts (glo_fa hx))
  have B : Bn mg := ⟨bn (by decide +kernel), bn (by decide +kernel), bn (by decide +kernel), bn (by decide +kernel), bn (by decide +kernel), bn (by decide +kernel), bn (by decide +kernel), bn (by decide +kernel), bn (by decide +kernel)⟩
  obtain ⟨x1, x⟩ := Bool.and_eq_true_iff.mp (show ex K = true from c.more)
  obtain ⟨x2, x⟩ := Bool.and_eq_true_iff.mp x
  obtain ⟨x3, x⟩ := Bool.and_eq_true_iff.mp x
  obtain ⟨x4, x⟩ := Bool.and_eq_true_iff.mp x
  obtain ⟨x5, x6⟩ := Bool.and_eq_true_iff.mp x
  have Cc : Cn K mg (He.ga K "BARRED") (He.ga K "BLOCKS") :=
    ⟨gl (by decide +kernel), tupB_ok x1 (by decide +kernel), gl (by decide +kernel), tupB_ok x2 (by decide +kernel), He.int_ok X G (cD.facts (f := .int "LONGEST_NAME" 6) List.mem_cons_self)⟩
  obtain ⟨th, hh⟩ := He.int_ok X G (cD.facts (f := .int "HIGHEST_NUMBER" 999999) (List.mem_cons_of_mem _ List.mem_cons_self))
  obtain ⟨td, hd⟩ := He.int_ok X G (cD.facts (f := .int "DEEPEST_BLOCK" 20) (List.mem_cons_of_mem _ (List.mem_cons_of_mem _ List.mem_cons_self)))
  have NR : OwnE K mg "BadRow" (adK K).row := ownE_of (gl (by decide +kernel)) (cD.facts (f := .exc "BadRow") (List.mem_cons_of_mem _ (List.mem_cons_of_mem _ (List.mem_cons_of_mem _ List.mem_cons_self))))
  have NN : OwnE K mg "BadName" (adK K).name := ownE_of (gl (by decide +kernel)) (cD.facts (f := .exc "BadName") (List.mem_cons_of_mem _ (List.mem_cons_of_mem _ (List.mem_cons_of_mem _ (List.mem_cons_of_mem _ List.mem_cons_self)))))
  have NU : OwnE K mg "BadNumber" (adK K).num := ownE_of (gl (by decide +kernel)) (cD.facts (f := .exc "BadNumber") (List.mem_cons_of_mem _ (List.mem_cons_of_mem _ (List.mem_cons_of_mem _ (List.mem_cons_of_mem _ (List.mem_cons_of_mem _ List.mem_cons_self))))))
  have L : LenK K w mg (He.ga K "LENGTHS") := ⟨gl (by decide +kernel), He.SaysT.tab c.t 0 (t := (fun K => He.ga K "LENGTHS", ["let", "say", "when", "loop", "again"])), lenB_ok x4⟩
  have EC : ErrC K mg (adK K) (He.ga K "LoopError") (He.ga K "BadLine") := errC_of x5 (gl (by decide +kernel)) (gl (by decide +kernel)) (gl (by decide +kernel)) (gl (by decide +kernel)) (gl (by decide +kernel)) (gl (by decide +kernel)) (bn (by decide +kernel))
  have TD := deepB_ok x6 (gl (x := "TooDeep") (by decide +kernel)) (bn (x := "super") (by decide +kernel))
  obtain ⟨f0, A0⟩ := at_of_says X G cD 0 (x := "is_name") (i := 15) (by decide +kernel)
  have b0 : Binds K f0 ["thing"] [] := A0.fn.binds fun _ _ _ _ _ _ us hl => match us, hl with | [_], _ => rfl
  obtain ⟨f1, A1⟩ := at_of_says X G cD 1 (x := "is_number") (i := 16) (by decide +kernel)
  have b1 : Binds K f1 ["thing"] [] := A1.fn.binds fun _ _ _ _ _ _ us hl => match us, hl with | [_], _ => rfl
  obtain ⟨f2, A2⟩ := at_of_says X G cD 2 (x := "check_form") (i := 17) (by decide +kernel)
  have b2 : Binds K f2 ["row"] [] := A2.fn.binds fun _ _ _ _ _ _ us hl => match us, hl with | [_], _ => rfl
  obtain ⟨f3, A3⟩ := at_of_says X G cD 3 (x := "check_name") (i := 18) (by decide +kernel)
  have b3 : Binds K f3 ["thing"] [] := A3.fn.binds fun _ _ _ _ _ _ us hl => match us, hl with | [_], _ => rfl
  obtain ⟨f4, A4⟩ := at_of_says X G cD 4 (x := "check_sign") (i := 19) (by decide +kernel)
  have b4 : Binds K f4 ["thing"] [] := A4.fn.binds fun _ _ _ _ _ _ us hl => match us, hl with | [_], _ => rfl
  obtain ⟨f5, A5⟩ := at_of_says X G cD 5 (x := "check_worth") (i := 20) (by decide +kernel)
  have b5 : Binds K f5 ["thing"] [] := A5.fn.binds fun _ _ _ _ _ _ us hl => match us, hl with | [_], _ => rfl
  obtain ⟨f6, A6⟩ := at_of_says X G cD 6 (x := "check_let") (i := 21) (by decide +kernel)
  have b6 : Binds K f6 ["row"] [] := A6.fn.binds fun _ _ _ _ _ _ us hl => match us, hl with | [_], _ => rfl
  obtain ⟨f7, A7⟩ := at_of_says X G cD 7 (x := "look_at_row") (i := 22) (by decide +kernel)
  have b7 : Binds K f7 ["row", "looked", "depth"] [] := A7.fn.binds fun _ _ _ _ _ _ us hl => match us, hl with | [_, _, _], _ => rfl
  obtain ⟨f8, A8⟩ := at_of_says X G cD 8 (x := "look_at_rows") (i := 23) (by decide +kernel)
  have b8 : Binds K f8 ["rows", "looked", "depth"] [] := A8.fn.binds fun _ _ _ _ _ _ us hl => match us, hl with | [_, _, _], _ => rfl
  obtain ⟨f9, A9⟩ := at_of_says X G cD 9 (x := "checked") (i := 24) (by decide +kernel)
  have b9 : Binds K f9 ["rows"] [] := A9.fn.binds fun _ _ _ _ _ _ us hl => match us, hl with | [_], _ => rfl
  obtain ⟨f10, A10⟩ := at_of_says X G cD 10 (x := "_law_cell_at") (i := 26) (by decide +kernel)
  have b10 : Binds K f10 ["_law_script", "_law_k"] [] := A10.fn.binds fun _ _ _ _ _ _ us hl => match us, hl with | [_, _], _ => rfl
  obtain ⟨f11, A11⟩ := at_of_says X G cD 11 (x := "_law_mixed") (i := 27) (by decide +kernel)
  have b11 : Binds K f11 ["_law_cell", "_law_k"] [] := A11.fn.binds fun _ _ _ _ _ _ us hl => match us, hl with | [_, _], _ => rfl
  obtain ⟨f12, A12⟩ := at_of_says X G cD 12 (x := "_law_names") (i := 28) (by decide +kernel)
  have b12 : Binds K f12 ["_law_cell"] [] := A12.fn.binds fun _ _ _ _ _ _ us hl => match us, hl with | [_], _ => rfl
  obtain ⟨f13, A13⟩ := at_of_says X G cD 13 (x := "_law_value") (i := 29) (by decide +kernel)
  have b13 : Binds K f13 ["_law_kind_here", "_law_number", "_law_names_here"] [] := A13.fn.binds fun _ _ _ _ _ _ us hl => match us, hl with | [_, _, _], _ => rfl
  obtain ⟨f14, A14⟩ := at_of_says X G cD 14 (x := "_law_let") (i := 30) (by decide +kernel)
  have b14 : Binds K f14 ["_law_number", "_law_names_here"] [] := A14.fn.binds fun _ _ _ _ _ _ us hl => match us, hl with | [_, _], _ => rfl
  obtain ⟨f15, A15⟩ := at_of_says X G cD 15 (x := "_law_whole") (i := 31) (by decide +kernel)
  have b15 : Binds K f15 ["_law_found"] [] := A15.fn.binds fun _ _ _ _ _ _ us hl => match us, hl with | [_], _ => rfl
  obtain ⟨f16, A16⟩ := at_of_says X G cD 16 (x := "_law_nested") (i := 32) (by decide +kernel)
  have b16 : Binds K f16 ["_law_rows", "_law_count", "_law_names_here", "_law_cell"] [] := A16.fn.binds fun _ _ _ _ _ _ us hl => match us, hl with | [_, _, _, _], _ => rfl
  obtain ⟨f17, A17⟩ := at_of_says X G cD 17 (x := "_law_kind") (i := 33) (by decide +kernel)
  have b17 : Binds K f17 ["_law_rows"] [] := A17.fn.binds fun _ _ _ _ _ _ us hl => match us, hl with | [_], _ => rfl
  obtain ⟨f18, A18⟩ := at_of_says X G cD 18 (x := "_law_bad_row") (i := 34) (by decide +kernel)
  have b18 : Binds K f18 ["_law_number"] [] := A18.fn.binds fun _ _ _ _ _ _ us hl => match us, hl with | [_], _ => rfl
  obtain ⟨f19, A19⟩ := at_of_says X G cD 19 (x := "_law_is_block") (i := 35) (by decide +kernel)
  have b19 : Binds K f19 ["_law_row"] [] := A19.fn.binds fun _ _ _ _ _ _ us hl => match us, hl with | [_], _ => rfl
  obtain ⟨f20, A20⟩ := at_of_says X G cD 20 (x := "_law_refused_by_any") (i := 36) (by decide +kernel)
  have b20 : Binds K f20 ["_law_rows"] [] := A20.fn.binds fun _ _ _ _ _ _ us hl => match us, hl with | [_], _ => rfl
  obtain ⟨f21, A21⟩ := at_of_says X G cD 21 (x := "_law_holds") (i := 37) (by decide +kernel)
  have b21 : Binds K f21 ["_law_script", "_law_turn", "_law_names_here"] [] := A21.fn.binds fun _ _ _ _ _ _ us hl => match us, hl with | [_, _, _], _ => rfl
  obtain ⟨f22, A22⟩ := at_of_says X G cD 22 (x := "law") (i := 38) (by decide +kernel)
  have b22 : Binds K f22 ["_law_script"] [] := A22.fn.binds fun _ _ _ _ _ _ us hl => match us, hl with | [_], _ => rfl
  have efl : fl = He.ga K "law" := by
    have e := hfl.symm.trans A22.m
    cases e
    rfl
  subst efl
  have hin : (("is_name", none) : He.Defn) ∈ tf := List.mem_cons_self
  refine ⟨f22, [He.cT K ("is_name", none)], spLaw K (He.cT K ("is_name", none)).2, fun p hp => by rw [List.mem_singleton.mp hp]; exact c.empty _ hin, fun p hp => by rw [List.mem_singleton.mp hp]; exact c.out _ hin, fun p hp => by rw [List.mem_singleton.mp hp]; exact PySem.W.codeHd_of_K X (c.hd _ hin), ?_, ?_, ?_⟩
  · intro s v
    exact fun_to (ps := ["_law_script"]) A22.fn (fun _ _ _ _ _ _ us hl => match us, hl with | [_], _ => rfl) s [v] rfl
  · intro H a ns hl _ hT hS
    exact ⟨a, ns, rfl, hS, hl, ⟨#[], hT _ (List.mem_singleton.mpr rfl), True.intro⟩, fun _ => rfl⟩
  · intro base hX hG hTB
    have TB0 := hTB _ (List.mem_singleton.mpr rfl)
    have TB : GxR.TabB base mg (He.cT K ("is_name", none)).1 (He.cT K ("is_name", none)).2 := ⟨TB0.code, TB0.bm, TB0.gP⟩
    have N0 : Df pwL w K mg base "is_name" 2 _ f0 _ (spIsN K (He.cT K ("is_name", none)).2) := ⟨ok_isN A0.fn B Cc TB (code_at A0.fn), A0.m, A0.fn.kp, b0⟩
    have N1 : Df pwL w K mg base "is_number" 1 _ f1 _ (spIsNum K) := ⟨ok_isNum A1.fn B hh, A1.m, A1.fn.kp, b1⟩
    have C2 : Dx pwL w K mg base "check_form" 1 _ f2 _ (spForm K (He.cT K ("is_name", none)).2 (adK K)) := ⟨ok_ckForm A2.fn B NR L, A2.m, A2.fn.kp, b2⟩
    have C3 : Dx pwL w K mg base "check_name" 3 _ f3 _ (spCk K (He.cT K ("is_name", none)).2 (adK K) ckName) := ⟨ok_ckName A3.fn NN N0, A3.m, A3.fn.kp, b3⟩
    have C4 : Dx pwL w K mg base "check_sign" 1 _ f4 _ (spCk K (He.cT K ("is_name", none)).2 (adK K) ckSign) := ⟨ok_ckSign A4.fn B NR (gl (by decide +kernel)) (tupB_ok x3 (by decide +kernel)), A4.m, A4.fn.kp, b4⟩
    have C5 : Dx pwL w K mg base "check_worth" 4 _ f5 _ (spCk K (He.cT K ("is_name", none)).2 (adK K) ckWorth) := ⟨ok_ckWorth A5.fn B NU C3 N1, A5.m, A5.fn.kp, b5⟩
    have C6 : Dx pwL w K mg base "check_let" 5 _ f6 _ (spLetC K (He.cT K ("is_name", none)).2 (adK K)) := ⟨ok_ckLet A6.fn C3 C4 C5, A6.m, A6.fn.kp, b6⟩
    have step : ∀ m : Nat, Dx pwL w K mg base "look_at_rows" (2 * m + 5) (He.ga K "look_at_rows") f8 ["rows", "looked", "depth"] (spRowsB K (He.cT K ("is_name", none)).2 (adK K) m) → FnOk pwL w K mg base (L2.CX pwL w) (2 * m + 6) (He.ga K "look_at_row") f7 nRow (spRowC K (He.cT K ("is_name", none)).2 (adK K) m) :=
      fun m G => ok_row A7.fn Cc hd TD (by decide +kernel) (by decide +kernel) C2 C3 C5 C6 G
    have C8 : Dx pwL w K mg base "look_at_rows" 47 _ f8 _ (spRowsC K (He.cT K ("is_name", none)).2 (adK K) 20) := ⟨all_rowsC A7.fn A7.m b7 A8.fn A8.m b8 step B NR 20, A8.m, A8.fn.kp, b8⟩
    have C9 : Dx pwL w K mg base "checked" 48 _ f9 _ (spChecked K (He.cT K ("is_name", none)).2 (adK K)) := ⟨ok_checked A9.fn C8, A9.m, A9.fn.kp, b9⟩
    have D1 : Df pwL w K mg base "_law_cell_at" 1 _ f10 _ (spCell K) := ⟨ok_cell A10.fn B.len, A10.m, A10.fn.kp, b10⟩
    have D2 : Df pwL w K mg base "_law_mixed" 1 _ f11 _ spMixed := ⟨ok_mixed A11.fn, A11.m, A11.fn.kp, b11⟩
    have D3 : Df pwL w K mg base "_law_names" 1 _ f12 _ spNames := ⟨ok_names A12.fn B.range, A12.m, A12.fn.kp, b12⟩
    have D4 : Df pwL w K mg base "_law_value" 1 _ f13 _ (spValue K) := ⟨ok_value A13.fn, A13.m, A13.fn.kp, b13⟩
    have D5 : Df pwL w K mg base "_law_let" 2 _ f14 _ (spLet K) := ⟨ok_let A14.fn D4, A14.m, A14.fn.kp, b14⟩
    have DW : Df pwL w K mg base "_law_whole" 1 _ f15 _ spWhole := ⟨ok_whole A15.fn B, A15.m, A15.fn.kp, b15⟩
    have D6 : Df pwL w K mg base "_law_nested" 2 _ f16 _ (spNestedT K) := ⟨ok_nestedT A16.fn B.range D2, A16.m, A16.fn.kp, b16⟩
    have DK : Df pwL w K mg base "_law_kind" 49 _ f17 _ (spKind K (He.cT K ("is_name", none)).2) := ⟨ok_kind A17.fn B EC C9, A17.m, A17.fn.kp, b17⟩
    have DB : Df pwL w K mg base "_law_bad_row" 1 _ f18 _ (spBad K) := ⟨ok_bad A18.fn B, A18.m, A18.fn.kp, b18⟩
    have DI : Df pwL w K mg base "_law_is_block" 1 _ f19 _ (spIsBlk K) := ⟨ok_isBlk A19.fn B, A19.m, A19.fn.kp, b19⟩
    have DR : Df pwL w K mg base "_law_refused_by_any" 49 _ f20 _ (spRefused K (He.cT K ("is_name", none)).2) := ⟨ok_refused A20.fn B EC C9, A20.m, A20.fn.kp, b20⟩
    have DH : Df pwL w K mg base "_law_holds" 50 _ f21 _ (spHolds K (He.cT K ("is_name", none)).2) := ⟨ok_holds A21.fn B D1 D2 D4 D5 D6 DB DI DK DR DW C9, A21.m, A21.fn.kp, b21⟩
    exact ok_law A22.fn B D1 D3 DH
end Lm
namespace Lm
open PySem PySem.Spec PyProof.Rows L2 GxR
/-- the names that the top binds besides the law -/
def loose1 : List PySem.Str := ["LoopError", "BadRow", "BadName", "BadNumber", "BadLine", "TooDeep", "LENGTHS", "BLOCKS", "SIGNS", "BARRED", "LONGEST_NAME", "HIGHEST_NUMBER", "DEEPEST_BLOCK", "is_name", "is_number", "check_form", "check_name"]
def loose2 : List PySem.Str := ["check_sign", "check_worth", "check_let", "look_at_row", "look_at_rows", "checked", "_law_cell_at", "_law_mixed", "_law_names", "_law_value", "_law_let", "_law_whole", "_law_nested", "_law_kind", "_law_bad_row", "_law_is_block", "_law_refused_by_any", "_law_holds"]
def loose : List PySem.Str := loose1 ++ loose2
abbrev R : PySem.W.OpenRow := PySem.W.OpenLaw.row PySem.Challenge.rw_loopmover_k04_what_is_no_program
abbrev hk : PySem.W.Hook := hookY fa fn ts tf ex
def ob (s : PySem.W.SharedT) : He.AlX := obY fa fn ts tf ex (HandSHeadRun.getT s)
theorem ob_eq (s : PySem.W.SharedT) : ob s = hk.obs s.abs := obY_eq (HandSHeadRun.getT_eq s)
set_option maxHeartbeats 0 in
theorem runF (w : World) : HandSHeadRun.RunEq R (PySem.W.view R.prog [38]) hk ob 3000 loose (w.withFollow "special-get-raises" false) := by
  intro os
  kernel_rfl
set_option maxHeartbeats 0 in
theorem runT (w : World) : HandSHeadRun.RunEq R (PySem.W.view R.prog [38]) hk ob 3000 loose (w.withFollow "special-get-raises" true) := by
  intro os
  kernel_rfl
theorem run (w : World) : HandSHeadRun.RunEq R (PySem.W.view R.prog [38]) hk ob 3000 loose w := PySem.W.byRow2 "special-get-raises" (P := fun w => HandSHeadRun.RunEq R (PySem.W.view R.prog [38]) hk ob 3000 loose w) runF runT w
end Lm
open PySem PySem.W PySem.Calls PyProof.Rows
set_option maxRecDepth 100000 in
set_option maxHeartbeats 0 in
theorem PySem.Challenge.cw_loopmover_k04_what_is_no_program_holds : PySem.Challenge.rw_loopmover_k04_what_is_no_program.Holds := by
  w_on; o_law
  refine HandSHeadRun.head_any (r := OpenLaw.row PySem.Challenge.rw_loopmover_k04_what_is_no_program) (q := view (OpenLaw.row PySem.Challenge.rw_loopmover_k04_what_is_no_program).prog [38]) (H := Lm.hk) (ob := Lm.ob) (M := 3000) (loose := Lm.loose) (d := HandSHeadRun.topDef (OpenLaw.row PySem.Challenge.rw_loopmover_k04_what_is_no_program).prog 38) (kwd := []) Lm.ob_eq
    (by kernel_rfl) (fun s => by kernel_rfl) Lm.run (by kernel_rfl) (by kernel_rfl) (by kernel_rfl) (by rfl) (by first | assumption | decide +kernel) (by decide +kernel) ⟨rfl, rfl, rfl, rfl, rfl, by decide +kernel⟩ ?hw ?hc
  case hw => w_witness2
  case hc =>
    refine LamX.walk_ofTsE (l := PySem.Challenge.rw_loopmover_k04_what_is_no_program) (n := 63) (k := 51) (x := "_law_script") (CX := fun _ => L2.CX0) rfl (by decide) (by kernel_rfl) ⟨rfl, by decide, by decide⟩ ?F (fun _ _ _ _ _ z => z)
    intro w mg fl h Y G hmg0
    obtain ⟨K, KX, c⟩ := Y
    have hmg : mg ("law" : PySem.Str) = some (.ref fl) := by
      have e : (HandSHeadRun.topDef (OpenLaw.row PySem.Challenge.rw_loopmover_k04_what_is_no_program).prog 38).name = ("law" : PySem.Str) := by kernel_rfl
      rw [← e]
      exact hmg0
    exact ⟨K, KX, Lm.law_at KX G hmg c⟩
