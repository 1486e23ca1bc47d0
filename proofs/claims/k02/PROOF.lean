import PyProof.Rows.All
import Wide.All
import OpenK.AllK
import Wide.FinOn
import KE.KIntText
import KE.IntTextLaws
import HandS.Base
import HandS.Call
import HandS.Codes
import KE.GoesZip
import KE.GoesMore
import HandS.List
import HandS.Iter
import HandS.Walk
import HandS.Comp
import HandS.Text
import HandS.AnyAll
import PyProof.StrOps2
import HandS.ForMost
import HandS.More
import HandS.Lambda
import HandS.EndTab
import PySem.Challenge.RW_clockwright_k02_bit_by_bit
import HandS.EndBits
import KE.KNestM
set_option Elab.async false
set_option linter.all false
set_option maxRecDepth 100000
/-! int(text, 2) -/
namespace Cw
open PySem PySem.Spec PyProof.Rows L2
open PySem.NumText PySem.Calls
def IsBin (c : Nat) : Prop := c = 48 ∨ c = 49
def bv (c : Nat) : Nat := c - 48
def binNum (l : List Nat) : Nat := l.foldl (fun a c => a * 2 + bv c) 0
theorem bin_rng {c : Nat} (h : IsBin c) : 48 ≤ c ∧ c ≤ 49 ∧ c ≠ 95 := by
  unfold IsBin at h
  omega
theorem bin_digit {c : Nat} (h : IsBin c) : digit? c = some (bv c) := by
  rcases h with h | h
  · subst h
    rfl
  · subst h
    rfl
theorem bin_lt {c : Nat} (h : IsBin c) : bv c < 2 := by
  have := bin_rng h
  unfold bv
  omega
theorem bin_step {ds : Array Nat} {b : Bool} {c : Nat} (h : IsBin c) : PySem.NumText.step 2 (ds, b) c = some (ds.push (bv c), true) := by
  unfold PySem.NumText.step
  rw [if_neg (by rw [beq_iff_eq]; exact (bin_rng h).2.2), bin_digit h]
  exact if_pos (bin_lt h)
theorem bin_foldl : ∀ (cs : List Nat) (ds : Array Nat), (∀ c ∈ cs, IsBin c) → cs.foldlM (PySem.NumText.step 2) (ds, true) = some (cs.foldl (fun acc c => acc.push (bv c)) ds, true)
  | [], _, _ => rfl
  | c :: cs, ds, h => by
    rw [List.foldlM_cons, bin_step (h c (List.mem_cons_self ..))]
    show cs.foldlM (PySem.NumText.step 2) (ds.push (bv c), true) = _
    exact bin_foldl cs (ds.push (bv c)) fun d hd => h d (List.mem_cons_of_mem _ hd)
theorem bin_digits {cs : List Nat} (h : ∀ c ∈ cs, IsBin c) (hne : cs ≠ []) : digits? 2 cs = some (cs.foldl (fun acc c => acc.push (bv c)) #[]) := by
  cases cs with
  | nil => exact absurd rfl hne
  | cons c cs =>
    unfold digits?
    rw [List.foldlM_cons, bin_step (h c (List.mem_cons_self ..))]
    show (cs.foldlM (PySem.NumText.step 2) ((#[] : Array Nat).push (bv c), true)).bind _ = _
    rw [bin_foldl cs _ fun d hd => h d (List.mem_cons_of_mem _ hd)]
    rfl
theorem bin_push : ∀ (cs : List Nat) (ds : Array Nat), (cs.foldl (fun acc c => acc.push (bv c)) ds).foldl (fun acc d => acc * 2 + d) 0 = cs.foldl (fun a c => a * 2 + bv c) (ds.foldl (fun acc d => acc * 2 + d) 0)
  | [], _ => rfl
  | c :: cs, ds => by
    rw [List.foldl_cons, bin_push cs (ds.push (bv c)), List.foldl_cons]
    congr 1
    simp
theorem bin_drop {cs : List Nat} (h : ∀ c ∈ cs, IsBin c) : cs.dropWhile blank = cs := by
  cases cs with
  | nil => rfl
  | cons c cs => exact dropWhile_of (by have := bin_rng (h c (List.mem_cons_self ..)); omega)
theorem bin_sign {cs : List Nat} (h : ∀ c ∈ cs, IsBin c) : sign cs = (false, cs) := by
  cases cs with
  | nil => rfl
  | cons c cs =>
    have := bin_rng (h c (List.mem_cons_self ..))
    exact sign_of (by omega) (by omega)
theorem bin_pref {cs : List Nat} (h : ∀ c ∈ cs, IsBin c) : PySem.NumText.prefix? cs = none := by
  match cs, h with
  | [], _ => rfl
  | [a], _ =>
    unfold PySem.NumText.prefix?
    split
    · rename_i e
      cases e
    · rfl
  | a :: c :: r, h =>
    have hc := bin_rng (h c (List.mem_cons_of_mem _ (List.mem_cons_self ..)))
    by_cases ha : a = 48
    · subst ha
      have e : PySem.NumText.prefix? (48 :: c :: r) = if (c == 120 || c == 88) = true then some 16 else if (c == 111 || c == 79) = true then some 8 else if (c == 98 || c == 66) = true then some 2 else none := rfl
      rw [e, if_neg (by rw [Bool.or_eq_true, beq_iff_eq, beq_iff_eq]; omega), if_neg (by rw [Bool.or_eq_true, beq_iff_eq, beq_iff_eq]; omega), if_neg (by rw [Bool.or_eq_true, beq_iff_eq, beq_iff_eq]; omega)]
    · unfold PySem.NumText.prefix?
      split
      · rename_i e
        exact absurd (List.cons.inj e).1 ha
      · rfl
theorem bin_based {cs : List Nat} (h : ∀ c ∈ cs, IsBin c) : based 2 cs = (2, false, cs) := by
  unfold based
  rw [bin_pref h] <;> rfl
theorem bin_read {cs : List Nat} (h : ∀ c ∈ cs, IsBin c) (hne : cs ≠ []) : (int_private% "readNumeral") 0 2 cs = (int_private% "Numeral.value") ((binNum cs : Nat) : Int) := by
  have hr : ∀ c ∈ cs.reverse, IsBin c := fun c hc => h c (List.mem_reverse.mp hc)
  refine (readNumeral_eq 0 2 cs).trans ?_
  rw [bin_drop h, bin_sign h]
  show judge 0 false (based 2 cs).1 (based 2 cs).2.1 (digits? (based 2 cs).1 (((based 2 cs).2.2.reverse.dropWhile blank).reverse)) = _
  rw [bin_based h]
  show judge 0 false 2 false (digits? 2 ((cs.reverse.dropWhile blank).reverse)) = _
  rw [bin_drop hr, List.reverse_reverse, bin_digits h hne]
  show (int_private% "Numeral.value") (((cs.foldl (fun acc c => acc.push (bv c)) (#[] : Array Nat)).foldl (fun acc d => acc * 2 + d) 0 : Nat) : Int) = _
  have z : (#[] : Array Nat).foldl (fun acc d => acc * 2 + d) 0 = 0 := by first | rfl | simp
  rw [bin_push, z] <;> rfl
theorem bin_seen {x : Str} (h : ∀ c ∈ x.cps.toList, IsBin c) : numTextOf x = x.cps.toList ∧ numSeenOf x = x.cps.toList := by
  have e1 : numTextOf x = x.cps.toList := by
    refine if_pos ?_
    rw [← Array.all_toList, List.all_eq_true]
    intro c hc
    have := bin_rng (h c hc)
    exact decide_eq_true (by omega)
  refine ⟨e1, ?_⟩
  show (numTextOf x).takeWhile _ = _
  rw [e1]
  refine takeWhile_all fun c hc => ?_
  have := bin_rng (h c hc)
  exact bne_iff_ne.mpr (by omega)
theorem wp_textB {M : Model} {A : Around} {E : Value → Shared → Prop} {s : Shared} {Q : Value → Shared → Prop} {v : Value} {text : List Nat} {B : Nat} {n : Int}
    (hs : (text.takeWhile (· != 0)).length ≤ 640) (hr : (int_private% "readNumeral") 0 B (text.takeWhile (· != 0)) = (int_private% "Numeral.value") n)
    (ha : ((text.takeWhile (· != 0)).length == text.length) = true) (h : Q (.int n s.toks) { s with toks := s.toks + 1 }) :
    wpAny M A ((int_private% "intFromText") v text B) Q E s := by
  obtain ⟨hp, g, d, tk, os⟩ := s
  repeat (any_goals (first
    | assumption
    | (with_reducible refine wpAny_ite_true (decide_eq_true hs) ?_)
    | (with_reducible refine wpAny_ite_true (decide_eq_true ha) ?_)
    | wp_step))
  all_goals (try rw [hr])
  all_goals (try dsimp only)
  repeat (any_goals (first
    | assumption
    | (with_reducible refine wpAny_ite_true (decide_eq_true hs) ?_)
    | (with_reducible refine wpAny_ite_true (decide_eq_true ha) ?_)
    | wp_step))
structure Hid (p : Prop) : Prop where
  out : p
set_option maxHeartbeats 4000000 in
theorem gives_bin {x : PySem.Str} {u t : Tok} (hl : x.length ≤ 640) (h : ∀ c ∈ x.cps.toList, IsBin c) (hne : x.cps.toList ≠ []) :
    Gives (Builtin.«int.__new__» ⟨[.type "int", .str x u, .int 2 t], []⟩) (.int ((binNum x.cps.toList : Nat) : Int)) :=
  .of_wp fun M A E s Q hQ => by
    obtain ⟨hp, g, d, tk, os⟩ := s
    have f1 := F.conv_sub_int
    have f2 := F.madeHere_int
    have f6 : typeOf (.str x u) = pure (.type "str") := rfl
    obtain ⟨e1, e2⟩ := bin_seen h
    have hs : (numSeenOf x).length ≤ 640 := by
      rw [e2, Array.length_toList]
      exact hl
    have hr : (int_private% "readNumeral") 0 2 (numSeenOf x) = (int_private% "Numeral.value") ((binNum x.cps.toList : Nat) : Int) := by
      rw [e2]
      exact bin_read h hne
    have ha : ((numSeenOf x).length == (numTextOf x).length) = true := by
      rw [e1, e2]
      exact beq_self_eq_true _
    have hk := Hid.mk (And.intro hs (And.intro hr ha))
    clear hs hr ha e1 e2 hl hne h
    repeat (any_goals (first
      | assumption
      | ((with_reducible show wpAny _ _ ((int_private% "intFromText") _ _ _) _ _ _); refine wp_textB hk.out.1 hk.out.2.1 hk.out.2.2 ?_)
      | wp_step))
    all_goals first | exact ⟨_, rfl, hQ⟩ | skip
theorem typeCall_int_2 (a b : Value) : checkTypeCall "int" ⟨[a, b], []⟩ = pure () := by kernel_rfl
theorem newCall_int_2 (a b : Value) : checkBuiltinCall "int.__new__" ⟨[.type "int", a, b], []⟩ = pure () := by kernel_rfl
theorem call_bin {prog : Program} {w : World} {A : Around} {E : Value → Shared → Prop} {s : Shared} {Q : Value → Shared → Prop} {x : PySem.Str} {u t : Tok} (hl : x.length ≤ 640) (h : ∀ c ∈ x.cps.toList, IsBin c) (hne : x.cps.toList ≠ [])
    (hQ : Q (.int ((binNum x.cps.toList : Nat) : Int) s.toks) { s with toks := s.toks + 1 }) : wpAny (model prog w) A (call (.type "int") [.str x u, .int 2 t]) Q E s :=
  callType_new F.called_int F.newNe_int (typeCall_int_2 _ _) (newCall_int_2 _ _) (fun obj => F.initArgs_range_2 obj _ _) F.entry_int_new (gives_bin hl h hne).meets (show (Made.int ((binNum x.cps.toList : Nat) : Int)).post _ s from ⟨rfl, hQ⟩)
/-- int(t, 2) -/
def rIntBin : List V → Hp → VK → Prop := fun xs H Q => ∃ x : Str, xs = [.str x, .int 2] ∧ x.cps.toList ≠ [] ∧ x.length ≤ 640 ∧ (∀ c ∈ x.cps.toList, IsBin c) ∧ Q (.int ((binNum x.cps.toList : Nat) : Int)) H
theorem call_int_bin {X : Cx} : CallR X (.type "int") rIntBin := by
  intro pins s σ H xs us Q I r h
  obtain ⟨x, rfl, hne, hl, hx, q⟩ := h
  obtain ⟨u, w', rfl, r1, r2⟩ := vals2 r
  obtain ⟨t1, rfl⟩ := r1
  obtain ⟨t2, rfl⟩ := r2
  exact call_bin hl hx hne ⟨.int ((binNum x.cps.toList : Nat) : Int), H, I.tok _, ⟨_, rfl⟩, q⟩
end Cw
set_option Elab.async false
set_option linter.all false
set_option maxRecDepth 100000
/-! zip of two texts -/
namespace Cw
open PySem PySem.Spec PyProof.Rows L2
/-- two texts sign by sign, the signs in new pairs -/
def Itzs (x y : Str) : It :=
  ⟨fun i _ => i < x.cps.size ∧ i < y.cps.size,
    fun i H v H' => ∃ T c d, v = .ref T ∧ H T = none ∧ H' = upd H T (.tup [.str ⟨#[c]⟩, .str ⟨#[d]⟩]) ∧ x.cps[i]? = some c ∧ y.cps[i]? = some d,
    fun i _ => i ≤ x.cps.size ∧ i ≤ y.cps.size ∧ (i = x.cps.size ∨ i = y.cps.size)⟩
theorem turn_zips {P : Program} {w : World} {K : PySem.W.Frag} {elts : List Expr} {kk : Nat} {tpos : Pos} {z TI TO i1 i2 : Addr} {x y : Str} {t1 t2 : Tok} (D : ZipSep2 z TI TO i1 i2 [i1] [i2]) :
    Turn P w K (.Tuple elts kk tpos) (Itzs x y) [z, TI, TO, i1, i2] z (fun i h => IsZip h z TI TO .none ∧ IsPair h TI (.ref i1) (.ref i2) ∧ (∃ u v, IsPair h TO u v) ∧ h.IsStrIter i1 (strIterType x) x t1 i ∧ h.IsStrIter i2 (strIterType y) y t2 i) where
  mem := by simp
  obj := fun i h st c hc => by
    obtain ⟨hz, hTI, ⟨u, v, hTO⟩, ⟨o1, e1, _, d1⟩, ⟨o2, e2, _, d2⟩⟩ := st
    have e' : c = z ∨ c = TI ∨ c = TO ∨ c = i1 ∨ c = i2 := by simpa using hc
    rcases e' with q | q | q | q | q
    · rw [q]; exact ⟨_, hz, fun v q => nomatch q⟩
    · rw [q]; exact ⟨_, hTI, fun v q => nomatch q⟩
    · rw [q]; exact ⟨_, hTO, fun v q => nomatch q⟩
    · rw [q]; exact ⟨o1, e1, fun v q => by rw [d1] at q; cases q⟩
    · rw [q]; exact ⟨o2, e2, fun v q => by rw [d2] at q; cases q⟩
  keep := fun i h h' st k => by
    obtain ⟨hz, hTI, ⟨u, v, hTO⟩, ⟨o1, e1, r1⟩, ⟨o2, e2, r2⟩⟩ := st
    exact ⟨k z (by simp) _ hz, k TI (by simp) _ hTI, ⟨u, v, k TO (by simp) _ hTO⟩, ⟨o1, k i1 (by simp) _ e1, r1⟩, ⟨o2, k i2 (by simp) _ e2, r2⟩⟩
  item := by
    intro X hP hw hK hc i pins s σ H E I hf st hg
    subst hP hw hK
    obtain ⟨hz, hTI, ⟨u0, v0, hTO⟩, h1, h2⟩ := st
    obtain ⟨l1, l2⟩ := hg
    have hh : X.A.in1.handled = none := I.ok.hd hc
    have hzl : z < s.heap.objs.size := Heap.lt_size hz
    refine wpAny_pyNext_zipD2_item D (Draws.text hh i1 x t1) (Draws.text hh i2 y t2) hz hTI hTO h1 h2 l1 l2 fun x1 x2 h' tk p1 p2 z' TO' h1' h2' hT hsz hk => ?_
    obtain ⟨c, u, hc1, rfl⟩ := p1
    obtain ⟨d, v, hc2, rfl⟩ := p2
    refine ⟨_, rfl, wpAny_letOwnedTupleGo_zip (s := { s with heap := h', toks := tk }) z' fun h'' z'' sb => ?_⟩
    have hT2 : h''.get? s.heap.objs.size = some { cls := .type "tuple", data := .seq #[.str ⟨#[c]⟩ u, .str ⟨#[d]⟩ v] } := (sb.2 _ (Nat.ne_of_gt hzl)).trans hT
    have new : ObjOk X.prog X.w (upd H s.heap.objs.size (.tup [.str ⟨#[c]⟩, .str ⟨#[d]⟩])) h'' s.heap.objs.size (.tup [.str ⟨#[c]⟩, .str ⟨#[d]⟩]) :=
      ⟨by show 2 ≤ sizeLine; decide, [.str ⟨#[c]⟩ u, .str ⟨#[d]⟩ v], .cons ⟨u, rfl⟩ (.cons ⟨v, rfl⟩ .nil), ⟨_, hT2, rfl, _, rfl⟩⟩
    have I1 : Inv X pins σ (upd H s.heap.objs.size (.tup [.str ⟨#[c]⟩, .str ⟨#[d]⟩])) { s with heap := h'', toks := tk } :=
      I.turnedNew (t' := tk) (ch := [z, TI, TO, i1, i2]) (fun c o hb q => (sb.2 c (fun q' => hb (by simp [q']))).trans (hk c o (fun q' => hb (by simp [q'])) (fun q' => hb (by simp [q'])) (fun q' => hb (by simp [q'])) (fun q' => hb (by simp [q'])) q)) hf (Nat.le_refl _) new
    refine ⟨.ref s.heap.objs.size, _, I1, rfl, ⟨_, c, d, rfl, I.hok.fresh (Nat.le_refl _), rfl, hc1, hc2⟩, ⟨z'', ?_, ⟨.str ⟨#[c]⟩ u, .str ⟨#[d]⟩ v, ?_⟩, ?_, ?_⟩, fun c hcm => ?_⟩
    · exact (sb.2 _ D.TIz).trans (hk _ _ D.TIz D.TITO D.TIi1 D.TIi2 hTI)
    · exact (sb.2 _ D.TOz).trans TO'
    · obtain ⟨o1, e1, r1⟩ := h1'
      exact ⟨o1, (sb.2 _ D.zi1.symm).trans e1, r1⟩
    · obtain ⟨o2, e2, r2⟩ := h2'
      exact ⟨o2, (sb.2 _ D.zi2.symm).trans e2, r2⟩
    · have hlt : c < s.heap.objs.size := by
        have e' : c = z ∨ c = TI ∨ c = TO ∨ c = i1 ∨ c = i2 := by simpa using hcm
        rcases e' with q | q | q | q | q
        · rw [q]; exact hzl
        · rw [q]; exact Heap.lt_size hTI
        · rw [q]; exact Heap.lt_size hTO
        · rw [q]; obtain ⟨_, e1, _⟩ := h1; exact Heap.lt_size e1
        · rw [q]; obtain ⟨_, e2, _⟩ := h2; exact Heap.lt_size e2
      rw [upd_ne (Nat.ne_of_lt hlt)]
      exact (hf c hcm).1
  done := by
    intro X hP hw hK hc i pins s σ H E I hf st hg
    subst hP hw hK
    obtain ⟨hz, hTI, ⟨u0, v0, hTO⟩, h1, h2⟩ := st
    obtain ⟨l1, l2, he⟩ := hg
    have hh : X.A.in1.handled = none := I.ok.hd hc
    exact wpAny_pyNext_zipD2_end D (Draws.text hh i1 x t1) (Draws.text hh i2 y t2) hz hTI hTO h1 h2 l1 l2 he fun h' tk hk => ⟨rfl, I.turnedL (t' := tk) (ch := [z, TI, TO, i1, i2]) (fun c o hb q =>
      hk c o (fun q' => hb (by simp [q'])) (fun q' => hb (by simp [q'])) (fun q' => hb (by simp [q'])) (fun q' => hb (by simp [q'])) q) hf⟩
  self := fun A i s Q E st h => wpAny_pyIter_zip st.1 h
theorem zs_apart (I : Nat) : ZipSep2 (I + 4) (I + 2) (I + 3) I (I + 1) [I] [I + 1] where
  TIz := by show (I + 2 : Nat) ≠ (I + 4 : Nat); omega
  TOz := by show (I + 3 : Nat) ≠ (I + 4 : Nat); omega
  TITO := by show (I + 2 : Nat) ≠ (I + 3 : Nat); omega
  TIi1 := by show (I + 2 : Nat) ≠ (I : Nat); omega
  mem1 := by simp
  zf1 := by simp
  Tf1 := by simp
  TIi2 := by show (I + 2 : Nat) ≠ (I + 1 : Nat); omega
  mem2 := by simp
  zf2 := by simp
  Tf2 := by simp
  sep1_2 := by simp
  sep2_1 := by simp
def iZips (ta : TA) : TI := fun σ H R => ta σ H fun vs H1 => ∃ x y : Str, vs = [.str x, .str y] ∧ R (Itzs x y) H1
theorem pi_zips {X : Cx} {e e2 : Expr} {ta : TA} {p pos tpos : Pos} {elts : List Expr} {kk : Nat} (hg : Gl X "zip") (hm : X.mg "zip" = none) (ha : PA X [e, e2] ta)
    (hs : starEach [e, e2] X.env = (false, eval e X.env) :: starEach [e2] X.env := by rfl) (hpl : (backTo pos (starEach [e2] X.env)).any (·.1) = false := by rfl) :
    PI X (.Tuple elts kk tpos) (.Call (.Name "zip" p) [e, e2] [] pos) (iZips ta) := by
  refine ⟨fun pins s σ H R I h => ?_⟩
  refine Call_ (ld_blt I hg hm PyProof.Rows.boot_zip (PyProof.Rows.callWith_type1 (thn (ha.run pos pins s σ H _ I h) fun us s1 ⟨vs, H1, I1, r1, q1⟩ => ?_) hs hpl))
  obtain ⟨x, y, ex, q⟩ := q1
  subst ex
  obtain ⟨u, v, rfl, ru, rv⟩ := vals2 r1
  obtain ⟨t1, rfl⟩ := ru
  obtain ⟨t2, rfl⟩ := rv
  refine zip_begins2 (begins_text x t1) (begins_text y t2) trivial trivial fun h' hz hTI hTO h1 h2 hsz hk => wpAny_pyIter_zip hz ?_
  have I2 : Inv X pins σ H1 { s1 with heap := h' } := I1.kept (t' := s1.toks) hk
  refine ⟨s1.heap.objs.size + 4, [s1.heap.objs.size + 4, s1.heap.objs.size + 2, s1.heap.objs.size + 3, s1.heap.objs.size, s1.heap.objs.size + 1], _, _, H1, rfl, I2, turn_zips (x := x) (y := y) (t1 := t1) (t2 := t2) (zs_apart s1.heap.objs.size), ⟨hz, hTI, ⟨_, _, hTO⟩, ⟨_, h1, rfl, rfl⟩, ⟨_, h2, rfl, rfl⟩⟩, fun c hcm => ?_, q⟩
  have e' : c = s1.heap.objs.size + 4 ∨ c = s1.heap.objs.size + 2 ∨ c = s1.heap.objs.size + 3 ∨ c = s1.heap.objs.size ∨ c = s1.heap.objs.size + 1 := by simpa using hcm
  have hle : s1.heap.objs.size ≤ c := by
    rcases e' with z | z | z | z | z
    · rw [z]; exact Nat.le_add_right _ _
    · rw [z]; exact Nat.le_add_right _ _
    · rw [z]; exact Nat.le_add_right _ _
    · rw [z]; exact Nat.le_refl _
    · rw [z]; exact Nat.le_add_right _ _
  exact I1.fpOk hle (I1.hok.fresh hle)
theorem walk_zips {x y : Str} (h : x.cps.size = y.cps.size) : Walk (Itzs x y) x.cps.size (fun _ => True)
    (fun i H v H' => ∃ T c d, v = .ref T ∧ H T = none ∧ H' = upd H T (.tup [.str ⟨#[c]⟩, .str ⟨#[d]⟩]) ∧ x.cps[i]? = some c ∧ y.cps[i]? = some d) :=
  ⟨fun i _ hi _ => ⟨hi, h ▸ hi⟩, fun _ _ => ⟨Nat.le_refl _, Nat.le_of_eq h, .inl rfl⟩, fun _ _ _ _ _ _ q => q⟩
end Cw
set_option Elab.async false
set_option linter.all false
set_option maxRecDepth 100000
set_option maxHeartbeats 2000000
/-! all(x in y for x in e): e a text, y a captured text -/
namespace Cw
open PySem PySem.Spec PyProof.Rows L2 GxR
theorem clo_cm {cells : List (Str × Addr)} {names : List (Str × NameKind)} (hfree : ∀ y ∈ names, y.2 = .free → ∃ c, cells.lookup y.1 = some c) {y : Str} {c : Addr} (e : (cloFrom cells names []).lookup y = some c) : cells.lookup y = some c := by
  have hm : (y, c) ∈ cloFrom cells names [] := by
    obtain ⟨l1, l2, h, _⟩ := List.lookup_eq_some_iff.mp e
    rw [h]
    simp
  rcases cloFrom_mem hm with h | ⟨h1, h2⟩
  · cases h
  · obtain ⟨c', hc'⟩ := hfree _ h1 rfl
    rw [h2, hc'] <;> rfl
theorem clo_has {cells : List (Str × Addr)} {names : List (Str × NameKind)} (hfree : ∀ y ∈ names, y.2 = .free → ∃ c, cells.lookup y.1 = some c) {y : Str} {c : Addr} (hy : (y, NameKind.free) ∈ names) (hc : cells.lookup y = some c) : (cloFrom cells names []).lookup y = some c := by
  obtain ⟨c1, h1⟩ := mem_lookup (cloFrom_has (cells := cells) (acc := []) hy)
  have e := clo_cm hfree h1
  rw [hc] at e
  cases e
  exact h1
/-- the element: a test of the sign c, and of the text z that y holds -/
def EltC (prog : Program) (w : World) (scope : Scope) (cl : List (Str × Addr)) (x : Str) (elt : Expr) (y : Str) (z : Str) (pb : Nat → Bool) : Prop :=
  ∀ (cenv : Env) (A' : Around) (E' : Value → Shared → Prop) (c : Nat) (t : Tok) (s₂ : Shared) (m₂ : Str → Option Value) (c1 : Addr) (tz : Tok), cenv.scope = scope → cenv.cells = cl → cl.lookup y = some c1 → s₂.heap.IsCell c1 (some (.str z tz)) → s₂.heap.Ns cenv.locals m₂ → m₂ x = some (.str ⟨#[c]⟩ t) →
    wpAny (model prog w) A' (eval elt cenv) (fun v s₃ => v = .bool (pb c) ∧ Keeps s₂ s₃) E' s₂
/-- x in y -/
theorem elt_in {prog : Program} {w : World} {scope : Scope} {cl : List (Str × Addr)} {x y z : Str} {p1 p2 p3 : Pos} (hk : scope.kind = .function) (hl : scope.names.lookup x = some .local) (hy : scope.names.lookup y = some .free)
    (hd : (x == ("__debug__" : Str)) = false := by decide) (hd2 : (y == ("__debug__" : Str)) = false := by decide) (hcd : (y == ("__classdict__" : Str)) = false := by decide) :
    EltC prog w scope cl x (.Compare (.Name x p1) [.In] [.Name y p2] p3) y z (fun c => decide (c ∈ z.cps.toList)) := by
  intro cenv A' E' c t s₂ m₂ c1 tz hs hcl hlk hcell hn hm
  refine wpAny_Compare1 ?_
  refine wpAny_Name (wpAny_loadName_local (by rw [hs]; exact hk) (show cenv.scope.names.lookup x = some .local by rw [hs]; exact hl) hn hm ?_) hd
  refine wpAny_Name (wpAny_loadName_free (by rw [hs]; exact hk) (show cenv.scope.names.lookup y = some .free by rw [hs]; exact hy) (by rw [hcl]; exact hlk) hcell ?_ hcd) hd2
  refine PyProof.Rows.in_str ⟨?_, keeps_refl _⟩
  rw [PySem.StrLaws.found_one z c]
section
variable {X : Cx} {pins : List (Addr × Obj)} {σ : L2.St} {H : Hp} {s : Shared}
/-- the code record c, its table at P: ready for a generator expression; what the table may become -/
theorem tab_two {P : Addr} {ps more : Array Value} {s1 s' : Shared} {wr : List Addr} {G : Array GenState → Array GenState → Prop} {s5 : Shared} (I1 : Inv X pins σ H s1) (hP : H P = some (.tbl ps)) (ht : TriplesOk (ps ++ more).toList)
    (mv : Moved wr G s5 s') (old : ∀ b u, b ≠ P → s1.heap.get? b = some u → s5.heap.get? b = some u) (tab : s5.heap.get? P = some { cls := .none, data := .fields (ps ++ more) }) (bare : AllBare s'.gens) (os : s5.os = s1.os)
    (out : ∀ b u, s1.heap.get? b = some u → b ∉ wr) : ∃ H2, Tabbed P H H2 ∧ Inv X pins σ H2 s' := by
  have at1 : s1.heap.get? P = some { cls := .none, data := .fields ps } := I1.hok P _ hP
  have J := inv_tab (more := more) (h' := s'.heap) (g' := s'.gens) (d' := s'.drawn) (t' := s'.toks) I1 hP (fun b u hb e => mv.heap b u (out b u e) (old b u hb e)) (mv.heap P _ (out P _ at1) tab) bare
  rw [sh_eta s1 s' (mv.os.trans os)] at J
  exact ⟨_, ⟨⟨_, upd_same, ht⟩, fun b hb => upd_ne hb⟩, J⟩
/-- what a walk over the signs of a asks of the element, told once -/
theorem quiet_in {scope : Scope} {cl : List (Str × Addr)} {code : Value} {bi C : Addr} {env : Env} {x y z a : Str} {p1 p2 p3 : Pos} {tz : Tok} {c1 it : Addr} {oc : Obj} {h3 href : Heap} {prog : Program} {w : World}
    (he : EltC prog w scope cl x (.Compare (.Name x p1) [.In] [.Name y p2] p3) y z fun c => decide (c ∈ z.cps.toList)) (hcl : cl.lookup y = some c1) (ho : h3.get? c1 = some oc) (hd : oc.data = .cell (some (.str z tz))) (hne : c1 ≠ it)
    (hr : ∀ b u, h3.get? b = some u → href.get? b = some u) :
    QuietGen prog w (genEnv scope cl C code bi env) x [] (.Compare (.Name x p1) [.In] [.Name y p2] p3) (List.range h3.objs.size) [it] (SignAt a) (fun _ => true)
      (fun i v => ∃ c, a.cps[i]? = some c ∧ v = .bool (decide (c ∈ z.cps.toList))) href where
  tests := by
    intro A' E' i v s2 m2 _ _ _ _ _
    rw [List.forIn_nil]
    exact wpAny_pure ⟨rfl, keeps_refl _⟩
  elt := by
    intro A' E' i v s2 m2 _ hv _ hn hm kp
    obtain ⟨c, t, hc, rfl⟩ := hv
    have q : s2.heap.get? c1 = some oc := kp c1 (List.mem_range.mpr (Heap.lt_size ho)) (fun m => hne (List.mem_singleton.mp m)) oc (hr c1 oc ho)
    exact wpAny_mono (he _ A' E' c t s2 m2 c1 tz rfl rfl hcl ⟨oc, q, hd⟩ hn hm) (fun _ _ r => ⟨⟨c, hc, r.1⟩, r.2⟩) fun _ _ r => r
/-- the generator itself, made -/
theorem gen_in {c P : Addr} {iter : Expr} {x y z : Str} {px p1 p2 p3 gpos : Pos} {scope : Scope} {te : TE} {k j : Nat} {Q' : Value → Shared → Prop} {R : Str → Hp → Prop}
    (hr : Room k X.A) (TB : TabB X.base X.mg c P) (hcode : X.env.code = .ref c) (S : GenS X.env scope x) (hi : PE X iter te) (hN : X.N[j]? = some y) (hcy : X.env.scope.names.lookup y = some .cell) (hyf : (y, NameKind.free) ∈ scope.names)
    (he : EltC X.prog X.w scope (cloFrom X.env.cells scope.names []) x (.Compare (.Name x p1) [.In] [.Name y p2] p3) y z fun c => decide (c ∈ z.cps.toList))
    (hs : ∀ v, genFold iter X.env v = pure v) (I : Inv X pins σ H s) (hz : σ[j]? = some (some (.str z))) (h : te σ H fun v H1 => ∃ a : Str, v = .str a ∧ TabG H1 P ∧ R a H1)
    (hQ : ∀ a H1 g s5, R a H1 → Ready X pins σ H1 P a (fun c => decide (c ∈ z.cps.toList)) g s5 → Q' (.ref g) s5) :
    wpAny (model X.prog X.w) X.A (eval (.GeneratorExp (.Compare (.Name x p1) [.In] [.Name y p2] p3) [⟨.Name x px, iter, [], 0⟩] scope gpos) X.env) Q' X.xe s := by
  have deep := hr.dp
  refine wpAny_GeneratorExp_walksQ hr.hd S.co (closure_ok S.free) S.cell S.dot S.loc S.kind (by omega) (thn (hi.run pins s σ H _ I h) fun xv s1 ⟨v, H1, I1, r1, a, ea, ⟨ps, hP, ht⟩, q1⟩ => ?_) hs
  subst ea
  obtain ⟨t, rfl⟩ := r1
  -- where y is held
  obtain ⟨m1, hn1, hl1⟩ := I1.loc
  obtain ⟨_, ⟨tz, rfl⟩, lk⟩ := hl1 j y (.str z) hN hz (.inr (.inl hcy))
  obtain ⟨c1, hc1, oc, hoc, hcd⟩ : ∃ c1, X.env.cells.lookup y = some c1 ∧ ∃ oc, s1.heap.get? c1 = some oc ∧ oc.data = .cell (some (.str z tz)) := by
    rcases lk with ⟨hk0, _⟩ | ⟨_, c1, hc1, oc, hoc, hcd⟩
    · cases hcy.symm.trans hk0
    · exact ⟨c1, hc1, oc, hoc, hcd⟩
  have eP : s1.heap.get? P = some { cls := .none, data := .fields ps } := I1.hok P _ hP
  have nP : c1 ≠ P := fun q => by
    rw [q, eP] at hoc
    cases hoc
    cases hcd
  have cl1 : cStatics < s1.heap.objs.size := let ⟨_, hns, _⟩ := I1.nolimit; hns.lt
  have cP : cStatics ≠ P := fun e => by
    obtain ⟨_, ⟨o', es, ep, ho, hd, _⟩, _⟩ := I1.nolimit
    rw [e, eP] at ho
    cases ho
    cases hd
  refine wpAny_pyIter_str fun o St W hst => ?_
  have lim : (s1.heap.push o).NoLimit := I1.nolimit.push o
  have eP2 : (s1.heap.push o).get? P = some { cls := .none, data := .fields ps } := Heap.get?_push_of_some _ eP
  have cd : PySem.W.CodeHd (s1.heap.push o) c P := TB.code.keeps fun b u e => Heap.get?_push_of_some _ (I1.bk b u e)
  have szo : (s1.heap.push o).objs.size = s1.heap.objs.size + 1 := Heap.size_push ..
  -- behind the code object, whichever it is
  suffices cont : ∀ (code : Value) (h3 : Heap) (tk : Nat) (more : Array Value), Heap.ExtBut P (s1.heap.push o) h3 → (s1.heap.push o).objs.size ≤ h3.objs.size → h3.get? P = some { cls := .none, data := .fields (ps ++ more) } → TriplesOk (ps ++ more).toList →
      wpAny (model X.prog X.w) X.A (builtinsFor X.env.globals X.env.builtins) (fun bi s4 =>
        ∃ Ia fp wr n0 Pf St0 pz F, Value.ref s1.heap.objs.size = .ref Ia ∧ (∀ A' : Around, A'.handled = none → Walks X.prog X.w A' Ia fp wr n0 Pf St0) ∧ St0 0 s4.heap ∧ (∀ b ∈ fp, b < s4.heap.objs.size) ∧ s4.heap.NoLimit ∧ cStatics ∉ wr ∧
          (∀ href : Heap, (∀ b u, s4.heap.get? b = some u → href.get? b = some u) →
            QuietGen X.prog X.w (genEnv scope (cloFrom X.env.cells scope.names []) s4.heap.objs.size code bi X.env) x [] (.Compare (.Name x p1) [.In] [.Name y p2] p3) (List.range s4.heap.objs.size) wr Pf pz F href) ∧
          (∀ g h5 tk gs, gs.bare = true → s4.heap.objs.size < g → h5.objs.size = g + 1 → (∀ b u, s4.heap.get? b = some u → h5.get? b = some u) →
            WalksS X.prog X.w X.A.in4 g (g :: s4.heap.objs.size :: List.range s4.heap.objs.size) (s4.heap.objs.size :: wr) (GenOnlyQ s4.gens.size) (passing pz n0 0).length
              (fun j v => ∃ i, (passing pz n0 0)[j]? = some i ∧ F i v) (GenAt X.prog X.w X.A.in4 g s4.gens.size s4.heap.objs.size (List.range s4.heap.objs.size) wr pz n0 F) →
            GenAt X.prog X.w X.A.in4 g s4.gens.size s4.heap.objs.size (List.range s4.heap.objs.size) wr pz n0 F 0 { s4 with gens := s4.gens.push gs, toks := tk, heap := h5 } →
            Q' (.ref g) { s4 with gens := s4.gens.push gs, toks := tk, heap := h5 })) X.xe { s1 with heap := h3, toks := tk } by
    refine ⟨lim, ?_⟩
    cases hf : codeAmong gpos ps.toList with
    | none =>
      refine wpAny_genexprCodeX hcode (cd.code eP2 ht) (cd.tab eP2) hf fun c' h' tk hx hge hlt hco' _ htab' _ => ?_
      obtain ⟨_, _, _, _, _, _, _, _, _, _, _, _, _, _, _, _, _, _, _, htr, _⟩ := hco'
      exact cont _ h' tk _ hx (Nat.le_trans hge (Nat.le_of_lt hlt)) htab'.2 htr
    | some cv =>
      refine wpAny_genexprCode_hit hcode (cd.code eP2 ht) hf (cont cv _ s1.toks #[] (Heap.ExtBut.refl _ _) (Nat.le_refl _) ?_ ?_)
      · rw [Array.append_empty]
        exact eP2
      · rw [Array.append_empty]
        exact ht
  intro code h3 tk more hx hsz eP3 ht3
  have old : ∀ b u, b ≠ P → s1.heap.get? b = some u → h3.get? b = some u := fun b u hb e => hx b u hb (Heap.get?_push_of_some _ e)
  obtain ⟨bm, ob, e1, e2, _, e4, e5, e6, e7, e8⟩ := TB.bm
  refine wpAny_builtinsFor (m := X.mg) (by rw [I1.ok.glob]; exact ((I1.mod.glob.keeps I1.bk).push o).extBut hx TB.gP) e1 e2 (old _ _ e4 (I1.bk _ _ e5)) e6 e7 e8 ?_
  refine ⟨s1.heap.objs.size, [s1.heap.objs.size], [s1.heap.objs.size], a.cps.size, SignAt a, St, fun _ => true, _, rfl, W, ?_, ?_, lim.extBut hx cP, ?_, fun href kp => quiet_in he (clo_has S.free hyf hc1) (old c1 oc nP hoc) hcd (Nat.ne_of_lt (Heap.lt_size hoc)) kp, ?_⟩
  · refine (W X.A hr.hd).frame _ _ _ hst fun b hb u e => hx b u (fun q => ?_) e
    have e9 : b = s1.heap.objs.size := List.mem_singleton.mp hb
    exact Nat.ne_of_lt (Heap.lt_size eP) (q.symm.trans e9)
  · intro b hb
    have e9 : b = s1.heap.objs.size := List.mem_singleton.mp hb
    rw [e9]
    show s1.heap.objs.size < h3.objs.size
    omega
  · intro hb
    have e9 : cStatics = s1.heap.objs.size := List.mem_singleton.mp hb
    exact Nat.ne_of_lt cl1 e9
  · intro g h5 tk5 gs hgb hag hsz5 hk5 W5 hat
    simp only [GxR.passing_true, List.length_range] at W5
    have hlt : s1.heap.objs.size < h3.objs.size := by omega
    have out : ∀ b u, s1.heap.get? b = some u → b ∉ h3.objs.size :: [s1.heap.objs.size] := fun b u e hb => by
      have l1 := Heap.lt_size e
      rcases List.mem_cons.mp hb with q | q
      · rw [q] at l1
        exact Nat.lt_irrefl _ (Nat.lt_trans l1 hlt)
      · have e9 : b = s1.heap.objs.size := List.mem_singleton.mp q
        rw [e9] at l1
        exact Nat.lt_irrefl _ l1
    refine hQ a H1 g _ q1 ⟨_, _, _, _, _, W5.in4_1, hat, fun i v si Qi Ei hv hQi => ?_, fun s' mv => ?_⟩
    · obtain ⟨i', hii, cc, hcc, rfl⟩ := hv
      obtain ⟨hj, ej⟩ := List.getElem?_eq_some_iff.mp hii
      rw [List.getElem_range] at ej
      subst ej
      have q : Qi (trF _ a.cps.toList i) si := hQi
      rw [trF_some ((Array.getElem?_toList ..).trans hcc)] at q
      exact wpAny_truthy_bool q
    · exact tab_two I1 hP ht3 mv (fun b u hb e => hk5 b u (old b u hb e)) (hk5 P _ eP3) (AllBare.movedS (I1.bare.push hgb) mv) rfl out
/-- all(x in y for x in e); behind it the table of the def may have grown -/
def tAllIn (P : Addr) (j : Nat) (te : TE) : TE := fun σ H Q => ∃ z : Str, σ[j]? = some (some (.str z)) ∧ te σ H fun v H1 => ∃ a : Str, v = .str a ∧ TabG H1 P ∧ ∀ H2, Tabbed P H1 H2 → Q (.bl (a.cps.toList.all fun c => decide (c ∈ z.cps.toList))) H2
theorem pe_allIn {c P : Addr} {iter : Expr} {x y : Str} {px p p1 p2 p3 pos gpos : Pos} {scope : Scope} {te : TE} {k j : Nat}
    (hr : Room k X.A) (hg : Gl X "all") (hm : X.mg "all" = none) (hb : bootBuiltins "all" = some (.builtin "all")) (TB : TabB X.base X.mg c P) (hcode : X.env.code = .ref c) (S : GenS X.env scope x) (hi : PE X iter te)
    (hN : X.N[j]? = some y) (hcy : X.env.scope.names.lookup y = some .cell) (hyf : (y, NameKind.free) ∈ scope.names) (hy : scope.names.lookup y = some .free)
    (hd : (x == ("__debug__" : Str)) = false := by decide) (hd2 : (y == ("__debug__" : Str)) = false := by decide) (hcd : (y == ("__classdict__" : Str)) = false := by decide)
    (hs : ∀ v, genFold iter X.env v = pure v)
    (he : starEach [.GeneratorExp (.Compare (.Name x p1) [.In] [.Name y p2] p3) [⟨.Name x px, iter, [], 0⟩] scope gpos] X.env = (false, eval (.GeneratorExp (.Compare (.Name x p1) [.In] [.Name y p2] p3) [⟨.Name x px, iter, [], 0⟩] scope gpos) X.env) :: starEach [] X.env := by rfl) :
    PE X (.Call (.Name "all" p) [.GeneratorExp (.Compare (.Name x p1) [.In] [.Name y p2] p3) [⟨.Name x px, iter, [], 0⟩] scope gpos] [] pos) (tAllIn P j te) := by
  refine ⟨fun pins s σ H Q I h => ?_⟩
  obtain ⟨z, hz, h⟩ := h
  refine wpAny_Call_Name_kw (ld_blt I hg hm hb ?_)
  refine PyProof.Rows.callWith_builtin1 ?_ he (by rfl)
  rw [he]
  show wpAny _ _ (spliced ((false, eval (.GeneratorExp (.Compare (.Name x p1) [.In] [.Name y p2] p3) [⟨.Name x px, iter, [], 0⟩] scope gpos) X.env) :: backTo pos (starEach [] X.env))) _ _ s
  refine Calls.spliced_cons (gen_in (R := fun a H1 => ∀ H2, Tabbed P H1 H2 → Q (.bl (a.cps.toList.all fun c => decide (c ∈ z.cps.toList))) H2) hr TB hcode S hi hN hcy hyf (elt_in S.kind S.loc hy hd hd2 hcd) hs I hz h fun a H1 g s5 hR hG => ?_)
  obtain ⟨fp, wr, G, F, St, W, hst, htr, hI⟩ := hG
  refine Calls.spliced_nil ?_
  refine call_all_walkS (W.self 0 _ _ _ hst ⟨g, fp, wr, G, _, F, St, _, rfl, W, hst, htr, fun s' hmv => ?_⟩)
  obtain ⟨H2, hT, J⟩ := hI s' hmv
  refine ⟨.bl _, H2, J, rfl, ?_⟩
  rw [all_signs a _]
  exact hR H2 hT
end
end Cw
set_option Elab.async false
set_option linter.all false
set_option maxRecDepth 100000
set_option maxHeartbeats 2000000
/-! What an expression is worth, over a heap that may grow: texts by their signs -/
namespace Cw
open PySem PySem.Spec PyProof.Rows L2
open GxR (TabG Tabbed TabB)

/-! ### texts by their signs -/
def S (l : List Nat) : Str := ⟨l.toArray⟩
abbrev sv (l : List Nat) : V := .str (S l)
theorem S_len (l : List Nat) : (S l).length = l.length := by
  show l.toArray.size = l.length
  simp
theorem S_list (l : List Nat) : (S l).cps.toList = l := rfl
theorem S_size (l : List Nat) : (S l).cps.size = l.length := by
  show l.toArray.size = l.length
  simp
theorem S_get (l : List Nat) (i : Nat) : (S l).cps[i]? = l[i]? := by
  show l.toArray[i]? = l[i]?
  simp
theorem S_app (a b : List Nat) : S a ++ S b = S (a ++ b) := by
  show (⟨a.toArray ++ b.toArray⟩ : Str) = ⟨(a ++ b).toArray⟩
  simp
theorem S_inj {a b : List Nat} : S a = S b ↔ a = b := by
  constructor
  · intro h
    have e : (S a).cps.toList = (S b).cps.toList := by rw [h]
    exact e
  · intro h
    rw [h]
theorem S_of (x : Str) : x = S x.cps.toList := by
  cases x
  rfl
theorem sv_inj {a b : List Nat} : (sv a = sv b) ↔ a = b := by
  constructor
  · intro h
    injection h with h
    exact S_inj.mp h
  · intro h
    rw [h]
theorem sv_dec (a b : List Nat) : decide (sv a = sv b) = decide (a = b) := by
  by_cases h : a = b
  · rw [decide_eq_true h, decide_eq_true (sv_inj.mpr h)]
  · rw [decide_eq_false h, decide_eq_false fun q => h (sv_inj.mp q)]

/-! ### the heap -/
def Good (Ts : List Addr) (H : Hp) : Prop := ∀ P ∈ Ts, TabG H P
structure Ex (Ts : List Addr) (H H' : Hp) : Prop where
  keep : ∀ a o, a ∉ Ts → H a = some o → H' a = some o
  good : Good Ts H'
section
variable {Ts : List Addr} {H H1 H2 H' : Hp} {p : Addr} {o : HO} {K : PySem.W.Frag}
theorem Ex.refl (g : Good Ts H) : Ex Ts H H := ⟨fun _ _ _ e => e, g⟩
theorem Ex.trans (a : Ex Ts H H1) (b : Ex Ts H1 H2) : Ex Ts H H2 := ⟨fun x u n e => b.keep x u n (a.keep x u n e), b.good⟩
theorem Good.out (g : Good Ts H) (h : ∀ ps, H p ≠ some (.tbl ps)) : p ∉ Ts := fun m => by
  obtain ⟨ps, e, _⟩ := g p m
  exact h ps e
theorem Good.free (g : Good Ts H) (h : H p = none) : p ∉ Ts := g.out fun ps e => by
  rw [h] at e
  cases e
theorem Good.upd (g : Good Ts H) (n : p ∉ Ts) : Good Ts (upd H p o) := fun P m => by
  obtain ⟨ps, e, t⟩ := g P m
  have ne : P ≠ p := fun q => n (by rw [← q]; exact m)
  exact ⟨ps, by rw [upd_ne ne]; exact e, t⟩
theorem Ex.new (g : Good Ts H) (h : H p = none) : Ex Ts H (upd H p o) := by
  refine ⟨fun a u _ e => ?_, g.upd (g.free h)⟩
  rw [upd_ne (ne_of_none e h)]
  exact e
theorem Ex.mut (e : Ex Ts H H') (n : p ∉ Ts) (h : H p = none) : Ex Ts H (upd H' p o) := by
  refine ⟨fun a u m q => ?_, e.good.upd n⟩
  rw [upd_ne (ne_of_none q h)]
  exact e.keep a u m q
theorem Ex.tabbed (g : Good Ts H) (hp : p ∈ Ts) (t : Tabbed p H H') : Ex Ts H H' := by
  refine ⟨fun a u n e => ?_, fun P m => ?_⟩
  · rw [t.2 a fun q => n (by rw [q]; exact hp)]
    exact e
  · by_cases h : P = p
    · rw [h]
      exact t.1
    · obtain ⟨ps, e, q⟩ := g P m
      exact ⟨ps, by rw [t.2 P h]; exact e, q⟩
theorem Ex.back (e : Ex Ts H H') (h : H' p = none) : H p = none := by
  cases q : H p with
  | none => rfl
  | some u =>
    by_cases m : p ∈ Ts
    · obtain ⟨ps, z, _⟩ := e.good p m
      rw [h] at z
      cases z
    · rw [e.keep p u m q] at h
      cases h
theorem Ex.rd (g : Good Ts H) (e : Ex Ts H H') (n : ∀ ps, o ≠ .tbl ps) (h : Rd H p o) : Rd H' p o := by
  rcases h with h | ⟨u, h⟩
  · exact .inl (e.keep p _ (g.out fun ps q => n ps (Option.some.inj (h.symm.trans q))) h)
  · exact .inr ⟨u, e.keep p _ (g.out fun ps q => by rw [h] at q; cases q) h⟩
theorem Ex.l {xs : List V} (g : Good Ts H) (e : Ex Ts H H') (h : SqL K H p xs) : SqL K H' p xs := by
  rcases h with h | h
  · exact .inl (e.rd g (fun ps q => by cases q) h)
  · exact .inr h
theorem Ex.t {xs : List V} (g : Good Ts H) (e : Ex Ts H H') (h : SqT K H p xs) : SqT K H' p xs := by
  rcases h with h | h
  · exact .inl (e.rd g (fun ps q => by cases q) h)
  · exact .inr h
theorem l_of {xs : List V} (h : H p = some (.lst xs)) : SqL K H p xs := .inl (.inl h)
theorem t_of {xs : List V} (h : H p = some (.tup xs)) : SqT K H p xs := .inl (.inl h)
end

/-! ### what evaluates to what -/
def Ev (Ts : List Addr) (te : TE) (σ : L2.St) (H : Hp) (v : V) : Prop := ∀ H1, Ex Ts H H1 → ∀ Q : VK, (∀ H2, Ex Ts H1 H2 → Q v H2) → te σ H1 Q
/-- some new object of which R is told -/
def EvN (Ts : List Addr) (te : TE) (σ : L2.St) (H : Hp) (R : HO) : Prop := ∀ H1, Ex Ts H H1 → ∀ Q : VK, (∀ p H2, H1 p = none → Ex Ts H1 H2 → H2 p = some R → Q (.ref p) H2) → te σ H1 Q
def EvT (Ts : List Addr) (t : TT) (σ : L2.St) (H : Hp) (b : Bool) : Prop := ∀ H1, Ex Ts H H1 → ∀ Q : Bool → Hp → Prop, (∀ H2, Ex Ts H1 H2 → Q b H2) → t σ H1 Q
def EvA (Ts : List Addr) (t : TA) (σ : L2.St) (H : Hp) (vs : List V) : Prop := ∀ H1, Ex Ts H H1 → ∀ Q : List V → Hp → Prop, (∀ H2, Ex Ts H1 H2 → Q vs H2) → t σ H1 Q
def EvO (Ts : List Addr) (t : TO) (σ : L2.St) (H : Hp) (o : Option Int) : Prop := ∀ H1, Ex Ts H H1 → ∀ Q : Option Int → Hp → Prop, (∀ H2, Ex Ts H1 H2 → Q o H2) → t σ H1 Q
def RV (Ts : List Addr) (r : R2) (x y : V) (H : Hp) (z : V) : Prop := ∀ H1, Ex Ts H H1 → ∀ Q : VK, (∀ H2, Ex Ts H1 H2 → Q z H2) → r x y H1 Q
def RU (Ts : List Addr) (r : V → Hp → VK → Prop) (x : V) (H : Hp) (z : V) : Prop := ∀ H1, Ex Ts H H1 → ∀ Q : VK, (∀ H2, Ex Ts H1 H2 → Q z H2) → r x H1 Q
def RC (Ts : List Addr) (r : List V → Hp → VK → Prop) (vs : List V) (H : Hp) (z : V) : Prop := ∀ H1, Ex Ts H H1 → ∀ Q : VK, (∀ H2, Ex Ts H1 H2 → Q z H2) → r vs H1 Q
section
variable {Ts : List Addr} {K : PySem.W.Frag} {w : World} {σ : L2.St} {H H0 H' : Hp} {ta tb te tx : TE} {t u : TT} {x y z v : V} {r : R2}
theorem Ev.go {Q : VK} (h : Ev Ts te σ H0 v) (e : Ex Ts H0 H) (k : ∀ H2, Ex Ts H0 H2 → Q v H2) : te σ H Q := h H e Q fun H2 e2 => k H2 (e.trans e2)
theorem EvT.go {b : Bool} {Q : Bool → Hp → Prop} (h : EvT Ts t σ H0 b) (e : Ex Ts H0 H) (k : ∀ H2, Ex Ts H0 H2 → Q b H2) : t σ H Q := h H e Q fun H2 e2 => k H2 (e.trans e2)
theorem EvN.go {R : HO} {Q : VK} (h : EvN Ts te σ H0 R) (e : Ex Ts H0 H) (k : ∀ p H2, H0 p = none → p ∉ Ts → Ex Ts H0 H2 → H2 p = some R → Q (.ref p) H2) : te σ H Q :=
  h H e Q fun p H2 n e2 q => k p H2 (e.back n) (e.good.free n) (e.trans e2) q
theorem Ev.mono (e : Ex Ts H H') (h : Ev Ts te σ H v) : Ev Ts te σ H' v := fun H1 a Q q => h H1 (e.trans a) Q q
theorem ev_var {i : Nat} (h : σ[i]? = some (some v)) : Ev Ts (tVar i) σ H v := fun H1 e _ q => ⟨v, h, q H1 (Ex.refl e.good)⟩
theorem ev_c : Ev Ts (tC v) σ H v := fun H1 e _ q => q H1 (Ex.refl e.good)
theorem ev_s {a : Str} {l : List Nat} (h : a = S l) : Ev Ts (tC (.str a)) σ H (sv l) := by
  rw [h]
  exact ev_c
theorem ev_op (ha : Ev Ts ta σ H x) (hb : Ev Ts tb σ H y) (hr : RV Ts r x y H z) : Ev Ts (tOp r ta tb) σ H z := fun H1 e Q q =>
  ha H1 e _ fun H2 e2 => hb H2 (e.trans e2) _ fun H3 e3 => hr H3 ((e.trans e2).trans e3) Q fun H4 e4 => q H4 ((e2.trans e3).trans e4)
theorem ev_is {a : V} (h : Ev Ts te σ H v) (e : v = a) : Ev Ts te σ H a := e ▸ h
theorem et_is {a b : Bool} (h : EvT Ts t σ H a) (e : a = b) : EvT Ts t σ H b := e ▸ h
theorem rv_I0 {g : Int → Int → V} {i j : Int} : RV Ts (rI0 g) (.int i) (.int j) H (g i j) := fun H1 e _ q => ⟨i, j, rfl, rfl, q H1 (Ex.refl e.good)⟩
theorem rv_I {C : Int → Int → Prop} {g : Int → Int → V} {i j : Int} (hc : C i j) : RV Ts (rI C g) (.int i) (.int j) H (g i j) := fun H1 e _ q => ⟨i, j, rfl, rfl, hc, q H1 (Ex.refl e.good)⟩
theorem rv_eq (h : scal x y = true) : RV Ts rEq x y H (.bl (decide (x = y))) := fun H1 e _ q => ⟨h, q H1 (Ex.refl e.good)⟩
theorem rv_ne (h : scal x y = true) : RV Ts rNe x y H (.bl (!decide (x = y))) := fun H1 e _ q => ⟨h, q H1 (Ex.refl e.good)⟩
theorem rv_addS {a b : List Nat} (h : a.length + b.length ≤ 100000) : RV Ts (fun x y H Q => ∃ i j : Str, x = .str i ∧ y = .str j ∧ i.length + j.length ≤ sizeLine ∧ Q (.str (i ++ j)) H) (sv a) (sv b) H (sv (a ++ b)) := fun H1 e _ q =>
  ⟨S a, S b, rfl, rfl, by rw [S_len, S_len]; exact Nat.le_trans h (by decide), by rw [S_app]; exact q H1 (Ex.refl e.good)⟩
theorem rv_inS {c : Nat} {a : List Nat} : RV Ts (fun x y H Q => ∃ (c : Nat) (z : Str), x = .str ⟨#[c]⟩ ∧ y = .str z ∧ Q (.bl (decide (c ∈ z.cps.toList))) H) (sv [c]) (sv a) H (.bl (decide (c ∈ a))) := fun H1 e _ q =>
  ⟨c, S a, rfl, rfl, q H1 (Ex.refl e.good)⟩
theorem rv_niS {c : Nat} {a : List Nat} : RV Ts (fun x y H Q => ∃ (c : Nat) (z : Str), x = .str ⟨#[c]⟩ ∧ y = .str z ∧ Q (.bl (!decide (c ∈ z.cps.toList))) H) (sv [c]) (sv a) H (.bl (!decide (c ∈ a))) := fun H1 e _ q =>
  ⟨c, S a, rfl, rfl, q H1 (Ex.refl e.good)⟩
theorem rv_ixS {a : List Nat} {i : Int} {c : Nat} (hl : a.length ≤ 100000) (h : atI a i = some c) : RV Ts rIxS (sv a) (.int i) H (sv [c]) := fun H1 e _ q =>
  ⟨S a, i, c, rfl, rfl, by rw [S_len]; exact Nat.le_trans hl (by decide), h, q H1 (Ex.refl e.good)⟩
theorem rv_ixL {p : Addr} {xs : List V} {i : Int} (g : Good Ts H) (h : SqL K H p xs) (ha : atI xs i = some v) : RV Ts (rIxL K) (.ref p) (.int i) H v := fun H1 e _ q =>
  ⟨p, xs, i, v, rfl, rfl, e.l g h, ha, q H1 (Ex.refl e.good)⟩
theorem rv_kd {p : Addr} {a : List Nat} (h : KDct K w p (S a) v) : RV Ts (rIxD K w) (.ref p) (sv a) H v := fun H1 e _ q => ⟨p, S a, v, rfl, rfl, h, q H1 (Ex.refl e.good)⟩
theorem et_test {b : Bool} (h : Ev Ts te σ H (.bl b)) : EvT Ts (tTest te) σ H b := fun H1 e _ q => h H1 e _ fun H2 e2 => ⟨b, rfl, q H2 e2⟩
theorem et_B {b : Bool} (h : Ev Ts te σ H (.bl b)) : EvT Ts (tB te) σ H b := fun H1 e _ q => h H1 e _ fun H2 e2 => ⟨b, rfl, q H2 e2⟩
theorem et_and {a b : Bool} (h1 : EvT Ts t σ H a) (h2 : a = true → EvT Ts u σ H b) : EvT Ts (tAnd t u) σ H (a && b) := fun H1 e Q q => h1 H1 e _ fun H2 e2 => by
  cases a with
  | true => exact h2 rfl H2 (e.trans e2) Q fun H3 e3 => q H3 (e2.trans e3)
  | false => exact q H2 e2
theorem et_or {a b : Bool} (h1 : EvT Ts t σ H a) (h2 : a = false → EvT Ts u σ H b) : EvT Ts (tOr t u) σ H (a || b) := fun H1 e Q q => h1 H1 e _ fun H2 e2 => by
  cases a with
  | true => exact q H2 e2
  | false => exact h2 rfl H2 (e.trans e2) Q fun H3 e3 => q H3 (e2.trans e3)
theorem et_not {a : Bool} (h1 : EvT Ts t σ H a) : EvT Ts (tNot t) σ H (!a) := fun H1 e _ q => h1 H1 e _ fun H2 e2 => q H2 e2
theorem ev_and {a b : Bool} (h1 : Ev Ts ta σ H (.bl a)) (h2 : a = true → Ev Ts tb σ H (.bl b)) : Ev Ts (tAndV ta tb) σ H (.bl (a && b)) := fun H1 e Q q => h1 H1 e _ fun H2 e2 => ⟨a, rfl, by
  cases a with
  | true => exact h2 rfl H2 (e.trans e2) Q fun H3 e3 => q H3 (e2.trans e3)
  | false => exact q H2 e2⟩
theorem ev_not {a : Bool} (h1 : Ev Ts ta σ H (.bl a)) : Ev Ts (tNotV ta) σ H (.bl (!a)) := fun H1 e _ q => h1 H1 e _ fun H2 e2 => ⟨a, rfl, q H2 e2⟩
theorem ev_if {b : Bool} (h : EvT Ts t σ H b) (h1 : b = true → Ev Ts ta σ H v) (h2 : b = false → Ev Ts tb σ H v) : Ev Ts (tIf t ta tb) σ H v := fun H1 e Q q => h H1 e _ fun H2 e2 => by
  cases b with
  | true => exact h1 rfl H2 (e.trans e2) Q fun H3 e3 => q H3 (e2.trans e3)
  | false => exact h2 rfl H2 (e.trans e2) Q fun H3 e3 => q H3 (e2.trans e3)
theorem ea_nil : EvA Ts tNil σ H [] := fun H1 e _ q => q H1 (Ex.refl e.good)
theorem ea_cons {tr : TA} {vs : List V} (h : Ev Ts ta σ H x) (hr : EvA Ts tr σ H vs) : EvA Ts (tCons ta tr) σ H (x :: vs) := fun H1 e _ q =>
  h H1 e _ fun H2 e2 => hr H2 (e.trans e2) _ fun H3 e3 => q H3 (e2.trans e3)
theorem eo_none : EvO Ts tNoPart σ H none := fun H1 e _ q => q H1 (Ex.refl e.good)
theorem eo_some {i : Int} (h : Ev Ts te σ H (.int i)) : EvO Ts (tPart te) σ H (some i) := fun H1 e _ q => h H1 e _ fun H2 e2 => ⟨i, rfl, q H2 e2⟩
theorem en_tup {tr : TA} {vs : List V} (h : EvA Ts tr σ H vs) (hl : vs.length ≤ 100000) : EvN Ts (tTup tr) σ H (.tup vs) := fun H1 e _ q =>
  h H1 e _ fun H2 e2 => ⟨Nat.le_trans hl (by decide), fun p hp => q p _ (e2.back hp) (e2.trans (Ex.new e2.good hp)) upd_same⟩
theorem en_lst {tr : TA} {vs : List V} (h : EvA Ts tr σ H vs) (hl : vs.length ≤ 100000) : EvN Ts (tLst tr) σ H (.lst vs) := fun H1 e _ q =>
  h H1 e _ fun H2 e2 => ⟨Nat.le_trans hl (by decide), fun p hp => q p _ (e2.back hp) (e2.trans (Ex.new e2.good hp)) upd_same⟩
theorem en_slL {tl th : TO} {a : Addr} {xs : List V} {lo hi : Option Int} (g : Good Ts H) (h : Ev Ts te σ H (.ref a)) (h1 : EvO Ts tl σ H lo) (h2 : EvO Ts th σ H hi) (hs : SqL K H a xs) : EvN Ts (tSl (rSlL K) te tl th) σ H (.lst (cutV xs lo hi)) := fun H1 e _ q =>
  h H1 e _ fun H2 e2 => h1 H2 (e.trans e2) _ fun H3 e3 => h2 H3 ((e.trans e2).trans e3) _ fun H4 e4 =>
    ⟨a, xs, rfl, (((e.trans e2).trans e3).trans e4).l g hs, fun p hp => q p _ (((e2.trans e3).trans e4).back hp) (((e2.trans e3).trans e4).trans (Ex.new e4.good hp)) upd_same⟩
theorem ev_slS {tl th : TO} {a b : List Nat} {lo hi : Option Int} (hl : a.length ≤ 100000) (h : Ev Ts te σ H (sv a)) (h1 : EvO Ts tl σ H lo) (h2 : EvO Ts th σ H hi) (hb : cutS (S a) lo hi = S b) : Ev Ts (tSl rSlS te tl th) σ H (sv b) := fun H1 e _ q =>
  h H1 e _ fun H2 e2 => h1 H2 (e.trans e2) _ fun H3 e3 => h2 H3 ((e.trans e2).trans e3) _ fun H4 e4 =>
    ⟨S a, rfl, by rw [S_len]; exact Nat.le_trans hl (by decide), by rw [hb]; exact q H4 ((e2.trans e3).trans e4)⟩
theorem ev_cb {r : List V → Hp → VK → Prop} {tr : TA} {vs : List V} (h : EvA Ts tr σ H vs) (hr : RC Ts r vs H z) : Ev Ts (tCB r tr) σ H z := fun H1 e Q q =>
  h H1 e _ fun H2 e2 => hr H2 (e.trans e2) Q fun H3 e3 => q H3 (e2.trans e3)
theorem rc_lenS {a : List Nat} (h : a.length ≤ 100000) : RC Ts (fun xs H Q => ∃ z : Str, xs = [.str z] ∧ z.length ≤ sizeLine ∧ Q (.int z.length) H) [sv a] H (.int (a.length : Int)) := fun H1 e _ q =>
  ⟨S a, rfl, by rw [S_len]; exact Nat.le_trans h (by decide), by rw [S_len]; exact q H1 (Ex.refl e.good)⟩
theorem rc_lenL {p : Addr} {xs : List V} (g : Good Ts H) (h : SqL K H p xs) : RC Ts (fun vs H Q => ∃ (p : Addr) (ys : List V), vs = [.ref p] ∧ (SqL K H p ys ∨ SqT K H p ys) ∧ Q (.int (ys.length : Nat)) H) [.ref p] H (.int (xs.length : Int)) := fun H1 e _ q =>
  ⟨p, xs, rfl, .inl (e.l g h), q H1 (Ex.refl e.good)⟩
theorem rc_max {i j : Int} : RC Ts (fun xs H Q => ∃ i j : Int, xs = [.int i, .int j] ∧ Q (.int (if j > i then j else i)) H) [.int i, .int j] H (.int (if j > i then j else i)) := fun H1 e _ q => ⟨i, j, rfl, q H1 (Ex.refl e.good)⟩
theorem rc_abs {i : Int} : RC Ts (fun xs H Q => ∃ i : Int, xs = [.int i] ∧ Q (.int (if i < 0 then -i else i)) H) [.int i] H (.int (if i < 0 then -i else i)) := fun H1 e _ q => ⟨i, rfl, q H1 (Ex.refl e.good)⟩
theorem rc_intI {i : Int} : RC Ts (fun xs H Q => (∃ i, xs = [V.int i] ∧ Q (.int i) H) ∨ ∃ k, xs = [V.bl k] ∧ Q (.int (if k then 1 else 0)) H) [.int i] H (.int i) := fun H1 e _ q => .inl ⟨i, rfl, q H1 (Ex.refl e.good)⟩
theorem rc_intB {k : Bool} : RC Ts (fun xs H Q => (∃ i, xs = [V.int i] ∧ Q (.int i) H) ∨ ∃ k, xs = [V.bl k] ∧ Q (.int (if k then 1 else 0)) H) [.bl k] H (.int (if k then 1 else 0)) := fun H1 e _ q => .inr ⟨k, rfl, q H1 (Ex.refl e.good)⟩
theorem rc_bin {a : List Nat} (h0 : a ≠ []) (h1 : a.length ≤ 640) (h2 : ∀ c ∈ a, IsBin c) : RC Ts rIntBin [sv a, .int 2] H (.int ((binNum a : Nat) : Int)) := fun H1 e _ q =>
  ⟨S a, rfl, h0, by rw [S_len]; exact h1, h2, q H1 (Ex.refl e.good)⟩
theorem ev_allIn {P : Addr} {j : Nat} {a b : List Nat} (hP : P ∈ Ts) (hj : σ[j]? = some (some (sv b))) (h : Ev Ts te σ H (sv a)) : Ev Ts (tAllIn P j te) σ H (.bl (a.all fun c => decide (c ∈ b))) := fun H1 e Q q =>
  ⟨S b, hj, h H1 e _ fun H2 e2 => ⟨S a, rfl, e2.good P hP, fun H3 t => q H3 (e2.trans (Ex.tabbed e2.good hP t))⟩⟩
theorem ev_find {K : PySem.W.Frag} {a b : List Nat} {to : TE} {ts : TE} {n : Int} (ho : Ev Ts to σ H (sv a)) (hs : Ev Ts ts σ H (sv b)) (hn : (Txt.find (S a) (S b) : Int) = n) (ty : ∀ H, tyV K "str" (sv a) H) :
    Ev Ts (tBM K "str" (fun x xs H Q => ∃ a b : Str, x = .str a ∧ xs = [.str b] ∧ Q (.int (Txt.find a b)) H) to (tCons ts tNil)) σ H (.int n) := fun H1 e Q q =>
  ho H1 e _ fun H2 e2 => ⟨ty H2, hs H2 (e.trans e2) _ fun H3 e3 => ⟨S a, S b, rfl, rfl, by rw [hn]; exact q H3 (e2.trans e3)⟩⟩
end

/-! ### promises -/
/-- from x of α: the arguments, what is asked, what is told of the answer -/
def FnS (Ts : List Addr) {α : Type} (enc : α → List V) (dom : α → Hp → Prop) (R : α → V → Hp → Prop) : Sp := fun vs H Q _ => ∃ x, vs = enc x ∧ dom x H ∧ Good Ts H ∧ ∀ v H', Ex Ts H H' → R x v H' → Q v H'
/-- the answer is a value -/
def FnV (Ts : List Addr) {α : Type} (enc : α → List V) (dom : α → Prop) (res : α → V) : Sp := fun vs H Q _ => ∃ x, vs = enc x ∧ dom x ∧ Good Ts H ∧ ∀ H', Ex Ts H H' → Q (res x) H'
/-- the answer is a new object -/
def FnN (Ts : List Addr) {α : Type} (enc : α → List V) (dom : α → Hp → Prop) (R : α → HO) : Sp := fun vs H Q _ => ∃ x, vs = enc x ∧ dom x H ∧ Good Ts H ∧ ∀ p H', H p = none → Ex Ts H H' → H' p = some (R x) → Q (.ref p) H'
section
variable {Ts : List Addr} {σ : L2.St} {H : Hp} {E : XK} {tr : TA} {α : Type} {enc : α → List V} {domV : α → Prop} {dom : α → Hp → Prop} {res : α → V} {R : α → HO}
theorem ev_call (x : α) (h : EvA Ts tr σ H (enc x)) (hd : domV x) : Ev Ts (tCall (FnV Ts enc domV res) [] E tr) σ H (res x) := fun H1 e Q q =>
  h H1 e _ fun H2 e2 => ⟨x, List.append_nil _, hd, e2.good, fun H3 e3 => q H3 (e2.trans e3)⟩
theorem en_call (x : α) (h : EvA Ts tr σ H (enc x)) (hd : ∀ H2, Ex Ts H H2 → dom x H2) : EvN Ts (tCall (FnN Ts enc dom R) [] E tr) σ H (R x) := fun H1 e Q q =>
  h H1 e _ fun H2 e2 => ⟨x, List.append_nil _, hd H2 (e.trans e2), e2.good, fun p H3 n e3 => q p H3 (e2.back n) (e2.trans e3)⟩
end

/-! ### steps of a body -/
section
variable {Ts : List Addr} {σ : L2.St} {H H0 : Hp} {D : Ends} {te : TE} {tc : TT} {t1 t2 : TS} {v : V} {i : Nat}
theorem st_ret (h : Ev Ts te σ H0 v) (e : Ex Ts H0 H) (k : ∀ H2, Ex Ts H0 H2 → D.rt v H2) : tRet te D σ H := h.go e k
theorem st_set (h : Ev Ts te σ H0 v) (e : Ex Ts H0 H) (k : ∀ H2, Ex Ts H0 H2 → D.nx (σ.set i (some v)) H2) : tAsg te (gName i) D σ H := h.go e k
theorem st_if {b : Bool} (h : EvT Ts tc σ H0 b) (e : Ex Ts H0 H) (k1 : ∀ H2, Ex Ts H0 H2 → b = true → t1 D σ H2) (k2 : ∀ H2, Ex Ts H0 H2 → b = false → t2 D σ H2) : tIfS tc t1 t2 D σ H := h.go e fun H2 e2 => by
  cases b with
  | true => exact k1 H2 e2 rfl
  | false => exact k2 H2 e2 rfl
end
end Cw
set_option Elab.async false
set_option linter.all false
set_option maxRecDepth 100000
set_option maxHeartbeats 2000000
/-! texts times numbers, joined; comprehensions and loops over texts, pairs of texts, lists -/
namespace Cw
open PySem PySem.Spec PyProof.Rows L2
open GxR (TabG Tabbed TabB)

/-! ### a sign times a number -/
theorem rep_fold (c : Nat) : ∀ (n : Nat) (acc : Array Nat), (List.replicate n (#[c] : Array Nat)).foldl (· ++ ·) acc = acc ++ (List.replicate n c).toArray
  | 0, acc => by simp
  | n + 1, acc => by
    rw [List.replicate_succ, List.foldl_cons, rep_fold c n, List.replicate_succ]
    apply Array.toList_inj.mp
    simp
def rMulS : R2 := fun x y H Q => ∃ (c : Nat) (n : Int), x = .str ⟨#[c]⟩ ∧ y = .int n ∧ -100000 ≤ n ∧ n ≤ 100000 ∧ Q (sv (List.replicate n.toNat c)) H
theorem op_mulS {X : Cx} : OpR X (binaryOp .Mult) rMulS := by
  intro pins s σ H x y v u Q I rx ry h
  obtain ⟨c, n, rfl, rfl, h0, h1, q⟩ := h
  obtain ⟨t, rfl⟩ := rx
  obtain ⟨t', rfl⟩ := ry
  have hl : ((⟨#[c]⟩ : Str).length) = 1 := rfl
  refine PySem.P.mul_str ?_ ?_ ?_ ?_
  · rw [decide_eq_false (show ¬ n < -(2 ^ 63 : Int) by omega), decide_eq_false (show ¬ n ≥ 2 ^ 63 by omega)]
    rfl
  · intro a _
    rw [hl]
    have q1 : (1 : Int) ≤ (2 ^ 63 - 1) / n := (Int.le_ediv_iff_mul_le (show (0 : Int) < n by omega)).mpr (by omega)
    intro b
    have b' : (1 : Int) > (2 ^ 63 - 1) / n := b
    omega
  · intro a _
    rw [hl]
    unfold Builtin.Str.tooLong
    refine decide_eq_false ?_
    have e : sizeLine = sizeLine := rfl
    have z : (100000 : Nat) ≤ sizeLine := by decide
    omega
  · by_cases a : n < 1
    · rw [if_pos a]
      have e : n.toNat = 0 := by omega
      rw [e] at q
      exact ⟨by decide, .str (S []), H, I.tok _, ⟨_, rfl⟩, q⟩
    · rw [if_neg a]
      by_cases b : (n == 1 || (⟨#[c]⟩ : Str).length == 0) = true
      · rw [if_pos b]
        have e1 : n = 1 := by
          rw [hl] at b
          rcases Bool.or_eq_true_iff.mp b with b | b
          · exact beq_iff_eq.mp b
          · exact absurd b (by decide)
        subst e1
        exact ⟨.str ⟨#[c]⟩, H, I, ⟨_, rfl⟩, q⟩
      · rw [if_neg b, rep_fold]
        have e : (#[] : Array Nat) ++ (List.replicate n.toNat c).toArray = (List.replicate n.toNat c).toArray := Array.empty_append
        refine ⟨?_, .str (S (List.replicate n.toNat c)), H, I.tok _, ⟨_, by rw [e]; rfl⟩, q⟩
        show (((#[] : Array Nat) ++ (List.replicate n.toNat c).toArray).size) ≤ sizeLine
        rw [e, List.size_toArray, List.length_replicate]
        have z : (100000 : Nat) ≤ sizeLine := by decide
        omega
section
variable {Ts : List Addr} {K : PySem.W.Frag} {w : World} {σ : L2.St} {H H0 H' : Hp} {ta tb te ti : TE} {t u : TT} {x y z v : V} {r : R2}
theorem rv_mulS {c : Nat} {n : Int} (h0 : -100000 ≤ n) (h1 : n ≤ 100000) : RV Ts rMulS (sv [c]) (.int n) H (sv (List.replicate n.toNat c)) := fun H1 e _ q => ⟨c, n, rfl, rfl, h0, h1, q H1 (Ex.refl e.good)⟩

/-! ### texts joined -/
theorem join_nil : ∀ ls : List (List Nat), Txt.join (S []) (ls.map S) = S ls.flatten := by
  have aux : ∀ ls : List (List Nat), Str.join (S []) (ls.map S) = S ls.flatten := by
    intro ls
    induction ls with
    | nil => rfl
    | cons a r ih =>
      cases r with
      | nil =>
        show S a = S ([a] : List (List Nat)).flatten
        simp
      | cons b r =>
        show S a ++ S [] ++ Str.join (S []) ((b :: r).map S) = _
        rw [ih, S_app, S_app]
        simp
  intro ls
  show Builtin.Str.glued (S []) (ls.map S) = _
  rw [StrLaws.glued_eq_join]
  exact aux ls
theorem map_sv (ls : List (List Nat)) : (ls.map S).map V.str = ls.map sv := by
  rw [List.map_map]
  rfl
theorem len_sum (ls : List (List Nat)) : ((ls.map S).map (·.length)).sum = ls.flatten.length := by
  rw [List.length_flatten, List.map_map]
  exact congrArg List.sum (List.map_congr_left fun a _ => S_len a)
theorem ev_join {ls : List (List Nat)} {to te : TE} (ho : Ev Ts to σ H (sv [])) (h : EvN Ts te σ H (.lst (ls.map sv))) (hl : ls.flatten.length ≤ 100000) (ty : ∀ H, tyV K "str" (sv []) H) :
    Ev Ts (tBM K "str" (fun x xs H Q => ∃ a p, ∃ ys : List Str, x = .str a ∧ xs = [.ref p] ∧ (SqL K H p (ys.map V.str) ∨ SqT K H p (ys.map V.str)) ∧ (ys.map (·.length)).sum + ys.length * a.length ≤ 16777216 ∧ Q (.str (Txt.join a ys)) H) to (tCons te tNil))
      σ H (sv ls.flatten) := fun H1 e Q q =>
  ho H1 e _ fun H2 e2 => ⟨ty H2, h H2 (e.trans e2) _ fun p H3 n e3 hp => ⟨S [], p, ls.map S, rfl, rfl, .inl (l_of (by rw [map_sv]; exact hp)), by
    rw [len_sum, S_len]
    show ls.flatten.length + (ls.map S).length * 0 ≤ 16777216
    omega, by
    rw [join_nil]
    exact q H3 (e2.trans e3)⟩⟩

/-! ### comprehensions -/
theorem take_snoc {xs : List V} {i : Nat} {z : V} (h : xs[i]? = some z) : xs.take (i + 1) = xs.take i ++ [z] := by
  rw [List.take_add_one, h]
  rfl
theorem en_lc {wi : TI} {g : TG} {vs : List Nat} {J : It} {n : Nat} {G : Hp → Prop} {Y : Nat → Hp → V → Hp → Prop} {zs : List V} (hz : zs.length = n) (hn : n ≤ 100000) (W : Walk J n G Y)
    (hw : ∀ H1, Ex Ts H H1 → ∀ R : It → Hp → Prop, (∀ H2, Ex Ts H1 H2 → R J H2) → wi σ H1 R) (hG : ∀ H1, Ex Ts H H1 → G H1)
    (hs : ∀ i z, zs[i]? = some z → ∀ H1 x H', Ex Ts H H1 → Y i H1 x H' → ∃ σ2, Ex Ts H1 H' ∧ (∀ Q : L2.St → Hp → Prop, Q σ2 H' → g x (wipe σ vs) H' Q) ∧ wipe σ2 vs = wipe σ vs ∧ Ev Ts te σ2 H z) :
    EvN Ts (tLc wi g tYes te vs) σ H (.lst zs) := fun H1 e1 Q q => by
  refine hw H1 e1 _ fun H2 e2 => ?_
  intro D nD
  have n0 : H D = none := (e1.trans e2).back nD
  have nT : D ∉ Ts := e2.good.free nD
  have zl : (100000 : Nat) < sizeLine := by decide
  refine lc_it W (fun i H' => Ex Ts H1 H' ∧ H' D = some (.lst (zs.take i))) ⟨e2.trans (Ex.new e2.good nD), by rw [upd_same]; rfl⟩ (fun i H' _ p => hG H' (e1.trans p.1)) (fun i x H3 H4 hi p y => ?_) (fun H' p => ?_)
  · have hi' : i < zs.length := by omega
    obtain ⟨σ2, e4, hg, hwp, hev⟩ := hs i zs[i] (List.getElem?_eq_getElem hi') H3 x H4 (e1.trans p.1) y
    refine hg _ ⟨hwp, ?_⟩
    dsimp only [tYes]
    rw [if_pos rfl]
    refine hev H4 ((e1.trans p.1).trans e4) _ fun H5 e5 => ⟨zs.take i, (e4.trans e5).keep D _ nT p.2, ?_, ?_⟩
    · rw [List.length_take]
      omega
    · refine ⟨((p.1.trans e4).trans e5).mut nT (e2.back nD), ?_⟩
      rw [upd_same, take_snoc (List.getElem?_eq_getElem hi')]
  · have h2 := p.2
    rw [List.take_of_length_le (Nat.le_of_eq hz)] at h2
    exact q D H' (e2.back nD) p.1 h2
theorem wipe_one (σ : L2.St) (j : Nat) (x : V) : wipe ((wipe σ [j]).set j (some x)) [j] = wipe σ [j] := by
  show ((σ.set j none).set j (some x)).set j none = σ.set j none
  rw [List.set_set, List.set_set]
/-- [e for c in text] -/
theorem en_lcS {j : Nat} {a : List Nat} {f : Nat → V} (hl : a.length ≤ 100000) (hi : Ev Ts ti σ H (sv a)) (he : ∀ c ∈ a, Ev Ts te ((wipe σ [j]).set j (some (sv [c]))) H (f c)) : EvN Ts (tLc (iStr ti) (gName j) tYes te [j]) σ H (.lst (a.map f)) := by
  refine en_lc (n := (S a).cps.size) (by rw [List.length_map, S_size]) (by rw [S_size]; exact hl) (walk_str (z := S a)) (fun H1 e R k => hi H1 e _ fun H2 e2 => ⟨S a, rfl, k H2 e2⟩) (fun _ _ => trivial) (fun i z hz H1 x H' e y => ?_)
  obtain ⟨rfl, c, hc, rfl⟩ := y
  rw [S_get] at hc
  rw [List.getElem?_map, hc] at hz
  obtain rfl := Option.some.inj hz
  exact ⟨_, Ex.refl e.good, fun Q q => q, wipe_one σ j _, he c (List.mem_of_getElem? hc)⟩
theorem wipe_two (σ : L2.St) (j k : Nat) (x y : V) (h : j ≠ k) : wipe (((wipe σ [j, k]).set j (some x)).set k (some y)) [j, k] = wipe σ [j, k] := by
  show (((((σ.set k none).set j none).set j (some x)).set k (some y)).set k none).set j none = (σ.set k none).set j none
  rw [List.set_set, List.set_set, List.set_comm _ _ h, List.set_set, List.set_set]
/-- [e for a, b in zip(one, two)], texts of one length -/
theorem en_lcZ {j k : Nat} {a b : List Nat} {tb : TE} {f : Nat → Nat → V} (hjk : j ≠ k) (hab : a.length = b.length) (hl : a.length ≤ 100000) (ha : Ev Ts ta σ H (sv a)) (hb : Ev Ts tb σ H (sv b))
    (he : ∀ c d, c ∈ a → d ∈ b → Ev Ts te (((wipe σ [j, k]).set j (some (sv [c]))).set k (some (sv [d]))) H (f c d)) :
    EvN Ts (tLc (iZips (tCons ta (tCons tb tNil))) (gTup K 2 (gCons (gName j) (gCons (gName k) gNil))) tYes te [j, k]) σ H (.lst ((a.zip b).map fun p => f p.1 p.2)) := by
  refine en_lc (n := (S a).cps.size) (by rw [List.length_map, List.length_zip, S_size, hab, Nat.min_self]) (by rw [S_size]; exact hl) (walk_zips (x := S a) (y := S b) (by rw [S_size, S_size]; exact hab))
    (fun H1 e R q => ha H1 e _ fun H2 e2 => hb H2 (e.trans e2) _ fun H3 e3 => ⟨S a, S b, rfl, q H3 (e2.trans e3)⟩) (fun _ _ => trivial) (fun i z hz H1 x H' e y => ?_)
  obtain ⟨T, c, d, rfl, nT, rfl, hc, hd⟩ := y
  rw [S_get] at hc hd
  have hp : (a.zip b)[i]? = some (c, d) := List.getElem?_zip_eq_some.mpr ⟨hc, hd⟩
  rw [List.getElem?_map, hp] at hz
  obtain rfl := Option.some.inj hz
  exact ⟨_, Ex.new e.good nT, fun Q q => ⟨T, [sv [c], sv [d]], rfl, t_of upd_same, rfl, _, _, rfl, _, _, rfl, rfl, q⟩, wipe_two σ j k _ _ hjk, he c d (List.mem_of_getElem? hc) (List.mem_of_getElem? hd)⟩
/-- [e for x in list], the list a new one on the way -/
theorem en_lcN {j : Nat} {xs : List V} {f : V → V} (hl : xs.length ≤ 100000) (hi : EvN Ts ti σ H (.lst xs)) (he : ∀ x ∈ xs, Ev Ts te ((wipe σ [j]).set j (some x)) H (f x)) : EvN Ts (tLc (iList K ti) (gName j) tYes te [j]) σ H (.lst (xs.map f)) := fun H1 e1 Q q => by
  -- the list stands beside what was there
  refine hi H1 e1 _ fun a H2 n2 e2 ha => ?_
  have g2 : Good Ts H2 := e2.good
  have key : EvN Ts (fun σ H Q => tLc (fun σ H R => R (Itl K a) H) (gName j) tYes te [j] σ H Q) σ H2 (.lst (xs.map f)) := by
    refine en_lc (n := xs.length) (by rw [List.length_map]) hl (walk_list (K := K) (a := a) (xs := xs)) (fun H3 e R k => k H3 (Ex.refl e.good)) (fun H3 e => e.l g2 (l_of ha)) (fun i z hz H3 x H' e y => ?_)
    obtain ⟨rfl, hx⟩ := y
    rw [List.getElem?_map, hx] at hz
    obtain rfl := Option.some.inj hz
    exact ⟨_, Ex.refl e.good, fun Q q => q, wipe_one σ j _, (he x (List.mem_of_getElem? hx)).mono (e1.trans e2)⟩
  exact ⟨a, rfl, ⟨xs, l_of ha⟩, key H2 (Ex.refl g2) Q fun p H3 n e3 h => q p H3 (e2.back n) (e2.trans e3) h⟩

/-! ### loops -/
/-- for c in text: Pv by the signs taken -/
theorem st_forS {j : Nat} {a : List Nat} {tb : TS} {D : Ends} (hi : Ev Ts ti σ H0 (sv a)) (e0 : Ex Ts H0 H) (Pv : Nat → L2.St → Prop) (h0 : Pv 0 σ)
    (hs : ∀ i c σ H1 (N B : L2.St → Hp → Prop), a[i]? = some c → Pv i σ → Ex Ts H0 H1 → (∀ σ2 H2, Ex Ts H0 H2 → Pv (i + 1) σ2 → N σ2 H2) → tb { D with nx := N, ct := N, bk := D.nx } (σ.set j (some (sv [c]))) H1)
    (hd : ∀ σ H1, Ex Ts H0 H1 → Pv a.length σ → D.nx σ H1) : tFor (iStr ti) (gName j) tb D σ H := by
  refine hi.go e0 fun H2 e2 => ⟨S a, rfl, ?_⟩
  refine for_it (walk_str (z := S a)) (fun i σ H => Ex Ts H0 H ∧ Pv i σ) ⟨e2, h0⟩ (fun _ _ _ _ _ => trivial) (fun i x σ H3 H4 hi p y => ?_) (fun σ H3 p => ?_)
  · obtain ⟨rfl, c, hc, rfl⟩ := y
    rw [S_get] at hc
    exact hs i c σ H4 _ D.nx hc p.2 p.1 fun σ2 H5 e5 p5 => ⟨e5, p5⟩
  · rw [S_size] at p
    exact hd σ H3 p.1 p.2
end
end Cw
set_option Elab.async false
set_option linter.all false
set_option maxRecDepth 100000
set_option maxHeartbeats 2000000
/-! vectors by their signs: what the operators make of them -/
namespace Cw
open PySem PySem.Spec PyProof.Rows L2
def IsB (c : Nat) : Prop := c = 48 ∨ c = 49 ∨ c = 120 ∨ c = 122
def AllB (a : List Nat) : Prop := ∀ c ∈ a, IsB c
structure Vec (a : List Nat) : Prop where
  all : AllB a
  pos : 1 ≤ a.length
  le : a.length ≤ 64
def notB (c : Nat) : Nat := if c = 48 then 49 else if c = 49 then 48 else 120
def andB (a b : Nat) : Nat := if a = 48 ∨ b = 48 then 48 else if a = 49 ∧ b = 49 then 49 else 120
def orB (a b : Nat) : Nat := if a = 49 ∨ b = 49 then 49 else if a = 48 ∧ b = 48 then 48 else 120
def xorB (a b : Nat) : Nat := if (a = 48 ∨ a = 49) ∧ (b = 48 ∨ b = 49) then (if a = b then 48 else 49) else 120
def norm (c : Nat) : Nat := if c = 48 ∨ c = 49 then c else 120
def agB (a b : Nat) : Nat := if a = b ∧ (a = 48 ∨ a = 49) then a else 120
instance (c : Nat) : Decidable (IsB c) := by
  unfold IsB
  infer_instance
theorem isB_not {a : Nat} (ha : IsB a) : IsB (notB a) := by
  rcases ha with rfl | rfl | rfl | rfl <;> decide
theorem isB_and {a b : Nat} (ha : IsB a) (hb : IsB b) : IsB (andB a b) := by
  rcases ha with rfl | rfl | rfl | rfl <;> rcases hb with rfl | rfl | rfl | rfl <;> decide
theorem isB_or {a b : Nat} (ha : IsB a) (hb : IsB b) : IsB (orB a b) := by
  rcases ha with rfl | rfl | rfl | rfl <;> rcases hb with rfl | rfl | rfl | rfl <;> decide
theorem isB_xor {a b : Nat} (ha : IsB a) (hb : IsB b) : IsB (xorB a b) := by
  rcases ha with rfl | rfl | rfl | rfl <;> rcases hb with rfl | rfl | rfl | rfl <;> decide
def wid (a b : List Nat) : Nat := max a.length b.length
def ext (w : Nat) (a : List Nat) : List Nat := List.replicate (w - a.length) 48 ++ a
def exL (a b : List Nat) : List Nat := ext (wid a b) a
def exR (a b : List Nat) : List Nat := ext (wid a b) b
def map2 (f : Nat → Nat → Nat) (a b : List Nat) : List Nat := ((exL a b).zip (exR a b)).map fun p => f p.1 p.2
theorem ext_len {w : Nat} {a : List Nat} (h : a.length ≤ w) : (ext w a).length = w := by
  unfold ext
  rw [List.length_append, List.length_replicate]
  omega
theorem ext_all {w : Nat} {a : List Nat} (h : AllB a) : AllB (ext w a) := by
  intro c hc
  rcases List.mem_append.mp hc with q | q
  · rw [List.eq_of_mem_replicate q]
    exact .inl rfl
  · exact h c q
theorem exL_len (a b : List Nat) : (exL a b).length = wid a b := ext_len (Nat.le_max_left _ _)
theorem exR_len (a b : List Nat) : (exR a b).length = wid a b := ext_len (Nat.le_max_right _ _)
theorem ex_eq (a b : List Nat) : (exL a b).length = (exR a b).length := by rw [exL_len, exR_len]
theorem wid_le {a b : List Nat} (ha : a.length ≤ 64) (hb : b.length ≤ 64) : wid a b ≤ 64 := Nat.max_le.mpr ⟨ha, hb⟩
theorem map2_len (f : Nat → Nat → Nat) (a b : List Nat) : (map2 f a b).length = wid a b := by
  unfold map2
  rw [List.length_map, List.length_zip, exL_len, exR_len, Nat.min_self]
theorem map2_vec {f : Nat → Nat → Nat} (hf : ∀ a b, IsB a → IsB b → IsB (f a b)) {a b : List Nat} (ha : Vec a) (hb : Vec b) : Vec (map2 f a b) := by
  refine ⟨fun c hc => ?_, ?_, ?_⟩
  · obtain ⟨p, hp, rfl⟩ := List.mem_map.mp hc
    obtain ⟨x, y⟩ := p
    have q := List.of_mem_zip hp
    exact hf x y (ext_all ha.all x q.1) (ext_all hb.all y q.2)
  · rw [map2_len]
    exact Nat.le_trans ha.pos (Nat.le_max_left _ _)
  · rw [map2_len]
    exact wid_le ha.le hb.le
theorem vec_one {c : Nat} (h : IsB c) : Vec [c] := ⟨fun x hx => by rw [List.mem_singleton.mp hx]; exact h, Nat.le_refl _, by show 1 ≤ 64; decide⟩
/-- a fold by one of the tables -/
theorem fold_isB {f : Nat → Nat → Nat} (hf : ∀ a b, IsB a → IsB b → IsB (f a b)) : ∀ {a : List Nat} {e : Nat}, IsB e → AllB a → IsB (a.foldl f e)
  | [], _, he, _ => he
  | c :: r, e, he, ha => by
    show IsB (r.foldl f (f e c))
    exact fold_isB hf (hf e c he (ha c (List.mem_cons_self ..))) fun x hx => ha x (List.mem_cons_of_mem _ hx)
theorem fold_snoc {f : Nat → Nat → Nat} {a : List Nat} {i c : Nat} {e : Nat} (h : a[i]? = some c) : (a.take (i + 1)).foldl f e = f ((a.take i).foldl f e) c := by
  rw [List.take_add_one, h, List.foldl_append]
  rfl
theorem take_isB {f : Nat → Nat → Nat} (hf : ∀ a b, IsB a → IsB b → IsB (f a b)) {a : List Nat} {e : Nat} (he : IsB e) (ha : AllB a) (i : Nat) : IsB ((a.take i).foldl f e) :=
  fold_isB hf he fun x hx => ha x (List.mem_of_mem_take hx)
theorem flat_one {α : Type} (f : α → Nat) (l : List α) : (l.map fun x => [f x]).flatten = l.map f := by
  induction l with
  | nil => rfl
  | cons a r ih =>
    show [f a] ++ (r.map fun x => [f x]).flatten = _
    rw [ih]
    rfl
/-! ### promises of defs of the text -/
/-- a def of the module, its promise kept -/
structure Callee (P : Program) (w : World) (K : PySem.W.Frag) (mg : Str → Option Value) (base : Heap) (x : Str) (k : Nat) (ps : List Str) (sp : Sp) : Prop where
  out : ∃ (f : Addr) (fd : FuncData), FnOk P w K mg base CX0 k f fd ps sp ∧ mg x = some (.ref f) ∧ PySem.W.keepIn K (.ref f) = true ∧ Binds K fd ps []
theorem pe_fn {X : Cx} {x : Str} {k : Nat} {ps : List Str} {sp : Sp} {p pos : Pos} {e : Expr} {es : List Expr} {t : TA} (C : Callee X.prog X.w X.K X.mg X.base x k ps sp) (hr : Room k X.A) (hg : Gl X x) (ha : PA X (e :: es) t)
    (hdb : (x == ("__debug__" : Str)) = false := by decide) (he : starEach (e :: es) X.env = (false, eval e X.env) :: starEach es X.env := by rfl) (hpl : (backTo pos (starEach es X.env)).any (·.1) = false := by rfl) :
    PE X (.Call (.Name x p) (e :: es) [] pos) (tCall sp [] E0 t) := by
  obtain ⟨f, fd, F, hm, hk, hb⟩ := C.out
  exact pe_call F hr hg hm hk hb .nil pass0 ha hdb he hpl
theorem st_retN {Ts : List Addr} {σ : L2.St} {H H0 : Hp} {D : Ends} {te : TE} {R : HO} (h : EvN Ts te σ H0 R) (e : Ex Ts H0 H) (k : ∀ p H2, H0 p = none → p ∉ Ts → Ex Ts H0 H2 → H2 p = some R → D.rt (.ref p) H2) : tRet te D σ H := h.go e k
/-- a, b = e: e a new pair -/
theorem st_pair {Ts : List Addr} {K : PySem.W.Frag} {σ : L2.St} {H H0 : Hp} {D : Ends} {te : TE} {x y : V} {i j : Nat} (h : EvN Ts te σ H0 (.tup [x, y])) (e : Ex Ts H0 H) (k : ∀ H2, Ex Ts H0 H2 → D.nx ((σ.set i (some x)).set j (some y)) H2) :
    tAsg te (gTup K 2 (gCons (gName i) (gCons (gName j) gNil))) D σ H := h.go e fun p H2 _ _ e2 hp => ⟨p, [x, y], rfl, t_of hp, rfl, _, _, rfl, _, _, rfl, rfl, k H2 e2⟩
theorem ev_strs {Ts : List Addr} {K : PySem.W.Frag} {σ : L2.St} {H : Hp} {te : TE} {α : Type} (f : α → Nat) (l : List α) (h : EvN Ts te σ H (.lst (l.map fun x => sv [f x]))) : EvN Ts te σ H (.lst ((l.map fun x => [f x]).map sv)) := by
  rw [List.map_map]
  exact h
end Cw
set_option Elab.async false
set_option linter.all false
set_option maxRecDepth 100000
set_option maxHeartbeats 2000000
/-! lists that grow; loops over them; promises that ask of the heap -/
namespace Cw
open PySem PySem.Spec PyProof.Rows L2
/-- the answer is a value; the heap is asked of -/
def FnL (Ts : List Addr) {α : Type} (enc : α → List V) (dom : α → Hp → Prop) (res : α → V) : Sp := fun vs H Q _ => ∃ x, vs = enc x ∧ dom x H ∧ Good Ts H ∧ ∀ H', Ex Ts H H' → Q (res x) H'
section
variable {Ts : List Addr} {K : PySem.W.Frag} {w : World} {σ : L2.St} {H H0 H' : Hp} {ta tb te ti : TE} {tr : TA} {x y z v : V} {D : Ends} {E : XK} {α : Type} {enc : α → List V} {dom : α → Hp → Prop} {res : α → V} {R : α → V → Hp → Prop}
theorem ev_callL (x : α) (h : EvA Ts tr σ H (enc x)) (hd : ∀ H2, Ex Ts H H2 → dom x H2) : Ev Ts (tCall (FnL Ts enc dom res) [] E tr) σ H (res x) := fun H1 e Q q =>
  h H1 e _ fun H2 e2 => ⟨x, List.append_nil _, hd H2 (e.trans e2), e2.good, fun H3 e3 => q H3 (e2.trans e3)⟩
/-- some value, of which R is told -/
def EvS (Ts : List Addr) (te : TE) (σ : L2.St) (H : Hp) (R : V → Hp → Prop) : Prop := ∀ H1, Ex Ts H H1 → ∀ Q : VK, (∀ v H2, Ex Ts H1 H2 → R v H2 → Q v H2) → te σ H1 Q
theorem es_call (x : α) (h : EvA Ts tr σ H (enc x)) (hd : ∀ H2, Ex Ts H H2 → dom x H2) : EvS Ts (tCall (FnS Ts enc dom R) [] E tr) σ H (R x) := fun H1 e Q q =>
  h H1 e _ fun H2 e2 => ⟨x, List.append_nil _, hd H2 (e.trans e2), e2.good, fun v H3 e3 r => q v H3 (e2.trans e3) r⟩
theorem st_app {i : Nat} {l : Addr} {xs : List V} (hl : σ[i]? = some (some (.ref l))) (h : H l = some (.lst xs)) (nl : l ∉ Ts) (hy : Ev Ts te σ H0 y) (e : Ex Ts H0 H) (hz : xs.length < 100000)
    (k : ∀ H2, Ex Ts H H2 → H2 l = some (.lst xs) → D.nx σ (upd H2 l (.lst (xs ++ [y])))) : tDrop (tBM K "list" rAppend (tVar i) (tCons te tNil)) D σ H :=
  ⟨_, hl, .inl ⟨rfl, _, l_of h⟩, hy H e _ fun H2 e2 => ⟨l, xs, y, rfl, rfl, e2.keep l _ nl h, Nat.lt_trans hz (by decide), k H2 e2 (e2.keep l _ nl h)⟩⟩
theorem st_setN {R : HO} {i : Nat} (h : EvN Ts te σ H R) (g : Good Ts H) (k : ∀ p H2, H p = none → Ex Ts H H2 → H2 p = some R → D.nx (σ.set i (some (.ref p))) H2) : tAsg te (gName i) D σ H := h H (Ex.refl g) _ k
theorem st_setS {R : V → Hp → Prop} {i : Nat} (h : EvS Ts te σ H0 R) (e : Ex Ts H0 H) (k : ∀ v H2, Ex Ts H0 H2 → R v H2 → D.nx (σ.set i (some v)) H2) : tAsg te (gName i) D σ H := h H e _ fun v H2 e2 r => k v H2 (e.trans e2) r
/-- for x in a new list -/
theorem st_forN {j : Nat} {xs : List V} {tb : TS} (h : EvN Ts ti σ H0 (.lst xs)) (e : Ex Ts H0 H) (Pv : Addr → Nat → L2.St → Hp → Prop) (h0 : ∀ a H2, H a = none → Ex Ts H H2 → H2 a = some (.lst xs) → Pv a 0 σ H2)
    (hL : ∀ a i σ H, Pv a i σ H → H a = some (.lst xs))
    (hs : ∀ a i x σ H (N : L2.St → Hp → Prop), xs[i]? = some x → Pv a i σ H → (∀ σ2 H2, Pv a (i + 1) σ2 H2 → N σ2 H2) → tb { D with nx := N, ct := N, bk := D.nx } (σ.set j (some x)) H)
    (hd : ∀ a σ H, Pv a xs.length σ H → D.nx σ H) : tFor (iList K ti) (gName j) tb D σ H := by
  refine h H e _ fun a H2 n e2 ha => ⟨a, rfl, ⟨xs, l_of ha⟩, ?_⟩
  refine for_it (walk_list (K := K) (a := a) (xs := xs)) (Pv a) (h0 a H2 n e2 ha) (fun i σ H _ p => l_of (hL a i σ H p)) (fun i x σ H3 H4 _ p y => ?_) (hd a)
  obtain ⟨rfl, hx⟩ := y
  exact hs a i x σ H4 _ hx p fun σ2 H5 p5 => p5
/-- for k in range(n) -/
theorem st_forR {j n : Nat} {tb : TS} (h : Ev Ts te σ H0 (.int (n : Nat))) (hn : n ≤ 1000000) (e : Ex Ts H0 H) (Pv : Nat → L2.St → Hp → Prop) (h0 : ∀ H2, Ex Ts H H2 → Pv 0 σ H2)
    (hs : ∀ i σ H (N : L2.St → Hp → Prop), i < n → Pv i σ H → (∀ σ2 H2, Pv (i + 1) σ2 H2 → N σ2 H2) → tb { D with nx := N, ct := N, bk := D.nx } (σ.set j (some (.int (i : Nat)))) H)
    (hd : ∀ σ H, Pv n σ H → D.nx σ H) : tFor (iRng1 (tCons te tNil)) (gName j) tb D σ H := by
  refine h H e _ fun H2 e2 => ⟨(n : Int), rfl, by omega, by omega, ?_⟩
  refine for_it (walk_range (lo := 0) (n := ((n : Int)).toNat)) Pv (h0 H2 e2) (fun _ _ _ _ _ => trivial) (fun i x σ H3 H4 hi p y => ?_) (fun σ H p => ?_)
  · obtain ⟨rfl, rfl⟩ := y
    dsimp only
    rw [Int.zero_add]
    exact hs i σ H4 _ (by omega) p fun σ2 H5 p5 => p5
  · have e0 : ((n : Int)).toNat = n := by omega
    rw [e0] at p
    exact hd σ H p
theorem cut_int {ns : List Int} {lo hi : Option Int} {x : V} (h : x ∈ cutV (ns.map V.int) lo hi) : ∃ n, x = V.int n := by
  unfold cutV at h
  have h2 := List.mem_of_mem_drop (List.mem_of_mem_take h)
  obtain ⟨n, _, e⟩ := List.mem_map.mp h2
  exact ⟨n, e.symm⟩
theorem cut_to {xs : List V} {m : Nat} (h : m ≤ xs.length) : cutV xs none (some (m : Int)) = xs.take m := by
  unfold cutV
  rw [HT.sIx_none, HT.sIx_nat, Nat.min_eq_left h, Nat.sub_zero, List.drop_zero]
theorem cut_63 (xs : List V) : (cutV xs none (some 63)).length ≤ 63 := by
  unfold cutV
  rw [HT.sIx_none, show (some (63 : Int)) = some ((63 : Nat) : Int) from rfl, HT.sIx_nat, List.length_take]
  omega
end
/-- numbers from 0 to b - 1 -/
def Below (b : Nat) (ms : List Int) : Prop := ∀ z ∈ ms, 0 ≤ z ∧ z < (b : Int)
theorem below_snoc {b : Nat} {ms : List Int} {z : Int} (h : Below b ms) (h0 : 0 ≤ z) (h1 : z < (b : Int)) : Below b (ms ++ [z]) := by
  intro x hx
  rcases List.mem_append.mp hx with q | q
  · exact h x q
  · rw [List.mem_singleton.mp q]
    exact ⟨h0, h1⟩
theorem map_snoc (ms : List Int) (z : Int) : ms.map V.int ++ [V.int z] = (ms ++ [z]).map V.int := by simp
end Cw
set_option Elab.async false
set_option linter.all false
set_option maxRecDepth 100000
set_option maxHeartbeats 2000000
namespace K02
open PySem PySem.Spec PyProof.Rows L2 Cw
open GxR (TabG Tabbed TabB GenS)
/-! ### the text -/
def topS (i : Nat) : Stmt := PySem.Challenge.pw_clockwright_k02_bit_by_bit.main.body.getD i (.Pass ⟨0, 0, 0, 0⟩)
abbrev s_consists_of : Stmt := topS 5
theorem sc_consists_of : FnScope ["text", "characters"] ["text", "characters"] (defScope s_consists_of) := ⟨rfl, rfl, rfl, by decide +kernel, rfl, by decide +kernel, by decide +kernel⟩
abbrev s_extended : Stmt := topS 6
theorem sc_extended : FnScope ["vector", "width"] ["vector", "width"] (defScope s_extended) := ⟨rfl, rfl, rfl, by decide +kernel, rfl, by decide +kernel, by decide +kernel⟩
abbrev s_both_extended : Stmt := topS 7
theorem sc_both_extended : FnScope ["one", "two", "width"] ["one", "two"] (defScope s_both_extended) := ⟨rfl, rfl, rfl, by decide +kernel, rfl, by decide +kernel, by decide +kernel⟩
abbrev s_is_known : Stmt := topS 8
theorem sc_is_known : FnScope ["vector"] ["vector"] (defScope s_is_known) := ⟨rfl, rfl, rfl, by decide +kernel, rfl, by decide +kernel, by decide +kernel⟩
abbrev s_bit_not : Stmt := topS 9
theorem sc_bit_not : FnScope ["vector", "bit"] ["vector"] (defScope s_bit_not) := ⟨rfl, rfl, rfl, by decide +kernel, rfl, by decide +kernel, by decide +kernel⟩
abbrev s_bit_and : Stmt := topS 10
theorem sc_bit_and : FnScope ["one", "two", "left", "right", "a", "b"] ["one", "two"] (defScope s_bit_and) := ⟨rfl, rfl, rfl, by decide +kernel, rfl, by decide +kernel, by decide +kernel⟩
abbrev s_bit_or : Stmt := topS 11
theorem sc_bit_or : FnScope ["one", "two", "left", "right", "a", "b"] ["one", "two"] (defScope s_bit_or) := ⟨rfl, rfl, rfl, by decide +kernel, rfl, by decide +kernel, by decide +kernel⟩
abbrev s_bit_xor : Stmt := topS 12
theorem sc_bit_xor : FnScope ["one", "two", "left", "right", "a", "b"] ["one", "two"] (defScope s_bit_xor) := ⟨rfl, rfl, rfl, by decide +kernel, rfl, by decide +kernel, by decide +kernel⟩
abbrev s_reduce_and : Stmt := topS 13
theorem sc_reduce_and : FnScope ["vector", "result", "bit"] ["vector"] (defScope s_reduce_and) := ⟨rfl, rfl, rfl, by decide +kernel, rfl, by decide +kernel, by decide +kernel⟩
abbrev s_reduce_or : Stmt := topS 14
theorem sc_reduce_or : FnScope ["vector", "result", "bit"] ["vector"] (defScope s_reduce_or) := ⟨rfl, rfl, rfl, by decide +kernel, rfl, by decide +kernel, by decide +kernel⟩
abbrev s_reduce_xor : Stmt := topS 15
theorem sc_reduce_xor : FnScope ["vector", "result", "bit"] ["vector"] (defScope s_reduce_xor) := ⟨rfl, rfl, rfl, by decide +kernel, rfl, by decide +kernel, by decide +kernel⟩
abbrev s_truth : Stmt := topS 16
theorem sc_truth : FnScope ["vector"] ["vector"] (defScope s_truth) := ⟨rfl, rfl, rfl, by decide +kernel, rfl, by decide +kernel, by decide +kernel⟩
abbrev s_logic_not : Stmt := topS 17
theorem sc_logic_not : FnScope ["vector"] ["vector"] (defScope s_logic_not) := ⟨rfl, rfl, rfl, by decide +kernel, rfl, by decide +kernel, by decide +kernel⟩
abbrev s_logic_and : Stmt := topS 18
theorem sc_logic_and : FnScope ["one", "two"] ["one", "two"] (defScope s_logic_and) := ⟨rfl, rfl, rfl, by decide +kernel, rfl, by decide +kernel, by decide +kernel⟩
abbrev s_logic_or : Stmt := topS 19
theorem sc_logic_or : FnScope ["one", "two"] ["one", "two"] (defScope s_logic_or) := ⟨rfl, rfl, rfl, by decide +kernel, rfl, by decide +kernel, by decide +kernel⟩
abbrev s_agreed_bit : Stmt := topS 20
theorem sc_agreed_bit : FnScope ["a", "b"] ["a", "b"] (defScope s_agreed_bit) := ⟨rfl, rfl, rfl, by decide +kernel, rfl, by decide +kernel, by decide +kernel⟩
abbrev s_choose : Stmt := topS 21
theorem sc_choose : FnScope ["condition", "one", "two", "left", "right", "decision", "a", "b"] ["condition", "one", "two"] (defScope s_choose) := ⟨rfl, rfl, rfl, by decide +kernel, rfl, by decide +kernel, by decide +kernel⟩
abbrev s_pick : Stmt := topS 22
theorem sc_pick : FnScope ["vector", "index", "place"] ["vector", "index"] (defScope s_pick) := ⟨rfl, rfl, rfl, by decide +kernel, rfl, by decide +kernel, by decide +kernel⟩
abbrev s_law_numbers : Stmt := topS 24
theorem sc_law_numbers : FnScope ["script", "base", "many", "numbers", "seed", "cell", "rest", "spin", "k"] ["script", "base", "many"] (defScope s_law_numbers) := ⟨rfl, rfl, rfl, by decide +kernel, rfl, by decide +kernel, by decide +kernel⟩
abbrev s_law_cell : Stmt := topS 25
theorem sc_law_cell : FnScope ["script", "k"] ["script", "k"] (defScope s_law_cell) := ⟨rfl, rfl, rfl, by decide +kernel, rfl, by decide +kernel, by decide +kernel⟩
abbrev s_law_vector : Stmt := topS 26
theorem sc_law_vector : FnScope ["numbers", "size", "plain", "signs", "number"] ["numbers", "size", "plain"] (defScope s_law_vector) := ⟨rfl, rfl, rfl, by decide +kernel, rfl, by decide +kernel, by decide +kernel⟩
abbrev s_law_not : Stmt := topS 27
theorem sc_law_not : FnScope ["one"] ["one"] (defScope s_law_not) := ⟨rfl, rfl, rfl, by decide +kernel, rfl, by decide +kernel, by decide +kernel⟩
abbrev s_law_pair : Stmt := topS 28
theorem sc_law_pair : FnScope ["rule", "one", "two"] ["rule", "one", "two"] (defScope s_law_pair) := ⟨rfl, rfl, rfl, by decide +kernel, rfl, by decide +kernel, by decide +kernel⟩
abbrev s_law_both : Stmt := topS 29
theorem sc_law_both : FnScope ["one", "two", "width"] ["one", "two"] (defScope s_law_both) := ⟨rfl, rfl, rfl, by decide +kernel, rfl, by decide +kernel, by decide +kernel⟩
abbrev s_law_pairs : Stmt := topS 30
theorem sc_law_pairs : FnScope ["rule", "one", "two", "left", "right", "a", "b"] ["rule", "one", "two"] (defScope s_law_pairs) := ⟨rfl, rfl, rfl, by decide +kernel, rfl, by decide +kernel, by decide +kernel⟩
abbrev s_law_fold : Stmt := topS 31
theorem sc_law_fold : FnScope ["rule", "vector", "result", "sign"] ["rule", "vector"] (defScope s_law_fold) := ⟨rfl, rfl, rfl, by decide +kernel, rfl, by decide +kernel, by decide +kernel⟩
abbrev s_law_merged : Stmt := topS 32
theorem sc_law_merged : FnScope ["one", "two"] ["one", "two"] (defScope s_law_merged) := ⟨rfl, rfl, rfl, by decide +kernel, rfl, by decide +kernel, by decide +kernel⟩
abbrev s_law_chosen : Stmt := topS 33
theorem sc_law_chosen : FnScope ["condition", "one", "two", "left", "right", "decided", "a", "b"] ["condition", "one", "two"] (defScope s_law_chosen) := ⟨rfl, rfl, rfl, by decide +kernel, rfl, by decide +kernel, by decide +kernel⟩
abbrev s_law_picked : Stmt := topS 34
theorem sc_law_picked : FnScope ["vector", "index", "place", "sign"] ["vector", "index"] (defScope s_law_picked) := ⟨rfl, rfl, rfl, by decide +kernel, rfl, by decide +kernel, by decide +kernel⟩
abbrev s_law : Stmt := topS 35
theorem sc_law : FnScope ["script", "plain", "one", "two", "condition", "index", "sign", "left", "right"] ["script"] (defScope s_law) := ⟨rfl, rfl, rfl, by decide +kernel, rfl, by decide +kernel, by decide +kernel⟩

theorem lt_e : ("" : Str) = S [] := rfl
theorem lt_0 : ("0" : Str) = S [48] := rfl
theorem lt_1 : ("1" : Str) = S [49] := rfl
theorem lt_x : ("x" : Str) = S [120] := rfl
theorem lt_01 : ("01" : Str) = S [48, 49] := rfl
theorem lt_10 : ("10" : Str) = S [49, 48] := rfl
theorem lt_0110 : ("0110" : Str) = S [48, 49, 49, 48] := rfl
theorem lt_01xz : ("01xz" : Str) = S [48, 49, 120, 122] := rfl
theorem lt_and : ("and" : Str) = S [97, 110, 100] := rfl
theorem lt_or : ("or" : Str) = S [111, 114] := rfl
theorem lt_xor : ("xor" : Str) = S [120, 111, 114] := rfl
end K02
set_option Elab.async false
set_option linter.all false
set_option maxRecDepth 100000
set_option maxHeartbeats 2000000
namespace K02
open PySem PySem.Spec PyProof.Rows L2 Cw
open GxR (TabG Tabbed TabB GenS)
local macro_rules | `(tactic| walk_at "ev") => `(tactic| first
  | exact ev_var rfl
  | exact ev_s lt_e | exact ev_s lt_0 | exact ev_s lt_1 | exact ev_s lt_x | exact ev_s lt_01 | exact ev_s lt_10 | exact ev_s lt_0110 | exact ev_s lt_01xz | exact ev_s lt_and | exact ev_s lt_or | exact ev_s lt_xor
  | exact ev_c
  | (apply ev_op <;> walk_at "ev")
  | exact rv_I0 | (refine rv_I ?_; first | omega | decide | assumption)
  | exact rv_eq rfl | exact rv_ne rfl | exact rv_inS | exact rv_niS
  | (refine rv_addS ?_; first | assumption | omega | decide)
  | (refine rv_mulS ?_ ?_ <;> first | assumption | omega | decide)
  | (apply ev_cb <;> walk_at "ev")
  | (refine rc_lenS ?_; first | assumption | omega | decide)
  | exact rc_max | exact rc_abs | exact rc_intI | exact rc_intB
  | exact ea_nil
  | (apply ea_cons <;> walk_at "ev")
  | (apply et_test; walk_at "ev")
  | (apply et_B; walk_at "ev"))
structure Txt (mg : Str → Option Value) (K : PySem.W.Frag) (w : World) (pA pO pX pN : Addr) : Prop where
  len : mg "len" = none
  max : mg "max" = none
  all : mg "all" = none
  zip : mg "zip" = none
  range : mg "range" = none
  abs : mg "abs" = none
  int : mg "int" = none
  g_AND_BITS : mg "AND_BITS" = some (.ref pA)
  g_OR_BITS : mg "OR_BITS" = some (.ref pO)
  g_XOR_BITS : mg "XOR_BITS" = some (.ref pX)
  g_NOT_BITS : mg "NOT_BITS" = some (.ref pN)
  tA : ∀ a b, IsB a → IsB b → KDct K w pA (S [a, b]) (sv [andB a b])
  tO : ∀ a b, IsB a → IsB b → KDct K w pO (S [a, b]) (sv [orB a b])
  tX : ∀ a b, IsB a → IsB b → KDct K w pX (S [a, b]) (sv [xorB a b])
  tN : ∀ a, IsB a → KDct K w pN (S [a]) (sv [notB a])
section
variable {P : Program} {w : World} {K : PySem.W.Frag} {mg : Str → Option Value} {base : Heap} {pA pO pX pN : Addr} {Ts : List Addr}
abbrev sp_extended (K : PySem.W.Frag) (Ts : List Addr) : Sp := FnV Ts (fun x : List Nat × Nat => [sv x.1, .int (x.2 : Nat)]) (fun x => x.1.length ≤ 1000 ∧ x.2 ≤ 1000) fun x => sv (ext x.2 x.1)

theorem ok_extended {f : Addr} {fd : FuncData} (F : Fun K "_extended" "_extended" s_extended f fd) (T : Txt mg K w pA pO pX pN)  :
    FnOk P w K mg base CX0 1 f fd ["vector", "width"] (sp_extended K Ts) := by
  refine F.ok sc_extended (fun vs H Q E h => ?_) (fun cdv A outer s H vs Q E hr h => ?_)
  · obtain ⟨x, rfl, _⟩ := h
    rfl
  · obtain ⟨⟨a, n⟩, ev, hd, g, q⟩ := h
    replace ev : vs = [sv a, .int (n : Nat)] := ev
    subst ev
    have h1 : a.length ≤ 1000 := hd.1
    have h2 : n ≤ 1000 := hd.2
    refine ⟨_, (pss_one (ps_ret (pe_op op_add_str (pe_op op_mulS pe_str (pe_op op_sub (pv 1) (pe_callB call_len_str (by rfl) T.len PySem.boot_len (pa_cons (pv 0) pa_nil)))) (pv 0)))), ?_⟩
    refine st_ret (ev_is (v := sv (List.replicate ((n : Int) - (a.length : Int)).toNat 48 ++ a)) ?_ ?_) (Ex.refl g) q
    · refine ev_op (ev_op (ev_s lt_0) (ev_op (ev_var rfl) (ev_cb (ea_cons (ev_var rfl) ea_nil) (rc_lenS (by omega))) rv_I0) (rv_mulS (by omega) (by omega))) (ev_var rfl) (rv_addS ?_)
      rw [List.length_replicate]
      omega
    · show sv _ = sv (List.replicate (n - a.length) 48 ++ a)
      have e : ((n : Int) - (a.length : Int)).toNat = n - a.length := by omega
      rw [e]

theorem max_wid (a b : List Nat) : (if (b.length : Int) > (a.length : Int) then (b.length : Int) else (a.length : Int)) = ((wid a b : Nat) : Int) := by
  unfold wid
  split <;> omega

abbrev sp_both_extended (K : PySem.W.Frag) (Ts : List Addr) : Sp := FnN Ts (fun x : List Nat × List Nat => [sv x.1, sv x.2]) (fun x _ => x.1.length ≤ 1000 ∧ x.2.length ≤ 1000) fun x => .tup [sv (exL x.1 x.2), sv (exR x.1 x.2)]

theorem ok_both_extended {f : Addr} {fd : FuncData} (F : Fun K "_both_extended" "_both_extended" s_both_extended f fd) (T : Txt mg K w pA pO pX pN) (C_extended : Callee P w K mg base "_extended" 1 ["vector", "width"] (sp_extended K Ts)) :
    FnOk P w K mg base CX0 2 f fd ["one", "two"] (sp_both_extended K Ts) := by
  refine F.ok sc_both_extended (fun vs H Q E h => ?_) (fun cdv A outer s H vs Q E hr h => ?_)
  · obtain ⟨x, rfl, _⟩ := h
    rfl
  · obtain ⟨⟨a, b⟩, ev, hd, g, q⟩ := h
    replace ev : vs = [sv a, sv b] := ev
    subst ev
    have h1 : a.length ≤ 1000 := hd.1
    have h2 : b.length ≤ 1000 := hd.2
    have hw : wid a b ≤ 1000 := Nat.max_le.mpr ⟨h1, h2⟩
    refine ⟨_, (pss_cons (ps_set (i := 2) sc_both_extended.nd rfl (.inl rfl) (pe_callB (call_max2 rfl) (by rfl) T.max (by decide +kernel) (pa_cons (pe_callB call_len_str (by rfl) T.len PySem.boot_len (pa_cons (pv 0) pa_nil)) (pa_cons (pe_callB call_len_str (by rfl) T.len PySem.boot_len (pa_cons (pv 1) pa_nil)) pa_nil))))
      (pss_one (ps_ret (pe_tup (pa_cons (pe_fn C_extended (hr.mono (by decide)) (by rfl) (pa_cons (pv 0) (pa_cons (pv 2) pa_nil))) (pa_cons (pe_fn C_extended (hr.mono (by decide)) (by rfl) (pa_cons (pv 1) (pa_cons (pv 2) pa_nil))) pa_nil)))))), ?_⟩
    refine st_set (v := .int (wid a b : Nat)) ?_ (Ex.refl g) ?_
    · refine ev_is ?_ (congrArg V.int (max_wid a b))
      walk_at "ev"
    intro H1 e1
    dsimp only
    refine st_retN (R := .tup [sv (exL a b), sv (exR a b)]) ?_ e1 ?_
    · refine en_tup (ea_cons (ev_call (a, wid a b) ?_ ⟨h1, hw⟩) (ea_cons (ev_call (b, wid a b) ?_ ⟨h2, hw⟩) ea_nil)) (by show 2 ≤ 100000; decide)
      · exact ea_cons (ev_var rfl) (ea_cons (ev_var rfl) ea_nil)
      · exact ea_cons (ev_var rfl) (ea_cons (ev_var rfl) ea_nil)
    · exact fun p H2 n _ e2 hp => q p H2 n e2 hp

abbrev sp_bit_not (K : PySem.W.Frag) (Ts : List Addr) : Sp := FnV Ts (fun a : List Nat => [sv a]) Vec fun a => sv (a.map notB)

theorem ok_bit_not {f : Addr} {fd : FuncData} (F : Fun K "bit_not" "bit_not" s_bit_not f fd) (T : Txt mg K w pA pO pX pN)  :
    FnOk P w K mg base CX0 1 f fd ["vector"] (sp_bit_not K Ts) := by
  refine F.ok sc_bit_not (fun vs H Q E h => ?_) (fun cdv A outer s H vs Q E hr h => ?_)
  · obtain ⟨x, rfl, _⟩ := h
    rfl
  · obtain ⟨a, ev, hd, g, q⟩ := h
    replace ev : vs = [sv a] := ev
    subst ev
    refine ⟨_, (pss_one (ps_ret (pe_bm PySem.F.plainAttrs_str PySem.F.slot_str_join PySem.F.type_str_join mt_join pe_str (pa_cons (pe_lc (own := [("bit", 1)]) (by rfl) sc_bit_not.nd (pi_str (pv 0)) (blkOk_by (own := [("bit", 1)]) (N := ["vector", "bit"]) (sc := defScope s_bit_not) (by decide +kernel)) (fun _ _ _ _ _ => pg_name (i := 1) sc_bit_not.nd rfl (Or.inl rfl)) (fun _ _ _ _ _ => pts_nil) (fun _ _ _ _ _ => (pe_ix (show IxR _ (rIxD K w) from ix_kdict) (pe_glob (v := .ref _) (by rfl) T.g_NOT_BITS rfl) (pv 1) (fun _ _ => rfl)))) pa_nil)))), ?_⟩
    refine st_ret (ev_is (v := sv (a.map fun c => [notB c]).flatten) ?_ (by rw [flat_one])) (Ex.refl g) q
    refine ev_join (ev_s lt_e) (ev_strs (K := K) notB a ?_) ?_ (fun _ => rfl)
    · refine en_lcS (Nat.le_trans hd.le (by decide)) (ev_var rfl) fun c hc => ?_
      exact ev_op ev_c (ev_var rfl) (rv_kd (T.tN c (hd.all c hc)))
    · rw [flat_one, List.length_map]
      exact Nat.le_trans hd.le (by decide)

abbrev sp_bit_and (K : PySem.W.Frag) (Ts : List Addr) : Sp := FnV Ts (fun x : List Nat × List Nat => [sv x.1, sv x.2]) (fun x => Vec x.1 ∧ Vec x.2) fun x => sv (map2 andB x.1 x.2)

theorem ok_bit_and {f : Addr} {fd : FuncData} (F : Fun K "bit_and" "bit_and" s_bit_and f fd) (T : Txt mg K w pA pO pX pN) (C_both_extended : Callee P w K mg base "_both_extended" 2 ["one", "two"] (sp_both_extended K Ts)) :
    FnOk P w K mg base CX0 3 f fd ["one", "two"] (sp_bit_and K Ts) := by
  refine F.ok sc_bit_and (fun vs H Q E h => ?_) (fun cdv A outer s H vs Q E hr h => ?_)
  · obtain ⟨x, rfl, _⟩ := h
    rfl
  · obtain ⟨⟨a, b⟩, ev, hd, g, q⟩ := h
    replace ev : vs = [sv a, sv b] := ev
    subst ev
    have ha : Vec a := hd.1
    have hb : Vec b := hd.2
    refine ⟨_, (pss_cons (ps_asg (pe_fn C_both_extended (hr.mono (by decide)) (by rfl) (pa_cons (pv 0) (pa_cons (pv 1) pa_nil))) (pg_tup rfl (pgs_cons (pg_name (i := 2) sc_bit_and.nd rfl (.inl rfl)) (pgs_cons (pg_name (i := 3) sc_bit_and.nd rfl (.inl rfl)) pgs_nil))))
      (pss_one (ps_ret (pe_bm PySem.F.plainAttrs_str PySem.F.slot_str_join PySem.F.type_str_join mt_join pe_str (pa_cons (pe_lc (own := [("a", 4), ("b", 5)]) (by rfl) sc_bit_and.nd (pi_zips (by rfl) T.zip (pa_cons (pv 2) (pa_cons (pv 3) pa_nil))) (blkOk_by (own := [("a", 4), ("b", 5)]) (N := ["one", "two", "left", "right", "a", "b"]) (sc := defScope s_bit_and) (by decide +kernel)) (fun _ _ _ _ _ => show PG _ _ (gTup K 2 _) from pg_tup rfl (pgs_cons (pg_name (i := 4) sc_bit_and.nd rfl (Or.inl rfl)) (pgs_cons (pg_name (i := 5) sc_bit_and.nd rfl (Or.inl rfl)) pgs_nil))) (fun _ _ _ _ _ => pts_nil) (fun _ _ _ _ _ => (pe_ix (show IxR _ (rIxD K w) from ix_kdict) (pe_glob (v := .ref _) (by rfl) T.g_AND_BITS rfl) (pe_op op_add_str (pv 4) (pv 5)) (fun _ _ => rfl)))) pa_nil))))), ?_⟩
    refine st_pair (x := sv (exL a b)) (y := sv (exR a b)) ?_ (Ex.refl g) ?_
    · exact en_call (a, b) (ea_cons (ev_var rfl) (ea_cons (ev_var rfl) ea_nil)) fun _ _ => ⟨Nat.le_trans ha.le (by decide), Nat.le_trans hb.le (by decide)⟩
    intro H1 e1
    dsimp only
    have hw : wid a b ≤ 100000 := Nat.le_trans (wid_le ha.le hb.le) (by decide)
    refine st_ret (ev_is (v := sv (((exL a b).zip (exR a b)).map fun p => [andB p.1 p.2]).flatten) ?_ (congrArg sv (flat_one (fun p : Nat × Nat => andB p.1 p.2) _))) e1 q
    refine ev_join (ev_s lt_e) (ev_strs (K := K) (fun p : Nat × Nat => andB p.1 p.2) _ ?_) ?_ (fun _ => rfl)
    · refine en_lcZ (f := fun c d => sv [andB c d]) (by decide) (ex_eq a b) (by rw [exL_len]; exact hw) (ev_var rfl) (ev_var rfl) fun c d hc hd => ?_
      exact ev_op ev_c (ev_op (ev_var rfl) (ev_var rfl) (rv_addS (a := [c]) (b := [d]) (by show 2 ≤ 100000; decide))) (rv_kd (T.tA c d (ext_all ha.all c hc) (ext_all hb.all d hd)))
    · rw [flat_one]
      show (map2 andB a b).length ≤ 100000
      rw [map2_len]
      exact hw

abbrev sp_bit_or (K : PySem.W.Frag) (Ts : List Addr) : Sp := FnV Ts (fun x : List Nat × List Nat => [sv x.1, sv x.2]) (fun x => Vec x.1 ∧ Vec x.2) fun x => sv (map2 orB x.1 x.2)

theorem ok_bit_or {f : Addr} {fd : FuncData} (F : Fun K "bit_or" "bit_or" s_bit_or f fd) (T : Txt mg K w pA pO pX pN) (C_both_extended : Callee P w K mg base "_both_extended" 2 ["one", "two"] (sp_both_extended K Ts)) :
    FnOk P w K mg base CX0 3 f fd ["one", "two"] (sp_bit_or K Ts) := by
  refine F.ok sc_bit_or (fun vs H Q E h => ?_) (fun cdv A outer s H vs Q E hr h => ?_)
  · obtain ⟨x, rfl, _⟩ := h
    rfl
  · obtain ⟨⟨a, b⟩, ev, hd, g, q⟩ := h
    replace ev : vs = [sv a, sv b] := ev
    subst ev
    have ha : Vec a := hd.1
    have hb : Vec b := hd.2
    refine ⟨_, (pss_cons (ps_asg (pe_fn C_both_extended (hr.mono (by decide)) (by rfl) (pa_cons (pv 0) (pa_cons (pv 1) pa_nil))) (pg_tup rfl (pgs_cons (pg_name (i := 2) sc_bit_or.nd rfl (.inl rfl)) (pgs_cons (pg_name (i := 3) sc_bit_or.nd rfl (.inl rfl)) pgs_nil))))
      (pss_one (ps_ret (pe_bm PySem.F.plainAttrs_str PySem.F.slot_str_join PySem.F.type_str_join mt_join pe_str (pa_cons (pe_lc (own := [("a", 4), ("b", 5)]) (by rfl) sc_bit_or.nd (pi_zips (by rfl) T.zip (pa_cons (pv 2) (pa_cons (pv 3) pa_nil))) (blkOk_by (own := [("a", 4), ("b", 5)]) (N := ["one", "two", "left", "right", "a", "b"]) (sc := defScope s_bit_or) (by decide +kernel)) (fun _ _ _ _ _ => show PG _ _ (gTup K 2 _) from pg_tup rfl (pgs_cons (pg_name (i := 4) sc_bit_or.nd rfl (Or.inl rfl)) (pgs_cons (pg_name (i := 5) sc_bit_or.nd rfl (Or.inl rfl)) pgs_nil))) (fun _ _ _ _ _ => pts_nil) (fun _ _ _ _ _ => (pe_ix (show IxR _ (rIxD K w) from ix_kdict) (pe_glob (v := .ref _) (by rfl) T.g_OR_BITS rfl) (pe_op op_add_str (pv 4) (pv 5)) (fun _ _ => rfl)))) pa_nil))))), ?_⟩
    refine st_pair (x := sv (exL a b)) (y := sv (exR a b)) ?_ (Ex.refl g) ?_
    · exact en_call (a, b) (ea_cons (ev_var rfl) (ea_cons (ev_var rfl) ea_nil)) fun _ _ => ⟨Nat.le_trans ha.le (by decide), Nat.le_trans hb.le (by decide)⟩
    intro H1 e1
    dsimp only
    have hw : wid a b ≤ 100000 := Nat.le_trans (wid_le ha.le hb.le) (by decide)
    refine st_ret (ev_is (v := sv (((exL a b).zip (exR a b)).map fun p => [orB p.1 p.2]).flatten) ?_ (congrArg sv (flat_one (fun p : Nat × Nat => orB p.1 p.2) _))) e1 q
    refine ev_join (ev_s lt_e) (ev_strs (K := K) (fun p : Nat × Nat => orB p.1 p.2) _ ?_) ?_ (fun _ => rfl)
    · refine en_lcZ (f := fun c d => sv [orB c d]) (by decide) (ex_eq a b) (by rw [exL_len]; exact hw) (ev_var rfl) (ev_var rfl) fun c d hc hd => ?_
      exact ev_op ev_c (ev_op (ev_var rfl) (ev_var rfl) (rv_addS (a := [c]) (b := [d]) (by show 2 ≤ 100000; decide))) (rv_kd (T.tO c d (ext_all ha.all c hc) (ext_all hb.all d hd)))
    · rw [flat_one]
      show (map2 orB a b).length ≤ 100000
      rw [map2_len]
      exact hw

abbrev sp_bit_xor (K : PySem.W.Frag) (Ts : List Addr) : Sp := FnV Ts (fun x : List Nat × List Nat => [sv x.1, sv x.2]) (fun x => Vec x.1 ∧ Vec x.2) fun x => sv (map2 xorB x.1 x.2)

theorem ok_bit_xor {f : Addr} {fd : FuncData} (F : Fun K "bit_xor" "bit_xor" s_bit_xor f fd) (T : Txt mg K w pA pO pX pN) (C_both_extended : Callee P w K mg base "_both_extended" 2 ["one", "two"] (sp_both_extended K Ts)) :
    FnOk P w K mg base CX0 3 f fd ["one", "two"] (sp_bit_xor K Ts) := by
  refine F.ok sc_bit_xor (fun vs H Q E h => ?_) (fun cdv A outer s H vs Q E hr h => ?_)
  · obtain ⟨x, rfl, _⟩ := h
    rfl
  · obtain ⟨⟨a, b⟩, ev, hd, g, q⟩ := h
    replace ev : vs = [sv a, sv b] := ev
    subst ev
    have ha : Vec a := hd.1
    have hb : Vec b := hd.2
    refine ⟨_, (pss_cons (ps_asg (pe_fn C_both_extended (hr.mono (by decide)) (by rfl) (pa_cons (pv 0) (pa_cons (pv 1) pa_nil))) (pg_tup rfl (pgs_cons (pg_name (i := 2) sc_bit_xor.nd rfl (.inl rfl)) (pgs_cons (pg_name (i := 3) sc_bit_xor.nd rfl (.inl rfl)) pgs_nil))))
      (pss_one (ps_ret (pe_bm PySem.F.plainAttrs_str PySem.F.slot_str_join PySem.F.type_str_join mt_join pe_str (pa_cons (pe_lc (own := [("a", 4), ("b", 5)]) (by rfl) sc_bit_xor.nd (pi_zips (by rfl) T.zip (pa_cons (pv 2) (pa_cons (pv 3) pa_nil))) (blkOk_by (own := [("a", 4), ("b", 5)]) (N := ["one", "two", "left", "right", "a", "b"]) (sc := defScope s_bit_xor) (by decide +kernel)) (fun _ _ _ _ _ => show PG _ _ (gTup K 2 _) from pg_tup rfl (pgs_cons (pg_name (i := 4) sc_bit_xor.nd rfl (Or.inl rfl)) (pgs_cons (pg_name (i := 5) sc_bit_xor.nd rfl (Or.inl rfl)) pgs_nil))) (fun _ _ _ _ _ => pts_nil) (fun _ _ _ _ _ => (pe_ix (show IxR _ (rIxD K w) from ix_kdict) (pe_glob (v := .ref _) (by rfl) T.g_XOR_BITS rfl) (pe_op op_add_str (pv 4) (pv 5)) (fun _ _ => rfl)))) pa_nil))))), ?_⟩
    refine st_pair (x := sv (exL a b)) (y := sv (exR a b)) ?_ (Ex.refl g) ?_
    · exact en_call (a, b) (ea_cons (ev_var rfl) (ea_cons (ev_var rfl) ea_nil)) fun _ _ => ⟨Nat.le_trans ha.le (by decide), Nat.le_trans hb.le (by decide)⟩
    intro H1 e1
    dsimp only
    have hw : wid a b ≤ 100000 := Nat.le_trans (wid_le ha.le hb.le) (by decide)
    refine st_ret (ev_is (v := sv (((exL a b).zip (exR a b)).map fun p => [xorB p.1 p.2]).flatten) ?_ (congrArg sv (flat_one (fun p : Nat × Nat => xorB p.1 p.2) _))) e1 q
    refine ev_join (ev_s lt_e) (ev_strs (K := K) (fun p : Nat × Nat => xorB p.1 p.2) _ ?_) ?_ (fun _ => rfl)
    · refine en_lcZ (f := fun c d => sv [xorB c d]) (by decide) (ex_eq a b) (by rw [exL_len]; exact hw) (ev_var rfl) (ev_var rfl) fun c d hc hd => ?_
      exact ev_op ev_c (ev_op (ev_var rfl) (ev_var rfl) (rv_addS (a := [c]) (b := [d]) (by show 2 ≤ 100000; decide))) (rv_kd (T.tX c d (ext_all ha.all c hc) (ext_all hb.all d hd)))
    · rw [flat_one]
      show (map2 xorB a b).length ≤ 100000
      rw [map2_len]
      exact hw

abbrev sp_reduce_and (K : PySem.W.Frag) (Ts : List Addr) : Sp := FnV Ts (fun a : List Nat => [sv a]) Vec fun a => sv [a.foldl andB 49]

theorem ok_reduce_and {f : Addr} {fd : FuncData} (F : Fun K "reduce_and" "reduce_and" s_reduce_and f fd) (T : Txt mg K w pA pO pX pN)  :
    FnOk P w K mg base CX0 1 f fd ["vector"] (sp_reduce_and K Ts) := by
  refine F.ok sc_reduce_and (fun vs H Q E h => ?_) (fun cdv A outer s H vs Q E hr h => ?_)
  · obtain ⟨x, rfl, _⟩ := h
    rfl
  · obtain ⟨a, ev, hd, g, q⟩ := h
    replace ev : vs = [sv a] := ev
    subst ev
    refine ⟨_, (pss_cons (ps_set (i := 1) sc_reduce_and.nd rfl (.inl rfl) pe_str)
      (pss_cons (ps_for PassesOwn.never rfl (pi_str (pv 0)) (pg_name (i := 2) sc_reduce_and.nd rfl (.inl rfl))
      (pss_one (ps_set (i := 1) sc_reduce_and.nd rfl (.inl rfl) (pe_ix (show IxR _ (rIxD K w) from ix_kdict) (pe_glob (v := .ref _) (by rfl) T.g_AND_BITS rfl) (pe_op op_add_str (pv 1) (pv 2)) (fun _ _ => rfl)))))
      (pss_one (ps_ret (pv 1))))), ?_⟩
    refine st_set (v := sv [49]) (ev_s lt_1) (Ex.refl g) ?_
    intro H1 e1
    dsimp only
    refine st_forS (a := a) (ev_var rfl) e1 (fun i σ => ∃ z, σ = [some (sv a), some (sv [(a.take i).foldl andB 49]), z]) ⟨_, rfl⟩ ?_ ?_
    · rintro i c σ H2 N B hc ⟨z, rfl⟩ e2 hN
      have hb : IsB c := hd.all c (List.mem_of_getElem? hc)
      refine st_set (v := sv [(a.take (i + 1)).foldl andB 49]) ?_ e2 ?_
      · rw [fold_snoc hc]
        exact ev_op ev_c (ev_op (ev_var rfl) (ev_var rfl) (rv_addS (a := [_]) (b := [c]) (by show 2 ≤ 100000; decide))) (rv_kd (T.tA _ c (take_isB (fun _ _ => isB_and) (by decide) hd.all i) hb))
      · exact fun H3 e3 => hN _ H3 e3 ⟨_, rfl⟩
    · rintro σ H2 e2 ⟨z, rfl⟩
      rw [List.take_length]
      exact st_ret (ev_var rfl) e2 q

abbrev sp_reduce_or (K : PySem.W.Frag) (Ts : List Addr) : Sp := FnV Ts (fun a : List Nat => [sv a]) Vec fun a => sv [a.foldl orB 48]

theorem ok_reduce_or {f : Addr} {fd : FuncData} (F : Fun K "reduce_or" "reduce_or" s_reduce_or f fd) (T : Txt mg K w pA pO pX pN)  :
    FnOk P w K mg base CX0 1 f fd ["vector"] (sp_reduce_or K Ts) := by
  refine F.ok sc_reduce_or (fun vs H Q E h => ?_) (fun cdv A outer s H vs Q E hr h => ?_)
  · obtain ⟨x, rfl, _⟩ := h
    rfl
  · obtain ⟨a, ev, hd, g, q⟩ := h
    replace ev : vs = [sv a] := ev
    subst ev
    refine ⟨_, (pss_cons (ps_set (i := 1) sc_reduce_or.nd rfl (.inl rfl) pe_str)
      (pss_cons (ps_for PassesOwn.never rfl (pi_str (pv 0)) (pg_name (i := 2) sc_reduce_or.nd rfl (.inl rfl))
      (pss_one (ps_set (i := 1) sc_reduce_or.nd rfl (.inl rfl) (pe_ix (show IxR _ (rIxD K w) from ix_kdict) (pe_glob (v := .ref _) (by rfl) T.g_OR_BITS rfl) (pe_op op_add_str (pv 1) (pv 2)) (fun _ _ => rfl)))))
      (pss_one (ps_ret (pv 1))))), ?_⟩
    refine st_set (v := sv [48]) (ev_s lt_0) (Ex.refl g) ?_
    intro H1 e1
    dsimp only
    refine st_forS (a := a) (ev_var rfl) e1 (fun i σ => ∃ z, σ = [some (sv a), some (sv [(a.take i).foldl orB 48]), z]) ⟨_, rfl⟩ ?_ ?_
    · rintro i c σ H2 N B hc ⟨z, rfl⟩ e2 hN
      have hb : IsB c := hd.all c (List.mem_of_getElem? hc)
      refine st_set (v := sv [(a.take (i + 1)).foldl orB 48]) ?_ e2 ?_
      · rw [fold_snoc hc]
        exact ev_op ev_c (ev_op (ev_var rfl) (ev_var rfl) (rv_addS (a := [_]) (b := [c]) (by show 2 ≤ 100000; decide))) (rv_kd (T.tO _ c (take_isB (fun _ _ => isB_or) (by decide) hd.all i) hb))
      · exact fun H3 e3 => hN _ H3 e3 ⟨_, rfl⟩
    · rintro σ H2 e2 ⟨z, rfl⟩
      rw [List.take_length]
      exact st_ret (ev_var rfl) e2 q

abbrev sp_reduce_xor (K : PySem.W.Frag) (Ts : List Addr) : Sp := FnV Ts (fun a : List Nat => [sv a]) Vec fun a => sv [a.foldl xorB 48]

theorem ok_reduce_xor {f : Addr} {fd : FuncData} (F : Fun K "reduce_xor" "reduce_xor" s_reduce_xor f fd) (T : Txt mg K w pA pO pX pN)  :
    FnOk P w K mg base CX0 1 f fd ["vector"] (sp_reduce_xor K Ts) := by
  refine F.ok sc_reduce_xor (fun vs H Q E h => ?_) (fun cdv A outer s H vs Q E hr h => ?_)
  · obtain ⟨x, rfl, _⟩ := h
    rfl
  · obtain ⟨a, ev, hd, g, q⟩ := h
    replace ev : vs = [sv a] := ev
    subst ev
    refine ⟨_, (pss_cons (ps_set (i := 1) sc_reduce_xor.nd rfl (.inl rfl) pe_str)
      (pss_cons (ps_for PassesOwn.never rfl (pi_str (pv 0)) (pg_name (i := 2) sc_reduce_xor.nd rfl (.inl rfl))
      (pss_one (ps_set (i := 1) sc_reduce_xor.nd rfl (.inl rfl) (pe_ix (show IxR _ (rIxD K w) from ix_kdict) (pe_glob (v := .ref _) (by rfl) T.g_XOR_BITS rfl) (pe_op op_add_str (pv 1) (pv 2)) (fun _ _ => rfl)))))
      (pss_one (ps_ret (pv 1))))), ?_⟩
    refine st_set (v := sv [48]) (ev_s lt_0) (Ex.refl g) ?_
    intro H1 e1
    dsimp only
    refine st_forS (a := a) (ev_var rfl) e1 (fun i σ => ∃ z, σ = [some (sv a), some (sv [(a.take i).foldl xorB 48]), z]) ⟨_, rfl⟩ ?_ ?_
    · rintro i c σ H2 N B hc ⟨z, rfl⟩ e2 hN
      have hb : IsB c := hd.all c (List.mem_of_getElem? hc)
      refine st_set (v := sv [(a.take (i + 1)).foldl xorB 48]) ?_ e2 ?_
      · rw [fold_snoc hc]
        exact ev_op ev_c (ev_op (ev_var rfl) (ev_var rfl) (rv_addS (a := [_]) (b := [c]) (by show 2 ≤ 100000; decide))) (rv_kd (T.tX _ c (take_isB (fun _ _ => isB_xor) (by decide) hd.all i) hb))
      · exact fun H3 e3 => hN _ H3 e3 ⟨_, rfl⟩
    · rintro σ H2 e2 ⟨z, rfl⟩
      rw [List.take_length]
      exact st_ret (ev_var rfl) e2 q

abbrev sp_truth (K : PySem.W.Frag) (Ts : List Addr) : Sp := FnV Ts (fun a : List Nat => [sv a]) Vec fun a => sv [a.foldl orB 48]

theorem ok_truth {f : Addr} {fd : FuncData} (F : Fun K "truth" "truth" s_truth f fd) (T : Txt mg K w pA pO pX pN) (C_reduce_or : Callee P w K mg base "reduce_or" 1 ["vector"] (sp_reduce_or K Ts)) :
    FnOk P w K mg base CX0 2 f fd ["vector"] (sp_truth K Ts) := by
  refine F.ok sc_truth (fun vs H Q E h => ?_) (fun cdv A outer s H vs Q E hr h => ?_)
  · obtain ⟨x, rfl, _⟩ := h
    rfl
  · obtain ⟨a, ev, hd, g, q⟩ := h
    replace ev : vs = [sv a] := ev
    subst ev
    refine ⟨_, (pss_one (ps_ret (pe_fn C_reduce_or (hr.mono (by decide)) (by rfl) (pa_cons (pv 0) pa_nil)))), ?_⟩
    refine st_ret ?_ (Ex.refl g) q
    exact ev_call a (ea_cons (ev_var rfl) ea_nil) hd

abbrev sp_logic_not (K : PySem.W.Frag) (Ts : List Addr) : Sp := FnV Ts (fun a : List Nat => [sv a]) Vec fun a => sv [notB (a.foldl orB 48)]

theorem ok_logic_not {f : Addr} {fd : FuncData} (F : Fun K "logic_not" "logic_not" s_logic_not f fd) (T : Txt mg K w pA pO pX pN) (C_bit_not : Callee P w K mg base "bit_not" 1 ["vector"] (sp_bit_not K Ts)) (C_truth : Callee P w K mg base "truth" 2 ["vector"] (sp_truth K Ts)) :
    FnOk P w K mg base CX0 3 f fd ["vector"] (sp_logic_not K Ts) := by
  refine F.ok sc_logic_not (fun vs H Q E h => ?_) (fun cdv A outer s H vs Q E hr h => ?_)
  · obtain ⟨x, rfl, _⟩ := h
    rfl
  · obtain ⟨a, ev, hd, g, q⟩ := h
    replace ev : vs = [sv a] := ev
    subst ev
    refine ⟨_, (pss_one (ps_ret (pe_fn C_bit_not (hr.mono (by decide)) (by rfl) (pa_cons (pe_fn C_truth (hr.mono (by decide)) (by rfl) (pa_cons (pv 0) pa_nil)) pa_nil)))), ?_⟩
    refine st_ret ?_ (Ex.refl g) q
    exact ev_call [a.foldl orB 48] (ea_cons (ev_call a (ea_cons (ev_var rfl) ea_nil) hd) ea_nil) (vec_one (fold_isB (fun _ _ => isB_or) (by decide) hd.all))

abbrev sp_logic_and (K : PySem.W.Frag) (Ts : List Addr) : Sp := FnV Ts (fun x : List Nat × List Nat => [sv x.1, sv x.2]) (fun x => Vec x.1 ∧ Vec x.2) fun x => sv [andB (x.1.foldl orB 48) (x.2.foldl orB 48)]

theorem ok_logic_and {f : Addr} {fd : FuncData} (F : Fun K "logic_and" "logic_and" s_logic_and f fd) (T : Txt mg K w pA pO pX pN) (C_bit_and : Callee P w K mg base "bit_and" 3 ["one", "two"] (sp_bit_and K Ts)) (C_truth : Callee P w K mg base "truth" 2 ["vector"] (sp_truth K Ts)) :
    FnOk P w K mg base CX0 4 f fd ["one", "two"] (sp_logic_and K Ts) := by
  refine F.ok sc_logic_and (fun vs H Q E h => ?_) (fun cdv A outer s H vs Q E hr h => ?_)
  · obtain ⟨x, rfl, _⟩ := h
    rfl
  · obtain ⟨⟨a, b⟩, ev, hd, g, q⟩ := h
    replace ev : vs = [sv a, sv b] := ev
    subst ev
    refine ⟨_, (pss_one (ps_ret (pe_fn C_bit_and (hr.mono (by decide)) (by rfl) (pa_cons (pe_fn C_truth (hr.mono (by decide)) (by rfl) (pa_cons (pv 0) pa_nil)) (pa_cons (pe_fn C_truth (hr.mono (by decide)) (by rfl) (pa_cons (pv 1) pa_nil)) pa_nil))))), ?_⟩
    refine st_ret ?_ (Ex.refl g) q
    exact ev_call ([a.foldl orB 48], [b.foldl orB 48]) (ea_cons (ev_call a (ea_cons (ev_var rfl) ea_nil) hd.1) (ea_cons (ev_call b (ea_cons (ev_var rfl) ea_nil) hd.2) ea_nil)) ⟨vec_one (fold_isB (fun _ _ => isB_or) (by decide) hd.1.all), vec_one (fold_isB (fun _ _ => isB_or) (by decide) hd.2.all)⟩

abbrev sp_logic_or (K : PySem.W.Frag) (Ts : List Addr) : Sp := FnV Ts (fun x : List Nat × List Nat => [sv x.1, sv x.2]) (fun x => Vec x.1 ∧ Vec x.2) fun x => sv [orB (x.1.foldl orB 48) (x.2.foldl orB 48)]

theorem ok_logic_or {f : Addr} {fd : FuncData} (F : Fun K "logic_or" "logic_or" s_logic_or f fd) (T : Txt mg K w pA pO pX pN) (C_bit_or : Callee P w K mg base "bit_or" 3 ["one", "two"] (sp_bit_or K Ts)) (C_truth : Callee P w K mg base "truth" 2 ["vector"] (sp_truth K Ts)) :
    FnOk P w K mg base CX0 4 f fd ["one", "two"] (sp_logic_or K Ts) := by
  refine F.ok sc_logic_or (fun vs H Q E h => ?_) (fun cdv A outer s H vs Q E hr h => ?_)
  · obtain ⟨x, rfl, _⟩ := h
    rfl
  · obtain ⟨⟨a, b⟩, ev, hd, g, q⟩ := h
    replace ev : vs = [sv a, sv b] := ev
    subst ev
    refine ⟨_, (pss_one (ps_ret (pe_fn C_bit_or (hr.mono (by decide)) (by rfl) (pa_cons (pe_fn C_truth (hr.mono (by decide)) (by rfl) (pa_cons (pv 0) pa_nil)) (pa_cons (pe_fn C_truth (hr.mono (by decide)) (by rfl) (pa_cons (pv 1) pa_nil)) pa_nil))))), ?_⟩
    refine st_ret ?_ (Ex.refl g) q
    exact ev_call ([a.foldl orB 48], [b.foldl orB 48]) (ea_cons (ev_call a (ea_cons (ev_var rfl) ea_nil) hd.1) (ea_cons (ev_call b (ea_cons (ev_var rfl) ea_nil) hd.2) ea_nil)) ⟨vec_one (fold_isB (fun _ _ => isB_or) (by decide) hd.1.all), vec_one (fold_isB (fun _ _ => isB_or) (by decide) hd.2.all)⟩

abbrev sp_consists_of (K : PySem.W.Frag) (Ts : List Addr) : Sp := FnV Ts (fun x : List Nat × List Nat => [sv x.1, sv x.2]) (fun _ => True) fun x => .bl (x.1.all fun c => decide (c ∈ x.2))

def genSc : Stmt → Scope
  | .FunctionDef _ _ [.Return (some (.Call _ [.GeneratorExp _ _ sc _] _ _)) _] _ _ _ _ _ _ _ => sc
  | _ => { kind := .function, names := [], isGenerator := false, isCoroutine := false }
theorem free_consists_of : ∀ y ∈ (genSc s_consists_of).names, y.2 = .free → y.1 = ("characters" : Str) := by decide +kernel
theorem ok_consists_of {f c Pt : Addr} {oc : Value} {od an : Option Addr} {osl : Array (Option Value)} {kV doc pm ct : Value}
    (lk : K.lookup f = some ⟨oc, od, .func (PySem.W.fnOf "_consists_of" "_consists_of" (defArgs s_consists_of) (defBody s_consists_of) (defScope s_consists_of) .none kV doc pm an (.ref c) ct), osl⟩) (hcd : PySem.W.codeIn K (.ref c) "_consists_of" = true)
    (TB : TabB base mg c Pt) (hP : Pt ∈ Ts) (T : Txt mg K w pA pO pX pN) :
    FnOk P w K mg base CX0 1 f (PySem.W.fnOf "_consists_of" "_consists_of" (defArgs s_consists_of) (defBody s_consists_of) (defScope s_consists_of) .none kV doc pm an (.ref c) ct) ["text", "characters"] (sp_consists_of K Ts) := by
  refine fn_of (k := 0) lk hcd sc_consists_of (fun vs H Q E h => ?_) (fun A outer s H vs Q E hr h => ?_)
  · obtain ⟨x, rfl, _⟩ := h
    rfl
  · obtain ⟨⟨a, b⟩, ev, hd, g, q⟩ := h
    replace ev : vs = [sv a, sv b] := ev
    subst ev
    have hcode : (cxOf CX0 P w K mg base ["text", "characters"] "_consists_of" (defScope s_consists_of) f (.ref c) A outer s H E).nox.env.code = .ref c := rfl
    refine ⟨_, PSs.nox (pss_one (ps_ret (pe_allIn (j := 1) hr (by rfl) T.all (by decide +kernel) TB hcode (GenS.mk rfl rfl (by decide +kernel) rfl rfl (fun y hy e => ⟨_, by rw [free_consists_of y hy e]; rfl⟩)) (pv 0) rfl rfl (by decide +kernel) (by decide +kernel) (hs := fun _ => rfl)))), ?_⟩
    refine st_ret ?_ (Ex.refl g) q
    exact ev_allIn (b := b) hP rfl (ev_var rfl)

abbrev sp_is_known (K : PySem.W.Frag) (Ts : List Addr) : Sp := FnV Ts (fun a : List Nat => [sv a]) (fun _ => True) fun a => .bl (a.all fun c => decide (c ∈ [48, 49]))

theorem ok_is_known {f : Addr} {fd : FuncData} (F : Fun K "is_known" "is_known" s_is_known f fd) (T : Txt mg K w pA pO pX pN) (C_consists_of : Callee P w K mg base "_consists_of" 1 ["text", "characters"] (sp_consists_of K Ts)) :
    FnOk P w K mg base CX0 2 f fd ["vector"] (sp_is_known K Ts) := by
  refine F.ok sc_is_known (fun vs H Q E h => ?_) (fun cdv A outer s H vs Q E hr h => ?_)
  · obtain ⟨x, rfl, _⟩ := h
    rfl
  · obtain ⟨a, ev, hd, g, q⟩ := h
    replace ev : vs = [sv a] := ev
    subst ev
    refine ⟨_, (pss_one (ps_ret (pe_fn C_consists_of (hr.mono (by decide)) (by rfl) (pa_cons (pv 0) (pa_cons pe_str pa_nil))))), ?_⟩
    refine st_ret ?_ (Ex.refl g) q
    exact ev_call (a, [48, 49]) (ea_cons (ev_var rfl) (ea_cons (ev_s lt_01) ea_nil)) trivial

abbrev sp_agreed_bit (K : PySem.W.Frag) (Ts : List Addr) : Sp := FnV Ts (fun x : Nat × Nat => [sv [x.1], sv [x.2]]) (fun _ => True) fun x => sv [agB x.1 x.2]

theorem ok_agreed_bit {f : Addr} {fd : FuncData} (F : Fun K "_agreed_bit" "_agreed_bit" s_agreed_bit f fd) (T : Txt mg K w pA pO pX pN)  :
    FnOk P w K mg base CX0 1 f fd ["a", "b"] (sp_agreed_bit K Ts) := by
  refine F.ok sc_agreed_bit (fun vs H Q E h => ?_) (fun cdv A outer s H vs Q E hr h => ?_)
  · obtain ⟨x, rfl, _⟩ := h
    rfl
  · obtain ⟨⟨a, b⟩, ev, hd, g, q⟩ := h
    replace ev : vs = [sv [a], sv [b]] := ev
    subst ev
    refine ⟨_, (pss_one (ps_ret (pe_ifExp (PW.pt (pw_and (pt_cmpR op_eq (pv 0) (pv 1) (nomark _)) (pw_and1 (pt_cmpR op_in_sign (pv 0) pe_str rfl)))) (pv 0) pe_str))), ?_⟩
    refine st_ret ?_ (Ex.refl g) q
    refine ev_if (b := decide (sv [a] = sv [b]) && decide (a ∈ [48, 49])) (et_and (et_test (ev_op (ev_var rfl) (ev_var rfl) (rv_eq rfl))) fun _ => et_test (ev_op (ev_var rfl) (ev_s lt_01) rv_inS)) (fun h => ?_) (fun h => ?_)
    · refine ev_is (ev_var rfl) (congrArg (fun c => sv [c]) ?_)
      rw [Bool.and_eq_true, decide_eq_true_eq, decide_eq_true_eq, sv_inj] at h
      have h1 : a = b := (List.cons.inj h.1).1
      have h2 : a = 48 ∨ a = 49 := by simpa using h.2
      exact (if_pos ⟨h1, h2⟩).symm
    · refine ev_is (ev_s lt_x) (congrArg (fun c => sv [c]) ?_)
      refine (if_neg fun z => ?_).symm
      replace z : a = b ∧ (a = 48 ∨ a = 49) := z
      obtain ⟨z1, z2⟩ := z
      subst z1
      rw [decide_eq_true rfl, Bool.true_and, decide_eq_false_iff_not] at h
      exact h (by simpa using z2)

/-- the choice by the truth -/
def chB (t : Nat) (a b : List Nat) : List Nat := if t = 49 then exL a b else if t = 48 then exR a b else map2 agB a b
theorem sv_one (a b : Nat) : decide (sv [a] = sv [b]) = decide (a = b) := by
  rw [sv_dec]
  by_cases h : a = b
  · rw [decide_eq_true h, h]
    exact decide_eq_true rfl
  · rw [decide_eq_false h]
    exact decide_eq_false fun q => h (List.cons.inj q).1

abbrev sp_choose (K : PySem.W.Frag) (Ts : List Addr) : Sp := FnV Ts (fun x : List Nat × List Nat × List Nat => [sv x.1, sv x.2.1, sv x.2.2]) (fun x => Vec x.1 ∧ Vec x.2.1 ∧ Vec x.2.2) fun x => sv (chB (x.1.foldl orB 48) x.2.1 x.2.2)

theorem ok_choose {f : Addr} {fd : FuncData} (F : Fun K "choose" "choose" s_choose f fd) (T : Txt mg K w pA pO pX pN) (C_both_extended : Callee P w K mg base "_both_extended" 2 ["one", "two"] (sp_both_extended K Ts)) (C_truth : Callee P w K mg base "truth" 2 ["vector"] (sp_truth K Ts)) (C_agreed_bit : Callee P w K mg base "_agreed_bit" 1 ["a", "b"] (sp_agreed_bit K Ts)) :
    FnOk P w K mg base CX0 3 f fd ["condition", "one", "two"] (sp_choose K Ts) := by
  refine F.ok sc_choose (fun vs H Q E h => ?_) (fun cdv A outer s H vs Q E hr h => ?_)
  · obtain ⟨x, rfl, _⟩ := h
    rfl
  · obtain ⟨⟨c, a, b⟩, ev, hd, g, q⟩ := h
    replace ev : vs = [sv c, sv a, sv b] := ev
    subst ev
    have hc : Vec c := hd.1
    have ha : Vec a := hd.2.1
    have hb : Vec b := hd.2.2
    have hw : wid a b ≤ 100000 := Nat.le_trans (wid_le ha.le hb.le) (by decide)
    refine ⟨_, (pss_cons (ps_asg (pe_fn C_both_extended (hr.mono (by decide)) (by rfl) (pa_cons (pv 1) (pa_cons (pv 2) pa_nil))) (pg_tup rfl (pgs_cons (pg_name (i := 3) sc_choose.nd rfl (.inl rfl)) (pgs_cons (pg_name (i := 4) sc_choose.nd rfl (.inl rfl)) pgs_nil))))
      (pss_cons (ps_set (i := 5) sc_choose.nd rfl (.inl rfl) (pe_fn C_truth (hr.mono (by decide)) (by rfl) (pa_cons (pv 0) pa_nil)))
      (pss_cons (ps_if (pt_cmpR op_eq (pv 5) pe_str (nomark _))
      (pss_one (ps_ret (pv 3))) pss_nil)
      (pss_cons (ps_if (pt_cmpR op_eq (pv 5) pe_str (nomark _))
      (pss_one (ps_ret (pv 4))) pss_nil)
      (pss_one (ps_ret (pe_bm PySem.F.plainAttrs_str PySem.F.slot_str_join PySem.F.type_str_join mt_join pe_str (pa_cons (pe_lc (own := [("a", 6), ("b", 7)]) (by rfl) sc_choose.nd (pi_zips (by rfl) T.zip (pa_cons (pv 3) (pa_cons (pv 4) pa_nil))) (blkOk_by (own := [("a", 6), ("b", 7)]) (N := ["condition", "one", "two", "left", "right", "decision", "a", "b"]) (sc := defScope s_choose) (by decide +kernel)) (fun _ _ _ _ _ => show PG _ _ (gTup K 2 _) from pg_tup rfl (pgs_cons (pg_name (i := 6) sc_choose.nd rfl (Or.inl rfl)) (pgs_cons (pg_name (i := 7) sc_choose.nd rfl (Or.inl rfl)) pgs_nil))) (fun _ _ _ _ _ => pts_nil) (fun _ _ _ _ _ => (pe_fn C_agreed_bit (hr.mono (by decide)) (by rfl) (pa_cons (pv 6) (pa_cons (pv 7) pa_nil))))) pa_nil)))))))), ?_⟩
    refine st_pair (x := sv (exL a b)) (y := sv (exR a b)) ?_ (Ex.refl g) ?_
    · exact en_call (a, b) (ea_cons (ev_var rfl) (ea_cons (ev_var rfl) ea_nil)) fun _ _ => ⟨Nat.le_trans ha.le (by decide), Nat.le_trans hb.le (by decide)⟩
    intro H1 e1
    dsimp only
    refine st_set (v := sv [c.foldl orB 48]) (ev_call c (ea_cons (ev_var rfl) ea_nil) hc) e1 ?_
    intro H2 e2
    dsimp only
    refine st_if (b := decide (c.foldl orB 48 = 49)) ?_ e2 ?_ ?_
    · rw [← sv_one]
      exact et_test (ev_op (ev_var rfl) (ev_s lt_1) (rv_eq rfl))
    · intro H3 e3 h
      refine st_ret (ev_is (ev_var rfl) (congrArg sv ?_)) e3 q
      exact (if_pos (of_decide_eq_true h)).symm
    intro H3 e3 h1
    dsimp only [tNext]
    refine st_if (b := decide (c.foldl orB 48 = 48)) ?_ e3 ?_ ?_
    · rw [← sv_one]
      exact et_test (ev_op (ev_var rfl) (ev_s lt_0) (rv_eq rfl))
    · intro H4 e4 h
      refine st_ret (ev_is (ev_var rfl) (congrArg sv ?_)) e4 q
      exact ((if_neg (of_decide_eq_false h1)).trans (if_pos (of_decide_eq_true h))).symm
    intro H4 e4 h2
    dsimp only [tNext]
    refine st_ret (v := sv (map2 agB a b)) ?_ e4 ?_
    · refine ev_is (v := sv (((exL a b).zip (exR a b)).map fun p => [agB p.1 p.2]).flatten) ?_ (congrArg sv (flat_one (fun p : Nat × Nat => agB p.1 p.2) _))
      refine ev_join (ev_s lt_e) (ev_strs (K := K) (fun p : Nat × Nat => agB p.1 p.2) _ ?_) ?_ (fun _ => rfl)
      · refine en_lcZ (f := fun c d => sv [agB c d]) (by decide) (ex_eq a b) (by rw [exL_len]; exact hw) (ev_var rfl) (ev_var rfl) fun c d _ _ => ?_
        exact ev_call (c, d) (ea_cons (ev_var rfl) (ea_cons (ev_var rfl) ea_nil)) trivial
      · rw [flat_one]
        show (map2 agB a b).length ≤ 100000
        rw [map2_len]
        exact hw
    · have e : chB (c.foldl orB 48) a b = map2 agB a b := (if_neg (of_decide_eq_false h1)).trans (if_neg (of_decide_eq_false h2))
      show ∀ H', Ex Ts H H' → Q (sv (map2 agB a b)) H'
      rw [← e]
      exact q

/-- the bit that an index tells -/
def pkB (a i : List Nat) : Nat := if (i.all fun c => decide (c ∈ [48, 49])) = true then (if a.length ≤ binNum i then 48 else a.getD (a.length - 1 - binNum i) 0) else 120

abbrev sp_pick (K : PySem.W.Frag) (Ts : List Addr) : Sp := FnV Ts (fun x : List Nat × List Nat => [sv x.1, sv x.2]) (fun x => Vec x.1 ∧ Vec x.2) fun x => sv [pkB x.1 x.2]

theorem ok_pick {f : Addr} {fd : FuncData} (F : Fun K "pick" "pick" s_pick f fd) (T : Txt mg K w pA pO pX pN) (C_is_known : Callee P w K mg base "is_known" 2 ["vector"] (sp_is_known K Ts)) :
    FnOk P w K mg base CX0 3 f fd ["vector", "index"] (sp_pick K Ts) := by
  refine F.ok sc_pick (fun vs H Q E h => ?_) (fun cdv A outer s H vs Q E hr h => ?_)
  · obtain ⟨x, rfl, _⟩ := h
    rfl
  · obtain ⟨⟨a, i⟩, ev, hd, g, q⟩ := h
    replace ev : vs = [sv a, sv i] := ev
    subst ev
    have ha : Vec a := hd.1
    have hi : Vec i := hd.2
    refine ⟨_, (pss_cons (ps_if (pt_not (pt_val (pe_fn C_is_known (hr.mono (by decide)) (by rfl) (pa_cons (pv 1) pa_nil))))
      (pss_one (ps_ret pe_str)) pss_nil)
      (pss_cons (ps_set (i := 2) sc_pick.nd rfl (.inl rfl) (pe_callTy call_int_bin (by rfl) T.int (by decide +kernel) (pa_cons (pv 1) (pa_cons pe_int pa_nil))))
      (pss_cons (ps_if (pt_cmpR op_ge (pv 2) (pe_callB call_len_str (by rfl) T.len PySem.boot_len (pa_cons (pv 0) pa_nil)) (nomark _))
      (pss_one (ps_ret pe_str)) pss_nil)
      (pss_one (ps_ret (pe_ix ix_str (pv 0) (pe_op op_sub (pe_op op_sub (pe_callB call_len_str (by rfl) T.len PySem.boot_len (pa_cons (pv 0) pa_nil)) pe_int) (pv 2)) (fun _ _ => rfl))))))), ?_⟩
    refine st_if (b := !(i.all fun c => decide (c ∈ [48, 49]))) ?_ (Ex.refl g) ?_ ?_
    · refine et_not (et_B ?_)
      exact ev_call i (ea_cons (ev_var rfl) ea_nil) trivial
    · intro H1 e1 h
      refine st_ret (ev_is (ev_s lt_x) (congrArg (fun c => sv [c]) ?_)) e1 q
      refine (if_neg ?_).symm
      rw [Bool.not_eq_true'] at h
      rw [h]
      exact Bool.false_ne_true
    intro H1 e1 h
    dsimp only [tNext]
    have h : (i.all fun c => decide (c ∈ [48, 49])) = true := by
      rw [← Bool.not_eq_false']
      exact h
    have hbin : ∀ c ∈ i, IsBin c := fun c hc => by
      have z := of_decide_eq_true (List.all_eq_true.mp h c hc)
      unfold IsBin
      simpa using z
    refine st_set (v := .int (binNum i : Nat)) ?_ e1 ?_
    · exact ev_cb (ea_cons (ev_var rfl) (ea_cons ev_c ea_nil)) (rc_bin (fun z => by have := hi.pos; rw [z] at this; exact absurd this (by decide)) (Nat.le_trans hi.le (by decide)) hbin)
    intro H2 e2
    dsimp only
    refine st_if (b := decide ((a.length : Int) ≤ ((binNum i : Nat) : Int))) ?_ e2 ?_ ?_
    · exact et_test (ev_op (ev_var rfl) (ev_cb (ea_cons (ev_var rfl) ea_nil) (rc_lenS (Nat.le_trans ha.le (by decide)))) rv_I0)
    · intro H3 e3 h3
      refine st_ret (ev_is (ev_s lt_0) (congrArg (fun c => sv [c]) ?_)) e3 q
      have h4 := of_decide_eq_true h3
      have h5 : a.length ≤ binNum i := by omega
      exact ((if_pos h).trans (if_pos h5)).symm
    intro H3 e3 h3
    dsimp only [tNext]
    have h4 := of_decide_eq_false h3
    refine st_ret (v := sv [a.getD (a.length - 1 - binNum i) 0]) ?_ e3 ?_
    · have hlt : binNum i < a.length := by omega
      refine ev_op (ev_var rfl) (ev_op (ev_op (ev_cb (ea_cons (ev_var rfl) ea_nil) (rc_lenS (Nat.le_trans ha.le (by decide)))) ev_c rv_I0) (ev_var rfl) rv_I0) (rv_ixS (Nat.le_trans ha.le (by decide)) ?_)
      have hp := ha.pos
      have e : (a.length : Int) - 1 - ((binNum i : Nat) : Int) = ((a.length - 1 - binNum i : Nat) : Int) := by omega
      rw [e]
      refine atI_nat ?_
      have hlt : a.length - 1 - binNum i < a.length := by omega
      rw [List.getElem?_eq_getElem hlt, List.getD_eq_getElem?_getD, List.getElem?_eq_getElem hlt]
      rfl
    · have e : pkB a i = a.getD (a.length - 1 - binNum i) 0 := (if_pos h).trans (if_neg (show ¬ a.length ≤ binNum i by omega))
      show ∀ H', Ex Ts H H' → Q (sv [a.getD (a.length - 1 - binNum i) 0]) H'
      rw [← e]
      exact q
end
end K02
set_option Elab.async false
set_option linter.all false
set_option maxRecDepth 100000
set_option maxHeartbeats 2000000
namespace K02
open PySem PySem.Spec PyProof.Rows L2 Cw
open GxR (TabG Tabbed TabB GenS)
local macro_rules | `(tactic| walk_at "ev") => `(tactic| first
  | exact ev_var rfl
  | exact ev_s lt_e | exact ev_s lt_0 | exact ev_s lt_1 | exact ev_s lt_x | exact ev_s lt_01 | exact ev_s lt_10 | exact ev_s lt_0110 | exact ev_s lt_01xz | exact ev_s lt_and | exact ev_s lt_or | exact ev_s lt_xor
  | exact ev_c
  | (apply ev_op <;> walk_at "ev")
  | exact rv_I0 | (refine rv_I ?_; first | omega | decide | assumption)
  | exact rv_eq rfl | exact rv_ne rfl | exact rv_inS | exact rv_niS
  | (refine rv_addS ?_; first | assumption | omega | decide)
  | (refine rv_mulS ?_ ?_ <;> first | assumption | omega | decide)
  | (apply ev_cb <;> walk_at "ev")
  | (refine rc_lenS ?_; first | assumption | omega | decide)
  | exact rc_max | exact rc_abs | exact rc_intI | exact rc_intB
  | exact ea_nil
  | (apply ea_cons <;> walk_at "ev")
  | (apply et_test; walk_at "ev")
  | (apply et_B; walk_at "ev"))
section
variable {P : Program} {w : World} {K : PySem.W.Frag} {mg : Str → Option Value} {base : Heap} {pA pO pX pN : Addr} {Ts : List Addr}
abbrev sp_law_cell (K : PySem.W.Frag) (Ts : List Addr) : Sp := FnL Ts (fun x : Addr × List Int × Nat => [.ref x.1, .int (x.2.2 : Nat)]) (fun x H => SqL K H x.1 (x.2.1.map V.int)) fun x => .int (x.2.1.getD x.2.2 0)

theorem ok_law_cell {f : Addr} {fd : FuncData} (F : Fun K "_law_cell" "_law_cell" s_law_cell f fd) (T : Txt mg K w pA pO pX pN)  :
    FnOk P w K mg base CX0 1 f fd ["script", "k"] (sp_law_cell K Ts) := by
  refine F.ok sc_law_cell (fun vs H Q E h => ?_) (fun cdv A outer s H vs Q E hr h => ?_)
  · obtain ⟨x, rfl, _⟩ := h
    rfl
  · obtain ⟨⟨a, ns, k⟩, ev, hd, g, q⟩ := h
    replace ev : vs = [.ref a, .int (k : Nat)] := ev
    subst ev
    have hS : SqL K H a (ns.map V.int) := hd
    refine ⟨_, (pss_cons (ps_if (pt_cmpR op_lt (pv 1) (pe_callB call_len_seq (by rfl) T.len PySem.boot_len (pa_cons (pv 0) pa_nil)) (nomark _))
      (pss_one (ps_ret (pe_ix ix_list (pv 0) (pv 1) (fun _ _ => rfl)))) pss_nil)
      (pss_one (ps_ret pe_int))), ?_⟩
    refine st_if (b := decide ((k : Int) < (ns.map V.int).length)) ?_ (Ex.refl g) ?_ ?_
    · exact et_test (ev_op (ev_var rfl) (ev_cb (ea_cons (ev_var rfl) ea_nil) (rc_lenL g hS)) rv_I0)
    · intro H1 e1 h
      have h1 := of_decide_eq_true h
      rw [List.length_map] at h1
      have h2 : k < ns.length := by omega
      refine st_ret (ev_op (ev_var rfl) (ev_var rfl) (rv_ixL g hS (atI_nat ?_))) e1 q
      show (ns.map V.int)[k]? = some (.int (ns.getD k 0))
      rw [List.getElem?_map, List.getD_eq_getElem?_getD, List.getElem?_eq_getElem h2]
      rfl
    intro H1 e1 h
    dsimp only [tNext]
    have h1 := of_decide_eq_false h
    rw [List.length_map] at h1
    have h2 : ns.length ≤ k := by omega
    refine st_ret (ev_is ev_c (congrArg V.int ?_)) e1 q
    show (0 : Int) = ns.getD k 0
    rw [List.getD_eq_getElem?_getD, List.getElem?_eq_none h2]
    rfl

abbrev sp_law_numbers (K : PySem.W.Frag) (Ts : List Addr) : Sp := FnS Ts (fun x : Addr × List Int × Nat × Nat => [.ref x.1, .int (x.2.2.1 : Nat), .int (x.2.2.2 : Nat)]) (fun x H => SqL K H x.1 (x.2.1.map V.int) ∧ 2 ≤ x.2.2.1 ∧ x.2.2.1 ≤ 1000000 ∧ x.2.2.2 ≤ 1000) fun x v H => ∃ p ms, v = .ref p ∧ H p = some (.lst (ms.map V.int)) ∧ ms.length = x.2.2.2 ∧ Below x.2.2.1 ms

theorem ok_law_numbers {f : Addr} {fd : FuncData} (F : Fun K "_law_numbers" "_law_numbers" s_law_numbers f fd) (T : Txt mg K w pA pO pX pN)  :
    FnOk P w K mg base CX0 1 f fd ["script", "base", "many"] (sp_law_numbers K Ts) := by
  refine F.ok sc_law_numbers (fun vs H Q E h => ?_) (fun cdv A outer s H vs Q E hr h => ?_)
  · obtain ⟨x, rfl, _⟩ := h
    rfl
  · obtain ⟨⟨a, ns, b, m⟩, ev, hd, g, q⟩ := h
    replace ev : vs = [.ref a, .int (b : Nat), .int (m : Nat)] := ev
    subst ev
    have hS : SqL K H a (ns.map V.int) := hd.1
    have hb : 2 ≤ b := hd.2.1
    have hb2 : b ≤ 1000000 := hd.2.2.1
    have hm : m ≤ 1000 := hd.2.2.2
    refine ⟨_, (pss_cons (ps_set (i := 3) sc_law_numbers.nd rfl (.inl rfl) (pe_lst pa_nil))
      (pss_cons (ps_set (i := 4) sc_law_numbers.nd rfl (.inl rfl) pe_int)
      (pss_cons (ps_for PassesOwn.never rfl (pi_list (pe_slice sl_list (pv 0) po_none (po_some pe_int))) (pg_name (i := 5) sc_law_numbers.nd rfl (.inl rfl))
      (pss_cons (ps_set (i := 6) sc_law_numbers.nd rfl (.inl rfl) (pe_callB call_abs (by rfl) T.abs (by decide +kernel) (pa_cons (pv 5) pa_nil)))
      (pss_cons (ps_set (i := 4) sc_law_numbers.nd rfl (.inl rfl) (pe_op op_mod (pe_callTy call_int1 (by rfl) T.int (by decide +kernel) (pa_cons (pe_op op_add (pe_op op_mul (pv 4) pe_int) (pv 6)) pa_nil)) pe_int))
      (pss_one (ps_for PassesOwn.never rfl (pi_range1 rfl T.range (pa_cons pe_int pa_nil)) (pg_name (i := 7) sc_law_numbers.nd rfl (.inl rfl))
      (pss_cons (ps_expr (pe_bm PySem.F.plainAttrs_list PySem.F.slot_list_append PySem.F.type_list_append mt_append (pv 3) (pa_cons (pe_op op_mod (pe_callTy call_int1 (by rfl) T.int (by decide +kernel) (pa_cons (pv 6) pa_nil)) (pv 1)) pa_nil)))
      (pss_cons (ps_set (i := 6) sc_law_numbers.nd rfl (.inl rfl) (pe_op op_fdiv (pv 6) (pv 1)))
      (pss_one (ps_if (pt_cmpR op_eq (pv 6) pe_int (nomark _))
      (pss_one ps_break) pss_nil)))))))))
      (pss_cons (ps_for PassesOwn.never rfl (pi_range1 rfl T.range (pa_cons (pv 2) pa_nil)) (pg_name (i := 8) sc_law_numbers.nd rfl (.inl rfl))
      (pss_cons (ps_set (i := 4) sc_law_numbers.nd rfl (.inl rfl) (pe_op op_mod (pe_callTy call_int1 (by rfl) T.int (by decide +kernel) (pa_cons (pe_op op_add (pe_op op_add (pe_op op_mul (pv 4) pe_int) pe_int) (pv 8)) pa_nil)) pe_int))
      (pss_one (ps_expr (pe_bm PySem.F.plainAttrs_list PySem.F.slot_list_append PySem.F.type_list_append mt_append (pv 3) (pa_cons (pe_op op_mod (pe_op op_fdiv (pv 4) pe_int) (pv 1)) pa_nil))))))
      (pss_one (ps_ret (pe_slice sl_list (pv 3) po_none (po_some (pv 2))))))))), ?_⟩
    -- numbers = []; seed = 7
    refine st_setN (R := .lst []) (en_lst ea_nil (Nat.zero_le _)) g ?_
    intro l H1 n0 e1 hl
    have nl : l ∉ Ts := g.free n0
    have e1l : ∀ H2, Ex Ts H1 H2 → H2 l = some (.lst []) := fun H2 e => e.keep l _ nl hl
    dsimp only
    refine st_set (v := .int 7) ev_c (Ex.refl e1.good) ?_
    intro H2 e2
    dsimp only
    have hl2 := e1l H2 e2
    -- for cell in script[:63]
    refine st_forN (K := K) (xs := cutV (ns.map V.int) none (some 63)) (en_slL g (ev_var rfl) eo_none (eo_some ev_c) hS) (e1.trans e2)
      (fun a' i σ H' => ∃ (ms : List Int) (seed : Int) (c r s : Option V), σ = [some (.ref a), some (.int (b : Nat)), some (.int (m : Nat)), some (.ref l), some (.int seed), c, r, s, none] ∧ Ex Ts H H' ∧
        H' l = some (.lst (ms.map V.int)) ∧ H' a' = some (.lst (cutV (ns.map V.int) none (some 63))) ∧ H a' = none ∧ a' ≠ l ∧ Below b ms ∧ ms.length ≤ 60 * i ∧ 0 ≤ seed ∧ seed < 2147483647) ?_ ?_ ?_ ?_
    · intro a' H3 na e3 ha
      have ne : a' ≠ l := fun q => by
        rw [q, hl2] at na
        cases na
      have b0 : Below b [] := fun z hz => absurd hz (by simp)
      exact ⟨[], 7, none, none, none, rfl, (e1.trans e2).trans e3, e3.keep l _ nl hl2, ha, (e1.trans e2).back na, ne, b0, Nat.zero_le _, by decide, by decide⟩
    · rintro a' i σ H3 ⟨ms, seed, c, r, s, _, _, _, h, _⟩
      exact h
    · rintro a' i x σ H3 N hx ⟨ms, seed, c, r, s, rfl, e3, h3l, h3a, na, ne, hB, hlen, s0, s1⟩ hN
      obtain ⟨n, rfl⟩ := cut_int (List.mem_of_getElem? hx)
      have nT : a' ∉ Ts := g.free na
      -- rest = abs(cell)
      refine st_set (v := .int (if n < 0 then -n else n)) (ev_cb (ea_cons (ev_var rfl) ea_nil) rc_abs) (Ex.refl e3.good) ?_
      intro H4 e4
      dsimp only
      have hr0 : 0 ≤ (if n < 0 then -n else n) := by split <;> omega
      generalize (if n < 0 then -n else n) = rest at hr0 ⊢
      -- seed = int(seed * 48271 + rest) % 2147483647
      refine st_set (v := .int ((seed * 48271 + rest) % 2147483647)) (ev_op (ev_cb (ea_cons (ev_op (ev_op (ev_var rfl) ev_c (rv_I (Or.inl ⟨by omega, by omega⟩))) (ev_var rfl) rv_I0) ea_nil) rc_intI) ev_c (rv_I (by decide))) (Ex.refl e4.good) ?_
      intro H5 e5
      dsimp only
      have q0 : 0 ≤ (seed * 48271 + rest) % 2147483647 := Int.emod_nonneg _ (by decide)
      have q1 : (seed * 48271 + rest) % 2147483647 < 2147483647 := Int.emod_lt_of_pos _ (by decide)
      generalize (seed * 48271 + rest) % 2147483647 = seed2 at q0 q1 ⊢
      have e35 : Ex Ts H3 H5 := e4.trans e5
      have h5l := e35.keep l _ nl h3l
      have h5a := e35.keep a' _ nT h3a
      -- for spin in range(60)
      refine st_forR (n := 60) ev_c (by decide) (Ex.refl e35.good)
        (fun k σ H' => ∃ (ms : List Int) (rest : Int) (s : Option V), σ = [some (.ref a), some (.int (b : Nat)), some (.int (m : Nat)), some (.ref l), some (.int seed2), some (.int n), some (.int rest), s, none] ∧ Ex Ts H H' ∧
          H' l = some (.lst (ms.map V.int)) ∧ H' a' = some (.lst (cutV (ns.map V.int) none (some 63))) ∧ Below b ms ∧ ms.length ≤ 60 * i + k ∧ 0 ≤ rest) ?_ ?_ ?_
      · intro H6 e6
        exact ⟨ms, rest, s, rfl, (e3.trans e35).trans e6, e6.keep l _ nl h5l, e6.keep a' _ nT h5a, hB, by omega, hr0⟩
      · rintro k σ H6 N2 hk ⟨ms, rest, s, rfl, e6, h6l, h6a, hB, hlen, r0⟩ hN2
        have hi : i < 63 := Nat.lt_of_lt_of_le (List.getElem?_eq_some_iff.mp hx).1 (cut_63 _)
        have m0 : 0 ≤ rest % (b : Int) := Int.emod_nonneg _ (by omega)
        have m1 : rest % (b : Int) < (b : Int) := Int.emod_lt_of_pos _ (by omega)
        refine st_app (y := .int (rest % (b : Int))) rfl h6l nl (ev_op (ev_cb (ea_cons (ev_var rfl) ea_nil) rc_intI) (ev_var rfl) (rv_I (by omega))) (Ex.refl e6.good) (by rw [List.length_map]; omega) ?_
        intro H7 e7 h7l
        dsimp only
        have eE : Ex Ts H (upd H7 l (.lst (ms.map V.int ++ [V.int (rest % (b : Int))]))) := (e6.trans e7).mut nl n0
        refine st_set (v := .int (rest / (b : Int))) (ev_op (ev_var rfl) (ev_var rfl) (rv_I ⟨by omega, by omega⟩)) (Ex.refl eE.good) ?_
        intro H8 e8
        dsimp only
        have r1 : 0 ≤ rest / (b : Int) := Int.ediv_nonneg r0 (by omega)
        have h8l : H8 l = some (.lst ((ms ++ [rest % (b : Int)]).map V.int)) := by
          rw [← map_snoc]
          exact e8.keep l _ nl upd_same
        have h8a : H8 a' = some (.lst (cutV (ns.map V.int) none (some 63))) := e8.keep a' _ nT (by rw [upd_ne ne]; exact e7.keep a' _ nT h6a)
        have hB8 : Below b (ms ++ [rest % (b : Int)]) := below_snoc hB m0 m1
        have hl8 : (ms ++ [rest % (b : Int)]).length ≤ 60 * i + (k + 1) := by
          rw [List.length_append, List.length_singleton]
          omega
        refine st_if (b := decide (V.int (rest / (b : Int)) = V.int 0)) (et_test (ev_op (ev_var rfl) ev_c (rv_eq rfl))) (Ex.refl e8.good) ?_ ?_
        · intro H9 e9 _
          exact hN _ _ ⟨_, _, _, _, _, rfl, (eE.trans e8).trans e9, e9.keep l _ nl h8l, e9.keep a' _ nT h8a, na, ne, hB8, by omega, q0, q1⟩
        · intro H9 e9 _
          exact hN2 _ _ ⟨_, _, _, rfl, (eE.trans e8).trans e9, e9.keep l _ nl h8l, e9.keep a' _ nT h8a, hB8, hl8, r1⟩
      · rintro σ H6 ⟨ms, rest, s, rfl, e6, h6l, h6a, hB, hlen, r0⟩
        exact hN _ _ ⟨_, _, _, _, _, rfl, e6, h6l, h6a, na, ne, hB, by omega, q0, q1⟩
    · rintro a' σ H3 ⟨ms, seed, c, r, s, rfl, e3, h3l, h3a, na, ne, hB, hlen, s0, s1⟩
      have h63 : ms.length ≤ 3780 := by
        have := cut_63 (ns.map V.int)
        omega
      -- for k in range(many)
      refine st_forR (n := m) (ev_var rfl) (by omega) (Ex.refl e3.good)
        (fun k σ H' => ∃ (ms : List Int) (seed : Int) (z : Option V), σ = [some (.ref a), some (.int (b : Nat)), some (.int (m : Nat)), some (.ref l), some (.int seed), c, r, s, z] ∧ Ex Ts H H' ∧
          H' l = some (.lst (ms.map V.int)) ∧ Below b ms ∧ k ≤ ms.length ∧ ms.length ≤ 3780 + k ∧ 0 ≤ seed ∧ seed < 2147483647) ?_ ?_ ?_
      · intro H4 e4
        exact ⟨ms, seed, none, rfl, e3.trans e4, e4.keep l _ nl h3l, hB, Nat.zero_le _, by omega, s0, s1⟩
      · rintro k σ H4 N hk ⟨ms, seed, z, rfl, e4, h4l, hB, hlo, hhi, s0, s1⟩ hN
        refine st_set (v := .int ((seed * 16807 + 12345 + (k : Int)) % 2147483647)) (ev_op (ev_cb (ea_cons (ev_op (ev_op (ev_op (ev_var rfl) ev_c (rv_I (Or.inl ⟨by omega, by omega⟩))) ev_c rv_I0) (ev_var rfl) rv_I0) ea_nil) rc_intI) ev_c (rv_I (by decide))) (Ex.refl e4.good) ?_
        intro H5 e5
        dsimp only
        have q0 : 0 ≤ (seed * 16807 + 12345 + (k : Int)) % 2147483647 := Int.emod_nonneg _ (by decide)
        have q1 : (seed * 16807 + 12345 + (k : Int)) % 2147483647 < 2147483647 := Int.emod_lt_of_pos _ (by decide)
        generalize (seed * 16807 + 12345 + (k : Int)) % 2147483647 = seed2 at q0 q1 ⊢
        have m0 : 0 ≤ seed2 / 64 % (b : Int) := Int.emod_nonneg _ (by omega)
        have m1 : seed2 / 64 % (b : Int) < (b : Int) := Int.emod_lt_of_pos _ (by omega)
        refine st_app (y := .int (seed2 / 64 % (b : Int))) rfl (e5.keep l _ nl h4l) nl (ev_op (ev_op (ev_var rfl) ev_c (rv_I ⟨by decide, by decide⟩)) (ev_var rfl) (rv_I (by omega))) (Ex.refl e5.good) (by rw [List.length_map]; omega) ?_
        intro H6 e6 h6l
        refine hN _ _ ⟨ms ++ [seed2 / 64 % (b : Int)], seed2, _, rfl, ((e4.trans e5).trans e6).mut nl n0, ?_, below_snoc hB m0 m1, ?_, ?_, q0, q1⟩
        · rw [upd_same, map_snoc]
        · rw [List.length_append, List.length_singleton]
          omega
        · rw [List.length_append, List.length_singleton]
          omega
      · rintro σ H4 ⟨ms, seed, z, rfl, e4, h4l, hB, hlo, hhi, s0, s1⟩
        -- return numbers[:many]
        refine st_retN (R := .lst (cutV (ms.map V.int) none (some (m : Int)))) (en_slL (K := K) e4.good (ev_var rfl) eo_none (eo_some (ev_var rfl)) (l_of h4l)) (Ex.refl e4.good) ?_
        intro p H5 _ _ e5 hp
        rw [cut_to (by rw [List.length_map]; exact hlo), ← List.map_take] at hp
        refine q (.ref p) H5 (e4.trans e5) ⟨p, ms.take m, rfl, hp, ?_, fun x hx => hB x (List.mem_of_mem_take hx)⟩
        show (ms.take m).length = m
        rw [List.length_take]
        omega
end
end K02
set_option Elab.async false
set_option linter.all false
set_option maxRecDepth 100000
set_option maxHeartbeats 2000000
namespace K02
open PySem PySem.Spec PyProof.Rows L2 Cw
open GxR (TabG Tabbed TabB GenS)
local macro_rules | `(tactic| walk_at "ev") => `(tactic| first
  | exact ev_var rfl
  | exact ev_s lt_e | exact ev_s lt_0 | exact ev_s lt_1 | exact ev_s lt_x | exact ev_s lt_01 | exact ev_s lt_10 | exact ev_s lt_0110 | exact ev_s lt_01xz | exact ev_s lt_and | exact ev_s lt_or | exact ev_s lt_xor
  | exact ev_c
  | (apply ev_op <;> walk_at "ev")
  | exact rv_I0 | (refine rv_I ?_; first | omega | decide | assumption)
  | exact rv_eq rfl | exact rv_ne rfl | exact rv_inS | exact rv_niS
  | (refine rv_addS ?_; first | assumption | omega | decide)
  | (refine rv_mulS ?_ ?_ <;> first | assumption | omega | decide)
  | (apply ev_cb <;> walk_at "ev")
  | (refine rc_lenS ?_; first | assumption | omega | decide)
  | exact rc_max | exact rc_abs | exact rc_intI | exact rc_intB
  | exact ea_nil
  | (apply ea_cons <;> walk_at "ev")
  | (apply et_and; walk_at "ev"; intro _; walk_at "ev")
  | (apply et_or; walk_at "ev"; intro _; walk_at "ev")
  | (apply et_not; walk_at "ev")
  | (apply et_test; walk_at "ev")
  | (apply et_B; walk_at "ev"))
section
variable {P : Program} {w : World} {K : PySem.W.Frag} {mg : Str → Option Value} {base : Heap} {pA pO pX pN : Addr} {Ts : List Addr}
/-! ### what the law draws, and its own tables -/
def sgn (pl : Bool) (z : Int) : Nat := if pl then [48, 49, 49, 48].getD z.toNat 0 else [48, 49, 120, 122].getD z.toNat 0
theorem sgn_isB {pl : Bool} {z : Int} (h0 : 0 ≤ z) (h1 : z < 4) : IsB (sgn pl z) := by
  have e : z = 0 ∨ z = 1 ∨ z = 2 ∨ z = 3 := by omega
  cases pl <;> rcases e with rfl | rfl | rfl | rfl <;> decide
theorem sgn_at {pl : Bool} {z : Int} (h0 : 0 ≤ z) (h1 : z < 4) : atI (if pl then [48, 49, 49, 48] else [48, 49, 120, 122]) z = some (sgn pl z) := by
  have e : z = 0 ∨ z = 1 ∨ z = 2 ∨ z = 3 := by omega
  cases pl <;> rcases e with rfl | rfl | rfl | rfl <;> rfl
def asSv (pl : Bool) : V → V
  | .int z => sv [sgn pl z]
  | _ => .non
theorem asSv_map (pl : Bool) (ms : List Int) : (ms.map V.int).map (asSv pl) = ms.map fun z => sv [sgn pl z] := by
  rw [List.map_map]
  rfl

abbrev sp_law_vector (K : PySem.W.Frag) (Ts : List Addr) : Sp := FnL Ts (fun x : Addr × List Int × Nat × Bool => [.ref x.1, .int (x.2.2.1 : Nat), .bl x.2.2.2]) (fun x H => SqL K H x.1 (x.2.1.map V.int) ∧ Below 4 x.2.1 ∧ x.2.2.1 ≤ x.2.1.length ∧ x.2.2.1 ≤ 64) fun x => sv ((x.2.1.take x.2.2.1).map (sgn x.2.2.2))

theorem ok_law_vector {f : Addr} {fd : FuncData} (F : Fun K "_law_vector" "_law_vector" s_law_vector f fd) (T : Txt mg K w pA pO pX pN)  :
    FnOk P w K mg base CX0 1 f fd ["numbers", "size", "plain"] (sp_law_vector K Ts) := by
  refine F.ok sc_law_vector (fun vs H Q E h => ?_) (fun cdv A outer s H vs Q E hr h => ?_)
  · obtain ⟨x, rfl, _⟩ := h
    rfl
  · obtain ⟨⟨a, ms, n, pl⟩, ev, hd, g, q⟩ := h
    replace ev : vs = [.ref a, .int (n : Nat), .bl pl] := ev
    subst ev
    have hS : SqL K H a (ms.map V.int) := hd.1
    have hB : Below 4 ms := hd.2.1
    have hn : n ≤ ms.length := hd.2.2.1
    have hn2 : n ≤ 64 := hd.2.2.2
    refine ⟨_, (pss_cons (ps_set (i := 3) sc_law_vector.nd rfl (.inr rfl) pe_str)
      (pss_cons (ps_if (pt_val (pv 2))
      (pss_one (ps_set (i := 3) sc_law_vector.nd rfl (.inr rfl) pe_str)) pss_nil)
      (pss_one (ps_ret (pe_bm PySem.F.plainAttrs_str PySem.F.slot_str_join PySem.F.type_str_join mt_join pe_str (pa_cons (pe_lc (own := [("number", 4)]) (by rfl) sc_law_vector.nd (pi_list (pe_slice sl_list (pv 0) po_none (po_some (pv 1)))) (blkOk_by (own := [("number", 4)]) (N := ["numbers", "size", "plain", "signs", "number"]) (sc := defScope s_law_vector) (by decide +kernel)) (fun _ _ _ _ _ => pg_name (i := 4) sc_law_vector.nd rfl (Or.inl rfl)) (fun _ _ _ _ _ => pts_nil) (fun _ _ _ _ _ => (pe_ix ix_str (pv 3) (pv 4) (fun _ _ => rfl)))) pa_nil)))))), ?_⟩
    refine st_set (v := sv [48, 49, 120, 122]) (ev_s lt_01xz) (Ex.refl g) ?_
    intro H1 e1
    dsimp only
    have hm : ∀ z ∈ ms.take n, 0 ≤ z ∧ z < 4 := fun z hz => hB z (List.mem_of_mem_take hz)
    -- behind the if: signs as plain tells
    have fin : ∀ H2, Ex Ts H H2 → tRet (tBM K "str" (fun x xs H Q => ∃ a p, ∃ ys : List Str, x = .str a ∧ xs = [.ref p] ∧ (SqL K H p (ys.map V.str) ∨ SqT K H p (ys.map V.str)) ∧ (ys.map (·.length)).sum + ys.length * a.length ≤ 16777216 ∧ Q (.str (Txt.join a ys)) H) (tC (.str ""))
        (tCons (tLc (iList K (tSl (rSlL K) (tVar 0) tNoPart (tPart (tVar 1)))) (gName 4) tYes (tOp rIxS (tVar 3) (tVar 4)) [4]) tNil)) { nx := fun _ H' => Q .non H', rt := Q }
        [some (.ref a), some (.int (n : Nat)), some (.bl pl), some (sv (if pl then [48, 49, 49, 48] else [48, 49, 120, 122])), none] H2 := by
      intro H2 e2
      refine st_ret (ev_is (v := sv ((ms.take n).map fun z => [sgn pl z]).flatten) ?_ (congrArg sv (flat_one _ _))) e2 q
      refine ev_join (ev_s lt_e) (ev_strs (K := K) (sgn pl) _ ?_) ?_ (fun _ => rfl)
      · rw [← asSv_map]
        refine en_lcN (f := asSv pl) (by rw [List.length_map, List.length_take]; omega) ?_ ?_
        · rw [List.map_take, ← cut_to (by rw [List.length_map]; exact hn)]
          exact en_slL g (ev_var rfl) eo_none (eo_some (ev_var rfl)) hS
        · intro x hx
          obtain ⟨z, hz, rfl⟩ := List.mem_map.mp hx
          have hz2 := hm z hz
          refine ev_op (ev_var rfl) (ev_var rfl) (rv_ixS ?_ (sgn_at hz2.1 hz2.2))
          cases pl <;> decide
      · rw [flat_one, List.length_map, List.length_take]
        omega
    refine st_if (b := pl) (et_B (ev_var rfl)) e1 ?_ ?_
    · intro H2 e2 h
      subst h
      refine st_set (v := sv [48, 49, 49, 48]) (ev_s lt_0110) e2 ?_
      intro H3 e3
      exact fin H3 e3
    · intro H2 e2 h
      subst h
      exact fin H2 e2

abbrev sp_law_not (K : PySem.W.Frag) (Ts : List Addr) : Sp := FnV Ts (fun c : Nat => [sv [c]]) IsB fun c => sv [notB c]

theorem ok_law_not {f : Addr} {fd : FuncData} (F : Fun K "_law_not" "_law_not" s_law_not f fd) (T : Txt mg K w pA pO pX pN)  :
    FnOk P w K mg base CX0 1 f fd ["one"] (sp_law_not K Ts) := by
  refine F.ok sc_law_not (fun vs H Q E h => ?_) (fun cdv A outer s H vs Q E hr h => ?_)
  · obtain ⟨x, rfl, _⟩ := h
    rfl
  · obtain ⟨c, ev, hd, g, q⟩ := h
    replace ev : vs = [sv [c]] := ev
    subst ev
    refine ⟨_, (pss_cons (ps_if (pt_cmpR op_in_sign (pv 0) pe_str rfl)
      (pss_one (ps_ret (pe_ix ix_str pe_str (pe_bm PySem.F.plainAttrs_str PySem.F.slot_str_find PySem.F.type_str_find mt_find pe_str (pa_cons (pv 0) pa_nil)) (fun _ _ => rfl)))) pss_nil)
      (pss_one (ps_ret pe_str))), ?_⟩
    refine st_if (b := decide (c ∈ [48, 49])) (by walk_at "ev") (Ex.refl g) ?_ ?_
    · intro H1 e1 h
      have h1 : c = 48 ∨ c = 49 := by simpa using of_decide_eq_true h
      rcases h1 with rfl | rfl
      · refine st_ret (v := sv [49]) ?_ e1 q
        refine ev_op (ev_s lt_10) (ev_find (n := 0) (ev_s lt_01) (ev_var rfl) (by decide +kernel) fun _ => rfl) (rv_ixS (by decide) rfl)
      · refine st_ret (v := sv [48]) ?_ e1 q
        refine ev_op (ev_s lt_10) (ev_find (n := 1) (ev_s lt_01) (ev_var rfl) (by decide +kernel) fun _ => rfl) (rv_ixS (by decide) rfl)
    intro H1 e1 h
    dsimp only [tNext]
    refine st_ret (ev_is (ev_s lt_x) (congrArg (fun c => sv [c]) ?_)) e1 q
    have h1 : ¬ (c = 48 ∨ c = 49) := by simpa using of_decide_eq_false h
    show (120 : Nat) = notB c
    unfold notB
    rw [if_neg fun z => h1 (.inl z), if_neg fun z => h1 (.inr z)]

def ruleT (r : Nat) : List Nat := if r = 0 then [97, 110, 100] else if r = 1 then [111, 114] else [120, 111, 114]
def pairB (r a b : Nat) : Nat := if r = 0 then andB a b else if r = 1 then orB a b else xorB a b
theorem isB_pair {r : Nat} {a b : Nat} (ha : IsB a) (hb : IsB b) : IsB (pairB r a b) := by
  unfold pairB
  split
  · exact isB_and ha hb
  · split
    · exact isB_or ha hb
    · exact isB_xor ha hb
theorem rule_and {r : Nat} (hr : r ≤ 2) : decide (sv (ruleT r) = sv [97, 110, 100]) = decide (r = 0) := by
  rw [sv_dec]
  have e : r = 0 ∨ r = 1 ∨ r = 2 := by omega
  rcases e with rfl | rfl | rfl <;> decide
theorem rule_or {r : Nat} (hr : r ≤ 2) : decide (sv (ruleT r) = sv [111, 114]) = decide (r = 1) := by
  rw [sv_dec]
  have e : r = 0 ∨ r = 1 ∨ r = 2 := by omega
  rcases e with rfl | rfl | rfl <;> decide
theorem mem_two (a : Nat) : decide (a ∈ [48, 49]) = (decide (a = 48) || decide (a = 49)) := by
  by_cases h : a = 48
  · subst h
    rfl
  · by_cases h2 : a = 49
    · subst h2
      rfl
    · rw [decide_eq_false h, decide_eq_false h2, decide_eq_false (by simp [h, h2])]
      rfl
set_option synthInstance.maxSize 4000 in
set_option synthInstance.maxHeartbeats 400000 in
theorem pair_all : ∀ r ∈ [0, 1, 2], ∀ a ∈ [48, 49, 120, 122], ∀ b ∈ [48, 49, 120, 122],
    ((decide (r = 0) && (decide (a = 48) || decide (b = 48))) = true → pairB r a b = 48) ∧
    ((decide (r = 0) && (decide (a = 48) || decide (b = 48))) = false → (decide (r = 1) && (decide (a = 49) || decide (b = 49))) = true → pairB r a b = 49) ∧
    ((decide (r = 0) && (decide (a = 48) || decide (b = 48))) = false → (decide (r = 1) && (decide (a = 49) || decide (b = 49))) = false → ((!(decide (a = 48) || decide (a = 49))) || !(decide (b = 48) || decide (b = 49))) = true → pairB r a b = 120) ∧
    ((decide (r = 0) && (decide (a = 48) || decide (b = 48))) = false → (decide (r = 1) && (decide (a = 49) || decide (b = 49))) = false → ((!(decide (a = 48) || decide (a = 49))) || !(decide (b = 48) || decide (b = 49))) = false →
      (decide (r = 0) = true → pairB r a b = 49) ∧ (decide (r = 0) = false → (decide (r = 1) = true → pairB r a b = 48) ∧ (decide (r = 1) = false → (decide (a = b) = true → pairB r a b = 48) ∧ (decide (a = b) = false → pairB r a b = 49)))) := by decide +kernel
theorem isB_mem {a : Nat} (h : IsB a) : a ∈ [48, 49, 120, 122] := by
  rcases h with rfl | rfl | rfl | rfl <;> decide
theorem rule_mem {r : Nat} (h : r ≤ 2) : r ∈ [0, 1, 2] := by
  have e : r = 0 ∨ r = 1 ∨ r = 2 := by omega
  rcases e with rfl | rfl | rfl <;> decide

abbrev sp_law_pair (K : PySem.W.Frag) (Ts : List Addr) : Sp := FnV Ts (fun x : Nat × Nat × Nat => [sv (ruleT x.1), sv [x.2.1], sv [x.2.2]]) (fun x => x.1 ≤ 2 ∧ IsB x.2.1 ∧ IsB x.2.2) fun x => sv [pairB x.1 x.2.1 x.2.2]

theorem ok_law_pair {f : Addr} {fd : FuncData} (F : Fun K "_law_pair" "_law_pair" s_law_pair f fd) (T : Txt mg K w pA pO pX pN)  :
    FnOk P w K mg base CX0 1 f fd ["rule", "one", "two"] (sp_law_pair K Ts) := by
  refine F.ok sc_law_pair (fun vs H Q E h => ?_) (fun cdv A outer s H vs Q E hr h => ?_)
  · obtain ⟨x, rfl, _⟩ := h
    rfl
  · obtain ⟨⟨r, a, b⟩, ev, hd, g, q⟩ := h
    replace ev : vs = [sv (ruleT r), sv [a], sv [b]] := ev
    subst ev
    have h1 : r ≤ 2 := hd.1
    have h2 : IsB a := hd.2.1
    have h3 : IsB b := hd.2.2
    refine ⟨_, (pss_cons (ps_if (PW.pt (pw_and (pt_cmpR op_eq (pv 0) pe_str (nomark _)) (pw_and1 (PW.pt (pw_or (pt_cmpR op_eq (pv 1) pe_str (nomark _)) (pw_or1 (pt_cmpR op_eq (pv 2) pe_str (nomark _))))))))
      (pss_one (ps_ret pe_str)) pss_nil)
      (pss_cons (ps_if (PW.pt (pw_and (pt_cmpR op_eq (pv 0) pe_str (nomark _)) (pw_and1 (PW.pt (pw_or (pt_cmpR op_eq (pv 1) pe_str (nomark _)) (pw_or1 (pt_cmpR op_eq (pv 2) pe_str (nomark _))))))))
      (pss_one (ps_ret pe_str)) pss_nil)
      (pss_cons (ps_if (PW.pt (pw_or (pt_cmpR op_notIn_sign (pv 1) pe_str rfl) (pw_or1 (pt_cmpR op_notIn_sign (pv 2) pe_str rfl))))
      (pss_one (ps_ret pe_str)) pss_nil)
      (pss_cons (ps_if (pt_cmpR op_eq (pv 0) pe_str (nomark _))
      (pss_one (ps_ret pe_str)) pss_nil)
      (pss_cons (ps_if (pt_cmpR op_eq (pv 0) pe_str (nomark _))
      (pss_one (ps_ret pe_str)) pss_nil)
      (pss_cons (ps_if (pt_cmpR op_eq (pv 1) (pv 2) (nomark _))
      (pss_one (ps_ret pe_str)) pss_nil)
      (pss_one (ps_ret pe_str)))))))), ?_⟩
    obtain ⟨p1, p2, p3, p4⟩ := pair_all r (rule_mem h1) a (isB_mem h2) b (isB_mem h3)
    refine st_if (b := decide (r = 0) && (decide (a = 48) || decide (b = 48))) ?_ (Ex.refl g) ?_ ?_
    · rw [← rule_and h1, ← sv_one a 48, ← sv_one b 48]
      walk_at "ev"
    · intro H1 e1 h
      refine st_ret (ev_is (ev_s lt_0) (congrArg (fun c => sv [c]) ?_)) e1 q
      exact (p1 h).symm
    intro H1 e1 t1
    dsimp only [tNext]
    refine st_if (b := decide (r = 1) && (decide (a = 49) || decide (b = 49))) ?_ e1 ?_ ?_
    · rw [← rule_or h1, ← sv_one a 49, ← sv_one b 49]
      walk_at "ev"
    · intro H2 e2 h
      refine st_ret (ev_is (ev_s lt_1) (congrArg (fun c => sv [c]) ?_)) e2 q
      exact (p2 t1 h).symm
    intro H2 e2 t2
    dsimp only [tNext]
    refine st_if (b := (!(decide (a = 48) || decide (a = 49))) || !(decide (b = 48) || decide (b = 49))) ?_ e2 ?_ ?_
    · rw [← mem_two, ← mem_two]
      walk_at "ev"
    · intro H3 e3 h
      refine st_ret (ev_is (ev_s lt_x) (congrArg (fun c => sv [c]) ?_)) e3 q
      exact (p3 t1 t2 h).symm
    intro H3 e3 t3
    dsimp only [tNext]
    obtain ⟨p5, p6⟩ := p4 t1 t2 t3
    refine st_if (b := decide (r = 0)) ?_ e3 ?_ ?_
    · rw [← rule_and h1]
      walk_at "ev"
    · intro H4 e4 h
      refine st_ret (ev_is (ev_s lt_1) (congrArg (fun c => sv [c]) ?_)) e4 q
      exact (p5 h).symm
    intro H4 e4 t4
    dsimp only [tNext]
    obtain ⟨p7, p8⟩ := p6 t4
    refine st_if (b := decide (r = 1)) ?_ e4 ?_ ?_
    · rw [← rule_or h1]
      walk_at "ev"
    · intro H5 e5 h
      refine st_ret (ev_is (ev_s lt_0) (congrArg (fun c => sv [c]) ?_)) e5 q
      exact (p7 h).symm
    intro H5 e5 t5
    dsimp only [tNext]
    obtain ⟨p9, p10⟩ := p8 t5
    refine st_if (b := decide (a = b)) ?_ e5 ?_ ?_
    · rw [← sv_one]
      walk_at "ev"
    · intro H6 e6 h
      refine st_ret (ev_is (ev_s lt_0) (congrArg (fun c => sv [c]) ?_)) e6 q
      exact (p9 h).symm
    intro H6 e6 t6
    dsimp only [tNext]
    refine st_ret (ev_is (ev_s lt_1) (congrArg (fun c => sv [c]) ?_)) e6 q
    exact (p10 t6).symm

abbrev sp_law_both (K : PySem.W.Frag) (Ts : List Addr) : Sp := FnN Ts (fun x : List Nat × List Nat => [sv x.1, sv x.2]) (fun x _ => x.1.length ≤ 1000 ∧ x.2.length ≤ 1000) fun x => .tup [sv (exL x.1 x.2), sv (exR x.1 x.2)]

theorem ok_law_both {f : Addr} {fd : FuncData} (F : Fun K "_law_both" "_law_both" s_law_both f fd) (T : Txt mg K w pA pO pX pN)  :
    FnOk P w K mg base CX0 1 f fd ["one", "two"] (sp_law_both K Ts) := by
  refine F.ok sc_law_both (fun vs H Q E h => ?_) (fun cdv A outer s H vs Q E hr h => ?_)
  · obtain ⟨x, rfl, _⟩ := h
    rfl
  · obtain ⟨⟨a, b⟩, ev, hd, g, q⟩ := h
    replace ev : vs = [sv a, sv b] := ev
    subst ev
    have h1 : a.length ≤ 1000 := hd.1
    have h2 : b.length ≤ 1000 := hd.2
    have hw : wid a b ≤ 1000 := Nat.max_le.mpr ⟨h1, h2⟩
    refine ⟨_, (pss_cons (ps_set (i := 2) sc_law_both.nd rfl (.inl rfl) (pe_callB (call_max2 rfl) (by rfl) T.max (by decide +kernel) (pa_cons (pe_callB call_len_str (by rfl) T.len PySem.boot_len (pa_cons (pv 0) pa_nil)) (pa_cons (pe_callB call_len_str (by rfl) T.len PySem.boot_len (pa_cons (pv 1) pa_nil)) pa_nil))))
      (pss_one (ps_ret (pe_tup (pa_cons (pe_op op_add_str (pe_op op_mulS pe_str (pe_op op_sub (pv 2) (pe_callB call_len_str (by rfl) T.len PySem.boot_len (pa_cons (pv 0) pa_nil)))) (pv 0)) (pa_cons (pe_op op_add_str (pe_op op_mulS pe_str (pe_op op_sub (pv 2) (pe_callB call_len_str (by rfl) T.len PySem.boot_len (pa_cons (pv 1) pa_nil)))) (pv 1)) pa_nil)))))), ?_⟩
    refine st_set (v := .int (wid a b : Nat)) ?_ (Ex.refl g) ?_
    · refine ev_is ?_ (congrArg V.int (max_wid a b))
      walk_at "ev"
    intro H1 e1
    dsimp only
    refine st_retN (R := .tup [sv (exL a b), sv (exR a b)]) ?_ e1 ?_
    · refine en_tup (ea_cons (x := sv (exL a b)) ?_ (ea_cons (x := sv (exR a b)) ?_ ea_nil)) (by show 2 ≤ 100000; decide)
      · refine ev_is (v := sv (List.replicate ((wid a b : Int) - (a.length : Int)).toNat 48 ++ a)) ?_ ?_
        · refine ev_op (ev_op (ev_s lt_0) (ev_op (ev_var rfl) (ev_cb (ea_cons (ev_var rfl) ea_nil) (rc_lenS (by omega))) rv_I0) (rv_mulS (by omega) (by omega))) (ev_var rfl) (rv_addS ?_)
          rw [List.length_replicate]
          omega
        · show sv _ = sv (List.replicate (wid a b - a.length) 48 ++ a)
          have e : ((wid a b : Int) - (a.length : Int)).toNat = wid a b - a.length := by omega
          rw [e]
      · refine ev_is (v := sv (List.replicate ((wid a b : Int) - (b.length : Int)).toNat 48 ++ b)) ?_ ?_
        · refine ev_op (ev_op (ev_s lt_0) (ev_op (ev_var rfl) (ev_cb (ea_cons (ev_var rfl) ea_nil) (rc_lenS (by omega))) rv_I0) (rv_mulS (by omega) (by omega))) (ev_var rfl) (rv_addS ?_)
          rw [List.length_replicate]
          omega
        · show sv _ = sv (List.replicate (wid a b - b.length) 48 ++ b)
          have e : ((wid a b : Int) - (b.length : Int)).toNat = wid a b - b.length := by omega
          rw [e]
    · exact fun p H2 n _ e2 hp => q p H2 n e2 hp

abbrev sp_law_pairs (K : PySem.W.Frag) (Ts : List Addr) : Sp := FnV Ts (fun x : Nat × List Nat × List Nat => [sv (ruleT x.1), sv x.2.1, sv x.2.2]) (fun x => x.1 ≤ 2 ∧ Vec x.2.1 ∧ Vec x.2.2) fun x => sv (map2 (pairB x.1) x.2.1 x.2.2)

theorem ok_law_pairs {f : Addr} {fd : FuncData} (F : Fun K "_law_pairs" "_law_pairs" s_law_pairs f fd) (T : Txt mg K w pA pO pX pN) (C_law_both : Callee P w K mg base "_law_both" 1 ["one", "two"] (sp_law_both K Ts)) (C_law_pair : Callee P w K mg base "_law_pair" 1 ["rule", "one", "two"] (sp_law_pair K Ts)) :
    FnOk P w K mg base CX0 2 f fd ["rule", "one", "two"] (sp_law_pairs K Ts) := by
  refine F.ok sc_law_pairs (fun vs H Q E h => ?_) (fun cdv A outer s H vs Q E hr h => ?_)
  · obtain ⟨x, rfl, _⟩ := h
    rfl
  · obtain ⟨⟨r, a, b⟩, ev, hd, g, q⟩ := h
    replace ev : vs = [sv (ruleT r), sv a, sv b] := ev
    subst ev
    have hr2 : r ≤ 2 := hd.1
    have ha : Vec a := hd.2.1
    have hb : Vec b := hd.2.2
    refine ⟨_, (pss_cons (ps_asg (pe_fn C_law_both (hr.mono (by decide)) (by rfl) (pa_cons (pv 1) (pa_cons (pv 2) pa_nil))) (pg_tup rfl (pgs_cons (pg_name (i := 3) sc_law_pairs.nd rfl (.inl rfl)) (pgs_cons (pg_name (i := 4) sc_law_pairs.nd rfl (.inl rfl)) pgs_nil))))
      (pss_one (ps_ret (pe_bm PySem.F.plainAttrs_str PySem.F.slot_str_join PySem.F.type_str_join mt_join pe_str (pa_cons (pe_lc (own := [("a", 5), ("b", 6)]) (by rfl) sc_law_pairs.nd (pi_zips (by rfl) T.zip (pa_cons (pv 3) (pa_cons (pv 4) pa_nil))) (blkOk_by (own := [("a", 5), ("b", 6)]) (N := ["rule", "one", "two", "left", "right", "a", "b"]) (sc := defScope s_law_pairs) (by decide +kernel)) (fun _ _ _ _ _ => show PG _ _ (gTup K 2 _) from pg_tup rfl (pgs_cons (pg_name (i := 5) sc_law_pairs.nd rfl (Or.inl rfl)) (pgs_cons (pg_name (i := 6) sc_law_pairs.nd rfl (Or.inl rfl)) pgs_nil))) (fun _ _ _ _ _ => pts_nil) (fun _ _ _ _ _ => (pe_fn C_law_pair (hr.mono (by decide)) (by rfl) (pa_cons (pv 0) (pa_cons (pv 5) (pa_cons (pv 6) pa_nil)))))) pa_nil))))), ?_⟩
    refine st_pair (x := sv (exL a b)) (y := sv (exR a b)) ?_ (Ex.refl g) ?_
    · exact en_call (a, b) (ea_cons (ev_var rfl) (ea_cons (ev_var rfl) ea_nil)) fun _ _ => ⟨Nat.le_trans ha.le (by decide), Nat.le_trans hb.le (by decide)⟩
    intro H1 e1
    dsimp only
    have hw : wid a b ≤ 100000 := Nat.le_trans (wid_le ha.le hb.le) (by decide)
    refine st_ret (ev_is (v := sv (((exL a b).zip (exR a b)).map fun p => [pairB r p.1 p.2]).flatten) ?_ (congrArg sv (flat_one (fun p : Nat × Nat => pairB r p.1 p.2) _))) e1 q
    refine ev_join (ev_s lt_e) (ev_strs (K := K) (fun p : Nat × Nat => pairB r p.1 p.2) _ ?_) ?_ (fun _ => rfl)
    · refine en_lcZ (f := fun c d => sv [pairB r c d]) (by decide) (ex_eq a b) (by rw [exL_len]; exact hw) (ev_var rfl) (ev_var rfl) fun c d hc hd => ?_
      exact ev_call (r, c, d) (ea_cons (ev_var rfl) (ea_cons (ev_var rfl) (ea_cons (ev_var rfl) ea_nil))) ⟨hr2, ext_all ha.all c hc, ext_all hb.all d hd⟩
    · rw [flat_one]
      show (map2 (pairB r) a b).length ≤ 100000
      rw [map2_len]
      exact hw

def foldB (r : Nat) (a : List Nat) : Nat := a.tail.foldl (pairB r) (norm (a.headD 0))
theorem norm_isB {c : Nat} (h : IsB c) : IsB (norm c) := by
  rcases h with rfl | rfl | rfl | rfl <;> decide
theorem cut_tail (a : List Nat) : cutS (S a) (some 1) none = S a.tail := by
  unfold cutS
  rw [S_len, S_list, show (some (1 : Int)) = some ((1 : Nat) : Int) from rfl, HT.sIx_nat, HT.sIx_none]
  cases a with
  | nil => rfl
  | cons c r =>
    have e : min 1 (c :: r).length = 1 := by
      rw [List.length_cons]
      omega
    rw [e]
    show S (List.take ((c :: r).length - 1) r) = S r
    rw [List.length_cons, Nat.add_sub_cancel, List.take_length]

abbrev sp_law_fold (K : PySem.W.Frag) (Ts : List Addr) : Sp := FnV Ts (fun x : Nat × List Nat => [sv (ruleT x.1), sv x.2]) (fun x => x.1 ≤ 2 ∧ Vec x.2) fun x => sv [foldB x.1 x.2]

theorem ok_law_fold {f : Addr} {fd : FuncData} (F : Fun K "_law_fold" "_law_fold" s_law_fold f fd) (T : Txt mg K w pA pO pX pN) (C_law_pair : Callee P w K mg base "_law_pair" 1 ["rule", "one", "two"] (sp_law_pair K Ts)) :
    FnOk P w K mg base CX0 2 f fd ["rule", "vector"] (sp_law_fold K Ts) := by
  refine F.ok sc_law_fold (fun vs H Q E h => ?_) (fun cdv A outer s H vs Q E hr h => ?_)
  · obtain ⟨x, rfl, _⟩ := h
    rfl
  · obtain ⟨⟨r, a⟩, ev, hd, g, q⟩ := h
    replace ev : vs = [sv (ruleT r), sv a] := ev
    subst ev
    have hr2 : r ≤ 2 := hd.1
    have ha : Vec a := hd.2
    refine ⟨_, (pss_cons (ps_set (i := 2) sc_law_fold.nd rfl (.inl rfl) (pe_ix ix_str (pv 1) pe_int (fun _ _ => rfl)))
      (pss_cons (ps_if (pt_cmpR op_notIn_sign (pv 2) pe_str rfl)
      (pss_one (ps_set (i := 2) sc_law_fold.nd rfl (.inl rfl) pe_str)) pss_nil)
      (pss_cons (ps_for PassesOwn.never rfl (pi_str (pe_slice sl_str (pv 1) (po_some pe_int) po_none)) (pg_name (i := 3) sc_law_fold.nd rfl (.inl rfl))
      (pss_one (ps_set (i := 2) sc_law_fold.nd rfl (.inl rfl) (pe_fn C_law_pair (hr.mono (by decide)) (by rfl) (pa_cons (pv 0) (pa_cons (pv 2) (pa_cons (pv 3) pa_nil)))))))
      (pss_one (ps_ret (pv 2)))))), ?_⟩
    cases a with
    | nil => exact absurd ha.pos (by decide)
    | cons c t =>
    have hc : IsB c := ha.all c (List.mem_cons_self ..)
    have ht : AllB t := fun x hx => ha.all x (List.mem_cons_of_mem _ hx)
    have hl : (c :: t).length ≤ 100000 := Nat.le_trans ha.le (by decide)
    refine st_set (v := sv [c]) (ev_op (ev_var rfl) ev_c (rv_ixS hl (show atI (c :: t) ((0 : Nat) : Int) = some c from atI_nat rfl))) (Ex.refl g) ?_
    intro H1 e1
    dsimp only
    have fin : ∀ H2, Ex Ts H H2 → tSeq (tFor (iStr (tSl rSlS (tVar 1) (tPart (tC (.int 1))) tNoPart)) (gName 3) (tAsg (tCall (sp_law_pair K Ts) [] E0 (tCons (tVar 0) (tCons (tVar 2) (tCons (tVar 3) tNil)))) (gName 2))) (tRet (tVar 2)) { nx := fun _ H' => Q .non H', rt := Q }
        [some (sv (ruleT r)), some (sv (c :: t)), some (sv [norm c]), none] H2 := by
      intro H2 e2
      refine st_forS (a := t) (ev_slS hl (ev_var rfl) (eo_some ev_c) eo_none (cut_tail (c :: t))) e2 (fun i σ => ∃ z, σ = [some (sv (ruleT r)), some (sv (c :: t)), some (sv [(t.take i).foldl (pairB r) (norm c)]), z]) ⟨_, rfl⟩ ?_ ?_
      · rintro i d σ H3 N B hd ⟨z, rfl⟩ e3 hN
        refine st_set (v := sv [(t.take (i + 1)).foldl (pairB r) (norm c)]) ?_ e3 ?_
        · rw [fold_snoc hd]
          exact ev_call (r, (t.take i).foldl (pairB r) (norm c), d) (ea_cons (ev_var rfl) (ea_cons (ev_var rfl) (ea_cons (ev_var rfl) ea_nil))) ⟨hr2, take_isB (fun _ _ => isB_pair) (norm_isB hc) ht i, ht d (List.mem_of_getElem? hd)⟩
        · exact fun H4 e4 => hN _ H4 e4 ⟨_, rfl⟩
      · rintro σ H3 e3 ⟨z, rfl⟩
        rw [List.take_length]
        exact st_ret (ev_var rfl) e3 q
    refine st_if (b := !(decide (c = 48) || decide (c = 49))) ?_ e1 ?_ ?_
    · rw [← mem_two]
      walk_at "ev"
    · intro H2 e2 h
      have hx : norm c = 120 := by
        rcases hc with rfl | rfl | rfl | rfl
        · exact absurd h (by decide)
        · exact absurd h (by decide)
        · rfl
        · rfl
      rw [hx] at fin
      refine st_set (v := sv [120]) (ev_s lt_x) e2 ?_
      intro H3 e3
      exact fin H3 e3
    · intro H2 e2 h
      have hx : norm c = c := by
        rcases hc with rfl | rfl | rfl | rfl
        · rfl
        · rfl
        · exact absurd h (by decide)
        · exact absurd h (by decide)
      rw [hx] at fin
      exact fin H2 e2

abbrev sp_law_merged (K : PySem.W.Frag) (Ts : List Addr) : Sp := FnV Ts (fun x : Nat × Nat => [sv [x.1], sv [x.2]]) (fun _ => True) fun x => sv [agB x.1 x.2]

theorem ok_law_merged {f : Addr} {fd : FuncData} (F : Fun K "_law_merged" "_law_merged" s_law_merged f fd) (T : Txt mg K w pA pO pX pN)  :
    FnOk P w K mg base CX0 1 f fd ["one", "two"] (sp_law_merged K Ts) := by
  refine F.ok sc_law_merged (fun vs H Q E h => ?_) (fun cdv A outer s H vs Q E hr h => ?_)
  · obtain ⟨x, rfl, _⟩ := h
    rfl
  · obtain ⟨⟨a, b⟩, ev, hd, g, q⟩ := h
    replace ev : vs = [sv [a], sv [b]] := ev
    subst ev
    refine ⟨_, (pss_cons (ps_if (PW.pt (pw_and (pt_cmpR op_eq (pv 0) (pv 1) (nomark _)) (pw_and1 (pt_cmpR op_in_sign (pv 0) pe_str rfl))))
      (pss_one (ps_ret (pv 0))) pss_nil)
      (pss_one (ps_ret pe_str))), ?_⟩
    refine st_if (b := decide (a = b) && (decide (a = 48) || decide (a = 49))) ?_ (Ex.refl g) ?_ ?_
    · rw [← sv_one, ← mem_two]
      walk_at "ev"
    · intro H1 e1 h
      refine st_ret (ev_is (ev_var rfl) (congrArg (fun c => sv [c]) ?_)) e1 q
      rw [Bool.and_eq_true, Bool.or_eq_true, decide_eq_true_eq, decide_eq_true_eq, decide_eq_true_eq] at h
      exact (if_pos h).symm
    intro H1 e1 h
    dsimp only [tNext]
    refine st_ret (ev_is (ev_s lt_x) (congrArg (fun c => sv [c]) ?_)) e1 q
    refine (if_neg fun z => ?_).symm
    replace z : a = b ∧ (a = 48 ∨ a = 49) := z
    rw [Bool.and_eq_false_iff, decide_eq_false_iff_not, Bool.or_eq_false_iff, decide_eq_false_iff_not, decide_eq_false_iff_not] at h
    rcases h with h | h
    · exact h z.1
    · rcases z.2 with q2 | q2
      · exact h.1 q2
      · exact h.2 q2

abbrev sp_law_chosen (K : PySem.W.Frag) (Ts : List Addr) : Sp := FnV Ts (fun x : List Nat × List Nat × List Nat => [sv x.1, sv x.2.1, sv x.2.2]) (fun x => Vec x.1 ∧ Vec x.2.1 ∧ Vec x.2.2) fun x => sv (chB (foldB 1 x.1) x.2.1 x.2.2)

theorem ok_law_chosen {f : Addr} {fd : FuncData} (F : Fun K "_law_chosen" "_law_chosen" s_law_chosen f fd) (T : Txt mg K w pA pO pX pN) (C_law_both : Callee P w K mg base "_law_both" 1 ["one", "two"] (sp_law_both K Ts)) (C_law_fold : Callee P w K mg base "_law_fold" 2 ["rule", "vector"] (sp_law_fold K Ts)) (C_law_merged : Callee P w K mg base "_law_merged" 1 ["one", "two"] (sp_law_merged K Ts)) :
    FnOk P w K mg base CX0 3 f fd ["condition", "one", "two"] (sp_law_chosen K Ts) := by
  refine F.ok sc_law_chosen (fun vs H Q E h => ?_) (fun cdv A outer s H vs Q E hr h => ?_)
  · obtain ⟨x, rfl, _⟩ := h
    rfl
  · obtain ⟨⟨c, a, b⟩, ev, hd, g, q⟩ := h
    replace ev : vs = [sv c, sv a, sv b] := ev
    subst ev
    have hc : Vec c := hd.1
    have ha : Vec a := hd.2.1
    have hb : Vec b := hd.2.2
    have hw : wid a b ≤ 100000 := Nat.le_trans (wid_le ha.le hb.le) (by decide)
    refine ⟨_, (pss_cons (ps_asg (pe_fn C_law_both (hr.mono (by decide)) (by rfl) (pa_cons (pv 1) (pa_cons (pv 2) pa_nil))) (pg_tup rfl (pgs_cons (pg_name (i := 3) sc_law_chosen.nd rfl (.inl rfl)) (pgs_cons (pg_name (i := 4) sc_law_chosen.nd rfl (.inl rfl)) pgs_nil))))
      (pss_cons (ps_set (i := 5) sc_law_chosen.nd rfl (.inl rfl) (pe_fn C_law_fold (hr.mono (by decide)) (by rfl) (pa_cons pe_str (pa_cons (pv 0) pa_nil))))
      (pss_cons (ps_if (pt_cmpR op_eq (pv 5) pe_str (nomark _))
      (pss_one (ps_ret (pv 3))) pss_nil)
      (pss_cons (ps_if (pt_cmpR op_eq (pv 5) pe_str (nomark _))
      (pss_one (ps_ret (pv 4))) pss_nil)
      (pss_one (ps_ret (pe_bm PySem.F.plainAttrs_str PySem.F.slot_str_join PySem.F.type_str_join mt_join pe_str (pa_cons (pe_lc (own := [("a", 6), ("b", 7)]) (by rfl) sc_law_chosen.nd (pi_zips (by rfl) T.zip (pa_cons (pv 3) (pa_cons (pv 4) pa_nil))) (blkOk_by (own := [("a", 6), ("b", 7)]) (N := ["condition", "one", "two", "left", "right", "decided", "a", "b"]) (sc := defScope s_law_chosen) (by decide +kernel)) (fun _ _ _ _ _ => show PG _ _ (gTup K 2 _) from pg_tup rfl (pgs_cons (pg_name (i := 6) sc_law_chosen.nd rfl (Or.inl rfl)) (pgs_cons (pg_name (i := 7) sc_law_chosen.nd rfl (Or.inl rfl)) pgs_nil))) (fun _ _ _ _ _ => pts_nil) (fun _ _ _ _ _ => (pe_fn C_law_merged (hr.mono (by decide)) (by rfl) (pa_cons (pv 6) (pa_cons (pv 7) pa_nil))))) pa_nil)))))))), ?_⟩
    refine st_pair (x := sv (exL a b)) (y := sv (exR a b)) ?_ (Ex.refl g) ?_
    · exact en_call (a, b) (ea_cons (ev_var rfl) (ea_cons (ev_var rfl) ea_nil)) fun _ _ => ⟨Nat.le_trans ha.le (by decide), Nat.le_trans hb.le (by decide)⟩
    intro H1 e1
    dsimp only
    refine st_set (v := sv [foldB 1 c]) (ev_call (1, c) (ea_cons (ev_s lt_or) (ea_cons (ev_var rfl) ea_nil)) ⟨show (1 : Nat) ≤ 2 by decide, hc⟩) e1 ?_
    intro H2 e2
    dsimp only
    refine st_if (b := decide (foldB 1 c = 49)) ?_ e2 ?_ ?_
    · rw [← sv_one]
      exact et_test (ev_op (ev_var rfl) (ev_s lt_1) (rv_eq rfl))
    · intro H3 e3 h
      refine st_ret (ev_is (ev_var rfl) (congrArg sv ?_)) e3 q
      exact (if_pos (of_decide_eq_true h)).symm
    intro H3 e3 h1
    dsimp only [tNext]
    refine st_if (b := decide (foldB 1 c = 48)) ?_ e3 ?_ ?_
    · rw [← sv_one]
      exact et_test (ev_op (ev_var rfl) (ev_s lt_0) (rv_eq rfl))
    · intro H4 e4 h
      refine st_ret (ev_is (ev_var rfl) (congrArg sv ?_)) e4 q
      exact ((if_neg (of_decide_eq_false h1)).trans (if_pos (of_decide_eq_true h))).symm
    intro H4 e4 h2
    dsimp only [tNext]
    refine st_ret (v := sv (map2 agB a b)) ?_ e4 ?_
    · refine ev_is (v := sv (((exL a b).zip (exR a b)).map fun p => [agB p.1 p.2]).flatten) ?_ (congrArg sv (flat_one (fun p : Nat × Nat => agB p.1 p.2) _))
      refine ev_join (ev_s lt_e) (ev_strs (K := K) (fun p : Nat × Nat => agB p.1 p.2) _ ?_) ?_ (fun _ => rfl)
      · refine en_lcZ (f := fun c d => sv [agB c d]) (by decide) (ex_eq a b) (by rw [exL_len]; exact hw) (ev_var rfl) (ev_var rfl) fun c d _ _ => ?_
        exact ev_call (c, d) (ea_cons (ev_var rfl) (ea_cons (ev_var rfl) ea_nil)) trivial
      · rw [flat_one]
        show (map2 agB a b).length ≤ 100000
        rw [map2_len]
        exact hw
    · have e : chB (foldB 1 c) a b = map2 agB a b := (if_neg (of_decide_eq_false h1)).trans (if_neg (of_decide_eq_false h2))
      show ∀ H', Ex Ts H H' → Q (sv (map2 agB a b)) H'
      rw [← e]
      exact q

theorem bin_snoc {a : List Nat} {i c : Nat} (h : a[i]? = some c) : binNum (a.take (i + 1)) = binNum (a.take i) * 2 + bv c := by
  unfold binNum
  rw [List.take_add_one, h, List.foldl_append]
  rfl

abbrev sp_law_picked (K : PySem.W.Frag) (Ts : List Addr) : Sp := FnV Ts (fun x : List Nat × List Nat => [sv x.1, sv x.2]) (fun x => Vec x.1 ∧ Vec x.2) fun x => sv [pkB x.1 x.2]

theorem ok_law_picked {f : Addr} {fd : FuncData} (F : Fun K "_law_picked" "_law_picked" s_law_picked f fd) (T : Txt mg K w pA pO pX pN)  :
    FnOk P w K mg base CX0 1 f fd ["vector", "index"] (sp_law_picked K Ts) := by
  refine F.ok sc_law_picked (fun vs H Q E h => ?_) (fun cdv A outer s H vs Q E hr h => ?_)
  · obtain ⟨x, rfl, _⟩ := h
    rfl
  · obtain ⟨⟨a, i⟩, ev, hd, g, q⟩ := h
    replace ev : vs = [sv a, sv i] := ev
    subst ev
    have ha : Vec a := hd.1
    have hi : Vec i := hd.2
    refine ⟨_, (pss_cons (ps_set (i := 2) sc_law_picked.nd rfl (.inl rfl) pe_int)
      (pss_cons (ps_for PassesOwn.never rfl (pi_str (pv 1)) (pg_name (i := 3) sc_law_picked.nd rfl (.inl rfl))
      (pss_cons (ps_if (pt_cmpR op_notIn_sign (pv 3) pe_str rfl)
      (pss_one (ps_ret pe_str)) pss_nil)
      (pss_one (ps_set (i := 2) sc_law_picked.nd rfl (.inl rfl) (pe_op op_add (pe_op op_mul pe_int (pv 2)) (pe_callTy call_int1 (by rfl) T.int (by decide +kernel) (pa_cons (pe_cmpR op_eq (pv 3) pe_str (nomark _)) pa_nil)))))))
      (pss_cons (ps_if (pt_cmpR op_ge (pv 2) (pe_callB call_len_str (by rfl) T.len PySem.boot_len (pa_cons (pv 0) pa_nil)) (nomark _))
      (pss_one (ps_ret pe_str)) pss_nil)
      (pss_one (ps_ret (pe_ix ix_str (pv 0) (pe_op op_sub (pe_op op_sub (pe_callB call_len_str (by rfl) T.len PySem.boot_len (pa_cons (pv 0) pa_nil)) pe_int) (pv 2)) (fun _ _ => rfl))))))), ?_⟩
    refine st_set (v := .int 0) ev_c (Ex.refl g) ?_
    intro H1 e1
    dsimp only
    refine st_forS (a := i) (ev_var rfl) e1 (fun k σ => (∀ c ∈ i.take k, c = 48 ∨ c = 49) ∧ ∃ z, σ = [some (sv a), some (sv i), some (.int (binNum (i.take k) : Nat)), z]) ⟨fun c hc => absurd hc (by simp), _, rfl⟩ ?_ ?_
    · rintro k c σ H2 N B hc ⟨hk, z, rfl⟩ e2 hN
      refine st_if (b := !(decide (c = 48) || decide (c = 49))) ?_ e2 ?_ ?_
      · rw [← mem_two]
        walk_at "ev"
      · intro H3 e3 h
        refine st_ret (ev_is (ev_s lt_x) (congrArg (fun c => sv [c]) ?_)) e3 q
        refine (if_neg fun z => ?_).symm
        replace z : (i.all fun c => decide (c ∈ [48, 49])) = true := z
        have z2 := List.all_eq_true.mp z c (List.mem_of_getElem? hc)
        rw [mem_two] at z2
        rw [z2] at h
        exact absurd h (by decide)
      intro H3 e3 h
      dsimp only [tNext]
      have hc2 : c = 48 ∨ c = 49 := by
        rw [Bool.not_eq_false', Bool.or_eq_true, decide_eq_true_eq, decide_eq_true_eq] at h
        exact h
      refine st_set (v := .int (binNum (i.take (k + 1)) : Nat)) ?_ e3 ?_
      · refine ev_is (v := .int (2 * (binNum (i.take k) : Int) + (if decide (sv [c] = sv [49]) then 1 else 0))) ?_ (congrArg V.int ?_)
        · exact ev_op (ev_op ev_c (ev_var rfl) (rv_I (Or.inl ⟨by decide, by decide⟩))) (ev_cb (ea_cons (ev_op (ev_var rfl) (ev_s lt_1) (rv_eq rfl)) ea_nil) rc_intB) rv_I0
        · rw [bin_snoc hc, sv_one]
          rcases hc2 with rfl | rfl
          · show 2 * (binNum (i.take k) : Int) + 0 = ((binNum (i.take k) * 2 + 0 : Nat) : Int)
            omega
          · show 2 * (binNum (i.take k) : Int) + 1 = ((binNum (i.take k) * 2 + 1 : Nat) : Int)
            omega
      · refine fun H4 e4 => hN _ H4 e4 ⟨fun d hd => ?_, _, rfl⟩
        rw [List.take_add_one, hc] at hd
        rcases List.mem_append.mp hd with h1 | h1
        · exact hk d h1
        · rw [show d = c from List.mem_singleton.mp h1]
          exact hc2
    · rintro σ H2 e2 ⟨hk, z, rfl⟩
      rw [List.take_length] at hk ⊢
      have h : (i.all fun c => decide (c ∈ [48, 49])) = true := List.all_eq_true.mpr fun c hc => by
        rw [mem_two, Bool.or_eq_true, decide_eq_true_eq, decide_eq_true_eq]
        exact hk c hc
      dsimp only
      refine st_if (b := decide ((a.length : Int) ≤ ((binNum i : Nat) : Int))) ?_ e2 ?_ ?_
      · exact et_test (ev_op (ev_var rfl) (ev_cb (ea_cons (ev_var rfl) ea_nil) (rc_lenS (Nat.le_trans ha.le (by decide)))) rv_I0)
      · intro H3 e3 h3
        refine st_ret (ev_is (ev_s lt_0) (congrArg (fun c => sv [c]) ?_)) e3 q
        have h4 := of_decide_eq_true h3
        have h5 : a.length ≤ binNum i := by omega
        exact ((if_pos h).trans (if_pos h5)).symm
      intro H3 e3 h3
      dsimp only [tNext]
      have h4 := of_decide_eq_false h3
      refine st_ret (v := sv [a.getD (a.length - 1 - binNum i) 0]) ?_ e3 ?_
      · have hlt : binNum i < a.length := by omega
        refine ev_op (ev_var rfl) (ev_op (ev_op (ev_cb (ea_cons (ev_var rfl) ea_nil) (rc_lenS (Nat.le_trans ha.le (by decide)))) ev_c rv_I0) (ev_var rfl) rv_I0) (rv_ixS (Nat.le_trans ha.le (by decide)) ?_)
        have hp := ha.pos
        have e : (a.length : Int) - 1 - ((binNum i : Nat) : Int) = ((a.length - 1 - binNum i : Nat) : Int) := by omega
        rw [e]
        refine atI_nat ?_
        have hlt : a.length - 1 - binNum i < a.length := by omega
        rw [List.getElem?_eq_getElem hlt, List.getD_eq_getElem?_getD, List.getElem?_eq_getElem hlt]
        rfl
      · have e : pkB a i = a.getD (a.length - 1 - binNum i) 0 := (if_pos h).trans (if_neg (show ¬ a.length ≤ binNum i by omega))
        show ∀ H', Ex Ts H H' → Q (sv [a.getD (a.length - 1 - binNum i) 0]) H'
        rw [← e]
        exact q
end
end K02
set_option Elab.async false
set_option linter.all false
set_option maxRecDepth 100000
set_option maxHeartbeats 2000000
namespace K02
open PySem PySem.Spec PyProof.Rows L2 Cw
open GxR (TabG Tabbed TabB GenS)
local macro_rules | `(tactic| walk_at "ev") => `(tactic| first
  | exact ev_var rfl
  | exact ev_s lt_e | exact ev_s lt_0 | exact ev_s lt_1 | exact ev_s lt_x | exact ev_s lt_01 | exact ev_s lt_10 | exact ev_s lt_0110 | exact ev_s lt_01xz | exact ev_s lt_and | exact ev_s lt_or | exact ev_s lt_xor
  | exact ev_c
  | (apply ev_op <;> walk_at "ev")
  | exact rv_I0 | (refine rv_I ?_; first | omega | decide | assumption)
  | exact rv_eq rfl | exact rv_ne rfl | exact rv_inS | exact rv_niS
  | (refine rv_addS ?_; first | assumption | omega | decide)
  | (refine rv_mulS ?_ ?_ <;> first | assumption | omega | decide)
  | (apply ev_cb <;> walk_at "ev")
  | (refine rc_lenS ?_; first | assumption | omega | decide)
  | exact rc_max | exact rc_abs | exact rc_intI | exact rc_intB
  | exact ea_nil
  | (apply ea_cons <;> walk_at "ev")
  | (apply et_test; walk_at "ev")
  | (apply et_B; walk_at "ev"))
section
variable {P : Program} {w : World} {K : PySem.W.Frag} {mg : Str → Option Value} {base : Heap} {pA pO pX pN : Addr} {Ts : List Addr}
theorem drop_ints (ns : List Int) (k : Int) : ∃ ms : List Int, cutV (ns.map V.int) (some k) none = ms.map V.int := by
  unfold cutV
  rw [← List.map_drop, ← List.map_take]
  exact ⟨_, rfl⟩
theorem es_vec {a : Addr} {ns : List Int} {k i : Int} {pl : Bool} {tsz : TE} {σ : L2.St} {H : Hp} (g : Good Ts H) (hS : SqL K H a (ns.map V.int)) (h0 : σ[0]? = some (some (.ref a))) (h1 : σ[1]? = some (some (.bl pl))) (hsz : Ev Ts tsz σ H (.int i)) (hi : 1 ≤ i) (hi2 : i ≤ 64) :
    EvS Ts (tCall (sp_law_vector K Ts) [] E0 (tCons (tCall (sp_law_numbers K Ts) [] E0 (tCons (tSl (rSlL K) (tVar 0) (tPart (tC (.int k))) tNoPart) (tCons (tC (.int 4)) (tCons (tC (.int 64)) tNil)))) (tCons tsz (tCons (tVar 1) tNil)))) σ H
      (fun v _ => ∃ x, v = sv x ∧ Vec x) := by
  intro H1 e1 Q q
  obtain ⟨ms0, em⟩ := drop_ints ns k
  refine (en_slL (K := K) g (ev_var h0) (eo_some ev_c) eo_none hS) H1 e1 _ fun p H2 _ e2 hp => ?_
  rw [em] at hp
  refine ⟨(p, ms0, 4, 64), rfl, ⟨l_of hp, (show (2 : Nat) ≤ 4 by decide), (show (4 : Nat) ≤ 1000000 by decide), (show (64 : Nat) ≤ 1000 by decide)⟩, e2.good, fun v H3 e3 r => ?_⟩
  obtain ⟨l, ms, rfl, hl, hlen, hB⟩ := r
  replace hlen : ms.length = 64 := hlen
  refine hsz H3 ((e1.trans e2).trans e3) _ fun H4 e4 => ⟨_, h1, ?_⟩
  have hn : ((i.toNat : Nat) : Int) = i := by omega
  refine ⟨(l, ms, i.toNat, pl), (show [V.ref l, V.int i, V.bl pl] = [V.ref l, V.int ((i.toNat : Nat) : Int), V.bl pl] by rw [hn]), ⟨e4.l e3.good (l_of hl), hB, by show i.toNat ≤ ms.length; omega, by show i.toNat ≤ 64; omega⟩, e4.good, fun H5 e5 => q _ H5 (((e2.trans e3).trans e4).trans e5) ⟨_, rfl, fun c hc => ?_, ?_, ?_⟩⟩
  · obtain ⟨z, hz, rfl⟩ := List.mem_map.mp hc
    have hz2 := hB z (List.mem_of_mem_take hz)
    exact sgn_isB hz2.1 hz2.2
  · show 1 ≤ ((ms.take i.toNat).map (sgn pl)).length
    rw [List.length_map, List.length_take]
    omega
  · show ((ms.take i.toNat).map (sgn pl)).length ≤ 64
    rw [List.length_map, List.length_take]
    omega
theorem fold_rule {f : Nat → Nat → Nat} {e r : Nat} (hf : ∀ a b, pairB r a b = f a b) (hn : ∀ c, IsB c → f e c = norm c) {a : List Nat} (h : Vec a) : a.foldl f e = foldB r a := by
  cases a with
  | nil => exact absurd h.pos (by decide)
  | cons c t =>
    show t.foldl f (f e c) = t.foldl (pairB r) (norm c)
    rw [hn c (h.all c (List.mem_cons_self ..)), show pairB r = f from funext fun a => funext fun b => hf a b]
theorem fold_and {a : List Nat} (h : Vec a) : a.foldl andB 49 = foldB 0 a := fold_rule (f := andB) (e := 49) (r := 0) (fun _ _ => rfl) (fun c hc => by rcases hc with rfl | rfl | rfl | rfl <;> rfl) h
theorem fold_or {a : List Nat} (h : Vec a) : a.foldl orB 48 = foldB 1 a := fold_rule (f := orB) (e := 48) (r := 1) (fun _ _ => rfl) (fun c hc => by rcases hc with rfl | rfl | rfl | rfl <;> rfl) h
theorem fold_xor {a : List Nat} (h : Vec a) : a.foldl xorB 48 = foldB 2 a := fold_rule (f := xorB) (e := 48) (r := 2) (fun _ _ => rfl) (fun c hc => by rcases hc with rfl | rfl | rfl | rfl <;> rfl) h
theorem foldB_isB {r : Nat} {a : List Nat} (h : Vec a) : IsB (foldB r a) := by
  cases a with
  | nil => exact absurd h.pos (by decide)
  | cons c t => exact fold_isB (fun _ _ => isB_pair) (norm_isB (h.all c (List.mem_cons_self ..))) fun x hx => h.all x (List.mem_cons_of_mem _ hx)
theorem et_ne {σ : L2.St} {H : Hp} {ta tb : TE} {a b : List Nat} (ha : Ev Ts ta σ H (sv a)) (hb : Ev Ts tb σ H (sv b)) (e : a = b) : EvT Ts (tTest (tOp rNe ta tb)) σ H false := by
  subst e
  refine et_is (et_test (ev_op ha hb (rv_ne rfl))) ?_
  rw [decide_eq_true rfl]
  rfl
theorem ev_eqT {σ : L2.St} {H : Hp} {ta tb : TE} {a : List Nat} (ha : Ev Ts ta σ H (sv a)) (hb : Ev Ts tb σ H (sv a)) : Ev Ts (tOp rEq ta tb) σ H (.bl true) := by
  refine ev_is (ev_op ha hb (rv_eq rfl)) ?_
  rw [decide_eq_true rfl]
theorem st_par {σ : L2.St} {H H0 : Hp} {D : Ends} {ta tb : TE} {i j : Nat} {x y : V} (h1 : Ev Ts ta σ H0 x) (h2 : Ev Ts tb σ H0 y) (e : Ex Ts H0 H) (k : ∀ H2, Ex Ts H0 H2 → D.nx ((σ.set i (some x)).set j (some y)) H2) : tPar i j (tCons ta (tCons tb tNil)) D σ H :=
  (ea_cons h1 (ea_cons h2 ea_nil)) H e _ fun H2 e2 => ⟨x, y, rfl, k H2 (e.trans e2)⟩
theorem st_no {σ : L2.St} {H H0 : Hp} {D : Ends} {tc : TT} {t1 : TS} (h : EvT Ts tc σ H0 false) (e : Ex Ts H0 H) (k : ∀ H2, Ex Ts H0 H2 → D.nx σ H2) : tIfS tc t1 tNext D σ H := st_if h e (fun _ _ z => by cases z) fun H2 e2 _ => k H2 e2

abbrev sp_law (K : PySem.W.Frag) (Ts : List Addr) : Sp := FnL Ts (fun x : Addr × List Int => [.ref x.1]) (fun x H => SqL K H x.1 (x.2.map V.int)) fun _ => .bl true

theorem ok_law {f : Addr} {fd : FuncData} (F : Fun K "law" "law" s_law f fd) (T : Txt mg K w pA pO pX pN) (C_law_cell : Callee P w K mg base "_law_cell" 1 ["script", "k"] (sp_law_cell K Ts)) (C_law_numbers : Callee P w K mg base "_law_numbers" 1 ["script", "base", "many"] (sp_law_numbers K Ts)) (C_law_vector : Callee P w K mg base "_law_vector" 1 ["numbers", "size", "plain"] (sp_law_vector K Ts)) (C_law_not : Callee P w K mg base "_law_not" 1 ["one"] (sp_law_not K Ts)) (C_bit_not : Callee P w K mg base "bit_not" 1 ["vector"] (sp_bit_not K Ts)) (C_bit_and : Callee P w K mg base "bit_and" 3 ["one", "two"] (sp_bit_and K Ts)) (C_bit_or : Callee P w K mg base "bit_or" 3 ["one", "two"] (sp_bit_or K Ts)) (C_bit_xor : Callee P w K mg base "bit_xor" 3 ["one", "two"] (sp_bit_xor K Ts)) (C_law_pairs : Callee P w K mg base "_law_pairs" 2 ["rule", "one", "two"] (sp_law_pairs K Ts)) (C_reduce_and : Callee P w K mg base "reduce_and" 1 ["vector"] (sp_reduce_and K Ts)) (C_reduce_or : Callee P w K mg base "reduce_or" 1 ["vector"] (sp_reduce_or K Ts)) (C_reduce_xor : Callee P w K mg base "reduce_xor" 1 ["vector"] (sp_reduce_xor K Ts)) (C_truth : Callee P w K mg base "truth" 2 ["vector"] (sp_truth K Ts)) (C_law_fold : Callee P w K mg base "_law_fold" 2 ["rule", "vector"] (sp_law_fold K Ts)) (C_logic_not : Callee P w K mg base "logic_not" 3 ["vector"] (sp_logic_not K Ts)) (C_logic_and : Callee P w K mg base "logic_and" 4 ["one", "two"] (sp_logic_and K Ts)) (C_logic_or : Callee P w K mg base "logic_or" 4 ["one", "two"] (sp_logic_or K Ts)) (C_law_pair : Callee P w K mg base "_law_pair" 1 ["rule", "one", "two"] (sp_law_pair K Ts)) (C_choose : Callee P w K mg base "choose" 3 ["condition", "one", "two"] (sp_choose K Ts)) (C_law_chosen : Callee P w K mg base "_law_chosen" 3 ["condition", "one", "two"] (sp_law_chosen K Ts)) (C_pick : Callee P w K mg base "pick" 3 ["vector", "index"] (sp_pick K Ts)) (C_law_picked : Callee P w K mg base "_law_picked" 1 ["vector", "index"] (sp_law_picked K Ts)) :
    FnOk P w K mg base CX0 5 f fd ["script"] (sp_law K Ts) := by
  refine F.ok sc_law (fun vs H Q E h => ?_) (fun cdv A outer s H vs Q E hr h => ?_)
  · obtain ⟨x, rfl, _⟩ := h
    rfl
  · obtain ⟨⟨a, ns⟩, ev, hd, g, q⟩ := h
    replace ev : vs = [.ref a] := ev
    subst ev
    have hS : SqL K H a (ns.map V.int) := hd
    refine ⟨_, (pss_cons (ps_set (i := 1) sc_law.nd rfl (.inl rfl) (pe_cmpR op_eq (pe_op op_mod (pe_fn C_law_cell (hr.mono (by decide)) (by rfl) (pa_cons (pv 0) (pa_cons pe_int pa_nil))) pe_int) pe_int (nomark _)))
      (pss_cons (ps_set (i := 2) sc_law.nd rfl (.inl rfl) (pe_fn C_law_vector (hr.mono (by decide)) (by rfl) (pa_cons (pe_fn C_law_numbers (hr.mono (by decide)) (by rfl) (pa_cons (pe_slice sl_list (pv 0) (po_some pe_int) po_none) (pa_cons pe_int (pa_cons pe_int pa_nil)))) (pa_cons (pe_op op_add pe_int (pe_op op_mod (pe_op op_fdiv (pe_fn C_law_cell (hr.mono (by decide)) (by rfl) (pa_cons (pv 0) (pa_cons pe_int pa_nil))) pe_int) pe_int)) (pa_cons (pv 1) pa_nil)))))
      (pss_cons (ps_set (i := 3) sc_law.nd rfl (.inl rfl) (pe_fn C_law_vector (hr.mono (by decide)) (by rfl) (pa_cons (pe_fn C_law_numbers (hr.mono (by decide)) (by rfl) (pa_cons (pe_slice sl_list (pv 0) (po_some pe_int) po_none) (pa_cons pe_int (pa_cons pe_int pa_nil)))) (pa_cons (pe_op op_add pe_int (pe_op op_mod (pe_fn C_law_cell (hr.mono (by decide)) (by rfl) (pa_cons (pv 0) (pa_cons pe_int pa_nil))) pe_int)) (pa_cons (pv 1) pa_nil)))))
      (pss_cons (ps_set (i := 4) sc_law.nd rfl (.inl rfl) (pe_fn C_law_vector (hr.mono (by decide)) (by rfl) (pa_cons (pe_fn C_law_numbers (hr.mono (by decide)) (by rfl) (pa_cons (pe_slice sl_list (pv 0) (po_some pe_int) po_none) (pa_cons pe_int (pa_cons pe_int pa_nil)))) (pa_cons (pe_op op_add pe_int (pe_op op_mod (pe_op op_fdiv (pe_fn C_law_cell (hr.mono (by decide)) (by rfl) (pa_cons (pv 0) (pa_cons pe_int pa_nil))) pe_int) pe_int)) (pa_cons (pv 1) pa_nil)))))
      (pss_cons (ps_set (i := 5) sc_law.nd rfl (.inl rfl) (pe_fn C_law_vector (hr.mono (by decide)) (by rfl) (pa_cons (pe_fn C_law_numbers (hr.mono (by decide)) (by rfl) (pa_cons (pe_slice sl_list (pv 0) (po_some pe_int) po_none) (pa_cons pe_int (pa_cons pe_int pa_nil)))) (pa_cons (pe_op op_add pe_int (pe_op op_mod (pe_fn C_law_cell (hr.mono (by decide)) (by rfl) (pa_cons (pv 0) (pa_cons pe_int pa_nil))) pe_int)) (pa_cons (pv 1) pa_nil)))))
      (pss_cons (ps_if (pt_cmpR op_ne (pe_fn C_bit_not (hr.mono (by decide)) (by rfl) (pa_cons (pv 2) pa_nil)) (pe_bm PySem.F.plainAttrs_str PySem.F.slot_str_join PySem.F.type_str_join mt_join pe_str (pa_cons (pe_lc (own := [("sign", 6)]) (by rfl) sc_law.nd (pi_str (pv 2)) (blkOk_by (own := [("sign", 6)]) (N := ["script", "plain", "one", "two", "condition", "index", "sign", "left", "right"]) (sc := defScope s_law) (by decide +kernel)) (fun _ _ _ _ _ => pg_name (i := 6) sc_law.nd rfl (Or.inl rfl)) (fun _ _ _ _ _ => pts_nil) (fun _ _ _ _ _ => (pe_fn C_law_not (hr.mono (by decide)) (by rfl) (pa_cons (pv 6) pa_nil)))) pa_nil)) (nomark _))
      (pss_one (ps_ret pe_bl)) pss_nil)
      (pss_cons (ps_if (PW.pt (pw_or (pt_cmpR op_ne (pe_fn C_bit_and (hr.mono (by decide)) (by rfl) (pa_cons (pv 2) (pa_cons (pv 3) pa_nil))) (pe_fn C_law_pairs (hr.mono (by decide)) (by rfl) (pa_cons pe_str (pa_cons (pv 2) (pa_cons (pv 3) pa_nil)))) (nomark _)) (pw_or1 (pt_cmpR op_ne (pe_fn C_bit_or (hr.mono (by decide)) (by rfl) (pa_cons (pv 2) (pa_cons (pv 3) pa_nil))) (pe_fn C_law_pairs (hr.mono (by decide)) (by rfl) (pa_cons pe_str (pa_cons (pv 2) (pa_cons (pv 3) pa_nil)))) (nomark _)))))
      (pss_one (ps_ret pe_bl)) pss_nil)
      (pss_cons (ps_if (pt_cmpR op_ne (pe_fn C_bit_xor (hr.mono (by decide)) (by rfl) (pa_cons (pv 2) (pa_cons (pv 3) pa_nil))) (pe_fn C_law_pairs (hr.mono (by decide)) (by rfl) (pa_cons pe_str (pa_cons (pv 2) (pa_cons (pv 3) pa_nil)))) (nomark _))
      (pss_one (ps_ret pe_bl)) pss_nil)
      (pss_cons (ps_if (PW.pt (pw_or (pt_cmpR op_ne (pe_fn C_reduce_and (hr.mono (by decide)) (by rfl) (pa_cons (pv 2) pa_nil)) (pe_fn C_law_fold (hr.mono (by decide)) (by rfl) (pa_cons pe_str (pa_cons (pv 2) pa_nil))) (nomark _)) (pw_or1 (pt_cmpR op_ne (pe_fn C_reduce_or (hr.mono (by decide)) (by rfl) (pa_cons (pv 3) pa_nil)) (pe_fn C_law_fold (hr.mono (by decide)) (by rfl) (pa_cons pe_str (pa_cons (pv 3) pa_nil))) (nomark _)))))
      (pss_one (ps_ret pe_bl)) pss_nil)
      (pss_cons (ps_if (PW.pt (pw_or (pt_cmpR op_ne (pe_fn C_reduce_xor (hr.mono (by decide)) (by rfl) (pa_cons (pv 2) pa_nil)) (pe_fn C_law_fold (hr.mono (by decide)) (by rfl) (pa_cons pe_str (pa_cons (pv 2) pa_nil))) (nomark _)) (pw_or1 (pt_cmpR op_ne (pe_fn C_truth (hr.mono (by decide)) (by rfl) (pa_cons (pv 3) pa_nil)) (pe_fn C_law_fold (hr.mono (by decide)) (by rfl) (pa_cons pe_str (pa_cons (pv 3) pa_nil))) (nomark _)))))
      (pss_one (ps_ret pe_bl)) pss_nil)
      (pss_cons (ps_par (i := 7) (j := 8) (by rfl) sc_law.nd rfl rfl (by decide) rfl rfl (pa_cons (pe_fn C_law_fold (hr.mono (by decide)) (by rfl) (pa_cons pe_str (pa_cons (pv 2) pa_nil))) (pa_cons (pe_fn C_law_fold (hr.mono (by decide)) (by rfl) (pa_cons pe_str (pa_cons (pv 3) pa_nil))) pa_nil)) (by rfl))
      (pss_cons (ps_if (PW.pt (pw_or (pt_cmpR op_ne (pe_fn C_logic_not (hr.mono (by decide)) (by rfl) (pa_cons (pv 2) pa_nil)) (pe_fn C_law_not (hr.mono (by decide)) (by rfl) (pa_cons (pv 7) pa_nil)) (nomark _)) (pw_or1 (pt_cmpR op_ne (pe_fn C_logic_and (hr.mono (by decide)) (by rfl) (pa_cons (pv 2) (pa_cons (pv 3) pa_nil))) (pe_fn C_law_pair (hr.mono (by decide)) (by rfl) (pa_cons pe_str (pa_cons (pv 7) (pa_cons (pv 8) pa_nil)))) (nomark _)))))
      (pss_one (ps_ret pe_bl)) pss_nil)
      (pss_cons (ps_if (pt_cmpR op_ne (pe_fn C_logic_or (hr.mono (by decide)) (by rfl) (pa_cons (pv 2) (pa_cons (pv 3) pa_nil))) (pe_fn C_law_pair (hr.mono (by decide)) (by rfl) (pa_cons pe_str (pa_cons (pv 7) (pa_cons (pv 8) pa_nil)))) (nomark _))
      (pss_one (ps_ret pe_bl)) pss_nil)
      (pss_cons (ps_if (pt_cmpR op_ne (pe_fn C_choose (hr.mono (by decide)) (by rfl) (pa_cons (pv 4) (pa_cons (pv 2) (pa_cons (pv 3) pa_nil)))) (pe_fn C_law_chosen (hr.mono (by decide)) (by rfl) (pa_cons (pv 4) (pa_cons (pv 2) (pa_cons (pv 3) pa_nil)))) (nomark _))
      (pss_one (ps_ret pe_bl)) pss_nil)
      (pss_one (ps_ret (pe_and (pe_cmpR op_eq (pe_fn C_pick (hr.mono (by decide)) (by rfl) (pa_cons (pv 2) (pa_cons (pv 5) pa_nil))) (pe_fn C_law_picked (hr.mono (by decide)) (by rfl) (pa_cons (pv 2) (pa_cons (pv 5) pa_nil))) (nomark _)) (pe_one (pe_cmpR op_eq (pe_fn C_pick (hr.mono (by decide)) (by rfl) (pa_cons (pv 3) (pa_cons (pv 5) pa_nil))) (pe_fn C_law_picked (hr.mono (by decide)) (by rfl) (pa_cons (pv 3) (pa_cons (pv 5) pa_nil))) (nomark _)))))))))))))))))))), ?_⟩
    refine st_set (v := .bl (decide (V.int (ns.getD 0 0 % 3) = V.int 0))) (ev_op (ev_op (ev_callL (a, ns, 0) (ea_cons (ev_var rfl) (ea_cons ev_c ea_nil)) fun H2 e => e.l g hS) ev_c (rv_I (by decide))) ev_c (rv_eq rfl)) (Ex.refl g) ?_
    intro H1 e1
    dsimp only
    generalize decide (V.int (ns.getD 0 0 % 3) = V.int 0) = pl
    -- one
    refine st_setS (R := fun v _ => ∃ x, v = sv x ∧ Vec x) (es_vec g hS rfl rfl (ev_op ev_c (ev_op (ev_op (ev_callL (a, ns, 0) (ea_cons (ev_var rfl) (ea_cons ev_c ea_nil)) fun H2 e => e.l g hS) ev_c (rv_I ⟨by decide, by decide⟩)) ev_c (rv_I (by decide))) rv_I0) (by omega) (by omega)) e1 ?_
    rintro _ H2 e2 ⟨one, rfl, hone⟩
    dsimp only
    -- two
    refine st_setS (R := fun v _ => ∃ x, v = sv x ∧ Vec x) (es_vec g hS rfl rfl (ev_op ev_c (ev_op (ev_callL (a, ns, 1) (ea_cons (ev_var rfl) (ea_cons ev_c ea_nil)) fun H2 e => e.l g hS) ev_c (rv_I (by decide))) rv_I0) (by omega) (by omega)) e2 ?_
    rintro _ H3 e3 ⟨two, rfl, htwo⟩
    dsimp only
    -- con
    refine st_setS (R := fun v _ => ∃ x, v = sv x ∧ Vec x) (es_vec g hS rfl rfl (ev_op ev_c (ev_op (ev_op (ev_callL (a, ns, 1) (ea_cons (ev_var rfl) (ea_cons ev_c ea_nil)) fun H2 e => e.l g hS) ev_c (rv_I ⟨by decide, by decide⟩)) ev_c (rv_I (by decide))) rv_I0) (by omega) (by omega)) e3 ?_
    rintro _ H4 e4 ⟨con, rfl, hcon⟩
    dsimp only
    -- ind
    refine st_setS (R := fun v _ => ∃ x, v = sv x ∧ Vec x) (es_vec g hS rfl rfl (ev_op ev_c (ev_op (ev_callL (a, ns, 2) (ea_cons (ev_var rfl) (ea_cons ev_c ea_nil)) fun H2 e => e.l g hS) ev_c (rv_I (by decide))) rv_I0) (by omega) (by omega)) e4 ?_
    rintro _ H5 e5 ⟨ind, rfl, hind⟩
    dsimp only
    refine st_no (et_ne (ev_call one (ea_cons (ev_var rfl) ea_nil) hone) (ev_join (ls := one.map fun c => [notB c]) (ev_s lt_e) (ev_strs (K := K) notB one (en_lcS (Nat.le_trans hone.le (by decide)) (ev_var rfl) fun c hc => ev_call c (ea_cons (ev_var rfl) ea_nil) (hone.all c hc))) (by rw [flat_one, List.length_map]; exact Nat.le_trans hone.le (by decide)) fun _ => rfl) (flat_one notB one).symm) e5 ?_
    intro H6 e6
    dsimp only
    refine st_no (et_is (et_or (et_ne (ev_call (one, two) (ea_cons (ev_var rfl) (ea_cons (ev_var rfl) ea_nil)) ⟨hone, htwo⟩) (ev_call (0, one, two) (ea_cons (ev_s lt_and) (ea_cons (ev_var rfl) (ea_cons (ev_var rfl) ea_nil))) ⟨show (0 : Nat) ≤ 2 by decide, hone, htwo⟩) rfl) fun _ => et_ne (ev_call (one, two) (ea_cons (ev_var rfl) (ea_cons (ev_var rfl) ea_nil)) ⟨hone, htwo⟩) (ev_call (1, one, two) (ea_cons (ev_s lt_or) (ea_cons (ev_var rfl) (ea_cons (ev_var rfl) ea_nil))) ⟨show (1 : Nat) ≤ 2 by decide, hone, htwo⟩) rfl) rfl) e6 ?_
    intro H7 e7
    dsimp only
    refine st_no (et_ne (ev_call (one, two) (ea_cons (ev_var rfl) (ea_cons (ev_var rfl) ea_nil)) ⟨hone, htwo⟩) (ev_call (2, one, two) (ea_cons (ev_s lt_xor) (ea_cons (ev_var rfl) (ea_cons (ev_var rfl) ea_nil))) ⟨show (2 : Nat) ≤ 2 by decide, hone, htwo⟩) rfl) e7 ?_
    intro H8 e8
    dsimp only
    refine st_no (et_is (et_or (et_ne (ev_call one (ea_cons (ev_var rfl) ea_nil) hone) (ev_call (0, one) (ea_cons (ev_s lt_and) (ea_cons (ev_var rfl) ea_nil)) ⟨show (0 : Nat) ≤ 2 by decide, hone⟩) (congrArg (fun c => [c]) (fold_and hone))) fun _ => et_ne (ev_call two (ea_cons (ev_var rfl) ea_nil) htwo) (ev_call (1, two) (ea_cons (ev_s lt_or) (ea_cons (ev_var rfl) ea_nil)) ⟨show (1 : Nat) ≤ 2 by decide, htwo⟩) (congrArg (fun c => [c]) (fold_or htwo))) rfl) e8 ?_
    intro H9 e9
    dsimp only
    refine st_no (et_is (et_or (et_ne (ev_call one (ea_cons (ev_var rfl) ea_nil) hone) (ev_call (2, one) (ea_cons (ev_s lt_xor) (ea_cons (ev_var rfl) ea_nil)) ⟨show (2 : Nat) ≤ 2 by decide, hone⟩) (congrArg (fun c => [c]) (fold_xor hone))) fun _ => et_ne (ev_call two (ea_cons (ev_var rfl) ea_nil) htwo) (ev_call (1, two) (ea_cons (ev_s lt_or) (ea_cons (ev_var rfl) ea_nil)) ⟨show (1 : Nat) ≤ 2 by decide, htwo⟩) (congrArg (fun c => [c]) (fold_or htwo))) rfl) e9 ?_
    intro H10 e10
    dsimp only
    -- left, right
    refine st_par (x := sv [foldB 1 one]) (y := sv [foldB 1 two]) ?_ ?_ e10 ?_
    · exact ev_call (1, one) (ea_cons (ev_s lt_or) (ea_cons (ev_var rfl) ea_nil)) ⟨show (1 : Nat) ≤ 2 by decide, hone⟩
    · exact ev_call (1, two) (ea_cons (ev_s lt_or) (ea_cons (ev_var rfl) ea_nil)) ⟨show (1 : Nat) ≤ 2 by decide, htwo⟩
    intro H11 e11
    dsimp only
    refine st_no (et_is (et_or (et_ne (ev_call one (ea_cons (ev_var rfl) ea_nil) hone) (ev_call (foldB 1 one) (ea_cons (ev_var rfl) ea_nil) (foldB_isB hone)) (congrArg (fun c => [notB c]) (fold_or hone))) fun _ => et_ne (ev_call (one, two) (ea_cons (ev_var rfl) (ea_cons (ev_var rfl) ea_nil)) ⟨hone, htwo⟩) (ev_call (0, foldB 1 one, foldB 1 two) (ea_cons (ev_s lt_and) (ea_cons (ev_var rfl) (ea_cons (ev_var rfl) ea_nil))) ⟨show (0 : Nat) ≤ 2 by decide, foldB_isB hone, foldB_isB htwo⟩) (by show [andB (one.foldl orB 48) (two.foldl orB 48)] = _; rw [fold_or hone, fold_or htwo]; rfl)) rfl) e11 ?_
    intro H12 e12
    dsimp only
    refine st_no (et_ne (ev_call (one, two) (ea_cons (ev_var rfl) (ea_cons (ev_var rfl) ea_nil)) ⟨hone, htwo⟩) (ev_call (1, foldB 1 one, foldB 1 two) (ea_cons (ev_s lt_or) (ea_cons (ev_var rfl) (ea_cons (ev_var rfl) ea_nil))) ⟨show (1 : Nat) ≤ 2 by decide, foldB_isB hone, foldB_isB htwo⟩) (by show [orB (one.foldl orB 48) (two.foldl orB 48)] = _; rw [fold_or hone, fold_or htwo]; rfl)) e12 ?_
    intro H13 e13
    dsimp only
    refine st_no (et_ne (ev_call (con, one, two) (ea_cons (ev_var rfl) (ea_cons (ev_var rfl) (ea_cons (ev_var rfl) ea_nil))) ⟨hcon, hone, htwo⟩) (ev_call (con, one, two) (ea_cons (ev_var rfl) (ea_cons (ev_var rfl) (ea_cons (ev_var rfl) ea_nil))) ⟨hcon, hone, htwo⟩) (by show chB (con.foldl orB 48) one two = chB (foldB 1 con) one two; rw [fold_or hcon])) e13 ?_
    intro H14 e14
    dsimp only
    refine st_ret ?_ e14 q
    exact ev_and (a := true) (b := true) (ev_eqT (ev_call (one, ind) (ea_cons (ev_var rfl) (ea_cons (ev_var rfl) ea_nil)) ⟨hone, hind⟩) (ev_call (one, ind) (ea_cons (ev_var rfl) (ea_cons (ev_var rfl) ea_nil)) ⟨hone, hind⟩)) fun _ => ev_eqT (ev_call (two, ind) (ea_cons (ev_var rfl) (ea_cons (ev_var rfl) ea_nil)) ⟨htwo, hind⟩) (ev_call (two, ind) (ea_cons (ev_var rfl) (ea_cons (ev_var rfl) ea_nil)) ⟨htwo, hind⟩)
end
end K02
set_option Elab.async false
set_option linter.all false
set_option maxRecDepth 100000
set_option maxHeartbeats 2000000
namespace K02
open PySem PySem.Spec PyProof.Rows L2 Cw
open GxR (TabG Tabbed TabB GenS)
open LamX (LawAtS)
/-- the table of the code object of the def called x is empty -/
def TabFact (K : PySem.W.Frag) (x : Str) (mg : Str → Option Value) (h : Heap) : Prop := ∀ (f c P : Addr) (o oc : Obj) (fd : FuncData) (vs : Array Value), mg x = some (.ref f) → K.lookup f = some o → o.data = .func fd → fd.code = .ref c → K.lookup c = some oc → oc.data = .fields vs → (vs[11]? : Option Value) = some (.ref P) →
  h.get? P = some { cls := .none, data := .fields #[] }
theorem walk_tab {l : PySem.W.OpenLaw} {n k : Nat} {q : Program} {loose : List Str} {XP : (Str → Option Value) → Heap → Prop} {YP : World → Heap → Prop} {d : DefRec} {K : Params → PySem.W.Frag} {y : Str} (x : Str)
    (hn : l.most = some n) (hn2 : n ≤ sizeLine) (hdf : d.params.defaults = []) (hr : Room k callerA) (hrec : ((recsOf q).any fun e => e.name == x) = true) (hY : ∀ (w : World) (h : Heap), YP w h → (K w.params).In h)
    (F : ∀ (w : World) (mg : Str → Option Value) (fa : Addr) (h : Heap), (K w.params).In h → h.Ns mainGlobals mg → mg d.name = some (.ref fa) → TabFact (K w.params) x mg h → LawAtS l w (K w.params) CX0 k n y mg fa h) :
    PySem.W.WalkO q loose XP YP l.row.toRowW d [] (fun f vs => PySem.call f vs) := by
  refine Att.attach_callB hn hdf fun w s0 s1 mg mb fa o pm cd doc a vs ns G Y ho hd hcd hmg hobj hints hlen hbits hg => ?_
  have KX := hY w _ Y
  have own : TabFact (K w.params) x mg s1.heap := by
    intro f c P of oc fd vs e1 e2 e3 e4 e5 e6 e7
    obtain ⟨r, hr1, hr2⟩ := List.any_eq_true.mp hrec
    obtain ⟨f', o', fd', c', P', h1, h2, h3, h4, _, ⟨⟨oc', vc, g1, _, g3, g4⟩, hP⟩⟩ := G.T.tab r hr1
    rw [beq_iff_eq.mp hr2, e1] at h1
    cases h1
    cases (KX _ _ e2).symm.trans h2
    cases e3.symm.trans h3
    cases e4.symm.trans h4
    cases (KX _ _ e5).symm.trans g1
    cases e6.symm.trans g3
    cases e7.symm.trans g4
    exact hP
  obtain ⟨fd, cs, sp, hT, nT, C, hb, hsp, hF⟩ := F w mg fa _ KX G.T.g hmg own
  exact LamX.law_callTs KX G.T.g G.T.b G.T.builtins G.T.nolimit hg hT nT C G.T.bmain hobj hints (Nat.le_trans hlen hn2) hr hF hb (fun H hH hS => hsp H a ns hlen hbits hH hS) fun H e s' z => z
theorem mem_isB {a : Nat} (h : IsB a) : a ∈ [48, 49, 120, 122] := by
  rcases h with rfl | rfl | rfl | rfl <;> decide
theorem all_mk {l : PySem.W.OpenLaw} {w : World} {K : PySem.W.Frag} {h : Heap} {mg : Str → Option Value} {fa : Addr} (X : K.In h) (G : h.Ns mainGlobals mg) (hfa : mg "law" = some (.ref fa)) (TF : TabFact K "_consists_of" mg h)
    {f_consists_of : Addr} {od_consists_of an_consists_of : Option Addr} {sl_consists_of : Array (Option Value)} {oc_consists_of kV_consists_of dc_consists_of pm_consists_of  ct_consists_of : Value}
    {f_extended : Addr} {od_extended an_extended : Option Addr} {sl_extended : Array (Option Value)} {oc_extended kV_extended dc_extended pm_extended cd_extended ct_extended : Value}
    {f_both_extended : Addr} {od_both_extended an_both_extended : Option Addr} {sl_both_extended : Array (Option Value)} {oc_both_extended kV_both_extended dc_both_extended pm_both_extended cd_both_extended ct_both_extended : Value}
    {f_bit_not : Addr} {od_bit_not an_bit_not : Option Addr} {sl_bit_not : Array (Option Value)} {oc_bit_not kV_bit_not dc_bit_not pm_bit_not cd_bit_not ct_bit_not : Value}
    {f_bit_and : Addr} {od_bit_and an_bit_and : Option Addr} {sl_bit_and : Array (Option Value)} {oc_bit_and kV_bit_and dc_bit_and pm_bit_and cd_bit_and ct_bit_and : Value}
    {f_bit_or : Addr} {od_bit_or an_bit_or : Option Addr} {sl_bit_or : Array (Option Value)} {oc_bit_or kV_bit_or dc_bit_or pm_bit_or cd_bit_or ct_bit_or : Value}
    {f_bit_xor : Addr} {od_bit_xor an_bit_xor : Option Addr} {sl_bit_xor : Array (Option Value)} {oc_bit_xor kV_bit_xor dc_bit_xor pm_bit_xor cd_bit_xor ct_bit_xor : Value}
    {f_reduce_and : Addr} {od_reduce_and an_reduce_and : Option Addr} {sl_reduce_and : Array (Option Value)} {oc_reduce_and kV_reduce_and dc_reduce_and pm_reduce_and cd_reduce_and ct_reduce_and : Value}
    {f_reduce_or : Addr} {od_reduce_or an_reduce_or : Option Addr} {sl_reduce_or : Array (Option Value)} {oc_reduce_or kV_reduce_or dc_reduce_or pm_reduce_or cd_reduce_or ct_reduce_or : Value}
    {f_reduce_xor : Addr} {od_reduce_xor an_reduce_xor : Option Addr} {sl_reduce_xor : Array (Option Value)} {oc_reduce_xor kV_reduce_xor dc_reduce_xor pm_reduce_xor cd_reduce_xor ct_reduce_xor : Value}
    {f_truth : Addr} {od_truth an_truth : Option Addr} {sl_truth : Array (Option Value)} {oc_truth kV_truth dc_truth pm_truth cd_truth ct_truth : Value}
    {f_logic_not : Addr} {od_logic_not an_logic_not : Option Addr} {sl_logic_not : Array (Option Value)} {oc_logic_not kV_logic_not dc_logic_not pm_logic_not cd_logic_not ct_logic_not : Value}
    {f_logic_and : Addr} {od_logic_and an_logic_and : Option Addr} {sl_logic_and : Array (Option Value)} {oc_logic_and kV_logic_and dc_logic_and pm_logic_and cd_logic_and ct_logic_and : Value}
    {f_logic_or : Addr} {od_logic_or an_logic_or : Option Addr} {sl_logic_or : Array (Option Value)} {oc_logic_or kV_logic_or dc_logic_or pm_logic_or cd_logic_or ct_logic_or : Value}
    {f_is_known : Addr} {od_is_known an_is_known : Option Addr} {sl_is_known : Array (Option Value)} {oc_is_known kV_is_known dc_is_known pm_is_known cd_is_known ct_is_known : Value}
    {f_agreed_bit : Addr} {od_agreed_bit an_agreed_bit : Option Addr} {sl_agreed_bit : Array (Option Value)} {oc_agreed_bit kV_agreed_bit dc_agreed_bit pm_agreed_bit cd_agreed_bit ct_agreed_bit : Value}
    {f_choose : Addr} {od_choose an_choose : Option Addr} {sl_choose : Array (Option Value)} {oc_choose kV_choose dc_choose pm_choose cd_choose ct_choose : Value}
    {f_pick : Addr} {od_pick an_pick : Option Addr} {sl_pick : Array (Option Value)} {oc_pick kV_pick dc_pick pm_pick cd_pick ct_pick : Value}
    {f_law_cell : Addr} {od_law_cell an_law_cell : Option Addr} {sl_law_cell : Array (Option Value)} {oc_law_cell kV_law_cell dc_law_cell pm_law_cell cd_law_cell ct_law_cell : Value}
    {f_law_numbers : Addr} {od_law_numbers an_law_numbers : Option Addr} {sl_law_numbers : Array (Option Value)} {oc_law_numbers kV_law_numbers dc_law_numbers pm_law_numbers cd_law_numbers ct_law_numbers : Value}
    {f_law_vector : Addr} {od_law_vector an_law_vector : Option Addr} {sl_law_vector : Array (Option Value)} {oc_law_vector kV_law_vector dc_law_vector pm_law_vector cd_law_vector ct_law_vector : Value}
    {f_law_not : Addr} {od_law_not an_law_not : Option Addr} {sl_law_not : Array (Option Value)} {oc_law_not kV_law_not dc_law_not pm_law_not cd_law_not ct_law_not : Value}
    {f_law_pair : Addr} {od_law_pair an_law_pair : Option Addr} {sl_law_pair : Array (Option Value)} {oc_law_pair kV_law_pair dc_law_pair pm_law_pair cd_law_pair ct_law_pair : Value}
    {f_law_both : Addr} {od_law_both an_law_both : Option Addr} {sl_law_both : Array (Option Value)} {oc_law_both kV_law_both dc_law_both pm_law_both cd_law_both ct_law_both : Value}
    {f_law_pairs : Addr} {od_law_pairs an_law_pairs : Option Addr} {sl_law_pairs : Array (Option Value)} {oc_law_pairs kV_law_pairs dc_law_pairs pm_law_pairs cd_law_pairs ct_law_pairs : Value}
    {f_law_fold : Addr} {od_law_fold an_law_fold : Option Addr} {sl_law_fold : Array (Option Value)} {oc_law_fold kV_law_fold dc_law_fold pm_law_fold cd_law_fold ct_law_fold : Value}
    {f_law_merged : Addr} {od_law_merged an_law_merged : Option Addr} {sl_law_merged : Array (Option Value)} {oc_law_merged kV_law_merged dc_law_merged pm_law_merged cd_law_merged ct_law_merged : Value}
    {f_law_chosen : Addr} {od_law_chosen an_law_chosen : Option Addr} {sl_law_chosen : Array (Option Value)} {oc_law_chosen kV_law_chosen dc_law_chosen pm_law_chosen cd_law_chosen ct_law_chosen : Value}
    {f_law_picked : Addr} {od_law_picked an_law_picked : Option Addr} {sl_law_picked : Array (Option Value)} {oc_law_picked kV_law_picked dc_law_picked pm_law_picked cd_law_picked ct_law_picked : Value}
    {f_law : Addr} {od_law an_law : Option Addr} {sl_law : Array (Option Value)} {oc_law kV_law dc_law pm_law cd_law ct_law : Value}
    {cT Pt : Addr} {ccT : Value} {cdT : Option Addr} {vsT : Array Value} {cslT : Array (Option Value)}
    {pA : Addr} {esA : Array DictEntry} {nA : Nat}
    {pO : Addr} {esO : Array DictEntry} {nO : Nat}
    {pX : Addr} {esX : Array DictEntry} {nX : Nat}
    {pN : Addr} {esN : Array DictEntry} {nN : Nat}
    (a_consists_of : PySem.W.nsIn K mainGlobals "_consists_of" = some (some (.ref f_consists_of)))
    (l_consists_of : K.lookup f_consists_of = some ⟨oc_consists_of, od_consists_of, .func (PySem.W.fnOf "_consists_of" "_consists_of" (defArgs s_consists_of) (defBody s_consists_of) (defScope s_consists_of) .none kV_consists_of dc_consists_of pm_consists_of an_consists_of (.ref cT) ct_consists_of), sl_consists_of⟩)
    (c_consists_of : PySem.W.codeIn K (.ref cT) "_consists_of" = true)
    (k_consists_of : PySem.W.keepIn K (.ref f_consists_of) = true)
    (a_extended : PySem.W.nsIn K mainGlobals "_extended" = some (some (.ref f_extended)))
    (l_extended : K.lookup f_extended = some ⟨oc_extended, od_extended, .func (PySem.W.fnOf "_extended" "_extended" (defArgs s_extended) (defBody s_extended) (defScope s_extended) .none kV_extended dc_extended pm_extended an_extended cd_extended ct_extended), sl_extended⟩)
    (c_extended : PySem.W.codeIn K cd_extended "_extended" = true)
    (k_extended : PySem.W.keepIn K (.ref f_extended) = true)
    (a_both_extended : PySem.W.nsIn K mainGlobals "_both_extended" = some (some (.ref f_both_extended)))
    (l_both_extended : K.lookup f_both_extended = some ⟨oc_both_extended, od_both_extended, .func (PySem.W.fnOf "_both_extended" "_both_extended" (defArgs s_both_extended) (defBody s_both_extended) (defScope s_both_extended) .none kV_both_extended dc_both_extended pm_both_extended an_both_extended cd_both_extended ct_both_extended), sl_both_extended⟩)
    (c_both_extended : PySem.W.codeIn K cd_both_extended "_both_extended" = true)
    (k_both_extended : PySem.W.keepIn K (.ref f_both_extended) = true)
    (a_bit_not : PySem.W.nsIn K mainGlobals "bit_not" = some (some (.ref f_bit_not)))
    (l_bit_not : K.lookup f_bit_not = some ⟨oc_bit_not, od_bit_not, .func (PySem.W.fnOf "bit_not" "bit_not" (defArgs s_bit_not) (defBody s_bit_not) (defScope s_bit_not) .none kV_bit_not dc_bit_not pm_bit_not an_bit_not cd_bit_not ct_bit_not), sl_bit_not⟩)
    (c_bit_not : PySem.W.codeIn K cd_bit_not "bit_not" = true)
    (k_bit_not : PySem.W.keepIn K (.ref f_bit_not) = true)
    (a_bit_and : PySem.W.nsIn K mainGlobals "bit_and" = some (some (.ref f_bit_and)))
    (l_bit_and : K.lookup f_bit_and = some ⟨oc_bit_and, od_bit_and, .func (PySem.W.fnOf "bit_and" "bit_and" (defArgs s_bit_and) (defBody s_bit_and) (defScope s_bit_and) .none kV_bit_and dc_bit_and pm_bit_and an_bit_and cd_bit_and ct_bit_and), sl_bit_and⟩)
    (c_bit_and : PySem.W.codeIn K cd_bit_and "bit_and" = true)
    (k_bit_and : PySem.W.keepIn K (.ref f_bit_and) = true)
    (a_bit_or : PySem.W.nsIn K mainGlobals "bit_or" = some (some (.ref f_bit_or)))
    (l_bit_or : K.lookup f_bit_or = some ⟨oc_bit_or, od_bit_or, .func (PySem.W.fnOf "bit_or" "bit_or" (defArgs s_bit_or) (defBody s_bit_or) (defScope s_bit_or) .none kV_bit_or dc_bit_or pm_bit_or an_bit_or cd_bit_or ct_bit_or), sl_bit_or⟩)
    (c_bit_or : PySem.W.codeIn K cd_bit_or "bit_or" = true)
    (k_bit_or : PySem.W.keepIn K (.ref f_bit_or) = true)
    (a_bit_xor : PySem.W.nsIn K mainGlobals "bit_xor" = some (some (.ref f_bit_xor)))
    (l_bit_xor : K.lookup f_bit_xor = some ⟨oc_bit_xor, od_bit_xor, .func (PySem.W.fnOf "bit_xor" "bit_xor" (defArgs s_bit_xor) (defBody s_bit_xor) (defScope s_bit_xor) .none kV_bit_xor dc_bit_xor pm_bit_xor an_bit_xor cd_bit_xor ct_bit_xor), sl_bit_xor⟩)
    (c_bit_xor : PySem.W.codeIn K cd_bit_xor "bit_xor" = true)
    (k_bit_xor : PySem.W.keepIn K (.ref f_bit_xor) = true)
    (a_reduce_and : PySem.W.nsIn K mainGlobals "reduce_and" = some (some (.ref f_reduce_and)))
    (l_reduce_and : K.lookup f_reduce_and = some ⟨oc_reduce_and, od_reduce_and, .func (PySem.W.fnOf "reduce_and" "reduce_and" (defArgs s_reduce_and) (defBody s_reduce_and) (defScope s_reduce_and) .none kV_reduce_and dc_reduce_and pm_reduce_and an_reduce_and cd_reduce_and ct_reduce_and), sl_reduce_and⟩)
    (c_reduce_and : PySem.W.codeIn K cd_reduce_and "reduce_and" = true)
    (k_reduce_and : PySem.W.keepIn K (.ref f_reduce_and) = true)
    (a_reduce_or : PySem.W.nsIn K mainGlobals "reduce_or" = some (some (.ref f_reduce_or)))
    (l_reduce_or : K.lookup f_reduce_or = some ⟨oc_reduce_or, od_reduce_or, .func (PySem.W.fnOf "reduce_or" "reduce_or" (defArgs s_reduce_or) (defBody s_reduce_or) (defScope s_reduce_or) .none kV_reduce_or dc_reduce_or pm_reduce_or an_reduce_or cd_reduce_or ct_reduce_or), sl_reduce_or⟩)
    (c_reduce_or : PySem.W.codeIn K cd_reduce_or "reduce_or" = true)
    (k_reduce_or : PySem.W.keepIn K (.ref f_reduce_or) = true)
    (a_reduce_xor : PySem.W.nsIn K mainGlobals "reduce_xor" = some (some (.ref f_reduce_xor)))
    (l_reduce_xor : K.lookup f_reduce_xor = some ⟨oc_reduce_xor, od_reduce_xor, .func (PySem.W.fnOf "reduce_xor" "reduce_xor" (defArgs s_reduce_xor) (defBody s_reduce_xor) (defScope s_reduce_xor) .none kV_reduce_xor dc_reduce_xor pm_reduce_xor an_reduce_xor cd_reduce_xor ct_reduce_xor), sl_reduce_xor⟩)
    (c_reduce_xor : PySem.W.codeIn K cd_reduce_xor "reduce_xor" = true)
    (k_reduce_xor : PySem.W.keepIn K (.ref f_reduce_xor) = true)
    (a_truth : PySem.W.nsIn K mainGlobals "truth" = some (some (.ref f_truth)))
    (l_truth : K.lookup f_truth = some ⟨oc_truth, od_truth, .func (PySem.W.fnOf "truth" "truth" (defArgs s_truth) (defBody s_truth) (defScope s_truth) .none kV_truth dc_truth pm_truth an_truth cd_truth ct_truth), sl_truth⟩)
    (c_truth : PySem.W.codeIn K cd_truth "truth" = true)
    (k_truth : PySem.W.keepIn K (.ref f_truth) = true)
    (a_logic_not : PySem.W.nsIn K mainGlobals "logic_not" = some (some (.ref f_logic_not)))
    (l_logic_not : K.lookup f_logic_not = some ⟨oc_logic_not, od_logic_not, .func (PySem.W.fnOf "logic_not" "logic_not" (defArgs s_logic_not) (defBody s_logic_not) (defScope s_logic_not) .none kV_logic_not dc_logic_not pm_logic_not an_logic_not cd_logic_not ct_logic_not), sl_logic_not⟩)
    (c_logic_not : PySem.W.codeIn K cd_logic_not "logic_not" = true)
    (k_logic_not : PySem.W.keepIn K (.ref f_logic_not) = true)
    (a_logic_and : PySem.W.nsIn K mainGlobals "logic_and" = some (some (.ref f_logic_and)))
    (l_logic_and : K.lookup f_logic_and = some ⟨oc_logic_and, od_logic_and, .func (PySem.W.fnOf "logic_and" "logic_and" (defArgs s_logic_and) (defBody s_logic_and) (defScope s_logic_and) .none kV_logic_and dc_logic_and pm_logic_and an_logic_and cd_logic_and ct_logic_and), sl_logic_and⟩)
    (c_logic_and : PySem.W.codeIn K cd_logic_and "logic_and" = true)
    (k_logic_and : PySem.W.keepIn K (.ref f_logic_and) = true)
    (a_logic_or : PySem.W.nsIn K mainGlobals "logic_or" = some (some (.ref f_logic_or)))
    (l_logic_or : K.lookup f_logic_or = some ⟨oc_logic_or, od_logic_or, .func (PySem.W.fnOf "logic_or" "logic_or" (defArgs s_logic_or) (defBody s_logic_or) (defScope s_logic_or) .none kV_logic_or dc_logic_or pm_logic_or an_logic_or cd_logic_or ct_logic_or), sl_logic_or⟩)
    (c_logic_or : PySem.W.codeIn K cd_logic_or "logic_or" = true)
    (k_logic_or : PySem.W.keepIn K (.ref f_logic_or) = true)
    (a_is_known : PySem.W.nsIn K mainGlobals "is_known" = some (some (.ref f_is_known)))
    (l_is_known : K.lookup f_is_known = some ⟨oc_is_known, od_is_known, .func (PySem.W.fnOf "is_known" "is_known" (defArgs s_is_known) (defBody s_is_known) (defScope s_is_known) .none kV_is_known dc_is_known pm_is_known an_is_known cd_is_known ct_is_known), sl_is_known⟩)
    (c_is_known : PySem.W.codeIn K cd_is_known "is_known" = true)
    (k_is_known : PySem.W.keepIn K (.ref f_is_known) = true)
    (a_agreed_bit : PySem.W.nsIn K mainGlobals "_agreed_bit" = some (some (.ref f_agreed_bit)))
    (l_agreed_bit : K.lookup f_agreed_bit = some ⟨oc_agreed_bit, od_agreed_bit, .func (PySem.W.fnOf "_agreed_bit" "_agreed_bit" (defArgs s_agreed_bit) (defBody s_agreed_bit) (defScope s_agreed_bit) .none kV_agreed_bit dc_agreed_bit pm_agreed_bit an_agreed_bit cd_agreed_bit ct_agreed_bit), sl_agreed_bit⟩)
    (c_agreed_bit : PySem.W.codeIn K cd_agreed_bit "_agreed_bit" = true)
    (k_agreed_bit : PySem.W.keepIn K (.ref f_agreed_bit) = true)
    (a_choose : PySem.W.nsIn K mainGlobals "choose" = some (some (.ref f_choose)))
    (l_choose : K.lookup f_choose = some ⟨oc_choose, od_choose, .func (PySem.W.fnOf "choose" "choose" (defArgs s_choose) (defBody s_choose) (defScope s_choose) .none kV_choose dc_choose pm_choose an_choose cd_choose ct_choose), sl_choose⟩)
    (c_choose : PySem.W.codeIn K cd_choose "choose" = true)
    (k_choose : PySem.W.keepIn K (.ref f_choose) = true)
    (a_pick : PySem.W.nsIn K mainGlobals "pick" = some (some (.ref f_pick)))
    (l_pick : K.lookup f_pick = some ⟨oc_pick, od_pick, .func (PySem.W.fnOf "pick" "pick" (defArgs s_pick) (defBody s_pick) (defScope s_pick) .none kV_pick dc_pick pm_pick an_pick cd_pick ct_pick), sl_pick⟩)
    (c_pick : PySem.W.codeIn K cd_pick "pick" = true)
    (k_pick : PySem.W.keepIn K (.ref f_pick) = true)
    (a_law_cell : PySem.W.nsIn K mainGlobals "_law_cell" = some (some (.ref f_law_cell)))
    (l_law_cell : K.lookup f_law_cell = some ⟨oc_law_cell, od_law_cell, .func (PySem.W.fnOf "_law_cell" "_law_cell" (defArgs s_law_cell) (defBody s_law_cell) (defScope s_law_cell) .none kV_law_cell dc_law_cell pm_law_cell an_law_cell cd_law_cell ct_law_cell), sl_law_cell⟩)
    (c_law_cell : PySem.W.codeIn K cd_law_cell "_law_cell" = true)
    (k_law_cell : PySem.W.keepIn K (.ref f_law_cell) = true)
    (a_law_numbers : PySem.W.nsIn K mainGlobals "_law_numbers" = some (some (.ref f_law_numbers)))
    (l_law_numbers : K.lookup f_law_numbers = some ⟨oc_law_numbers, od_law_numbers, .func (PySem.W.fnOf "_law_numbers" "_law_numbers" (defArgs s_law_numbers) (defBody s_law_numbers) (defScope s_law_numbers) .none kV_law_numbers dc_law_numbers pm_law_numbers an_law_numbers cd_law_numbers ct_law_numbers), sl_law_numbers⟩)
    (c_law_numbers : PySem.W.codeIn K cd_law_numbers "_law_numbers" = true)
    (k_law_numbers : PySem.W.keepIn K (.ref f_law_numbers) = true)
    (a_law_vector : PySem.W.nsIn K mainGlobals "_law_vector" = some (some (.ref f_law_vector)))
    (l_law_vector : K.lookup f_law_vector = some ⟨oc_law_vector, od_law_vector, .func (PySem.W.fnOf "_law_vector" "_law_vector" (defArgs s_law_vector) (defBody s_law_vector) (defScope s_law_vector) .none kV_law_vector dc_law_vector pm_law_vector an_law_vector cd_law_vector ct_law_vector), sl_law_vector⟩)
    (c_law_vector : PySem.W.codeIn K cd_law_vector "_law_vector" = true)
    (k_law_vector : PySem.W.keepIn K (.ref f_law_vector) = true)
    (a_law_not : PySem.W.nsIn K mainGlobals "_law_not" = some (some (.ref f_law_not)))
    (l_law_not : K.lookup f_law_not = some ⟨oc_law_not, od_law_not, .func (PySem.W.fnOf "_law_not" "_law_not" (defArgs s_law_not) (defBody s_law_not) (defScope s_law_not) .none kV_law_not dc_law_not pm_law_not an_law_not cd_law_not ct_law_not), sl_law_not⟩)
    (c_law_not : PySem.W.codeIn K cd_law_not "_law_not" = true)
    (k_law_not : PySem.W.keepIn K (.ref f_law_not) = true)
    (a_law_pair : PySem.W.nsIn K mainGlobals "_law_pair" = some (some (.ref f_law_pair)))
    (l_law_pair : K.lookup f_law_pair = some ⟨oc_law_pair, od_law_pair, .func (PySem.W.fnOf "_law_pair" "_law_pair" (defArgs s_law_pair) (defBody s_law_pair) (defScope s_law_pair) .none kV_law_pair dc_law_pair pm_law_pair an_law_pair cd_law_pair ct_law_pair), sl_law_pair⟩)
    (c_law_pair : PySem.W.codeIn K cd_law_pair "_law_pair" = true)
    (k_law_pair : PySem.W.keepIn K (.ref f_law_pair) = true)
    (a_law_both : PySem.W.nsIn K mainGlobals "_law_both" = some (some (.ref f_law_both)))
    (l_law_both : K.lookup f_law_both = some ⟨oc_law_both, od_law_both, .func (PySem.W.fnOf "_law_both" "_law_both" (defArgs s_law_both) (defBody s_law_both) (defScope s_law_both) .none kV_law_both dc_law_both pm_law_both an_law_both cd_law_both ct_law_both), sl_law_both⟩)
    (c_law_both : PySem.W.codeIn K cd_law_both "_law_both" = true)
    (k_law_both : PySem.W.keepIn K (.ref f_law_both) = true)
    (a_law_pairs : PySem.W.nsIn K mainGlobals "_law_pairs" = some (some (.ref f_law_pairs)))
    (l_law_pairs : K.lookup f_law_pairs = some ⟨oc_law_pairs, od_law_pairs, .func (PySem.W.fnOf "_law_pairs" "_law_pairs" (defArgs s_law_pairs) (defBody s_law_pairs) (defScope s_law_pairs) .none kV_law_pairs dc_law_pairs pm_law_pairs an_law_pairs cd_law_pairs ct_law_pairs), sl_law_pairs⟩)
    (c_law_pairs : PySem.W.codeIn K cd_law_pairs "_law_pairs" = true)
    (k_law_pairs : PySem.W.keepIn K (.ref f_law_pairs) = true)
    (a_law_fold : PySem.W.nsIn K mainGlobals "_law_fold" = some (some (.ref f_law_fold)))
    (l_law_fold : K.lookup f_law_fold = some ⟨oc_law_fold, od_law_fold, .func (PySem.W.fnOf "_law_fold" "_law_fold" (defArgs s_law_fold) (defBody s_law_fold) (defScope s_law_fold) .none kV_law_fold dc_law_fold pm_law_fold an_law_fold cd_law_fold ct_law_fold), sl_law_fold⟩)
    (c_law_fold : PySem.W.codeIn K cd_law_fold "_law_fold" = true)
    (k_law_fold : PySem.W.keepIn K (.ref f_law_fold) = true)
    (a_law_merged : PySem.W.nsIn K mainGlobals "_law_merged" = some (some (.ref f_law_merged)))
    (l_law_merged : K.lookup f_law_merged = some ⟨oc_law_merged, od_law_merged, .func (PySem.W.fnOf "_law_merged" "_law_merged" (defArgs s_law_merged) (defBody s_law_merged) (defScope s_law_merged) .none kV_law_merged dc_law_merged pm_law_merged an_law_merged cd_law_merged ct_law_merged), sl_law_merged⟩)
    (c_law_merged : PySem.W.codeIn K cd_law_merged "_law_merged" = true)
    (k_law_merged : PySem.W.keepIn K (.ref f_law_merged) = true)
    (a_law_chosen : PySem.W.nsIn K mainGlobals "_law_chosen" = some (some (.ref f_law_chosen)))
    (l_law_chosen : K.lookup f_law_chosen = some ⟨oc_law_chosen, od_law_chosen, .func (PySem.W.fnOf "_law_chosen" "_law_chosen" (defArgs s_law_chosen) (defBody s_law_chosen) (defScope s_law_chosen) .none kV_law_chosen dc_law_chosen pm_law_chosen an_law_chosen cd_law_chosen ct_law_chosen), sl_law_chosen⟩)
    (c_law_chosen : PySem.W.codeIn K cd_law_chosen "_law_chosen" = true)
    (k_law_chosen : PySem.W.keepIn K (.ref f_law_chosen) = true)
    (a_law_picked : PySem.W.nsIn K mainGlobals "_law_picked" = some (some (.ref f_law_picked)))
    (l_law_picked : K.lookup f_law_picked = some ⟨oc_law_picked, od_law_picked, .func (PySem.W.fnOf "_law_picked" "_law_picked" (defArgs s_law_picked) (defBody s_law_picked) (defScope s_law_picked) .none kV_law_picked dc_law_picked pm_law_picked an_law_picked cd_law_picked ct_law_picked), sl_law_picked⟩)
    (c_law_picked : PySem.W.codeIn K cd_law_picked "_law_picked" = true)
    (k_law_picked : PySem.W.keepIn K (.ref f_law_picked) = true)
    (a_law : PySem.W.nsIn K mainGlobals "law" = some (some (.ref f_law)))
    (l_law : K.lookup f_law = some ⟨oc_law, od_law, .func (PySem.W.fnOf "law" "law" (defArgs s_law) (defBody s_law) (defScope s_law) .none kV_law dc_law pm_law an_law cd_law ct_law), sl_law⟩)
    (c_law : PySem.W.codeIn K cd_law "law" = true)
    (k_law : PySem.W.keepIn K (.ref f_law) = true)
    (lT : K.lookup cT = some ⟨ccT, cdT, .fields vsT, cslT⟩)
    (eT : (vsT[11]? : Option Value) = some (.ref Pt))
    (hT : PySem.W.codeHdIn K cT Pt = true)
    (nT : K.lookup Pt = none)
    (z_len : PySem.W.nsIn K mainGlobals "len" = some none)
    (z_max : PySem.W.nsIn K mainGlobals "max" = some none)
    (z_all : PySem.W.nsIn K mainGlobals "all" = some none)
    (z_zip : PySem.W.nsIn K mainGlobals "zip" = some none)
    (z_range : PySem.W.nsIn K mainGlobals "range" = some none)
    (z_abs : PySem.W.nsIn K mainGlobals "abs" = some none)
    (z_int : PySem.W.nsIn K mainGlobals "int" = some none)
    (g_A : PySem.W.nsIn K mainGlobals "AND_BITS" = some (some (.ref pA)))
    (d_A : K.lookup pA = some ⟨.type "dict", none, .dict esA nA, #[]⟩)
    (e_A : PySem.W.KeysLit w.params esA.toList)
    (t_A : ∀ a ∈ [48, 49, 120, 122], ∀ b ∈ [48, 49, 120, 122], ∃ t, PySem.W.nsIn K pA (S [a, b]) = some (some (.str (S [andB a b]) t)))
    (g_O : PySem.W.nsIn K mainGlobals "OR_BITS" = some (some (.ref pO)))
    (d_O : K.lookup pO = some ⟨.type "dict", none, .dict esO nO, #[]⟩)
    (e_O : PySem.W.KeysLit w.params esO.toList)
    (t_O : ∀ a ∈ [48, 49, 120, 122], ∀ b ∈ [48, 49, 120, 122], ∃ t, PySem.W.nsIn K pO (S [a, b]) = some (some (.str (S [orB a b]) t)))
    (g_X : PySem.W.nsIn K mainGlobals "XOR_BITS" = some (some (.ref pX)))
    (d_X : K.lookup pX = some ⟨.type "dict", none, .dict esX nX, #[]⟩)
    (e_X : PySem.W.KeysLit w.params esX.toList)
    (t_X : ∀ a ∈ [48, 49, 120, 122], ∀ b ∈ [48, 49, 120, 122], ∃ t, PySem.W.nsIn K pX (S [a, b]) = some (some (.str (S [xorB a b]) t)))
    (g_N : PySem.W.nsIn K mainGlobals "NOT_BITS" = some (some (.ref pN)))
    (d_N : K.lookup pN = some ⟨.type "dict", none, .dict esN nN, #[]⟩)
    (e_N : PySem.W.KeysLit w.params esN.toList)
    (t_N : ∀ a ∈ [48, 49, 120, 122], ∃ t, PySem.W.nsIn K pN (S [a]) = some (some (.str (S [notB a]) t))) :
    LawAtS l w K CX0 5 63 "script" mg fa h := by
  have efa := hfa.symm.trans (PySem.W.mg_of X G a_law)
  cases efa
  have T : Txt mg K w pA pO pX pN := ⟨PySem.W.mg_none_of X G z_len, PySem.W.mg_none_of X G z_max, PySem.W.mg_none_of X G z_all, PySem.W.mg_none_of X G z_zip, PySem.W.mg_none_of X G z_range, PySem.W.mg_none_of X G z_abs, PySem.W.mg_none_of X G z_int, PySem.W.mg_of X G g_A, PySem.W.mg_of X G g_O, PySem.W.mg_of X G g_X, PySem.W.mg_of X G g_N, fun a b ha hb => (t_A a (mem_isB ha) b (mem_isB hb)).elim fun t e => ⟨_, _, _, d_A, e_A, e, t, rfl⟩, fun a b ha hb => (t_O a (mem_isB ha) b (mem_isB hb)).elim fun t e => ⟨_, _, _, d_O, e_O, e, t, rfl⟩, fun a b ha hb => (t_X a (mem_isB ha) b (mem_isB hb)).elim fun t e => ⟨_, _, _, d_X, e_X, e, t, rfl⟩, fun a ha => (t_N a (mem_isB ha)).elim fun t e => ⟨_, _, _, d_N, e_N, e, t, rfl⟩⟩
  have F_consists_of := fun_mk (st := s_consists_of) l_consists_of c_consists_of k_consists_of
  have B_consists_of := F_consists_of.binds (ps := ["text", "characters"]) fun _ _ _ _ _ _ us hl => match us, hl with | [_, _], _ => rfl
  have F_extended := fun_mk (st := s_extended) l_extended c_extended k_extended
  have B_extended := F_extended.binds (ps := ["vector", "width"]) fun _ _ _ _ _ _ us hl => match us, hl with | [_, _], _ => rfl
  have F_both_extended := fun_mk (st := s_both_extended) l_both_extended c_both_extended k_both_extended
  have B_both_extended := F_both_extended.binds (ps := ["one", "two"]) fun _ _ _ _ _ _ us hl => match us, hl with | [_, _], _ => rfl
  have F_bit_not := fun_mk (st := s_bit_not) l_bit_not c_bit_not k_bit_not
  have B_bit_not := F_bit_not.binds (ps := ["vector"]) fun _ _ _ _ _ _ us hl => match us, hl with | [_], _ => rfl
  have F_bit_and := fun_mk (st := s_bit_and) l_bit_and c_bit_and k_bit_and
  have B_bit_and := F_bit_and.binds (ps := ["one", "two"]) fun _ _ _ _ _ _ us hl => match us, hl with | [_, _], _ => rfl
  have F_bit_or := fun_mk (st := s_bit_or) l_bit_or c_bit_or k_bit_or
  have B_bit_or := F_bit_or.binds (ps := ["one", "two"]) fun _ _ _ _ _ _ us hl => match us, hl with | [_, _], _ => rfl
  have F_bit_xor := fun_mk (st := s_bit_xor) l_bit_xor c_bit_xor k_bit_xor
  have B_bit_xor := F_bit_xor.binds (ps := ["one", "two"]) fun _ _ _ _ _ _ us hl => match us, hl with | [_, _], _ => rfl
  have F_reduce_and := fun_mk (st := s_reduce_and) l_reduce_and c_reduce_and k_reduce_and
  have B_reduce_and := F_reduce_and.binds (ps := ["vector"]) fun _ _ _ _ _ _ us hl => match us, hl with | [_], _ => rfl
  have F_reduce_or := fun_mk (st := s_reduce_or) l_reduce_or c_reduce_or k_reduce_or
  have B_reduce_or := F_reduce_or.binds (ps := ["vector"]) fun _ _ _ _ _ _ us hl => match us, hl with | [_], _ => rfl
  have F_reduce_xor := fun_mk (st := s_reduce_xor) l_reduce_xor c_reduce_xor k_reduce_xor
  have B_reduce_xor := F_reduce_xor.binds (ps := ["vector"]) fun _ _ _ _ _ _ us hl => match us, hl with | [_], _ => rfl
  have F_truth := fun_mk (st := s_truth) l_truth c_truth k_truth
  have B_truth := F_truth.binds (ps := ["vector"]) fun _ _ _ _ _ _ us hl => match us, hl with | [_], _ => rfl
  have F_logic_not := fun_mk (st := s_logic_not) l_logic_not c_logic_not k_logic_not
  have B_logic_not := F_logic_not.binds (ps := ["vector"]) fun _ _ _ _ _ _ us hl => match us, hl with | [_], _ => rfl
  have F_logic_and := fun_mk (st := s_logic_and) l_logic_and c_logic_and k_logic_and
  have B_logic_and := F_logic_and.binds (ps := ["one", "two"]) fun _ _ _ _ _ _ us hl => match us, hl with | [_, _], _ => rfl
  have F_logic_or := fun_mk (st := s_logic_or) l_logic_or c_logic_or k_logic_or
  have B_logic_or := F_logic_or.binds (ps := ["one", "two"]) fun _ _ _ _ _ _ us hl => match us, hl with | [_, _], _ => rfl
  have F_is_known := fun_mk (st := s_is_known) l_is_known c_is_known k_is_known
  have B_is_known := F_is_known.binds (ps := ["vector"]) fun _ _ _ _ _ _ us hl => match us, hl with | [_], _ => rfl
  have F_agreed_bit := fun_mk (st := s_agreed_bit) l_agreed_bit c_agreed_bit k_agreed_bit
  have B_agreed_bit := F_agreed_bit.binds (ps := ["a", "b"]) fun _ _ _ _ _ _ us hl => match us, hl with | [_, _], _ => rfl
  have F_choose := fun_mk (st := s_choose) l_choose c_choose k_choose
  have B_choose := F_choose.binds (ps := ["condition", "one", "two"]) fun _ _ _ _ _ _ us hl => match us, hl with | [_, _, _], _ => rfl
  have F_pick := fun_mk (st := s_pick) l_pick c_pick k_pick
  have B_pick := F_pick.binds (ps := ["vector", "index"]) fun _ _ _ _ _ _ us hl => match us, hl with | [_, _], _ => rfl
  have F_law_cell := fun_mk (st := s_law_cell) l_law_cell c_law_cell k_law_cell
  have B_law_cell := F_law_cell.binds (ps := ["script", "k"]) fun _ _ _ _ _ _ us hl => match us, hl with | [_, _], _ => rfl
  have F_law_numbers := fun_mk (st := s_law_numbers) l_law_numbers c_law_numbers k_law_numbers
  have B_law_numbers := F_law_numbers.binds (ps := ["script", "base", "many"]) fun _ _ _ _ _ _ us hl => match us, hl with | [_, _, _], _ => rfl
  have F_law_vector := fun_mk (st := s_law_vector) l_law_vector c_law_vector k_law_vector
  have B_law_vector := F_law_vector.binds (ps := ["numbers", "size", "plain"]) fun _ _ _ _ _ _ us hl => match us, hl with | [_, _, _], _ => rfl
  have F_law_not := fun_mk (st := s_law_not) l_law_not c_law_not k_law_not
  have B_law_not := F_law_not.binds (ps := ["one"]) fun _ _ _ _ _ _ us hl => match us, hl with | [_], _ => rfl
  have F_law_pair := fun_mk (st := s_law_pair) l_law_pair c_law_pair k_law_pair
  have B_law_pair := F_law_pair.binds (ps := ["rule", "one", "two"]) fun _ _ _ _ _ _ us hl => match us, hl with | [_, _, _], _ => rfl
  have F_law_both := fun_mk (st := s_law_both) l_law_both c_law_both k_law_both
  have B_law_both := F_law_both.binds (ps := ["one", "two"]) fun _ _ _ _ _ _ us hl => match us, hl with | [_, _], _ => rfl
  have F_law_pairs := fun_mk (st := s_law_pairs) l_law_pairs c_law_pairs k_law_pairs
  have B_law_pairs := F_law_pairs.binds (ps := ["rule", "one", "two"]) fun _ _ _ _ _ _ us hl => match us, hl with | [_, _, _], _ => rfl
  have F_law_fold := fun_mk (st := s_law_fold) l_law_fold c_law_fold k_law_fold
  have B_law_fold := F_law_fold.binds (ps := ["rule", "vector"]) fun _ _ _ _ _ _ us hl => match us, hl with | [_, _], _ => rfl
  have F_law_merged := fun_mk (st := s_law_merged) l_law_merged c_law_merged k_law_merged
  have B_law_merged := F_law_merged.binds (ps := ["one", "two"]) fun _ _ _ _ _ _ us hl => match us, hl with | [_, _], _ => rfl
  have F_law_chosen := fun_mk (st := s_law_chosen) l_law_chosen c_law_chosen k_law_chosen
  have B_law_chosen := F_law_chosen.binds (ps := ["condition", "one", "two"]) fun _ _ _ _ _ _ us hl => match us, hl with | [_, _, _], _ => rfl
  have F_law_picked := fun_mk (st := s_law_picked) l_law_picked c_law_picked k_law_picked
  have B_law_picked := F_law_picked.binds (ps := ["vector", "index"]) fun _ _ _ _ _ _ us hl => match us, hl with | [_, _], _ => rfl
  have F_law := fun_mk (st := s_law) l_law c_law k_law
  have B_law := F_law.binds (ps := ["script"]) fun _ _ _ _ _ _ us hl => match us, hl with | [_], _ => rfl
  refine ⟨PySem.W.fnOf "law" "law" (defArgs s_law) (defBody s_law) (defScope s_law) .none kV_law dc_law pm_law an_law cd_law ct_law, [(cT, Pt)], sp_law K [Pt], ?_, ?_, ?_, fun s v => .of_eq rfl, ?_, ?_⟩
  · intro p hp
    rw [List.mem_singleton.mp hp]
    exact TF _ _ _ _ _ _ _ (PySem.W.mg_of X G a_consists_of) l_consists_of rfl rfl lT rfl eT
  · intro p hp
    rw [List.mem_singleton.mp hp]
    exact nT
  · intro p hp
    rw [List.mem_singleton.mp hp]
    exact PySem.W.codeHd_of_K X hT
  · intro H a ns _ _ hH hS
    refine ⟨(a, ns), rfl, hS, fun P hP => ?_, fun _ _ => rfl⟩
    rw [List.mem_singleton.mp hP]
    exact ⟨#[], hH (cT, Pt) (List.mem_singleton.mpr rfl), trivial⟩
  · intro base XB GB TB
    have TBc : TabB base mg cT Pt := by
      have z := TB (cT, Pt) (List.mem_singleton.mpr rfl)
      exact ⟨z.1, z.2, z.3⟩
    have C_consists_of : Callee l.prog w K mg base "_consists_of" 1 ["text", "characters"] (sp_consists_of K [Pt]) := ⟨⟨_, _, ok_consists_of l_consists_of c_consists_of TBc (List.mem_singleton.mpr rfl) T, PySem.W.mg_of X G a_consists_of, k_consists_of, B_consists_of⟩⟩
    have C_extended : Callee l.prog w K mg base "_extended" 1 ["vector", "width"] (sp_extended K [Pt]) := ⟨⟨_, _, ok_extended F_extended T , PySem.W.mg_of X G a_extended, k_extended, B_extended⟩⟩
    have C_both_extended : Callee l.prog w K mg base "_both_extended" 2 ["one", "two"] (sp_both_extended K [Pt]) := ⟨⟨_, _, ok_both_extended F_both_extended T C_extended, PySem.W.mg_of X G a_both_extended, k_both_extended, B_both_extended⟩⟩
    have C_bit_not : Callee l.prog w K mg base "bit_not" 1 ["vector"] (sp_bit_not K [Pt]) := ⟨⟨_, _, ok_bit_not F_bit_not T , PySem.W.mg_of X G a_bit_not, k_bit_not, B_bit_not⟩⟩
    have C_bit_and : Callee l.prog w K mg base "bit_and" 3 ["one", "two"] (sp_bit_and K [Pt]) := ⟨⟨_, _, ok_bit_and F_bit_and T C_both_extended, PySem.W.mg_of X G a_bit_and, k_bit_and, B_bit_and⟩⟩
    have C_bit_or : Callee l.prog w K mg base "bit_or" 3 ["one", "two"] (sp_bit_or K [Pt]) := ⟨⟨_, _, ok_bit_or F_bit_or T C_both_extended, PySem.W.mg_of X G a_bit_or, k_bit_or, B_bit_or⟩⟩
    have C_bit_xor : Callee l.prog w K mg base "bit_xor" 3 ["one", "two"] (sp_bit_xor K [Pt]) := ⟨⟨_, _, ok_bit_xor F_bit_xor T C_both_extended, PySem.W.mg_of X G a_bit_xor, k_bit_xor, B_bit_xor⟩⟩
    have C_reduce_and : Callee l.prog w K mg base "reduce_and" 1 ["vector"] (sp_reduce_and K [Pt]) := ⟨⟨_, _, ok_reduce_and F_reduce_and T , PySem.W.mg_of X G a_reduce_and, k_reduce_and, B_reduce_and⟩⟩
    have C_reduce_or : Callee l.prog w K mg base "reduce_or" 1 ["vector"] (sp_reduce_or K [Pt]) := ⟨⟨_, _, ok_reduce_or F_reduce_or T , PySem.W.mg_of X G a_reduce_or, k_reduce_or, B_reduce_or⟩⟩
    have C_reduce_xor : Callee l.prog w K mg base "reduce_xor" 1 ["vector"] (sp_reduce_xor K [Pt]) := ⟨⟨_, _, ok_reduce_xor F_reduce_xor T , PySem.W.mg_of X G a_reduce_xor, k_reduce_xor, B_reduce_xor⟩⟩
    have C_truth : Callee l.prog w K mg base "truth" 2 ["vector"] (sp_truth K [Pt]) := ⟨⟨_, _, ok_truth F_truth T C_reduce_or, PySem.W.mg_of X G a_truth, k_truth, B_truth⟩⟩
    have C_logic_not : Callee l.prog w K mg base "logic_not" 3 ["vector"] (sp_logic_not K [Pt]) := ⟨⟨_, _, ok_logic_not F_logic_not T C_bit_not C_truth, PySem.W.mg_of X G a_logic_not, k_logic_not, B_logic_not⟩⟩
    have C_logic_and : Callee l.prog w K mg base "logic_and" 4 ["one", "two"] (sp_logic_and K [Pt]) := ⟨⟨_, _, ok_logic_and F_logic_and T C_bit_and C_truth, PySem.W.mg_of X G a_logic_and, k_logic_and, B_logic_and⟩⟩
    have C_logic_or : Callee l.prog w K mg base "logic_or" 4 ["one", "two"] (sp_logic_or K [Pt]) := ⟨⟨_, _, ok_logic_or F_logic_or T C_bit_or C_truth, PySem.W.mg_of X G a_logic_or, k_logic_or, B_logic_or⟩⟩
    have C_is_known : Callee l.prog w K mg base "is_known" 2 ["vector"] (sp_is_known K [Pt]) := ⟨⟨_, _, ok_is_known F_is_known T C_consists_of, PySem.W.mg_of X G a_is_known, k_is_known, B_is_known⟩⟩
    have C_agreed_bit : Callee l.prog w K mg base "_agreed_bit" 1 ["a", "b"] (sp_agreed_bit K [Pt]) := ⟨⟨_, _, ok_agreed_bit F_agreed_bit T , PySem.W.mg_of X G a_agreed_bit, k_agreed_bit, B_agreed_bit⟩⟩
    have C_choose : Callee l.prog w K mg base "choose" 3 ["condition", "one", "two"] (sp_choose K [Pt]) := ⟨⟨_, _, ok_choose F_choose T C_both_extended C_truth C_agreed_bit, PySem.W.mg_of X G a_choose, k_choose, B_choose⟩⟩
    have C_pick : Callee l.prog w K mg base "pick" 3 ["vector", "index"] (sp_pick K [Pt]) := ⟨⟨_, _, ok_pick F_pick T C_is_known, PySem.W.mg_of X G a_pick, k_pick, B_pick⟩⟩
    have C_law_cell : Callee l.prog w K mg base "_law_cell" 1 ["script", "k"] (sp_law_cell K [Pt]) := ⟨⟨_, _, ok_law_cell F_law_cell T , PySem.W.mg_of X G a_law_cell, k_law_cell, B_law_cell⟩⟩
    have C_law_numbers : Callee l.prog w K mg base "_law_numbers" 1 ["script", "base", "many"] (sp_law_numbers K [Pt]) := ⟨⟨_, _, ok_law_numbers F_law_numbers T , PySem.W.mg_of X G a_law_numbers, k_law_numbers, B_law_numbers⟩⟩
    have C_law_vector : Callee l.prog w K mg base "_law_vector" 1 ["numbers", "size", "plain"] (sp_law_vector K [Pt]) := ⟨⟨_, _, ok_law_vector F_law_vector T , PySem.W.mg_of X G a_law_vector, k_law_vector, B_law_vector⟩⟩
    have C_law_not : Callee l.prog w K mg base "_law_not" 1 ["one"] (sp_law_not K [Pt]) := ⟨⟨_, _, ok_law_not F_law_not T , PySem.W.mg_of X G a_law_not, k_law_not, B_law_not⟩⟩
    have C_law_pair : Callee l.prog w K mg base "_law_pair" 1 ["rule", "one", "two"] (sp_law_pair K [Pt]) := ⟨⟨_, _, ok_law_pair F_law_pair T , PySem.W.mg_of X G a_law_pair, k_law_pair, B_law_pair⟩⟩
    have C_law_both : Callee l.prog w K mg base "_law_both" 1 ["one", "two"] (sp_law_both K [Pt]) := ⟨⟨_, _, ok_law_both F_law_both T , PySem.W.mg_of X G a_law_both, k_law_both, B_law_both⟩⟩
    have C_law_pairs : Callee l.prog w K mg base "_law_pairs" 2 ["rule", "one", "two"] (sp_law_pairs K [Pt]) := ⟨⟨_, _, ok_law_pairs F_law_pairs T C_law_both C_law_pair, PySem.W.mg_of X G a_law_pairs, k_law_pairs, B_law_pairs⟩⟩
    have C_law_fold : Callee l.prog w K mg base "_law_fold" 2 ["rule", "vector"] (sp_law_fold K [Pt]) := ⟨⟨_, _, ok_law_fold F_law_fold T C_law_pair, PySem.W.mg_of X G a_law_fold, k_law_fold, B_law_fold⟩⟩
    have C_law_merged : Callee l.prog w K mg base "_law_merged" 1 ["one", "two"] (sp_law_merged K [Pt]) := ⟨⟨_, _, ok_law_merged F_law_merged T , PySem.W.mg_of X G a_law_merged, k_law_merged, B_law_merged⟩⟩
    have C_law_chosen : Callee l.prog w K mg base "_law_chosen" 3 ["condition", "one", "two"] (sp_law_chosen K [Pt]) := ⟨⟨_, _, ok_law_chosen F_law_chosen T C_law_both C_law_fold C_law_merged, PySem.W.mg_of X G a_law_chosen, k_law_chosen, B_law_chosen⟩⟩
    have C_law_picked : Callee l.prog w K mg base "_law_picked" 1 ["vector", "index"] (sp_law_picked K [Pt]) := ⟨⟨_, _, ok_law_picked F_law_picked T , PySem.W.mg_of X G a_law_picked, k_law_picked, B_law_picked⟩⟩
    exact ok_law F_law T C_law_cell C_law_numbers C_law_vector C_law_not C_bit_not C_bit_and C_bit_or C_bit_xor C_law_pairs C_reduce_and C_reduce_or C_reduce_xor C_truth C_law_fold C_logic_not C_logic_and C_logic_or C_law_pair C_choose C_law_chosen C_pick C_law_picked
end K02
open PySem PySem.W PyProof.Rows
set_option Elab.async false
set_option maxRecDepth 100000 in
set_option maxHeartbeats 0 in
theorem PySem.Challenge.cw_clockwright_k02_bit_by_bit_holds : PySem.Challenge.rw_clockwright_k02_bit_by_bit.Holds := by
  w_on; o_law; k_head; (case hw => w_witness2)
  k_fill
  refine K02.walk_tab (l := PySem.Challenge.rw_clockwright_k02_bit_by_bit) (n := 63) (k := 5) (y := "script") "_consists_of" rfl (by decide) rfl ⟨rfl, by decide, by decide⟩ ?R (fun w h Y => PySem.W.kIn_of Y) ?F
  case R => kernel_rfl
  case F =>
    intro w mg fa h KX G hmg TF
    refine' K02.all_mk (l := PySem.Challenge.rw_clockwright_k02_bit_by_bit) (w := w) KX G hmg TF ?a_consists_of ?l_consists_of ?c_consists_of ?k_consists_of ?a_extended ?l_extended ?c_extended ?k_extended ?a_both_extended ?l_both_extended ?c_both_extended ?k_both_extended ?a_bit_not ?l_bit_not ?c_bit_not ?k_bit_not ?a_bit_and ?l_bit_and ?c_bit_and ?k_bit_and ?a_bit_or ?l_bit_or ?c_bit_or ?k_bit_or ?a_bit_xor ?l_bit_xor ?c_bit_xor ?k_bit_xor ?a_reduce_and ?l_reduce_and ?c_reduce_and ?k_reduce_and ?a_reduce_or ?l_reduce_or ?c_reduce_or ?k_reduce_or ?a_reduce_xor ?l_reduce_xor ?c_reduce_xor ?k_reduce_xor ?a_truth ?l_truth ?c_truth ?k_truth ?a_logic_not ?l_logic_not ?c_logic_not ?k_logic_not ?a_logic_and ?l_logic_and ?c_logic_and ?k_logic_and ?a_logic_or ?l_logic_or ?c_logic_or ?k_logic_or ?a_is_known ?l_is_known ?c_is_known ?k_is_known ?a_agreed_bit ?l_agreed_bit ?c_agreed_bit ?k_agreed_bit ?a_choose ?l_choose ?c_choose ?k_choose ?a_pick ?l_pick ?c_pick ?k_pick ?a_law_cell ?l_law_cell ?c_law_cell ?k_law_cell ?a_law_numbers ?l_law_numbers ?c_law_numbers ?k_law_numbers ?a_law_vector ?l_law_vector ?c_law_vector ?k_law_vector ?a_law_not ?l_law_not ?c_law_not ?k_law_not ?a_law_pair ?l_law_pair ?c_law_pair ?k_law_pair ?a_law_both ?l_law_both ?c_law_both ?k_law_both ?a_law_pairs ?l_law_pairs ?c_law_pairs ?k_law_pairs ?a_law_fold ?l_law_fold ?c_law_fold ?k_law_fold ?a_law_merged ?l_law_merged ?c_law_merged ?k_law_merged ?a_law_chosen ?l_law_chosen ?c_law_chosen ?k_law_chosen ?a_law_picked ?l_law_picked ?c_law_picked ?k_law_picked ?a_law ?l_law ?c_law ?k_law ?lT ?eT ?hT ?nT ?z_len ?z_max ?z_all ?z_zip ?z_range ?z_abs ?z_int ?g_A ?d_A ?e_A ?t_A ?g_O ?d_O ?e_O ?t_O ?g_X ?d_X ?e_X ?t_X ?g_N ?d_N ?e_N ?t_N
    (case a_consists_of => k_is)
    (case l_consists_of => k_is)
    (case c_consists_of => k_is)
    (case k_consists_of => k_is)
    (case a_extended => k_is)
    (case l_extended => k_is)
    (case c_extended => k_is)
    (case k_extended => k_is)
    (case a_both_extended => k_is)
    (case l_both_extended => k_is)
    (case c_both_extended => k_is)
    (case k_both_extended => k_is)
    (case a_bit_not => k_is)
    (case l_bit_not => k_is)
    (case c_bit_not => k_is)
    (case k_bit_not => k_is)
    (case a_bit_and => k_is)
    (case l_bit_and => k_is)
    (case c_bit_and => k_is)
    (case k_bit_and => k_is)
    (case a_bit_or => k_is)
    (case l_bit_or => k_is)
    (case c_bit_or => k_is)
    (case k_bit_or => k_is)
    (case a_bit_xor => k_is)
    (case l_bit_xor => k_is)
    (case c_bit_xor => k_is)
    (case k_bit_xor => k_is)
    (case a_reduce_and => k_is)
    (case l_reduce_and => k_is)
    (case c_reduce_and => k_is)
    (case k_reduce_and => k_is)
    (case a_reduce_or => k_is)
    (case l_reduce_or => k_is)
    (case c_reduce_or => k_is)
    (case k_reduce_or => k_is)
    (case a_reduce_xor => k_is)
    (case l_reduce_xor => k_is)
    (case c_reduce_xor => k_is)
    (case k_reduce_xor => k_is)
    (case a_truth => k_is)
    (case l_truth => k_is)
    (case c_truth => k_is)
    (case k_truth => k_is)
    (case a_logic_not => k_is)
    (case l_logic_not => k_is)
    (case c_logic_not => k_is)
    (case k_logic_not => k_is)
    (case a_logic_and => k_is)
    (case l_logic_and => k_is)
    (case c_logic_and => k_is)
    (case k_logic_and => k_is)
    (case a_logic_or => k_is)
    (case l_logic_or => k_is)
    (case c_logic_or => k_is)
    (case k_logic_or => k_is)
    (case a_is_known => k_is)
    (case l_is_known => k_is)
    (case c_is_known => k_is)
    (case k_is_known => k_is)
    (case a_agreed_bit => k_is)
    (case l_agreed_bit => k_is)
    (case c_agreed_bit => k_is)
    (case k_agreed_bit => k_is)
    (case a_choose => k_is)
    (case l_choose => k_is)
    (case c_choose => k_is)
    (case k_choose => k_is)
    (case a_pick => k_is)
    (case l_pick => k_is)
    (case c_pick => k_is)
    (case k_pick => k_is)
    (case a_law_cell => k_is)
    (case l_law_cell => k_is)
    (case c_law_cell => k_is)
    (case k_law_cell => k_is)
    (case a_law_numbers => k_is)
    (case l_law_numbers => k_is)
    (case c_law_numbers => k_is)
    (case k_law_numbers => k_is)
    (case a_law_vector => k_is)
    (case l_law_vector => k_is)
    (case c_law_vector => k_is)
    (case k_law_vector => k_is)
    (case a_law_not => k_is)
    (case l_law_not => k_is)
    (case c_law_not => k_is)
    (case k_law_not => k_is)
    (case a_law_pair => k_is)
    (case l_law_pair => k_is)
    (case c_law_pair => k_is)
    (case k_law_pair => k_is)
    (case a_law_both => k_is)
    (case l_law_both => k_is)
    (case c_law_both => k_is)
    (case k_law_both => k_is)
    (case a_law_pairs => k_is)
    (case l_law_pairs => k_is)
    (case c_law_pairs => k_is)
    (case k_law_pairs => k_is)
    (case a_law_fold => k_is)
    (case l_law_fold => k_is)
    (case c_law_fold => k_is)
    (case k_law_fold => k_is)
    (case a_law_merged => k_is)
    (case l_law_merged => k_is)
    (case c_law_merged => k_is)
    (case k_law_merged => k_is)
    (case a_law_chosen => k_is)
    (case l_law_chosen => k_is)
    (case c_law_chosen => k_is)
    (case k_law_chosen => k_is)
    (case a_law_picked => k_is)
    (case l_law_picked => k_is)
    (case c_law_picked => k_is)
    (case k_law_picked => k_is)
    (case a_law => k_is)
    (case l_law => k_is)
    (case c_law => k_is)
    (case k_law => k_is)
    (case lT => k_is)
    (case eT => rfl)
    (case hT => kernel_rfl)
    (case nT => kernel_rfl)
    (case z_len => k_is)
    (case z_max => k_is)
    (case z_all => k_is)
    (case z_zip => k_is)
    (case z_range => k_is)
    (case z_abs => k_is)
    (case z_int => k_is)
    (case g_A => k_is)
    (case d_A => k_is)
    (case e_A => (repeat (first | exact trivial | (refine ⟨⟨_, _, rfl, rfl⟩, ?_⟩))))
    (case t_A => intro a ha b hb; simp only [List.mem_cons, List.not_mem_nil, or_false] at ha hb; (rcases ha with rfl | rfl | rfl | rfl <;> rcases hb with rfl | rfl | rfl | rfl <;> (apply Exists.intro; k_is)))
    (case g_O => k_is)
    (case d_O => k_is)
    (case e_O => (repeat (first | exact trivial | (refine ⟨⟨_, _, rfl, rfl⟩, ?_⟩))))
    (case t_O => intro a ha b hb; simp only [List.mem_cons, List.not_mem_nil, or_false] at ha hb; (rcases ha with rfl | rfl | rfl | rfl <;> rcases hb with rfl | rfl | rfl | rfl <;> (apply Exists.intro; k_is)))
    (case g_X => k_is)
    (case d_X => k_is)
    (case e_X => (repeat (first | exact trivial | (refine ⟨⟨_, _, rfl, rfl⟩, ?_⟩))))
    (case t_X => intro a ha b hb; simp only [List.mem_cons, List.not_mem_nil, or_false] at ha hb; (rcases ha with rfl | rfl | rfl | rfl <;> rcases hb with rfl | rfl | rfl | rfl <;> (apply Exists.intro; k_is)))
    (case g_N => k_is)
    (case d_N => k_is)
    (case e_N => (repeat (first | exact trivial | (refine ⟨⟨_, _, rfl, rfl⟩, ?_⟩))))
    (case t_N => intro a ha; simp only [List.mem_cons, List.not_mem_nil, or_false] at ha; (rcases ha with rfl | rfl | rfl | rfl <;> (apply Exists.intro; k_is)))
