import PyProof.Rows.All
import Wide.All
import OpenK.AllK
import Wide.FinOn
import KE.KIntText
import KE.IntTextLaws
import HandS.Base
import HandS.Call
import HandS.Codes
import KE.GoesZip
import KE.GoesMore
import HandS.List
import HandS.Iter
import HandS.Walk
import HandS.Comp
import HandS.Text
import HandS.AnyAll
import PyProof.StrOps2
import HandS.ForMost
import HandS.More
import HandS.Lambda
import HandS.EndTab
import PyProof.FString3
import HandS.FStr
import HandS.WideBits
import HandS.StrMore
import HandS.Style
import HandS.Wide
import PySem.Challenge.RW_clockwright_k03_arithmetic
import HandS.EndBits
import KE.KNestM
set_option Elab.async false
set_option linter.all false
set_option maxRecDepth 100000
/-! int(text, 2) -/
namespace Cw
open PySem PySem.Spec PyProof.Rows L2
open PySem.NumText PySem.Calls
def IsBin (c : Nat) : Prop := c = 48 ∨ c = 49
def bv (c : Nat) : Nat := c - 48
def binNum (l : List Nat) : Nat := l.foldl (fun a c => a * 2 + bv c) 0
theorem bin_rng {c : Nat} (h : IsBin c) : 48 ≤ c ∧ c ≤ 49 ∧ c ≠ 95 := by
  unfold IsBin at h
  omega
theorem bin_digit {c : Nat} (h : IsBin c) : digit? c = some (bv c) := by
  rcases h with h | h
  · subst h
    rfl
  · subst h
    rfl
theorem bin_lt {c : Nat} (h : IsBin c) : bv c < 2 := by
  have := bin_rng h
  unfold bv
  omega
theorem bin_step {ds : Array Nat} {b : Bool} {c : Nat} (h : IsBin c) : PySem.NumText.step 2 (ds, b) c = some (ds.push (bv c), true) := by
  unfold PySem.NumText.step
  rw [if_neg (by rw [beq_iff_eq]; exact (bin_rng h).2.2), bin_digit h]
  exact if_pos (bin_lt h)
theorem bin_foldl : ∀ (cs : List Nat) (ds : Array Nat), (∀ c ∈ cs, IsBin c) → cs.foldlM (PySem.NumText.step 2) (ds, true) = some (cs.foldl (fun acc c => acc.push (bv c)) ds, true)
  | [], _, _ => rfl
  | c :: cs, ds, h => by
    rw [List.foldlM_cons, bin_step (h c (List.mem_cons_self ..))]
    show cs.foldlM (PySem.NumText.step 2) (ds.push (bv c), true) = _
    exact bin_foldl cs (ds.push (bv c)) fun d hd => h d (List.mem_cons_of_mem _ hd)
theorem bin_digits {cs : List Nat} (h : ∀ c ∈ cs, IsBin c) (hne : cs ≠ []) : digits? 2 cs = some (cs.foldl (fun acc c => acc.push (bv c)) #[]) := by
  cases cs with
  | nil => exact absurd rfl hne
  | cons c cs =>
    unfold digits?
    rw [List.foldlM_cons, bin_step (h c (List.mem_cons_self ..))]
    show (cs.foldlM (PySem.NumText.step 2) ((#[] : Array Nat).push (bv c), true)).bind _ = _
    rw [bin_foldl cs _ fun d hd => h d (List.mem_cons_of_mem _ hd)]
    rfl
theorem bin_push : ∀ (cs : List Nat) (ds : Array Nat), (cs.foldl (fun acc c => acc.push (bv c)) ds).foldl (fun acc d => acc * 2 + d) 0 = cs.foldl (fun a c => a * 2 + bv c) (ds.foldl (fun acc d => acc * 2 + d) 0)
  | [], _ => rfl
  | c :: cs, ds => by
    rw [List.foldl_cons, bin_push cs (ds.push (bv c)), List.foldl_cons]
    congr 1
    simp
theorem bin_drop {cs : List Nat} (h : ∀ c ∈ cs, IsBin c) : cs.dropWhile blank = cs := by
  cases cs with
  | nil => rfl
  | cons c cs => exact dropWhile_of (by have := bin_rng (h c (List.mem_cons_self ..)); omega)
theorem bin_sign {cs : List Nat} (h : ∀ c ∈ cs, IsBin c) : sign cs = (false, cs) := by
  cases cs with
  | nil => rfl
  | cons c cs =>
    have := bin_rng (h c (List.mem_cons_self ..))
    exact sign_of (by omega) (by omega)
theorem bin_pref {cs : List Nat} (h : ∀ c ∈ cs, IsBin c) : PySem.NumText.prefix? cs = none := by
  match cs, h with
  | [], _ => rfl
  | [a], _ =>
    unfold PySem.NumText.prefix?
    split
    · rename_i e
      cases e
    · rfl
  | a :: c :: r, h =>
    have hc := bin_rng (h c (List.mem_cons_of_mem _ (List.mem_cons_self ..)))
    by_cases ha : a = 48
    · subst ha
      have e : PySem.NumText.prefix? (48 :: c :: r) = if (c == 120 || c == 88) = true then some 16 else if (c == 111 || c == 79) = true then some 8 else if (c == 98 || c == 66) = true then some 2 else none := rfl
      rw [e, if_neg (by rw [Bool.or_eq_true, beq_iff_eq, beq_iff_eq]; omega), if_neg (by rw [Bool.or_eq_true, beq_iff_eq, beq_iff_eq]; omega), if_neg (by rw [Bool.or_eq_true, beq_iff_eq, beq_iff_eq]; omega)]
    · unfold PySem.NumText.prefix?
      split
      · rename_i e
        exact absurd (List.cons.inj e).1 ha
      · rfl
theorem bin_based {cs : List Nat} (h : ∀ c ∈ cs, IsBin c) : based 2 cs = (2, false, cs) := by
  unfold based
  rw [bin_pref h] <;> rfl
theorem bin_read {cs : List Nat} (h : ∀ c ∈ cs, IsBin c) (hne : cs ≠ []) : (int_private% "readNumeral") 0 2 cs = (int_private% "Numeral.value") ((binNum cs : Nat) : Int) := by
  have hr : ∀ c ∈ cs.reverse, IsBin c := fun c hc => h c (List.mem_reverse.mp hc)
  refine (readNumeral_eq 0 2 cs).trans ?_
  rw [bin_drop h, bin_sign h]
  show judge 0 false (based 2 cs).1 (based 2 cs).2.1 (digits? (based 2 cs).1 (((based 2 cs).2.2.reverse.dropWhile blank).reverse)) = _
  rw [bin_based h]
  show judge 0 false 2 false (digits? 2 ((cs.reverse.dropWhile blank).reverse)) = _
  rw [bin_drop hr, List.reverse_reverse, bin_digits h hne]
  show (int_private% "Numeral.value") (((cs.foldl (fun acc c => acc.push (bv c)) (#[] : Array Nat)).foldl (fun acc d => acc * 2 + d) 0 : Nat) : Int) = _
  have z : (#[] : Array Nat).foldl (fun acc d => acc * 2 + d) 0 = 0 := by first | rfl | simp
  rw [bin_push, z] <;> rfl
theorem bin_seen {x : Str} (h : ∀ c ∈ x.cps.toList, IsBin c) : numTextOf x = x.cps.toList ∧ numSeenOf x = x.cps.toList := by
  have e1 : numTextOf x = x.cps.toList := by
    refine if_pos ?_
    rw [← Array.all_toList, List.all_eq_true]
    intro c hc
    have := bin_rng (h c hc)
    exact decide_eq_true (by omega)
  refine ⟨e1, ?_⟩
  show (numTextOf x).takeWhile _ = _
  rw [e1]
  refine takeWhile_all fun c hc => ?_
  have := bin_rng (h c hc)
  exact bne_iff_ne.mpr (by omega)
theorem wp_textB {M : Model} {A : Around} {E : Value → Shared → Prop} {s : Shared} {Q : Value → Shared → Prop} {v : Value} {text : List Nat} {B : Nat} {n : Int}
    (hs : (text.takeWhile (· != 0)).length ≤ 640) (hr : (int_private% "readNumeral") 0 B (text.takeWhile (· != 0)) = (int_private% "Numeral.value") n)
    (ha : ((text.takeWhile (· != 0)).length == text.length) = true) (h : Q (.int n s.toks) { s with toks := s.toks + 1 }) :
    wpAny M A ((int_private% "intFromText") v text B) Q E s := by
  obtain ⟨hp, g, d, tk, os⟩ := s
  repeat (any_goals (first
    | assumption
    | (with_reducible refine wpAny_ite_true (decide_eq_true hs) ?_)
    | (with_reducible refine wpAny_ite_true (decide_eq_true ha) ?_)
    | wp_step))
  all_goals (try rw [hr])
  all_goals (try dsimp only)
  repeat (any_goals (first
    | assumption
    | (with_reducible refine wpAny_ite_true (decide_eq_true hs) ?_)
    | (with_reducible refine wpAny_ite_true (decide_eq_true ha) ?_)
    | wp_step))
structure Hid (p : Prop) : Prop where
  out : p
set_option maxHeartbeats 4000000 in
theorem gives_bin {x : PySem.Str} {u t : Tok} (hl : x.length ≤ 640) (h : ∀ c ∈ x.cps.toList, IsBin c) (hne : x.cps.toList ≠ []) :
    Gives (Builtin.«int.__new__» ⟨[.type "int", .str x u, .int 2 t], []⟩) (.int ((binNum x.cps.toList : Nat) : Int)) :=
  .of_wp fun M A E s Q hQ => by
    obtain ⟨hp, g, d, tk, os⟩ := s
    have f1 := F.conv_sub_int
    have f2 := F.madeHere_int
    have f6 : typeOf (.str x u) = pure (.type "str") := rfl
    obtain ⟨e1, e2⟩ := bin_seen h
    have hs : (numSeenOf x).length ≤ 640 := by
      rw [e2, Array.length_toList]
      exact hl
    have hr : (int_private% "readNumeral") 0 2 (numSeenOf x) = (int_private% "Numeral.value") ((binNum x.cps.toList : Nat) : Int) := by
      rw [e2]
      exact bin_read h hne
    have ha : ((numSeenOf x).length == (numTextOf x).length) = true := by
      rw [e1, e2]
      exact beq_self_eq_true _
    have hk := Hid.mk (And.intro hs (And.intro hr ha))
    clear hs hr ha e1 e2 hl hne h
    repeat (any_goals (first
      | assumption
      | ((with_reducible show wpAny _ _ ((int_private% "intFromText") _ _ _) _ _ _); refine wp_textB hk.out.1 hk.out.2.1 hk.out.2.2 ?_)
      | wp_step))
    all_goals first | exact ⟨_, rfl, hQ⟩ | skip
theorem typeCall_int_2 (a b : Value) : checkTypeCall "int" ⟨[a, b], []⟩ = pure () := by kernel_rfl
theorem newCall_int_2 (a b : Value) : checkBuiltinCall "int.__new__" ⟨[.type "int", a, b], []⟩ = pure () := by kernel_rfl
theorem call_bin {prog : Program} {w : World} {A : Around} {E : Value → Shared → Prop} {s : Shared} {Q : Value → Shared → Prop} {x : PySem.Str} {u t : Tok} (hl : x.length ≤ 640) (h : ∀ c ∈ x.cps.toList, IsBin c) (hne : x.cps.toList ≠ [])
    (hQ : Q (.int ((binNum x.cps.toList : Nat) : Int) s.toks) { s with toks := s.toks + 1 }) : wpAny (model prog w) A (call (.type "int") [.str x u, .int 2 t]) Q E s :=
  callType_new F.called_int F.newNe_int (typeCall_int_2 _ _) (newCall_int_2 _ _) (fun obj => F.initArgs_range_2 obj _ _) F.entry_int_new (gives_bin hl h hne).meets (show (Made.int ((binNum x.cps.toList : Nat) : Int)).post _ s from ⟨rfl, hQ⟩)
/-- int(t, 2) -/
def rIntBin : List V → Hp → VK → Prop := fun xs H Q => ∃ x : Str, xs = [.str x, .int 2] ∧ x.cps.toList ≠ [] ∧ x.length ≤ 640 ∧ (∀ c ∈ x.cps.toList, IsBin c) ∧ Q (.int ((binNum x.cps.toList : Nat) : Int)) H
theorem call_int_bin {X : Cx} : CallR X (.type "int") rIntBin := by
  intro pins s σ H xs us Q I r h
  obtain ⟨x, rfl, hne, hl, hx, q⟩ := h
  obtain ⟨u, w', rfl, r1, r2⟩ := vals2 r
  obtain ⟨t1, rfl⟩ := r1
  obtain ⟨t2, rfl⟩ := r2
  exact call_bin hl hx hne ⟨.int ((binNum x.cps.toList : Nat) : Int), H, I.tok _, ⟨_, rfl⟩, q⟩
end Cw
set_option Elab.async false
set_option linter.all false
set_option maxRecDepth 100000
/-! zip of two texts -/
namespace Cw
open PySem PySem.Spec PyProof.Rows L2
/-- two texts sign by sign, the signs in new pairs -/
def Itzs (x y : Str) : It :=
  ⟨fun i _ => i < x.cps.size ∧ i < y.cps.size,
    fun i H v H' => ∃ T c d, v = .ref T ∧ H T = none ∧ H' = upd H T (.tup [.str ⟨#[c]⟩, .str ⟨#[d]⟩]) ∧ x.cps[i]? = some c ∧ y.cps[i]? = some d,
    fun i _ => i ≤ x.cps.size ∧ i ≤ y.cps.size ∧ (i = x.cps.size ∨ i = y.cps.size)⟩
theorem turn_zips {P : Program} {w : World} {K : PySem.W.Frag} {elts : List Expr} {kk : Nat} {tpos : Pos} {z TI TO i1 i2 : Addr} {x y : Str} {t1 t2 : Tok} (D : ZipSep2 z TI TO i1 i2 [i1] [i2]) :
    Turn P w K (.Tuple elts kk tpos) (Itzs x y) [z, TI, TO, i1, i2] z (fun i h => IsZip h z TI TO .none ∧ IsPair h TI (.ref i1) (.ref i2) ∧ (∃ u v, IsPair h TO u v) ∧ h.IsStrIter i1 (strIterType x) x t1 i ∧ h.IsStrIter i2 (strIterType y) y t2 i) where
  mem := by simp
  obj := fun i h st c hc => by
    obtain ⟨hz, hTI, ⟨u, v, hTO⟩, ⟨o1, e1, _, d1⟩, ⟨o2, e2, _, d2⟩⟩ := st
    have e' : c = z ∨ c = TI ∨ c = TO ∨ c = i1 ∨ c = i2 := by simpa using hc
    rcases e' with q | q | q | q | q
    · rw [q]; exact ⟨_, hz, fun v q => nomatch q⟩
    · rw [q]; exact ⟨_, hTI, fun v q => nomatch q⟩
    · rw [q]; exact ⟨_, hTO, fun v q => nomatch q⟩
    · rw [q]; exact ⟨o1, e1, fun v q => by rw [d1] at q; cases q⟩
    · rw [q]; exact ⟨o2, e2, fun v q => by rw [d2] at q; cases q⟩
  keep := fun i h h' st k => by
    obtain ⟨hz, hTI, ⟨u, v, hTO⟩, ⟨o1, e1, r1⟩, ⟨o2, e2, r2⟩⟩ := st
    exact ⟨k z (by simp) _ hz, k TI (by simp) _ hTI, ⟨u, v, k TO (by simp) _ hTO⟩, ⟨o1, k i1 (by simp) _ e1, r1⟩, ⟨o2, k i2 (by simp) _ e2, r2⟩⟩
  item := by
    intro X hP hw hK hc i pins s σ H E I hf st hg
    subst hP hw hK
    obtain ⟨hz, hTI, ⟨u0, v0, hTO⟩, h1, h2⟩ := st
    obtain ⟨l1, l2⟩ := hg
    have hh : X.A.in1.handled = none := I.ok.hd hc
    have hzl : z < s.heap.objs.size := Heap.lt_size hz
    refine wpAny_pyNext_zipD2_item D (Draws.text hh i1 x t1) (Draws.text hh i2 y t2) hz hTI hTO h1 h2 l1 l2 fun x1 x2 h' tk p1 p2 z' TO' h1' h2' hT hsz hk => ?_
    obtain ⟨c, u, hc1, rfl⟩ := p1
    obtain ⟨d, v, hc2, rfl⟩ := p2
    refine ⟨_, rfl, wpAny_letOwnedTupleGo_zip (s := { s with heap := h', toks := tk }) z' fun h'' z'' sb => ?_⟩
    have hT2 : h''.get? s.heap.objs.size = some { cls := .type "tuple", data := .seq #[.str ⟨#[c]⟩ u, .str ⟨#[d]⟩ v] } := (sb.2 _ (Nat.ne_of_gt hzl)).trans hT
    have new : ObjOk X.prog X.w (upd H s.heap.objs.size (.tup [.str ⟨#[c]⟩, .str ⟨#[d]⟩])) h'' s.heap.objs.size (.tup [.str ⟨#[c]⟩, .str ⟨#[d]⟩]) :=
      ⟨by show 2 ≤ sizeLine; decide, [.str ⟨#[c]⟩ u, .str ⟨#[d]⟩ v], .cons ⟨u, rfl⟩ (.cons ⟨v, rfl⟩ .nil), ⟨_, hT2, rfl, _, rfl⟩⟩
    have I1 : Inv X pins σ (upd H s.heap.objs.size (.tup [.str ⟨#[c]⟩, .str ⟨#[d]⟩])) { s with heap := h'', toks := tk } :=
      I.turnedNew (t' := tk) (ch := [z, TI, TO, i1, i2]) (fun c o hb q => (sb.2 c (fun q' => hb (by simp [q']))).trans (hk c o (fun q' => hb (by simp [q'])) (fun q' => hb (by simp [q'])) (fun q' => hb (by simp [q'])) (fun q' => hb (by simp [q'])) q)) hf (Nat.le_refl _) new
    refine ⟨.ref s.heap.objs.size, _, I1, rfl, ⟨_, c, d, rfl, I.hok.fresh (Nat.le_refl _), rfl, hc1, hc2⟩, ⟨z'', ?_, ⟨.str ⟨#[c]⟩ u, .str ⟨#[d]⟩ v, ?_⟩, ?_, ?_⟩, fun c hcm => ?_⟩
    · exact (sb.2 _ D.TIz).trans (hk _ _ D.TIz D.TITO D.TIi1 D.TIi2 hTI)
    · exact (sb.2 _ D.TOz).trans TO'
    · obtain ⟨o1, e1, r1⟩ := h1'
      exact ⟨o1, (sb.2 _ D.zi1.symm).trans e1, r1⟩
    · obtain ⟨o2, e2, r2⟩ := h2'
      exact ⟨o2, (sb.2 _ D.zi2.symm).trans e2, r2⟩
    · have hlt : c < s.heap.objs.size := by
        have e' : c = z ∨ c = TI ∨ c = TO ∨ c = i1 ∨ c = i2 := by simpa using hcm
        rcases e' with q | q | q | q | q
        · rw [q]; exact hzl
        · rw [q]; exact Heap.lt_size hTI
        · rw [q]; exact Heap.lt_size hTO
        · rw [q]; obtain ⟨_, e1, _⟩ := h1; exact Heap.lt_size e1
        · rw [q]; obtain ⟨_, e2, _⟩ := h2; exact Heap.lt_size e2
      rw [upd_ne (Nat.ne_of_lt hlt)]
      exact (hf c hcm).1
  done := by
    intro X hP hw hK hc i pins s σ H E I hf st hg
    subst hP hw hK
    obtain ⟨hz, hTI, ⟨u0, v0, hTO⟩, h1, h2⟩ := st
    obtain ⟨l1, l2, he⟩ := hg
    have hh : X.A.in1.handled = none := I.ok.hd hc
    exact wpAny_pyNext_zipD2_end D (Draws.text hh i1 x t1) (Draws.text hh i2 y t2) hz hTI hTO h1 h2 l1 l2 he fun h' tk hk => ⟨rfl, I.turnedL (t' := tk) (ch := [z, TI, TO, i1, i2]) (fun c o hb q =>
      hk c o (fun q' => hb (by simp [q'])) (fun q' => hb (by simp [q'])) (fun q' => hb (by simp [q'])) (fun q' => hb (by simp [q'])) q) hf⟩
  self := fun A i s Q E st h => wpAny_pyIter_zip st.1 h
theorem zs_apart (I : Nat) : ZipSep2 (I + 4) (I + 2) (I + 3) I (I + 1) [I] [I + 1] where
  TIz := by show (I + 2 : Nat) ≠ (I + 4 : Nat); omega
  TOz := by show (I + 3 : Nat) ≠ (I + 4 : Nat); omega
  TITO := by show (I + 2 : Nat) ≠ (I + 3 : Nat); omega
  TIi1 := by show (I + 2 : Nat) ≠ (I : Nat); omega
  mem1 := by simp
  zf1 := by simp
  Tf1 := by simp
  TIi2 := by show (I + 2 : Nat) ≠ (I + 1 : Nat); omega
  mem2 := by simp
  zf2 := by simp
  Tf2 := by simp
  sep1_2 := by simp
  sep2_1 := by simp
def iZips (ta : TA) : TI := fun σ H R => ta σ H fun vs H1 => ∃ x y : Str, vs = [.str x, .str y] ∧ R (Itzs x y) H1
theorem pi_zips {X : Cx} {e e2 : Expr} {ta : TA} {p pos tpos : Pos} {elts : List Expr} {kk : Nat} (hg : Gl X "zip") (hm : X.mg "zip" = none) (ha : PA X [e, e2] ta)
    (hs : starEach [e, e2] X.env = (false, eval e X.env) :: starEach [e2] X.env := by rfl) (hpl : (backTo pos (starEach [e2] X.env)).any (·.1) = false := by rfl) :
    PI X (.Tuple elts kk tpos) (.Call (.Name "zip" p) [e, e2] [] pos) (iZips ta) := by
  refine ⟨fun pins s σ H R I h => ?_⟩
  refine Call_ (ld_blt I hg hm PyProof.Rows.boot_zip (PyProof.Rows.callWith_type1 (thn (ha.run pos pins s σ H _ I h) fun us s1 ⟨vs, H1, I1, r1, q1⟩ => ?_) hs hpl))
  obtain ⟨x, y, ex, q⟩ := q1
  subst ex
  obtain ⟨u, v, rfl, ru, rv⟩ := vals2 r1
  obtain ⟨t1, rfl⟩ := ru
  obtain ⟨t2, rfl⟩ := rv
  refine zip_begins2 (begins_text x t1) (begins_text y t2) trivial trivial fun h' hz hTI hTO h1 h2 hsz hk => wpAny_pyIter_zip hz ?_
  have I2 : Inv X pins σ H1 { s1 with heap := h' } := I1.kept (t' := s1.toks) hk
  refine ⟨s1.heap.objs.size + 4, [s1.heap.objs.size + 4, s1.heap.objs.size + 2, s1.heap.objs.size + 3, s1.heap.objs.size, s1.heap.objs.size + 1], _, _, H1, rfl, I2, turn_zips (x := x) (y := y) (t1 := t1) (t2 := t2) (zs_apart s1.heap.objs.size), ⟨hz, hTI, ⟨_, _, hTO⟩, ⟨_, h1, rfl, rfl⟩, ⟨_, h2, rfl, rfl⟩⟩, fun c hcm => ?_, q⟩
  have e' : c = s1.heap.objs.size + 4 ∨ c = s1.heap.objs.size + 2 ∨ c = s1.heap.objs.size + 3 ∨ c = s1.heap.objs.size ∨ c = s1.heap.objs.size + 1 := by simpa using hcm
  have hle : s1.heap.objs.size ≤ c := by
    rcases e' with z | z | z | z | z
    · rw [z]; exact Nat.le_add_right _ _
    · rw [z]; exact Nat.le_add_right _ _
    · rw [z]; exact Nat.le_add_right _ _
    · rw [z]; exact Nat.le_refl _
    · rw [z]; exact Nat.le_add_right _ _
  exact I1.fpOk hle (I1.hok.fresh hle)
theorem walk_zips {x y : Str} (h : x.cps.size = y.cps.size) : Walk (Itzs x y) x.cps.size (fun _ => True)
    (fun i H v H' => ∃ T c d, v = .ref T ∧ H T = none ∧ H' = upd H T (.tup [.str ⟨#[c]⟩, .str ⟨#[d]⟩]) ∧ x.cps[i]? = some c ∧ y.cps[i]? = some d) :=
  ⟨fun i _ hi _ => ⟨hi, h ▸ hi⟩, fun _ _ => ⟨Nat.le_refl _, Nat.le_of_eq h, .inl rfl⟩, fun _ _ _ _ _ _ q => q⟩
end Cw
set_option Elab.async false
set_option linter.all false
set_option maxRecDepth 100000
set_option maxHeartbeats 2000000
/-! all(x in y for x in e): e a text, y a captured text -/
namespace Cw
open PySem PySem.Spec PyProof.Rows L2 GxR
theorem clo_cm {cells : List (Str × Addr)} {names : List (Str × NameKind)} (hfree : ∀ y ∈ names, y.2 = .free → ∃ c, cells.lookup y.1 = some c) {y : Str} {c : Addr} (e : (cloFrom cells names []).lookup y = some c) : cells.lookup y = some c := by
  have hm : (y, c) ∈ cloFrom cells names [] := by
    obtain ⟨l1, l2, h, _⟩ := List.lookup_eq_some_iff.mp e
    rw [h]
    simp
  rcases cloFrom_mem hm with h | ⟨h1, h2⟩
  · cases h
  · obtain ⟨c', hc'⟩ := hfree _ h1 rfl
    rw [h2, hc'] <;> rfl
theorem clo_has {cells : List (Str × Addr)} {names : List (Str × NameKind)} (hfree : ∀ y ∈ names, y.2 = .free → ∃ c, cells.lookup y.1 = some c) {y : Str} {c : Addr} (hy : (y, NameKind.free) ∈ names) (hc : cells.lookup y = some c) : (cloFrom cells names []).lookup y = some c := by
  obtain ⟨c1, h1⟩ := mem_lookup (cloFrom_has (cells := cells) (acc := []) hy)
  have e := clo_cm hfree h1
  rw [hc] at e
  cases e
  exact h1
/-- the element: a test of the sign c, and of the text z that y holds -/
def EltC (prog : Program) (w : World) (scope : Scope) (cl : List (Str × Addr)) (x : Str) (elt : Expr) (y : Str) (z : Str) (pb : Nat → Bool) : Prop :=
  ∀ (cenv : Env) (A' : Around) (E' : Value → Shared → Prop) (c : Nat) (t : Tok) (s₂ : Shared) (m₂ : Str → Option Value) (c1 : Addr) (tz : Tok), cenv.scope = scope → cenv.cells = cl → cl.lookup y = some c1 → s₂.heap.IsCell c1 (some (.str z tz)) → s₂.heap.Ns cenv.locals m₂ → m₂ x = some (.str ⟨#[c]⟩ t) →
    wpAny (model prog w) A' (eval elt cenv) (fun v s₃ => v = .bool (pb c) ∧ Keeps s₂ s₃) E' s₂
/-- x in y -/
theorem elt_in {prog : Program} {w : World} {scope : Scope} {cl : List (Str × Addr)} {x y z : Str} {p1 p2 p3 : Pos} (hk : scope.kind = .function) (hl : scope.names.lookup x = some .local) (hy : scope.names.lookup y = some .free)
    (hd : (x == ("__debug__" : Str)) = false := by decide) (hd2 : (y == ("__debug__" : Str)) = false := by decide) (hcd : (y == ("__classdict__" : Str)) = false := by decide) :
    EltC prog w scope cl x (.Compare (.Name x p1) [.In] [.Name y p2] p3) y z (fun c => decide (c ∈ z.cps.toList)) := by
  intro cenv A' E' c t s₂ m₂ c1 tz hs hcl hlk hcell hn hm
  refine wpAny_Compare1 ?_
  refine wpAny_Name (wpAny_loadName_local (by rw [hs]; exact hk) (show cenv.scope.names.lookup x = some .local by rw [hs]; exact hl) hn hm ?_) hd
  refine wpAny_Name (wpAny_loadName_free (by rw [hs]; exact hk) (show cenv.scope.names.lookup y = some .free by rw [hs]; exact hy) (by rw [hcl]; exact hlk) hcell ?_ hcd) hd2
  refine PyProof.Rows.in_str ⟨?_, keeps_refl _⟩
  rw [PySem.StrLaws.found_one z c]
section
variable {X : Cx} {pins : List (Addr × Obj)} {σ : L2.St} {H : Hp} {s : Shared}
/-- the code record c, its table at P: ready for a generator expression; what the table may become -/
theorem tab_two {P : Addr} {ps more : Array Value} {s1 s' : Shared} {wr : List Addr} {G : Array GenState → Array GenState → Prop} {s5 : Shared} (I1 : Inv X pins σ H s1) (hP : H P = some (.tbl ps)) (ht : TriplesOk (ps ++ more).toList)
    (mv : Moved wr G s5 s') (old : ∀ b u, b ≠ P → s1.heap.get? b = some u → s5.heap.get? b = some u) (tab : s5.heap.get? P = some { cls := .none, data := .fields (ps ++ more) }) (bare : AllBare s'.gens) (os : s5.os = s1.os)
    (out : ∀ b u, s1.heap.get? b = some u → b ∉ wr) : ∃ H2, Tabbed P H H2 ∧ Inv X pins σ H2 s' := by
  have at1 : s1.heap.get? P = some { cls := .none, data := .fields ps } := I1.hok P _ hP
  have J := inv_tab (more := more) (h' := s'.heap) (g' := s'.gens) (d' := s'.drawn) (t' := s'.toks) I1 hP (fun b u hb e => mv.heap b u (out b u e) (old b u hb e)) (mv.heap P _ (out P _ at1) tab) bare
  rw [sh_eta s1 s' (mv.os.trans os)] at J
  exact ⟨_, ⟨⟨_, upd_same, ht⟩, fun b hb => upd_ne hb⟩, J⟩
/-- what a walk over the signs of a asks of the element, told once -/
theorem quiet_in {scope : Scope} {cl : List (Str × Addr)} {code : Value} {bi C : Addr} {env : Env} {x y z a : Str} {p1 p2 p3 : Pos} {tz : Tok} {c1 it : Addr} {oc : Obj} {h3 href : Heap} {prog : Program} {w : World}
    (he : EltC prog w scope cl x (.Compare (.Name x p1) [.In] [.Name y p2] p3) y z fun c => decide (c ∈ z.cps.toList)) (hcl : cl.lookup y = some c1) (ho : h3.get? c1 = some oc) (hd : oc.data = .cell (some (.str z tz))) (hne : c1 ≠ it)
    (hr : ∀ b u, h3.get? b = some u → href.get? b = some u) :
    QuietGen prog w (genEnv scope cl C code bi env) x [] (.Compare (.Name x p1) [.In] [.Name y p2] p3) (List.range h3.objs.size) [it] (SignAt a) (fun _ => true)
      (fun i v => ∃ c, a.cps[i]? = some c ∧ v = .bool (decide (c ∈ z.cps.toList))) href where
  tests := by
    intro A' E' i v s2 m2 _ _ _ _ _
    rw [List.forIn_nil]
    exact wpAny_pure ⟨rfl, keeps_refl _⟩
  elt := by
    intro A' E' i v s2 m2 _ hv _ hn hm kp
    obtain ⟨c, t, hc, rfl⟩ := hv
    have q : s2.heap.get? c1 = some oc := kp c1 (List.mem_range.mpr (Heap.lt_size ho)) (fun m => hne (List.mem_singleton.mp m)) oc (hr c1 oc ho)
    exact wpAny_mono (he _ A' E' c t s2 m2 c1 tz rfl rfl hcl ⟨oc, q, hd⟩ hn hm) (fun _ _ r => ⟨⟨c, hc, r.1⟩, r.2⟩) fun _ _ r => r
/-- the generator itself, made -/
theorem gen_in {c P : Addr} {iter : Expr} {x y z : Str} {px p1 p2 p3 gpos : Pos} {scope : Scope} {te : TE} {k j : Nat} {Q' : Value → Shared → Prop} {R : Str → Hp → Prop}
    (hr : Room k X.A) (TB : TabB X.base X.mg c P) (hcode : X.env.code = .ref c) (S : GenS X.env scope x) (hi : PE X iter te) (hN : X.N[j]? = some y) (hcy : X.env.scope.names.lookup y = some .cell) (hyf : (y, NameKind.free) ∈ scope.names)
    (he : EltC X.prog X.w scope (cloFrom X.env.cells scope.names []) x (.Compare (.Name x p1) [.In] [.Name y p2] p3) y z fun c => decide (c ∈ z.cps.toList))
    (hs : ∀ v, genFold iter X.env v = pure v) (I : Inv X pins σ H s) (hz : σ[j]? = some (some (.str z))) (h : te σ H fun v H1 => ∃ a : Str, v = .str a ∧ TabG H1 P ∧ R a H1)
    (hQ : ∀ a H1 g s5, R a H1 → Ready X pins σ H1 P a (fun c => decide (c ∈ z.cps.toList)) g s5 → Q' (.ref g) s5) :
    wpAny (model X.prog X.w) X.A (eval (.GeneratorExp (.Compare (.Name x p1) [.In] [.Name y p2] p3) [⟨.Name x px, iter, [], 0⟩] scope gpos) X.env) Q' X.xe s := by
  have deep := hr.dp
  refine wpAny_GeneratorExp_walksQ hr.hd S.co (closure_ok S.free) S.cell S.dot S.loc S.kind (by omega) (thn (hi.run pins s σ H _ I h) fun xv s1 ⟨v, H1, I1, r1, a, ea, ⟨ps, hP, ht⟩, q1⟩ => ?_) hs
  subst ea
  obtain ⟨t, rfl⟩ := r1
  -- where y is held
  obtain ⟨m1, hn1, hl1⟩ := I1.loc
  obtain ⟨_, ⟨tz, rfl⟩, lk⟩ := hl1 j y (.str z) hN hz (.inr (.inl hcy))
  obtain ⟨c1, hc1, oc, hoc, hcd⟩ : ∃ c1, X.env.cells.lookup y = some c1 ∧ ∃ oc, s1.heap.get? c1 = some oc ∧ oc.data = .cell (some (.str z tz)) := by
    rcases lk with ⟨hk0, _⟩ | ⟨_, c1, hc1, oc, hoc, hcd⟩
    · cases hcy.symm.trans hk0
    · exact ⟨c1, hc1, oc, hoc, hcd⟩
  have eP : s1.heap.get? P = some { cls := .none, data := .fields ps } := I1.hok P _ hP
  have nP : c1 ≠ P := fun q => by
    rw [q, eP] at hoc
    cases hoc
    cases hcd
  have cl1 : cStatics < s1.heap.objs.size := let ⟨_, hns, _⟩ := I1.nolimit; hns.lt
  have cP : cStatics ≠ P := fun e => by
    obtain ⟨_, ⟨o', es, ep, ho, hd, _⟩, _⟩ := I1.nolimit
    rw [e, eP] at ho
    cases ho
    cases hd
  refine wpAny_pyIter_str fun o St W hst => ?_
  have lim : (s1.heap.push o).NoLimit := I1.nolimit.push o
  have eP2 : (s1.heap.push o).get? P = some { cls := .none, data := .fields ps } := Heap.get?_push_of_some _ eP
  have cd : PySem.W.CodeHd (s1.heap.push o) c P := TB.code.keeps fun b u e => Heap.get?_push_of_some _ (I1.bk b u e)
  have szo : (s1.heap.push o).objs.size = s1.heap.objs.size + 1 := Heap.size_push ..
  -- behind the code object, whichever it is
  suffices cont : ∀ (code : Value) (h3 : Heap) (tk : Nat) (more : Array Value), Heap.ExtBut P (s1.heap.push o) h3 → (s1.heap.push o).objs.size ≤ h3.objs.size → h3.get? P = some { cls := .none, data := .fields (ps ++ more) } → TriplesOk (ps ++ more).toList →
      wpAny (model X.prog X.w) X.A (builtinsFor X.env.globals X.env.builtins) (fun bi s4 =>
        ∃ Ia fp wr n0 Pf St0 pz F, Value.ref s1.heap.objs.size = .ref Ia ∧ (∀ A' : Around, A'.handled = none → Walks X.prog X.w A' Ia fp wr n0 Pf St0) ∧ St0 0 s4.heap ∧ (∀ b ∈ fp, b < s4.heap.objs.size) ∧ s4.heap.NoLimit ∧ cStatics ∉ wr ∧
          (∀ href : Heap, (∀ b u, s4.heap.get? b = some u → href.get? b = some u) →
            QuietGen X.prog X.w (genEnv scope (cloFrom X.env.cells scope.names []) s4.heap.objs.size code bi X.env) x [] (.Compare (.Name x p1) [.In] [.Name y p2] p3) (List.range s4.heap.objs.size) wr Pf pz F href) ∧
          (∀ g h5 tk gs, gs.bare = true → s4.heap.objs.size < g → h5.objs.size = g + 1 → (∀ b u, s4.heap.get? b = some u → h5.get? b = some u) →
            WalksS X.prog X.w X.A.in4 g (g :: s4.heap.objs.size :: List.range s4.heap.objs.size) (s4.heap.objs.size :: wr) (GenOnlyQ s4.gens.size) (passing pz n0 0).length
              (fun j v => ∃ i, (passing pz n0 0)[j]? = some i ∧ F i v) (GenAt X.prog X.w X.A.in4 g s4.gens.size s4.heap.objs.size (List.range s4.heap.objs.size) wr pz n0 F) →
            GenAt X.prog X.w X.A.in4 g s4.gens.size s4.heap.objs.size (List.range s4.heap.objs.size) wr pz n0 F 0 { s4 with gens := s4.gens.push gs, toks := tk, heap := h5 } →
            Q' (.ref g) { s4 with gens := s4.gens.push gs, toks := tk, heap := h5 })) X.xe { s1 with heap := h3, toks := tk } by
    refine ⟨lim, ?_⟩
    cases hf : codeAmong gpos ps.toList with
    | none =>
      refine wpAny_genexprCodeX hcode (cd.code eP2 ht) (cd.tab eP2) hf fun c' h' tk hx hge hlt hco' _ htab' _ => ?_
      obtain ⟨_, _, _, _, _, _, _, _, _, _, _, _, _, _, _, _, _, _, _, htr, _⟩ := hco'
      exact cont _ h' tk _ hx (Nat.le_trans hge (Nat.le_of_lt hlt)) htab'.2 htr
    | some cv =>
      refine wpAny_genexprCode_hit hcode (cd.code eP2 ht) hf (cont cv _ s1.toks #[] (Heap.ExtBut.refl _ _) (Nat.le_refl _) ?_ ?_)
      · rw [Array.append_empty]
        exact eP2
      · rw [Array.append_empty]
        exact ht
  intro code h3 tk more hx hsz eP3 ht3
  have old : ∀ b u, b ≠ P → s1.heap.get? b = some u → h3.get? b = some u := fun b u hb e => hx b u hb (Heap.get?_push_of_some _ e)
  obtain ⟨bm, ob, e1, e2, _, e4, e5, e6, e7, e8⟩ := TB.bm
  refine wpAny_builtinsFor (m := X.mg) (by rw [I1.ok.glob]; exact ((I1.mod.glob.keeps I1.bk).push o).extBut hx TB.gP) e1 e2 (old _ _ e4 (I1.bk _ _ e5)) e6 e7 e8 ?_
  refine ⟨s1.heap.objs.size, [s1.heap.objs.size], [s1.heap.objs.size], a.cps.size, SignAt a, St, fun _ => true, _, rfl, W, ?_, ?_, lim.extBut hx cP, ?_, fun href kp => quiet_in he (clo_has S.free hyf hc1) (old c1 oc nP hoc) hcd (Nat.ne_of_lt (Heap.lt_size hoc)) kp, ?_⟩
  · refine (W X.A hr.hd).frame _ _ _ hst fun b hb u e => hx b u (fun q => ?_) e
    have e9 : b = s1.heap.objs.size := List.mem_singleton.mp hb
    exact Nat.ne_of_lt (Heap.lt_size eP) (q.symm.trans e9)
  · intro b hb
    have e9 : b = s1.heap.objs.size := List.mem_singleton.mp hb
    rw [e9]
    show s1.heap.objs.size < h3.objs.size
    omega
  · intro hb
    have e9 : cStatics = s1.heap.objs.size := List.mem_singleton.mp hb
    exact Nat.ne_of_lt cl1 e9
  · intro g h5 tk5 gs hgb hag hsz5 hk5 W5 hat
    simp only [GxR.passing_true, List.length_range] at W5
    have hlt : s1.heap.objs.size < h3.objs.size := by omega
    have out : ∀ b u, s1.heap.get? b = some u → b ∉ h3.objs.size :: [s1.heap.objs.size] := fun b u e hb => by
      have l1 := Heap.lt_size e
      rcases List.mem_cons.mp hb with q | q
      · rw [q] at l1
        exact Nat.lt_irrefl _ (Nat.lt_trans l1 hlt)
      · have e9 : b = s1.heap.objs.size := List.mem_singleton.mp q
        rw [e9] at l1
        exact Nat.lt_irrefl _ l1
    refine hQ a H1 g _ q1 ⟨_, _, _, _, _, W5.in4_1, hat, fun i v si Qi Ei hv hQi => ?_, fun s' mv => ?_⟩
    · obtain ⟨i', hii, cc, hcc, rfl⟩ := hv
      obtain ⟨hj, ej⟩ := List.getElem?_eq_some_iff.mp hii
      rw [List.getElem_range] at ej
      subst ej
      have q : Qi (trF _ a.cps.toList i) si := hQi
      rw [trF_some ((Array.getElem?_toList ..).trans hcc)] at q
      exact wpAny_truthy_bool q
    · exact tab_two I1 hP ht3 mv (fun b u hb e => hk5 b u (old b u hb e)) (hk5 P _ eP3) (AllBare.movedS (I1.bare.push hgb) mv) rfl out
/-- all(x in y for x in e); behind it the table of the def may have grown -/
def tAllIn (P : Addr) (j : Nat) (te : TE) : TE := fun σ H Q => ∃ z : Str, σ[j]? = some (some (.str z)) ∧ te σ H fun v H1 => ∃ a : Str, v = .str a ∧ TabG H1 P ∧ ∀ H2, Tabbed P H1 H2 → Q (.bl (a.cps.toList.all fun c => decide (c ∈ z.cps.toList))) H2
theorem pe_allIn {c P : Addr} {iter : Expr} {x y : Str} {px p p1 p2 p3 pos gpos : Pos} {scope : Scope} {te : TE} {k j : Nat}
    (hr : Room k X.A) (hg : Gl X "all") (hm : X.mg "all" = none) (hb : bootBuiltins "all" = some (.builtin "all")) (TB : TabB X.base X.mg c P) (hcode : X.env.code = .ref c) (S : GenS X.env scope x) (hi : PE X iter te)
    (hN : X.N[j]? = some y) (hcy : X.env.scope.names.lookup y = some .cell) (hyf : (y, NameKind.free) ∈ scope.names) (hy : scope.names.lookup y = some .free)
    (hd : (x == ("__debug__" : Str)) = false := by decide) (hd2 : (y == ("__debug__" : Str)) = false := by decide) (hcd : (y == ("__classdict__" : Str)) = false := by decide)
    (hs : ∀ v, genFold iter X.env v = pure v)
    (he : starEach [.GeneratorExp (.Compare (.Name x p1) [.In] [.Name y p2] p3) [⟨.Name x px, iter, [], 0⟩] scope gpos] X.env = (false, eval (.GeneratorExp (.Compare (.Name x p1) [.In] [.Name y p2] p3) [⟨.Name x px, iter, [], 0⟩] scope gpos) X.env) :: starEach [] X.env := by rfl) :
    PE X (.Call (.Name "all" p) [.GeneratorExp (.Compare (.Name x p1) [.In] [.Name y p2] p3) [⟨.Name x px, iter, [], 0⟩] scope gpos] [] pos) (tAllIn P j te) := by
  refine ⟨fun pins s σ H Q I h => ?_⟩
  obtain ⟨z, hz, h⟩ := h
  refine wpAny_Call_Name_kw (ld_blt I hg hm hb ?_)
  refine PyProof.Rows.callWith_builtin1 ?_ he (by rfl)
  rw [he]
  show wpAny _ _ (spliced ((false, eval (.GeneratorExp (.Compare (.Name x p1) [.In] [.Name y p2] p3) [⟨.Name x px, iter, [], 0⟩] scope gpos) X.env) :: backTo pos (starEach [] X.env))) _ _ s
  refine Calls.spliced_cons (gen_in (R := fun a H1 => ∀ H2, Tabbed P H1 H2 → Q (.bl (a.cps.toList.all fun c => decide (c ∈ z.cps.toList))) H2) hr TB hcode S hi hN hcy hyf (elt_in S.kind S.loc hy hd hd2 hcd) hs I hz h fun a H1 g s5 hR hG => ?_)
  obtain ⟨fp, wr, G, F, St, W, hst, htr, hI⟩ := hG
  refine Calls.spliced_nil ?_
  refine call_all_walkS (W.self 0 _ _ _ hst ⟨g, fp, wr, G, _, F, St, _, rfl, W, hst, htr, fun s' hmv => ?_⟩)
  obtain ⟨H2, hT, J⟩ := hI s' hmv
  refine ⟨.bl _, H2, J, rfl, ?_⟩
  rw [all_signs a _]
  exact hR H2 hT
end
end Cw
set_option Elab.async false
set_option linter.all false
set_option maxRecDepth 100000
set_option maxHeartbeats 2000000
/-! What an expression is worth, over a heap that may grow: texts by their signs -/
namespace Cw
open PySem PySem.Spec PyProof.Rows L2
open GxR (TabG Tabbed TabB)

/-! ### texts by their signs -/
def S (l : List Nat) : Str := ⟨l.toArray⟩
abbrev sv (l : List Nat) : V := .str (S l)
theorem S_len (l : List Nat) : (S l).length = l.length := by
  show l.toArray.size = l.length
  simp
theorem S_list (l : List Nat) : (S l).cps.toList = l := rfl
theorem S_size (l : List Nat) : (S l).cps.size = l.length := by
  show l.toArray.size = l.length
  simp
theorem S_get (l : List Nat) (i : Nat) : (S l).cps[i]? = l[i]? := by
  show l.toArray[i]? = l[i]?
  simp
theorem S_app (a b : List Nat) : S a ++ S b = S (a ++ b) := by
  show (⟨a.toArray ++ b.toArray⟩ : Str) = ⟨(a ++ b).toArray⟩
  simp
theorem S_inj {a b : List Nat} : S a = S b ↔ a = b := by
  constructor
  · intro h
    have e : (S a).cps.toList = (S b).cps.toList := by rw [h]
    exact e
  · intro h
    rw [h]
theorem S_of (x : Str) : x = S x.cps.toList := by
  cases x
  rfl
theorem sv_inj {a b : List Nat} : (sv a = sv b) ↔ a = b := by
  constructor
  · intro h
    injection h with h
    exact S_inj.mp h
  · intro h
    rw [h]
theorem sv_dec (a b : List Nat) : decide (sv a = sv b) = decide (a = b) := by
  by_cases h : a = b
  · rw [decide_eq_true h, decide_eq_true (sv_inj.mpr h)]
  · rw [decide_eq_false h, decide_eq_false fun q => h (sv_inj.mp q)]

/-! ### the heap -/
def Good (Ts : List Addr) (H : Hp) : Prop := ∀ P ∈ Ts, TabG H P
structure Ex (Ts : List Addr) (H H' : Hp) : Prop where
  keep : ∀ a o, a ∉ Ts → H a = some o → H' a = some o
  good : Good Ts H'
section
variable {Ts : List Addr} {H H1 H2 H' : Hp} {p : Addr} {o : HO} {K : PySem.W.Frag}
theorem Ex.refl (g : Good Ts H) : Ex Ts H H := ⟨fun _ _ _ e => e, g⟩
theorem Ex.trans (a : Ex Ts H H1) (b : Ex Ts H1 H2) : Ex Ts H H2 := ⟨fun x u n e => b.keep x u n (a.keep x u n e), b.good⟩
theorem Good.out (g : Good Ts H) (h : ∀ ps, H p ≠ some (.tbl ps)) : p ∉ Ts := fun m => by
  obtain ⟨ps, e, _⟩ := g p m
  exact h ps e
theorem Good.free (g : Good Ts H) (h : H p = none) : p ∉ Ts := g.out fun ps e => by
  rw [h] at e
  cases e
theorem Good.upd (g : Good Ts H) (n : p ∉ Ts) : Good Ts (upd H p o) := fun P m => by
  obtain ⟨ps, e, t⟩ := g P m
  have ne : P ≠ p := fun q => n (by rw [← q]; exact m)
  exact ⟨ps, by rw [upd_ne ne]; exact e, t⟩
theorem Ex.new (g : Good Ts H) (h : H p = none) : Ex Ts H (upd H p o) := by
  refine ⟨fun a u _ e => ?_, g.upd (g.free h)⟩
  rw [upd_ne (ne_of_none e h)]
  exact e
theorem Ex.mut (e : Ex Ts H H') (n : p ∉ Ts) (h : H p = none) : Ex Ts H (upd H' p o) := by
  refine ⟨fun a u m q => ?_, e.good.upd n⟩
  rw [upd_ne (ne_of_none q h)]
  exact e.keep a u m q
theorem Ex.tabbed (g : Good Ts H) (hp : p ∈ Ts) (t : Tabbed p H H') : Ex Ts H H' := by
  refine ⟨fun a u n e => ?_, fun P m => ?_⟩
  · rw [t.2 a fun q => n (by rw [q]; exact hp)]
    exact e
  · by_cases h : P = p
    · rw [h]
      exact t.1
    · obtain ⟨ps, e, q⟩ := g P m
      exact ⟨ps, by rw [t.2 P h]; exact e, q⟩
theorem Ex.back (e : Ex Ts H H') (h : H' p = none) : H p = none := by
  cases q : H p with
  | none => rfl
  | some u =>
    by_cases m : p ∈ Ts
    · obtain ⟨ps, z, _⟩ := e.good p m
      rw [h] at z
      cases z
    · rw [e.keep p u m q] at h
      cases h
theorem Ex.rd (g : Good Ts H) (e : Ex Ts H H') (n : ∀ ps, o ≠ .tbl ps) (h : Rd H p o) : Rd H' p o := by
  rcases h with h | ⟨u, h⟩
  · exact .inl (e.keep p _ (g.out fun ps q => n ps (Option.some.inj (h.symm.trans q))) h)
  · exact .inr ⟨u, e.keep p _ (g.out fun ps q => by rw [h] at q; cases q) h⟩
theorem Ex.l {xs : List V} (g : Good Ts H) (e : Ex Ts H H') (h : SqL K H p xs) : SqL K H' p xs := by
  rcases h with h | h
  · exact .inl (e.rd g (fun ps q => by cases q) h)
  · exact .inr h
theorem Ex.t {xs : List V} (g : Good Ts H) (e : Ex Ts H H') (h : SqT K H p xs) : SqT K H' p xs := by
  rcases h with h | h
  · exact .inl (e.rd g (fun ps q => by cases q) h)
  · exact .inr h
theorem l_of {xs : List V} (h : H p = some (.lst xs)) : SqL K H p xs := .inl (.inl h)
theorem t_of {xs : List V} (h : H p = some (.tup xs)) : SqT K H p xs := .inl (.inl h)
end

/-! ### what evaluates to what -/
def Ev (Ts : List Addr) (te : TE) (σ : L2.St) (H : Hp) (v : V) : Prop := ∀ H1, Ex Ts H H1 → ∀ Q : VK, (∀ H2, Ex Ts H1 H2 → Q v H2) → te σ H1 Q
/-- some new object of which R is told -/
def EvN (Ts : List Addr) (te : TE) (σ : L2.St) (H : Hp) (R : HO) : Prop := ∀ H1, Ex Ts H H1 → ∀ Q : VK, (∀ p H2, H1 p = none → Ex Ts H1 H2 → H2 p = some R → Q (.ref p) H2) → te σ H1 Q
def EvT (Ts : List Addr) (t : TT) (σ : L2.St) (H : Hp) (b : Bool) : Prop := ∀ H1, Ex Ts H H1 → ∀ Q : Bool → Hp → Prop, (∀ H2, Ex Ts H1 H2 → Q b H2) → t σ H1 Q
def EvA (Ts : List Addr) (t : TA) (σ : L2.St) (H : Hp) (vs : List V) : Prop := ∀ H1, Ex Ts H H1 → ∀ Q : List V → Hp → Prop, (∀ H2, Ex Ts H1 H2 → Q vs H2) → t σ H1 Q
def EvO (Ts : List Addr) (t : TO) (σ : L2.St) (H : Hp) (o : Option Int) : Prop := ∀ H1, Ex Ts H H1 → ∀ Q : Option Int → Hp → Prop, (∀ H2, Ex Ts H1 H2 → Q o H2) → t σ H1 Q
def RV (Ts : List Addr) (r : R2) (x y : V) (H : Hp) (z : V) : Prop := ∀ H1, Ex Ts H H1 → ∀ Q : VK, (∀ H2, Ex Ts H1 H2 → Q z H2) → r x y H1 Q
def RU (Ts : List Addr) (r : V → Hp → VK → Prop) (x : V) (H : Hp) (z : V) : Prop := ∀ H1, Ex Ts H H1 → ∀ Q : VK, (∀ H2, Ex Ts H1 H2 → Q z H2) → r x H1 Q
def RC (Ts : List Addr) (r : List V → Hp → VK → Prop) (vs : List V) (H : Hp) (z : V) : Prop := ∀ H1, Ex Ts H H1 → ∀ Q : VK, (∀ H2, Ex Ts H1 H2 → Q z H2) → r vs H1 Q
section
variable {Ts : List Addr} {K : PySem.W.Frag} {w : World} {σ : L2.St} {H H0 H' : Hp} {ta tb te tx : TE} {t u : TT} {x y z v : V} {r : R2}
theorem Ev.go {Q : VK} (h : Ev Ts te σ H0 v) (e : Ex Ts H0 H) (k : ∀ H2, Ex Ts H0 H2 → Q v H2) : te σ H Q := h H e Q fun H2 e2 => k H2 (e.trans e2)
theorem EvT.go {b : Bool} {Q : Bool → Hp → Prop} (h : EvT Ts t σ H0 b) (e : Ex Ts H0 H) (k : ∀ H2, Ex Ts H0 H2 → Q b H2) : t σ H Q := h H e Q fun H2 e2 => k H2 (e.trans e2)
theorem EvN.go {R : HO} {Q : VK} (h : EvN Ts te σ H0 R) (e : Ex Ts H0 H) (k : ∀ p H2, H0 p = none → p ∉ Ts → Ex Ts H0 H2 → H2 p = some R → Q (.ref p) H2) : te σ H Q :=
  h H e Q fun p H2 n e2 q => k p H2 (e.back n) (e.good.free n) (e.trans e2) q
theorem Ev.mono (e : Ex Ts H H') (h : Ev Ts te σ H v) : Ev Ts te σ H' v := fun H1 a Q q => h H1 (e.trans a) Q q
theorem ev_var {i : Nat} (h : σ[i]? = some (some v)) : Ev Ts (tVar i) σ H v := fun H1 e _ q => ⟨v, h, q H1 (Ex.refl e.good)⟩
theorem ev_c : Ev Ts (tC v) σ H v := fun H1 e _ q => q H1 (Ex.refl e.good)
theorem ev_s {a : Str} {l : List Nat} (h : a = S l) : Ev Ts (tC (.str a)) σ H (sv l) := by
  rw [h]
  exact ev_c
theorem ev_op (ha : Ev Ts ta σ H x) (hb : Ev Ts tb σ H y) (hr : RV Ts r x y H z) : Ev Ts (tOp r ta tb) σ H z := fun H1 e Q q =>
  ha H1 e _ fun H2 e2 => hb H2 (e.trans e2) _ fun H3 e3 => hr H3 ((e.trans e2).trans e3) Q fun H4 e4 => q H4 ((e2.trans e3).trans e4)
theorem ev_is {a : V} (h : Ev Ts te σ H v) (e : v = a) : Ev Ts te σ H a := e ▸ h
theorem et_is {a b : Bool} (h : EvT Ts t σ H a) (e : a = b) : EvT Ts t σ H b := e ▸ h
theorem rv_I0 {g : Int → Int → V} {i j : Int} : RV Ts (rI0 g) (.int i) (.int j) H (g i j) := fun H1 e _ q => ⟨i, j, rfl, rfl, q H1 (Ex.refl e.good)⟩
theorem rv_I {C : Int → Int → Prop} {g : Int → Int → V} {i j : Int} (hc : C i j) : RV Ts (rI C g) (.int i) (.int j) H (g i j) := fun H1 e _ q => ⟨i, j, rfl, rfl, hc, q H1 (Ex.refl e.good)⟩
theorem rv_eq (h : scal x y = true) : RV Ts rEq x y H (.bl (decide (x = y))) := fun H1 e _ q => ⟨h, q H1 (Ex.refl e.good)⟩
theorem rv_ne (h : scal x y = true) : RV Ts rNe x y H (.bl (!decide (x = y))) := fun H1 e _ q => ⟨h, q H1 (Ex.refl e.good)⟩
theorem rv_addS {a b : List Nat} (h : a.length + b.length ≤ 100000) : RV Ts (fun x y H Q => ∃ i j : Str, x = .str i ∧ y = .str j ∧ i.length + j.length ≤ sizeLine ∧ Q (.str (i ++ j)) H) (sv a) (sv b) H (sv (a ++ b)) := fun H1 e _ q =>
  ⟨S a, S b, rfl, rfl, by rw [S_len, S_len]; exact Nat.le_trans h (by decide), by rw [S_app]; exact q H1 (Ex.refl e.good)⟩
theorem rv_inS {c : Nat} {a : List Nat} : RV Ts (fun x y H Q => ∃ (c : Nat) (z : Str), x = .str ⟨#[c]⟩ ∧ y = .str z ∧ Q (.bl (decide (c ∈ z.cps.toList))) H) (sv [c]) (sv a) H (.bl (decide (c ∈ a))) := fun H1 e _ q =>
  ⟨c, S a, rfl, rfl, q H1 (Ex.refl e.good)⟩
theorem rv_niS {c : Nat} {a : List Nat} : RV Ts (fun x y H Q => ∃ (c : Nat) (z : Str), x = .str ⟨#[c]⟩ ∧ y = .str z ∧ Q (.bl (!decide (c ∈ z.cps.toList))) H) (sv [c]) (sv a) H (.bl (!decide (c ∈ a))) := fun H1 e _ q =>
  ⟨c, S a, rfl, rfl, q H1 (Ex.refl e.good)⟩
theorem rv_ixS {a : List Nat} {i : Int} {c : Nat} (hl : a.length ≤ 100000) (h : atI a i = some c) : RV Ts rIxS (sv a) (.int i) H (sv [c]) := fun H1 e _ q =>
  ⟨S a, i, c, rfl, rfl, by rw [S_len]; exact Nat.le_trans hl (by decide), h, q H1 (Ex.refl e.good)⟩
theorem rv_ixL {p : Addr} {xs : List V} {i : Int} (g : Good Ts H) (h : SqL K H p xs) (ha : atI xs i = some v) : RV Ts (rIxL K) (.ref p) (.int i) H v := fun H1 e _ q =>
  ⟨p, xs, i, v, rfl, rfl, e.l g h, ha, q H1 (Ex.refl e.good)⟩
theorem rv_kd {p : Addr} {a : List Nat} (h : KDct K w p (S a) v) : RV Ts (rIxD K w) (.ref p) (sv a) H v := fun H1 e _ q => ⟨p, S a, v, rfl, rfl, h, q H1 (Ex.refl e.good)⟩
theorem et_test {b : Bool} (h : Ev Ts te σ H (.bl b)) : EvT Ts (tTest te) σ H b := fun H1 e _ q => h H1 e _ fun H2 e2 => ⟨b, rfl, q H2 e2⟩
theorem et_B {b : Bool} (h : Ev Ts te σ H (.bl b)) : EvT Ts (tB te) σ H b := fun H1 e _ q => h H1 e _ fun H2 e2 => ⟨b, rfl, q H2 e2⟩
theorem et_and {a b : Bool} (h1 : EvT Ts t σ H a) (h2 : a = true → EvT Ts u σ H b) : EvT Ts (tAnd t u) σ H (a && b) := fun H1 e Q q => h1 H1 e _ fun H2 e2 => by
  cases a with
  | true => exact h2 rfl H2 (e.trans e2) Q fun H3 e3 => q H3 (e2.trans e3)
  | false => exact q H2 e2
theorem et_or {a b : Bool} (h1 : EvT Ts t σ H a) (h2 : a = false → EvT Ts u σ H b) : EvT Ts (tOr t u) σ H (a || b) := fun H1 e Q q => h1 H1 e _ fun H2 e2 => by
  cases a with
  | true => exact q H2 e2
  | false => exact h2 rfl H2 (e.trans e2) Q fun H3 e3 => q H3 (e2.trans e3)
theorem et_not {a : Bool} (h1 : EvT Ts t σ H a) : EvT Ts (tNot t) σ H (!a) := fun H1 e _ q => h1 H1 e _ fun H2 e2 => q H2 e2
theorem ev_and {a b : Bool} (h1 : Ev Ts ta σ H (.bl a)) (h2 : a = true → Ev Ts tb σ H (.bl b)) : Ev Ts (tAndV ta tb) σ H (.bl (a && b)) := fun H1 e Q q => h1 H1 e _ fun H2 e2 => ⟨a, rfl, by
  cases a with
  | true => exact h2 rfl H2 (e.trans e2) Q fun H3 e3 => q H3 (e2.trans e3)
  | false => exact q H2 e2⟩
theorem ev_not {a : Bool} (h1 : Ev Ts ta σ H (.bl a)) : Ev Ts (tNotV ta) σ H (.bl (!a)) := fun H1 e _ q => h1 H1 e _ fun H2 e2 => ⟨a, rfl, q H2 e2⟩
theorem ev_if {b : Bool} (h : EvT Ts t σ H b) (h1 : b = true → Ev Ts ta σ H v) (h2 : b = false → Ev Ts tb σ H v) : Ev Ts (tIf t ta tb) σ H v := fun H1 e Q q => h H1 e _ fun H2 e2 => by
  cases b with
  | true => exact h1 rfl H2 (e.trans e2) Q fun H3 e3 => q H3 (e2.trans e3)
  | false => exact h2 rfl H2 (e.trans e2) Q fun H3 e3 => q H3 (e2.trans e3)
theorem ea_nil : EvA Ts tNil σ H [] := fun H1 e _ q => q H1 (Ex.refl e.good)
theorem ea_cons {tr : TA} {vs : List V} (h : Ev Ts ta σ H x) (hr : EvA Ts tr σ H vs) : EvA Ts (tCons ta tr) σ H (x :: vs) := fun H1 e _ q =>
  h H1 e _ fun H2 e2 => hr H2 (e.trans e2) _ fun H3 e3 => q H3 (e2.trans e3)
theorem eo_none : EvO Ts tNoPart σ H none := fun H1 e _ q => q H1 (Ex.refl e.good)
theorem eo_some {i : Int} (h : Ev Ts te σ H (.int i)) : EvO Ts (tPart te) σ H (some i) := fun H1 e _ q => h H1 e _ fun H2 e2 => ⟨i, rfl, q H2 e2⟩
theorem en_tup {tr : TA} {vs : List V} (h : EvA Ts tr σ H vs) (hl : vs.length ≤ 100000) : EvN Ts (tTup tr) σ H (.tup vs) := fun H1 e _ q =>
  h H1 e _ fun H2 e2 => ⟨Nat.le_trans hl (by decide), fun p hp => q p _ (e2.back hp) (e2.trans (Ex.new e2.good hp)) upd_same⟩
theorem en_lst {tr : TA} {vs : List V} (h : EvA Ts tr σ H vs) (hl : vs.length ≤ 100000) : EvN Ts (tLst tr) σ H (.lst vs) := fun H1 e _ q =>
  h H1 e _ fun H2 e2 => ⟨Nat.le_trans hl (by decide), fun p hp => q p _ (e2.back hp) (e2.trans (Ex.new e2.good hp)) upd_same⟩
theorem en_slL {tl th : TO} {a : Addr} {xs : List V} {lo hi : Option Int} (g : Good Ts H) (h : Ev Ts te σ H (.ref a)) (h1 : EvO Ts tl σ H lo) (h2 : EvO Ts th σ H hi) (hs : SqL K H a xs) : EvN Ts (tSl (rSlL K) te tl th) σ H (.lst (cutV xs lo hi)) := fun H1 e _ q =>
  h H1 e _ fun H2 e2 => h1 H2 (e.trans e2) _ fun H3 e3 => h2 H3 ((e.trans e2).trans e3) _ fun H4 e4 =>
    ⟨a, xs, rfl, (((e.trans e2).trans e3).trans e4).l g hs, fun p hp => q p _ (((e2.trans e3).trans e4).back hp) (((e2.trans e3).trans e4).trans (Ex.new e4.good hp)) upd_same⟩
theorem ev_slS {tl th : TO} {a b : List Nat} {lo hi : Option Int} (hl : a.length ≤ 100000) (h : Ev Ts te σ H (sv a)) (h1 : EvO Ts tl σ H lo) (h2 : EvO Ts th σ H hi) (hb : cutS (S a) lo hi = S b) : Ev Ts (tSl rSlS te tl th) σ H (sv b) := fun H1 e _ q =>
  h H1 e _ fun H2 e2 => h1 H2 (e.trans e2) _ fun H3 e3 => h2 H3 ((e.trans e2).trans e3) _ fun H4 e4 =>
    ⟨S a, rfl, by rw [S_len]; exact Nat.le_trans hl (by decide), by rw [hb]; exact q H4 ((e2.trans e3).trans e4)⟩
theorem ev_cb {r : List V → Hp → VK → Prop} {tr : TA} {vs : List V} (h : EvA Ts tr σ H vs) (hr : RC Ts r vs H z) : Ev Ts (tCB r tr) σ H z := fun H1 e Q q =>
  h H1 e _ fun H2 e2 => hr H2 (e.trans e2) Q fun H3 e3 => q H3 (e2.trans e3)
theorem rc_lenS {a : List Nat} (h : a.length ≤ 100000) : RC Ts (fun xs H Q => ∃ z : Str, xs = [.str z] ∧ z.length ≤ sizeLine ∧ Q (.int z.length) H) [sv a] H (.int (a.length : Int)) := fun H1 e _ q =>
  ⟨S a, rfl, by rw [S_len]; exact Nat.le_trans h (by decide), by rw [S_len]; exact q H1 (Ex.refl e.good)⟩
theorem rc_lenL {p : Addr} {xs : List V} (g : Good Ts H) (h : SqL K H p xs) : RC Ts (fun vs H Q => ∃ (p : Addr) (ys : List V), vs = [.ref p] ∧ (SqL K H p ys ∨ SqT K H p ys) ∧ Q (.int (ys.length : Nat)) H) [.ref p] H (.int (xs.length : Int)) := fun H1 e _ q =>
  ⟨p, xs, rfl, .inl (e.l g h), q H1 (Ex.refl e.good)⟩
theorem rc_max {i j : Int} : RC Ts (fun xs H Q => ∃ i j : Int, xs = [.int i, .int j] ∧ Q (.int (if j > i then j else i)) H) [.int i, .int j] H (.int (if j > i then j else i)) := fun H1 e _ q => ⟨i, j, rfl, q H1 (Ex.refl e.good)⟩
theorem rc_abs {i : Int} : RC Ts (fun xs H Q => ∃ i : Int, xs = [.int i] ∧ Q (.int (if i < 0 then -i else i)) H) [.int i] H (.int (if i < 0 then -i else i)) := fun H1 e _ q => ⟨i, rfl, q H1 (Ex.refl e.good)⟩
theorem rc_intI {i : Int} : RC Ts (fun xs H Q => (∃ i, xs = [V.int i] ∧ Q (.int i) H) ∨ ∃ k, xs = [V.bl k] ∧ Q (.int (if k then 1 else 0)) H) [.int i] H (.int i) := fun H1 e _ q => .inl ⟨i, rfl, q H1 (Ex.refl e.good)⟩
theorem rc_intB {k : Bool} : RC Ts (fun xs H Q => (∃ i, xs = [V.int i] ∧ Q (.int i) H) ∨ ∃ k, xs = [V.bl k] ∧ Q (.int (if k then 1 else 0)) H) [.bl k] H (.int (if k then 1 else 0)) := fun H1 e _ q => .inr ⟨k, rfl, q H1 (Ex.refl e.good)⟩
theorem rc_bin {a : List Nat} (h0 : a ≠ []) (h1 : a.length ≤ 640) (h2 : ∀ c ∈ a, IsBin c) : RC Ts rIntBin [sv a, .int 2] H (.int ((binNum a : Nat) : Int)) := fun H1 e _ q =>
  ⟨S a, rfl, h0, by rw [S_len]; exact h1, h2, q H1 (Ex.refl e.good)⟩
theorem ev_allIn {P : Addr} {j : Nat} {a b : List Nat} (hP : P ∈ Ts) (hj : σ[j]? = some (some (sv b))) (h : Ev Ts te σ H (sv a)) : Ev Ts (tAllIn P j te) σ H (.bl (a.all fun c => decide (c ∈ b))) := fun H1 e Q q =>
  ⟨S b, hj, h H1 e _ fun H2 e2 => ⟨S a, rfl, e2.good P hP, fun H3 t => q H3 (e2.trans (Ex.tabbed e2.good hP t))⟩⟩
theorem ev_find {K : PySem.W.Frag} {a b : List Nat} {to : TE} {ts : TE} {n : Int} (ho : Ev Ts to σ H (sv a)) (hs : Ev Ts ts σ H (sv b)) (hn : (Txt.find (S a) (S b) : Int) = n) (ty : ∀ H, tyV K "str" (sv a) H) :
    Ev Ts (tBM K "str" (fun x xs H Q => ∃ a b : Str, x = .str a ∧ xs = [.str b] ∧ Q (.int (Txt.find a b)) H) to (tCons ts tNil)) σ H (.int n) := fun H1 e Q q =>
  ho H1 e _ fun H2 e2 => ⟨ty H2, hs H2 (e.trans e2) _ fun H3 e3 => ⟨S a, S b, rfl, rfl, by rw [hn]; exact q H3 (e2.trans e3)⟩⟩
end

/-! ### promises -/
/-- from x of α: the arguments, what is asked, what is told of the answer -/
def FnS (Ts : List Addr) {α : Type} (enc : α → List V) (dom : α → Hp → Prop) (R : α → V → Hp → Prop) : Sp := fun vs H Q _ => ∃ x, vs = enc x ∧ dom x H ∧ Good Ts H ∧ ∀ v H', Ex Ts H H' → R x v H' → Q v H'
/-- the answer is a value -/
def FnV (Ts : List Addr) {α : Type} (enc : α → List V) (dom : α → Prop) (res : α → V) : Sp := fun vs H Q _ => ∃ x, vs = enc x ∧ dom x ∧ Good Ts H ∧ ∀ H', Ex Ts H H' → Q (res x) H'
/-- the answer is a new object -/
def FnN (Ts : List Addr) {α : Type} (enc : α → List V) (dom : α → Hp → Prop) (R : α → HO) : Sp := fun vs H Q _ => ∃ x, vs = enc x ∧ dom x H ∧ Good Ts H ∧ ∀ p H', H p = none → Ex Ts H H' → H' p = some (R x) → Q (.ref p) H'
section
variable {Ts : List Addr} {σ : L2.St} {H : Hp} {E : XK} {tr : TA} {α : Type} {enc : α → List V} {domV : α → Prop} {dom : α → Hp → Prop} {res : α → V} {R : α → HO}
theorem ev_call (x : α) (h : EvA Ts tr σ H (enc x)) (hd : domV x) : Ev Ts (tCall (FnV Ts enc domV res) [] E tr) σ H (res x) := fun H1 e Q q =>
  h H1 e _ fun H2 e2 => ⟨x, List.append_nil _, hd, e2.good, fun H3 e3 => q H3 (e2.trans e3)⟩
theorem en_call (x : α) (h : EvA Ts tr σ H (enc x)) (hd : ∀ H2, Ex Ts H H2 → dom x H2) : EvN Ts (tCall (FnN Ts enc dom R) [] E tr) σ H (R x) := fun H1 e Q q =>
  h H1 e _ fun H2 e2 => ⟨x, List.append_nil _, hd H2 (e.trans e2), e2.good, fun p H3 n e3 => q p H3 (e2.back n) (e2.trans e3)⟩
end

/-! ### steps of a body -/
section
variable {Ts : List Addr} {σ : L2.St} {H H0 : Hp} {D : Ends} {te : TE} {tc : TT} {t1 t2 : TS} {v : V} {i : Nat}
theorem st_ret (h : Ev Ts te σ H0 v) (e : Ex Ts H0 H) (k : ∀ H2, Ex Ts H0 H2 → D.rt v H2) : tRet te D σ H := h.go e k
theorem st_set (h : Ev Ts te σ H0 v) (e : Ex Ts H0 H) (k : ∀ H2, Ex Ts H0 H2 → D.nx (σ.set i (some v)) H2) : tAsg te (gName i) D σ H := h.go e k
theorem st_if {b : Bool} (h : EvT Ts tc σ H0 b) (e : Ex Ts H0 H) (k1 : ∀ H2, Ex Ts H0 H2 → b = true → t1 D σ H2) (k2 : ∀ H2, Ex Ts H0 H2 → b = false → t2 D σ H2) : tIfS tc t1 t2 D σ H := h.go e fun H2 e2 => by
  cases b with
  | true => exact k1 H2 e2 rfl
  | false => exact k2 H2 e2 rfl
end
end Cw
set_option Elab.async false
set_option linter.all false
set_option maxRecDepth 100000
set_option maxHeartbeats 2000000
/-! texts times numbers, joined; comprehensions and loops over texts, pairs of texts, lists -/
namespace Cw
open PySem PySem.Spec PyProof.Rows L2
open GxR (TabG Tabbed TabB)

/-! ### a sign times a number -/
theorem rep_fold (c : Nat) : ∀ (n : Nat) (acc : Array Nat), (List.replicate n (#[c] : Array Nat)).foldl (· ++ ·) acc = acc ++ (List.replicate n c).toArray
  | 0, acc => by simp
  | n + 1, acc => by
    rw [List.replicate_succ, List.foldl_cons, rep_fold c n, List.replicate_succ]
    apply Array.toList_inj.mp
    simp
def rMulS : R2 := fun x y H Q => ∃ (c : Nat) (n : Int), x = .str ⟨#[c]⟩ ∧ y = .int n ∧ -100000 ≤ n ∧ n ≤ 100000 ∧ Q (sv (List.replicate n.toNat c)) H
theorem op_mulS {X : Cx} : OpR X (binaryOp .Mult) rMulS := by
  intro pins s σ H x y v u Q I rx ry h
  obtain ⟨c, n, rfl, rfl, h0, h1, q⟩ := h
  obtain ⟨t, rfl⟩ := rx
  obtain ⟨t', rfl⟩ := ry
  have hl : ((⟨#[c]⟩ : Str).length) = 1 := rfl
  refine PySem.P.mul_str ?_ ?_ ?_ ?_
  · rw [decide_eq_false (show ¬ n < -(2 ^ 63 : Int) by omega), decide_eq_false (show ¬ n ≥ 2 ^ 63 by omega)]
    rfl
  · intro a _
    rw [hl]
    have q1 : (1 : Int) ≤ (2 ^ 63 - 1) / n := (Int.le_ediv_iff_mul_le (show (0 : Int) < n by omega)).mpr (by omega)
    intro b
    have b' : (1 : Int) > (2 ^ 63 - 1) / n := b
    omega
  · intro a _
    rw [hl]
    unfold Builtin.Str.tooLong
    refine decide_eq_false ?_
    have e : sizeLine = sizeLine := rfl
    have z : (100000 : Nat) ≤ sizeLine := by decide
    omega
  · by_cases a : n < 1
    · rw [if_pos a]
      have e : n.toNat = 0 := by omega
      rw [e] at q
      exact ⟨by decide, .str (S []), H, I.tok _, ⟨_, rfl⟩, q⟩
    · rw [if_neg a]
      by_cases b : (n == 1 || (⟨#[c]⟩ : Str).length == 0) = true
      · rw [if_pos b]
        have e1 : n = 1 := by
          rw [hl] at b
          rcases Bool.or_eq_true_iff.mp b with b | b
          · exact beq_iff_eq.mp b
          · exact absurd b (by decide)
        subst e1
        exact ⟨.str ⟨#[c]⟩, H, I, ⟨_, rfl⟩, q⟩
      · rw [if_neg b, rep_fold]
        have e : (#[] : Array Nat) ++ (List.replicate n.toNat c).toArray = (List.replicate n.toNat c).toArray := Array.empty_append
        refine ⟨?_, .str (S (List.replicate n.toNat c)), H, I.tok _, ⟨_, by rw [e]; rfl⟩, q⟩
        show (((#[] : Array Nat) ++ (List.replicate n.toNat c).toArray).size) ≤ sizeLine
        rw [e, List.size_toArray, List.length_replicate]
        have z : (100000 : Nat) ≤ sizeLine := by decide
        omega
section
variable {Ts : List Addr} {K : PySem.W.Frag} {w : World} {σ : L2.St} {H H0 H' : Hp} {ta tb te ti : TE} {t u : TT} {x y z v : V} {r : R2}
theorem rv_mulS {c : Nat} {n : Int} (h0 : -100000 ≤ n) (h1 : n ≤ 100000) : RV Ts rMulS (sv [c]) (.int n) H (sv (List.replicate n.toNat c)) := fun H1 e _ q => ⟨c, n, rfl, rfl, h0, h1, q H1 (Ex.refl e.good)⟩

/-! ### texts joined -/
theorem join_nil : ∀ ls : List (List Nat), Txt.join (S []) (ls.map S) = S ls.flatten := by
  have aux : ∀ ls : List (List Nat), Str.join (S []) (ls.map S) = S ls.flatten := by
    intro ls
    induction ls with
    | nil => rfl
    | cons a r ih =>
      cases r with
      | nil =>
        show S a = S ([a] : List (List Nat)).flatten
        simp
      | cons b r =>
        show S a ++ S [] ++ Str.join (S []) ((b :: r).map S) = _
        rw [ih, S_app, S_app]
        simp
  intro ls
  show Builtin.Str.glued (S []) (ls.map S) = _
  rw [StrLaws.glued_eq_join]
  exact aux ls
theorem map_sv (ls : List (List Nat)) : (ls.map S).map V.str = ls.map sv := by
  rw [List.map_map]
  rfl
theorem len_sum (ls : List (List Nat)) : ((ls.map S).map (·.length)).sum = ls.flatten.length := by
  rw [List.length_flatten, List.map_map]
  exact congrArg List.sum (List.map_congr_left fun a _ => S_len a)
theorem ev_join {ls : List (List Nat)} {to te : TE} (ho : Ev Ts to σ H (sv [])) (h : EvN Ts te σ H (.lst (ls.map sv))) (hl : ls.flatten.length ≤ 100000) (ty : ∀ H, tyV K "str" (sv []) H) :
    Ev Ts (tBM K "str" (fun x xs H Q => ∃ a p, ∃ ys : List Str, x = .str a ∧ xs = [.ref p] ∧ (SqL K H p (ys.map V.str) ∨ SqT K H p (ys.map V.str)) ∧ (ys.map (·.length)).sum + ys.length * a.length ≤ 16777216 ∧ Q (.str (Txt.join a ys)) H) to (tCons te tNil))
      σ H (sv ls.flatten) := fun H1 e Q q =>
  ho H1 e _ fun H2 e2 => ⟨ty H2, h H2 (e.trans e2) _ fun p H3 n e3 hp => ⟨S [], p, ls.map S, rfl, rfl, .inl (l_of (by rw [map_sv]; exact hp)), by
    rw [len_sum, S_len]
    show ls.flatten.length + (ls.map S).length * 0 ≤ 16777216
    omega, by
    rw [join_nil]
    exact q H3 (e2.trans e3)⟩⟩

/-! ### comprehensions -/
theorem take_snoc {xs : List V} {i : Nat} {z : V} (h : xs[i]? = some z) : xs.take (i + 1) = xs.take i ++ [z] := by
  rw [List.take_add_one, h]
  rfl
theorem en_lc {wi : TI} {g : TG} {vs : List Nat} {J : It} {n : Nat} {G : Hp → Prop} {Y : Nat → Hp → V → Hp → Prop} {zs : List V} (hz : zs.length = n) (hn : n ≤ 100000) (W : Walk J n G Y)
    (hw : ∀ H1, Ex Ts H H1 → ∀ R : It → Hp → Prop, (∀ H2, Ex Ts H1 H2 → R J H2) → wi σ H1 R) (hG : ∀ H1, Ex Ts H H1 → G H1)
    (hs : ∀ i z, zs[i]? = some z → ∀ H1 x H', Ex Ts H H1 → Y i H1 x H' → ∃ σ2, Ex Ts H1 H' ∧ (∀ Q : L2.St → Hp → Prop, Q σ2 H' → g x (wipe σ vs) H' Q) ∧ wipe σ2 vs = wipe σ vs ∧ Ev Ts te σ2 H z) :
    EvN Ts (tLc wi g tYes te vs) σ H (.lst zs) := fun H1 e1 Q q => by
  refine hw H1 e1 _ fun H2 e2 => ?_
  intro D nD
  have n0 : H D = none := (e1.trans e2).back nD
  have nT : D ∉ Ts := e2.good.free nD
  have zl : (100000 : Nat) < sizeLine := by decide
  refine lc_it W (fun i H' => Ex Ts H1 H' ∧ H' D = some (.lst (zs.take i))) ⟨e2.trans (Ex.new e2.good nD), by rw [upd_same]; rfl⟩ (fun i H' _ p => hG H' (e1.trans p.1)) (fun i x H3 H4 hi p y => ?_) (fun H' p => ?_)
  · have hi' : i < zs.length := by omega
    obtain ⟨σ2, e4, hg, hwp, hev⟩ := hs i zs[i] (List.getElem?_eq_getElem hi') H3 x H4 (e1.trans p.1) y
    refine hg _ ⟨hwp, ?_⟩
    dsimp only [tYes]
    rw [if_pos rfl]
    refine hev H4 ((e1.trans p.1).trans e4) _ fun H5 e5 => ⟨zs.take i, (e4.trans e5).keep D _ nT p.2, ?_, ?_⟩
    · rw [List.length_take]
      omega
    · refine ⟨((p.1.trans e4).trans e5).mut nT (e2.back nD), ?_⟩
      rw [upd_same, take_snoc (List.getElem?_eq_getElem hi')]
  · have h2 := p.2
    rw [List.take_of_length_le (Nat.le_of_eq hz)] at h2
    exact q D H' (e2.back nD) p.1 h2
theorem wipe_one (σ : L2.St) (j : Nat) (x : V) : wipe ((wipe σ [j]).set j (some x)) [j] = wipe σ [j] := by
  show ((σ.set j none).set j (some x)).set j none = σ.set j none
  rw [List.set_set, List.set_set]
/-- [e for c in text] -/
theorem en_lcS {j : Nat} {a : List Nat} {f : Nat → V} (hl : a.length ≤ 100000) (hi : Ev Ts ti σ H (sv a)) (he : ∀ c ∈ a, Ev Ts te ((wipe σ [j]).set j (some (sv [c]))) H (f c)) : EvN Ts (tLc (iStr ti) (gName j) tYes te [j]) σ H (.lst (a.map f)) := by
  refine en_lc (n := (S a).cps.size) (by rw [List.length_map, S_size]) (by rw [S_size]; exact hl) (walk_str (z := S a)) (fun H1 e R k => hi H1 e _ fun H2 e2 => ⟨S a, rfl, k H2 e2⟩) (fun _ _ => trivial) (fun i z hz H1 x H' e y => ?_)
  obtain ⟨rfl, c, hc, rfl⟩ := y
  rw [S_get] at hc
  rw [List.getElem?_map, hc] at hz
  obtain rfl := Option.some.inj hz
  exact ⟨_, Ex.refl e.good, fun Q q => q, wipe_one σ j _, he c (List.mem_of_getElem? hc)⟩
theorem wipe_two (σ : L2.St) (j k : Nat) (x y : V) (h : j ≠ k) : wipe (((wipe σ [j, k]).set j (some x)).set k (some y)) [j, k] = wipe σ [j, k] := by
  show (((((σ.set k none).set j none).set j (some x)).set k (some y)).set k none).set j none = (σ.set k none).set j none
  rw [List.set_set, List.set_set, List.set_comm _ _ h, List.set_set, List.set_set]
/-- [e for a, b in zip(one, two)], texts of one length -/
theorem en_lcZ {j k : Nat} {a b : List Nat} {tb : TE} {f : Nat → Nat → V} (hjk : j ≠ k) (hab : a.length = b.length) (hl : a.length ≤ 100000) (ha : Ev Ts ta σ H (sv a)) (hb : Ev Ts tb σ H (sv b))
    (he : ∀ c d, c ∈ a → d ∈ b → Ev Ts te (((wipe σ [j, k]).set j (some (sv [c]))).set k (some (sv [d]))) H (f c d)) :
    EvN Ts (tLc (iZips (tCons ta (tCons tb tNil))) (gTup K 2 (gCons (gName j) (gCons (gName k) gNil))) tYes te [j, k]) σ H (.lst ((a.zip b).map fun p => f p.1 p.2)) := by
  refine en_lc (n := (S a).cps.size) (by rw [List.length_map, List.length_zip, S_size, hab, Nat.min_self]) (by rw [S_size]; exact hl) (walk_zips (x := S a) (y := S b) (by rw [S_size, S_size]; exact hab))
    (fun H1 e R q => ha H1 e _ fun H2 e2 => hb H2 (e.trans e2) _ fun H3 e3 => ⟨S a, S b, rfl, q H3 (e2.trans e3)⟩) (fun _ _ => trivial) (fun i z hz H1 x H' e y => ?_)
  obtain ⟨T, c, d, rfl, nT, rfl, hc, hd⟩ := y
  rw [S_get] at hc hd
  have hp : (a.zip b)[i]? = some (c, d) := List.getElem?_zip_eq_some.mpr ⟨hc, hd⟩
  rw [List.getElem?_map, hp] at hz
  obtain rfl := Option.some.inj hz
  exact ⟨_, Ex.new e.good nT, fun Q q => ⟨T, [sv [c], sv [d]], rfl, t_of upd_same, rfl, _, _, rfl, _, _, rfl, rfl, q⟩, wipe_two σ j k _ _ hjk, he c d (List.mem_of_getElem? hc) (List.mem_of_getElem? hd)⟩
/-- [e for x in list], the list a new one on the way -/
theorem en_lcN {j : Nat} {xs : List V} {f : V → V} (hl : xs.length ≤ 100000) (hi : EvN Ts ti σ H (.lst xs)) (he : ∀ x ∈ xs, Ev Ts te ((wipe σ [j]).set j (some x)) H (f x)) : EvN Ts (tLc (iList K ti) (gName j) tYes te [j]) σ H (.lst (xs.map f)) := fun H1 e1 Q q => by
  -- the list stands beside what was there
  refine hi H1 e1 _ fun a H2 n2 e2 ha => ?_
  have g2 : Good Ts H2 := e2.good
  have key : EvN Ts (fun σ H Q => tLc (fun σ H R => R (Itl K a) H) (gName j) tYes te [j] σ H Q) σ H2 (.lst (xs.map f)) := by
    refine en_lc (n := xs.length) (by rw [List.length_map]) hl (walk_list (K := K) (a := a) (xs := xs)) (fun H3 e R k => k H3 (Ex.refl e.good)) (fun H3 e => e.l g2 (l_of ha)) (fun i z hz H3 x H' e y => ?_)
    obtain ⟨rfl, hx⟩ := y
    rw [List.getElem?_map, hx] at hz
    obtain rfl := Option.some.inj hz
    exact ⟨_, Ex.refl e.good, fun Q q => q, wipe_one σ j _, (he x (List.mem_of_getElem? hx)).mono (e1.trans e2)⟩
  exact ⟨a, rfl, ⟨xs, l_of ha⟩, key H2 (Ex.refl g2) Q fun p H3 n e3 h => q p H3 (e2.back n) (e2.trans e3) h⟩

/-! ### loops -/
/-- for c in text: Pv by the signs taken -/
theorem st_forS {j : Nat} {a : List Nat} {tb : TS} {D : Ends} (hi : Ev Ts ti σ H0 (sv a)) (e0 : Ex Ts H0 H) (Pv : Nat → L2.St → Prop) (h0 : Pv 0 σ)
    (hs : ∀ i c σ H1 (N B : L2.St → Hp → Prop), a[i]? = some c → Pv i σ → Ex Ts H0 H1 → (∀ σ2 H2, Ex Ts H0 H2 → Pv (i + 1) σ2 → N σ2 H2) → tb { D with nx := N, ct := N, bk := D.nx } (σ.set j (some (sv [c]))) H1)
    (hd : ∀ σ H1, Ex Ts H0 H1 → Pv a.length σ → D.nx σ H1) : tFor (iStr ti) (gName j) tb D σ H := by
  refine hi.go e0 fun H2 e2 => ⟨S a, rfl, ?_⟩
  refine for_it (walk_str (z := S a)) (fun i σ H => Ex Ts H0 H ∧ Pv i σ) ⟨e2, h0⟩ (fun _ _ _ _ _ => trivial) (fun i x σ H3 H4 hi p y => ?_) (fun σ H3 p => ?_)
  · obtain ⟨rfl, c, hc, rfl⟩ := y
    rw [S_get] at hc
    exact hs i c σ H4 _ D.nx hc p.2 p.1 fun σ2 H5 e5 p5 => ⟨e5, p5⟩
  · rw [S_size] at p
    exact hd σ H3 p.1 p.2
end
end Cw
set_option Elab.async false
set_option linter.all false
set_option maxRecDepth 100000
set_option maxHeartbeats 2000000
/-! vectors by their signs: what the operators make of them -/
namespace Cw
open PySem PySem.Spec PyProof.Rows L2
def IsB (c : Nat) : Prop := c = 48 ∨ c = 49 ∨ c = 120 ∨ c = 122
def AllB (a : List Nat) : Prop := ∀ c ∈ a, IsB c
structure Vec (a : List Nat) : Prop where
  all : AllB a
  pos : 1 ≤ a.length
  le : a.length ≤ 64
def notB (c : Nat) : Nat := if c = 48 then 49 else if c = 49 then 48 else 120
def andB (a b : Nat) : Nat := if a = 48 ∨ b = 48 then 48 else if a = 49 ∧ b = 49 then 49 else 120
def orB (a b : Nat) : Nat := if a = 49 ∨ b = 49 then 49 else if a = 48 ∧ b = 48 then 48 else 120
def xorB (a b : Nat) : Nat := if (a = 48 ∨ a = 49) ∧ (b = 48 ∨ b = 49) then (if a = b then 48 else 49) else 120
def norm (c : Nat) : Nat := if c = 48 ∨ c = 49 then c else 120
def agB (a b : Nat) : Nat := if a = b ∧ (a = 48 ∨ a = 49) then a else 120
instance (c : Nat) : Decidable (IsB c) := by
  unfold IsB
  infer_instance
theorem isB_not {a : Nat} (ha : IsB a) : IsB (notB a) := by
  rcases ha with rfl | rfl | rfl | rfl <;> decide
theorem isB_and {a b : Nat} (ha : IsB a) (hb : IsB b) : IsB (andB a b) := by
  rcases ha with rfl | rfl | rfl | rfl <;> rcases hb with rfl | rfl | rfl | rfl <;> decide
theorem isB_or {a b : Nat} (ha : IsB a) (hb : IsB b) : IsB (orB a b) := by
  rcases ha with rfl | rfl | rfl | rfl <;> rcases hb with rfl | rfl | rfl | rfl <;> decide
theorem isB_xor {a b : Nat} (ha : IsB a) (hb : IsB b) : IsB (xorB a b) := by
  rcases ha with rfl | rfl | rfl | rfl <;> rcases hb with rfl | rfl | rfl | rfl <;> decide
def wid (a b : List Nat) : Nat := max a.length b.length
def ext (w : Nat) (a : List Nat) : List Nat := List.replicate (w - a.length) 48 ++ a
def exL (a b : List Nat) : List Nat := ext (wid a b) a
def exR (a b : List Nat) : List Nat := ext (wid a b) b
def map2 (f : Nat → Nat → Nat) (a b : List Nat) : List Nat := ((exL a b).zip (exR a b)).map fun p => f p.1 p.2
theorem ext_len {w : Nat} {a : List Nat} (h : a.length ≤ w) : (ext w a).length = w := by
  unfold ext
  rw [List.length_append, List.length_replicate]
  omega
theorem ext_all {w : Nat} {a : List Nat} (h : AllB a) : AllB (ext w a) := by
  intro c hc
  rcases List.mem_append.mp hc with q | q
  · rw [List.eq_of_mem_replicate q]
    exact .inl rfl
  · exact h c q
theorem exL_len (a b : List Nat) : (exL a b).length = wid a b := ext_len (Nat.le_max_left _ _)
theorem exR_len (a b : List Nat) : (exR a b).length = wid a b := ext_len (Nat.le_max_right _ _)
theorem ex_eq (a b : List Nat) : (exL a b).length = (exR a b).length := by rw [exL_len, exR_len]
theorem wid_le {a b : List Nat} (ha : a.length ≤ 64) (hb : b.length ≤ 64) : wid a b ≤ 64 := Nat.max_le.mpr ⟨ha, hb⟩
theorem map2_len (f : Nat → Nat → Nat) (a b : List Nat) : (map2 f a b).length = wid a b := by
  unfold map2
  rw [List.length_map, List.length_zip, exL_len, exR_len, Nat.min_self]
theorem map2_vec {f : Nat → Nat → Nat} (hf : ∀ a b, IsB a → IsB b → IsB (f a b)) {a b : List Nat} (ha : Vec a) (hb : Vec b) : Vec (map2 f a b) := by
  refine ⟨fun c hc => ?_, ?_, ?_⟩
  · obtain ⟨p, hp, rfl⟩ := List.mem_map.mp hc
    obtain ⟨x, y⟩ := p
    have q := List.of_mem_zip hp
    exact hf x y (ext_all ha.all x q.1) (ext_all hb.all y q.2)
  · rw [map2_len]
    exact Nat.le_trans ha.pos (Nat.le_max_left _ _)
  · rw [map2_len]
    exact wid_le ha.le hb.le
theorem vec_one {c : Nat} (h : IsB c) : Vec [c] := ⟨fun x hx => by rw [List.mem_singleton.mp hx]; exact h, Nat.le_refl _, by show 1 ≤ 64; decide⟩
/-- a fold by one of the tables -/
theorem fold_isB {f : Nat → Nat → Nat} (hf : ∀ a b, IsB a → IsB b → IsB (f a b)) : ∀ {a : List Nat} {e : Nat}, IsB e → AllB a → IsB (a.foldl f e)
  | [], _, he, _ => he
  | c :: r, e, he, ha => by
    show IsB (r.foldl f (f e c))
    exact fold_isB hf (hf e c he (ha c (List.mem_cons_self ..))) fun x hx => ha x (List.mem_cons_of_mem _ hx)
theorem fold_snoc {f : Nat → Nat → Nat} {a : List Nat} {i c : Nat} {e : Nat} (h : a[i]? = some c) : (a.take (i + 1)).foldl f e = f ((a.take i).foldl f e) c := by
  rw [List.take_add_one, h, List.foldl_append]
  rfl
theorem take_isB {f : Nat → Nat → Nat} (hf : ∀ a b, IsB a → IsB b → IsB (f a b)) {a : List Nat} {e : Nat} (he : IsB e) (ha : AllB a) (i : Nat) : IsB ((a.take i).foldl f e) :=
  fold_isB hf he fun x hx => ha x (List.mem_of_mem_take hx)
theorem flat_one {α : Type} (f : α → Nat) (l : List α) : (l.map fun x => [f x]).flatten = l.map f := by
  induction l with
  | nil => rfl
  | cons a r ih =>
    show [f a] ++ (r.map fun x => [f x]).flatten = _
    rw [ih]
    rfl
/-! ### promises of defs of the text -/
/-- a def of the module, its promise kept -/
structure Callee (P : Program) (w : World) (K : PySem.W.Frag) (mg : Str → Option Value) (base : Heap) (x : Str) (k : Nat) (ps : List Str) (sp : Sp) : Prop where
  out : ∃ (f : Addr) (fd : FuncData), FnOk P w K mg base CX0 k f fd ps sp ∧ mg x = some (.ref f) ∧ PySem.W.keepIn K (.ref f) = true ∧ Binds K fd ps []
theorem pe_fn {X : Cx} {x : Str} {k : Nat} {ps : List Str} {sp : Sp} {p pos : Pos} {e : Expr} {es : List Expr} {t : TA} (C : Callee X.prog X.w X.K X.mg X.base x k ps sp) (hr : Room k X.A) (hg : Gl X x) (ha : PA X (e :: es) t)
    (hdb : (x == ("__debug__" : Str)) = false := by decide) (he : starEach (e :: es) X.env = (false, eval e X.env) :: starEach es X.env := by rfl) (hpl : (backTo pos (starEach es X.env)).any (·.1) = false := by rfl) :
    PE X (.Call (.Name x p) (e :: es) [] pos) (tCall sp [] E0 t) := by
  obtain ⟨f, fd, F, hm, hk, hb⟩ := C.out
  exact pe_call F hr hg hm hk hb .nil pass0 ha hdb he hpl
theorem st_retN {Ts : List Addr} {σ : L2.St} {H H0 : Hp} {D : Ends} {te : TE} {R : HO} (h : EvN Ts te σ H0 R) (e : Ex Ts H0 H) (k : ∀ p H2, H0 p = none → p ∉ Ts → Ex Ts H0 H2 → H2 p = some R → D.rt (.ref p) H2) : tRet te D σ H := h.go e k
/-- a, b = e: e a new pair -/
theorem st_pair {Ts : List Addr} {K : PySem.W.Frag} {σ : L2.St} {H H0 : Hp} {D : Ends} {te : TE} {x y : V} {i j : Nat} (h : EvN Ts te σ H0 (.tup [x, y])) (e : Ex Ts H0 H) (k : ∀ H2, Ex Ts H0 H2 → D.nx ((σ.set i (some x)).set j (some y)) H2) :
    tAsg te (gTup K 2 (gCons (gName i) (gCons (gName j) gNil))) D σ H := h.go e fun p H2 _ _ e2 hp => ⟨p, [x, y], rfl, t_of hp, rfl, _, _, rfl, _, _, rfl, rfl, k H2 e2⟩
theorem ev_strs {Ts : List Addr} {K : PySem.W.Frag} {σ : L2.St} {H : Hp} {te : TE} {α : Type} (f : α → Nat) (l : List α) (h : EvN Ts te σ H (.lst (l.map fun x => sv [f x]))) : EvN Ts te σ H (.lst ((l.map fun x => [f x]).map sv)) := by
  rw [List.map_map]
  exact h
end Cw
set_option Elab.async false
set_option linter.all false
set_option maxRecDepth 100000
set_option maxHeartbeats 2000000
/-! lists that grow; loops over them; promises that ask of the heap -/
namespace Cw
open PySem PySem.Spec PyProof.Rows L2
/-- the answer is a value; the heap is asked of -/
def FnL (Ts : List Addr) {α : Type} (enc : α → List V) (dom : α → Hp → Prop) (res : α → V) : Sp := fun vs H Q _ => ∃ x, vs = enc x ∧ dom x H ∧ Good Ts H ∧ ∀ H', Ex Ts H H' → Q (res x) H'
section
variable {Ts : List Addr} {K : PySem.W.Frag} {w : World} {σ : L2.St} {H H0 H' : Hp} {ta tb te ti : TE} {tr : TA} {x y z v : V} {D : Ends} {E : XK} {α : Type} {enc : α → List V} {dom : α → Hp → Prop} {res : α → V} {R : α → V → Hp → Prop}
theorem ev_callL (x : α) (h : EvA Ts tr σ H (enc x)) (hd : ∀ H2, Ex Ts H H2 → dom x H2) : Ev Ts (tCall (FnL Ts enc dom res) [] E tr) σ H (res x) := fun H1 e Q q =>
  h H1 e _ fun H2 e2 => ⟨x, List.append_nil _, hd H2 (e.trans e2), e2.good, fun H3 e3 => q H3 (e2.trans e3)⟩
/-- some value, of which R is told -/
def EvS (Ts : List Addr) (te : TE) (σ : L2.St) (H : Hp) (R : V → Hp → Prop) : Prop := ∀ H1, Ex Ts H H1 → ∀ Q : VK, (∀ v H2, Ex Ts H1 H2 → R v H2 → Q v H2) → te σ H1 Q
theorem es_call (x : α) (h : EvA Ts tr σ H (enc x)) (hd : ∀ H2, Ex Ts H H2 → dom x H2) : EvS Ts (tCall (FnS Ts enc dom R) [] E tr) σ H (R x) := fun H1 e Q q =>
  h H1 e _ fun H2 e2 => ⟨x, List.append_nil _, hd H2 (e.trans e2), e2.good, fun v H3 e3 r => q v H3 (e2.trans e3) r⟩
theorem st_app {i : Nat} {l : Addr} {xs : List V} (hl : σ[i]? = some (some (.ref l))) (h : H l = some (.lst xs)) (nl : l ∉ Ts) (hy : Ev Ts te σ H0 y) (e : Ex Ts H0 H) (hz : xs.length < 100000)
    (k : ∀ H2, Ex Ts H H2 → H2 l = some (.lst xs) → D.nx σ (upd H2 l (.lst (xs ++ [y])))) : tDrop (tBM K "list" rAppend (tVar i) (tCons te tNil)) D σ H :=
  ⟨_, hl, .inl ⟨rfl, _, l_of h⟩, hy H e _ fun H2 e2 => ⟨l, xs, y, rfl, rfl, e2.keep l _ nl h, Nat.lt_trans hz (by decide), k H2 e2 (e2.keep l _ nl h)⟩⟩
theorem st_setN {R : HO} {i : Nat} (h : EvN Ts te σ H R) (g : Good Ts H) (k : ∀ p H2, H p = none → Ex Ts H H2 → H2 p = some R → D.nx (σ.set i (some (.ref p))) H2) : tAsg te (gName i) D σ H := h H (Ex.refl g) _ k
theorem st_setS {R : V → Hp → Prop} {i : Nat} (h : EvS Ts te σ H0 R) (e : Ex Ts H0 H) (k : ∀ v H2, Ex Ts H0 H2 → R v H2 → D.nx (σ.set i (some v)) H2) : tAsg te (gName i) D σ H := h H e _ fun v H2 e2 r => k v H2 (e.trans e2) r
/-- for x in a new list -/
theorem st_forN {j : Nat} {xs : List V} {tb : TS} (h : EvN Ts ti σ H0 (.lst xs)) (e : Ex Ts H0 H) (Pv : Addr → Nat → L2.St → Hp → Prop) (h0 : ∀ a H2, H a = none → Ex Ts H H2 → H2 a = some (.lst xs) → Pv a 0 σ H2)
    (hL : ∀ a i σ H, Pv a i σ H → H a = some (.lst xs))
    (hs : ∀ a i x σ H (N : L2.St → Hp → Prop), xs[i]? = some x → Pv a i σ H → (∀ σ2 H2, Pv a (i + 1) σ2 H2 → N σ2 H2) → tb { D with nx := N, ct := N, bk := D.nx } (σ.set j (some x)) H)
    (hd : ∀ a σ H, Pv a xs.length σ H → D.nx σ H) : tFor (iList K ti) (gName j) tb D σ H := by
  refine h H e _ fun a H2 n e2 ha => ⟨a, rfl, ⟨xs, l_of ha⟩, ?_⟩
  refine for_it (walk_list (K := K) (a := a) (xs := xs)) (Pv a) (h0 a H2 n e2 ha) (fun i σ H _ p => l_of (hL a i σ H p)) (fun i x σ H3 H4 _ p y => ?_) (hd a)
  obtain ⟨rfl, hx⟩ := y
  exact hs a i x σ H4 _ hx p fun σ2 H5 p5 => p5
/-- for k in range(n) -/
theorem st_forR {j n : Nat} {tb : TS} (h : Ev Ts te σ H0 (.int (n : Nat))) (hn : n ≤ 1000000) (e : Ex Ts H0 H) (Pv : Nat → L2.St → Hp → Prop) (h0 : ∀ H2, Ex Ts H H2 → Pv 0 σ H2)
    (hs : ∀ i σ H (N : L2.St → Hp → Prop), i < n → Pv i σ H → (∀ σ2 H2, Pv (i + 1) σ2 H2 → N σ2 H2) → tb { D with nx := N, ct := N, bk := D.nx } (σ.set j (some (.int (i : Nat)))) H)
    (hd : ∀ σ H, Pv n σ H → D.nx σ H) : tFor (iRng1 (tCons te tNil)) (gName j) tb D σ H := by
  refine h H e _ fun H2 e2 => ⟨(n : Int), rfl, by omega, by omega, ?_⟩
  refine for_it (walk_range (lo := 0) (n := ((n : Int)).toNat)) Pv (h0 H2 e2) (fun _ _ _ _ _ => trivial) (fun i x σ H3 H4 hi p y => ?_) (fun σ H p => ?_)
  · obtain ⟨rfl, rfl⟩ := y
    dsimp only
    rw [Int.zero_add]
    exact hs i σ H4 _ (by omega) p fun σ2 H5 p5 => p5
  · have e0 : ((n : Int)).toNat = n := by omega
    rw [e0] at p
    exact hd σ H p
theorem cut_int {ns : List Int} {lo hi : Option Int} {x : V} (h : x ∈ cutV (ns.map V.int) lo hi) : ∃ n, x = V.int n := by
  unfold cutV at h
  have h2 := List.mem_of_mem_drop (List.mem_of_mem_take h)
  obtain ⟨n, _, e⟩ := List.mem_map.mp h2
  exact ⟨n, e.symm⟩
theorem cut_to {xs : List V} {m : Nat} (h : m ≤ xs.length) : cutV xs none (some (m : Int)) = xs.take m := by
  unfold cutV
  rw [HT.sIx_none, HT.sIx_nat, Nat.min_eq_left h, Nat.sub_zero, List.drop_zero]
theorem cut_63 (xs : List V) : (cutV xs none (some 63)).length ≤ 63 := by
  unfold cutV
  rw [HT.sIx_none, show (some (63 : Int)) = some ((63 : Nat) : Int) from rfl, HT.sIx_nat, List.length_take]
  omega
end
/-- numbers from 0 to b - 1 -/
def Below (b : Nat) (ms : List Int) : Prop := ∀ z ∈ ms, 0 ≤ z ∧ z < (b : Int)
theorem below_snoc {b : Nat} {ms : List Int} {z : Int} (h : Below b ms) (h0 : 0 ≤ z) (h1 : z < (b : Int)) : Below b (ms ++ [z]) := by
  intro x hx
  rcases List.mem_append.mp hx with q | q
  · exact h x q
  · rw [List.mem_singleton.mp q]
    exact ⟨h0, h1⟩
theorem map_snoc (ms : List Int) (z : Int) : ms.map V.int ++ [V.int z] = (ms ++ [z]).map V.int := by simp
end Cw
set_option Elab.async false
set_option linter.all false
set_option maxRecDepth 100000
set_option maxHeartbeats 2000000
/-! f'{n:b}' -/
namespace Cw
open PySem PySem.Spec PyProof.Rows L2
open Builtin Builtin.Str Builtin.Int Builtin.Float
def binDigits (n : Nat) : List Nat := (Nat.toDigits 2 n).map Char.toNat
theorem spec_b : ∃ f : FormatSpec, parseFormatSpec [98] "int" 62 = .ok f ∧ f.type = some 98 ∧ f.precision = none ∧ f.noNeg0 = false ∧ f.alt = false ∧ f.width = none ∧ f.grouping = none ∧ f.sign = none := ⟨_, rfl, rfl, rfl, rfl, rfl, rfl, rfl, rfl⟩
theorem binDigits_ne (n : Nat) : (binDigits n).isEmpty = false := by
  unfold binDigits
  have h := tDigits_len_ge 2 n
  cases e : Nat.toDigits 2 n with
  | nil =>
    rw [e] at h
    exact absurd h (by decide)
  | cons c r => rfl
theorem field_b {f : FormatSpec} {ds : List Nat} (hd : ds.isEmpty = false) (hw : f.width = none) (hgr : f.grouping = none) (hsg : f.sign = none) : intField' f false [] ds [] 4 = S ds := by
  have hroom : (if (f.fill == 48 && f.align == 61) = true then (-1 : Int) - ((([] : List Nat).length : Int) + (([] : List Nat).length : Int) + (([] : List Nat).length : Int)) else 0).toNat = 0 := by
    split <;> rfl
  unfold intField'
  simp only [hw, hgr, hsg, hd, Bool.false_eq_true, if_false]
  rw [hroom, Nat.zero_sub]
  have hpad : ((-1 : Int) - ((([] : List Nat).length : Int) + (([] : List Nat).length : Int) + (([] : List Nat).length : Int)) - ((List.replicate 0 48 ++ ds).length : Int)).toNat = 0 := by
    show ((-1 : Int) - (0 + 0 + 0) - ((ds.length : Nat) : Int)).toNat = 0
    omega
  rw [hpad]
  show (⟨_⟩ : Str) = ⟨ds.toArray⟩
  congr 2
  split
  · simp
  · split
    · simp
    · split <;> simp
set_option maxRecDepth 100000 in
theorem formatField_b {prog : Program} {w : World} {A : Around} {E : Value → Shared → Prop} {s : Shared} {n : Nat} {t : Tok} {Q : Value → Shared → Prop} (hl : (binDigits n).length ≤ 1000) (h : Q (.str (S (binDigits n)) (s.toks + 1)) { s with toks := s.toks + 1 + 1 }) :
    wpAny (model prog w) A (formatField (.int (n : Int) t) (S [98])) Q E s := by
  obtain ⟨f, hp, hty, hpr, hz, hal, hw, hgr, hsg⟩ := spec_b
  show wpAny _ _ (holding [.int (n : Int) t] (pyFormat (.int (n : Int) t) (S [98]))) Q E s
  refine wpAny_holding ?_
  unfold pyFormat
  refine wpAny_bind (wpAny_mkStr ?_ (by decide))
  refine wpAny_bind (m := callSpecial? (.int (n : Int) t) (Str.ofString "__format__") [.str (S [98]) s.toks]) (wpAny_callSpecial?_slot (name := Str.ofString "__format__") (typeIs_int _ (n : Int) t) PyProof.Rows.slot_int_format ?_)
  refine wpAny_call (codeAny_call_builtin PyProof.Rows.slot_int_format.plain PyProof.Rows.entry_int_format (PyProof.Rows.slot_int_format.check _ _ _ _ _ _ _ _ (typeIs_int _ (n : Int) t) (PyProof.Rows.args_int_format _ _) ?_))
  unfold Builtin.«int.__format__»
  simp only [selfAndOne, noKeywords, Int.intOfSelf, asInt?, asStr?, List.isEmpty_nil, if_true, pure_bind, bind_pure, bind_assoc, show ((S [98]).length == 0) = false from rfl, Bool.false_eq_true, if_false,
    show (((S [98]).cps.toList.drop 1).any (· ≥ 128) || ((S [98]).cps.getD 0 0 ≥ 128 && !([60, 62, 61, 94] : List Nat).contains ((S [98]).cps.getD 1 0))) = false from rfl,
    show (Value.str (S [98]) s.toks == Value.none) = false from rfl]
  refine wpAny_bind (wpAny_typeNameOf (T := "str") (typeIs_str _ _ _) (by decide) fun _ => ?_)
  refine wpAny_bind (wpAny_typeNameOfCut_int ?_)
  simp only [show (S [98]).cps.toList = [98] from rfl, hp, hty]
  rw [if_pos (by decide)]
  show wpAny _ _ (if _ then _ else _) _ _ _
  rw [if_neg (by simp [hpr])]
  show wpAny _ _ (if _ then _ else _) _ _ _
  rw [if_neg (by simp [hz])]
  show wpAny _ _ (if _ then _ else _) _ _ _
  rw [if_neg (by decide)]
  show wpAny _ _ (if _ then _ else _) _ _ _
  rw [if_neg (by decide)]
  show wpAny _ _ (if _ then _ else _) _ _ _
  rw [if_neg (by simp [hw])]
  show wpAny _ _ (retStr _) _ _ _
  unfold retStr
  simp only [hal, Bool.false_eq_true, if_false, show decide ((n : Int) < 0) = false from decide_eq_false (by omega), Int.natAbs_natCast, Option.getD_some, show ((98 : Nat) == 88) = false from rfl, show ((2 : Nat) == 10) = false from rfl]
  have hs : (S (binDigits n)).length ≤ sizeLine := by
    rw [S_len]
    exact Nat.le_trans hl (by decide)
  rw [show ∀ (z : Str), z = S (binDigits n) → (mkStr z) = mkStr (S (binDigits n)) from fun z e => by rw [e]]
  · refine wpAny_bind (wpAny_mkStr (wpAny_pure ?_) hs)
    exact wpAny_bind (wpAny_isInstance (typeIs_str _ _ _) isSubtype_str_str (wpAny_pure h))
  · refine Eq.trans ?_ (field_b (f := f) (binDigits_ne n) hw hgr hsg)
    clear h hp hty hpr hz hal hw hsg
    cases f
    dsimp only at hgr
    subst hgr
    rfl
end Cw
set_option Elab.async false
set_option linter.all false
set_option maxRecDepth 100000
set_option maxHeartbeats 2000000
/-! the vector of a number -/
namespace Cw
open PySem PySem.Spec PyProof.Rows L2
/-- the bits of n, w of them, the most significant one first -/
def bitsOf (w n : Nat) : List Nat := ((List.range w).map fun k => 48 + n / 2 ^ k % 2).reverse
theorem bits_len (w n : Nat) : (bitsOf w n).length = w := by
  unfold bitsOf
  rw [List.length_reverse, List.length_map, List.length_range]
theorem bits_succ (w n : Nat) : bitsOf (w + 1) n = bitsOf w (n / 2) ++ [48 + n % 2] := by
  unfold bitsOf
  rw [List.range_succ_eq_map, List.map_cons, List.reverse_cons, List.map_map]
  congr 1
  · congr 1
    refine List.map_congr_left fun k _ => ?_
    show 48 + n / 2 ^ (k + 1) % 2 = 48 + n / 2 / 2 ^ k % 2
    rw [Nat.div_div_eq_div_mul, Nat.pow_succ, Nat.mul_comm]
  · rw [Nat.pow_zero, Nat.div_one]
theorem bits_bin (w : Nat) : ∀ n, ∀ c ∈ bitsOf w n, IsBin c := by
  intro n c hc
  unfold bitsOf at hc
  obtain ⟨k, _, rfl⟩ := List.mem_map.mp (List.mem_reverse.mp hc)
  unfold IsBin
  omega
theorem bits_num : ∀ (w n : Nat), n < 2 ^ w → binNum (bitsOf w n) = n
  | 0, n, h => by
    have e : n = 0 := by
      rw [Nat.pow_zero] at h
      omega
    rw [e]
    rfl
  | w + 1, n, h => by
    have h2 : n / 2 < 2 ^ w := by
      rw [Nat.pow_succ] at h
      omega
    rw [bits_succ]
    unfold binNum
    rw [List.foldl_append]
    show binNum (bitsOf w (n / 2)) * 2 + bv (48 + n % 2) = n
    rw [bits_num w (n / 2) h2]
    unfold bv
    omega
theorem bits_vec {w n : Nat} (h0 : 1 ≤ w) (h1 : w ≤ 64) : Vec (bitsOf w n) := by
  refine ⟨fun c hc => ?_, ?_, ?_⟩
  · rcases bits_bin w n c hc with h | h
    · exact .inl h
    · exact .inr (.inl h)
  · rw [bits_len]
    exact h0
  · rw [bits_len]
    exact h1
def pad (w : Nat) (l : List Nat) : List Nat := List.replicate (w - l.length) 48 ++ l
theorem pad_snoc (w : Nat) (l : List Nat) (x : Nat) : pad (w + 1) (l ++ [x]) = pad w l ++ [x] := by
  unfold pad
  rw [List.length_append, List.length_singleton, Nat.add_sub_add_right, List.append_assoc]
theorem dig_lt {n : Nat} (h : n < 2) : binDigits n = [48 + n] := by
  unfold binDigits
  rw [Nat.toDigits_of_lt_base h]
  have e : n = 0 ∨ n = 1 := by omega
  rcases e with rfl | rfl <;> rfl
theorem dig_ge {n : Nat} (h : 2 ≤ n) : binDigits n = binDigits (n / 2) ++ [48 + n % 2] := by
  unfold binDigits
  rw [Nat.toDigits_of_base_le (by decide) h, List.map_append]
  congr 1
  have e : n % 2 = 0 ∨ n % 2 = 1 := by omega
  rcases e with e | e <;> rw [e] <;> rfl
theorem rep_snoc (w : Nat) : List.replicate (w + 1) (48 : Nat) = List.replicate w 48 ++ [48] := List.replicate_succ'
theorem pad_bits : ∀ (w n : Nat), n < 2 ^ (w + 1) → pad (w + 1) (binDigits n) = bitsOf (w + 1) n
  | 0, n, h => by
    have h2 : n < 2 := h
    rw [dig_lt h2, bits_succ, Nat.mod_eq_of_lt h2]
    rfl
  | w + 1, n, h => by
    have h2 : n / 2 < 2 ^ (w + 1) := by
      rw [Nat.pow_succ] at h
      omega
    have ih := pad_bits w (n / 2) h2
    rw [bits_succ, ← ih]
    by_cases hn : 2 ≤ n
    · rw [dig_ge hn, pad_snoc]
    · have hn2 : n < 2 := by omega
      have e0 : n / 2 = 0 := by omega
      rw [dig_lt hn2, e0, dig_lt (show 0 < 2 by decide), Nat.mod_eq_of_lt hn2]
      unfold pad
      show List.replicate (w + 1) 48 ++ [48 + n] = (List.replicate w 48 ++ [48]) ++ [48 + n]
      rw [rep_snoc]
theorem dig_bin (n : Nat) : ∀ c ∈ binDigits n, IsBin c := by
  induction n using Nat.strongRecOn with
  | _ n ih =>
    intro c hc
    by_cases h : 2 ≤ n
    · rw [dig_ge h] at hc
      rcases List.mem_append.mp hc with q | q
      · exact ih (n / 2) (by omega) c q
      · rw [List.mem_singleton.mp q]
        unfold IsBin
        omega
    · rw [dig_lt (by omega)] at hc
      rw [List.mem_singleton.mp hc]
      unfold IsBin
      omega
theorem dig_len : ∀ (w n : Nat), n < 2 ^ (w + 1) → (binDigits n).length ≤ w + 1
  | 0, n, h => by
    rw [dig_lt (show n < 2 from h)]
    exact Nat.le_refl _
  | w + 1, n, h => by
    by_cases hn : 2 ≤ n
    · have ih := dig_len w (n / 2) (by rw [Nat.pow_succ] at h; omega)
      rw [dig_ge hn, List.length_append, List.length_singleton]
      omega
    · rw [dig_lt (by omega)]
      show 1 ≤ _
      omega
theorem zfill_bin {ds : List Nat} {w : Nat} (hd : ∀ c ∈ ds, IsBin c) : Txt.zfill (S ds) (w : Int) = S (pad w ds) := by
  unfold Txt.zfill pad
  rw [S_len]
  by_cases h : (w : Int) ≤ (ds.length : Int)
  · rw [if_pos h]
    have e : w - ds.length = 0 := by omega
    rw [e]
    rfl
  · rw [if_neg h]
    have e : (w : Int).toNat - ds.length = w - ds.length := by omega
    rw [e]
    have z : PySem.zfilled (S ds) (w - ds.length) = Builtin.Str.padded (S ds) (w - ds.length) 0 48 := by
      unfold PySem.zfilled
      rw [S_get]
      cases ds with
      | nil => rfl
      | cons c r =>
        have hc := hd c (List.mem_cons_self ..)
        rcases hc with rfl | rfl <;> rfl
    rw [z]
    unfold Builtin.Str.padded
    show (⟨_⟩ : Str) = ⟨_⟩
    congr 1
    apply Array.toList_inj.mp
    simp [S]
/-- f'{n & (1 << w) - 1:b}'.zfill(w) -/
def tFmtB (te : TE) : TE := fun σ H Q => te σ H fun x H1 => ∃ n : Nat, x = .int (n : Int) ∧ (binDigits n).length ≤ 1000 ∧ Q (sv (binDigits n)) H1
theorem pe_fmtB {X : Cx} {e : Expr} {te : TE} {j : Nat} {p1 p2 p3 p4 : Pos} (he : PE X e te) : PE X (.JoinedStr [.FormattedValue e (-1) (some (.JoinedStr [.Constant (.str "b") j p1] p2)) p3] p4) (tFmtB te) := by
  refine pe_joined1 ⟨fun pins s σ H Q I h => ?_⟩
  refine wpAny_FormattedValue_spec (thn (he.run pins s σ H _ I h) fun v s1 ⟨x, H1, I1, r1, n, ex, hl, q⟩ => ?_)
  subst ex
  obtain ⟨t, rfl⟩ := r1
  refine thn ((pe_joined1 (X := X) (pos := p2) (pe_str (x := "b") (j := j) (pos := p1))).run pins s1 σ H1 (fun v H' => v = .str "b" ∧ H' = H1) I1 ⟨rfl, rfl⟩) fun v2 s2 ⟨y, H2, I2, r2, ey, eH⟩ => ?_
  subst ey eH
  obtain ⟨t2, rfl⟩ := r2
  exact ⟨_, t2, rfl, formatField_b hl ⟨sv (binDigits n), H2, I2.tok _, ⟨_, rfl⟩, q⟩⟩
section
variable {Ts : List Addr} {K : PySem.W.Frag} {w : World} {σ : L2.St} {H H0 H' : Hp} {ta tb te ti : TE}
theorem ev_fmtB {n : Nat} (h : Ev Ts te σ H (.int (n : Int))) (hl : (binDigits n).length ≤ 1000) : Ev Ts (tFmtB te) σ H (sv (binDigits n)) := fun H1 e Q q => h H1 e _ fun H2 e2 => ⟨n, rfl, hl, q H2 e2⟩
theorem ev_zfill {ds : List Nat} {n : Nat} (ho : Ev Ts ta σ H (sv ds)) (hn : Ev Ts tb σ H (.int (n : Nat))) (hd : ∀ c ∈ ds, IsBin c) (hp : n ≤ 1000) :
    Ev Ts (tBM K "str" (fun x xs H Q => ∃ (a : Str) (i : Int), x = .str a ∧ xs = [.int i] ∧ PadOk i = true ∧ Q (.str (Txt.zfill a i)) H) ta (tCons tb tNil)) σ H (sv (pad n ds)) := fun H1 e Q q =>
  ho H1 e _ fun H2 e2 => ⟨rfl, hn H2 (e.trans e2) _ fun H3 e3 => ⟨S ds, (n : Int), rfl, rfl, by
    unfold PadOk fitsSsize
    have z : (1000 : Nat) ≤ sizeLine := by decide
    rw [Bool.and_eq_true, Bool.not_eq_true', Bool.not_eq_true', Bool.or_eq_false_iff]
    exact ⟨⟨decide_eq_false (by omega), decide_eq_false (by omega)⟩, decide_eq_false (by omega)⟩, by
    rw [zfill_bin hd]
    exact q H3 (e2.trans e3)⟩⟩
theorem rv_andM {i : Int} {k : Nat} : RV Ts (fun x y H Q => ∃ (i : Int) (k : Nat), x = .int i ∧ y = .int (2 ^ k - 1) ∧ Q (.int (i % 2 ^ k)) H) (.int i) (.int (2 ^ k - 1)) H (.int (i % 2 ^ k)) := fun H1 e _ q => ⟨i, k, rfl, rfl, q H1 (Ex.refl e.good)⟩
theorem rv_oneShl {k : Nat} (h : k ≤ 134217727) : RV Ts (fun x y H Q => ∃ k : Nat, x = .int 1 ∧ y = .int (k : Int) ∧ k ≤ 134217727 ∧ Q (.int (2 ^ k)) H) (.int 1) (.int (k : Nat)) H (.int (2 ^ k)) := fun H1 e _ q => ⟨k, rfl, rfl, h, q H1 (Ex.refl e.good)⟩
end
end Cw
set_option Elab.async false
set_option linter.all false
set_option maxRecDepth 100000
set_option maxHeartbeats 2000000
/-! made lists handed on; pairs in a written list; parts of texts; numbers modulo a power of two -/
namespace Cw
open PySem PySem.Spec PyProof.Rows L2
section
variable {Ts : List Addr} {K : PySem.W.Frag} {w : World} {σ : L2.St} {H H0 H' : Hp} {ta tb te ti : TE} {t u : TT} {x y z v : V} {r : List V → Hp → VK → Prop}
theorem ev_cbN {R : HO} (h : EvN Ts te σ H R) (hr : ∀ p H1, Ex Ts H H1 → H1 p = some R → RC Ts r [.ref p] H1 z) : Ev Ts (tCB r (tCons te tNil)) σ H z := fun H1 e Q q =>
  h H1 e _ fun p H2 n e2 hp => hr p H2 (e.trans e2) hp H2 (Ex.refl e2.good) Q fun H3 e3 => q H3 (e2.trans e3)
theorem rc_all {p : Addr} {bs : List Bool} (g : Good Ts H) (h : SqL K H p (bs.map V.bl)) : RC Ts (rAll K) [.ref p] H (.bl (bs.all id)) := fun H1 e _ q => ⟨p, bs, rfl, e.l g h, q H1 (Ex.refl e.good)⟩
theorem rc_min {i j : Int} : RC Ts (fun xs H Q => ∃ i j, xs = [.int i, .int j] ∧ Q (.int (if j < i then j else i)) H) [.int i, .int j] H (.int (if j < i then j else i)) := fun H1 e _ q => ⟨i, j, rfl, q H1 (Ex.refl e.good)⟩
theorem rc_str {i : Int} {l : List Nat} (h : i.natAbs.log2 < 1920) (hl : V.str (toString i) = sv l) : RC Ts (fun xs H Q => ∃ i : Int, xs = [.int i] ∧ i.natAbs.log2 < 1920 ∧ Q (.str (toString i)) H) [.int i] H (sv l) := fun H1 e _ q => ⟨i, rfl, h, by
  rw [hl]
  exact q H1 (Ex.refl e.good)⟩
theorem str_bit {n : Nat} (h : n < 2) : V.str (toString (n : Int)) = sv [48 + n] := by
  have e : n = 0 ∨ n = 1 := by omega
  rcases e with rfl | rfl <;> rfl
theorem rc_strB {n : Nat} (h : n < 2) : RC Ts (fun xs H Q => ∃ i : Int, xs = [.int i] ∧ i.natAbs.log2 < 1920 ∧ Q (.str (toString i)) H) [.int (n : Int)] H (sv [48 + n]) := rc_str (by
  have e : n = 0 ∨ n = 1 := by omega
  rcases e with rfl | rfl <;> decide) (str_bit h)
theorem en_rev {xs : List V} (h : EvN Ts te σ H (.lst xs)) : EvN Ts (tRevL K te) σ H (.lst xs.reverse) := fun H1 e _ q => h H1 e _ fun a H2 n e2 ha =>
  ⟨a, xs, rfl, l_of ha, fun p hp => q p _ (e2.back hp) (e2.trans (Ex.new e2.good hp)) upd_same⟩
theorem en_is {R R' : HO} (h : EvN Ts te σ H R) (e : R = R') : EvN Ts te σ H R' := e ▸ h
/-- [e for k in range(n)] -/
theorem en_lcR {j n : Nat} {f : Nat → V} (hn : n ≤ 100000) (hi : Ev Ts ti σ H (.int (n : Nat))) (he : ∀ i, i < n → Ev Ts te ((wipe σ [j]).set j (some (.int (i : Nat)))) H (f i)) : EvN Ts (tLc (iRng1 (tCons ti tNil)) (gName j) tYes te [j]) σ H (.lst ((List.range n).map f)) := by
  refine en_lc (n := n) (by rw [List.length_map, List.length_range]) hn (walk_range (lo := 0) (n := n)) (fun H1 e R k => hi H1 e _ fun H2 e2 => ⟨(n : Int), rfl, by omega, by omega, ?_⟩) (fun _ _ => trivial) (fun i z hz H1 x H' e y => ?_)
  · have e0 : ((n : Int)).toNat = n := by omega
    rw [e0]
    exact k H2 e2
  · obtain ⟨rfl, rfl⟩ := y
    dsimp only at hz ⊢
    have hi : i < n := by
      have := (List.getElem?_eq_some_iff.mp hz).1
      rwa [List.length_map, List.length_range] at this
    rw [List.getElem?_map, List.getElem?_range hi] at hz
    obtain rfl := Option.some.inj hz
    refine ⟨_, Ex.refl e.good, fun Q q => q, wipe_one σ j _, ?_⟩
    rw [Int.zero_add]
    exact he i hi
/-! ### pairs in a written list -/
def IsPr (Ts : List Addr) (H : Hp) (r : V) (p : V × V) : Prop := ∃ a, r = .ref a ∧ a ∉ Ts ∧ H a = some (.tup [p.1, p.2])
inductive Prs (Ts : List Addr) (H : Hp) : List V → List (V × V) → Prop
  | nil : Prs Ts H [] []
  | cons {r : V} {rs : List V} {p : V × V} {ps : List (V × V)} : IsPr Ts H r p → Prs Ts H rs ps → Prs Ts H (r :: rs) (p :: ps)
theorem IsPr.mono {r : V} {p : V × V} (h : IsPr Ts H r p) (e : Ex Ts H H') : IsPr Ts H' r p := by
  obtain ⟨a, e1, n, e2⟩ := h
  exact ⟨a, e1, n, e.keep a _ n e2⟩
theorem Prs.mono {rs : List V} {ps : List (V × V)} (h : Prs Ts H rs ps) (e : Ex Ts H H') : Prs Ts H' rs ps := by
  induction h with
  | nil => exact .nil
  | cons a _ ih => exact .cons (a.mono e) ih
theorem Prs.len {rs : List V} {ps : List (V × V)} (h : Prs Ts H rs ps) : rs.length = ps.length := by
  induction h with
  | nil => rfl
  | cons _ _ ih => rw [List.length_cons, List.length_cons, ih]
theorem Prs.get {rs : List V} {ps : List (V × V)} (h : Prs Ts H rs ps) : ∀ {i : Nat} {r : V}, rs[i]? = some r → ∃ p, ps[i]? = some p ∧ IsPr Ts H r p := by
  induction h with
  | nil => exact fun e => by cases e
  | @cons r rs p ps a _ ih =>
    intro i r' e
    cases i with
    | zero =>
      cases e
      exact ⟨p, rfl, a⟩
    | succ i => exact ih e
def EvP (Ts : List Addr) (t : TA) (σ : L2.St) (H : Hp) (ps : List (V × V)) : Prop := ∀ H1, Ex Ts H H1 → ∀ Q : List V → Hp → Prop, (∀ rs H2, Ex Ts H1 H2 → Prs Ts H2 rs ps → Q rs H2) → t σ H1 Q
theorem ep_nil : EvP Ts tNil σ H [] := fun H1 e _ q => q [] H1 (Ex.refl e.good) .nil
theorem ep_cons {tr : TA} {ps : List (V × V)} (h : EvN Ts ta σ H (.tup [x, y])) (hr : EvP Ts tr σ H ps) : EvP Ts (tCons ta tr) σ H ((x, y) :: ps) := fun H1 e _ q =>
  h H1 e _ fun p H2 n e2 hp => hr H2 (e.trans e2) _ fun rs H3 e3 hrs => q _ H3 (e2.trans e3) (.cons (IsPr.mono ⟨p, rfl, e.good.free n, hp⟩ e3) hrs)
/-- for a, b in [(..), ..] -/
theorem st_forP {j k : Nat} {tr : TA} {ps : List (V × V)} {tb : TS} {D : Ends} (h : EvP Ts tr σ H0 ps) (hl : ps.length ≤ 1000) (e : Ex Ts H0 H) (Pv : Nat → L2.St → Prop) (h0 : Pv 0 σ)
    (hs : ∀ i p σ H1 (N : L2.St → Hp → Prop), ps[i]? = some p → Pv i σ → Ex Ts H0 H1 → (∀ σ2 H2, Ex Ts H1 H2 → Pv (i + 1) σ2 → N σ2 H2) → tb { D with nx := N, ct := N, bk := D.nx } ((σ.set j (some p.1)).set k (some p.2)) H1)
    (hd : ∀ σ H1, Ex Ts H0 H1 → Pv ps.length σ → D.nx σ H1) : tFor (iList K (tLst tr)) (gTup K 2 (gCons (gName j) (gCons (gName k) gNil))) tb D σ H := by
  refine h H e _ fun rs H2 e2 hrs => ⟨Nat.le_trans (by rw [hrs.len]; exact hl) (by decide), fun a na => ⟨a, rfl, ⟨rs, l_of upd_same⟩, ?_⟩⟩
  have nT : a ∉ Ts := e2.good.free na
  have e3 : Ex Ts H2 (upd H2 a (.lst rs)) := Ex.new e2.good na
  refine for_it (walk_list (K := K) (a := a) (xs := rs)) (fun i σ H => Ex Ts H0 H ∧ Ex Ts H2 H ∧ H a = some (.lst rs) ∧ Pv i σ) ⟨(e.trans e2).trans e3, e3, upd_same, h0⟩ (fun i σ H _ p => l_of p.2.2.1) (fun i x σ H3 H4 _ p y => ?_) (fun σ H3 p => ?_)
  · obtain ⟨rfl, hx⟩ := y
    obtain ⟨pr, hp, c, rfl, nc, hc⟩ := hrs.get hx
    refine ⟨c, [pr.1, pr.2], rfl, t_of (p.2.1.keep c _ nc hc), rfl, _, _, rfl, _, _, rfl, rfl, ?_⟩
    refine hs i pr σ _ _ hp p.2.2.2 p.1 fun σ2 H5 e5 p5 => ?_
    exact ⟨p.1.trans e5, p.2.1.trans e5, e5.keep a _ nT p.2.2.1, p5⟩
  · have q := p.2.2.2
    rw [hrs.len] at q
    exact hd σ H3 p.1 q
end
/-! ### parts of texts -/
theorem cutS_from {a : List Nat} {n : Nat} (h : n ≤ a.length) : cutS (S a) (some (n : Int)) none = S (a.drop n) := by
  unfold cutS
  rw [HT.sIx_none, HT.sIx_nat, S_list, S_len, Nat.min_eq_left h, List.take_of_length_le (Nat.le_of_eq (List.length_drop ..))]
  rfl
theorem cutS_to (a : List Nat) (n : Nat) : cutS (S a) none (some (n : Int)) = S (a.take n) := by
  unfold cutS
  rw [HT.sIx_none, HT.sIx_nat, S_list, S_len, Nat.sub_zero, List.drop_zero]
  by_cases h : n ≤ a.length
  · rw [Nat.min_eq_left h]
    rfl
  · rw [Nat.min_eq_right (by omega), List.take_of_length_le (Nat.le_refl _), List.take_of_length_le (by omega)]
    rfl
theorem cutS_last {a : List Nat} {k : Nat} (h0 : 1 ≤ k) (h : k ≤ a.length) : cutS (S a) (some (0 - (k : Int))) none = S (a.drop (a.length - k)) := by
  unfold cutS
  have e : HT.sIx (S a).length 0 (some (0 - (k : Int))) = a.length - k := by
    show (if (0 - (k : Int)) < 0 then ((0 - (k : Int)) + ((S a).length : Int)).toNat else min (0 - (k : Int)).toNat (S a).length) = _
    rw [if_pos (by omega), S_len]
    omega
  rw [e, HT.sIx_none, S_list, S_len, List.take_of_length_le (Nat.le_of_eq (List.length_drop ..))]
  rfl
/-! ### numbers modulo a power of two -/
def modW (w : Nat) (n : Int) : Nat := (n % (2 ^ w : Int)).toNat
theorem two_pos (w : Nat) : (0 : Int) < 2 ^ w := by
  rw [two_pow_cast]
  have := Nat.two_pow_pos w
  omega
theorem modW_cast (w : Nat) (n : Int) : n % (2 ^ w : Int) = ((modW w n : Nat) : Int) := by
  unfold modW
  have := Int.emod_nonneg n (Int.ne_of_gt (two_pos w))
  omega
theorem modW_lt (w : Nat) (n : Int) : modW w n < 2 ^ w := by
  have h := Int.emod_lt_of_pos n (two_pos w)
  rw [modW_cast, two_pow_cast] at h
  exact Int.ofNat_lt.mp h
/-- the vector of n modulo 2 ^ w -/
def lowB (w : Nat) (n : Int) : List Nat := bitsOf w (modW w n)
theorem lowB_len (w : Nat) (n : Int) : (lowB w n).length = w := bits_len w _
theorem lowB_vec {w : Nat} {n : Int} (h0 : 1 ≤ w) (h1 : w ≤ 64) : Vec (lowB w n) := bits_vec h0 h1
theorem lowB_pad {w : Nat} {n : Int} (h : 1 ≤ w) : pad w (binDigits (modW w n)) = lowB w n := by
  obtain ⟨k, rfl⟩ : ∃ k, w = k + 1 := ⟨w - 1, by omega⟩
  exact pad_bits k _ (modW_lt (k + 1) n)
theorem low_dig {w : Nat} {n : Int} (h : 1 ≤ w) (h1 : w ≤ 64) : (binDigits (modW w n)).length ≤ 1000 := by
  obtain ⟨k, rfl⟩ : ∃ k, w = k + 1 := ⟨w - 1, by omega⟩
  exact Nat.le_trans (dig_len k _ (modW_lt (k + 1) n)) (by omega)
theorem bit_cast (m i : Nat) : ((m : Int) / (2 ^ i : Int)) % 2 = ((m / 2 ^ i % 2 : Nat) : Int) := by
  rw [two_pow_cast]
  rfl
/-- the number that a vector writes: unknown bits count as 0 -/
def val (a : List Nat) : Nat := a.foldl (fun v c => 2 * v + if c = 49 then 1 else 0) 0
def kn (a : List Nat) : Bool := a.all fun c => decide (c ∈ [48, 49])
theorem kn_bin {a : List Nat} (h : kn a = true) : ∀ c ∈ a, IsBin c := fun c hc => by
  have z := of_decide_eq_true (List.all_eq_true.mp h c hc)
  unfold IsBin
  simpa using z
theorem val_eq {a : List Nat} (h : kn a = true) : binNum a = val a := by
  have hb := kn_bin h
  have aux : ∀ (l : List Nat) (v : Nat), (∀ c ∈ l, IsBin c) → l.foldl (fun a c => a * 2 + bv c) v = l.foldl (fun v c => 2 * v + if c = 49 then 1 else 0) v := by
    intro l
    induction l with
    | nil => intro v _; rfl
    | cons c r ih =>
      intro v hl
      rw [List.foldl_cons, List.foldl_cons, ih _ fun x hx => hl x (List.mem_cons_of_mem _ hx)]
      congr 1
      rcases hl c (List.mem_cons_self ..) with rfl | rfl
      · rw [if_neg (by decide)]
        unfold bv
        omega
      · rw [if_pos rfl]
        unfold bv
        omega
  exact aux a 0 hb
theorem val_lt (a : List Nat) : val a < 2 ^ a.length := by
  have aux : ∀ (l : List Nat) (v k : Nat), v < 2 ^ k → l.foldl (fun v c => 2 * v + if c = 49 then 1 else 0) v < 2 ^ (k + l.length) := by
    intro l
    induction l with
    | nil => intro v k h; exact h
    | cons c r ih =>
      intro v k h
      rw [List.foldl_cons, List.length_cons, show k + (r.length + 1) = (k + 1) + r.length by omega]
      refine ih _ (k + 1) ?_
      rw [Nat.pow_succ]
      split <;> omega
  have := aux a 0 0 (by decide)
  rwa [Nat.zero_add] at this
theorem val_le {a : List Nat} {n : Nat} (h : a.length ≤ n) : val a < 2 ^ n := Nat.lt_of_lt_of_le (val_lt a) (Nat.pow_le_pow_right (by decide) h)
theorem val_snoc {a : List Nat} {i c : Nat} (h : a[i]? = some c) : val (a.take (i + 1)) = 2 * val (a.take i) + if c = 49 then 1 else 0 := by
  unfold val
  rw [List.take_add_one, h, List.foldl_append]
  rfl
end Cw
set_option Elab.async false
set_option linter.all false
set_option maxRecDepth 100000
set_option maxHeartbeats 2000000
/-! what the laws draw; tests that are known; vectors known or not -/
namespace Cw
open PySem PySem.Spec PyProof.Rows L2
theorem max_wid (a b : List Nat) : (if (b.length : Int) > (a.length : Int) then (b.length : Int) else (a.length : Int)) = ((wid a b : Nat) : Int) := by
  unfold wid
  split <;> omega
theorem sv_one (a b : Nat) : decide (sv [a] = sv [b]) = decide (a = b) := by
  rw [sv_dec]
  by_cases h : a = b
  · rw [decide_eq_true h, h]
    exact decide_eq_true rfl
  · rw [decide_eq_false h]
    exact decide_eq_false fun q => h (List.cons.inj q).1
def sgn (pl : Bool) (z : Int) : Nat := if pl then [48, 49, 49, 48].getD z.toNat 0 else [48, 49, 120, 122].getD z.toNat 0
theorem sgn_isB {pl : Bool} {z : Int} (h0 : 0 ≤ z) (h1 : z < 4) : IsB (sgn pl z) := by
  have e : z = 0 ∨ z = 1 ∨ z = 2 ∨ z = 3 := by omega
  cases pl <;> rcases e with rfl | rfl | rfl | rfl <;> decide
theorem sgn_at {pl : Bool} {z : Int} (h0 : 0 ≤ z) (h1 : z < 4) : atI (if pl then [48, 49, 49, 48] else [48, 49, 120, 122]) z = some (sgn pl z) := by
  have e : z = 0 ∨ z = 1 ∨ z = 2 ∨ z = 3 := by omega
  cases pl <;> rcases e with rfl | rfl | rfl | rfl <;> rfl
def asSv (pl : Bool) : V → V
  | .int z => sv [sgn pl z]
  | _ => .non
theorem asSv_map (pl : Bool) (ms : List Int) : (ms.map V.int).map (asSv pl) = ms.map fun z => sv [sgn pl z] := by
  rw [List.map_map]
  rfl
theorem drop_ints (ns : List Int) (k : Int) : ∃ ms : List Int, cutV (ns.map V.int) (some k) none = ms.map V.int := by
  unfold cutV
  rw [← List.map_drop, ← List.map_take]
  exact ⟨_, rfl⟩
section
variable {Ts : List Addr}
theorem et_ne {σ : L2.St} {H : Hp} {ta tb : TE} {a b : List Nat} (ha : Ev Ts ta σ H (sv a)) (hb : Ev Ts tb σ H (sv b)) (e : a = b) : EvT Ts (tTest (tOp rNe ta tb)) σ H false := by
  subst e
  refine et_is (et_test (ev_op ha hb (rv_ne rfl))) ?_
  rw [decide_eq_true rfl]
  rfl
theorem ev_eqT {σ : L2.St} {H : Hp} {ta tb : TE} {a : List Nat} (ha : Ev Ts ta σ H (sv a)) (hb : Ev Ts tb σ H (sv a)) : Ev Ts (tOp rEq ta tb) σ H (.bl true) := by
  refine ev_is (ev_op ha hb (rv_eq rfl)) ?_
  rw [decide_eq_true rfl]
theorem st_par {σ : L2.St} {H H0 : Hp} {D : Ends} {ta tb : TE} {i j : Nat} {x y : V} (h1 : Ev Ts ta σ H0 x) (h2 : Ev Ts tb σ H0 y) (e : Ex Ts H0 H) (k : ∀ H2, Ex Ts H0 H2 → D.nx ((σ.set i (some x)).set j (some y)) H2) : tPar i j (tCons ta (tCons tb tNil)) D σ H :=
  (ea_cons h1 (ea_cons h2 ea_nil)) H e _ fun H2 e2 => ⟨x, y, rfl, k H2 (e.trans e2)⟩
theorem st_no {σ : L2.St} {H H0 : Hp} {D : Ends} {tc : TT} {t1 : TS} (h : EvT Ts tc σ H0 false) (e : Ex Ts H0 H) (k : ∀ H2, Ex Ts H0 H2 → D.nx σ H2) : tIfS tc t1 tNext D σ H := st_if h e (fun _ _ z => by cases z) fun H2 e2 _ => k H2 e2
end
/-- what is due: the low bits of n, or x -/
def dueB (k : Bool) (w : Nat) (n : Int) : List Nat := if k then lowB w n else List.replicate w 120
def truthB (k h : Bool) : List Nat := if k then (if h then [49] else [48]) else [120]
def bitB (h : Bool) : List Nat := if h then [49] else [48]
theorem dueB_len (k : Bool) (w : Nat) (n : Int) : (dueB k w n).length = w := by
  cases k
  · exact List.length_replicate
  · exact lowB_len w n
theorem truthB_vec (k h : Bool) : Vec (truthB k h) := by
  cases k <;> cases h <;> exact vec_one (by decide)
theorem bitB_int (h : Bool) : bitB h = [48 + (if h then 1 else 0)] := by
  cases h <;> rfl
theorem vec_ne {a : List Nat} (h : Vec a) : a ≠ [] := fun z => by
  have := h.pos
  rw [z] at this
  exact absurd this (by decide)
theorem not_t {b : Bool} (h : (!b) = true) : b = false := by
  cases b
  · rfl
  · cases h
theorem not_f {b : Bool} (h : (!b) = false) : b = true := by
  cases b
  · cases h
  · rfl
end Cw
set_option Elab.async false
set_option linter.all false
set_option maxRecDepth 100000
set_option maxHeartbeats 2000000
namespace K03
open PySem PySem.Spec PyProof.Rows L2 Cw
open GxR (TabG Tabbed TabB GenS)
def topS (i : Nat) : Stmt := PySem.Challenge.pw_clockwright_k03_arithmetic.main.body.getD i (.Pass ⟨0, 0, 0, 0⟩)
abbrev s_consists_of : Stmt := topS 2
theorem sc_consists_of : FnScope ["text", "characters"] ["text", "characters"] (defScope s_consists_of) := ⟨rfl, rfl, rfl, by decide +kernel, rfl, by decide +kernel, by decide +kernel⟩
abbrev s_extended : Stmt := topS 3
theorem sc_extended : FnScope ["vector", "width"] ["vector", "width"] (defScope s_extended) := ⟨rfl, rfl, rfl, by decide +kernel, rfl, by decide +kernel, by decide +kernel⟩
abbrev s_both_extended : Stmt := topS 4
theorem sc_both_extended : FnScope ["one", "two", "width"] ["one", "two"] (defScope s_both_extended) := ⟨rfl, rfl, rfl, by decide +kernel, rfl, by decide +kernel, by decide +kernel⟩
abbrev s_low_bits : Stmt := topS 5
theorem sc_low_bits : FnScope ["number", "width"] ["number", "width"] (defScope s_low_bits) := ⟨rfl, rfl, rfl, by decide +kernel, rfl, by decide +kernel, by decide +kernel⟩
abbrev s_bit : Stmt := topS 6
theorem sc_bit : FnScope ["holds"] ["holds"] (defScope s_bit) := ⟨rfl, rfl, rfl, by decide +kernel, rfl, by decide +kernel, by decide +kernel⟩
abbrev s_is_known : Stmt := topS 7
theorem sc_is_known : FnScope ["vector"] ["vector"] (defScope s_is_known) := ⟨rfl, rfl, rfl, by decide +kernel, rfl, by decide +kernel, by decide +kernel⟩
abbrev s_bit_not : Stmt := topS 8
theorem sc_bit_not : FnScope ["vector", "bit"] ["vector"] (defScope s_bit_not) := ⟨rfl, rfl, rfl, by decide +kernel, rfl, by decide +kernel, by decide +kernel⟩
abbrev s_both_known : Stmt := topS 9
theorem sc_both_known : FnScope ["one", "two"] ["one", "two"] (defScope s_both_known) := ⟨rfl, rfl, rfl, by decide +kernel, rfl, by decide +kernel, by decide +kernel⟩
abbrev s_negate : Stmt := topS 10
theorem sc_negate : FnScope ["vector"] ["vector"] (defScope s_negate) := ⟨rfl, rfl, rfl, by decide +kernel, rfl, by decide +kernel, by decide +kernel⟩
abbrev s_add : Stmt := topS 11
theorem sc_add : FnScope ["one", "two", "width"] ["one", "two"] (defScope s_add) := ⟨rfl, rfl, rfl, by decide +kernel, rfl, by decide +kernel, by decide +kernel⟩
abbrev s_subtract : Stmt := topS 12
theorem sc_subtract : FnScope ["one", "two", "width"] ["one", "two"] (defScope s_subtract) := ⟨rfl, rfl, rfl, by decide +kernel, rfl, by decide +kernel, by decide +kernel⟩
abbrev s_multiply : Stmt := topS 13
theorem sc_multiply : FnScope ["one", "two", "width"] ["one", "two"] (defScope s_multiply) := ⟨rfl, rfl, rfl, by decide +kernel, rfl, by decide +kernel, by decide +kernel⟩
abbrev s_less : Stmt := topS 14
theorem sc_less : FnScope ["one", "two"] ["one", "two"] (defScope s_less) := ⟨rfl, rfl, rfl, by decide +kernel, rfl, by decide +kernel, by decide +kernel⟩
abbrev s_less_equal : Stmt := topS 15
theorem sc_less_equal : FnScope ["one", "two"] ["one", "two"] (defScope s_less_equal) := ⟨rfl, rfl, rfl, by decide +kernel, rfl, by decide +kernel, by decide +kernel⟩
abbrev s_equal : Stmt := topS 16
theorem sc_equal : FnScope ["one", "two"] ["one", "two"] (defScope s_equal) := ⟨rfl, rfl, rfl, by decide +kernel, rfl, by decide +kernel, by decide +kernel⟩
abbrev s_not_equal : Stmt := topS 17
theorem sc_not_equal : FnScope ["one", "two"] ["one", "two"] (defScope s_not_equal) := ⟨rfl, rfl, rfl, by decide +kernel, rfl, by decide +kernel, by decide +kernel⟩
abbrev s_same : Stmt := topS 18
theorem sc_same : FnScope ["one", "two", "left", "right"] ["one", "two"] (defScope s_same) := ⟨rfl, rfl, rfl, by decide +kernel, rfl, by decide +kernel, by decide +kernel⟩
abbrev s_shift_left : Stmt := topS 19
theorem sc_shift_left : FnScope ["vector", "amount", "width", "places"] ["vector", "amount"] (defScope s_shift_left) := ⟨rfl, rfl, rfl, by decide +kernel, rfl, by decide +kernel, by decide +kernel⟩
abbrev s_shift_right : Stmt := topS 20
theorem sc_shift_right : FnScope ["vector", "amount", "width", "places"] ["vector", "amount"] (defScope s_shift_right) := ⟨rfl, rfl, rfl, by decide +kernel, rfl, by decide +kernel, by decide +kernel⟩
abbrev s_law_numbers : Stmt := topS 22
theorem sc_law_numbers : FnScope ["script", "base", "many", "numbers", "seed", "cell", "rest", "spin", "k"] ["script", "base", "many"] (defScope s_law_numbers) := ⟨rfl, rfl, rfl, by decide +kernel, rfl, by decide +kernel, by decide +kernel⟩
abbrev s_law_cell : Stmt := topS 23
theorem sc_law_cell : FnScope ["script", "k"] ["script", "k"] (defScope s_law_cell) := ⟨rfl, rfl, rfl, by decide +kernel, rfl, by decide +kernel, by decide +kernel⟩
abbrev s_law_vector : Stmt := topS 24
theorem sc_law_vector : FnScope ["numbers", "size", "plain", "signs", "number"] ["numbers", "size", "plain"] (defScope s_law_vector) := ⟨rfl, rfl, rfl, by decide +kernel, rfl, by decide +kernel, by decide +kernel⟩
abbrev s_law_known : Stmt := topS 25
theorem sc_law_known : FnScope ["vector", "sign"] ["vector"] (defScope s_law_known) := ⟨rfl, rfl, rfl, by decide +kernel, rfl, by decide +kernel, by decide +kernel⟩
abbrev s_law_value : Stmt := topS 26
theorem sc_law_value : FnScope ["vector", "value", "sign"] ["vector"] (defScope s_law_value) := ⟨rfl, rfl, rfl, by decide +kernel, rfl, by decide +kernel, by decide +kernel⟩
abbrev s_law_bits : Stmt := topS 27
theorem sc_law_bits : FnScope ["number", "width", "rest", "place"] ["number", "width"] (defScope s_law_bits) := ⟨rfl, rfl, rfl, by decide +kernel, rfl, by decide +kernel, by decide +kernel⟩
abbrev s_law_due : Stmt := topS 28
theorem sc_law_due : FnScope ["known", "number", "width"] ["known", "number", "width"] (defScope s_law_due) := ⟨rfl, rfl, rfl, by decide +kernel, rfl, by decide +kernel, by decide +kernel⟩
abbrev s_law_truth : Stmt := topS 29
theorem sc_law_truth : FnScope ["known", "holds"] ["known", "holds"] (defScope s_law_truth) := ⟨rfl, rfl, rfl, by decide +kernel, rfl, by decide +kernel, by decide +kernel⟩
abbrev s_law_left : Stmt := topS 30
theorem sc_law_left : FnScope ["vector", "amount"] ["vector", "amount"] (defScope s_law_left) := ⟨rfl, rfl, rfl, by decide +kernel, rfl, by decide +kernel, by decide +kernel⟩
abbrev s_law_right : Stmt := topS 31
theorem sc_law_right : FnScope ["vector", "amount"] ["vector", "amount"] (defScope s_law_right) := ⟨rfl, rfl, rfl, by decide +kernel, rfl, by decide +kernel, by decide +kernel⟩
abbrev s_law_sums_hold : Stmt := topS 32
theorem sc_law_sums_hold : FnScope ["one", "two", "width", "known", "a", "b"] ["one", "two"] (defScope s_law_sums_hold) := ⟨rfl, rfl, rfl, by decide +kernel, rfl, by decide +kernel, by decide +kernel⟩
abbrev s_law_orders_hold : Stmt := topS 33
theorem sc_law_orders_hold : FnScope ["one", "two", "known", "a", "b", "width", "alike"] ["one", "two"] (defScope s_law_orders_hold) := ⟨rfl, rfl, rfl, by decide +kernel, rfl, by decide +kernel, by decide +kernel⟩
abbrev s_law : Stmt := topS 34
theorem sc_law : FnScope ["script", "plain", "one", "two", "amount", "near", "left", "right"] ["script"] (defScope s_law) := ⟨rfl, rfl, rfl, by decide +kernel, rfl, by decide +kernel, by decide +kernel⟩
theorem lt_0 : ("0" : Str) = S [48] := rfl
theorem lt_b : ("b" : Str) = S [98] := rfl
theorem lt_1 : ("1" : Str) = S [49] := rfl
theorem lt_01 : ("01" : Str) = S [48, 49] := rfl
theorem lt_e : ("" : Str) = S [] := rfl
theorem lt_x : ("x" : Str) = S [120] := rfl
theorem lt_01xz : ("01xz" : Str) = S [48, 49, 120, 122] := rfl
theorem lt_0110 : ("0110" : Str) = S [48, 49, 49, 48] := rfl
structure Txt (mg : Str → Option Value) (K : PySem.W.Frag) (w : World) (pN : Addr) : Prop where
  len : mg "len" = none
  max : mg "max" = none
  min : mg "min" = none
  all : mg "all" = none
  range : mg "range" = none
  abs : mg "abs" = none
  int : mg "int" = none
  str : mg "str" = none
  g_NOT_BITS : mg "NOT_BITS" = some (.ref pN)
  tN : ∀ a, IsB a → KDct K w pN (S [a]) (sv [notB a])
end K03
set_option Elab.async false
set_option linter.all false
set_option maxRecDepth 100000
set_option maxHeartbeats 2000000
namespace K03
open PySem PySem.Spec PyProof.Rows L2 Cw
open GxR (TabG Tabbed TabB GenS)
local macro_rules | `(tactic| walk_at "ev") => `(tactic| first
  | exact ev_var rfl
  | exact ev_s lt_0 | exact ev_s lt_b | exact ev_s lt_1 | exact ev_s lt_01 | exact ev_s lt_e | exact ev_s lt_x | exact ev_s lt_01xz | exact ev_s lt_0110
  | exact ev_c
  | (apply ev_op <;> walk_at "ev")
  | exact rv_I0 | (refine rv_I ?_; first | omega | decide | assumption)
  | exact rv_eq rfl | exact rv_ne rfl | exact rv_inS | exact rv_niS
  | (refine rv_addS ?_; first | assumption | omega | decide)
  | (refine rv_mulS ?_ ?_ <;> first | assumption | omega | decide)
  | (apply ev_cb <;> walk_at "ev")
  | (refine rc_lenS ?_; first | assumption | omega | decide)
  | exact rc_max | exact rc_abs | exact rc_intI | exact rc_intB | exact rc_min
  | exact ea_nil
  | (apply ea_cons <;> walk_at "ev")
  | (apply et_and; walk_at "ev"; intro _; walk_at "ev")
  | (apply et_or; walk_at "ev"; intro _; walk_at "ev")
  | (apply et_not; walk_at "ev")
  | (apply et_test; walk_at "ev")
  | (apply et_B; walk_at "ev"))
section
variable {P : Program} {w : World} {K : PySem.W.Frag} {mg : Str → Option Value} {base : Heap} {pN : Addr} {Ts : List Addr}
abbrev sp_extended (K : PySem.W.Frag) (Ts : List Addr) : Sp := FnV Ts (fun x : List Nat × Nat => [sv x.1, .int (x.2 : Nat)]) (fun x => x.1.length ≤ 1000 ∧ x.2 ≤ 1000) fun x => sv (ext x.2 x.1)

theorem ok_extended {f : Addr} {fd : FuncData} (F : Fun K "_extended" "_extended" s_extended f fd) (T : Txt mg K w pN)  :
    FnOk P w K mg base CX0 1 f fd ["vector", "width"] (sp_extended K Ts) := by
  refine F.ok sc_extended (fun vs H Q E h => ?_) (fun cdv A outer s H vs Q E hr h => ?_)
  · obtain ⟨x, rfl, _⟩ := h
    rfl
  · obtain ⟨⟨a, n⟩, ev, hd, g, q⟩ := h
    replace ev : vs = [sv a, .int (n : Nat)] := ev
    subst ev
    have h1 : a.length ≤ 1000 := hd.1
    have h2 : n ≤ 1000 := hd.2
    refine ⟨_, (pss_one (ps_ret (pe_op op_add_str (pe_op op_mulS pe_str (pe_op op_sub (pv 1) (pe_callB call_len_str (by rfl) T.len PySem.boot_len (pa_cons (pv 0) pa_nil)))) (pv 0)))), ?_⟩
    refine st_ret (ev_is (v := sv (List.replicate ((n : Int) - (a.length : Int)).toNat 48 ++ a)) ?_ ?_) (Ex.refl g) q
    · refine ev_op (ev_op (ev_s lt_0) (ev_op (ev_var rfl) (ev_cb (ea_cons (ev_var rfl) ea_nil) (rc_lenS (by omega))) rv_I0) (rv_mulS (by omega) (by omega))) (ev_var rfl) (rv_addS ?_)
      rw [List.length_replicate]
      omega
    · show sv _ = sv (List.replicate (n - a.length) 48 ++ a)
      have e : ((n : Int) - (a.length : Int)).toNat = n - a.length := by omega
      rw [e]

abbrev sp_both_extended (K : PySem.W.Frag) (Ts : List Addr) : Sp := FnN Ts (fun x : List Nat × List Nat => [sv x.1, sv x.2]) (fun x _ => x.1.length ≤ 1000 ∧ x.2.length ≤ 1000) fun x => .tup [sv (exL x.1 x.2), sv (exR x.1 x.2)]

theorem ok_both_extended {f : Addr} {fd : FuncData} (F : Fun K "_both_extended" "_both_extended" s_both_extended f fd) (T : Txt mg K w pN) (C_extended : Callee P w K mg base "_extended" 1 ["vector", "width"] (sp_extended K Ts)) :
    FnOk P w K mg base CX0 2 f fd ["one", "two"] (sp_both_extended K Ts) := by
  refine F.ok sc_both_extended (fun vs H Q E h => ?_) (fun cdv A outer s H vs Q E hr h => ?_)
  · obtain ⟨x, rfl, _⟩ := h
    rfl
  · obtain ⟨⟨a, b⟩, ev, hd, g, q⟩ := h
    replace ev : vs = [sv a, sv b] := ev
    subst ev
    have h1 : a.length ≤ 1000 := hd.1
    have h2 : b.length ≤ 1000 := hd.2
    have hw : wid a b ≤ 1000 := Nat.max_le.mpr ⟨h1, h2⟩
    refine ⟨_, (pss_cons (ps_set (i := 2) sc_both_extended.nd rfl (.inl rfl) (pe_callB (call_max2 rfl) (by rfl) T.max (by decide +kernel) (pa_cons (pe_callB call_len_str (by rfl) T.len PySem.boot_len (pa_cons (pv 0) pa_nil)) (pa_cons (pe_callB call_len_str (by rfl) T.len PySem.boot_len (pa_cons (pv 1) pa_nil)) pa_nil))))
      (pss_one (ps_ret (pe_tup (pa_cons (pe_fn C_extended (hr.mono (by decide)) (by rfl) (pa_cons (pv 0) (pa_cons (pv 2) pa_nil))) (pa_cons (pe_fn C_extended (hr.mono (by decide)) (by rfl) (pa_cons (pv 1) (pa_cons (pv 2) pa_nil))) pa_nil)))))), ?_⟩
    refine st_set (v := .int (wid a b : Nat)) ?_ (Ex.refl g) ?_
    · refine ev_is ?_ (congrArg V.int (max_wid a b))
      walk_at "ev"
    intro H1 e1
    dsimp only
    refine st_retN (R := .tup [sv (exL a b), sv (exR a b)]) ?_ e1 ?_
    · refine en_tup (ea_cons (ev_call (a, wid a b) ?_ ⟨h1, hw⟩) (ea_cons (ev_call (b, wid a b) ?_ ⟨h2, hw⟩) ea_nil)) (by show 2 ≤ 100000; decide)
      · exact ea_cons (ev_var rfl) (ea_cons (ev_var rfl) ea_nil)
      · exact ea_cons (ev_var rfl) (ea_cons (ev_var rfl) ea_nil)
    · exact fun p H2 n _ e2 hp => q p H2 n e2 hp

abbrev sp_bit_not (K : PySem.W.Frag) (Ts : List Addr) : Sp := FnV Ts (fun a : List Nat => [sv a]) Vec fun a => sv (a.map notB)

theorem ok_bit_not {f : Addr} {fd : FuncData} (F : Fun K "bit_not" "bit_not" s_bit_not f fd) (T : Txt mg K w pN)  :
    FnOk P w K mg base CX0 1 f fd ["vector"] (sp_bit_not K Ts) := by
  refine F.ok sc_bit_not (fun vs H Q E h => ?_) (fun cdv A outer s H vs Q E hr h => ?_)
  · obtain ⟨x, rfl, _⟩ := h
    rfl
  · obtain ⟨a, ev, hd, g, q⟩ := h
    replace ev : vs = [sv a] := ev
    subst ev
    refine ⟨_, (pss_one (ps_ret (pe_bm PySem.F.plainAttrs_str PySem.F.slot_str_join PySem.F.type_str_join mt_join pe_str (pa_cons (pe_lc (own := [("bit", 1)]) (by rfl) sc_bit_not.nd (pi_str (pv 0)) (blkOk_by (own := [("bit", 1)]) (N := ["vector", "bit"]) (sc := defScope s_bit_not) (by decide +kernel)) (fun _ _ _ _ _ => pg_name (i := 1) sc_bit_not.nd rfl (Or.inl rfl)) (fun _ _ _ _ _ => pts_nil) (fun _ _ _ _ _ => (pe_ix (show IxR _ (rIxD K w) from ix_kdict) (pe_glob (v := .ref _) (by rfl) T.g_NOT_BITS rfl) (pv 1) (fun _ _ => rfl)))) pa_nil)))), ?_⟩
    refine st_ret (ev_is (v := sv (a.map fun c => [notB c]).flatten) ?_ (by rw [flat_one])) (Ex.refl g) q
    refine ev_join (ev_s lt_e) (ev_strs (K := K) notB a ?_) ?_ (fun _ => rfl)
    · refine en_lcS (Nat.le_trans hd.le (by decide)) (ev_var rfl) fun c hc => ?_
      exact ev_op ev_c (ev_var rfl) (rv_kd (T.tN c (hd.all c hc)))
    · rw [flat_one, List.length_map]
      exact Nat.le_trans hd.le (by decide)

abbrev sp_consists_of (K : PySem.W.Frag) (Ts : List Addr) : Sp := FnV Ts (fun x : List Nat × List Nat => [sv x.1, sv x.2]) (fun _ => True) fun x => .bl (x.1.all fun c => decide (c ∈ x.2))

def genSc : Stmt → Scope
  | .FunctionDef _ _ [.Return (some (.Call _ [.GeneratorExp _ _ sc _] _ _)) _] _ _ _ _ _ _ _ => sc
  | _ => { kind := .function, names := [], isGenerator := false, isCoroutine := false }
theorem free_consists_of : ∀ y ∈ (genSc s_consists_of).names, y.2 = .free → y.1 = ("characters" : Str) := by decide +kernel
theorem ok_consists_of {f c Pt : Addr} {oc : Value} {od an : Option Addr} {osl : Array (Option Value)} {kV doc pm ct : Value}
    (lk : K.lookup f = some ⟨oc, od, .func (PySem.W.fnOf "_consists_of" "_consists_of" (defArgs s_consists_of) (defBody s_consists_of) (defScope s_consists_of) .none kV doc pm an (.ref c) ct), osl⟩) (hcd : PySem.W.codeIn K (.ref c) "_consists_of" = true)
    (TB : TabB base mg c Pt) (hP : Pt ∈ Ts) (T : Txt mg K w pN) :
    FnOk P w K mg base CX0 1 f (PySem.W.fnOf "_consists_of" "_consists_of" (defArgs s_consists_of) (defBody s_consists_of) (defScope s_consists_of) .none kV doc pm an (.ref c) ct) ["text", "characters"] (sp_consists_of K Ts) := by
  refine fn_of (k := 0) lk hcd sc_consists_of (fun vs H Q E h => ?_) (fun A outer s H vs Q E hr h => ?_)
  · obtain ⟨x, rfl, _⟩ := h
    rfl
  · obtain ⟨⟨a, b⟩, ev, hd, g, q⟩ := h
    replace ev : vs = [sv a, sv b] := ev
    subst ev
    have hcode : (cxOf CX0 P w K mg base ["text", "characters"] "_consists_of" (defScope s_consists_of) f (.ref c) A outer s H E).nox.env.code = .ref c := rfl
    refine ⟨_, PSs.nox (pss_one (ps_ret (pe_allIn (j := 1) hr (by rfl) T.all (by decide +kernel) TB hcode (GenS.mk rfl rfl (by decide +kernel) rfl rfl (fun y hy e => ⟨_, by rw [free_consists_of y hy e]; rfl⟩)) (pv 0) rfl rfl (by decide +kernel) (by decide +kernel) (hs := fun _ => rfl)))), ?_⟩
    refine st_ret ?_ (Ex.refl g) q
    exact ev_allIn (b := b) hP rfl (ev_var rfl)


abbrev sp_is_known (K : PySem.W.Frag) (Ts : List Addr) : Sp := FnV Ts (fun a : List Nat => [sv a]) (fun _ => True) fun a => .bl (a.all fun c => decide (c ∈ [48, 49]))

theorem ok_is_known {f : Addr} {fd : FuncData} (F : Fun K "is_known" "is_known" s_is_known f fd) (T : Txt mg K w pN) (C_consists_of : Callee P w K mg base "_consists_of" 1 ["text", "characters"] (sp_consists_of K Ts)) :
    FnOk P w K mg base CX0 2 f fd ["vector"] (sp_is_known K Ts) := by
  refine F.ok sc_is_known (fun vs H Q E h => ?_) (fun cdv A outer s H vs Q E hr h => ?_)
  · obtain ⟨x, rfl, _⟩ := h
    rfl
  · obtain ⟨a, ev, hd, g, q⟩ := h
    replace ev : vs = [sv a] := ev
    subst ev
    refine ⟨_, (pss_one (ps_ret (pe_fn C_consists_of (hr.mono (by decide)) (by rfl) (pa_cons (pv 0) (pa_cons pe_str pa_nil))))), ?_⟩
    refine st_ret ?_ (Ex.refl g) q
    exact ev_call (a, [48, 49]) (ea_cons (ev_var rfl) (ea_cons (ev_s lt_01) ea_nil)) trivial

abbrev sp_law_cell (K : PySem.W.Frag) (Ts : List Addr) : Sp := FnL Ts (fun x : Addr × List Int × Nat => [.ref x.1, .int (x.2.2 : Nat)]) (fun x H => SqL K H x.1 (x.2.1.map V.int)) fun x => .int (x.2.1.getD x.2.2 0)

theorem ok_law_cell {f : Addr} {fd : FuncData} (F : Fun K "_law_cell" "_law_cell" s_law_cell f fd) (T : Txt mg K w pN)  :
    FnOk P w K mg base CX0 1 f fd ["script", "k"] (sp_law_cell K Ts) := by
  refine F.ok sc_law_cell (fun vs H Q E h => ?_) (fun cdv A outer s H vs Q E hr h => ?_)
  · obtain ⟨x, rfl, _⟩ := h
    rfl
  · obtain ⟨⟨a, ns, k⟩, ev, hd, g, q⟩ := h
    replace ev : vs = [.ref a, .int (k : Nat)] := ev
    subst ev
    have hS : SqL K H a (ns.map V.int) := hd
    refine ⟨_, (pss_cons (ps_if (pt_cmpR op_lt (pv 1) (pe_callB call_len_seq (by rfl) T.len PySem.boot_len (pa_cons (pv 0) pa_nil)) (nomark _))
      (pss_one (ps_ret (pe_ix ix_list (pv 0) (pv 1) (fun _ _ => rfl)))) pss_nil)
      (pss_one (ps_ret pe_int))), ?_⟩
    refine st_if (b := decide ((k : Int) < (ns.map V.int).length)) ?_ (Ex.refl g) ?_ ?_
    · exact et_test (ev_op (ev_var rfl) (ev_cb (ea_cons (ev_var rfl) ea_nil) (rc_lenL g hS)) rv_I0)
    · intro H1 e1 h
      have h1 := of_decide_eq_true h
      rw [List.length_map] at h1
      have h2 : k < ns.length := by omega
      refine st_ret (ev_op (ev_var rfl) (ev_var rfl) (rv_ixL g hS (atI_nat ?_))) e1 q
      show (ns.map V.int)[k]? = some (.int (ns.getD k 0))
      rw [List.getElem?_map, List.getD_eq_getElem?_getD, List.getElem?_eq_getElem h2]
      rfl
    intro H1 e1 h
    dsimp only [tNext]
    have h1 := of_decide_eq_false h
    rw [List.length_map] at h1
    have h2 : ns.length ≤ k := by omega
    refine st_ret (ev_is ev_c (congrArg V.int ?_)) e1 q
    show (0 : Int) = ns.getD k 0
    rw [List.getD_eq_getElem?_getD, List.getElem?_eq_none h2]
    rfl

abbrev sp_law_numbers (K : PySem.W.Frag) (Ts : List Addr) : Sp := FnS Ts (fun x : Addr × List Int × Nat × Nat => [.ref x.1, .int (x.2.2.1 : Nat), .int (x.2.2.2 : Nat)]) (fun x H => SqL K H x.1 (x.2.1.map V.int) ∧ 2 ≤ x.2.2.1 ∧ x.2.2.1 ≤ 1000000 ∧ x.2.2.2 ≤ 1000) fun x v H => ∃ p ms, v = .ref p ∧ H p = some (.lst (ms.map V.int)) ∧ ms.length = x.2.2.2 ∧ Below x.2.2.1 ms

theorem ok_law_numbers {f : Addr} {fd : FuncData} (F : Fun K "_law_numbers" "_law_numbers" s_law_numbers f fd) (T : Txt mg K w pN)  :
    FnOk P w K mg base CX0 1 f fd ["script", "base", "many"] (sp_law_numbers K Ts) := by
  refine F.ok sc_law_numbers (fun vs H Q E h => ?_) (fun cdv A outer s H vs Q E hr h => ?_)
  · obtain ⟨x, rfl, _⟩ := h
    rfl
  · obtain ⟨⟨a, ns, b, m⟩, ev, hd, g, q⟩ := h
    replace ev : vs = [.ref a, .int (b : Nat), .int (m : Nat)] := ev
    subst ev
    have hS : SqL K H a (ns.map V.int) := hd.1
    have hb : 2 ≤ b := hd.2.1
    have hb2 : b ≤ 1000000 := hd.2.2.1
    have hm : m ≤ 1000 := hd.2.2.2
    refine ⟨_, (pss_cons (ps_set (i := 3) sc_law_numbers.nd rfl (.inl rfl) (pe_lst pa_nil))
      (pss_cons (ps_set (i := 4) sc_law_numbers.nd rfl (.inl rfl) pe_int)
      (pss_cons (ps_for PassesOwn.never rfl (pi_list (pe_slice sl_list (pv 0) po_none (po_some pe_int))) (pg_name (i := 5) sc_law_numbers.nd rfl (.inl rfl))
      (pss_cons (ps_set (i := 6) sc_law_numbers.nd rfl (.inl rfl) (pe_callB call_abs (by rfl) T.abs (by decide +kernel) (pa_cons (pv 5) pa_nil)))
      (pss_cons (ps_set (i := 4) sc_law_numbers.nd rfl (.inl rfl) (pe_op op_mod (pe_callTy call_int1 (by rfl) T.int (by decide +kernel) (pa_cons (pe_op op_add (pe_op op_mul (pv 4) pe_int) (pv 6)) pa_nil)) pe_int))
      (pss_one (ps_for PassesOwn.never rfl (pi_range1 rfl T.range (pa_cons pe_int pa_nil)) (pg_name (i := 7) sc_law_numbers.nd rfl (.inl rfl))
      (pss_cons (ps_expr (pe_bm PySem.F.plainAttrs_list PySem.F.slot_list_append PySem.F.type_list_append mt_append (pv 3) (pa_cons (pe_op op_mod (pe_callTy call_int1 (by rfl) T.int (by decide +kernel) (pa_cons (pv 6) pa_nil)) (pv 1)) pa_nil)))
      (pss_cons (ps_set (i := 6) sc_law_numbers.nd rfl (.inl rfl) (pe_op op_fdiv (pv 6) (pv 1)))
      (pss_one (ps_if (pt_cmpR op_eq (pv 6) pe_int (nomark _))
      (pss_one ps_break) pss_nil)))))))))
      (pss_cons (ps_for PassesOwn.never rfl (pi_range1 rfl T.range (pa_cons (pv 2) pa_nil)) (pg_name (i := 8) sc_law_numbers.nd rfl (.inl rfl))
      (pss_cons (ps_set (i := 4) sc_law_numbers.nd rfl (.inl rfl) (pe_op op_mod (pe_callTy call_int1 (by rfl) T.int (by decide +kernel) (pa_cons (pe_op op_add (pe_op op_add (pe_op op_mul (pv 4) pe_int) pe_int) (pv 8)) pa_nil)) pe_int))
      (pss_one (ps_expr (pe_bm PySem.F.plainAttrs_list PySem.F.slot_list_append PySem.F.type_list_append mt_append (pv 3) (pa_cons (pe_op op_mod (pe_op op_fdiv (pv 4) pe_int) (pv 1)) pa_nil))))))
      (pss_one (ps_ret (pe_slice sl_list (pv 3) po_none (po_some (pv 2))))))))), ?_⟩
    -- numbers = []; seed = 7
    refine st_setN (R := .lst []) (en_lst ea_nil (Nat.zero_le _)) g ?_
    intro l H1 n0 e1 hl
    have nl : l ∉ Ts := g.free n0
    have e1l : ∀ H2, Ex Ts H1 H2 → H2 l = some (.lst []) := fun H2 e => e.keep l _ nl hl
    dsimp only
    refine st_set (v := .int 7) ev_c (Ex.refl e1.good) ?_
    intro H2 e2
    dsimp only
    have hl2 := e1l H2 e2
    -- for cell in script[:63]
    refine st_forN (K := K) (xs := cutV (ns.map V.int) none (some 63)) (en_slL g (ev_var rfl) eo_none (eo_some ev_c) hS) (e1.trans e2)
      (fun a' i σ H' => ∃ (ms : List Int) (seed : Int) (c r s : Option V), σ = [some (.ref a), some (.int (b : Nat)), some (.int (m : Nat)), some (.ref l), some (.int seed), c, r, s, none] ∧ Ex Ts H H' ∧
        H' l = some (.lst (ms.map V.int)) ∧ H' a' = some (.lst (cutV (ns.map V.int) none (some 63))) ∧ H a' = none ∧ a' ≠ l ∧ Below b ms ∧ ms.length ≤ 60 * i ∧ 0 ≤ seed ∧ seed < 2147483647) ?_ ?_ ?_ ?_
    · intro a' H3 na e3 ha
      have ne : a' ≠ l := fun q => by
        rw [q, hl2] at na
        cases na
      have b0 : Below b [] := fun z hz => absurd hz (by simp)
      exact ⟨[], 7, none, none, none, rfl, (e1.trans e2).trans e3, e3.keep l _ nl hl2, ha, (e1.trans e2).back na, ne, b0, Nat.zero_le _, by decide, by decide⟩
    · rintro a' i σ H3 ⟨ms, seed, c, r, s, _, _, _, h, _⟩
      exact h
    · rintro a' i x σ H3 N hx ⟨ms, seed, c, r, s, rfl, e3, h3l, h3a, na, ne, hB, hlen, s0, s1⟩ hN
      obtain ⟨n, rfl⟩ := cut_int (List.mem_of_getElem? hx)
      have nT : a' ∉ Ts := g.free na
      -- rest = abs(cell)
      refine st_set (v := .int (if n < 0 then -n else n)) (ev_cb (ea_cons (ev_var rfl) ea_nil) rc_abs) (Ex.refl e3.good) ?_
      intro H4 e4
      dsimp only
      have hr0 : 0 ≤ (if n < 0 then -n else n) := by split <;> omega
      generalize (if n < 0 then -n else n) = rest at hr0 ⊢
      -- seed = int(seed * 48271 + rest) % 2147483647
      refine st_set (v := .int ((seed * 48271 + rest) % 2147483647)) (ev_op (ev_cb (ea_cons (ev_op (ev_op (ev_var rfl) ev_c (rv_I (Or.inl ⟨by omega, by omega⟩))) (ev_var rfl) rv_I0) ea_nil) rc_intI) ev_c (rv_I (by decide))) (Ex.refl e4.good) ?_
      intro H5 e5
      dsimp only
      have q0 : 0 ≤ (seed * 48271 + rest) % 2147483647 := Int.emod_nonneg _ (by decide)
      have q1 : (seed * 48271 + rest) % 2147483647 < 2147483647 := Int.emod_lt_of_pos _ (by decide)
      generalize (seed * 48271 + rest) % 2147483647 = seed2 at q0 q1 ⊢
      have e35 : Ex Ts H3 H5 := e4.trans e5
      have h5l := e35.keep l _ nl h3l
      have h5a := e35.keep a' _ nT h3a
      -- for spin in range(60)
      refine st_forR (n := 60) ev_c (by decide) (Ex.refl e35.good)
        (fun k σ H' => ∃ (ms : List Int) (rest : Int) (s : Option V), σ = [some (.ref a), some (.int (b : Nat)), some (.int (m : Nat)), some (.ref l), some (.int seed2), some (.int n), some (.int rest), s, none] ∧ Ex Ts H H' ∧
          H' l = some (.lst (ms.map V.int)) ∧ H' a' = some (.lst (cutV (ns.map V.int) none (some 63))) ∧ Below b ms ∧ ms.length ≤ 60 * i + k ∧ 0 ≤ rest) ?_ ?_ ?_
      · intro H6 e6
        exact ⟨ms, rest, s, rfl, (e3.trans e35).trans e6, e6.keep l _ nl h5l, e6.keep a' _ nT h5a, hB, by omega, hr0⟩
      · rintro k σ H6 N2 hk ⟨ms, rest, s, rfl, e6, h6l, h6a, hB, hlen, r0⟩ hN2
        have hi : i < 63 := Nat.lt_of_lt_of_le (List.getElem?_eq_some_iff.mp hx).1 (cut_63 _)
        have m0 : 0 ≤ rest % (b : Int) := Int.emod_nonneg _ (by omega)
        have m1 : rest % (b : Int) < (b : Int) := Int.emod_lt_of_pos _ (by omega)
        refine st_app (y := .int (rest % (b : Int))) rfl h6l nl (ev_op (ev_cb (ea_cons (ev_var rfl) ea_nil) rc_intI) (ev_var rfl) (rv_I (by omega))) (Ex.refl e6.good) (by rw [List.length_map]; omega) ?_
        intro H7 e7 h7l
        dsimp only
        have eE : Ex Ts H (upd H7 l (.lst (ms.map V.int ++ [V.int (rest % (b : Int))]))) := (e6.trans e7).mut nl n0
        refine st_set (v := .int (rest / (b : Int))) (ev_op (ev_var rfl) (ev_var rfl) (rv_I ⟨by omega, by omega⟩)) (Ex.refl eE.good) ?_
        intro H8 e8
        dsimp only
        have r1 : 0 ≤ rest / (b : Int) := Int.ediv_nonneg r0 (by omega)
        have h8l : H8 l = some (.lst ((ms ++ [rest % (b : Int)]).map V.int)) := by
          rw [← map_snoc]
          exact e8.keep l _ nl upd_same
        have h8a : H8 a' = some (.lst (cutV (ns.map V.int) none (some 63))) := e8.keep a' _ nT (by rw [upd_ne ne]; exact e7.keep a' _ nT h6a)
        have hB8 : Below b (ms ++ [rest % (b : Int)]) := below_snoc hB m0 m1
        have hl8 : (ms ++ [rest % (b : Int)]).length ≤ 60 * i + (k + 1) := by
          rw [List.length_append, List.length_singleton]
          omega
        refine st_if (b := decide (V.int (rest / (b : Int)) = V.int 0)) (et_test (ev_op (ev_var rfl) ev_c (rv_eq rfl))) (Ex.refl e8.good) ?_ ?_
        · intro H9 e9 _
          exact hN _ _ ⟨_, _, _, _, _, rfl, (eE.trans e8).trans e9, e9.keep l _ nl h8l, e9.keep a' _ nT h8a, na, ne, hB8, by omega, q0, q1⟩
        · intro H9 e9 _
          exact hN2 _ _ ⟨_, _, _, rfl, (eE.trans e8).trans e9, e9.keep l _ nl h8l, e9.keep a' _ nT h8a, hB8, hl8, r1⟩
      · rintro σ H6 ⟨ms, rest, s, rfl, e6, h6l, h6a, hB, hlen, r0⟩
        exact hN _ _ ⟨_, _, _, _, _, rfl, e6, h6l, h6a, na, ne, hB, by omega, q0, q1⟩
    · rintro a' σ H3 ⟨ms, seed, c, r, s, rfl, e3, h3l, h3a, na, ne, hB, hlen, s0, s1⟩
      have h63 : ms.length ≤ 3780 := by
        have := cut_63 (ns.map V.int)
        omega
      -- for k in range(many)
      refine st_forR (n := m) (ev_var rfl) (by omega) (Ex.refl e3.good)
        (fun k σ H' => ∃ (ms : List Int) (seed : Int) (z : Option V), σ = [some (.ref a), some (.int (b : Nat)), some (.int (m : Nat)), some (.ref l), some (.int seed), c, r, s, z] ∧ Ex Ts H H' ∧
          H' l = some (.lst (ms.map V.int)) ∧ Below b ms ∧ k ≤ ms.length ∧ ms.length ≤ 3780 + k ∧ 0 ≤ seed ∧ seed < 2147483647) ?_ ?_ ?_
      · intro H4 e4
        exact ⟨ms, seed, none, rfl, e3.trans e4, e4.keep l _ nl h3l, hB, Nat.zero_le _, by omega, s0, s1⟩
      · rintro k σ H4 N hk ⟨ms, seed, z, rfl, e4, h4l, hB, hlo, hhi, s0, s1⟩ hN
        refine st_set (v := .int ((seed * 16807 + 12345 + (k : Int)) % 2147483647)) (ev_op (ev_cb (ea_cons (ev_op (ev_op (ev_op (ev_var rfl) ev_c (rv_I (Or.inl ⟨by omega, by omega⟩))) ev_c rv_I0) (ev_var rfl) rv_I0) ea_nil) rc_intI) ev_c (rv_I (by decide))) (Ex.refl e4.good) ?_
        intro H5 e5
        dsimp only
        have q0 : 0 ≤ (seed * 16807 + 12345 + (k : Int)) % 2147483647 := Int.emod_nonneg _ (by decide)
        have q1 : (seed * 16807 + 12345 + (k : Int)) % 2147483647 < 2147483647 := Int.emod_lt_of_pos _ (by decide)
        generalize (seed * 16807 + 12345 + (k : Int)) % 2147483647 = seed2 at q0 q1 ⊢
        have m0 : 0 ≤ seed2 / 64 % (b : Int) := Int.emod_nonneg _ (by omega)
        have m1 : seed2 / 64 % (b : Int) < (b : Int) := Int.emod_lt_of_pos _ (by omega)
        refine st_app (y := .int (seed2 / 64 % (b : Int))) rfl (e5.keep l _ nl h4l) nl (ev_op (ev_op (ev_var rfl) ev_c (rv_I ⟨by decide, by decide⟩)) (ev_var rfl) (rv_I (by omega))) (Ex.refl e5.good) (by rw [List.length_map]; omega) ?_
        intro H6 e6 h6l
        refine hN _ _ ⟨ms ++ [seed2 / 64 % (b : Int)], seed2, _, rfl, ((e4.trans e5).trans e6).mut nl n0, ?_, below_snoc hB m0 m1, ?_, ?_, q0, q1⟩
        · rw [upd_same, map_snoc]
        · rw [List.length_append, List.length_singleton]
          omega
        · rw [List.length_append, List.length_singleton]
          omega
      · rintro σ H4 ⟨ms, seed, z, rfl, e4, h4l, hB, hlo, hhi, s0, s1⟩
        -- return numbers[:many]
        refine st_retN (R := .lst (cutV (ms.map V.int) none (some (m : Int)))) (en_slL (K := K) e4.good (ev_var rfl) eo_none (eo_some (ev_var rfl)) (l_of h4l)) (Ex.refl e4.good) ?_
        intro p H5 _ _ e5 hp
        rw [cut_to (by rw [List.length_map]; exact hlo), ← List.map_take] at hp
        refine q (.ref p) H5 (e4.trans e5) ⟨p, ms.take m, rfl, hp, ?_, fun x hx => hB x (List.mem_of_mem_take hx)⟩
        show (ms.take m).length = m
        rw [List.length_take]
        omega

abbrev sp_law_vector (K : PySem.W.Frag) (Ts : List Addr) : Sp := FnL Ts (fun x : Addr × List Int × Nat × Bool => [.ref x.1, .int (x.2.2.1 : Nat), .bl x.2.2.2]) (fun x H => SqL K H x.1 (x.2.1.map V.int) ∧ Below 4 x.2.1 ∧ x.2.2.1 ≤ x.2.1.length ∧ x.2.2.1 ≤ 64) fun x => sv ((x.2.1.take x.2.2.1).map (sgn x.2.2.2))

theorem ok_law_vector {f : Addr} {fd : FuncData} (F : Fun K "_law_vector" "_law_vector" s_law_vector f fd) (T : Txt mg K w pN)  :
    FnOk P w K mg base CX0 1 f fd ["numbers", "size", "plain"] (sp_law_vector K Ts) := by
  refine F.ok sc_law_vector (fun vs H Q E h => ?_) (fun cdv A outer s H vs Q E hr h => ?_)
  · obtain ⟨x, rfl, _⟩ := h
    rfl
  · obtain ⟨⟨a, ms, n, pl⟩, ev, hd, g, q⟩ := h
    replace ev : vs = [.ref a, .int (n : Nat), .bl pl] := ev
    subst ev
    have hS : SqL K H a (ms.map V.int) := hd.1
    have hB : Below 4 ms := hd.2.1
    have hn : n ≤ ms.length := hd.2.2.1
    have hn2 : n ≤ 64 := hd.2.2.2
    refine ⟨_, (pss_cons (ps_set (i := 3) sc_law_vector.nd rfl (.inr rfl) pe_str)
      (pss_cons (ps_if (pt_val (pv 2))
      (pss_one (ps_set (i := 3) sc_law_vector.nd rfl (.inr rfl) pe_str)) pss_nil)
      (pss_one (ps_ret (pe_bm PySem.F.plainAttrs_str PySem.F.slot_str_join PySem.F.type_str_join mt_join pe_str (pa_cons (pe_lc (own := [("number", 4)]) (by rfl) sc_law_vector.nd (pi_list (pe_slice sl_list (pv 0) po_none (po_some (pv 1)))) (blkOk_by (own := [("number", 4)]) (N := ["numbers", "size", "plain", "signs", "number"]) (sc := defScope s_law_vector) (by decide +kernel)) (fun _ _ _ _ _ => pg_name (i := 4) sc_law_vector.nd rfl (Or.inl rfl)) (fun _ _ _ _ _ => pts_nil) (fun _ _ _ _ _ => (pe_ix ix_str (pv 3) (pv 4) (fun _ _ => rfl)))) pa_nil)))))), ?_⟩
    refine st_set (v := sv [48, 49, 120, 122]) (ev_s lt_01xz) (Ex.refl g) ?_
    intro H1 e1
    dsimp only
    have hm : ∀ z ∈ ms.take n, 0 ≤ z ∧ z < 4 := fun z hz => hB z (List.mem_of_mem_take hz)
    -- behind the if: signs as plain tells
    have fin : ∀ H2, Ex Ts H H2 → tRet (tBM K "str" (fun x xs H Q => ∃ a p, ∃ ys : List Str, x = .str a ∧ xs = [.ref p] ∧ (SqL K H p (ys.map V.str) ∨ SqT K H p (ys.map V.str)) ∧ (ys.map (·.length)).sum + ys.length * a.length ≤ 16777216 ∧ Q (.str (Txt.join a ys)) H) (tC (.str ""))
        (tCons (tLc (iList K (tSl (rSlL K) (tVar 0) tNoPart (tPart (tVar 1)))) (gName 4) tYes (tOp rIxS (tVar 3) (tVar 4)) [4]) tNil)) { nx := fun _ H' => Q .non H', rt := Q }
        [some (.ref a), some (.int (n : Nat)), some (.bl pl), some (sv (if pl then [48, 49, 49, 48] else [48, 49, 120, 122])), none] H2 := by
      intro H2 e2
      refine st_ret (ev_is (v := sv ((ms.take n).map fun z => [sgn pl z]).flatten) ?_ (congrArg sv (flat_one _ _))) e2 q
      refine ev_join (ev_s lt_e) (ev_strs (K := K) (sgn pl) _ ?_) ?_ (fun _ => rfl)
      · rw [← asSv_map]
        refine en_lcN (f := asSv pl) (by rw [List.length_map, List.length_take]; omega) ?_ ?_
        · rw [List.map_take, ← cut_to (by rw [List.length_map]; exact hn)]
          exact en_slL g (ev_var rfl) eo_none (eo_some (ev_var rfl)) hS
        · intro x hx
          obtain ⟨z, hz, rfl⟩ := List.mem_map.mp hx
          have hz2 := hm z hz
          refine ev_op (ev_var rfl) (ev_var rfl) (rv_ixS ?_ (sgn_at hz2.1 hz2.2))
          cases pl <;> decide
      · rw [flat_one, List.length_map, List.length_take]
        omega
    refine st_if (b := pl) (et_B (ev_var rfl)) e1 ?_ ?_
    · intro H2 e2 h
      subst h
      refine st_set (v := sv [48, 49, 49, 48]) (ev_s lt_0110) e2 ?_
      intro H3 e3
      exact fin H3 e3
    · intro H2 e2 h
      subst h
      exact fin H2 e2

end
end K03
set_option Elab.async false
set_option linter.all false
set_option maxRecDepth 100000
set_option maxHeartbeats 2000000
namespace K03
open PySem PySem.Spec PyProof.Rows L2 Cw
open GxR (TabG Tabbed TabB GenS)
local macro_rules | `(tactic| walk_at "ev") => `(tactic| first
  | exact ev_var rfl
  | exact ev_s lt_0 | exact ev_s lt_b | exact ev_s lt_1 | exact ev_s lt_01 | exact ev_s lt_e | exact ev_s lt_x | exact ev_s lt_01xz | exact ev_s lt_0110
  | exact ev_c
  | (apply ev_op <;> walk_at "ev")
  | exact rv_I0 | (refine rv_I ?_; first | omega | decide | assumption)
  | exact rv_eq rfl | exact rv_ne rfl | exact rv_inS | exact rv_niS
  | (refine rv_addS ?_; first | assumption | omega | decide)
  | (refine rv_mulS ?_ ?_ <;> first | assumption | omega | decide)
  | (apply ev_cb <;> walk_at "ev")
  | (refine rc_lenS ?_; first | assumption | omega | decide)
  | exact rc_max | exact rc_abs | exact rc_intI | exact rc_intB | exact rc_min
  | exact ea_nil
  | (apply ea_cons <;> walk_at "ev")
  | (apply et_and; walk_at "ev"; intro _; walk_at "ev")
  | (apply et_or; walk_at "ev"; intro _; walk_at "ev")
  | (apply et_not; walk_at "ev")
  | (apply et_test; walk_at "ev")
  | (apply et_B; walk_at "ev"))
section
variable {P : Program} {w : World} {K : PySem.W.Frag} {mg : Str → Option Value} {base : Heap} {pN : Addr} {Ts : List Addr}
abbrev sp_low_bits (K : PySem.W.Frag) (Ts : List Addr) : Sp := FnV Ts (fun x : Int × Nat => [.int x.1, .int (x.2 : Nat)]) (fun x => 1 ≤ x.2 ∧ x.2 ≤ 64) fun x => sv (lowB x.2 x.1)
theorem ok_low_bits {f : Addr} {fd : FuncData} (F : Fun K "_low_bits" "_low_bits" s_low_bits f fd) (T : Txt mg K w pN)  :
    FnOk P w K mg base CX0 1 f fd ["number", "width"] (sp_low_bits K Ts) := by
  refine F.ok sc_low_bits (fun vs H Q E h => ?_) (fun cdv A outer s H vs Q E hr h => ?_)
  · obtain ⟨x, rfl, _⟩ := h
    rfl
  · obtain ⟨⟨n, k⟩, ev, hd, g, q⟩ := h
    replace ev : vs = [.int n, .int (k : Nat)] := ev
    subst ev
    have h1 : 1 ≤ k := hd.1
    have h2 : k ≤ 64 := hd.2
    refine ⟨_, (pss_one (ps_ret (pe_bm PySem.F.plainAttrs_str PySem.F.slot_str_zfill PySem.F.type_str_zfill mt_zfill (pe_fmtB (pe_op op_andM (pv 0) (pe_op op_sub (pe_op op_oneShl pe_int (pv 1)) pe_int))) (pa_cons (pv 1) pa_nil)))), ?_⟩
    refine st_ret (v := sv (lowB k n)) ?_ (Ex.refl g) q
    rw [← lowB_pad h1]
    refine ev_zfill (ev_fmtB (ev_is (v := .int (n % 2 ^ k)) ?_ (congrArg V.int (modW_cast k n))) (low_dig h1 h2)) (ev_var rfl) (dig_bin _) (by omega)
    exact ev_op (ev_var rfl) (ev_op (ev_op ev_c (ev_var rfl) (rv_oneShl (by omega))) ev_c rv_I0) rv_andM

abbrev sp_bit (K : PySem.W.Frag) (Ts : List Addr) : Sp := FnV Ts (fun x : Bool => [.bl x]) (fun _ => True) fun x => sv (bitB x)
theorem ok_bit {f : Addr} {fd : FuncData} (F : Fun K "_bit" "_bit" s_bit f fd) (T : Txt mg K w pN)  :
    FnOk P w K mg base CX0 1 f fd ["holds"] (sp_bit K Ts) := by
  refine F.ok sc_bit (fun vs H Q E h => ?_) (fun cdv A outer s H vs Q E hr h => ?_)
  · obtain ⟨x, rfl, _⟩ := h
    rfl
  · obtain ⟨h, ev, hd, g, q⟩ := h
    replace ev : vs = [.bl h] := ev
    subst ev
    refine ⟨_, (pss_one (ps_ret (pe_ifExp (pt_val (pv 0)) pe_str pe_str))), ?_⟩
    refine st_ret (ev_if (b := h) (et_B (ev_var rfl)) (fun e => ?_) (fun e => ?_)) (Ex.refl g) q
    · subst e
      exact ev_s lt_1
    · subst e
      exact ev_s lt_0

abbrev sp_both_known (K : PySem.W.Frag) (Ts : List Addr) : Sp := FnV Ts (fun x : List Nat × List Nat => [sv x.1, sv x.2]) (fun x => True) fun x => .bl (kn x.1 && kn x.2)
theorem ok_both_known {f : Addr} {fd : FuncData} (F : Fun K "_both_known" "_both_known" s_both_known f fd) (T : Txt mg K w pN) (C_is_known : Callee P w K mg base "is_known" 2 ["vector"] (sp_is_known K Ts)) :
    FnOk P w K mg base CX0 3 f fd ["one", "two"] (sp_both_known K Ts) := by
  refine F.ok sc_both_known (fun vs H Q E h => ?_) (fun cdv A outer s H vs Q E hr h => ?_)
  · obtain ⟨x, rfl, _⟩ := h
    rfl
  · obtain ⟨⟨a, b⟩, ev, hd, g, q⟩ := h
    replace ev : vs = [sv a, sv b] := ev
    subst ev
    refine ⟨_, (pss_one (ps_ret (pe_and (pe_fn C_is_known (hr.mono (by decide)) (by rfl) (pa_cons (pv 0) pa_nil)) (pe_one (pe_fn C_is_known (hr.mono (by decide)) (by rfl) (pa_cons (pv 1) pa_nil)))))), ?_⟩
    refine st_ret ?_ (Ex.refl g) q
    exact ev_and (a := kn a) (b := kn b) (ev_call a (ea_cons (ev_var rfl) ea_nil) trivial) fun _ => ev_call b (ea_cons (ev_var rfl) ea_nil) trivial

abbrev sp_add (K : PySem.W.Frag) (Ts : List Addr) : Sp := FnV Ts (fun x : List Nat × List Nat => [sv x.1, sv x.2]) (fun x => Vec x.1 ∧ Vec x.2) fun x => sv (dueB (kn x.1 && kn x.2) (wid x.1 x.2) ((val x.1 : Int) + (val x.2 : Int)))
theorem ok_add {f : Addr} {fd : FuncData} (F : Fun K "add" "add" s_add f fd) (T : Txt mg K w pN) (C_low_bits : Callee P w K mg base "_low_bits" 1 ["number", "width"] (sp_low_bits K Ts)) (C_both_known : Callee P w K mg base "_both_known" 3 ["one", "two"] (sp_both_known K Ts)) :
    FnOk P w K mg base CX0 4 f fd ["one", "two"] (sp_add K Ts) := by
  refine F.ok sc_add (fun vs H Q E h => ?_) (fun cdv A outer s H vs Q E hr h => ?_)
  · obtain ⟨x, rfl, _⟩ := h
    rfl
  · obtain ⟨⟨a, b⟩, ev, hd, g, q⟩ := h
    replace ev : vs = [sv a, sv b] := ev
    subst ev
    have ha : Vec a := hd.1
    have hb : Vec b := hd.2
    have hw : wid a b ≤ 64 := wid_le ha.le hb.le
    have hw1 : 1 ≤ wid a b := Nat.le_trans ha.pos (Nat.le_max_left _ _)
    have hva : val a < 2 ^ 64 := val_le ha.le
    refine ⟨_, (pss_cons (ps_set (i := 2) sc_add.nd rfl (.inl rfl) (pe_callB (call_max2 rfl) (by rfl) T.max (by decide +kernel) (pa_cons (pe_callB call_len_str (by rfl) T.len PySem.boot_len (pa_cons (pv 0) pa_nil)) (pa_cons (pe_callB call_len_str (by rfl) T.len PySem.boot_len (pa_cons (pv 1) pa_nil)) pa_nil))))
      (pss_cons (ps_if (pt_not (pt_val (pe_fn C_both_known (hr.mono (by decide)) (by rfl) (pa_cons (pv 0) (pa_cons (pv 1) pa_nil)))))
      (pss_one (ps_ret (pe_op op_mulS pe_str (pv 2)))) pss_nil)
      (pss_one (ps_ret (pe_fn C_low_bits (hr.mono (by decide)) (by rfl) (pa_cons (pe_op op_add (pe_callTy call_int_bin (by rfl) T.int (by decide +kernel) (pa_cons (pv 0) (pa_cons pe_int pa_nil))) (pe_callTy call_int_bin (by rfl) T.int (by decide +kernel) (pa_cons (pv 1) (pa_cons pe_int pa_nil)))) (pa_cons (pv 2) pa_nil))))))), ?_⟩
    refine st_set (v := .int (wid a b : Nat)) ?_ (Ex.refl g) ?_
    · refine ev_is (v := .int (if (b.length : Int) > (a.length : Int) then (b.length : Int) else (a.length : Int))) ?_ (congrArg V.int (max_wid a b))
      exact ev_cb (ea_cons (ev_cb (ea_cons (ev_var rfl) ea_nil) (rc_lenS (Nat.le_trans ha.le (by decide)))) (ea_cons (ev_cb (ea_cons (ev_var rfl) ea_nil) (rc_lenS (Nat.le_trans hb.le (by decide)))) ea_nil)) rc_max
    intro H1 e1
    dsimp only
    refine st_if (b := !(kn a && kn b)) (et_not (et_B (ev_call (a, b) (ea_cons (ev_var rfl) (ea_cons (ev_var rfl) ea_nil)) trivial))) e1 ?_ ?_
    · intro H2 e2 h
      refine st_ret (ev_is (v := sv (List.replicate ((wid a b : Nat) : Int).toNat 120)) (ev_op (ev_s lt_x) (ev_var rfl) (rv_mulS (by omega) (by omega))) ?_) e2 q
      have hk : (kn a && kn b) = false := not_t h
      show _ = sv (dueB (kn a && kn b) _ _)
      rw [hk]
      rfl
    intro H2 e2 h
    dsimp only [tNext]
    have hk : (kn a && kn b) = true := not_f h
    have hka : kn a = true := (Bool.and_eq_true_iff.mp hk).1
    have hkb : kn b = true := (Bool.and_eq_true_iff.mp hk).2
    refine st_ret (v := sv (lowB (wid a b) ((val a : Int) + (val b : Int)))) ?_ e2 ?_
    · exact ev_call ((val a : Int) + (val b : Int), wid a b) (ea_cons (ev_op (ev_is (ev_cb (ea_cons (ev_var rfl) (ea_cons ev_c ea_nil)) (rc_bin (vec_ne ha) (Nat.le_trans ha.le (by decide)) (kn_bin hka))) (congrArg (fun n : Nat => V.int (n : Int)) (val_eq hka))) (ev_is (ev_cb (ea_cons (ev_var rfl) (ea_cons ev_c ea_nil)) (rc_bin (vec_ne hb) (Nat.le_trans hb.le (by decide)) (kn_bin hkb))) (congrArg (fun n : Nat => V.int (n : Int)) (val_eq hkb))) rv_I0) (ea_cons (ev_var rfl) ea_nil)) ⟨hw1, hw⟩
    · have e : dueB (kn a && kn b) (wid a b) ((val a : Int) + (val b : Int)) = lowB (wid a b) ((val a : Int) + (val b : Int)) := by
        rw [hk]
        rfl
      show ∀ H', Ex Ts H H' → Q (sv (lowB (wid a b) ((val a : Int) + (val b : Int)))) H'
      rw [← e]
      exact q

abbrev sp_subtract (K : PySem.W.Frag) (Ts : List Addr) : Sp := FnV Ts (fun x : List Nat × List Nat => [sv x.1, sv x.2]) (fun x => Vec x.1 ∧ Vec x.2) fun x => sv (dueB (kn x.1 && kn x.2) (wid x.1 x.2) ((val x.1 : Int) - (val x.2 : Int)))
theorem ok_subtract {f : Addr} {fd : FuncData} (F : Fun K "subtract" "subtract" s_subtract f fd) (T : Txt mg K w pN) (C_low_bits : Callee P w K mg base "_low_bits" 1 ["number", "width"] (sp_low_bits K Ts)) (C_both_known : Callee P w K mg base "_both_known" 3 ["one", "two"] (sp_both_known K Ts)) :
    FnOk P w K mg base CX0 4 f fd ["one", "two"] (sp_subtract K Ts) := by
  refine F.ok sc_subtract (fun vs H Q E h => ?_) (fun cdv A outer s H vs Q E hr h => ?_)
  · obtain ⟨x, rfl, _⟩ := h
    rfl
  · obtain ⟨⟨a, b⟩, ev, hd, g, q⟩ := h
    replace ev : vs = [sv a, sv b] := ev
    subst ev
    have ha : Vec a := hd.1
    have hb : Vec b := hd.2
    have hw : wid a b ≤ 64 := wid_le ha.le hb.le
    have hw1 : 1 ≤ wid a b := Nat.le_trans ha.pos (Nat.le_max_left _ _)
    have hva : val a < 2 ^ 64 := val_le ha.le
    refine ⟨_, (pss_cons (ps_set (i := 2) sc_subtract.nd rfl (.inl rfl) (pe_callB (call_max2 rfl) (by rfl) T.max (by decide +kernel) (pa_cons (pe_callB call_len_str (by rfl) T.len PySem.boot_len (pa_cons (pv 0) pa_nil)) (pa_cons (pe_callB call_len_str (by rfl) T.len PySem.boot_len (pa_cons (pv 1) pa_nil)) pa_nil))))
      (pss_cons (ps_if (pt_not (pt_val (pe_fn C_both_known (hr.mono (by decide)) (by rfl) (pa_cons (pv 0) (pa_cons (pv 1) pa_nil)))))
      (pss_one (ps_ret (pe_op op_mulS pe_str (pv 2)))) pss_nil)
      (pss_one (ps_ret (pe_fn C_low_bits (hr.mono (by decide)) (by rfl) (pa_cons (pe_op op_sub (pe_callTy call_int_bin (by rfl) T.int (by decide +kernel) (pa_cons (pv 0) (pa_cons pe_int pa_nil))) (pe_callTy call_int_bin (by rfl) T.int (by decide +kernel) (pa_cons (pv 1) (pa_cons pe_int pa_nil)))) (pa_cons (pv 2) pa_nil))))))), ?_⟩
    refine st_set (v := .int (wid a b : Nat)) ?_ (Ex.refl g) ?_
    · refine ev_is (v := .int (if (b.length : Int) > (a.length : Int) then (b.length : Int) else (a.length : Int))) ?_ (congrArg V.int (max_wid a b))
      exact ev_cb (ea_cons (ev_cb (ea_cons (ev_var rfl) ea_nil) (rc_lenS (Nat.le_trans ha.le (by decide)))) (ea_cons (ev_cb (ea_cons (ev_var rfl) ea_nil) (rc_lenS (Nat.le_trans hb.le (by decide)))) ea_nil)) rc_max
    intro H1 e1
    dsimp only
    refine st_if (b := !(kn a && kn b)) (et_not (et_B (ev_call (a, b) (ea_cons (ev_var rfl) (ea_cons (ev_var rfl) ea_nil)) trivial))) e1 ?_ ?_
    · intro H2 e2 h
      refine st_ret (ev_is (v := sv (List.replicate ((wid a b : Nat) : Int).toNat 120)) (ev_op (ev_s lt_x) (ev_var rfl) (rv_mulS (by omega) (by omega))) ?_) e2 q
      have hk : (kn a && kn b) = false := not_t h
      show _ = sv (dueB (kn a && kn b) _ _)
      rw [hk]
      rfl
    intro H2 e2 h
    dsimp only [tNext]
    have hk : (kn a && kn b) = true := not_f h
    have hka : kn a = true := (Bool.and_eq_true_iff.mp hk).1
    have hkb : kn b = true := (Bool.and_eq_true_iff.mp hk).2
    refine st_ret (v := sv (lowB (wid a b) ((val a : Int) - (val b : Int)))) ?_ e2 ?_
    · exact ev_call ((val a : Int) - (val b : Int), wid a b) (ea_cons (ev_op (ev_is (ev_cb (ea_cons (ev_var rfl) (ea_cons ev_c ea_nil)) (rc_bin (vec_ne ha) (Nat.le_trans ha.le (by decide)) (kn_bin hka))) (congrArg (fun n : Nat => V.int (n : Int)) (val_eq hka))) (ev_is (ev_cb (ea_cons (ev_var rfl) (ea_cons ev_c ea_nil)) (rc_bin (vec_ne hb) (Nat.le_trans hb.le (by decide)) (kn_bin hkb))) (congrArg (fun n : Nat => V.int (n : Int)) (val_eq hkb))) rv_I0) (ea_cons (ev_var rfl) ea_nil)) ⟨hw1, hw⟩
    · have e : dueB (kn a && kn b) (wid a b) ((val a : Int) - (val b : Int)) = lowB (wid a b) ((val a : Int) - (val b : Int)) := by
        rw [hk]
        rfl
      show ∀ H', Ex Ts H H' → Q (sv (lowB (wid a b) ((val a : Int) - (val b : Int)))) H'
      rw [← e]
      exact q

abbrev sp_multiply (K : PySem.W.Frag) (Ts : List Addr) : Sp := FnV Ts (fun x : List Nat × List Nat => [sv x.1, sv x.2]) (fun x => Vec x.1 ∧ Vec x.2) fun x => sv (dueB (kn x.1 && kn x.2) (wid x.1 x.2) ((val x.1 : Int) * (val x.2 : Int)))
theorem ok_multiply {f : Addr} {fd : FuncData} (F : Fun K "multiply" "multiply" s_multiply f fd) (T : Txt mg K w pN) (C_low_bits : Callee P w K mg base "_low_bits" 1 ["number", "width"] (sp_low_bits K Ts)) (C_both_known : Callee P w K mg base "_both_known" 3 ["one", "two"] (sp_both_known K Ts)) :
    FnOk P w K mg base CX0 4 f fd ["one", "two"] (sp_multiply K Ts) := by
  refine F.ok sc_multiply (fun vs H Q E h => ?_) (fun cdv A outer s H vs Q E hr h => ?_)
  · obtain ⟨x, rfl, _⟩ := h
    rfl
  · obtain ⟨⟨a, b⟩, ev, hd, g, q⟩ := h
    replace ev : vs = [sv a, sv b] := ev
    subst ev
    have ha : Vec a := hd.1
    have hb : Vec b := hd.2
    have hw : wid a b ≤ 64 := wid_le ha.le hb.le
    have hw1 : 1 ≤ wid a b := Nat.le_trans ha.pos (Nat.le_max_left _ _)
    have hva : val a < 2 ^ 64 := val_le ha.le
    refine ⟨_, (pss_cons (ps_set (i := 2) sc_multiply.nd rfl (.inl rfl) (pe_callB (call_max2 rfl) (by rfl) T.max (by decide +kernel) (pa_cons (pe_callB call_len_str (by rfl) T.len PySem.boot_len (pa_cons (pv 0) pa_nil)) (pa_cons (pe_callB call_len_str (by rfl) T.len PySem.boot_len (pa_cons (pv 1) pa_nil)) pa_nil))))
      (pss_cons (ps_if (pt_not (pt_val (pe_fn C_both_known (hr.mono (by decide)) (by rfl) (pa_cons (pv 0) (pa_cons (pv 1) pa_nil)))))
      (pss_one (ps_ret (pe_op op_mulS pe_str (pv 2)))) pss_nil)
      (pss_one (ps_ret (pe_fn C_low_bits (hr.mono (by decide)) (by rfl) (pa_cons (pe_op op_mul (pe_callTy call_int_bin (by rfl) T.int (by decide +kernel) (pa_cons (pv 0) (pa_cons pe_int pa_nil))) (pe_callTy call_int_bin (by rfl) T.int (by decide +kernel) (pa_cons (pv 1) (pa_cons pe_int pa_nil)))) (pa_cons (pv 2) pa_nil))))))), ?_⟩
    refine st_set (v := .int (wid a b : Nat)) ?_ (Ex.refl g) ?_
    · refine ev_is (v := .int (if (b.length : Int) > (a.length : Int) then (b.length : Int) else (a.length : Int))) ?_ (congrArg V.int (max_wid a b))
      exact ev_cb (ea_cons (ev_cb (ea_cons (ev_var rfl) ea_nil) (rc_lenS (Nat.le_trans ha.le (by decide)))) (ea_cons (ev_cb (ea_cons (ev_var rfl) ea_nil) (rc_lenS (Nat.le_trans hb.le (by decide)))) ea_nil)) rc_max
    intro H1 e1
    dsimp only
    refine st_if (b := !(kn a && kn b)) (et_not (et_B (ev_call (a, b) (ea_cons (ev_var rfl) (ea_cons (ev_var rfl) ea_nil)) trivial))) e1 ?_ ?_
    · intro H2 e2 h
      refine st_ret (ev_is (v := sv (List.replicate ((wid a b : Nat) : Int).toNat 120)) (ev_op (ev_s lt_x) (ev_var rfl) (rv_mulS (by omega) (by omega))) ?_) e2 q
      have hk : (kn a && kn b) = false := not_t h
      show _ = sv (dueB (kn a && kn b) _ _)
      rw [hk]
      rfl
    intro H2 e2 h
    dsimp only [tNext]
    have hk : (kn a && kn b) = true := not_f h
    have hka : kn a = true := (Bool.and_eq_true_iff.mp hk).1
    have hkb : kn b = true := (Bool.and_eq_true_iff.mp hk).2
    refine st_ret (v := sv (lowB (wid a b) ((val a : Int) * (val b : Int)))) ?_ e2 ?_
    · exact ev_call ((val a : Int) * (val b : Int), wid a b) (ea_cons (ev_op (ev_is (ev_cb (ea_cons (ev_var rfl) (ea_cons ev_c ea_nil)) (rc_bin (vec_ne ha) (Nat.le_trans ha.le (by decide)) (kn_bin hka))) (congrArg (fun n : Nat => V.int (n : Int)) (val_eq hka))) (ev_is (ev_cb (ea_cons (ev_var rfl) (ea_cons ev_c ea_nil)) (rc_bin (vec_ne hb) (Nat.le_trans hb.le (by decide)) (kn_bin hkb))) (congrArg (fun n : Nat => V.int (n : Int)) (val_eq hkb))) (rv_I (Or.inl ⟨by omega, by omega⟩))) (ea_cons (ev_var rfl) ea_nil)) ⟨hw1, hw⟩
    · have e : dueB (kn a && kn b) (wid a b) ((val a : Int) * (val b : Int)) = lowB (wid a b) ((val a : Int) * (val b : Int)) := by
        rw [hk]
        rfl
      show ∀ H', Ex Ts H H' → Q (sv (lowB (wid a b) ((val a : Int) * (val b : Int)))) H'
      rw [← e]
      exact q

abbrev sp_negate (K : PySem.W.Frag) (Ts : List Addr) : Sp := FnV Ts (fun a : List Nat => [sv a]) Vec fun a => sv (dueB (kn a) a.length (0 - (val a : Int)))
theorem ok_negate {f : Addr} {fd : FuncData} (F : Fun K "negate" "negate" s_negate f fd) (T : Txt mg K w pN) (C_subtract : Callee P w K mg base "subtract" 4 ["one", "two"] (sp_subtract K Ts)) :
    FnOk P w K mg base CX0 5 f fd ["vector"] (sp_negate K Ts) := by
  refine F.ok sc_negate (fun vs H Q E h => ?_) (fun cdv A outer s H vs Q E hr h => ?_)
  · obtain ⟨x, rfl, _⟩ := h
    rfl
  · obtain ⟨a, ev, hd, g, q⟩ := h
    replace ev : vs = [sv a] := ev
    subst ev
    refine ⟨_, (pss_one (ps_ret (pe_fn C_subtract (hr.mono (by decide)) (by rfl) (pa_cons pe_str (pa_cons (pv 0) pa_nil))))), ?_⟩
    refine st_ret ?_ (Ex.refl g) q
    have e : sv (dueB (kn [48] && kn a) (wid [48] a) ((val [48] : Int) - (val a : Int))) = sv (dueB (kn a) a.length (0 - (val a : Int))) := by
      have e1 : kn [48] = true := by decide
      have e2 : wid [48] a = a.length := Nat.max_eq_right hd.pos
      rw [e1, e2, Bool.true_and]
      rfl
    exact ev_is (ev_call ([48], a) (ea_cons (ev_s lt_0) (ea_cons (ev_var rfl) ea_nil)) ⟨vec_one (by decide), hd⟩) e

abbrev sp_less (K : PySem.W.Frag) (Ts : List Addr) : Sp := FnV Ts (fun x : List Nat × List Nat => [sv x.1, sv x.2]) (fun x => Vec x.1 ∧ Vec x.2) fun x => sv (truthB (kn x.1 && kn x.2) (decide ((val x.1 : Int) < (val x.2 : Int))))
theorem ok_less {f : Addr} {fd : FuncData} (F : Fun K "less" "less" s_less f fd) (T : Txt mg K w pN) (C_bit : Callee P w K mg base "_bit" 1 ["holds"] (sp_bit K Ts)) (C_both_known : Callee P w K mg base "_both_known" 3 ["one", "two"] (sp_both_known K Ts)) :
    FnOk P w K mg base CX0 4 f fd ["one", "two"] (sp_less K Ts) := by
  refine F.ok sc_less (fun vs H Q E h => ?_) (fun cdv A outer s H vs Q E hr h => ?_)
  · obtain ⟨x, rfl, _⟩ := h
    rfl
  · obtain ⟨⟨a, b⟩, ev, hd, g, q⟩ := h
    replace ev : vs = [sv a, sv b] := ev
    subst ev
    have ha : Vec a := hd.1
    have hb : Vec b := hd.2
    refine ⟨_, (pss_cons (ps_if (pt_not (pt_val (pe_fn C_both_known (hr.mono (by decide)) (by rfl) (pa_cons (pv 0) (pa_cons (pv 1) pa_nil)))))
      (pss_one (ps_ret pe_str)) pss_nil)
      (pss_one (ps_ret (pe_fn C_bit (hr.mono (by decide)) (by rfl) (pa_cons (pe_cmpR op_lt (pe_callTy call_int_bin (by rfl) T.int (by decide +kernel) (pa_cons (pv 0) (pa_cons pe_int pa_nil))) (pe_callTy call_int_bin (by rfl) T.int (by decide +kernel) (pa_cons (pv 1) (pa_cons pe_int pa_nil))) (nomark _)) pa_nil))))), ?_⟩
    refine st_if (b := !(kn a && kn b)) (et_not (et_B (ev_call (a, b) (ea_cons (ev_var rfl) (ea_cons (ev_var rfl) ea_nil)) trivial))) (Ex.refl g) ?_ ?_
    · intro H2 e2 h
      refine st_ret (ev_is (ev_s lt_x) ?_) e2 q
      have hk : (kn a && kn b) = false := not_t h
      show _ = sv (truthB (kn a && kn b) _)
      rw [hk]
      rfl
    intro H2 e2 h
    dsimp only [tNext]
    have hk : (kn a && kn b) = true := not_f h
    have hka : kn a = true := (Bool.and_eq_true_iff.mp hk).1
    have hkb : kn b = true := (Bool.and_eq_true_iff.mp hk).2
    refine st_ret (v := sv (bitB (decide ((val a : Int) < (val b : Int))))) ?_ e2 ?_
    · exact ev_call (decide ((val a : Int) < (val b : Int))) (ea_cons (ev_op (ev_is (ev_cb (ea_cons (ev_var rfl) (ea_cons ev_c ea_nil)) (rc_bin (vec_ne ha) (Nat.le_trans ha.le (by decide)) (kn_bin hka))) (congrArg (fun n : Nat => V.int (n : Int)) (val_eq hka))) (ev_is (ev_cb (ea_cons (ev_var rfl) (ea_cons ev_c ea_nil)) (rc_bin (vec_ne hb) (Nat.le_trans hb.le (by decide)) (kn_bin hkb))) (congrArg (fun n : Nat => V.int (n : Int)) (val_eq hkb))) rv_I0) ea_nil) trivial
    · have e : truthB (kn a && kn b) (decide ((val a : Int) < (val b : Int))) = bitB (decide ((val a : Int) < (val b : Int))) := by
        rw [hk]
        rfl
      show ∀ H', Ex Ts H H' → Q (sv (bitB (decide ((val a : Int) < (val b : Int))))) H'
      rw [← e]
      exact q

abbrev sp_less_equal (K : PySem.W.Frag) (Ts : List Addr) : Sp := FnV Ts (fun x : List Nat × List Nat => [sv x.1, sv x.2]) (fun x => Vec x.1 ∧ Vec x.2) fun x => sv (truthB (kn x.1 && kn x.2) (decide ((val x.1 : Int) ≤ (val x.2 : Int))))
theorem ok_less_equal {f : Addr} {fd : FuncData} (F : Fun K "less_equal" "less_equal" s_less_equal f fd) (T : Txt mg K w pN) (C_bit : Callee P w K mg base "_bit" 1 ["holds"] (sp_bit K Ts)) (C_both_known : Callee P w K mg base "_both_known" 3 ["one", "two"] (sp_both_known K Ts)) :
    FnOk P w K mg base CX0 4 f fd ["one", "two"] (sp_less_equal K Ts) := by
  refine F.ok sc_less_equal (fun vs H Q E h => ?_) (fun cdv A outer s H vs Q E hr h => ?_)
  · obtain ⟨x, rfl, _⟩ := h
    rfl
  · obtain ⟨⟨a, b⟩, ev, hd, g, q⟩ := h
    replace ev : vs = [sv a, sv b] := ev
    subst ev
    have ha : Vec a := hd.1
    have hb : Vec b := hd.2
    refine ⟨_, (pss_cons (ps_if (pt_not (pt_val (pe_fn C_both_known (hr.mono (by decide)) (by rfl) (pa_cons (pv 0) (pa_cons (pv 1) pa_nil)))))
      (pss_one (ps_ret pe_str)) pss_nil)
      (pss_one (ps_ret (pe_fn C_bit (hr.mono (by decide)) (by rfl) (pa_cons (pe_cmpR op_le (pe_callTy call_int_bin (by rfl) T.int (by decide +kernel) (pa_cons (pv 0) (pa_cons pe_int pa_nil))) (pe_callTy call_int_bin (by rfl) T.int (by decide +kernel) (pa_cons (pv 1) (pa_cons pe_int pa_nil))) (nomark _)) pa_nil))))), ?_⟩
    refine st_if (b := !(kn a && kn b)) (et_not (et_B (ev_call (a, b) (ea_cons (ev_var rfl) (ea_cons (ev_var rfl) ea_nil)) trivial))) (Ex.refl g) ?_ ?_
    · intro H2 e2 h
      refine st_ret (ev_is (ev_s lt_x) ?_) e2 q
      have hk : (kn a && kn b) = false := not_t h
      show _ = sv (truthB (kn a && kn b) _)
      rw [hk]
      rfl
    intro H2 e2 h
    dsimp only [tNext]
    have hk : (kn a && kn b) = true := not_f h
    have hka : kn a = true := (Bool.and_eq_true_iff.mp hk).1
    have hkb : kn b = true := (Bool.and_eq_true_iff.mp hk).2
    refine st_ret (v := sv (bitB (decide ((val a : Int) ≤ (val b : Int))))) ?_ e2 ?_
    · exact ev_call (decide ((val a : Int) ≤ (val b : Int))) (ea_cons (ev_op (ev_is (ev_cb (ea_cons (ev_var rfl) (ea_cons ev_c ea_nil)) (rc_bin (vec_ne ha) (Nat.le_trans ha.le (by decide)) (kn_bin hka))) (congrArg (fun n : Nat => V.int (n : Int)) (val_eq hka))) (ev_is (ev_cb (ea_cons (ev_var rfl) (ea_cons ev_c ea_nil)) (rc_bin (vec_ne hb) (Nat.le_trans hb.le (by decide)) (kn_bin hkb))) (congrArg (fun n : Nat => V.int (n : Int)) (val_eq hkb))) rv_I0) ea_nil) trivial
    · have e : truthB (kn a && kn b) (decide ((val a : Int) ≤ (val b : Int))) = bitB (decide ((val a : Int) ≤ (val b : Int))) := by
        rw [hk]
        rfl
      show ∀ H', Ex Ts H H' → Q (sv (bitB (decide ((val a : Int) ≤ (val b : Int))))) H'
      rw [← e]
      exact q

abbrev sp_equal (K : PySem.W.Frag) (Ts : List Addr) : Sp := FnV Ts (fun x : List Nat × List Nat => [sv x.1, sv x.2]) (fun x => Vec x.1 ∧ Vec x.2) fun x => sv (truthB (kn x.1 && kn x.2) (decide (V.int (val x.1 : Nat) = V.int (val x.2 : Nat))))
theorem ok_equal {f : Addr} {fd : FuncData} (F : Fun K "equal" "equal" s_equal f fd) (T : Txt mg K w pN) (C_bit : Callee P w K mg base "_bit" 1 ["holds"] (sp_bit K Ts)) (C_both_known : Callee P w K mg base "_both_known" 3 ["one", "two"] (sp_both_known K Ts)) :
    FnOk P w K mg base CX0 4 f fd ["one", "two"] (sp_equal K Ts) := by
  refine F.ok sc_equal (fun vs H Q E h => ?_) (fun cdv A outer s H vs Q E hr h => ?_)
  · obtain ⟨x, rfl, _⟩ := h
    rfl
  · obtain ⟨⟨a, b⟩, ev, hd, g, q⟩ := h
    replace ev : vs = [sv a, sv b] := ev
    subst ev
    have ha : Vec a := hd.1
    have hb : Vec b := hd.2
    refine ⟨_, (pss_cons (ps_if (pt_not (pt_val (pe_fn C_both_known (hr.mono (by decide)) (by rfl) (pa_cons (pv 0) (pa_cons (pv 1) pa_nil)))))
      (pss_one (ps_ret pe_str)) pss_nil)
      (pss_one (ps_ret (pe_fn C_bit (hr.mono (by decide)) (by rfl) (pa_cons (pe_cmpR op_eq (pe_callTy call_int_bin (by rfl) T.int (by decide +kernel) (pa_cons (pv 0) (pa_cons pe_int pa_nil))) (pe_callTy call_int_bin (by rfl) T.int (by decide +kernel) (pa_cons (pv 1) (pa_cons pe_int pa_nil))) (nomark _)) pa_nil))))), ?_⟩
    refine st_if (b := !(kn a && kn b)) (et_not (et_B (ev_call (a, b) (ea_cons (ev_var rfl) (ea_cons (ev_var rfl) ea_nil)) trivial))) (Ex.refl g) ?_ ?_
    · intro H2 e2 h
      refine st_ret (ev_is (ev_s lt_x) ?_) e2 q
      have hk : (kn a && kn b) = false := not_t h
      show _ = sv (truthB (kn a && kn b) _)
      rw [hk]
      rfl
    intro H2 e2 h
    dsimp only [tNext]
    have hk : (kn a && kn b) = true := not_f h
    have hka : kn a = true := (Bool.and_eq_true_iff.mp hk).1
    have hkb : kn b = true := (Bool.and_eq_true_iff.mp hk).2
    refine st_ret (v := sv (bitB (decide (V.int (val a : Nat) = V.int (val b : Nat))))) ?_ e2 ?_
    · exact ev_call (decide (V.int (val a : Nat) = V.int (val b : Nat))) (ea_cons (ev_op (ev_is (ev_cb (ea_cons (ev_var rfl) (ea_cons ev_c ea_nil)) (rc_bin (vec_ne ha) (Nat.le_trans ha.le (by decide)) (kn_bin hka))) (congrArg (fun n : Nat => V.int (n : Int)) (val_eq hka))) (ev_is (ev_cb (ea_cons (ev_var rfl) (ea_cons ev_c ea_nil)) (rc_bin (vec_ne hb) (Nat.le_trans hb.le (by decide)) (kn_bin hkb))) (congrArg (fun n : Nat => V.int (n : Int)) (val_eq hkb))) (rv_eq rfl)) ea_nil) trivial
    · have e : truthB (kn a && kn b) (decide (V.int (val a : Nat) = V.int (val b : Nat))) = bitB (decide (V.int (val a : Nat) = V.int (val b : Nat))) := by
        rw [hk]
        rfl
      show ∀ H', Ex Ts H H' → Q (sv (bitB (decide (V.int (val a : Nat) = V.int (val b : Nat))))) H'
      rw [← e]
      exact q

abbrev sp_not_equal (K : PySem.W.Frag) (Ts : List Addr) : Sp := FnV Ts (fun x : List Nat × List Nat => [sv x.1, sv x.2]) (fun x => Vec x.1 ∧ Vec x.2) fun x => sv (truthB (kn x.1 && kn x.2) (!decide (V.int (val x.1 : Nat) = V.int (val x.2 : Nat))))
theorem ok_not_equal {f : Addr} {fd : FuncData} (F : Fun K "not_equal" "not_equal" s_not_equal f fd) (T : Txt mg K w pN) (C_bit_not : Callee P w K mg base "bit_not" 1 ["vector"] (sp_bit_not K Ts)) (C_equal : Callee P w K mg base "equal" 4 ["one", "two"] (sp_equal K Ts)) :
    FnOk P w K mg base CX0 5 f fd ["one", "two"] (sp_not_equal K Ts) := by
  refine F.ok sc_not_equal (fun vs H Q E h => ?_) (fun cdv A outer s H vs Q E hr h => ?_)
  · obtain ⟨x, rfl, _⟩ := h
    rfl
  · obtain ⟨⟨a, b⟩, ev, hd, g, q⟩ := h
    replace ev : vs = [sv a, sv b] := ev
    subst ev
    refine ⟨_, (pss_one (ps_ret (pe_fn C_bit_not (hr.mono (by decide)) (by rfl) (pa_cons (pe_fn C_equal (hr.mono (by decide)) (by rfl) (pa_cons (pv 0) (pa_cons (pv 1) pa_nil))) pa_nil)))), ?_⟩
    refine st_ret (ev_is (ev_call (truthB (kn a && kn b) (decide (V.int (val a : Nat) = V.int (val b : Nat)))) (ea_cons (ev_call (a, b) (ea_cons (ev_var rfl) (ea_cons (ev_var rfl) ea_nil)) hd) ea_nil) (truthB_vec _ _)) (congrArg sv ?_)) (Ex.refl g) q
    generalize decide (V.int (val a : Nat) = V.int (val b : Nat)) = h
    generalize (kn a && kn b) = k
    cases k <;> cases h <;> rfl

abbrev sp_same (K : PySem.W.Frag) (Ts : List Addr) : Sp := FnV Ts (fun x : List Nat × List Nat => [sv x.1, sv x.2]) (fun x => Vec x.1 ∧ Vec x.2) fun x => sv (bitB (decide (sv (exL x.1 x.2) = sv (exR x.1 x.2))))
theorem ok_same {f : Addr} {fd : FuncData} (F : Fun K "same" "same" s_same f fd) (T : Txt mg K w pN) (C_both_extended : Callee P w K mg base "_both_extended" 2 ["one", "two"] (sp_both_extended K Ts)) (C_bit : Callee P w K mg base "_bit" 1 ["holds"] (sp_bit K Ts)) :
    FnOk P w K mg base CX0 3 f fd ["one", "two"] (sp_same K Ts) := by
  refine F.ok sc_same (fun vs H Q E h => ?_) (fun cdv A outer s H vs Q E hr h => ?_)
  · obtain ⟨x, rfl, _⟩ := h
    rfl
  · obtain ⟨⟨a, b⟩, ev, hd, g, q⟩ := h
    replace ev : vs = [sv a, sv b] := ev
    subst ev
    have ha : Vec a := hd.1
    have hb : Vec b := hd.2
    refine ⟨_, (pss_cons (ps_asg (pe_fn C_both_extended (hr.mono (by decide)) (by rfl) (pa_cons (pv 0) (pa_cons (pv 1) pa_nil))) (pg_tup rfl (pgs_cons (pg_name (i := 2) sc_same.nd rfl (.inl rfl)) (pgs_cons (pg_name (i := 3) sc_same.nd rfl (.inl rfl)) pgs_nil))))
      (pss_one (ps_ret (pe_fn C_bit (hr.mono (by decide)) (by rfl) (pa_cons (pe_cmpR op_eq (pv 2) (pv 3) (nomark _)) pa_nil))))), ?_⟩
    refine st_pair (x := sv (exL a b)) (y := sv (exR a b)) ?_ (Ex.refl g) ?_
    · exact en_call (a, b) (ea_cons (ev_var rfl) (ea_cons (ev_var rfl) ea_nil)) fun _ _ => ⟨Nat.le_trans ha.le (by decide), Nat.le_trans hb.le (by decide)⟩
    intro H1 e1
    dsimp only
    exact st_ret (ev_call (decide (sv (exL a b) = sv (exR a b))) (ea_cons (ev_op (ev_var rfl) (ev_var rfl) (rv_eq rfl)) ea_nil) trivial) e1 q

end
end K03
set_option Elab.async false
set_option linter.all false
set_option maxRecDepth 100000
set_option maxHeartbeats 2000000
namespace K03
open PySem PySem.Spec PyProof.Rows L2 Cw
open GxR (TabG Tabbed TabB GenS)
local macro_rules | `(tactic| walk_at "ev") => `(tactic| first
  | exact ev_var rfl
  | exact ev_s lt_0 | exact ev_s lt_b | exact ev_s lt_1 | exact ev_s lt_01 | exact ev_s lt_e | exact ev_s lt_x | exact ev_s lt_01xz | exact ev_s lt_0110
  | exact ev_c
  | (apply ev_op <;> walk_at "ev")
  | exact rv_I0 | (refine rv_I ?_; first | omega | decide | assumption)
  | exact rv_eq rfl | exact rv_ne rfl | exact rv_inS | exact rv_niS
  | (refine rv_addS ?_; first | assumption | omega | decide)
  | (refine rv_mulS ?_ ?_ <;> first | assumption | omega | decide)
  | (apply ev_cb <;> walk_at "ev")
  | (refine rc_lenS ?_; first | assumption | omega | decide)
  | exact rc_max | exact rc_abs | exact rc_intI | exact rc_intB | exact rc_min
  | exact ea_nil
  | (apply ea_cons <;> walk_at "ev")
  | (apply et_and; walk_at "ev"; intro _; walk_at "ev")
  | (apply et_or; walk_at "ev"; intro _; walk_at "ev")
  | (apply et_not; walk_at "ev")
  | (apply et_test; walk_at "ev")
  | (apply et_B; walk_at "ev"))
section
variable {P : Program} {w : World} {K : PySem.W.Frag} {mg : Str → Option Value} {base : Heap} {pN : Addr} {Ts : List Addr}
def shN (v i : List Nat) : Nat := min (val i) v.length
def shlB (v i : List Nat) : List Nat := if kn i then v.drop (shN v i) ++ List.replicate (shN v i) 48 else List.replicate v.length 120
def shrB (v i : List Nat) : List Nat := if kn i then List.replicate (shN v i) 48 ++ v.take (v.length - shN v i) else List.replicate v.length 120
theorem shN_min (v i : List Nat) : (if (v.length : Int) < ((val i : Nat) : Int) then (v.length : Int) else ((val i : Nat) : Int)) = ((shN v i : Nat) : Int) := by
  unfold shN
  split <;> omega
theorem shN_le (v i : List Nat) : shN v i ≤ v.length := Nat.min_le_right _ _
theorem shl_law {v i : List Nat} (h : kn i = true) : (v ++ List.replicate (val i) 48).drop ((v ++ List.replicate (val i) 48).length - v.length) = shlB v i := by
  unfold shlB
  rw [if_pos h]
  have e : (v ++ List.replicate (val i) 48).length - v.length = val i := by
    rw [List.length_append, List.length_replicate]
    omega
  rw [e]
  unfold shN
  by_cases hl : val i ≤ v.length
  · rw [Nat.min_eq_left hl, List.drop_append_of_le_length hl]
  · rw [Nat.min_eq_right (by omega), List.drop_of_length_le (Nat.le_refl v.length), List.drop_append, List.drop_of_length_le (show v.length ≤ val i by omega), List.drop_replicate]
    congr 2
    omega
theorem shr_law {v i : List Nat} (h : kn i = true) : (List.replicate (val i) 48 ++ v).take v.length = shrB v i := by
  unfold shrB
  rw [if_pos h]
  unfold shN
  by_cases hl : val i ≤ v.length
  · rw [Nat.min_eq_left hl, List.take_append, List.length_replicate, List.take_of_length_le (by rw [List.length_replicate]; exact hl)]
  · rw [Nat.min_eq_right (by omega), Nat.sub_self, List.take_zero, List.append_nil, List.take_append_of_le_length (by rw [List.length_replicate]; omega), List.take_replicate]
    congr 1
    omega

abbrev sp_shift_left (K : PySem.W.Frag) (Ts : List Addr) : Sp := FnV Ts (fun x : List Nat × List Nat => [sv x.1, sv x.2]) (fun x => Vec x.1 ∧ Vec x.2 ∧ x.2.length ≤ 8) fun x => sv (shlB x.1 x.2)
theorem ok_shift_left {f : Addr} {fd : FuncData} (F : Fun K "shift_left" "shift_left" s_shift_left f fd) (T : Txt mg K w pN) (C_is_known : Callee P w K mg base "is_known" 2 ["vector"] (sp_is_known K Ts)) :
    FnOk P w K mg base CX0 3 f fd ["vector", "amount"] (sp_shift_left K Ts) := by
  refine F.ok sc_shift_left (fun vs H Q E h => ?_) (fun cdv A outer s H vs Q E hr h => ?_)
  · obtain ⟨x, rfl, _⟩ := h
    rfl
  · obtain ⟨⟨a, b⟩, ev, hd, g, q⟩ := h
    replace ev : vs = [sv a, sv b] := ev
    subst ev
    have ha : Vec a := hd.1
    have hb : Vec b := hd.2.1
    have hb8 : b.length ≤ 8 := hd.2.2
    have hal : a.length ≤ 64 := ha.le
    have hvb : val b < 2 ^ 8 := val_le hb8
    have hsh : shN a b ≤ a.length := shN_le a b
    refine ⟨_, (pss_cons (ps_set (i := 2) sc_shift_left.nd rfl (.inl rfl) (pe_callB call_len_str (by rfl) T.len PySem.boot_len (pa_cons (pv 0) pa_nil)))
      (pss_cons (ps_if (pt_not (pt_val (pe_fn C_is_known (hr.mono (by decide)) (by rfl) (pa_cons (pv 1) pa_nil))))
      (pss_one (ps_ret (pe_op op_mulS pe_str (pv 2)))) pss_nil)
      (pss_cons (ps_set (i := 3) sc_shift_left.nd rfl (.inl rfl) (pe_callB (call_min2 rfl) (by rfl) T.min (by decide +kernel) (pa_cons (pe_callTy call_int_bin (by rfl) T.int (by decide +kernel) (pa_cons (pv 1) (pa_cons pe_int pa_nil))) (pa_cons (pv 2) pa_nil))))
      (pss_one (ps_ret (pe_op op_add_str (pe_slice sl_str (pv 0) (po_some (pv 3)) po_none) (pe_op op_mulS pe_str (pv 3)))))))), ?_⟩
    refine st_set (v := .int (a.length : Nat)) (ev_cb (ea_cons (ev_var rfl) ea_nil) (rc_lenS (Nat.le_trans ha.le (by decide)))) (Ex.refl g) ?_
    intro H1 e1
    dsimp only
    refine st_if (b := !(kn b)) (et_not (et_B (ev_call b (ea_cons (ev_var rfl) ea_nil) trivial))) e1 ?_ ?_
    · intro H2 e2 h
      refine st_ret (ev_is (v := sv (List.replicate ((a.length : Nat) : Int).toNat 120)) (ev_op (ev_s lt_x) (ev_var rfl) (rv_mulS (by omega) (by omega))) (congrArg sv ?_)) e2 q
      have hk : kn b = false := not_t h
      show _ = shlB a b
      unfold shlB
      rw [hk]
      rfl
    intro H2 e2 h
    dsimp only [tNext]
    have hkb : kn b = true := not_f h
    refine st_set (v := .int (shN a b : Nat)) ?_ e2 ?_
    · refine ev_is (v := .int (if (a.length : Int) < ((val b : Nat) : Int) then (a.length : Int) else ((val b : Nat) : Int))) ?_ (congrArg V.int (shN_min a b))
      exact ev_cb (ea_cons (ev_is (ev_cb (ea_cons (ev_var rfl) (ea_cons ev_c ea_nil)) (rc_bin (vec_ne hb) (Nat.le_trans hb.le (by decide)) (kn_bin hkb))) (congrArg (fun n : Nat => V.int (n : Int)) (val_eq hkb))) (ea_cons (ev_var rfl) ea_nil)) rc_min
    intro H3 e3
    dsimp only
    refine st_ret (ev_is (v := sv (a.drop (shN a b) ++ List.replicate ((shN a b : Nat) : Int).toNat 48)) ?_ ?_) e3 q
    · refine ev_op (ev_slS (Nat.le_trans hal (by decide)) (ev_var rfl) (eo_some (ev_var rfl)) eo_none (cutS_from (shN_le a b))) (ev_op (ev_s lt_0) (ev_var rfl) (rv_mulS (by omega) (by omega))) (rv_addS ?_)
      rw [List.length_drop, List.length_replicate]
      omega
    · refine congrArg sv ?_
      show _ = shlB a b
      unfold shlB
      rw [if_pos hkb]
      rfl

abbrev sp_shift_right (K : PySem.W.Frag) (Ts : List Addr) : Sp := FnV Ts (fun x : List Nat × List Nat => [sv x.1, sv x.2]) (fun x => Vec x.1 ∧ Vec x.2 ∧ x.2.length ≤ 8) fun x => sv (shrB x.1 x.2)
theorem ok_shift_right {f : Addr} {fd : FuncData} (F : Fun K "shift_right" "shift_right" s_shift_right f fd) (T : Txt mg K w pN) (C_is_known : Callee P w K mg base "is_known" 2 ["vector"] (sp_is_known K Ts)) :
    FnOk P w K mg base CX0 3 f fd ["vector", "amount"] (sp_shift_right K Ts) := by
  refine F.ok sc_shift_right (fun vs H Q E h => ?_) (fun cdv A outer s H vs Q E hr h => ?_)
  · obtain ⟨x, rfl, _⟩ := h
    rfl
  · obtain ⟨⟨a, b⟩, ev, hd, g, q⟩ := h
    replace ev : vs = [sv a, sv b] := ev
    subst ev
    have ha : Vec a := hd.1
    have hb : Vec b := hd.2.1
    have hb8 : b.length ≤ 8 := hd.2.2
    have hal : a.length ≤ 64 := ha.le
    have hvb : val b < 2 ^ 8 := val_le hb8
    have hsh : shN a b ≤ a.length := shN_le a b
    refine ⟨_, (pss_cons (ps_set (i := 2) sc_shift_right.nd rfl (.inl rfl) (pe_callB call_len_str (by rfl) T.len PySem.boot_len (pa_cons (pv 0) pa_nil)))
      (pss_cons (ps_if (pt_not (pt_val (pe_fn C_is_known (hr.mono (by decide)) (by rfl) (pa_cons (pv 1) pa_nil))))
      (pss_one (ps_ret (pe_op op_mulS pe_str (pv 2)))) pss_nil)
      (pss_cons (ps_set (i := 3) sc_shift_right.nd rfl (.inl rfl) (pe_callB (call_min2 rfl) (by rfl) T.min (by decide +kernel) (pa_cons (pe_callTy call_int_bin (by rfl) T.int (by decide +kernel) (pa_cons (pv 1) (pa_cons pe_int pa_nil))) (pa_cons (pv 2) pa_nil))))
      (pss_one (ps_ret (pe_op op_add_str (pe_op op_mulS pe_str (pv 3)) (pe_slice sl_str (pv 0) po_none (po_some (pe_op op_sub (pv 2) (pv 3)))))))))), ?_⟩
    refine st_set (v := .int (a.length : Nat)) (ev_cb (ea_cons (ev_var rfl) ea_nil) (rc_lenS (Nat.le_trans ha.le (by decide)))) (Ex.refl g) ?_
    intro H1 e1
    dsimp only
    refine st_if (b := !(kn b)) (et_not (et_B (ev_call b (ea_cons (ev_var rfl) ea_nil) trivial))) e1 ?_ ?_
    · intro H2 e2 h
      refine st_ret (ev_is (v := sv (List.replicate ((a.length : Nat) : Int).toNat 120)) (ev_op (ev_s lt_x) (ev_var rfl) (rv_mulS (by omega) (by omega))) (congrArg sv ?_)) e2 q
      have hk : kn b = false := not_t h
      show _ = shrB a b
      unfold shrB
      rw [hk]
      rfl
    intro H2 e2 h
    dsimp only [tNext]
    have hkb : kn b = true := not_f h
    refine st_set (v := .int (shN a b : Nat)) ?_ e2 ?_
    · refine ev_is (v := .int (if (a.length : Int) < ((val b : Nat) : Int) then (a.length : Int) else ((val b : Nat) : Int))) ?_ (congrArg V.int (shN_min a b))
      exact ev_cb (ea_cons (ev_is (ev_cb (ea_cons (ev_var rfl) (ea_cons ev_c ea_nil)) (rc_bin (vec_ne hb) (Nat.le_trans hb.le (by decide)) (kn_bin hkb))) (congrArg (fun n : Nat => V.int (n : Int)) (val_eq hkb))) (ea_cons (ev_var rfl) ea_nil)) rc_min
    intro H3 e3
    dsimp only
    refine st_ret (ev_is (v := sv (List.replicate ((shN a b : Nat) : Int).toNat 48 ++ a.take (a.length - shN a b))) ?_ ?_) e3 q
    · refine ev_op (ev_op (ev_s lt_0) (ev_var rfl) (rv_mulS (by omega) (by omega))) (ev_slS (Nat.le_trans hal (by decide)) (ev_var rfl) eo_none (eo_some (ev_is (v := .int ((a.length : Int) - (shN a b : Int))) (ev_op (ev_var rfl) (ev_var rfl) rv_I0) (congrArg V.int (show (a.length : Int) - (shN a b : Int) = ((a.length - shN a b : Nat) : Int) by omega)))) (cutS_to a _)) (rv_addS ?_)
      rw [List.length_take, List.length_replicate]
      omega
    · refine congrArg sv ?_
      show _ = shrB a b
      unfold shrB
      rw [if_pos hkb]
      rfl

abbrev sp_law_known (K : PySem.W.Frag) (Ts : List Addr) : Sp := FnV Ts (fun a : List Nat => [sv a]) (fun a => a.length ≤ 1000) fun a => .bl (kn a)
theorem ok_law_known {f : Addr} {fd : FuncData} (F : Fun K "_law_known" "_law_known" s_law_known f fd) (T : Txt mg K w pN)  :
    FnOk P w K mg base CX0 1 f fd ["vector"] (sp_law_known K Ts) := by
  refine F.ok sc_law_known (fun vs H Q E h => ?_) (fun cdv A outer s H vs Q E hr h => ?_)
  · obtain ⟨x, rfl, _⟩ := h
    rfl
  · obtain ⟨a, ev, hd, g, q⟩ := h
    replace ev : vs = [sv a] := ev
    subst ev
    refine ⟨_, (pss_one (ps_ret (pe_callB (cr_all rfl) (by rfl) T.all (by decide +kernel) (pa_cons (pe_lc (own := [("sign", 1)]) (by rfl) sc_law_known.nd (pi_str (pv 0)) (blkOk_by (own := [("sign", 1)]) (N := ["vector", "sign"]) (sc := defScope s_law_known) (by decide +kernel)) (fun _ _ _ _ _ => pg_name (i := 1) sc_law_known.nd rfl (Or.inl rfl)) (fun _ _ _ _ _ => pts_nil) (fun _ _ _ _ _ => (pe_cmpR op_in_sign (pv 1) pe_str rfl))) pa_nil)))), ?_⟩
    refine st_ret ?_ (Ex.refl g) q
    refine ev_cbN (R := .lst (a.map fun c => .bl (decide (c ∈ [48, 49])))) (en_lcS (Nat.le_trans hd (by decide)) (ev_var rfl) fun c hc => ev_op (ev_var rfl) (ev_s lt_01) rv_inS) fun p H1 e1 hp => ?_
    have z := rc_all (Ts := Ts) (K := K) (H := H1) (p := p) (bs := a.map fun c => decide (c ∈ [48, 49])) e1.good (l_of (by rw [hp, List.map_map]; rfl))
    rw [List.all_map] at z
    exact z

abbrev sp_law_value (K : PySem.W.Frag) (Ts : List Addr) : Sp := FnV Ts (fun a : List Nat => [sv a]) (fun a => a.length ≤ 1000) fun a => .int (val a : Nat)
theorem ok_law_value {f : Addr} {fd : FuncData} (F : Fun K "_law_value" "_law_value" s_law_value f fd) (T : Txt mg K w pN)  :
    FnOk P w K mg base CX0 1 f fd ["vector"] (sp_law_value K Ts) := by
  refine F.ok sc_law_value (fun vs H Q E h => ?_) (fun cdv A outer s H vs Q E hr h => ?_)
  · obtain ⟨x, rfl, _⟩ := h
    rfl
  · obtain ⟨a, ev, hd, g, q⟩ := h
    replace ev : vs = [sv a] := ev
    subst ev
    refine ⟨_, (pss_cons (ps_set (i := 1) sc_law_value.nd rfl (.inl rfl) pe_int)
      (pss_cons (ps_for PassesOwn.never rfl (pi_str (pv 0)) (pg_name (i := 2) sc_law_value.nd rfl (.inl rfl))
      (pss_one (ps_set (i := 1) sc_law_value.nd rfl (.inl rfl) (pe_op op_add (pe_op op_mul pe_int (pv 1)) (pe_callTy call_int1 (by rfl) T.int (by decide +kernel) (pa_cons (pe_cmpR op_eq (pv 2) pe_str (nomark _)) pa_nil))))))
      (pss_one (ps_ret (pv 1))))), ?_⟩
    refine st_set (v := .int (0 : Int)) ev_c (Ex.refl g) ?_
    intro H1 e1
    dsimp only
    refine st_forS (ev_var rfl) e1 (fun i σ => ∃ s, σ = [some (sv a), some (.int (val (a.take i) : Nat)), s]) ⟨none, rfl⟩ ?_ ?_
    · rintro i c σ H2 N B hc ⟨s, rfl⟩ e2 hN
      refine st_set (v := .int (val (a.take (i + 1)) : Nat)) ?_ e2 ?_
      · refine ev_is (v := .int (2 * ((val (a.take i) : Nat) : Int) + (if decide (sv [c] = sv [49]) = true then 1 else 0))) ?_ (congrArg V.int ?_)
        · exact ev_op (ev_op ev_c (ev_var rfl) (rv_I (Or.inl ⟨by decide, by decide⟩))) (ev_cb (ea_cons (ev_op (ev_var rfl) (ev_s lt_1) (rv_eq rfl)) ea_nil) rc_intB) rv_I0
        · rw [val_snoc hc, sv_one]
          by_cases h : c = 49
          · rw [if_pos h, if_pos (decide_eq_true h)]
            omega
          · rw [if_neg h, if_neg (by rw [decide_eq_true_eq]; exact h)]
            omega
      · intro H3 e3
        exact hN _ _ e3 ⟨_, rfl⟩
    · rintro σ H2 e2 ⟨s, rfl⟩
      refine st_ret (ev_is (ev_var rfl) ?_) e2 q
      rw [List.take_of_length_le (Nat.le_refl _)]

abbrev sp_law_bits (K : PySem.W.Frag) (Ts : List Addr) : Sp := FnV Ts (fun x : Int × Nat => [.int x.1, .int (x.2 : Nat)]) (fun x => 1 ≤ x.2 ∧ x.2 ≤ 64) fun x => sv (lowB x.2 x.1)
theorem ok_law_bits {f : Addr} {fd : FuncData} (F : Fun K "_law_bits" "_law_bits" s_law_bits f fd) (T : Txt mg K w pN)  :
    FnOk P w K mg base CX0 1 f fd ["number", "width"] (sp_law_bits K Ts) := by
  refine F.ok sc_law_bits (fun vs H Q E h => ?_) (fun cdv A outer s H vs Q E hr h => ?_)
  · obtain ⟨x, rfl, _⟩ := h
    rfl
  · obtain ⟨⟨n, k⟩, ev, hd, g, q⟩ := h
    replace ev : vs = [.int n, .int (k : Nat)] := ev
    subst ev
    have h1 : 1 ≤ k := hd.1
    have h2 : k ≤ 64 := hd.2
    refine ⟨_, (pss_cons (ps_set (i := 2) sc_law_bits.nd rfl (.inr rfl) (pe_op op_mod (pe_callTy call_int1 (by rfl) T.int (by decide +kernel) (pa_cons (pv 0) pa_nil)) (pe_op op_oneShl pe_int (pv 1))))
      (pss_one (ps_ret (pe_bm PySem.F.plainAttrs_str PySem.F.slot_str_join PySem.F.type_str_join mt_join pe_str (pa_cons (pe_revL (pe_lc (own := [("place", 3)]) (by rfl) sc_law_bits.nd (pi_range1 rfl T.range (pa_cons (pv 1) pa_nil)) (blkOk_by (own := [("place", 3)]) (N := ["number", "width", "rest", "place"]) (sc := defScope s_law_bits) (by decide +kernel)) (fun _ _ _ _ _ => pg_name (i := 3) sc_law_bits.nd rfl (Or.inl rfl)) (fun _ _ _ _ _ => pts_nil) (fun _ _ _ _ _ => (pe_callTy call_str_int (by rfl) T.str (by decide +kernel) (pa_cons (pe_op op_mod (pe_op op_fdivW (pv 2) (pe_op op_oneShl pe_int (pv 3))) pe_int) pa_nil))))) pa_nil))))), ?_⟩
    refine st_set (v := .int (modW k n : Nat)) ?_ (Ex.refl g) ?_
    · refine ev_is (v := .int (n % 2 ^ k)) ?_ (congrArg V.int (modW_cast k n))
      exact ev_op (ev_cb (ea_cons (ev_var rfl) ea_nil) rc_intI) (ev_op ev_c (ev_var rfl) (rv_oneShl (by omega))) (rv_I (two_pos k))
    intro H1 e1
    dsimp only
    generalize hm : modW k n = m
    refine st_ret (v := sv (((List.range k).reverse.map fun i => [48 + m / 2 ^ i % 2]).flatten)) ?_ e1 ?_
    · refine ev_join (ev_s lt_e) (ev_strs (K := K) (fun i => 48 + m / 2 ^ i % 2) (List.range k).reverse ?_) ?_ (fun _ => rfl)
      · rw [List.map_reverse]
        refine en_rev (en_lcR (by omega) (ev_var rfl) fun i hi => ?_)
        refine ev_cb (ea_cons (ev_is (v := .int (((m : Int) / (2 ^ i : Int)) % 2)) ?_ (congrArg V.int (bit_cast m i))) ea_nil) (rc_strB (by omega))
        refine ev_op (ev_op (ev_var rfl) (ev_op ev_c (ev_var rfl) (rv_oneShl (by omega))) (rv_I (wide_div (b := 65) (two_pos i) ?_ (by decide) (by decide)))) ev_c (rv_I (by decide))
        rw [two_pow_cast, Int.natAbs_natCast]
        exact Nat.pow_lt_pow_right (by decide) (by omega)
      · rw [flat_one, List.length_map, List.length_reverse, List.length_range]
        omega
    · rw [flat_one]
      have e : (List.range k).reverse.map (fun i => 48 + m / 2 ^ i % 2) = lowB k n := by
        unfold lowB bitsOf
        rw [hm, List.map_reverse]
      rw [e]
      exact q

abbrev sp_law_due (K : PySem.W.Frag) (Ts : List Addr) : Sp := FnV Ts (fun x : Bool × Int × Nat => [.bl x.1, .int x.2.1, .int (x.2.2 : Nat)]) (fun x => 1 ≤ x.2.2 ∧ x.2.2 ≤ 64) fun x => sv (dueB x.1 x.2.2 x.2.1)
theorem ok_law_due {f : Addr} {fd : FuncData} (F : Fun K "_law_due" "_law_due" s_law_due f fd) (T : Txt mg K w pN) (C_law_bits : Callee P w K mg base "_law_bits" 1 ["number", "width"] (sp_law_bits K Ts)) :
    FnOk P w K mg base CX0 2 f fd ["known", "number", "width"] (sp_law_due K Ts) := by
  refine F.ok sc_law_due (fun vs H Q E h => ?_) (fun cdv A outer s H vs Q E hr h => ?_)
  · obtain ⟨x, rfl, _⟩ := h
    rfl
  · obtain ⟨⟨b, n, k⟩, ev, hd, g, q⟩ := h
    replace ev : vs = [.bl b, .int n, .int (k : Nat)] := ev
    subst ev
    have h2 : k ≤ 64 := hd.2
    refine ⟨_, (pss_cons (ps_if (pt_val (pv 0))
      (pss_one (ps_ret (pe_fn C_law_bits (hr.mono (by decide)) (by rfl) (pa_cons (pv 1) (pa_cons (pv 2) pa_nil))))) pss_nil)
      (pss_one (ps_ret (pe_op op_mulS pe_str (pv 2))))), ?_⟩
    refine st_if (b := b) (et_B (ev_var rfl)) (Ex.refl g) ?_ ?_
    · intro H1 e1 h
      subst h
      exact st_ret (ev_call (n, k) (ea_cons (ev_var rfl) (ea_cons (ev_var rfl) ea_nil)) hd) e1 q
    intro H1 e1 h
    dsimp only [tNext]
    subst h
    exact st_ret (ev_is (v := sv (List.replicate ((k : Nat) : Int).toNat 120)) (ev_op (ev_s lt_x) (ev_var rfl) (rv_mulS (by omega) (by omega))) rfl) e1 q

abbrev sp_law_truth (K : PySem.W.Frag) (Ts : List Addr) : Sp := FnV Ts (fun x : Bool × Bool => [.bl x.1, .bl x.2]) (fun _ => True) fun x => sv (truthB x.1 x.2)
theorem ok_law_truth {f : Addr} {fd : FuncData} (F : Fun K "_law_truth" "_law_truth" s_law_truth f fd) (T : Txt mg K w pN)  :
    FnOk P w K mg base CX0 1 f fd ["known", "holds"] (sp_law_truth K Ts) := by
  refine F.ok sc_law_truth (fun vs H Q E h => ?_) (fun cdv A outer s H vs Q E hr h => ?_)
  · obtain ⟨x, rfl, _⟩ := h
    rfl
  · obtain ⟨⟨b, h⟩, ev, hd, g, q⟩ := h
    replace ev : vs = [.bl b, .bl h] := ev
    subst ev
    refine ⟨_, (pss_cons (ps_if (pt_val (pv 0))
      (pss_one (ps_ret (pe_callTy call_str_int (by rfl) T.str (by decide +kernel) (pa_cons (pe_callTy call_int1 (by rfl) T.int (by decide +kernel) (pa_cons (pv 1) pa_nil)) pa_nil)))) pss_nil)
      (pss_one (ps_ret pe_str))), ?_⟩
    refine st_if (b := b) (et_B (ev_var rfl)) (Ex.refl g) ?_ ?_
    · intro H1 e1 hb
      subst hb
      cases h
      · exact st_ret (ev_cb (ea_cons (ev_cb (ea_cons (ev_var rfl) ea_nil) rc_intB) ea_nil) (rc_strB (n := 0) (by decide))) e1 q
      · exact st_ret (ev_cb (ea_cons (ev_cb (ea_cons (ev_var rfl) ea_nil) rc_intB) ea_nil) (rc_strB (n := 1) (by decide))) e1 q
    intro H1 e1 hb
    dsimp only [tNext]
    subst hb
    exact st_ret (ev_s lt_x) e1 q

abbrev sp_law_left (K : PySem.W.Frag) (Ts : List Addr) : Sp := FnV Ts (fun x : List Nat × List Nat => [sv x.1, sv x.2]) (fun x => Vec x.1 ∧ Vec x.2 ∧ x.2.length ≤ 8) fun x => sv (shlB x.1 x.2)
theorem ok_law_left {f : Addr} {fd : FuncData} (F : Fun K "_law_left" "_law_left" s_law_left f fd) (T : Txt mg K w pN) (C_law_known : Callee P w K mg base "_law_known" 1 ["vector"] (sp_law_known K Ts)) (C_law_value : Callee P w K mg base "_law_value" 1 ["vector"] (sp_law_value K Ts)) :
    FnOk P w K mg base CX0 2 f fd ["vector", "amount"] (sp_law_left K Ts) := by
  refine F.ok sc_law_left (fun vs H Q E h => ?_) (fun cdv A outer s H vs Q E hr h => ?_)
  · obtain ⟨x, rfl, _⟩ := h
    rfl
  · obtain ⟨⟨a, b⟩, ev, hd, g, q⟩ := h
    replace ev : vs = [sv a, sv b] := ev
    subst ev
    have ha : Vec a := hd.1
    have hb : Vec b := hd.2.1
    have hb8 : b.length ≤ 8 := hd.2.2
    have hal : a.length ≤ 64 := ha.le
    have hvb : val b < 2 ^ 8 := val_le hb8
    refine ⟨_, (pss_cons (ps_if (pt_not (pt_val (pe_fn C_law_known (hr.mono (by decide)) (by rfl) (pa_cons (pv 1) pa_nil))))
      (pss_one (ps_ret (pe_op op_mulS pe_str (pe_callB call_len_str (by rfl) T.len PySem.boot_len (pa_cons (pv 0) pa_nil))))) pss_nil)
      (pss_one (ps_ret (pe_slice sl_str (pe_op op_add_str (pv 0) (pe_op op_mulS pe_str (pe_fn C_law_value (hr.mono (by decide)) (by rfl) (pa_cons (pv 1) pa_nil)))) (po_some (pe_op op_sub pe_int (pe_callB call_len_str (by rfl) T.len PySem.boot_len (pa_cons (pv 0) pa_nil)))) po_none)))), ?_⟩
    refine st_if (b := !(kn b)) (et_not (et_B (ev_call b (ea_cons (ev_var rfl) ea_nil) (by show b.length ≤ 1000; omega)))) (Ex.refl g) ?_ ?_
    · intro H2 e2 h
      refine st_ret (ev_is (v := sv (List.replicate ((a.length : Nat) : Int).toNat 120)) (ev_op (ev_s lt_x) (ev_cb (ea_cons (ev_var rfl) ea_nil) (rc_lenS (by omega))) (rv_mulS (by omega) (by omega))) (congrArg sv ?_)) e2 q
      have hk : kn b = false := not_t h
      show _ = shlB a b
      unfold shlB
      rw [hk]
      rfl
    intro H1 e1 h
    dsimp only [tNext]
    have hkb : kn b = true := not_f h
    refine st_ret (ev_is (v := sv ((a ++ List.replicate (val b) 48).drop ((a ++ List.replicate (val b) 48).length - a.length))) ?_ (congrArg sv (shl_law hkb))) e1 q
    refine ev_slS (by rw [List.length_append, List.length_replicate]; omega) (ev_op (ev_var rfl) (ev_op (ev_s lt_0) (ev_call b (ea_cons (ev_var rfl) ea_nil) (by show b.length ≤ 1000; omega)) (rv_mulS (by omega) (by omega))) (rv_addS (by rw [List.length_replicate]; omega))) (eo_some (ev_op ev_c (ev_cb (ea_cons (ev_var rfl) ea_nil) (rc_lenS (by omega))) rv_I0)) eo_none ?_
    exact cutS_last ha.pos (by rw [List.length_append]; omega)

abbrev sp_law_right (K : PySem.W.Frag) (Ts : List Addr) : Sp := FnV Ts (fun x : List Nat × List Nat => [sv x.1, sv x.2]) (fun x => Vec x.1 ∧ Vec x.2 ∧ x.2.length ≤ 8) fun x => sv (shrB x.1 x.2)
theorem ok_law_right {f : Addr} {fd : FuncData} (F : Fun K "_law_right" "_law_right" s_law_right f fd) (T : Txt mg K w pN) (C_law_known : Callee P w K mg base "_law_known" 1 ["vector"] (sp_law_known K Ts)) (C_law_value : Callee P w K mg base "_law_value" 1 ["vector"] (sp_law_value K Ts)) :
    FnOk P w K mg base CX0 2 f fd ["vector", "amount"] (sp_law_right K Ts) := by
  refine F.ok sc_law_right (fun vs H Q E h => ?_) (fun cdv A outer s H vs Q E hr h => ?_)
  · obtain ⟨x, rfl, _⟩ := h
    rfl
  · obtain ⟨⟨a, b⟩, ev, hd, g, q⟩ := h
    replace ev : vs = [sv a, sv b] := ev
    subst ev
    have ha : Vec a := hd.1
    have hb : Vec b := hd.2.1
    have hb8 : b.length ≤ 8 := hd.2.2
    have hal : a.length ≤ 64 := ha.le
    have hvb : val b < 2 ^ 8 := val_le hb8
    refine ⟨_, (pss_cons (ps_if (pt_not (pt_val (pe_fn C_law_known (hr.mono (by decide)) (by rfl) (pa_cons (pv 1) pa_nil))))
      (pss_one (ps_ret (pe_op op_mulS pe_str (pe_callB call_len_str (by rfl) T.len PySem.boot_len (pa_cons (pv 0) pa_nil))))) pss_nil)
      (pss_one (ps_ret (pe_slice sl_str (pe_op op_add_str (pe_op op_mulS pe_str (pe_fn C_law_value (hr.mono (by decide)) (by rfl) (pa_cons (pv 1) pa_nil))) (pv 0)) po_none (po_some (pe_callB call_len_str (by rfl) T.len PySem.boot_len (pa_cons (pv 0) pa_nil))))))), ?_⟩
    refine st_if (b := !(kn b)) (et_not (et_B (ev_call b (ea_cons (ev_var rfl) ea_nil) (by show b.length ≤ 1000; omega)))) (Ex.refl g) ?_ ?_
    · intro H2 e2 h
      refine st_ret (ev_is (v := sv (List.replicate ((a.length : Nat) : Int).toNat 120)) (ev_op (ev_s lt_x) (ev_cb (ea_cons (ev_var rfl) ea_nil) (rc_lenS (by omega))) (rv_mulS (by omega) (by omega))) (congrArg sv ?_)) e2 q
      have hk : kn b = false := not_t h
      show _ = shrB a b
      unfold shrB
      rw [hk]
      rfl
    intro H1 e1 h
    dsimp only [tNext]
    have hkb : kn b = true := not_f h
    refine st_ret (ev_is (v := sv ((List.replicate (val b) 48 ++ a).take a.length)) ?_ (congrArg sv (shr_law hkb))) e1 q
    refine ev_slS (by rw [List.length_append, List.length_replicate]; omega) (ev_op (ev_op (ev_s lt_0) (ev_call b (ea_cons (ev_var rfl) ea_nil) (by show b.length ≤ 1000; omega)) (rv_mulS (by omega) (by omega))) (ev_var rfl) (rv_addS (by rw [List.length_replicate]; omega))) eo_none (eo_some (ev_cb (ea_cons (ev_var rfl) ea_nil) (rc_lenS (by omega)))) ?_
    exact cutS_to _ _

end
end K03
set_option Elab.async false
set_option linter.all false
set_option maxRecDepth 100000
set_option maxHeartbeats 2000000
namespace K03
open PySem PySem.Spec PyProof.Rows L2 Cw
open GxR (TabG Tabbed TabB GenS)
local macro_rules | `(tactic| walk_at "ev") => `(tactic| first
  | exact ev_var rfl
  | exact ev_s lt_0 | exact ev_s lt_b | exact ev_s lt_1 | exact ev_s lt_01 | exact ev_s lt_e | exact ev_s lt_x | exact ev_s lt_01xz | exact ev_s lt_0110
  | exact ev_c
  | (apply ev_op <;> walk_at "ev")
  | exact rv_I0 | (refine rv_I ?_; first | omega | decide | assumption)
  | exact rv_eq rfl | exact rv_ne rfl | exact rv_inS | exact rv_niS
  | (refine rv_addS ?_; first | assumption | omega | decide)
  | (refine rv_mulS ?_ ?_ <;> first | assumption | omega | decide)
  | (apply ev_cb <;> walk_at "ev")
  | (refine rc_lenS ?_; first | assumption | omega | decide)
  | exact rc_max | exact rc_abs | exact rc_intI | exact rc_intB | exact rc_min
  | exact ea_nil
  | (apply ea_cons <;> walk_at "ev")
  | (apply et_and; walk_at "ev"; intro _; walk_at "ev")
  | (apply et_or; walk_at "ev"; intro _; walk_at "ev")
  | (apply et_not; walk_at "ev")
  | (apply et_test; walk_at "ev")
  | (apply et_B; walk_at "ev"))
section
variable {P : Program} {w : World} {K : PySem.W.Frag} {mg : Str → Option Value} {base : Heap} {pN : Addr} {Ts : List Addr}
abbrev sp_law_sums_hold (K : PySem.W.Frag) (Ts : List Addr) : Sp := FnV Ts (fun x : List Nat × List Nat => [sv x.1, sv x.2]) (fun x => Vec x.1 ∧ Vec x.2) fun x => .bl true
theorem ok_law_sums_hold {f : Addr} {fd : FuncData} (F : Fun K "_law_sums_hold" "_law_sums_hold" s_law_sums_hold f fd) (T : Txt mg K w pN) (C_law_known : Callee P w K mg base "_law_known" 1 ["vector"] (sp_law_known K Ts)) (C_law_value : Callee P w K mg base "_law_value" 1 ["vector"] (sp_law_value K Ts)) (C_multiply : Callee P w K mg base "multiply" 4 ["one", "two"] (sp_multiply K Ts)) (C_law_due : Callee P w K mg base "_law_due" 2 ["known", "number", "width"] (sp_law_due K Ts)) (C_negate : Callee P w K mg base "negate" 5 ["vector"] (sp_negate K Ts)) (C_add : Callee P w K mg base "add" 4 ["one", "two"] (sp_add K Ts)) (C_subtract : Callee P w K mg base "subtract" 4 ["one", "two"] (sp_subtract K Ts)) :
    FnOk P w K mg base CX0 6 f fd ["one", "two"] (sp_law_sums_hold K Ts) := by
  refine F.ok sc_law_sums_hold (fun vs H Q E h => ?_) (fun cdv A outer s H vs Q E hr h => ?_)
  · obtain ⟨x, rfl, _⟩ := h
    rfl
  · obtain ⟨⟨a, b⟩, ev, hd, g, q⟩ := h
    replace ev : vs = [sv a, sv b] := ev
    subst ev
    have ha : Vec a := hd.1
    have hb : Vec b := hd.2
    have hal : a.length ≤ 64 := ha.le
    have hbl : b.length ≤ 64 := hb.le
    have hw : wid a b ≤ 64 := wid_le ha.le hb.le
    have hw1 : 1 ≤ wid a b := Nat.le_trans ha.pos (Nat.le_max_left _ _)
    have hva : val a < 2 ^ 64 := val_le ha.le
    refine ⟨_, (pss_cons (ps_set (i := 2) sc_law_sums_hold.nd rfl (.inl rfl) (pe_callB (call_max2 rfl) (by rfl) T.max (by decide +kernel) (pa_cons (pe_callB call_len_str (by rfl) T.len PySem.boot_len (pa_cons (pv 0) pa_nil)) (pa_cons (pe_callB call_len_str (by rfl) T.len PySem.boot_len (pa_cons (pv 1) pa_nil)) pa_nil))))
      (pss_cons (ps_set (i := 3) sc_law_sums_hold.nd rfl (.inl rfl) (pe_and (pe_fn C_law_known (hr.mono (by decide)) (by rfl) (pa_cons (pv 0) pa_nil)) (pe_one (pe_fn C_law_known (hr.mono (by decide)) (by rfl) (pa_cons (pv 1) pa_nil)))))
      (pss_cons (ps_par (i := 4) (j := 5) (by rfl) sc_law_sums_hold.nd rfl rfl (by decide) rfl rfl (pa_cons (pe_fn C_law_value (hr.mono (by decide)) (by rfl) (pa_cons (pv 0) pa_nil)) (pa_cons (pe_fn C_law_value (hr.mono (by decide)) (by rfl) (pa_cons (pv 1) pa_nil)) pa_nil)) (by rfl))
      (pss_cons (ps_if (PW.pt (pw_or (pt_cmpR op_ne (pe_fn C_add (hr.mono (by decide)) (by rfl) (pa_cons (pv 0) (pa_cons (pv 1) pa_nil))) (pe_fn C_law_due (hr.mono (by decide)) (by rfl) (pa_cons (pv 3) (pa_cons (pe_op op_add (pv 4) (pv 5)) (pa_cons (pv 2) pa_nil)))) (nomark _)) (pw_or1 (pt_cmpR op_ne (pe_fn C_subtract (hr.mono (by decide)) (by rfl) (pa_cons (pv 0) (pa_cons (pv 1) pa_nil))) (pe_fn C_law_due (hr.mono (by decide)) (by rfl) (pa_cons (pv 3) (pa_cons (pe_op op_sub (pv 4) (pv 5)) (pa_cons (pv 2) pa_nil)))) (nomark _)))))
      (pss_one (ps_ret pe_bl)) pss_nil)
      (pss_cons (ps_if (pt_cmpR op_ne (pe_fn C_multiply (hr.mono (by decide)) (by rfl) (pa_cons (pv 0) (pa_cons (pv 1) pa_nil))) (pe_fn C_law_due (hr.mono (by decide)) (by rfl) (pa_cons (pv 3) (pa_cons (pe_op op_mul (pv 4) (pv 5)) (pa_cons (pv 2) pa_nil)))) (nomark _))
      (pss_one (ps_ret pe_bl)) pss_nil)
      (pss_one (ps_ret (pe_cmpR op_eq (pe_fn C_negate (hr.mono (by decide)) (by rfl) (pa_cons (pv 0) pa_nil)) (pe_fn C_law_due (hr.mono (by decide)) (by rfl) (pa_cons (pe_fn C_law_known (hr.mono (by decide)) (by rfl) (pa_cons (pv 0) pa_nil)) (pa_cons (pe_op op_sub pe_int (pv 4)) (pa_cons (pe_callB call_len_str (by rfl) T.len PySem.boot_len (pa_cons (pv 0) pa_nil)) pa_nil)))) (nomark _))))))))), ?_⟩
    refine st_set (v := .int (wid a b : Nat)) ?_ (Ex.refl g) ?_
    · refine ev_is (v := .int (if (b.length : Int) > (a.length : Int) then (b.length : Int) else (a.length : Int))) ?_ (congrArg V.int (max_wid a b))
      exact ev_cb (ea_cons (ev_cb (ea_cons (ev_var rfl) ea_nil) (rc_lenS (Nat.le_trans ha.le (by decide)))) (ea_cons (ev_cb (ea_cons (ev_var rfl) ea_nil) (rc_lenS (Nat.le_trans hb.le (by decide)))) ea_nil)) rc_max
    intro H1 e1
    dsimp only
    refine st_set (v := .bl (kn a && kn b)) (ev_and (a := kn a) (b := kn b) (ev_call a (ea_cons (ev_var rfl) ea_nil) (by show a.length ≤ 1000; omega)) fun _ => (ev_call b (ea_cons (ev_var rfl) ea_nil) (by show b.length ≤ 1000; omega))) e1 ?_
    intro H2 e2
    dsimp only
    refine st_par (x := .int (val a : Nat)) (y := .int (val b : Nat)) (ev_call a (ea_cons (ev_var rfl) ea_nil) (by show a.length ≤ 1000; omega)) (ev_call b (ea_cons (ev_var rfl) ea_nil) (by show b.length ≤ 1000; omega)) e2 ?_
    intro H3 e3
    dsimp only
    refine st_no (et_is (et_or (et_ne (ev_call (a, b) (ea_cons (ev_var rfl) (ea_cons (ev_var rfl) ea_nil)) ⟨ha, hb⟩) (ev_call (kn a && kn b, (val a : Int) + (val b : Int), wid a b) (ea_cons (ev_var rfl) (ea_cons (ev_op (ev_var rfl) (ev_var rfl) rv_I0) (ea_cons (ev_var rfl) ea_nil))) ⟨hw1, hw⟩) rfl) fun _ => et_ne (ev_call (a, b) (ea_cons (ev_var rfl) (ea_cons (ev_var rfl) ea_nil)) ⟨ha, hb⟩) (ev_call (kn a && kn b, (val a : Int) - (val b : Int), wid a b) (ea_cons (ev_var rfl) (ea_cons (ev_op (ev_var rfl) (ev_var rfl) rv_I0) (ea_cons (ev_var rfl) ea_nil))) ⟨hw1, hw⟩) rfl) rfl) e3 ?_
    intro H4 e4
    dsimp only
    refine st_no (et_ne (ev_call (a, b) (ea_cons (ev_var rfl) (ea_cons (ev_var rfl) ea_nil)) ⟨ha, hb⟩) (ev_call (kn a && kn b, (val a : Int) * (val b : Int), wid a b) (ea_cons (ev_var rfl) (ea_cons (ev_op (ev_var rfl) (ev_var rfl) (rv_I (Or.inl ⟨by omega, by omega⟩))) (ea_cons (ev_var rfl) ea_nil))) ⟨hw1, hw⟩) rfl) e4 ?_
    intro H5 e5
    dsimp only
    refine st_ret (ev_eqT (ev_call a (ea_cons (ev_var rfl) ea_nil) ha) (ev_call (kn a, 0 - (val a : Int), a.length) (ea_cons (ev_call a (ea_cons (ev_var rfl) ea_nil) (by show a.length ≤ 1000; omega)) (ea_cons (ev_op ev_c (ev_var rfl) rv_I0) (ea_cons (ev_cb (ea_cons (ev_var rfl) ea_nil) (rc_lenS (by omega))) ea_nil))) ⟨ha.pos, ha.le⟩)) e5 q

theorem ext_int (v : List Nat) (w : Nat) : List.replicate ((w : Int) - (v.length : Int)).toNat 48 ++ v = ext w v := by
  unfold ext
  congr 2
  omega

abbrev sp_law_orders_hold (K : PySem.W.Frag) (Ts : List Addr) : Sp := FnV Ts (fun x : List Nat × List Nat => [sv x.1, sv x.2]) (fun x => Vec x.1 ∧ Vec x.2) fun x => .bl true
theorem ok_law_orders_hold {f : Addr} {fd : FuncData} (F : Fun K "_law_orders_hold" "_law_orders_hold" s_law_orders_hold f fd) (T : Txt mg K w pN) (C_law_known : Callee P w K mg base "_law_known" 1 ["vector"] (sp_law_known K Ts)) (C_law_value : Callee P w K mg base "_law_value" 1 ["vector"] (sp_law_value K Ts)) (C_same : Callee P w K mg base "same" 3 ["one", "two"] (sp_same K Ts)) (C_less : Callee P w K mg base "less" 4 ["one", "two"] (sp_less K Ts)) (C_law_truth : Callee P w K mg base "_law_truth" 1 ["known", "holds"] (sp_law_truth K Ts)) (C_less_equal : Callee P w K mg base "less_equal" 4 ["one", "two"] (sp_less_equal K Ts)) (C_equal : Callee P w K mg base "equal" 4 ["one", "two"] (sp_equal K Ts)) (C_not_equal : Callee P w K mg base "not_equal" 5 ["one", "two"] (sp_not_equal K Ts)) :
    FnOk P w K mg base CX0 6 f fd ["one", "two"] (sp_law_orders_hold K Ts) := by
  refine F.ok sc_law_orders_hold (fun vs H Q E h => ?_) (fun cdv A outer s H vs Q E hr h => ?_)
  · obtain ⟨x, rfl, _⟩ := h
    rfl
  · obtain ⟨⟨a, b⟩, ev, hd, g, q⟩ := h
    replace ev : vs = [sv a, sv b] := ev
    subst ev
    have ha : Vec a := hd.1
    have hb : Vec b := hd.2
    have hal : a.length ≤ 64 := ha.le
    have hbl : b.length ≤ 64 := hb.le
    have hw : wid a b ≤ 64 := wid_le ha.le hb.le
    refine ⟨_, (pss_cons (ps_set (i := 2) sc_law_orders_hold.nd rfl (.inl rfl) (pe_and (pe_fn C_law_known (hr.mono (by decide)) (by rfl) (pa_cons (pv 0) pa_nil)) (pe_one (pe_fn C_law_known (hr.mono (by decide)) (by rfl) (pa_cons (pv 1) pa_nil)))))
      (pss_cons (ps_par (i := 3) (j := 4) (by rfl) sc_law_orders_hold.nd rfl rfl (by decide) rfl rfl (pa_cons (pe_fn C_law_value (hr.mono (by decide)) (by rfl) (pa_cons (pv 0) pa_nil)) (pa_cons (pe_fn C_law_value (hr.mono (by decide)) (by rfl) (pa_cons (pv 1) pa_nil)) pa_nil)) (by rfl))
      (pss_cons (ps_if (PW.pt (pw_or (pt_cmpR op_ne (pe_fn C_less (hr.mono (by decide)) (by rfl) (pa_cons (pv 0) (pa_cons (pv 1) pa_nil))) (pe_fn C_law_truth (hr.mono (by decide)) (by rfl) (pa_cons (pv 2) (pa_cons (pe_cmpR op_lt (pv 3) (pv 4) (nomark _)) pa_nil))) (nomark _)) (pw_or1 (pt_cmpR op_ne (pe_fn C_less_equal (hr.mono (by decide)) (by rfl) (pa_cons (pv 0) (pa_cons (pv 1) pa_nil))) (pe_fn C_law_truth (hr.mono (by decide)) (by rfl) (pa_cons (pv 2) (pa_cons (pe_cmpR op_le (pv 3) (pv 4) (nomark _)) pa_nil))) (nomark _)))))
      (pss_one (ps_ret pe_bl)) pss_nil)
      (pss_cons (ps_if (PW.pt (pw_or (pt_cmpR op_ne (pe_fn C_equal (hr.mono (by decide)) (by rfl) (pa_cons (pv 0) (pa_cons (pv 1) pa_nil))) (pe_fn C_law_truth (hr.mono (by decide)) (by rfl) (pa_cons (pv 2) (pa_cons (pe_cmpR op_eq (pv 3) (pv 4) (nomark _)) pa_nil))) (nomark _)) (pw_or1 (pt_cmpR op_ne (pe_fn C_not_equal (hr.mono (by decide)) (by rfl) (pa_cons (pv 0) (pa_cons (pv 1) pa_nil))) (pe_fn C_law_truth (hr.mono (by decide)) (by rfl) (pa_cons (pv 2) (pa_cons (pe_cmpR op_ne (pv 3) (pv 4) (nomark _)) pa_nil))) (nomark _)))))
      (pss_one (ps_ret pe_bl)) pss_nil)
      (pss_cons (ps_set (i := 5) sc_law_orders_hold.nd rfl (.inl rfl) (pe_callB (call_max2 rfl) (by rfl) T.max (by decide +kernel) (pa_cons (pe_callB call_len_str (by rfl) T.len PySem.boot_len (pa_cons (pv 0) pa_nil)) (pa_cons (pe_callB call_len_str (by rfl) T.len PySem.boot_len (pa_cons (pv 1) pa_nil)) pa_nil))))
      (pss_cons (ps_set (i := 6) sc_law_orders_hold.nd rfl (.inl rfl) (pe_cmpR op_eq (pe_op op_add_str (pe_op op_mulS pe_str (pe_op op_sub (pv 5) (pe_callB call_len_str (by rfl) T.len PySem.boot_len (pa_cons (pv 0) pa_nil)))) (pv 0)) (pe_op op_add_str (pe_op op_mulS pe_str (pe_op op_sub (pv 5) (pe_callB call_len_str (by rfl) T.len PySem.boot_len (pa_cons (pv 1) pa_nil)))) (pv 1)) (nomark _)))
      (pss_one (ps_ret (pe_cmpR op_eq (pe_fn C_same (hr.mono (by decide)) (by rfl) (pa_cons (pv 0) (pa_cons (pv 1) pa_nil))) (pe_callTy call_str_int (by rfl) T.str (by decide +kernel) (pa_cons (pe_callTy call_int1 (by rfl) T.int (by decide +kernel) (pa_cons (pv 6) pa_nil)) pa_nil)) (nomark _)))))))))), ?_⟩
    refine st_set (v := .bl (kn a && kn b)) (ev_and (a := kn a) (b := kn b) (ev_call a (ea_cons (ev_var rfl) ea_nil) (by show a.length ≤ 1000; omega)) fun _ => (ev_call b (ea_cons (ev_var rfl) ea_nil) (by show b.length ≤ 1000; omega))) (Ex.refl g) ?_
    intro H1 e1
    dsimp only
    refine st_par (x := .int (val a : Nat)) (y := .int (val b : Nat)) (ev_call a (ea_cons (ev_var rfl) ea_nil) (by show a.length ≤ 1000; omega)) (ev_call b (ea_cons (ev_var rfl) ea_nil) (by show b.length ≤ 1000; omega)) e1 ?_
    intro H2 e2
    dsimp only
    refine st_no (et_is (et_or (et_ne (ev_call (a, b) (ea_cons (ev_var rfl) (ea_cons (ev_var rfl) ea_nil)) ⟨ha, hb⟩) (ev_call (kn a && kn b, decide ((val a : Int) < (val b : Int))) (ea_cons (ev_var rfl) (ea_cons (ev_op (ev_var rfl) (ev_var rfl) rv_I0) ea_nil)) trivial) rfl) fun _ => et_ne (ev_call (a, b) (ea_cons (ev_var rfl) (ea_cons (ev_var rfl) ea_nil)) ⟨ha, hb⟩) (ev_call (kn a && kn b, decide ((val a : Int) ≤ (val b : Int))) (ea_cons (ev_var rfl) (ea_cons (ev_op (ev_var rfl) (ev_var rfl) rv_I0) ea_nil)) trivial) rfl) rfl) e2 ?_
    intro H3 e3
    dsimp only
    refine st_no (et_is (et_or (et_ne (ev_call (a, b) (ea_cons (ev_var rfl) (ea_cons (ev_var rfl) ea_nil)) ⟨ha, hb⟩) (ev_call (kn a && kn b, decide (V.int (val a : Nat) = V.int (val b : Nat))) (ea_cons (ev_var rfl) (ea_cons (ev_op (ev_var rfl) (ev_var rfl) (rv_eq rfl)) ea_nil)) trivial) rfl) fun _ => et_ne (ev_call (a, b) (ea_cons (ev_var rfl) (ea_cons (ev_var rfl) ea_nil)) ⟨ha, hb⟩) (ev_call (kn a && kn b, !decide (V.int (val a : Nat) = V.int (val b : Nat))) (ea_cons (ev_var rfl) (ea_cons (ev_op (ev_var rfl) (ev_var rfl) (rv_ne rfl)) ea_nil)) trivial) rfl) rfl) e3 ?_
    intro H4 e4
    dsimp only
    refine st_set (v := .int (wid a b : Nat)) ?_ e4 ?_
    · refine ev_is (v := .int (if (b.length : Int) > (a.length : Int) then (b.length : Int) else (a.length : Int))) ?_ (congrArg V.int (max_wid a b))
      exact ev_cb (ea_cons (ev_cb (ea_cons (ev_var rfl) ea_nil) (rc_lenS (by omega))) (ea_cons (ev_cb (ea_cons (ev_var rfl) ea_nil) (rc_lenS (by omega))) ea_nil)) rc_max
    intro H5 e5
    dsimp only
    refine st_set (v := .bl (decide (sv (exL a b) = sv (exR a b)))) (ev_op (ev_is (v := sv (List.replicate (((wid a b : Nat) : Int) - (a.length : Int)).toNat 48 ++ a)) (ev_op (ev_op (ev_s lt_0) (ev_op (ev_var rfl) (ev_cb (ea_cons (ev_var rfl) ea_nil) (rc_lenS (by omega))) rv_I0) (rv_mulS (by omega) (by omega))) (ev_var rfl) (rv_addS (by rw [List.length_replicate]; omega))) (congrArg sv (ext_int a _))) (ev_is (v := sv (List.replicate (((wid a b : Nat) : Int) - (b.length : Int)).toNat 48 ++ b)) (ev_op (ev_op (ev_s lt_0) (ev_op (ev_var rfl) (ev_cb (ea_cons (ev_var rfl) ea_nil) (rc_lenS (by omega))) rv_I0) (rv_mulS (by omega) (by omega))) (ev_var rfl) (rv_addS (by rw [List.length_replicate]; omega))) (congrArg sv (ext_int b _))) (rv_eq rfl)) e5 ?_
    intro H6 e6
    dsimp only
    refine st_ret (ev_eqT (ev_is (ev_call (a, b) (ea_cons (ev_var rfl) (ea_cons (ev_var rfl) ea_nil)) ⟨ha, hb⟩) (congrArg sv (bitB_int _))) ?_) e6 q
    generalize decide (sv (exL a b) = sv (exR a b)) = h
    cases h
    · exact ev_cb (ea_cons (ev_cb (ea_cons (ev_var rfl) ea_nil) rc_intB) ea_nil) (rc_strB (n := 0) (by decide))
    · exact ev_cb (ea_cons (ev_cb (ea_cons (ev_var rfl) ea_nil) rc_intB) ea_nil) (rc_strB (n := 1) (by decide))

theorem es_vec {a : Addr} {ns : List Int} {k i : Int} {pl : Bool} {tsz : TE} {σ : L2.St} {H : Hp} (g : Good Ts H) (hS : SqL K H a (ns.map V.int)) (h0 : σ[0]? = some (some (.ref a))) (h1 : σ[1]? = some (some (.bl pl))) (hsz : Ev Ts tsz σ H (.int i)) (hi : 1 ≤ i) (hi2 : i ≤ 64) :
    EvS Ts (tCall (sp_law_vector K Ts) [] E0 (tCons (tCall (sp_law_numbers K Ts) [] E0 (tCons (tSl (rSlL K) (tVar 0) (tPart (tC (.int k))) tNoPart) (tCons (tC (.int 4)) (tCons (tC (.int 64)) tNil)))) (tCons tsz (tCons (tVar 1) tNil)))) σ H
      (fun v _ => ∃ x, v = sv x ∧ Vec x ∧ x.length ≤ i.toNat) := by
  intro H1 e1 Q q
  obtain ⟨ms0, em⟩ := drop_ints ns k
  refine (en_slL (K := K) g (ev_var h0) (eo_some ev_c) eo_none hS) H1 e1 _ fun p H2 _ e2 hp => ?_
  rw [em] at hp
  refine ⟨(p, ms0, 4, 64), rfl, ⟨l_of hp, (show (2 : Nat) ≤ 4 by decide), (show (4 : Nat) ≤ 1000000 by decide), (show (64 : Nat) ≤ 1000 by decide)⟩, e2.good, fun v H3 e3 r => ?_⟩
  obtain ⟨l, ms, rfl, hl, hlen, hB⟩ := r
  replace hlen : ms.length = 64 := hlen
  refine hsz H3 ((e1.trans e2).trans e3) _ fun H4 e4 => ⟨_, h1, ?_⟩
  have hn : ((i.toNat : Nat) : Int) = i := by omega
  refine ⟨(l, ms, i.toNat, pl), (show [V.ref l, V.int i, V.bl pl] = [V.ref l, V.int ((i.toNat : Nat) : Int), V.bl pl] by rw [hn]), ⟨e4.l e3.good (l_of hl), hB, by show i.toNat ≤ ms.length; omega, by show i.toNat ≤ 64; omega⟩, e4.good, fun H5 e5 => q _ H5 (((e2.trans e3).trans e4).trans e5) ⟨_, rfl, ⟨fun c hc => ?_, ?_, ?_⟩, ?_⟩⟩
  · obtain ⟨z, hz, rfl⟩ := List.mem_map.mp hc
    have hz2 := hB z (List.mem_of_mem_take hz)
    exact sgn_isB hz2.1 hz2.2
  · show 1 ≤ ((ms.take i.toNat).map (sgn pl)).length
    rw [List.length_map, List.length_take]
    omega
  · show ((ms.take i.toNat).map (sgn pl)).length ≤ 64
    rw [List.length_map, List.length_take]
    omega
  · show ((ms.take i.toNat).map (sgn pl)).length ≤ i.toNat
    rw [List.length_map, List.length_take]
    omega

theorem near_vec {a : List Nat} (h : Vec a) : Vec (a.take (a.length - 1) ++ [49]) := by
  have h1 := h.pos
  have h2 := h.le
  refine ⟨fun c hc => ?_, ?_, ?_⟩
  · rcases List.mem_append.mp hc with q | q
    · exact h.all c (List.mem_of_mem_take q)
    · rw [List.mem_singleton.mp q]
      decide
  · rw [List.length_append, List.length_singleton]
    omega
  · rw [List.length_append, List.length_singleton, List.length_take]
    omega
theorem take_vec {a : List Nat} (h : Vec a) : Vec (a.take 3) ∧ (a.take 3).length ≤ 8 := by
  have h1 := h.pos
  have h2 := h.le
  refine ⟨⟨fun c hc => h.all c (List.mem_of_mem_take hc), ?_, ?_⟩, ?_⟩ <;> (rw [List.length_take]; omega)

abbrev sp_law (K : PySem.W.Frag) (Ts : List Addr) : Sp := FnL Ts (fun x : Addr × List Int => [.ref x.1]) (fun x H => SqL K H x.1 (x.2.map V.int)) fun _ => .bl true
theorem ok_law {f : Addr} {fd : FuncData} (F : Fun K "law" "law" s_law f fd) (T : Txt mg K w pN) (C_law_vector : Callee P w K mg base "_law_vector" 1 ["numbers", "size", "plain"] (sp_law_vector K Ts)) (C_law_numbers : Callee P w K mg base "_law_numbers" 1 ["script", "base", "many"] (sp_law_numbers K Ts)) (C_law_cell : Callee P w K mg base "_law_cell" 1 ["script", "k"] (sp_law_cell K Ts)) (C_shift_left : Callee P w K mg base "shift_left" 3 ["vector", "amount"] (sp_shift_left K Ts)) (C_law_left : Callee P w K mg base "_law_left" 2 ["vector", "amount"] (sp_law_left K Ts)) (C_shift_right : Callee P w K mg base "shift_right" 3 ["vector", "amount"] (sp_shift_right K Ts)) (C_law_right : Callee P w K mg base "_law_right" 2 ["vector", "amount"] (sp_law_right K Ts)) (C_law_sums_hold : Callee P w K mg base "_law_sums_hold" 6 ["one", "two"] (sp_law_sums_hold K Ts)) (C_law_orders_hold : Callee P w K mg base "_law_orders_hold" 6 ["one", "two"] (sp_law_orders_hold K Ts)) :
    FnOk P w K mg base CX0 7 f fd ["script"] (sp_law K Ts) := by
  refine F.ok sc_law (fun vs H Q E h => ?_) (fun cdv A outer s H vs Q E hr h => ?_)
  · obtain ⟨x, rfl, _⟩ := h
    rfl
  · obtain ⟨⟨a, ns⟩, ev, hd, g, q⟩ := h
    replace ev : vs = [.ref a] := ev
    subst ev
    have hS : SqL K H a (ns.map V.int) := hd
    refine ⟨_, (pss_cons (ps_set (i := 1) sc_law.nd rfl (.inl rfl) (pe_cmpR op_gt (pe_op op_mod (pe_fn C_law_cell (hr.mono (by decide)) (by rfl) (pa_cons (pv 0) (pa_cons pe_int pa_nil))) pe_int) pe_int (nomark _)))
      (pss_cons (ps_set (i := 2) sc_law.nd rfl (.inl rfl) (pe_fn C_law_vector (hr.mono (by decide)) (by rfl) (pa_cons (pe_fn C_law_numbers (hr.mono (by decide)) (by rfl) (pa_cons (pe_slice sl_list (pv 0) (po_some pe_int) po_none) (pa_cons pe_int (pa_cons pe_int pa_nil)))) (pa_cons (pe_op op_add pe_int (pe_op op_mod (pe_op op_fdiv (pe_fn C_law_cell (hr.mono (by decide)) (by rfl) (pa_cons (pv 0) (pa_cons pe_int pa_nil))) pe_int) pe_int)) (pa_cons (pv 1) pa_nil)))))
      (pss_cons (ps_set (i := 3) sc_law.nd rfl (.inl rfl) (pe_fn C_law_vector (hr.mono (by decide)) (by rfl) (pa_cons (pe_fn C_law_numbers (hr.mono (by decide)) (by rfl) (pa_cons (pe_slice sl_list (pv 0) (po_some pe_int) po_none) (pa_cons pe_int (pa_cons pe_int pa_nil)))) (pa_cons (pe_op op_add pe_int (pe_op op_mod (pe_fn C_law_cell (hr.mono (by decide)) (by rfl) (pa_cons (pv 0) (pa_cons pe_int pa_nil))) pe_int)) (pa_cons (pv 1) pa_nil)))))
      (pss_cons (ps_set (i := 4) sc_law.nd rfl (.inl rfl) (pe_fn C_law_vector (hr.mono (by decide)) (by rfl) (pa_cons (pe_fn C_law_numbers (hr.mono (by decide)) (by rfl) (pa_cons (pe_slice sl_list (pv 0) (po_some pe_int) po_none) (pa_cons pe_int (pa_cons pe_int pa_nil)))) (pa_cons (pe_op op_add pe_int (pe_op op_mod (pe_op op_fdiv (pe_fn C_law_cell (hr.mono (by decide)) (by rfl) (pa_cons (pv 0) (pa_cons pe_int pa_nil))) pe_int) pe_int)) (pa_cons (pv 1) pa_nil)))))
      (pss_cons (ps_set (i := 5) sc_law.nd rfl (.inl rfl) (pe_op op_add_str (pe_slice sl_str (pv 2) po_none (po_some (pe_op op_sub (pe_callB call_len_str (by rfl) T.len PySem.boot_len (pa_cons (pv 2) pa_nil)) pe_int))) pe_str))
      (pss_cons (ps_for PassesOwn.never rfl (pi_list (pe_lst (pa_cons (pe_tup (pa_cons (pv 2) (pa_cons (pv 3) pa_nil))) (pa_cons (pe_tup (pa_cons (pv 3) (pa_cons (pv 2) pa_nil))) (pa_cons (pe_tup (pa_cons (pv 2) (pa_cons (pv 2) pa_nil))) (pa_cons (pe_tup (pa_cons (pv 2) (pa_cons (pv 5) pa_nil))) pa_nil)))))) (pg_tup rfl (pgs_cons (pg_name (i := 6) sc_law.nd rfl (.inl rfl)) (pgs_cons (pg_name (i := 7) sc_law.nd rfl (.inl rfl)) pgs_nil)))
      (pss_one (ps_if (PW.pt (pw_or (pt_not (pt_val (pe_fn C_law_sums_hold (hr.mono (by decide)) (by rfl) (pa_cons (pv 6) (pa_cons (pv 7) pa_nil))))) (pw_or1 (pt_not (pt_val (pe_fn C_law_orders_hold (hr.mono (by decide)) (by rfl) (pa_cons (pv 6) (pa_cons (pv 7) pa_nil))))))))
      (pss_one (ps_ret pe_bl)) pss_nil)))
      (pss_cons (ps_if (PW.pt (pw_or (pt_cmpR op_ne (pe_fn C_shift_left (hr.mono (by decide)) (by rfl) (pa_cons (pv 2) (pa_cons (pv 4) pa_nil))) (pe_fn C_law_left (hr.mono (by decide)) (by rfl) (pa_cons (pv 2) (pa_cons (pv 4) pa_nil))) (nomark _)) (pw_or1 (pt_cmpR op_ne (pe_fn C_shift_right (hr.mono (by decide)) (by rfl) (pa_cons (pv 2) (pa_cons (pv 4) pa_nil))) (pe_fn C_law_right (hr.mono (by decide)) (by rfl) (pa_cons (pv 2) (pa_cons (pv 4) pa_nil))) (nomark _)))))
      (pss_one (ps_ret pe_bl)) pss_nil)
      (pss_one (ps_ret (pe_and (pe_cmpR op_eq (pe_fn C_shift_left (hr.mono (by decide)) (by rfl) (pa_cons (pv 3) (pa_cons (pe_slice sl_str (pv 2) po_none (po_some pe_int)) pa_nil))) (pe_fn C_law_left (hr.mono (by decide)) (by rfl) (pa_cons (pv 3) (pa_cons (pe_slice sl_str (pv 2) po_none (po_some pe_int)) pa_nil))) (nomark _)) (pe_one (pe_cmpR op_eq (pe_fn C_shift_right (hr.mono (by decide)) (by rfl) (pa_cons (pv 3) (pa_cons (pe_slice sl_str (pv 2) po_none (po_some pe_int)) pa_nil))) (pe_fn C_law_right (hr.mono (by decide)) (by rfl) (pa_cons (pv 3) (pa_cons (pe_slice sl_str (pv 2) po_none (po_some pe_int)) pa_nil))) (nomark _))))))))))))), ?_⟩
    refine st_set (v := .bl (decide (ns.getD 0 0 % 4 > 0))) (ev_op (ev_op (ev_callL (a, ns, 0) (ea_cons (ev_var rfl) (ea_cons ev_c ea_nil)) fun H2 e => e.l g hS) ev_c (rv_I (by decide))) ev_c rv_I0) (Ex.refl g) ?_
    intro H1 e1
    dsimp only
    generalize decide (ns.getD 0 0 % 4 > 0) = pl
    refine st_setS (R := fun v _ => ∃ x, v = sv x ∧ Vec x ∧ x.length ≤ (1 + ns.getD 0 0 / 4 % 64).toNat) (es_vec g hS rfl rfl (ev_op ev_c (ev_op (ev_op (ev_callL (a, ns, 0) (ea_cons (ev_var rfl) (ea_cons ev_c ea_nil)) fun H2 e => e.l g hS) ev_c (rv_I ⟨by decide, by decide⟩)) ev_c (rv_I (by decide))) rv_I0) (by omega) (by omega)) e1 ?_
    rintro _ H2 e2 ⟨one, rfl, hone, lone⟩
    dsimp only
    refine st_setS (R := fun v _ => ∃ x, v = sv x ∧ Vec x ∧ x.length ≤ (1 + ns.getD 1 0 % 64).toNat) (es_vec g hS rfl rfl (ev_op ev_c (ev_op (ev_callL (a, ns, 1) (ea_cons (ev_var rfl) (ea_cons ev_c ea_nil)) fun H2 e => e.l g hS) ev_c (rv_I (by decide))) rv_I0) (by omega) (by omega)) e2 ?_
    rintro _ H3 e3 ⟨two, rfl, htwo, ltwo⟩
    dsimp only
    refine st_setS (R := fun v _ => ∃ x, v = sv x ∧ Vec x ∧ x.length ≤ (1 + ns.getD 1 0 / 64 % 8).toNat) (es_vec g hS rfl rfl (ev_op ev_c (ev_op (ev_op (ev_callL (a, ns, 1) (ea_cons (ev_var rfl) (ea_cons ev_c ea_nil)) fun H2 e => e.l g hS) ev_c (rv_I ⟨by decide, by decide⟩)) ev_c (rv_I (by decide))) rv_I0) (by omega) (by omega)) e3 ?_
    rintro _ H4 e4 ⟨amount, rfl, hamount, lamount⟩
    dsimp only
    have hpos := hone.pos
    have hle := hone.le
    refine st_set (v := sv (one.take (one.length - 1) ++ [49])) ?_ e4 ?_
    · refine ev_op (ev_slS (by omega) (ev_var rfl) eo_none (eo_some (ev_is (v := .int ((one.length : Int) - 1)) (ev_op (ev_cb (ea_cons (ev_var rfl) ea_nil) (rc_lenS (by omega))) ev_c rv_I0) (congrArg V.int (show (one.length : Int) - 1 = ((one.length - 1 : Nat) : Int) by omega)))) (cutS_to one _)) (ev_s lt_1) (rv_addS ?_)
      rw [List.length_take, List.length_singleton]
      omega
    intro H5 e5
    dsimp only
    have hnear := near_vec hone
    generalize one.take (one.length - 1) ++ [49] = near at hnear ⊢
    refine st_forP (K := K) (ps := [(sv one, sv two), (sv two, sv one), (sv one, sv one), (sv one, sv near)]) ?_ (by show 4 ≤ 1000; decide) e5
      (fun _ σ => ∃ l r, σ = [some (.ref a), some (.bl pl), some (sv one), some (sv two), some (sv amount), some (sv near), l, r]) ⟨none, none, rfl⟩ ?_ ?_
    · refine ep_cons (en_tup (ea_cons (ev_var rfl) (ea_cons (ev_var rfl) ea_nil)) (by show 2 ≤ 100000; decide)) (ep_cons (en_tup (ea_cons (ev_var rfl) (ea_cons (ev_var rfl) ea_nil)) (by show 2 ≤ 100000; decide)) (ep_cons (en_tup (ea_cons (ev_var rfl) (ea_cons (ev_var rfl) ea_nil)) (by show 2 ≤ 100000; decide)) (ep_cons (en_tup (ea_cons (ev_var rfl) (ea_cons (ev_var rfl) ea_nil)) (by show 2 ≤ 100000; decide)) ep_nil)))
    · rintro i p σ H6 N hp ⟨l, r, rfl⟩ e6 hN
      have key : ∃ u v, p = (sv u, sv v) ∧ Vec u ∧ Vec v := by
        have hm := List.mem_of_getElem? hp
        simp only [List.mem_cons, List.not_mem_nil, or_false] at hm
        rcases hm with rfl | rfl | rfl | rfl
        · exact ⟨_, _, rfl, hone, htwo⟩
        · exact ⟨_, _, rfl, htwo, hone⟩
        · exact ⟨_, _, rfl, hone, hone⟩
        · exact ⟨_, _, rfl, hone, hnear⟩
      obtain ⟨u, v, rfl, hu, hv⟩ := key
      dsimp only
      refine st_no (et_is (et_or (et_not (et_B (ev_call (u, v) (ea_cons (ev_var rfl) (ea_cons (ev_var rfl) ea_nil)) ⟨hu, hv⟩))) fun _ => et_not (et_B (ev_call (u, v) (ea_cons (ev_var rfl) (ea_cons (ev_var rfl) ea_nil)) ⟨hu, hv⟩))) rfl) (Ex.refl e6.good) ?_
      intro H7 e7
      exact hN _ _ e7 ⟨_, _, rfl⟩
    · rintro σ H6 e6 ⟨l, r, rfl⟩
      dsimp only
      refine st_no (et_is (et_or (et_ne (ev_call (one, amount) (ea_cons (ev_var rfl) (ea_cons (ev_var rfl) ea_nil)) ⟨hone, hamount, show amount.length ≤ 8 by omega⟩) (ev_call (one, amount) (ea_cons (ev_var rfl) (ea_cons (ev_var rfl) ea_nil)) ⟨hone, hamount, show amount.length ≤ 8 by omega⟩) rfl) fun _ => et_ne (ev_call (one, amount) (ea_cons (ev_var rfl) (ea_cons (ev_var rfl) ea_nil)) ⟨hone, hamount, show amount.length ≤ 8 by omega⟩) (ev_call (one, amount) (ea_cons (ev_var rfl) (ea_cons (ev_var rfl) ea_nil)) ⟨hone, hamount, show amount.length ≤ 8 by omega⟩) rfl) rfl) e6 ?_
      intro H7 e7
      dsimp only
      refine st_ret ?_ e7 q
      exact ev_and (a := true) (b := true) (ev_eqT (ev_call (two, one.take 3) (ea_cons (ev_var rfl) (ea_cons (ev_slS (Nat.le_trans hone.le (by decide)) (ev_var rfl) eo_none (eo_some ev_c) (cutS_to one 3)) ea_nil)) ⟨htwo, take_vec hone⟩) (ev_call (two, one.take 3) (ea_cons (ev_var rfl) (ea_cons (ev_slS (Nat.le_trans hone.le (by decide)) (ev_var rfl) eo_none (eo_some ev_c) (cutS_to one 3)) ea_nil)) ⟨htwo, take_vec hone⟩)) fun _ => ev_eqT (ev_call (two, one.take 3) (ea_cons (ev_var rfl) (ea_cons (ev_slS (Nat.le_trans hone.le (by decide)) (ev_var rfl) eo_none (eo_some ev_c) (cutS_to one 3)) ea_nil)) ⟨htwo, take_vec hone⟩) (ev_call (two, one.take 3) (ea_cons (ev_var rfl) (ea_cons (ev_slS (Nat.le_trans hone.le (by decide)) (ev_var rfl) eo_none (eo_some ev_c) (cutS_to one 3)) ea_nil)) ⟨htwo, take_vec hone⟩)

end
end K03
set_option Elab.async false
set_option linter.all false
set_option maxRecDepth 100000
set_option maxHeartbeats 2000000
namespace K03
open PySem PySem.Spec PyProof.Rows L2 Cw
open GxR (TabG Tabbed TabB GenS)
open LamX (LawAtS)
/-- the table of the code object of the def called x is empty -/
def TabFact (K : PySem.W.Frag) (x : Str) (mg : Str → Option Value) (h : Heap) : Prop := ∀ (f c P : Addr) (o oc : Obj) (fd : FuncData) (vs : Array Value), mg x = some (.ref f) → K.lookup f = some o → o.data = .func fd → fd.code = .ref c → K.lookup c = some oc → oc.data = .fields vs → (vs[11]? : Option Value) = some (.ref P) →
  h.get? P = some { cls := .none, data := .fields #[] }
theorem walk_tab {l : PySem.W.OpenLaw} {n k : Nat} {q : Program} {loose : List Str} {XP : (Str → Option Value) → Heap → Prop} {YP : World → Heap → Prop} {d : DefRec} {K : Params → PySem.W.Frag} {y : Str} (xs : List Str)
    (hn : l.most = some n) (hn2 : n ≤ sizeLine) (hdf : d.params.defaults = []) (hr : Room k callerA) (hrec : (xs.all fun x => (recsOf q).any fun e => e.name == x) = true) (hY : ∀ (w : World) (h : Heap), YP w h → (K w.params).In h)
    (F : ∀ (w : World) (mg : Str → Option Value) (fa : Addr) (h : Heap), (K w.params).In h → h.Ns mainGlobals mg → mg d.name = some (.ref fa) → (∀ x ∈ xs, TabFact (K w.params) x mg h) → LawAtS l w (K w.params) CX0 k n y mg fa h) :
    PySem.W.WalkO q loose XP YP l.row.toRowW d [] (fun f vs => PySem.call f vs) := by
  refine Att.attach_callB hn hdf fun w s0 s1 mg mb fa o pm cd doc a vs ns G Y ho hd hcd hmg hobj hints hlen hbits hg => ?_
  have KX := hY w _ Y
  have own : ∀ x ∈ xs, TabFact (K w.params) x mg s1.heap := by
    intro x hx f c P of oc fd vs e1 e2 e3 e4 e5 e6 e7
    obtain ⟨r, hr1, hr2⟩ := List.any_eq_true.mp (List.all_eq_true.mp hrec x hx)
    obtain ⟨f', o', fd', c', P', h1, h2, h3, h4, _, ⟨⟨oc', vc, g1, _, g3, g4⟩, hP⟩⟩ := G.T.tab r hr1
    rw [beq_iff_eq.mp hr2, e1] at h1
    cases h1
    cases (KX _ _ e2).symm.trans h2
    cases e3.symm.trans h3
    cases e4.symm.trans h4
    cases (KX _ _ e5).symm.trans g1
    cases e6.symm.trans g3
    cases e7.symm.trans g4
    exact hP
  obtain ⟨fd, cs, sp, hT, nT, C, hb, hsp, hF⟩ := F w mg fa _ KX G.T.g hmg own
  exact LamX.law_callTs KX G.T.g G.T.b G.T.builtins G.T.nolimit hg hT nT C G.T.bmain hobj hints (Nat.le_trans hlen hn2) hr hF hb (fun H hH hS => hsp H a ns hlen hbits hH hS) fun H e s' z => z
theorem mem_isB {a : Nat} (h : IsB a) : a ∈ [48, 49, 120, 122] := by
  rcases h with rfl | rfl | rfl | rfl <;> decide
theorem all_mk {l : PySem.W.OpenLaw} {w : World} {K : PySem.W.Frag} {h : Heap} {mg : Str → Option Value} {fa : Addr} (X : K.In h) (G : h.Ns mainGlobals mg) (hfa : mg "law" = some (.ref fa)) (TF : ∀ x ∈ [("_consists_of" : Str)], TabFact K x mg h)
    {f_law_vector : Addr} {od_law_vector an_law_vector : Option Addr} {sl_law_vector : Array (Option Value)} {oc_law_vector kV_law_vector dc_law_vector pm_law_vector cd_law_vector ct_law_vector : Value}
    {f_law_numbers : Addr} {od_law_numbers an_law_numbers : Option Addr} {sl_law_numbers : Array (Option Value)} {oc_law_numbers kV_law_numbers dc_law_numbers pm_law_numbers cd_law_numbers ct_law_numbers : Value}
    {f_law_cell : Addr} {od_law_cell an_law_cell : Option Addr} {sl_law_cell : Array (Option Value)} {oc_law_cell kV_law_cell dc_law_cell pm_law_cell cd_law_cell ct_law_cell : Value}
    {f_consists_of : Addr} {od_consists_of an_consists_of : Option Addr} {sl_consists_of : Array (Option Value)} {oc_consists_of kV_consists_of dc_consists_of pm_consists_of ct_consists_of : Value}
    {f_is_known : Addr} {od_is_known an_is_known : Option Addr} {sl_is_known : Array (Option Value)} {oc_is_known kV_is_known dc_is_known pm_is_known cd_is_known ct_is_known : Value}
    {f_shift_left : Addr} {od_shift_left an_shift_left : Option Addr} {sl_shift_left : Array (Option Value)} {oc_shift_left kV_shift_left dc_shift_left pm_shift_left cd_shift_left ct_shift_left : Value}
    {f_law_known : Addr} {od_law_known an_law_known : Option Addr} {sl_law_known : Array (Option Value)} {oc_law_known kV_law_known dc_law_known pm_law_known cd_law_known ct_law_known : Value}
    {f_law_value : Addr} {od_law_value an_law_value : Option Addr} {sl_law_value : Array (Option Value)} {oc_law_value kV_law_value dc_law_value pm_law_value cd_law_value ct_law_value : Value}
    {f_law_left : Addr} {od_law_left an_law_left : Option Addr} {sl_law_left : Array (Option Value)} {oc_law_left kV_law_left dc_law_left pm_law_left cd_law_left ct_law_left : Value}
    {f_shift_right : Addr} {od_shift_right an_shift_right : Option Addr} {sl_shift_right : Array (Option Value)} {oc_shift_right kV_shift_right dc_shift_right pm_shift_right cd_shift_right ct_shift_right : Value}
    {f_law_right : Addr} {od_law_right an_law_right : Option Addr} {sl_law_right : Array (Option Value)} {oc_law_right kV_law_right dc_law_right pm_law_right cd_law_right ct_law_right : Value}
    {f_low_bits : Addr} {od_low_bits an_low_bits : Option Addr} {sl_low_bits : Array (Option Value)} {oc_low_bits kV_low_bits dc_low_bits pm_low_bits cd_low_bits ct_low_bits : Value}
    {f_both_known : Addr} {od_both_known an_both_known : Option Addr} {sl_both_known : Array (Option Value)} {oc_both_known kV_both_known dc_both_known pm_both_known cd_both_known ct_both_known : Value}
    {f_multiply : Addr} {od_multiply an_multiply : Option Addr} {sl_multiply : Array (Option Value)} {oc_multiply kV_multiply dc_multiply pm_multiply cd_multiply ct_multiply : Value}
    {f_law_bits : Addr} {od_law_bits an_law_bits : Option Addr} {sl_law_bits : Array (Option Value)} {oc_law_bits kV_law_bits dc_law_bits pm_law_bits cd_law_bits ct_law_bits : Value}
    {f_law_due : Addr} {od_law_due an_law_due : Option Addr} {sl_law_due : Array (Option Value)} {oc_law_due kV_law_due dc_law_due pm_law_due cd_law_due ct_law_due : Value}
    {f_subtract : Addr} {od_subtract an_subtract : Option Addr} {sl_subtract : Array (Option Value)} {oc_subtract kV_subtract dc_subtract pm_subtract cd_subtract ct_subtract : Value}
    {f_negate : Addr} {od_negate an_negate : Option Addr} {sl_negate : Array (Option Value)} {oc_negate kV_negate dc_negate pm_negate cd_negate ct_negate : Value}
    {f_add : Addr} {od_add an_add : Option Addr} {sl_add : Array (Option Value)} {oc_add kV_add dc_add pm_add cd_add ct_add : Value}
    {f_law_sums_hold : Addr} {od_law_sums_hold an_law_sums_hold : Option Addr} {sl_law_sums_hold : Array (Option Value)} {oc_law_sums_hold kV_law_sums_hold dc_law_sums_hold pm_law_sums_hold cd_law_sums_hold ct_law_sums_hold : Value}
    {f_extended : Addr} {od_extended an_extended : Option Addr} {sl_extended : Array (Option Value)} {oc_extended kV_extended dc_extended pm_extended cd_extended ct_extended : Value}
    {f_both_extended : Addr} {od_both_extended an_both_extended : Option Addr} {sl_both_extended : Array (Option Value)} {oc_both_extended kV_both_extended dc_both_extended pm_both_extended cd_both_extended ct_both_extended : Value}
    {f_bit : Addr} {od_bit an_bit : Option Addr} {sl_bit : Array (Option Value)} {oc_bit kV_bit dc_bit pm_bit cd_bit ct_bit : Value}
    {f_same : Addr} {od_same an_same : Option Addr} {sl_same : Array (Option Value)} {oc_same kV_same dc_same pm_same cd_same ct_same : Value}
    {f_less : Addr} {od_less an_less : Option Addr} {sl_less : Array (Option Value)} {oc_less kV_less dc_less pm_less cd_less ct_less : Value}
    {f_law_truth : Addr} {od_law_truth an_law_truth : Option Addr} {sl_law_truth : Array (Option Value)} {oc_law_truth kV_law_truth dc_law_truth pm_law_truth cd_law_truth ct_law_truth : Value}
    {f_less_equal : Addr} {od_less_equal an_less_equal : Option Addr} {sl_less_equal : Array (Option Value)} {oc_less_equal kV_less_equal dc_less_equal pm_less_equal cd_less_equal ct_less_equal : Value}
    {f_equal : Addr} {od_equal an_equal : Option Addr} {sl_equal : Array (Option Value)} {oc_equal kV_equal dc_equal pm_equal cd_equal ct_equal : Value}
    {f_bit_not : Addr} {od_bit_not an_bit_not : Option Addr} {sl_bit_not : Array (Option Value)} {oc_bit_not kV_bit_not dc_bit_not pm_bit_not cd_bit_not ct_bit_not : Value}
    {f_not_equal : Addr} {od_not_equal an_not_equal : Option Addr} {sl_not_equal : Array (Option Value)} {oc_not_equal kV_not_equal dc_not_equal pm_not_equal cd_not_equal ct_not_equal : Value}
    {f_law_orders_hold : Addr} {od_law_orders_hold an_law_orders_hold : Option Addr} {sl_law_orders_hold : Array (Option Value)} {oc_law_orders_hold kV_law_orders_hold dc_law_orders_hold pm_law_orders_hold cd_law_orders_hold ct_law_orders_hold : Value}
    {f_law : Addr} {od_law an_law : Option Addr} {sl_law : Array (Option Value)} {oc_law kV_law dc_law pm_law cd_law ct_law : Value}
    {cT_consists_of Pt_consists_of : Addr} {ccT_consists_of : Value} {cdT_consists_of : Option Addr} {vsT_consists_of : Array Value} {cslT_consists_of : Array (Option Value)}
    {pN : Addr} {esN : Array DictEntry} {nN : Nat}
    (a_law_vector : PySem.W.nsIn K mainGlobals "_law_vector" = some (some (.ref f_law_vector)))
    (l_law_vector : K.lookup f_law_vector = some ⟨oc_law_vector, od_law_vector, .func (PySem.W.fnOf "_law_vector" "_law_vector" (defArgs s_law_vector) (defBody s_law_vector) (defScope s_law_vector) .none kV_law_vector dc_law_vector pm_law_vector an_law_vector cd_law_vector ct_law_vector), sl_law_vector⟩)
    (c_law_vector : PySem.W.codeIn K cd_law_vector "_law_vector" = true)
    (k_law_vector : PySem.W.keepIn K (.ref f_law_vector) = true)
    (a_law_numbers : PySem.W.nsIn K mainGlobals "_law_numbers" = some (some (.ref f_law_numbers)))
    (l_law_numbers : K.lookup f_law_numbers = some ⟨oc_law_numbers, od_law_numbers, .func (PySem.W.fnOf "_law_numbers" "_law_numbers" (defArgs s_law_numbers) (defBody s_law_numbers) (defScope s_law_numbers) .none kV_law_numbers dc_law_numbers pm_law_numbers an_law_numbers cd_law_numbers ct_law_numbers), sl_law_numbers⟩)
    (c_law_numbers : PySem.W.codeIn K cd_law_numbers "_law_numbers" = true)
    (k_law_numbers : PySem.W.keepIn K (.ref f_law_numbers) = true)
    (a_law_cell : PySem.W.nsIn K mainGlobals "_law_cell" = some (some (.ref f_law_cell)))
    (l_law_cell : K.lookup f_law_cell = some ⟨oc_law_cell, od_law_cell, .func (PySem.W.fnOf "_law_cell" "_law_cell" (defArgs s_law_cell) (defBody s_law_cell) (defScope s_law_cell) .none kV_law_cell dc_law_cell pm_law_cell an_law_cell cd_law_cell ct_law_cell), sl_law_cell⟩)
    (c_law_cell : PySem.W.codeIn K cd_law_cell "_law_cell" = true)
    (k_law_cell : PySem.W.keepIn K (.ref f_law_cell) = true)
    (a_consists_of : PySem.W.nsIn K mainGlobals "_consists_of" = some (some (.ref f_consists_of)))
    (l_consists_of : K.lookup f_consists_of = some ⟨oc_consists_of, od_consists_of, .func (PySem.W.fnOf "_consists_of" "_consists_of" (defArgs s_consists_of) (defBody s_consists_of) (defScope s_consists_of) .none kV_consists_of dc_consists_of pm_consists_of an_consists_of (.ref cT_consists_of) ct_consists_of), sl_consists_of⟩)
    (c_consists_of : PySem.W.codeIn K (.ref cT_consists_of) "_consists_of" = true)
    (k_consists_of : PySem.W.keepIn K (.ref f_consists_of) = true)
    (a_is_known : PySem.W.nsIn K mainGlobals "is_known" = some (some (.ref f_is_known)))
    (l_is_known : K.lookup f_is_known = some ⟨oc_is_known, od_is_known, .func (PySem.W.fnOf "is_known" "is_known" (defArgs s_is_known) (defBody s_is_known) (defScope s_is_known) .none kV_is_known dc_is_known pm_is_known an_is_known cd_is_known ct_is_known), sl_is_known⟩)
    (c_is_known : PySem.W.codeIn K cd_is_known "is_known" = true)
    (k_is_known : PySem.W.keepIn K (.ref f_is_known) = true)
    (a_shift_left : PySem.W.nsIn K mainGlobals "shift_left" = some (some (.ref f_shift_left)))
    (l_shift_left : K.lookup f_shift_left = some ⟨oc_shift_left, od_shift_left, .func (PySem.W.fnOf "shift_left" "shift_left" (defArgs s_shift_left) (defBody s_shift_left) (defScope s_shift_left) .none kV_shift_left dc_shift_left pm_shift_left an_shift_left cd_shift_left ct_shift_left), sl_shift_left⟩)
    (c_shift_left : PySem.W.codeIn K cd_shift_left "shift_left" = true)
    (k_shift_left : PySem.W.keepIn K (.ref f_shift_left) = true)
    (a_law_known : PySem.W.nsIn K mainGlobals "_law_known" = some (some (.ref f_law_known)))
    (l_law_known : K.lookup f_law_known = some ⟨oc_law_known, od_law_known, .func (PySem.W.fnOf "_law_known" "_law_known" (defArgs s_law_known) (defBody s_law_known) (defScope s_law_known) .none kV_law_known dc_law_known pm_law_known an_law_known cd_law_known ct_law_known), sl_law_known⟩)
    (c_law_known : PySem.W.codeIn K cd_law_known "_law_known" = true)
    (k_law_known : PySem.W.keepIn K (.ref f_law_known) = true)
    (a_law_value : PySem.W.nsIn K mainGlobals "_law_value" = some (some (.ref f_law_value)))
    (l_law_value : K.lookup f_law_value = some ⟨oc_law_value, od_law_value, .func (PySem.W.fnOf "_law_value" "_law_value" (defArgs s_law_value) (defBody s_law_value) (defScope s_law_value) .none kV_law_value dc_law_value pm_law_value an_law_value cd_law_value ct_law_value), sl_law_value⟩)
    (c_law_value : PySem.W.codeIn K cd_law_value "_law_value" = true)
    (k_law_value : PySem.W.keepIn K (.ref f_law_value) = true)
    (a_law_left : PySem.W.nsIn K mainGlobals "_law_left" = some (some (.ref f_law_left)))
    (l_law_left : K.lookup f_law_left = some ⟨oc_law_left, od_law_left, .func (PySem.W.fnOf "_law_left" "_law_left" (defArgs s_law_left) (defBody s_law_left) (defScope s_law_left) .none kV_law_left dc_law_left pm_law_left an_law_left cd_law_left ct_law_left), sl_law_left⟩)
    (c_law_left : PySem.W.codeIn K cd_law_left "_law_left" = true)
    (k_law_left : PySem.W.keepIn K (.ref f_law_left) = true)
    (a_shift_right : PySem.W.nsIn K mainGlobals "shift_right" = some (some (.ref f_shift_right)))
    (l_shift_right : K.lookup f_shift_right = some ⟨oc_shift_right, od_shift_right, .func (PySem.W.fnOf "shift_right" "shift_right" (defArgs s_shift_right) (defBody s_shift_right) (defScope s_shift_right) .none kV_shift_right dc_shift_right pm_shift_right an_shift_right cd_shift_right ct_shift_right), sl_shift_right⟩)
    (c_shift_right : PySem.W.codeIn K cd_shift_right "shift_right" = true)
    (k_shift_right : PySem.W.keepIn K (.ref f_shift_right) = true)
    (a_law_right : PySem.W.nsIn K mainGlobals "_law_right" = some (some (.ref f_law_right)))
    (l_law_right : K.lookup f_law_right = some ⟨oc_law_right, od_law_right, .func (PySem.W.fnOf "_law_right" "_law_right" (defArgs s_law_right) (defBody s_law_right) (defScope s_law_right) .none kV_law_right dc_law_right pm_law_right an_law_right cd_law_right ct_law_right), sl_law_right⟩)
    (c_law_right : PySem.W.codeIn K cd_law_right "_law_right" = true)
    (k_law_right : PySem.W.keepIn K (.ref f_law_right) = true)
    (a_low_bits : PySem.W.nsIn K mainGlobals "_low_bits" = some (some (.ref f_low_bits)))
    (l_low_bits : K.lookup f_low_bits = some ⟨oc_low_bits, od_low_bits, .func (PySem.W.fnOf "_low_bits" "_low_bits" (defArgs s_low_bits) (defBody s_low_bits) (defScope s_low_bits) .none kV_low_bits dc_low_bits pm_low_bits an_low_bits cd_low_bits ct_low_bits), sl_low_bits⟩)
    (c_low_bits : PySem.W.codeIn K cd_low_bits "_low_bits" = true)
    (k_low_bits : PySem.W.keepIn K (.ref f_low_bits) = true)
    (a_both_known : PySem.W.nsIn K mainGlobals "_both_known" = some (some (.ref f_both_known)))
    (l_both_known : K.lookup f_both_known = some ⟨oc_both_known, od_both_known, .func (PySem.W.fnOf "_both_known" "_both_known" (defArgs s_both_known) (defBody s_both_known) (defScope s_both_known) .none kV_both_known dc_both_known pm_both_known an_both_known cd_both_known ct_both_known), sl_both_known⟩)
    (c_both_known : PySem.W.codeIn K cd_both_known "_both_known" = true)
    (k_both_known : PySem.W.keepIn K (.ref f_both_known) = true)
    (a_multiply : PySem.W.nsIn K mainGlobals "multiply" = some (some (.ref f_multiply)))
    (l_multiply : K.lookup f_multiply = some ⟨oc_multiply, od_multiply, .func (PySem.W.fnOf "multiply" "multiply" (defArgs s_multiply) (defBody s_multiply) (defScope s_multiply) .none kV_multiply dc_multiply pm_multiply an_multiply cd_multiply ct_multiply), sl_multiply⟩)
    (c_multiply : PySem.W.codeIn K cd_multiply "multiply" = true)
    (k_multiply : PySem.W.keepIn K (.ref f_multiply) = true)
    (a_law_bits : PySem.W.nsIn K mainGlobals "_law_bits" = some (some (.ref f_law_bits)))
    (l_law_bits : K.lookup f_law_bits = some ⟨oc_law_bits, od_law_bits, .func (PySem.W.fnOf "_law_bits" "_law_bits" (defArgs s_law_bits) (defBody s_law_bits) (defScope s_law_bits) .none kV_law_bits dc_law_bits pm_law_bits an_law_bits cd_law_bits ct_law_bits), sl_law_bits⟩)
    (c_law_bits : PySem.W.codeIn K cd_law_bits "_law_bits" = true)
    (k_law_bits : PySem.W.keepIn K (.ref f_law_bits) = true)
    (a_law_due : PySem.W.nsIn K mainGlobals "_law_due" = some (some (.ref f_law_due)))
    (l_law_due : K.lookup f_law_due = some ⟨oc_law_due, od_law_due, .func (PySem.W.fnOf "_law_due" "_law_due" (defArgs s_law_due) (defBody s_law_due) (defScope s_law_due) .none kV_law_due dc_law_due pm_law_due an_law_due cd_law_due ct_law_due), sl_law_due⟩)
    (c_law_due : PySem.W.codeIn K cd_law_due "_law_due" = true)
    (k_law_due : PySem.W.keepIn K (.ref f_law_due) = true)
    (a_subtract : PySem.W.nsIn K mainGlobals "subtract" = some (some (.ref f_subtract)))
    (l_subtract : K.lookup f_subtract = some ⟨oc_subtract, od_subtract, .func (PySem.W.fnOf "subtract" "subtract" (defArgs s_subtract) (defBody s_subtract) (defScope s_subtract) .none kV_subtract dc_subtract pm_subtract an_subtract cd_subtract ct_subtract), sl_subtract⟩)
    (c_subtract : PySem.W.codeIn K cd_subtract "subtract" = true)
    (k_subtract : PySem.W.keepIn K (.ref f_subtract) = true)
    (a_negate : PySem.W.nsIn K mainGlobals "negate" = some (some (.ref f_negate)))
    (l_negate : K.lookup f_negate = some ⟨oc_negate, od_negate, .func (PySem.W.fnOf "negate" "negate" (defArgs s_negate) (defBody s_negate) (defScope s_negate) .none kV_negate dc_negate pm_negate an_negate cd_negate ct_negate), sl_negate⟩)
    (c_negate : PySem.W.codeIn K cd_negate "negate" = true)
    (k_negate : PySem.W.keepIn K (.ref f_negate) = true)
    (a_add : PySem.W.nsIn K mainGlobals "add" = some (some (.ref f_add)))
    (l_add : K.lookup f_add = some ⟨oc_add, od_add, .func (PySem.W.fnOf "add" "add" (defArgs s_add) (defBody s_add) (defScope s_add) .none kV_add dc_add pm_add an_add cd_add ct_add), sl_add⟩)
    (c_add : PySem.W.codeIn K cd_add "add" = true)
    (k_add : PySem.W.keepIn K (.ref f_add) = true)
    (a_law_sums_hold : PySem.W.nsIn K mainGlobals "_law_sums_hold" = some (some (.ref f_law_sums_hold)))
    (l_law_sums_hold : K.lookup f_law_sums_hold = some ⟨oc_law_sums_hold, od_law_sums_hold, .func (PySem.W.fnOf "_law_sums_hold" "_law_sums_hold" (defArgs s_law_sums_hold) (defBody s_law_sums_hold) (defScope s_law_sums_hold) .none kV_law_sums_hold dc_law_sums_hold pm_law_sums_hold an_law_sums_hold cd_law_sums_hold ct_law_sums_hold), sl_law_sums_hold⟩)
    (c_law_sums_hold : PySem.W.codeIn K cd_law_sums_hold "_law_sums_hold" = true)
    (k_law_sums_hold : PySem.W.keepIn K (.ref f_law_sums_hold) = true)
    (a_extended : PySem.W.nsIn K mainGlobals "_extended" = some (some (.ref f_extended)))
    (l_extended : K.lookup f_extended = some ⟨oc_extended, od_extended, .func (PySem.W.fnOf "_extended" "_extended" (defArgs s_extended) (defBody s_extended) (defScope s_extended) .none kV_extended dc_extended pm_extended an_extended cd_extended ct_extended), sl_extended⟩)
    (c_extended : PySem.W.codeIn K cd_extended "_extended" = true)
    (k_extended : PySem.W.keepIn K (.ref f_extended) = true)
    (a_both_extended : PySem.W.nsIn K mainGlobals "_both_extended" = some (some (.ref f_both_extended)))
    (l_both_extended : K.lookup f_both_extended = some ⟨oc_both_extended, od_both_extended, .func (PySem.W.fnOf "_both_extended" "_both_extended" (defArgs s_both_extended) (defBody s_both_extended) (defScope s_both_extended) .none kV_both_extended dc_both_extended pm_both_extended an_both_extended cd_both_extended ct_both_extended), sl_both_extended⟩)
    (c_both_extended : PySem.W.codeIn K cd_both_extended "_both_extended" = true)
    (k_both_extended : PySem.W.keepIn K (.ref f_both_extended) = true)
    (a_bit : PySem.W.nsIn K mainGlobals "_bit" = some (some (.ref f_bit)))
    (l_bit : K.lookup f_bit = some ⟨oc_bit, od_bit, .func (PySem.W.fnOf "_bit" "_bit" (defArgs s_bit) (defBody s_bit) (defScope s_bit) .none kV_bit dc_bit pm_bit an_bit cd_bit ct_bit), sl_bit⟩)
    (c_bit : PySem.W.codeIn K cd_bit "_bit" = true)
    (k_bit : PySem.W.keepIn K (.ref f_bit) = true)
    (a_same : PySem.W.nsIn K mainGlobals "same" = some (some (.ref f_same)))
    (l_same : K.lookup f_same = some ⟨oc_same, od_same, .func (PySem.W.fnOf "same" "same" (defArgs s_same) (defBody s_same) (defScope s_same) .none kV_same dc_same pm_same an_same cd_same ct_same), sl_same⟩)
    (c_same : PySem.W.codeIn K cd_same "same" = true)
    (k_same : PySem.W.keepIn K (.ref f_same) = true)
    (a_less : PySem.W.nsIn K mainGlobals "less" = some (some (.ref f_less)))
    (l_less : K.lookup f_less = some ⟨oc_less, od_less, .func (PySem.W.fnOf "less" "less" (defArgs s_less) (defBody s_less) (defScope s_less) .none kV_less dc_less pm_less an_less cd_less ct_less), sl_less⟩)
    (c_less : PySem.W.codeIn K cd_less "less" = true)
    (k_less : PySem.W.keepIn K (.ref f_less) = true)
    (a_law_truth : PySem.W.nsIn K mainGlobals "_law_truth" = some (some (.ref f_law_truth)))
    (l_law_truth : K.lookup f_law_truth = some ⟨oc_law_truth, od_law_truth, .func (PySem.W.fnOf "_law_truth" "_law_truth" (defArgs s_law_truth) (defBody s_law_truth) (defScope s_law_truth) .none kV_law_truth dc_law_truth pm_law_truth an_law_truth cd_law_truth ct_law_truth), sl_law_truth⟩)
    (c_law_truth : PySem.W.codeIn K cd_law_truth "_law_truth" = true)
    (k_law_truth : PySem.W.keepIn K (.ref f_law_truth) = true)
    (a_less_equal : PySem.W.nsIn K mainGlobals "less_equal" = some (some (.ref f_less_equal)))
    (l_less_equal : K.lookup f_less_equal = some ⟨oc_less_equal, od_less_equal, .func (PySem.W.fnOf "less_equal" "less_equal" (defArgs s_less_equal) (defBody s_less_equal) (defScope s_less_equal) .none kV_less_equal dc_less_equal pm_less_equal an_less_equal cd_less_equal ct_less_equal), sl_less_equal⟩)
    (c_less_equal : PySem.W.codeIn K cd_less_equal "less_equal" = true)
    (k_less_equal : PySem.W.keepIn K (.ref f_less_equal) = true)
    (a_equal : PySem.W.nsIn K mainGlobals "equal" = some (some (.ref f_equal)))
    (l_equal : K.lookup f_equal = some ⟨oc_equal, od_equal, .func (PySem.W.fnOf "equal" "equal" (defArgs s_equal) (defBody s_equal) (defScope s_equal) .none kV_equal dc_equal pm_equal an_equal cd_equal ct_equal), sl_equal⟩)
    (c_equal : PySem.W.codeIn K cd_equal "equal" = true)
    (k_equal : PySem.W.keepIn K (.ref f_equal) = true)
    (a_bit_not : PySem.W.nsIn K mainGlobals "bit_not" = some (some (.ref f_bit_not)))
    (l_bit_not : K.lookup f_bit_not = some ⟨oc_bit_not, od_bit_not, .func (PySem.W.fnOf "bit_not" "bit_not" (defArgs s_bit_not) (defBody s_bit_not) (defScope s_bit_not) .none kV_bit_not dc_bit_not pm_bit_not an_bit_not cd_bit_not ct_bit_not), sl_bit_not⟩)
    (c_bit_not : PySem.W.codeIn K cd_bit_not "bit_not" = true)
    (k_bit_not : PySem.W.keepIn K (.ref f_bit_not) = true)
    (a_not_equal : PySem.W.nsIn K mainGlobals "not_equal" = some (some (.ref f_not_equal)))
    (l_not_equal : K.lookup f_not_equal = some ⟨oc_not_equal, od_not_equal, .func (PySem.W.fnOf "not_equal" "not_equal" (defArgs s_not_equal) (defBody s_not_equal) (defScope s_not_equal) .none kV_not_equal dc_not_equal pm_not_equal an_not_equal cd_not_equal ct_not_equal), sl_not_equal⟩)
    (c_not_equal : PySem.W.codeIn K cd_not_equal "not_equal" = true)
    (k_not_equal : PySem.W.keepIn K (.ref f_not_equal) = true)
    (a_law_orders_hold : PySem.W.nsIn K mainGlobals "_law_orders_hold" = some (some (.ref f_law_orders_hold)))
    (l_law_orders_hold : K.lookup f_law_orders_hold = some ⟨oc_law_orders_hold, od_law_orders_hold, .func (PySem.W.fnOf "_law_orders_hold" "_law_orders_hold" (defArgs s_law_orders_hold) (defBody s_law_orders_hold) (defScope s_law_orders_hold) .none kV_law_orders_hold dc_law_orders_hold pm_law_orders_hold an_law_orders_hold cd_law_orders_hold ct_law_orders_hold), sl_law_orders_hold⟩)
    (c_law_orders_hold : PySem.W.codeIn K cd_law_orders_hold "_law_orders_hold" = true)
    (k_law_orders_hold : PySem.W.keepIn K (.ref f_law_orders_hold) = true)
    (a_law : PySem.W.nsIn K mainGlobals "law" = some (some (.ref f_law)))
    (l_law : K.lookup f_law = some ⟨oc_law, od_law, .func (PySem.W.fnOf "law" "law" (defArgs s_law) (defBody s_law) (defScope s_law) .none kV_law dc_law pm_law an_law cd_law ct_law), sl_law⟩)
    (c_law : PySem.W.codeIn K cd_law "law" = true)
    (k_law : PySem.W.keepIn K (.ref f_law) = true)
    (lT_consists_of : K.lookup cT_consists_of = some ⟨ccT_consists_of, cdT_consists_of, .fields vsT_consists_of, cslT_consists_of⟩)
    (eT_consists_of : (vsT_consists_of[11]? : Option Value) = some (.ref Pt_consists_of))
    (hT_consists_of : PySem.W.codeHdIn K cT_consists_of Pt_consists_of = true)
    (nT_consists_of : K.lookup Pt_consists_of = none)
    (z_len : PySem.W.nsIn K mainGlobals "len" = some none)
    (z_max : PySem.W.nsIn K mainGlobals "max" = some none)
    (z_min : PySem.W.nsIn K mainGlobals "min" = some none)
    (z_all : PySem.W.nsIn K mainGlobals "all" = some none)
    (z_range : PySem.W.nsIn K mainGlobals "range" = some none)
    (z_abs : PySem.W.nsIn K mainGlobals "abs" = some none)
    (z_int : PySem.W.nsIn K mainGlobals "int" = some none)
    (z_str : PySem.W.nsIn K mainGlobals "str" = some none)
    (g_N : PySem.W.nsIn K mainGlobals "NOT_BITS" = some (some (.ref pN)))
    (d_N : K.lookup pN = some ⟨.type "dict", none, .dict esN nN, #[]⟩)
    (e_N : PySem.W.KeysLit w.params esN.toList)
    (t_N : ∀ a ∈ [48, 49, 120, 122], ∃ t, PySem.W.nsIn K pN (S [a]) = some (some (.str (S [notB a]) t))) :
    LawAtS l w K CX0 7 63 "script" mg fa h := by
  have efa := hfa.symm.trans (PySem.W.mg_of X G a_law)
  cases efa
  have T : Txt mg K w pN := ⟨PySem.W.mg_none_of X G z_len, PySem.W.mg_none_of X G z_max, PySem.W.mg_none_of X G z_min, PySem.W.mg_none_of X G z_all, PySem.W.mg_none_of X G z_range, PySem.W.mg_none_of X G z_abs, PySem.W.mg_none_of X G z_int, PySem.W.mg_none_of X G z_str, PySem.W.mg_of X G g_N, fun a ha => (t_N a (mem_isB ha)).elim fun t e => ⟨_, _, _, d_N, e_N, e, t, rfl⟩⟩
  have F_law_vector := fun_mk (st := s_law_vector) l_law_vector c_law_vector k_law_vector
  have B_law_vector := F_law_vector.binds (ps := ["numbers", "size", "plain"]) fun _ _ _ _ _ _ us hl => match us, hl with | [_, _, _], _ => rfl
  have F_law_numbers := fun_mk (st := s_law_numbers) l_law_numbers c_law_numbers k_law_numbers
  have B_law_numbers := F_law_numbers.binds (ps := ["script", "base", "many"]) fun _ _ _ _ _ _ us hl => match us, hl with | [_, _, _], _ => rfl
  have F_law_cell := fun_mk (st := s_law_cell) l_law_cell c_law_cell k_law_cell
  have B_law_cell := F_law_cell.binds (ps := ["script", "k"]) fun _ _ _ _ _ _ us hl => match us, hl with | [_, _], _ => rfl
  have F_consists_of := fun_mk (st := s_consists_of) l_consists_of c_consists_of k_consists_of
  have B_consists_of := F_consists_of.binds (ps := ["text", "characters"]) fun _ _ _ _ _ _ us hl => match us, hl with | [_, _], _ => rfl
  have F_is_known := fun_mk (st := s_is_known) l_is_known c_is_known k_is_known
  have B_is_known := F_is_known.binds (ps := ["vector"]) fun _ _ _ _ _ _ us hl => match us, hl with | [_], _ => rfl
  have F_shift_left := fun_mk (st := s_shift_left) l_shift_left c_shift_left k_shift_left
  have B_shift_left := F_shift_left.binds (ps := ["vector", "amount"]) fun _ _ _ _ _ _ us hl => match us, hl with | [_, _], _ => rfl
  have F_law_known := fun_mk (st := s_law_known) l_law_known c_law_known k_law_known
  have B_law_known := F_law_known.binds (ps := ["vector"]) fun _ _ _ _ _ _ us hl => match us, hl with | [_], _ => rfl
  have F_law_value := fun_mk (st := s_law_value) l_law_value c_law_value k_law_value
  have B_law_value := F_law_value.binds (ps := ["vector"]) fun _ _ _ _ _ _ us hl => match us, hl with | [_], _ => rfl
  have F_law_left := fun_mk (st := s_law_left) l_law_left c_law_left k_law_left
  have B_law_left := F_law_left.binds (ps := ["vector", "amount"]) fun _ _ _ _ _ _ us hl => match us, hl with | [_, _], _ => rfl
  have F_shift_right := fun_mk (st := s_shift_right) l_shift_right c_shift_right k_shift_right
  have B_shift_right := F_shift_right.binds (ps := ["vector", "amount"]) fun _ _ _ _ _ _ us hl => match us, hl with | [_, _], _ => rfl
  have F_law_right := fun_mk (st := s_law_right) l_law_right c_law_right k_law_right
  have B_law_right := F_law_right.binds (ps := ["vector", "amount"]) fun _ _ _ _ _ _ us hl => match us, hl with | [_, _], _ => rfl
  have F_low_bits := fun_mk (st := s_low_bits) l_low_bits c_low_bits k_low_bits
  have B_low_bits := F_low_bits.binds (ps := ["number", "width"]) fun _ _ _ _ _ _ us hl => match us, hl with | [_, _], _ => rfl
  have F_both_known := fun_mk (st := s_both_known) l_both_known c_both_known k_both_known
  have B_both_known := F_both_known.binds (ps := ["one", "two"]) fun _ _ _ _ _ _ us hl => match us, hl with | [_, _], _ => rfl
  have F_multiply := fun_mk (st := s_multiply) l_multiply c_multiply k_multiply
  have B_multiply := F_multiply.binds (ps := ["one", "two"]) fun _ _ _ _ _ _ us hl => match us, hl with | [_, _], _ => rfl
  have F_law_bits := fun_mk (st := s_law_bits) l_law_bits c_law_bits k_law_bits
  have B_law_bits := F_law_bits.binds (ps := ["number", "width"]) fun _ _ _ _ _ _ us hl => match us, hl with | [_, _], _ => rfl
  have F_law_due := fun_mk (st := s_law_due) l_law_due c_law_due k_law_due
  have B_law_due := F_law_due.binds (ps := ["known", "number", "width"]) fun _ _ _ _ _ _ us hl => match us, hl with | [_, _, _], _ => rfl
  have F_subtract := fun_mk (st := s_subtract) l_subtract c_subtract k_subtract
  have B_subtract := F_subtract.binds (ps := ["one", "two"]) fun _ _ _ _ _ _ us hl => match us, hl with | [_, _], _ => rfl
  have F_negate := fun_mk (st := s_negate) l_negate c_negate k_negate
  have B_negate := F_negate.binds (ps := ["vector"]) fun _ _ _ _ _ _ us hl => match us, hl with | [_], _ => rfl
  have F_add := fun_mk (st := s_add) l_add c_add k_add
  have B_add := F_add.binds (ps := ["one", "two"]) fun _ _ _ _ _ _ us hl => match us, hl with | [_, _], _ => rfl
  have F_law_sums_hold := fun_mk (st := s_law_sums_hold) l_law_sums_hold c_law_sums_hold k_law_sums_hold
  have B_law_sums_hold := F_law_sums_hold.binds (ps := ["one", "two"]) fun _ _ _ _ _ _ us hl => match us, hl with | [_, _], _ => rfl
  have F_extended := fun_mk (st := s_extended) l_extended c_extended k_extended
  have B_extended := F_extended.binds (ps := ["vector", "width"]) fun _ _ _ _ _ _ us hl => match us, hl with | [_, _], _ => rfl
  have F_both_extended := fun_mk (st := s_both_extended) l_both_extended c_both_extended k_both_extended
  have B_both_extended := F_both_extended.binds (ps := ["one", "two"]) fun _ _ _ _ _ _ us hl => match us, hl with | [_, _], _ => rfl
  have F_bit := fun_mk (st := s_bit) l_bit c_bit k_bit
  have B_bit := F_bit.binds (ps := ["holds"]) fun _ _ _ _ _ _ us hl => match us, hl with | [_], _ => rfl
  have F_same := fun_mk (st := s_same) l_same c_same k_same
  have B_same := F_same.binds (ps := ["one", "two"]) fun _ _ _ _ _ _ us hl => match us, hl with | [_, _], _ => rfl
  have F_less := fun_mk (st := s_less) l_less c_less k_less
  have B_less := F_less.binds (ps := ["one", "two"]) fun _ _ _ _ _ _ us hl => match us, hl with | [_, _], _ => rfl
  have F_law_truth := fun_mk (st := s_law_truth) l_law_truth c_law_truth k_law_truth
  have B_law_truth := F_law_truth.binds (ps := ["known", "holds"]) fun _ _ _ _ _ _ us hl => match us, hl with | [_, _], _ => rfl
  have F_less_equal := fun_mk (st := s_less_equal) l_less_equal c_less_equal k_less_equal
  have B_less_equal := F_less_equal.binds (ps := ["one", "two"]) fun _ _ _ _ _ _ us hl => match us, hl with | [_, _], _ => rfl
  have F_equal := fun_mk (st := s_equal) l_equal c_equal k_equal
  have B_equal := F_equal.binds (ps := ["one", "two"]) fun _ _ _ _ _ _ us hl => match us, hl with | [_, _], _ => rfl
  have F_bit_not := fun_mk (st := s_bit_not) l_bit_not c_bit_not k_bit_not
  have B_bit_not := F_bit_not.binds (ps := ["vector"]) fun _ _ _ _ _ _ us hl => match us, hl with | [_], _ => rfl
  have F_not_equal := fun_mk (st := s_not_equal) l_not_equal c_not_equal k_not_equal
  have B_not_equal := F_not_equal.binds (ps := ["one", "two"]) fun _ _ _ _ _ _ us hl => match us, hl with | [_, _], _ => rfl
  have F_law_orders_hold := fun_mk (st := s_law_orders_hold) l_law_orders_hold c_law_orders_hold k_law_orders_hold
  have B_law_orders_hold := F_law_orders_hold.binds (ps := ["one", "two"]) fun _ _ _ _ _ _ us hl => match us, hl with | [_, _], _ => rfl
  have F_law := fun_mk (st := s_law) l_law c_law k_law
  have B_law := F_law.binds (ps := ["script"]) fun _ _ _ _ _ _ us hl => match us, hl with | [_], _ => rfl
  refine ⟨PySem.W.fnOf "law" "law" (defArgs s_law) (defBody s_law) (defScope s_law) .none kV_law dc_law pm_law an_law cd_law ct_law, [(cT_consists_of, Pt_consists_of)], sp_law K [Pt_consists_of], ?_, ?_, ?_, fun s v => .of_eq rfl, ?_, ?_⟩
  · intro p hp
    rw [List.mem_singleton.mp hp]
    exact TF _ (by simp) _ _ _ _ _ _ _ (PySem.W.mg_of X G a_consists_of) l_consists_of rfl rfl lT_consists_of rfl eT_consists_of
  · intro p hp
    rw [List.mem_singleton.mp hp]
    exact nT_consists_of
  · intro p hp
    rw [List.mem_singleton.mp hp]
    exact PySem.W.codeHd_of_K X hT_consists_of
  · intro H a ns _ _ hH hS
    refine ⟨(a, ns), rfl, hS, fun P hP => ?_, fun _ _ => rfl⟩
    rw [List.mem_singleton.mp hP]
    exact ⟨#[], hH (cT_consists_of, Pt_consists_of) (List.mem_singleton.mpr rfl), trivial⟩
  · intro base XB GB TB
    have C_law_vector : Callee l.prog w K mg base "_law_vector" 1 ["numbers", "size", "plain"] (sp_law_vector K [Pt_consists_of]) := ⟨⟨_, _, ok_law_vector F_law_vector T , PySem.W.mg_of X G a_law_vector, k_law_vector, B_law_vector⟩⟩
    have C_law_numbers : Callee l.prog w K mg base "_law_numbers" 1 ["script", "base", "many"] (sp_law_numbers K [Pt_consists_of]) := ⟨⟨_, _, ok_law_numbers F_law_numbers T , PySem.W.mg_of X G a_law_numbers, k_law_numbers, B_law_numbers⟩⟩
    have C_law_cell : Callee l.prog w K mg base "_law_cell" 1 ["script", "k"] (sp_law_cell K [Pt_consists_of]) := ⟨⟨_, _, ok_law_cell F_law_cell T , PySem.W.mg_of X G a_law_cell, k_law_cell, B_law_cell⟩⟩
    have TB_consists_of : TabB base mg cT_consists_of Pt_consists_of := by
      have z := TB (cT_consists_of, Pt_consists_of) (by simp)
      exact ⟨z.1, z.2, z.3⟩
    have C_consists_of : Callee l.prog w K mg base "_consists_of" 1 ["text", "characters"] (sp_consists_of K [Pt_consists_of]) := ⟨⟨_, _, ok_consists_of l_consists_of c_consists_of TB_consists_of (by simp) T , PySem.W.mg_of X G a_consists_of, k_consists_of, B_consists_of⟩⟩
    have C_is_known : Callee l.prog w K mg base "is_known" 2 ["vector"] (sp_is_known K [Pt_consists_of]) := ⟨⟨_, _, ok_is_known F_is_known T C_consists_of, PySem.W.mg_of X G a_is_known, k_is_known, B_is_known⟩⟩
    have C_shift_left : Callee l.prog w K mg base "shift_left" 3 ["vector", "amount"] (sp_shift_left K [Pt_consists_of]) := ⟨⟨_, _, ok_shift_left F_shift_left T C_is_known, PySem.W.mg_of X G a_shift_left, k_shift_left, B_shift_left⟩⟩
    have C_law_known : Callee l.prog w K mg base "_law_known" 1 ["vector"] (sp_law_known K [Pt_consists_of]) := ⟨⟨_, _, ok_law_known F_law_known T , PySem.W.mg_of X G a_law_known, k_law_known, B_law_known⟩⟩
    have C_law_value : Callee l.prog w K mg base "_law_value" 1 ["vector"] (sp_law_value K [Pt_consists_of]) := ⟨⟨_, _, ok_law_value F_law_value T , PySem.W.mg_of X G a_law_value, k_law_value, B_law_value⟩⟩
    have C_law_left : Callee l.prog w K mg base "_law_left" 2 ["vector", "amount"] (sp_law_left K [Pt_consists_of]) := ⟨⟨_, _, ok_law_left F_law_left T C_law_known C_law_value, PySem.W.mg_of X G a_law_left, k_law_left, B_law_left⟩⟩
    have C_shift_right : Callee l.prog w K mg base "shift_right" 3 ["vector", "amount"] (sp_shift_right K [Pt_consists_of]) := ⟨⟨_, _, ok_shift_right F_shift_right T C_is_known, PySem.W.mg_of X G a_shift_right, k_shift_right, B_shift_right⟩⟩
    have C_law_right : Callee l.prog w K mg base "_law_right" 2 ["vector", "amount"] (sp_law_right K [Pt_consists_of]) := ⟨⟨_, _, ok_law_right F_law_right T C_law_known C_law_value, PySem.W.mg_of X G a_law_right, k_law_right, B_law_right⟩⟩
    have C_low_bits : Callee l.prog w K mg base "_low_bits" 1 ["number", "width"] (sp_low_bits K [Pt_consists_of]) := ⟨⟨_, _, ok_low_bits F_low_bits T , PySem.W.mg_of X G a_low_bits, k_low_bits, B_low_bits⟩⟩
    have C_both_known : Callee l.prog w K mg base "_both_known" 3 ["one", "two"] (sp_both_known K [Pt_consists_of]) := ⟨⟨_, _, ok_both_known F_both_known T C_is_known, PySem.W.mg_of X G a_both_known, k_both_known, B_both_known⟩⟩
    have C_multiply : Callee l.prog w K mg base "multiply" 4 ["one", "two"] (sp_multiply K [Pt_consists_of]) := ⟨⟨_, _, ok_multiply F_multiply T C_low_bits C_both_known, PySem.W.mg_of X G a_multiply, k_multiply, B_multiply⟩⟩
    have C_law_bits : Callee l.prog w K mg base "_law_bits" 1 ["number", "width"] (sp_law_bits K [Pt_consists_of]) := ⟨⟨_, _, ok_law_bits F_law_bits T , PySem.W.mg_of X G a_law_bits, k_law_bits, B_law_bits⟩⟩
    have C_law_due : Callee l.prog w K mg base "_law_due" 2 ["known", "number", "width"] (sp_law_due K [Pt_consists_of]) := ⟨⟨_, _, ok_law_due F_law_due T C_law_bits, PySem.W.mg_of X G a_law_due, k_law_due, B_law_due⟩⟩
    have C_subtract : Callee l.prog w K mg base "subtract" 4 ["one", "two"] (sp_subtract K [Pt_consists_of]) := ⟨⟨_, _, ok_subtract F_subtract T C_low_bits C_both_known, PySem.W.mg_of X G a_subtract, k_subtract, B_subtract⟩⟩
    have C_negate : Callee l.prog w K mg base "negate" 5 ["vector"] (sp_negate K [Pt_consists_of]) := ⟨⟨_, _, ok_negate F_negate T C_subtract, PySem.W.mg_of X G a_negate, k_negate, B_negate⟩⟩
    have C_add : Callee l.prog w K mg base "add" 4 ["one", "two"] (sp_add K [Pt_consists_of]) := ⟨⟨_, _, ok_add F_add T C_low_bits C_both_known, PySem.W.mg_of X G a_add, k_add, B_add⟩⟩
    have C_law_sums_hold : Callee l.prog w K mg base "_law_sums_hold" 6 ["one", "two"] (sp_law_sums_hold K [Pt_consists_of]) := ⟨⟨_, _, ok_law_sums_hold F_law_sums_hold T C_law_known C_law_value C_multiply C_law_due C_negate C_add C_subtract, PySem.W.mg_of X G a_law_sums_hold, k_law_sums_hold, B_law_sums_hold⟩⟩
    have C_extended : Callee l.prog w K mg base "_extended" 1 ["vector", "width"] (sp_extended K [Pt_consists_of]) := ⟨⟨_, _, ok_extended F_extended T , PySem.W.mg_of X G a_extended, k_extended, B_extended⟩⟩
    have C_both_extended : Callee l.prog w K mg base "_both_extended" 2 ["one", "two"] (sp_both_extended K [Pt_consists_of]) := ⟨⟨_, _, ok_both_extended F_both_extended T C_extended, PySem.W.mg_of X G a_both_extended, k_both_extended, B_both_extended⟩⟩
    have C_bit : Callee l.prog w K mg base "_bit" 1 ["holds"] (sp_bit K [Pt_consists_of]) := ⟨⟨_, _, ok_bit F_bit T , PySem.W.mg_of X G a_bit, k_bit, B_bit⟩⟩
    have C_same : Callee l.prog w K mg base "same" 3 ["one", "two"] (sp_same K [Pt_consists_of]) := ⟨⟨_, _, ok_same F_same T C_both_extended C_bit, PySem.W.mg_of X G a_same, k_same, B_same⟩⟩
    have C_less : Callee l.prog w K mg base "less" 4 ["one", "two"] (sp_less K [Pt_consists_of]) := ⟨⟨_, _, ok_less F_less T C_bit C_both_known, PySem.W.mg_of X G a_less, k_less, B_less⟩⟩
    have C_law_truth : Callee l.prog w K mg base "_law_truth" 1 ["known", "holds"] (sp_law_truth K [Pt_consists_of]) := ⟨⟨_, _, ok_law_truth F_law_truth T , PySem.W.mg_of X G a_law_truth, k_law_truth, B_law_truth⟩⟩
    have C_less_equal : Callee l.prog w K mg base "less_equal" 4 ["one", "two"] (sp_less_equal K [Pt_consists_of]) := ⟨⟨_, _, ok_less_equal F_less_equal T C_bit C_both_known, PySem.W.mg_of X G a_less_equal, k_less_equal, B_less_equal⟩⟩
    have C_equal : Callee l.prog w K mg base "equal" 4 ["one", "two"] (sp_equal K [Pt_consists_of]) := ⟨⟨_, _, ok_equal F_equal T C_bit C_both_known, PySem.W.mg_of X G a_equal, k_equal, B_equal⟩⟩
    have C_bit_not : Callee l.prog w K mg base "bit_not" 1 ["vector"] (sp_bit_not K [Pt_consists_of]) := ⟨⟨_, _, ok_bit_not F_bit_not T , PySem.W.mg_of X G a_bit_not, k_bit_not, B_bit_not⟩⟩
    have C_not_equal : Callee l.prog w K mg base "not_equal" 5 ["one", "two"] (sp_not_equal K [Pt_consists_of]) := ⟨⟨_, _, ok_not_equal F_not_equal T C_bit_not C_equal, PySem.W.mg_of X G a_not_equal, k_not_equal, B_not_equal⟩⟩
    have C_law_orders_hold : Callee l.prog w K mg base "_law_orders_hold" 6 ["one", "two"] (sp_law_orders_hold K [Pt_consists_of]) := ⟨⟨_, _, ok_law_orders_hold F_law_orders_hold T C_law_known C_law_value C_same C_less C_law_truth C_less_equal C_equal C_not_equal, PySem.W.mg_of X G a_law_orders_hold, k_law_orders_hold, B_law_orders_hold⟩⟩
    exact ok_law F_law T C_law_vector C_law_numbers C_law_cell C_shift_left C_law_left C_shift_right C_law_right C_law_sums_hold C_law_orders_hold
end K03
open PySem PySem.W PyProof.Rows
set_option Elab.async false
set_option maxRecDepth 100000 in
set_option maxHeartbeats 0 in
theorem PySem.Challenge.cw_clockwright_k03_arithmetic_holds : PySem.Challenge.rw_clockwright_k03_arithmetic.Holds := by
  w_on; o_law; k_head; (case hw => w_witness2)
  k_fill
  refine K03.walk_tab (l := PySem.Challenge.rw_clockwright_k03_arithmetic) (n := 63) (k := 7) (y := "script") [("_consists_of" : Str)] rfl (by decide) rfl ⟨rfl, by decide, by decide⟩ ?R (fun w h Y => PySem.W.kIn_of Y) ?F
  case R => kernel_rfl
  case F =>
    intro w mg fa h KX G hmg TF
    refine' K03.all_mk (l := PySem.Challenge.rw_clockwright_k03_arithmetic) (w := w) KX G hmg TF ?a_law_vector ?l_law_vector ?c_law_vector ?k_law_vector ?a_law_numbers ?l_law_numbers ?c_law_numbers ?k_law_numbers ?a_law_cell ?l_law_cell ?c_law_cell ?k_law_cell ?a_consists_of ?l_consists_of ?c_consists_of ?k_consists_of ?a_is_known ?l_is_known ?c_is_known ?k_is_known ?a_shift_left ?l_shift_left ?c_shift_left ?k_shift_left ?a_law_known ?l_law_known ?c_law_known ?k_law_known ?a_law_value ?l_law_value ?c_law_value ?k_law_value ?a_law_left ?l_law_left ?c_law_left ?k_law_left ?a_shift_right ?l_shift_right ?c_shift_right ?k_shift_right ?a_law_right ?l_law_right ?c_law_right ?k_law_right ?a_low_bits ?l_low_bits ?c_low_bits ?k_low_bits ?a_both_known ?l_both_known ?c_both_known ?k_both_known ?a_multiply ?l_multiply ?c_multiply ?k_multiply ?a_law_bits ?l_law_bits ?c_law_bits ?k_law_bits ?a_law_due ?l_law_due ?c_law_due ?k_law_due ?a_subtract ?l_subtract ?c_subtract ?k_subtract ?a_negate ?l_negate ?c_negate ?k_negate ?a_add ?l_add ?c_add ?k_add ?a_law_sums_hold ?l_law_sums_hold ?c_law_sums_hold ?k_law_sums_hold ?a_extended ?l_extended ?c_extended ?k_extended ?a_both_extended ?l_both_extended ?c_both_extended ?k_both_extended ?a_bit ?l_bit ?c_bit ?k_bit ?a_same ?l_same ?c_same ?k_same ?a_less ?l_less ?c_less ?k_less ?a_law_truth ?l_law_truth ?c_law_truth ?k_law_truth ?a_less_equal ?l_less_equal ?c_less_equal ?k_less_equal ?a_equal ?l_equal ?c_equal ?k_equal ?a_bit_not ?l_bit_not ?c_bit_not ?k_bit_not ?a_not_equal ?l_not_equal ?c_not_equal ?k_not_equal ?a_law_orders_hold ?l_law_orders_hold ?c_law_orders_hold ?k_law_orders_hold ?a_law ?l_law ?c_law ?k_law ?lT_consists_of ?eT_consists_of ?hT_consists_of ?nT_consists_of ?z_len ?z_max ?z_min ?z_all ?z_range ?z_abs ?z_int ?z_str ?g_N ?d_N ?e_N ?t_N
    (case a_law_vector => k_is)
    (case l_law_vector => k_is)
    (case c_law_vector => k_is)
    (case k_law_vector => k_is)
    (case a_law_numbers => k_is)
    (case l_law_numbers => k_is)
    (case c_law_numbers => k_is)
    (case k_law_numbers => k_is)
    (case a_law_cell => k_is)
    (case l_law_cell => k_is)
    (case c_law_cell => k_is)
    (case k_law_cell => k_is)
    (case a_consists_of => k_is)
    (case l_consists_of => k_is)
    (case c_consists_of => k_is)
    (case k_consists_of => k_is)
    (case a_is_known => k_is)
    (case l_is_known => k_is)
    (case c_is_known => k_is)
    (case k_is_known => k_is)
    (case a_shift_left => k_is)
    (case l_shift_left => k_is)
    (case c_shift_left => k_is)
    (case k_shift_left => k_is)
    (case a_law_known => k_is)
    (case l_law_known => k_is)
    (case c_law_known => k_is)
    (case k_law_known => k_is)
    (case a_law_value => k_is)
    (case l_law_value => k_is)
    (case c_law_value => k_is)
    (case k_law_value => k_is)
    (case a_law_left => k_is)
    (case l_law_left => k_is)
    (case c_law_left => k_is)
    (case k_law_left => k_is)
    (case a_shift_right => k_is)
    (case l_shift_right => k_is)
    (case c_shift_right => k_is)
    (case k_shift_right => k_is)
    (case a_law_right => k_is)
    (case l_law_right => k_is)
    (case c_law_right => k_is)
    (case k_law_right => k_is)
    (case a_low_bits => k_is)
    (case l_low_bits => k_is)
    (case c_low_bits => k_is)
    (case k_low_bits => k_is)
    (case a_both_known => k_is)
    (case l_both_known => k_is)
    (case c_both_known => k_is)
    (case k_both_known => k_is)
    (case a_multiply => k_is)
    (case l_multiply => k_is)
    (case c_multiply => k_is)
    (case k_multiply => k_is)
    (case a_law_bits => k_is)
    (case l_law_bits => k_is)
    (case c_law_bits => k_is)
    (case k_law_bits => k_is)
    (case a_law_due => k_is)
    (case l_law_due => k_is)
    (case c_law_due => k_is)
    (case k_law_due => k_is)
    (case a_subtract => k_is)
    (case l_subtract => k_is)
    (case c_subtract => k_is)
    (case k_subtract => k_is)
    (case a_negate => k_is)
    (case l_negate => k_is)
    (case c_negate => k_is)
    (case k_negate => k_is)
    (case a_add => k_is)
    (case l_add => k_is)
    (case c_add => k_is)
    (case k_add => k_is)
    (case a_law_sums_hold => k_is)
    (case l_law_sums_hold => k_is)
    (case c_law_sums_hold => k_is)
    (case k_law_sums_hold => k_is)
    (case a_extended => k_is)
    (case l_extended => k_is)
    (case c_extended => k_is)
    (case k_extended => k_is)
    (case a_both_extended => k_is)
    (case l_both_extended => k_is)
    (case c_both_extended => k_is)
    (case k_both_extended => k_is)
    (case a_bit => k_is)
    (case l_bit => k_is)
    (case c_bit => k_is)
    (case k_bit => k_is)
    (case a_same => k_is)
    (case l_same => k_is)
    (case c_same => k_is)
    (case k_same => k_is)
    (case a_less => k_is)
    (case l_less => k_is)
    (case c_less => k_is)
    (case k_less => k_is)
    (case a_law_truth => k_is)
    (case l_law_truth => k_is)
    (case c_law_truth => k_is)
    (case k_law_truth => k_is)
    (case a_less_equal => k_is)
    (case l_less_equal => k_is)
    (case c_less_equal => k_is)
    (case k_less_equal => k_is)
    (case a_equal => k_is)
    (case l_equal => k_is)
    (case c_equal => k_is)
    (case k_equal => k_is)
    (case a_bit_not => k_is)
    (case l_bit_not => k_is)
    (case c_bit_not => k_is)
    (case k_bit_not => k_is)
    (case a_not_equal => k_is)
    (case l_not_equal => k_is)
    (case c_not_equal => k_is)
    (case k_not_equal => k_is)
    (case a_law_orders_hold => k_is)
    (case l_law_orders_hold => k_is)
    (case c_law_orders_hold => k_is)
    (case k_law_orders_hold => k_is)
    (case a_law => k_is)
    (case l_law => k_is)
    (case c_law => k_is)
    (case k_law => k_is)
    (case lT_consists_of => k_is)
    (case eT_consists_of => rfl)
    (case hT_consists_of => kernel_rfl)
    (case nT_consists_of => kernel_rfl)
    (case z_len => k_is)
    (case z_max => k_is)
    (case z_min => k_is)
    (case z_all => k_is)
    (case z_range => k_is)
    (case z_abs => k_is)
    (case z_int => k_is)
    (case z_str => k_is)
    (case g_N => k_is)
    (case d_N => k_is)
    (case e_N => (repeat (first | exact trivial | (refine ⟨⟨_, _, rfl, rfl⟩, ?_⟩))))
    (case t_N => intro a ha; simp only [List.mem_cons, List.not_mem_nil, or_false] at ha; (rcases ha with rfl | rfl | rfl | rfl <;> (apply Exists.intro; k_is)))
