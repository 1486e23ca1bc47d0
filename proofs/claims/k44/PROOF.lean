import PyProof.Rows.All
import Wide.All
import OpenK.AllK
import Wide.FinOn
import KE.KIntText
import KE.IntTextLaws
import HandS.Base
import HandS.Call
import HandS.Codes
import KE.GoesZip
import KE.GoesMore
import HandS.List
import HandS.Iter
import HandS.Walk
import HandS.Comp
import HandS.Text
import HandS.AnyAll
import PyProof.StrOps2
import HandS.ForMost
import HandS.More
import HandS.Lambda
import HandS.EndTab
import PyProof.FString3
import HandS.FStr
import HandS.WideBits
import HandS.StrMore
import HandS.Style
import HandS.Wide
import PyProof.GenCompT
import HandS.IsInst
import PySem.Challenge.RW_clockwright_k44_refined_operands
import HandS.EndBits
import KE.KNestM
set_option Elab.async false
set_option linter.all false
set_option maxRecDepth 100000
/-! int(text, 2) -/
namespace Cw
open PySem PySem.Spec PyProof.Rows L2
open PySem.NumText PySem.Calls
def IsBin (c : Nat) : Prop := c = 48 ∨ c = 49
def bv (c : Nat) : Nat := c - 48
def binNum (l : List Nat) : Nat := l.foldl (fun a c => a * 2 + bv c) 0
theorem bin_rng {c : Nat} (h : IsBin c) : 48 ≤ c ∧ c ≤ 49 ∧ c ≠ 95 := by
  unfold IsBin at h
  omega
theorem bin_digit {c : Nat} (h : IsBin c) : digit? c = some (bv c) := by
  rcases h with h | h
  · subst h
    rfl
  · subst h
    rfl
theorem bin_lt {c : Nat} (h : IsBin c) : bv c < 2 := by
  have := bin_rng h
  unfold bv
  omega
theorem bin_step {ds : Array Nat} {b : Bool} {c : Nat} (h : IsBin c) : PySem.NumText.step 2 (ds, b) c = some (ds.push (bv c), true) := by
  unfold PySem.NumText.step
  rw [if_neg (by rw [beq_iff_eq]; exact (bin_rng h).2.2), bin_digit h]
  exact if_pos (bin_lt h)
theorem bin_foldl : ∀ (cs : List Nat) (ds : Array Nat), (∀ c ∈ cs, IsBin c) → cs.foldlM (PySem.NumText.step 2) (ds, true) = some (cs.foldl (fun acc c => acc.push (bv c)) ds, true)
  | [], _, _ => rfl
  | c :: cs, ds, h => by
    rw [List.foldlM_cons, bin_step (h c (List.mem_cons_self ..))]
    show cs.foldlM (PySem.NumText.step 2) (ds.push (bv c), true) = _
    exact bin_foldl cs (ds.push (bv c)) fun d hd => h d (List.mem_cons_of_mem _ hd)
theorem bin_digits {cs : List Nat} (h : ∀ c ∈ cs, IsBin c) (hne : cs ≠ []) : digits? 2 cs = some (cs.foldl (fun acc c => acc.push (bv c)) #[]) := by
  cases cs with
  | nil => exact absurd rfl hne
  | cons c cs =>
    unfold digits?
    rw [List.foldlM_cons, bin_step (h c (List.mem_cons_self ..))]
    show (cs.foldlM (PySem.NumText.step 2) ((#[] : Array Nat).push (bv c), true)).bind _ = _
    rw [bin_foldl cs _ fun d hd => h d (List.mem_cons_of_mem _ hd)]
    rfl
theorem bin_push : ∀ (cs : List Nat) (ds : Array Nat), (cs.foldl (fun acc c => acc.push (bv c)) ds).foldl (fun acc d => acc * 2 + d) 0 = cs.foldl (fun a c => a * 2 + bv c) (ds.foldl (fun acc d => acc * 2 + d) 0)
  | [], _ => rfl
  | c :: cs, ds => by
    rw [List.foldl_cons, bin_push cs (ds.push (bv c)), List.foldl_cons]
    congr 1
    simp
theorem bin_drop {cs : List Nat} (h : ∀ c ∈ cs, IsBin c) : cs.dropWhile blank = cs := by
  cases cs with
  | nil => rfl
  | cons c cs => exact dropWhile_of (by have := bin_rng (h c (List.mem_cons_self ..)); omega)
theorem bin_sign {cs : List Nat} (h : ∀ c ∈ cs, IsBin c) : sign cs = (false, cs) := by
  cases cs with
  | nil => rfl
  | cons c cs =>
    have := bin_rng (h c (List.mem_cons_self ..))
    exact sign_of (by omega) (by omega)
theorem bin_pref {cs : List Nat} (h : ∀ c ∈ cs, IsBin c) : PySem.NumText.prefix? cs = none := by
  match cs, h with
  | [], _ => rfl
  | [a], _ =>
    unfold PySem.NumText.prefix?
    split
    · rename_i e
      cases e
    · rfl
  | a :: c :: r, h =>
    have hc := bin_rng (h c (List.mem_cons_of_mem _ (List.mem_cons_self ..)))
    by_cases ha : a = 48
    · subst ha
      have e : PySem.NumText.prefix? (48 :: c :: r) = if (c == 120 || c == 88) = true then some 16 else if (c == 111 || c == 79) = true then some 8 else if (c == 98 || c == 66) = true then some 2 else none := rfl
      rw [e, if_neg (by rw [Bool.or_eq_true, beq_iff_eq, beq_iff_eq]; omega), if_neg (by rw [Bool.or_eq_true, beq_iff_eq, beq_iff_eq]; omega), if_neg (by rw [Bool.or_eq_true, beq_iff_eq, beq_iff_eq]; omega)]
    · unfold PySem.NumText.prefix?
      split
      · rename_i e
        exact absurd (List.cons.inj e).1 ha
      · rfl
theorem bin_based {cs : List Nat} (h : ∀ c ∈ cs, IsBin c) : based 2 cs = (2, false, cs) := by
  unfold based
  rw [bin_pref h] <;> rfl
theorem bin_read {cs : List Nat} (h : ∀ c ∈ cs, IsBin c) (hne : cs ≠ []) : (int_private% "readNumeral") 0 2 cs = (int_private% "Numeral.value") ((binNum cs : Nat) : Int) := by
  have hr : ∀ c ∈ cs.reverse, IsBin c := fun c hc => h c (List.mem_reverse.mp hc)
  refine (readNumeral_eq 0 2 cs).trans ?_
  rw [bin_drop h, bin_sign h]
  show judge 0 false (based 2 cs).1 (based 2 cs).2.1 (digits? (based 2 cs).1 (((based 2 cs).2.2.reverse.dropWhile blank).reverse)) = _
  rw [bin_based h]
  show judge 0 false 2 false (digits? 2 ((cs.reverse.dropWhile blank).reverse)) = _
  rw [bin_drop hr, List.reverse_reverse, bin_digits h hne]
  show (int_private% "Numeral.value") (((cs.foldl (fun acc c => acc.push (bv c)) (#[] : Array Nat)).foldl (fun acc d => acc * 2 + d) 0 : Nat) : Int) = _
  have z : (#[] : Array Nat).foldl (fun acc d => acc * 2 + d) 0 = 0 := by first | rfl | simp
  rw [bin_push, z] <;> rfl
theorem bin_seen {x : Str} (h : ∀ c ∈ x.cps.toList, IsBin c) : numTextOf x = x.cps.toList ∧ numSeenOf x = x.cps.toList := by
  have e1 : numTextOf x = x.cps.toList := by
    refine if_pos ?_
    rw [← Array.all_toList, List.all_eq_true]
    intro c hc
    have := bin_rng (h c hc)
    exact decide_eq_true (by omega)
  refine ⟨e1, ?_⟩
  show (numTextOf x).takeWhile _ = _
  rw [e1]
  refine takeWhile_all fun c hc => ?_
  have := bin_rng (h c hc)
  exact bne_iff_ne.mpr (by omega)
theorem wp_textB {M : Model} {A : Around} {E : Value → Shared → Prop} {s : Shared} {Q : Value → Shared → Prop} {v : Value} {text : List Nat} {B : Nat} {n : Int}
    (hs : (text.takeWhile (· != 0)).length ≤ 640) (hr : (int_private% "readNumeral") 0 B (text.takeWhile (· != 0)) = (int_private% "Numeral.value") n)
    (ha : ((text.takeWhile (· != 0)).length == text.length) = true) (h : Q (.int n s.toks) { s with toks := s.toks + 1 }) :
    wpAny M A ((int_private% "intFromText") v text B) Q E s := by
  obtain ⟨hp, g, d, tk, os⟩ := s
  repeat (any_goals (first
    | assumption
    | (with_reducible refine wpAny_ite_true (decide_eq_true hs) ?_)
    | (with_reducible refine wpAny_ite_true (decide_eq_true ha) ?_)
    | wp_step))
  all_goals (try rw [hr])
  all_goals (try dsimp only)
  repeat (any_goals (first
    | assumption
    | (with_reducible refine wpAny_ite_true (decide_eq_true hs) ?_)
    | (with_reducible refine wpAny_ite_true (decide_eq_true ha) ?_)
    | wp_step))
structure Hid (p : Prop) : Prop where
  out : p
set_option maxHeartbeats 4000000 in
theorem gives_bin {x : PySem.Str} {u t : Tok} (hl : x.length ≤ 640) (h : ∀ c ∈ x.cps.toList, IsBin c) (hne : x.cps.toList ≠ []) :
    Gives (Builtin.«int.__new__» ⟨[.type "int", .str x u, .int 2 t], []⟩) (.int ((binNum x.cps.toList : Nat) : Int)) :=
  .of_wp fun M A E s Q hQ => by
    obtain ⟨hp, g, d, tk, os⟩ := s
    have f1 := F.conv_sub_int
    have f2 := F.madeHere_int
    have f6 : typeOf (.str x u) = pure (.type "str") := rfl
    obtain ⟨e1, e2⟩ := bin_seen h
    have hs : (numSeenOf x).length ≤ 640 := by
      rw [e2, Array.length_toList]
      exact hl
    have hr : (int_private% "readNumeral") 0 2 (numSeenOf x) = (int_private% "Numeral.value") ((binNum x.cps.toList : Nat) : Int) := by
      rw [e2]
      exact bin_read h hne
    have ha : ((numSeenOf x).length == (numTextOf x).length) = true := by
      rw [e1, e2]
      exact beq_self_eq_true _
    have hk := Hid.mk (And.intro hs (And.intro hr ha))
    clear hs hr ha e1 e2 hl hne h
    repeat (any_goals (first
      | assumption
      | ((with_reducible show wpAny _ _ ((int_private% "intFromText") _ _ _) _ _ _); refine wp_textB hk.out.1 hk.out.2.1 hk.out.2.2 ?_)
      | wp_step))
    all_goals first | exact ⟨_, rfl, hQ⟩ | skip
theorem typeCall_int_2 (a b : Value) : checkTypeCall "int" ⟨[a, b], []⟩ = pure () := by kernel_rfl
theorem newCall_int_2 (a b : Value) : checkBuiltinCall "int.__new__" ⟨[.type "int", a, b], []⟩ = pure () := by kernel_rfl
theorem call_bin {prog : Program} {w : World} {A : Around} {E : Value → Shared → Prop} {s : Shared} {Q : Value → Shared → Prop} {x : PySem.Str} {u t : Tok} (hl : x.length ≤ 640) (h : ∀ c ∈ x.cps.toList, IsBin c) (hne : x.cps.toList ≠ [])
    (hQ : Q (.int ((binNum x.cps.toList : Nat) : Int) s.toks) { s with toks := s.toks + 1 }) : wpAny (model prog w) A (call (.type "int") [.str x u, .int 2 t]) Q E s :=
  callType_new F.called_int F.newNe_int (typeCall_int_2 _ _) (newCall_int_2 _ _) (fun obj => F.initArgs_range_2 obj _ _) F.entry_int_new (gives_bin hl h hne).meets (show (Made.int ((binNum x.cps.toList : Nat) : Int)).post _ s from ⟨rfl, hQ⟩)
/-- int(t, 2) -/
def rIntBin : List V → Hp → VK → Prop := fun xs H Q => ∃ x : Str, xs = [.str x, .int 2] ∧ x.cps.toList ≠ [] ∧ x.length ≤ 640 ∧ (∀ c ∈ x.cps.toList, IsBin c) ∧ Q (.int ((binNum x.cps.toList : Nat) : Int)) H
theorem call_int_bin {X : Cx} : CallR X (.type "int") rIntBin := by
  intro pins s σ H xs us Q I r h
  obtain ⟨x, rfl, hne, hl, hx, q⟩ := h
  obtain ⟨u, w', rfl, r1, r2⟩ := vals2 r
  obtain ⟨t1, rfl⟩ := r1
  obtain ⟨t2, rfl⟩ := r2
  exact call_bin hl hx hne ⟨.int ((binNum x.cps.toList : Nat) : Int), H, I.tok _, ⟨_, rfl⟩, q⟩
end Cw
set_option Elab.async false
set_option linter.all false
set_option maxRecDepth 100000
/-! zip of two texts -/
namespace Cw
open PySem PySem.Spec PyProof.Rows L2
/-- two texts sign by sign, the signs in new pairs -/
def Itzs (x y : Str) : It :=
  ⟨fun i _ => i < x.cps.size ∧ i < y.cps.size,
    fun i H v H' => ∃ T c d, v = .ref T ∧ H T = none ∧ H' = upd H T (.tup [.str ⟨#[c]⟩, .str ⟨#[d]⟩]) ∧ x.cps[i]? = some c ∧ y.cps[i]? = some d,
    fun i _ => i ≤ x.cps.size ∧ i ≤ y.cps.size ∧ (i = x.cps.size ∨ i = y.cps.size)⟩
theorem turn_zips {P : Program} {w : World} {K : PySem.W.Frag} {elts : List Expr} {kk : Nat} {tpos : Pos} {z TI TO i1 i2 : Addr} {x y : Str} {t1 t2 : Tok} (D : ZipSep2 z TI TO i1 i2 [i1] [i2]) :
    Turn P w K (.Tuple elts kk tpos) (Itzs x y) [z, TI, TO, i1, i2] z (fun i h => IsZip h z TI TO .none ∧ IsPair h TI (.ref i1) (.ref i2) ∧ (∃ u v, IsPair h TO u v) ∧ h.IsStrIter i1 (strIterType x) x t1 i ∧ h.IsStrIter i2 (strIterType y) y t2 i) where
  mem := by simp
  obj := fun i h st c hc => by
    obtain ⟨hz, hTI, ⟨u, v, hTO⟩, ⟨o1, e1, _, d1⟩, ⟨o2, e2, _, d2⟩⟩ := st
    have e' : c = z ∨ c = TI ∨ c = TO ∨ c = i1 ∨ c = i2 := by simpa using hc
    rcases e' with q | q | q | q | q
    · rw [q]; exact ⟨_, hz, fun v q => nomatch q⟩
    · rw [q]; exact ⟨_, hTI, fun v q => nomatch q⟩
    · rw [q]; exact ⟨_, hTO, fun v q => nomatch q⟩
    · rw [q]; exact ⟨o1, e1, fun v q => by rw [d1] at q; cases q⟩
    · rw [q]; exact ⟨o2, e2, fun v q => by rw [d2] at q; cases q⟩
  keep := fun i h h' st k => by
    obtain ⟨hz, hTI, ⟨u, v, hTO⟩, ⟨o1, e1, r1⟩, ⟨o2, e2, r2⟩⟩ := st
    exact ⟨k z (by simp) _ hz, k TI (by simp) _ hTI, ⟨u, v, k TO (by simp) _ hTO⟩, ⟨o1, k i1 (by simp) _ e1, r1⟩, ⟨o2, k i2 (by simp) _ e2, r2⟩⟩
  item := by
    intro X hP hw hK hc i pins s σ H E I hf st hg
    subst hP hw hK
    obtain ⟨hz, hTI, ⟨u0, v0, hTO⟩, h1, h2⟩ := st
    obtain ⟨l1, l2⟩ := hg
    have hh : X.A.in1.handled = none := I.ok.hd hc
    have hzl : z < s.heap.objs.size := Heap.lt_size hz
    refine wpAny_pyNext_zipD2_item D (Draws.text hh i1 x t1) (Draws.text hh i2 y t2) hz hTI hTO h1 h2 l1 l2 fun x1 x2 h' tk p1 p2 z' TO' h1' h2' hT hsz hk => ?_
    obtain ⟨c, u, hc1, rfl⟩ := p1
    obtain ⟨d, v, hc2, rfl⟩ := p2
    refine ⟨_, rfl, wpAny_letOwnedTupleGo_zip (s := { s with heap := h', toks := tk }) z' fun h'' z'' sb => ?_⟩
    have hT2 : h''.get? s.heap.objs.size = some { cls := .type "tuple", data := .seq #[.str ⟨#[c]⟩ u, .str ⟨#[d]⟩ v] } := (sb.2 _ (Nat.ne_of_gt hzl)).trans hT
    have new : ObjOk X.prog X.w (upd H s.heap.objs.size (.tup [.str ⟨#[c]⟩, .str ⟨#[d]⟩])) h'' s.heap.objs.size (.tup [.str ⟨#[c]⟩, .str ⟨#[d]⟩]) :=
      ⟨by show 2 ≤ sizeLine; decide, [.str ⟨#[c]⟩ u, .str ⟨#[d]⟩ v], .cons ⟨u, rfl⟩ (.cons ⟨v, rfl⟩ .nil), ⟨_, hT2, rfl, _, rfl⟩⟩
    have I1 : Inv X pins σ (upd H s.heap.objs.size (.tup [.str ⟨#[c]⟩, .str ⟨#[d]⟩])) { s with heap := h'', toks := tk } :=
      I.turnedNew (t' := tk) (ch := [z, TI, TO, i1, i2]) (fun c o hb q => (sb.2 c (fun q' => hb (by simp [q']))).trans (hk c o (fun q' => hb (by simp [q'])) (fun q' => hb (by simp [q'])) (fun q' => hb (by simp [q'])) (fun q' => hb (by simp [q'])) q)) hf (Nat.le_refl _) new
    refine ⟨.ref s.heap.objs.size, _, I1, rfl, ⟨_, c, d, rfl, I.hok.fresh (Nat.le_refl _), rfl, hc1, hc2⟩, ⟨z'', ?_, ⟨.str ⟨#[c]⟩ u, .str ⟨#[d]⟩ v, ?_⟩, ?_, ?_⟩, fun c hcm => ?_⟩
    · exact (sb.2 _ D.TIz).trans (hk _ _ D.TIz D.TITO D.TIi1 D.TIi2 hTI)
    · exact (sb.2 _ D.TOz).trans TO'
    · obtain ⟨o1, e1, r1⟩ := h1'
      exact ⟨o1, (sb.2 _ D.zi1.symm).trans e1, r1⟩
    · obtain ⟨o2, e2, r2⟩ := h2'
      exact ⟨o2, (sb.2 _ D.zi2.symm).trans e2, r2⟩
    · have hlt : c < s.heap.objs.size := by
        have e' : c = z ∨ c = TI ∨ c = TO ∨ c = i1 ∨ c = i2 := by simpa using hcm
        rcases e' with q | q | q | q | q
        · rw [q]; exact hzl
        · rw [q]; exact Heap.lt_size hTI
        · rw [q]; exact Heap.lt_size hTO
        · rw [q]; obtain ⟨_, e1, _⟩ := h1; exact Heap.lt_size e1
        · rw [q]; obtain ⟨_, e2, _⟩ := h2; exact Heap.lt_size e2
      rw [upd_ne (Nat.ne_of_lt hlt)]
      exact (hf c hcm).1
  done := by
    intro X hP hw hK hc i pins s σ H E I hf st hg
    subst hP hw hK
    obtain ⟨hz, hTI, ⟨u0, v0, hTO⟩, h1, h2⟩ := st
    obtain ⟨l1, l2, he⟩ := hg
    have hh : X.A.in1.handled = none := I.ok.hd hc
    exact wpAny_pyNext_zipD2_end D (Draws.text hh i1 x t1) (Draws.text hh i2 y t2) hz hTI hTO h1 h2 l1 l2 he fun h' tk hk => ⟨rfl, I.turnedL (t' := tk) (ch := [z, TI, TO, i1, i2]) (fun c o hb q =>
      hk c o (fun q' => hb (by simp [q'])) (fun q' => hb (by simp [q'])) (fun q' => hb (by simp [q'])) (fun q' => hb (by simp [q'])) q) hf⟩
  self := fun A i s Q E st h => wpAny_pyIter_zip st.1 h
theorem zs_apart (I : Nat) : ZipSep2 (I + 4) (I + 2) (I + 3) I (I + 1) [I] [I + 1] where
  TIz := by show (I + 2 : Nat) ≠ (I + 4 : Nat); omega
  TOz := by show (I + 3 : Nat) ≠ (I + 4 : Nat); omega
  TITO := by show (I + 2 : Nat) ≠ (I + 3 : Nat); omega
  TIi1 := by show (I + 2 : Nat) ≠ (I : Nat); omega
  mem1 := by simp
  zf1 := by simp
  Tf1 := by simp
  TIi2 := by show (I + 2 : Nat) ≠ (I + 1 : Nat); omega
  mem2 := by simp
  zf2 := by simp
  Tf2 := by simp
  sep1_2 := by simp
  sep2_1 := by simp
def iZips (ta : TA) : TI := fun σ H R => ta σ H fun vs H1 => ∃ x y : Str, vs = [.str x, .str y] ∧ R (Itzs x y) H1
theorem pi_zips {X : Cx} {e e2 : Expr} {ta : TA} {p pos tpos : Pos} {elts : List Expr} {kk : Nat} (hg : Gl X "zip") (hm : X.mg "zip" = none) (ha : PA X [e, e2] ta)
    (hs : starEach [e, e2] X.env = (false, eval e X.env) :: starEach [e2] X.env := by rfl) (hpl : (backTo pos (starEach [e2] X.env)).any (·.1) = false := by rfl) :
    PI X (.Tuple elts kk tpos) (.Call (.Name "zip" p) [e, e2] [] pos) (iZips ta) := by
  refine ⟨fun pins s σ H R I h => ?_⟩
  refine Call_ (ld_blt I hg hm PyProof.Rows.boot_zip (PyProof.Rows.callWith_type1 (thn (ha.run pos pins s σ H _ I h) fun us s1 ⟨vs, H1, I1, r1, q1⟩ => ?_) hs hpl))
  obtain ⟨x, y, ex, q⟩ := q1
  subst ex
  obtain ⟨u, v, rfl, ru, rv⟩ := vals2 r1
  obtain ⟨t1, rfl⟩ := ru
  obtain ⟨t2, rfl⟩ := rv
  refine zip_begins2 (begins_text x t1) (begins_text y t2) trivial trivial fun h' hz hTI hTO h1 h2 hsz hk => wpAny_pyIter_zip hz ?_
  have I2 : Inv X pins σ H1 { s1 with heap := h' } := I1.kept (t' := s1.toks) hk
  refine ⟨s1.heap.objs.size + 4, [s1.heap.objs.size + 4, s1.heap.objs.size + 2, s1.heap.objs.size + 3, s1.heap.objs.size, s1.heap.objs.size + 1], _, _, H1, rfl, I2, turn_zips (x := x) (y := y) (t1 := t1) (t2 := t2) (zs_apart s1.heap.objs.size), ⟨hz, hTI, ⟨_, _, hTO⟩, ⟨_, h1, rfl, rfl⟩, ⟨_, h2, rfl, rfl⟩⟩, fun c hcm => ?_, q⟩
  have e' : c = s1.heap.objs.size + 4 ∨ c = s1.heap.objs.size + 2 ∨ c = s1.heap.objs.size + 3 ∨ c = s1.heap.objs.size ∨ c = s1.heap.objs.size + 1 := by simpa using hcm
  have hle : s1.heap.objs.size ≤ c := by
    rcases e' with z | z | z | z | z
    · rw [z]; exact Nat.le_add_right _ _
    · rw [z]; exact Nat.le_add_right _ _
    · rw [z]; exact Nat.le_add_right _ _
    · rw [z]; exact Nat.le_refl _
    · rw [z]; exact Nat.le_add_right _ _
  exact I1.fpOk hle (I1.hok.fresh hle)
theorem walk_zips {x y : Str} (h : x.cps.size = y.cps.size) : Walk (Itzs x y) x.cps.size (fun _ => True)
    (fun i H v H' => ∃ T c d, v = .ref T ∧ H T = none ∧ H' = upd H T (.tup [.str ⟨#[c]⟩, .str ⟨#[d]⟩]) ∧ x.cps[i]? = some c ∧ y.cps[i]? = some d) :=
  ⟨fun i _ hi _ => ⟨hi, h ▸ hi⟩, fun _ _ => ⟨Nat.le_refl _, Nat.le_of_eq h, .inl rfl⟩, fun _ _ _ _ _ _ q => q⟩
end Cw
set_option Elab.async false
set_option linter.all false
set_option maxRecDepth 100000
set_option maxHeartbeats 2000000
/-! all(x in y for x in e): e a text, y a captured text -/
namespace Cw
open PySem PySem.Spec PyProof.Rows L2 GxR
theorem clo_cm {cells : List (Str × Addr)} {names : List (Str × NameKind)} (hfree : ∀ y ∈ names, y.2 = .free → ∃ c, cells.lookup y.1 = some c) {y : Str} {c : Addr} (e : (cloFrom cells names []).lookup y = some c) : cells.lookup y = some c := by
  have hm : (y, c) ∈ cloFrom cells names [] := by
    obtain ⟨l1, l2, h, _⟩ := List.lookup_eq_some_iff.mp e
    rw [h]
    simp
  rcases cloFrom_mem hm with h | ⟨h1, h2⟩
  · cases h
  · obtain ⟨c', hc'⟩ := hfree _ h1 rfl
    rw [h2, hc'] <;> rfl
theorem clo_has {cells : List (Str × Addr)} {names : List (Str × NameKind)} (hfree : ∀ y ∈ names, y.2 = .free → ∃ c, cells.lookup y.1 = some c) {y : Str} {c : Addr} (hy : (y, NameKind.free) ∈ names) (hc : cells.lookup y = some c) : (cloFrom cells names []).lookup y = some c := by
  obtain ⟨c1, h1⟩ := mem_lookup (cloFrom_has (cells := cells) (acc := []) hy)
  have e := clo_cm hfree h1
  rw [hc] at e
  cases e
  exact h1
/-- the element: a test of the sign c, and of the text z that y holds -/
def EltC (prog : Program) (w : World) (scope : Scope) (cl : List (Str × Addr)) (x : Str) (elt : Expr) (y : Str) (z : Str) (pb : Nat → Bool) : Prop :=
  ∀ (cenv : Env) (A' : Around) (E' : Value → Shared → Prop) (c : Nat) (t : Tok) (s₂ : Shared) (m₂ : Str → Option Value) (c1 : Addr) (tz : Tok), cenv.scope = scope → cenv.cells = cl → cl.lookup y = some c1 → s₂.heap.IsCell c1 (some (.str z tz)) → s₂.heap.Ns cenv.locals m₂ → m₂ x = some (.str ⟨#[c]⟩ t) →
    wpAny (model prog w) A' (eval elt cenv) (fun v s₃ => v = .bool (pb c) ∧ Keeps s₂ s₃) E' s₂
/-- x in y -/
theorem elt_in {prog : Program} {w : World} {scope : Scope} {cl : List (Str × Addr)} {x y z : Str} {p1 p2 p3 : Pos} (hk : scope.kind = .function) (hl : scope.names.lookup x = some .local) (hy : scope.names.lookup y = some .free)
    (hd : (x == ("__debug__" : Str)) = false := by decide) (hd2 : (y == ("__debug__" : Str)) = false := by decide) (hcd : (y == ("__classdict__" : Str)) = false := by decide) :
    EltC prog w scope cl x (.Compare (.Name x p1) [.In] [.Name y p2] p3) y z (fun c => decide (c ∈ z.cps.toList)) := by
  intro cenv A' E' c t s₂ m₂ c1 tz hs hcl hlk hcell hn hm
  refine wpAny_Compare1 ?_
  refine wpAny_Name (wpAny_loadName_local (by rw [hs]; exact hk) (show cenv.scope.names.lookup x = some .local by rw [hs]; exact hl) hn hm ?_) hd
  refine wpAny_Name (wpAny_loadName_free (by rw [hs]; exact hk) (show cenv.scope.names.lookup y = some .free by rw [hs]; exact hy) (by rw [hcl]; exact hlk) hcell ?_ hcd) hd2
  refine PyProof.Rows.in_str ⟨?_, keeps_refl _⟩
  rw [PySem.StrLaws.found_one z c]
section
variable {X : Cx} {pins : List (Addr × Obj)} {σ : L2.St} {H : Hp} {s : Shared}
/-- the code record c, its table at P: ready for a generator expression; what the table may become -/
theorem tab_two {P : Addr} {ps more : Array Value} {s1 s' : Shared} {wr : List Addr} {G : Array GenState → Array GenState → Prop} {s5 : Shared} (I1 : Inv X pins σ H s1) (hP : H P = some (.tbl ps)) (ht : TriplesOk (ps ++ more).toList)
    (mv : Moved wr G s5 s') (old : ∀ b u, b ≠ P → s1.heap.get? b = some u → s5.heap.get? b = some u) (tab : s5.heap.get? P = some { cls := .none, data := .fields (ps ++ more) }) (bare : AllBare s'.gens) (os : s5.os = s1.os)
    (out : ∀ b u, s1.heap.get? b = some u → b ∉ wr) : ∃ H2, Tabbed P H H2 ∧ Inv X pins σ H2 s' := by
  have at1 : s1.heap.get? P = some { cls := .none, data := .fields ps } := I1.hok P _ hP
  have J := inv_tab (more := more) (h' := s'.heap) (g' := s'.gens) (d' := s'.drawn) (t' := s'.toks) I1 hP (fun b u hb e => mv.heap b u (out b u e) (old b u hb e)) (mv.heap P _ (out P _ at1) tab) bare
  rw [sh_eta s1 s' (mv.os.trans os)] at J
  exact ⟨_, ⟨⟨_, upd_same, ht⟩, fun b hb => upd_ne hb⟩, J⟩
/-- what a walk over the signs of a asks of the element, told once -/
theorem quiet_in {scope : Scope} {cl : List (Str × Addr)} {code : Value} {bi C : Addr} {env : Env} {x y z a : Str} {p1 p2 p3 : Pos} {tz : Tok} {c1 it : Addr} {oc : Obj} {h3 href : Heap} {prog : Program} {w : World}
    (he : EltC prog w scope cl x (.Compare (.Name x p1) [.In] [.Name y p2] p3) y z fun c => decide (c ∈ z.cps.toList)) (hcl : cl.lookup y = some c1) (ho : h3.get? c1 = some oc) (hd : oc.data = .cell (some (.str z tz))) (hne : c1 ≠ it)
    (hr : ∀ b u, h3.get? b = some u → href.get? b = some u) :
    QuietGen prog w (genEnv scope cl C code bi env) x [] (.Compare (.Name x p1) [.In] [.Name y p2] p3) (List.range h3.objs.size) [it] (SignAt a) (fun _ => true)
      (fun i v => ∃ c, a.cps[i]? = some c ∧ v = .bool (decide (c ∈ z.cps.toList))) href where
  tests := by
    intro A' E' i v s2 m2 _ _ _ _ _
    rw [List.forIn_nil]
    exact wpAny_pure ⟨rfl, keeps_refl _⟩
  elt := by
    intro A' E' i v s2 m2 _ hv _ hn hm kp
    obtain ⟨c, t, hc, rfl⟩ := hv
    have q : s2.heap.get? c1 = some oc := kp c1 (List.mem_range.mpr (Heap.lt_size ho)) (fun m => hne (List.mem_singleton.mp m)) oc (hr c1 oc ho)
    exact wpAny_mono (he _ A' E' c t s2 m2 c1 tz rfl rfl hcl ⟨oc, q, hd⟩ hn hm) (fun _ _ r => ⟨⟨c, hc, r.1⟩, r.2⟩) fun _ _ r => r
/-- the generator itself, made -/
theorem gen_in {c P : Addr} {iter : Expr} {x y z : Str} {px p1 p2 p3 gpos : Pos} {scope : Scope} {te : TE} {k j : Nat} {Q' : Value → Shared → Prop} {R : Str → Hp → Prop}
    (hr : Room k X.A) (TB : TabB X.base X.mg c P) (hcode : X.env.code = .ref c) (S : GenS X.env scope x) (hi : PE X iter te) (hN : X.N[j]? = some y) (hcy : X.env.scope.names.lookup y = some .cell) (hyf : (y, NameKind.free) ∈ scope.names)
    (he : EltC X.prog X.w scope (cloFrom X.env.cells scope.names []) x (.Compare (.Name x p1) [.In] [.Name y p2] p3) y z fun c => decide (c ∈ z.cps.toList))
    (hs : ∀ v, genFold iter X.env v = pure v) (I : Inv X pins σ H s) (hz : σ[j]? = some (some (.str z))) (h : te σ H fun v H1 => ∃ a : Str, v = .str a ∧ TabG H1 P ∧ R a H1)
    (hQ : ∀ a H1 g s5, R a H1 → Ready X pins σ H1 P a (fun c => decide (c ∈ z.cps.toList)) g s5 → Q' (.ref g) s5) :
    wpAny (model X.prog X.w) X.A (eval (.GeneratorExp (.Compare (.Name x p1) [.In] [.Name y p2] p3) [⟨.Name x px, iter, [], 0⟩] scope gpos) X.env) Q' X.xe s := by
  have deep := hr.dp
  refine wpAny_GeneratorExp_walksQ hr.hd S.co (closure_ok S.free) S.cell S.dot S.loc S.kind (by omega) (thn (hi.run pins s σ H _ I h) fun xv s1 ⟨v, H1, I1, r1, a, ea, ⟨ps, hP, ht⟩, q1⟩ => ?_) hs
  subst ea
  obtain ⟨t, rfl⟩ := r1
  -- where y is held
  obtain ⟨m1, hn1, hl1⟩ := I1.loc
  obtain ⟨_, ⟨tz, rfl⟩, lk⟩ := hl1 j y (.str z) hN hz (.inr (.inl hcy))
  obtain ⟨c1, hc1, oc, hoc, hcd⟩ : ∃ c1, X.env.cells.lookup y = some c1 ∧ ∃ oc, s1.heap.get? c1 = some oc ∧ oc.data = .cell (some (.str z tz)) := by
    rcases lk with ⟨hk0, _⟩ | ⟨_, c1, hc1, oc, hoc, hcd⟩
    · cases hcy.symm.trans hk0
    · exact ⟨c1, hc1, oc, hoc, hcd⟩
  have eP : s1.heap.get? P = some { cls := .none, data := .fields ps } := I1.hok P _ hP
  have nP : c1 ≠ P := fun q => by
    rw [q, eP] at hoc
    cases hoc
    cases hcd
  have cl1 : cStatics < s1.heap.objs.size := let ⟨_, hns, _⟩ := I1.nolimit; hns.lt
  have cP : cStatics ≠ P := fun e => by
    obtain ⟨_, ⟨o', es, ep, ho, hd, _⟩, _⟩ := I1.nolimit
    rw [e, eP] at ho
    cases ho
    cases hd
  refine wpAny_pyIter_str fun o St W hst => ?_
  have lim : (s1.heap.push o).NoLimit := I1.nolimit.push o
  have eP2 : (s1.heap.push o).get? P = some { cls := .none, data := .fields ps } := Heap.get?_push_of_some _ eP
  have cd : PySem.W.CodeHd (s1.heap.push o) c P := TB.code.keeps fun b u e => Heap.get?_push_of_some _ (I1.bk b u e)
  have szo : (s1.heap.push o).objs.size = s1.heap.objs.size + 1 := Heap.size_push ..
  -- behind the code object, whichever it is
  suffices cont : ∀ (code : Value) (h3 : Heap) (tk : Nat) (more : Array Value), Heap.ExtBut P (s1.heap.push o) h3 → (s1.heap.push o).objs.size ≤ h3.objs.size → h3.get? P = some { cls := .none, data := .fields (ps ++ more) } → TriplesOk (ps ++ more).toList →
      wpAny (model X.prog X.w) X.A (builtinsFor X.env.globals X.env.builtins) (fun bi s4 =>
        ∃ Ia fp wr n0 Pf St0 pz F, Value.ref s1.heap.objs.size = .ref Ia ∧ (∀ A' : Around, A'.handled = none → Walks X.prog X.w A' Ia fp wr n0 Pf St0) ∧ St0 0 s4.heap ∧ (∀ b ∈ fp, b < s4.heap.objs.size) ∧ s4.heap.NoLimit ∧ cStatics ∉ wr ∧
          (∀ href : Heap, (∀ b u, s4.heap.get? b = some u → href.get? b = some u) →
            QuietGen X.prog X.w (genEnv scope (cloFrom X.env.cells scope.names []) s4.heap.objs.size code bi X.env) x [] (.Compare (.Name x p1) [.In] [.Name y p2] p3) (List.range s4.heap.objs.size) wr Pf pz F href) ∧
          (∀ g h5 tk gs, gs.bare = true → s4.heap.objs.size < g → h5.objs.size = g + 1 → (∀ b u, s4.heap.get? b = some u → h5.get? b = some u) →
            WalksS X.prog X.w X.A.in4 g (g :: s4.heap.objs.size :: List.range s4.heap.objs.size) (s4.heap.objs.size :: wr) (GenOnlyQ s4.gens.size) (passing pz n0 0).length
              (fun j v => ∃ i, (passing pz n0 0)[j]? = some i ∧ F i v) (GenAt X.prog X.w X.A.in4 g s4.gens.size s4.heap.objs.size (List.range s4.heap.objs.size) wr pz n0 F) →
            GenAt X.prog X.w X.A.in4 g s4.gens.size s4.heap.objs.size (List.range s4.heap.objs.size) wr pz n0 F 0 { s4 with gens := s4.gens.push gs, toks := tk, heap := h5 } →
            Q' (.ref g) { s4 with gens := s4.gens.push gs, toks := tk, heap := h5 })) X.xe { s1 with heap := h3, toks := tk } by
    refine ⟨lim, ?_⟩
    cases hf : codeAmong gpos ps.toList with
    | none =>
      refine wpAny_genexprCodeX hcode (cd.code eP2 ht) (cd.tab eP2) hf fun c' h' tk hx hge hlt hco' _ htab' _ => ?_
      obtain ⟨_, _, _, _, _, _, _, _, _, _, _, _, _, _, _, _, _, _, _, htr, _⟩ := hco'
      exact cont _ h' tk _ hx (Nat.le_trans hge (Nat.le_of_lt hlt)) htab'.2 htr
    | some cv =>
      refine wpAny_genexprCode_hit hcode (cd.code eP2 ht) hf (cont cv _ s1.toks #[] (Heap.ExtBut.refl _ _) (Nat.le_refl _) ?_ ?_)
      · rw [Array.append_empty]
        exact eP2
      · rw [Array.append_empty]
        exact ht
  intro code h3 tk more hx hsz eP3 ht3
  have old : ∀ b u, b ≠ P → s1.heap.get? b = some u → h3.get? b = some u := fun b u hb e => hx b u hb (Heap.get?_push_of_some _ e)
  obtain ⟨bm, ob, e1, e2, _, e4, e5, e6, e7, e8⟩ := TB.bm
  refine wpAny_builtinsFor (m := X.mg) (by rw [I1.ok.glob]; exact ((I1.mod.glob.keeps I1.bk).push o).extBut hx TB.gP) e1 e2 (old _ _ e4 (I1.bk _ _ e5)) e6 e7 e8 ?_
  refine ⟨s1.heap.objs.size, [s1.heap.objs.size], [s1.heap.objs.size], a.cps.size, SignAt a, St, fun _ => true, _, rfl, W, ?_, ?_, lim.extBut hx cP, ?_, fun href kp => quiet_in he (clo_has S.free hyf hc1) (old c1 oc nP hoc) hcd (Nat.ne_of_lt (Heap.lt_size hoc)) kp, ?_⟩
  · refine (W X.A hr.hd).frame _ _ _ hst fun b hb u e => hx b u (fun q => ?_) e
    have e9 : b = s1.heap.objs.size := List.mem_singleton.mp hb
    exact Nat.ne_of_lt (Heap.lt_size eP) (q.symm.trans e9)
  · intro b hb
    have e9 : b = s1.heap.objs.size := List.mem_singleton.mp hb
    rw [e9]
    show s1.heap.objs.size < h3.objs.size
    omega
  · intro hb
    have e9 : cStatics = s1.heap.objs.size := List.mem_singleton.mp hb
    exact Nat.ne_of_lt cl1 e9
  · intro g h5 tk5 gs hgb hag hsz5 hk5 W5 hat
    simp only [GxR.passing_true, List.length_range] at W5
    have hlt : s1.heap.objs.size < h3.objs.size := by omega
    have out : ∀ b u, s1.heap.get? b = some u → b ∉ h3.objs.size :: [s1.heap.objs.size] := fun b u e hb => by
      have l1 := Heap.lt_size e
      rcases List.mem_cons.mp hb with q | q
      · rw [q] at l1
        exact Nat.lt_irrefl _ (Nat.lt_trans l1 hlt)
      · have e9 : b = s1.heap.objs.size := List.mem_singleton.mp q
        rw [e9] at l1
        exact Nat.lt_irrefl _ l1
    refine hQ a H1 g _ q1 ⟨_, _, _, _, _, W5.in4_1, hat, fun i v si Qi Ei hv hQi => ?_, fun s' mv => ?_⟩
    · obtain ⟨i', hii, cc, hcc, rfl⟩ := hv
      obtain ⟨hj, ej⟩ := List.getElem?_eq_some_iff.mp hii
      rw [List.getElem_range] at ej
      subst ej
      have q : Qi (trF _ a.cps.toList i) si := hQi
      rw [trF_some ((Array.getElem?_toList ..).trans hcc)] at q
      exact wpAny_truthy_bool q
    · exact tab_two I1 hP ht3 mv (fun b u hb e => hk5 b u (old b u hb e)) (hk5 P _ eP3) (AllBare.movedS (I1.bare.push hgb) mv) rfl out
/-- all(x in y for x in e); behind it the table of the def may have grown -/
def tAllIn (P : Addr) (j : Nat) (te : TE) : TE := fun σ H Q => ∃ z : Str, σ[j]? = some (some (.str z)) ∧ te σ H fun v H1 => ∃ a : Str, v = .str a ∧ TabG H1 P ∧ ∀ H2, Tabbed P H1 H2 → Q (.bl (a.cps.toList.all fun c => decide (c ∈ z.cps.toList))) H2
theorem pe_allIn {c P : Addr} {iter : Expr} {x y : Str} {px p p1 p2 p3 pos gpos : Pos} {scope : Scope} {te : TE} {k j : Nat}
    (hr : Room k X.A) (hg : Gl X "all") (hm : X.mg "all" = none) (hb : bootBuiltins "all" = some (.builtin "all")) (TB : TabB X.base X.mg c P) (hcode : X.env.code = .ref c) (S : GenS X.env scope x) (hi : PE X iter te)
    (hN : X.N[j]? = some y) (hcy : X.env.scope.names.lookup y = some .cell) (hyf : (y, NameKind.free) ∈ scope.names) (hy : scope.names.lookup y = some .free)
    (hd : (x == ("__debug__" : Str)) = false := by decide) (hd2 : (y == ("__debug__" : Str)) = false := by decide) (hcd : (y == ("__classdict__" : Str)) = false := by decide)
    (hs : ∀ v, genFold iter X.env v = pure v)
    (he : starEach [.GeneratorExp (.Compare (.Name x p1) [.In] [.Name y p2] p3) [⟨.Name x px, iter, [], 0⟩] scope gpos] X.env = (false, eval (.GeneratorExp (.Compare (.Name x p1) [.In] [.Name y p2] p3) [⟨.Name x px, iter, [], 0⟩] scope gpos) X.env) :: starEach [] X.env := by rfl) :
    PE X (.Call (.Name "all" p) [.GeneratorExp (.Compare (.Name x p1) [.In] [.Name y p2] p3) [⟨.Name x px, iter, [], 0⟩] scope gpos] [] pos) (tAllIn P j te) := by
  refine ⟨fun pins s σ H Q I h => ?_⟩
  obtain ⟨z, hz, h⟩ := h
  refine wpAny_Call_Name_kw (ld_blt I hg hm hb ?_)
  refine PyProof.Rows.callWith_builtin1 ?_ he (by rfl)
  rw [he]
  show wpAny _ _ (spliced ((false, eval (.GeneratorExp (.Compare (.Name x p1) [.In] [.Name y p2] p3) [⟨.Name x px, iter, [], 0⟩] scope gpos) X.env) :: backTo pos (starEach [] X.env))) _ _ s
  refine Calls.spliced_cons (gen_in (R := fun a H1 => ∀ H2, Tabbed P H1 H2 → Q (.bl (a.cps.toList.all fun c => decide (c ∈ z.cps.toList))) H2) hr TB hcode S hi hN hcy hyf (elt_in S.kind S.loc hy hd hd2 hcd) hs I hz h fun a H1 g s5 hR hG => ?_)
  obtain ⟨fp, wr, G, F, St, W, hst, htr, hI⟩ := hG
  refine Calls.spliced_nil ?_
  refine call_all_walkS (W.self 0 _ _ _ hst ⟨g, fp, wr, G, _, F, St, _, rfl, W, hst, htr, fun s' hmv => ?_⟩)
  obtain ⟨H2, hT, J⟩ := hI s' hmv
  refine ⟨.bl _, H2, J, rfl, ?_⟩
  rw [all_signs a _]
  exact hR H2 hT
end
end Cw
set_option Elab.async false
set_option linter.all false
set_option maxRecDepth 100000
set_option maxHeartbeats 2000000
/-! What an expression is worth, over a heap that may grow: texts by their signs -/
namespace Cw
open PySem PySem.Spec PyProof.Rows L2
open GxR (TabG Tabbed TabB)

/-! ### texts by their signs -/
def S (l : List Nat) : Str := ⟨l.toArray⟩
abbrev sv (l : List Nat) : V := .str (S l)
theorem S_len (l : List Nat) : (S l).length = l.length := by
  show l.toArray.size = l.length
  simp
theorem S_list (l : List Nat) : (S l).cps.toList = l := rfl
theorem S_size (l : List Nat) : (S l).cps.size = l.length := by
  show l.toArray.size = l.length
  simp
theorem S_get (l : List Nat) (i : Nat) : (S l).cps[i]? = l[i]? := by
  show l.toArray[i]? = l[i]?
  simp
theorem S_app (a b : List Nat) : S a ++ S b = S (a ++ b) := by
  show (⟨a.toArray ++ b.toArray⟩ : Str) = ⟨(a ++ b).toArray⟩
  simp
theorem S_inj {a b : List Nat} : S a = S b ↔ a = b := by
  constructor
  · intro h
    have e : (S a).cps.toList = (S b).cps.toList := by rw [h]
    exact e
  · intro h
    rw [h]
theorem S_of (x : Str) : x = S x.cps.toList := by
  cases x
  rfl
theorem sv_inj {a b : List Nat} : (sv a = sv b) ↔ a = b := by
  constructor
  · intro h
    injection h with h
    exact S_inj.mp h
  · intro h
    rw [h]
theorem sv_dec (a b : List Nat) : decide (sv a = sv b) = decide (a = b) := by
  by_cases h : a = b
  · rw [decide_eq_true h, decide_eq_true (sv_inj.mpr h)]
  · rw [decide_eq_false h, decide_eq_false fun q => h (sv_inj.mp q)]

/-! ### the heap -/
def Good (Ts : List Addr) (H : Hp) : Prop := ∀ P ∈ Ts, TabG H P
structure Ex (Ts : List Addr) (H H' : Hp) : Prop where
  keep : ∀ a o, a ∉ Ts → H a = some o → H' a = some o
  good : Good Ts H'
section
variable {Ts : List Addr} {H H1 H2 H' : Hp} {p : Addr} {o : HO} {K : PySem.W.Frag}
theorem Ex.refl (g : Good Ts H) : Ex Ts H H := ⟨fun _ _ _ e => e, g⟩
theorem Ex.trans (a : Ex Ts H H1) (b : Ex Ts H1 H2) : Ex Ts H H2 := ⟨fun x u n e => b.keep x u n (a.keep x u n e), b.good⟩
theorem Good.out (g : Good Ts H) (h : ∀ ps, H p ≠ some (.tbl ps)) : p ∉ Ts := fun m => by
  obtain ⟨ps, e, _⟩ := g p m
  exact h ps e
theorem Good.free (g : Good Ts H) (h : H p = none) : p ∉ Ts := g.out fun ps e => by
  rw [h] at e
  cases e
theorem Good.upd (g : Good Ts H) (n : p ∉ Ts) : Good Ts (upd H p o) := fun P m => by
  obtain ⟨ps, e, t⟩ := g P m
  have ne : P ≠ p := fun q => n (by rw [← q]; exact m)
  exact ⟨ps, by rw [upd_ne ne]; exact e, t⟩
theorem Ex.new (g : Good Ts H) (h : H p = none) : Ex Ts H (upd H p o) := by
  refine ⟨fun a u _ e => ?_, g.upd (g.free h)⟩
  rw [upd_ne (ne_of_none e h)]
  exact e
theorem Ex.mut (e : Ex Ts H H') (n : p ∉ Ts) (h : H p = none) : Ex Ts H (upd H' p o) := by
  refine ⟨fun a u m q => ?_, e.good.upd n⟩
  rw [upd_ne (ne_of_none q h)]
  exact e.keep a u m q
theorem Ex.tabbed (g : Good Ts H) (hp : p ∈ Ts) (t : Tabbed p H H') : Ex Ts H H' := by
  refine ⟨fun a u n e => ?_, fun P m => ?_⟩
  · rw [t.2 a fun q => n (by rw [q]; exact hp)]
    exact e
  · by_cases h : P = p
    · rw [h]
      exact t.1
    · obtain ⟨ps, e, q⟩ := g P m
      exact ⟨ps, by rw [t.2 P h]; exact e, q⟩
theorem Ex.back (e : Ex Ts H H') (h : H' p = none) : H p = none := by
  cases q : H p with
  | none => rfl
  | some u =>
    by_cases m : p ∈ Ts
    · obtain ⟨ps, z, _⟩ := e.good p m
      rw [h] at z
      cases z
    · rw [e.keep p u m q] at h
      cases h
theorem Ex.rd (g : Good Ts H) (e : Ex Ts H H') (n : ∀ ps, o ≠ .tbl ps) (h : Rd H p o) : Rd H' p o := by
  rcases h with h | ⟨u, h⟩
  · exact .inl (e.keep p _ (g.out fun ps q => n ps (Option.some.inj (h.symm.trans q))) h)
  · exact .inr ⟨u, e.keep p _ (g.out fun ps q => by rw [h] at q; cases q) h⟩
theorem Ex.l {xs : List V} (g : Good Ts H) (e : Ex Ts H H') (h : SqL K H p xs) : SqL K H' p xs := by
  rcases h with h | h
  · exact .inl (e.rd g (fun ps q => by cases q) h)
  · exact .inr h
theorem Ex.t {xs : List V} (g : Good Ts H) (e : Ex Ts H H') (h : SqT K H p xs) : SqT K H' p xs := by
  rcases h with h | h
  · exact .inl (e.rd g (fun ps q => by cases q) h)
  · exact .inr h
theorem l_of {xs : List V} (h : H p = some (.lst xs)) : SqL K H p xs := .inl (.inl h)
theorem t_of {xs : List V} (h : H p = some (.tup xs)) : SqT K H p xs := .inl (.inl h)
end

/-! ### what evaluates to what -/
def Ev (Ts : List Addr) (te : TE) (σ : L2.St) (H : Hp) (v : V) : Prop := ∀ H1, Ex Ts H H1 → ∀ Q : VK, (∀ H2, Ex Ts H1 H2 → Q v H2) → te σ H1 Q
/-- some new object of which R is told -/
def EvN (Ts : List Addr) (te : TE) (σ : L2.St) (H : Hp) (R : HO) : Prop := ∀ H1, Ex Ts H H1 → ∀ Q : VK, (∀ p H2, H1 p = none → Ex Ts H1 H2 → H2 p = some R → Q (.ref p) H2) → te σ H1 Q
def EvT (Ts : List Addr) (t : TT) (σ : L2.St) (H : Hp) (b : Bool) : Prop := ∀ H1, Ex Ts H H1 → ∀ Q : Bool → Hp → Prop, (∀ H2, Ex Ts H1 H2 → Q b H2) → t σ H1 Q
def EvA (Ts : List Addr) (t : TA) (σ : L2.St) (H : Hp) (vs : List V) : Prop := ∀ H1, Ex Ts H H1 → ∀ Q : List V → Hp → Prop, (∀ H2, Ex Ts H1 H2 → Q vs H2) → t σ H1 Q
def EvO (Ts : List Addr) (t : TO) (σ : L2.St) (H : Hp) (o : Option Int) : Prop := ∀ H1, Ex Ts H H1 → ∀ Q : Option Int → Hp → Prop, (∀ H2, Ex Ts H1 H2 → Q o H2) → t σ H1 Q
def RV (Ts : List Addr) (r : R2) (x y : V) (H : Hp) (z : V) : Prop := ∀ H1, Ex Ts H H1 → ∀ Q : VK, (∀ H2, Ex Ts H1 H2 → Q z H2) → r x y H1 Q
def RU (Ts : List Addr) (r : V → Hp → VK → Prop) (x : V) (H : Hp) (z : V) : Prop := ∀ H1, Ex Ts H H1 → ∀ Q : VK, (∀ H2, Ex Ts H1 H2 → Q z H2) → r x H1 Q
def RC (Ts : List Addr) (r : List V → Hp → VK → Prop) (vs : List V) (H : Hp) (z : V) : Prop := ∀ H1, Ex Ts H H1 → ∀ Q : VK, (∀ H2, Ex Ts H1 H2 → Q z H2) → r vs H1 Q
section
variable {Ts : List Addr} {K : PySem.W.Frag} {w : World} {σ : L2.St} {H H0 H' : Hp} {ta tb te tx : TE} {t u : TT} {x y z v : V} {r : R2}
theorem Ev.go {Q : VK} (h : Ev Ts te σ H0 v) (e : Ex Ts H0 H) (k : ∀ H2, Ex Ts H0 H2 → Q v H2) : te σ H Q := h H e Q fun H2 e2 => k H2 (e.trans e2)
theorem EvT.go {b : Bool} {Q : Bool → Hp → Prop} (h : EvT Ts t σ H0 b) (e : Ex Ts H0 H) (k : ∀ H2, Ex Ts H0 H2 → Q b H2) : t σ H Q := h H e Q fun H2 e2 => k H2 (e.trans e2)
theorem EvN.go {R : HO} {Q : VK} (h : EvN Ts te σ H0 R) (e : Ex Ts H0 H) (k : ∀ p H2, H0 p = none → p ∉ Ts → Ex Ts H0 H2 → H2 p = some R → Q (.ref p) H2) : te σ H Q :=
  h H e Q fun p H2 n e2 q => k p H2 (e.back n) (e.good.free n) (e.trans e2) q
theorem Ev.mono (e : Ex Ts H H') (h : Ev Ts te σ H v) : Ev Ts te σ H' v := fun H1 a Q q => h H1 (e.trans a) Q q
theorem ev_var {i : Nat} (h : σ[i]? = some (some v)) : Ev Ts (tVar i) σ H v := fun H1 e _ q => ⟨v, h, q H1 (Ex.refl e.good)⟩
theorem ev_c : Ev Ts (tC v) σ H v := fun H1 e _ q => q H1 (Ex.refl e.good)
theorem ev_s {a : Str} {l : List Nat} (h : a = S l) : Ev Ts (tC (.str a)) σ H (sv l) := by
  rw [h]
  exact ev_c
theorem ev_op (ha : Ev Ts ta σ H x) (hb : Ev Ts tb σ H y) (hr : RV Ts r x y H z) : Ev Ts (tOp r ta tb) σ H z := fun H1 e Q q =>
  ha H1 e _ fun H2 e2 => hb H2 (e.trans e2) _ fun H3 e3 => hr H3 ((e.trans e2).trans e3) Q fun H4 e4 => q H4 ((e2.trans e3).trans e4)
theorem ev_is {a : V} (h : Ev Ts te σ H v) (e : v = a) : Ev Ts te σ H a := e ▸ h
theorem et_is {a b : Bool} (h : EvT Ts t σ H a) (e : a = b) : EvT Ts t σ H b := e ▸ h
theorem rv_I0 {g : Int → Int → V} {i j : Int} : RV Ts (rI0 g) (.int i) (.int j) H (g i j) := fun H1 e _ q => ⟨i, j, rfl, rfl, q H1 (Ex.refl e.good)⟩
theorem rv_I {C : Int → Int → Prop} {g : Int → Int → V} {i j : Int} (hc : C i j) : RV Ts (rI C g) (.int i) (.int j) H (g i j) := fun H1 e _ q => ⟨i, j, rfl, rfl, hc, q H1 (Ex.refl e.good)⟩
theorem rv_eq (h : scal x y = true) : RV Ts rEq x y H (.bl (decide (x = y))) := fun H1 e _ q => ⟨h, q H1 (Ex.refl e.good)⟩
theorem rv_ne (h : scal x y = true) : RV Ts rNe x y H (.bl (!decide (x = y))) := fun H1 e _ q => ⟨h, q H1 (Ex.refl e.good)⟩
theorem rv_addS {a b : List Nat} (h : a.length + b.length ≤ 100000) : RV Ts (fun x y H Q => ∃ i j : Str, x = .str i ∧ y = .str j ∧ i.length + j.length ≤ sizeLine ∧ Q (.str (i ++ j)) H) (sv a) (sv b) H (sv (a ++ b)) := fun H1 e _ q =>
  ⟨S a, S b, rfl, rfl, by rw [S_len, S_len]; exact Nat.le_trans h (by decide), by rw [S_app]; exact q H1 (Ex.refl e.good)⟩
theorem rv_inS {c : Nat} {a : List Nat} : RV Ts (fun x y H Q => ∃ (c : Nat) (z : Str), x = .str ⟨#[c]⟩ ∧ y = .str z ∧ Q (.bl (decide (c ∈ z.cps.toList))) H) (sv [c]) (sv a) H (.bl (decide (c ∈ a))) := fun H1 e _ q =>
  ⟨c, S a, rfl, rfl, q H1 (Ex.refl e.good)⟩
theorem rv_niS {c : Nat} {a : List Nat} : RV Ts (fun x y H Q => ∃ (c : Nat) (z : Str), x = .str ⟨#[c]⟩ ∧ y = .str z ∧ Q (.bl (!decide (c ∈ z.cps.toList))) H) (sv [c]) (sv a) H (.bl (!decide (c ∈ a))) := fun H1 e _ q =>
  ⟨c, S a, rfl, rfl, q H1 (Ex.refl e.good)⟩
theorem rv_ixS {a : List Nat} {i : Int} {c : Nat} (hl : a.length ≤ 100000) (h : atI a i = some c) : RV Ts rIxS (sv a) (.int i) H (sv [c]) := fun H1 e _ q =>
  ⟨S a, i, c, rfl, rfl, by rw [S_len]; exact Nat.le_trans hl (by decide), h, q H1 (Ex.refl e.good)⟩
theorem rv_ixL {p : Addr} {xs : List V} {i : Int} (g : Good Ts H) (h : SqL K H p xs) (ha : atI xs i = some v) : RV Ts (rIxL K) (.ref p) (.int i) H v := fun H1 e _ q =>
  ⟨p, xs, i, v, rfl, rfl, e.l g h, ha, q H1 (Ex.refl e.good)⟩
theorem rv_kd {p : Addr} {a : List Nat} (h : KDct K w p (S a) v) : RV Ts (rIxD K w) (.ref p) (sv a) H v := fun H1 e _ q => ⟨p, S a, v, rfl, rfl, h, q H1 (Ex.refl e.good)⟩
theorem et_test {b : Bool} (h : Ev Ts te σ H (.bl b)) : EvT Ts (tTest te) σ H b := fun H1 e _ q => h H1 e _ fun H2 e2 => ⟨b, rfl, q H2 e2⟩
theorem et_B {b : Bool} (h : Ev Ts te σ H (.bl b)) : EvT Ts (tB te) σ H b := fun H1 e _ q => h H1 e _ fun H2 e2 => ⟨b, rfl, q H2 e2⟩
theorem et_and {a b : Bool} (h1 : EvT Ts t σ H a) (h2 : a = true → EvT Ts u σ H b) : EvT Ts (tAnd t u) σ H (a && b) := fun H1 e Q q => h1 H1 e _ fun H2 e2 => by
  cases a with
  | true => exact h2 rfl H2 (e.trans e2) Q fun H3 e3 => q H3 (e2.trans e3)
  | false => exact q H2 e2
theorem et_or {a b : Bool} (h1 : EvT Ts t σ H a) (h2 : a = false → EvT Ts u σ H b) : EvT Ts (tOr t u) σ H (a || b) := fun H1 e Q q => h1 H1 e _ fun H2 e2 => by
  cases a with
  | true => exact q H2 e2
  | false => exact h2 rfl H2 (e.trans e2) Q fun H3 e3 => q H3 (e2.trans e3)
theorem et_not {a : Bool} (h1 : EvT Ts t σ H a) : EvT Ts (tNot t) σ H (!a) := fun H1 e _ q => h1 H1 e _ fun H2 e2 => q H2 e2
theorem ev_and {a b : Bool} (h1 : Ev Ts ta σ H (.bl a)) (h2 : a = true → Ev Ts tb σ H (.bl b)) : Ev Ts (tAndV ta tb) σ H (.bl (a && b)) := fun H1 e Q q => h1 H1 e _ fun H2 e2 => ⟨a, rfl, by
  cases a with
  | true => exact h2 rfl H2 (e.trans e2) Q fun H3 e3 => q H3 (e2.trans e3)
  | false => exact q H2 e2⟩
theorem ev_not {a : Bool} (h1 : Ev Ts ta σ H (.bl a)) : Ev Ts (tNotV ta) σ H (.bl (!a)) := fun H1 e _ q => h1 H1 e _ fun H2 e2 => ⟨a, rfl, q H2 e2⟩
theorem ev_if {b : Bool} (h : EvT Ts t σ H b) (h1 : b = true → Ev Ts ta σ H v) (h2 : b = false → Ev Ts tb σ H v) : Ev Ts (tIf t ta tb) σ H v := fun H1 e Q q => h H1 e _ fun H2 e2 => by
  cases b with
  | true => exact h1 rfl H2 (e.trans e2) Q fun H3 e3 => q H3 (e2.trans e3)
  | false => exact h2 rfl H2 (e.trans e2) Q fun H3 e3 => q H3 (e2.trans e3)
theorem ea_nil : EvA Ts tNil σ H [] := fun H1 e _ q => q H1 (Ex.refl e.good)
theorem ea_cons {tr : TA} {vs : List V} (h : Ev Ts ta σ H x) (hr : EvA Ts tr σ H vs) : EvA Ts (tCons ta tr) σ H (x :: vs) := fun H1 e _ q =>
  h H1 e _ fun H2 e2 => hr H2 (e.trans e2) _ fun H3 e3 => q H3 (e2.trans e3)
theorem eo_none : EvO Ts tNoPart σ H none := fun H1 e _ q => q H1 (Ex.refl e.good)
theorem eo_some {i : Int} (h : Ev Ts te σ H (.int i)) : EvO Ts (tPart te) σ H (some i) := fun H1 e _ q => h H1 e _ fun H2 e2 => ⟨i, rfl, q H2 e2⟩
theorem en_tup {tr : TA} {vs : List V} (h : EvA Ts tr σ H vs) (hl : vs.length ≤ 100000) : EvN Ts (tTup tr) σ H (.tup vs) := fun H1 e _ q =>
  h H1 e _ fun H2 e2 => ⟨Nat.le_trans hl (by decide), fun p hp => q p _ (e2.back hp) (e2.trans (Ex.new e2.good hp)) upd_same⟩
theorem en_lst {tr : TA} {vs : List V} (h : EvA Ts tr σ H vs) (hl : vs.length ≤ 100000) : EvN Ts (tLst tr) σ H (.lst vs) := fun H1 e _ q =>
  h H1 e _ fun H2 e2 => ⟨Nat.le_trans hl (by decide), fun p hp => q p _ (e2.back hp) (e2.trans (Ex.new e2.good hp)) upd_same⟩
theorem en_slL {tl th : TO} {a : Addr} {xs : List V} {lo hi : Option Int} (g : Good Ts H) (h : Ev Ts te σ H (.ref a)) (h1 : EvO Ts tl σ H lo) (h2 : EvO Ts th σ H hi) (hs : SqL K H a xs) : EvN Ts (tSl (rSlL K) te tl th) σ H (.lst (cutV xs lo hi)) := fun H1 e _ q =>
  h H1 e _ fun H2 e2 => h1 H2 (e.trans e2) _ fun H3 e3 => h2 H3 ((e.trans e2).trans e3) _ fun H4 e4 =>
    ⟨a, xs, rfl, (((e.trans e2).trans e3).trans e4).l g hs, fun p hp => q p _ (((e2.trans e3).trans e4).back hp) (((e2.trans e3).trans e4).trans (Ex.new e4.good hp)) upd_same⟩
theorem ev_slS {tl th : TO} {a b : List Nat} {lo hi : Option Int} (hl : a.length ≤ 100000) (h : Ev Ts te σ H (sv a)) (h1 : EvO Ts tl σ H lo) (h2 : EvO Ts th σ H hi) (hb : cutS (S a) lo hi = S b) : Ev Ts (tSl rSlS te tl th) σ H (sv b) := fun H1 e _ q =>
  h H1 e _ fun H2 e2 => h1 H2 (e.trans e2) _ fun H3 e3 => h2 H3 ((e.trans e2).trans e3) _ fun H4 e4 =>
    ⟨S a, rfl, by rw [S_len]; exact Nat.le_trans hl (by decide), by rw [hb]; exact q H4 ((e2.trans e3).trans e4)⟩
theorem ev_cb {r : List V → Hp → VK → Prop} {tr : TA} {vs : List V} (h : EvA Ts tr σ H vs) (hr : RC Ts r vs H z) : Ev Ts (tCB r tr) σ H z := fun H1 e Q q =>
  h H1 e _ fun H2 e2 => hr H2 (e.trans e2) Q fun H3 e3 => q H3 (e2.trans e3)
theorem rc_lenS {a : List Nat} (h : a.length ≤ 100000) : RC Ts (fun xs H Q => ∃ z : Str, xs = [.str z] ∧ z.length ≤ sizeLine ∧ Q (.int z.length) H) [sv a] H (.int (a.length : Int)) := fun H1 e _ q =>
  ⟨S a, rfl, by rw [S_len]; exact Nat.le_trans h (by decide), by rw [S_len]; exact q H1 (Ex.refl e.good)⟩
theorem rc_lenL {p : Addr} {xs : List V} (g : Good Ts H) (h : SqL K H p xs) : RC Ts (fun vs H Q => ∃ (p : Addr) (ys : List V), vs = [.ref p] ∧ (SqL K H p ys ∨ SqT K H p ys) ∧ Q (.int (ys.length : Nat)) H) [.ref p] H (.int (xs.length : Int)) := fun H1 e _ q =>
  ⟨p, xs, rfl, .inl (e.l g h), q H1 (Ex.refl e.good)⟩
theorem rc_max {i j : Int} : RC Ts (fun xs H Q => ∃ i j : Int, xs = [.int i, .int j] ∧ Q (.int (if j > i then j else i)) H) [.int i, .int j] H (.int (if j > i then j else i)) := fun H1 e _ q => ⟨i, j, rfl, q H1 (Ex.refl e.good)⟩
theorem rc_abs {i : Int} : RC Ts (fun xs H Q => ∃ i : Int, xs = [.int i] ∧ Q (.int (if i < 0 then -i else i)) H) [.int i] H (.int (if i < 0 then -i else i)) := fun H1 e _ q => ⟨i, rfl, q H1 (Ex.refl e.good)⟩
theorem rc_intI {i : Int} : RC Ts (fun xs H Q => (∃ i, xs = [V.int i] ∧ Q (.int i) H) ∨ ∃ k, xs = [V.bl k] ∧ Q (.int (if k then 1 else 0)) H) [.int i] H (.int i) := fun H1 e _ q => .inl ⟨i, rfl, q H1 (Ex.refl e.good)⟩
theorem rc_intB {k : Bool} : RC Ts (fun xs H Q => (∃ i, xs = [V.int i] ∧ Q (.int i) H) ∨ ∃ k, xs = [V.bl k] ∧ Q (.int (if k then 1 else 0)) H) [.bl k] H (.int (if k then 1 else 0)) := fun H1 e _ q => .inr ⟨k, rfl, q H1 (Ex.refl e.good)⟩
theorem rc_bin {a : List Nat} (h0 : a ≠ []) (h1 : a.length ≤ 640) (h2 : ∀ c ∈ a, IsBin c) : RC Ts rIntBin [sv a, .int 2] H (.int ((binNum a : Nat) : Int)) := fun H1 e _ q =>
  ⟨S a, rfl, h0, by rw [S_len]; exact h1, h2, q H1 (Ex.refl e.good)⟩
theorem ev_allIn {P : Addr} {j : Nat} {a b : List Nat} (hP : P ∈ Ts) (hj : σ[j]? = some (some (sv b))) (h : Ev Ts te σ H (sv a)) : Ev Ts (tAllIn P j te) σ H (.bl (a.all fun c => decide (c ∈ b))) := fun H1 e Q q =>
  ⟨S b, hj, h H1 e _ fun H2 e2 => ⟨S a, rfl, e2.good P hP, fun H3 t => q H3 (e2.trans (Ex.tabbed e2.good hP t))⟩⟩
theorem ev_find {K : PySem.W.Frag} {a b : List Nat} {to : TE} {ts : TE} {n : Int} (ho : Ev Ts to σ H (sv a)) (hs : Ev Ts ts σ H (sv b)) (hn : (Txt.find (S a) (S b) : Int) = n) (ty : ∀ H, tyV K "str" (sv a) H) :
    Ev Ts (tBM K "str" (fun x xs H Q => ∃ a b : Str, x = .str a ∧ xs = [.str b] ∧ Q (.int (Txt.find a b)) H) to (tCons ts tNil)) σ H (.int n) := fun H1 e Q q =>
  ho H1 e _ fun H2 e2 => ⟨ty H2, hs H2 (e.trans e2) _ fun H3 e3 => ⟨S a, S b, rfl, rfl, by rw [hn]; exact q H3 (e2.trans e3)⟩⟩
end

/-! ### promises -/
/-- from x of α: the arguments, what is asked, what is told of the answer -/
def FnS (Ts : List Addr) {α : Type} (enc : α → List V) (dom : α → Hp → Prop) (R : α → V → Hp → Prop) : Sp := fun vs H Q _ => ∃ x, vs = enc x ∧ dom x H ∧ Good Ts H ∧ ∀ v H', Ex Ts H H' → R x v H' → Q v H'
/-- the answer is a value -/
def FnV (Ts : List Addr) {α : Type} (enc : α → List V) (dom : α → Prop) (res : α → V) : Sp := fun vs H Q _ => ∃ x, vs = enc x ∧ dom x ∧ Good Ts H ∧ ∀ H', Ex Ts H H' → Q (res x) H'
/-- the answer is a new object -/
def FnN (Ts : List Addr) {α : Type} (enc : α → List V) (dom : α → Hp → Prop) (R : α → HO) : Sp := fun vs H Q _ => ∃ x, vs = enc x ∧ dom x H ∧ Good Ts H ∧ ∀ p H', H p = none → Ex Ts H H' → H' p = some (R x) → Q (.ref p) H'
section
variable {Ts : List Addr} {σ : L2.St} {H : Hp} {E : XK} {tr : TA} {α : Type} {enc : α → List V} {domV : α → Prop} {dom : α → Hp → Prop} {res : α → V} {R : α → HO}
theorem ev_call (x : α) (h : EvA Ts tr σ H (enc x)) (hd : domV x) : Ev Ts (tCall (FnV Ts enc domV res) [] E tr) σ H (res x) := fun H1 e Q q =>
  h H1 e _ fun H2 e2 => ⟨x, List.append_nil _, hd, e2.good, fun H3 e3 => q H3 (e2.trans e3)⟩
theorem en_call (x : α) (h : EvA Ts tr σ H (enc x)) (hd : ∀ H2, Ex Ts H H2 → dom x H2) : EvN Ts (tCall (FnN Ts enc dom R) [] E tr) σ H (R x) := fun H1 e Q q =>
  h H1 e _ fun H2 e2 => ⟨x, List.append_nil _, hd H2 (e.trans e2), e2.good, fun p H3 n e3 => q p H3 (e2.back n) (e2.trans e3)⟩
end

/-! ### steps of a body -/
section
variable {Ts : List Addr} {σ : L2.St} {H H0 : Hp} {D : Ends} {te : TE} {tc : TT} {t1 t2 : TS} {v : V} {i : Nat}
theorem st_ret (h : Ev Ts te σ H0 v) (e : Ex Ts H0 H) (k : ∀ H2, Ex Ts H0 H2 → D.rt v H2) : tRet te D σ H := h.go e k
theorem st_set (h : Ev Ts te σ H0 v) (e : Ex Ts H0 H) (k : ∀ H2, Ex Ts H0 H2 → D.nx (σ.set i (some v)) H2) : tAsg te (gName i) D σ H := h.go e k
theorem st_if {b : Bool} (h : EvT Ts tc σ H0 b) (e : Ex Ts H0 H) (k1 : ∀ H2, Ex Ts H0 H2 → b = true → t1 D σ H2) (k2 : ∀ H2, Ex Ts H0 H2 → b = false → t2 D σ H2) : tIfS tc t1 t2 D σ H := h.go e fun H2 e2 => by
  cases b with
  | true => exact k1 H2 e2 rfl
  | false => exact k2 H2 e2 rfl
end
end Cw
set_option Elab.async false
set_option linter.all false
set_option maxRecDepth 100000
set_option maxHeartbeats 2000000
/-! texts times numbers, joined; comprehensions and loops over texts, pairs of texts, lists -/
namespace Cw
open PySem PySem.Spec PyProof.Rows L2
open GxR (TabG Tabbed TabB)

/-! ### a sign times a number -/
theorem rep_fold (c : Nat) : ∀ (n : Nat) (acc : Array Nat), (List.replicate n (#[c] : Array Nat)).foldl (· ++ ·) acc = acc ++ (List.replicate n c).toArray
  | 0, acc => by simp
  | n + 1, acc => by
    rw [List.replicate_succ, List.foldl_cons, rep_fold c n, List.replicate_succ]
    apply Array.toList_inj.mp
    simp
def rMulS : R2 := fun x y H Q => ∃ (c : Nat) (n : Int), x = .str ⟨#[c]⟩ ∧ y = .int n ∧ -100000 ≤ n ∧ n ≤ 100000 ∧ Q (sv (List.replicate n.toNat c)) H
theorem op_mulS {X : Cx} : OpR X (binaryOp .Mult) rMulS := by
  intro pins s σ H x y v u Q I rx ry h
  obtain ⟨c, n, rfl, rfl, h0, h1, q⟩ := h
  obtain ⟨t, rfl⟩ := rx
  obtain ⟨t', rfl⟩ := ry
  have hl : ((⟨#[c]⟩ : Str).length) = 1 := rfl
  refine PySem.P.mul_str ?_ ?_ ?_ ?_
  · rw [decide_eq_false (show ¬ n < -(2 ^ 63 : Int) by omega), decide_eq_false (show ¬ n ≥ 2 ^ 63 by omega)]
    rfl
  · intro a _
    rw [hl]
    have q1 : (1 : Int) ≤ (2 ^ 63 - 1) / n := (Int.le_ediv_iff_mul_le (show (0 : Int) < n by omega)).mpr (by omega)
    intro b
    have b' : (1 : Int) > (2 ^ 63 - 1) / n := b
    omega
  · intro a _
    rw [hl]
    unfold Builtin.Str.tooLong
    refine decide_eq_false ?_
    have e : sizeLine = sizeLine := rfl
    have z : (100000 : Nat) ≤ sizeLine := by decide
    omega
  · by_cases a : n < 1
    · rw [if_pos a]
      have e : n.toNat = 0 := by omega
      rw [e] at q
      exact ⟨by decide, .str (S []), H, I.tok _, ⟨_, rfl⟩, q⟩
    · rw [if_neg a]
      by_cases b : (n == 1 || (⟨#[c]⟩ : Str).length == 0) = true
      · rw [if_pos b]
        have e1 : n = 1 := by
          rw [hl] at b
          rcases Bool.or_eq_true_iff.mp b with b | b
          · exact beq_iff_eq.mp b
          · exact absurd b (by decide)
        subst e1
        exact ⟨.str ⟨#[c]⟩, H, I, ⟨_, rfl⟩, q⟩
      · rw [if_neg b, rep_fold]
        have e : (#[] : Array Nat) ++ (List.replicate n.toNat c).toArray = (List.replicate n.toNat c).toArray := Array.empty_append
        refine ⟨?_, .str (S (List.replicate n.toNat c)), H, I.tok _, ⟨_, by rw [e]; rfl⟩, q⟩
        show (((#[] : Array Nat) ++ (List.replicate n.toNat c).toArray).size) ≤ sizeLine
        rw [e, List.size_toArray, List.length_replicate]
        have z : (100000 : Nat) ≤ sizeLine := by decide
        omega
section
variable {Ts : List Addr} {K : PySem.W.Frag} {w : World} {σ : L2.St} {H H0 H' : Hp} {ta tb te ti : TE} {t u : TT} {x y z v : V} {r : R2}
theorem rv_mulS {c : Nat} {n : Int} (h0 : -100000 ≤ n) (h1 : n ≤ 100000) : RV Ts rMulS (sv [c]) (.int n) H (sv (List.replicate n.toNat c)) := fun H1 e _ q => ⟨c, n, rfl, rfl, h0, h1, q H1 (Ex.refl e.good)⟩

/-! ### texts joined -/
theorem join_nil : ∀ ls : List (List Nat), Txt.join (S []) (ls.map S) = S ls.flatten := by
  have aux : ∀ ls : List (List Nat), Str.join (S []) (ls.map S) = S ls.flatten := by
    intro ls
    induction ls with
    | nil => rfl
    | cons a r ih =>
      cases r with
      | nil =>
        show S a = S ([a] : List (List Nat)).flatten
        simp
      | cons b r =>
        show S a ++ S [] ++ Str.join (S []) ((b :: r).map S) = _
        rw [ih, S_app, S_app]
        simp
  intro ls
  show Builtin.Str.glued (S []) (ls.map S) = _
  rw [StrLaws.glued_eq_join]
  exact aux ls
theorem map_sv (ls : List (List Nat)) : (ls.map S).map V.str = ls.map sv := by
  rw [List.map_map]
  rfl
theorem len_sum (ls : List (List Nat)) : ((ls.map S).map (·.length)).sum = ls.flatten.length := by
  rw [List.length_flatten, List.map_map]
  exact congrArg List.sum (List.map_congr_left fun a _ => S_len a)
theorem ev_join {ls : List (List Nat)} {to te : TE} (ho : Ev Ts to σ H (sv [])) (h : EvN Ts te σ H (.lst (ls.map sv))) (hl : ls.flatten.length ≤ 100000) (ty : ∀ H, tyV K "str" (sv []) H) :
    Ev Ts (tBM K "str" (fun x xs H Q => ∃ a p, ∃ ys : List Str, x = .str a ∧ xs = [.ref p] ∧ (SqL K H p (ys.map V.str) ∨ SqT K H p (ys.map V.str)) ∧ (ys.map (·.length)).sum + ys.length * a.length ≤ 16777216 ∧ Q (.str (Txt.join a ys)) H) to (tCons te tNil))
      σ H (sv ls.flatten) := fun H1 e Q q =>
  ho H1 e _ fun H2 e2 => ⟨ty H2, h H2 (e.trans e2) _ fun p H3 n e3 hp => ⟨S [], p, ls.map S, rfl, rfl, .inl (l_of (by rw [map_sv]; exact hp)), by
    rw [len_sum, S_len]
    show ls.flatten.length + (ls.map S).length * 0 ≤ 16777216
    omega, by
    rw [join_nil]
    exact q H3 (e2.trans e3)⟩⟩

/-! ### comprehensions -/
theorem take_snoc {xs : List V} {i : Nat} {z : V} (h : xs[i]? = some z) : xs.take (i + 1) = xs.take i ++ [z] := by
  rw [List.take_add_one, h]
  rfl
theorem en_lc {wi : TI} {g : TG} {vs : List Nat} {J : It} {n : Nat} {G : Hp → Prop} {Y : Nat → Hp → V → Hp → Prop} {zs : List V} (hz : zs.length = n) (hn : n ≤ 100000) (W : Walk J n G Y)
    (hw : ∀ H1, Ex Ts H H1 → ∀ R : It → Hp → Prop, (∀ H2, Ex Ts H1 H2 → R J H2) → wi σ H1 R) (hG : ∀ H1, Ex Ts H H1 → G H1)
    (hs : ∀ i z, zs[i]? = some z → ∀ H1 x H', Ex Ts H H1 → Y i H1 x H' → ∃ σ2, Ex Ts H1 H' ∧ (∀ Q : L2.St → Hp → Prop, Q σ2 H' → g x (wipe σ vs) H' Q) ∧ wipe σ2 vs = wipe σ vs ∧ Ev Ts te σ2 H z) :
    EvN Ts (tLc wi g tYes te vs) σ H (.lst zs) := fun H1 e1 Q q => by
  refine hw H1 e1 _ fun H2 e2 => ?_
  intro D nD
  have n0 : H D = none := (e1.trans e2).back nD
  have nT : D ∉ Ts := e2.good.free nD
  have zl : (100000 : Nat) < sizeLine := by decide
  refine lc_it W (fun i H' => Ex Ts H1 H' ∧ H' D = some (.lst (zs.take i))) ⟨e2.trans (Ex.new e2.good nD), by rw [upd_same]; rfl⟩ (fun i H' _ p => hG H' (e1.trans p.1)) (fun i x H3 H4 hi p y => ?_) (fun H' p => ?_)
  · have hi' : i < zs.length := by omega
    obtain ⟨σ2, e4, hg, hwp, hev⟩ := hs i zs[i] (List.getElem?_eq_getElem hi') H3 x H4 (e1.trans p.1) y
    refine hg _ ⟨hwp, ?_⟩
    dsimp only [tYes]
    rw [if_pos rfl]
    refine hev H4 ((e1.trans p.1).trans e4) _ fun H5 e5 => ⟨zs.take i, (e4.trans e5).keep D _ nT p.2, ?_, ?_⟩
    · rw [List.length_take]
      omega
    · refine ⟨((p.1.trans e4).trans e5).mut nT (e2.back nD), ?_⟩
      rw [upd_same, take_snoc (List.getElem?_eq_getElem hi')]
  · have h2 := p.2
    rw [List.take_of_length_le (Nat.le_of_eq hz)] at h2
    exact q D H' (e2.back nD) p.1 h2
theorem wipe_one (σ : L2.St) (j : Nat) (x : V) : wipe ((wipe σ [j]).set j (some x)) [j] = wipe σ [j] := by
  show ((σ.set j none).set j (some x)).set j none = σ.set j none
  rw [List.set_set, List.set_set]
/-- [e for c in text] -/
theorem en_lcS {j : Nat} {a : List Nat} {f : Nat → V} (hl : a.length ≤ 100000) (hi : Ev Ts ti σ H (sv a)) (he : ∀ c ∈ a, Ev Ts te ((wipe σ [j]).set j (some (sv [c]))) H (f c)) : EvN Ts (tLc (iStr ti) (gName j) tYes te [j]) σ H (.lst (a.map f)) := by
  refine en_lc (n := (S a).cps.size) (by rw [List.length_map, S_size]) (by rw [S_size]; exact hl) (walk_str (z := S a)) (fun H1 e R k => hi H1 e _ fun H2 e2 => ⟨S a, rfl, k H2 e2⟩) (fun _ _ => trivial) (fun i z hz H1 x H' e y => ?_)
  obtain ⟨rfl, c, hc, rfl⟩ := y
  rw [S_get] at hc
  rw [List.getElem?_map, hc] at hz
  obtain rfl := Option.some.inj hz
  exact ⟨_, Ex.refl e.good, fun Q q => q, wipe_one σ j _, he c (List.mem_of_getElem? hc)⟩
theorem wipe_two (σ : L2.St) (j k : Nat) (x y : V) (h : j ≠ k) : wipe (((wipe σ [j, k]).set j (some x)).set k (some y)) [j, k] = wipe σ [j, k] := by
  show (((((σ.set k none).set j none).set j (some x)).set k (some y)).set k none).set j none = (σ.set k none).set j none
  rw [List.set_set, List.set_set, List.set_comm _ _ h, List.set_set, List.set_set]
/-- [e for a, b in zip(one, two)], texts of one length -/
theorem en_lcZ {j k : Nat} {a b : List Nat} {tb : TE} {f : Nat → Nat → V} (hjk : j ≠ k) (hab : a.length = b.length) (hl : a.length ≤ 100000) (ha : Ev Ts ta σ H (sv a)) (hb : Ev Ts tb σ H (sv b))
    (he : ∀ c d, c ∈ a → d ∈ b → Ev Ts te (((wipe σ [j, k]).set j (some (sv [c]))).set k (some (sv [d]))) H (f c d)) :
    EvN Ts (tLc (iZips (tCons ta (tCons tb tNil))) (gTup K 2 (gCons (gName j) (gCons (gName k) gNil))) tYes te [j, k]) σ H (.lst ((a.zip b).map fun p => f p.1 p.2)) := by
  refine en_lc (n := (S a).cps.size) (by rw [List.length_map, List.length_zip, S_size, hab, Nat.min_self]) (by rw [S_size]; exact hl) (walk_zips (x := S a) (y := S b) (by rw [S_size, S_size]; exact hab))
    (fun H1 e R q => ha H1 e _ fun H2 e2 => hb H2 (e.trans e2) _ fun H3 e3 => ⟨S a, S b, rfl, q H3 (e2.trans e3)⟩) (fun _ _ => trivial) (fun i z hz H1 x H' e y => ?_)
  obtain ⟨T, c, d, rfl, nT, rfl, hc, hd⟩ := y
  rw [S_get] at hc hd
  have hp : (a.zip b)[i]? = some (c, d) := List.getElem?_zip_eq_some.mpr ⟨hc, hd⟩
  rw [List.getElem?_map, hp] at hz
  obtain rfl := Option.some.inj hz
  exact ⟨_, Ex.new e.good nT, fun Q q => ⟨T, [sv [c], sv [d]], rfl, t_of upd_same, rfl, _, _, rfl, _, _, rfl, rfl, q⟩, wipe_two σ j k _ _ hjk, he c d (List.mem_of_getElem? hc) (List.mem_of_getElem? hd)⟩
/-- [e for x in list], the list a new one on the way -/
theorem en_lcN {j : Nat} {xs : List V} {f : V → V} (hl : xs.length ≤ 100000) (hi : EvN Ts ti σ H (.lst xs)) (he : ∀ x ∈ xs, Ev Ts te ((wipe σ [j]).set j (some x)) H (f x)) : EvN Ts (tLc (iList K ti) (gName j) tYes te [j]) σ H (.lst (xs.map f)) := fun H1 e1 Q q => by
  -- the list stands beside what was there
  refine hi H1 e1 _ fun a H2 n2 e2 ha => ?_
  have g2 : Good Ts H2 := e2.good
  have key : EvN Ts (fun σ H Q => tLc (fun σ H R => R (Itl K a) H) (gName j) tYes te [j] σ H Q) σ H2 (.lst (xs.map f)) := by
    refine en_lc (n := xs.length) (by rw [List.length_map]) hl (walk_list (K := K) (a := a) (xs := xs)) (fun H3 e R k => k H3 (Ex.refl e.good)) (fun H3 e => e.l g2 (l_of ha)) (fun i z hz H3 x H' e y => ?_)
    obtain ⟨rfl, hx⟩ := y
    rw [List.getElem?_map, hx] at hz
    obtain rfl := Option.some.inj hz
    exact ⟨_, Ex.refl e.good, fun Q q => q, wipe_one σ j _, (he x (List.mem_of_getElem? hx)).mono (e1.trans e2)⟩
  exact ⟨a, rfl, ⟨xs, l_of ha⟩, key H2 (Ex.refl g2) Q fun p H3 n e3 h => q p H3 (e2.back n) (e2.trans e3) h⟩

/-! ### loops -/
/-- for c in text: Pv by the signs taken -/
theorem st_forS {j : Nat} {a : List Nat} {tb : TS} {D : Ends} (hi : Ev Ts ti σ H0 (sv a)) (e0 : Ex Ts H0 H) (Pv : Nat → L2.St → Prop) (h0 : Pv 0 σ)
    (hs : ∀ i c σ H1 (N B : L2.St → Hp → Prop), a[i]? = some c → Pv i σ → Ex Ts H0 H1 → (∀ σ2 H2, Ex Ts H0 H2 → Pv (i + 1) σ2 → N σ2 H2) → tb { D with nx := N, ct := N, bk := D.nx } (σ.set j (some (sv [c]))) H1)
    (hd : ∀ σ H1, Ex Ts H0 H1 → Pv a.length σ → D.nx σ H1) : tFor (iStr ti) (gName j) tb D σ H := by
  refine hi.go e0 fun H2 e2 => ⟨S a, rfl, ?_⟩
  refine for_it (walk_str (z := S a)) (fun i σ H => Ex Ts H0 H ∧ Pv i σ) ⟨e2, h0⟩ (fun _ _ _ _ _ => trivial) (fun i x σ H3 H4 hi p y => ?_) (fun σ H3 p => ?_)
  · obtain ⟨rfl, c, hc, rfl⟩ := y
    rw [S_get] at hc
    exact hs i c σ H4 _ D.nx hc p.2 p.1 fun σ2 H5 e5 p5 => ⟨e5, p5⟩
  · rw [S_size] at p
    exact hd σ H3 p.1 p.2
end
end Cw
set_option Elab.async false
set_option linter.all false
set_option maxRecDepth 100000
set_option maxHeartbeats 2000000
/-! vectors by their signs: what the operators make of them -/
namespace Cw
open PySem PySem.Spec PyProof.Rows L2
def IsB (c : Nat) : Prop := c = 48 ∨ c = 49 ∨ c = 120 ∨ c = 122
def AllB (a : List Nat) : Prop := ∀ c ∈ a, IsB c
structure Vec (a : List Nat) : Prop where
  all : AllB a
  pos : 1 ≤ a.length
  le : a.length ≤ 64
def notB (c : Nat) : Nat := if c = 48 then 49 else if c = 49 then 48 else 120
def andB (a b : Nat) : Nat := if a = 48 ∨ b = 48 then 48 else if a = 49 ∧ b = 49 then 49 else 120
def orB (a b : Nat) : Nat := if a = 49 ∨ b = 49 then 49 else if a = 48 ∧ b = 48 then 48 else 120
def xorB (a b : Nat) : Nat := if (a = 48 ∨ a = 49) ∧ (b = 48 ∨ b = 49) then (if a = b then 48 else 49) else 120
def norm (c : Nat) : Nat := if c = 48 ∨ c = 49 then c else 120
def agB (a b : Nat) : Nat := if a = b ∧ (a = 48 ∨ a = 49) then a else 120
instance (c : Nat) : Decidable (IsB c) := by
  unfold IsB
  infer_instance
theorem isB_not {a : Nat} (ha : IsB a) : IsB (notB a) := by
  rcases ha with rfl | rfl | rfl | rfl <;> decide
theorem isB_and {a b : Nat} (ha : IsB a) (hb : IsB b) : IsB (andB a b) := by
  rcases ha with rfl | rfl | rfl | rfl <;> rcases hb with rfl | rfl | rfl | rfl <;> decide
theorem isB_or {a b : Nat} (ha : IsB a) (hb : IsB b) : IsB (orB a b) := by
  rcases ha with rfl | rfl | rfl | rfl <;> rcases hb with rfl | rfl | rfl | rfl <;> decide
theorem isB_xor {a b : Nat} (ha : IsB a) (hb : IsB b) : IsB (xorB a b) := by
  rcases ha with rfl | rfl | rfl | rfl <;> rcases hb with rfl | rfl | rfl | rfl <;> decide
def wid (a b : List Nat) : Nat := max a.length b.length
def ext (w : Nat) (a : List Nat) : List Nat := List.replicate (w - a.length) 48 ++ a
def exL (a b : List Nat) : List Nat := ext (wid a b) a
def exR (a b : List Nat) : List Nat := ext (wid a b) b
def map2 (f : Nat → Nat → Nat) (a b : List Nat) : List Nat := ((exL a b).zip (exR a b)).map fun p => f p.1 p.2
theorem ext_len {w : Nat} {a : List Nat} (h : a.length ≤ w) : (ext w a).length = w := by
  unfold ext
  rw [List.length_append, List.length_replicate]
  omega
theorem ext_all {w : Nat} {a : List Nat} (h : AllB a) : AllB (ext w a) := by
  intro c hc
  rcases List.mem_append.mp hc with q | q
  · rw [List.eq_of_mem_replicate q]
    exact .inl rfl
  · exact h c q
theorem exL_len (a b : List Nat) : (exL a b).length = wid a b := ext_len (Nat.le_max_left _ _)
theorem exR_len (a b : List Nat) : (exR a b).length = wid a b := ext_len (Nat.le_max_right _ _)
theorem ex_eq (a b : List Nat) : (exL a b).length = (exR a b).length := by rw [exL_len, exR_len]
theorem wid_le {a b : List Nat} (ha : a.length ≤ 64) (hb : b.length ≤ 64) : wid a b ≤ 64 := Nat.max_le.mpr ⟨ha, hb⟩
theorem map2_len (f : Nat → Nat → Nat) (a b : List Nat) : (map2 f a b).length = wid a b := by
  unfold map2
  rw [List.length_map, List.length_zip, exL_len, exR_len, Nat.min_self]
theorem map2_vec {f : Nat → Nat → Nat} (hf : ∀ a b, IsB a → IsB b → IsB (f a b)) {a b : List Nat} (ha : Vec a) (hb : Vec b) : Vec (map2 f a b) := by
  refine ⟨fun c hc => ?_, ?_, ?_⟩
  · obtain ⟨p, hp, rfl⟩ := List.mem_map.mp hc
    obtain ⟨x, y⟩ := p
    have q := List.of_mem_zip hp
    exact hf x y (ext_all ha.all x q.1) (ext_all hb.all y q.2)
  · rw [map2_len]
    exact Nat.le_trans ha.pos (Nat.le_max_left _ _)
  · rw [map2_len]
    exact wid_le ha.le hb.le
theorem vec_one {c : Nat} (h : IsB c) : Vec [c] := ⟨fun x hx => by rw [List.mem_singleton.mp hx]; exact h, Nat.le_refl _, by show 1 ≤ 64; decide⟩
/-- a fold by one of the tables -/
theorem fold_isB {f : Nat → Nat → Nat} (hf : ∀ a b, IsB a → IsB b → IsB (f a b)) : ∀ {a : List Nat} {e : Nat}, IsB e → AllB a → IsB (a.foldl f e)
  | [], _, he, _ => he
  | c :: r, e, he, ha => by
    show IsB (r.foldl f (f e c))
    exact fold_isB hf (hf e c he (ha c (List.mem_cons_self ..))) fun x hx => ha x (List.mem_cons_of_mem _ hx)
theorem fold_snoc {f : Nat → Nat → Nat} {a : List Nat} {i c : Nat} {e : Nat} (h : a[i]? = some c) : (a.take (i + 1)).foldl f e = f ((a.take i).foldl f e) c := by
  rw [List.take_add_one, h, List.foldl_append]
  rfl
theorem take_isB {f : Nat → Nat → Nat} (hf : ∀ a b, IsB a → IsB b → IsB (f a b)) {a : List Nat} {e : Nat} (he : IsB e) (ha : AllB a) (i : Nat) : IsB ((a.take i).foldl f e) :=
  fold_isB hf he fun x hx => ha x (List.mem_of_mem_take hx)
theorem flat_one {α : Type} (f : α → Nat) (l : List α) : (l.map fun x => [f x]).flatten = l.map f := by
  induction l with
  | nil => rfl
  | cons a r ih =>
    show [f a] ++ (r.map fun x => [f x]).flatten = _
    rw [ih]
    rfl
/-! ### promises of defs of the text -/
/-- a def of the module, its promise kept -/
structure Callee (P : Program) (w : World) (K : PySem.W.Frag) (mg : Str → Option Value) (base : Heap) (x : Str) (k : Nat) (ps : List Str) (sp : Sp) : Prop where
  out : ∃ (f : Addr) (fd : FuncData), FnOk P w K mg base CX0 k f fd ps sp ∧ mg x = some (.ref f) ∧ PySem.W.keepIn K (.ref f) = true ∧ Binds K fd ps []
theorem pe_fn {X : Cx} {x : Str} {k : Nat} {ps : List Str} {sp : Sp} {p pos : Pos} {e : Expr} {es : List Expr} {t : TA} (C : Callee X.prog X.w X.K X.mg X.base x k ps sp) (hr : Room k X.A) (hg : Gl X x) (ha : PA X (e :: es) t)
    (hdb : (x == ("__debug__" : Str)) = false := by decide) (he : starEach (e :: es) X.env = (false, eval e X.env) :: starEach es X.env := by rfl) (hpl : (backTo pos (starEach es X.env)).any (·.1) = false := by rfl) :
    PE X (.Call (.Name x p) (e :: es) [] pos) (tCall sp [] E0 t) := by
  obtain ⟨f, fd, F, hm, hk, hb⟩ := C.out
  exact pe_call F hr hg hm hk hb .nil pass0 ha hdb he hpl
theorem st_retN {Ts : List Addr} {σ : L2.St} {H H0 : Hp} {D : Ends} {te : TE} {R : HO} (h : EvN Ts te σ H0 R) (e : Ex Ts H0 H) (k : ∀ p H2, H0 p = none → p ∉ Ts → Ex Ts H0 H2 → H2 p = some R → D.rt (.ref p) H2) : tRet te D σ H := h.go e k
/-- a, b = e: e a new pair -/
theorem st_pair {Ts : List Addr} {K : PySem.W.Frag} {σ : L2.St} {H H0 : Hp} {D : Ends} {te : TE} {x y : V} {i j : Nat} (h : EvN Ts te σ H0 (.tup [x, y])) (e : Ex Ts H0 H) (k : ∀ H2, Ex Ts H0 H2 → D.nx ((σ.set i (some x)).set j (some y)) H2) :
    tAsg te (gTup K 2 (gCons (gName i) (gCons (gName j) gNil))) D σ H := h.go e fun p H2 _ _ e2 hp => ⟨p, [x, y], rfl, t_of hp, rfl, _, _, rfl, _, _, rfl, rfl, k H2 e2⟩
theorem ev_strs {Ts : List Addr} {K : PySem.W.Frag} {σ : L2.St} {H : Hp} {te : TE} {α : Type} (f : α → Nat) (l : List α) (h : EvN Ts te σ H (.lst (l.map fun x => sv [f x]))) : EvN Ts te σ H (.lst ((l.map fun x => [f x]).map sv)) := by
  rw [List.map_map]
  exact h
end Cw
set_option Elab.async false
set_option linter.all false
set_option maxRecDepth 100000
set_option maxHeartbeats 2000000
/-! lists that grow; loops over them; promises that ask of the heap -/
namespace Cw
open PySem PySem.Spec PyProof.Rows L2
/-- the answer is a value; the heap is asked of -/
def FnL (Ts : List Addr) {α : Type} (enc : α → List V) (dom : α → Hp → Prop) (res : α → V) : Sp := fun vs H Q _ => ∃ x, vs = enc x ∧ dom x H ∧ Good Ts H ∧ ∀ H', Ex Ts H H' → Q (res x) H'
section
variable {Ts : List Addr} {K : PySem.W.Frag} {w : World} {σ : L2.St} {H H0 H' : Hp} {ta tb te ti : TE} {tr : TA} {x y z v : V} {D : Ends} {E : XK} {α : Type} {enc : α → List V} {dom : α → Hp → Prop} {res : α → V} {R : α → V → Hp → Prop}
theorem ev_callL (x : α) (h : EvA Ts tr σ H (enc x)) (hd : ∀ H2, Ex Ts H H2 → dom x H2) : Ev Ts (tCall (FnL Ts enc dom res) [] E tr) σ H (res x) := fun H1 e Q q =>
  h H1 e _ fun H2 e2 => ⟨x, List.append_nil _, hd H2 (e.trans e2), e2.good, fun H3 e3 => q H3 (e2.trans e3)⟩
/-- some value, of which R is told -/
def EvS (Ts : List Addr) (te : TE) (σ : L2.St) (H : Hp) (R : V → Hp → Prop) : Prop := ∀ H1, Ex Ts H H1 → ∀ Q : VK, (∀ v H2, Ex Ts H1 H2 → R v H2 → Q v H2) → te σ H1 Q
theorem es_call (x : α) (h : EvA Ts tr σ H (enc x)) (hd : ∀ H2, Ex Ts H H2 → dom x H2) : EvS Ts (tCall (FnS Ts enc dom R) [] E tr) σ H (R x) := fun H1 e Q q =>
  h H1 e _ fun H2 e2 => ⟨x, List.append_nil _, hd H2 (e.trans e2), e2.good, fun v H3 e3 r => q v H3 (e2.trans e3) r⟩
theorem st_app {i : Nat} {l : Addr} {xs : List V} (hl : σ[i]? = some (some (.ref l))) (h : H l = some (.lst xs)) (nl : l ∉ Ts) (hy : Ev Ts te σ H0 y) (e : Ex Ts H0 H) (hz : xs.length < 100000)
    (k : ∀ H2, Ex Ts H H2 → H2 l = some (.lst xs) → D.nx σ (upd H2 l (.lst (xs ++ [y])))) : tDrop (tBM K "list" rAppend (tVar i) (tCons te tNil)) D σ H :=
  ⟨_, hl, .inl ⟨rfl, _, l_of h⟩, hy H e _ fun H2 e2 => ⟨l, xs, y, rfl, rfl, e2.keep l _ nl h, Nat.lt_trans hz (by decide), k H2 e2 (e2.keep l _ nl h)⟩⟩
theorem st_setN {R : HO} {i : Nat} (h : EvN Ts te σ H R) (g : Good Ts H) (k : ∀ p H2, H p = none → Ex Ts H H2 → H2 p = some R → D.nx (σ.set i (some (.ref p))) H2) : tAsg te (gName i) D σ H := h H (Ex.refl g) _ k
theorem st_setS {R : V → Hp → Prop} {i : Nat} (h : EvS Ts te σ H0 R) (e : Ex Ts H0 H) (k : ∀ v H2, Ex Ts H0 H2 → R v H2 → D.nx (σ.set i (some v)) H2) : tAsg te (gName i) D σ H := h H e _ fun v H2 e2 r => k v H2 (e.trans e2) r
/-- for x in a new list -/
theorem st_forN {j : Nat} {xs : List V} {tb : TS} (h : EvN Ts ti σ H0 (.lst xs)) (e : Ex Ts H0 H) (Pv : Addr → Nat → L2.St → Hp → Prop) (h0 : ∀ a H2, H a = none → Ex Ts H H2 → H2 a = some (.lst xs) → Pv a 0 σ H2)
    (hL : ∀ a i σ H, Pv a i σ H → H a = some (.lst xs))
    (hs : ∀ a i x σ H (N : L2.St → Hp → Prop), xs[i]? = some x → Pv a i σ H → (∀ σ2 H2, Pv a (i + 1) σ2 H2 → N σ2 H2) → tb { D with nx := N, ct := N, bk := D.nx } (σ.set j (some x)) H)
    (hd : ∀ a σ H, Pv a xs.length σ H → D.nx σ H) : tFor (iList K ti) (gName j) tb D σ H := by
  refine h H e _ fun a H2 n e2 ha => ⟨a, rfl, ⟨xs, l_of ha⟩, ?_⟩
  refine for_it (walk_list (K := K) (a := a) (xs := xs)) (Pv a) (h0 a H2 n e2 ha) (fun i σ H _ p => l_of (hL a i σ H p)) (fun i x σ H3 H4 _ p y => ?_) (hd a)
  obtain ⟨rfl, hx⟩ := y
  exact hs a i x σ H4 _ hx p fun σ2 H5 p5 => p5
/-- for k in range(n) -/
theorem st_forR {j n : Nat} {tb : TS} (h : Ev Ts te σ H0 (.int (n : Nat))) (hn : n ≤ 1000000) (e : Ex Ts H0 H) (Pv : Nat → L2.St → Hp → Prop) (h0 : ∀ H2, Ex Ts H H2 → Pv 0 σ H2)
    (hs : ∀ i σ H (N : L2.St → Hp → Prop), i < n → Pv i σ H → (∀ σ2 H2, Pv (i + 1) σ2 H2 → N σ2 H2) → tb { D with nx := N, ct := N, bk := D.nx } (σ.set j (some (.int (i : Nat)))) H)
    (hd : ∀ σ H, Pv n σ H → D.nx σ H) : tFor (iRng1 (tCons te tNil)) (gName j) tb D σ H := by
  refine h H e _ fun H2 e2 => ⟨(n : Int), rfl, by omega, by omega, ?_⟩
  refine for_it (walk_range (lo := 0) (n := ((n : Int)).toNat)) Pv (h0 H2 e2) (fun _ _ _ _ _ => trivial) (fun i x σ H3 H4 hi p y => ?_) (fun σ H p => ?_)
  · obtain ⟨rfl, rfl⟩ := y
    dsimp only
    rw [Int.zero_add]
    exact hs i σ H4 _ (by omega) p fun σ2 H5 p5 => p5
  · have e0 : ((n : Int)).toNat = n := by omega
    rw [e0] at p
    exact hd σ H p
theorem cut_int {ns : List Int} {lo hi : Option Int} {x : V} (h : x ∈ cutV (ns.map V.int) lo hi) : ∃ n, x = V.int n := by
  unfold cutV at h
  have h2 := List.mem_of_mem_drop (List.mem_of_mem_take h)
  obtain ⟨n, _, e⟩ := List.mem_map.mp h2
  exact ⟨n, e.symm⟩
theorem cut_to {xs : List V} {m : Nat} (h : m ≤ xs.length) : cutV xs none (some (m : Int)) = xs.take m := by
  unfold cutV
  rw [HT.sIx_none, HT.sIx_nat, Nat.min_eq_left h, Nat.sub_zero, List.drop_zero]
theorem cut_63 (xs : List V) : (cutV xs none (some 63)).length ≤ 63 := by
  unfold cutV
  rw [HT.sIx_none, show (some (63 : Int)) = some ((63 : Nat) : Int) from rfl, HT.sIx_nat, List.length_take]
  omega
end
/-- numbers from 0 to b - 1 -/
def Below (b : Nat) (ms : List Int) : Prop := ∀ z ∈ ms, 0 ≤ z ∧ z < (b : Int)
theorem below_snoc {b : Nat} {ms : List Int} {z : Int} (h : Below b ms) (h0 : 0 ≤ z) (h1 : z < (b : Int)) : Below b (ms ++ [z]) := by
  intro x hx
  rcases List.mem_append.mp hx with q | q
  · exact h x q
  · rw [List.mem_singleton.mp q]
    exact ⟨h0, h1⟩
theorem map_snoc (ms : List Int) (z : Int) : ms.map V.int ++ [V.int z] = (ms ++ [z]).map V.int := by simp
end Cw
set_option Elab.async false
set_option linter.all false
set_option maxRecDepth 100000
set_option maxHeartbeats 2000000
/-! f'{n:b}' -/
namespace Cw
open PySem PySem.Spec PyProof.Rows L2
open Builtin Builtin.Str Builtin.Int Builtin.Float
def binDigits (n : Nat) : List Nat := (Nat.toDigits 2 n).map Char.toNat
theorem spec_b : ∃ f : FormatSpec, parseFormatSpec [98] "int" 62 = .ok f ∧ f.type = some 98 ∧ f.precision = none ∧ f.noNeg0 = false ∧ f.alt = false ∧ f.width = none ∧ f.grouping = none ∧ f.sign = none := ⟨_, rfl, rfl, rfl, rfl, rfl, rfl, rfl, rfl⟩
theorem binDigits_ne (n : Nat) : (binDigits n).isEmpty = false := by
  unfold binDigits
  have h := tDigits_len_ge 2 n
  cases e : Nat.toDigits 2 n with
  | nil =>
    rw [e] at h
    exact absurd h (by decide)
  | cons c r => rfl
theorem field_b {f : FormatSpec} {ds : List Nat} (hd : ds.isEmpty = false) (hw : f.width = none) (hgr : f.grouping = none) (hsg : f.sign = none) : intField' f false [] ds [] 4 = S ds := by
  have hroom : (if (f.fill == 48 && f.align == 61) = true then (-1 : Int) - ((([] : List Nat).length : Int) + (([] : List Nat).length : Int) + (([] : List Nat).length : Int)) else 0).toNat = 0 := by
    split <;> rfl
  unfold intField'
  simp only [hw, hgr, hsg, hd, Bool.false_eq_true, if_false]
  rw [hroom, Nat.zero_sub]
  have hpad : ((-1 : Int) - ((([] : List Nat).length : Int) + (([] : List Nat).length : Int) + (([] : List Nat).length : Int)) - ((List.replicate 0 48 ++ ds).length : Int)).toNat = 0 := by
    show ((-1 : Int) - (0 + 0 + 0) - ((ds.length : Nat) : Int)).toNat = 0
    omega
  rw [hpad]
  show (⟨_⟩ : Str) = ⟨ds.toArray⟩
  congr 2
  split
  · simp
  · split
    · simp
    · split <;> simp
set_option maxRecDepth 100000 in
theorem formatField_b {prog : Program} {w : World} {A : Around} {E : Value → Shared → Prop} {s : Shared} {n : Nat} {t : Tok} {Q : Value → Shared → Prop} (hl : (binDigits n).length ≤ 1000) (h : Q (.str (S (binDigits n)) (s.toks + 1)) { s with toks := s.toks + 1 + 1 }) :
    wpAny (model prog w) A (formatField (.int (n : Int) t) (S [98])) Q E s := by
  obtain ⟨f, hp, hty, hpr, hz, hal, hw, hgr, hsg⟩ := spec_b
  show wpAny _ _ (holding [.int (n : Int) t] (pyFormat (.int (n : Int) t) (S [98]))) Q E s
  refine wpAny_holding ?_
  unfold pyFormat
  refine wpAny_bind (wpAny_mkStr ?_ (by decide))
  refine wpAny_bind (m := callSpecial? (.int (n : Int) t) (Str.ofString "__format__") [.str (S [98]) s.toks]) (wpAny_callSpecial?_slot (name := Str.ofString "__format__") (typeIs_int _ (n : Int) t) PyProof.Rows.slot_int_format ?_)
  refine wpAny_call (codeAny_call_builtin PyProof.Rows.slot_int_format.plain PyProof.Rows.entry_int_format (PyProof.Rows.slot_int_format.check _ _ _ _ _ _ _ _ (typeIs_int _ (n : Int) t) (PyProof.Rows.args_int_format _ _) ?_))
  unfold Builtin.«int.__format__»
  simp only [selfAndOne, noKeywords, Int.intOfSelf, asInt?, asStr?, List.isEmpty_nil, if_true, pure_bind, bind_pure, bind_assoc, show ((S [98]).length == 0) = false from rfl, Bool.false_eq_true, if_false,
    show (((S [98]).cps.toList.drop 1).any (· ≥ 128) || ((S [98]).cps.getD 0 0 ≥ 128 && !([60, 62, 61, 94] : List Nat).contains ((S [98]).cps.getD 1 0))) = false from rfl,
    show (Value.str (S [98]) s.toks == Value.none) = false from rfl]
  refine wpAny_bind (wpAny_typeNameOf (T := "str") (typeIs_str _ _ _) (by decide) fun _ => ?_)
  refine wpAny_bind (wpAny_typeNameOfCut_int ?_)
  simp only [show (S [98]).cps.toList = [98] from rfl, hp, hty]
  rw [if_pos (by decide)]
  show wpAny _ _ (if _ then _ else _) _ _ _
  rw [if_neg (by simp [hpr])]
  show wpAny _ _ (if _ then _ else _) _ _ _
  rw [if_neg (by simp [hz])]
  show wpAny _ _ (if _ then _ else _) _ _ _
  rw [if_neg (by decide)]
  show wpAny _ _ (if _ then _ else _) _ _ _
  rw [if_neg (by decide)]
  show wpAny _ _ (if _ then _ else _) _ _ _
  rw [if_neg (by simp [hw])]
  show wpAny _ _ (retStr _) _ _ _
  unfold retStr
  simp only [hal, Bool.false_eq_true, if_false, show decide ((n : Int) < 0) = false from decide_eq_false (by omega), Int.natAbs_natCast, Option.getD_some, show ((98 : Nat) == 88) = false from rfl, show ((2 : Nat) == 10) = false from rfl]
  have hs : (S (binDigits n)).length ≤ sizeLine := by
    rw [S_len]
    exact Nat.le_trans hl (by decide)
  rw [show ∀ (z : Str), z = S (binDigits n) → (mkStr z) = mkStr (S (binDigits n)) from fun z e => by rw [e]]
  · refine wpAny_bind (wpAny_mkStr (wpAny_pure ?_) hs)
    exact wpAny_bind (wpAny_isInstance (typeIs_str _ _ _) isSubtype_str_str (wpAny_pure h))
  · refine Eq.trans ?_ (field_b (f := f) (binDigits_ne n) hw hgr hsg)
    clear h hp hty hpr hz hal hw hsg
    cases f
    dsimp only at hgr
    subst hgr
    rfl
end Cw
set_option Elab.async false
set_option linter.all false
set_option maxRecDepth 100000
set_option maxHeartbeats 2000000
/-! the vector of a number -/
namespace Cw
open PySem PySem.Spec PyProof.Rows L2
/-- the bits of n, w of them, the most significant one first -/
def bitsOf (w n : Nat) : List Nat := ((List.range w).map fun k => 48 + n / 2 ^ k % 2).reverse
theorem bits_len (w n : Nat) : (bitsOf w n).length = w := by
  unfold bitsOf
  rw [List.length_reverse, List.length_map, List.length_range]
theorem bits_succ (w n : Nat) : bitsOf (w + 1) n = bitsOf w (n / 2) ++ [48 + n % 2] := by
  unfold bitsOf
  rw [List.range_succ_eq_map, List.map_cons, List.reverse_cons, List.map_map]
  congr 1
  · congr 1
    refine List.map_congr_left fun k _ => ?_
    show 48 + n / 2 ^ (k + 1) % 2 = 48 + n / 2 / 2 ^ k % 2
    rw [Nat.div_div_eq_div_mul, Nat.pow_succ, Nat.mul_comm]
  · rw [Nat.pow_zero, Nat.div_one]
theorem bits_bin (w : Nat) : ∀ n, ∀ c ∈ bitsOf w n, IsBin c := by
  intro n c hc
  unfold bitsOf at hc
  obtain ⟨k, _, rfl⟩ := List.mem_map.mp (List.mem_reverse.mp hc)
  unfold IsBin
  omega
theorem bits_num : ∀ (w n : Nat), n < 2 ^ w → binNum (bitsOf w n) = n
  | 0, n, h => by
    have e : n = 0 := by
      rw [Nat.pow_zero] at h
      omega
    rw [e]
    rfl
  | w + 1, n, h => by
    have h2 : n / 2 < 2 ^ w := by
      rw [Nat.pow_succ] at h
      omega
    rw [bits_succ]
    unfold binNum
    rw [List.foldl_append]
    show binNum (bitsOf w (n / 2)) * 2 + bv (48 + n % 2) = n
    rw [bits_num w (n / 2) h2]
    unfold bv
    omega
theorem bits_vec {w n : Nat} (h0 : 1 ≤ w) (h1 : w ≤ 64) : Vec (bitsOf w n) := by
  refine ⟨fun c hc => ?_, ?_, ?_⟩
  · rcases bits_bin w n c hc with h | h
    · exact .inl h
    · exact .inr (.inl h)
  · rw [bits_len]
    exact h0
  · rw [bits_len]
    exact h1
def pad (w : Nat) (l : List Nat) : List Nat := List.replicate (w - l.length) 48 ++ l
theorem pad_snoc (w : Nat) (l : List Nat) (x : Nat) : pad (w + 1) (l ++ [x]) = pad w l ++ [x] := by
  unfold pad
  rw [List.length_append, List.length_singleton, Nat.add_sub_add_right, List.append_assoc]
theorem dig_lt {n : Nat} (h : n < 2) : binDigits n = [48 + n] := by
  unfold binDigits
  rw [Nat.toDigits_of_lt_base h]
  have e : n = 0 ∨ n = 1 := by omega
  rcases e with rfl | rfl <;> rfl
theorem dig_ge {n : Nat} (h : 2 ≤ n) : binDigits n = binDigits (n / 2) ++ [48 + n % 2] := by
  unfold binDigits
  rw [Nat.toDigits_of_base_le (by decide) h, List.map_append]
  congr 1
  have e : n % 2 = 0 ∨ n % 2 = 1 := by omega
  rcases e with e | e <;> rw [e] <;> rfl
theorem rep_snoc (w : Nat) : List.replicate (w + 1) (48 : Nat) = List.replicate w 48 ++ [48] := List.replicate_succ'
theorem pad_bits : ∀ (w n : Nat), n < 2 ^ (w + 1) → pad (w + 1) (binDigits n) = bitsOf (w + 1) n
  | 0, n, h => by
    have h2 : n < 2 := h
    rw [dig_lt h2, bits_succ, Nat.mod_eq_of_lt h2]
    rfl
  | w + 1, n, h => by
    have h2 : n / 2 < 2 ^ (w + 1) := by
      rw [Nat.pow_succ] at h
      omega
    have ih := pad_bits w (n / 2) h2
    rw [bits_succ, ← ih]
    by_cases hn : 2 ≤ n
    · rw [dig_ge hn, pad_snoc]
    · have hn2 : n < 2 := by omega
      have e0 : n / 2 = 0 := by omega
      rw [dig_lt hn2, e0, dig_lt (show 0 < 2 by decide), Nat.mod_eq_of_lt hn2]
      unfold pad
      show List.replicate (w + 1) 48 ++ [48 + n] = (List.replicate w 48 ++ [48]) ++ [48 + n]
      rw [rep_snoc]
theorem dig_bin (n : Nat) : ∀ c ∈ binDigits n, IsBin c := by
  induction n using Nat.strongRecOn with
  | _ n ih =>
    intro c hc
    by_cases h : 2 ≤ n
    · rw [dig_ge h] at hc
      rcases List.mem_append.mp hc with q | q
      · exact ih (n / 2) (by omega) c q
      · rw [List.mem_singleton.mp q]
        unfold IsBin
        omega
    · rw [dig_lt (by omega)] at hc
      rw [List.mem_singleton.mp hc]
      unfold IsBin
      omega
theorem dig_len : ∀ (w n : Nat), n < 2 ^ (w + 1) → (binDigits n).length ≤ w + 1
  | 0, n, h => by
    rw [dig_lt (show n < 2 from h)]
    exact Nat.le_refl _
  | w + 1, n, h => by
    by_cases hn : 2 ≤ n
    · have ih := dig_len w (n / 2) (by rw [Nat.pow_succ] at h; omega)
      rw [dig_ge hn, List.length_append, List.length_singleton]
      omega
    · rw [dig_lt (by omega)]
      show 1 ≤ _
      omega
theorem zfill_bin {ds : List Nat} {w : Nat} (hd : ∀ c ∈ ds, IsBin c) : Txt.zfill (S ds) (w : Int) = S (pad w ds) := by
  unfold Txt.zfill pad
  rw [S_len]
  by_cases h : (w : Int) ≤ (ds.length : Int)
  · rw [if_pos h]
    have e : w - ds.length = 0 := by omega
    rw [e]
    rfl
  · rw [if_neg h]
    have e : (w : Int).toNat - ds.length = w - ds.length := by omega
    rw [e]
    have z : PySem.zfilled (S ds) (w - ds.length) = Builtin.Str.padded (S ds) (w - ds.length) 0 48 := by
      unfold PySem.zfilled
      rw [S_get]
      cases ds with
      | nil => rfl
      | cons c r =>
        have hc := hd c (List.mem_cons_self ..)
        rcases hc with rfl | rfl <;> rfl
    rw [z]
    unfold Builtin.Str.padded
    show (⟨_⟩ : Str) = ⟨_⟩
    congr 1
    apply Array.toList_inj.mp
    simp [S]
/-- f'{n & (1 << w) - 1:b}'.zfill(w) -/
def tFmtB (te : TE) : TE := fun σ H Q => te σ H fun x H1 => ∃ n : Nat, x = .int (n : Int) ∧ (binDigits n).length ≤ 1000 ∧ Q (sv (binDigits n)) H1
theorem pe_fmtB {X : Cx} {e : Expr} {te : TE} {j : Nat} {p1 p2 p3 p4 : Pos} (he : PE X e te) : PE X (.JoinedStr [.FormattedValue e (-1) (some (.JoinedStr [.Constant (.str "b") j p1] p2)) p3] p4) (tFmtB te) := by
  refine pe_joined1 ⟨fun pins s σ H Q I h => ?_⟩
  refine wpAny_FormattedValue_spec (thn (he.run pins s σ H _ I h) fun v s1 ⟨x, H1, I1, r1, n, ex, hl, q⟩ => ?_)
  subst ex
  obtain ⟨t, rfl⟩ := r1
  refine thn ((pe_joined1 (X := X) (pos := p2) (pe_str (x := "b") (j := j) (pos := p1))).run pins s1 σ H1 (fun v H' => v = .str "b" ∧ H' = H1) I1 ⟨rfl, rfl⟩) fun v2 s2 ⟨y, H2, I2, r2, ey, eH⟩ => ?_
  subst ey eH
  obtain ⟨t2, rfl⟩ := r2
  exact ⟨_, t2, rfl, formatField_b hl ⟨sv (binDigits n), H2, I2.tok _, ⟨_, rfl⟩, q⟩⟩
section
variable {Ts : List Addr} {K : PySem.W.Frag} {w : World} {σ : L2.St} {H H0 H' : Hp} {ta tb te ti : TE}
theorem ev_fmtB {n : Nat} (h : Ev Ts te σ H (.int (n : Int))) (hl : (binDigits n).length ≤ 1000) : Ev Ts (tFmtB te) σ H (sv (binDigits n)) := fun H1 e Q q => h H1 e _ fun H2 e2 => ⟨n, rfl, hl, q H2 e2⟩
theorem ev_zfill {ds : List Nat} {n : Nat} (ho : Ev Ts ta σ H (sv ds)) (hn : Ev Ts tb σ H (.int (n : Nat))) (hd : ∀ c ∈ ds, IsBin c) (hp : n ≤ 1000) :
    Ev Ts (tBM K "str" (fun x xs H Q => ∃ (a : Str) (i : Int), x = .str a ∧ xs = [.int i] ∧ PadOk i = true ∧ Q (.str (Txt.zfill a i)) H) ta (tCons tb tNil)) σ H (sv (pad n ds)) := fun H1 e Q q =>
  ho H1 e _ fun H2 e2 => ⟨rfl, hn H2 (e.trans e2) _ fun H3 e3 => ⟨S ds, (n : Int), rfl, rfl, by
    unfold PadOk fitsSsize
    have z : (1000 : Nat) ≤ sizeLine := by decide
    rw [Bool.and_eq_true, Bool.not_eq_true', Bool.not_eq_true', Bool.or_eq_false_iff]
    exact ⟨⟨decide_eq_false (by omega), decide_eq_false (by omega)⟩, decide_eq_false (by omega)⟩, by
    rw [zfill_bin hd]
    exact q H3 (e2.trans e3)⟩⟩
theorem rv_andM {i : Int} {k : Nat} : RV Ts (fun x y H Q => ∃ (i : Int) (k : Nat), x = .int i ∧ y = .int (2 ^ k - 1) ∧ Q (.int (i % 2 ^ k)) H) (.int i) (.int (2 ^ k - 1)) H (.int (i % 2 ^ k)) := fun H1 e _ q => ⟨i, k, rfl, rfl, q H1 (Ex.refl e.good)⟩
theorem rv_oneShl {k : Nat} (h : k ≤ 134217727) : RV Ts (fun x y H Q => ∃ k : Nat, x = .int 1 ∧ y = .int (k : Int) ∧ k ≤ 134217727 ∧ Q (.int (2 ^ k)) H) (.int 1) (.int (k : Nat)) H (.int (2 ^ k)) := fun H1 e _ q => ⟨k, rfl, rfl, h, q H1 (Ex.refl e.good)⟩
end
end Cw
set_option Elab.async false
set_option linter.all false
set_option maxRecDepth 100000
set_option maxHeartbeats 2000000
/-! made lists handed on; pairs in a written list; parts of texts; numbers modulo a power of two -/
namespace Cw
open PySem PySem.Spec PyProof.Rows L2
section
variable {Ts : List Addr} {K : PySem.W.Frag} {w : World} {σ : L2.St} {H H0 H' : Hp} {ta tb te ti : TE} {t u : TT} {x y z v : V} {r : List V → Hp → VK → Prop}
theorem ev_cbN {R : HO} (h : EvN Ts te σ H R) (hr : ∀ p H1, Ex Ts H H1 → H1 p = some R → RC Ts r [.ref p] H1 z) : Ev Ts (tCB r (tCons te tNil)) σ H z := fun H1 e Q q =>
  h H1 e _ fun p H2 n e2 hp => hr p H2 (e.trans e2) hp H2 (Ex.refl e2.good) Q fun H3 e3 => q H3 (e2.trans e3)
theorem rc_all {p : Addr} {bs : List Bool} (g : Good Ts H) (h : SqL K H p (bs.map V.bl)) : RC Ts (rAll K) [.ref p] H (.bl (bs.all id)) := fun H1 e _ q => ⟨p, bs, rfl, e.l g h, q H1 (Ex.refl e.good)⟩
theorem rc_min {i j : Int} : RC Ts (fun xs H Q => ∃ i j, xs = [.int i, .int j] ∧ Q (.int (if j < i then j else i)) H) [.int i, .int j] H (.int (if j < i then j else i)) := fun H1 e _ q => ⟨i, j, rfl, q H1 (Ex.refl e.good)⟩
theorem rc_str {i : Int} {l : List Nat} (h : i.natAbs.log2 < 1920) (hl : V.str (toString i) = sv l) : RC Ts (fun xs H Q => ∃ i : Int, xs = [.int i] ∧ i.natAbs.log2 < 1920 ∧ Q (.str (toString i)) H) [.int i] H (sv l) := fun H1 e _ q => ⟨i, rfl, h, by
  rw [hl]
  exact q H1 (Ex.refl e.good)⟩
theorem str_bit {n : Nat} (h : n < 2) : V.str (toString (n : Int)) = sv [48 + n] := by
  have e : n = 0 ∨ n = 1 := by omega
  rcases e with rfl | rfl <;> rfl
theorem rc_strB {n : Nat} (h : n < 2) : RC Ts (fun xs H Q => ∃ i : Int, xs = [.int i] ∧ i.natAbs.log2 < 1920 ∧ Q (.str (toString i)) H) [.int (n : Int)] H (sv [48 + n]) := rc_str (by
  have e : n = 0 ∨ n = 1 := by omega
  rcases e with rfl | rfl <;> decide) (str_bit h)
theorem en_rev {xs : List V} (h : EvN Ts te σ H (.lst xs)) : EvN Ts (tRevL K te) σ H (.lst xs.reverse) := fun H1 e _ q => h H1 e _ fun a H2 n e2 ha =>
  ⟨a, xs, rfl, l_of ha, fun p hp => q p _ (e2.back hp) (e2.trans (Ex.new e2.good hp)) upd_same⟩
theorem en_is {R R' : HO} (h : EvN Ts te σ H R) (e : R = R') : EvN Ts te σ H R' := e ▸ h
/-- [e for k in range(n)] -/
theorem en_lcR {j n : Nat} {f : Nat → V} (hn : n ≤ 100000) (hi : Ev Ts ti σ H (.int (n : Nat))) (he : ∀ i, i < n → Ev Ts te ((wipe σ [j]).set j (some (.int (i : Nat)))) H (f i)) : EvN Ts (tLc (iRng1 (tCons ti tNil)) (gName j) tYes te [j]) σ H (.lst ((List.range n).map f)) := by
  refine en_lc (n := n) (by rw [List.length_map, List.length_range]) hn (walk_range (lo := 0) (n := n)) (fun H1 e R k => hi H1 e _ fun H2 e2 => ⟨(n : Int), rfl, by omega, by omega, ?_⟩) (fun _ _ => trivial) (fun i z hz H1 x H' e y => ?_)
  · have e0 : ((n : Int)).toNat = n := by omega
    rw [e0]
    exact k H2 e2
  · obtain ⟨rfl, rfl⟩ := y
    dsimp only at hz ⊢
    have hi : i < n := by
      have := (List.getElem?_eq_some_iff.mp hz).1
      rwa [List.length_map, List.length_range] at this
    rw [List.getElem?_map, List.getElem?_range hi] at hz
    obtain rfl := Option.some.inj hz
    refine ⟨_, Ex.refl e.good, fun Q q => q, wipe_one σ j _, ?_⟩
    rw [Int.zero_add]
    exact he i hi
/-! ### pairs in a written list -/
def IsPr (Ts : List Addr) (H : Hp) (r : V) (p : V × V) : Prop := ∃ a, r = .ref a ∧ a ∉ Ts ∧ H a = some (.tup [p.1, p.2])
inductive Prs (Ts : List Addr) (H : Hp) : List V → List (V × V) → Prop
  | nil : Prs Ts H [] []
  | cons {r : V} {rs : List V} {p : V × V} {ps : List (V × V)} : IsPr Ts H r p → Prs Ts H rs ps → Prs Ts H (r :: rs) (p :: ps)
theorem IsPr.mono {r : V} {p : V × V} (h : IsPr Ts H r p) (e : Ex Ts H H') : IsPr Ts H' r p := by
  obtain ⟨a, e1, n, e2⟩ := h
  exact ⟨a, e1, n, e.keep a _ n e2⟩
theorem Prs.mono {rs : List V} {ps : List (V × V)} (h : Prs Ts H rs ps) (e : Ex Ts H H') : Prs Ts H' rs ps := by
  induction h with
  | nil => exact .nil
  | cons a _ ih => exact .cons (a.mono e) ih
theorem Prs.len {rs : List V} {ps : List (V × V)} (h : Prs Ts H rs ps) : rs.length = ps.length := by
  induction h with
  | nil => rfl
  | cons _ _ ih => rw [List.length_cons, List.length_cons, ih]
theorem Prs.get {rs : List V} {ps : List (V × V)} (h : Prs Ts H rs ps) : ∀ {i : Nat} {r : V}, rs[i]? = some r → ∃ p, ps[i]? = some p ∧ IsPr Ts H r p := by
  induction h with
  | nil => exact fun e => by cases e
  | @cons r rs p ps a _ ih =>
    intro i r' e
    cases i with
    | zero =>
      cases e
      exact ⟨p, rfl, a⟩
    | succ i => exact ih e
def EvP (Ts : List Addr) (t : TA) (σ : L2.St) (H : Hp) (ps : List (V × V)) : Prop := ∀ H1, Ex Ts H H1 → ∀ Q : List V → Hp → Prop, (∀ rs H2, Ex Ts H1 H2 → Prs Ts H2 rs ps → Q rs H2) → t σ H1 Q
theorem ep_nil : EvP Ts tNil σ H [] := fun H1 e _ q => q [] H1 (Ex.refl e.good) .nil
theorem ep_cons {tr : TA} {ps : List (V × V)} (h : EvN Ts ta σ H (.tup [x, y])) (hr : EvP Ts tr σ H ps) : EvP Ts (tCons ta tr) σ H ((x, y) :: ps) := fun H1 e _ q =>
  h H1 e _ fun p H2 n e2 hp => hr H2 (e.trans e2) _ fun rs H3 e3 hrs => q _ H3 (e2.trans e3) (.cons (IsPr.mono ⟨p, rfl, e.good.free n, hp⟩ e3) hrs)
/-- for a, b in [(..), ..] -/
theorem st_forP {j k : Nat} {tr : TA} {ps : List (V × V)} {tb : TS} {D : Ends} (h : EvP Ts tr σ H0 ps) (hl : ps.length ≤ 1000) (e : Ex Ts H0 H) (Pv : Nat → L2.St → Prop) (h0 : Pv 0 σ)
    (hs : ∀ i p σ H1 (N : L2.St → Hp → Prop), ps[i]? = some p → Pv i σ → Ex Ts H0 H1 → (∀ σ2 H2, Ex Ts H1 H2 → Pv (i + 1) σ2 → N σ2 H2) → tb { D with nx := N, ct := N, bk := D.nx } ((σ.set j (some p.1)).set k (some p.2)) H1)
    (hd : ∀ σ H1, Ex Ts H0 H1 → Pv ps.length σ → D.nx σ H1) : tFor (iList K (tLst tr)) (gTup K 2 (gCons (gName j) (gCons (gName k) gNil))) tb D σ H := by
  refine h H e _ fun rs H2 e2 hrs => ⟨Nat.le_trans (by rw [hrs.len]; exact hl) (by decide), fun a na => ⟨a, rfl, ⟨rs, l_of upd_same⟩, ?_⟩⟩
  have nT : a ∉ Ts := e2.good.free na
  have e3 : Ex Ts H2 (upd H2 a (.lst rs)) := Ex.new e2.good na
  refine for_it (walk_list (K := K) (a := a) (xs := rs)) (fun i σ H => Ex Ts H0 H ∧ Ex Ts H2 H ∧ H a = some (.lst rs) ∧ Pv i σ) ⟨(e.trans e2).trans e3, e3, upd_same, h0⟩ (fun i σ H _ p => l_of p.2.2.1) (fun i x σ H3 H4 _ p y => ?_) (fun σ H3 p => ?_)
  · obtain ⟨rfl, hx⟩ := y
    obtain ⟨pr, hp, c, rfl, nc, hc⟩ := hrs.get hx
    refine ⟨c, [pr.1, pr.2], rfl, t_of (p.2.1.keep c _ nc hc), rfl, _, _, rfl, _, _, rfl, rfl, ?_⟩
    refine hs i pr σ _ _ hp p.2.2.2 p.1 fun σ2 H5 e5 p5 => ?_
    exact ⟨p.1.trans e5, p.2.1.trans e5, e5.keep a _ nT p.2.2.1, p5⟩
  · have q := p.2.2.2
    rw [hrs.len] at q
    exact hd σ H3 p.1 q
end
/-! ### parts of texts -/
theorem cutS_from {a : List Nat} {n : Nat} (h : n ≤ a.length) : cutS (S a) (some (n : Int)) none = S (a.drop n) := by
  unfold cutS
  rw [HT.sIx_none, HT.sIx_nat, S_list, S_len, Nat.min_eq_left h, List.take_of_length_le (Nat.le_of_eq (List.length_drop ..))]
  rfl
theorem cutS_to (a : List Nat) (n : Nat) : cutS (S a) none (some (n : Int)) = S (a.take n) := by
  unfold cutS
  rw [HT.sIx_none, HT.sIx_nat, S_list, S_len, Nat.sub_zero, List.drop_zero]
  by_cases h : n ≤ a.length
  · rw [Nat.min_eq_left h]
    rfl
  · rw [Nat.min_eq_right (by omega), List.take_of_length_le (Nat.le_refl _), List.take_of_length_le (by omega)]
    rfl
theorem cutS_last {a : List Nat} {k : Nat} (h0 : 1 ≤ k) (h : k ≤ a.length) : cutS (S a) (some (0 - (k : Int))) none = S (a.drop (a.length - k)) := by
  unfold cutS
  have e : HT.sIx (S a).length 0 (some (0 - (k : Int))) = a.length - k := by
    show (if (0 - (k : Int)) < 0 then ((0 - (k : Int)) + ((S a).length : Int)).toNat else min (0 - (k : Int)).toNat (S a).length) = _
    rw [if_pos (by omega), S_len]
    omega
  rw [e, HT.sIx_none, S_list, S_len, List.take_of_length_le (Nat.le_of_eq (List.length_drop ..))]
  rfl
/-! ### numbers modulo a power of two -/
def modW (w : Nat) (n : Int) : Nat := (n % (2 ^ w : Int)).toNat
theorem two_pos (w : Nat) : (0 : Int) < 2 ^ w := by
  rw [two_pow_cast]
  have := Nat.two_pow_pos w
  omega
theorem modW_cast (w : Nat) (n : Int) : n % (2 ^ w : Int) = ((modW w n : Nat) : Int) := by
  unfold modW
  have := Int.emod_nonneg n (Int.ne_of_gt (two_pos w))
  omega
theorem modW_lt (w : Nat) (n : Int) : modW w n < 2 ^ w := by
  have h := Int.emod_lt_of_pos n (two_pos w)
  rw [modW_cast, two_pow_cast] at h
  exact Int.ofNat_lt.mp h
/-- the vector of n modulo 2 ^ w -/
def lowB (w : Nat) (n : Int) : List Nat := bitsOf w (modW w n)
theorem lowB_len (w : Nat) (n : Int) : (lowB w n).length = w := bits_len w _
theorem lowB_vec {w : Nat} {n : Int} (h0 : 1 ≤ w) (h1 : w ≤ 64) : Vec (lowB w n) := bits_vec h0 h1
theorem lowB_pad {w : Nat} {n : Int} (h : 1 ≤ w) : pad w (binDigits (modW w n)) = lowB w n := by
  obtain ⟨k, rfl⟩ : ∃ k, w = k + 1 := ⟨w - 1, by omega⟩
  exact pad_bits k _ (modW_lt (k + 1) n)
theorem low_dig {w : Nat} {n : Int} (h : 1 ≤ w) (h1 : w ≤ 64) : (binDigits (modW w n)).length ≤ 1000 := by
  obtain ⟨k, rfl⟩ : ∃ k, w = k + 1 := ⟨w - 1, by omega⟩
  exact Nat.le_trans (dig_len k _ (modW_lt (k + 1) n)) (by omega)
theorem bit_cast (m i : Nat) : ((m : Int) / (2 ^ i : Int)) % 2 = ((m / 2 ^ i % 2 : Nat) : Int) := by
  rw [two_pow_cast]
  rfl
/-- the number that a vector writes: unknown bits count as 0 -/
def val (a : List Nat) : Nat := a.foldl (fun v c => 2 * v + if c = 49 then 1 else 0) 0
def kn (a : List Nat) : Bool := a.all fun c => decide (c ∈ [48, 49])
theorem kn_bin {a : List Nat} (h : kn a = true) : ∀ c ∈ a, IsBin c := fun c hc => by
  have z := of_decide_eq_true (List.all_eq_true.mp h c hc)
  unfold IsBin
  simpa using z
theorem val_eq {a : List Nat} (h : kn a = true) : binNum a = val a := by
  have hb := kn_bin h
  have aux : ∀ (l : List Nat) (v : Nat), (∀ c ∈ l, IsBin c) → l.foldl (fun a c => a * 2 + bv c) v = l.foldl (fun v c => 2 * v + if c = 49 then 1 else 0) v := by
    intro l
    induction l with
    | nil => intro v _; rfl
    | cons c r ih =>
      intro v hl
      rw [List.foldl_cons, List.foldl_cons, ih _ fun x hx => hl x (List.mem_cons_of_mem _ hx)]
      congr 1
      rcases hl c (List.mem_cons_self ..) with rfl | rfl
      · rw [if_neg (by decide)]
        unfold bv
        omega
      · rw [if_pos rfl]
        unfold bv
        omega
  exact aux a 0 hb
theorem val_lt (a : List Nat) : val a < 2 ^ a.length := by
  have aux : ∀ (l : List Nat) (v k : Nat), v < 2 ^ k → l.foldl (fun v c => 2 * v + if c = 49 then 1 else 0) v < 2 ^ (k + l.length) := by
    intro l
    induction l with
    | nil => intro v k h; exact h
    | cons c r ih =>
      intro v k h
      rw [List.foldl_cons, List.length_cons, show k + (r.length + 1) = (k + 1) + r.length by omega]
      refine ih _ (k + 1) ?_
      rw [Nat.pow_succ]
      split <;> omega
  have := aux a 0 0 (by decide)
  rwa [Nat.zero_add] at this
theorem val_le {a : List Nat} {n : Nat} (h : a.length ≤ n) : val a < 2 ^ n := Nat.lt_of_lt_of_le (val_lt a) (Nat.pow_le_pow_right (by decide) h)
theorem val_snoc {a : List Nat} {i c : Nat} (h : a[i]? = some c) : val (a.take (i + 1)) = 2 * val (a.take i) + if c = 49 then 1 else 0 := by
  unfold val
  rw [List.take_add_one, h, List.foldl_append]
  rfl
end Cw
set_option Elab.async false
set_option linter.all false
set_option maxRecDepth 100000
set_option maxHeartbeats 2000000
/-! what the laws draw; tests that are known; vectors known or not -/
namespace Cw
open PySem PySem.Spec PyProof.Rows L2
theorem max_wid (a b : List Nat) : (if (b.length : Int) > (a.length : Int) then (b.length : Int) else (a.length : Int)) = ((wid a b : Nat) : Int) := by
  unfold wid
  split <;> omega
theorem sv_one (a b : Nat) : decide (sv [a] = sv [b]) = decide (a = b) := by
  rw [sv_dec]
  by_cases h : a = b
  · rw [decide_eq_true h, h]
    exact decide_eq_true rfl
  · rw [decide_eq_false h]
    exact decide_eq_false fun q => h (List.cons.inj q).1
def sgn (pl : Bool) (z : Int) : Nat := if pl then [48, 49, 49, 48].getD z.toNat 0 else [48, 49, 120, 122].getD z.toNat 0
theorem sgn_isB {pl : Bool} {z : Int} (h0 : 0 ≤ z) (h1 : z < 4) : IsB (sgn pl z) := by
  have e : z = 0 ∨ z = 1 ∨ z = 2 ∨ z = 3 := by omega
  cases pl <;> rcases e with rfl | rfl | rfl | rfl <;> decide
theorem sgn_at {pl : Bool} {z : Int} (h0 : 0 ≤ z) (h1 : z < 4) : atI (if pl then [48, 49, 49, 48] else [48, 49, 120, 122]) z = some (sgn pl z) := by
  have e : z = 0 ∨ z = 1 ∨ z = 2 ∨ z = 3 := by omega
  cases pl <;> rcases e with rfl | rfl | rfl | rfl <;> rfl
def asSv (pl : Bool) : V → V
  | .int z => sv [sgn pl z]
  | _ => .non
theorem asSv_map (pl : Bool) (ms : List Int) : (ms.map V.int).map (asSv pl) = ms.map fun z => sv [sgn pl z] := by
  rw [List.map_map]
  rfl
theorem drop_ints (ns : List Int) (k : Int) : ∃ ms : List Int, cutV (ns.map V.int) (some k) none = ms.map V.int := by
  unfold cutV
  rw [← List.map_drop, ← List.map_take]
  exact ⟨_, rfl⟩
section
variable {Ts : List Addr}
theorem et_ne {σ : L2.St} {H : Hp} {ta tb : TE} {a b : List Nat} (ha : Ev Ts ta σ H (sv a)) (hb : Ev Ts tb σ H (sv b)) (e : a = b) : EvT Ts (tTest (tOp rNe ta tb)) σ H false := by
  subst e
  refine et_is (et_test (ev_op ha hb (rv_ne rfl))) ?_
  rw [decide_eq_true rfl]
  rfl
theorem ev_eqT {σ : L2.St} {H : Hp} {ta tb : TE} {a : List Nat} (ha : Ev Ts ta σ H (sv a)) (hb : Ev Ts tb σ H (sv a)) : Ev Ts (tOp rEq ta tb) σ H (.bl true) := by
  refine ev_is (ev_op ha hb (rv_eq rfl)) ?_
  rw [decide_eq_true rfl]
theorem st_par {σ : L2.St} {H H0 : Hp} {D : Ends} {ta tb : TE} {i j : Nat} {x y : V} (h1 : Ev Ts ta σ H0 x) (h2 : Ev Ts tb σ H0 y) (e : Ex Ts H0 H) (k : ∀ H2, Ex Ts H0 H2 → D.nx ((σ.set i (some x)).set j (some y)) H2) : tPar i j (tCons ta (tCons tb tNil)) D σ H :=
  (ea_cons h1 (ea_cons h2 ea_nil)) H e _ fun H2 e2 => ⟨x, y, rfl, k H2 (e.trans e2)⟩
theorem st_no {σ : L2.St} {H H0 : Hp} {D : Ends} {tc : TT} {t1 : TS} (h : EvT Ts tc σ H0 false) (e : Ex Ts H0 H) (k : ∀ H2, Ex Ts H0 H2 → D.nx σ H2) : tIfS tc t1 tNext D σ H := st_if h e (fun _ _ z => by cases z) fun H2 e2 _ => k H2 e2
end
/-- what is due: the low bits of n, or x -/
def dueB (k : Bool) (w : Nat) (n : Int) : List Nat := if k then lowB w n else List.replicate w 120
def truthB (k h : Bool) : List Nat := if k then (if h then [49] else [48]) else [120]
def bitB (h : Bool) : List Nat := if h then [49] else [48]
theorem dueB_len (k : Bool) (w : Nat) (n : Int) : (dueB k w n).length = w := by
  cases k
  · exact List.length_replicate
  · exact lowB_len w n
theorem truthB_vec (k h : Bool) : Vec (truthB k h) := by
  cases k <;> cases h <;> exact vec_one (by decide)
theorem bitB_int (h : Bool) : bitB h = [48 + (if h then 1 else 0)] := by
  cases h <;> rfl
theorem vec_ne {a : List Nat} (h : Vec a) : a ≠ [] := fun z => by
  have := h.pos
  rw [z] at this
  exact absurd this (by decide)
theorem not_t {b : Bool} (h : (!b) = true) : b = false := by
  cases b
  · rfl
  · cases h
theorem not_f {b : Bool} (h : (!b) = false) : b = true := by
  cases b
  · cases h
  · rfl
end Cw
set_option Elab.async false
set_option linter.all false
set_option maxRecDepth 100000
set_option maxHeartbeats 2000000
/-! all(e for a, b in zip(one, two)): e asks of the two signs alone -/
namespace Cw
open PySem PySem.Spec PyProof.Rows L2 GxR
/-- the element: a test of the signs c and d -/
def EltZ (prog : Program) (w : World) (scope : Scope) (cl : List (Str × Addr)) (xa xb : Str) (elt : Expr) (pb : Nat → Nat → Bool) : Prop :=
  ∀ (cenv : Env) (A' : Around) (E' : Value → Shared → Prop) (c d : Nat) (t u : Tok) (s₂ : Shared) (m₂ : Str → Option Value), cenv.scope = scope → s₂.heap.Ns cenv.locals m₂ → m₂ xa = some (.str ⟨#[c]⟩ t) → m₂ xb = some (.str ⟨#[d]⟩ u) →
    wpAny (model prog w) A' (eval elt cenv) (fun v s₃ => v = .bool (pb c d) ∧ Keeps s₂ s₃) E' s₂
/-- x not in 'k' or x == y -/
theorem elt_fine {prog : Program} {w : World} {scope : Scope} {cl : List (Str × Addr)} {xa xb k : Str} {j : Nat} {p1 p2 p3 p4 p5 p6 p7 : Pos} (hk : scope.kind = .function) (hl : scope.names.lookup xa = some .local) (hl2 : scope.names.lookup xb = some .local)
    (hd : (xa == ("__debug__" : Str)) = false := by decide) (hd2 : (xb == ("__debug__" : Str)) = false := by decide) :
    EltZ prog w scope cl xa xb (.BoolOp .Or [.Compare (.Name xa p1) [.NotIn] [.Constant (.str k) j p2] p3, .Compare (.Name xa p4) [.Eq] [.Name xb p5] p6] p7) fun c d => (!decide (c ∈ k.cps.toList)) || decide (c = d) := by
  intro cenv A' E' c d t u s₂ m₂ hs hn hm hm2
  refine BoolOp_or ?_
  refine wpAny_Compare1 ?_
  refine wpAny_Name (wpAny_loadName_local (by rw [hs]; exact hk) (show cenv.scope.names.lookup xa = some .local by rw [hs]; exact hl) hn hm ?_) hd
  refine Calls.Constant_str ?_
  refine PyProof.Rows.notIn_str ?_
  rw [PySem.StrLaws.found_one k c]
  refine wpAny_truthy_bool ?_
  cases h : decide (c ∈ k.cps.toList) with
  | false =>
    refine ⟨?_, keeps_tok _ _⟩
    show Value.bool (!false) = Value.bool ((!decide (c ∈ k.cps.toList)) || decide (c = d))
    rw [h]
    rfl
  | true =>
    show wpAny _ _ _ _ _ _
    refine BoolOp_one ?_
    refine wpAny_Compare1 ?_
    refine wpAny_Name (wpAny_loadName_local (by rw [hs]; exact hk) (show cenv.scope.names.lookup xa = some .local by rw [hs]; exact hl) hn hm ?_) hd
    refine wpAny_Name (wpAny_loadName_local (by rw [hs]; exact hk) (show cenv.scope.names.lookup xb = some .local by rw [hs]; exact hl2) hn hm2 ?_) hd2
    refine PySem.P.eq_str ⟨?_, keeps_tok _ _⟩
    congr 1
    show _ = ((!decide (c ∈ k.cps.toList)) || decide (c = d))
    rw [h]
    by_cases e : c = d
    · subst e
      simp
    · simp [e]
/-- the test at place j -/
def trZ (pb : Nat → Nat → Bool) (a b : List Nat) (j : Nat) : Bool := match a[j]?, b[j]? with
  | some c, some d => pb c d
  | _, _ => false
theorem all_trZ (pb : Nat → Nat → Bool) (a b : List Nat) : (List.range (min a.length b.length)).all (trZ pb a b) = (a.zip b).all fun p => pb p.1 p.2 := by
  rw [Bool.eq_iff_iff, List.all_eq_true, List.all_eq_true]
  constructor
  · intro h p hp
    obtain ⟨j, hj, e⟩ := List.getElem_of_mem hp
    have hj2 : j < min a.length b.length := by rwa [List.length_zip] at hj
    have q := h j (List.mem_range.mpr hj2)
    have g : (a.zip b)[j]? = some p := by rw [List.getElem?_eq_getElem hj, e]
    obtain ⟨ga, gb⟩ := List.getElem?_zip_eq_some.mp g
    unfold trZ at q
    rw [ga, gb] at q
    exact q
  · intro h j hj
    have hj2 := List.mem_range.mp hj
    have ha : j < a.length := by omega
    have hb : j < b.length := by omega
    unfold trZ
    rw [List.getElem?_eq_getElem ha, List.getElem?_eq_getElem hb]
    refine h (a[j], b[j]) ?_
    exact List.mem_of_getElem? (i := j) (List.getElem?_zip_eq_some.mpr ⟨List.getElem?_eq_getElem ha, List.getElem?_eq_getElem hb⟩)
/-- the generator expression's own scope, of two names, none captured -/
structure GenZ (scope : Scope) (xa xb : Str) : Prop where
  kind : scope.kind = .function
  co : scope.isCoroutine = false
  cell : ∀ y ∈ scope.names, y.2 ≠ .cell
  dot : scope.names.lookup (".0" : Str) = some NameKind.local
  la : scope.names.lookup xa = some .local
  lb : scope.names.lookup xb = some .local
  free : ∀ y ∈ scope.names, y.2 ≠ .free
theorem at_lt {b N m : Nat} (h : b = N + 4 ∨ b = N + 2 ∨ b = N + 3 ∨ b = N ∨ b = N + 1) (hm : N + 5 ≤ m) : b < m := by omega
theorem at_ge {b N : Nat} (h : b = N + 4 ∨ b = N + 3 ∨ b = N ∨ b = N + 1) : N ≤ b := by omega
section
variable {X : Cx} {pins : List (Addr × Obj)} {σ : L2.St} {H : Hp} {s : Shared}
def ReadyN (X : Cx) (pins : List (Addr × Obj)) (σ : L2.St) (H1 : Hp) (P : Addr) (n : Nat) (tr : Nat → Bool) (g : Addr) (s5 : Shared) : Prop :=
  ∃ (fp wr : List Addr) (G : Array GenState → Array GenState → Prop) (F : Nat → Value → Prop) (St : Nat → Shared → Prop),
    WalksS X.prog X.w X.A.in1 g fp wr G n F St ∧ St 0 s5 ∧ TruthOf X.prog X.w X.A.in1 F tr ∧ ∀ s', Moved wr G s5 s' → ∃ H2, Tabbed P H1 H2 ∧ Inv X pins σ H2 s'
theorem quiet_zip {scope : Scope} {cl : List (Str × Addr)} {code : Value} {bi C : Addr} {env : Env} {xa xb : Str} {elt : Expr} {a b : Str} {pb : Nat → Nat → Bool} {fp wr : List Addr} {href : Heap} {prog : Program} {w : World} (he : EltZ prog w scope cl xa xb elt pb) :
    QuietGenT prog w (genEnv scope cl C code bi env) xa xb [] elt fp wr (fun i vals => ∃ x1 x2, (∃ c u, a.cps[i]? = some c ∧ x1 = Value.str ⟨#[c]⟩ u) ∧ (∃ c u, b.cps[i]? = some c ∧ x2 = Value.str ⟨#[c]⟩ u) ∧ vals = #[x1, x2]) (fun _ => true)
      (fun i v => ∃ c d, a.cps[i]? = some c ∧ b.cps[i]? = some d ∧ v = .bool (pb c d)) href where
  tests := by
    intro A' E' i va vb s2 m2 _ _ _ _ _ _
    rw [List.forIn_nil]
    exact wpAny_pure ⟨rfl, keeps_refl _⟩
  elt := by
    intro A' E' i va vb s2 m2 _ hv _ hn hma hmb kp
    obtain ⟨x1, x2, ⟨c, t, hc, rfl⟩, ⟨d, u, hd, rfl⟩, e⟩ := hv
    have e2 : va = Value.str ⟨#[c]⟩ t ∧ vb = Value.str ⟨#[d]⟩ u := by simpa using congrArg Array.toList e
    obtain ⟨rfl, rfl⟩ := e2
    exact wpAny_mono (he _ A' E' c d t u s2 m2 rfl hn hma hmb) (fun _ _ r => ⟨⟨c, d, hc, hd, r.1⟩, r.2⟩) fun _ _ r => r
theorem gen_zip {c P : Addr} {e1 e2 elt : Expr} {xa xb : Str} {kt : Nat} {pa pb' pt p pos gpos : Pos} {scope : Scope} {ta : TA} {k : Nat} {pb : Nat → Nat → Bool} {Q' : Value → Shared → Prop} {R : Str → Str → Hp → Prop}
    (hr : Room k X.A) (hg : Gl X "zip") (hm : X.mg "zip" = none) (TB : TabB X.base X.mg c P) (hcode : X.env.code = .ref c) (S : GenZ scope xa xb) (hi : PA X [e1, e2] ta) (hab : xa ≠ xb)
    (he : EltZ X.prog X.w scope (cloFrom X.env.cells scope.names []) xa xb elt pb)
    (hst : starEach [e1, e2] X.env = (false, eval e1 X.env) :: starEach [e2] X.env) (hpl : (backTo pos (starEach [e2] X.env)).any (·.1) = false)
    (hs : ∀ v, genFold (.Call (.Name "zip" p) [e1, e2] [] pos) X.env v = pure v) (I : Inv X pins σ H s) (h : ta σ H fun vs H1 => ∃ a b : Str, vs = [.str a, .str b] ∧ TabG H1 P ∧ R a b H1)
    (hQ : ∀ a b H1 g s5, R a b H1 → ReadyN X pins σ H1 P (min a.cps.size b.cps.size) (trZ pb a.cps.toList b.cps.toList) g s5 → Q' (.ref g) s5) :
    wpAny (model X.prog X.w) X.A (eval (.GeneratorExp elt [⟨.Tuple [.Name xa pa, .Name xb pb'] kt pt, .Call (.Name "zip" p) [e1, e2] [] pos, [], 0⟩] scope gpos) X.env) Q' X.xe s := by
  have deep := hr.dp
  refine wpAny_GeneratorExp_walksQT hr.hd S.co (closure_ok fun y hy e => absurd e (S.free y hy)) S.cell S.dot S.la S.lb hab S.kind (by omega) ?_ hs
  refine Call_ (ld_blt I hg hm PyProof.Rows.boot_zip (PyProof.Rows.callWith_type1 (thn (hi.run pos pins s σ H _ I h) fun us s1 ⟨vs, H1, I1, r1, q1⟩ => ?_) hst hpl))
  obtain ⟨a, b, ex, ⟨ps, hP, ht⟩, q1⟩ := q1
  subst ex
  obtain ⟨u, v, rfl, ru, rv⟩ := vals2 r1
  obtain ⟨t1, rfl⟩ := ru
  obtain ⟨t2, rfl⟩ := rv
  refine zip_begins2 (begins_text a t1) (begins_text b t2) trivial trivial fun hI hz hTI hTO h1 h2 hsz kI => wpAny_pyIter_zip hz ?_
  have eP : s1.heap.get? P = some { cls := .none, data := .fields ps } := I1.hok P _ hP
  have cl1 : cStatics < s1.heap.objs.size := let ⟨_, hns, _⟩ := I1.nolimit; hns.lt
  have cP : cStatics ≠ P := fun e => by
    obtain ⟨_, ⟨o', es, ep, ho, hd, _⟩, _⟩ := I1.nolimit
    rw [e, eP] at ho
    cases ho
    cases hd
  have lim : hI.NoLimit := I1.nolimit.keeps kI
  have eP2 : hI.get? P = some { cls := .none, data := .fields ps } := kI _ _ eP
  have cd : PySem.W.CodeHd hI c P := TB.code.keeps fun b u e => kI _ _ (I1.bk b u e)
  generalize hN : s1.heap.objs.size = N at hz hTI hTO h1 h2 hsz
  have lP : P < N := by rw [← hN]; exact Heap.lt_size eP
  -- behind the code object, whichever it is
  suffices cont : ∀ (code : Value) (h3 : Heap) (tk : Nat) (more : Array Value), Heap.ExtBut P hI h3 → hI.objs.size ≤ h3.objs.size → h3.get? P = some { cls := .none, data := .fields (ps ++ more) } → TriplesOk (ps ++ more).toList →
      wpAny (model X.prog X.w) X.A (builtinsFor X.env.globals X.env.builtins) (fun bi s4 =>
        ∃ Ia fp wr n0 Pf St0 Mid pz F, Value.ref (N + 4) = .ref Ia ∧ (∀ A' : Around, A'.handled = none → WalksU X.prog X.w A' Ia fp wr n0 Pf St0 Mid) ∧ (∀ i vals, Pf i vals → ∃ va vb, vals = #[va, vb]) ∧ St0 0 s4.heap ∧ (∀ b ∈ fp, b < s4.heap.objs.size) ∧ s4.heap.NoLimit ∧ cStatics ∉ wr ∧
          (∀ href : Heap, (∀ b u, s4.heap.get? b = some u → href.get? b = some u) →
            QuietGenT X.prog X.w (genEnv scope (cloFrom X.env.cells scope.names []) s4.heap.objs.size code bi X.env) xa xb [] elt (List.range s4.heap.objs.size) wr Pf pz F href) ∧
          (∀ g h5 tk gs, gs.bare = true → s4.heap.objs.size < g → h5.objs.size = g + 1 → (∀ b u, s4.heap.get? b = some u → h5.get? b = some u) →
            WalksS X.prog X.w X.A.in4 g (g :: s4.heap.objs.size :: List.range s4.heap.objs.size) (s4.heap.objs.size :: wr) (GenOnlyQ s4.gens.size) (passing pz n0 0).length
              (fun j v => ∃ i, (passing pz n0 0)[j]? = some i ∧ F i v) (GenAt X.prog X.w X.A.in4 g s4.gens.size s4.heap.objs.size (List.range s4.heap.objs.size) wr pz n0 F) →
            GenAt X.prog X.w X.A.in4 g s4.gens.size s4.heap.objs.size (List.range s4.heap.objs.size) wr pz n0 F 0 { s4 with gens := s4.gens.push gs, toks := tk, heap := h5 } →
            Q' (.ref g) { s4 with gens := s4.gens.push gs, toks := tk, heap := h5 })) X.xe { s1 with heap := h3, toks := tk } by
    refine ⟨lim, ?_⟩
    cases hf : codeAmong gpos ps.toList with
    | none =>
      refine wpAny_genexprCodeX hcode (cd.code eP2 ht) (cd.tab eP2) hf fun c' h' tk hx hge hlt hco' _ htab' _ => ?_
      obtain ⟨_, _, _, _, _, _, _, _, _, _, _, _, _, _, _, _, _, _, _, htr, _⟩ := hco'
      exact cont _ h' tk _ hx (Nat.le_trans hge (Nat.le_of_lt hlt)) htab'.2 htr
    | some cv =>
      refine wpAny_genexprCode_hit hcode (cd.code eP2 ht) hf (cont cv _ s1.toks #[] (Heap.ExtBut.refl _ _) (Nat.le_refl _) ?_ ?_)
      · rw [Array.append_empty]
        exact eP2
      · rw [Array.append_empty]
        exact ht
  intro code h3 tk more hx hsz3 eP3 ht3
  have old : ∀ b u, b ≠ P → s1.heap.get? b = some u → h3.get? b = some u := fun b u hb e => hx b u hb (kI _ _ e)
  obtain ⟨bm, ob, f1, f2, _, f4, f5, f6, f7, f8⟩ := TB.bm
  refine wpAny_builtinsFor (m := X.mg) (by rw [I1.ok.glob]; exact ((I1.mod.glob.keeps I1.bk).keeps kI).extBut hx TB.gP) f1 f2 (old _ _ f4 (I1.bk _ _ f5)) f6 f7 f8 ?_
  have sep := zs_apart N
  have nz : ∀ {b o}, hI.get? b = some o → b ≠ P → h3.get? b = some o := fun e n => hx _ _ n e
  have n0 : N ≠ P := Nat.ne_of_gt lP
  have n1 : N + 1 ≠ P := Nat.ne_of_gt (Nat.lt_of_lt_of_le lP (Nat.le_add_right N 1))
  have n2 : N + 2 ≠ P := Nat.ne_of_gt (Nat.lt_of_lt_of_le lP (Nat.le_add_right N 2))
  have n3 : N + 3 ≠ P := Nat.ne_of_gt (Nat.lt_of_lt_of_le lP (Nat.le_add_right N 3))
  have n4 : N + 4 ≠ P := Nat.ne_of_gt (Nat.lt_of_lt_of_le lP (Nat.le_add_right N 4))
  refine ⟨N + 4, _, [N + 4, N + 3, N, N + 1], min a.cps.size b.cps.size, _, _, _, fun _ => true, _, rfl, fun A' hA => (WalksT.zipD2 (prog := X.prog) (w := X.w) (A := A') sep (Draws.text (show A'.in1.handled = none from hA) N a t1) (Draws.text (show A'.in1.handled = none from hA) (N + 1) b t2)).toU, ?_, ?_, ?_, lim.extBut hx cP, ?_, fun href kp => quiet_zip he, ?_⟩
  · rintro i vals ⟨x1, x2, _, _, rfl⟩
    exact ⟨x1, x2, rfl⟩
  · exact ⟨nz hz n4, nz hTI n2, ⟨_, _, nz hTO n3⟩, ⟨_, nz h1 n0, rfl, rfl⟩, ⟨_, nz h2 n1, rfl, rfl⟩⟩
  · intro b hb
    have hb2 : b = N + 4 ∨ b = N + 2 ∨ b = N + 3 ∨ b = N ∨ b = N + 1 := by simpa using hb
    exact at_lt hb2 (by show N + 5 ≤ h3.objs.size; omega)
  · intro hb
    have hb2 : cStatics = N + 4 ∨ cStatics = N + 3 ∨ cStatics = N ∨ cStatics = N + 1 := by simpa using hb
    rw [hN] at cl1
    exact Nat.not_lt_of_le (at_ge hb2) cl1
  · intro g h5 tk5 gs hgb hag hsz5 hk5 W5 hat
    simp only [GxR.passing_true, List.length_range] at W5
    have out : ∀ b u, s1.heap.get? b = some u → b ∉ h3.objs.size :: [N + 4, N + 3, N, N + 1] := fun b u e hb => by
      have l1 := Heap.lt_size e
      rw [hN] at l1
      rcases List.mem_cons.mp hb with e9 | hb3
      · rw [e9] at l1
        exact Nat.lt_irrefl _ (Nat.lt_of_lt_of_le l1 (by omega))
      · have hb2 : b = N + 4 ∨ b = N + 3 ∨ b = N ∨ b = N + 1 := by simpa using hb3
        exact Nat.not_lt_of_le (at_ge hb2) l1
    refine hQ a b H1 g _ q1 ⟨_, _, _, _, _, W5.in4_1, hat, fun i v si Qi Ei hv hQi => ?_, fun s' mv => ?_⟩
    · obtain ⟨i', hii, cc, dd, hcc, hdd, rfl⟩ := hv
      obtain ⟨hj, ej⟩ := List.getElem?_eq_some_iff.mp hii
      rw [List.getElem_range] at ej
      subst ej
      have q : Qi (trZ _ a.cps.toList b.cps.toList i) si := hQi
      unfold trZ at q
      rw [(Array.getElem?_toList ..).trans hcc, (Array.getElem?_toList ..).trans hdd] at q
      exact wpAny_truthy_bool q
    · exact tab_two I1 hP ht3 mv (fun b u hb e => hk5 b u (old b u hb e)) (hk5 P _ eP3) (AllBare.movedS (I1.bare.push hgb) mv) rfl out
/-- all(e for a, b in zip(one, two)); behind it the table of the def may have grown -/
def tAllZ (P : Addr) (pb : Nat → Nat → Bool) (ta : TA) : TE := fun σ H Q => ta σ H fun vs H1 => ∃ a b : Str, vs = [.str a, .str b] ∧ TabG H1 P ∧ ∀ H2, Tabbed P H1 H2 → Q (.bl ((a.cps.toList.zip b.cps.toList).all fun p => pb p.1 p.2)) H2
theorem pe_allZ {c P : Addr} {e1 e2 elt : Expr} {xa xb : Str} {kt : Nat} {pa pb' pt p pz pos zpos gpos : Pos} {scope : Scope} {ta : TA} {k : Nat} {pb : Nat → Nat → Bool}
    (hr : Room k X.A) (hg : Gl X "all") (hm : X.mg "all" = none) (hb : bootBuiltins "all" = some (.builtin "all")) (hgz : Gl X "zip") (hmz : X.mg "zip" = none) (TB : TabB X.base X.mg c P) (hcode : X.env.code = .ref c) (S : GenZ scope xa xb) (hi : PA X [e1, e2] ta) (hab : xa ≠ xb)
    (hel : EltZ X.prog X.w scope (cloFrom X.env.cells scope.names []) xa xb elt pb)
    (hs : ∀ v, genFold (.Call (.Name "zip" pz) [e1, e2] [] zpos) X.env v = pure v)
    (hst : starEach [e1, e2] X.env = (false, eval e1 X.env) :: starEach [e2] X.env := by rfl) (hpl : (backTo zpos (starEach [e2] X.env)).any (·.1) = false := by rfl)
    (he : starEach [.GeneratorExp elt [⟨.Tuple [.Name xa pa, .Name xb pb'] kt pt, .Call (.Name "zip" pz) [e1, e2] [] zpos, [], 0⟩] scope gpos] X.env = (false, eval (.GeneratorExp elt [⟨.Tuple [.Name xa pa, .Name xb pb'] kt pt, .Call (.Name "zip" pz) [e1, e2] [] zpos, [], 0⟩] scope gpos) X.env) :: starEach [] X.env := by rfl) :
    PE X (.Call (.Name "all" p) [.GeneratorExp elt [⟨.Tuple [.Name xa pa, .Name xb pb'] kt pt, .Call (.Name "zip" pz) [e1, e2] [] zpos, [], 0⟩] scope gpos] [] pos) (tAllZ P pb ta) := by
  refine ⟨fun pins s σ H Q I h => ?_⟩
  refine wpAny_Call_Name_kw (ld_blt I hg hm hb ?_)
  refine PyProof.Rows.callWith_builtin1 ?_ he (by rfl)
  rw [he]
  show wpAny _ _ (spliced ((false, eval (.GeneratorExp elt [⟨.Tuple [.Name xa pa, .Name xb pb'] kt pt, .Call (.Name "zip" pz) [e1, e2] [] zpos, [], 0⟩] scope gpos) X.env) :: backTo pos (starEach [] X.env))) _ _ s
  refine Calls.spliced_cons (gen_zip (R := fun a b H1 => ∀ H2, Tabbed P H1 H2 → Q (.bl ((a.cps.toList.zip b.cps.toList).all fun p => pb p.1 p.2)) H2) hr hgz hmz TB hcode S hi hab hel hst hpl hs I h fun a b H1 g s5 hR hG => ?_)
  obtain ⟨fp, wr, G, F, St, W, hst0, htr, hI⟩ := hG
  refine Calls.spliced_nil ?_
  refine call_all_walkS (W.self 0 _ _ _ hst0 ⟨g, fp, wr, G, _, F, St, _, rfl, W, hst0, htr, fun s' hmv => ?_⟩)
  obtain ⟨H2, hT, J⟩ := hI s' hmv
  refine ⟨.bl _, H2, J, rfl, ?_⟩
  have e3 : a.cps.size = a.cps.toList.length := by simp
  have e4 : b.cps.size = b.cps.toList.length := by simp
  rw [e3, e4, all_trZ]
  exact hR H2 hT
end
section
variable {Ts : List Addr} {σ : L2.St} {H : Hp}
theorem ev_allZ {P : Addr} {ta : TA} {a b : List Nat} {pb : Nat → Nat → Bool} (hP : P ∈ Ts) (h : EvA Ts ta σ H [sv a, sv b]) : Ev Ts (tAllZ P pb ta) σ H (.bl ((a.zip b).all fun p => pb p.1 p.2)) := fun H1 e Q q =>
  h H1 e _ fun H2 e2 => ⟨S a, S b, rfl, e2.good P hP, fun H3 t => q H3 (e2.trans (Ex.tabbed e2.good hP t))⟩
end
end Cw
set_option Elab.async false
set_option linter.all false
set_option maxRecDepth 100000
set_option maxHeartbeats 2000000
/-! types as values, is, lists put together, lists of new objects -/
namespace Cw
open PySem PySem.Spec PyProof.Rows L2
theorem pe_ty {X : Cx} {x : Str} {n : String} {pos : Pos} (hg : Gl X x) (hm : X.mg x = none) (hv : bootBuiltins x = some (.type n)) (hn : x ≠ "__name__" := by decide) (hd : (x == ("__debug__" : Str)) = false := by decide) : PE X (.Name x pos) (tC (.ty n)) :=
  ⟨fun pins s σ H Q I h => ld_blt I hg hm hv ⟨.ty n, H, I, rfl, h⟩ hn hd⟩
section
variable {Ts : List Addr} {K : PySem.W.Frag} {w : World} {σ : L2.St} {H H0 H' : Hp} {ta tb te ti : TE} {t u : TT} {x y z v : V} {D : Ends}
theorem rc_isiS {a : Str} : RC Ts (rIsi K) [.str a, .ty "str"] H (.bl true) := fun H1 e _ q => ⟨.str a, .ty "str", .type "str", .type "str", true, rfl, .ty _, .base (.str _), kit_ty (by decide +kernel), q H1 (Ex.refl e.good)⟩
theorem rv_isB {a b : Bool} : RV Ts rIsB (.bl a) (.bl b) H (.bl (decide (a = b))) := fun H1 e _ q => ⟨a, b, rfl, rfl, q H1 (Ex.refl e.good)⟩
theorem rv_notB {a b : Bool} : RV Ts rNotB (.bl a) (.bl b) H (.bl (!decide (a = b))) := fun H1 e _ q => ⟨a, b, rfl, rfl, q H1 (Ex.refl e.good)⟩
theorem rv_ixT {p : Addr} {xs : List V} {i : Int} (g : Good Ts H) (h : SqT K H p xs) (ha : atI xs i = some v) : RV Ts (rIxT K) (.ref p) (.int i) H v := fun H1 e _ q => ⟨p, xs, i, v, rfl, rfl, e.t g h, ha, q H1 (Ex.refl e.good)⟩
theorem en_cat {l : Addr} {xs zs : List V} (nl : l ∉ Ts) (ha : Ev Ts ta σ H (.ref l)) (hl : H l = some (.lst xs)) (hb : EvN Ts tb σ H (.lst zs)) (hz : xs.length + zs.length ≤ 100000) : EvN Ts (tOp rCat ta tb) σ H (.lst (xs ++ zs)) := fun H1 e _ q =>
  ha H1 e _ fun H2 e2 => hb H2 (e.trans e2) _ fun p H3 n e3 hp => ⟨l, p, xs, zs, rfl, rfl, ((e.trans e2).trans e3).keep l _ nl hl, hp, Nat.le_trans hz (by decide), fun p2 hp2 => q p2 _ ((e2.trans e3).back hp2) ((e2.trans e3).trans (Ex.new e3.good hp2)) upd_same⟩
theorem st_appS {R : V → Hp → Prop} {i : Nat} {l : Addr} {xs : List V} (hl : σ[i]? = some (some (.ref l))) (h : H l = some (.lst xs)) (nl : l ∉ Ts) (hy : EvS Ts te σ H0 R) (e : Ex Ts H0 H) (hz : xs.length < 100000)
    (k : ∀ y H2, Ex Ts H H2 → R y H2 → H2 l = some (.lst xs) → D.nx σ (upd H2 l (.lst (xs ++ [y])))) : tDrop (tBM K "list" rAppend (tVar i) (tCons te tNil)) D σ H :=
  ⟨_, hl, .inl ⟨rfl, _, l_of h⟩, hy H e _ fun y H2 e2 r => ⟨l, xs, y, rfl, rfl, e2.keep l _ nl h, Nat.lt_trans hz (by decide), k y H2 e2 r (e2.keep l _ nl h)⟩⟩
/-- for x in l, l a list that is held -/
theorem st_forV {i j : Nat} {a : Addr} {xs : List V} {tb : TS} (hl : σ[i]? = some (some (.ref a))) (Pv : Nat → L2.St → Hp → Prop) (h0 : Pv 0 σ H) (hL : ∀ i σ H, Pv i σ H → SqL K H a xs)
    (hs : ∀ i x σ H (N : L2.St → Hp → Prop), xs[i]? = some x → Pv i σ H → (∀ σ2 H2, Pv (i + 1) σ2 H2 → N σ2 H2) → tb { D with nx := N, ct := N, bk := D.nx } (σ.set j (some x)) H)
    (hd : ∀ σ H, Pv xs.length σ H → D.nx σ H) : tFor (iList K (tVar i)) (gName j) tb D σ H := by
  refine ⟨_, hl, a, rfl, ⟨xs, hL 0 σ H h0⟩, ?_⟩
  refine for_it (walk_list (K := K) (a := a) (xs := xs)) Pv h0 (fun i σ H _ p => hL i σ H p) (fun i x σ H3 H4 _ p y => ?_) hd
  obtain ⟨rfl, hx⟩ := y
  exact hs i x σ H4 _ hx p fun σ2 H5 p5 => p5
theorem rc_int01 {c : Nat} (h : c = 48 ∨ c = 49) : RC Ts (fun xs H Q => ∃ a n, xs = [V.str a] ∧ PySem.intText? a = some n ∧ a.length ≤ 640 ∧ Q (.int n) H) [sv [c]] H (.int ((c - 48 : Nat) : Int)) := fun H1 e _ q => by
  rcases h with rfl | rfl
  · exact ⟨S [48], 0, rfl, by decide +kernel, by decide, q H1 (Ex.refl e.good)⟩
  · exact ⟨S [49], 1, rfl, by decide +kernel, by decide, q H1 (Ex.refl e.good)⟩
end
/-! ### what is refined -/
def rf1 (c d : Nat) : Prop := c = 48 ∨ c = 49 → d = c
inductive Rfs : List Nat → List Nat → Prop
  | nil : Rfs [] []
  | cons {a b : Nat} {as bs : List Nat} : rf1 a b → Rfs as bs → Rfs (a :: as) (b :: bs)
theorem rf1_refl (c : Nat) : rf1 c c := fun _ => rfl
theorem rf1_not {a a' : Nat} (h : rf1 a a') : rf1 (notB a) (notB a') := by
  unfold rf1 notB at *
  by_cases h1 : a = 48
  · rw [h (.inl h1), h1]
    exact fun _ => rfl
  · by_cases h2 : a = 49
    · rw [h (.inr h2), h2]
      exact fun _ => rfl
    · rw [if_neg h1, if_neg h2]
      omega
theorem rf1_and {a a' b b' : Nat} (h : rf1 a a') (g : rf1 b b') : rf1 (andB a b) (andB a' b') := by
  unfold rf1 andB at *
  split
  · rename_i x
    intro _
    rw [if_pos]
    omega
  · split
    · rename_i x y
      intro _
      rw [if_neg (by omega), if_pos (by omega)]
    · omega
theorem rf1_or {a a' b b' : Nat} (h : rf1 a a') (g : rf1 b b') : rf1 (orB a b) (orB a' b') := by
  unfold rf1 orB at *
  split
  · rename_i x
    intro _
    rw [if_pos]
    omega
  · split
    · rename_i x y
      intro _
      rw [if_neg (by omega), if_pos (by omega)]
    · omega
theorem rf1_xor {a a' b b' : Nat} (h : rf1 a a') (g : rf1 b b') : rf1 (xorB a b) (xorB a' b') := by
  unfold rf1 xorB at *
  split
  · rename_i x
    intro _
    rw [h x.1, g x.2, if_pos x]
  · omega
theorem rf1_ag {a a' b b' : Nat} (h : rf1 a a') (g : rf1 b b') : rf1 (agB a b) (agB a' b') := by
  unfold rf1 agB at *
  split
  · rename_i x
    intro _
    rw [h x.2, g (by rw [← x.1]; exact x.2), if_pos x]
  · omega
theorem Rfs.len {a b : List Nat} (h : Rfs a b) : a.length = b.length := by
  induction h with
  | nil => rfl
  | cons _ _ ih => rw [List.length_cons, List.length_cons, ih]
theorem Rfs.refl : ∀ a : List Nat, Rfs a a
  | [] => .nil
  | c :: r => .cons (rf1_refl c) (Rfs.refl r)
theorem Rfs.of_eq {a b : List Nat} (h : a = b) : Rfs a b := h ▸ Rfs.refl a
theorem Rfs.append {a b c d : List Nat} (h : Rfs a b) (g : Rfs c d) : Rfs (a ++ c) (b ++ d) := by
  induction h with
  | nil => exact g
  | cons x _ ih => exact .cons x ih
theorem Rfs.take {a b : List Nat} (h : Rfs a b) : ∀ n, Rfs (a.take n) (b.take n) := by
  induction h with
  | nil => intro n; rw [List.take_nil]; exact .nil
  | cons x _ ih =>
    intro n
    cases n with
    | zero => exact .nil
    | succ n => exact .cons x (ih n)
theorem Rfs.drop {a b : List Nat} (h : Rfs a b) : ∀ n, Rfs (a.drop n) (b.drop n) := by
  induction h with
  | nil => intro n; rw [List.drop_nil]; exact .nil
  | cons x g ih =>
    intro n
    cases n with
    | zero => exact .cons x g
    | succ n => exact ih n
theorem Rfs.map {f : Nat → Nat} (hf : ∀ a b, rf1 a b → rf1 (f a) (f b)) {a b : List Nat} (h : Rfs a b) : Rfs (a.map f) (b.map f) := by
  induction h with
  | nil => exact .nil
  | cons x _ ih => exact .cons (hf _ _ x) ih
theorem Rfs.zip {f : Nat → Nat → Nat} (hf : ∀ a a' b b', rf1 a a' → rf1 b b' → rf1 (f a b) (f a' b')) {a b : List Nat} (h : Rfs a b) : ∀ {c d : List Nat}, Rfs c d → Rfs ((a.zip c).map fun p => f p.1 p.2) ((b.zip d).map fun p => f p.1 p.2) := by
  induction h with
  | nil => intro c d _; exact .nil
  | cons x _ ih =>
    intro c d g
    cases g with
    | nil => exact .nil
    | cons y g => exact .cons (hf _ _ _ _ x y) (ih g)
theorem Rfs.fold {f : Nat → Nat → Nat} (hf : ∀ a a' b b', rf1 a a' → rf1 b b' → rf1 (f a b) (f a' b')) {a b : List Nat} (h : Rfs a b) : ∀ {e e' : Nat}, rf1 e e' → rf1 (a.foldl f e) (b.foldl f e') := by
  induction h with
  | nil => exact fun g => g
  | cons x _ ih => exact fun g => ih (hf _ _ _ _ g x)
theorem Rfs.get {a b : List Nat} (h : Rfs a b) : ∀ {i c : Nat}, a[i]? = some c → ∃ d, b[i]? = some d ∧ rf1 c d := by
  induction h with
  | nil => exact fun e => by cases e
  | @cons x y as bs g _ ih =>
    intro i c e
    cases i with
    | zero =>
      cases e
      exact ⟨y, rfl, g⟩
    | succ i => exact ih e
theorem Rfs.kn {a b : List Nat} (h : Rfs a b) : kn a = true → a = b := by
  induction h with
  | nil => exact fun _ => rfl
  | @cons x y as bs g _ ih =>
    intro e
    unfold Cw.kn at e
    rw [List.all_cons, Bool.and_eq_true] at e
    have hx : x = 48 ∨ x = 49 := by simpa using e.1
    rw [g hx, ih e.2]
theorem Rfs.x {a : List Nat} : ∀ {b : List Nat}, a.length = b.length → (∀ c ∈ a, c = 120) → Rfs a b := by
  induction a with
  | nil =>
    intro b e _
    cases b with
    | nil => exact .nil
    | cons y r => cases e
  | cons c r ih =>
    intro b e h
    cases b with
    | nil => cases e
    | cons y s =>
      refine .cons ?_ (ih (Nat.succ.inj e) fun z hz => h z (List.mem_cons_of_mem _ hz))
      rw [h c (List.mem_cons_self ..)]
      intro z
      omega
theorem Rfs.rep {b : List Nat} {n : Nat} (h : n = b.length) : Rfs (List.replicate n 120) b := Rfs.x (by rw [List.length_replicate]; exact h) fun _ hc => List.eq_of_mem_replicate hc
theorem Rfs.one {c d : Nat} (h : rf1 c d) : Rfs [c] [d] := .cons h .nil
theorem Rfs.ext {a b : List Nat} (h : Rfs a b) (w : Nat) : Rfs (ext w a) (ext w b) := by
  unfold Cw.ext
  rw [h.len]
  exact (Rfs.refl _).append h
theorem Rfs.exL {a b c d : List Nat} (h : Rfs a b) (g : Rfs c d) : Rfs (exL a c) (exL b d) := by
  unfold Cw.exL wid
  rw [h.len, g.len]
  exact h.ext _
theorem Rfs.exR {a b c d : List Nat} (h : Rfs a b) (g : Rfs c d) : Rfs (exR a c) (exR b d) := by
  unfold Cw.exR wid
  rw [h.len, g.len]
  exact g.ext _
theorem Rfs.map2 {f : Nat → Nat → Nat} (hf : ∀ a a' b b', rf1 a a' → rf1 b b' → rf1 (f a b) (f a' b')) {a b c d : List Nat} (h : Rfs a b) (g : Rfs c d) : Rfs (map2 f a c) (map2 f b d) := (h.exL g).zip hf (h.exR g)
/-- what is_refined tells -/
def irB (a b : List Nat) : Bool := decide (a.length = b.length) && (a.zip b).all fun p => (!decide (p.1 ∈ [48, 49])) || decide (p.1 = p.2)
theorem ir_of {a b : List Nat} (h : Rfs a b) : irB a b = true := by
  induction h with
  | nil => rfl
  | @cons x y as bs g _ ih =>
    unfold irB at *
    rw [Bool.and_eq_true, decide_eq_true_eq] at *
    rw [List.length_cons, List.length_cons, List.zip_cons_cons, List.all_cons, Bool.and_eq_true]
    refine ⟨by omega, ?_, ih.2⟩
    by_cases hx : x = 48 ∨ x = 49
    · rw [g hx]
      simp
    · simp [hx]
theorem ir_len {a b : List Nat} (h : a.length ≠ b.length) : irB a b = false := by
  unfold irB
  rw [decide_eq_false h, Bool.false_and]
theorem ir_not {a b : List Nat} {i c d : Nat} (ha : a[i]? = some c) (hb : b[i]? = some d) (hc : c = 48 ∨ c = 49) (hd : c ≠ d) : irB a b = false := by
  unfold irB
  rw [Bool.and_eq_false_iff]
  refine .inr (List.all_eq_false.mpr ⟨(c, d), List.mem_of_getElem? (i := i) (List.getElem?_zip_eq_some.mpr ⟨ha, hb⟩), ?_⟩)
  have h1 : c ∈ [48, 49] := by simpa using hc
  show ¬ ((!decide (c ∈ [48, 49])) || decide (c = d)) = true
  rw [decide_eq_true h1, decide_eq_false hd]
  exact Bool.false_ne_true
end Cw
set_option Elab.async false
set_option linter.all false
set_option maxRecDepth 100000
set_option maxHeartbeats 2000000
namespace K44
open PySem PySem.Spec PyProof.Rows L2 Cw
open GxR (TabG Tabbed TabB GenS)
def topS (i : Nat) : Stmt := PySem.Challenge.pw_clockwright_k44_refined_operands.main.body.getD i (.Pass ⟨0, 0, 0, 0⟩)
abbrev s_consists_of : Stmt := topS 5
theorem sc_consists_of : FnScope ["text", "characters"] ["text", "characters"] (defScope s_consists_of) := ⟨rfl, rfl, rfl, by decide +kernel, rfl, by decide +kernel, by decide +kernel⟩
abbrev s_extended : Stmt := topS 6
theorem sc_extended : FnScope ["vector", "width"] ["vector", "width"] (defScope s_extended) := ⟨rfl, rfl, rfl, by decide +kernel, rfl, by decide +kernel, by decide +kernel⟩
abbrev s_both_extended : Stmt := topS 7
theorem sc_both_extended : FnScope ["one", "two", "width"] ["one", "two"] (defScope s_both_extended) := ⟨rfl, rfl, rfl, by decide +kernel, rfl, by decide +kernel, by decide +kernel⟩
abbrev s_low_bits : Stmt := topS 8
theorem sc_low_bits : FnScope ["number", "width"] ["number", "width"] (defScope s_low_bits) := ⟨rfl, rfl, rfl, by decide +kernel, rfl, by decide +kernel, by decide +kernel⟩
abbrev s_bit : Stmt := topS 9
theorem sc_bit : FnScope ["holds"] ["holds"] (defScope s_bit) := ⟨rfl, rfl, rfl, by decide +kernel, rfl, by decide +kernel, by decide +kernel⟩
abbrev s_is_known : Stmt := topS 10
theorem sc_is_known : FnScope ["vector"] ["vector"] (defScope s_is_known) := ⟨rfl, rfl, rfl, by decide +kernel, rfl, by decide +kernel, by decide +kernel⟩
abbrev s_is_refined : Stmt := topS 11
theorem sc_is_refined : FnScope ["vector", "other"] ["vector", "other"] (defScope s_is_refined) := ⟨rfl, rfl, rfl, by decide +kernel, rfl, by decide +kernel, by decide +kernel⟩
abbrev s_bit_not : Stmt := topS 12
theorem sc_bit_not : FnScope ["vector", "bit"] ["vector"] (defScope s_bit_not) := ⟨rfl, rfl, rfl, by decide +kernel, rfl, by decide +kernel, by decide +kernel⟩
abbrev s_bit_and : Stmt := topS 13
theorem sc_bit_and : FnScope ["one", "two", "left", "right", "a", "b"] ["one", "two"] (defScope s_bit_and) := ⟨rfl, rfl, rfl, by decide +kernel, rfl, by decide +kernel, by decide +kernel⟩
abbrev s_bit_or : Stmt := topS 14
theorem sc_bit_or : FnScope ["one", "two", "left", "right", "a", "b"] ["one", "two"] (defScope s_bit_or) := ⟨rfl, rfl, rfl, by decide +kernel, rfl, by decide +kernel, by decide +kernel⟩
abbrev s_bit_xor : Stmt := topS 15
theorem sc_bit_xor : FnScope ["one", "two", "left", "right", "a", "b"] ["one", "two"] (defScope s_bit_xor) := ⟨rfl, rfl, rfl, by decide +kernel, rfl, by decide +kernel, by decide +kernel⟩
abbrev s_reduce_and : Stmt := topS 16
theorem sc_reduce_and : FnScope ["vector", "result", "bit"] ["vector"] (defScope s_reduce_and) := ⟨rfl, rfl, rfl, by decide +kernel, rfl, by decide +kernel, by decide +kernel⟩
abbrev s_reduce_or : Stmt := topS 17
theorem sc_reduce_or : FnScope ["vector", "result", "bit"] ["vector"] (defScope s_reduce_or) := ⟨rfl, rfl, rfl, by decide +kernel, rfl, by decide +kernel, by decide +kernel⟩
abbrev s_reduce_xor : Stmt := topS 18
theorem sc_reduce_xor : FnScope ["vector", "result", "bit"] ["vector"] (defScope s_reduce_xor) := ⟨rfl, rfl, rfl, by decide +kernel, rfl, by decide +kernel, by decide +kernel⟩
abbrev s_both_known : Stmt := topS 19
theorem sc_both_known : FnScope ["one", "two"] ["one", "two"] (defScope s_both_known) := ⟨rfl, rfl, rfl, by decide +kernel, rfl, by decide +kernel, by decide +kernel⟩
abbrev s_negate : Stmt := topS 20
theorem sc_negate : FnScope ["vector"] ["vector"] (defScope s_negate) := ⟨rfl, rfl, rfl, by decide +kernel, rfl, by decide +kernel, by decide +kernel⟩
abbrev s_add : Stmt := topS 21
theorem sc_add : FnScope ["one", "two", "width"] ["one", "two"] (defScope s_add) := ⟨rfl, rfl, rfl, by decide +kernel, rfl, by decide +kernel, by decide +kernel⟩
abbrev s_subtract : Stmt := topS 22
theorem sc_subtract : FnScope ["one", "two", "width"] ["one", "two"] (defScope s_subtract) := ⟨rfl, rfl, rfl, by decide +kernel, rfl, by decide +kernel, by decide +kernel⟩
abbrev s_multiply : Stmt := topS 23
theorem sc_multiply : FnScope ["one", "two", "width"] ["one", "two"] (defScope s_multiply) := ⟨rfl, rfl, rfl, by decide +kernel, rfl, by decide +kernel, by decide +kernel⟩
abbrev s_less : Stmt := topS 24
theorem sc_less : FnScope ["one", "two"] ["one", "two"] (defScope s_less) := ⟨rfl, rfl, rfl, by decide +kernel, rfl, by decide +kernel, by decide +kernel⟩
abbrev s_less_equal : Stmt := topS 25
theorem sc_less_equal : FnScope ["one", "two"] ["one", "two"] (defScope s_less_equal) := ⟨rfl, rfl, rfl, by decide +kernel, rfl, by decide +kernel, by decide +kernel⟩
abbrev s_equal : Stmt := topS 26
theorem sc_equal : FnScope ["one", "two"] ["one", "two"] (defScope s_equal) := ⟨rfl, rfl, rfl, by decide +kernel, rfl, by decide +kernel, by decide +kernel⟩
abbrev s_not_equal : Stmt := topS 27
theorem sc_not_equal : FnScope ["one", "two"] ["one", "two"] (defScope s_not_equal) := ⟨rfl, rfl, rfl, by decide +kernel, rfl, by decide +kernel, by decide +kernel⟩
abbrev s_truth : Stmt := topS 28
theorem sc_truth : FnScope ["vector"] ["vector"] (defScope s_truth) := ⟨rfl, rfl, rfl, by decide +kernel, rfl, by decide +kernel, by decide +kernel⟩
abbrev s_logic_not : Stmt := topS 29
theorem sc_logic_not : FnScope ["vector"] ["vector"] (defScope s_logic_not) := ⟨rfl, rfl, rfl, by decide +kernel, rfl, by decide +kernel, by decide +kernel⟩
abbrev s_logic_and : Stmt := topS 30
theorem sc_logic_and : FnScope ["one", "two"] ["one", "two"] (defScope s_logic_and) := ⟨rfl, rfl, rfl, by decide +kernel, rfl, by decide +kernel, by decide +kernel⟩
abbrev s_logic_or : Stmt := topS 31
theorem sc_logic_or : FnScope ["one", "two"] ["one", "two"] (defScope s_logic_or) := ⟨rfl, rfl, rfl, by decide +kernel, rfl, by decide +kernel, by decide +kernel⟩
abbrev s_shift_left : Stmt := topS 32
theorem sc_shift_left : FnScope ["vector", "amount", "width", "places"] ["vector", "amount"] (defScope s_shift_left) := ⟨rfl, rfl, rfl, by decide +kernel, rfl, by decide +kernel, by decide +kernel⟩
abbrev s_shift_right : Stmt := topS 33
theorem sc_shift_right : FnScope ["vector", "amount", "width", "places"] ["vector", "amount"] (defScope s_shift_right) := ⟨rfl, rfl, rfl, by decide +kernel, rfl, by decide +kernel, by decide +kernel⟩
abbrev s_agreed_bit : Stmt := topS 34
theorem sc_agreed_bit : FnScope ["a", "b"] ["a", "b"] (defScope s_agreed_bit) := ⟨rfl, rfl, rfl, by decide +kernel, rfl, by decide +kernel, by decide +kernel⟩
abbrev s_choose : Stmt := topS 35
theorem sc_choose : FnScope ["condition", "one", "two", "left", "right", "decision", "a", "b"] ["condition", "one", "two"] (defScope s_choose) := ⟨rfl, rfl, rfl, by decide +kernel, rfl, by decide +kernel, by decide +kernel⟩
abbrev s_pick : Stmt := topS 36
theorem sc_pick : FnScope ["vector", "index", "place"] ["vector", "index"] (defScope s_pick) := ⟨rfl, rfl, rfl, by decide +kernel, rfl, by decide +kernel, by decide +kernel⟩
abbrev s_law_numbers : Stmt := topS 38
theorem sc_law_numbers : FnScope ["script", "base", "many", "numbers", "seed", "cell", "rest", "spin", "k"] ["script", "base", "many"] (defScope s_law_numbers) := ⟨rfl, rfl, rfl, by decide +kernel, rfl, by decide +kernel, by decide +kernel⟩
abbrev s_law_cell : Stmt := topS 39
theorem sc_law_cell : FnScope ["script", "k"] ["script", "k"] (defScope s_law_cell) := ⟨rfl, rfl, rfl, by decide +kernel, rfl, by decide +kernel, by decide +kernel⟩
abbrev s_law_pair : Stmt := topS 40
theorem sc_law_pair : FnScope ["numbers", "size", "full", "first", "second", "k", "sign", "fresh"] ["numbers", "size", "full"] (defScope s_law_pair) := ⟨rfl, rfl, rfl, by decide +kernel, rfl, by decide +kernel, by decide +kernel⟩
abbrev s_law_refines : Stmt := topS 41
theorem sc_law_refines : FnScope ["one", "two", "k"] ["one", "two"] (defScope s_law_refines) := ⟨rfl, rfl, rfl, by decide +kernel, rfl, by decide +kernel, by decide +kernel⟩
abbrev s_law_results : Stmt := topS 42
theorem sc_law_results : FnScope ["one", "two", "three", "rows"] ["one", "two", "three"] (defScope s_law_results) := ⟨rfl, rfl, rfl, by decide +kernel, rfl, by decide +kernel, by decide +kernel⟩
abbrev s_law : Stmt := topS 43
theorem sc_law : FnScope ["script", "numbers", "full", "sizes", "pairs", "k", "pair", "one", "due", "told"] ["script"] (defScope s_law) := ⟨rfl, rfl, rfl, by decide +kernel, rfl, by decide +kernel, by decide +kernel⟩
theorem lt_0 : ("0" : Str) = S [48] := rfl
theorem lt_b : ("b" : Str) = S [98] := rfl
theorem lt_1 : ("1" : Str) = S [49] := rfl
theorem lt_01 : ("01" : Str) = S [48, 49] := rfl
theorem lt_e : ("" : Str) = S [] := rfl
theorem lt_x : ("x" : Str) = S [120] := rfl
theorem lt_01xxzz : ("01xxzz" : Str) = S [48, 49, 120, 120, 122, 122] := rfl
theorem lt_01xz : ("01xz" : Str) = S [48, 49, 120, 122] := rfl
theorem lt_10 : ("10" : Str) = S [49, 48] := rfl
structure Txt (mg : Str → Option Value) (K : PySem.W.Frag) (w : World) (pA pO pX pN : Addr) : Prop where
  len : mg "len" = none
  max : mg "max" = none
  min : mg "min" = none
  all : mg "all" = none
  zip : mg "zip" = none
  range : mg "range" = none
  abs : mg "abs" = none
  int : mg "int" = none
  isinstance : mg "isinstance" = none
  str : mg "str" = none
  g_AND_BITS : mg "AND_BITS" = some (.ref pA)
  g_OR_BITS : mg "OR_BITS" = some (.ref pO)
  g_XOR_BITS : mg "XOR_BITS" = some (.ref pX)
  g_NOT_BITS : mg "NOT_BITS" = some (.ref pN)
  tA : ∀ a b, IsB a → IsB b → KDct K w pA (S [a, b]) (sv [andB a b])
  tO : ∀ a b, IsB a → IsB b → KDct K w pO (S [a, b]) (sv [orB a b])
  tX : ∀ a b, IsB a → IsB b → KDct K w pX (S [a, b]) (sv [xorB a b])
  tN : ∀ a, IsB a → KDct K w pN (S [a]) (sv [notB a])
end K44
set_option Elab.async false
set_option linter.all false
set_option maxRecDepth 100000
set_option maxHeartbeats 2000000
namespace K44
open PySem PySem.Spec PyProof.Rows L2 Cw
open GxR (TabG Tabbed TabB GenS)
local macro_rules | `(tactic| walk_at "ev") => `(tactic| first
  | exact ev_var rfl
  | exact ev_s lt_0 | exact ev_s lt_b | exact ev_s lt_1 | exact ev_s lt_01 | exact ev_s lt_e | exact ev_s lt_x | exact ev_s lt_01xxzz | exact ev_s lt_01xz | exact ev_s lt_10
  | exact ev_c
  | (apply ev_op <;> walk_at "ev")
  | exact rv_I0 | (refine rv_I ?_; first | omega | decide | assumption)
  | exact rv_eq rfl | exact rv_ne rfl | exact rv_inS | exact rv_niS
  | (refine rv_addS ?_; first | assumption | omega | decide)
  | (refine rv_mulS ?_ ?_ <;> first | assumption | omega | decide)
  | (apply ev_cb <;> walk_at "ev")
  | (refine rc_lenS ?_; first | assumption | omega | decide)
  | exact rc_max | exact rc_abs | exact rc_intI | exact rc_intB | exact rc_min
  | exact ea_nil
  | (apply ea_cons <;> walk_at "ev")
  | (apply et_and; walk_at "ev"; intro _; walk_at "ev")
  | (apply et_or; walk_at "ev"; intro _; walk_at "ev")
  | (apply et_not; walk_at "ev")
  | (apply et_test; walk_at "ev")
  | (apply et_B; walk_at "ev"))
section
variable {P : Program} {w : World} {K : PySem.W.Frag} {mg : Str → Option Value} {base : Heap} {pA pO pX pN : Addr} {Ts : List Addr}
abbrev sp_extended (K : PySem.W.Frag) (Ts : List Addr) : Sp := FnV Ts (fun x : List Nat × Nat => [sv x.1, .int (x.2 : Nat)]) (fun x => x.1.length ≤ 1000 ∧ x.2 ≤ 1000) fun x => sv (ext x.2 x.1)

theorem ok_extended {f : Addr} {fd : FuncData} (F : Fun K "_extended" "_extended" s_extended f fd) (T : Txt mg K w pA pO pX pN)  :
    FnOk P w K mg base CX0 1 f fd ["vector", "width"] (sp_extended K Ts) := by
  refine F.ok sc_extended (fun vs H Q E h => ?_) (fun cdv A outer s H vs Q E hr h => ?_)
  · obtain ⟨x, rfl, _⟩ := h
    rfl
  · obtain ⟨⟨a, n⟩, ev, hd, g, q⟩ := h
    replace ev : vs = [sv a, .int (n : Nat)] := ev
    subst ev
    have h1 : a.length ≤ 1000 := hd.1
    have h2 : n ≤ 1000 := hd.2
    refine ⟨_, (pss_one (ps_ret (pe_op op_add_str (pe_op op_mulS pe_str (pe_op op_sub (pv 1) (pe_callB call_len_str (by rfl) T.len PySem.boot_len (pa_cons (pv 0) pa_nil)))) (pv 0)))), ?_⟩
    refine st_ret (ev_is (v := sv (List.replicate ((n : Int) - (a.length : Int)).toNat 48 ++ a)) ?_ ?_) (Ex.refl g) q
    · refine ev_op (ev_op (ev_s lt_0) (ev_op (ev_var rfl) (ev_cb (ea_cons (ev_var rfl) ea_nil) (rc_lenS (by omega))) rv_I0) (rv_mulS (by omega) (by omega))) (ev_var rfl) (rv_addS ?_)
      rw [List.length_replicate]
      omega
    · show sv _ = sv (List.replicate (n - a.length) 48 ++ a)
      have e : ((n : Int) - (a.length : Int)).toNat = n - a.length := by omega
      rw [e]

abbrev sp_both_extended (K : PySem.W.Frag) (Ts : List Addr) : Sp := FnN Ts (fun x : List Nat × List Nat => [sv x.1, sv x.2]) (fun x _ => x.1.length ≤ 1000 ∧ x.2.length ≤ 1000) fun x => .tup [sv (exL x.1 x.2), sv (exR x.1 x.2)]

theorem ok_both_extended {f : Addr} {fd : FuncData} (F : Fun K "_both_extended" "_both_extended" s_both_extended f fd) (T : Txt mg K w pA pO pX pN) (C_extended : Callee P w K mg base "_extended" 1 ["vector", "width"] (sp_extended K Ts)) :
    FnOk P w K mg base CX0 2 f fd ["one", "two"] (sp_both_extended K Ts) := by
  refine F.ok sc_both_extended (fun vs H Q E h => ?_) (fun cdv A outer s H vs Q E hr h => ?_)
  · obtain ⟨x, rfl, _⟩ := h
    rfl
  · obtain ⟨⟨a, b⟩, ev, hd, g, q⟩ := h
    replace ev : vs = [sv a, sv b] := ev
    subst ev
    have h1 : a.length ≤ 1000 := hd.1
    have h2 : b.length ≤ 1000 := hd.2
    have hw : wid a b ≤ 1000 := Nat.max_le.mpr ⟨h1, h2⟩
    refine ⟨_, (pss_cons (ps_set (i := 2) sc_both_extended.nd rfl (.inl rfl) (pe_callB (call_max2 rfl) (by rfl) T.max (by decide +kernel) (pa_cons (pe_callB call_len_str (by rfl) T.len PySem.boot_len (pa_cons (pv 0) pa_nil)) (pa_cons (pe_callB call_len_str (by rfl) T.len PySem.boot_len (pa_cons (pv 1) pa_nil)) pa_nil))))
      (pss_one (ps_ret (pe_tup (pa_cons (pe_fn C_extended (hr.mono (by decide)) (by rfl) (pa_cons (pv 0) (pa_cons (pv 2) pa_nil))) (pa_cons (pe_fn C_extended (hr.mono (by decide)) (by rfl) (pa_cons (pv 1) (pa_cons (pv 2) pa_nil))) pa_nil)))))), ?_⟩
    refine st_set (v := .int (wid a b : Nat)) ?_ (Ex.refl g) ?_
    · refine ev_is ?_ (congrArg V.int (max_wid a b))
      walk_at "ev"
    intro H1 e1
    dsimp only
    refine st_retN (R := .tup [sv (exL a b), sv (exR a b)]) ?_ e1 ?_
    · refine en_tup (ea_cons (ev_call (a, wid a b) ?_ ⟨h1, hw⟩) (ea_cons (ev_call (b, wid a b) ?_ ⟨h2, hw⟩) ea_nil)) (by show 2 ≤ 100000; decide)
      · exact ea_cons (ev_var rfl) (ea_cons (ev_var rfl) ea_nil)
      · exact ea_cons (ev_var rfl) (ea_cons (ev_var rfl) ea_nil)
    · exact fun p H2 n _ e2 hp => q p H2 n e2 hp

abbrev sp_bit_not (K : PySem.W.Frag) (Ts : List Addr) : Sp := FnV Ts (fun a : List Nat => [sv a]) Vec fun a => sv (a.map notB)

theorem ok_bit_not {f : Addr} {fd : FuncData} (F : Fun K "bit_not" "bit_not" s_bit_not f fd) (T : Txt mg K w pA pO pX pN)  :
    FnOk P w K mg base CX0 1 f fd ["vector"] (sp_bit_not K Ts) := by
  refine F.ok sc_bit_not (fun vs H Q E h => ?_) (fun cdv A outer s H vs Q E hr h => ?_)
  · obtain ⟨x, rfl, _⟩ := h
    rfl
  · obtain ⟨a, ev, hd, g, q⟩ := h
    replace ev : vs = [sv a] := ev
    subst ev
    refine ⟨_, (pss_one (ps_ret (pe_bm PySem.F.plainAttrs_str PySem.F.slot_str_join PySem.F.type_str_join mt_join pe_str (pa_cons (pe_lc (own := [("bit", 1)]) (by rfl) sc_bit_not.nd (pi_str (pv 0)) (blkOk_by (own := [("bit", 1)]) (N := ["vector", "bit"]) (sc := defScope s_bit_not) (by decide +kernel)) (fun _ _ _ _ _ => pg_name (i := 1) sc_bit_not.nd rfl (Or.inl rfl)) (fun _ _ _ _ _ => pts_nil) (fun _ _ _ _ _ => (pe_ix (show IxR _ (rIxD K w) from ix_kdict) (pe_glob (v := .ref _) (by rfl) T.g_NOT_BITS rfl) (pv 1) (fun _ _ => rfl)))) pa_nil)))), ?_⟩
    refine st_ret (ev_is (v := sv (a.map fun c => [notB c]).flatten) ?_ (by rw [flat_one])) (Ex.refl g) q
    refine ev_join (ev_s lt_e) (ev_strs (K := K) notB a ?_) ?_ (fun _ => rfl)
    · refine en_lcS (Nat.le_trans hd.le (by decide)) (ev_var rfl) fun c hc => ?_
      exact ev_op ev_c (ev_var rfl) (rv_kd (T.tN c (hd.all c hc)))
    · rw [flat_one, List.length_map]
      exact Nat.le_trans hd.le (by decide)

abbrev sp_bit_and (K : PySem.W.Frag) (Ts : List Addr) : Sp := FnV Ts (fun x : List Nat × List Nat => [sv x.1, sv x.2]) (fun x => Vec x.1 ∧ Vec x.2) fun x => sv (map2 andB x.1 x.2)

theorem ok_bit_and {f : Addr} {fd : FuncData} (F : Fun K "bit_and" "bit_and" s_bit_and f fd) (T : Txt mg K w pA pO pX pN) (C_both_extended : Callee P w K mg base "_both_extended" 2 ["one", "two"] (sp_both_extended K Ts)) :
    FnOk P w K mg base CX0 3 f fd ["one", "two"] (sp_bit_and K Ts) := by
  refine F.ok sc_bit_and (fun vs H Q E h => ?_) (fun cdv A outer s H vs Q E hr h => ?_)
  · obtain ⟨x, rfl, _⟩ := h
    rfl
  · obtain ⟨⟨a, b⟩, ev, hd, g, q⟩ := h
    replace ev : vs = [sv a, sv b] := ev
    subst ev
    have ha : Vec a := hd.1
    have hb : Vec b := hd.2
    refine ⟨_, (pss_cons (ps_asg (pe_fn C_both_extended (hr.mono (by decide)) (by rfl) (pa_cons (pv 0) (pa_cons (pv 1) pa_nil))) (pg_tup rfl (pgs_cons (pg_name (i := 2) sc_bit_and.nd rfl (.inl rfl)) (pgs_cons (pg_name (i := 3) sc_bit_and.nd rfl (.inl rfl)) pgs_nil))))
      (pss_one (ps_ret (pe_bm PySem.F.plainAttrs_str PySem.F.slot_str_join PySem.F.type_str_join mt_join pe_str (pa_cons (pe_lc (own := [("a", 4), ("b", 5)]) (by rfl) sc_bit_and.nd (pi_zips (by rfl) T.zip (pa_cons (pv 2) (pa_cons (pv 3) pa_nil))) (blkOk_by (own := [("a", 4), ("b", 5)]) (N := ["one", "two", "left", "right", "a", "b"]) (sc := defScope s_bit_and) (by decide +kernel)) (fun _ _ _ _ _ => show PG _ _ (gTup K 2 _) from pg_tup rfl (pgs_cons (pg_name (i := 4) sc_bit_and.nd rfl (Or.inl rfl)) (pgs_cons (pg_name (i := 5) sc_bit_and.nd rfl (Or.inl rfl)) pgs_nil))) (fun _ _ _ _ _ => pts_nil) (fun _ _ _ _ _ => (pe_ix (show IxR _ (rIxD K w) from ix_kdict) (pe_glob (v := .ref _) (by rfl) T.g_AND_BITS rfl) (pe_op op_add_str (pv 4) (pv 5)) (fun _ _ => rfl)))) pa_nil))))), ?_⟩
    refine st_pair (x := sv (exL a b)) (y := sv (exR a b)) ?_ (Ex.refl g) ?_
    · exact en_call (a, b) (ea_cons (ev_var rfl) (ea_cons (ev_var rfl) ea_nil)) fun _ _ => ⟨Nat.le_trans ha.le (by decide), Nat.le_trans hb.le (by decide)⟩
    intro H1 e1
    dsimp only
    have hw : wid a b ≤ 100000 := Nat.le_trans (wid_le ha.le hb.le) (by decide)
    refine st_ret (ev_is (v := sv (((exL a b).zip (exR a b)).map fun p => [andB p.1 p.2]).flatten) ?_ (congrArg sv (flat_one (fun p : Nat × Nat => andB p.1 p.2) _))) e1 q
    refine ev_join (ev_s lt_e) (ev_strs (K := K) (fun p : Nat × Nat => andB p.1 p.2) _ ?_) ?_ (fun _ => rfl)
    · refine en_lcZ (f := fun c d => sv [andB c d]) (by decide) (ex_eq a b) (by rw [exL_len]; exact hw) (ev_var rfl) (ev_var rfl) fun c d hc hd => ?_
      exact ev_op ev_c (ev_op (ev_var rfl) (ev_var rfl) (rv_addS (a := [c]) (b := [d]) (by show 2 ≤ 100000; decide))) (rv_kd (T.tA c d (ext_all ha.all c hc) (ext_all hb.all d hd)))
    · rw [flat_one]
      show (map2 andB a b).length ≤ 100000
      rw [map2_len]
      exact hw

abbrev sp_bit_or (K : PySem.W.Frag) (Ts : List Addr) : Sp := FnV Ts (fun x : List Nat × List Nat => [sv x.1, sv x.2]) (fun x => Vec x.1 ∧ Vec x.2) fun x => sv (map2 orB x.1 x.2)

theorem ok_bit_or {f : Addr} {fd : FuncData} (F : Fun K "bit_or" "bit_or" s_bit_or f fd) (T : Txt mg K w pA pO pX pN) (C_both_extended : Callee P w K mg base "_both_extended" 2 ["one", "two"] (sp_both_extended K Ts)) :
    FnOk P w K mg base CX0 3 f fd ["one", "two"] (sp_bit_or K Ts) := by
  refine F.ok sc_bit_or (fun vs H Q E h => ?_) (fun cdv A outer s H vs Q E hr h => ?_)
  · obtain ⟨x, rfl, _⟩ := h
    rfl
  · obtain ⟨⟨a, b⟩, ev, hd, g, q⟩ := h
    replace ev : vs = [sv a, sv b] := ev
    subst ev
    have ha : Vec a := hd.1
    have hb : Vec b := hd.2
    refine ⟨_, (pss_cons (ps_asg (pe_fn C_both_extended (hr.mono (by decide)) (by rfl) (pa_cons (pv 0) (pa_cons (pv 1) pa_nil))) (pg_tup rfl (pgs_cons (pg_name (i := 2) sc_bit_or.nd rfl (.inl rfl)) (pgs_cons (pg_name (i := 3) sc_bit_or.nd rfl (.inl rfl)) pgs_nil))))
      (pss_one (ps_ret (pe_bm PySem.F.plainAttrs_str PySem.F.slot_str_join PySem.F.type_str_join mt_join pe_str (pa_cons (pe_lc (own := [("a", 4), ("b", 5)]) (by rfl) sc_bit_or.nd (pi_zips (by rfl) T.zip (pa_cons (pv 2) (pa_cons (pv 3) pa_nil))) (blkOk_by (own := [("a", 4), ("b", 5)]) (N := ["one", "two", "left", "right", "a", "b"]) (sc := defScope s_bit_or) (by decide +kernel)) (fun _ _ _ _ _ => show PG _ _ (gTup K 2 _) from pg_tup rfl (pgs_cons (pg_name (i := 4) sc_bit_or.nd rfl (Or.inl rfl)) (pgs_cons (pg_name (i := 5) sc_bit_or.nd rfl (Or.inl rfl)) pgs_nil))) (fun _ _ _ _ _ => pts_nil) (fun _ _ _ _ _ => (pe_ix (show IxR _ (rIxD K w) from ix_kdict) (pe_glob (v := .ref _) (by rfl) T.g_OR_BITS rfl) (pe_op op_add_str (pv 4) (pv 5)) (fun _ _ => rfl)))) pa_nil))))), ?_⟩
    refine st_pair (x := sv (exL a b)) (y := sv (exR a b)) ?_ (Ex.refl g) ?_
    · exact en_call (a, b) (ea_cons (ev_var rfl) (ea_cons (ev_var rfl) ea_nil)) fun _ _ => ⟨Nat.le_trans ha.le (by decide), Nat.le_trans hb.le (by decide)⟩
    intro H1 e1
    dsimp only
    have hw : wid a b ≤ 100000 := Nat.le_trans (wid_le ha.le hb.le) (by decide)
    refine st_ret (ev_is (v := sv (((exL a b).zip (exR a b)).map fun p => [orB p.1 p.2]).flatten) ?_ (congrArg sv (flat_one (fun p : Nat × Nat => orB p.1 p.2) _))) e1 q
    refine ev_join (ev_s lt_e) (ev_strs (K := K) (fun p : Nat × Nat => orB p.1 p.2) _ ?_) ?_ (fun _ => rfl)
    · refine en_lcZ (f := fun c d => sv [orB c d]) (by decide) (ex_eq a b) (by rw [exL_len]; exact hw) (ev_var rfl) (ev_var rfl) fun c d hc hd => ?_
      exact ev_op ev_c (ev_op (ev_var rfl) (ev_var rfl) (rv_addS (a := [c]) (b := [d]) (by show 2 ≤ 100000; decide))) (rv_kd (T.tO c d (ext_all ha.all c hc) (ext_all hb.all d hd)))
    · rw [flat_one]
      show (map2 orB a b).length ≤ 100000
      rw [map2_len]
      exact hw

abbrev sp_bit_xor (K : PySem.W.Frag) (Ts : List Addr) : Sp := FnV Ts (fun x : List Nat × List Nat => [sv x.1, sv x.2]) (fun x => Vec x.1 ∧ Vec x.2) fun x => sv (map2 xorB x.1 x.2)

theorem ok_bit_xor {f : Addr} {fd : FuncData} (F : Fun K "bit_xor" "bit_xor" s_bit_xor f fd) (T : Txt mg K w pA pO pX pN) (C_both_extended : Callee P w K mg base "_both_extended" 2 ["one", "two"] (sp_both_extended K Ts)) :
    FnOk P w K mg base CX0 3 f fd ["one", "two"] (sp_bit_xor K Ts) := by
  refine F.ok sc_bit_xor (fun vs H Q E h => ?_) (fun cdv A outer s H vs Q E hr h => ?_)
  · obtain ⟨x, rfl, _⟩ := h
    rfl
  · obtain ⟨⟨a, b⟩, ev, hd, g, q⟩ := h
    replace ev : vs = [sv a, sv b] := ev
    subst ev
    have ha : Vec a := hd.1
    have hb : Vec b := hd.2
    refine ⟨_, (pss_cons (ps_asg (pe_fn C_both_extended (hr.mono (by decide)) (by rfl) (pa_cons (pv 0) (pa_cons (pv 1) pa_nil))) (pg_tup rfl (pgs_cons (pg_name (i := 2) sc_bit_xor.nd rfl (.inl rfl)) (pgs_cons (pg_name (i := 3) sc_bit_xor.nd rfl (.inl rfl)) pgs_nil))))
      (pss_one (ps_ret (pe_bm PySem.F.plainAttrs_str PySem.F.slot_str_join PySem.F.type_str_join mt_join pe_str (pa_cons (pe_lc (own := [("a", 4), ("b", 5)]) (by rfl) sc_bit_xor.nd (pi_zips (by rfl) T.zip (pa_cons (pv 2) (pa_cons (pv 3) pa_nil))) (blkOk_by (own := [("a", 4), ("b", 5)]) (N := ["one", "two", "left", "right", "a", "b"]) (sc := defScope s_bit_xor) (by decide +kernel)) (fun _ _ _ _ _ => show PG _ _ (gTup K 2 _) from pg_tup rfl (pgs_cons (pg_name (i := 4) sc_bit_xor.nd rfl (Or.inl rfl)) (pgs_cons (pg_name (i := 5) sc_bit_xor.nd rfl (Or.inl rfl)) pgs_nil))) (fun _ _ _ _ _ => pts_nil) (fun _ _ _ _ _ => (pe_ix (show IxR _ (rIxD K w) from ix_kdict) (pe_glob (v := .ref _) (by rfl) T.g_XOR_BITS rfl) (pe_op op_add_str (pv 4) (pv 5)) (fun _ _ => rfl)))) pa_nil))))), ?_⟩
    refine st_pair (x := sv (exL a b)) (y := sv (exR a b)) ?_ (Ex.refl g) ?_
    · exact en_call (a, b) (ea_cons (ev_var rfl) (ea_cons (ev_var rfl) ea_nil)) fun _ _ => ⟨Nat.le_trans ha.le (by decide), Nat.le_trans hb.le (by decide)⟩
    intro H1 e1
    dsimp only
    have hw : wid a b ≤ 100000 := Nat.le_trans (wid_le ha.le hb.le) (by decide)
    refine st_ret (ev_is (v := sv (((exL a b).zip (exR a b)).map fun p => [xorB p.1 p.2]).flatten) ?_ (congrArg sv (flat_one (fun p : Nat × Nat => xorB p.1 p.2) _))) e1 q
    refine ev_join (ev_s lt_e) (ev_strs (K := K) (fun p : Nat × Nat => xorB p.1 p.2) _ ?_) ?_ (fun _ => rfl)
    · refine en_lcZ (f := fun c d => sv [xorB c d]) (by decide) (ex_eq a b) (by rw [exL_len]; exact hw) (ev_var rfl) (ev_var rfl) fun c d hc hd => ?_
      exact ev_op ev_c (ev_op (ev_var rfl) (ev_var rfl) (rv_addS (a := [c]) (b := [d]) (by show 2 ≤ 100000; decide))) (rv_kd (T.tX c d (ext_all ha.all c hc) (ext_all hb.all d hd)))
    · rw [flat_one]
      show (map2 xorB a b).length ≤ 100000
      rw [map2_len]
      exact hw

abbrev sp_reduce_and (K : PySem.W.Frag) (Ts : List Addr) : Sp := FnV Ts (fun a : List Nat => [sv a]) Vec fun a => sv [a.foldl andB 49]

theorem ok_reduce_and {f : Addr} {fd : FuncData} (F : Fun K "reduce_and" "reduce_and" s_reduce_and f fd) (T : Txt mg K w pA pO pX pN)  :
    FnOk P w K mg base CX0 1 f fd ["vector"] (sp_reduce_and K Ts) := by
  refine F.ok sc_reduce_and (fun vs H Q E h => ?_) (fun cdv A outer s H vs Q E hr h => ?_)
  · obtain ⟨x, rfl, _⟩ := h
    rfl
  · obtain ⟨a, ev, hd, g, q⟩ := h
    replace ev : vs = [sv a] := ev
    subst ev
    refine ⟨_, (pss_cons (ps_set (i := 1) sc_reduce_and.nd rfl (.inl rfl) pe_str)
      (pss_cons (ps_for PassesOwn.never rfl (pi_str (pv 0)) (pg_name (i := 2) sc_reduce_and.nd rfl (.inl rfl))
      (pss_one (ps_set (i := 1) sc_reduce_and.nd rfl (.inl rfl) (pe_ix (show IxR _ (rIxD K w) from ix_kdict) (pe_glob (v := .ref _) (by rfl) T.g_AND_BITS rfl) (pe_op op_add_str (pv 1) (pv 2)) (fun _ _ => rfl)))))
      (pss_one (ps_ret (pv 1))))), ?_⟩
    refine st_set (v := sv [49]) (ev_s lt_1) (Ex.refl g) ?_
    intro H1 e1
    dsimp only
    refine st_forS (a := a) (ev_var rfl) e1 (fun i σ => ∃ z, σ = [some (sv a), some (sv [(a.take i).foldl andB 49]), z]) ⟨_, rfl⟩ ?_ ?_
    · rintro i c σ H2 N B hc ⟨z, rfl⟩ e2 hN
      have hb : IsB c := hd.all c (List.mem_of_getElem? hc)
      refine st_set (v := sv [(a.take (i + 1)).foldl andB 49]) ?_ e2 ?_
      · rw [fold_snoc hc]
        exact ev_op ev_c (ev_op (ev_var rfl) (ev_var rfl) (rv_addS (a := [_]) (b := [c]) (by show 2 ≤ 100000; decide))) (rv_kd (T.tA _ c (take_isB (fun _ _ => isB_and) (by decide) hd.all i) hb))
      · exact fun H3 e3 => hN _ H3 e3 ⟨_, rfl⟩
    · rintro σ H2 e2 ⟨z, rfl⟩
      rw [List.take_length]
      exact st_ret (ev_var rfl) e2 q

abbrev sp_reduce_or (K : PySem.W.Frag) (Ts : List Addr) : Sp := FnV Ts (fun a : List Nat => [sv a]) Vec fun a => sv [a.foldl orB 48]

theorem ok_reduce_or {f : Addr} {fd : FuncData} (F : Fun K "reduce_or" "reduce_or" s_reduce_or f fd) (T : Txt mg K w pA pO pX pN)  :
    FnOk P w K mg base CX0 1 f fd ["vector"] (sp_reduce_or K Ts) := by
  refine F.ok sc_reduce_or (fun vs H Q E h => ?_) (fun cdv A outer s H vs Q E hr h => ?_)
  · obtain ⟨x, rfl, _⟩ := h
    rfl
  · obtain ⟨a, ev, hd, g, q⟩ := h
    replace ev : vs = [sv a] := ev
    subst ev
    refine ⟨_, (pss_cons (ps_set (i := 1) sc_reduce_or.nd rfl (.inl rfl) pe_str)
      (pss_cons (ps_for PassesOwn.never rfl (pi_str (pv 0)) (pg_name (i := 2) sc_reduce_or.nd rfl (.inl rfl))
      (pss_one (ps_set (i := 1) sc_reduce_or.nd rfl (.inl rfl) (pe_ix (show IxR _ (rIxD K w) from ix_kdict) (pe_glob (v := .ref _) (by rfl) T.g_OR_BITS rfl) (pe_op op_add_str (pv 1) (pv 2)) (fun _ _ => rfl)))))
      (pss_one (ps_ret (pv 1))))), ?_⟩
    refine st_set (v := sv [48]) (ev_s lt_0) (Ex.refl g) ?_
    intro H1 e1
    dsimp only
    refine st_forS (a := a) (ev_var rfl) e1 (fun i σ => ∃ z, σ = [some (sv a), some (sv [(a.take i).foldl orB 48]), z]) ⟨_, rfl⟩ ?_ ?_
    · rintro i c σ H2 N B hc ⟨z, rfl⟩ e2 hN
      have hb : IsB c := hd.all c (List.mem_of_getElem? hc)
      refine st_set (v := sv [(a.take (i + 1)).foldl orB 48]) ?_ e2 ?_
      · rw [fold_snoc hc]
        exact ev_op ev_c (ev_op (ev_var rfl) (ev_var rfl) (rv_addS (a := [_]) (b := [c]) (by show 2 ≤ 100000; decide))) (rv_kd (T.tO _ c (take_isB (fun _ _ => isB_or) (by decide) hd.all i) hb))
      · exact fun H3 e3 => hN _ H3 e3 ⟨_, rfl⟩
    · rintro σ H2 e2 ⟨z, rfl⟩
      rw [List.take_length]
      exact st_ret (ev_var rfl) e2 q

abbrev sp_reduce_xor (K : PySem.W.Frag) (Ts : List Addr) : Sp := FnV Ts (fun a : List Nat => [sv a]) Vec fun a => sv [a.foldl xorB 48]

theorem ok_reduce_xor {f : Addr} {fd : FuncData} (F : Fun K "reduce_xor" "reduce_xor" s_reduce_xor f fd) (T : Txt mg K w pA pO pX pN)  :
    FnOk P w K mg base CX0 1 f fd ["vector"] (sp_reduce_xor K Ts) := by
  refine F.ok sc_reduce_xor (fun vs H Q E h => ?_) (fun cdv A outer s H vs Q E hr h => ?_)
  · obtain ⟨x, rfl, _⟩ := h
    rfl
  · obtain ⟨a, ev, hd, g, q⟩ := h
    replace ev : vs = [sv a] := ev
    subst ev
    refine ⟨_, (pss_cons (ps_set (i := 1) sc_reduce_xor.nd rfl (.inl rfl) pe_str)
      (pss_cons (ps_for PassesOwn.never rfl (pi_str (pv 0)) (pg_name (i := 2) sc_reduce_xor.nd rfl (.inl rfl))
      (pss_one (ps_set (i := 1) sc_reduce_xor.nd rfl (.inl rfl) (pe_ix (show IxR _ (rIxD K w) from ix_kdict) (pe_glob (v := .ref _) (by rfl) T.g_XOR_BITS rfl) (pe_op op_add_str (pv 1) (pv 2)) (fun _ _ => rfl)))))
      (pss_one (ps_ret (pv 1))))), ?_⟩
    refine st_set (v := sv [48]) (ev_s lt_0) (Ex.refl g) ?_
    intro H1 e1
    dsimp only
    refine st_forS (a := a) (ev_var rfl) e1 (fun i σ => ∃ z, σ = [some (sv a), some (sv [(a.take i).foldl xorB 48]), z]) ⟨_, rfl⟩ ?_ ?_
    · rintro i c σ H2 N B hc ⟨z, rfl⟩ e2 hN
      have hb : IsB c := hd.all c (List.mem_of_getElem? hc)
      refine st_set (v := sv [(a.take (i + 1)).foldl xorB 48]) ?_ e2 ?_
      · rw [fold_snoc hc]
        exact ev_op ev_c (ev_op (ev_var rfl) (ev_var rfl) (rv_addS (a := [_]) (b := [c]) (by show 2 ≤ 100000; decide))) (rv_kd (T.tX _ c (take_isB (fun _ _ => isB_xor) (by decide) hd.all i) hb))
      · exact fun H3 e3 => hN _ H3 e3 ⟨_, rfl⟩
    · rintro σ H2 e2 ⟨z, rfl⟩
      rw [List.take_length]
      exact st_ret (ev_var rfl) e2 q

abbrev sp_truth (K : PySem.W.Frag) (Ts : List Addr) : Sp := FnV Ts (fun a : List Nat => [sv a]) Vec fun a => sv [a.foldl orB 48]

theorem ok_truth {f : Addr} {fd : FuncData} (F : Fun K "truth" "truth" s_truth f fd) (T : Txt mg K w pA pO pX pN) (C_reduce_or : Callee P w K mg base "reduce_or" 1 ["vector"] (sp_reduce_or K Ts)) :
    FnOk P w K mg base CX0 2 f fd ["vector"] (sp_truth K Ts) := by
  refine F.ok sc_truth (fun vs H Q E h => ?_) (fun cdv A outer s H vs Q E hr h => ?_)
  · obtain ⟨x, rfl, _⟩ := h
    rfl
  · obtain ⟨a, ev, hd, g, q⟩ := h
    replace ev : vs = [sv a] := ev
    subst ev
    refine ⟨_, (pss_one (ps_ret (pe_fn C_reduce_or (hr.mono (by decide)) (by rfl) (pa_cons (pv 0) pa_nil)))), ?_⟩
    refine st_ret ?_ (Ex.refl g) q
    exact ev_call a (ea_cons (ev_var rfl) ea_nil) hd

abbrev sp_logic_not (K : PySem.W.Frag) (Ts : List Addr) : Sp := FnV Ts (fun a : List Nat => [sv a]) Vec fun a => sv [notB (a.foldl orB 48)]

theorem ok_logic_not {f : Addr} {fd : FuncData} (F : Fun K "logic_not" "logic_not" s_logic_not f fd) (T : Txt mg K w pA pO pX pN) (C_bit_not : Callee P w K mg base "bit_not" 1 ["vector"] (sp_bit_not K Ts)) (C_truth : Callee P w K mg base "truth" 2 ["vector"] (sp_truth K Ts)) :
    FnOk P w K mg base CX0 3 f fd ["vector"] (sp_logic_not K Ts) := by
  refine F.ok sc_logic_not (fun vs H Q E h => ?_) (fun cdv A outer s H vs Q E hr h => ?_)
  · obtain ⟨x, rfl, _⟩ := h
    rfl
  · obtain ⟨a, ev, hd, g, q⟩ := h
    replace ev : vs = [sv a] := ev
    subst ev
    refine ⟨_, (pss_one (ps_ret (pe_fn C_bit_not (hr.mono (by decide)) (by rfl) (pa_cons (pe_fn C_truth (hr.mono (by decide)) (by rfl) (pa_cons (pv 0) pa_nil)) pa_nil)))), ?_⟩
    refine st_ret ?_ (Ex.refl g) q
    exact ev_call [a.foldl orB 48] (ea_cons (ev_call a (ea_cons (ev_var rfl) ea_nil) hd) ea_nil) (vec_one (fold_isB (fun _ _ => isB_or) (by decide) hd.all))

abbrev sp_logic_and (K : PySem.W.Frag) (Ts : List Addr) : Sp := FnV Ts (fun x : List Nat × List Nat => [sv x.1, sv x.2]) (fun x => Vec x.1 ∧ Vec x.2) fun x => sv [andB (x.1.foldl orB 48) (x.2.foldl orB 48)]

theorem ok_logic_and {f : Addr} {fd : FuncData} (F : Fun K "logic_and" "logic_and" s_logic_and f fd) (T : Txt mg K w pA pO pX pN) (C_bit_and : Callee P w K mg base "bit_and" 3 ["one", "two"] (sp_bit_and K Ts)) (C_truth : Callee P w K mg base "truth" 2 ["vector"] (sp_truth K Ts)) :
    FnOk P w K mg base CX0 4 f fd ["one", "two"] (sp_logic_and K Ts) := by
  refine F.ok sc_logic_and (fun vs H Q E h => ?_) (fun cdv A outer s H vs Q E hr h => ?_)
  · obtain ⟨x, rfl, _⟩ := h
    rfl
  · obtain ⟨⟨a, b⟩, ev, hd, g, q⟩ := h
    replace ev : vs = [sv a, sv b] := ev
    subst ev
    refine ⟨_, (pss_one (ps_ret (pe_fn C_bit_and (hr.mono (by decide)) (by rfl) (pa_cons (pe_fn C_truth (hr.mono (by decide)) (by rfl) (pa_cons (pv 0) pa_nil)) (pa_cons (pe_fn C_truth (hr.mono (by decide)) (by rfl) (pa_cons (pv 1) pa_nil)) pa_nil))))), ?_⟩
    refine st_ret ?_ (Ex.refl g) q
    exact ev_call ([a.foldl orB 48], [b.foldl orB 48]) (ea_cons (ev_call a (ea_cons (ev_var rfl) ea_nil) hd.1) (ea_cons (ev_call b (ea_cons (ev_var rfl) ea_nil) hd.2) ea_nil)) ⟨vec_one (fold_isB (fun _ _ => isB_or) (by decide) hd.1.all), vec_one (fold_isB (fun _ _ => isB_or) (by decide) hd.2.all)⟩

abbrev sp_logic_or (K : PySem.W.Frag) (Ts : List Addr) : Sp := FnV Ts (fun x : List Nat × List Nat => [sv x.1, sv x.2]) (fun x => Vec x.1 ∧ Vec x.2) fun x => sv [orB (x.1.foldl orB 48) (x.2.foldl orB 48)]

theorem ok_logic_or {f : Addr} {fd : FuncData} (F : Fun K "logic_or" "logic_or" s_logic_or f fd) (T : Txt mg K w pA pO pX pN) (C_bit_or : Callee P w K mg base "bit_or" 3 ["one", "two"] (sp_bit_or K Ts)) (C_truth : Callee P w K mg base "truth" 2 ["vector"] (sp_truth K Ts)) :
    FnOk P w K mg base CX0 4 f fd ["one", "two"] (sp_logic_or K Ts) := by
  refine F.ok sc_logic_or (fun vs H Q E h => ?_) (fun cdv A outer s H vs Q E hr h => ?_)
  · obtain ⟨x, rfl, _⟩ := h
    rfl
  · obtain ⟨⟨a, b⟩, ev, hd, g, q⟩ := h
    replace ev : vs = [sv a, sv b] := ev
    subst ev
    refine ⟨_, (pss_one (ps_ret (pe_fn C_bit_or (hr.mono (by decide)) (by rfl) (pa_cons (pe_fn C_truth (hr.mono (by decide)) (by rfl) (pa_cons (pv 0) pa_nil)) (pa_cons (pe_fn C_truth (hr.mono (by decide)) (by rfl) (pa_cons (pv 1) pa_nil)) pa_nil))))), ?_⟩
    refine st_ret ?_ (Ex.refl g) q
    exact ev_call ([a.foldl orB 48], [b.foldl orB 48]) (ea_cons (ev_call a (ea_cons (ev_var rfl) ea_nil) hd.1) (ea_cons (ev_call b (ea_cons (ev_var rfl) ea_nil) hd.2) ea_nil)) ⟨vec_one (fold_isB (fun _ _ => isB_or) (by decide) hd.1.all), vec_one (fold_isB (fun _ _ => isB_or) (by decide) hd.2.all)⟩

abbrev sp_consists_of (K : PySem.W.Frag) (Ts : List Addr) : Sp := FnV Ts (fun x : List Nat × List Nat => [sv x.1, sv x.2]) (fun _ => True) fun x => .bl (x.1.all fun c => decide (c ∈ x.2))

def genSc : Stmt → Scope
  | .FunctionDef _ _ [.Return (some (.Call _ [.GeneratorExp _ _ sc _] _ _)) _] _ _ _ _ _ _ _ => sc
  | _ => { kind := .function, names := [], isGenerator := false, isCoroutine := false }
theorem free_consists_of : ∀ y ∈ (genSc s_consists_of).names, y.2 = .free → y.1 = ("characters" : Str) := by decide +kernel
theorem ok_consists_of {f c Pt : Addr} {oc : Value} {od an : Option Addr} {osl : Array (Option Value)} {kV doc pm ct : Value}
    (lk : K.lookup f = some ⟨oc, od, .func (PySem.W.fnOf "_consists_of" "_consists_of" (defArgs s_consists_of) (defBody s_consists_of) (defScope s_consists_of) .none kV doc pm an (.ref c) ct), osl⟩) (hcd : PySem.W.codeIn K (.ref c) "_consists_of" = true)
    (TB : TabB base mg c Pt) (hP : Pt ∈ Ts) (T : Txt mg K w pA pO pX pN) :
    FnOk P w K mg base CX0 1 f (PySem.W.fnOf "_consists_of" "_consists_of" (defArgs s_consists_of) (defBody s_consists_of) (defScope s_consists_of) .none kV doc pm an (.ref c) ct) ["text", "characters"] (sp_consists_of K Ts) := by
  refine fn_of (k := 0) lk hcd sc_consists_of (fun vs H Q E h => ?_) (fun A outer s H vs Q E hr h => ?_)
  · obtain ⟨x, rfl, _⟩ := h
    rfl
  · obtain ⟨⟨a, b⟩, ev, hd, g, q⟩ := h
    replace ev : vs = [sv a, sv b] := ev
    subst ev
    have hcode : (cxOf CX0 P w K mg base ["text", "characters"] "_consists_of" (defScope s_consists_of) f (.ref c) A outer s H E).nox.env.code = .ref c := rfl
    refine ⟨_, PSs.nox (pss_one (ps_ret (pe_allIn (j := 1) hr (by rfl) T.all (by decide +kernel) TB hcode (GenS.mk rfl rfl (by decide +kernel) rfl rfl (fun y hy e => ⟨_, by rw [free_consists_of y hy e]; rfl⟩)) (pv 0) rfl rfl (by decide +kernel) (by decide +kernel) (hs := fun _ => rfl)))), ?_⟩
    refine st_ret ?_ (Ex.refl g) q
    exact ev_allIn (b := b) hP rfl (ev_var rfl)


abbrev sp_is_known (K : PySem.W.Frag) (Ts : List Addr) : Sp := FnV Ts (fun a : List Nat => [sv a]) (fun _ => True) fun a => .bl (a.all fun c => decide (c ∈ [48, 49]))

theorem ok_is_known {f : Addr} {fd : FuncData} (F : Fun K "is_known" "is_known" s_is_known f fd) (T : Txt mg K w pA pO pX pN) (C_consists_of : Callee P w K mg base "_consists_of" 1 ["text", "characters"] (sp_consists_of K Ts)) :
    FnOk P w K mg base CX0 2 f fd ["vector"] (sp_is_known K Ts) := by
  refine F.ok sc_is_known (fun vs H Q E h => ?_) (fun cdv A outer s H vs Q E hr h => ?_)
  · obtain ⟨x, rfl, _⟩ := h
    rfl
  · obtain ⟨a, ev, hd, g, q⟩ := h
    replace ev : vs = [sv a] := ev
    subst ev
    refine ⟨_, (pss_one (ps_ret (pe_fn C_consists_of (hr.mono (by decide)) (by rfl) (pa_cons (pv 0) (pa_cons pe_str pa_nil))))), ?_⟩
    refine st_ret ?_ (Ex.refl g) q
    exact ev_call (a, [48, 49]) (ea_cons (ev_var rfl) (ea_cons (ev_s lt_01) ea_nil)) trivial

abbrev sp_agreed_bit (K : PySem.W.Frag) (Ts : List Addr) : Sp := FnV Ts (fun x : Nat × Nat => [sv [x.1], sv [x.2]]) (fun _ => True) fun x => sv [agB x.1 x.2]

theorem ok_agreed_bit {f : Addr} {fd : FuncData} (F : Fun K "_agreed_bit" "_agreed_bit" s_agreed_bit f fd) (T : Txt mg K w pA pO pX pN)  :
    FnOk P w K mg base CX0 1 f fd ["a", "b"] (sp_agreed_bit K Ts) := by
  refine F.ok sc_agreed_bit (fun vs H Q E h => ?_) (fun cdv A outer s H vs Q E hr h => ?_)
  · obtain ⟨x, rfl, _⟩ := h
    rfl
  · obtain ⟨⟨a, b⟩, ev, hd, g, q⟩ := h
    replace ev : vs = [sv [a], sv [b]] := ev
    subst ev
    refine ⟨_, (pss_one (ps_ret (pe_ifExp (PW.pt (pw_and (pt_cmpR op_eq (pv 0) (pv 1) (nomark _)) (pw_and1 (pt_cmpR op_in_sign (pv 0) pe_str rfl)))) (pv 0) pe_str))), ?_⟩
    refine st_ret ?_ (Ex.refl g) q
    refine ev_if (b := decide (sv [a] = sv [b]) && decide (a ∈ [48, 49])) (et_and (et_test (ev_op (ev_var rfl) (ev_var rfl) (rv_eq rfl))) fun _ => et_test (ev_op (ev_var rfl) (ev_s lt_01) rv_inS)) (fun h => ?_) (fun h => ?_)
    · refine ev_is (ev_var rfl) (congrArg (fun c => sv [c]) ?_)
      rw [Bool.and_eq_true, decide_eq_true_eq, decide_eq_true_eq, sv_inj] at h
      have h1 : a = b := (List.cons.inj h.1).1
      have h2 : a = 48 ∨ a = 49 := by simpa using h.2
      exact (if_pos ⟨h1, h2⟩).symm
    · refine ev_is (ev_s lt_x) (congrArg (fun c => sv [c]) ?_)
      refine (if_neg fun z => ?_).symm
      replace z : a = b ∧ (a = 48 ∨ a = 49) := z
      obtain ⟨z1, z2⟩ := z
      subst z1
      rw [decide_eq_true rfl, Bool.true_and, decide_eq_false_iff_not] at h
      exact h (by simpa using z2)

/-- the choice by the truth -/
def chB (t : Nat) (a b : List Nat) : List Nat := if t = 49 then exL a b else if t = 48 then exR a b else map2 agB a b

abbrev sp_choose (K : PySem.W.Frag) (Ts : List Addr) : Sp := FnV Ts (fun x : List Nat × List Nat × List Nat => [sv x.1, sv x.2.1, sv x.2.2]) (fun x => Vec x.1 ∧ Vec x.2.1 ∧ Vec x.2.2) fun x => sv (chB (x.1.foldl orB 48) x.2.1 x.2.2)

theorem ok_choose {f : Addr} {fd : FuncData} (F : Fun K "choose" "choose" s_choose f fd) (T : Txt mg K w pA pO pX pN) (C_both_extended : Callee P w K mg base "_both_extended" 2 ["one", "two"] (sp_both_extended K Ts)) (C_truth : Callee P w K mg base "truth" 2 ["vector"] (sp_truth K Ts)) (C_agreed_bit : Callee P w K mg base "_agreed_bit" 1 ["a", "b"] (sp_agreed_bit K Ts)) :
    FnOk P w K mg base CX0 3 f fd ["condition", "one", "two"] (sp_choose K Ts) := by
  refine F.ok sc_choose (fun vs H Q E h => ?_) (fun cdv A outer s H vs Q E hr h => ?_)
  · obtain ⟨x, rfl, _⟩ := h
    rfl
  · obtain ⟨⟨c, a, b⟩, ev, hd, g, q⟩ := h
    replace ev : vs = [sv c, sv a, sv b] := ev
    subst ev
    have hc : Vec c := hd.1
    have ha : Vec a := hd.2.1
    have hb : Vec b := hd.2.2
    have hw : wid a b ≤ 100000 := Nat.le_trans (wid_le ha.le hb.le) (by decide)
    refine ⟨_, (pss_cons (ps_asg (pe_fn C_both_extended (hr.mono (by decide)) (by rfl) (pa_cons (pv 1) (pa_cons (pv 2) pa_nil))) (pg_tup rfl (pgs_cons (pg_name (i := 3) sc_choose.nd rfl (.inl rfl)) (pgs_cons (pg_name (i := 4) sc_choose.nd rfl (.inl rfl)) pgs_nil))))
      (pss_cons (ps_set (i := 5) sc_choose.nd rfl (.inl rfl) (pe_fn C_truth (hr.mono (by decide)) (by rfl) (pa_cons (pv 0) pa_nil)))
      (pss_cons (ps_if (pt_cmpR op_eq (pv 5) pe_str (nomark _))
      (pss_one (ps_ret (pv 3))) pss_nil)
      (pss_cons (ps_if (pt_cmpR op_eq (pv 5) pe_str (nomark _))
      (pss_one (ps_ret (pv 4))) pss_nil)
      (pss_one (ps_ret (pe_bm PySem.F.plainAttrs_str PySem.F.slot_str_join PySem.F.type_str_join mt_join pe_str (pa_cons (pe_lc (own := [("a", 6), ("b", 7)]) (by rfl) sc_choose.nd (pi_zips (by rfl) T.zip (pa_cons (pv 3) (pa_cons (pv 4) pa_nil))) (blkOk_by (own := [("a", 6), ("b", 7)]) (N := ["condition", "one", "two", "left", "right", "decision", "a", "b"]) (sc := defScope s_choose) (by decide +kernel)) (fun _ _ _ _ _ => show PG _ _ (gTup K 2 _) from pg_tup rfl (pgs_cons (pg_name (i := 6) sc_choose.nd rfl (Or.inl rfl)) (pgs_cons (pg_name (i := 7) sc_choose.nd rfl (Or.inl rfl)) pgs_nil))) (fun _ _ _ _ _ => pts_nil) (fun _ _ _ _ _ => (pe_fn C_agreed_bit (hr.mono (by decide)) (by rfl) (pa_cons (pv 6) (pa_cons (pv 7) pa_nil))))) pa_nil)))))))), ?_⟩
    refine st_pair (x := sv (exL a b)) (y := sv (exR a b)) ?_ (Ex.refl g) ?_
    · exact en_call (a, b) (ea_cons (ev_var rfl) (ea_cons (ev_var rfl) ea_nil)) fun _ _ => ⟨Nat.le_trans ha.le (by decide), Nat.le_trans hb.le (by decide)⟩
    intro H1 e1
    dsimp only
    refine st_set (v := sv [c.foldl orB 48]) (ev_call c (ea_cons (ev_var rfl) ea_nil) hc) e1 ?_
    intro H2 e2
    dsimp only
    refine st_if (b := decide (c.foldl orB 48 = 49)) ?_ e2 ?_ ?_
    · rw [← sv_one]
      exact et_test (ev_op (ev_var rfl) (ev_s lt_1) (rv_eq rfl))
    · intro H3 e3 h
      refine st_ret (ev_is (ev_var rfl) (congrArg sv ?_)) e3 q
      exact (if_pos (of_decide_eq_true h)).symm
    intro H3 e3 h1
    dsimp only [tNext]
    refine st_if (b := decide (c.foldl orB 48 = 48)) ?_ e3 ?_ ?_
    · rw [← sv_one]
      exact et_test (ev_op (ev_var rfl) (ev_s lt_0) (rv_eq rfl))
    · intro H4 e4 h
      refine st_ret (ev_is (ev_var rfl) (congrArg sv ?_)) e4 q
      exact ((if_neg (of_decide_eq_false h1)).trans (if_pos (of_decide_eq_true h))).symm
    intro H4 e4 h2
    dsimp only [tNext]
    refine st_ret (v := sv (map2 agB a b)) ?_ e4 ?_
    · refine ev_is (v := sv (((exL a b).zip (exR a b)).map fun p => [agB p.1 p.2]).flatten) ?_ (congrArg sv (flat_one (fun p : Nat × Nat => agB p.1 p.2) _))
      refine ev_join (ev_s lt_e) (ev_strs (K := K) (fun p : Nat × Nat => agB p.1 p.2) _ ?_) ?_ (fun _ => rfl)
      · refine en_lcZ (f := fun c d => sv [agB c d]) (by decide) (ex_eq a b) (by rw [exL_len]; exact hw) (ev_var rfl) (ev_var rfl) fun c d _ _ => ?_
        exact ev_call (c, d) (ea_cons (ev_var rfl) (ea_cons (ev_var rfl) ea_nil)) trivial
      · rw [flat_one]
        show (map2 agB a b).length ≤ 100000
        rw [map2_len]
        exact hw
    · have e : chB (c.foldl orB 48) a b = map2 agB a b := (if_neg (of_decide_eq_false h1)).trans (if_neg (of_decide_eq_false h2))
      show ∀ H', Ex Ts H H' → Q (sv (map2 agB a b)) H'
      rw [← e]
      exact q

/-- the bit that an index tells -/
def pkB (a i : List Nat) : Nat := if (i.all fun c => decide (c ∈ [48, 49])) = true then (if a.length ≤ binNum i then 48 else a.getD (a.length - 1 - binNum i) 0) else 120

abbrev sp_pick (K : PySem.W.Frag) (Ts : List Addr) : Sp := FnV Ts (fun x : List Nat × List Nat => [sv x.1, sv x.2]) (fun x => Vec x.1 ∧ Vec x.2) fun x => sv [pkB x.1 x.2]

theorem ok_pick {f : Addr} {fd : FuncData} (F : Fun K "pick" "pick" s_pick f fd) (T : Txt mg K w pA pO pX pN) (C_is_known : Callee P w K mg base "is_known" 2 ["vector"] (sp_is_known K Ts)) :
    FnOk P w K mg base CX0 3 f fd ["vector", "index"] (sp_pick K Ts) := by
  refine F.ok sc_pick (fun vs H Q E h => ?_) (fun cdv A outer s H vs Q E hr h => ?_)
  · obtain ⟨x, rfl, _⟩ := h
    rfl
  · obtain ⟨⟨a, i⟩, ev, hd, g, q⟩ := h
    replace ev : vs = [sv a, sv i] := ev
    subst ev
    have ha : Vec a := hd.1
    have hi : Vec i := hd.2
    refine ⟨_, (pss_cons (ps_if (pt_not (pt_val (pe_fn C_is_known (hr.mono (by decide)) (by rfl) (pa_cons (pv 1) pa_nil))))
      (pss_one (ps_ret pe_str)) pss_nil)
      (pss_cons (ps_set (i := 2) sc_pick.nd rfl (.inl rfl) (pe_callTy call_int_bin (by rfl) T.int (by decide +kernel) (pa_cons (pv 1) (pa_cons pe_int pa_nil))))
      (pss_cons (ps_if (pt_cmpR op_ge (pv 2) (pe_callB call_len_str (by rfl) T.len PySem.boot_len (pa_cons (pv 0) pa_nil)) (nomark _))
      (pss_one (ps_ret pe_str)) pss_nil)
      (pss_one (ps_ret (pe_ix ix_str (pv 0) (pe_op op_sub (pe_op op_sub (pe_callB call_len_str (by rfl) T.len PySem.boot_len (pa_cons (pv 0) pa_nil)) pe_int) (pv 2)) (fun _ _ => rfl))))))), ?_⟩
    refine st_if (b := !(i.all fun c => decide (c ∈ [48, 49]))) ?_ (Ex.refl g) ?_ ?_
    · refine et_not (et_B ?_)
      exact ev_call i (ea_cons (ev_var rfl) ea_nil) trivial
    · intro H1 e1 h
      refine st_ret (ev_is (ev_s lt_x) (congrArg (fun c => sv [c]) ?_)) e1 q
      refine (if_neg ?_).symm
      rw [Bool.not_eq_true'] at h
      rw [h]
      exact Bool.false_ne_true
    intro H1 e1 h
    dsimp only [tNext]
    have h : (i.all fun c => decide (c ∈ [48, 49])) = true := by
      rw [← Bool.not_eq_false']
      exact h
    have hbin : ∀ c ∈ i, IsBin c := fun c hc => by
      have z := of_decide_eq_true (List.all_eq_true.mp h c hc)
      unfold IsBin
      simpa using z
    refine st_set (v := .int (binNum i : Nat)) ?_ e1 ?_
    · exact ev_cb (ea_cons (ev_var rfl) (ea_cons ev_c ea_nil)) (rc_bin (fun z => by have := hi.pos; rw [z] at this; exact absurd this (by decide)) (Nat.le_trans hi.le (by decide)) hbin)
    intro H2 e2
    dsimp only
    refine st_if (b := decide ((a.length : Int) ≤ ((binNum i : Nat) : Int))) ?_ e2 ?_ ?_
    · exact et_test (ev_op (ev_var rfl) (ev_cb (ea_cons (ev_var rfl) ea_nil) (rc_lenS (Nat.le_trans ha.le (by decide)))) rv_I0)
    · intro H3 e3 h3
      refine st_ret (ev_is (ev_s lt_0) (congrArg (fun c => sv [c]) ?_)) e3 q
      have h4 := of_decide_eq_true h3
      have h5 : a.length ≤ binNum i := by omega
      exact ((if_pos h).trans (if_pos h5)).symm
    intro H3 e3 h3
    dsimp only [tNext]
    have h4 := of_decide_eq_false h3
    refine st_ret (v := sv [a.getD (a.length - 1 - binNum i) 0]) ?_ e3 ?_
    · have hlt : binNum i < a.length := by omega
      refine ev_op (ev_var rfl) (ev_op (ev_op (ev_cb (ea_cons (ev_var rfl) ea_nil) (rc_lenS (Nat.le_trans ha.le (by decide)))) ev_c rv_I0) (ev_var rfl) rv_I0) (rv_ixS (Nat.le_trans ha.le (by decide)) ?_)
      have hp := ha.pos
      have e : (a.length : Int) - 1 - ((binNum i : Nat) : Int) = ((a.length - 1 - binNum i : Nat) : Int) := by omega
      rw [e]
      refine atI_nat ?_
      have hlt : a.length - 1 - binNum i < a.length := by omega
      rw [List.getElem?_eq_getElem hlt, List.getD_eq_getElem?_getD, List.getElem?_eq_getElem hlt]
      rfl
    · have e : pkB a i = a.getD (a.length - 1 - binNum i) 0 := (if_pos h).trans (if_neg (show ¬ a.length ≤ binNum i by omega))
      show ∀ H', Ex Ts H H' → Q (sv [a.getD (a.length - 1 - binNum i) 0]) H'
      rw [← e]
      exact q

end
end K44
set_option Elab.async false
set_option linter.all false
set_option maxRecDepth 100000
set_option maxHeartbeats 2000000
namespace K44
open PySem PySem.Spec PyProof.Rows L2 Cw
open GxR (TabG Tabbed TabB GenS)
local macro_rules | `(tactic| walk_at "ev") => `(tactic| first
  | exact ev_var rfl
  | exact ev_s lt_0 | exact ev_s lt_b | exact ev_s lt_1 | exact ev_s lt_01 | exact ev_s lt_e | exact ev_s lt_x | exact ev_s lt_01xxzz | exact ev_s lt_01xz | exact ev_s lt_10
  | exact ev_c
  | (apply ev_op <;> walk_at "ev")
  | exact rv_I0 | (refine rv_I ?_; first | omega | decide | assumption)
  | exact rv_eq rfl | exact rv_ne rfl | exact rv_inS | exact rv_niS
  | (refine rv_addS ?_; first | assumption | omega | decide)
  | (refine rv_mulS ?_ ?_ <;> first | assumption | omega | decide)
  | (apply ev_cb <;> walk_at "ev")
  | (refine rc_lenS ?_; first | assumption | omega | decide)
  | exact rc_max | exact rc_abs | exact rc_intI | exact rc_intB | exact rc_min
  | exact ea_nil
  | (apply ea_cons <;> walk_at "ev")
  | (apply et_and; walk_at "ev"; intro _; walk_at "ev")
  | (apply et_or; walk_at "ev"; intro _; walk_at "ev")
  | (apply et_not; walk_at "ev")
  | (apply et_test; walk_at "ev")
  | (apply et_B; walk_at "ev"))
section
variable {P : Program} {w : World} {K : PySem.W.Frag} {mg : Str → Option Value} {base : Heap} {pA pO pX pN : Addr} {Ts : List Addr}
abbrev sp_law_cell (K : PySem.W.Frag) (Ts : List Addr) : Sp := FnL Ts (fun x : Addr × List Int × Nat => [.ref x.1, .int (x.2.2 : Nat)]) (fun x H => SqL K H x.1 (x.2.1.map V.int)) fun x => .int (x.2.1.getD x.2.2 0)

theorem ok_law_cell {f : Addr} {fd : FuncData} (F : Fun K "_law_cell" "_law_cell" s_law_cell f fd) (T : Txt mg K w pA pO pX pN)  :
    FnOk P w K mg base CX0 1 f fd ["script", "k"] (sp_law_cell K Ts) := by
  refine F.ok sc_law_cell (fun vs H Q E h => ?_) (fun cdv A outer s H vs Q E hr h => ?_)
  · obtain ⟨x, rfl, _⟩ := h
    rfl
  · obtain ⟨⟨a, ns, k⟩, ev, hd, g, q⟩ := h
    replace ev : vs = [.ref a, .int (k : Nat)] := ev
    subst ev
    have hS : SqL K H a (ns.map V.int) := hd
    refine ⟨_, (pss_cons (ps_if (pt_cmpR op_lt (pv 1) (pe_callB call_len_seq (by rfl) T.len PySem.boot_len (pa_cons (pv 0) pa_nil)) (nomark _))
      (pss_one (ps_ret (pe_ix ix_list (pv 0) (pv 1) (fun _ _ => rfl)))) pss_nil)
      (pss_one (ps_ret pe_int))), ?_⟩
    refine st_if (b := decide ((k : Int) < (ns.map V.int).length)) ?_ (Ex.refl g) ?_ ?_
    · exact et_test (ev_op (ev_var rfl) (ev_cb (ea_cons (ev_var rfl) ea_nil) (rc_lenL g hS)) rv_I0)
    · intro H1 e1 h
      have h1 := of_decide_eq_true h
      rw [List.length_map] at h1
      have h2 : k < ns.length := by omega
      refine st_ret (ev_op (ev_var rfl) (ev_var rfl) (rv_ixL g hS (atI_nat ?_))) e1 q
      show (ns.map V.int)[k]? = some (.int (ns.getD k 0))
      rw [List.getElem?_map, List.getD_eq_getElem?_getD, List.getElem?_eq_getElem h2]
      rfl
    intro H1 e1 h
    dsimp only [tNext]
    have h1 := of_decide_eq_false h
    rw [List.length_map] at h1
    have h2 : ns.length ≤ k := by omega
    refine st_ret (ev_is ev_c (congrArg V.int ?_)) e1 q
    show (0 : Int) = ns.getD k 0
    rw [List.getD_eq_getElem?_getD, List.getElem?_eq_none h2]
    rfl

abbrev sp_law_numbers (K : PySem.W.Frag) (Ts : List Addr) : Sp := FnS Ts (fun x : Addr × List Int × Nat × Nat => [.ref x.1, .int (x.2.2.1 : Nat), .int (x.2.2.2 : Nat)]) (fun x H => SqL K H x.1 (x.2.1.map V.int) ∧ 2 ≤ x.2.2.1 ∧ x.2.2.1 ≤ 1000000 ∧ x.2.2.2 ≤ 1000) fun x v H => ∃ p ms, v = .ref p ∧ H p = some (.lst (ms.map V.int)) ∧ ms.length = x.2.2.2 ∧ Below x.2.2.1 ms

theorem ok_law_numbers {f : Addr} {fd : FuncData} (F : Fun K "_law_numbers" "_law_numbers" s_law_numbers f fd) (T : Txt mg K w pA pO pX pN)  :
    FnOk P w K mg base CX0 1 f fd ["script", "base", "many"] (sp_law_numbers K Ts) := by
  refine F.ok sc_law_numbers (fun vs H Q E h => ?_) (fun cdv A outer s H vs Q E hr h => ?_)
  · obtain ⟨x, rfl, _⟩ := h
    rfl
  · obtain ⟨⟨a, ns, b, m⟩, ev, hd, g, q⟩ := h
    replace ev : vs = [.ref a, .int (b : Nat), .int (m : Nat)] := ev
    subst ev
    have hS : SqL K H a (ns.map V.int) := hd.1
    have hb : 2 ≤ b := hd.2.1
    have hb2 : b ≤ 1000000 := hd.2.2.1
    have hm : m ≤ 1000 := hd.2.2.2
    refine ⟨_, (pss_cons (ps_set (i := 3) sc_law_numbers.nd rfl (.inl rfl) (pe_lst pa_nil))
      (pss_cons (ps_set (i := 4) sc_law_numbers.nd rfl (.inl rfl) pe_int)
      (pss_cons (ps_for PassesOwn.never rfl (pi_list (pe_slice sl_list (pv 0) po_none (po_some pe_int))) (pg_name (i := 5) sc_law_numbers.nd rfl (.inl rfl))
      (pss_cons (ps_set (i := 6) sc_law_numbers.nd rfl (.inl rfl) (pe_callB call_abs (by rfl) T.abs (by decide +kernel) (pa_cons (pv 5) pa_nil)))
      (pss_cons (ps_set (i := 4) sc_law_numbers.nd rfl (.inl rfl) (pe_op op_mod (pe_callTy call_int1 (by rfl) T.int (by decide +kernel) (pa_cons (pe_op op_add (pe_op op_mul (pv 4) pe_int) (pv 6)) pa_nil)) pe_int))
      (pss_one (ps_for PassesOwn.never rfl (pi_range1 rfl T.range (pa_cons pe_int pa_nil)) (pg_name (i := 7) sc_law_numbers.nd rfl (.inl rfl))
      (pss_cons (ps_expr (pe_bm PySem.F.plainAttrs_list PySem.F.slot_list_append PySem.F.type_list_append mt_append (pv 3) (pa_cons (pe_op op_mod (pe_callTy call_int1 (by rfl) T.int (by decide +kernel) (pa_cons (pv 6) pa_nil)) (pv 1)) pa_nil)))
      (pss_cons (ps_set (i := 6) sc_law_numbers.nd rfl (.inl rfl) (pe_op op_fdiv (pv 6) (pv 1)))
      (pss_one (ps_if (pt_cmpR op_eq (pv 6) pe_int (nomark _))
      (pss_one ps_break) pss_nil)))))))))
      (pss_cons (ps_for PassesOwn.never rfl (pi_range1 rfl T.range (pa_cons (pv 2) pa_nil)) (pg_name (i := 8) sc_law_numbers.nd rfl (.inl rfl))
      (pss_cons (ps_set (i := 4) sc_law_numbers.nd rfl (.inl rfl) (pe_op op_mod (pe_callTy call_int1 (by rfl) T.int (by decide +kernel) (pa_cons (pe_op op_add (pe_op op_add (pe_op op_mul (pv 4) pe_int) pe_int) (pv 8)) pa_nil)) pe_int))
      (pss_one (ps_expr (pe_bm PySem.F.plainAttrs_list PySem.F.slot_list_append PySem.F.type_list_append mt_append (pv 3) (pa_cons (pe_op op_mod (pe_op op_fdiv (pv 4) pe_int) (pv 1)) pa_nil))))))
      (pss_one (ps_ret (pe_slice sl_list (pv 3) po_none (po_some (pv 2))))))))), ?_⟩
    -- numbers = []; seed = 7
    refine st_setN (R := .lst []) (en_lst ea_nil (Nat.zero_le _)) g ?_
    intro l H1 n0 e1 hl
    have nl : l ∉ Ts := g.free n0
    have e1l : ∀ H2, Ex Ts H1 H2 → H2 l = some (.lst []) := fun H2 e => e.keep l _ nl hl
    dsimp only
    refine st_set (v := .int 7) ev_c (Ex.refl e1.good) ?_
    intro H2 e2
    dsimp only
    have hl2 := e1l H2 e2
    -- for cell in script[:63]
    refine st_forN (K := K) (xs := cutV (ns.map V.int) none (some 63)) (en_slL g (ev_var rfl) eo_none (eo_some ev_c) hS) (e1.trans e2)
      (fun a' i σ H' => ∃ (ms : List Int) (seed : Int) (c r s : Option V), σ = [some (.ref a), some (.int (b : Nat)), some (.int (m : Nat)), some (.ref l), some (.int seed), c, r, s, none] ∧ Ex Ts H H' ∧
        H' l = some (.lst (ms.map V.int)) ∧ H' a' = some (.lst (cutV (ns.map V.int) none (some 63))) ∧ H a' = none ∧ a' ≠ l ∧ Below b ms ∧ ms.length ≤ 60 * i ∧ 0 ≤ seed ∧ seed < 2147483647) ?_ ?_ ?_ ?_
    · intro a' H3 na e3 ha
      have ne : a' ≠ l := fun q => by
        rw [q, hl2] at na
        cases na
      have b0 : Below b [] := fun z hz => absurd hz (by simp)
      exact ⟨[], 7, none, none, none, rfl, (e1.trans e2).trans e3, e3.keep l _ nl hl2, ha, (e1.trans e2).back na, ne, b0, Nat.zero_le _, by decide, by decide⟩
    · rintro a' i σ H3 ⟨ms, seed, c, r, s, _, _, _, h, _⟩
      exact h
    · rintro a' i x σ H3 N hx ⟨ms, seed, c, r, s, rfl, e3, h3l, h3a, na, ne, hB, hlen, s0, s1⟩ hN
      obtain ⟨n, rfl⟩ := cut_int (List.mem_of_getElem? hx)
      have nT : a' ∉ Ts := g.free na
      -- rest = abs(cell)
      refine st_set (v := .int (if n < 0 then -n else n)) (ev_cb (ea_cons (ev_var rfl) ea_nil) rc_abs) (Ex.refl e3.good) ?_
      intro H4 e4
      dsimp only
      have hr0 : 0 ≤ (if n < 0 then -n else n) := by split <;> omega
      generalize (if n < 0 then -n else n) = rest at hr0 ⊢
      -- seed = int(seed * 48271 + rest) % 2147483647
      refine st_set (v := .int ((seed * 48271 + rest) % 2147483647)) (ev_op (ev_cb (ea_cons (ev_op (ev_op (ev_var rfl) ev_c (rv_I (Or.inl ⟨by omega, by omega⟩))) (ev_var rfl) rv_I0) ea_nil) rc_intI) ev_c (rv_I (by decide))) (Ex.refl e4.good) ?_
      intro H5 e5
      dsimp only
      have q0 : 0 ≤ (seed * 48271 + rest) % 2147483647 := Int.emod_nonneg _ (by decide)
      have q1 : (seed * 48271 + rest) % 2147483647 < 2147483647 := Int.emod_lt_of_pos _ (by decide)
      generalize (seed * 48271 + rest) % 2147483647 = seed2 at q0 q1 ⊢
      have e35 : Ex Ts H3 H5 := e4.trans e5
      have h5l := e35.keep l _ nl h3l
      have h5a := e35.keep a' _ nT h3a
      -- for spin in range(60)
      refine st_forR (n := 60) ev_c (by decide) (Ex.refl e35.good)
        (fun k σ H' => ∃ (ms : List Int) (rest : Int) (s : Option V), σ = [some (.ref a), some (.int (b : Nat)), some (.int (m : Nat)), some (.ref l), some (.int seed2), some (.int n), some (.int rest), s, none] ∧ Ex Ts H H' ∧
          H' l = some (.lst (ms.map V.int)) ∧ H' a' = some (.lst (cutV (ns.map V.int) none (some 63))) ∧ Below b ms ∧ ms.length ≤ 60 * i + k ∧ 0 ≤ rest) ?_ ?_ ?_
      · intro H6 e6
        exact ⟨ms, rest, s, rfl, (e3.trans e35).trans e6, e6.keep l _ nl h5l, e6.keep a' _ nT h5a, hB, by omega, hr0⟩
      · rintro k σ H6 N2 hk ⟨ms, rest, s, rfl, e6, h6l, h6a, hB, hlen, r0⟩ hN2
        have hi : i < 63 := Nat.lt_of_lt_of_le (List.getElem?_eq_some_iff.mp hx).1 (cut_63 _)
        have m0 : 0 ≤ rest % (b : Int) := Int.emod_nonneg _ (by omega)
        have m1 : rest % (b : Int) < (b : Int) := Int.emod_lt_of_pos _ (by omega)
        refine st_app (y := .int (rest % (b : Int))) rfl h6l nl (ev_op (ev_cb (ea_cons (ev_var rfl) ea_nil) rc_intI) (ev_var rfl) (rv_I (by omega))) (Ex.refl e6.good) (by rw [List.length_map]; omega) ?_
        intro H7 e7 h7l
        dsimp only
        have eE : Ex Ts H (upd H7 l (.lst (ms.map V.int ++ [V.int (rest % (b : Int))]))) := (e6.trans e7).mut nl n0
        refine st_set (v := .int (rest / (b : Int))) (ev_op (ev_var rfl) (ev_var rfl) (rv_I ⟨by omega, by omega⟩)) (Ex.refl eE.good) ?_
        intro H8 e8
        dsimp only
        have r1 : 0 ≤ rest / (b : Int) := Int.ediv_nonneg r0 (by omega)
        have h8l : H8 l = some (.lst ((ms ++ [rest % (b : Int)]).map V.int)) := by
          rw [← map_snoc]
          exact e8.keep l _ nl upd_same
        have h8a : H8 a' = some (.lst (cutV (ns.map V.int) none (some 63))) := e8.keep a' _ nT (by rw [upd_ne ne]; exact e7.keep a' _ nT h6a)
        have hB8 : Below b (ms ++ [rest % (b : Int)]) := below_snoc hB m0 m1
        have hl8 : (ms ++ [rest % (b : Int)]).length ≤ 60 * i + (k + 1) := by
          rw [List.length_append, List.length_singleton]
          omega
        refine st_if (b := decide (V.int (rest / (b : Int)) = V.int 0)) (et_test (ev_op (ev_var rfl) ev_c (rv_eq rfl))) (Ex.refl e8.good) ?_ ?_
        · intro H9 e9 _
          exact hN _ _ ⟨_, _, _, _, _, rfl, (eE.trans e8).trans e9, e9.keep l _ nl h8l, e9.keep a' _ nT h8a, na, ne, hB8, by omega, q0, q1⟩
        · intro H9 e9 _
          exact hN2 _ _ ⟨_, _, _, rfl, (eE.trans e8).trans e9, e9.keep l _ nl h8l, e9.keep a' _ nT h8a, hB8, hl8, r1⟩
      · rintro σ H6 ⟨ms, rest, s, rfl, e6, h6l, h6a, hB, hlen, r0⟩
        exact hN _ _ ⟨_, _, _, _, _, rfl, e6, h6l, h6a, na, ne, hB, by omega, q0, q1⟩
    · rintro a' σ H3 ⟨ms, seed, c, r, s, rfl, e3, h3l, h3a, na, ne, hB, hlen, s0, s1⟩
      have h63 : ms.length ≤ 3780 := by
        have := cut_63 (ns.map V.int)
        omega
      -- for k in range(many)
      refine st_forR (n := m) (ev_var rfl) (by omega) (Ex.refl e3.good)
        (fun k σ H' => ∃ (ms : List Int) (seed : Int) (z : Option V), σ = [some (.ref a), some (.int (b : Nat)), some (.int (m : Nat)), some (.ref l), some (.int seed), c, r, s, z] ∧ Ex Ts H H' ∧
          H' l = some (.lst (ms.map V.int)) ∧ Below b ms ∧ k ≤ ms.length ∧ ms.length ≤ 3780 + k ∧ 0 ≤ seed ∧ seed < 2147483647) ?_ ?_ ?_
      · intro H4 e4
        exact ⟨ms, seed, none, rfl, e3.trans e4, e4.keep l _ nl h3l, hB, Nat.zero_le _, by omega, s0, s1⟩
      · rintro k σ H4 N hk ⟨ms, seed, z, rfl, e4, h4l, hB, hlo, hhi, s0, s1⟩ hN
        refine st_set (v := .int ((seed * 16807 + 12345 + (k : Int)) % 2147483647)) (ev_op (ev_cb (ea_cons (ev_op (ev_op (ev_op (ev_var rfl) ev_c (rv_I (Or.inl ⟨by omega, by omega⟩))) ev_c rv_I0) (ev_var rfl) rv_I0) ea_nil) rc_intI) ev_c (rv_I (by decide))) (Ex.refl e4.good) ?_
        intro H5 e5
        dsimp only
        have q0 : 0 ≤ (seed * 16807 + 12345 + (k : Int)) % 2147483647 := Int.emod_nonneg _ (by decide)
        have q1 : (seed * 16807 + 12345 + (k : Int)) % 2147483647 < 2147483647 := Int.emod_lt_of_pos _ (by decide)
        generalize (seed * 16807 + 12345 + (k : Int)) % 2147483647 = seed2 at q0 q1 ⊢
        have m0 : 0 ≤ seed2 / 64 % (b : Int) := Int.emod_nonneg _ (by omega)
        have m1 : seed2 / 64 % (b : Int) < (b : Int) := Int.emod_lt_of_pos _ (by omega)
        refine st_app (y := .int (seed2 / 64 % (b : Int))) rfl (e5.keep l _ nl h4l) nl (ev_op (ev_op (ev_var rfl) ev_c (rv_I ⟨by decide, by decide⟩)) (ev_var rfl) (rv_I (by omega))) (Ex.refl e5.good) (by rw [List.length_map]; omega) ?_
        intro H6 e6 h6l
        refine hN _ _ ⟨ms ++ [seed2 / 64 % (b : Int)], seed2, _, rfl, ((e4.trans e5).trans e6).mut nl n0, ?_, below_snoc hB m0 m1, ?_, ?_, q0, q1⟩
        · rw [upd_same, map_snoc]
        · rw [List.length_append, List.length_singleton]
          omega
        · rw [List.length_append, List.length_singleton]
          omega
      · rintro σ H4 ⟨ms, seed, z, rfl, e4, h4l, hB, hlo, hhi, s0, s1⟩
        -- return numbers[:many]
        refine st_retN (R := .lst (cutV (ms.map V.int) none (some (m : Int)))) (en_slL (K := K) e4.good (ev_var rfl) eo_none (eo_some (ev_var rfl)) (l_of h4l)) (Ex.refl e4.good) ?_
        intro p H5 _ _ e5 hp
        rw [cut_to (by rw [List.length_map]; exact hlo), ← List.map_take] at hp
        refine q (.ref p) H5 (e4.trans e5) ⟨p, ms.take m, rfl, hp, ?_, fun x hx => hB x (List.mem_of_mem_take hx)⟩
        show (ms.take m).length = m
        rw [List.length_take]
        omega

abbrev sp_low_bits (K : PySem.W.Frag) (Ts : List Addr) : Sp := FnV Ts (fun x : Int × Nat => [.int x.1, .int (x.2 : Nat)]) (fun x => 1 ≤ x.2 ∧ x.2 ≤ 64) fun x => sv (lowB x.2 x.1)
theorem ok_low_bits {f : Addr} {fd : FuncData} (F : Fun K "_low_bits" "_low_bits" s_low_bits f fd) (T : Txt mg K w pA pO pX pN)  :
    FnOk P w K mg base CX0 1 f fd ["number", "width"] (sp_low_bits K Ts) := by
  refine F.ok sc_low_bits (fun vs H Q E h => ?_) (fun cdv A outer s H vs Q E hr h => ?_)
  · obtain ⟨x, rfl, _⟩ := h
    rfl
  · obtain ⟨⟨n, k⟩, ev, hd, g, q⟩ := h
    replace ev : vs = [.int n, .int (k : Nat)] := ev
    subst ev
    have h1 : 1 ≤ k := hd.1
    have h2 : k ≤ 64 := hd.2
    refine ⟨_, (pss_one (ps_ret (pe_bm PySem.F.plainAttrs_str PySem.F.slot_str_zfill PySem.F.type_str_zfill mt_zfill (pe_fmtB (pe_op op_andM (pv 0) (pe_op op_sub (pe_op op_oneShl pe_int (pv 1)) pe_int))) (pa_cons (pv 1) pa_nil)))), ?_⟩
    refine st_ret (v := sv (lowB k n)) ?_ (Ex.refl g) q
    rw [← lowB_pad h1]
    refine ev_zfill (ev_fmtB (ev_is (v := .int (n % 2 ^ k)) ?_ (congrArg V.int (modW_cast k n))) (low_dig h1 h2)) (ev_var rfl) (dig_bin _) (by omega)
    exact ev_op (ev_var rfl) (ev_op (ev_op ev_c (ev_var rfl) (rv_oneShl (by omega))) ev_c rv_I0) rv_andM

abbrev sp_bit (K : PySem.W.Frag) (Ts : List Addr) : Sp := FnV Ts (fun x : Bool => [.bl x]) (fun _ => True) fun x => sv (bitB x)
theorem ok_bit {f : Addr} {fd : FuncData} (F : Fun K "_bit" "_bit" s_bit f fd) (T : Txt mg K w pA pO pX pN)  :
    FnOk P w K mg base CX0 1 f fd ["holds"] (sp_bit K Ts) := by
  refine F.ok sc_bit (fun vs H Q E h => ?_) (fun cdv A outer s H vs Q E hr h => ?_)
  · obtain ⟨x, rfl, _⟩ := h
    rfl
  · obtain ⟨h, ev, hd, g, q⟩ := h
    replace ev : vs = [.bl h] := ev
    subst ev
    refine ⟨_, (pss_one (ps_ret (pe_ifExp (pt_val (pv 0)) pe_str pe_str))), ?_⟩
    refine st_ret (ev_if (b := h) (et_B (ev_var rfl)) (fun e => ?_) (fun e => ?_)) (Ex.refl g) q
    · subst e
      exact ev_s lt_1
    · subst e
      exact ev_s lt_0

abbrev sp_both_known (K : PySem.W.Frag) (Ts : List Addr) : Sp := FnV Ts (fun x : List Nat × List Nat => [sv x.1, sv x.2]) (fun x => True) fun x => .bl (kn x.1 && kn x.2)
theorem ok_both_known {f : Addr} {fd : FuncData} (F : Fun K "_both_known" "_both_known" s_both_known f fd) (T : Txt mg K w pA pO pX pN) (C_is_known : Callee P w K mg base "is_known" 2 ["vector"] (sp_is_known K Ts)) :
    FnOk P w K mg base CX0 3 f fd ["one", "two"] (sp_both_known K Ts) := by
  refine F.ok sc_both_known (fun vs H Q E h => ?_) (fun cdv A outer s H vs Q E hr h => ?_)
  · obtain ⟨x, rfl, _⟩ := h
    rfl
  · obtain ⟨⟨a, b⟩, ev, hd, g, q⟩ := h
    replace ev : vs = [sv a, sv b] := ev
    subst ev
    refine ⟨_, (pss_one (ps_ret (pe_and (pe_fn C_is_known (hr.mono (by decide)) (by rfl) (pa_cons (pv 0) pa_nil)) (pe_one (pe_fn C_is_known (hr.mono (by decide)) (by rfl) (pa_cons (pv 1) pa_nil)))))), ?_⟩
    refine st_ret ?_ (Ex.refl g) q
    exact ev_and (a := kn a) (b := kn b) (ev_call a (ea_cons (ev_var rfl) ea_nil) trivial) fun _ => ev_call b (ea_cons (ev_var rfl) ea_nil) trivial

abbrev sp_add (K : PySem.W.Frag) (Ts : List Addr) : Sp := FnV Ts (fun x : List Nat × List Nat => [sv x.1, sv x.2]) (fun x => Vec x.1 ∧ Vec x.2) fun x => sv (dueB (kn x.1 && kn x.2) (wid x.1 x.2) ((val x.1 : Int) + (val x.2 : Int)))
theorem ok_add {f : Addr} {fd : FuncData} (F : Fun K "add" "add" s_add f fd) (T : Txt mg K w pA pO pX pN) (C_low_bits : Callee P w K mg base "_low_bits" 1 ["number", "width"] (sp_low_bits K Ts)) (C_both_known : Callee P w K mg base "_both_known" 3 ["one", "two"] (sp_both_known K Ts)) :
    FnOk P w K mg base CX0 4 f fd ["one", "two"] (sp_add K Ts) := by
  refine F.ok sc_add (fun vs H Q E h => ?_) (fun cdv A outer s H vs Q E hr h => ?_)
  · obtain ⟨x, rfl, _⟩ := h
    rfl
  · obtain ⟨⟨a, b⟩, ev, hd, g, q⟩ := h
    replace ev : vs = [sv a, sv b] := ev
    subst ev
    have ha : Vec a := hd.1
    have hb : Vec b := hd.2
    have hw : wid a b ≤ 64 := wid_le ha.le hb.le
    have hw1 : 1 ≤ wid a b := Nat.le_trans ha.pos (Nat.le_max_left _ _)
    have hva : val a < 2 ^ 64 := val_le ha.le
    refine ⟨_, (pss_cons (ps_set (i := 2) sc_add.nd rfl (.inl rfl) (pe_callB (call_max2 rfl) (by rfl) T.max (by decide +kernel) (pa_cons (pe_callB call_len_str (by rfl) T.len PySem.boot_len (pa_cons (pv 0) pa_nil)) (pa_cons (pe_callB call_len_str (by rfl) T.len PySem.boot_len (pa_cons (pv 1) pa_nil)) pa_nil))))
      (pss_cons (ps_if (pt_not (pt_val (pe_fn C_both_known (hr.mono (by decide)) (by rfl) (pa_cons (pv 0) (pa_cons (pv 1) pa_nil)))))
      (pss_one (ps_ret (pe_op op_mulS pe_str (pv 2)))) pss_nil)
      (pss_one (ps_ret (pe_fn C_low_bits (hr.mono (by decide)) (by rfl) (pa_cons (pe_op op_add (pe_callTy call_int_bin (by rfl) T.int (by decide +kernel) (pa_cons (pv 0) (pa_cons pe_int pa_nil))) (pe_callTy call_int_bin (by rfl) T.int (by decide +kernel) (pa_cons (pv 1) (pa_cons pe_int pa_nil)))) (pa_cons (pv 2) pa_nil))))))), ?_⟩
    refine st_set (v := .int (wid a b : Nat)) ?_ (Ex.refl g) ?_
    · refine ev_is (v := .int (if (b.length : Int) > (a.length : Int) then (b.length : Int) else (a.length : Int))) ?_ (congrArg V.int (max_wid a b))
      exact ev_cb (ea_cons (ev_cb (ea_cons (ev_var rfl) ea_nil) (rc_lenS (Nat.le_trans ha.le (by decide)))) (ea_cons (ev_cb (ea_cons (ev_var rfl) ea_nil) (rc_lenS (Nat.le_trans hb.le (by decide)))) ea_nil)) rc_max
    intro H1 e1
    dsimp only
    refine st_if (b := !(kn a && kn b)) (et_not (et_B (ev_call (a, b) (ea_cons (ev_var rfl) (ea_cons (ev_var rfl) ea_nil)) trivial))) e1 ?_ ?_
    · intro H2 e2 h
      refine st_ret (ev_is (v := sv (List.replicate ((wid a b : Nat) : Int).toNat 120)) (ev_op (ev_s lt_x) (ev_var rfl) (rv_mulS (by omega) (by omega))) ?_) e2 q
      have hk : (kn a && kn b) = false := not_t h
      show _ = sv (dueB (kn a && kn b) _ _)
      rw [hk]
      rfl
    intro H2 e2 h
    dsimp only [tNext]
    have hk : (kn a && kn b) = true := not_f h
    have hka : kn a = true := (Bool.and_eq_true_iff.mp hk).1
    have hkb : kn b = true := (Bool.and_eq_true_iff.mp hk).2
    refine st_ret (v := sv (lowB (wid a b) ((val a : Int) + (val b : Int)))) ?_ e2 ?_
    · exact ev_call ((val a : Int) + (val b : Int), wid a b) (ea_cons (ev_op (ev_is (ev_cb (ea_cons (ev_var rfl) (ea_cons ev_c ea_nil)) (rc_bin (vec_ne ha) (Nat.le_trans ha.le (by decide)) (kn_bin hka))) (congrArg (fun n : Nat => V.int (n : Int)) (val_eq hka))) (ev_is (ev_cb (ea_cons (ev_var rfl) (ea_cons ev_c ea_nil)) (rc_bin (vec_ne hb) (Nat.le_trans hb.le (by decide)) (kn_bin hkb))) (congrArg (fun n : Nat => V.int (n : Int)) (val_eq hkb))) rv_I0) (ea_cons (ev_var rfl) ea_nil)) ⟨hw1, hw⟩
    · have e : dueB (kn a && kn b) (wid a b) ((val a : Int) + (val b : Int)) = lowB (wid a b) ((val a : Int) + (val b : Int)) := by
        rw [hk]
        rfl
      show ∀ H', Ex Ts H H' → Q (sv (lowB (wid a b) ((val a : Int) + (val b : Int)))) H'
      rw [← e]
      exact q

abbrev sp_subtract (K : PySem.W.Frag) (Ts : List Addr) : Sp := FnV Ts (fun x : List Nat × List Nat => [sv x.1, sv x.2]) (fun x => Vec x.1 ∧ Vec x.2) fun x => sv (dueB (kn x.1 && kn x.2) (wid x.1 x.2) ((val x.1 : Int) - (val x.2 : Int)))
theorem ok_subtract {f : Addr} {fd : FuncData} (F : Fun K "subtract" "subtract" s_subtract f fd) (T : Txt mg K w pA pO pX pN) (C_low_bits : Callee P w K mg base "_low_bits" 1 ["number", "width"] (sp_low_bits K Ts)) (C_both_known : Callee P w K mg base "_both_known" 3 ["one", "two"] (sp_both_known K Ts)) :
    FnOk P w K mg base CX0 4 f fd ["one", "two"] (sp_subtract K Ts) := by
  refine F.ok sc_subtract (fun vs H Q E h => ?_) (fun cdv A outer s H vs Q E hr h => ?_)
  · obtain ⟨x, rfl, _⟩ := h
    rfl
  · obtain ⟨⟨a, b⟩, ev, hd, g, q⟩ := h
    replace ev : vs = [sv a, sv b] := ev
    subst ev
    have ha : Vec a := hd.1
    have hb : Vec b := hd.2
    have hw : wid a b ≤ 64 := wid_le ha.le hb.le
    have hw1 : 1 ≤ wid a b := Nat.le_trans ha.pos (Nat.le_max_left _ _)
    have hva : val a < 2 ^ 64 := val_le ha.le
    refine ⟨_, (pss_cons (ps_set (i := 2) sc_subtract.nd rfl (.inl rfl) (pe_callB (call_max2 rfl) (by rfl) T.max (by decide +kernel) (pa_cons (pe_callB call_len_str (by rfl) T.len PySem.boot_len (pa_cons (pv 0) pa_nil)) (pa_cons (pe_callB call_len_str (by rfl) T.len PySem.boot_len (pa_cons (pv 1) pa_nil)) pa_nil))))
      (pss_cons (ps_if (pt_not (pt_val (pe_fn C_both_known (hr.mono (by decide)) (by rfl) (pa_cons (pv 0) (pa_cons (pv 1) pa_nil)))))
      (pss_one (ps_ret (pe_op op_mulS pe_str (pv 2)))) pss_nil)
      (pss_one (ps_ret (pe_fn C_low_bits (hr.mono (by decide)) (by rfl) (pa_cons (pe_op op_sub (pe_callTy call_int_bin (by rfl) T.int (by decide +kernel) (pa_cons (pv 0) (pa_cons pe_int pa_nil))) (pe_callTy call_int_bin (by rfl) T.int (by decide +kernel) (pa_cons (pv 1) (pa_cons pe_int pa_nil)))) (pa_cons (pv 2) pa_nil))))))), ?_⟩
    refine st_set (v := .int (wid a b : Nat)) ?_ (Ex.refl g) ?_
    · refine ev_is (v := .int (if (b.length : Int) > (a.length : Int) then (b.length : Int) else (a.length : Int))) ?_ (congrArg V.int (max_wid a b))
      exact ev_cb (ea_cons (ev_cb (ea_cons (ev_var rfl) ea_nil) (rc_lenS (Nat.le_trans ha.le (by decide)))) (ea_cons (ev_cb (ea_cons (ev_var rfl) ea_nil) (rc_lenS (Nat.le_trans hb.le (by decide)))) ea_nil)) rc_max
    intro H1 e1
    dsimp only
    refine st_if (b := !(kn a && kn b)) (et_not (et_B (ev_call (a, b) (ea_cons (ev_var rfl) (ea_cons (ev_var rfl) ea_nil)) trivial))) e1 ?_ ?_
    · intro H2 e2 h
      refine st_ret (ev_is (v := sv (List.replicate ((wid a b : Nat) : Int).toNat 120)) (ev_op (ev_s lt_x) (ev_var rfl) (rv_mulS (by omega) (by omega))) ?_) e2 q
      have hk : (kn a && kn b) = false := not_t h
      show _ = sv (dueB (kn a && kn b) _ _)
      rw [hk]
      rfl
    intro H2 e2 h
    dsimp only [tNext]
    have hk : (kn a && kn b) = true := not_f h
    have hka : kn a = true := (Bool.and_eq_true_iff.mp hk).1
    have hkb : kn b = true := (Bool.and_eq_true_iff.mp hk).2
    refine st_ret (v := sv (lowB (wid a b) ((val a : Int) - (val b : Int)))) ?_ e2 ?_
    · exact ev_call ((val a : Int) - (val b : Int), wid a b) (ea_cons (ev_op (ev_is (ev_cb (ea_cons (ev_var rfl) (ea_cons ev_c ea_nil)) (rc_bin (vec_ne ha) (Nat.le_trans ha.le (by decide)) (kn_bin hka))) (congrArg (fun n : Nat => V.int (n : Int)) (val_eq hka))) (ev_is (ev_cb (ea_cons (ev_var rfl) (ea_cons ev_c ea_nil)) (rc_bin (vec_ne hb) (Nat.le_trans hb.le (by decide)) (kn_bin hkb))) (congrArg (fun n : Nat => V.int (n : Int)) (val_eq hkb))) rv_I0) (ea_cons (ev_var rfl) ea_nil)) ⟨hw1, hw⟩
    · have e : dueB (kn a && kn b) (wid a b) ((val a : Int) - (val b : Int)) = lowB (wid a b) ((val a : Int) - (val b : Int)) := by
        rw [hk]
        rfl
      show ∀ H', Ex Ts H H' → Q (sv (lowB (wid a b) ((val a : Int) - (val b : Int)))) H'
      rw [← e]
      exact q

abbrev sp_multiply (K : PySem.W.Frag) (Ts : List Addr) : Sp := FnV Ts (fun x : List Nat × List Nat => [sv x.1, sv x.2]) (fun x => Vec x.1 ∧ Vec x.2) fun x => sv (dueB (kn x.1 && kn x.2) (wid x.1 x.2) ((val x.1 : Int) * (val x.2 : Int)))
theorem ok_multiply {f : Addr} {fd : FuncData} (F : Fun K "multiply" "multiply" s_multiply f fd) (T : Txt mg K w pA pO pX pN) (C_low_bits : Callee P w K mg base "_low_bits" 1 ["number", "width"] (sp_low_bits K Ts)) (C_both_known : Callee P w K mg base "_both_known" 3 ["one", "two"] (sp_both_known K Ts)) :
    FnOk P w K mg base CX0 4 f fd ["one", "two"] (sp_multiply K Ts) := by
  refine F.ok sc_multiply (fun vs H Q E h => ?_) (fun cdv A outer s H vs Q E hr h => ?_)
  · obtain ⟨x, rfl, _⟩ := h
    rfl
  · obtain ⟨⟨a, b⟩, ev, hd, g, q⟩ := h
    replace ev : vs = [sv a, sv b] := ev
    subst ev
    have ha : Vec a := hd.1
    have hb : Vec b := hd.2
    have hw : wid a b ≤ 64 := wid_le ha.le hb.le
    have hw1 : 1 ≤ wid a b := Nat.le_trans ha.pos (Nat.le_max_left _ _)
    have hva : val a < 2 ^ 64 := val_le ha.le
    refine ⟨_, (pss_cons (ps_set (i := 2) sc_multiply.nd rfl (.inl rfl) (pe_callB (call_max2 rfl) (by rfl) T.max (by decide +kernel) (pa_cons (pe_callB call_len_str (by rfl) T.len PySem.boot_len (pa_cons (pv 0) pa_nil)) (pa_cons (pe_callB call_len_str (by rfl) T.len PySem.boot_len (pa_cons (pv 1) pa_nil)) pa_nil))))
      (pss_cons (ps_if (pt_not (pt_val (pe_fn C_both_known (hr.mono (by decide)) (by rfl) (pa_cons (pv 0) (pa_cons (pv 1) pa_nil)))))
      (pss_one (ps_ret (pe_op op_mulS pe_str (pv 2)))) pss_nil)
      (pss_one (ps_ret (pe_fn C_low_bits (hr.mono (by decide)) (by rfl) (pa_cons (pe_op op_mul (pe_callTy call_int_bin (by rfl) T.int (by decide +kernel) (pa_cons (pv 0) (pa_cons pe_int pa_nil))) (pe_callTy call_int_bin (by rfl) T.int (by decide +kernel) (pa_cons (pv 1) (pa_cons pe_int pa_nil)))) (pa_cons (pv 2) pa_nil))))))), ?_⟩
    refine st_set (v := .int (wid a b : Nat)) ?_ (Ex.refl g) ?_
    · refine ev_is (v := .int (if (b.length : Int) > (a.length : Int) then (b.length : Int) else (a.length : Int))) ?_ (congrArg V.int (max_wid a b))
      exact ev_cb (ea_cons (ev_cb (ea_cons (ev_var rfl) ea_nil) (rc_lenS (Nat.le_trans ha.le (by decide)))) (ea_cons (ev_cb (ea_cons (ev_var rfl) ea_nil) (rc_lenS (Nat.le_trans hb.le (by decide)))) ea_nil)) rc_max
    intro H1 e1
    dsimp only
    refine st_if (b := !(kn a && kn b)) (et_not (et_B (ev_call (a, b) (ea_cons (ev_var rfl) (ea_cons (ev_var rfl) ea_nil)) trivial))) e1 ?_ ?_
    · intro H2 e2 h
      refine st_ret (ev_is (v := sv (List.replicate ((wid a b : Nat) : Int).toNat 120)) (ev_op (ev_s lt_x) (ev_var rfl) (rv_mulS (by omega) (by omega))) ?_) e2 q
      have hk : (kn a && kn b) = false := not_t h
      show _ = sv (dueB (kn a && kn b) _ _)
      rw [hk]
      rfl
    intro H2 e2 h
    dsimp only [tNext]
    have hk : (kn a && kn b) = true := not_f h
    have hka : kn a = true := (Bool.and_eq_true_iff.mp hk).1
    have hkb : kn b = true := (Bool.and_eq_true_iff.mp hk).2
    refine st_ret (v := sv (lowB (wid a b) ((val a : Int) * (val b : Int)))) ?_ e2 ?_
    · exact ev_call ((val a : Int) * (val b : Int), wid a b) (ea_cons (ev_op (ev_is (ev_cb (ea_cons (ev_var rfl) (ea_cons ev_c ea_nil)) (rc_bin (vec_ne ha) (Nat.le_trans ha.le (by decide)) (kn_bin hka))) (congrArg (fun n : Nat => V.int (n : Int)) (val_eq hka))) (ev_is (ev_cb (ea_cons (ev_var rfl) (ea_cons ev_c ea_nil)) (rc_bin (vec_ne hb) (Nat.le_trans hb.le (by decide)) (kn_bin hkb))) (congrArg (fun n : Nat => V.int (n : Int)) (val_eq hkb))) (rv_I (Or.inl ⟨by omega, by omega⟩))) (ea_cons (ev_var rfl) ea_nil)) ⟨hw1, hw⟩
    · have e : dueB (kn a && kn b) (wid a b) ((val a : Int) * (val b : Int)) = lowB (wid a b) ((val a : Int) * (val b : Int)) := by
        rw [hk]
        rfl
      show ∀ H', Ex Ts H H' → Q (sv (lowB (wid a b) ((val a : Int) * (val b : Int)))) H'
      rw [← e]
      exact q

abbrev sp_negate (K : PySem.W.Frag) (Ts : List Addr) : Sp := FnV Ts (fun a : List Nat => [sv a]) Vec fun a => sv (dueB (kn a) a.length (0 - (val a : Int)))
theorem ok_negate {f : Addr} {fd : FuncData} (F : Fun K "negate" "negate" s_negate f fd) (T : Txt mg K w pA pO pX pN) (C_subtract : Callee P w K mg base "subtract" 4 ["one", "two"] (sp_subtract K Ts)) :
    FnOk P w K mg base CX0 5 f fd ["vector"] (sp_negate K Ts) := by
  refine F.ok sc_negate (fun vs H Q E h => ?_) (fun cdv A outer s H vs Q E hr h => ?_)
  · obtain ⟨x, rfl, _⟩ := h
    rfl
  · obtain ⟨a, ev, hd, g, q⟩ := h
    replace ev : vs = [sv a] := ev
    subst ev
    refine ⟨_, (pss_one (ps_ret (pe_fn C_subtract (hr.mono (by decide)) (by rfl) (pa_cons pe_str (pa_cons (pv 0) pa_nil))))), ?_⟩
    refine st_ret ?_ (Ex.refl g) q
    have e : sv (dueB (kn [48] && kn a) (wid [48] a) ((val [48] : Int) - (val a : Int))) = sv (dueB (kn a) a.length (0 - (val a : Int))) := by
      have e1 : kn [48] = true := by decide
      have e2 : wid [48] a = a.length := Nat.max_eq_right hd.pos
      rw [e1, e2, Bool.true_and]
      rfl
    exact ev_is (ev_call ([48], a) (ea_cons (ev_s lt_0) (ea_cons (ev_var rfl) ea_nil)) ⟨vec_one (by decide), hd⟩) e

abbrev sp_less (K : PySem.W.Frag) (Ts : List Addr) : Sp := FnV Ts (fun x : List Nat × List Nat => [sv x.1, sv x.2]) (fun x => Vec x.1 ∧ Vec x.2) fun x => sv (truthB (kn x.1 && kn x.2) (decide ((val x.1 : Int) < (val x.2 : Int))))
theorem ok_less {f : Addr} {fd : FuncData} (F : Fun K "less" "less" s_less f fd) (T : Txt mg K w pA pO pX pN) (C_bit : Callee P w K mg base "_bit" 1 ["holds"] (sp_bit K Ts)) (C_both_known : Callee P w K mg base "_both_known" 3 ["one", "two"] (sp_both_known K Ts)) :
    FnOk P w K mg base CX0 4 f fd ["one", "two"] (sp_less K Ts) := by
  refine F.ok sc_less (fun vs H Q E h => ?_) (fun cdv A outer s H vs Q E hr h => ?_)
  · obtain ⟨x, rfl, _⟩ := h
    rfl
  · obtain ⟨⟨a, b⟩, ev, hd, g, q⟩ := h
    replace ev : vs = [sv a, sv b] := ev
    subst ev
    have ha : Vec a := hd.1
    have hb : Vec b := hd.2
    refine ⟨_, (pss_cons (ps_if (pt_not (pt_val (pe_fn C_both_known (hr.mono (by decide)) (by rfl) (pa_cons (pv 0) (pa_cons (pv 1) pa_nil)))))
      (pss_one (ps_ret pe_str)) pss_nil)
      (pss_one (ps_ret (pe_fn C_bit (hr.mono (by decide)) (by rfl) (pa_cons (pe_cmpR op_lt (pe_callTy call_int_bin (by rfl) T.int (by decide +kernel) (pa_cons (pv 0) (pa_cons pe_int pa_nil))) (pe_callTy call_int_bin (by rfl) T.int (by decide +kernel) (pa_cons (pv 1) (pa_cons pe_int pa_nil))) (nomark _)) pa_nil))))), ?_⟩
    refine st_if (b := !(kn a && kn b)) (et_not (et_B (ev_call (a, b) (ea_cons (ev_var rfl) (ea_cons (ev_var rfl) ea_nil)) trivial))) (Ex.refl g) ?_ ?_
    · intro H2 e2 h
      refine st_ret (ev_is (ev_s lt_x) ?_) e2 q
      have hk : (kn a && kn b) = false := not_t h
      show _ = sv (truthB (kn a && kn b) _)
      rw [hk]
      rfl
    intro H2 e2 h
    dsimp only [tNext]
    have hk : (kn a && kn b) = true := not_f h
    have hka : kn a = true := (Bool.and_eq_true_iff.mp hk).1
    have hkb : kn b = true := (Bool.and_eq_true_iff.mp hk).2
    refine st_ret (v := sv (bitB (decide ((val a : Int) < (val b : Int))))) ?_ e2 ?_
    · exact ev_call (decide ((val a : Int) < (val b : Int))) (ea_cons (ev_op (ev_is (ev_cb (ea_cons (ev_var rfl) (ea_cons ev_c ea_nil)) (rc_bin (vec_ne ha) (Nat.le_trans ha.le (by decide)) (kn_bin hka))) (congrArg (fun n : Nat => V.int (n : Int)) (val_eq hka))) (ev_is (ev_cb (ea_cons (ev_var rfl) (ea_cons ev_c ea_nil)) (rc_bin (vec_ne hb) (Nat.le_trans hb.le (by decide)) (kn_bin hkb))) (congrArg (fun n : Nat => V.int (n : Int)) (val_eq hkb))) rv_I0) ea_nil) trivial
    · have e : truthB (kn a && kn b) (decide ((val a : Int) < (val b : Int))) = bitB (decide ((val a : Int) < (val b : Int))) := by
        rw [hk]
        rfl
      show ∀ H', Ex Ts H H' → Q (sv (bitB (decide ((val a : Int) < (val b : Int))))) H'
      rw [← e]
      exact q

abbrev sp_less_equal (K : PySem.W.Frag) (Ts : List Addr) : Sp := FnV Ts (fun x : List Nat × List Nat => [sv x.1, sv x.2]) (fun x => Vec x.1 ∧ Vec x.2) fun x => sv (truthB (kn x.1 && kn x.2) (decide ((val x.1 : Int) ≤ (val x.2 : Int))))
theorem ok_less_equal {f : Addr} {fd : FuncData} (F : Fun K "less_equal" "less_equal" s_less_equal f fd) (T : Txt mg K w pA pO pX pN) (C_bit : Callee P w K mg base "_bit" 1 ["holds"] (sp_bit K Ts)) (C_both_known : Callee P w K mg base "_both_known" 3 ["one", "two"] (sp_both_known K Ts)) :
    FnOk P w K mg base CX0 4 f fd ["one", "two"] (sp_less_equal K Ts) := by
  refine F.ok sc_less_equal (fun vs H Q E h => ?_) (fun cdv A outer s H vs Q E hr h => ?_)
  · obtain ⟨x, rfl, _⟩ := h
    rfl
  · obtain ⟨⟨a, b⟩, ev, hd, g, q⟩ := h
    replace ev : vs = [sv a, sv b] := ev
    subst ev
    have ha : Vec a := hd.1
    have hb : Vec b := hd.2
    refine ⟨_, (pss_cons (ps_if (pt_not (pt_val (pe_fn C_both_known (hr.mono (by decide)) (by rfl) (pa_cons (pv 0) (pa_cons (pv 1) pa_nil)))))
      (pss_one (ps_ret pe_str)) pss_nil)
      (pss_one (ps_ret (pe_fn C_bit (hr.mono (by decide)) (by rfl) (pa_cons (pe_cmpR op_le (pe_callTy call_int_bin (by rfl) T.int (by decide +kernel) (pa_cons (pv 0) (pa_cons pe_int pa_nil))) (pe_callTy call_int_bin (by rfl) T.int (by decide +kernel) (pa_cons (pv 1) (pa_cons pe_int pa_nil))) (nomark _)) pa_nil))))), ?_⟩
    refine st_if (b := !(kn a && kn b)) (et_not (et_B (ev_call (a, b) (ea_cons (ev_var rfl) (ea_cons (ev_var rfl) ea_nil)) trivial))) (Ex.refl g) ?_ ?_
    · intro H2 e2 h
      refine st_ret (ev_is (ev_s lt_x) ?_) e2 q
      have hk : (kn a && kn b) = false := not_t h
      show _ = sv (truthB (kn a && kn b) _)
      rw [hk]
      rfl
    intro H2 e2 h
    dsimp only [tNext]
    have hk : (kn a && kn b) = true := not_f h
    have hka : kn a = true := (Bool.and_eq_true_iff.mp hk).1
    have hkb : kn b = true := (Bool.and_eq_true_iff.mp hk).2
    refine st_ret (v := sv (bitB (decide ((val a : Int) ≤ (val b : Int))))) ?_ e2 ?_
    · exact ev_call (decide ((val a : Int) ≤ (val b : Int))) (ea_cons (ev_op (ev_is (ev_cb (ea_cons (ev_var rfl) (ea_cons ev_c ea_nil)) (rc_bin (vec_ne ha) (Nat.le_trans ha.le (by decide)) (kn_bin hka))) (congrArg (fun n : Nat => V.int (n : Int)) (val_eq hka))) (ev_is (ev_cb (ea_cons (ev_var rfl) (ea_cons ev_c ea_nil)) (rc_bin (vec_ne hb) (Nat.le_trans hb.le (by decide)) (kn_bin hkb))) (congrArg (fun n : Nat => V.int (n : Int)) (val_eq hkb))) rv_I0) ea_nil) trivial
    · have e : truthB (kn a && kn b) (decide ((val a : Int) ≤ (val b : Int))) = bitB (decide ((val a : Int) ≤ (val b : Int))) := by
        rw [hk]
        rfl
      show ∀ H', Ex Ts H H' → Q (sv (bitB (decide ((val a : Int) ≤ (val b : Int))))) H'
      rw [← e]
      exact q

abbrev sp_equal (K : PySem.W.Frag) (Ts : List Addr) : Sp := FnV Ts (fun x : List Nat × List Nat => [sv x.1, sv x.2]) (fun x => Vec x.1 ∧ Vec x.2) fun x => sv (truthB (kn x.1 && kn x.2) (decide (V.int (val x.1 : Nat) = V.int (val x.2 : Nat))))
theorem ok_equal {f : Addr} {fd : FuncData} (F : Fun K "equal" "equal" s_equal f fd) (T : Txt mg K w pA pO pX pN) (C_bit : Callee P w K mg base "_bit" 1 ["holds"] (sp_bit K Ts)) (C_both_known : Callee P w K mg base "_both_known" 3 ["one", "two"] (sp_both_known K Ts)) :
    FnOk P w K mg base CX0 4 f fd ["one", "two"] (sp_equal K Ts) := by
  refine F.ok sc_equal (fun vs H Q E h => ?_) (fun cdv A outer s H vs Q E hr h => ?_)
  · obtain ⟨x, rfl, _⟩ := h
    rfl
  · obtain ⟨⟨a, b⟩, ev, hd, g, q⟩ := h
    replace ev : vs = [sv a, sv b] := ev
    subst ev
    have ha : Vec a := hd.1
    have hb : Vec b := hd.2
    refine ⟨_, (pss_cons (ps_if (pt_not (pt_val (pe_fn C_both_known (hr.mono (by decide)) (by rfl) (pa_cons (pv 0) (pa_cons (pv 1) pa_nil)))))
      (pss_one (ps_ret pe_str)) pss_nil)
      (pss_one (ps_ret (pe_fn C_bit (hr.mono (by decide)) (by rfl) (pa_cons (pe_cmpR op_eq (pe_callTy call_int_bin (by rfl) T.int (by decide +kernel) (pa_cons (pv 0) (pa_cons pe_int pa_nil))) (pe_callTy call_int_bin (by rfl) T.int (by decide +kernel) (pa_cons (pv 1) (pa_cons pe_int pa_nil))) (nomark _)) pa_nil))))), ?_⟩
    refine st_if (b := !(kn a && kn b)) (et_not (et_B (ev_call (a, b) (ea_cons (ev_var rfl) (ea_cons (ev_var rfl) ea_nil)) trivial))) (Ex.refl g) ?_ ?_
    · intro H2 e2 h
      refine st_ret (ev_is (ev_s lt_x) ?_) e2 q
      have hk : (kn a && kn b) = false := not_t h
      show _ = sv (truthB (kn a && kn b) _)
      rw [hk]
      rfl
    intro H2 e2 h
    dsimp only [tNext]
    have hk : (kn a && kn b) = true := not_f h
    have hka : kn a = true := (Bool.and_eq_true_iff.mp hk).1
    have hkb : kn b = true := (Bool.and_eq_true_iff.mp hk).2
    refine st_ret (v := sv (bitB (decide (V.int (val a : Nat) = V.int (val b : Nat))))) ?_ e2 ?_
    · exact ev_call (decide (V.int (val a : Nat) = V.int (val b : Nat))) (ea_cons (ev_op (ev_is (ev_cb (ea_cons (ev_var rfl) (ea_cons ev_c ea_nil)) (rc_bin (vec_ne ha) (Nat.le_trans ha.le (by decide)) (kn_bin hka))) (congrArg (fun n : Nat => V.int (n : Int)) (val_eq hka))) (ev_is (ev_cb (ea_cons (ev_var rfl) (ea_cons ev_c ea_nil)) (rc_bin (vec_ne hb) (Nat.le_trans hb.le (by decide)) (kn_bin hkb))) (congrArg (fun n : Nat => V.int (n : Int)) (val_eq hkb))) (rv_eq rfl)) ea_nil) trivial
    · have e : truthB (kn a && kn b) (decide (V.int (val a : Nat) = V.int (val b : Nat))) = bitB (decide (V.int (val a : Nat) = V.int (val b : Nat))) := by
        rw [hk]
        rfl
      show ∀ H', Ex Ts H H' → Q (sv (bitB (decide (V.int (val a : Nat) = V.int (val b : Nat))))) H'
      rw [← e]
      exact q

abbrev sp_not_equal (K : PySem.W.Frag) (Ts : List Addr) : Sp := FnV Ts (fun x : List Nat × List Nat => [sv x.1, sv x.2]) (fun x => Vec x.1 ∧ Vec x.2) fun x => sv (truthB (kn x.1 && kn x.2) (!decide (V.int (val x.1 : Nat) = V.int (val x.2 : Nat))))
theorem ok_not_equal {f : Addr} {fd : FuncData} (F : Fun K "not_equal" "not_equal" s_not_equal f fd) (T : Txt mg K w pA pO pX pN) (C_bit_not : Callee P w K mg base "bit_not" 1 ["vector"] (sp_bit_not K Ts)) (C_equal : Callee P w K mg base "equal" 4 ["one", "two"] (sp_equal K Ts)) :
    FnOk P w K mg base CX0 5 f fd ["one", "two"] (sp_not_equal K Ts) := by
  refine F.ok sc_not_equal (fun vs H Q E h => ?_) (fun cdv A outer s H vs Q E hr h => ?_)
  · obtain ⟨x, rfl, _⟩ := h
    rfl
  · obtain ⟨⟨a, b⟩, ev, hd, g, q⟩ := h
    replace ev : vs = [sv a, sv b] := ev
    subst ev
    refine ⟨_, (pss_one (ps_ret (pe_fn C_bit_not (hr.mono (by decide)) (by rfl) (pa_cons (pe_fn C_equal (hr.mono (by decide)) (by rfl) (pa_cons (pv 0) (pa_cons (pv 1) pa_nil))) pa_nil)))), ?_⟩
    refine st_ret (ev_is (ev_call (truthB (kn a && kn b) (decide (V.int (val a : Nat) = V.int (val b : Nat)))) (ea_cons (ev_call (a, b) (ea_cons (ev_var rfl) (ea_cons (ev_var rfl) ea_nil)) hd) ea_nil) (truthB_vec _ _)) (congrArg sv ?_)) (Ex.refl g) q
    generalize decide (V.int (val a : Nat) = V.int (val b : Nat)) = h
    generalize (kn a && kn b) = k
    cases k <;> cases h <;> rfl

def shN (v i : List Nat) : Nat := min (val i) v.length
def shlB (v i : List Nat) : List Nat := if kn i then v.drop (shN v i) ++ List.replicate (shN v i) 48 else List.replicate v.length 120
def shrB (v i : List Nat) : List Nat := if kn i then List.replicate (shN v i) 48 ++ v.take (v.length - shN v i) else List.replicate v.length 120
theorem shN_min (v i : List Nat) : (if (v.length : Int) < ((val i : Nat) : Int) then (v.length : Int) else ((val i : Nat) : Int)) = ((shN v i : Nat) : Int) := by
  unfold shN
  split <;> omega
theorem shN_le (v i : List Nat) : shN v i ≤ v.length := Nat.min_le_right _ _
theorem shl_law {v i : List Nat} (h : kn i = true) : (v ++ List.replicate (val i) 48).drop ((v ++ List.replicate (val i) 48).length - v.length) = shlB v i := by
  unfold shlB
  rw [if_pos h]
  have e : (v ++ List.replicate (val i) 48).length - v.length = val i := by
    rw [List.length_append, List.length_replicate]
    omega
  rw [e]
  unfold shN
  by_cases hl : val i ≤ v.length
  · rw [Nat.min_eq_left hl, List.drop_append_of_le_length hl]
  · rw [Nat.min_eq_right (by omega), List.drop_of_length_le (Nat.le_refl v.length), List.drop_append, List.drop_of_length_le (show v.length ≤ val i by omega), List.drop_replicate]
    congr 2
    omega
theorem shr_law {v i : List Nat} (h : kn i = true) : (List.replicate (val i) 48 ++ v).take v.length = shrB v i := by
  unfold shrB
  rw [if_pos h]
  unfold shN
  by_cases hl : val i ≤ v.length
  · rw [Nat.min_eq_left hl, List.take_append, List.length_replicate, List.take_of_length_le (by rw [List.length_replicate]; exact hl)]
  · rw [Nat.min_eq_right (by omega), Nat.sub_self, List.take_zero, List.append_nil, List.take_append_of_le_length (by rw [List.length_replicate]; omega), List.take_replicate]
    congr 1
    omega

abbrev sp_shift_left (K : PySem.W.Frag) (Ts : List Addr) : Sp := FnV Ts (fun x : List Nat × List Nat => [sv x.1, sv x.2]) (fun x => Vec x.1 ∧ Vec x.2 ∧ x.2.length ≤ 8) fun x => sv (shlB x.1 x.2)
theorem ok_shift_left {f : Addr} {fd : FuncData} (F : Fun K "shift_left" "shift_left" s_shift_left f fd) (T : Txt mg K w pA pO pX pN) (C_is_known : Callee P w K mg base "is_known" 2 ["vector"] (sp_is_known K Ts)) :
    FnOk P w K mg base CX0 3 f fd ["vector", "amount"] (sp_shift_left K Ts) := by
  refine F.ok sc_shift_left (fun vs H Q E h => ?_) (fun cdv A outer s H vs Q E hr h => ?_)
  · obtain ⟨x, rfl, _⟩ := h
    rfl
  · obtain ⟨⟨a, b⟩, ev, hd, g, q⟩ := h
    replace ev : vs = [sv a, sv b] := ev
    subst ev
    have ha : Vec a := hd.1
    have hb : Vec b := hd.2.1
    have hb8 : b.length ≤ 8 := hd.2.2
    have hal : a.length ≤ 64 := ha.le
    have hvb : val b < 2 ^ 8 := val_le hb8
    have hsh : shN a b ≤ a.length := shN_le a b
    refine ⟨_, (pss_cons (ps_set (i := 2) sc_shift_left.nd rfl (.inl rfl) (pe_callB call_len_str (by rfl) T.len PySem.boot_len (pa_cons (pv 0) pa_nil)))
      (pss_cons (ps_if (pt_not (pt_val (pe_fn C_is_known (hr.mono (by decide)) (by rfl) (pa_cons (pv 1) pa_nil))))
      (pss_one (ps_ret (pe_op op_mulS pe_str (pv 2)))) pss_nil)
      (pss_cons (ps_set (i := 3) sc_shift_left.nd rfl (.inl rfl) (pe_callB (call_min2 rfl) (by rfl) T.min (by decide +kernel) (pa_cons (pe_callTy call_int_bin (by rfl) T.int (by decide +kernel) (pa_cons (pv 1) (pa_cons pe_int pa_nil))) (pa_cons (pv 2) pa_nil))))
      (pss_one (ps_ret (pe_op op_add_str (pe_slice sl_str (pv 0) (po_some (pv 3)) po_none) (pe_op op_mulS pe_str (pv 3)))))))), ?_⟩
    refine st_set (v := .int (a.length : Nat)) (ev_cb (ea_cons (ev_var rfl) ea_nil) (rc_lenS (Nat.le_trans ha.le (by decide)))) (Ex.refl g) ?_
    intro H1 e1
    dsimp only
    refine st_if (b := !(kn b)) (et_not (et_B (ev_call b (ea_cons (ev_var rfl) ea_nil) trivial))) e1 ?_ ?_
    · intro H2 e2 h
      refine st_ret (ev_is (v := sv (List.replicate ((a.length : Nat) : Int).toNat 120)) (ev_op (ev_s lt_x) (ev_var rfl) (rv_mulS (by omega) (by omega))) (congrArg sv ?_)) e2 q
      have hk : kn b = false := not_t h
      show _ = shlB a b
      unfold shlB
      rw [hk]
      rfl
    intro H2 e2 h
    dsimp only [tNext]
    have hkb : kn b = true := not_f h
    refine st_set (v := .int (shN a b : Nat)) ?_ e2 ?_
    · refine ev_is (v := .int (if (a.length : Int) < ((val b : Nat) : Int) then (a.length : Int) else ((val b : Nat) : Int))) ?_ (congrArg V.int (shN_min a b))
      exact ev_cb (ea_cons (ev_is (ev_cb (ea_cons (ev_var rfl) (ea_cons ev_c ea_nil)) (rc_bin (vec_ne hb) (Nat.le_trans hb.le (by decide)) (kn_bin hkb))) (congrArg (fun n : Nat => V.int (n : Int)) (val_eq hkb))) (ea_cons (ev_var rfl) ea_nil)) rc_min
    intro H3 e3
    dsimp only
    refine st_ret (ev_is (v := sv (a.drop (shN a b) ++ List.replicate ((shN a b : Nat) : Int).toNat 48)) ?_ ?_) e3 q
    · refine ev_op (ev_slS (Nat.le_trans hal (by decide)) (ev_var rfl) (eo_some (ev_var rfl)) eo_none (cutS_from (shN_le a b))) (ev_op (ev_s lt_0) (ev_var rfl) (rv_mulS (by omega) (by omega))) (rv_addS ?_)
      rw [List.length_drop, List.length_replicate]
      omega
    · refine congrArg sv ?_
      show _ = shlB a b
      unfold shlB
      rw [if_pos hkb]
      rfl

abbrev sp_shift_right (K : PySem.W.Frag) (Ts : List Addr) : Sp := FnV Ts (fun x : List Nat × List Nat => [sv x.1, sv x.2]) (fun x => Vec x.1 ∧ Vec x.2 ∧ x.2.length ≤ 8) fun x => sv (shrB x.1 x.2)
theorem ok_shift_right {f : Addr} {fd : FuncData} (F : Fun K "shift_right" "shift_right" s_shift_right f fd) (T : Txt mg K w pA pO pX pN) (C_is_known : Callee P w K mg base "is_known" 2 ["vector"] (sp_is_known K Ts)) :
    FnOk P w K mg base CX0 3 f fd ["vector", "amount"] (sp_shift_right K Ts) := by
  refine F.ok sc_shift_right (fun vs H Q E h => ?_) (fun cdv A outer s H vs Q E hr h => ?_)
  · obtain ⟨x, rfl, _⟩ := h
    rfl
  · obtain ⟨⟨a, b⟩, ev, hd, g, q⟩ := h
    replace ev : vs = [sv a, sv b] := ev
    subst ev
    have ha : Vec a := hd.1
    have hb : Vec b := hd.2.1
    have hb8 : b.length ≤ 8 := hd.2.2
    have hal : a.length ≤ 64 := ha.le
    have hvb : val b < 2 ^ 8 := val_le hb8
    have hsh : shN a b ≤ a.length := shN_le a b
    refine ⟨_, (pss_cons (ps_set (i := 2) sc_shift_right.nd rfl (.inl rfl) (pe_callB call_len_str (by rfl) T.len PySem.boot_len (pa_cons (pv 0) pa_nil)))
      (pss_cons (ps_if (pt_not (pt_val (pe_fn C_is_known (hr.mono (by decide)) (by rfl) (pa_cons (pv 1) pa_nil))))
      (pss_one (ps_ret (pe_op op_mulS pe_str (pv 2)))) pss_nil)
      (pss_cons (ps_set (i := 3) sc_shift_right.nd rfl (.inl rfl) (pe_callB (call_min2 rfl) (by rfl) T.min (by decide +kernel) (pa_cons (pe_callTy call_int_bin (by rfl) T.int (by decide +kernel) (pa_cons (pv 1) (pa_cons pe_int pa_nil))) (pa_cons (pv 2) pa_nil))))
      (pss_one (ps_ret (pe_op op_add_str (pe_op op_mulS pe_str (pv 3)) (pe_slice sl_str (pv 0) po_none (po_some (pe_op op_sub (pv 2) (pv 3)))))))))), ?_⟩
    refine st_set (v := .int (a.length : Nat)) (ev_cb (ea_cons (ev_var rfl) ea_nil) (rc_lenS (Nat.le_trans ha.le (by decide)))) (Ex.refl g) ?_
    intro H1 e1
    dsimp only
    refine st_if (b := !(kn b)) (et_not (et_B (ev_call b (ea_cons (ev_var rfl) ea_nil) trivial))) e1 ?_ ?_
    · intro H2 e2 h
      refine st_ret (ev_is (v := sv (List.replicate ((a.length : Nat) : Int).toNat 120)) (ev_op (ev_s lt_x) (ev_var rfl) (rv_mulS (by omega) (by omega))) (congrArg sv ?_)) e2 q
      have hk : kn b = false := not_t h
      show _ = shrB a b
      unfold shrB
      rw [hk]
      rfl
    intro H2 e2 h
    dsimp only [tNext]
    have hkb : kn b = true := not_f h
    refine st_set (v := .int (shN a b : Nat)) ?_ e2 ?_
    · refine ev_is (v := .int (if (a.length : Int) < ((val b : Nat) : Int) then (a.length : Int) else ((val b : Nat) : Int))) ?_ (congrArg V.int (shN_min a b))
      exact ev_cb (ea_cons (ev_is (ev_cb (ea_cons (ev_var rfl) (ea_cons ev_c ea_nil)) (rc_bin (vec_ne hb) (Nat.le_trans hb.le (by decide)) (kn_bin hkb))) (congrArg (fun n : Nat => V.int (n : Int)) (val_eq hkb))) (ea_cons (ev_var rfl) ea_nil)) rc_min
    intro H3 e3
    dsimp only
    refine st_ret (ev_is (v := sv (List.replicate ((shN a b : Nat) : Int).toNat 48 ++ a.take (a.length - shN a b))) ?_ ?_) e3 q
    · refine ev_op (ev_op (ev_s lt_0) (ev_var rfl) (rv_mulS (by omega) (by omega))) (ev_slS (Nat.le_trans hal (by decide)) (ev_var rfl) eo_none (eo_some (ev_is (v := .int ((a.length : Int) - (shN a b : Int))) (ev_op (ev_var rfl) (ev_var rfl) rv_I0) (congrArg V.int (show (a.length : Int) - (shN a b : Int) = ((a.length - shN a b : Nat) : Int) by omega)))) (cutS_to a _)) (rv_addS ?_)
      rw [List.length_take, List.length_replicate]
      omega
    · refine congrArg sv ?_
      show _ = shrB a b
      unfold shrB
      rw [if_pos hkb]
      rfl

end
end K44
set_option Elab.async false
set_option linter.all false
set_option maxRecDepth 100000
set_option maxHeartbeats 2000000
namespace K44
open PySem PySem.Spec PyProof.Rows L2 Cw
open GxR (TabG Tabbed TabB GenS)
local macro_rules | `(tactic| walk_at "ev") => `(tactic| first
  | exact ev_var rfl
  | exact ev_s lt_0 | exact ev_s lt_b | exact ev_s lt_1 | exact ev_s lt_01 | exact ev_s lt_e | exact ev_s lt_x | exact ev_s lt_01xxzz | exact ev_s lt_01xz | exact ev_s lt_10
  | exact ev_c
  | (apply ev_op <;> walk_at "ev")
  | exact rv_I0 | (refine rv_I ?_; first | omega | decide | assumption)
  | exact rv_eq rfl | exact rv_ne rfl | exact rv_inS | exact rv_niS
  | (refine rv_addS ?_; first | assumption | omega | decide)
  | (refine rv_mulS ?_ ?_ <;> first | assumption | omega | decide)
  | (apply ev_cb <;> walk_at "ev")
  | (refine rc_lenS ?_; first | assumption | omega | decide)
  | exact rc_max | exact rc_abs | exact rc_intI | exact rc_intB | exact rc_min
  | exact ea_nil
  | (apply ea_cons <;> walk_at "ev")
  | (apply et_and; walk_at "ev"; intro _; walk_at "ev")
  | (apply et_or; walk_at "ev"; intro _; walk_at "ev")
  | (apply et_not; walk_at "ev")
  | (apply et_test; walk_at "ev")
  | (apply et_B; walk_at "ev"))
section
variable {P : Program} {w : World} {K : PySem.W.Frag} {mg : Str → Option Value} {base : Heap} {pA pO pX pN : Addr} {Ts : List Addr}
abbrev sp_is_refined (K : PySem.W.Frag) (Ts : List Addr) : Sp := FnV Ts (fun x : List Nat × List Nat => [sv x.1, sv x.2]) (fun x => x.1.length ≤ 1000 ∧ x.2.length ≤ 1000) fun x => .bl (irB x.1 x.2)
theorem ok_is_refined {f c Pt : Addr} {oc : Value} {od an : Option Addr} {osl : Array (Option Value)} {kV doc pm ct : Value}
    (lk : K.lookup f = some ⟨oc, od, .func (PySem.W.fnOf "is_refined" "is_refined" (defArgs s_is_refined) (defBody s_is_refined) (defScope s_is_refined) .none kV doc pm an (.ref c) ct), osl⟩) (hcd : PySem.W.codeIn K (.ref c) "is_refined" = true)
    (TB : TabB base mg c Pt) (hP : Pt ∈ Ts) (T : Txt mg K w pA pO pX pN) :
    FnOk P w K mg base CX0 1 f (PySem.W.fnOf "is_refined" "is_refined" (defArgs s_is_refined) (defBody s_is_refined) (defScope s_is_refined) .none kV doc pm an (.ref c) ct) ["vector", "other"] (sp_is_refined K Ts) := by
  refine fn_of (k := 0) lk hcd sc_is_refined (fun vs H Q E h => ?_) (fun A outer s H vs Q E hr h => ?_)
  · obtain ⟨x, rfl, _⟩ := h
    rfl
  · obtain ⟨⟨a, b⟩, ev, hd, g, q⟩ := h
    replace ev : vs = [sv a, sv b] := ev
    subst ev
    have h1 : a.length ≤ 1000 := hd.1
    have h2 : b.length ≤ 1000 := hd.2
    have hcode : (cxOf CX0 P w K mg base ["vector", "other"] "is_refined" (defScope s_is_refined) f (.ref c) A outer s H E).nox.env.code = .ref c := rfl
    refine ⟨_, PSs.nox (pss_cons (ps_if (pt_cmpR op_ne (pe_callB call_len_str (by rfl) T.len PySem.boot_len (pa_cons (pv 0) pa_nil)) (pe_callB call_len_str (by rfl) T.len PySem.boot_len (pa_cons (pv 1) pa_nil)) (nomark _))
      (pss_one (ps_ret pe_bl)) pss_nil)
      (pss_one (ps_ret (pe_allZ hr (by rfl) T.all (by decide +kernel) (by rfl) T.zip TB hcode (GenZ.mk rfl rfl (by decide +kernel) rfl rfl rfl (by decide +kernel)) (pa_cons (pv 0) (pa_cons (pv 1) pa_nil)) (by decide) (elt_fine rfl rfl rfl) (fun _ => rfl))))), ?_⟩
    refine st_if (b := !decide (V.int (a.length : Nat) = V.int (b.length : Nat))) (et_test (ev_op (ev_cb (ea_cons (ev_var rfl) ea_nil) (rc_lenS (by omega))) (ev_cb (ea_cons (ev_var rfl) ea_nil) (rc_lenS (by omega))) (rv_ne rfl))) (Ex.refl g) ?_ ?_
    · intro H1 e1 h
      have hn := of_decide_eq_false (not_t h)
      refine st_ret (ev_is ev_c (congrArg V.bl ?_)) e1 q
      exact (ir_len fun z => hn (by rw [z])).symm
    intro H1 e1 h
    dsimp only [tNext]
    have hn := V.int.inj (of_decide_eq_true (not_f h))
    refine st_ret (ev_is (ev_allZ hP (ea_cons (ev_var rfl) (ea_cons (ev_var rfl) ea_nil))) (congrArg V.bl ?_)) e1 q
    show _ = irB a b
    unfold irB
    rw [decide_eq_true (show a.length = b.length by omega), Bool.true_and]
    rfl

def sg6 (z : Int) : Nat := [48, 49, 120, 120, 122, 122].getD z.toNat 0
def sg4 (z : Int) : Nat := [48, 49, 120, 122].getD z.toNat 0
def sg2 (z : Int) : Nat := [48, 49].getD z.toNat 0
theorem sg6_at {z : Int} (h0 : 0 ≤ z) (h1 : z < 6) : atI [48, 49, 120, 120, 122, 122] z = some (sg6 z) ∧ IsB (sg6 z) := by
  have e : z = 0 ∨ z = 1 ∨ z = 2 ∨ z = 3 ∨ z = 4 ∨ z = 5 := by omega
  rcases e with rfl | rfl | rfl | rfl | rfl | rfl <;> exact ⟨rfl, by decide⟩
theorem sg4_at {z : Int} (h0 : 0 ≤ z) (h1 : z < 4) : atI [48, 49, 120, 122] z = some (sg4 z) ∧ IsB (sg4 z) := by
  have e : z = 0 ∨ z = 1 ∨ z = 2 ∨ z = 3 := by omega
  rcases e with rfl | rfl | rfl | rfl <;> exact ⟨rfl, by decide⟩
theorem sg2_at {z : Int} (h0 : 0 ≤ z) (h1 : z < 2) : atI [48, 49] z = some (sg2 z) ∧ IsB (sg2 z) := by
  have e : z = 0 ∨ z = 1 := by omega
  rcases e with rfl | rfl <;> exact ⟨rfl, by decide⟩
theorem at_ints {ms : List Int} {k : Nat} (h : k < ms.length) : atI (ms.map V.int) (k : Int) = some (.int (ms.getD k 0)) := by
  refine atI_nat ?_
  rw [List.getElem?_map, List.getD_eq_getElem?_getD, List.getElem?_eq_getElem h]
  rfl
theorem ite_sv (b : Bool) (x y : Nat) : (if b then sv [x] else sv [y]) = sv [if b then x else y] := by
  cases b <;> rfl
theorem st_ifset {σ : L2.St} {H H0 : Hp} {D : Ends} {tc : TT} {te : TE} {i : Nat} {b : Bool} {v1 v0 : V} (h : EvT Ts tc σ H0 b) (h0 : σ[i]? = some (some v0)) (hv : Ev Ts te σ H0 v1) (e : Ex Ts H0 H) (k : ∀ H2, Ex Ts H0 H2 → D.nx (σ.set i (some (if b then v1 else v0))) H2) :
    tIfS tc (tAsg te (gName i)) tNext D σ H := st_if h e (fun H2 e2 hb => by
      subst hb
      exact st_set hv e2 fun H3 e3 => k H3 e3) fun H2 e2 hb => by
      subst hb
      have z : σ.set i (some v0) = σ := by
        obtain ⟨hi, hx⟩ := List.getElem?_eq_some_iff.mp h0
        rw [← hx]
        exact List.set_getElem_self hi
      have kk := k H2 e2
      rw [if_neg Bool.false_ne_true, z] at kk
      exact kk
theorem all_snoc {a : List Nat} {c : Nat} (h : AllB a) (hc : IsB c) : AllB (a ++ [c]) := by
  intro x hx
  rcases List.mem_append.mp hx with q | q
  · exact h x q
  · rw [List.mem_singleton.mp q]
    exact hc

abbrev sp_law_pair (K : PySem.W.Frag) (Ts : List Addr) : Sp := FnS Ts (fun x : Addr × List Int × Nat × Bool => [.ref x.1, .int (x.2.2.1 : Nat), .bl x.2.2.2]) (fun x H => SqL K H x.1 (x.2.1.map V.int) ∧ 2 * x.2.2.1 ≤ x.2.1.length ∧ x.2.2.1 ≤ 64)
  fun x v H => ∃ p a b, v = .ref p ∧ p ∉ Ts ∧ H p = some (.tup [sv a, sv b]) ∧ AllB a ∧ AllB b ∧ Rfs a b ∧ a.length = x.2.2.1
theorem ok_law_pair {f : Addr} {fd : FuncData} (F : Fun K "_law_pair" "_law_pair" s_law_pair f fd) (T : Txt mg K w pA pO pX pN)  :
    FnOk P w K mg base CX0 1 f fd ["numbers", "size", "full"] (sp_law_pair K Ts) := by
  refine F.ok sc_law_pair (fun vs H Q E h => ?_) (fun cdv A outer s H vs Q E hr h => ?_)
  · obtain ⟨x, rfl, _⟩ := h
    rfl
  · obtain ⟨⟨l, ms, n, fl⟩, ev, hd, g, q⟩ := h
    replace ev : vs = [.ref l, .int (n : Nat), .bl fl] := ev
    subst ev
    have hS : SqL K H l (ms.map V.int) := hd.1
    have hn : 2 * n ≤ ms.length := hd.2.1
    have hn2 : n ≤ 64 := hd.2.2
    refine ⟨_, (pss_cons (ps_asg (pe_tup (pa_cons pe_str (pa_cons pe_str pa_nil))) (pg_tup rfl (pgs_cons (pg_name (i := 3) sc_law_pair.nd rfl (.inl rfl)) (pgs_cons (pg_name (i := 4) sc_law_pair.nd rfl (.inl rfl)) pgs_nil))))
      (pss_cons (ps_for PassesOwn.never rfl (pi_range1 rfl T.range (pa_cons (pv 1) pa_nil)) (pg_name (i := 5) sc_law_pair.nd rfl (.inl rfl))
      (pss_cons (ps_set (i := 6) sc_law_pair.nd rfl (.inl rfl) (pe_ix ix_str pe_str (pe_op op_mod (pe_ix ix_list (pv 0) (pe_op op_mul pe_int (pv 5)) (fun _ _ => rfl)) pe_int) (fun _ _ => rfl)))
      (pss_cons (ps_set (i := 7) sc_law_pair.nd rfl (.inl rfl) (pe_ix ix_str pe_str (pe_op op_mod (pe_ix ix_list (pv 0) (pe_op op_add (pe_op op_mul pe_int (pv 5)) pe_int) (fun _ _ => rfl)) pe_int) (fun _ _ => rfl)))
      (pss_cons (ps_if (pt_val (pv 2))
      (pss_one (ps_set (i := 7) sc_law_pair.nd rfl (.inl rfl) (pe_ix ix_str pe_str (pe_op op_mod (pe_ix ix_list (pv 0) (pe_op op_add (pe_op op_mul pe_int (pv 5)) pe_int) (fun _ _ => rfl)) pe_int) (fun _ _ => rfl)))) pss_nil)
      (pss_cons (ps_set (i := 3) sc_law_pair.nd rfl (.inl rfl) (pe_op op_add_str (pv 3) (pv 6)))
      (pss_cons (ps_if (pt_cmpR op_in_sign (pv 6) pe_str rfl)
      (pss_one (ps_set (i := 7) sc_law_pair.nd rfl (.inl rfl) (pv 6))) pss_nil)
      (pss_one (ps_set (i := 4) sc_law_pair.nd rfl (.inl rfl) (pe_op op_add_str (pv 4) (pv 7))))))))))
      (pss_one (ps_ret (pe_tup (pa_cons (pv 3) (pa_cons (pv 4) pa_nil))))))), ?_⟩
    refine st_pair (x := sv []) (y := sv []) (en_tup (ea_cons (ev_s lt_e) (ea_cons (ev_s lt_e) ea_nil)) (by show 2 ≤ 100000; decide)) (Ex.refl g) ?_
    intro H1 e1
    dsimp only
    refine st_forR (n := n) (ev_var rfl) (by omega) e1 (fun i σ H2 => ∃ (a b : List Nat) (k s f : Option V), σ = [some (.ref l), some (.int (n : Nat)), some (.bl fl), some (sv a), some (sv b), k, s, f] ∧ Ex Ts H H2 ∧ AllB a ∧ AllB b ∧ Rfs a b ∧ a.length = i) ?_ ?_ ?_
    · intro H2 e2
      exact ⟨[], [], none, none, none, rfl, e1.trans e2, fun c hc => (by cases hc), fun c hc => (by cases hc), .nil, rfl⟩
    · rintro i σ H2 N hi ⟨a, b, k, s, f, rfl, e2, hA, hB, hR, hl⟩ hN
      have hal : a.length ≤ 64 := by omega
      have hbl : b.length ≤ 64 := by rw [← hR.len]; exact hal
      have s0 : 0 ≤ ms.getD (2 * i) 0 % 6 := Int.emod_nonneg _ (by decide)
      have s1 : ms.getD (2 * i) 0 % 6 < 6 := Int.emod_lt_of_pos _ (by decide)
      have f0 : 0 ≤ ms.getD (2 * i + 1) 0 % 4 := Int.emod_nonneg _ (by decide)
      have f1 : ms.getD (2 * i + 1) 0 % 4 < 4 := Int.emod_lt_of_pos _ (by decide)
      have g0 : 0 ≤ ms.getD (2 * i + 1) 0 % 2 := Int.emod_nonneg _ (by decide)
      have g1 : ms.getD (2 * i + 1) 0 % 2 < 2 := Int.emod_lt_of_pos _ (by decide)
      obtain ⟨p1, p2⟩ := sg6_at s0 s1
      obtain ⟨p3, p4⟩ := sg4_at f0 f1
      obtain ⟨p5, p6⟩ := sg2_at g0 g1
      have i1 : (2 : Int) * (i : Int) = ((2 * i : Nat) : Int) := by omega
      have i2 : (2 : Int) * (i : Int) + 1 = ((2 * i + 1 : Nat) : Int) := by omega
      refine st_set (v := sv [sg6 (ms.getD (2 * i) 0 % 6)]) (ev_op (ev_s lt_01xxzz) (ev_op (ev_op (ev_var rfl) (ev_is (v := .int (2 * (i : Int))) (ev_op ev_c (ev_var rfl) (rv_I (Or.inl ⟨by decide, by decide⟩))) (congrArg V.int i1)) (rv_ixL g hS (at_ints (by omega)))) ev_c (rv_I (by decide))) (rv_ixS (by decide) p1)) e2 ?_
      intro H3 e3
      dsimp only
      refine st_set (v := sv [sg4 (ms.getD (2 * i + 1) 0 % 4)]) (ev_op (ev_s lt_01xz) (ev_op (ev_op (ev_var rfl) (ev_is (v := .int (2 * (i : Int) + 1)) (ev_op (ev_op ev_c (ev_var rfl) (rv_I (Or.inl ⟨by decide, by decide⟩))) ev_c rv_I0) (congrArg V.int i2)) (rv_ixL g hS (at_ints (by omega)))) ev_c (rv_I (by decide))) (rv_ixS (by decide) p3)) e3 ?_
      intro H4 e4
      dsimp only
      refine st_ifset (b := fl) (v1 := sv [sg2 (ms.getD (2 * i + 1) 0 % 2)]) (et_B (ev_var rfl)) rfl (ev_op (ev_s lt_01) (ev_op (ev_op (ev_var rfl) (ev_is (v := .int (2 * (i : Int) + 1)) (ev_op (ev_op ev_c (ev_var rfl) (rv_I (Or.inl ⟨by decide, by decide⟩))) ev_c rv_I0) (congrArg V.int i2)) (rv_ixL g hS (at_ints (by omega)))) ev_c (rv_I (by decide))) (rv_ixS (by decide) p5)) e4 ?_
      intro H5 e5
      dsimp only
      rw [ite_sv]
      have hfr : IsB (if fl then sg2 (ms.getD (2 * i + 1) 0 % 2) else sg4 (ms.getD (2 * i + 1) 0 % 4)) := by
        cases fl
        · exact p4
        · exact p6
      generalize (if fl then sg2 (ms.getD (2 * i + 1) 0 % 2) else sg4 (ms.getD (2 * i + 1) 0 % 4)) = fr at hfr ⊢
      generalize sg6 (ms.getD (2 * i) 0 % 6) = sg at p2 ⊢
      refine st_set (v := sv (a ++ [sg])) (ev_op (ev_var rfl) (ev_var rfl) (rv_addS (by rw [List.length_singleton]; omega))) e5 ?_
      intro H6 e6
      dsimp only
      refine st_ifset (b := decide (sg ∈ [48, 49])) (v1 := sv [sg]) (et_test (ev_op (ev_var rfl) (ev_s lt_01) rv_inS)) rfl (ev_var rfl) e6 ?_
      intro H7 e7
      dsimp only
      rw [ite_sv]
      have hr1 : rf1 sg (if decide (sg ∈ [48, 49]) then sg else fr) := by
        intro hx
        rw [if_pos (decide_eq_true (by simpa using hx))]
      have hfr2 : IsB (if decide (sg ∈ [48, 49]) then sg else fr) := by
        split
        · exact p2
        · exact hfr
      generalize (if decide (sg ∈ [48, 49]) then sg else fr) = fr2 at hr1 hfr2 ⊢
      refine st_set (v := sv (b ++ [fr2])) (ev_op (ev_var rfl) (ev_var rfl) (rv_addS (by rw [List.length_singleton]; omega))) e7 ?_
      intro H8 e8
      exact hN _ _ ⟨a ++ [sg], b ++ [fr2], _, _, _, rfl, e8, all_snoc hA p2, all_snoc hB hfr2, hR.append (Rfs.one hr1), by rw [List.length_append, List.length_singleton, hl]⟩
    · rintro σ H2 ⟨a, b, k, s, f, rfl, e2, hA, hB, hR, hl⟩
      refine st_retN (R := .tup [sv a, sv b]) (en_tup (ea_cons (ev_var rfl) (ea_cons (ev_var rfl) ea_nil)) (by show 2 ≤ 100000; decide)) e2 ?_
      intro p H3 _ np e3 hp
      exact q (.ref p) H3 e3 ⟨p, a, b, rfl, np, hp, hA, hB, hR, hl⟩

abbrev sp_law_refines (K : PySem.W.Frag) (Ts : List Addr) : Sp := FnV Ts (fun x : List Nat × List Nat => [sv x.1, sv x.2]) (fun x => x.1.length ≤ 1000 ∧ Rfs x.1 x.2) fun _ => .bl true
theorem ok_law_refines {f : Addr} {fd : FuncData} (F : Fun K "_law_refines" "_law_refines" s_law_refines f fd) (T : Txt mg K w pA pO pX pN) (C_is_refined : Callee P w K mg base "is_refined" 1 ["vector", "other"] (sp_is_refined K Ts)) :
    FnOk P w K mg base CX0 2 f fd ["one", "two"] (sp_law_refines K Ts) := by
  refine F.ok sc_law_refines (fun vs H Q E h => ?_) (fun cdv A outer s H vs Q E hr h => ?_)
  · obtain ⟨x, rfl, _⟩ := h
    rfl
  · obtain ⟨⟨a, b⟩, ev, hd, g, q⟩ := h
    replace ev : vs = [sv a, sv b] := ev
    subst ev
    have hal : a.length ≤ 1000 := hd.1
    have hR : Rfs a b := hd.2
    have hll := hR.len
    have hbl : b.length ≤ 1000 := by omega
    refine ⟨_, (pss_cons (ps_if (PW.pt (pw_or (pt_not (pt_val (pe_callB call_isi (by rfl) T.isinstance (by decide +kernel) (pa_cons (pv 0) (pa_cons (pe_ty (n := "str") (by rfl) T.str (by decide +kernel)) pa_nil))))) (pw_or (pt_not (pt_val (pe_callB call_isi (by rfl) T.isinstance (by decide +kernel) (pa_cons (pv 1) (pa_cons (pe_ty (n := "str") (by rfl) T.str (by decide +kernel)) pa_nil))))) (pw_or1 (pt_cmpR op_ne (pe_callB call_len_str (by rfl) T.len PySem.boot_len (pa_cons (pv 0) pa_nil)) (pe_callB call_len_str (by rfl) T.len PySem.boot_len (pa_cons (pv 1) pa_nil)) (nomark _))))))
      (pss_one (ps_ret pe_bl)) pss_nil)
      (pss_cons (ps_for PassesOwn.never rfl (pi_range1 rfl T.range (pa_cons (pe_callB call_len_str (by rfl) T.len PySem.boot_len (pa_cons (pv 0) pa_nil)) pa_nil)) (pg_name (i := 2) sc_law_refines.nd rfl (.inl rfl))
      (pss_one (ps_if (PW.pt (pw_and (pt_cmpR op_in_sign (pe_ix ix_str (pv 0) (pv 2) (fun _ _ => rfl)) pe_str rfl) (pw_and1 (pt_cmpR op_ne (pe_ix ix_str (pv 0) (pv 2) (fun _ _ => rfl)) (pe_ix ix_str (pv 1) (pv 2) (fun _ _ => rfl)) (nomark _)))))
      (pss_one (ps_ret pe_bl)) pss_nil)))
      (pss_one (ps_ret (pe_cmpR op_isBl (pe_fn C_is_refined (hr.mono (by decide)) (by rfl) (pa_cons (pv 0) (pa_cons (pv 1) pa_nil))) pe_bl (nomark _)))))), ?_⟩
    refine st_no (et_is (et_or (et_not (et_B (ev_cb (ea_cons (ev_var rfl) (ea_cons ev_c ea_nil)) rc_isiS))) fun _ => et_or (et_not (et_B (ev_cb (ea_cons (ev_var rfl) (ea_cons ev_c ea_nil)) rc_isiS))) fun _ => et_test (ev_op (ev_cb (ea_cons (ev_var rfl) ea_nil) (rc_lenS (by omega))) (ev_cb (ea_cons (ev_var rfl) ea_nil) (rc_lenS (by omega))) (rv_ne rfl))) ?_) (Ex.refl g) ?_
    · rw [hll, decide_eq_true rfl]
      rfl
    intro H1 e1
    dsimp only
    refine st_forR (n := a.length) (ev_cb (ea_cons (ev_var rfl) ea_nil) (rc_lenS (by omega))) (by omega) e1 (fun i σ H2 => ∃ k : Option V, σ = [some (sv a), some (sv b), k] ∧ Ex Ts H H2) ?_ ?_ ?_
    · intro H2 e2
      exact ⟨none, rfl, e1.trans e2⟩
    · rintro i σ H2 N hi ⟨k, rfl, e2⟩ hN
      have hA : a[i]? = some a[i] := List.getElem?_eq_getElem hi
      obtain ⟨d, hB, hr⟩ := hR.get hA
      generalize a[i] = c at hA hr
      refine st_no (et_is (et_and (a := decide (c ∈ [48, 49])) (b := !decide (sv [c] = sv [d])) ?_ fun _ => ?_) ?_) e2 ?_
      · exact et_test (ev_op (ev_op (ev_var rfl) (ev_var rfl) (rv_ixS (by omega) (atI_nat hA))) (ev_s lt_01) rv_inS)
      · exact et_test (ev_op (ev_op (ev_var rfl) (ev_var rfl) (rv_ixS (by omega) (atI_nat hA))) (ev_op (ev_var rfl) (ev_var rfl) (rv_ixS (by omega) (atI_nat hB))) (rv_ne rfl))
      · by_cases hc : c = 48 ∨ c = 49
        · rw [hr hc, decide_eq_true rfl, Bool.not_true, Bool.and_false]
        · rw [decide_eq_false (show ¬ c ∈ [48, 49] by simpa using hc), Bool.false_and]
      · intro H3 e3
        exact hN _ _ ⟨_, rfl, e3⟩
    · rintro σ H2 ⟨k, rfl, e2⟩
      dsimp only
      refine st_ret (ev_is (ev_op (ev_call (a, b) (ea_cons (ev_var rfl) (ea_cons (ev_var rfl) ea_nil)) (show a.length ≤ 1000 ∧ b.length ≤ 1000 from ⟨hal, hbl⟩)) ev_c rv_isB) ?_) e2 q
      rw [ir_of hR]
      rfl

end
end K44
set_option Elab.async false
set_option linter.all false
set_option maxRecDepth 100000
set_option maxHeartbeats 2000000
namespace K44
open PySem PySem.Spec PyProof.Rows L2 Cw
open GxR (TabG Tabbed TabB GenS)
local macro_rules | `(tactic| walk_at "ev") => `(tactic| first
  | exact ev_var rfl
  | exact ev_s lt_0 | exact ev_s lt_b | exact ev_s lt_1 | exact ev_s lt_01 | exact ev_s lt_e | exact ev_s lt_x | exact ev_s lt_01xxzz | exact ev_s lt_01xz | exact ev_s lt_10
  | exact ev_c
  | (apply ev_op <;> walk_at "ev")
  | exact rv_I0 | (refine rv_I ?_; first | omega | decide | assumption)
  | exact rv_eq rfl | exact rv_ne rfl | exact rv_inS | exact rv_niS
  | (refine rv_addS ?_; first | assumption | omega | decide)
  | (refine rv_mulS ?_ ?_ <;> first | assumption | omega | decide)
  | (apply ev_cb <;> walk_at "ev")
  | (refine rc_lenS ?_; first | assumption | omega | decide)
  | exact rc_max | exact rc_abs | exact rc_intI | exact rc_intB | exact rc_min
  | exact ea_nil
  | (apply ea_cons <;> walk_at "ev")
  | (apply et_and; walk_at "ev"; intro _; walk_at "ev")
  | (apply et_or; walk_at "ev"; intro _; walk_at "ev")
  | (apply et_not; walk_at "ev")
  | (apply et_test; walk_at "ev")
  | (apply et_B; walk_at "ev"))
section
variable {P : Program} {w : World} {K : PySem.W.Frag} {mg : Str → Option Value} {base : Heap} {pA pO pX pN : Addr} {Ts : List Addr}
def r1 (a b c : List Nat) : List (List Nat) := [a.map notB, map2 andB a b, map2 orB a b, map2 xorB a b, [a.foldl andB 49], [a.foldl orB 48]]
def r2 (a b c : List Nat) : List (List Nat) := [[a.foldl xorB 48], [b.foldl orB 48], dueB (kn a && kn b) (wid a b) ((val a : Int) + (val b : Int)), dueB (kn a && kn b) (wid a b) ((val a : Int) - (val b : Int)), dueB (kn a && kn b) (wid a b) ((val a : Int) * (val b : Int)), dueB (kn b) b.length (0 - (val b : Int))]
def r3 (a b c : List Nat) : List (List Nat) := [truthB (kn a && kn b) (decide ((val a : Int) < (val b : Int))), truthB (kn a && kn b) (decide ((val a : Int) ≤ (val b : Int))), truthB (kn a && kn b) (decide (V.int (val a : Nat) = V.int (val b : Nat))), truthB (kn a && kn b) (!decide (V.int (val a : Nat) = V.int (val b : Nat))), [notB (a.foldl orB 48)]]
def r4 (a b c : List Nat) : List (List Nat) := [[andB (a.foldl orB 48) (b.foldl orB 48)], [orB (a.foldl orB 48) (b.foldl orB 48)], shlB a c, shrB b c]
def r5 (a b c : List Nat) : List (List Nat) := [chB (c.foldl orB 48) a b, chB (a.foldl orB 48) b c, [pkB a c], [pkB c b]]
def rAll5 (a b c : List Nat) : List (List Nat) := (((r1 a b c ++ r2 a b c) ++ r3 a b c) ++ r4 a b c) ++ r5 a b c

abbrev sp_law_results (K : PySem.W.Frag) (Ts : List Addr) : Sp := FnN Ts (fun x : List Nat × List Nat × List Nat => [sv x.1, sv x.2.1, sv x.2.2]) (fun x _ => Vec x.1 ∧ Vec x.2.1 ∧ Vec x.2.2 ∧ x.2.2.length ≤ 8) fun x => .lst ((rAll5 x.1 x.2.1 x.2.2).map sv)
theorem ok_law_results {f : Addr} {fd : FuncData} (F : Fun K "_law_results" "_law_results" s_law_results f fd) (T : Txt mg K w pA pO pX pN) (C_bit_not : Callee P w K mg base "bit_not" 1 ["vector"] (sp_bit_not K Ts)) (C_bit_and : Callee P w K mg base "bit_and" 3 ["one", "two"] (sp_bit_and K Ts)) (C_bit_or : Callee P w K mg base "bit_or" 3 ["one", "two"] (sp_bit_or K Ts)) (C_bit_xor : Callee P w K mg base "bit_xor" 3 ["one", "two"] (sp_bit_xor K Ts)) (C_reduce_and : Callee P w K mg base "reduce_and" 1 ["vector"] (sp_reduce_and K Ts)) (C_reduce_or : Callee P w K mg base "reduce_or" 1 ["vector"] (sp_reduce_or K Ts)) (C_reduce_xor : Callee P w K mg base "reduce_xor" 1 ["vector"] (sp_reduce_xor K Ts)) (C_truth : Callee P w K mg base "truth" 2 ["vector"] (sp_truth K Ts)) (C_add : Callee P w K mg base "add" 4 ["one", "two"] (sp_add K Ts)) (C_subtract : Callee P w K mg base "subtract" 4 ["one", "two"] (sp_subtract K Ts)) (C_multiply : Callee P w K mg base "multiply" 4 ["one", "two"] (sp_multiply K Ts)) (C_negate : Callee P w K mg base "negate" 5 ["vector"] (sp_negate K Ts)) (C_less : Callee P w K mg base "less" 4 ["one", "two"] (sp_less K Ts)) (C_less_equal : Callee P w K mg base "less_equal" 4 ["one", "two"] (sp_less_equal K Ts)) (C_equal : Callee P w K mg base "equal" 4 ["one", "two"] (sp_equal K Ts)) (C_not_equal : Callee P w K mg base "not_equal" 5 ["one", "two"] (sp_not_equal K Ts)) (C_logic_not : Callee P w K mg base "logic_not" 3 ["vector"] (sp_logic_not K Ts)) (C_logic_and : Callee P w K mg base "logic_and" 4 ["one", "two"] (sp_logic_and K Ts)) (C_logic_or : Callee P w K mg base "logic_or" 4 ["one", "two"] (sp_logic_or K Ts)) (C_shift_left : Callee P w K mg base "shift_left" 3 ["vector", "amount"] (sp_shift_left K Ts)) (C_shift_right : Callee P w K mg base "shift_right" 3 ["vector", "amount"] (sp_shift_right K Ts)) (C_choose : Callee P w K mg base "choose" 3 ["condition", "one", "two"] (sp_choose K Ts)) (C_pick : Callee P w K mg base "pick" 3 ["vector", "index"] (sp_pick K Ts)) :
    FnOk P w K mg base CX0 6 f fd ["one", "two", "three"] (sp_law_results K Ts) := by
  refine F.ok sc_law_results (fun vs H Q E h => ?_) (fun cdv A outer s H vs Q E hr h => ?_)
  · obtain ⟨x, rfl, _⟩ := h
    rfl
  · obtain ⟨⟨a, b, c⟩, ev, hd, g, q⟩ := h
    replace ev : vs = [sv a, sv b, sv c] := ev
    subst ev
    have ha : Vec a := hd.1
    have hb : Vec b := hd.2.1
    have hc : Vec c := hd.2.2.1
    have hc8 : c.length ≤ 8 := hd.2.2.2
    refine ⟨_, (pss_cons (ps_set (i := 3) sc_law_results.nd rfl (.inl rfl) (pe_lst (pa_cons (pe_fn C_bit_not (hr.mono (by decide)) (by rfl) (pa_cons (pv 0) pa_nil)) (pa_cons (pe_fn C_bit_and (hr.mono (by decide)) (by rfl) (pa_cons (pv 0) (pa_cons (pv 1) pa_nil))) (pa_cons (pe_fn C_bit_or (hr.mono (by decide)) (by rfl) (pa_cons (pv 0) (pa_cons (pv 1) pa_nil))) (pa_cons (pe_fn C_bit_xor (hr.mono (by decide)) (by rfl) (pa_cons (pv 0) (pa_cons (pv 1) pa_nil))) (pa_cons (pe_fn C_reduce_and (hr.mono (by decide)) (by rfl) (pa_cons (pv 0) pa_nil)) (pa_cons (pe_fn C_reduce_or (hr.mono (by decide)) (by rfl) (pa_cons (pv 0) pa_nil)) pa_nil))))))))
      (pss_cons (ps_set (i := 3) sc_law_results.nd rfl (.inl rfl) (pe_op op_cat (pv 3) (pe_lst (pa_cons (pe_fn C_reduce_xor (hr.mono (by decide)) (by rfl) (pa_cons (pv 0) pa_nil)) (pa_cons (pe_fn C_truth (hr.mono (by decide)) (by rfl) (pa_cons (pv 1) pa_nil)) (pa_cons (pe_fn C_add (hr.mono (by decide)) (by rfl) (pa_cons (pv 0) (pa_cons (pv 1) pa_nil))) (pa_cons (pe_fn C_subtract (hr.mono (by decide)) (by rfl) (pa_cons (pv 0) (pa_cons (pv 1) pa_nil))) (pa_cons (pe_fn C_multiply (hr.mono (by decide)) (by rfl) (pa_cons (pv 0) (pa_cons (pv 1) pa_nil))) (pa_cons (pe_fn C_negate (hr.mono (by decide)) (by rfl) (pa_cons (pv 1) pa_nil)) pa_nil)))))))))
      (pss_cons (ps_set (i := 3) sc_law_results.nd rfl (.inl rfl) (pe_op op_cat (pv 3) (pe_lst (pa_cons (pe_fn C_less (hr.mono (by decide)) (by rfl) (pa_cons (pv 0) (pa_cons (pv 1) pa_nil))) (pa_cons (pe_fn C_less_equal (hr.mono (by decide)) (by rfl) (pa_cons (pv 0) (pa_cons (pv 1) pa_nil))) (pa_cons (pe_fn C_equal (hr.mono (by decide)) (by rfl) (pa_cons (pv 0) (pa_cons (pv 1) pa_nil))) (pa_cons (pe_fn C_not_equal (hr.mono (by decide)) (by rfl) (pa_cons (pv 0) (pa_cons (pv 1) pa_nil))) (pa_cons (pe_fn C_logic_not (hr.mono (by decide)) (by rfl) (pa_cons (pv 0) pa_nil)) pa_nil))))))))
      (pss_cons (ps_set (i := 3) sc_law_results.nd rfl (.inl rfl) (pe_op op_cat (pv 3) (pe_lst (pa_cons (pe_fn C_logic_and (hr.mono (by decide)) (by rfl) (pa_cons (pv 0) (pa_cons (pv 1) pa_nil))) (pa_cons (pe_fn C_logic_or (hr.mono (by decide)) (by rfl) (pa_cons (pv 0) (pa_cons (pv 1) pa_nil))) (pa_cons (pe_fn C_shift_left (hr.mono (by decide)) (by rfl) (pa_cons (pv 0) (pa_cons (pv 2) pa_nil))) (pa_cons (pe_fn C_shift_right (hr.mono (by decide)) (by rfl) (pa_cons (pv 1) (pa_cons (pv 2) pa_nil))) pa_nil)))))))
      (pss_one (ps_ret (pe_op op_cat (pv 3) (pe_lst (pa_cons (pe_fn C_choose (hr.mono (by decide)) (by rfl) (pa_cons (pv 2) (pa_cons (pv 0) (pa_cons (pv 1) pa_nil)))) (pa_cons (pe_fn C_choose (hr.mono (by decide)) (by rfl) (pa_cons (pv 0) (pa_cons (pv 1) (pa_cons (pv 2) pa_nil)))) (pa_cons (pe_fn C_pick (hr.mono (by decide)) (by rfl) (pa_cons (pv 0) (pa_cons (pv 2) pa_nil))) (pa_cons (pe_fn C_pick (hr.mono (by decide)) (by rfl) (pa_cons (pv 2) (pa_cons (pv 1) pa_nil))) pa_nil)))))))))))), ?_⟩
    refine st_setN (R := .lst ((r1 a b c).map sv)) (en_lst (ea_cons (ev_call a (ea_cons (ev_var rfl) ea_nil) ha) (ea_cons (ev_call (a, b) (ea_cons (ev_var rfl) (ea_cons (ev_var rfl) ea_nil)) ⟨ha, hb⟩) (ea_cons (ev_call (a, b) (ea_cons (ev_var rfl) (ea_cons (ev_var rfl) ea_nil)) ⟨ha, hb⟩) (ea_cons (ev_call (a, b) (ea_cons (ev_var rfl) (ea_cons (ev_var rfl) ea_nil)) ⟨ha, hb⟩) (ea_cons (ev_call a (ea_cons (ev_var rfl) ea_nil) ha) (ea_cons (ev_call a (ea_cons (ev_var rfl) ea_nil) ha) ea_nil)))))) (by show 6 ≤ 100000; decide)) g ?_
    intro p1 H1 _ e1 hp
    dsimp only
    have ee1 := e1
    have g0 := e1.good
    refine st_setN (R := .lst ((r1 a b c ++ r2 a b c).map sv)) (en_is (en_cat (xs := (r1 a b c).map sv) (zs := (r2 a b c).map sv) (g0.out fun ps z => by rw [hp] at z; cases z) (ev_var rfl) hp (en_lst (ea_cons (ev_call a (ea_cons (ev_var rfl) ea_nil) ha) (ea_cons (ev_call b (ea_cons (ev_var rfl) ea_nil) hb) (ea_cons (ev_call (a, b) (ea_cons (ev_var rfl) (ea_cons (ev_var rfl) ea_nil)) ⟨ha, hb⟩) (ea_cons (ev_call (a, b) (ea_cons (ev_var rfl) (ea_cons (ev_var rfl) ea_nil)) ⟨ha, hb⟩) (ea_cons (ev_call (a, b) (ea_cons (ev_var rfl) (ea_cons (ev_var rfl) ea_nil)) ⟨ha, hb⟩) (ea_cons (ev_call b (ea_cons (ev_var rfl) ea_nil) hb) ea_nil)))))) (by show 6 ≤ 100000; decide)) (by simp [r1, r2, r3, r4, r5])) (congrArg HO.lst List.map_append.symm)) g0 ?_
    intro p2 H2 _ e2 hp2
    dsimp only
    have ee2 := ee1.trans e2
    have g0 := e2.good
    have hp := hp2
    refine st_setN (R := .lst (((r1 a b c ++ r2 a b c) ++ r3 a b c).map sv)) (en_is (en_cat (xs := ((r1 a b c ++ r2 a b c)).map sv) (zs := (r3 a b c).map sv) (g0.out fun ps z => by rw [hp] at z; cases z) (ev_var rfl) hp (en_lst (ea_cons (ev_call (a, b) (ea_cons (ev_var rfl) (ea_cons (ev_var rfl) ea_nil)) ⟨ha, hb⟩) (ea_cons (ev_call (a, b) (ea_cons (ev_var rfl) (ea_cons (ev_var rfl) ea_nil)) ⟨ha, hb⟩) (ea_cons (ev_call (a, b) (ea_cons (ev_var rfl) (ea_cons (ev_var rfl) ea_nil)) ⟨ha, hb⟩) (ea_cons (ev_call (a, b) (ea_cons (ev_var rfl) (ea_cons (ev_var rfl) ea_nil)) ⟨ha, hb⟩) (ea_cons (ev_call a (ea_cons (ev_var rfl) ea_nil) ha) ea_nil))))) (by show 5 ≤ 100000; decide)) (by simp [r1, r2, r3, r4, r5])) (congrArg HO.lst List.map_append.symm)) g0 ?_
    intro p3 H3 _ e3 hp3
    dsimp only
    have ee3 := ee2.trans e3
    have g0 := e3.good
    have hp := hp3
    refine st_setN (R := .lst ((((r1 a b c ++ r2 a b c) ++ r3 a b c) ++ r4 a b c).map sv)) (en_is (en_cat (xs := (((r1 a b c ++ r2 a b c) ++ r3 a b c)).map sv) (zs := (r4 a b c).map sv) (g0.out fun ps z => by rw [hp] at z; cases z) (ev_var rfl) hp (en_lst (ea_cons (ev_call (a, b) (ea_cons (ev_var rfl) (ea_cons (ev_var rfl) ea_nil)) ⟨ha, hb⟩) (ea_cons (ev_call (a, b) (ea_cons (ev_var rfl) (ea_cons (ev_var rfl) ea_nil)) ⟨ha, hb⟩) (ea_cons (ev_call (a, c) (ea_cons (ev_var rfl) (ea_cons (ev_var rfl) ea_nil)) ⟨ha, hc, hc8⟩) (ea_cons (ev_call (b, c) (ea_cons (ev_var rfl) (ea_cons (ev_var rfl) ea_nil)) ⟨hb, hc, hc8⟩) ea_nil)))) (by show 4 ≤ 100000; decide)) (by simp [r1, r2, r3, r4, r5])) (congrArg HO.lst List.map_append.symm)) g0 ?_
    intro p4 H4 _ e4 hp4
    dsimp only
    have ee4 := ee3.trans e4
    have g0 := e4.good
    have hp := hp4
    refine st_retN (R := .lst ((rAll5 a b c).map sv)) (en_is (en_cat (xs := (((r1 a b c ++ r2 a b c) ++ r3 a b c) ++ r4 a b c).map sv) (zs := (r5 a b c).map sv) (g0.out fun ps z => by rw [hp] at z; cases z) (ev_var rfl) hp (en_lst (ea_cons (ev_call (c, a, b) (ea_cons (ev_var rfl) (ea_cons (ev_var rfl) (ea_cons (ev_var rfl) ea_nil))) ⟨hc, ha, hb⟩) (ea_cons (ev_call (a, b, c) (ea_cons (ev_var rfl) (ea_cons (ev_var rfl) (ea_cons (ev_var rfl) ea_nil))) ⟨ha, hb, hc⟩) (ea_cons (ev_call (a, c) (ea_cons (ev_var rfl) (ea_cons (ev_var rfl) ea_nil)) ⟨ha, hc⟩) (ea_cons (ev_call (c, b) (ea_cons (ev_var rfl) (ea_cons (ev_var rfl) ea_nil)) ⟨hc, hb⟩) ea_nil)))) (by show 4 ≤ 100000; decide)) (by simp [r1, r2, r3, r4, r5])) (congrArg HO.lst List.map_append.symm)) (Ex.refl g0) ?_
    intro p H6 n6 _ e6 hp6
    exact q p H6 (ee4.back n6) (ee4.trans e6) hp6

theorem due_ref {k k' : Bool} {w w' : Nat} {n n' : Int} (hw : w = w') (h : k = true → k' = true ∧ n = n') : Rfs (dueB k w n) (dueB k' w' n') := by
  subst hw
  cases k with
  | true =>
    obtain ⟨rfl, rfl⟩ := h rfl
    exact Rfs.refl _
  | false => exact Rfs.rep (dueB_len _ _ _).symm
theorem truth_ref {k k' h h' : Bool} (e : k = true → k' = true ∧ h = h') : Rfs (truthB k h) (truthB k' h') := by
  cases k with
  | true =>
    obtain ⟨rfl, rfl⟩ := e rfl
    exact Rfs.refl _
  | false => exact Rfs.rep (n := 1) (by cases k' <;> cases h' <;> rfl)
theorem both_ref {a a' b b' : List Nat} (h : Rfs a a') (g : Rfs b b') (e : (kn a && kn b) = true) : a = a' ∧ b = b' := by
  rw [Bool.and_eq_true] at e
  exact ⟨h.kn e.1, g.kn e.2⟩
theorem wid_ref {a a' b b' : List Nat} (h : Rfs a a') (g : Rfs b b') : wid a b = wid a' b' := by
  unfold wid
  rw [h.len, g.len]
theorem shl_len (v i : List Nat) : (shlB v i).length = v.length := by
  unfold shlB shN
  split
  · rw [List.length_append, List.length_drop, List.length_replicate]
    omega
  · exact List.length_replicate
theorem shr_len (v i : List Nat) : (shrB v i).length = v.length := by
  unfold shrB shN
  split
  · rw [List.length_append, List.length_take, List.length_replicate]
    omega
  · exact List.length_replicate
theorem shl_ref {v v' i i' : List Nat} (h : Rfs v v') (g : Rfs i i') : Rfs (shlB v i) (shlB v' i') := by
  by_cases e : kn i = true
  · have e2 := g.kn e
    subst e2
    unfold shlB shN
    rw [if_pos e, if_pos e, h.len]
    exact (h.drop _).append (Rfs.refl _)
  · have z : shlB v i = List.replicate v.length 120 := if_neg e
    rw [z]
    exact Rfs.rep (by rw [shl_len, h.len])
theorem shr_ref {v v' i i' : List Nat} (h : Rfs v v') (g : Rfs i i') : Rfs (shrB v i) (shrB v' i') := by
  by_cases e : kn i = true
  · have e2 := g.kn e
    subst e2
    unfold shrB shN
    rw [if_pos e, if_pos e, h.len]
    exact (Rfs.refl _).append (h.take _)
  · have z : shrB v i = List.replicate v.length 120 := if_neg e
    rw [z]
    exact Rfs.rep (by rw [shr_len, h.len])
theorem agL {a a' b : List Nat} (h : Rfs a a') : b.length = a.length → Rfs ((a.zip b).map fun p => agB p.1 p.2) a' := by
  induction h generalizing b with
  | nil => exact fun _ => .nil
  | @cons x y as bs g _ ih =>
    intro e
    cases b with
    | nil => cases e
    | cons z r =>
      refine .cons ?_ (ih (Nat.succ.inj e))
      show rf1 (agB x z) y
      unfold rf1 agB at *
      split
      · rename_i q
        intro _
        exact g q.2
      · omega
theorem agR {b b' a : List Nat} (h : Rfs b b') : a.length = b.length → Rfs ((a.zip b).map fun p => agB p.1 p.2) b' := by
  induction h generalizing a with
  | nil =>
    intro e
    rw [List.zip_nil_right]
    exact .nil
  | @cons x y as bs g _ ih =>
    intro e
    cases a with
    | nil => cases e
    | cons z r =>
      refine .cons ?_ (ih (Nat.succ.inj e))
      show rf1 (agB z x) y
      unfold rf1 agB at *
      split
      · rename_i q
        intro _
        rw [q.1]
        exact g (by rw [← q.1]; exact q.2)
      · omega
theorem ch_ref {t t' : Nat} {a a' b b' : List Nat} (ht : rf1 t t') (h : Rfs a a') (g : Rfs b b') : Rfs (chB t a b) (chB t' a' b') := by
  unfold rf1 at ht
  by_cases e1 : t = 49
  · have e2 : t' = 49 := by rw [ht (.inr e1), e1]
    unfold chB
    rw [if_pos e1, if_pos e2]
    exact h.exL g
  · by_cases e3 : t = 48
    · have e4 : t' = 48 := by rw [ht (.inl e3), e3]
      unfold chB
      rw [if_neg e1, if_pos e3, if_neg (by omega), if_pos e4]
      exact h.exR g
    · have z : chB t a b = map2 agB a b := by
        unfold chB
        rw [if_neg e1, if_neg e3]
      rw [z]
      unfold chB
      split
      · exact agL (h.exL g) (ex_eq a b).symm
      · split
        · exact agR (h.exR g) (ex_eq a b)
        · exact Rfs.map2 (fun _ _ _ _ => rf1_ag) h g
theorem pk_ref {a a' i i' : List Nat} (h : Rfs a a') (g : Rfs i i') : rf1 (pkB a i) (pkB a' i') := by
  by_cases e : (i.all fun c => decide (c ∈ [48, 49])) = true
  · have e2 := g.kn e
    subst e2
    unfold pkB
    rw [if_pos e, if_pos e, h.len]
    split
    · exact rf1_refl _
    · rename_i hl
      have hlt : a.length - 1 - binNum i < a.length := by rw [h.len]; omega
      have hA : a[a.length - 1 - binNum i]? = some a[a.length - 1 - binNum i] := List.getElem?_eq_getElem hlt
      obtain ⟨d, hB, hr⟩ := h.get hA
      generalize a[a.length - 1 - binNum i] = c at hA hr
      rw [h.len] at hA hB
      rw [List.getD_eq_getElem?_getD, List.getD_eq_getElem?_getD, hA, hB]
      exact hr
  · unfold pkB
    rw [if_neg e]
    intro z
    omega
inductive Rss : List (List Nat) → List (List Nat) → Prop
  | nil : Rss [] []
  | cons {x y : List Nat} {xs ys : List (List Nat)} : Rfs x y → x.length ≤ 1000 → Rss xs ys → Rss (x :: xs) (y :: ys)
theorem Rss.get {xs ys : List (List Nat)} (h : Rss xs ys) : ∀ {i : Nat}, i < xs.length → ∃ x y, xs[i]? = some x ∧ ys[i]? = some y ∧ x.length ≤ 1000 ∧ Rfs x y := by
  induction h with
  | nil => exact fun e => absurd e (Nat.not_lt_zero _)
  | @cons x y xs ys g l _ ih =>
    intro i e
    cases i with
    | zero => exact ⟨x, y, rfl, rfl, l, g⟩
    | succ i => exact ih (Nat.lt_of_succ_lt_succ e)
theorem ch_len (t : Nat) (a b : List Nat) : (chB t a b).length = wid a b := by
  unfold chB
  split
  · exact exL_len a b
  · split
    · exact exR_len a b
    · exact map2_len _ a b
theorem truth_len (k h : Bool) : (truthB k h).length = 1 := by
  cases k <;> cases h <;> rfl
theorem all_ref {a a' b b' c c' : List Nat} (va : a.length ≤ 64) (vb : b.length ≤ 64) (vc : c.length ≤ 64) (ha : Rfs a a') (hb : Rfs b b') (hc : Rfs c c') : Rss (rAll5 a b c) (rAll5 a' b' c') := by
  have w1 : wid a b ≤ 64 := Nat.max_le.mpr ⟨va, vb⟩
  have w2 : wid b c ≤ 64 := Nat.max_le.mpr ⟨vb, vc⟩
  have kab : (kn a && kn b) = true → a = a' ∧ b = b' := both_ref ha hb
  have oa := ha.fold (fun _ _ _ _ => rf1_or) (rf1_refl 48)
  have ob := hb.fold (fun _ _ _ _ => rf1_or) (rf1_refl 48)
  have oc := hc.fold (fun _ _ _ _ => rf1_or) (rf1_refl 48)
  show Rss [a.map notB, map2 andB a b, map2 orB a b, map2 xorB a b, [a.foldl andB 49], [a.foldl orB 48], [a.foldl xorB 48], [b.foldl orB 48], dueB (kn a && kn b) (wid a b) ((val a : Int) + (val b : Int)), dueB (kn a && kn b) (wid a b) ((val a : Int) - (val b : Int)), dueB (kn a && kn b) (wid a b) ((val a : Int) * (val b : Int)), dueB (kn b) b.length (0 - (val b : Int)), truthB (kn a && kn b) (decide ((val a : Int) < (val b : Int))), truthB (kn a && kn b) (decide ((val a : Int) ≤ (val b : Int))), truthB (kn a && kn b) (decide (V.int (val a : Nat) = V.int (val b : Nat))), truthB (kn a && kn b) (!decide (V.int (val a : Nat) = V.int (val b : Nat))), [notB (a.foldl orB 48)], [andB (a.foldl orB 48) (b.foldl orB 48)], [orB (a.foldl orB 48) (b.foldl orB 48)], shlB a c, shrB b c, chB (c.foldl orB 48) a b, chB (a.foldl orB 48) b c, [pkB a c], [pkB c b]] [a'.map notB, map2 andB a' b', map2 orB a' b', map2 xorB a' b', [a'.foldl andB 49], [a'.foldl orB 48], [a'.foldl xorB 48], [b'.foldl orB 48], dueB (kn a' && kn b') (wid a' b') ((val a' : Int) + (val b' : Int)), dueB (kn a' && kn b') (wid a' b') ((val a' : Int) - (val b' : Int)), dueB (kn a' && kn b') (wid a' b') ((val a' : Int) * (val b' : Int)), dueB (kn b') b'.length (0 - (val b' : Int)), truthB (kn a' && kn b') (decide ((val a' : Int) < (val b' : Int))), truthB (kn a' && kn b') (decide ((val a' : Int) ≤ (val b' : Int))), truthB (kn a' && kn b') (decide (V.int (val a' : Nat) = V.int (val b' : Nat))), truthB (kn a' && kn b') (!decide (V.int (val a' : Nat) = V.int (val b' : Nat))), [notB (a'.foldl orB 48)], [andB (a'.foldl orB 48) (b'.foldl orB 48)], [orB (a'.foldl orB 48) (b'.foldl orB 48)], shlB a' c', shrB b' c', chB (c'.foldl orB 48) a' b', chB (a'.foldl orB 48) b' c', [pkB a' c'], [pkB c' b']]
  refine .cons ?m1 ?l1 (.cons ?m2 ?l2 (.cons ?m3 ?l3 (.cons ?m4 ?l4 (.cons ?m5 ?l5 (.cons ?m6 ?l6 (.cons ?m7 ?l7 (.cons ?m8 ?l8 (.cons ?m9 ?l9 (.cons ?m10 ?l10 (.cons ?m11 ?l11 (.cons ?m12 ?l12 (.cons ?m13 ?l13 (.cons ?m14 ?l14 (.cons ?m15 ?l15 (.cons ?m16 ?l16 (.cons ?m17 ?l17 (.cons ?m18 ?l18 (.cons ?m19 ?l19 (.cons ?m20 ?l20 (.cons ?m21 ?l21 (.cons ?m22 ?l22 (.cons ?m23 ?l23 (.cons ?m24 ?l24 (.cons ?m25 ?l25 .nil))))))))))))))))))))))))
  case m1 => exact ha.map fun _ _ => rf1_not
  case m2 => exact Rfs.map2 (fun _ _ _ _ => rf1_and) ha hb
  case m3 => exact Rfs.map2 (fun _ _ _ _ => rf1_or) ha hb
  case m4 => exact Rfs.map2 (fun _ _ _ _ => rf1_xor) ha hb
  case m5 => exact Rfs.one (ha.fold (fun _ _ _ _ => rf1_and) (rf1_refl _))
  case m6 => exact Rfs.one oa
  case m7 => exact Rfs.one (ha.fold (fun _ _ _ _ => rf1_xor) (rf1_refl _))
  case m8 => exact Rfs.one ob
  case m9 => exact due_ref (wid_ref ha hb) fun k => by obtain ⟨rfl, rfl⟩ := kab k; exact ⟨k, rfl⟩
  case m10 => exact due_ref (wid_ref ha hb) fun k => by obtain ⟨rfl, rfl⟩ := kab k; exact ⟨k, rfl⟩
  case m11 => exact due_ref (wid_ref ha hb) fun k => by obtain ⟨rfl, rfl⟩ := kab k; exact ⟨k, rfl⟩
  case m12 => exact due_ref hb.len fun k => by obtain rfl := hb.kn k; exact ⟨k, rfl⟩
  case m13 => exact truth_ref fun k => by obtain ⟨rfl, rfl⟩ := kab k; exact ⟨k, rfl⟩
  case m14 => exact truth_ref fun k => by obtain ⟨rfl, rfl⟩ := kab k; exact ⟨k, rfl⟩
  case m15 => exact truth_ref fun k => by obtain ⟨rfl, rfl⟩ := kab k; exact ⟨k, rfl⟩
  case m16 => exact truth_ref fun k => by obtain ⟨rfl, rfl⟩ := kab k; exact ⟨k, rfl⟩
  case m17 => exact Rfs.one (rf1_not oa)
  case m18 => exact Rfs.one (rf1_and oa ob)
  case m19 => exact Rfs.one (rf1_or oa ob)
  case m20 => exact shl_ref ha hc
  case m21 => exact shr_ref hb hc
  case m22 => exact ch_ref oc ha hb
  case m23 => exact ch_ref oa hb hc
  case m24 => exact Rfs.one (pk_ref ha hc)
  case m25 => exact Rfs.one (pk_ref hc hb)
  case l1 => rw [List.length_map]; omega
  case l2 => rw [map2_len]; omega
  case l3 => rw [map2_len]; omega
  case l4 => rw [map2_len]; omega
  case l5 => show 1 ≤ 1000; decide
  case l6 => show 1 ≤ 1000; decide
  case l7 => show 1 ≤ 1000; decide
  case l8 => show 1 ≤ 1000; decide
  case l9 => rw [dueB_len]; omega
  case l10 => rw [dueB_len]; omega
  case l11 => rw [dueB_len]; omega
  case l12 => rw [dueB_len]; omega
  case l13 => rw [truth_len]; decide
  case l14 => rw [truth_len]; decide
  case l15 => rw [truth_len]; decide
  case l16 => rw [truth_len]; decide
  case l17 => show 1 ≤ 1000; decide
  case l18 => show 1 ≤ 1000; decide
  case l19 => show 1 ≤ 1000; decide
  case l20 => rw [shl_len]; omega
  case l21 => rw [shr_len]; omega
  case l22 => rw [ch_len]; omega
  case l23 => rw [ch_len]; omega
  case l24 => show 1 ≤ 1000; decide
  case l25 => show 1 ≤ 1000; decide

end
end K44
set_option Elab.async false
set_option linter.all false
set_option maxRecDepth 100000
set_option maxHeartbeats 2000000
namespace K44
open PySem PySem.Spec PyProof.Rows L2 Cw
open GxR (TabG Tabbed TabB GenS)
local macro_rules | `(tactic| walk_at "ev") => `(tactic| first
  | exact ev_var rfl
  | exact ev_s lt_0 | exact ev_s lt_b | exact ev_s lt_1 | exact ev_s lt_01 | exact ev_s lt_e | exact ev_s lt_x | exact ev_s lt_01xxzz | exact ev_s lt_01xz | exact ev_s lt_10
  | exact ev_c
  | (apply ev_op <;> walk_at "ev")
  | exact rv_I0 | (refine rv_I ?_; first | omega | decide | assumption)
  | exact rv_eq rfl | exact rv_ne rfl | exact rv_inS | exact rv_niS
  | (refine rv_addS ?_; first | assumption | omega | decide)
  | (refine rv_mulS ?_ ?_ <;> first | assumption | omega | decide)
  | (apply ev_cb <;> walk_at "ev")
  | (refine rc_lenS ?_; first | assumption | omega | decide)
  | exact rc_max | exact rc_abs | exact rc_intI | exact rc_intB | exact rc_min
  | exact ea_nil
  | (apply ea_cons <;> walk_at "ev")
  | (apply et_and; walk_at "ev"; intro _; walk_at "ev")
  | (apply et_or; walk_at "ev"; intro _; walk_at "ev")
  | (apply et_not; walk_at "ev")
  | (apply et_test; walk_at "ev")
  | (apply et_B; walk_at "ev"))
section
variable {P : Program} {w : World} {K : PySem.W.Frag} {mg : Str → Option Value} {base : Heap} {pA pO pX pN : Addr} {Ts : List Addr}
theorem es_numbers {a : Addr} {ns : List Int} {k : Int} {b m : Nat} {σ : L2.St} {H : Hp} (g : Good Ts H) (hS : SqL K H a (ns.map V.int)) (h0 : σ[0]? = some (some (.ref a))) (hb : 2 ≤ b) (hb2 : b ≤ 1000000) (hm : m ≤ 1000) :
    EvS Ts (tCall (sp_law_numbers K Ts) [] E0 (tCons (tSl (rSlL K) (tVar 0) (tPart (tC (.int k))) tNoPart) (tCons (tC (.int (b : Nat))) (tCons (tC (.int (m : Nat))) tNil)))) σ H
      (fun v H => ∃ p ms, v = .ref p ∧ H p = some (.lst (ms.map V.int)) ∧ ms.length = m ∧ Below b ms) := by
  intro H1 e1 Q q
  obtain ⟨ms0, em⟩ := drop_ints ns k
  refine (en_slL (K := K) g (ev_var h0) (eo_some ev_c) eo_none hS) H1 e1 _ fun p H2 _ e2 hp => ?_
  rw [em] at hp
  exact ⟨(p, ms0, b, m), rfl, ⟨l_of hp, hb, hb2, hm⟩, e2.good, fun v H3 e3 r => q v H3 (e2.trans e3) r⟩
theorem cut_mid {xs : List V} {i : Nat} (h : i + 28 ≤ xs.length) : cutV xs (some (i : Int)) (some ((i + 28 : Nat) : Int)) = (xs.drop i).take 28 := by
  unfold cutV
  rw [HT.sIx_nat, HT.sIx_nat, Nat.min_eq_left h, Nat.min_eq_left (show i ≤ xs.length by omega)]
  congr 1
  omega
theorem es_pair {l ps : Addr} {ms : List Int} {ss : List V} {n i : Nat} {fl : Bool} {σ : L2.St} {H : Hp} (g : Good Ts H) (hS : SqL K H l (ms.map V.int)) (hP : SqL K H ps ss) (h1 : σ[1]? = some (some (.ref l))) (h2 : σ[2]? = some (some (.bl fl))) (h3 : σ[3]? = some (some (.ref ps)))
    (h5 : σ[5]? = some (some (.int (i : Nat)))) (hss : ss[i]? = some (.int (n : Nat))) (hn : n ≤ 12) (hi : 28 * i + 28 ≤ ms.length) :
    EvS Ts (tCall (sp_law_pair K Ts) [] E0 (tCons (tSl (rSlL K) (tVar 1) (tPart (tOp (rI CMul fun i j => .int (i * j)) (tC (.int 28)) (tVar 5))) (tPart (tOp (rI0 fun i j => .int (i + j)) (tOp (rI CMul fun i j => .int (i * j)) (tC (.int 28)) (tVar 5)) (tC (.int 28))))) (tCons (tOp (rIxL K) (tVar 3) (tVar 5)) (tCons (tVar 2) tNil)))) σ H
      (fun v H => ∃ p a b, v = .ref p ∧ p ∉ Ts ∧ H p = some (.tup [sv a, sv b]) ∧ AllB a ∧ AllB b ∧ Rfs a b ∧ a.length = n) := by
  intro H1 e1 Q q
  have i1 : (28 : Int) * (i : Int) = ((28 * i : Nat) : Int) := by omega
  have i2 : (28 : Int) * (i : Int) + 28 = ((28 * i + 28 : Nat) : Int) := by omega
  refine (en_slL (K := K) (lo := some ((28 * i : Nat) : Int)) (hi := some ((28 * i + 28 : Nat) : Int)) g (ev_var h1) (eo_some (ev_is (v := .int (28 * (i : Int))) (ev_op ev_c (ev_var h5) (rv_I (Or.inl ⟨by decide, by decide⟩))) (congrArg V.int i1))) (eo_some (ev_is (v := .int (28 * (i : Int) + 28)) (ev_op (ev_op ev_c (ev_var h5) (rv_I (Or.inl ⟨by decide, by decide⟩))) ev_c rv_I0) (congrArg V.int i2))) hS) H1 e1 _ fun p H2 _ e2 hp => ?_
  rw [cut_mid (by rw [List.length_map]; exact hi), ← List.map_drop, ← List.map_take] at hp
  refine (ev_op (Ts := Ts) (z := .int (n : Nat)) (ev_var h3) (ev_var h5) (rv_ixL g hP (atI_nat hss))) H2 (e1.trans e2) _ fun H3 e3 => ⟨_, h2, ?_⟩
  refine ⟨(p, (ms.drop (28 * i)).take 28, n, fl), rfl, ⟨e3.l e2.good (l_of hp), ?_, by show n ≤ 64; omega⟩, e3.good, fun v H4 e4 r => q v H4 ((e2.trans e3).trans e4) r⟩
  show 2 * n ≤ ((ms.drop (28 * i)).take 28).length
  rw [List.length_take, List.length_drop]
  omega

def QOk (Ts : List Addr) (pp : Addr) (H : Hp) (q : Addr × List Nat × List Nat) : Prop := q.1 ∉ Ts ∧ q.1 ≠ pp ∧ H q.1 = some (.tup [sv q.2.1, sv q.2.2]) ∧ Vec q.2.1 ∧ Vec q.2.2 ∧ Rfs q.2.1 q.2.2
theorem enM {te : TE} {σ : L2.St} {H H' : Hp} {R : HO} (h : EvN Ts te σ H R) (e : Ex Ts H H') : EvN Ts te σ H' R := fun H1 a Q q => h H1 (e.trans a) Q q
theorem QOk.mono {pp : Addr} {H H' : Hp} {q : Addr × List Nat × List Nat} (h : QOk Ts pp H q) (e : Ex Ts H H') : QOk Ts pp H' q := ⟨h.1, h.2.1, e.keep _ _ h.1 h.2.2.1, h.2.2.2⟩
theorem QOk.upd {pp : Addr} {H : Hp} {o : HO} {q : Addr × List Nat × List Nat} (h : QOk Ts pp H q) : QOk Ts pp (upd H pp o) q := ⟨h.1, h.2.1, by rw [upd_ne h.2.1]; exact h.2.2.1, h.2.2.2⟩
theorem three {α : Type} {l : List α} (h : l.length = 3) : ∃ a b c, l = [a, b, c] := by
  match l, h with
  | [a, b, c], _ => exact ⟨a, b, c, rfl⟩
theorem vec_of {n : Nat} {a : List Nat} (h : AllB a) (hl : a.length = n) (h1 : 1 ≤ n) (h2 : n ≤ 12) : Vec a := ⟨h, by omega, by omega⟩
theorem flip_at {c : Nat} (h : c = 48 ∨ c = 49) : atI [49, 48] ((c - 48 : Nat) : Int) = some (97 - c) := by
  rcases h with rfl | rfl <;> rfl
theorem flip_ir {o : List Nat} {i c : Nat} (h : o[i]? = some c) (hc : c = 48 ∨ c = 49) : irB o (o.take i ++ [97 - c] ++ o.drop (i + 1)) = false := by
  have hi := (List.getElem?_eq_some_iff.mp h).1
  refine ir_not (i := i) (d := 97 - c) h ?_ hc (by omega)
  rw [List.append_assoc, List.getElem?_append_right (by rw [List.length_take]; omega), List.length_take, Nat.min_eq_left (by omega), Nat.sub_self]
  rfl

abbrev sp_law (K : PySem.W.Frag) (Ts : List Addr) : Sp := FnL Ts (fun x : Addr × List Int => [.ref x.1]) (fun x H => SqL K H x.1 (x.2.map V.int)) fun _ => .bl true
theorem ok_law {f : Addr} {fd : FuncData} (F : Fun K "law" "law" s_law f fd) (T : Txt mg K w pA pO pX pN) (C_law_numbers : Callee P w K mg base "_law_numbers" 1 ["script", "base", "many"] (sp_law_numbers K Ts)) (C_law_results : Callee P w K mg base "_law_results" 6 ["one", "two", "three"] (sp_law_results K Ts)) (C_is_refined : Callee P w K mg base "is_refined" 1 ["vector", "other"] (sp_is_refined K Ts)) (C_law_cell : Callee P w K mg base "_law_cell" 1 ["script", "k"] (sp_law_cell K Ts)) (C_law_pair : Callee P w K mg base "_law_pair" 1 ["numbers", "size", "full"] (sp_law_pair K Ts)) (C_law_refines : Callee P w K mg base "_law_refines" 2 ["one", "two"] (sp_law_refines K Ts)) :
    FnOk P w K mg base CX0 7 f fd ["script"] (sp_law K Ts) := by
  refine F.ok sc_law (fun vs H Q E h => ?_) (fun cdv A outer s H vs Q E hr h => ?_)
  · obtain ⟨x, rfl, _⟩ := h
    rfl
  · obtain ⟨⟨a, ns⟩, ev, hd, g, q⟩ := h
    replace ev : vs = [.ref a] := ev
    subst ev
    have hS : SqL K H a (ns.map V.int) := hd
    refine ⟨_, (pss_cons (ps_set (i := 1) sc_law.nd rfl (.inl rfl) (pe_fn C_law_numbers (hr.mono (by decide)) (by rfl) (pa_cons (pe_slice sl_list (pv 0) (po_some pe_int) po_none) (pa_cons pe_int (pa_cons pe_int pa_nil)))))
      (pss_cons (ps_set (i := 2) sc_law.nd rfl (.inl rfl) (pe_cmpR op_eq (pe_op op_mod (pe_fn C_law_cell (hr.mono (by decide)) (by rfl) (pa_cons (pv 0) (pa_cons pe_int pa_nil))) pe_int) pe_int (nomark _)))
      (pss_cons (ps_set (i := 3) sc_law.nd rfl (.inl rfl) (pe_lst (pa_cons (pe_op op_add pe_int (pe_op op_mod (pe_op op_fdiv (pe_fn C_law_cell (hr.mono (by decide)) (by rfl) (pa_cons (pv 0) (pa_cons pe_int pa_nil))) pe_int) pe_int)) (pa_cons (pe_op op_add pe_int (pe_op op_mod (pe_op op_fdiv (pe_fn C_law_cell (hr.mono (by decide)) (by rfl) (pa_cons (pv 0) (pa_cons pe_int pa_nil))) pe_int) pe_int)) (pa_cons (pe_op op_add pe_int (pe_op op_mod (pe_op op_fdiv (pe_fn C_law_cell (hr.mono (by decide)) (by rfl) (pa_cons (pv 0) (pa_cons pe_int pa_nil))) pe_int) pe_int)) pa_nil)))))
      (pss_cons (ps_set (i := 4) sc_law.nd rfl (.inl rfl) (pe_lst pa_nil))
      (pss_cons (ps_for PassesOwn.never rfl (pi_range1 rfl T.range (pa_cons pe_int pa_nil)) (pg_name (i := 5) sc_law.nd rfl (.inl rfl))
      (pss_one (ps_expr (pe_bm PySem.F.plainAttrs_list PySem.F.slot_list_append PySem.F.type_list_append mt_append (pv 4) (pa_cons (pe_fn C_law_pair (hr.mono (by decide)) (by rfl) (pa_cons (pe_slice sl_list (pv 1) (po_some (pe_op op_mul pe_int (pv 5))) (po_some (pe_op op_add (pe_op op_mul pe_int (pv 5)) pe_int))) (pa_cons (pe_ix ix_list (pv 3) (pv 5) (fun _ _ => rfl)) (pa_cons (pv 2) pa_nil)))) pa_nil)))))
      (pss_cons (ps_for PassesOwn.never rfl (pi_list (pv 4)) (pg_name (i := 6) sc_law.nd rfl (.inl rfl))
      (pss_one (ps_if (pt_not (pt_val (pe_fn C_law_refines (hr.mono (by decide)) (by rfl) (pa_cons (pe_ix ix_tup (pv 6) pe_int (fun _ _ => rfl)) (pa_cons (pe_ix ix_tup (pv 6) pe_int (fun _ _ => rfl)) pa_nil)))))
      (pss_one (ps_ret pe_bl)) pss_nil)))
      (pss_cons (ps_set (i := 7) sc_law.nd rfl (.inl rfl) (pe_ix ix_tup (pe_ix ix_list (pv 4) pe_int (fun _ _ => rfl)) pe_int (fun _ _ => rfl)))
      (pss_cons (ps_if (PW.pt (pw_or (pt_cmpR op_notBl (pe_fn C_is_refined (hr.mono (by decide)) (by rfl) (pa_cons (pv 7) (pa_cons (pv 7) pa_nil))) pe_bl (nomark _)) (pw_or1 (pt_cmpR op_notBl (pe_fn C_is_refined (hr.mono (by decide)) (by rfl) (pa_cons (pv 7) (pa_cons (pe_op op_add_str (pv 7) pe_str) pa_nil))) pe_bl (nomark _)))))
      (pss_one (ps_ret pe_bl)) pss_nil)
      (pss_cons (ps_if (pt_cmpR op_notBl (pe_fn C_is_refined (hr.mono (by decide)) (by rfl) (pa_cons (pe_op op_add_str pe_str (pv 7)) (pa_cons (pv 7) pa_nil))) pe_bl (nomark _))
      (pss_one (ps_ret pe_bl)) pss_nil)
      (pss_cons (ps_for PassesOwn.never rfl (pi_range1 rfl T.range (pa_cons (pe_callB call_len_str (by rfl) T.len PySem.boot_len (pa_cons (pv 7) pa_nil)) pa_nil)) (pg_name (i := 5) sc_law.nd rfl (.inl rfl))
      (pss_one (ps_if (PW.pt (pw_and (pt_cmpR op_in_sign (pe_ix ix_str (pv 7) (pv 5) (fun _ _ => rfl)) pe_str rfl) (pw_and1 (pt_cmpR op_notBl (pe_fn C_is_refined (hr.mono (by decide)) (by rfl) (pa_cons (pv 7) (pa_cons (pe_op op_add_str (pe_op op_add_str (pe_slice sl_str (pv 7) po_none (po_some (pv 5))) (pe_ix ix_str pe_str (pe_callTy call_int_str (by rfl) T.int (by decide +kernel) (pa_cons (pe_ix ix_str (pv 7) (pv 5) (fun _ _ => rfl)) pa_nil)) (fun _ _ => rfl))) (pe_slice sl_str (pv 7) (po_some (pe_op op_add (pv 5) pe_int)) po_none)) pa_nil))) pe_bl (nomark _)))))
      (pss_one (ps_ret pe_bl)) pss_nil)))
      (pss_cons (ps_set (i := 8) sc_law.nd rfl (.inl rfl) (pe_fn C_law_results (hr.mono (by decide)) (by rfl) (pa_cons (pe_ix ix_tup (pe_ix ix_list (pv 4) pe_int (fun _ _ => rfl)) pe_int (fun _ _ => rfl)) (pa_cons (pe_ix ix_tup (pe_ix ix_list (pv 4) pe_int (fun _ _ => rfl)) pe_int (fun _ _ => rfl)) (pa_cons (pe_ix ix_tup (pe_ix ix_list (pv 4) pe_int (fun _ _ => rfl)) pe_int (fun _ _ => rfl)) pa_nil)))))
      (pss_cons (ps_set (i := 9) sc_law.nd rfl (.inl rfl) (pe_fn C_law_results (hr.mono (by decide)) (by rfl) (pa_cons (pe_ix ix_tup (pe_ix ix_list (pv 4) pe_int (fun _ _ => rfl)) pe_int (fun _ _ => rfl)) (pa_cons (pe_ix ix_tup (pe_ix ix_list (pv 4) pe_int (fun _ _ => rfl)) pe_int (fun _ _ => rfl)) (pa_cons (pe_ix ix_tup (pe_ix ix_list (pv 4) pe_int (fun _ _ => rfl)) pe_int (fun _ _ => rfl)) pa_nil)))))
      (pss_cons (ps_for PassesOwn.never rfl (pi_range1 rfl T.range (pa_cons (pe_callB call_len_seq (by rfl) T.len PySem.boot_len (pa_cons (pv 8) pa_nil)) pa_nil)) (pg_name (i := 5) sc_law.nd rfl (.inl rfl))
      (pss_one (ps_if (pt_not (pt_val (pe_fn C_law_refines (hr.mono (by decide)) (by rfl) (pa_cons (pe_ix ix_list (pv 8) (pv 5) (fun _ _ => rfl)) (pa_cons (pe_ix ix_list (pv 9) (pv 5) (fun _ _ => rfl)) pa_nil)))))
      (pss_one (ps_ret pe_bl)) pss_nil)))
      (pss_one (ps_ret pe_bl))))))))))))))), ?_⟩
    refine st_setS (R := fun v H => ∃ p ms, v = .ref p ∧ H p = some (.lst (ms.map V.int)) ∧ ms.length = 84 ∧ Below 12 ms) (es_numbers (b := 12) (m := 84) g hS rfl (by decide) (by decide) (by decide)) (Ex.refl g) ?_
    rintro _ H1 e1 ⟨pn, ms, rfl, f_pn, hms, _⟩
    dsimp only
    have g1 := e1.good
    have npn : pn ∉ Ts := g1.out fun ps z => by
      rw [f_pn] at z
      cases z
    have hS1 := e1.l g hS
    refine st_set (v := .bl (decide (V.int (ns.getD 0 0 % 2) = V.int 1))) (ev_op (ev_op (ev_callL (a, ns, 0) (ea_cons (ev_var rfl) (ea_cons ev_c ea_nil)) fun H2 e => e.l g1 hS1) ev_c (rv_I (by decide))) ev_c (rv_eq rfl)) (Ex.refl g1) ?_
    intro H2 e2
    dsimp only
    have g2 := e2.good
    have hS2 := e2.l g1 hS1
    have f_pn2 := e2.keep pn _ npn f_pn
    generalize decide (V.int (ns.getD 0 0 % 2) = V.int 1) = fl
    refine st_setN (R := .lst [.int (1 + ns.getD 0 0 / 2 % 12), .int (1 + ns.getD 0 0 / 24 % 12), .int (1 + ns.getD 0 0 / 288 % 4)]) (en_lst (ea_cons (ev_op ev_c (ev_op (ev_op (ev_callL (a, ns, 0) (ea_cons (ev_var rfl) (ea_cons ev_c ea_nil)) fun H2 e => e.l g2 hS2) ev_c (rv_I ⟨by decide, by decide⟩)) ev_c (rv_I (by decide))) rv_I0) (ea_cons (ev_op ev_c (ev_op (ev_op (ev_callL (a, ns, 0) (ea_cons (ev_var rfl) (ea_cons ev_c ea_nil)) fun H2 e => e.l g2 hS2) ev_c (rv_I ⟨by decide, by decide⟩)) ev_c (rv_I (by decide))) rv_I0) (ea_cons (ev_op ev_c (ev_op (ev_op (ev_callL (a, ns, 0) (ea_cons (ev_var rfl) (ea_cons ev_c ea_nil)) fun H2 e => e.l g2 hS2) ev_c (rv_I ⟨by decide, by decide⟩)) ev_c (rv_I (by decide))) rv_I0) ea_nil))) (by show 3 ≤ 100000; decide)) g2 ?_
    intro ps H3 n3 e3 f_ps
    dsimp only
    have g3 := e3.good
    have nps : ps ∉ Ts := g2.free n3
    have f_pn3 := e3.keep pn _ npn f_pn2
    have hss : ∃ ss : List V, H3 ps = some (.lst ss) ∧ ∀ i, i < 3 → ∃ n : Nat, ss[i]? = some (.int (n : Int)) ∧ 1 ≤ n ∧ n ≤ 12 ∧ (i = 2 → n ≤ 8) := by
      refine ⟨_, f_ps, fun i hi => ?_⟩
      have e : i = 0 ∨ i = 1 ∨ i = 2 := by omega
      rcases e with rfl | rfl | rfl
      · exact ⟨(1 + ns.getD 0 0 / 2 % 12).toNat, congrArg (fun z => some (V.int z)) (by omega), by omega, by omega, by omega⟩
      · exact ⟨(1 + ns.getD 0 0 / 24 % 12).toNat, congrArg (fun z => some (V.int z)) (by omega), by omega, by omega, by omega⟩
      · exact ⟨(1 + ns.getD 0 0 / 288 % 4).toNat, congrArg (fun z => some (V.int z)) (by omega), by omega, by omega, by omega⟩
    clear f_ps
    obtain ⟨ss, f_ps, hss⟩ := hss
    refine st_setN (R := .lst []) (en_lst ea_nil (Nat.zero_le _)) g3 ?_
    intro pp H4 n4 e4 f_pp
    dsimp only
    have g4 := e4.good
    have npp : pp ∉ Ts := g3.free n4
    have d1 : pn ≠ pp := fun z => by
      rw [z, n4] at f_pn3
      cases f_pn3
    have d2 : ps ≠ pp := fun z => by
      rw [z, n4] at f_ps
      cases f_ps
    have f_pn4 := e4.keep pn _ npn f_pn3
    have f_ps4 := e4.keep ps _ nps f_ps
    have e123 := (e1.trans e2).trans e3
    have n0 : H pp = none := e123.back n4
    have e04 := e123.trans e4
    refine st_forR (n := 3) ev_c (by decide) (Ex.refl g4) (fun i σ H' => ∃ (qs : List (Addr × List Nat × List Nat)) (kk : Option V), σ = [some (.ref a), some (.ref pn), some (.bl fl), some (.ref ps), some (.ref pp), kk, none, none, none, none] ∧ Ex Ts H H' ∧ H' pn = some (.lst (ms.map V.int)) ∧ H' ps = some (.lst ss) ∧
      H' pp = some (.lst (qs.map fun q => V.ref q.1)) ∧ qs.length = i ∧ (∀ q ∈ qs, QOk Ts pp H' q) ∧ (∀ q, qs[2]? = some q → q.2.1.length ≤ 8)) ?_ ?_ ?_
    · intro H5 e5
      exact ⟨[], none, rfl, e04.trans e5, e5.keep pn _ npn f_pn4, e5.keep ps _ nps f_ps4, e5.keep pp _ npp f_pp, rfl, fun q hq => (by cases hq), fun q hq => (by cases hq)⟩
    · rintro i σ H5 N hi ⟨qs, kk, rfl, e5, f1, f2, f3, hl, hq, h8⟩ hN
      dsimp only
      obtain ⟨n, hn, m1, m2, m3⟩ := hss i hi
      refine st_appS (R := fun v H => ∃ p a b, v = .ref p ∧ p ∉ Ts ∧ H p = some (.tup [sv a, sv b]) ∧ AllB a ∧ AllB b ∧ Rfs a b ∧ a.length = n) rfl f3 npp (es_pair e5.good (l_of f1) (l_of f2) rfl rfl rfl rfl hn m2 (by omega)) (Ex.refl e5.good) (by rw [List.length_map]; omega) ?_
      rintro y H6 e6 ⟨p, x1, x2, rfl, np, hp, hA, hB, hR, hxl⟩ h6
      have dp : p ≠ pp := fun z => by
        rw [z, h6] at hp
        cases hp
      refine hN _ _ ⟨qs ++ [(p, x1, x2)], _, rfl, (e5.trans e6).mut npp n0, ?_, ?_, ?_, ?_, ?_, ?_⟩
      · rw [upd_ne d1]
        exact e6.keep pn _ npn f1
      · rw [upd_ne d2]
        exact e6.keep ps _ nps f2
      · rw [upd_same, List.map_append]
        rfl
      · rw [List.length_append, List.length_singleton, hl]
      · intro q hm
        rcases List.mem_append.mp hm with z | z
        · exact ((hq q z).mono e6).upd
        · rw [List.mem_singleton.mp z]
          have v1 := vec_of hA hxl m1 m2
          have v2 : Vec x2 := vec_of hB (by rw [← hR.len]; exact hxl) m1 m2
          exact ⟨np, dp, by rw [upd_ne dp]; exact hp, v1, v2, hR⟩
      · intro q hz
        by_cases h2 : i = 2
        · rw [List.getElem?_append_right (by omega), hl, h2] at hz
          cases hz
          show x1.length ≤ 8
          rw [hxl]
          exact m3 h2
        · rw [List.getElem?_eq_none (by rw [List.length_append, List.length_singleton]; omega)] at hz
          cases hz
    · rintro σ H5 ⟨qs, kk, rfl, e5, f1, f2, f3, hl, hq, h8⟩
      obtain ⟨q0, q1, q2, rfl⟩ := three hl
      dsimp only
      have g5 := e5.good
      have o0 := hq q0 (by simp)
      have o1 := hq q1 (by simp)
      have o2 := hq q2 (by simp)
      have l8 : q2.2.1.length ≤ 8 := h8 q2 rfl
      replace f3 : H5 pp = some (.lst [V.ref q0.1, .ref q1.1, .ref q2.1]) := f3
      refine st_forV (K := K) (a := pp) (xs := [V.ref q0.1, .ref q1.1, .ref q2.1]) rfl (fun i σ H' => ∃ kk pr : Option V, σ = [some (.ref a), some (.ref pn), some (.bl fl), some (.ref ps), some (.ref pp), kk, pr, none, none, none] ∧ Ex Ts H5 H') ⟨_, _, rfl, Ex.refl g5⟩ ?_ ?_ ?_
      · rintro i σ H6 ⟨_, _, _, e6⟩
        exact e6.l g5 (l_of f3)
      · rintro i x σ H6 N hx ⟨kk, pr, rfl, e6⟩ hN
        have hm : ∃ r, x = .ref r.1 ∧ QOk Ts pp H5 r := by
          have hmem := List.mem_of_getElem? hx
          simp only [List.mem_cons, List.not_mem_nil, or_false] at hmem
          rcases hmem with rfl | rfl | rfl
          · exact ⟨_, rfl, o0⟩
          · exact ⟨_, rfl, o1⟩
          · exact ⟨_, rfl, o2⟩
        obtain ⟨r, rfl, ro⟩ := hm
        have r6 := ro.mono e6
        have g6 := e6.good
        dsimp only
        refine st_no (et_is (et_not (et_B (ev_call (r.2.1, r.2.2) (ea_cons (ev_op (ev_var rfl) ev_c (rv_ixT g6 (t_of r6.2.2.1) rfl)) (ea_cons (ev_op (ev_var rfl) ev_c (rv_ixT g6 (t_of r6.2.2.1) rfl)) ea_nil)) ⟨Nat.le_trans r6.2.2.2.1.le (by decide), r6.2.2.2.2.2⟩))) rfl) (Ex.refl g6) ?_
        intro H7 e7
        exact hN _ _ ⟨_, _, rfl, e6.trans e7⟩
      · rintro σ H6 ⟨kk, pr, rfl, e6⟩
        dsimp only
        have g6 := e6.good
        have p0 := o0.mono e6
        have p1 := o1.mono e6
        have p2 := o2.mono e6
        have f6 := e6.keep pp _ npp f3
        have e06 := e5.trans e6
        clear o0 o1 o2 hq h8
        obtain ⟨nq0, _, t0, v0, v0', R0⟩ := p0
        obtain ⟨nq1, _, t1, v1, v1', R1⟩ := p1
        obtain ⟨nq2, _, t2, v2, v2', R2⟩ := p2
        refine st_set (v := sv q0.2.1) (ev_op (ev_op (ev_var rfl) ev_c (rv_ixL (xs := [V.ref q0.1, .ref q1.1, .ref q2.1]) g6 (l_of f6) rfl)) ev_c (rv_ixT g6 (t_of t0) rfl)) (Ex.refl g6) ?_
        intro H7 e7
        dsimp only
        have l0 := v0.le
        have l1 := v0.pos
        refine st_no (et_is (et_or (et_test (ev_op (ev_call (q0.2.1, q0.2.1) (ea_cons (ev_var rfl) (ea_cons (ev_var rfl) ea_nil)) (show q0.2.1.length ≤ 1000 ∧ q0.2.1.length ≤ 1000 from ⟨by omega, by omega⟩)) ev_c rv_notB)) fun _ => et_test (ev_op (ev_call (q0.2.1, q0.2.1 ++ [48]) (ea_cons (ev_var rfl) (ea_cons (ev_op (ev_var rfl) (ev_s lt_0) (rv_addS (by rw [List.length_singleton]; omega))) ea_nil)) (show q0.2.1.length ≤ 1000 ∧ (q0.2.1 ++ [48]).length ≤ 1000 from ⟨by omega, by rw [List.length_append, List.length_singleton]; omega⟩)) ev_c rv_notB)) ?_) e7 ?_
        · show ((!decide (irB q0.2.1 q0.2.1 = true)) || !decide (irB q0.2.1 (q0.2.1 ++ [48]) = false)) = false
          rw [ir_of (Rfs.refl _), ir_len (by rw [List.length_append, List.length_singleton]; omega)]
          rfl
        intro H8 e8
        dsimp only
        refine st_no (et_is (et_test (ev_op (ev_call ([120] ++ q0.2.1, q0.2.1) (ea_cons (ev_op (ev_s lt_x) (ev_var rfl) (rv_addS (by rw [List.length_singleton]; omega))) (ea_cons (ev_var rfl) ea_nil)) (show ([120] ++ q0.2.1).length ≤ 1000 ∧ q0.2.1.length ≤ 1000 from ⟨by rw [List.length_append, List.length_singleton]; omega, by omega⟩)) ev_c rv_notB)) ?_) e8 ?_
        · show (!decide (irB ([120] ++ q0.2.1) q0.2.1 = false)) = false
          rw [ir_len (by rw [List.length_append, List.length_singleton]; omega)]
          rfl
        intro H9 e9
        dsimp only
        refine st_forR (n := q0.2.1.length) (ev_cb (ea_cons (ev_var rfl) ea_nil) (rc_lenS (by omega))) (by omega) e9 (fun i σ H' => ∃ kk : Option V, σ = [some (.ref a), some (.ref pn), some (.bl fl), some (.ref ps), some (.ref pp), kk, pr, some (sv q0.2.1), none, none] ∧ Ex Ts H6 H') ?_ ?_ ?_
        · intro H10 e10
          exact ⟨_, rfl, e9.trans e10⟩
        · rintro i σ H10 N hi ⟨kk, rfl, e10⟩ hN
          dsimp only
          have hA : q0.2.1[i]? = some q0.2.1[i] := List.getElem?_eq_getElem hi
          generalize q0.2.1[i] = c at hA
          have i1 : (i : Int) + 1 = ((i + 1 : Nat) : Int) := by omega
          refine st_no (et_is (et_and (a := decide (c ∈ [48, 49])) (b := false) (et_test (ev_op (ev_op (ev_var rfl) (ev_var rfl) (rv_ixS (by omega) (atI_nat hA))) (ev_s lt_01) rv_inS)) fun h => ?_) (Bool.and_false _)) (Ex.refl e10.good) ?_
          · have hc : c = 48 ∨ c = 49 := by simpa using of_decide_eq_true h
            refine et_is (et_test (ev_op (ev_call (q0.2.1, q0.2.1.take i ++ [97 - c] ++ q0.2.1.drop (i + 1)) (ea_cons (ev_var rfl) (ea_cons (ev_op (ev_op (ev_slS (by omega) (ev_var rfl) eo_none (eo_some (ev_var rfl)) (cutS_to _ i)) (ev_op (ev_s lt_10) (ev_cb (ea_cons (ev_op (ev_var rfl) (ev_var rfl) (rv_ixS (by omega) (atI_nat hA))) ea_nil) (rc_int01 hc)) (rv_ixS (by decide) (flip_at hc))) (rv_addS ?_)) (ev_slS (by omega) (ev_var rfl) (eo_some (ev_is (v := .int ((i : Int) + 1)) (ev_op (ev_var rfl) ev_c rv_I0) (congrArg V.int i1))) eo_none (cutS_from (show i + 1 ≤ q0.2.1.length by omega))) (rv_addS ?_)) ea_nil)) ?_) ev_c rv_notB)) ?_
            · rw [List.length_take, List.length_singleton]
              omega
            · rw [List.length_append, List.length_take, List.length_singleton, List.length_drop]
              omega
            · show q0.2.1.length ≤ 1000 ∧ (q0.2.1.take i ++ [97 - c] ++ q0.2.1.drop (i + 1)).length ≤ 1000
              rw [List.length_append, List.length_append, List.length_take, List.length_singleton, List.length_drop]
              omega
            · show (!decide (irB q0.2.1 (q0.2.1.take i ++ [97 - c] ++ q0.2.1.drop (i + 1)) = false)) = false
              rw [flip_ir hA hc]
              rfl
          · intro H11 e11
            exact hN _ _ ⟨_, rfl, e10.trans e11⟩
        · rintro σ H10 ⟨kk, rfl, e10⟩
          dsimp only
          refine st_setN (R := .lst ((rAll5 q0.2.1 q1.2.1 q2.2.1).map sv)) ((en_call (q0.2.1, q1.2.1, q2.2.1) (ea_cons (ev_op (ev_op (ev_var rfl) ev_c (rv_ixL (xs := [V.ref q0.1, .ref q1.1, .ref q2.1]) g6 (l_of f6) rfl)) ev_c (rv_ixT g6 (t_of t0) rfl)) (ea_cons (ev_op (ev_op (ev_var rfl) ev_c (rv_ixL (xs := [V.ref q0.1, .ref q1.1, .ref q2.1]) g6 (l_of f6) rfl)) ev_c (rv_ixT g6 (t_of t1) rfl)) (ea_cons (ev_op (ev_op (ev_var rfl) ev_c (rv_ixL (xs := [V.ref q0.1, .ref q1.1, .ref q2.1]) g6 (l_of f6) rfl)) ev_c (rv_ixT g6 (t_of t2) rfl)) ea_nil))) fun _ _ => ⟨v0, v1, v2, l8⟩) |> fun z => enM z e10) e10.good ?_
          intro pd H11 nd e11 f_d
          dsimp only
          have nTd : pd ∉ Ts := e10.good.free nd
          refine st_setN (R := .lst ((rAll5 q0.2.2 q1.2.2 q2.2.2).map sv)) ((en_call (q0.2.2, q1.2.2, q2.2.2) (ea_cons (ev_op (ev_op (ev_var rfl) ev_c (rv_ixL (xs := [V.ref q0.1, .ref q1.1, .ref q2.1]) g6 (l_of f6) rfl)) ev_c (rv_ixT g6 (t_of t0) rfl)) (ea_cons (ev_op (ev_op (ev_var rfl) ev_c (rv_ixL (xs := [V.ref q0.1, .ref q1.1, .ref q2.1]) g6 (l_of f6) rfl)) ev_c (rv_ixT g6 (t_of t1) rfl)) (ea_cons (ev_op (ev_op (ev_var rfl) ev_c (rv_ixL (xs := [V.ref q0.1, .ref q1.1, .ref q2.1]) g6 (l_of f6) rfl)) ev_c (rv_ixT g6 (t_of t2) rfl)) ea_nil))) fun _ _ => ⟨v0', v1', v2', by show q2.2.2.length ≤ 8; rw [← R2.len]; exact l8⟩) |> fun z => enM z (e10.trans e11)) e11.good ?_
          intro pt H12 nt e12 f_t
          dsimp only
          have nTt : pt ∉ Ts := e11.good.free nt
          have g12 := e12.good
          have f_d12 := e12.keep pd _ nTd f_d
          have e0 : Ex Ts H H12 := ((e06.trans e10).trans e11).trans e12
          have RR := all_ref v0.le v1.le v2.le R0 R1 R2
          have hlen : (rAll5 q0.2.1 q1.2.1 q2.2.1).length = 25 := rfl
          generalize rAll5 q0.2.1 q1.2.1 q2.2.1 = A1 at f_d12 RR hlen
          generalize rAll5 q0.2.2 q1.2.2 q2.2.2 = A2 at f_t RR
          refine st_forR (n := 25) (ev_is (ev_cb (ea_cons (ev_var rfl) ea_nil) (rc_lenL g12 (l_of f_d12))) (by rw [List.length_map, hlen])) (by decide) (Ex.refl g12) (fun i σ H' => ∃ kk : Option V, σ = [some (.ref a), some (.ref pn), some (.bl fl), some (.ref ps), some (.ref pp), kk, pr, some (sv q0.2.1), some (.ref pd), some (.ref pt)] ∧ Ex Ts H12 H') ?_ ?_ ?_
          · intro H13 e13
            exact ⟨_, rfl, e13⟩
          · rintro i σ H13 N hi ⟨kk, rfl, e13⟩ hN
            dsimp only
            obtain ⟨x, y, hx, hy, hxl, hr⟩ := RR.get (i := i) (by rw [hlen]; exact hi)
            have i1 : (A1.map sv)[i]? = some (sv x) := by rw [List.getElem?_map, hx]; rfl
            have i2 : (A2.map sv)[i]? = some (sv y) := by rw [List.getElem?_map, hy]; rfl
            refine st_no (et_is (et_not (et_B (ev_call (x, y) (ea_cons (ev_op (ev_var rfl) (ev_var rfl) (rv_ixL g12 (l_of f_d12) (atI_nat i1))) (ea_cons (ev_op (ev_var rfl) (ev_var rfl) (rv_ixL g12 (l_of f_t) (atI_nat i2))) ea_nil)) ⟨hxl, hr⟩))) rfl) e13 ?_
            intro H14 e14
            exact hN _ _ ⟨_, rfl, e14⟩
          · rintro σ H13 ⟨kk, rfl, e13⟩
            dsimp only
            exact st_ret (v := .bl true) ev_c (Ex.refl e13.good) fun H14 e14 => q H14 ((e0.trans e13).trans e14)

end
end K44
set_option Elab.async false
set_option linter.all false
set_option maxRecDepth 100000
set_option maxHeartbeats 2000000
namespace K44
open PySem PySem.Spec PyProof.Rows L2 Cw
open GxR (TabG Tabbed TabB GenS)
open LamX (LawAtS)
/-- the table of the code object of the def called x is empty -/
def TabFact (K : PySem.W.Frag) (x : Str) (mg : Str → Option Value) (h : Heap) : Prop := ∀ (f c P : Addr) (o oc : Obj) (fd : FuncData) (vs : Array Value), mg x = some (.ref f) → K.lookup f = some o → o.data = .func fd → fd.code = .ref c → K.lookup c = some oc → oc.data = .fields vs → (vs[11]? : Option Value) = some (.ref P) →
  h.get? P = some { cls := .none, data := .fields #[] }
theorem walk_tab {l : PySem.W.OpenLaw} {n k : Nat} {q : Program} {loose : List Str} {XP : (Str → Option Value) → Heap → Prop} {YP : World → Heap → Prop} {d : DefRec} {K : Params → PySem.W.Frag} {y : Str} (xs : List Str)
    (hn : l.most = some n) (hn2 : n ≤ sizeLine) (hdf : d.params.defaults = []) (hr : Room k callerA) (hrec : (xs.all fun x => (recsOf q).any fun e => e.name == x) = true) (hY : ∀ (w : World) (h : Heap), YP w h → (K w.params).In h)
    (F : ∀ (w : World) (mg : Str → Option Value) (fa : Addr) (h : Heap), (K w.params).In h → h.Ns mainGlobals mg → mg d.name = some (.ref fa) → (∀ x ∈ xs, TabFact (K w.params) x mg h) → LawAtS l w (K w.params) CX0 k n y mg fa h) :
    PySem.W.WalkO q loose XP YP l.row.toRowW d [] (fun f vs => PySem.call f vs) := by
  refine Att.attach_callB hn hdf fun w s0 s1 mg mb fa o pm cd doc a vs ns G Y ho hd hcd hmg hobj hints hlen hbits hg => ?_
  have KX := hY w _ Y
  have own : ∀ x ∈ xs, TabFact (K w.params) x mg s1.heap := by
    intro x hx f c P of oc fd vs e1 e2 e3 e4 e5 e6 e7
    obtain ⟨r, hr1, hr2⟩ := List.any_eq_true.mp (List.all_eq_true.mp hrec x hx)
    obtain ⟨f', o', fd', c', P', h1, h2, h3, h4, _, ⟨⟨oc', vc, g1, _, g3, g4⟩, hP⟩⟩ := G.T.tab r hr1
    rw [beq_iff_eq.mp hr2, e1] at h1
    cases h1
    cases (KX _ _ e2).symm.trans h2
    cases e3.symm.trans h3
    cases e4.symm.trans h4
    cases (KX _ _ e5).symm.trans g1
    cases e6.symm.trans g3
    cases e7.symm.trans g4
    exact hP
  obtain ⟨fd, cs, sp, hT, nT, C, hb, hsp, hF⟩ := F w mg fa _ KX G.T.g hmg own
  exact LamX.law_callTs KX G.T.g G.T.b G.T.builtins G.T.nolimit hg hT nT C G.T.bmain hobj hints (Nat.le_trans hlen hn2) hr hF hb (fun H hH hS => hsp H a ns hlen hbits hH hS) fun H e s' z => z
theorem mem_isB {a : Nat} (h : IsB a) : a ∈ [48, 49, 120, 122] := by
  rcases h with rfl | rfl | rfl | rfl <;> decide
theorem all_mk {l : PySem.W.OpenLaw} {w : World} {K : PySem.W.Frag} {h : Heap} {mg : Str → Option Value} {fa : Addr} (X : K.In h) (G : h.Ns mainGlobals mg) (hfa : mg "law" = some (.ref fa)) (TF : ∀ x ∈ [("_consists_of" : Str), ("is_refined" : Str)], TabFact K x mg h)
    {f_law_numbers : Addr} {od_law_numbers an_law_numbers : Option Addr} {sl_law_numbers : Array (Option Value)} {oc_law_numbers kV_law_numbers dc_law_numbers pm_law_numbers cd_law_numbers ct_law_numbers : Value}
    {f_bit_not : Addr} {od_bit_not an_bit_not : Option Addr} {sl_bit_not : Array (Option Value)} {oc_bit_not kV_bit_not dc_bit_not pm_bit_not cd_bit_not ct_bit_not : Value}
    {f_extended : Addr} {od_extended an_extended : Option Addr} {sl_extended : Array (Option Value)} {oc_extended kV_extended dc_extended pm_extended cd_extended ct_extended : Value}
    {f_both_extended : Addr} {od_both_extended an_both_extended : Option Addr} {sl_both_extended : Array (Option Value)} {oc_both_extended kV_both_extended dc_both_extended pm_both_extended cd_both_extended ct_both_extended : Value}
    {f_bit_and : Addr} {od_bit_and an_bit_and : Option Addr} {sl_bit_and : Array (Option Value)} {oc_bit_and kV_bit_and dc_bit_and pm_bit_and cd_bit_and ct_bit_and : Value}
    {f_bit_or : Addr} {od_bit_or an_bit_or : Option Addr} {sl_bit_or : Array (Option Value)} {oc_bit_or kV_bit_or dc_bit_or pm_bit_or cd_bit_or ct_bit_or : Value}
    {f_bit_xor : Addr} {od_bit_xor an_bit_xor : Option Addr} {sl_bit_xor : Array (Option Value)} {oc_bit_xor kV_bit_xor dc_bit_xor pm_bit_xor cd_bit_xor ct_bit_xor : Value}
    {f_reduce_and : Addr} {od_reduce_and an_reduce_and : Option Addr} {sl_reduce_and : Array (Option Value)} {oc_reduce_and kV_reduce_and dc_reduce_and pm_reduce_and cd_reduce_and ct_reduce_and : Value}
    {f_reduce_or : Addr} {od_reduce_or an_reduce_or : Option Addr} {sl_reduce_or : Array (Option Value)} {oc_reduce_or kV_reduce_or dc_reduce_or pm_reduce_or cd_reduce_or ct_reduce_or : Value}
    {f_reduce_xor : Addr} {od_reduce_xor an_reduce_xor : Option Addr} {sl_reduce_xor : Array (Option Value)} {oc_reduce_xor kV_reduce_xor dc_reduce_xor pm_reduce_xor cd_reduce_xor ct_reduce_xor : Value}
    {f_truth : Addr} {od_truth an_truth : Option Addr} {sl_truth : Array (Option Value)} {oc_truth kV_truth dc_truth pm_truth cd_truth ct_truth : Value}
    {f_low_bits : Addr} {od_low_bits an_low_bits : Option Addr} {sl_low_bits : Array (Option Value)} {oc_low_bits kV_low_bits dc_low_bits pm_low_bits cd_low_bits ct_low_bits : Value}
    {f_consists_of : Addr} {od_consists_of an_consists_of : Option Addr} {sl_consists_of : Array (Option Value)} {oc_consists_of kV_consists_of dc_consists_of pm_consists_of ct_consists_of : Value}
    {f_is_known : Addr} {od_is_known an_is_known : Option Addr} {sl_is_known : Array (Option Value)} {oc_is_known kV_is_known dc_is_known pm_is_known cd_is_known ct_is_known : Value}
    {f_both_known : Addr} {od_both_known an_both_known : Option Addr} {sl_both_known : Array (Option Value)} {oc_both_known kV_both_known dc_both_known pm_both_known cd_both_known ct_both_known : Value}
    {f_add : Addr} {od_add an_add : Option Addr} {sl_add : Array (Option Value)} {oc_add kV_add dc_add pm_add cd_add ct_add : Value}
    {f_subtract : Addr} {od_subtract an_subtract : Option Addr} {sl_subtract : Array (Option Value)} {oc_subtract kV_subtract dc_subtract pm_subtract cd_subtract ct_subtract : Value}
    {f_multiply : Addr} {od_multiply an_multiply : Option Addr} {sl_multiply : Array (Option Value)} {oc_multiply kV_multiply dc_multiply pm_multiply cd_multiply ct_multiply : Value}
    {f_negate : Addr} {od_negate an_negate : Option Addr} {sl_negate : Array (Option Value)} {oc_negate kV_negate dc_negate pm_negate cd_negate ct_negate : Value}
    {f_bit : Addr} {od_bit an_bit : Option Addr} {sl_bit : Array (Option Value)} {oc_bit kV_bit dc_bit pm_bit cd_bit ct_bit : Value}
    {f_less : Addr} {od_less an_less : Option Addr} {sl_less : Array (Option Value)} {oc_less kV_less dc_less pm_less cd_less ct_less : Value}
    {f_less_equal : Addr} {od_less_equal an_less_equal : Option Addr} {sl_less_equal : Array (Option Value)} {oc_less_equal kV_less_equal dc_less_equal pm_less_equal cd_less_equal ct_less_equal : Value}
    {f_equal : Addr} {od_equal an_equal : Option Addr} {sl_equal : Array (Option Value)} {oc_equal kV_equal dc_equal pm_equal cd_equal ct_equal : Value}
    {f_not_equal : Addr} {od_not_equal an_not_equal : Option Addr} {sl_not_equal : Array (Option Value)} {oc_not_equal kV_not_equal dc_not_equal pm_not_equal cd_not_equal ct_not_equal : Value}
    {f_logic_not : Addr} {od_logic_not an_logic_not : Option Addr} {sl_logic_not : Array (Option Value)} {oc_logic_not kV_logic_not dc_logic_not pm_logic_not cd_logic_not ct_logic_not : Value}
    {f_logic_and : Addr} {od_logic_and an_logic_and : Option Addr} {sl_logic_and : Array (Option Value)} {oc_logic_and kV_logic_and dc_logic_and pm_logic_and cd_logic_and ct_logic_and : Value}
    {f_logic_or : Addr} {od_logic_or an_logic_or : Option Addr} {sl_logic_or : Array (Option Value)} {oc_logic_or kV_logic_or dc_logic_or pm_logic_or cd_logic_or ct_logic_or : Value}
    {f_shift_left : Addr} {od_shift_left an_shift_left : Option Addr} {sl_shift_left : Array (Option Value)} {oc_shift_left kV_shift_left dc_shift_left pm_shift_left cd_shift_left ct_shift_left : Value}
    {f_shift_right : Addr} {od_shift_right an_shift_right : Option Addr} {sl_shift_right : Array (Option Value)} {oc_shift_right kV_shift_right dc_shift_right pm_shift_right cd_shift_right ct_shift_right : Value}
    {f_agreed_bit : Addr} {od_agreed_bit an_agreed_bit : Option Addr} {sl_agreed_bit : Array (Option Value)} {oc_agreed_bit kV_agreed_bit dc_agreed_bit pm_agreed_bit cd_agreed_bit ct_agreed_bit : Value}
    {f_choose : Addr} {od_choose an_choose : Option Addr} {sl_choose : Array (Option Value)} {oc_choose kV_choose dc_choose pm_choose cd_choose ct_choose : Value}
    {f_pick : Addr} {od_pick an_pick : Option Addr} {sl_pick : Array (Option Value)} {oc_pick kV_pick dc_pick pm_pick cd_pick ct_pick : Value}
    {f_law_results : Addr} {od_law_results an_law_results : Option Addr} {sl_law_results : Array (Option Value)} {oc_law_results kV_law_results dc_law_results pm_law_results cd_law_results ct_law_results : Value}
    {f_is_refined : Addr} {od_is_refined an_is_refined : Option Addr} {sl_is_refined : Array (Option Value)} {oc_is_refined kV_is_refined dc_is_refined pm_is_refined ct_is_refined : Value}
    {f_law_cell : Addr} {od_law_cell an_law_cell : Option Addr} {sl_law_cell : Array (Option Value)} {oc_law_cell kV_law_cell dc_law_cell pm_law_cell cd_law_cell ct_law_cell : Value}
    {f_law_pair : Addr} {od_law_pair an_law_pair : Option Addr} {sl_law_pair : Array (Option Value)} {oc_law_pair kV_law_pair dc_law_pair pm_law_pair cd_law_pair ct_law_pair : Value}
    {f_law_refines : Addr} {od_law_refines an_law_refines : Option Addr} {sl_law_refines : Array (Option Value)} {oc_law_refines kV_law_refines dc_law_refines pm_law_refines cd_law_refines ct_law_refines : Value}
    {f_law : Addr} {od_law an_law : Option Addr} {sl_law : Array (Option Value)} {oc_law kV_law dc_law pm_law cd_law ct_law : Value}
    {cT_consists_of Pt_consists_of : Addr} {ccT_consists_of : Value} {cdT_consists_of : Option Addr} {vsT_consists_of : Array Value} {cslT_consists_of : Array (Option Value)}
    {cT_is_refined Pt_is_refined : Addr} {ccT_is_refined : Value} {cdT_is_refined : Option Addr} {vsT_is_refined : Array Value} {cslT_is_refined : Array (Option Value)}
    {pA : Addr} {esA : Array DictEntry} {nA : Nat}
    {pO : Addr} {esO : Array DictEntry} {nO : Nat}
    {pX : Addr} {esX : Array DictEntry} {nX : Nat}
    {pN : Addr} {esN : Array DictEntry} {nN : Nat}
    (a_law_numbers : PySem.W.nsIn K mainGlobals "_law_numbers" = some (some (.ref f_law_numbers)))
    (l_law_numbers : K.lookup f_law_numbers = some ⟨oc_law_numbers, od_law_numbers, .func (PySem.W.fnOf "_law_numbers" "_law_numbers" (defArgs s_law_numbers) (defBody s_law_numbers) (defScope s_law_numbers) .none kV_law_numbers dc_law_numbers pm_law_numbers an_law_numbers cd_law_numbers ct_law_numbers), sl_law_numbers⟩)
    (c_law_numbers : PySem.W.codeIn K cd_law_numbers "_law_numbers" = true)
    (k_law_numbers : PySem.W.keepIn K (.ref f_law_numbers) = true)
    (a_bit_not : PySem.W.nsIn K mainGlobals "bit_not" = some (some (.ref f_bit_not)))
    (l_bit_not : K.lookup f_bit_not = some ⟨oc_bit_not, od_bit_not, .func (PySem.W.fnOf "bit_not" "bit_not" (defArgs s_bit_not) (defBody s_bit_not) (defScope s_bit_not) .none kV_bit_not dc_bit_not pm_bit_not an_bit_not cd_bit_not ct_bit_not), sl_bit_not⟩)
    (c_bit_not : PySem.W.codeIn K cd_bit_not "bit_not" = true)
    (k_bit_not : PySem.W.keepIn K (.ref f_bit_not) = true)
    (a_extended : PySem.W.nsIn K mainGlobals "_extended" = some (some (.ref f_extended)))
    (l_extended : K.lookup f_extended = some ⟨oc_extended, od_extended, .func (PySem.W.fnOf "_extended" "_extended" (defArgs s_extended) (defBody s_extended) (defScope s_extended) .none kV_extended dc_extended pm_extended an_extended cd_extended ct_extended), sl_extended⟩)
    (c_extended : PySem.W.codeIn K cd_extended "_extended" = true)
    (k_extended : PySem.W.keepIn K (.ref f_extended) = true)
    (a_both_extended : PySem.W.nsIn K mainGlobals "_both_extended" = some (some (.ref f_both_extended)))
    (l_both_extended : K.lookup f_both_extended = some ⟨oc_both_extended, od_both_extended, .func (PySem.W.fnOf "_both_extended" "_both_extended" (defArgs s_both_extended) (defBody s_both_extended) (defScope s_both_extended) .none kV_both_extended dc_both_extended pm_both_extended an_both_extended cd_both_extended ct_both_extended), sl_both_extended⟩)
    (c_both_extended : PySem.W.codeIn K cd_both_extended "_both_extended" = true)
    (k_both_extended : PySem.W.keepIn K (.ref f_both_extended) = true)
    (a_bit_and : PySem.W.nsIn K mainGlobals "bit_and" = some (some (.ref f_bit_and)))
    (l_bit_and : K.lookup f_bit_and = some ⟨oc_bit_and, od_bit_and, .func (PySem.W.fnOf "bit_and" "bit_and" (defArgs s_bit_and) (defBody s_bit_and) (defScope s_bit_and) .none kV_bit_and dc_bit_and pm_bit_and an_bit_and cd_bit_and ct_bit_and), sl_bit_and⟩)
    (c_bit_and : PySem.W.codeIn K cd_bit_and "bit_and" = true)
    (k_bit_and : PySem.W.keepIn K (.ref f_bit_and) = true)
    (a_bit_or : PySem.W.nsIn K mainGlobals "bit_or" = some (some (.ref f_bit_or)))
    (l_bit_or : K.lookup f_bit_or = some ⟨oc_bit_or, od_bit_or, .func (PySem.W.fnOf "bit_or" "bit_or" (defArgs s_bit_or) (defBody s_bit_or) (defScope s_bit_or) .none kV_bit_or dc_bit_or pm_bit_or an_bit_or cd_bit_or ct_bit_or), sl_bit_or⟩)
    (c_bit_or : PySem.W.codeIn K cd_bit_or "bit_or" = true)
    (k_bit_or : PySem.W.keepIn K (.ref f_bit_or) = true)
    (a_bit_xor : PySem.W.nsIn K mainGlobals "bit_xor" = some (some (.ref f_bit_xor)))
    (l_bit_xor : K.lookup f_bit_xor = some ⟨oc_bit_xor, od_bit_xor, .func (PySem.W.fnOf "bit_xor" "bit_xor" (defArgs s_bit_xor) (defBody s_bit_xor) (defScope s_bit_xor) .none kV_bit_xor dc_bit_xor pm_bit_xor an_bit_xor cd_bit_xor ct_bit_xor), sl_bit_xor⟩)
    (c_bit_xor : PySem.W.codeIn K cd_bit_xor "bit_xor" = true)
    (k_bit_xor : PySem.W.keepIn K (.ref f_bit_xor) = true)
    (a_reduce_and : PySem.W.nsIn K mainGlobals "reduce_and" = some (some (.ref f_reduce_and)))
    (l_reduce_and : K.lookup f_reduce_and = some ⟨oc_reduce_and, od_reduce_and, .func (PySem.W.fnOf "reduce_and" "reduce_and" (defArgs s_reduce_and) (defBody s_reduce_and) (defScope s_reduce_and) .none kV_reduce_and dc_reduce_and pm_reduce_and an_reduce_and cd_reduce_and ct_reduce_and), sl_reduce_and⟩)
    (c_reduce_and : PySem.W.codeIn K cd_reduce_and "reduce_and" = true)
    (k_reduce_and : PySem.W.keepIn K (.ref f_reduce_and) = true)
    (a_reduce_or : PySem.W.nsIn K mainGlobals "reduce_or" = some (some (.ref f_reduce_or)))
    (l_reduce_or : K.lookup f_reduce_or = some ⟨oc_reduce_or, od_reduce_or, .func (PySem.W.fnOf "reduce_or" "reduce_or" (defArgs s_reduce_or) (defBody s_reduce_or) (defScope s_reduce_or) .none kV_reduce_or dc_reduce_or pm_reduce_or an_reduce_or cd_reduce_or ct_reduce_or), sl_reduce_or⟩)
    (c_reduce_or : PySem.W.codeIn K cd_reduce_or "reduce_or" = true)
    (k_reduce_or : PySem.W.keepIn K (.ref f_reduce_or) = true)
    (a_reduce_xor : PySem.W.nsIn K mainGlobals "reduce_xor" = some (some (.ref f_reduce_xor)))
    (l_reduce_xor : K.lookup f_reduce_xor = some ⟨oc_reduce_xor, od_reduce_xor, .func (PySem.W.fnOf "reduce_xor" "reduce_xor" (defArgs s_reduce_xor) (defBody s_reduce_xor) (defScope s_reduce_xor) .none kV_reduce_xor dc_reduce_xor pm_reduce_xor an_reduce_xor cd_reduce_xor ct_reduce_xor), sl_reduce_xor⟩)
    (c_reduce_xor : PySem.W.codeIn K cd_reduce_xor "reduce_xor" = true)
    (k_reduce_xor : PySem.W.keepIn K (.ref f_reduce_xor) = true)
    (a_truth : PySem.W.nsIn K mainGlobals "truth" = some (some (.ref f_truth)))
    (l_truth : K.lookup f_truth = some ⟨oc_truth, od_truth, .func (PySem.W.fnOf "truth" "truth" (defArgs s_truth) (defBody s_truth) (defScope s_truth) .none kV_truth dc_truth pm_truth an_truth cd_truth ct_truth), sl_truth⟩)
    (c_truth : PySem.W.codeIn K cd_truth "truth" = true)
    (k_truth : PySem.W.keepIn K (.ref f_truth) = true)
    (a_low_bits : PySem.W.nsIn K mainGlobals "_low_bits" = some (some (.ref f_low_bits)))
    (l_low_bits : K.lookup f_low_bits = some ⟨oc_low_bits, od_low_bits, .func (PySem.W.fnOf "_low_bits" "_low_bits" (defArgs s_low_bits) (defBody s_low_bits) (defScope s_low_bits) .none kV_low_bits dc_low_bits pm_low_bits an_low_bits cd_low_bits ct_low_bits), sl_low_bits⟩)
    (c_low_bits : PySem.W.codeIn K cd_low_bits "_low_bits" = true)
    (k_low_bits : PySem.W.keepIn K (.ref f_low_bits) = true)
    (a_consists_of : PySem.W.nsIn K mainGlobals "_consists_of" = some (some (.ref f_consists_of)))
    (l_consists_of : K.lookup f_consists_of = some ⟨oc_consists_of, od_consists_of, .func (PySem.W.fnOf "_consists_of" "_consists_of" (defArgs s_consists_of) (defBody s_consists_of) (defScope s_consists_of) .none kV_consists_of dc_consists_of pm_consists_of an_consists_of (.ref cT_consists_of) ct_consists_of), sl_consists_of⟩)
    (c_consists_of : PySem.W.codeIn K (.ref cT_consists_of) "_consists_of" = true)
    (k_consists_of : PySem.W.keepIn K (.ref f_consists_of) = true)
    (a_is_known : PySem.W.nsIn K mainGlobals "is_known" = some (some (.ref f_is_known)))
    (l_is_known : K.lookup f_is_known = some ⟨oc_is_known, od_is_known, .func (PySem.W.fnOf "is_known" "is_known" (defArgs s_is_known) (defBody s_is_known) (defScope s_is_known) .none kV_is_known dc_is_known pm_is_known an_is_known cd_is_known ct_is_known), sl_is_known⟩)
    (c_is_known : PySem.W.codeIn K cd_is_known "is_known" = true)
    (k_is_known : PySem.W.keepIn K (.ref f_is_known) = true)
    (a_both_known : PySem.W.nsIn K mainGlobals "_both_known" = some (some (.ref f_both_known)))
    (l_both_known : K.lookup f_both_known = some ⟨oc_both_known, od_both_known, .func (PySem.W.fnOf "_both_known" "_both_known" (defArgs s_both_known) (defBody s_both_known) (defScope s_both_known) .none kV_both_known dc_both_known pm_both_known an_both_known cd_both_known ct_both_known), sl_both_known⟩)
    (c_both_known : PySem.W.codeIn K cd_both_known "_both_known" = true)
    (k_both_known : PySem.W.keepIn K (.ref f_both_known) = true)
    (a_add : PySem.W.nsIn K mainGlobals "add" = some (some (.ref f_add)))
    (l_add : K.lookup f_add = some ⟨oc_add, od_add, .func (PySem.W.fnOf "add" "add" (defArgs s_add) (defBody s_add) (defScope s_add) .none kV_add dc_add pm_add an_add cd_add ct_add), sl_add⟩)
    (c_add : PySem.W.codeIn K cd_add "add" = true)
    (k_add : PySem.W.keepIn K (.ref f_add) = true)
    (a_subtract : PySem.W.nsIn K mainGlobals "subtract" = some (some (.ref f_subtract)))
    (l_subtract : K.lookup f_subtract = some ⟨oc_subtract, od_subtract, .func (PySem.W.fnOf "subtract" "subtract" (defArgs s_subtract) (defBody s_subtract) (defScope s_subtract) .none kV_subtract dc_subtract pm_subtract an_subtract cd_subtract ct_subtract), sl_subtract⟩)
    (c_subtract : PySem.W.codeIn K cd_subtract "subtract" = true)
    (k_subtract : PySem.W.keepIn K (.ref f_subtract) = true)
    (a_multiply : PySem.W.nsIn K mainGlobals "multiply" = some (some (.ref f_multiply)))
    (l_multiply : K.lookup f_multiply = some ⟨oc_multiply, od_multiply, .func (PySem.W.fnOf "multiply" "multiply" (defArgs s_multiply) (defBody s_multiply) (defScope s_multiply) .none kV_multiply dc_multiply pm_multiply an_multiply cd_multiply ct_multiply), sl_multiply⟩)
    (c_multiply : PySem.W.codeIn K cd_multiply "multiply" = true)
    (k_multiply : PySem.W.keepIn K (.ref f_multiply) = true)
    (a_negate : PySem.W.nsIn K mainGlobals "negate" = some (some (.ref f_negate)))
    (l_negate : K.lookup f_negate = some ⟨oc_negate, od_negate, .func (PySem.W.fnOf "negate" "negate" (defArgs s_negate) (defBody s_negate) (defScope s_negate) .none kV_negate dc_negate pm_negate an_negate cd_negate ct_negate), sl_negate⟩)
    (c_negate : PySem.W.codeIn K cd_negate "negate" = true)
    (k_negate : PySem.W.keepIn K (.ref f_negate) = true)
    (a_bit : PySem.W.nsIn K mainGlobals "_bit" = some (some (.ref f_bit)))
    (l_bit : K.lookup f_bit = some ⟨oc_bit, od_bit, .func (PySem.W.fnOf "_bit" "_bit" (defArgs s_bit) (defBody s_bit) (defScope s_bit) .none kV_bit dc_bit pm_bit an_bit cd_bit ct_bit), sl_bit⟩)
    (c_bit : PySem.W.codeIn K cd_bit "_bit" = true)
    (k_bit : PySem.W.keepIn K (.ref f_bit) = true)
    (a_less : PySem.W.nsIn K mainGlobals "less" = some (some (.ref f_less)))
    (l_less : K.lookup f_less = some ⟨oc_less, od_less, .func (PySem.W.fnOf "less" "less" (defArgs s_less) (defBody s_less) (defScope s_less) .none kV_less dc_less pm_less an_less cd_less ct_less), sl_less⟩)
    (c_less : PySem.W.codeIn K cd_less "less" = true)
    (k_less : PySem.W.keepIn K (.ref f_less) = true)
    (a_less_equal : PySem.W.nsIn K mainGlobals "less_equal" = some (some (.ref f_less_equal)))
    (l_less_equal : K.lookup f_less_equal = some ⟨oc_less_equal, od_less_equal, .func (PySem.W.fnOf "less_equal" "less_equal" (defArgs s_less_equal) (defBody s_less_equal) (defScope s_less_equal) .none kV_less_equal dc_less_equal pm_less_equal an_less_equal cd_less_equal ct_less_equal), sl_less_equal⟩)
    (c_less_equal : PySem.W.codeIn K cd_less_equal "less_equal" = true)
    (k_less_equal : PySem.W.keepIn K (.ref f_less_equal) = true)
    (a_equal : PySem.W.nsIn K mainGlobals "equal" = some (some (.ref f_equal)))
    (l_equal : K.lookup f_equal = some ⟨oc_equal, od_equal, .func (PySem.W.fnOf "equal" "equal" (defArgs s_equal) (defBody s_equal) (defScope s_equal) .none kV_equal dc_equal pm_equal an_equal cd_equal ct_equal), sl_equal⟩)
    (c_equal : PySem.W.codeIn K cd_equal "equal" = true)
    (k_equal : PySem.W.keepIn K (.ref f_equal) = true)
    (a_not_equal : PySem.W.nsIn K mainGlobals "not_equal" = some (some (.ref f_not_equal)))
    (l_not_equal : K.lookup f_not_equal = some ⟨oc_not_equal, od_not_equal, .func (PySem.W.fnOf "not_equal" "not_equal" (defArgs s_not_equal) (defBody s_not_equal) (defScope s_not_equal) .none kV_not_equal dc_not_equal pm_not_equal an_not_equal cd_not_equal ct_not_equal), sl_not_equal⟩)
    (c_not_equal : PySem.W.codeIn K cd_not_equal "not_equal" = true)
    (k_not_equal : PySem.W.keepIn K (.ref f_not_equal) = true)
    (a_logic_not : PySem.W.nsIn K mainGlobals "logic_not" = some (some (.ref f_logic_not)))
    (l_logic_not : K.lookup f_logic_not = some ⟨oc_logic_not, od_logic_not, .func (PySem.W.fnOf "logic_not" "logic_not" (defArgs s_logic_not) (defBody s_logic_not) (defScope s_logic_not) .none kV_logic_not dc_logic_not pm_logic_not an_logic_not cd_logic_not ct_logic_not), sl_logic_not⟩)
    (c_logic_not : PySem.W.codeIn K cd_logic_not "logic_not" = true)
    (k_logic_not : PySem.W.keepIn K (.ref f_logic_not) = true)
    (a_logic_and : PySem.W.nsIn K mainGlobals "logic_and" = some (some (.ref f_logic_and)))
    (l_logic_and : K.lookup f_logic_and = some ⟨oc_logic_and, od_logic_and, .func (PySem.W.fnOf "logic_and" "logic_and" (defArgs s_logic_and) (defBody s_logic_and) (defScope s_logic_and) .none kV_logic_and dc_logic_and pm_logic_and an_logic_and cd_logic_and ct_logic_and), sl_logic_and⟩)
    (c_logic_and : PySem.W.codeIn K cd_logic_and "logic_and" = true)
    (k_logic_and : PySem.W.keepIn K (.ref f_logic_and) = true)
    (a_logic_or : PySem.W.nsIn K mainGlobals "logic_or" = some (some (.ref f_logic_or)))
    (l_logic_or : K.lookup f_logic_or = some ⟨oc_logic_or, od_logic_or, .func (PySem.W.fnOf "logic_or" "logic_or" (defArgs s_logic_or) (defBody s_logic_or) (defScope s_logic_or) .none kV_logic_or dc_logic_or pm_logic_or an_logic_or cd_logic_or ct_logic_or), sl_logic_or⟩)
    (c_logic_or : PySem.W.codeIn K cd_logic_or "logic_or" = true)
    (k_logic_or : PySem.W.keepIn K (.ref f_logic_or) = true)
    (a_shift_left : PySem.W.nsIn K mainGlobals "shift_left" = some (some (.ref f_shift_left)))
    (l_shift_left : K.lookup f_shift_left = some ⟨oc_shift_left, od_shift_left, .func (PySem.W.fnOf "shift_left" "shift_left" (defArgs s_shift_left) (defBody s_shift_left) (defScope s_shift_left) .none kV_shift_left dc_shift_left pm_shift_left an_shift_left cd_shift_left ct_shift_left), sl_shift_left⟩)
    (c_shift_left : PySem.W.codeIn K cd_shift_left "shift_left" = true)
    (k_shift_left : PySem.W.keepIn K (.ref f_shift_left) = true)
    (a_shift_right : PySem.W.nsIn K mainGlobals "shift_right" = some (some (.ref f_shift_right)))
    (l_shift_right : K.lookup f_shift_right = some ⟨oc_shift_right, od_shift_right, .func (PySem.W.fnOf "shift_right" "shift_right" (defArgs s_shift_right) (defBody s_shift_right) (defScope s_shift_right) .none kV_shift_right dc_shift_right pm_shift_right an_shift_right cd_shift_right ct_shift_right), sl_shift_right⟩)
    (c_shift_right : PySem.W.codeIn K cd_shift_right "shift_right" = true)
    (k_shift_right : PySem.W.keepIn K (.ref f_shift_right) = true)
    (a_agreed_bit : PySem.W.nsIn K mainGlobals "_agreed_bit" = some (some (.ref f_agreed_bit)))
    (l_agreed_bit : K.lookup f_agreed_bit = some ⟨oc_agreed_bit, od_agreed_bit, .func (PySem.W.fnOf "_agreed_bit" "_agreed_bit" (defArgs s_agreed_bit) (defBody s_agreed_bit) (defScope s_agreed_bit) .none kV_agreed_bit dc_agreed_bit pm_agreed_bit an_agreed_bit cd_agreed_bit ct_agreed_bit), sl_agreed_bit⟩)
    (c_agreed_bit : PySem.W.codeIn K cd_agreed_bit "_agreed_bit" = true)
    (k_agreed_bit : PySem.W.keepIn K (.ref f_agreed_bit) = true)
    (a_choose : PySem.W.nsIn K mainGlobals "choose" = some (some (.ref f_choose)))
    (l_choose : K.lookup f_choose = some ⟨oc_choose, od_choose, .func (PySem.W.fnOf "choose" "choose" (defArgs s_choose) (defBody s_choose) (defScope s_choose) .none kV_choose dc_choose pm_choose an_choose cd_choose ct_choose), sl_choose⟩)
    (c_choose : PySem.W.codeIn K cd_choose "choose" = true)
    (k_choose : PySem.W.keepIn K (.ref f_choose) = true)
    (a_pick : PySem.W.nsIn K mainGlobals "pick" = some (some (.ref f_pick)))
    (l_pick : K.lookup f_pick = some ⟨oc_pick, od_pick, .func (PySem.W.fnOf "pick" "pick" (defArgs s_pick) (defBody s_pick) (defScope s_pick) .none kV_pick dc_pick pm_pick an_pick cd_pick ct_pick), sl_pick⟩)
    (c_pick : PySem.W.codeIn K cd_pick "pick" = true)
    (k_pick : PySem.W.keepIn K (.ref f_pick) = true)
    (a_law_results : PySem.W.nsIn K mainGlobals "_law_results" = some (some (.ref f_law_results)))
    (l_law_results : K.lookup f_law_results = some ⟨oc_law_results, od_law_results, .func (PySem.W.fnOf "_law_results" "_law_results" (defArgs s_law_results) (defBody s_law_results) (defScope s_law_results) .none kV_law_results dc_law_results pm_law_results an_law_results cd_law_results ct_law_results), sl_law_results⟩)
    (c_law_results : PySem.W.codeIn K cd_law_results "_law_results" = true)
    (k_law_results : PySem.W.keepIn K (.ref f_law_results) = true)
    (a_is_refined : PySem.W.nsIn K mainGlobals "is_refined" = some (some (.ref f_is_refined)))
    (l_is_refined : K.lookup f_is_refined = some ⟨oc_is_refined, od_is_refined, .func (PySem.W.fnOf "is_refined" "is_refined" (defArgs s_is_refined) (defBody s_is_refined) (defScope s_is_refined) .none kV_is_refined dc_is_refined pm_is_refined an_is_refined (.ref cT_is_refined) ct_is_refined), sl_is_refined⟩)
    (c_is_refined : PySem.W.codeIn K (.ref cT_is_refined) "is_refined" = true)
    (k_is_refined : PySem.W.keepIn K (.ref f_is_refined) = true)
    (a_law_cell : PySem.W.nsIn K mainGlobals "_law_cell" = some (some (.ref f_law_cell)))
    (l_law_cell : K.lookup f_law_cell = some ⟨oc_law_cell, od_law_cell, .func (PySem.W.fnOf "_law_cell" "_law_cell" (defArgs s_law_cell) (defBody s_law_cell) (defScope s_law_cell) .none kV_law_cell dc_law_cell pm_law_cell an_law_cell cd_law_cell ct_law_cell), sl_law_cell⟩)
    (c_law_cell : PySem.W.codeIn K cd_law_cell "_law_cell" = true)
    (k_law_cell : PySem.W.keepIn K (.ref f_law_cell) = true)
    (a_law_pair : PySem.W.nsIn K mainGlobals "_law_pair" = some (some (.ref f_law_pair)))
    (l_law_pair : K.lookup f_law_pair = some ⟨oc_law_pair, od_law_pair, .func (PySem.W.fnOf "_law_pair" "_law_pair" (defArgs s_law_pair) (defBody s_law_pair) (defScope s_law_pair) .none kV_law_pair dc_law_pair pm_law_pair an_law_pair cd_law_pair ct_law_pair), sl_law_pair⟩)
    (c_law_pair : PySem.W.codeIn K cd_law_pair "_law_pair" = true)
    (k_law_pair : PySem.W.keepIn K (.ref f_law_pair) = true)
    (a_law_refines : PySem.W.nsIn K mainGlobals "_law_refines" = some (some (.ref f_law_refines)))
    (l_law_refines : K.lookup f_law_refines = some ⟨oc_law_refines, od_law_refines, .func (PySem.W.fnOf "_law_refines" "_law_refines" (defArgs s_law_refines) (defBody s_law_refines) (defScope s_law_refines) .none kV_law_refines dc_law_refines pm_law_refines an_law_refines cd_law_refines ct_law_refines), sl_law_refines⟩)
    (c_law_refines : PySem.W.codeIn K cd_law_refines "_law_refines" = true)
    (k_law_refines : PySem.W.keepIn K (.ref f_law_refines) = true)
    (a_law : PySem.W.nsIn K mainGlobals "law" = some (some (.ref f_law)))
    (l_law : K.lookup f_law = some ⟨oc_law, od_law, .func (PySem.W.fnOf "law" "law" (defArgs s_law) (defBody s_law) (defScope s_law) .none kV_law dc_law pm_law an_law cd_law ct_law), sl_law⟩)
    (c_law : PySem.W.codeIn K cd_law "law" = true)
    (k_law : PySem.W.keepIn K (.ref f_law) = true)
    (lT_consists_of : K.lookup cT_consists_of = some ⟨ccT_consists_of, cdT_consists_of, .fields vsT_consists_of, cslT_consists_of⟩)
    (eT_consists_of : (vsT_consists_of[11]? : Option Value) = some (.ref Pt_consists_of))
    (hT_consists_of : PySem.W.codeHdIn K cT_consists_of Pt_consists_of = true)
    (nT_consists_of : K.lookup Pt_consists_of = none)
    (lT_is_refined : K.lookup cT_is_refined = some ⟨ccT_is_refined, cdT_is_refined, .fields vsT_is_refined, cslT_is_refined⟩)
    (eT_is_refined : (vsT_is_refined[11]? : Option Value) = some (.ref Pt_is_refined))
    (hT_is_refined : PySem.W.codeHdIn K cT_is_refined Pt_is_refined = true)
    (nT_is_refined : K.lookup Pt_is_refined = none)
    (z_len : PySem.W.nsIn K mainGlobals "len" = some none)
    (z_max : PySem.W.nsIn K mainGlobals "max" = some none)
    (z_min : PySem.W.nsIn K mainGlobals "min" = some none)
    (z_all : PySem.W.nsIn K mainGlobals "all" = some none)
    (z_zip : PySem.W.nsIn K mainGlobals "zip" = some none)
    (z_range : PySem.W.nsIn K mainGlobals "range" = some none)
    (z_abs : PySem.W.nsIn K mainGlobals "abs" = some none)
    (z_int : PySem.W.nsIn K mainGlobals "int" = some none)
    (z_isinstance : PySem.W.nsIn K mainGlobals "isinstance" = some none)
    (z_str : PySem.W.nsIn K mainGlobals "str" = some none)
    (g_A : PySem.W.nsIn K mainGlobals "AND_BITS" = some (some (.ref pA)))
    (d_A : K.lookup pA = some ⟨.type "dict", none, .dict esA nA, #[]⟩)
    (e_A : PySem.W.KeysLit w.params esA.toList)
    (t_A : ∀ a ∈ [48, 49, 120, 122], ∀ b ∈ [48, 49, 120, 122], ∃ t, PySem.W.nsIn K pA (S [a, b]) = some (some (.str (S [andB a b]) t)))
    (g_O : PySem.W.nsIn K mainGlobals "OR_BITS" = some (some (.ref pO)))
    (d_O : K.lookup pO = some ⟨.type "dict", none, .dict esO nO, #[]⟩)
    (e_O : PySem.W.KeysLit w.params esO.toList)
    (t_O : ∀ a ∈ [48, 49, 120, 122], ∀ b ∈ [48, 49, 120, 122], ∃ t, PySem.W.nsIn K pO (S [a, b]) = some (some (.str (S [orB a b]) t)))
    (g_X : PySem.W.nsIn K mainGlobals "XOR_BITS" = some (some (.ref pX)))
    (d_X : K.lookup pX = some ⟨.type "dict", none, .dict esX nX, #[]⟩)
    (e_X : PySem.W.KeysLit w.params esX.toList)
    (t_X : ∀ a ∈ [48, 49, 120, 122], ∀ b ∈ [48, 49, 120, 122], ∃ t, PySem.W.nsIn K pX (S [a, b]) = some (some (.str (S [xorB a b]) t)))
    (g_N : PySem.W.nsIn K mainGlobals "NOT_BITS" = some (some (.ref pN)))
    (d_N : K.lookup pN = some ⟨.type "dict", none, .dict esN nN, #[]⟩)
    (e_N : PySem.W.KeysLit w.params esN.toList)
    (t_N : ∀ a ∈ [48, 49, 120, 122], ∃ t, PySem.W.nsIn K pN (S [a]) = some (some (.str (S [notB a]) t))) :
    LawAtS l w K CX0 7 63 "script" mg fa h := by
  have efa := hfa.symm.trans (PySem.W.mg_of X G a_law)
  cases efa
  have T : Txt mg K w pA pO pX pN := ⟨PySem.W.mg_none_of X G z_len, PySem.W.mg_none_of X G z_max, PySem.W.mg_none_of X G z_min, PySem.W.mg_none_of X G z_all, PySem.W.mg_none_of X G z_zip, PySem.W.mg_none_of X G z_range, PySem.W.mg_none_of X G z_abs, PySem.W.mg_none_of X G z_int, PySem.W.mg_none_of X G z_isinstance, PySem.W.mg_none_of X G z_str, PySem.W.mg_of X G g_A, PySem.W.mg_of X G g_O, PySem.W.mg_of X G g_X, PySem.W.mg_of X G g_N, fun a b ha hb => (t_A a (mem_isB ha) b (mem_isB hb)).elim fun t e => ⟨_, _, _, d_A, e_A, e, t, rfl⟩, fun a b ha hb => (t_O a (mem_isB ha) b (mem_isB hb)).elim fun t e => ⟨_, _, _, d_O, e_O, e, t, rfl⟩, fun a b ha hb => (t_X a (mem_isB ha) b (mem_isB hb)).elim fun t e => ⟨_, _, _, d_X, e_X, e, t, rfl⟩, fun a ha => (t_N a (mem_isB ha)).elim fun t e => ⟨_, _, _, d_N, e_N, e, t, rfl⟩⟩
  have F_law_numbers := fun_mk (st := s_law_numbers) l_law_numbers c_law_numbers k_law_numbers
  have B_law_numbers := F_law_numbers.binds (ps := ["script", "base", "many"]) fun _ _ _ _ _ _ us hl => match us, hl with | [_, _, _], _ => rfl
  have F_bit_not := fun_mk (st := s_bit_not) l_bit_not c_bit_not k_bit_not
  have B_bit_not := F_bit_not.binds (ps := ["vector"]) fun _ _ _ _ _ _ us hl => match us, hl with | [_], _ => rfl
  have F_extended := fun_mk (st := s_extended) l_extended c_extended k_extended
  have B_extended := F_extended.binds (ps := ["vector", "width"]) fun _ _ _ _ _ _ us hl => match us, hl with | [_, _], _ => rfl
  have F_both_extended := fun_mk (st := s_both_extended) l_both_extended c_both_extended k_both_extended
  have B_both_extended := F_both_extended.binds (ps := ["one", "two"]) fun _ _ _ _ _ _ us hl => match us, hl with | [_, _], _ => rfl
  have F_bit_and := fun_mk (st := s_bit_and) l_bit_and c_bit_and k_bit_and
  have B_bit_and := F_bit_and.binds (ps := ["one", "two"]) fun _ _ _ _ _ _ us hl => match us, hl with | [_, _], _ => rfl
  have F_bit_or := fun_mk (st := s_bit_or) l_bit_or c_bit_or k_bit_or
  have B_bit_or := F_bit_or.binds (ps := ["one", "two"]) fun _ _ _ _ _ _ us hl => match us, hl with | [_, _], _ => rfl
  have F_bit_xor := fun_mk (st := s_bit_xor) l_bit_xor c_bit_xor k_bit_xor
  have B_bit_xor := F_bit_xor.binds (ps := ["one", "two"]) fun _ _ _ _ _ _ us hl => match us, hl with | [_, _], _ => rfl
  have F_reduce_and := fun_mk (st := s_reduce_and) l_reduce_and c_reduce_and k_reduce_and
  have B_reduce_and := F_reduce_and.binds (ps := ["vector"]) fun _ _ _ _ _ _ us hl => match us, hl with | [_], _ => rfl
  have F_reduce_or := fun_mk (st := s_reduce_or) l_reduce_or c_reduce_or k_reduce_or
  have B_reduce_or := F_reduce_or.binds (ps := ["vector"]) fun _ _ _ _ _ _ us hl => match us, hl with | [_], _ => rfl
  have F_reduce_xor := fun_mk (st := s_reduce_xor) l_reduce_xor c_reduce_xor k_reduce_xor
  have B_reduce_xor := F_reduce_xor.binds (ps := ["vector"]) fun _ _ _ _ _ _ us hl => match us, hl with | [_], _ => rfl
  have F_truth := fun_mk (st := s_truth) l_truth c_truth k_truth
  have B_truth := F_truth.binds (ps := ["vector"]) fun _ _ _ _ _ _ us hl => match us, hl with | [_], _ => rfl
  have F_low_bits := fun_mk (st := s_low_bits) l_low_bits c_low_bits k_low_bits
  have B_low_bits := F_low_bits.binds (ps := ["number", "width"]) fun _ _ _ _ _ _ us hl => match us, hl with | [_, _], _ => rfl
  have F_consists_of := fun_mk (st := s_consists_of) l_consists_of c_consists_of k_consists_of
  have B_consists_of := F_consists_of.binds (ps := ["text", "characters"]) fun _ _ _ _ _ _ us hl => match us, hl with | [_, _], _ => rfl
  have F_is_known := fun_mk (st := s_is_known) l_is_known c_is_known k_is_known
  have B_is_known := F_is_known.binds (ps := ["vector"]) fun _ _ _ _ _ _ us hl => match us, hl with | [_], _ => rfl
  have F_both_known := fun_mk (st := s_both_known) l_both_known c_both_known k_both_known
  have B_both_known := F_both_known.binds (ps := ["one", "two"]) fun _ _ _ _ _ _ us hl => match us, hl with | [_, _], _ => rfl
  have F_add := fun_mk (st := s_add) l_add c_add k_add
  have B_add := F_add.binds (ps := ["one", "two"]) fun _ _ _ _ _ _ us hl => match us, hl with | [_, _], _ => rfl
  have F_subtract := fun_mk (st := s_subtract) l_subtract c_subtract k_subtract
  have B_subtract := F_subtract.binds (ps := ["one", "two"]) fun _ _ _ _ _ _ us hl => match us, hl with | [_, _], _ => rfl
  have F_multiply := fun_mk (st := s_multiply) l_multiply c_multiply k_multiply
  have B_multiply := F_multiply.binds (ps := ["one", "two"]) fun _ _ _ _ _ _ us hl => match us, hl with | [_, _], _ => rfl
  have F_negate := fun_mk (st := s_negate) l_negate c_negate k_negate
  have B_negate := F_negate.binds (ps := ["vector"]) fun _ _ _ _ _ _ us hl => match us, hl with | [_], _ => rfl
  have F_bit := fun_mk (st := s_bit) l_bit c_bit k_bit
  have B_bit := F_bit.binds (ps := ["holds"]) fun _ _ _ _ _ _ us hl => match us, hl with | [_], _ => rfl
  have F_less := fun_mk (st := s_less) l_less c_less k_less
  have B_less := F_less.binds (ps := ["one", "two"]) fun _ _ _ _ _ _ us hl => match us, hl with | [_, _], _ => rfl
  have F_less_equal := fun_mk (st := s_less_equal) l_less_equal c_less_equal k_less_equal
  have B_less_equal := F_less_equal.binds (ps := ["one", "two"]) fun _ _ _ _ _ _ us hl => match us, hl with | [_, _], _ => rfl
  have F_equal := fun_mk (st := s_equal) l_equal c_equal k_equal
  have B_equal := F_equal.binds (ps := ["one", "two"]) fun _ _ _ _ _ _ us hl => match us, hl with | [_, _], _ => rfl
  have F_not_equal := fun_mk (st := s_not_equal) l_not_equal c_not_equal k_not_equal
  have B_not_equal := F_not_equal.binds (ps := ["one", "two"]) fun _ _ _ _ _ _ us hl => match us, hl with | [_, _], _ => rfl
  have F_logic_not := fun_mk (st := s_logic_not) l_logic_not c_logic_not k_logic_not
  have B_logic_not := F_logic_not.binds (ps := ["vector"]) fun _ _ _ _ _ _ us hl => match us, hl with | [_], _ => rfl
  have F_logic_and := fun_mk (st := s_logic_and) l_logic_and c_logic_and k_logic_and
  have B_logic_and := F_logic_and.binds (ps := ["one", "two"]) fun _ _ _ _ _ _ us hl => match us, hl with | [_, _], _ => rfl
  have F_logic_or := fun_mk (st := s_logic_or) l_logic_or c_logic_or k_logic_or
  have B_logic_or := F_logic_or.binds (ps := ["one", "two"]) fun _ _ _ _ _ _ us hl => match us, hl with | [_, _], _ => rfl
  have F_shift_left := fun_mk (st := s_shift_left) l_shift_left c_shift_left k_shift_left
  have B_shift_left := F_shift_left.binds (ps := ["vector", "amount"]) fun _ _ _ _ _ _ us hl => match us, hl with | [_, _], _ => rfl
  have F_shift_right := fun_mk (st := s_shift_right) l_shift_right c_shift_right k_shift_right
  have B_shift_right := F_shift_right.binds (ps := ["vector", "amount"]) fun _ _ _ _ _ _ us hl => match us, hl with | [_, _], _ => rfl
  have F_agreed_bit := fun_mk (st := s_agreed_bit) l_agreed_bit c_agreed_bit k_agreed_bit
  have B_agreed_bit := F_agreed_bit.binds (ps := ["a", "b"]) fun _ _ _ _ _ _ us hl => match us, hl with | [_, _], _ => rfl
  have F_choose := fun_mk (st := s_choose) l_choose c_choose k_choose
  have B_choose := F_choose.binds (ps := ["condition", "one", "two"]) fun _ _ _ _ _ _ us hl => match us, hl with | [_, _, _], _ => rfl
  have F_pick := fun_mk (st := s_pick) l_pick c_pick k_pick
  have B_pick := F_pick.binds (ps := ["vector", "index"]) fun _ _ _ _ _ _ us hl => match us, hl with | [_, _], _ => rfl
  have F_law_results := fun_mk (st := s_law_results) l_law_results c_law_results k_law_results
  have B_law_results := F_law_results.binds (ps := ["one", "two", "three"]) fun _ _ _ _ _ _ us hl => match us, hl with | [_, _, _], _ => rfl
  have F_is_refined := fun_mk (st := s_is_refined) l_is_refined c_is_refined k_is_refined
  have B_is_refined := F_is_refined.binds (ps := ["vector", "other"]) fun _ _ _ _ _ _ us hl => match us, hl with | [_, _], _ => rfl
  have F_law_cell := fun_mk (st := s_law_cell) l_law_cell c_law_cell k_law_cell
  have B_law_cell := F_law_cell.binds (ps := ["script", "k"]) fun _ _ _ _ _ _ us hl => match us, hl with | [_, _], _ => rfl
  have F_law_pair := fun_mk (st := s_law_pair) l_law_pair c_law_pair k_law_pair
  have B_law_pair := F_law_pair.binds (ps := ["numbers", "size", "full"]) fun _ _ _ _ _ _ us hl => match us, hl with | [_, _, _], _ => rfl
  have F_law_refines := fun_mk (st := s_law_refines) l_law_refines c_law_refines k_law_refines
  have B_law_refines := F_law_refines.binds (ps := ["one", "two"]) fun _ _ _ _ _ _ us hl => match us, hl with | [_, _], _ => rfl
  have F_law := fun_mk (st := s_law) l_law c_law k_law
  have B_law := F_law.binds (ps := ["script"]) fun _ _ _ _ _ _ us hl => match us, hl with | [_], _ => rfl
  refine ⟨PySem.W.fnOf "law" "law" (defArgs s_law) (defBody s_law) (defScope s_law) .none kV_law dc_law pm_law an_law cd_law ct_law, [(cT_consists_of, Pt_consists_of), (cT_is_refined, Pt_is_refined)], sp_law K [Pt_consists_of, Pt_is_refined], ?_, ?_, ?_, fun s v => .of_eq rfl, ?_, ?_⟩
  · intro p hp
    simp only [List.mem_cons, List.not_mem_nil, or_false] at hp
    rcases hp with rfl | rfl
    · exact TF _ (by simp) _ _ _ _ _ _ _ (PySem.W.mg_of X G a_consists_of) l_consists_of rfl rfl lT_consists_of rfl eT_consists_of
    · exact TF _ (by simp) _ _ _ _ _ _ _ (PySem.W.mg_of X G a_is_refined) l_is_refined rfl rfl lT_is_refined rfl eT_is_refined
  · intro p hp
    simp only [List.mem_cons, List.not_mem_nil, or_false] at hp
    rcases hp with rfl | rfl
    · exact nT_consists_of
    · exact nT_is_refined
  · intro p hp
    simp only [List.mem_cons, List.not_mem_nil, or_false] at hp
    rcases hp with rfl | rfl
    · exact PySem.W.codeHd_of_K X hT_consists_of
    · exact PySem.W.codeHd_of_K X hT_is_refined
  · intro H a ns _ _ hH hS
    refine ⟨(a, ns), rfl, hS, fun P hP => ?_, fun _ _ => rfl⟩
    simp only [List.mem_cons, List.not_mem_nil, or_false] at hP
    rcases hP with e | e
    · rw [e]
      exact ⟨#[], hH (cT_consists_of, Pt_consists_of) (by simp), trivial⟩
    · rw [e]
      exact ⟨#[], hH (cT_is_refined, Pt_is_refined) (by simp), trivial⟩
  · intro base XB GB TB
    have C_law_numbers : Callee l.prog w K mg base "_law_numbers" 1 ["script", "base", "many"] (sp_law_numbers K [Pt_consists_of, Pt_is_refined]) := ⟨⟨_, _, ok_law_numbers F_law_numbers T , PySem.W.mg_of X G a_law_numbers, k_law_numbers, B_law_numbers⟩⟩
    have C_bit_not : Callee l.prog w K mg base "bit_not" 1 ["vector"] (sp_bit_not K [Pt_consists_of, Pt_is_refined]) := ⟨⟨_, _, ok_bit_not F_bit_not T , PySem.W.mg_of X G a_bit_not, k_bit_not, B_bit_not⟩⟩
    have C_extended : Callee l.prog w K mg base "_extended" 1 ["vector", "width"] (sp_extended K [Pt_consists_of, Pt_is_refined]) := ⟨⟨_, _, ok_extended F_extended T , PySem.W.mg_of X G a_extended, k_extended, B_extended⟩⟩
    have C_both_extended : Callee l.prog w K mg base "_both_extended" 2 ["one", "two"] (sp_both_extended K [Pt_consists_of, Pt_is_refined]) := ⟨⟨_, _, ok_both_extended F_both_extended T C_extended, PySem.W.mg_of X G a_both_extended, k_both_extended, B_both_extended⟩⟩
    have C_bit_and : Callee l.prog w K mg base "bit_and" 3 ["one", "two"] (sp_bit_and K [Pt_consists_of, Pt_is_refined]) := ⟨⟨_, _, ok_bit_and F_bit_and T C_both_extended, PySem.W.mg_of X G a_bit_and, k_bit_and, B_bit_and⟩⟩
    have C_bit_or : Callee l.prog w K mg base "bit_or" 3 ["one", "two"] (sp_bit_or K [Pt_consists_of, Pt_is_refined]) := ⟨⟨_, _, ok_bit_or F_bit_or T C_both_extended, PySem.W.mg_of X G a_bit_or, k_bit_or, B_bit_or⟩⟩
    have C_bit_xor : Callee l.prog w K mg base "bit_xor" 3 ["one", "two"] (sp_bit_xor K [Pt_consists_of, Pt_is_refined]) := ⟨⟨_, _, ok_bit_xor F_bit_xor T C_both_extended, PySem.W.mg_of X G a_bit_xor, k_bit_xor, B_bit_xor⟩⟩
    have C_reduce_and : Callee l.prog w K mg base "reduce_and" 1 ["vector"] (sp_reduce_and K [Pt_consists_of, Pt_is_refined]) := ⟨⟨_, _, ok_reduce_and F_reduce_and T , PySem.W.mg_of X G a_reduce_and, k_reduce_and, B_reduce_and⟩⟩
    have C_reduce_or : Callee l.prog w K mg base "reduce_or" 1 ["vector"] (sp_reduce_or K [Pt_consists_of, Pt_is_refined]) := ⟨⟨_, _, ok_reduce_or F_reduce_or T , PySem.W.mg_of X G a_reduce_or, k_reduce_or, B_reduce_or⟩⟩
    have C_reduce_xor : Callee l.prog w K mg base "reduce_xor" 1 ["vector"] (sp_reduce_xor K [Pt_consists_of, Pt_is_refined]) := ⟨⟨_, _, ok_reduce_xor F_reduce_xor T , PySem.W.mg_of X G a_reduce_xor, k_reduce_xor, B_reduce_xor⟩⟩
    have C_truth : Callee l.prog w K mg base "truth" 2 ["vector"] (sp_truth K [Pt_consists_of, Pt_is_refined]) := ⟨⟨_, _, ok_truth F_truth T C_reduce_or, PySem.W.mg_of X G a_truth, k_truth, B_truth⟩⟩
    have C_low_bits : Callee l.prog w K mg base "_low_bits" 1 ["number", "width"] (sp_low_bits K [Pt_consists_of, Pt_is_refined]) := ⟨⟨_, _, ok_low_bits F_low_bits T , PySem.W.mg_of X G a_low_bits, k_low_bits, B_low_bits⟩⟩
    have TB_consists_of : TabB base mg cT_consists_of Pt_consists_of := by
      have z := TB (cT_consists_of, Pt_consists_of) (by simp)
      exact ⟨z.1, z.2, z.3⟩
    have C_consists_of : Callee l.prog w K mg base "_consists_of" 1 ["text", "characters"] (sp_consists_of K [Pt_consists_of, Pt_is_refined]) := ⟨⟨_, _, ok_consists_of l_consists_of c_consists_of TB_consists_of (by simp) T , PySem.W.mg_of X G a_consists_of, k_consists_of, B_consists_of⟩⟩
    have C_is_known : Callee l.prog w K mg base "is_known" 2 ["vector"] (sp_is_known K [Pt_consists_of, Pt_is_refined]) := ⟨⟨_, _, ok_is_known F_is_known T C_consists_of, PySem.W.mg_of X G a_is_known, k_is_known, B_is_known⟩⟩
    have C_both_known : Callee l.prog w K mg base "_both_known" 3 ["one", "two"] (sp_both_known K [Pt_consists_of, Pt_is_refined]) := ⟨⟨_, _, ok_both_known F_both_known T C_is_known, PySem.W.mg_of X G a_both_known, k_both_known, B_both_known⟩⟩
    have C_add : Callee l.prog w K mg base "add" 4 ["one", "two"] (sp_add K [Pt_consists_of, Pt_is_refined]) := ⟨⟨_, _, ok_add F_add T C_low_bits C_both_known, PySem.W.mg_of X G a_add, k_add, B_add⟩⟩
    have C_subtract : Callee l.prog w K mg base "subtract" 4 ["one", "two"] (sp_subtract K [Pt_consists_of, Pt_is_refined]) := ⟨⟨_, _, ok_subtract F_subtract T C_low_bits C_both_known, PySem.W.mg_of X G a_subtract, k_subtract, B_subtract⟩⟩
    have C_multiply : Callee l.prog w K mg base "multiply" 4 ["one", "two"] (sp_multiply K [Pt_consists_of, Pt_is_refined]) := ⟨⟨_, _, ok_multiply F_multiply T C_low_bits C_both_known, PySem.W.mg_of X G a_multiply, k_multiply, B_multiply⟩⟩
    have C_negate : Callee l.prog w K mg base "negate" 5 ["vector"] (sp_negate K [Pt_consists_of, Pt_is_refined]) := ⟨⟨_, _, ok_negate F_negate T C_subtract, PySem.W.mg_of X G a_negate, k_negate, B_negate⟩⟩
    have C_bit : Callee l.prog w K mg base "_bit" 1 ["holds"] (sp_bit K [Pt_consists_of, Pt_is_refined]) := ⟨⟨_, _, ok_bit F_bit T , PySem.W.mg_of X G a_bit, k_bit, B_bit⟩⟩
    have C_less : Callee l.prog w K mg base "less" 4 ["one", "two"] (sp_less K [Pt_consists_of, Pt_is_refined]) := ⟨⟨_, _, ok_less F_less T C_bit C_both_known, PySem.W.mg_of X G a_less, k_less, B_less⟩⟩
    have C_less_equal : Callee l.prog w K mg base "less_equal" 4 ["one", "two"] (sp_less_equal K [Pt_consists_of, Pt_is_refined]) := ⟨⟨_, _, ok_less_equal F_less_equal T C_bit C_both_known, PySem.W.mg_of X G a_less_equal, k_less_equal, B_less_equal⟩⟩
    have C_equal : Callee l.prog w K mg base "equal" 4 ["one", "two"] (sp_equal K [Pt_consists_of, Pt_is_refined]) := ⟨⟨_, _, ok_equal F_equal T C_bit C_both_known, PySem.W.mg_of X G a_equal, k_equal, B_equal⟩⟩
    have C_not_equal : Callee l.prog w K mg base "not_equal" 5 ["one", "two"] (sp_not_equal K [Pt_consists_of, Pt_is_refined]) := ⟨⟨_, _, ok_not_equal F_not_equal T C_bit_not C_equal, PySem.W.mg_of X G a_not_equal, k_not_equal, B_not_equal⟩⟩
    have C_logic_not : Callee l.prog w K mg base "logic_not" 3 ["vector"] (sp_logic_not K [Pt_consists_of, Pt_is_refined]) := ⟨⟨_, _, ok_logic_not F_logic_not T C_bit_not C_truth, PySem.W.mg_of X G a_logic_not, k_logic_not, B_logic_not⟩⟩
    have C_logic_and : Callee l.prog w K mg base "logic_and" 4 ["one", "two"] (sp_logic_and K [Pt_consists_of, Pt_is_refined]) := ⟨⟨_, _, ok_logic_and F_logic_and T C_bit_and C_truth, PySem.W.mg_of X G a_logic_and, k_logic_and, B_logic_and⟩⟩
    have C_logic_or : Callee l.prog w K mg base "logic_or" 4 ["one", "two"] (sp_logic_or K [Pt_consists_of, Pt_is_refined]) := ⟨⟨_, _, ok_logic_or F_logic_or T C_bit_or C_truth, PySem.W.mg_of X G a_logic_or, k_logic_or, B_logic_or⟩⟩
    have C_shift_left : Callee l.prog w K mg base "shift_left" 3 ["vector", "amount"] (sp_shift_left K [Pt_consists_of, Pt_is_refined]) := ⟨⟨_, _, ok_shift_left F_shift_left T C_is_known, PySem.W.mg_of X G a_shift_left, k_shift_left, B_shift_left⟩⟩
    have C_shift_right : Callee l.prog w K mg base "shift_right" 3 ["vector", "amount"] (sp_shift_right K [Pt_consists_of, Pt_is_refined]) := ⟨⟨_, _, ok_shift_right F_shift_right T C_is_known, PySem.W.mg_of X G a_shift_right, k_shift_right, B_shift_right⟩⟩
    have C_agreed_bit : Callee l.prog w K mg base "_agreed_bit" 1 ["a", "b"] (sp_agreed_bit K [Pt_consists_of, Pt_is_refined]) := ⟨⟨_, _, ok_agreed_bit F_agreed_bit T , PySem.W.mg_of X G a_agreed_bit, k_agreed_bit, B_agreed_bit⟩⟩
    have C_choose : Callee l.prog w K mg base "choose" 3 ["condition", "one", "two"] (sp_choose K [Pt_consists_of, Pt_is_refined]) := ⟨⟨_, _, ok_choose F_choose T C_both_extended C_truth C_agreed_bit, PySem.W.mg_of X G a_choose, k_choose, B_choose⟩⟩
    have C_pick : Callee l.prog w K mg base "pick" 3 ["vector", "index"] (sp_pick K [Pt_consists_of, Pt_is_refined]) := ⟨⟨_, _, ok_pick F_pick T C_is_known, PySem.W.mg_of X G a_pick, k_pick, B_pick⟩⟩
    have C_law_results : Callee l.prog w K mg base "_law_results" 6 ["one", "two", "three"] (sp_law_results K [Pt_consists_of, Pt_is_refined]) := ⟨⟨_, _, ok_law_results F_law_results T C_bit_not C_bit_and C_bit_or C_bit_xor C_reduce_and C_reduce_or C_reduce_xor C_truth C_add C_subtract C_multiply C_negate C_less C_less_equal C_equal C_not_equal C_logic_not C_logic_and C_logic_or C_shift_left C_shift_right C_choose C_pick, PySem.W.mg_of X G a_law_results, k_law_results, B_law_results⟩⟩
    have TB_is_refined : TabB base mg cT_is_refined Pt_is_refined := by
      have z := TB (cT_is_refined, Pt_is_refined) (by simp)
      exact ⟨z.1, z.2, z.3⟩
    have C_is_refined : Callee l.prog w K mg base "is_refined" 1 ["vector", "other"] (sp_is_refined K [Pt_consists_of, Pt_is_refined]) := ⟨⟨_, _, ok_is_refined l_is_refined c_is_refined TB_is_refined (by simp) T , PySem.W.mg_of X G a_is_refined, k_is_refined, B_is_refined⟩⟩
    have C_law_cell : Callee l.prog w K mg base "_law_cell" 1 ["script", "k"] (sp_law_cell K [Pt_consists_of, Pt_is_refined]) := ⟨⟨_, _, ok_law_cell F_law_cell T , PySem.W.mg_of X G a_law_cell, k_law_cell, B_law_cell⟩⟩
    have C_law_pair : Callee l.prog w K mg base "_law_pair" 1 ["numbers", "size", "full"] (sp_law_pair K [Pt_consists_of, Pt_is_refined]) := ⟨⟨_, _, ok_law_pair F_law_pair T , PySem.W.mg_of X G a_law_pair, k_law_pair, B_law_pair⟩⟩
    have C_law_refines : Callee l.prog w K mg base "_law_refines" 2 ["one", "two"] (sp_law_refines K [Pt_consists_of, Pt_is_refined]) := ⟨⟨_, _, ok_law_refines F_law_refines T C_is_refined, PySem.W.mg_of X G a_law_refines, k_law_refines, B_law_refines⟩⟩
    exact ok_law F_law T C_law_numbers C_law_results C_is_refined C_law_cell C_law_pair C_law_refines
end K44
open PySem PySem.W PyProof.Rows
set_option Elab.async false
set_option maxRecDepth 100000 in
set_option maxHeartbeats 0 in
theorem PySem.Challenge.cw_clockwright_k44_refined_operands_holds : PySem.Challenge.rw_clockwright_k44_refined_operands.Holds := by
  w_on; o_law; k_head; (case hw => w_witness2)
  k_fill
  refine K44.walk_tab (l := PySem.Challenge.rw_clockwright_k44_refined_operands) (n := 63) (k := 7) (y := "script") [("_consists_of" : Str), ("is_refined" : Str)] rfl (by decide) rfl ⟨rfl, by decide, by decide⟩ ?R (fun w h Y => PySem.W.kIn_of Y) ?F
  case R => kernel_rfl
  case F =>
    intro w mg fa h KX G hmg TF
    refine' K44.all_mk (l := PySem.Challenge.rw_clockwright_k44_refined_operands) (w := w) KX G hmg TF ?a_law_numbers ?l_law_numbers ?c_law_numbers ?k_law_numbers ?a_bit_not ?l_bit_not ?c_bit_not ?k_bit_not ?a_extended ?l_extended ?c_extended ?k_extended ?a_both_extended ?l_both_extended ?c_both_extended ?k_both_extended ?a_bit_and ?l_bit_and ?c_bit_and ?k_bit_and ?a_bit_or ?l_bit_or ?c_bit_or ?k_bit_or ?a_bit_xor ?l_bit_xor ?c_bit_xor ?k_bit_xor ?a_reduce_and ?l_reduce_and ?c_reduce_and ?k_reduce_and ?a_reduce_or ?l_reduce_or ?c_reduce_or ?k_reduce_or ?a_reduce_xor ?l_reduce_xor ?c_reduce_xor ?k_reduce_xor ?a_truth ?l_truth ?c_truth ?k_truth ?a_low_bits ?l_low_bits ?c_low_bits ?k_low_bits ?a_consists_of ?l_consists_of ?c_consists_of ?k_consists_of ?a_is_known ?l_is_known ?c_is_known ?k_is_known ?a_both_known ?l_both_known ?c_both_known ?k_both_known ?a_add ?l_add ?c_add ?k_add ?a_subtract ?l_subtract ?c_subtract ?k_subtract ?a_multiply ?l_multiply ?c_multiply ?k_multiply ?a_negate ?l_negate ?c_negate ?k_negate ?a_bit ?l_bit ?c_bit ?k_bit ?a_less ?l_less ?c_less ?k_less ?a_less_equal ?l_less_equal ?c_less_equal ?k_less_equal ?a_equal ?l_equal ?c_equal ?k_equal ?a_not_equal ?l_not_equal ?c_not_equal ?k_not_equal ?a_logic_not ?l_logic_not ?c_logic_not ?k_logic_not ?a_logic_and ?l_logic_and ?c_logic_and ?k_logic_and ?a_logic_or ?l_logic_or ?c_logic_or ?k_logic_or ?a_shift_left ?l_shift_left ?c_shift_left ?k_shift_left ?a_shift_right ?l_shift_right ?c_shift_right ?k_shift_right ?a_agreed_bit ?l_agreed_bit ?c_agreed_bit ?k_agreed_bit ?a_choose ?l_choose ?c_choose ?k_choose ?a_pick ?l_pick ?c_pick ?k_pick ?a_law_results ?l_law_results ?c_law_results ?k_law_results ?a_is_refined ?l_is_refined ?c_is_refined ?k_is_refined ?a_law_cell ?l_law_cell ?c_law_cell ?k_law_cell ?a_law_pair ?l_law_pair ?c_law_pair ?k_law_pair ?a_law_refines ?l_law_refines ?c_law_refines ?k_law_refines ?a_law ?l_law ?c_law ?k_law ?lT_consists_of ?eT_consists_of ?hT_consists_of ?nT_consists_of ?lT_is_refined ?eT_is_refined ?hT_is_refined ?nT_is_refined ?z_len ?z_max ?z_min ?z_all ?z_zip ?z_range ?z_abs ?z_int ?z_isinstance ?z_str ?g_A ?d_A ?e_A ?t_A ?g_O ?d_O ?e_O ?t_O ?g_X ?d_X ?e_X ?t_X ?g_N ?d_N ?e_N ?t_N
    (case a_law_numbers => k_is)
    (case l_law_numbers => k_is)
    (case c_law_numbers => k_is)
    (case k_law_numbers => k_is)
    (case a_bit_not => k_is)
    (case l_bit_not => k_is)
    (case c_bit_not => k_is)
    (case k_bit_not => k_is)
    (case a_extended => k_is)
    (case l_extended => k_is)
    (case c_extended => k_is)
    (case k_extended => k_is)
    (case a_both_extended => k_is)
    (case l_both_extended => k_is)
    (case c_both_extended => k_is)
    (case k_both_extended => k_is)
    (case a_bit_and => k_is)
    (case l_bit_and => k_is)
    (case c_bit_and => k_is)
    (case k_bit_and => k_is)
    (case a_bit_or => k_is)
    (case l_bit_or => k_is)
    (case c_bit_or => k_is)
    (case k_bit_or => k_is)
    (case a_bit_xor => k_is)
    (case l_bit_xor => k_is)
    (case c_bit_xor => k_is)
    (case k_bit_xor => k_is)
    (case a_reduce_and => k_is)
    (case l_reduce_and => k_is)
    (case c_reduce_and => k_is)
    (case k_reduce_and => k_is)
    (case a_reduce_or => k_is)
    (case l_reduce_or => k_is)
    (case c_reduce_or => k_is)
    (case k_reduce_or => k_is)
    (case a_reduce_xor => k_is)
    (case l_reduce_xor => k_is)
    (case c_reduce_xor => k_is)
    (case k_reduce_xor => k_is)
    (case a_truth => k_is)
    (case l_truth => k_is)
    (case c_truth => k_is)
    (case k_truth => k_is)
    (case a_low_bits => k_is)
    (case l_low_bits => k_is)
    (case c_low_bits => k_is)
    (case k_low_bits => k_is)
    (case a_consists_of => k_is)
    (case l_consists_of => k_is)
    (case c_consists_of => k_is)
    (case k_consists_of => k_is)
    (case a_is_known => k_is)
    (case l_is_known => k_is)
    (case c_is_known => k_is)
    (case k_is_known => k_is)
    (case a_both_known => k_is)
    (case l_both_known => k_is)
    (case c_both_known => k_is)
    (case k_both_known => k_is)
    (case a_add => k_is)
    (case l_add => k_is)
    (case c_add => k_is)
    (case k_add => k_is)
    (case a_subtract => k_is)
    (case l_subtract => k_is)
    (case c_subtract => k_is)
    (case k_subtract => k_is)
    (case a_multiply => k_is)
    (case l_multiply => k_is)
    (case c_multiply => k_is)
    (case k_multiply => k_is)
    (case a_negate => k_is)
    (case l_negate => k_is)
    (case c_negate => k_is)
    (case k_negate => k_is)
    (case a_bit => k_is)
    (case l_bit => k_is)
    (case c_bit => k_is)
    (case k_bit => k_is)
    (case a_less => k_is)
    (case l_less => k_is)
    (case c_less => k_is)
    (case k_less => k_is)
    (case a_less_equal => k_is)
    (case l_less_equal => k_is)
    (case c_less_equal => k_is)
    (case k_less_equal => k_is)
    (case a_equal => k_is)
    (case l_equal => k_is)
    (case c_equal => k_is)
    (case k_equal => k_is)
    (case a_not_equal => k_is)
    (case l_not_equal => k_is)
    (case c_not_equal => k_is)
    (case k_not_equal => k_is)
    (case a_logic_not => k_is)
    (case l_logic_not => k_is)
    (case c_logic_not => k_is)
    (case k_logic_not => k_is)
    (case a_logic_and => k_is)
    (case l_logic_and => k_is)
    (case c_logic_and => k_is)
    (case k_logic_and => k_is)
    (case a_logic_or => k_is)
    (case l_logic_or => k_is)
    (case c_logic_or => k_is)
    (case k_logic_or => k_is)
    (case a_shift_left => k_is)
    (case l_shift_left => k_is)
    (case c_shift_left => k_is)
    (case k_shift_left => k_is)
    (case a_shift_right => k_is)
    (case l_shift_right => k_is)
    (case c_shift_right => k_is)
    (case k_shift_right => k_is)
    (case a_agreed_bit => k_is)
    (case l_agreed_bit => k_is)
    (case c_agreed_bit => k_is)
    (case k_agreed_bit => k_is)
    (case a_choose => k_is)
    (case l_choose => k_is)
    (case c_choose => k_is)
    (case k_choose => k_is)
    (case a_pick => k_is)
    (case l_pick => k_is)
    (case c_pick => k_is)
    (case k_pick => k_is)
    (case a_law_results => k_is)
    (case l_law_results => k_is)
    (case c_law_results => k_is)
    (case k_law_results => k_is)
    (case a_is_refined => k_is)
    (case l_is_refined => k_is)
    (case c_is_refined => k_is)
    (case k_is_refined => k_is)
    (case a_law_cell => k_is)
    (case l_law_cell => k_is)
    (case c_law_cell => k_is)
    (case k_law_cell => k_is)
    (case a_law_pair => k_is)
    (case l_law_pair => k_is)
    (case c_law_pair => k_is)
    (case k_law_pair => k_is)
    (case a_law_refines => k_is)
    (case l_law_refines => k_is)
    (case c_law_refines => k_is)
    (case k_law_refines => k_is)
    (case a_law => k_is)
    (case l_law => k_is)
    (case c_law => k_is)
    (case k_law => k_is)
    (case lT_consists_of => k_is)
    (case eT_consists_of => rfl)
    (case hT_consists_of => kernel_rfl)
    (case nT_consists_of => kernel_rfl)
    (case lT_is_refined => k_is)
    (case eT_is_refined => rfl)
    (case hT_is_refined => kernel_rfl)
    (case nT_is_refined => kernel_rfl)
    (case z_len => k_is)
    (case z_max => k_is)
    (case z_min => k_is)
    (case z_all => k_is)
    (case z_zip => k_is)
    (case z_range => k_is)
    (case z_abs => k_is)
    (case z_int => k_is)
    (case z_isinstance => k_is)
    (case z_str => k_is)
    (case g_A => k_is)
    (case d_A => k_is)
    (case e_A => (repeat (first | exact trivial | (refine ⟨⟨_, _, rfl, rfl⟩, ?_⟩))))
    (case t_A => intro a ha b hb; simp only [List.mem_cons, List.not_mem_nil, or_false] at ha hb; (rcases ha with rfl | rfl | rfl | rfl <;> rcases hb with rfl | rfl | rfl | rfl <;> (apply Exists.intro; k_is)))
    (case g_O => k_is)
    (case d_O => k_is)
    (case e_O => (repeat (first | exact trivial | (refine ⟨⟨_, _, rfl, rfl⟩, ?_⟩))))
    (case t_O => intro a ha b hb; simp only [List.mem_cons, List.not_mem_nil, or_false] at ha hb; (rcases ha with rfl | rfl | rfl | rfl <;> rcases hb with rfl | rfl | rfl | rfl <;> (apply Exists.intro; k_is)))
    (case g_X => k_is)
    (case d_X => k_is)
    (case e_X => (repeat (first | exact trivial | (refine ⟨⟨_, _, rfl, rfl⟩, ?_⟩))))
    (case t_X => intro a ha b hb; simp only [List.mem_cons, List.not_mem_nil, or_false] at ha hb; (rcases ha with rfl | rfl | rfl | rfl <;> rcases hb with rfl | rfl | rfl | rfl <;> (apply Exists.intro; k_is)))
    (case g_N => k_is)
    (case d_N => k_is)
    (case e_N => (repeat (first | exact trivial | (refine ⟨⟨_, _, rfl, rfl⟩, ?_⟩))))
    (case t_N => intro a ha; simp only [List.mem_cons, List.not_mem_nil, or_false] at ha; (rcases ha with rfl | rfl | rfl | rfl <;> (apply Exists.intro; k_is)))
