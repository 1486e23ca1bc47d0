import PyProof.Rows.All
import Wide.All
import OpenK.AllK
import Wide.FinOn
import KE.KIntText
import KE.IntTextLaws
import HandS.Base
import HandS.Call
import HandS.Codes
import KE.GoesZip
import KE.GoesMore
import HandS.List
import HandS.Iter
import HandS.Walk
import HandS.Comp
import HandS.Text
import HandS.AnyAll
import PyProof.StrOps2
import HandS.ForMost
import HandS.More
import HandS.Lambda
import HandS.EndTab
import PyProof.FString3
import HandS.FStr
import HandS.WideBits
import HandS.StrMore
import HandS.Style
import HandS.Wide
import PyProof.GenCompT
import HandS.IsInst
import HandS.Exc
import HandS.ExcInit
import HandS.ExcField
import HandS.ExcOwn
import HandS.Defaults
import KE.KExcIs
import HandS.ExcIs
import PySem.Challenge.RW_clockwright_k01_numbers_and_vectors
import HandS.EndBits
import KE.KNestM
set_option Elab.async false
set_option linter.all false
set_option maxRecDepth 100000
/-! int(text, 2) -/
namespace Cw
open PySem PySem.Spec PyProof.Rows L2
open PySem.NumText PySem.Calls
def IsBin (c : Nat) : Prop := c = 48 ∨ c = 49
def bv (c : Nat) : Nat := c - 48
def binNum (l : List Nat) : Nat := l.foldl (fun a c => a * 2 + bv c) 0
theorem bin_rng {c : Nat} (h : IsBin c) : 48 ≤ c ∧ c ≤ 49 ∧ c ≠ 95 := by
  unfold IsBin at h
  omega
theorem bin_digit {c : Nat} (h : IsBin c) : digit? c = some (bv c) := by
  rcases h with h | h
  · subst h
    rfl
  · subst h
    rfl
theorem bin_lt {c : Nat} (h : IsBin c) : bv c < 2 := by
  have := bin_rng h
  unfold bv
  omega
theorem bin_step {ds : Array Nat} {b : Bool} {c : Nat} (h : IsBin c) : PySem.NumText.step 2 (ds, b) c = some (ds.push (bv c), true) := by
  unfold PySem.NumText.step
  rw [if_neg (by rw [beq_iff_eq]; exact (bin_rng h).2.2), bin_digit h]
  exact if_pos (bin_lt h)
theorem bin_foldl : ∀ (cs : List Nat) (ds : Array Nat), (∀ c ∈ cs, IsBin c) → cs.foldlM (PySem.NumText.step 2) (ds, true) = some (cs.foldl (fun acc c => acc.push (bv c)) ds, true)
  | [], _, _ => rfl
  | c :: cs, ds, h => by
    rw [List.foldlM_cons, bin_step (h c (List.mem_cons_self ..))]
    show cs.foldlM (PySem.NumText.step 2) (ds.push (bv c), true) = _
    exact bin_foldl cs (ds.push (bv c)) fun d hd => h d (List.mem_cons_of_mem _ hd)
theorem bin_digits {cs : List Nat} (h : ∀ c ∈ cs, IsBin c) (hne : cs ≠ []) : digits? 2 cs = some (cs.foldl (fun acc c => acc.push (bv c)) #[]) := by
  cases cs with
  | nil => exact absurd rfl hne
  | cons c cs =>
    unfold digits?
    rw [List.foldlM_cons, bin_step (h c (List.mem_cons_self ..))]
    show (cs.foldlM (PySem.NumText.step 2) ((#[] : Array Nat).push (bv c), true)).bind _ = _
    rw [bin_foldl cs _ fun d hd => h d (List.mem_cons_of_mem _ hd)]
    rfl
theorem bin_push : ∀ (cs : List Nat) (ds : Array Nat), (cs.foldl (fun acc c => acc.push (bv c)) ds).foldl (fun acc d => acc * 2 + d) 0 = cs.foldl (fun a c => a * 2 + bv c) (ds.foldl (fun acc d => acc * 2 + d) 0)
  | [], _ => rfl
  | c :: cs, ds => by
    rw [List.foldl_cons, bin_push cs (ds.push (bv c)), List.foldl_cons]
    congr 1
    simp
theorem bin_drop {cs : List Nat} (h : ∀ c ∈ cs, IsBin c) : cs.dropWhile blank = cs := by
  cases cs with
  | nil => rfl
  | cons c cs => exact dropWhile_of (by have := bin_rng (h c (List.mem_cons_self ..)); omega)
theorem bin_sign {cs : List Nat} (h : ∀ c ∈ cs, IsBin c) : sign cs = (false, cs) := by
  cases cs with
  | nil => rfl
  | cons c cs =>
    have := bin_rng (h c (List.mem_cons_self ..))
    exact sign_of (by omega) (by omega)
theorem bin_pref {cs : List Nat} (h : ∀ c ∈ cs, IsBin c) : PySem.NumText.prefix? cs = none := by
  match cs, h with
  | [], _ => rfl
  | [a], _ =>
    unfold PySem.NumText.prefix?
    split
    · rename_i e
      cases e
    · rfl
  | a :: c :: r, h =>
    have hc := bin_rng (h c (List.mem_cons_of_mem _ (List.mem_cons_self ..)))
    by_cases ha : a = 48
    · subst ha
      have e : PySem.NumText.prefix? (48 :: c :: r) = if (c == 120 || c == 88) = true then some 16 else if (c == 111 || c == 79) = true then some 8 else if (c == 98 || c == 66) = true then some 2 else none := rfl
      rw [e, if_neg (by rw [Bool.or_eq_true, beq_iff_eq, beq_iff_eq]; omega), if_neg (by rw [Bool.or_eq_true, beq_iff_eq, beq_iff_eq]; omega), if_neg (by rw [Bool.or_eq_true, beq_iff_eq, beq_iff_eq]; omega)]
    · unfold PySem.NumText.prefix?
      split
      · rename_i e
        exact absurd (List.cons.inj e).1 ha
      · rfl
theorem bin_based {cs : List Nat} (h : ∀ c ∈ cs, IsBin c) : based 2 cs = (2, false, cs) := by
  unfold based
  rw [bin_pref h] <;> rfl
theorem bin_read {cs : List Nat} (h : ∀ c ∈ cs, IsBin c) (hne : cs ≠ []) : (int_private% "readNumeral") 0 2 cs = (int_private% "Numeral.value") ((binNum cs : Nat) : Int) := by
  have hr : ∀ c ∈ cs.reverse, IsBin c := fun c hc => h c (List.mem_reverse.mp hc)
  refine (readNumeral_eq 0 2 cs).trans ?_
  rw [bin_drop h, bin_sign h]
  show judge 0 false (based 2 cs).1 (based 2 cs).2.1 (digits? (based 2 cs).1 (((based 2 cs).2.2.reverse.dropWhile blank).reverse)) = _
  rw [bin_based h]
  show judge 0 false 2 false (digits? 2 ((cs.reverse.dropWhile blank).reverse)) = _
  rw [bin_drop hr, List.reverse_reverse, bin_digits h hne]
  show (int_private% "Numeral.value") (((cs.foldl (fun acc c => acc.push (bv c)) (#[] : Array Nat)).foldl (fun acc d => acc * 2 + d) 0 : Nat) : Int) = _
  have z : (#[] : Array Nat).foldl (fun acc d => acc * 2 + d) 0 = 0 := by first | rfl | simp
  rw [bin_push, z] <;> rfl
theorem bin_seen {x : Str} (h : ∀ c ∈ x.cps.toList, IsBin c) : numTextOf x = x.cps.toList ∧ numSeenOf x = x.cps.toList := by
  have e1 : numTextOf x = x.cps.toList := by
    refine if_pos ?_
    rw [← Array.all_toList, List.all_eq_true]
    intro c hc
    have := bin_rng (h c hc)
    exact decide_eq_true (by omega)
  refine ⟨e1, ?_⟩
  show (numTextOf x).takeWhile _ = _
  rw [e1]
  refine takeWhile_all fun c hc => ?_
  have := bin_rng (h c hc)
  exact bne_iff_ne.mpr (by omega)
theorem wp_textB {M : Model} {A : Around} {E : Value → Shared → Prop} {s : Shared} {Q : Value → Shared → Prop} {v : Value} {text : List Nat} {B : Nat} {n : Int}
    (hs : (text.takeWhile (· != 0)).length ≤ 640) (hr : (int_private% "readNumeral") 0 B (text.takeWhile (· != 0)) = (int_private% "Numeral.value") n)
    (ha : ((text.takeWhile (· != 0)).length == text.length) = true) (h : Q (.int n s.toks) { s with toks := s.toks + 1 }) :
    wpAny M A ((int_private% "intFromText") v text B) Q E s := by
  obtain ⟨hp, g, d, tk, os⟩ := s
  repeat (any_goals (first
    | assumption
    | (with_reducible refine wpAny_ite_true (decide_eq_true hs) ?_)
    | (with_reducible refine wpAny_ite_true (decide_eq_true ha) ?_)
    | wp_step))
  all_goals (try rw [hr])
  all_goals (try dsimp only)
  repeat (any_goals (first
    | assumption
    | (with_reducible refine wpAny_ite_true (decide_eq_true hs) ?_)
    | (with_reducible refine wpAny_ite_true (decide_eq_true ha) ?_)
    | wp_step))
structure Hid (p : Prop) : Prop where
  out : p
set_option maxHeartbeats 4000000 in
theorem gives_bin {x : PySem.Str} {u t : Tok} (hl : x.length ≤ 640) (h : ∀ c ∈ x.cps.toList, IsBin c) (hne : x.cps.toList ≠ []) :
    Gives (Builtin.«int.__new__» ⟨[.type "int", .str x u, .int 2 t], []⟩) (.int ((binNum x.cps.toList : Nat) : Int)) :=
  .of_wp fun M A E s Q hQ => by
    obtain ⟨hp, g, d, tk, os⟩ := s
    have f1 := F.conv_sub_int
    have f2 := F.madeHere_int
    have f6 : typeOf (.str x u) = pure (.type "str") := rfl
    obtain ⟨e1, e2⟩ := bin_seen h
    have hs : (numSeenOf x).length ≤ 640 := by
      rw [e2, Array.length_toList]
      exact hl
    have hr : (int_private% "readNumeral") 0 2 (numSeenOf x) = (int_private% "Numeral.value") ((binNum x.cps.toList : Nat) : Int) := by
      rw [e2]
      exact bin_read h hne
    have ha : ((numSeenOf x).length == (numTextOf x).length) = true := by
      rw [e1, e2]
      exact beq_self_eq_true _
    have hk := Hid.mk (And.intro hs (And.intro hr ha))
    clear hs hr ha e1 e2 hl hne h
    repeat (any_goals (first
      | assumption
      | ((with_reducible show wpAny _ _ ((int_private% "intFromText") _ _ _) _ _ _); refine wp_textB hk.out.1 hk.out.2.1 hk.out.2.2 ?_)
      | wp_step))
    all_goals first | exact ⟨_, rfl, hQ⟩ | skip
theorem typeCall_int_2 (a b : Value) : checkTypeCall "int" ⟨[a, b], []⟩ = pure () := by kernel_rfl
theorem newCall_int_2 (a b : Value) : checkBuiltinCall "int.__new__" ⟨[.type "int", a, b], []⟩ = pure () := by kernel_rfl
theorem call_bin {prog : Program} {w : World} {A : Around} {E : Value → Shared → Prop} {s : Shared} {Q : Value → Shared → Prop} {x : PySem.Str} {u t : Tok} (hl : x.length ≤ 640) (h : ∀ c ∈ x.cps.toList, IsBin c) (hne : x.cps.toList ≠ [])
    (hQ : Q (.int ((binNum x.cps.toList : Nat) : Int) s.toks) { s with toks := s.toks + 1 }) : wpAny (model prog w) A (call (.type "int") [.str x u, .int 2 t]) Q E s :=
  callType_new F.called_int F.newNe_int (typeCall_int_2 _ _) (newCall_int_2 _ _) (fun obj => F.initArgs_range_2 obj _ _) F.entry_int_new (gives_bin hl h hne).meets (show (Made.int ((binNum x.cps.toList : Nat) : Int)).post _ s from ⟨rfl, hQ⟩)
/-- int(t, 2) -/
def rIntBin : List V → Hp → VK → Prop := fun xs H Q => ∃ x : Str, xs = [.str x, .int 2] ∧ x.cps.toList ≠ [] ∧ x.length ≤ 640 ∧ (∀ c ∈ x.cps.toList, IsBin c) ∧ Q (.int ((binNum x.cps.toList : Nat) : Int)) H
theorem call_int_bin {X : Cx} : CallR X (.type "int") rIntBin := by
  intro pins s σ H xs us Q I r h
  obtain ⟨x, rfl, hne, hl, hx, q⟩ := h
  obtain ⟨u, w', rfl, r1, r2⟩ := vals2 r
  obtain ⟨t1, rfl⟩ := r1
  obtain ⟨t2, rfl⟩ := r2
  exact call_bin hl hx hne ⟨.int ((binNum x.cps.toList : Nat) : Int), H, I.tok _, ⟨_, rfl⟩, q⟩
end Cw
set_option Elab.async false
set_option linter.all false
set_option maxRecDepth 100000
/-! zip of two texts -/
namespace Cw
open PySem PySem.Spec PyProof.Rows L2
/-- two texts sign by sign, the signs in new pairs -/
def Itzs (x y : Str) : It :=
  ⟨fun i _ => i < x.cps.size ∧ i < y.cps.size,
    fun i H v H' => ∃ T c d, v = .ref T ∧ H T = none ∧ H' = upd H T (.tup [.str ⟨#[c]⟩, .str ⟨#[d]⟩]) ∧ x.cps[i]? = some c ∧ y.cps[i]? = some d,
    fun i _ => i ≤ x.cps.size ∧ i ≤ y.cps.size ∧ (i = x.cps.size ∨ i = y.cps.size)⟩
theorem turn_zips {P : Program} {w : World} {K : PySem.W.Frag} {elts : List Expr} {kk : Nat} {tpos : Pos} {z TI TO i1 i2 : Addr} {x y : Str} {t1 t2 : Tok} (D : ZipSep2 z TI TO i1 i2 [i1] [i2]) :
    Turn P w K (.Tuple elts kk tpos) (Itzs x y) [z, TI, TO, i1, i2] z (fun i h => IsZip h z TI TO .none ∧ IsPair h TI (.ref i1) (.ref i2) ∧ (∃ u v, IsPair h TO u v) ∧ h.IsStrIter i1 (strIterType x) x t1 i ∧ h.IsStrIter i2 (strIterType y) y t2 i) where
  mem := by simp
  obj := fun i h st c hc => by
    obtain ⟨hz, hTI, ⟨u, v, hTO⟩, ⟨o1, e1, _, d1⟩, ⟨o2, e2, _, d2⟩⟩ := st
    have e' : c = z ∨ c = TI ∨ c = TO ∨ c = i1 ∨ c = i2 := by simpa using hc
    rcases e' with q | q | q | q | q
    · rw [q]; exact ⟨_, hz, fun v q => nomatch q⟩
    · rw [q]; exact ⟨_, hTI, fun v q => nomatch q⟩
    · rw [q]; exact ⟨_, hTO, fun v q => nomatch q⟩
    · rw [q]; exact ⟨o1, e1, fun v q => by rw [d1] at q; cases q⟩
    · rw [q]; exact ⟨o2, e2, fun v q => by rw [d2] at q; cases q⟩
  keep := fun i h h' st k => by
    obtain ⟨hz, hTI, ⟨u, v, hTO⟩, ⟨o1, e1, r1⟩, ⟨o2, e2, r2⟩⟩ := st
    exact ⟨k z (by simp) _ hz, k TI (by simp) _ hTI, ⟨u, v, k TO (by simp) _ hTO⟩, ⟨o1, k i1 (by simp) _ e1, r1⟩, ⟨o2, k i2 (by simp) _ e2, r2⟩⟩
  item := by
    intro X hP hw hK hc i pins s σ H E I hf st hg
    subst hP hw hK
    obtain ⟨hz, hTI, ⟨u0, v0, hTO⟩, h1, h2⟩ := st
    obtain ⟨l1, l2⟩ := hg
    have hh : X.A.in1.handled = none := I.ok.hd hc
    have hzl : z < s.heap.objs.size := Heap.lt_size hz
    refine wpAny_pyNext_zipD2_item D (Draws.text hh i1 x t1) (Draws.text hh i2 y t2) hz hTI hTO h1 h2 l1 l2 fun x1 x2 h' tk p1 p2 z' TO' h1' h2' hT hsz hk => ?_
    obtain ⟨c, u, hc1, rfl⟩ := p1
    obtain ⟨d, v, hc2, rfl⟩ := p2
    refine ⟨_, rfl, wpAny_letOwnedTupleGo_zip (s := { s with heap := h', toks := tk }) z' fun h'' z'' sb => ?_⟩
    have hT2 : h''.get? s.heap.objs.size = some { cls := .type "tuple", data := .seq #[.str ⟨#[c]⟩ u, .str ⟨#[d]⟩ v] } := (sb.2 _ (Nat.ne_of_gt hzl)).trans hT
    have new : ObjOk X.prog X.w (upd H s.heap.objs.size (.tup [.str ⟨#[c]⟩, .str ⟨#[d]⟩])) h'' s.heap.objs.size (.tup [.str ⟨#[c]⟩, .str ⟨#[d]⟩]) :=
      ⟨by show 2 ≤ sizeLine; decide, [.str ⟨#[c]⟩ u, .str ⟨#[d]⟩ v], .cons ⟨u, rfl⟩ (.cons ⟨v, rfl⟩ .nil), ⟨_, hT2, rfl, _, rfl⟩⟩
    have I1 : Inv X pins σ (upd H s.heap.objs.size (.tup [.str ⟨#[c]⟩, .str ⟨#[d]⟩])) { s with heap := h'', toks := tk } :=
      I.turnedNew (t' := tk) (ch := [z, TI, TO, i1, i2]) (fun c o hb q => (sb.2 c (fun q' => hb (by simp [q']))).trans (hk c o (fun q' => hb (by simp [q'])) (fun q' => hb (by simp [q'])) (fun q' => hb (by simp [q'])) (fun q' => hb (by simp [q'])) q)) hf (Nat.le_refl _) new
    refine ⟨.ref s.heap.objs.size, _, I1, rfl, ⟨_, c, d, rfl, I.hok.fresh (Nat.le_refl _), rfl, hc1, hc2⟩, ⟨z'', ?_, ⟨.str ⟨#[c]⟩ u, .str ⟨#[d]⟩ v, ?_⟩, ?_, ?_⟩, fun c hcm => ?_⟩
    · exact (sb.2 _ D.TIz).trans (hk _ _ D.TIz D.TITO D.TIi1 D.TIi2 hTI)
    · exact (sb.2 _ D.TOz).trans TO'
    · obtain ⟨o1, e1, r1⟩ := h1'
      exact ⟨o1, (sb.2 _ D.zi1.symm).trans e1, r1⟩
    · obtain ⟨o2, e2, r2⟩ := h2'
      exact ⟨o2, (sb.2 _ D.zi2.symm).trans e2, r2⟩
    · have hlt : c < s.heap.objs.size := by
        have e' : c = z ∨ c = TI ∨ c = TO ∨ c = i1 ∨ c = i2 := by simpa using hcm
        rcases e' with q | q | q | q | q
        · rw [q]; exact hzl
        · rw [q]; exact Heap.lt_size hTI
        · rw [q]; exact Heap.lt_size hTO
        · rw [q]; obtain ⟨_, e1, _⟩ := h1; exact Heap.lt_size e1
        · rw [q]; obtain ⟨_, e2, _⟩ := h2; exact Heap.lt_size e2
      rw [upd_ne (Nat.ne_of_lt hlt)]
      exact (hf c hcm).1
  done := by
    intro X hP hw hK hc i pins s σ H E I hf st hg
    subst hP hw hK
    obtain ⟨hz, hTI, ⟨u0, v0, hTO⟩, h1, h2⟩ := st
    obtain ⟨l1, l2, he⟩ := hg
    have hh : X.A.in1.handled = none := I.ok.hd hc
    exact wpAny_pyNext_zipD2_end D (Draws.text hh i1 x t1) (Draws.text hh i2 y t2) hz hTI hTO h1 h2 l1 l2 he fun h' tk hk => ⟨rfl, I.turnedL (t' := tk) (ch := [z, TI, TO, i1, i2]) (fun c o hb q =>
      hk c o (fun q' => hb (by simp [q'])) (fun q' => hb (by simp [q'])) (fun q' => hb (by simp [q'])) (fun q' => hb (by simp [q'])) q) hf⟩
  self := fun A i s Q E st h => wpAny_pyIter_zip st.1 h
theorem zs_apart (I : Nat) : ZipSep2 (I + 4) (I + 2) (I + 3) I (I + 1) [I] [I + 1] where
  TIz := by show (I + 2 : Nat) ≠ (I + 4 : Nat); omega
  TOz := by show (I + 3 : Nat) ≠ (I + 4 : Nat); omega
  TITO := by show (I + 2 : Nat) ≠ (I + 3 : Nat); omega
  TIi1 := by show (I + 2 : Nat) ≠ (I : Nat); omega
  mem1 := by simp
  zf1 := by simp
  Tf1 := by simp
  TIi2 := by show (I + 2 : Nat) ≠ (I + 1 : Nat); omega
  mem2 := by simp
  zf2 := by simp
  Tf2 := by simp
  sep1_2 := by simp
  sep2_1 := by simp
def iZips (ta : TA) : TI := fun σ H R => ta σ H fun vs H1 => ∃ x y : Str, vs = [.str x, .str y] ∧ R (Itzs x y) H1
theorem pi_zips {X : Cx} {e e2 : Expr} {ta : TA} {p pos tpos : Pos} {elts : List Expr} {kk : Nat} (hg : Gl X "zip") (hm : X.mg "zip" = none) (ha : PA X [e, e2] ta)
    (hs : starEach [e, e2] X.env = (false, eval e X.env) :: starEach [e2] X.env := by rfl) (hpl : (backTo pos (starEach [e2] X.env)).any (·.1) = false := by rfl) :
    PI X (.Tuple elts kk tpos) (.Call (.Name "zip" p) [e, e2] [] pos) (iZips ta) := by
  refine ⟨fun pins s σ H R I h => ?_⟩
  refine Call_ (ld_blt I hg hm PyProof.Rows.boot_zip (PyProof.Rows.callWith_type1 (thn (ha.run pos pins s σ H _ I h) fun us s1 ⟨vs, H1, I1, r1, q1⟩ => ?_) hs hpl))
  obtain ⟨x, y, ex, q⟩ := q1
  subst ex
  obtain ⟨u, v, rfl, ru, rv⟩ := vals2 r1
  obtain ⟨t1, rfl⟩ := ru
  obtain ⟨t2, rfl⟩ := rv
  refine zip_begins2 (begins_text x t1) (begins_text y t2) trivial trivial fun h' hz hTI hTO h1 h2 hsz hk => wpAny_pyIter_zip hz ?_
  have I2 : Inv X pins σ H1 { s1 with heap := h' } := I1.kept (t' := s1.toks) hk
  refine ⟨s1.heap.objs.size + 4, [s1.heap.objs.size + 4, s1.heap.objs.size + 2, s1.heap.objs.size + 3, s1.heap.objs.size, s1.heap.objs.size + 1], _, _, H1, rfl, I2, turn_zips (x := x) (y := y) (t1 := t1) (t2 := t2) (zs_apart s1.heap.objs.size), ⟨hz, hTI, ⟨_, _, hTO⟩, ⟨_, h1, rfl, rfl⟩, ⟨_, h2, rfl, rfl⟩⟩, fun c hcm => ?_, q⟩
  have e' : c = s1.heap.objs.size + 4 ∨ c = s1.heap.objs.size + 2 ∨ c = s1.heap.objs.size + 3 ∨ c = s1.heap.objs.size ∨ c = s1.heap.objs.size + 1 := by simpa using hcm
  have hle : s1.heap.objs.size ≤ c := by
    rcases e' with z | z | z | z | z
    · rw [z]; exact Nat.le_add_right _ _
    · rw [z]; exact Nat.le_add_right _ _
    · rw [z]; exact Nat.le_add_right _ _
    · rw [z]; exact Nat.le_refl _
    · rw [z]; exact Nat.le_add_right _ _
  exact I1.fpOk hle (I1.hok.fresh hle)
theorem walk_zips {x y : Str} (h : x.cps.size = y.cps.size) : Walk (Itzs x y) x.cps.size (fun _ => True)
    (fun i H v H' => ∃ T c d, v = .ref T ∧ H T = none ∧ H' = upd H T (.tup [.str ⟨#[c]⟩, .str ⟨#[d]⟩]) ∧ x.cps[i]? = some c ∧ y.cps[i]? = some d) :=
  ⟨fun i _ hi _ => ⟨hi, h ▸ hi⟩, fun _ _ => ⟨Nat.le_refl _, Nat.le_of_eq h, .inl rfl⟩, fun _ _ _ _ _ _ q => q⟩
end Cw
set_option Elab.async false
set_option linter.all false
set_option maxRecDepth 100000
set_option maxHeartbeats 2000000
/-! all(x in y for x in e): e a text, y a captured text -/
namespace Cw
open PySem PySem.Spec PyProof.Rows L2 GxR
theorem clo_cm {cells : List (Str × Addr)} {names : List (Str × NameKind)} (hfree : ∀ y ∈ names, y.2 = .free → ∃ c, cells.lookup y.1 = some c) {y : Str} {c : Addr} (e : (cloFrom cells names []).lookup y = some c) : cells.lookup y = some c := by
  have hm : (y, c) ∈ cloFrom cells names [] := by
    obtain ⟨l1, l2, h, _⟩ := List.lookup_eq_some_iff.mp e
    rw [h]
    simp
  rcases cloFrom_mem hm with h | ⟨h1, h2⟩
  · cases h
  · obtain ⟨c', hc'⟩ := hfree _ h1 rfl
    rw [h2, hc'] <;> rfl
theorem clo_has {cells : List (Str × Addr)} {names : List (Str × NameKind)} (hfree : ∀ y ∈ names, y.2 = .free → ∃ c, cells.lookup y.1 = some c) {y : Str} {c : Addr} (hy : (y, NameKind.free) ∈ names) (hc : cells.lookup y = some c) : (cloFrom cells names []).lookup y = some c := by
  obtain ⟨c1, h1⟩ := mem_lookup (cloFrom_has (cells := cells) (acc := []) hy)
  have e := clo_cm hfree h1
  rw [hc] at e
  cases e
  exact h1
/-- the element: a test of the sign c, and of the text z that y holds -/
def EltC (prog : Program) (w : World) (scope : Scope) (cl : List (Str × Addr)) (x : Str) (elt : Expr) (y : Str) (z : Str) (pb : Nat → Bool) : Prop :=
  ∀ (cenv : Env) (A' : Around) (E' : Value → Shared → Prop) (c : Nat) (t : Tok) (s₂ : Shared) (m₂ : Str → Option Value) (c1 : Addr) (tz : Tok), cenv.scope = scope → cenv.cells = cl → cl.lookup y = some c1 → s₂.heap.IsCell c1 (some (.str z tz)) → s₂.heap.Ns cenv.locals m₂ → m₂ x = some (.str ⟨#[c]⟩ t) →
    wpAny (model prog w) A' (eval elt cenv) (fun v s₃ => v = .bool (pb c) ∧ Keeps s₂ s₃) E' s₂
/-- x in y -/
theorem elt_in {prog : Program} {w : World} {scope : Scope} {cl : List (Str × Addr)} {x y z : Str} {p1 p2 p3 : Pos} (hk : scope.kind = .function) (hl : scope.names.lookup x = some .local) (hy : scope.names.lookup y = some .free)
    (hd : (x == ("__debug__" : Str)) = false := by decide) (hd2 : (y == ("__debug__" : Str)) = false := by decide) (hcd : (y == ("__classdict__" : Str)) = false := by decide) :
    EltC prog w scope cl x (.Compare (.Name x p1) [.In] [.Name y p2] p3) y z (fun c => decide (c ∈ z.cps.toList)) := by
  intro cenv A' E' c t s₂ m₂ c1 tz hs hcl hlk hcell hn hm
  refine wpAny_Compare1 ?_
  refine wpAny_Name (wpAny_loadName_local (by rw [hs]; exact hk) (show cenv.scope.names.lookup x = some .local by rw [hs]; exact hl) hn hm ?_) hd
  refine wpAny_Name (wpAny_loadName_free (by rw [hs]; exact hk) (show cenv.scope.names.lookup y = some .free by rw [hs]; exact hy) (by rw [hcl]; exact hlk) hcell ?_ hcd) hd2
  refine PyProof.Rows.in_str ⟨?_, keeps_refl _⟩
  rw [PySem.StrLaws.found_one z c]
section
variable {X : Cx} {pins : List (Addr × Obj)} {σ : L2.St} {H : Hp} {s : Shared}
/-- the code record c, its table at P: ready for a generator expression; what the table may become -/
theorem tab_two {P : Addr} {ps more : Array Value} {s1 s' : Shared} {wr : List Addr} {G : Array GenState → Array GenState → Prop} {s5 : Shared} (I1 : Inv X pins σ H s1) (hP : H P = some (.tbl ps)) (ht : TriplesOk (ps ++ more).toList)
    (mv : Moved wr G s5 s') (old : ∀ b u, b ≠ P → s1.heap.get? b = some u → s5.heap.get? b = some u) (tab : s5.heap.get? P = some { cls := .none, data := .fields (ps ++ more) }) (bare : AllBare s'.gens) (os : s5.os = s1.os)
    (out : ∀ b u, s1.heap.get? b = some u → b ∉ wr) : ∃ H2, Tabbed P H H2 ∧ Inv X pins σ H2 s' := by
  have at1 : s1.heap.get? P = some { cls := .none, data := .fields ps } := I1.hok P _ hP
  have J := inv_tab (more := more) (h' := s'.heap) (g' := s'.gens) (d' := s'.drawn) (t' := s'.toks) I1 hP (fun b u hb e => mv.heap b u (out b u e) (old b u hb e)) (mv.heap P _ (out P _ at1) tab) bare
  rw [sh_eta s1 s' (mv.os.trans os)] at J
  exact ⟨_, ⟨⟨_, upd_same, ht⟩, fun b hb => upd_ne hb⟩, J⟩
/-- what a walk over the signs of a asks of the element, told once -/
theorem quiet_in {scope : Scope} {cl : List (Str × Addr)} {code : Value} {bi C : Addr} {env : Env} {x y z a : Str} {p1 p2 p3 : Pos} {tz : Tok} {c1 it : Addr} {oc : Obj} {h3 href : Heap} {prog : Program} {w : World}
    (he : EltC prog w scope cl x (.Compare (.Name x p1) [.In] [.Name y p2] p3) y z fun c => decide (c ∈ z.cps.toList)) (hcl : cl.lookup y = some c1) (ho : h3.get? c1 = some oc) (hd : oc.data = .cell (some (.str z tz))) (hne : c1 ≠ it)
    (hr : ∀ b u, h3.get? b = some u → href.get? b = some u) :
    QuietGen prog w (genEnv scope cl C code bi env) x [] (.Compare (.Name x p1) [.In] [.Name y p2] p3) (List.range h3.objs.size) [it] (SignAt a) (fun _ => true)
      (fun i v => ∃ c, a.cps[i]? = some c ∧ v = .bool (decide (c ∈ z.cps.toList))) href where
  tests := by
    intro A' E' i v s2 m2 _ _ _ _ _
    rw [List.forIn_nil]
    exact wpAny_pure ⟨rfl, keeps_refl _⟩
  elt := by
    intro A' E' i v s2 m2 _ hv _ hn hm kp
    obtain ⟨c, t, hc, rfl⟩ := hv
    have q : s2.heap.get? c1 = some oc := kp c1 (List.mem_range.mpr (Heap.lt_size ho)) (fun m => hne (List.mem_singleton.mp m)) oc (hr c1 oc ho)
    exact wpAny_mono (he _ A' E' c t s2 m2 c1 tz rfl rfl hcl ⟨oc, q, hd⟩ hn hm) (fun _ _ r => ⟨⟨c, hc, r.1⟩, r.2⟩) fun _ _ r => r
/-- the generator itself, made -/
theorem gen_in {c P : Addr} {iter : Expr} {x y z : Str} {px p1 p2 p3 gpos : Pos} {scope : Scope} {te : TE} {k j : Nat} {Q' : Value → Shared → Prop} {R : Str → Hp → Prop}
    (hr : Room k X.A) (TB : TabB X.base X.mg c P) (hcode : X.env.code = .ref c) (S : GenS X.env scope x) (hi : PE X iter te) (hN : X.N[j]? = some y) (hcy : X.env.scope.names.lookup y = some .cell) (hyf : (y, NameKind.free) ∈ scope.names)
    (he : EltC X.prog X.w scope (cloFrom X.env.cells scope.names []) x (.Compare (.Name x p1) [.In] [.Name y p2] p3) y z fun c => decide (c ∈ z.cps.toList))
    (hs : ∀ v, genFold iter X.env v = pure v) (I : Inv X pins σ H s) (hz : σ[j]? = some (some (.str z))) (h : te σ H fun v H1 => ∃ a : Str, v = .str a ∧ TabG H1 P ∧ R a H1)
    (hQ : ∀ a H1 g s5, R a H1 → Ready X pins σ H1 P a (fun c => decide (c ∈ z.cps.toList)) g s5 → Q' (.ref g) s5) :
    wpAny (model X.prog X.w) X.A (eval (.GeneratorExp (.Compare (.Name x p1) [.In] [.Name y p2] p3) [⟨.Name x px, iter, [], 0⟩] scope gpos) X.env) Q' X.xe s := by
  have deep := hr.dp
  refine wpAny_GeneratorExp_walksQ hr.hd S.co (closure_ok S.free) S.cell S.dot S.loc S.kind (by omega) (thn (hi.run pins s σ H _ I h) fun xv s1 ⟨v, H1, I1, r1, a, ea, ⟨ps, hP, ht⟩, q1⟩ => ?_) hs
  subst ea
  obtain ⟨t, rfl⟩ := r1
  -- where y is held
  obtain ⟨m1, hn1, hl1⟩ := I1.loc
  obtain ⟨_, ⟨tz, rfl⟩, lk⟩ := hl1 j y (.str z) hN hz (.inr (.inl hcy))
  obtain ⟨c1, hc1, oc, hoc, hcd⟩ : ∃ c1, X.env.cells.lookup y = some c1 ∧ ∃ oc, s1.heap.get? c1 = some oc ∧ oc.data = .cell (some (.str z tz)) := by
    rcases lk with ⟨hk0, _⟩ | ⟨_, c1, hc1, oc, hoc, hcd⟩
    · cases hcy.symm.trans hk0
    · exact ⟨c1, hc1, oc, hoc, hcd⟩
  have eP : s1.heap.get? P = some { cls := .none, data := .fields ps } := I1.hok P _ hP
  have nP : c1 ≠ P := fun q => by
    rw [q, eP] at hoc
    cases hoc
    cases hcd
  have cl1 : cStatics < s1.heap.objs.size := let ⟨_, hns, _⟩ := I1.nolimit; hns.lt
  have cP : cStatics ≠ P := fun e => by
    obtain ⟨_, ⟨o', es, ep, ho, hd, _⟩, _⟩ := I1.nolimit
    rw [e, eP] at ho
    cases ho
    cases hd
  refine wpAny_pyIter_str fun o St W hst => ?_
  have lim : (s1.heap.push o).NoLimit := I1.nolimit.push o
  have eP2 : (s1.heap.push o).get? P = some { cls := .none, data := .fields ps } := Heap.get?_push_of_some _ eP
  have cd : PySem.W.CodeHd (s1.heap.push o) c P := TB.code.keeps fun b u e => Heap.get?_push_of_some _ (I1.bk b u e)
  have szo : (s1.heap.push o).objs.size = s1.heap.objs.size + 1 := Heap.size_push ..
  -- behind the code object, whichever it is
  suffices cont : ∀ (code : Value) (h3 : Heap) (tk : Nat) (more : Array Value), Heap.ExtBut P (s1.heap.push o) h3 → (s1.heap.push o).objs.size ≤ h3.objs.size → h3.get? P = some { cls := .none, data := .fields (ps ++ more) } → TriplesOk (ps ++ more).toList →
      wpAny (model X.prog X.w) X.A (builtinsFor X.env.globals X.env.builtins) (fun bi s4 =>
        ∃ Ia fp wr n0 Pf St0 pz F, Value.ref s1.heap.objs.size = .ref Ia ∧ (∀ A' : Around, A'.handled = none → Walks X.prog X.w A' Ia fp wr n0 Pf St0) ∧ St0 0 s4.heap ∧ (∀ b ∈ fp, b < s4.heap.objs.size) ∧ s4.heap.NoLimit ∧ cStatics ∉ wr ∧
          (∀ href : Heap, (∀ b u, s4.heap.get? b = some u → href.get? b = some u) →
            QuietGen X.prog X.w (genEnv scope (cloFrom X.env.cells scope.names []) s4.heap.objs.size code bi X.env) x [] (.Compare (.Name x p1) [.In] [.Name y p2] p3) (List.range s4.heap.objs.size) wr Pf pz F href) ∧
          (∀ g h5 tk gs, gs.bare = true → s4.heap.objs.size < g → h5.objs.size = g + 1 → (∀ b u, s4.heap.get? b = some u → h5.get? b = some u) →
            WalksS X.prog X.w X.A.in4 g (g :: s4.heap.objs.size :: List.range s4.heap.objs.size) (s4.heap.objs.size :: wr) (GenOnlyQ s4.gens.size) (passing pz n0 0).length
              (fun j v => ∃ i, (passing pz n0 0)[j]? = some i ∧ F i v) (GenAt X.prog X.w X.A.in4 g s4.gens.size s4.heap.objs.size (List.range s4.heap.objs.size) wr pz n0 F) →
            GenAt X.prog X.w X.A.in4 g s4.gens.size s4.heap.objs.size (List.range s4.heap.objs.size) wr pz n0 F 0 { s4 with gens := s4.gens.push gs, toks := tk, heap := h5 } →
            Q' (.ref g) { s4 with gens := s4.gens.push gs, toks := tk, heap := h5 })) X.xe { s1 with heap := h3, toks := tk } by
    refine ⟨lim, ?_⟩
    cases hf : codeAmong gpos ps.toList with
    | none =>
      refine wpAny_genexprCodeX hcode (cd.code eP2 ht) (cd.tab eP2) hf fun c' h' tk hx hge hlt hco' _ htab' _ => ?_
      obtain ⟨_, _, _, _, _, _, _, _, _, _, _, _, _, _, _, _, _, _, _, htr, _⟩ := hco'
      exact cont _ h' tk _ hx (Nat.le_trans hge (Nat.le_of_lt hlt)) htab'.2 htr
    | some cv =>
      refine wpAny_genexprCode_hit hcode (cd.code eP2 ht) hf (cont cv _ s1.toks #[] (Heap.ExtBut.refl _ _) (Nat.le_refl _) ?_ ?_)
      · rw [Array.append_empty]
        exact eP2
      · rw [Array.append_empty]
        exact ht
  intro code h3 tk more hx hsz eP3 ht3
  have old : ∀ b u, b ≠ P → s1.heap.get? b = some u → h3.get? b = some u := fun b u hb e => hx b u hb (Heap.get?_push_of_some _ e)
  obtain ⟨bm, ob, e1, e2, _, e4, e5, e6, e7, e8⟩ := TB.bm
  refine wpAny_builtinsFor (m := X.mg) (by rw [I1.ok.glob]; exact ((I1.mod.glob.keeps I1.bk).push o).extBut hx TB.gP) e1 e2 (old _ _ e4 (I1.bk _ _ e5)) e6 e7 e8 ?_
  refine ⟨s1.heap.objs.size, [s1.heap.objs.size], [s1.heap.objs.size], a.cps.size, SignAt a, St, fun _ => true, _, rfl, W, ?_, ?_, lim.extBut hx cP, ?_, fun href kp => quiet_in he (clo_has S.free hyf hc1) (old c1 oc nP hoc) hcd (Nat.ne_of_lt (Heap.lt_size hoc)) kp, ?_⟩
  · refine (W X.A hr.hd).frame _ _ _ hst fun b hb u e => hx b u (fun q => ?_) e
    have e9 : b = s1.heap.objs.size := List.mem_singleton.mp hb
    exact Nat.ne_of_lt (Heap.lt_size eP) (q.symm.trans e9)
  · intro b hb
    have e9 : b = s1.heap.objs.size := List.mem_singleton.mp hb
    rw [e9]
    show s1.heap.objs.size < h3.objs.size
    omega
  · intro hb
    have e9 : cStatics = s1.heap.objs.size := List.mem_singleton.mp hb
    exact Nat.ne_of_lt cl1 e9
  · intro g h5 tk5 gs hgb hag hsz5 hk5 W5 hat
    simp only [GxR.passing_true, List.length_range] at W5
    have hlt : s1.heap.objs.size < h3.objs.size := by omega
    have out : ∀ b u, s1.heap.get? b = some u → b ∉ h3.objs.size :: [s1.heap.objs.size] := fun b u e hb => by
      have l1 := Heap.lt_size e
      rcases List.mem_cons.mp hb with q | q
      · rw [q] at l1
        exact Nat.lt_irrefl _ (Nat.lt_trans l1 hlt)
      · have e9 : b = s1.heap.objs.size := List.mem_singleton.mp q
        rw [e9] at l1
        exact Nat.lt_irrefl _ l1
    refine hQ a H1 g _ q1 ⟨_, _, _, _, _, W5.in4_1, hat, fun i v si Qi Ei hv hQi => ?_, fun s' mv => ?_⟩
    · obtain ⟨i', hii, cc, hcc, rfl⟩ := hv
      obtain ⟨hj, ej⟩ := List.getElem?_eq_some_iff.mp hii
      rw [List.getElem_range] at ej
      subst ej
      have q : Qi (trF _ a.cps.toList i) si := hQi
      rw [trF_some ((Array.getElem?_toList ..).trans hcc)] at q
      exact wpAny_truthy_bool q
    · exact tab_two I1 hP ht3 mv (fun b u hb e => hk5 b u (old b u hb e)) (hk5 P _ eP3) (AllBare.movedS (I1.bare.push hgb) mv) rfl out
/-- all(x in y for x in e); behind it the table of the def may have grown -/
def tAllIn (P : Addr) (j : Nat) (te : TE) : TE := fun σ H Q => ∃ z : Str, σ[j]? = some (some (.str z)) ∧ te σ H fun v H1 => ∃ a : Str, v = .str a ∧ TabG H1 P ∧ ∀ H2, Tabbed P H1 H2 → Q (.bl (a.cps.toList.all fun c => decide (c ∈ z.cps.toList))) H2
theorem pe_allIn {c P : Addr} {iter : Expr} {x y : Str} {px p p1 p2 p3 pos gpos : Pos} {scope : Scope} {te : TE} {k j : Nat}
    (hr : Room k X.A) (hg : Gl X "all") (hm : X.mg "all" = none) (hb : bootBuiltins "all" = some (.builtin "all")) (TB : TabB X.base X.mg c P) (hcode : X.env.code = .ref c) (S : GenS X.env scope x) (hi : PE X iter te)
    (hN : X.N[j]? = some y) (hcy : X.env.scope.names.lookup y = some .cell) (hyf : (y, NameKind.free) ∈ scope.names) (hy : scope.names.lookup y = some .free)
    (hd : (x == ("__debug__" : Str)) = false := by decide) (hd2 : (y == ("__debug__" : Str)) = false := by decide) (hcd : (y == ("__classdict__" : Str)) = false := by decide)
    (hs : ∀ v, genFold iter X.env v = pure v)
    (he : starEach [.GeneratorExp (.Compare (.Name x p1) [.In] [.Name y p2] p3) [⟨.Name x px, iter, [], 0⟩] scope gpos] X.env = (false, eval (.GeneratorExp (.Compare (.Name x p1) [.In] [.Name y p2] p3) [⟨.Name x px, iter, [], 0⟩] scope gpos) X.env) :: starEach [] X.env := by rfl) :
    PE X (.Call (.Name "all" p) [.GeneratorExp (.Compare (.Name x p1) [.In] [.Name y p2] p3) [⟨.Name x px, iter, [], 0⟩] scope gpos] [] pos) (tAllIn P j te) := by
  refine ⟨fun pins s σ H Q I h => ?_⟩
  obtain ⟨z, hz, h⟩ := h
  refine wpAny_Call_Name_kw (ld_blt I hg hm hb ?_)
  refine PyProof.Rows.callWith_builtin1 ?_ he (by rfl)
  rw [he]
  show wpAny _ _ (spliced ((false, eval (.GeneratorExp (.Compare (.Name x p1) [.In] [.Name y p2] p3) [⟨.Name x px, iter, [], 0⟩] scope gpos) X.env) :: backTo pos (starEach [] X.env))) _ _ s
  refine Calls.spliced_cons (gen_in (R := fun a H1 => ∀ H2, Tabbed P H1 H2 → Q (.bl (a.cps.toList.all fun c => decide (c ∈ z.cps.toList))) H2) hr TB hcode S hi hN hcy hyf (elt_in S.kind S.loc hy hd hd2 hcd) hs I hz h fun a H1 g s5 hR hG => ?_)
  obtain ⟨fp, wr, G, F, St, W, hst, htr, hI⟩ := hG
  refine Calls.spliced_nil ?_
  refine call_all_walkS (W.self 0 _ _ _ hst ⟨g, fp, wr, G, _, F, St, _, rfl, W, hst, htr, fun s' hmv => ?_⟩)
  obtain ⟨H2, hT, J⟩ := hI s' hmv
  refine ⟨.bl _, H2, J, rfl, ?_⟩
  rw [all_signs a _]
  exact hR H2 hT
end
end Cw
set_option Elab.async false
set_option linter.all false
set_option maxRecDepth 100000
set_option maxHeartbeats 2000000
/-! What an expression is worth, over a heap that may grow: texts by their signs -/
namespace Cw
open PySem PySem.Spec PyProof.Rows L2
open GxR (TabG Tabbed TabB)

/-! ### texts by their signs -/
def S (l : List Nat) : Str := ⟨l.toArray⟩
abbrev sv (l : List Nat) : V := .str (S l)
theorem S_len (l : List Nat) : (S l).length = l.length := by
  show l.toArray.size = l.length
  simp
theorem S_list (l : List Nat) : (S l).cps.toList = l := rfl
theorem S_size (l : List Nat) : (S l).cps.size = l.length := by
  show l.toArray.size = l.length
  simp
theorem S_get (l : List Nat) (i : Nat) : (S l).cps[i]? = l[i]? := by
  show l.toArray[i]? = l[i]?
  simp
theorem S_app (a b : List Nat) : S a ++ S b = S (a ++ b) := by
  show (⟨a.toArray ++ b.toArray⟩ : Str) = ⟨(a ++ b).toArray⟩
  simp
theorem S_inj {a b : List Nat} : S a = S b ↔ a = b := by
  constructor
  · intro h
    have e : (S a).cps.toList = (S b).cps.toList := by rw [h]
    exact e
  · intro h
    rw [h]
theorem S_of (x : Str) : x = S x.cps.toList := by
  cases x
  rfl
theorem sv_inj {a b : List Nat} : (sv a = sv b) ↔ a = b := by
  constructor
  · intro h
    injection h with h
    exact S_inj.mp h
  · intro h
    rw [h]
theorem sv_dec (a b : List Nat) : decide (sv a = sv b) = decide (a = b) := by
  by_cases h : a = b
  · rw [decide_eq_true h, decide_eq_true (sv_inj.mpr h)]
  · rw [decide_eq_false h, decide_eq_false fun q => h (sv_inj.mp q)]

/-! ### the heap -/
def Good (Ts : List Addr) (H : Hp) : Prop := ∀ P ∈ Ts, TabG H P
structure Ex (Ts : List Addr) (H H' : Hp) : Prop where
  keep : ∀ a o, a ∉ Ts → H a = some o → H' a = some o
  good : Good Ts H'
section
variable {Ts : List Addr} {H H1 H2 H' : Hp} {p : Addr} {o : HO} {K : PySem.W.Frag}
theorem Ex.refl (g : Good Ts H) : Ex Ts H H := ⟨fun _ _ _ e => e, g⟩
theorem Ex.trans (a : Ex Ts H H1) (b : Ex Ts H1 H2) : Ex Ts H H2 := ⟨fun x u n e => b.keep x u n (a.keep x u n e), b.good⟩
theorem Good.out (g : Good Ts H) (h : ∀ ps, H p ≠ some (.tbl ps)) : p ∉ Ts := fun m => by
  obtain ⟨ps, e, _⟩ := g p m
  exact h ps e
theorem Good.free (g : Good Ts H) (h : H p = none) : p ∉ Ts := g.out fun ps e => by
  rw [h] at e
  cases e
theorem Good.upd (g : Good Ts H) (n : p ∉ Ts) : Good Ts (upd H p o) := fun P m => by
  obtain ⟨ps, e, t⟩ := g P m
  have ne : P ≠ p := fun q => n (by rw [← q]; exact m)
  exact ⟨ps, by rw [upd_ne ne]; exact e, t⟩
theorem Ex.new (g : Good Ts H) (h : H p = none) : Ex Ts H (upd H p o) := by
  refine ⟨fun a u _ e => ?_, g.upd (g.free h)⟩
  rw [upd_ne (ne_of_none e h)]
  exact e
theorem Ex.mut (e : Ex Ts H H') (n : p ∉ Ts) (h : H p = none) : Ex Ts H (upd H' p o) := by
  refine ⟨fun a u m q => ?_, e.good.upd n⟩
  rw [upd_ne (ne_of_none q h)]
  exact e.keep a u m q
theorem Ex.tabbed (g : Good Ts H) (hp : p ∈ Ts) (t : Tabbed p H H') : Ex Ts H H' := by
  refine ⟨fun a u n e => ?_, fun P m => ?_⟩
  · rw [t.2 a fun q => n (by rw [q]; exact hp)]
    exact e
  · by_cases h : P = p
    · rw [h]
      exact t.1
    · obtain ⟨ps, e, q⟩ := g P m
      exact ⟨ps, by rw [t.2 P h]; exact e, q⟩
theorem Ex.back (e : Ex Ts H H') (h : H' p = none) : H p = none := by
  cases q : H p with
  | none => rfl
  | some u =>
    by_cases m : p ∈ Ts
    · obtain ⟨ps, z, _⟩ := e.good p m
      rw [h] at z
      cases z
    · rw [e.keep p u m q] at h
      cases h
theorem Ex.rd (g : Good Ts H) (e : Ex Ts H H') (n : ∀ ps, o ≠ .tbl ps) (h : Rd H p o) : Rd H' p o := by
  rcases h with h | ⟨u, h⟩
  · exact .inl (e.keep p _ (g.out fun ps q => n ps (Option.some.inj (h.symm.trans q))) h)
  · exact .inr ⟨u, e.keep p _ (g.out fun ps q => by rw [h] at q; cases q) h⟩
theorem Ex.l {xs : List V} (g : Good Ts H) (e : Ex Ts H H') (h : SqL K H p xs) : SqL K H' p xs := by
  rcases h with h | h
  · exact .inl (e.rd g (fun ps q => by cases q) h)
  · exact .inr h
theorem Ex.t {xs : List V} (g : Good Ts H) (e : Ex Ts H H') (h : SqT K H p xs) : SqT K H' p xs := by
  rcases h with h | h
  · exact .inl (e.rd g (fun ps q => by cases q) h)
  · exact .inr h
theorem l_of {xs : List V} (h : H p = some (.lst xs)) : SqL K H p xs := .inl (.inl h)
theorem t_of {xs : List V} (h : H p = some (.tup xs)) : SqT K H p xs := .inl (.inl h)
end

/-! ### what evaluates to what -/
def Ev (Ts : List Addr) (te : TE) (σ : L2.St) (H : Hp) (v : V) : Prop := ∀ H1, Ex Ts H H1 → ∀ Q : VK, (∀ H2, Ex Ts H1 H2 → Q v H2) → te σ H1 Q
/-- some new object of which R is told -/
def EvN (Ts : List Addr) (te : TE) (σ : L2.St) (H : Hp) (R : HO) : Prop := ∀ H1, Ex Ts H H1 → ∀ Q : VK, (∀ p H2, H1 p = none → Ex Ts H1 H2 → H2 p = some R → Q (.ref p) H2) → te σ H1 Q
def EvT (Ts : List Addr) (t : TT) (σ : L2.St) (H : Hp) (b : Bool) : Prop := ∀ H1, Ex Ts H H1 → ∀ Q : Bool → Hp → Prop, (∀ H2, Ex Ts H1 H2 → Q b H2) → t σ H1 Q
def EvA (Ts : List Addr) (t : TA) (σ : L2.St) (H : Hp) (vs : List V) : Prop := ∀ H1, Ex Ts H H1 → ∀ Q : List V → Hp → Prop, (∀ H2, Ex Ts H1 H2 → Q vs H2) → t σ H1 Q
def EvO (Ts : List Addr) (t : TO) (σ : L2.St) (H : Hp) (o : Option Int) : Prop := ∀ H1, Ex Ts H H1 → ∀ Q : Option Int → Hp → Prop, (∀ H2, Ex Ts H1 H2 → Q o H2) → t σ H1 Q
def RV (Ts : List Addr) (r : R2) (x y : V) (H : Hp) (z : V) : Prop := ∀ H1, Ex Ts H H1 → ∀ Q : VK, (∀ H2, Ex Ts H1 H2 → Q z H2) → r x y H1 Q
def RU (Ts : List Addr) (r : V → Hp → VK → Prop) (x : V) (H : Hp) (z : V) : Prop := ∀ H1, Ex Ts H H1 → ∀ Q : VK, (∀ H2, Ex Ts H1 H2 → Q z H2) → r x H1 Q
def RC (Ts : List Addr) (r : List V → Hp → VK → Prop) (vs : List V) (H : Hp) (z : V) : Prop := ∀ H1, Ex Ts H H1 → ∀ Q : VK, (∀ H2, Ex Ts H1 H2 → Q z H2) → r vs H1 Q
section
variable {Ts : List Addr} {K : PySem.W.Frag} {w : World} {σ : L2.St} {H H0 H' : Hp} {ta tb te tx : TE} {t u : TT} {x y z v : V} {r : R2}
theorem Ev.go {Q : VK} (h : Ev Ts te σ H0 v) (e : Ex Ts H0 H) (k : ∀ H2, Ex Ts H0 H2 → Q v H2) : te σ H Q := h H e Q fun H2 e2 => k H2 (e.trans e2)
theorem EvT.go {b : Bool} {Q : Bool → Hp → Prop} (h : EvT Ts t σ H0 b) (e : Ex Ts H0 H) (k : ∀ H2, Ex Ts H0 H2 → Q b H2) : t σ H Q := h H e Q fun H2 e2 => k H2 (e.trans e2)
theorem EvN.go {R : HO} {Q : VK} (h : EvN Ts te σ H0 R) (e : Ex Ts H0 H) (k : ∀ p H2, H0 p = none → p ∉ Ts → Ex Ts H0 H2 → H2 p = some R → Q (.ref p) H2) : te σ H Q :=
  h H e Q fun p H2 n e2 q => k p H2 (e.back n) (e.good.free n) (e.trans e2) q
theorem Ev.mono (e : Ex Ts H H') (h : Ev Ts te σ H v) : Ev Ts te σ H' v := fun H1 a Q q => h H1 (e.trans a) Q q
theorem ev_var {i : Nat} (h : σ[i]? = some (some v)) : Ev Ts (tVar i) σ H v := fun H1 e _ q => ⟨v, h, q H1 (Ex.refl e.good)⟩
theorem ev_c : Ev Ts (tC v) σ H v := fun H1 e _ q => q H1 (Ex.refl e.good)
theorem ev_s {a : Str} {l : List Nat} (h : a = S l) : Ev Ts (tC (.str a)) σ H (sv l) := by
  rw [h]
  exact ev_c
theorem ev_op (ha : Ev Ts ta σ H x) (hb : Ev Ts tb σ H y) (hr : RV Ts r x y H z) : Ev Ts (tOp r ta tb) σ H z := fun H1 e Q q =>
  ha H1 e _ fun H2 e2 => hb H2 (e.trans e2) _ fun H3 e3 => hr H3 ((e.trans e2).trans e3) Q fun H4 e4 => q H4 ((e2.trans e3).trans e4)
theorem ev_is {a : V} (h : Ev Ts te σ H v) (e : v = a) : Ev Ts te σ H a := e ▸ h
theorem et_is {a b : Bool} (h : EvT Ts t σ H a) (e : a = b) : EvT Ts t σ H b := e ▸ h
theorem rv_I0 {g : Int → Int → V} {i j : Int} : RV Ts (rI0 g) (.int i) (.int j) H (g i j) := fun H1 e _ q => ⟨i, j, rfl, rfl, q H1 (Ex.refl e.good)⟩
theorem rv_I {C : Int → Int → Prop} {g : Int → Int → V} {i j : Int} (hc : C i j) : RV Ts (rI C g) (.int i) (.int j) H (g i j) := fun H1 e _ q => ⟨i, j, rfl, rfl, hc, q H1 (Ex.refl e.good)⟩
theorem rv_eq (h : scal x y = true) : RV Ts rEq x y H (.bl (decide (x = y))) := fun H1 e _ q => ⟨h, q H1 (Ex.refl e.good)⟩
theorem rv_ne (h : scal x y = true) : RV Ts rNe x y H (.bl (!decide (x = y))) := fun H1 e _ q => ⟨h, q H1 (Ex.refl e.good)⟩
theorem rv_addS {a b : List Nat} (h : a.length + b.length ≤ 100000) : RV Ts (fun x y H Q => ∃ i j : Str, x = .str i ∧ y = .str j ∧ i.length + j.length ≤ sizeLine ∧ Q (.str (i ++ j)) H) (sv a) (sv b) H (sv (a ++ b)) := fun H1 e _ q =>
  ⟨S a, S b, rfl, rfl, by rw [S_len, S_len]; exact Nat.le_trans h (by decide), by rw [S_app]; exact q H1 (Ex.refl e.good)⟩
theorem rv_inS {c : Nat} {a : List Nat} : RV Ts (fun x y H Q => ∃ (c : Nat) (z : Str), x = .str ⟨#[c]⟩ ∧ y = .str z ∧ Q (.bl (decide (c ∈ z.cps.toList))) H) (sv [c]) (sv a) H (.bl (decide (c ∈ a))) := fun H1 e _ q =>
  ⟨c, S a, rfl, rfl, q H1 (Ex.refl e.good)⟩
theorem rv_niS {c : Nat} {a : List Nat} : RV Ts (fun x y H Q => ∃ (c : Nat) (z : Str), x = .str ⟨#[c]⟩ ∧ y = .str z ∧ Q (.bl (!decide (c ∈ z.cps.toList))) H) (sv [c]) (sv a) H (.bl (!decide (c ∈ a))) := fun H1 e _ q =>
  ⟨c, S a, rfl, rfl, q H1 (Ex.refl e.good)⟩
theorem rv_ixS {a : List Nat} {i : Int} {c : Nat} (hl : a.length ≤ 100000) (h : atI a i = some c) : RV Ts rIxS (sv a) (.int i) H (sv [c]) := fun H1 e _ q =>
  ⟨S a, i, c, rfl, rfl, by rw [S_len]; exact Nat.le_trans hl (by decide), h, q H1 (Ex.refl e.good)⟩
theorem rv_ixL {p : Addr} {xs : List V} {i : Int} (g : Good Ts H) (h : SqL K H p xs) (ha : atI xs i = some v) : RV Ts (rIxL K) (.ref p) (.int i) H v := fun H1 e _ q =>
  ⟨p, xs, i, v, rfl, rfl, e.l g h, ha, q H1 (Ex.refl e.good)⟩
theorem rv_kd {p : Addr} {a : List Nat} (h : KDct K w p (S a) v) : RV Ts (rIxD K w) (.ref p) (sv a) H v := fun H1 e _ q => ⟨p, S a, v, rfl, rfl, h, q H1 (Ex.refl e.good)⟩
theorem et_test {b : Bool} (h : Ev Ts te σ H (.bl b)) : EvT Ts (tTest te) σ H b := fun H1 e _ q => h H1 e _ fun H2 e2 => ⟨b, rfl, q H2 e2⟩
theorem et_B {b : Bool} (h : Ev Ts te σ H (.bl b)) : EvT Ts (tB te) σ H b := fun H1 e _ q => h H1 e _ fun H2 e2 => ⟨b, rfl, q H2 e2⟩
theorem et_and {a b : Bool} (h1 : EvT Ts t σ H a) (h2 : a = true → EvT Ts u σ H b) : EvT Ts (tAnd t u) σ H (a && b) := fun H1 e Q q => h1 H1 e _ fun H2 e2 => by
  cases a with
  | true => exact h2 rfl H2 (e.trans e2) Q fun H3 e3 => q H3 (e2.trans e3)
  | false => exact q H2 e2
theorem et_or {a b : Bool} (h1 : EvT Ts t σ H a) (h2 : a = false → EvT Ts u σ H b) : EvT Ts (tOr t u) σ H (a || b) := fun H1 e Q q => h1 H1 e _ fun H2 e2 => by
  cases a with
  | true => exact q H2 e2
  | false => exact h2 rfl H2 (e.trans e2) Q fun H3 e3 => q H3 (e2.trans e3)
theorem et_not {a : Bool} (h1 : EvT Ts t σ H a) : EvT Ts (tNot t) σ H (!a) := fun H1 e _ q => h1 H1 e _ fun H2 e2 => q H2 e2
theorem ev_and {a b : Bool} (h1 : Ev Ts ta σ H (.bl a)) (h2 : a = true → Ev Ts tb σ H (.bl b)) : Ev Ts (tAndV ta tb) σ H (.bl (a && b)) := fun H1 e Q q => h1 H1 e _ fun H2 e2 => ⟨a, rfl, by
  cases a with
  | true => exact h2 rfl H2 (e.trans e2) Q fun H3 e3 => q H3 (e2.trans e3)
  | false => exact q H2 e2⟩
theorem ev_not {a : Bool} (h1 : Ev Ts ta σ H (.bl a)) : Ev Ts (tNotV ta) σ H (.bl (!a)) := fun H1 e _ q => h1 H1 e _ fun H2 e2 => ⟨a, rfl, q H2 e2⟩
theorem ev_if {b : Bool} (h : EvT Ts t σ H b) (h1 : b = true → Ev Ts ta σ H v) (h2 : b = false → Ev Ts tb σ H v) : Ev Ts (tIf t ta tb) σ H v := fun H1 e Q q => h H1 e _ fun H2 e2 => by
  cases b with
  | true => exact h1 rfl H2 (e.trans e2) Q fun H3 e3 => q H3 (e2.trans e3)
  | false => exact h2 rfl H2 (e.trans e2) Q fun H3 e3 => q H3 (e2.trans e3)
theorem ea_nil : EvA Ts tNil σ H [] := fun H1 e _ q => q H1 (Ex.refl e.good)
theorem ea_cons {tr : TA} {vs : List V} (h : Ev Ts ta σ H x) (hr : EvA Ts tr σ H vs) : EvA Ts (tCons ta tr) σ H (x :: vs) := fun H1 e _ q =>
  h H1 e _ fun H2 e2 => hr H2 (e.trans e2) _ fun H3 e3 => q H3 (e2.trans e3)
theorem eo_none : EvO Ts tNoPart σ H none := fun H1 e _ q => q H1 (Ex.refl e.good)
theorem eo_some {i : Int} (h : Ev Ts te σ H (.int i)) : EvO Ts (tPart te) σ H (some i) := fun H1 e _ q => h H1 e _ fun H2 e2 => ⟨i, rfl, q H2 e2⟩
theorem en_tup {tr : TA} {vs : List V} (h : EvA Ts tr σ H vs) (hl : vs.length ≤ 100000) : EvN Ts (tTup tr) σ H (.tup vs) := fun H1 e _ q =>
  h H1 e _ fun H2 e2 => ⟨Nat.le_trans hl (by decide), fun p hp => q p _ (e2.back hp) (e2.trans (Ex.new e2.good hp)) upd_same⟩
theorem en_lst {tr : TA} {vs : List V} (h : EvA Ts tr σ H vs) (hl : vs.length ≤ 100000) : EvN Ts (tLst tr) σ H (.lst vs) := fun H1 e _ q =>
  h H1 e _ fun H2 e2 => ⟨Nat.le_trans hl (by decide), fun p hp => q p _ (e2.back hp) (e2.trans (Ex.new e2.good hp)) upd_same⟩
theorem en_slL {tl th : TO} {a : Addr} {xs : List V} {lo hi : Option Int} (g : Good Ts H) (h : Ev Ts te σ H (.ref a)) (h1 : EvO Ts tl σ H lo) (h2 : EvO Ts th σ H hi) (hs : SqL K H a xs) : EvN Ts (tSl (rSlL K) te tl th) σ H (.lst (cutV xs lo hi)) := fun H1 e _ q =>
  h H1 e _ fun H2 e2 => h1 H2 (e.trans e2) _ fun H3 e3 => h2 H3 ((e.trans e2).trans e3) _ fun H4 e4 =>
    ⟨a, xs, rfl, (((e.trans e2).trans e3).trans e4).l g hs, fun p hp => q p _ (((e2.trans e3).trans e4).back hp) (((e2.trans e3).trans e4).trans (Ex.new e4.good hp)) upd_same⟩
theorem ev_slS {tl th : TO} {a b : List Nat} {lo hi : Option Int} (hl : a.length ≤ 100000) (h : Ev Ts te σ H (sv a)) (h1 : EvO Ts tl σ H lo) (h2 : EvO Ts th σ H hi) (hb : cutS (S a) lo hi = S b) : Ev Ts (tSl rSlS te tl th) σ H (sv b) := fun H1 e _ q =>
  h H1 e _ fun H2 e2 => h1 H2 (e.trans e2) _ fun H3 e3 => h2 H3 ((e.trans e2).trans e3) _ fun H4 e4 =>
    ⟨S a, rfl, by rw [S_len]; exact Nat.le_trans hl (by decide), by rw [hb]; exact q H4 ((e2.trans e3).trans e4)⟩
theorem ev_cb {r : List V → Hp → VK → Prop} {tr : TA} {vs : List V} (h : EvA Ts tr σ H vs) (hr : RC Ts r vs H z) : Ev Ts (tCB r tr) σ H z := fun H1 e Q q =>
  h H1 e _ fun H2 e2 => hr H2 (e.trans e2) Q fun H3 e3 => q H3 (e2.trans e3)
theorem rc_lenS {a : List Nat} (h : a.length ≤ 100000) : RC Ts (fun xs H Q => ∃ z : Str, xs = [.str z] ∧ z.length ≤ sizeLine ∧ Q (.int z.length) H) [sv a] H (.int (a.length : Int)) := fun H1 e _ q =>
  ⟨S a, rfl, by rw [S_len]; exact Nat.le_trans h (by decide), by rw [S_len]; exact q H1 (Ex.refl e.good)⟩
theorem rc_lenL {p : Addr} {xs : List V} (g : Good Ts H) (h : SqL K H p xs) : RC Ts (fun vs H Q => ∃ (p : Addr) (ys : List V), vs = [.ref p] ∧ (SqL K H p ys ∨ SqT K H p ys) ∧ Q (.int (ys.length : Nat)) H) [.ref p] H (.int (xs.length : Int)) := fun H1 e _ q =>
  ⟨p, xs, rfl, .inl (e.l g h), q H1 (Ex.refl e.good)⟩
theorem rc_max {i j : Int} : RC Ts (fun xs H Q => ∃ i j : Int, xs = [.int i, .int j] ∧ Q (.int (if j > i then j else i)) H) [.int i, .int j] H (.int (if j > i then j else i)) := fun H1 e _ q => ⟨i, j, rfl, q H1 (Ex.refl e.good)⟩
theorem rc_abs {i : Int} : RC Ts (fun xs H Q => ∃ i : Int, xs = [.int i] ∧ Q (.int (if i < 0 then -i else i)) H) [.int i] H (.int (if i < 0 then -i else i)) := fun H1 e _ q => ⟨i, rfl, q H1 (Ex.refl e.good)⟩
theorem rc_intI {i : Int} : RC Ts (fun xs H Q => (∃ i, xs = [V.int i] ∧ Q (.int i) H) ∨ ∃ k, xs = [V.bl k] ∧ Q (.int (if k then 1 else 0)) H) [.int i] H (.int i) := fun H1 e _ q => .inl ⟨i, rfl, q H1 (Ex.refl e.good)⟩
theorem rc_intB {k : Bool} : RC Ts (fun xs H Q => (∃ i, xs = [V.int i] ∧ Q (.int i) H) ∨ ∃ k, xs = [V.bl k] ∧ Q (.int (if k then 1 else 0)) H) [.bl k] H (.int (if k then 1 else 0)) := fun H1 e _ q => .inr ⟨k, rfl, q H1 (Ex.refl e.good)⟩
theorem rc_bin {a : List Nat} (h0 : a ≠ []) (h1 : a.length ≤ 640) (h2 : ∀ c ∈ a, IsBin c) : RC Ts rIntBin [sv a, .int 2] H (.int ((binNum a : Nat) : Int)) := fun H1 e _ q =>
  ⟨S a, rfl, h0, by rw [S_len]; exact h1, h2, q H1 (Ex.refl e.good)⟩
theorem ev_allIn {P : Addr} {j : Nat} {a b : List Nat} (hP : P ∈ Ts) (hj : σ[j]? = some (some (sv b))) (h : Ev Ts te σ H (sv a)) : Ev Ts (tAllIn P j te) σ H (.bl (a.all fun c => decide (c ∈ b))) := fun H1 e Q q =>
  ⟨S b, hj, h H1 e _ fun H2 e2 => ⟨S a, rfl, e2.good P hP, fun H3 t => q H3 (e2.trans (Ex.tabbed e2.good hP t))⟩⟩
theorem ev_find {K : PySem.W.Frag} {a b : List Nat} {to : TE} {ts : TE} {n : Int} (ho : Ev Ts to σ H (sv a)) (hs : Ev Ts ts σ H (sv b)) (hn : (Txt.find (S a) (S b) : Int) = n) (ty : ∀ H, tyV K "str" (sv a) H) :
    Ev Ts (tBM K "str" (fun x xs H Q => ∃ a b : Str, x = .str a ∧ xs = [.str b] ∧ Q (.int (Txt.find a b)) H) to (tCons ts tNil)) σ H (.int n) := fun H1 e Q q =>
  ho H1 e _ fun H2 e2 => ⟨ty H2, hs H2 (e.trans e2) _ fun H3 e3 => ⟨S a, S b, rfl, rfl, by rw [hn]; exact q H3 (e2.trans e3)⟩⟩
end

/-! ### promises -/
/-- from x of α: the arguments, what is asked, what is told of the answer -/
def FnS (Ts : List Addr) {α : Type} (enc : α → List V) (dom : α → Hp → Prop) (R : α → V → Hp → Prop) : Sp := fun vs H Q _ => ∃ x, vs = enc x ∧ dom x H ∧ Good Ts H ∧ ∀ v H', Ex Ts H H' → R x v H' → Q v H'
/-- the answer is a value -/
def FnV (Ts : List Addr) {α : Type} (enc : α → List V) (dom : α → Prop) (res : α → V) : Sp := fun vs H Q _ => ∃ x, vs = enc x ∧ dom x ∧ Good Ts H ∧ ∀ H', Ex Ts H H' → Q (res x) H'
/-- the answer is a new object -/
def FnN (Ts : List Addr) {α : Type} (enc : α → List V) (dom : α → Hp → Prop) (R : α → HO) : Sp := fun vs H Q _ => ∃ x, vs = enc x ∧ dom x H ∧ Good Ts H ∧ ∀ p H', H p = none → Ex Ts H H' → H' p = some (R x) → Q (.ref p) H'
section
variable {Ts : List Addr} {σ : L2.St} {H : Hp} {E : XK} {tr : TA} {α : Type} {enc : α → List V} {domV : α → Prop} {dom : α → Hp → Prop} {res : α → V} {R : α → HO}
theorem ev_call (x : α) (h : EvA Ts tr σ H (enc x)) (hd : domV x) : Ev Ts (tCall (FnV Ts enc domV res) [] E tr) σ H (res x) := fun H1 e Q q =>
  h H1 e _ fun H2 e2 => ⟨x, List.append_nil _, hd, e2.good, fun H3 e3 => q H3 (e2.trans e3)⟩
theorem en_call (x : α) (h : EvA Ts tr σ H (enc x)) (hd : ∀ H2, Ex Ts H H2 → dom x H2) : EvN Ts (tCall (FnN Ts enc dom R) [] E tr) σ H (R x) := fun H1 e Q q =>
  h H1 e _ fun H2 e2 => ⟨x, List.append_nil _, hd H2 (e.trans e2), e2.good, fun p H3 n e3 => q p H3 (e2.back n) (e2.trans e3)⟩
end

/-! ### steps of a body -/
section
variable {Ts : List Addr} {σ : L2.St} {H H0 : Hp} {D : Ends} {te : TE} {tc : TT} {t1 t2 : TS} {v : V} {i : Nat}
theorem st_ret (h : Ev Ts te σ H0 v) (e : Ex Ts H0 H) (k : ∀ H2, Ex Ts H0 H2 → D.rt v H2) : tRet te D σ H := h.go e k
theorem st_set (h : Ev Ts te σ H0 v) (e : Ex Ts H0 H) (k : ∀ H2, Ex Ts H0 H2 → D.nx (σ.set i (some v)) H2) : tAsg te (gName i) D σ H := h.go e k
theorem st_if {b : Bool} (h : EvT Ts tc σ H0 b) (e : Ex Ts H0 H) (k1 : ∀ H2, Ex Ts H0 H2 → b = true → t1 D σ H2) (k2 : ∀ H2, Ex Ts H0 H2 → b = false → t2 D σ H2) : tIfS tc t1 t2 D σ H := h.go e fun H2 e2 => by
  cases b with
  | true => exact k1 H2 e2 rfl
  | false => exact k2 H2 e2 rfl
end
end Cw
set_option Elab.async false
set_option linter.all false
set_option maxRecDepth 100000
set_option maxHeartbeats 2000000
/-! texts times numbers, joined; comprehensions and loops over texts, pairs of texts, lists -/
namespace Cw
open PySem PySem.Spec PyProof.Rows L2
open GxR (TabG Tabbed TabB)

/-! ### a sign times a number -/
theorem rep_fold (c : Nat) : ∀ (n : Nat) (acc : Array Nat), (List.replicate n (#[c] : Array Nat)).foldl (· ++ ·) acc = acc ++ (List.replicate n c).toArray
  | 0, acc => by simp
  | n + 1, acc => by
    rw [List.replicate_succ, List.foldl_cons, rep_fold c n, List.replicate_succ]
    apply Array.toList_inj.mp
    simp
def rMulS : R2 := fun x y H Q => ∃ (c : Nat) (n : Int), x = .str ⟨#[c]⟩ ∧ y = .int n ∧ -100000 ≤ n ∧ n ≤ 100000 ∧ Q (sv (List.replicate n.toNat c)) H
theorem op_mulS {X : Cx} : OpR X (binaryOp .Mult) rMulS := by
  intro pins s σ H x y v u Q I rx ry h
  obtain ⟨c, n, rfl, rfl, h0, h1, q⟩ := h
  obtain ⟨t, rfl⟩ := rx
  obtain ⟨t', rfl⟩ := ry
  have hl : ((⟨#[c]⟩ : Str).length) = 1 := rfl
  refine PySem.P.mul_str ?_ ?_ ?_ ?_
  · rw [decide_eq_false (show ¬ n < -(2 ^ 63 : Int) by omega), decide_eq_false (show ¬ n ≥ 2 ^ 63 by omega)]
    rfl
  · intro a _
    rw [hl]
    have q1 : (1 : Int) ≤ (2 ^ 63 - 1) / n := (Int.le_ediv_iff_mul_le (show (0 : Int) < n by omega)).mpr (by omega)
    intro b
    have b' : (1 : Int) > (2 ^ 63 - 1) / n := b
    omega
  · intro a _
    rw [hl]
    unfold Builtin.Str.tooLong
    refine decide_eq_false ?_
    have e : sizeLine = sizeLine := rfl
    have z : (100000 : Nat) ≤ sizeLine := by decide
    omega
  · by_cases a : n < 1
    · rw [if_pos a]
      have e : n.toNat = 0 := by omega
      rw [e] at q
      exact ⟨by decide, .str (S []), H, I.tok _, ⟨_, rfl⟩, q⟩
    · rw [if_neg a]
      by_cases b : (n == 1 || (⟨#[c]⟩ : Str).length == 0) = true
      · rw [if_pos b]
        have e1 : n = 1 := by
          rw [hl] at b
          rcases Bool.or_eq_true_iff.mp b with b | b
          · exact beq_iff_eq.mp b
          · exact absurd b (by decide)
        subst e1
        exact ⟨.str ⟨#[c]⟩, H, I, ⟨_, rfl⟩, q⟩
      · rw [if_neg b, rep_fold]
        have e : (#[] : Array Nat) ++ (List.replicate n.toNat c).toArray = (List.replicate n.toNat c).toArray := Array.empty_append
        refine ⟨?_, .str (S (List.replicate n.toNat c)), H, I.tok _, ⟨_, by rw [e]; rfl⟩, q⟩
        show (((#[] : Array Nat) ++ (List.replicate n.toNat c).toArray).size) ≤ sizeLine
        rw [e, List.size_toArray, List.length_replicate]
        have z : (100000 : Nat) ≤ sizeLine := by decide
        omega
section
variable {Ts : List Addr} {K : PySem.W.Frag} {w : World} {σ : L2.St} {H H0 H' : Hp} {ta tb te ti : TE} {t u : TT} {x y z v : V} {r : R2}
theorem rv_mulS {c : Nat} {n : Int} (h0 : -100000 ≤ n) (h1 : n ≤ 100000) : RV Ts rMulS (sv [c]) (.int n) H (sv (List.replicate n.toNat c)) := fun H1 e _ q => ⟨c, n, rfl, rfl, h0, h1, q H1 (Ex.refl e.good)⟩

/-! ### texts joined -/
theorem join_nil : ∀ ls : List (List Nat), Txt.join (S []) (ls.map S) = S ls.flatten := by
  have aux : ∀ ls : List (List Nat), Str.join (S []) (ls.map S) = S ls.flatten := by
    intro ls
    induction ls with
    | nil => rfl
    | cons a r ih =>
      cases r with
      | nil =>
        show S a = S ([a] : List (List Nat)).flatten
        simp
      | cons b r =>
        show S a ++ S [] ++ Str.join (S []) ((b :: r).map S) = _
        rw [ih, S_app, S_app]
        simp
  intro ls
  show Builtin.Str.glued (S []) (ls.map S) = _
  rw [StrLaws.glued_eq_join]
  exact aux ls
theorem map_sv (ls : List (List Nat)) : (ls.map S).map V.str = ls.map sv := by
  rw [List.map_map]
  rfl
theorem len_sum (ls : List (List Nat)) : ((ls.map S).map (·.length)).sum = ls.flatten.length := by
  rw [List.length_flatten, List.map_map]
  exact congrArg List.sum (List.map_congr_left fun a _ => S_len a)
theorem ev_join {ls : List (List Nat)} {to te : TE} (ho : Ev Ts to σ H (sv [])) (h : EvN Ts te σ H (.lst (ls.map sv))) (hl : ls.flatten.length ≤ 100000) (ty : ∀ H, tyV K "str" (sv []) H) :
    Ev Ts (tBM K "str" (fun x xs H Q => ∃ a p, ∃ ys : List Str, x = .str a ∧ xs = [.ref p] ∧ (SqL K H p (ys.map V.str) ∨ SqT K H p (ys.map V.str)) ∧ (ys.map (·.length)).sum + ys.length * a.length ≤ 16777216 ∧ Q (.str (Txt.join a ys)) H) to (tCons te tNil))
      σ H (sv ls.flatten) := fun H1 e Q q =>
  ho H1 e _ fun H2 e2 => ⟨ty H2, h H2 (e.trans e2) _ fun p H3 n e3 hp => ⟨S [], p, ls.map S, rfl, rfl, .inl (l_of (by rw [map_sv]; exact hp)), by
    rw [len_sum, S_len]
    show ls.flatten.length + (ls.map S).length * 0 ≤ 16777216
    omega, by
    rw [join_nil]
    exact q H3 (e2.trans e3)⟩⟩

/-! ### comprehensions -/
theorem take_snoc {xs : List V} {i : Nat} {z : V} (h : xs[i]? = some z) : xs.take (i + 1) = xs.take i ++ [z] := by
  rw [List.take_add_one, h]
  rfl
theorem en_lc {wi : TI} {g : TG} {vs : List Nat} {J : It} {n : Nat} {G : Hp → Prop} {Y : Nat → Hp → V → Hp → Prop} {zs : List V} (hz : zs.length = n) (hn : n ≤ 100000) (W : Walk J n G Y)
    (hw : ∀ H1, Ex Ts H H1 → ∀ R : It → Hp → Prop, (∀ H2, Ex Ts H1 H2 → R J H2) → wi σ H1 R) (hG : ∀ H1, Ex Ts H H1 → G H1)
    (hs : ∀ i z, zs[i]? = some z → ∀ H1 x H', Ex Ts H H1 → Y i H1 x H' → ∃ σ2, Ex Ts H1 H' ∧ (∀ Q : L2.St → Hp → Prop, Q σ2 H' → g x (wipe σ vs) H' Q) ∧ wipe σ2 vs = wipe σ vs ∧ Ev Ts te σ2 H z) :
    EvN Ts (tLc wi g tYes te vs) σ H (.lst zs) := fun H1 e1 Q q => by
  refine hw H1 e1 _ fun H2 e2 => ?_
  intro D nD
  have n0 : H D = none := (e1.trans e2).back nD
  have nT : D ∉ Ts := e2.good.free nD
  have zl : (100000 : Nat) < sizeLine := by decide
  refine lc_it W (fun i H' => Ex Ts H1 H' ∧ H' D = some (.lst (zs.take i))) ⟨e2.trans (Ex.new e2.good nD), by rw [upd_same]; rfl⟩ (fun i H' _ p => hG H' (e1.trans p.1)) (fun i x H3 H4 hi p y => ?_) (fun H' p => ?_)
  · have hi' : i < zs.length := by omega
    obtain ⟨σ2, e4, hg, hwp, hev⟩ := hs i zs[i] (List.getElem?_eq_getElem hi') H3 x H4 (e1.trans p.1) y
    refine hg _ ⟨hwp, ?_⟩
    dsimp only [tYes]
    rw [if_pos rfl]
    refine hev H4 ((e1.trans p.1).trans e4) _ fun H5 e5 => ⟨zs.take i, (e4.trans e5).keep D _ nT p.2, ?_, ?_⟩
    · rw [List.length_take]
      omega
    · refine ⟨((p.1.trans e4).trans e5).mut nT (e2.back nD), ?_⟩
      rw [upd_same, take_snoc (List.getElem?_eq_getElem hi')]
  · have h2 := p.2
    rw [List.take_of_length_le (Nat.le_of_eq hz)] at h2
    exact q D H' (e2.back nD) p.1 h2
theorem wipe_one (σ : L2.St) (j : Nat) (x : V) : wipe ((wipe σ [j]).set j (some x)) [j] = wipe σ [j] := by
  show ((σ.set j none).set j (some x)).set j none = σ.set j none
  rw [List.set_set, List.set_set]
/-- [e for c in text] -/
theorem en_lcS {j : Nat} {a : List Nat} {f : Nat → V} (hl : a.length ≤ 100000) (hi : Ev Ts ti σ H (sv a)) (he : ∀ c ∈ a, Ev Ts te ((wipe σ [j]).set j (some (sv [c]))) H (f c)) : EvN Ts (tLc (iStr ti) (gName j) tYes te [j]) σ H (.lst (a.map f)) := by
  refine en_lc (n := (S a).cps.size) (by rw [List.length_map, S_size]) (by rw [S_size]; exact hl) (walk_str (z := S a)) (fun H1 e R k => hi H1 e _ fun H2 e2 => ⟨S a, rfl, k H2 e2⟩) (fun _ _ => trivial) (fun i z hz H1 x H' e y => ?_)
  obtain ⟨rfl, c, hc, rfl⟩ := y
  rw [S_get] at hc
  rw [List.getElem?_map, hc] at hz
  obtain rfl := Option.some.inj hz
  exact ⟨_, Ex.refl e.good, fun Q q => q, wipe_one σ j _, he c (List.mem_of_getElem? hc)⟩
theorem wipe_two (σ : L2.St) (j k : Nat) (x y : V) (h : j ≠ k) : wipe (((wipe σ [j, k]).set j (some x)).set k (some y)) [j, k] = wipe σ [j, k] := by
  show (((((σ.set k none).set j none).set j (some x)).set k (some y)).set k none).set j none = (σ.set k none).set j none
  rw [List.set_set, List.set_set, List.set_comm _ _ h, List.set_set, List.set_set]
/-- [e for a, b in zip(one, two)], texts of one length -/
theorem en_lcZ {j k : Nat} {a b : List Nat} {tb : TE} {f : Nat → Nat → V} (hjk : j ≠ k) (hab : a.length = b.length) (hl : a.length ≤ 100000) (ha : Ev Ts ta σ H (sv a)) (hb : Ev Ts tb σ H (sv b))
    (he : ∀ c d, c ∈ a → d ∈ b → Ev Ts te (((wipe σ [j, k]).set j (some (sv [c]))).set k (some (sv [d]))) H (f c d)) :
    EvN Ts (tLc (iZips (tCons ta (tCons tb tNil))) (gTup K 2 (gCons (gName j) (gCons (gName k) gNil))) tYes te [j, k]) σ H (.lst ((a.zip b).map fun p => f p.1 p.2)) := by
  refine en_lc (n := (S a).cps.size) (by rw [List.length_map, List.length_zip, S_size, hab, Nat.min_self]) (by rw [S_size]; exact hl) (walk_zips (x := S a) (y := S b) (by rw [S_size, S_size]; exact hab))
    (fun H1 e R q => ha H1 e _ fun H2 e2 => hb H2 (e.trans e2) _ fun H3 e3 => ⟨S a, S b, rfl, q H3 (e2.trans e3)⟩) (fun _ _ => trivial) (fun i z hz H1 x H' e y => ?_)
  obtain ⟨T, c, d, rfl, nT, rfl, hc, hd⟩ := y
  rw [S_get] at hc hd
  have hp : (a.zip b)[i]? = some (c, d) := List.getElem?_zip_eq_some.mpr ⟨hc, hd⟩
  rw [List.getElem?_map, hp] at hz
  obtain rfl := Option.some.inj hz
  exact ⟨_, Ex.new e.good nT, fun Q q => ⟨T, [sv [c], sv [d]], rfl, t_of upd_same, rfl, _, _, rfl, _, _, rfl, rfl, q⟩, wipe_two σ j k _ _ hjk, he c d (List.mem_of_getElem? hc) (List.mem_of_getElem? hd)⟩
/-- [e for x in list], the list a new one on the way -/
theorem en_lcN {j : Nat} {xs : List V} {f : V → V} (hl : xs.length ≤ 100000) (hi : EvN Ts ti σ H (.lst xs)) (he : ∀ x ∈ xs, Ev Ts te ((wipe σ [j]).set j (some x)) H (f x)) : EvN Ts (tLc (iList K ti) (gName j) tYes te [j]) σ H (.lst (xs.map f)) := fun H1 e1 Q q => by
  -- the list stands beside what was there
  refine hi H1 e1 _ fun a H2 n2 e2 ha => ?_
  have g2 : Good Ts H2 := e2.good
  have key : EvN Ts (fun σ H Q => tLc (fun σ H R => R (Itl K a) H) (gName j) tYes te [j] σ H Q) σ H2 (.lst (xs.map f)) := by
    refine en_lc (n := xs.length) (by rw [List.length_map]) hl (walk_list (K := K) (a := a) (xs := xs)) (fun H3 e R k => k H3 (Ex.refl e.good)) (fun H3 e => e.l g2 (l_of ha)) (fun i z hz H3 x H' e y => ?_)
    obtain ⟨rfl, hx⟩ := y
    rw [List.getElem?_map, hx] at hz
    obtain rfl := Option.some.inj hz
    exact ⟨_, Ex.refl e.good, fun Q q => q, wipe_one σ j _, (he x (List.mem_of_getElem? hx)).mono (e1.trans e2)⟩
  exact ⟨a, rfl, ⟨xs, l_of ha⟩, key H2 (Ex.refl g2) Q fun p H3 n e3 h => q p H3 (e2.back n) (e2.trans e3) h⟩

/-! ### loops -/
/-- for c in text: Pv by the signs taken -/
theorem st_forS {j : Nat} {a : List Nat} {tb : TS} {D : Ends} (hi : Ev Ts ti σ H0 (sv a)) (e0 : Ex Ts H0 H) (Pv : Nat → L2.St → Prop) (h0 : Pv 0 σ)
    (hs : ∀ i c σ H1 (N B : L2.St → Hp → Prop), a[i]? = some c → Pv i σ → Ex Ts H0 H1 → (∀ σ2 H2, Ex Ts H0 H2 → Pv (i + 1) σ2 → N σ2 H2) → tb { D with nx := N, ct := N, bk := D.nx } (σ.set j (some (sv [c]))) H1)
    (hd : ∀ σ H1, Ex Ts H0 H1 → Pv a.length σ → D.nx σ H1) : tFor (iStr ti) (gName j) tb D σ H := by
  refine hi.go e0 fun H2 e2 => ⟨S a, rfl, ?_⟩
  refine for_it (walk_str (z := S a)) (fun i σ H => Ex Ts H0 H ∧ Pv i σ) ⟨e2, h0⟩ (fun _ _ _ _ _ => trivial) (fun i x σ H3 H4 hi p y => ?_) (fun σ H3 p => ?_)
  · obtain ⟨rfl, c, hc, rfl⟩ := y
    rw [S_get] at hc
    exact hs i c σ H4 _ D.nx hc p.2 p.1 fun σ2 H5 e5 p5 => ⟨e5, p5⟩
  · rw [S_size] at p
    exact hd σ H3 p.1 p.2
end
end Cw
set_option Elab.async false
set_option linter.all false
set_option maxRecDepth 100000
set_option maxHeartbeats 2000000
/-! vectors by their signs: what the operators make of them -/
namespace Cw
open PySem PySem.Spec PyProof.Rows L2
def IsB (c : Nat) : Prop := c = 48 ∨ c = 49 ∨ c = 120 ∨ c = 122
def AllB (a : List Nat) : Prop := ∀ c ∈ a, IsB c
structure Vec (a : List Nat) : Prop where
  all : AllB a
  pos : 1 ≤ a.length
  le : a.length ≤ 64
def notB (c : Nat) : Nat := if c = 48 then 49 else if c = 49 then 48 else 120
def andB (a b : Nat) : Nat := if a = 48 ∨ b = 48 then 48 else if a = 49 ∧ b = 49 then 49 else 120
def orB (a b : Nat) : Nat := if a = 49 ∨ b = 49 then 49 else if a = 48 ∧ b = 48 then 48 else 120
def xorB (a b : Nat) : Nat := if (a = 48 ∨ a = 49) ∧ (b = 48 ∨ b = 49) then (if a = b then 48 else 49) else 120
def norm (c : Nat) : Nat := if c = 48 ∨ c = 49 then c else 120
def agB (a b : Nat) : Nat := if a = b ∧ (a = 48 ∨ a = 49) then a else 120
instance (c : Nat) : Decidable (IsB c) := by
  unfold IsB
  infer_instance
theorem isB_not {a : Nat} (ha : IsB a) : IsB (notB a) := by
  rcases ha with rfl | rfl | rfl | rfl <;> decide
theorem isB_and {a b : Nat} (ha : IsB a) (hb : IsB b) : IsB (andB a b) := by
  rcases ha with rfl | rfl | rfl | rfl <;> rcases hb with rfl | rfl | rfl | rfl <;> decide
theorem isB_or {a b : Nat} (ha : IsB a) (hb : IsB b) : IsB (orB a b) := by
  rcases ha with rfl | rfl | rfl | rfl <;> rcases hb with rfl | rfl | rfl | rfl <;> decide
theorem isB_xor {a b : Nat} (ha : IsB a) (hb : IsB b) : IsB (xorB a b) := by
  rcases ha with rfl | rfl | rfl | rfl <;> rcases hb with rfl | rfl | rfl | rfl <;> decide
def wid (a b : List Nat) : Nat := max a.length b.length
def ext (w : Nat) (a : List Nat) : List Nat := List.replicate (w - a.length) 48 ++ a
def exL (a b : List Nat) : List Nat := ext (wid a b) a
def exR (a b : List Nat) : List Nat := ext (wid a b) b
def map2 (f : Nat → Nat → Nat) (a b : List Nat) : List Nat := ((exL a b).zip (exR a b)).map fun p => f p.1 p.2
theorem ext_len {w : Nat} {a : List Nat} (h : a.length ≤ w) : (ext w a).length = w := by
  unfold ext
  rw [List.length_append, List.length_replicate]
  omega
theorem ext_all {w : Nat} {a : List Nat} (h : AllB a) : AllB (ext w a) := by
  intro c hc
  rcases List.mem_append.mp hc with q | q
  · rw [List.eq_of_mem_replicate q]
    exact .inl rfl
  · exact h c q
theorem exL_len (a b : List Nat) : (exL a b).length = wid a b := ext_len (Nat.le_max_left _ _)
theorem exR_len (a b : List Nat) : (exR a b).length = wid a b := ext_len (Nat.le_max_right _ _)
theorem ex_eq (a b : List Nat) : (exL a b).length = (exR a b).length := by rw [exL_len, exR_len]
theorem wid_le {a b : List Nat} (ha : a.length ≤ 64) (hb : b.length ≤ 64) : wid a b ≤ 64 := Nat.max_le.mpr ⟨ha, hb⟩
theorem map2_len (f : Nat → Nat → Nat) (a b : List Nat) : (map2 f a b).length = wid a b := by
  unfold map2
  rw [List.length_map, List.length_zip, exL_len, exR_len, Nat.min_self]
theorem map2_vec {f : Nat → Nat → Nat} (hf : ∀ a b, IsB a → IsB b → IsB (f a b)) {a b : List Nat} (ha : Vec a) (hb : Vec b) : Vec (map2 f a b) := by
  refine ⟨fun c hc => ?_, ?_, ?_⟩
  · obtain ⟨p, hp, rfl⟩ := List.mem_map.mp hc
    obtain ⟨x, y⟩ := p
    have q := List.of_mem_zip hp
    exact hf x y (ext_all ha.all x q.1) (ext_all hb.all y q.2)
  · rw [map2_len]
    exact Nat.le_trans ha.pos (Nat.le_max_left _ _)
  · rw [map2_len]
    exact wid_le ha.le hb.le
theorem vec_one {c : Nat} (h : IsB c) : Vec [c] := ⟨fun x hx => by rw [List.mem_singleton.mp hx]; exact h, Nat.le_refl _, by show 1 ≤ 64; decide⟩
/-- a fold by one of the tables -/
theorem fold_isB {f : Nat → Nat → Nat} (hf : ∀ a b, IsB a → IsB b → IsB (f a b)) : ∀ {a : List Nat} {e : Nat}, IsB e → AllB a → IsB (a.foldl f e)
  | [], _, he, _ => he
  | c :: r, e, he, ha => by
    show IsB (r.foldl f (f e c))
    exact fold_isB hf (hf e c he (ha c (List.mem_cons_self ..))) fun x hx => ha x (List.mem_cons_of_mem _ hx)
theorem fold_snoc {f : Nat → Nat → Nat} {a : List Nat} {i c : Nat} {e : Nat} (h : a[i]? = some c) : (a.take (i + 1)).foldl f e = f ((a.take i).foldl f e) c := by
  rw [List.take_add_one, h, List.foldl_append]
  rfl
theorem take_isB {f : Nat → Nat → Nat} (hf : ∀ a b, IsB a → IsB b → IsB (f a b)) {a : List Nat} {e : Nat} (he : IsB e) (ha : AllB a) (i : Nat) : IsB ((a.take i).foldl f e) :=
  fold_isB hf he fun x hx => ha x (List.mem_of_mem_take hx)
theorem flat_one {α : Type} (f : α → Nat) (l : List α) : (l.map fun x => [f x]).flatten = l.map f := by
  induction l with
  | nil => rfl
  | cons a r ih =>
    show [f a] ++ (r.map fun x => [f x]).flatten = _
    rw [ih]
    rfl
/-! ### promises of defs of the text -/
/-- a def of the module, its promise kept -/
structure Callee (P : Program) (w : World) (K : PySem.W.Frag) (mg : Str → Option Value) (base : Heap) (x : Str) (k : Nat) (ps : List Str) (sp : Sp) : Prop where
  out : ∃ (f : Addr) (fd : FuncData), FnOk P w K mg base CX0 k f fd ps sp ∧ mg x = some (.ref f) ∧ PySem.W.keepIn K (.ref f) = true ∧ Binds K fd ps []
theorem pe_fn {X : Cx} {x : Str} {k : Nat} {ps : List Str} {sp : Sp} {p pos : Pos} {e : Expr} {es : List Expr} {t : TA} (C : Callee X.prog X.w X.K X.mg X.base x k ps sp) (hr : Room k X.A) (hg : Gl X x) (ha : PA X (e :: es) t)
    (hdb : (x == ("__debug__" : Str)) = false := by decide) (he : starEach (e :: es) X.env = (false, eval e X.env) :: starEach es X.env := by rfl) (hpl : (backTo pos (starEach es X.env)).any (·.1) = false := by rfl) :
    PE X (.Call (.Name x p) (e :: es) [] pos) (tCall sp [] E0 t) := by
  obtain ⟨f, fd, F, hm, hk, hb⟩ := C.out
  exact pe_call F hr hg hm hk hb .nil pass0 ha hdb he hpl
theorem st_retN {Ts : List Addr} {σ : L2.St} {H H0 : Hp} {D : Ends} {te : TE} {R : HO} (h : EvN Ts te σ H0 R) (e : Ex Ts H0 H) (k : ∀ p H2, H0 p = none → p ∉ Ts → Ex Ts H0 H2 → H2 p = some R → D.rt (.ref p) H2) : tRet te D σ H := h.go e k
/-- a, b = e: e a new pair -/
theorem st_pair {Ts : List Addr} {K : PySem.W.Frag} {σ : L2.St} {H H0 : Hp} {D : Ends} {te : TE} {x y : V} {i j : Nat} (h : EvN Ts te σ H0 (.tup [x, y])) (e : Ex Ts H0 H) (k : ∀ H2, Ex Ts H0 H2 → D.nx ((σ.set i (some x)).set j (some y)) H2) :
    tAsg te (gTup K 2 (gCons (gName i) (gCons (gName j) gNil))) D σ H := h.go e fun p H2 _ _ e2 hp => ⟨p, [x, y], rfl, t_of hp, rfl, _, _, rfl, _, _, rfl, rfl, k H2 e2⟩
theorem ev_strs {Ts : List Addr} {K : PySem.W.Frag} {σ : L2.St} {H : Hp} {te : TE} {α : Type} (f : α → Nat) (l : List α) (h : EvN Ts te σ H (.lst (l.map fun x => sv [f x]))) : EvN Ts te σ H (.lst ((l.map fun x => [f x]).map sv)) := by
  rw [List.map_map]
  exact h
end Cw
set_option Elab.async false
set_option linter.all false
set_option maxRecDepth 100000
set_option maxHeartbeats 2000000
/-! lists that grow; loops over them; promises that ask of the heap -/
namespace Cw
open PySem PySem.Spec PyProof.Rows L2
/-- the answer is a value; the heap is asked of -/
def FnL (Ts : List Addr) {α : Type} (enc : α → List V) (dom : α → Hp → Prop) (res : α → V) : Sp := fun vs H Q _ => ∃ x, vs = enc x ∧ dom x H ∧ Good Ts H ∧ ∀ H', Ex Ts H H' → Q (res x) H'
section
variable {Ts : List Addr} {K : PySem.W.Frag} {w : World} {σ : L2.St} {H H0 H' : Hp} {ta tb te ti : TE} {tr : TA} {x y z v : V} {D : Ends} {E : XK} {α : Type} {enc : α → List V} {dom : α → Hp → Prop} {res : α → V} {R : α → V → Hp → Prop}
theorem ev_callL (x : α) (h : EvA Ts tr σ H (enc x)) (hd : ∀ H2, Ex Ts H H2 → dom x H2) : Ev Ts (tCall (FnL Ts enc dom res) [] E tr) σ H (res x) := fun H1 e Q q =>
  h H1 e _ fun H2 e2 => ⟨x, List.append_nil _, hd H2 (e.trans e2), e2.good, fun H3 e3 => q H3 (e2.trans e3)⟩
/-- some value, of which R is told -/
def EvS (Ts : List Addr) (te : TE) (σ : L2.St) (H : Hp) (R : V → Hp → Prop) : Prop := ∀ H1, Ex Ts H H1 → ∀ Q : VK, (∀ v H2, Ex Ts H1 H2 → R v H2 → Q v H2) → te σ H1 Q
theorem es_call (x : α) (h : EvA Ts tr σ H (enc x)) (hd : ∀ H2, Ex Ts H H2 → dom x H2) : EvS Ts (tCall (FnS Ts enc dom R) [] E tr) σ H (R x) := fun H1 e Q q =>
  h H1 e _ fun H2 e2 => ⟨x, List.append_nil _, hd H2 (e.trans e2), e2.good, fun v H3 e3 r => q v H3 (e2.trans e3) r⟩
theorem st_app {i : Nat} {l : Addr} {xs : List V} (hl : σ[i]? = some (some (.ref l))) (h : H l = some (.lst xs)) (nl : l ∉ Ts) (hy : Ev Ts te σ H0 y) (e : Ex Ts H0 H) (hz : xs.length < 100000)
    (k : ∀ H2, Ex Ts H H2 → H2 l = some (.lst xs) → D.nx σ (upd H2 l (.lst (xs ++ [y])))) : tDrop (tBM K "list" rAppend (tVar i) (tCons te tNil)) D σ H :=
  ⟨_, hl, .inl ⟨rfl, _, l_of h⟩, hy H e _ fun H2 e2 => ⟨l, xs, y, rfl, rfl, e2.keep l _ nl h, Nat.lt_trans hz (by decide), k H2 e2 (e2.keep l _ nl h)⟩⟩
theorem st_setN {R : HO} {i : Nat} (h : EvN Ts te σ H R) (g : Good Ts H) (k : ∀ p H2, H p = none → Ex Ts H H2 → H2 p = some R → D.nx (σ.set i (some (.ref p))) H2) : tAsg te (gName i) D σ H := h H (Ex.refl g) _ k
theorem st_setS {R : V → Hp → Prop} {i : Nat} (h : EvS Ts te σ H0 R) (e : Ex Ts H0 H) (k : ∀ v H2, Ex Ts H0 H2 → R v H2 → D.nx (σ.set i (some v)) H2) : tAsg te (gName i) D σ H := h H e _ fun v H2 e2 r => k v H2 (e.trans e2) r
/-- for x in a new list -/
theorem st_forN {j : Nat} {xs : List V} {tb : TS} (h : EvN Ts ti σ H0 (.lst xs)) (e : Ex Ts H0 H) (Pv : Addr → Nat → L2.St → Hp → Prop) (h0 : ∀ a H2, H a = none → Ex Ts H H2 → H2 a = some (.lst xs) → Pv a 0 σ H2)
    (hL : ∀ a i σ H, Pv a i σ H → H a = some (.lst xs))
    (hs : ∀ a i x σ H (N : L2.St → Hp → Prop), xs[i]? = some x → Pv a i σ H → (∀ σ2 H2, Pv a (i + 1) σ2 H2 → N σ2 H2) → tb { D with nx := N, ct := N, bk := D.nx } (σ.set j (some x)) H)
    (hd : ∀ a σ H, Pv a xs.length σ H → D.nx σ H) : tFor (iList K ti) (gName j) tb D σ H := by
  refine h H e _ fun a H2 n e2 ha => ⟨a, rfl, ⟨xs, l_of ha⟩, ?_⟩
  refine for_it (walk_list (K := K) (a := a) (xs := xs)) (Pv a) (h0 a H2 n e2 ha) (fun i σ H _ p => l_of (hL a i σ H p)) (fun i x σ H3 H4 _ p y => ?_) (hd a)
  obtain ⟨rfl, hx⟩ := y
  exact hs a i x σ H4 _ hx p fun σ2 H5 p5 => p5
/-- for k in range(n) -/
theorem st_forR {j n : Nat} {tb : TS} (h : Ev Ts te σ H0 (.int (n : Nat))) (hn : n ≤ 1000000) (e : Ex Ts H0 H) (Pv : Nat → L2.St → Hp → Prop) (h0 : ∀ H2, Ex Ts H H2 → Pv 0 σ H2)
    (hs : ∀ i σ H (N : L2.St → Hp → Prop), i < n → Pv i σ H → (∀ σ2 H2, Pv (i + 1) σ2 H2 → N σ2 H2) → tb { D with nx := N, ct := N, bk := D.nx } (σ.set j (some (.int (i : Nat)))) H)
    (hd : ∀ σ H, Pv n σ H → D.nx σ H) : tFor (iRng1 (tCons te tNil)) (gName j) tb D σ H := by
  refine h H e _ fun H2 e2 => ⟨(n : Int), rfl, by omega, by omega, ?_⟩
  refine for_it (walk_range (lo := 0) (n := ((n : Int)).toNat)) Pv (h0 H2 e2) (fun _ _ _ _ _ => trivial) (fun i x σ H3 H4 hi p y => ?_) (fun σ H p => ?_)
  · obtain ⟨rfl, rfl⟩ := y
    dsimp only
    rw [Int.zero_add]
    exact hs i σ H4 _ (by omega) p fun σ2 H5 p5 => p5
  · have e0 : ((n : Int)).toNat = n := by omega
    rw [e0] at p
    exact hd σ H p
theorem cut_int {ns : List Int} {lo hi : Option Int} {x : V} (h : x ∈ cutV (ns.map V.int) lo hi) : ∃ n, x = V.int n := by
  unfold cutV at h
  have h2 := List.mem_of_mem_drop (List.mem_of_mem_take h)
  obtain ⟨n, _, e⟩ := List.mem_map.mp h2
  exact ⟨n, e.symm⟩
theorem cut_to {xs : List V} {m : Nat} (h : m ≤ xs.length) : cutV xs none (some (m : Int)) = xs.take m := by
  unfold cutV
  rw [HT.sIx_none, HT.sIx_nat, Nat.min_eq_left h, Nat.sub_zero, List.drop_zero]
theorem cut_63 (xs : List V) : (cutV xs none (some 63)).length ≤ 63 := by
  unfold cutV
  rw [HT.sIx_none, show (some (63 : Int)) = some ((63 : Nat) : Int) from rfl, HT.sIx_nat, List.length_take]
  omega
end
/-- numbers from 0 to b - 1 -/
def Below (b : Nat) (ms : List Int) : Prop := ∀ z ∈ ms, 0 ≤ z ∧ z < (b : Int)
theorem below_snoc {b : Nat} {ms : List Int} {z : Int} (h : Below b ms) (h0 : 0 ≤ z) (h1 : z < (b : Int)) : Below b (ms ++ [z]) := by
  intro x hx
  rcases List.mem_append.mp hx with q | q
  · exact h x q
  · rw [List.mem_singleton.mp q]
    exact ⟨h0, h1⟩
theorem map_snoc (ms : List Int) (z : Int) : ms.map V.int ++ [V.int z] = (ms ++ [z]).map V.int := by simp
end Cw
set_option Elab.async false
set_option linter.all false
set_option maxRecDepth 100000
set_option maxHeartbeats 2000000
/-! f'{n:b}' -/
namespace Cw
open PySem PySem.Spec PyProof.Rows L2
open Builtin Builtin.Str Builtin.Int Builtin.Float
def binDigits (n : Nat) : List Nat := (Nat.toDigits 2 n).map Char.toNat
theorem spec_b : ∃ f : FormatSpec, parseFormatSpec [98] "int" 62 = .ok f ∧ f.type = some 98 ∧ f.precision = none ∧ f.noNeg0 = false ∧ f.alt = false ∧ f.width = none ∧ f.grouping = none ∧ f.sign = none := ⟨_, rfl, rfl, rfl, rfl, rfl, rfl, rfl, rfl⟩
theorem binDigits_ne (n : Nat) : (binDigits n).isEmpty = false := by
  unfold binDigits
  have h := tDigits_len_ge 2 n
  cases e : Nat.toDigits 2 n with
  | nil =>
    rw [e] at h
    exact absurd h (by decide)
  | cons c r => rfl
theorem field_b {f : FormatSpec} {ds : List Nat} (hd : ds.isEmpty = false) (hw : f.width = none) (hgr : f.grouping = none) (hsg : f.sign = none) : intField' f false [] ds [] 4 = S ds := by
  have hroom : (if (f.fill == 48 && f.align == 61) = true then (-1 : Int) - ((([] : List Nat).length : Int) + (([] : List Nat).length : Int) + (([] : List Nat).length : Int)) else 0).toNat = 0 := by
    split <;> rfl
  unfold intField'
  simp only [hw, hgr, hsg, hd, Bool.false_eq_true, if_false]
  rw [hroom, Nat.zero_sub]
  have hpad : ((-1 : Int) - ((([] : List Nat).length : Int) + (([] : List Nat).length : Int) + (([] : List Nat).length : Int)) - ((List.replicate 0 48 ++ ds).length : Int)).toNat = 0 := by
    show ((-1 : Int) - (0 + 0 + 0) - ((ds.length : Nat) : Int)).toNat = 0
    omega
  rw [hpad]
  show (⟨_⟩ : Str) = ⟨ds.toArray⟩
  congr 2
  split
  · simp
  · split
    · simp
    · split <;> simp
set_option maxRecDepth 100000 in
theorem formatField_b {prog : Program} {w : World} {A : Around} {E : Value → Shared → Prop} {s : Shared} {n : Nat} {t : Tok} {Q : Value → Shared → Prop} (hl : (binDigits n).length ≤ 1000) (h : Q (.str (S (binDigits n)) (s.toks + 1)) { s with toks := s.toks + 1 + 1 }) :
    wpAny (model prog w) A (formatField (.int (n : Int) t) (S [98])) Q E s := by
  obtain ⟨f, hp, hty, hpr, hz, hal, hw, hgr, hsg⟩ := spec_b
  show wpAny _ _ (holding [.int (n : Int) t] (pyFormat (.int (n : Int) t) (S [98]))) Q E s
  refine wpAny_holding ?_
  unfold pyFormat
  refine wpAny_bind (wpAny_mkStr ?_ (by decide))
  refine wpAny_bind (m := callSpecial? (.int (n : Int) t) (Str.ofString "__format__") [.str (S [98]) s.toks]) (wpAny_callSpecial?_slot (name := Str.ofString "__format__") (typeIs_int _ (n : Int) t) PyProof.Rows.slot_int_format ?_)
  refine wpAny_call (codeAny_call_builtin PyProof.Rows.slot_int_format.plain PyProof.Rows.entry_int_format (PyProof.Rows.slot_int_format.check _ _ _ _ _ _ _ _ (typeIs_int _ (n : Int) t) (PyProof.Rows.args_int_format _ _) ?_))
  unfold Builtin.«int.__format__»
  simp only [selfAndOne, noKeywords, Int.intOfSelf, asInt?, asStr?, List.isEmpty_nil, if_true, pure_bind, bind_pure, bind_assoc, show ((S [98]).length == 0) = false from rfl, Bool.false_eq_true, if_false,
    show (((S [98]).cps.toList.drop 1).any (· ≥ 128) || ((S [98]).cps.getD 0 0 ≥ 128 && !([60, 62, 61, 94] : List Nat).contains ((S [98]).cps.getD 1 0))) = false from rfl,
    show (Value.str (S [98]) s.toks == Value.none) = false from rfl]
  refine wpAny_bind (wpAny_typeNameOf (T := "str") (typeIs_str _ _ _) (by decide) fun _ => ?_)
  refine wpAny_bind (wpAny_typeNameOfCut_int ?_)
  simp only [show (S [98]).cps.toList = [98] from rfl, hp, hty]
  rw [if_pos (by decide)]
  show wpAny _ _ (if _ then _ else _) _ _ _
  rw [if_neg (by simp [hpr])]
  show wpAny _ _ (if _ then _ else _) _ _ _
  rw [if_neg (by simp [hz])]
  show wpAny _ _ (if _ then _ else _) _ _ _
  rw [if_neg (by decide)]
  show wpAny _ _ (if _ then _ else _) _ _ _
  rw [if_neg (by decide)]
  show wpAny _ _ (if _ then _ else _) _ _ _
  rw [if_neg (by simp [hw])]
  show wpAny _ _ (retStr _) _ _ _
  unfold retStr
  simp only [hal, Bool.false_eq_true, if_false, show decide ((n : Int) < 0) = false from decide_eq_false (by omega), Int.natAbs_natCast, Option.getD_some, show ((98 : Nat) == 88) = false from rfl, show ((2 : Nat) == 10) = false from rfl]
  have hs : (S (binDigits n)).length ≤ sizeLine := by
    rw [S_len]
    exact Nat.le_trans hl (by decide)
  rw [show ∀ (z : Str), z = S (binDigits n) → (mkStr z) = mkStr (S (binDigits n)) from fun z e => by rw [e]]
  · refine wpAny_bind (wpAny_mkStr (wpAny_pure ?_) hs)
    exact wpAny_bind (wpAny_isInstance (typeIs_str _ _ _) isSubtype_str_str (wpAny_pure h))
  · refine Eq.trans ?_ (field_b (f := f) (binDigits_ne n) hw hgr hsg)
    clear h hp hty hpr hz hal hw hsg
    cases f
    dsimp only at hgr
    subst hgr
    rfl
end Cw
set_option Elab.async false
set_option linter.all false
set_option maxRecDepth 100000
set_option maxHeartbeats 2000000
/-! the vector of a number -/
namespace Cw
open PySem PySem.Spec PyProof.Rows L2
/-- the bits of n, w of them, the most significant one first -/
def bitsOf (w n : Nat) : List Nat := ((List.range w).map fun k => 48 + n / 2 ^ k % 2).reverse
theorem bits_len (w n : Nat) : (bitsOf w n).length = w := by
  unfold bitsOf
  rw [List.length_reverse, List.length_map, List.length_range]
theorem bits_succ (w n : Nat) : bitsOf (w + 1) n = bitsOf w (n / 2) ++ [48 + n % 2] := by
  unfold bitsOf
  rw [List.range_succ_eq_map, List.map_cons, List.reverse_cons, List.map_map]
  congr 1
  · congr 1
    refine List.map_congr_left fun k _ => ?_
    show 48 + n / 2 ^ (k + 1) % 2 = 48 + n / 2 / 2 ^ k % 2
    rw [Nat.div_div_eq_div_mul, Nat.pow_succ, Nat.mul_comm]
  · rw [Nat.pow_zero, Nat.div_one]
theorem bits_bin (w : Nat) : ∀ n, ∀ c ∈ bitsOf w n, IsBin c := by
  intro n c hc
  unfold bitsOf at hc
  obtain ⟨k, _, rfl⟩ := List.mem_map.mp (List.mem_reverse.mp hc)
  unfold IsBin
  omega
theorem bits_num : ∀ (w n : Nat), n < 2 ^ w → binNum (bitsOf w n) = n
  | 0, n, h => by
    have e : n = 0 := by
      rw [Nat.pow_zero] at h
      omega
    rw [e]
    rfl
  | w + 1, n, h => by
    have h2 : n / 2 < 2 ^ w := by
      rw [Nat.pow_succ] at h
      omega
    rw [bits_succ]
    unfold binNum
    rw [List.foldl_append]
    show binNum (bitsOf w (n / 2)) * 2 + bv (48 + n % 2) = n
    rw [bits_num w (n / 2) h2]
    unfold bv
    omega
theorem bits_vec {w n : Nat} (h0 : 1 ≤ w) (h1 : w ≤ 64) : Vec (bitsOf w n) := by
  refine ⟨fun c hc => ?_, ?_, ?_⟩
  · rcases bits_bin w n c hc with h | h
    · exact .inl h
    · exact .inr (.inl h)
  · rw [bits_len]
    exact h0
  · rw [bits_len]
    exact h1
def pad (w : Nat) (l : List Nat) : List Nat := List.replicate (w - l.length) 48 ++ l
theorem pad_snoc (w : Nat) (l : List Nat) (x : Nat) : pad (w + 1) (l ++ [x]) = pad w l ++ [x] := by
  unfold pad
  rw [List.length_append, List.length_singleton, Nat.add_sub_add_right, List.append_assoc]
theorem dig_lt {n : Nat} (h : n < 2) : binDigits n = [48 + n] := by
  unfold binDigits
  rw [Nat.toDigits_of_lt_base h]
  have e : n = 0 ∨ n = 1 := by omega
  rcases e with rfl | rfl <;> rfl
theorem dig_ge {n : Nat} (h : 2 ≤ n) : binDigits n = binDigits (n / 2) ++ [48 + n % 2] := by
  unfold binDigits
  rw [Nat.toDigits_of_base_le (by decide) h, List.map_append]
  congr 1
  have e : n % 2 = 0 ∨ n % 2 = 1 := by omega
  rcases e with e | e <;> rw [e] <;> rfl
theorem rep_snoc (w : Nat) : List.replicate (w + 1) (48 : Nat) = List.replicate w 48 ++ [48] := List.replicate_succ'
theorem pad_bits : ∀ (w n : Nat), n < 2 ^ (w + 1) → pad (w + 1) (binDigits n) = bitsOf (w + 1) n
  | 0, n, h => by
    have h2 : n < 2 := h
    rw [dig_lt h2, bits_succ, Nat.mod_eq_of_lt h2]
    rfl
  | w + 1, n, h => by
    have h2 : n / 2 < 2 ^ (w + 1) := by
      rw [Nat.pow_succ] at h
      omega
    have ih := pad_bits w (n / 2) h2
    rw [bits_succ, ← ih]
    by_cases hn : 2 ≤ n
    · rw [dig_ge hn, pad_snoc]
    · have hn2 : n < 2 := by omega
      have e0 : n / 2 = 0 := by omega
      rw [dig_lt hn2, e0, dig_lt (show 0 < 2 by decide), Nat.mod_eq_of_lt hn2]
      unfold pad
      show List.replicate (w + 1) 48 ++ [48 + n] = (List.replicate w 48 ++ [48]) ++ [48 + n]
      rw [rep_snoc]
theorem dig_bin (n : Nat) : ∀ c ∈ binDigits n, IsBin c := by
  induction n using Nat.strongRecOn with
  | _ n ih =>
    intro c hc
    by_cases h : 2 ≤ n
    · rw [dig_ge h] at hc
      rcases List.mem_append.mp hc with q | q
      · exact ih (n / 2) (by omega) c q
      · rw [List.mem_singleton.mp q]
        unfold IsBin
        omega
    · rw [dig_lt (by omega)] at hc
      rw [List.mem_singleton.mp hc]
      unfold IsBin
      omega
theorem dig_len : ∀ (w n : Nat), n < 2 ^ (w + 1) → (binDigits n).length ≤ w + 1
  | 0, n, h => by
    rw [dig_lt (show n < 2 from h)]
    exact Nat.le_refl _
  | w + 1, n, h => by
    by_cases hn : 2 ≤ n
    · have ih := dig_len w (n / 2) (by rw [Nat.pow_succ] at h; omega)
      rw [dig_ge hn, List.length_append, List.length_singleton]
      omega
    · rw [dig_lt (by omega)]
      show 1 ≤ _
      omega
theorem zfill_bin {ds : List Nat} {w : Nat} (hd : ∀ c ∈ ds, IsBin c) : Txt.zfill (S ds) (w : Int) = S (pad w ds) := by
  unfold Txt.zfill pad
  rw [S_len]
  by_cases h : (w : Int) ≤ (ds.length : Int)
  · rw [if_pos h]
    have e : w - ds.length = 0 := by omega
    rw [e]
    rfl
  · rw [if_neg h]
    have e : (w : Int).toNat - ds.length = w - ds.length := by omega
    rw [e]
    have z : PySem.zfilled (S ds) (w - ds.length) = Builtin.Str.padded (S ds) (w - ds.length) 0 48 := by
      unfold PySem.zfilled
      rw [S_get]
      cases ds with
      | nil => rfl
      | cons c r =>
        have hc := hd c (List.mem_cons_self ..)
        rcases hc with rfl | rfl <;> rfl
    rw [z]
    unfold Builtin.Str.padded
    show (⟨_⟩ : Str) = ⟨_⟩
    congr 1
    apply Array.toList_inj.mp
    simp [S]
/-- f'{n & (1 << w) - 1:b}'.zfill(w) -/
def tFmtB (te : TE) : TE := fun σ H Q => te σ H fun x H1 => ∃ n : Nat, x = .int (n : Int) ∧ (binDigits n).length ≤ 1000 ∧ Q (sv (binDigits n)) H1
theorem pe_fmtB {X : Cx} {e : Expr} {te : TE} {j : Nat} {p1 p2 p3 p4 : Pos} (he : PE X e te) : PE X (.JoinedStr [.FormattedValue e (-1) (some (.JoinedStr [.Constant (.str "b") j p1] p2)) p3] p4) (tFmtB te) := by
  refine pe_joined1 ⟨fun pins s σ H Q I h => ?_⟩
  refine wpAny_FormattedValue_spec (thn (he.run pins s σ H _ I h) fun v s1 ⟨x, H1, I1, r1, n, ex, hl, q⟩ => ?_)
  subst ex
  obtain ⟨t, rfl⟩ := r1
  refine thn ((pe_joined1 (X := X) (pos := p2) (pe_str (x := "b") (j := j) (pos := p1))).run pins s1 σ H1 (fun v H' => v = .str "b" ∧ H' = H1) I1 ⟨rfl, rfl⟩) fun v2 s2 ⟨y, H2, I2, r2, ey, eH⟩ => ?_
  subst ey eH
  obtain ⟨t2, rfl⟩ := r2
  exact ⟨_, t2, rfl, formatField_b hl ⟨sv (binDigits n), H2, I2.tok _, ⟨_, rfl⟩, q⟩⟩
section
variable {Ts : List Addr} {K : PySem.W.Frag} {w : World} {σ : L2.St} {H H0 H' : Hp} {ta tb te ti : TE}
theorem ev_fmtB {n : Nat} (h : Ev Ts te σ H (.int (n : Int))) (hl : (binDigits n).length ≤ 1000) : Ev Ts (tFmtB te) σ H (sv (binDigits n)) := fun H1 e Q q => h H1 e _ fun H2 e2 => ⟨n, rfl, hl, q H2 e2⟩
theorem ev_zfill {ds : List Nat} {n : Nat} (ho : Ev Ts ta σ H (sv ds)) (hn : Ev Ts tb σ H (.int (n : Nat))) (hd : ∀ c ∈ ds, IsBin c) (hp : n ≤ 1000) :
    Ev Ts (tBM K "str" (fun x xs H Q => ∃ (a : Str) (i : Int), x = .str a ∧ xs = [.int i] ∧ PadOk i = true ∧ Q (.str (Txt.zfill a i)) H) ta (tCons tb tNil)) σ H (sv (pad n ds)) := fun H1 e Q q =>
  ho H1 e _ fun H2 e2 => ⟨rfl, hn H2 (e.trans e2) _ fun H3 e3 => ⟨S ds, (n : Int), rfl, rfl, by
    unfold PadOk fitsSsize
    have z : (1000 : Nat) ≤ sizeLine := by decide
    rw [Bool.and_eq_true, Bool.not_eq_true', Bool.not_eq_true', Bool.or_eq_false_iff]
    exact ⟨⟨decide_eq_false (by omega), decide_eq_false (by omega)⟩, decide_eq_false (by omega)⟩, by
    rw [zfill_bin hd]
    exact q H3 (e2.trans e3)⟩⟩
theorem rv_andM {i : Int} {k : Nat} : RV Ts (fun x y H Q => ∃ (i : Int) (k : Nat), x = .int i ∧ y = .int (2 ^ k - 1) ∧ Q (.int (i % 2 ^ k)) H) (.int i) (.int (2 ^ k - 1)) H (.int (i % 2 ^ k)) := fun H1 e _ q => ⟨i, k, rfl, rfl, q H1 (Ex.refl e.good)⟩
theorem rv_oneShl {k : Nat} (h : k ≤ 134217727) : RV Ts (fun x y H Q => ∃ k : Nat, x = .int 1 ∧ y = .int (k : Int) ∧ k ≤ 134217727 ∧ Q (.int (2 ^ k)) H) (.int 1) (.int (k : Nat)) H (.int (2 ^ k)) := fun H1 e _ q => ⟨k, rfl, rfl, h, q H1 (Ex.refl e.good)⟩
end
end Cw
set_option Elab.async false
set_option linter.all false
set_option maxRecDepth 100000
set_option maxHeartbeats 2000000
/-! made lists handed on; pairs in a written list; parts of texts; numbers modulo a power of two -/
namespace Cw
open PySem PySem.Spec PyProof.Rows L2
section
variable {Ts : List Addr} {K : PySem.W.Frag} {w : World} {σ : L2.St} {H H0 H' : Hp} {ta tb te ti : TE} {t u : TT} {x y z v : V} {r : List V → Hp → VK → Prop}
theorem ev_cbN {R : HO} (h : EvN Ts te σ H R) (hr : ∀ p H1, Ex Ts H H1 → H1 p = some R → RC Ts r [.ref p] H1 z) : Ev Ts (tCB r (tCons te tNil)) σ H z := fun H1 e Q q =>
  h H1 e _ fun p H2 n e2 hp => hr p H2 (e.trans e2) hp H2 (Ex.refl e2.good) Q fun H3 e3 => q H3 (e2.trans e3)
theorem rc_all {p : Addr} {bs : List Bool} (g : Good Ts H) (h : SqL K H p (bs.map V.bl)) : RC Ts (rAll K) [.ref p] H (.bl (bs.all id)) := fun H1 e _ q => ⟨p, bs, rfl, e.l g h, q H1 (Ex.refl e.good)⟩
theorem rc_min {i j : Int} : RC Ts (fun xs H Q => ∃ i j, xs = [.int i, .int j] ∧ Q (.int (if j < i then j else i)) H) [.int i, .int j] H (.int (if j < i then j else i)) := fun H1 e _ q => ⟨i, j, rfl, q H1 (Ex.refl e.good)⟩
theorem rc_str {i : Int} {l : List Nat} (h : i.natAbs.log2 < 1920) (hl : V.str (toString i) = sv l) : RC Ts (fun xs H Q => ∃ i : Int, xs = [.int i] ∧ i.natAbs.log2 < 1920 ∧ Q (.str (toString i)) H) [.int i] H (sv l) := fun H1 e _ q => ⟨i, rfl, h, by
  rw [hl]
  exact q H1 (Ex.refl e.good)⟩
theorem str_bit {n : Nat} (h : n < 2) : V.str (toString (n : Int)) = sv [48 + n] := by
  have e : n = 0 ∨ n = 1 := by omega
  rcases e with rfl | rfl <;> rfl
theorem rc_strB {n : Nat} (h : n < 2) : RC Ts (fun xs H Q => ∃ i : Int, xs = [.int i] ∧ i.natAbs.log2 < 1920 ∧ Q (.str (toString i)) H) [.int (n : Int)] H (sv [48 + n]) := rc_str (by
  have e : n = 0 ∨ n = 1 := by omega
  rcases e with rfl | rfl <;> decide) (str_bit h)
theorem en_rev {xs : List V} (h : EvN Ts te σ H (.lst xs)) : EvN Ts (tRevL K te) σ H (.lst xs.reverse) := fun H1 e _ q => h H1 e _ fun a H2 n e2 ha =>
  ⟨a, xs, rfl, l_of ha, fun p hp => q p _ (e2.back hp) (e2.trans (Ex.new e2.good hp)) upd_same⟩
theorem en_is {R R' : HO} (h : EvN Ts te σ H R) (e : R = R') : EvN Ts te σ H R' := e ▸ h
/-- [e for k in range(n)] -/
theorem en_lcR {j n : Nat} {f : Nat → V} (hn : n ≤ 100000) (hi : Ev Ts ti σ H (.int (n : Nat))) (he : ∀ i, i < n → Ev Ts te ((wipe σ [j]).set j (some (.int (i : Nat)))) H (f i)) : EvN Ts (tLc (iRng1 (tCons ti tNil)) (gName j) tYes te [j]) σ H (.lst ((List.range n).map f)) := by
  refine en_lc (n := n) (by rw [List.length_map, List.length_range]) hn (walk_range (lo := 0) (n := n)) (fun H1 e R k => hi H1 e _ fun H2 e2 => ⟨(n : Int), rfl, by omega, by omega, ?_⟩) (fun _ _ => trivial) (fun i z hz H1 x H' e y => ?_)
  · have e0 : ((n : Int)).toNat = n := by omega
    rw [e0]
    exact k H2 e2
  · obtain ⟨rfl, rfl⟩ := y
    dsimp only at hz ⊢
    have hi : i < n := by
      have := (List.getElem?_eq_some_iff.mp hz).1
      rwa [List.length_map, List.length_range] at this
    rw [List.getElem?_map, List.getElem?_range hi] at hz
    obtain rfl := Option.some.inj hz
    refine ⟨_, Ex.refl e.good, fun Q q => q, wipe_one σ j _, ?_⟩
    rw [Int.zero_add]
    exact he i hi
/-! ### pairs in a written list -/
def IsPr (Ts : List Addr) (H : Hp) (r : V) (p : V × V) : Prop := ∃ a, r = .ref a ∧ a ∉ Ts ∧ H a = some (.tup [p.1, p.2])
inductive Prs (Ts : List Addr) (H : Hp) : List V → List (V × V) → Prop
  | nil : Prs Ts H [] []
  | cons {r : V} {rs : List V} {p : V × V} {ps : List (V × V)} : IsPr Ts H r p → Prs Ts H rs ps → Prs Ts H (r :: rs) (p :: ps)
theorem IsPr.mono {r : V} {p : V × V} (h : IsPr Ts H r p) (e : Ex Ts H H') : IsPr Ts H' r p := by
  obtain ⟨a, e1, n, e2⟩ := h
  exact ⟨a, e1, n, e.keep a _ n e2⟩
theorem Prs.mono {rs : List V} {ps : List (V × V)} (h : Prs Ts H rs ps) (e : Ex Ts H H') : Prs Ts H' rs ps := by
  induction h with
  | nil => exact .nil
  | cons a _ ih => exact .cons (a.mono e) ih
theorem Prs.len {rs : List V} {ps : List (V × V)} (h : Prs Ts H rs ps) : rs.length = ps.length := by
  induction h with
  | nil => rfl
  | cons _ _ ih => rw [List.length_cons, List.length_cons, ih]
theorem Prs.get {rs : List V} {ps : List (V × V)} (h : Prs Ts H rs ps) : ∀ {i : Nat} {r : V}, rs[i]? = some r → ∃ p, ps[i]? = some p ∧ IsPr Ts H r p := by
  induction h with
  | nil => exact fun e => by cases e
  | @cons r rs p ps a _ ih =>
    intro i r' e
    cases i with
    | zero =>
      cases e
      exact ⟨p, rfl, a⟩
    | succ i => exact ih e
def EvP (Ts : List Addr) (t : TA) (σ : L2.St) (H : Hp) (ps : List (V × V)) : Prop := ∀ H1, Ex Ts H H1 → ∀ Q : List V → Hp → Prop, (∀ rs H2, Ex Ts H1 H2 → Prs Ts H2 rs ps → Q rs H2) → t σ H1 Q
theorem ep_nil : EvP Ts tNil σ H [] := fun H1 e _ q => q [] H1 (Ex.refl e.good) .nil
theorem ep_cons {tr : TA} {ps : List (V × V)} (h : EvN Ts ta σ H (.tup [x, y])) (hr : EvP Ts tr σ H ps) : EvP Ts (tCons ta tr) σ H ((x, y) :: ps) := fun H1 e _ q =>
  h H1 e _ fun p H2 n e2 hp => hr H2 (e.trans e2) _ fun rs H3 e3 hrs => q _ H3 (e2.trans e3) (.cons (IsPr.mono ⟨p, rfl, e.good.free n, hp⟩ e3) hrs)
/-- for a, b in [(..), ..] -/
theorem st_forP {j k : Nat} {tr : TA} {ps : List (V × V)} {tb : TS} {D : Ends} (h : EvP Ts tr σ H0 ps) (hl : ps.length ≤ 1000) (e : Ex Ts H0 H) (Pv : Nat → L2.St → Prop) (h0 : Pv 0 σ)
    (hs : ∀ i p σ H1 (N : L2.St → Hp → Prop), ps[i]? = some p → Pv i σ → Ex Ts H0 H1 → (∀ σ2 H2, Ex Ts H1 H2 → Pv (i + 1) σ2 → N σ2 H2) → tb { D with nx := N, ct := N, bk := D.nx } ((σ.set j (some p.1)).set k (some p.2)) H1)
    (hd : ∀ σ H1, Ex Ts H0 H1 → Pv ps.length σ → D.nx σ H1) : tFor (iList K (tLst tr)) (gTup K 2 (gCons (gName j) (gCons (gName k) gNil))) tb D σ H := by
  refine h H e _ fun rs H2 e2 hrs => ⟨Nat.le_trans (by rw [hrs.len]; exact hl) (by decide), fun a na => ⟨a, rfl, ⟨rs, l_of upd_same⟩, ?_⟩⟩
  have nT : a ∉ Ts := e2.good.free na
  have e3 : Ex Ts H2 (upd H2 a (.lst rs)) := Ex.new e2.good na
  refine for_it (walk_list (K := K) (a := a) (xs := rs)) (fun i σ H => Ex Ts H0 H ∧ Ex Ts H2 H ∧ H a = some (.lst rs) ∧ Pv i σ) ⟨(e.trans e2).trans e3, e3, upd_same, h0⟩ (fun i σ H _ p => l_of p.2.2.1) (fun i x σ H3 H4 _ p y => ?_) (fun σ H3 p => ?_)
  · obtain ⟨rfl, hx⟩ := y
    obtain ⟨pr, hp, c, rfl, nc, hc⟩ := hrs.get hx
    refine ⟨c, [pr.1, pr.2], rfl, t_of (p.2.1.keep c _ nc hc), rfl, _, _, rfl, _, _, rfl, rfl, ?_⟩
    refine hs i pr σ _ _ hp p.2.2.2 p.1 fun σ2 H5 e5 p5 => ?_
    exact ⟨p.1.trans e5, p.2.1.trans e5, e5.keep a _ nT p.2.2.1, p5⟩
  · have q := p.2.2.2
    rw [hrs.len] at q
    exact hd σ H3 p.1 q
end
/-! ### parts of texts -/
theorem cutS_from {a : List Nat} {n : Nat} (h : n ≤ a.length) : cutS (S a) (some (n : Int)) none = S (a.drop n) := by
  unfold cutS
  rw [HT.sIx_none, HT.sIx_nat, S_list, S_len, Nat.min_eq_left h, List.take_of_length_le (Nat.le_of_eq (List.length_drop ..))]
  rfl
theorem cutS_to (a : List Nat) (n : Nat) : cutS (S a) none (some (n : Int)) = S (a.take n) := by
  unfold cutS
  rw [HT.sIx_none, HT.sIx_nat, S_list, S_len, Nat.sub_zero, List.drop_zero]
  by_cases h : n ≤ a.length
  · rw [Nat.min_eq_left h]
    rfl
  · rw [Nat.min_eq_right (by omega), List.take_of_length_le (Nat.le_refl _), List.take_of_length_le (by omega)]
    rfl
theorem cutS_last {a : List Nat} {k : Nat} (h0 : 1 ≤ k) (h : k ≤ a.length) : cutS (S a) (some (0 - (k : Int))) none = S (a.drop (a.length - k)) := by
  unfold cutS
  have e : HT.sIx (S a).length 0 (some (0 - (k : Int))) = a.length - k := by
    show (if (0 - (k : Int)) < 0 then ((0 - (k : Int)) + ((S a).length : Int)).toNat else min (0 - (k : Int)).toNat (S a).length) = _
    rw [if_pos (by omega), S_len]
    omega
  rw [e, HT.sIx_none, S_list, S_len, List.take_of_length_le (Nat.le_of_eq (List.length_drop ..))]
  rfl
/-! ### numbers modulo a power of two -/
def modW (w : Nat) (n : Int) : Nat := (n % (2 ^ w : Int)).toNat
theorem two_pos (w : Nat) : (0 : Int) < 2 ^ w := by
  rw [two_pow_cast]
  have := Nat.two_pow_pos w
  omega
theorem modW_cast (w : Nat) (n : Int) : n % (2 ^ w : Int) = ((modW w n : Nat) : Int) := by
  unfold modW
  have := Int.emod_nonneg n (Int.ne_of_gt (two_pos w))
  omega
theorem modW_lt (w : Nat) (n : Int) : modW w n < 2 ^ w := by
  have h := Int.emod_lt_of_pos n (two_pos w)
  rw [modW_cast, two_pow_cast] at h
  exact Int.ofNat_lt.mp h
/-- the vector of n modulo 2 ^ w -/
def lowB (w : Nat) (n : Int) : List Nat := bitsOf w (modW w n)
theorem lowB_len (w : Nat) (n : Int) : (lowB w n).length = w := bits_len w _
theorem lowB_vec {w : Nat} {n : Int} (h0 : 1 ≤ w) (h1 : w ≤ 64) : Vec (lowB w n) := bits_vec h0 h1
theorem lowB_pad {w : Nat} {n : Int} (h : 1 ≤ w) : pad w (binDigits (modW w n)) = lowB w n := by
  obtain ⟨k, rfl⟩ : ∃ k, w = k + 1 := ⟨w - 1, by omega⟩
  exact pad_bits k _ (modW_lt (k + 1) n)
theorem low_dig {w : Nat} {n : Int} (h : 1 ≤ w) (h1 : w ≤ 64) : (binDigits (modW w n)).length ≤ 1000 := by
  obtain ⟨k, rfl⟩ : ∃ k, w = k + 1 := ⟨w - 1, by omega⟩
  exact Nat.le_trans (dig_len k _ (modW_lt (k + 1) n)) (by omega)
theorem bit_cast (m i : Nat) : ((m : Int) / (2 ^ i : Int)) % 2 = ((m / 2 ^ i % 2 : Nat) : Int) := by
  rw [two_pow_cast]
  rfl
/-- the number that a vector writes: unknown bits count as 0 -/
def val (a : List Nat) : Nat := a.foldl (fun v c => 2 * v + if c = 49 then 1 else 0) 0
def kn (a : List Nat) : Bool := a.all fun c => decide (c ∈ [48, 49])
theorem kn_bin {a : List Nat} (h : kn a = true) : ∀ c ∈ a, IsBin c := fun c hc => by
  have z := of_decide_eq_true (List.all_eq_true.mp h c hc)
  unfold IsBin
  simpa using z
theorem val_eq {a : List Nat} (h : kn a = true) : binNum a = val a := by
  have hb := kn_bin h
  have aux : ∀ (l : List Nat) (v : Nat), (∀ c ∈ l, IsBin c) → l.foldl (fun a c => a * 2 + bv c) v = l.foldl (fun v c => 2 * v + if c = 49 then 1 else 0) v := by
    intro l
    induction l with
    | nil => intro v _; rfl
    | cons c r ih =>
      intro v hl
      rw [List.foldl_cons, List.foldl_cons, ih _ fun x hx => hl x (List.mem_cons_of_mem _ hx)]
      congr 1
      rcases hl c (List.mem_cons_self ..) with rfl | rfl
      · rw [if_neg (by decide)]
        unfold bv
        omega
      · rw [if_pos rfl]
        unfold bv
        omega
  exact aux a 0 hb
theorem val_lt (a : List Nat) : val a < 2 ^ a.length := by
  have aux : ∀ (l : List Nat) (v k : Nat), v < 2 ^ k → l.foldl (fun v c => 2 * v + if c = 49 then 1 else 0) v < 2 ^ (k + l.length) := by
    intro l
    induction l with
    | nil => intro v k h; exact h
    | cons c r ih =>
      intro v k h
      rw [List.foldl_cons, List.length_cons, show k + (r.length + 1) = (k + 1) + r.length by omega]
      refine ih _ (k + 1) ?_
      rw [Nat.pow_succ]
      split <;> omega
  have := aux a 0 0 (by decide)
  rwa [Nat.zero_add] at this
theorem val_le {a : List Nat} {n : Nat} (h : a.length ≤ n) : val a < 2 ^ n := Nat.lt_of_lt_of_le (val_lt a) (Nat.pow_le_pow_right (by decide) h)
theorem val_snoc {a : List Nat} {i c : Nat} (h : a[i]? = some c) : val (a.take (i + 1)) = 2 * val (a.take i) + if c = 49 then 1 else 0 := by
  unfold val
  rw [List.take_add_one, h, List.foldl_append]
  rfl
end Cw
set_option Elab.async false
set_option linter.all false
set_option maxRecDepth 100000
set_option maxHeartbeats 2000000
/-! what the laws draw; tests that are known; vectors known or not -/
namespace Cw
open PySem PySem.Spec PyProof.Rows L2
theorem max_wid (a b : List Nat) : (if (b.length : Int) > (a.length : Int) then (b.length : Int) else (a.length : Int)) = ((wid a b : Nat) : Int) := by
  unfold wid
  split <;> omega
theorem sv_one (a b : Nat) : decide (sv [a] = sv [b]) = decide (a = b) := by
  rw [sv_dec]
  by_cases h : a = b
  · rw [decide_eq_true h, h]
    exact decide_eq_true rfl
  · rw [decide_eq_false h]
    exact decide_eq_false fun q => h (List.cons.inj q).1
def sgn (pl : Bool) (z : Int) : Nat := if pl then [48, 49, 49, 48].getD z.toNat 0 else [48, 49, 120, 122].getD z.toNat 0
theorem sgn_isB {pl : Bool} {z : Int} (h0 : 0 ≤ z) (h1 : z < 4) : IsB (sgn pl z) := by
  have e : z = 0 ∨ z = 1 ∨ z = 2 ∨ z = 3 := by omega
  cases pl <;> rcases e with rfl | rfl | rfl | rfl <;> decide
theorem sgn_at {pl : Bool} {z : Int} (h0 : 0 ≤ z) (h1 : z < 4) : atI (if pl then [48, 49, 49, 48] else [48, 49, 120, 122]) z = some (sgn pl z) := by
  have e : z = 0 ∨ z = 1 ∨ z = 2 ∨ z = 3 := by omega
  cases pl <;> rcases e with rfl | rfl | rfl | rfl <;> rfl
def asSv (pl : Bool) : V → V
  | .int z => sv [sgn pl z]
  | _ => .non
theorem asSv_map (pl : Bool) (ms : List Int) : (ms.map V.int).map (asSv pl) = ms.map fun z => sv [sgn pl z] := by
  rw [List.map_map]
  rfl
theorem drop_ints (ns : List Int) (k : Int) : ∃ ms : List Int, cutV (ns.map V.int) (some k) none = ms.map V.int := by
  unfold cutV
  rw [← List.map_drop, ← List.map_take]
  exact ⟨_, rfl⟩
section
variable {Ts : List Addr}
theorem et_ne {σ : L2.St} {H : Hp} {ta tb : TE} {a b : List Nat} (ha : Ev Ts ta σ H (sv a)) (hb : Ev Ts tb σ H (sv b)) (e : a = b) : EvT Ts (tTest (tOp rNe ta tb)) σ H false := by
  subst e
  refine et_is (et_test (ev_op ha hb (rv_ne rfl))) ?_
  rw [decide_eq_true rfl]
  rfl
theorem ev_eqT {σ : L2.St} {H : Hp} {ta tb : TE} {a : List Nat} (ha : Ev Ts ta σ H (sv a)) (hb : Ev Ts tb σ H (sv a)) : Ev Ts (tOp rEq ta tb) σ H (.bl true) := by
  refine ev_is (ev_op ha hb (rv_eq rfl)) ?_
  rw [decide_eq_true rfl]
theorem st_par {σ : L2.St} {H H0 : Hp} {D : Ends} {ta tb : TE} {i j : Nat} {x y : V} (h1 : Ev Ts ta σ H0 x) (h2 : Ev Ts tb σ H0 y) (e : Ex Ts H0 H) (k : ∀ H2, Ex Ts H0 H2 → D.nx ((σ.set i (some x)).set j (some y)) H2) : tPar i j (tCons ta (tCons tb tNil)) D σ H :=
  (ea_cons h1 (ea_cons h2 ea_nil)) H e _ fun H2 e2 => ⟨x, y, rfl, k H2 (e.trans e2)⟩
theorem st_no {σ : L2.St} {H H0 : Hp} {D : Ends} {tc : TT} {t1 : TS} (h : EvT Ts tc σ H0 false) (e : Ex Ts H0 H) (k : ∀ H2, Ex Ts H0 H2 → D.nx σ H2) : tIfS tc t1 tNext D σ H := st_if h e (fun _ _ z => by cases z) fun H2 e2 _ => k H2 e2
end
/-- what is due: the low bits of n, or x -/
def dueB (k : Bool) (w : Nat) (n : Int) : List Nat := if k then lowB w n else List.replicate w 120
def truthB (k h : Bool) : List Nat := if k then (if h then [49] else [48]) else [120]
def bitB (h : Bool) : List Nat := if h then [49] else [48]
theorem dueB_len (k : Bool) (w : Nat) (n : Int) : (dueB k w n).length = w := by
  cases k
  · exact List.length_replicate
  · exact lowB_len w n
theorem truthB_vec (k h : Bool) : Vec (truthB k h) := by
  cases k <;> cases h <;> exact vec_one (by decide)
theorem bitB_int (h : Bool) : bitB h = [48 + (if h then 1 else 0)] := by
  cases h <;> rfl
theorem vec_ne {a : List Nat} (h : Vec a) : a ≠ [] := fun z => by
  have := h.pos
  rw [z] at this
  exact absurd this (by decide)
theorem not_t {b : Bool} (h : (!b) = true) : b = false := by
  cases b
  · rfl
  · cases h
theorem not_f {b : Bool} (h : (!b) = false) : b = true := by
  cases b
  · cases h
  · rfl
end Cw
set_option Elab.async false
set_option linter.all false
set_option maxRecDepth 100000
set_option maxHeartbeats 2000000
/-! all(e for a, b in zip(one, two)): e asks of the two signs alone -/
namespace Cw
open PySem PySem.Spec PyProof.Rows L2 GxR
/-- the element: a test of the signs c and d -/
def EltZ (prog : Program) (w : World) (scope : Scope) (cl : List (Str × Addr)) (xa xb : Str) (elt : Expr) (pb : Nat → Nat → Bool) : Prop :=
  ∀ (cenv : Env) (A' : Around) (E' : Value → Shared → Prop) (c d : Nat) (t u : Tok) (s₂ : Shared) (m₂ : Str → Option Value), cenv.scope = scope → s₂.heap.Ns cenv.locals m₂ → m₂ xa = some (.str ⟨#[c]⟩ t) → m₂ xb = some (.str ⟨#[d]⟩ u) →
    wpAny (model prog w) A' (eval elt cenv) (fun v s₃ => v = .bool (pb c d) ∧ Keeps s₂ s₃) E' s₂
/-- x not in 'k' or x == y -/
theorem elt_fine {prog : Program} {w : World} {scope : Scope} {cl : List (Str × Addr)} {xa xb k : Str} {j : Nat} {p1 p2 p3 p4 p5 p6 p7 : Pos} (hk : scope.kind = .function) (hl : scope.names.lookup xa = some .local) (hl2 : scope.names.lookup xb = some .local)
    (hd : (xa == ("__debug__" : Str)) = false := by decide) (hd2 : (xb == ("__debug__" : Str)) = false := by decide) :
    EltZ prog w scope cl xa xb (.BoolOp .Or [.Compare (.Name xa p1) [.NotIn] [.Constant (.str k) j p2] p3, .Compare (.Name xa p4) [.Eq] [.Name xb p5] p6] p7) fun c d => (!decide (c ∈ k.cps.toList)) || decide (c = d) := by
  intro cenv A' E' c d t u s₂ m₂ hs hn hm hm2
  refine BoolOp_or ?_
  refine wpAny_Compare1 ?_
  refine wpAny_Name (wpAny_loadName_local (by rw [hs]; exact hk) (show cenv.scope.names.lookup xa = some .local by rw [hs]; exact hl) hn hm ?_) hd
  refine Calls.Constant_str ?_
  refine PyProof.Rows.notIn_str ?_
  rw [PySem.StrLaws.found_one k c]
  refine wpAny_truthy_bool ?_
  cases h : decide (c ∈ k.cps.toList) with
  | false =>
    refine ⟨?_, keeps_tok _ _⟩
    show Value.bool (!false) = Value.bool ((!decide (c ∈ k.cps.toList)) || decide (c = d))
    rw [h]
    rfl
  | true =>
    show wpAny _ _ _ _ _ _
    refine BoolOp_one ?_
    refine wpAny_Compare1 ?_
    refine wpAny_Name (wpAny_loadName_local (by rw [hs]; exact hk) (show cenv.scope.names.lookup xa = some .local by rw [hs]; exact hl) hn hm ?_) hd
    refine wpAny_Name (wpAny_loadName_local (by rw [hs]; exact hk) (show cenv.scope.names.lookup xb = some .local by rw [hs]; exact hl2) hn hm2 ?_) hd2
    refine PySem.P.eq_str ⟨?_, keeps_tok _ _⟩
    congr 1
    show _ = ((!decide (c ∈ k.cps.toList)) || decide (c = d))
    rw [h]
    by_cases e : c = d
    · subst e
      simp
    · simp [e]
/-- the test at place j -/
def trZ (pb : Nat → Nat → Bool) (a b : List Nat) (j : Nat) : Bool := match a[j]?, b[j]? with
  | some c, some d => pb c d
  | _, _ => false
theorem all_trZ (pb : Nat → Nat → Bool) (a b : List Nat) : (List.range (min a.length b.length)).all (trZ pb a b) = (a.zip b).all fun p => pb p.1 p.2 := by
  rw [Bool.eq_iff_iff, List.all_eq_true, List.all_eq_true]
  constructor
  · intro h p hp
    obtain ⟨j, hj, e⟩ := List.getElem_of_mem hp
    have hj2 : j < min a.length b.length := by rwa [List.length_zip] at hj
    have q := h j (List.mem_range.mpr hj2)
    have g : (a.zip b)[j]? = some p := by rw [List.getElem?_eq_getElem hj, e]
    obtain ⟨ga, gb⟩ := List.getElem?_zip_eq_some.mp g
    unfold trZ at q
    rw [ga, gb] at q
    exact q
  · intro h j hj
    have hj2 := List.mem_range.mp hj
    have ha : j < a.length := by omega
    have hb : j < b.length := by omega
    unfold trZ
    rw [List.getElem?_eq_getElem ha, List.getElem?_eq_getElem hb]
    refine h (a[j], b[j]) ?_
    exact List.mem_of_getElem? (i := j) (List.getElem?_zip_eq_some.mpr ⟨List.getElem?_eq_getElem ha, List.getElem?_eq_getElem hb⟩)
/-- the generator expression's own scope, of two names, none captured -/
structure GenZ (scope : Scope) (xa xb : Str) : Prop where
  kind : scope.kind = .function
  co : scope.isCoroutine = false
  cell : ∀ y ∈ scope.names, y.2 ≠ .cell
  dot : scope.names.lookup (".0" : Str) = some NameKind.local
  la : scope.names.lookup xa = some .local
  lb : scope.names.lookup xb = some .local
  free : ∀ y ∈ scope.names, y.2 ≠ .free
theorem at_lt {b N m : Nat} (h : b = N + 4 ∨ b = N + 2 ∨ b = N + 3 ∨ b = N ∨ b = N + 1) (hm : N + 5 ≤ m) : b < m := by omega
theorem at_ge {b N : Nat} (h : b = N + 4 ∨ b = N + 3 ∨ b = N ∨ b = N + 1) : N ≤ b := by omega
section
variable {X : Cx} {pins : List (Addr × Obj)} {σ : L2.St} {H : Hp} {s : Shared}
def ReadyN (X : Cx) (pins : List (Addr × Obj)) (σ : L2.St) (H1 : Hp) (P : Addr) (n : Nat) (tr : Nat → Bool) (g : Addr) (s5 : Shared) : Prop :=
  ∃ (fp wr : List Addr) (G : Array GenState → Array GenState → Prop) (F : Nat → Value → Prop) (St : Nat → Shared → Prop),
    WalksS X.prog X.w X.A.in1 g fp wr G n F St ∧ St 0 s5 ∧ TruthOf X.prog X.w X.A.in1 F tr ∧ ∀ s', Moved wr G s5 s' → ∃ H2, Tabbed P H1 H2 ∧ Inv X pins σ H2 s'
theorem quiet_zip {scope : Scope} {cl : List (Str × Addr)} {code : Value} {bi C : Addr} {env : Env} {xa xb : Str} {elt : Expr} {a b : Str} {pb : Nat → Nat → Bool} {fp wr : List Addr} {href : Heap} {prog : Program} {w : World} (he : EltZ prog w scope cl xa xb elt pb) :
    QuietGenT prog w (genEnv scope cl C code bi env) xa xb [] elt fp wr (fun i vals => ∃ x1 x2, (∃ c u, a.cps[i]? = some c ∧ x1 = Value.str ⟨#[c]⟩ u) ∧ (∃ c u, b.cps[i]? = some c ∧ x2 = Value.str ⟨#[c]⟩ u) ∧ vals = #[x1, x2]) (fun _ => true)
      (fun i v => ∃ c d, a.cps[i]? = some c ∧ b.cps[i]? = some d ∧ v = .bool (pb c d)) href where
  tests := by
    intro A' E' i va vb s2 m2 _ _ _ _ _ _
    rw [List.forIn_nil]
    exact wpAny_pure ⟨rfl, keeps_refl _⟩
  elt := by
    intro A' E' i va vb s2 m2 _ hv _ hn hma hmb kp
    obtain ⟨x1, x2, ⟨c, t, hc, rfl⟩, ⟨d, u, hd, rfl⟩, e⟩ := hv
    have e2 : va = Value.str ⟨#[c]⟩ t ∧ vb = Value.str ⟨#[d]⟩ u := by simpa using congrArg Array.toList e
    obtain ⟨rfl, rfl⟩ := e2
    exact wpAny_mono (he _ A' E' c d t u s2 m2 rfl hn hma hmb) (fun _ _ r => ⟨⟨c, d, hc, hd, r.1⟩, r.2⟩) fun _ _ r => r
theorem gen_zip {c P : Addr} {e1 e2 elt : Expr} {xa xb : Str} {kt : Nat} {pa pb' pt p pos gpos : Pos} {scope : Scope} {ta : TA} {k : Nat} {pb : Nat → Nat → Bool} {Q' : Value → Shared → Prop} {R : Str → Str → Hp → Prop}
    (hr : Room k X.A) (hg : Gl X "zip") (hm : X.mg "zip" = none) (TB : TabB X.base X.mg c P) (hcode : X.env.code = .ref c) (S : GenZ scope xa xb) (hi : PA X [e1, e2] ta) (hab : xa ≠ xb)
    (he : EltZ X.prog X.w scope (cloFrom X.env.cells scope.names []) xa xb elt pb)
    (hst : starEach [e1, e2] X.env = (false, eval e1 X.env) :: starEach [e2] X.env) (hpl : (backTo pos (starEach [e2] X.env)).any (·.1) = false)
    (hs : ∀ v, genFold (.Call (.Name "zip" p) [e1, e2] [] pos) X.env v = pure v) (I : Inv X pins σ H s) (h : ta σ H fun vs H1 => ∃ a b : Str, vs = [.str a, .str b] ∧ TabG H1 P ∧ R a b H1)
    (hQ : ∀ a b H1 g s5, R a b H1 → ReadyN X pins σ H1 P (min a.cps.size b.cps.size) (trZ pb a.cps.toList b.cps.toList) g s5 → Q' (.ref g) s5) :
    wpAny (model X.prog X.w) X.A (eval (.GeneratorExp elt [⟨.Tuple [.Name xa pa, .Name xb pb'] kt pt, .Call (.Name "zip" p) [e1, e2] [] pos, [], 0⟩] scope gpos) X.env) Q' X.xe s := by
  have deep := hr.dp
  refine wpAny_GeneratorExp_walksQT hr.hd S.co (closure_ok fun y hy e => absurd e (S.free y hy)) S.cell S.dot S.la S.lb hab S.kind (by omega) ?_ hs
  refine Call_ (ld_blt I hg hm PyProof.Rows.boot_zip (PyProof.Rows.callWith_type1 (thn (hi.run pos pins s σ H _ I h) fun us s1 ⟨vs, H1, I1, r1, q1⟩ => ?_) hst hpl))
  obtain ⟨a, b, ex, ⟨ps, hP, ht⟩, q1⟩ := q1
  subst ex
  obtain ⟨u, v, rfl, ru, rv⟩ := vals2 r1
  obtain ⟨t1, rfl⟩ := ru
  obtain ⟨t2, rfl⟩ := rv
  refine zip_begins2 (begins_text a t1) (begins_text b t2) trivial trivial fun hI hz hTI hTO h1 h2 hsz kI => wpAny_pyIter_zip hz ?_
  have eP : s1.heap.get? P = some { cls := .none, data := .fields ps } := I1.hok P _ hP
  have cl1 : cStatics < s1.heap.objs.size := let ⟨_, hns, _⟩ := I1.nolimit; hns.lt
  have cP : cStatics ≠ P := fun e => by
    obtain ⟨_, ⟨o', es, ep, ho, hd, _⟩, _⟩ := I1.nolimit
    rw [e, eP] at ho
    cases ho
    cases hd
  have lim : hI.NoLimit := I1.nolimit.keeps kI
  have eP2 : hI.get? P = some { cls := .none, data := .fields ps } := kI _ _ eP
  have cd : PySem.W.CodeHd hI c P := TB.code.keeps fun b u e => kI _ _ (I1.bk b u e)
  generalize hN : s1.heap.objs.size = N at hz hTI hTO h1 h2 hsz
  have lP : P < N := by rw [← hN]; exact Heap.lt_size eP
  -- behind the code object, whichever it is
  suffices cont : ∀ (code : Value) (h3 : Heap) (tk : Nat) (more : Array Value), Heap.ExtBut P hI h3 → hI.objs.size ≤ h3.objs.size → h3.get? P = some { cls := .none, data := .fields (ps ++ more) } → TriplesOk (ps ++ more).toList →
      wpAny (model X.prog X.w) X.A (builtinsFor X.env.globals X.env.builtins) (fun bi s4 =>
        ∃ Ia fp wr n0 Pf St0 Mid pz F, Value.ref (N + 4) = .ref Ia ∧ (∀ A' : Around, A'.handled = none → WalksU X.prog X.w A' Ia fp wr n0 Pf St0 Mid) ∧ (∀ i vals, Pf i vals → ∃ va vb, vals = #[va, vb]) ∧ St0 0 s4.heap ∧ (∀ b ∈ fp, b < s4.heap.objs.size) ∧ s4.heap.NoLimit ∧ cStatics ∉ wr ∧
          (∀ href : Heap, (∀ b u, s4.heap.get? b = some u → href.get? b = some u) →
            QuietGenT X.prog X.w (genEnv scope (cloFrom X.env.cells scope.names []) s4.heap.objs.size code bi X.env) xa xb [] elt (List.range s4.heap.objs.size) wr Pf pz F href) ∧
          (∀ g h5 tk gs, gs.bare = true → s4.heap.objs.size < g → h5.objs.size = g + 1 → (∀ b u, s4.heap.get? b = some u → h5.get? b = some u) →
            WalksS X.prog X.w X.A.in4 g (g :: s4.heap.objs.size :: List.range s4.heap.objs.size) (s4.heap.objs.size :: wr) (GenOnlyQ s4.gens.size) (passing pz n0 0).length
              (fun j v => ∃ i, (passing pz n0 0)[j]? = some i ∧ F i v) (GenAt X.prog X.w X.A.in4 g s4.gens.size s4.heap.objs.size (List.range s4.heap.objs.size) wr pz n0 F) →
            GenAt X.prog X.w X.A.in4 g s4.gens.size s4.heap.objs.size (List.range s4.heap.objs.size) wr pz n0 F 0 { s4 with gens := s4.gens.push gs, toks := tk, heap := h5 } →
            Q' (.ref g) { s4 with gens := s4.gens.push gs, toks := tk, heap := h5 })) X.xe { s1 with heap := h3, toks := tk } by
    refine ⟨lim, ?_⟩
    cases hf : codeAmong gpos ps.toList with
    | none =>
      refine wpAny_genexprCodeX hcode (cd.code eP2 ht) (cd.tab eP2) hf fun c' h' tk hx hge hlt hco' _ htab' _ => ?_
      obtain ⟨_, _, _, _, _, _, _, _, _, _, _, _, _, _, _, _, _, _, _, htr, _⟩ := hco'
      exact cont _ h' tk _ hx (Nat.le_trans hge (Nat.le_of_lt hlt)) htab'.2 htr
    | some cv =>
      refine wpAny_genexprCode_hit hcode (cd.code eP2 ht) hf (cont cv _ s1.toks #[] (Heap.ExtBut.refl _ _) (Nat.le_refl _) ?_ ?_)
      · rw [Array.append_empty]
        exact eP2
      · rw [Array.append_empty]
        exact ht
  intro code h3 tk more hx hsz3 eP3 ht3
  have old : ∀ b u, b ≠ P → s1.heap.get? b = some u → h3.get? b = some u := fun b u hb e => hx b u hb (kI _ _ e)
  obtain ⟨bm, ob, f1, f2, _, f4, f5, f6, f7, f8⟩ := TB.bm
  refine wpAny_builtinsFor (m := X.mg) (by rw [I1.ok.glob]; exact ((I1.mod.glob.keeps I1.bk).keeps kI).extBut hx TB.gP) f1 f2 (old _ _ f4 (I1.bk _ _ f5)) f6 f7 f8 ?_
  have sep := zs_apart N
  have nz : ∀ {b o}, hI.get? b = some o → b ≠ P → h3.get? b = some o := fun e n => hx _ _ n e
  have n0 : N ≠ P := Nat.ne_of_gt lP
  have n1 : N + 1 ≠ P := Nat.ne_of_gt (Nat.lt_of_lt_of_le lP (Nat.le_add_right N 1))
  have n2 : N + 2 ≠ P := Nat.ne_of_gt (Nat.lt_of_lt_of_le lP (Nat.le_add_right N 2))
  have n3 : N + 3 ≠ P := Nat.ne_of_gt (Nat.lt_of_lt_of_le lP (Nat.le_add_right N 3))
  have n4 : N + 4 ≠ P := Nat.ne_of_gt (Nat.lt_of_lt_of_le lP (Nat.le_add_right N 4))
  refine ⟨N + 4, _, [N + 4, N + 3, N, N + 1], min a.cps.size b.cps.size, _, _, _, fun _ => true, _, rfl, fun A' hA => (WalksT.zipD2 (prog := X.prog) (w := X.w) (A := A') sep (Draws.text (show A'.in1.handled = none from hA) N a t1) (Draws.text (show A'.in1.handled = none from hA) (N + 1) b t2)).toU, ?_, ?_, ?_, lim.extBut hx cP, ?_, fun href kp => quiet_zip he, ?_⟩
  · rintro i vals ⟨x1, x2, _, _, rfl⟩
    exact ⟨x1, x2, rfl⟩
  · exact ⟨nz hz n4, nz hTI n2, ⟨_, _, nz hTO n3⟩, ⟨_, nz h1 n0, rfl, rfl⟩, ⟨_, nz h2 n1, rfl, rfl⟩⟩
  · intro b hb
    have hb2 : b = N + 4 ∨ b = N + 2 ∨ b = N + 3 ∨ b = N ∨ b = N + 1 := by simpa using hb
    exact at_lt hb2 (by show N + 5 ≤ h3.objs.size; omega)
  · intro hb
    have hb2 : cStatics = N + 4 ∨ cStatics = N + 3 ∨ cStatics = N ∨ cStatics = N + 1 := by simpa using hb
    rw [hN] at cl1
    exact Nat.not_lt_of_le (at_ge hb2) cl1
  · intro g h5 tk5 gs hgb hag hsz5 hk5 W5 hat
    simp only [GxR.passing_true, List.length_range] at W5
    have out : ∀ b u, s1.heap.get? b = some u → b ∉ h3.objs.size :: [N + 4, N + 3, N, N + 1] := fun b u e hb => by
      have l1 := Heap.lt_size e
      rw [hN] at l1
      rcases List.mem_cons.mp hb with e9 | hb3
      · rw [e9] at l1
        exact Nat.lt_irrefl _ (Nat.lt_of_lt_of_le l1 (by omega))
      · have hb2 : b = N + 4 ∨ b = N + 3 ∨ b = N ∨ b = N + 1 := by simpa using hb3
        exact Nat.not_lt_of_le (at_ge hb2) l1
    refine hQ a b H1 g _ q1 ⟨_, _, _, _, _, W5.in4_1, hat, fun i v si Qi Ei hv hQi => ?_, fun s' mv => ?_⟩
    · obtain ⟨i', hii, cc, dd, hcc, hdd, rfl⟩ := hv
      obtain ⟨hj, ej⟩ := List.getElem?_eq_some_iff.mp hii
      rw [List.getElem_range] at ej
      subst ej
      have q : Qi (trZ _ a.cps.toList b.cps.toList i) si := hQi
      unfold trZ at q
      rw [(Array.getElem?_toList ..).trans hcc, (Array.getElem?_toList ..).trans hdd] at q
      exact wpAny_truthy_bool q
    · exact tab_two I1 hP ht3 mv (fun b u hb e => hk5 b u (old b u hb e)) (hk5 P _ eP3) (AllBare.movedS (I1.bare.push hgb) mv) rfl out
/-- all(e for a, b in zip(one, two)); behind it the table of the def may have grown -/
def tAllZ (P : Addr) (pb : Nat → Nat → Bool) (ta : TA) : TE := fun σ H Q => ta σ H fun vs H1 => ∃ a b : Str, vs = [.str a, .str b] ∧ TabG H1 P ∧ ∀ H2, Tabbed P H1 H2 → Q (.bl ((a.cps.toList.zip b.cps.toList).all fun p => pb p.1 p.2)) H2
theorem pe_allZ {c P : Addr} {e1 e2 elt : Expr} {xa xb : Str} {kt : Nat} {pa pb' pt p pz pos zpos gpos : Pos} {scope : Scope} {ta : TA} {k : Nat} {pb : Nat → Nat → Bool}
    (hr : Room k X.A) (hg : Gl X "all") (hm : X.mg "all" = none) (hb : bootBuiltins "all" = some (.builtin "all")) (hgz : Gl X "zip") (hmz : X.mg "zip" = none) (TB : TabB X.base X.mg c P) (hcode : X.env.code = .ref c) (S : GenZ scope xa xb) (hi : PA X [e1, e2] ta) (hab : xa ≠ xb)
    (hel : EltZ X.prog X.w scope (cloFrom X.env.cells scope.names []) xa xb elt pb)
    (hs : ∀ v, genFold (.Call (.Name "zip" pz) [e1, e2] [] zpos) X.env v = pure v)
    (hst : starEach [e1, e2] X.env = (false, eval e1 X.env) :: starEach [e2] X.env := by rfl) (hpl : (backTo zpos (starEach [e2] X.env)).any (·.1) = false := by rfl)
    (he : starEach [.GeneratorExp elt [⟨.Tuple [.Name xa pa, .Name xb pb'] kt pt, .Call (.Name "zip" pz) [e1, e2] [] zpos, [], 0⟩] scope gpos] X.env = (false, eval (.GeneratorExp elt [⟨.Tuple [.Name xa pa, .Name xb pb'] kt pt, .Call (.Name "zip" pz) [e1, e2] [] zpos, [], 0⟩] scope gpos) X.env) :: starEach [] X.env := by rfl) :
    PE X (.Call (.Name "all" p) [.GeneratorExp elt [⟨.Tuple [.Name xa pa, .Name xb pb'] kt pt, .Call (.Name "zip" pz) [e1, e2] [] zpos, [], 0⟩] scope gpos] [] pos) (tAllZ P pb ta) := by
  refine ⟨fun pins s σ H Q I h => ?_⟩
  refine wpAny_Call_Name_kw (ld_blt I hg hm hb ?_)
  refine PyProof.Rows.callWith_builtin1 ?_ he (by rfl)
  rw [he]
  show wpAny _ _ (spliced ((false, eval (.GeneratorExp elt [⟨.Tuple [.Name xa pa, .Name xb pb'] kt pt, .Call (.Name "zip" pz) [e1, e2] [] zpos, [], 0⟩] scope gpos) X.env) :: backTo pos (starEach [] X.env))) _ _ s
  refine Calls.spliced_cons (gen_zip (R := fun a b H1 => ∀ H2, Tabbed P H1 H2 → Q (.bl ((a.cps.toList.zip b.cps.toList).all fun p => pb p.1 p.2)) H2) hr hgz hmz TB hcode S hi hab hel hst hpl hs I h fun a b H1 g s5 hR hG => ?_)
  obtain ⟨fp, wr, G, F, St, W, hst0, htr, hI⟩ := hG
  refine Calls.spliced_nil ?_
  refine call_all_walkS (W.self 0 _ _ _ hst0 ⟨g, fp, wr, G, _, F, St, _, rfl, W, hst0, htr, fun s' hmv => ?_⟩)
  obtain ⟨H2, hT, J⟩ := hI s' hmv
  refine ⟨.bl _, H2, J, rfl, ?_⟩
  have e3 : a.cps.size = a.cps.toList.length := by simp
  have e4 : b.cps.size = b.cps.toList.length := by simp
  rw [e3, e4, all_trZ]
  exact hR H2 hT
end
section
variable {Ts : List Addr} {σ : L2.St} {H : Hp}
theorem ev_allZ {P : Addr} {ta : TA} {a b : List Nat} {pb : Nat → Nat → Bool} (hP : P ∈ Ts) (h : EvA Ts ta σ H [sv a, sv b]) : Ev Ts (tAllZ P pb ta) σ H (.bl ((a.zip b).all fun p => pb p.1 p.2)) := fun H1 e Q q =>
  h H1 e _ fun H2 e2 => ⟨S a, S b, rfl, e2.good P hP, fun H3 t => q H3 (e2.trans (Ex.tabbed e2.good hP t))⟩
end
end Cw
set_option Elab.async false
set_option linter.all false
set_option maxRecDepth 100000
set_option maxHeartbeats 2000000
/-! types as values, is, lists put together, lists of new objects -/
namespace Cw
open PySem PySem.Spec PyProof.Rows L2
theorem pe_ty {X : Cx} {x : Str} {n : String} {pos : Pos} (hg : Gl X x) (hm : X.mg x = none) (hv : bootBuiltins x = some (.type n)) (hn : x ≠ "__name__" := by decide) (hd : (x == ("__debug__" : Str)) = false := by decide) : PE X (.Name x pos) (tC (.ty n)) :=
  ⟨fun pins s σ H Q I h => ld_blt I hg hm hv ⟨.ty n, H, I, rfl, h⟩ hn hd⟩
section
variable {Ts : List Addr} {K : PySem.W.Frag} {w : World} {σ : L2.St} {H H0 H' : Hp} {ta tb te ti : TE} {t u : TT} {x y z v : V} {D : Ends}
theorem rc_isiS {a : Str} : RC Ts (rIsi K) [.str a, .ty "str"] H (.bl true) := fun H1 e _ q => ⟨.str a, .ty "str", .type "str", .type "str", true, rfl, .ty _, .base (.str _), kit_ty (by decide +kernel), q H1 (Ex.refl e.good)⟩
theorem rv_isB {a b : Bool} : RV Ts rIsB (.bl a) (.bl b) H (.bl (decide (a = b))) := fun H1 e _ q => ⟨a, b, rfl, rfl, q H1 (Ex.refl e.good)⟩
theorem rv_notB {a b : Bool} : RV Ts rNotB (.bl a) (.bl b) H (.bl (!decide (a = b))) := fun H1 e _ q => ⟨a, b, rfl, rfl, q H1 (Ex.refl e.good)⟩
theorem rv_ixT {p : Addr} {xs : List V} {i : Int} (g : Good Ts H) (h : SqT K H p xs) (ha : atI xs i = some v) : RV Ts (rIxT K) (.ref p) (.int i) H v := fun H1 e _ q => ⟨p, xs, i, v, rfl, rfl, e.t g h, ha, q H1 (Ex.refl e.good)⟩
theorem en_cat {l : Addr} {xs zs : List V} (nl : l ∉ Ts) (ha : Ev Ts ta σ H (.ref l)) (hl : H l = some (.lst xs)) (hb : EvN Ts tb σ H (.lst zs)) (hz : xs.length + zs.length ≤ 100000) : EvN Ts (tOp rCat ta tb) σ H (.lst (xs ++ zs)) := fun H1 e _ q =>
  ha H1 e _ fun H2 e2 => hb H2 (e.trans e2) _ fun p H3 n e3 hp => ⟨l, p, xs, zs, rfl, rfl, ((e.trans e2).trans e3).keep l _ nl hl, hp, Nat.le_trans hz (by decide), fun p2 hp2 => q p2 _ ((e2.trans e3).back hp2) ((e2.trans e3).trans (Ex.new e3.good hp2)) upd_same⟩
theorem st_appS {R : V → Hp → Prop} {i : Nat} {l : Addr} {xs : List V} (hl : σ[i]? = some (some (.ref l))) (h : H l = some (.lst xs)) (nl : l ∉ Ts) (hy : EvS Ts te σ H0 R) (e : Ex Ts H0 H) (hz : xs.length < 100000)
    (k : ∀ y H2, Ex Ts H H2 → R y H2 → H2 l = some (.lst xs) → D.nx σ (upd H2 l (.lst (xs ++ [y])))) : tDrop (tBM K "list" rAppend (tVar i) (tCons te tNil)) D σ H :=
  ⟨_, hl, .inl ⟨rfl, _, l_of h⟩, hy H e _ fun y H2 e2 r => ⟨l, xs, y, rfl, rfl, e2.keep l _ nl h, Nat.lt_trans hz (by decide), k y H2 e2 r (e2.keep l _ nl h)⟩⟩
/-- for x in l, l a list that is held -/
theorem st_forV {i j : Nat} {a : Addr} {xs : List V} {tb : TS} (hl : σ[i]? = some (some (.ref a))) (Pv : Nat → L2.St → Hp → Prop) (h0 : Pv 0 σ H) (hL : ∀ i σ H, Pv i σ H → SqL K H a xs)
    (hs : ∀ i x σ H (N : L2.St → Hp → Prop), xs[i]? = some x → Pv i σ H → (∀ σ2 H2, Pv (i + 1) σ2 H2 → N σ2 H2) → tb { D with nx := N, ct := N, bk := D.nx } (σ.set j (some x)) H)
    (hd : ∀ σ H, Pv xs.length σ H → D.nx σ H) : tFor (iList K (tVar i)) (gName j) tb D σ H := by
  refine ⟨_, hl, a, rfl, ⟨xs, hL 0 σ H h0⟩, ?_⟩
  refine for_it (walk_list (K := K) (a := a) (xs := xs)) Pv h0 (fun i σ H _ p => hL i σ H p) (fun i x σ H3 H4 _ p y => ?_) hd
  obtain ⟨rfl, hx⟩ := y
  exact hs i x σ H4 _ hx p fun σ2 H5 p5 => p5
theorem rc_int01 {c : Nat} (h : c = 48 ∨ c = 49) : RC Ts (fun xs H Q => ∃ a n, xs = [V.str a] ∧ PySem.intText? a = some n ∧ a.length ≤ 640 ∧ Q (.int n) H) [sv [c]] H (.int ((c - 48 : Nat) : Int)) := fun H1 e _ q => by
  rcases h with rfl | rfl
  · exact ⟨S [48], 0, rfl, by decide +kernel, by decide, q H1 (Ex.refl e.good)⟩
  · exact ⟨S [49], 1, rfl, by decide +kernel, by decide, q H1 (Ex.refl e.good)⟩
end
/-! ### what is refined -/
def rf1 (c d : Nat) : Prop := c = 48 ∨ c = 49 → d = c
inductive Rfs : List Nat → List Nat → Prop
  | nil : Rfs [] []
  | cons {a b : Nat} {as bs : List Nat} : rf1 a b → Rfs as bs → Rfs (a :: as) (b :: bs)
theorem rf1_refl (c : Nat) : rf1 c c := fun _ => rfl
theorem rf1_not {a a' : Nat} (h : rf1 a a') : rf1 (notB a) (notB a') := by
  unfold rf1 notB at *
  by_cases h1 : a = 48
  · rw [h (.inl h1), h1]
    exact fun _ => rfl
  · by_cases h2 : a = 49
    · rw [h (.inr h2), h2]
      exact fun _ => rfl
    · rw [if_neg h1, if_neg h2]
      omega
theorem rf1_and {a a' b b' : Nat} (h : rf1 a a') (g : rf1 b b') : rf1 (andB a b) (andB a' b') := by
  unfold rf1 andB at *
  split
  · rename_i x
    intro _
    rw [if_pos]
    omega
  · split
    · rename_i x y
      intro _
      rw [if_neg (by omega), if_pos (by omega)]
    · omega
theorem rf1_or {a a' b b' : Nat} (h : rf1 a a') (g : rf1 b b') : rf1 (orB a b) (orB a' b') := by
  unfold rf1 orB at *
  split
  · rename_i x
    intro _
    rw [if_pos]
    omega
  · split
    · rename_i x y
      intro _
      rw [if_neg (by omega), if_pos (by omega)]
    · omega
theorem rf1_xor {a a' b b' : Nat} (h : rf1 a a') (g : rf1 b b') : rf1 (xorB a b) (xorB a' b') := by
  unfold rf1 xorB at *
  split
  · rename_i x
    intro _
    rw [h x.1, g x.2, if_pos x]
  · omega
theorem rf1_ag {a a' b b' : Nat} (h : rf1 a a') (g : rf1 b b') : rf1 (agB a b) (agB a' b') := by
  unfold rf1 agB at *
  split
  · rename_i x
    intro _
    rw [h x.2, g (by rw [← x.1]; exact x.2), if_pos x]
  · omega
theorem Rfs.len {a b : List Nat} (h : Rfs a b) : a.length = b.length := by
  induction h with
  | nil => rfl
  | cons _ _ ih => rw [List.length_cons, List.length_cons, ih]
theorem Rfs.refl : ∀ a : List Nat, Rfs a a
  | [] => .nil
  | c :: r => .cons (rf1_refl c) (Rfs.refl r)
theorem Rfs.of_eq {a b : List Nat} (h : a = b) : Rfs a b := h ▸ Rfs.refl a
theorem Rfs.append {a b c d : List Nat} (h : Rfs a b) (g : Rfs c d) : Rfs (a ++ c) (b ++ d) := by
  induction h with
  | nil => exact g
  | cons x _ ih => exact .cons x ih
theorem Rfs.take {a b : List Nat} (h : Rfs a b) : ∀ n, Rfs (a.take n) (b.take n) := by
  induction h with
  | nil => intro n; rw [List.take_nil]; exact .nil
  | cons x _ ih =>
    intro n
    cases n with
    | zero => exact .nil
    | succ n => exact .cons x (ih n)
theorem Rfs.drop {a b : List Nat} (h : Rfs a b) : ∀ n, Rfs (a.drop n) (b.drop n) := by
  induction h with
  | nil => intro n; rw [List.drop_nil]; exact .nil
  | cons x g ih =>
    intro n
    cases n with
    | zero => exact .cons x g
    | succ n => exact ih n
theorem Rfs.map {f : Nat → Nat} (hf : ∀ a b, rf1 a b → rf1 (f a) (f b)) {a b : List Nat} (h : Rfs a b) : Rfs (a.map f) (b.map f) := by
  induction h with
  | nil => exact .nil
  | cons x _ ih => exact .cons (hf _ _ x) ih
theorem Rfs.zip {f : Nat → Nat → Nat} (hf : ∀ a a' b b', rf1 a a' → rf1 b b' → rf1 (f a b) (f a' b')) {a b : List Nat} (h : Rfs a b) : ∀ {c d : List Nat}, Rfs c d → Rfs ((a.zip c).map fun p => f p.1 p.2) ((b.zip d).map fun p => f p.1 p.2) := by
  induction h with
  | nil => intro c d _; exact .nil
  | cons x _ ih =>
    intro c d g
    cases g with
    | nil => exact .nil
    | cons y g => exact .cons (hf _ _ _ _ x y) (ih g)
theorem Rfs.fold {f : Nat → Nat → Nat} (hf : ∀ a a' b b', rf1 a a' → rf1 b b' → rf1 (f a b) (f a' b')) {a b : List Nat} (h : Rfs a b) : ∀ {e e' : Nat}, rf1 e e' → rf1 (a.foldl f e) (b.foldl f e') := by
  induction h with
  | nil => exact fun g => g
  | cons x _ ih => exact fun g => ih (hf _ _ _ _ g x)
theorem Rfs.get {a b : List Nat} (h : Rfs a b) : ∀ {i c : Nat}, a[i]? = some c → ∃ d, b[i]? = some d ∧ rf1 c d := by
  induction h with
  | nil => exact fun e => by cases e
  | @cons x y as bs g _ ih =>
    intro i c e
    cases i with
    | zero =>
      cases e
      exact ⟨y, rfl, g⟩
    | succ i => exact ih e
theorem Rfs.kn {a b : List Nat} (h : Rfs a b) : kn a = true → a = b := by
  induction h with
  | nil => exact fun _ => rfl
  | @cons x y as bs g _ ih =>
    intro e
    unfold Cw.kn at e
    rw [List.all_cons, Bool.and_eq_true] at e
    have hx : x = 48 ∨ x = 49 := by simpa using e.1
    rw [g hx, ih e.2]
theorem Rfs.x {a : List Nat} : ∀ {b : List Nat}, a.length = b.length → (∀ c ∈ a, c = 120) → Rfs a b := by
  induction a with
  | nil =>
    intro b e _
    cases b with
    | nil => exact .nil
    | cons y r => cases e
  | cons c r ih =>
    intro b e h
    cases b with
    | nil => cases e
    | cons y s =>
      refine .cons ?_ (ih (Nat.succ.inj e) fun z hz => h z (List.mem_cons_of_mem _ hz))
      rw [h c (List.mem_cons_self ..)]
      intro z
      omega
theorem Rfs.rep {b : List Nat} {n : Nat} (h : n = b.length) : Rfs (List.replicate n 120) b := Rfs.x (by rw [List.length_replicate]; exact h) fun _ hc => List.eq_of_mem_replicate hc
theorem Rfs.one {c d : Nat} (h : rf1 c d) : Rfs [c] [d] := .cons h .nil
theorem Rfs.ext {a b : List Nat} (h : Rfs a b) (w : Nat) : Rfs (ext w a) (ext w b) := by
  unfold Cw.ext
  rw [h.len]
  exact (Rfs.refl _).append h
theorem Rfs.exL {a b c d : List Nat} (h : Rfs a b) (g : Rfs c d) : Rfs (exL a c) (exL b d) := by
  unfold Cw.exL wid
  rw [h.len, g.len]
  exact h.ext _
theorem Rfs.exR {a b c d : List Nat} (h : Rfs a b) (g : Rfs c d) : Rfs (exR a c) (exR b d) := by
  unfold Cw.exR wid
  rw [h.len, g.len]
  exact g.ext _
theorem Rfs.map2 {f : Nat → Nat → Nat} (hf : ∀ a a' b b', rf1 a a' → rf1 b b' → rf1 (f a b) (f a' b')) {a b c d : List Nat} (h : Rfs a b) (g : Rfs c d) : Rfs (map2 f a c) (map2 f b d) := (h.exL g).zip hf (h.exR g)
/-- what is_refined tells -/
def irB (a b : List Nat) : Bool := decide (a.length = b.length) && (a.zip b).all fun p => (!decide (p.1 ∈ [48, 49])) || decide (p.1 = p.2)
theorem ir_of {a b : List Nat} (h : Rfs a b) : irB a b = true := by
  induction h with
  | nil => rfl
  | @cons x y as bs g _ ih =>
    unfold irB at *
    rw [Bool.and_eq_true, decide_eq_true_eq] at *
    rw [List.length_cons, List.length_cons, List.zip_cons_cons, List.all_cons, Bool.and_eq_true]
    refine ⟨by omega, ?_, ih.2⟩
    by_cases hx : x = 48 ∨ x = 49
    · rw [g hx]
      simp
    · simp [hx]
theorem ir_len {a b : List Nat} (h : a.length ≠ b.length) : irB a b = false := by
  unfold irB
  rw [decide_eq_false h, Bool.false_and]
theorem ir_not {a b : List Nat} {i c d : Nat} (ha : a[i]? = some c) (hb : b[i]? = some d) (hc : c = 48 ∨ c = 49) (hd : c ≠ d) : irB a b = false := by
  unfold irB
  rw [Bool.and_eq_false_iff]
  refine .inr (List.all_eq_false.mpr ⟨(c, d), List.mem_of_getElem? (i := i) (List.getElem?_zip_eq_some.mpr ⟨ha, hb⟩), ?_⟩)
  have h1 : c ∈ [48, 49] := by simpa using hc
  show ¬ ((!decide (c ∈ [48, 49])) || decide (c = d)) = true
  rw [decide_eq_true h1, decide_eq_false hd]
  exact Bool.false_ne_true
end Cw
set_option Elab.async false
set_option linter.all false
set_option maxRecDepth 100000
set_option maxHeartbeats 2000000
/-! chains of comparisons; calls with keywords; own errors with a name -/
namespace Cw
open PySem PySem.Spec PyProof.Rows L2
section
variable {X : Cx} {a b c d : Expr} {ta tb tc td : TE} {pos : Pos}
/-- a op1 b op2 c op3 d, as a test -/
def tChain3 (r r' r'' : R2) (ta tb tc td : TE) : TE := fun σ H Q => ta σ H fun x H1 => tb σ H1 fun y H2 => r x y H2 fun z H3 => ∃ k, z = .bl k ∧
  (if k = true then tc σ H3 fun u H4 => r' y u H4 fun z' H5 => ∃ k', z' = .bl k' ∧ (if k' = true then td σ H5 fun w' H6 => r'' u w' H6 Q else Q (.bl false) H5) else Q (.bl false) H3)
theorem pt_chain3 {op op' op'' : CmpOp} {r r' r'' : R2} (ho : OpR X (compareOp op) r) (ho' : OpR X (compareOp op') r') (ho2 : OpR X (compareOp op'') r'') (ha : PE X a ta) (hb : PE X b tb) (hc : PE X c tc) (hd : PE X d td)
    (hm : lastMarks [op, op', op''] [b, c, d] = false := by with_unfolding_all rfl) : PT X (.Compare a [op, op', op''] [b, c, d] pos) (tTest (tChain3 r r' r'' ta tb tc td)) := by
  refine ⟨fun pins s σ H Q I h => ?_⟩
  refine isTrue_chain (thn (ha.run pins s σ H _ I h) fun v s1 ⟨x, H1, I1, r1, q1⟩ => test_link (thn (hb.run pins s1 σ H1 _ I1 q1) fun u s2 ⟨y, H2, I2, r2, q2⟩ =>
    thn (ho pins s2 σ H2 x y v u _ I2 r1 r2 q2) fun d3 s3 ⟨z, H3, I3, r3, k, e, q3⟩ => ?_)) hm
  subst e
  cases r3
  refine wpAny_truthy_bool ?_
  cases k with
  | false =>
    obtain ⟨k2, e2, q4⟩ := q3
    cases e2
    exact ite_ff ⟨H3, I3, q4⟩
  | true =>
    refine ite_tt (test_link (thn (hc.run pins s3 σ H3 _ I3 q3) fun u' s4 ⟨z', H4, I4, r4, q4⟩ => thn (ho' pins s4 σ H4 y z' u u' _ I4 r2 r4 q4) fun d5 s5 ⟨z5, H5, I5, r5, k', e', q5⟩ => ?_))
    subst e'
    cases r5
    refine wpAny_truthy_bool ?_
    cases k' with
    | false =>
      obtain ⟨k2, e2, q6⟩ := q5
      cases e2
      exact ite_ff ⟨H5, I5, q6⟩
    | true =>
      refine ite_tt (test_last (thn (hd.run pins s5 σ H5 _ I5 q5) fun w' s6 ⟨z6, H6, I6, r6, q6⟩ => thn (ho2 pins s6 σ H6 z' z6 u' w' _ I6 r4 r6 q6) fun d7 s7 ⟨z7, H7, I7, r7, k7, e7, q7⟩ => ?_))
      subst e7
      cases r7
      exact wpAny_truthy_bool ⟨H7, I7, q7⟩
end
/-! ### a call with keywords, that may raise -/
def tCallNS (n m : Nat) (sp : Sp) (gV : List V → List V → List V) (E : L2.St → XK) (t tk : TA) : TE := fun σ H Q => t σ H fun vs H1 => tk σ H1 fun zs H2 => vs.length = n ∧ zs.length = m ∧ sp (gV vs zs) H2 Q (E σ)
section
variable {X : Cx} {CX : CXT} {k n : Nat} {f : Addr} {fd : FuncData} {ps ks : List Str} {sp : Sp} {E : L2.St → XK} {x : Str} {p pos : Pos} {e : Expr} {es : List Expr} {kws : List Keyword} {t tk : TA} {g : List Value → List Value → List Value} {gV : List V → List V → List V}
theorem run_fnNS {pins : List (Addr × Obj)} {σ : L2.St} {H : Hp} {s : Shared} {Q : VK} {us ws : List Value} {vs zs : List V} (F : FnOk X.prog X.w X.K X.mg X.base CX k f fd ps sp) (hr : Room k X.A) (hb : KBn X.K fd ps n ks g gV) (hx : PassesAt CX X σ (E σ))
    (I : Inv X pins σ H s) (r : Vals vs us) (rz : Vals zs ws) (l1 : vs.length = n) (l2 : zs.length = ks.length) (h : sp (gV vs zs) H Q (E σ)) : wpAny (model X.prog X.w) X.A (call (.ref f) us (ks.zip ws)) (EP X pins σ Q) X.xe s := by
  have r2 := hb.rel r rz
  refine wpAny_call (codeAny_mono (F.run X.A X.stack s H ⟨us, ks.zip ws⟩ (g us ws) (gV vs zs) Q (E σ) hr I.env0 (hb.to s us ws I.kIn (r.length.symm.trans l1) (rz.length.symm.trans l2)) r2 h) fun r s' hq => ?_)
  cases r with
  | error e => exact hx pins H s e s' I hq
  | ok fl =>
    cases fl with
    | ret u => exact I.after hq
    | next => exact False.elim hq
    | brk => exact False.elim hq
    | cont => exact False.elim hq
theorem pe_callNS (F : FnOk X.prog X.w X.K X.mg X.base CX k f fd ps sp) (hr : Room k X.A) (hg : Gl X x) (hm : X.mg x = some (.ref f)) (hk : PySem.W.keepIn X.K (.ref f) = true) (hb : KBn X.K fd ps n ks g gV) (hx : ∀ σ, PassesAt CX X σ (E σ))
    (ha : PA X (e :: es) t) (hkw : PK X kws tk) (hall : (backToKw pos (keywordEach kws X.env)).all (·.1.isSome) = true := by rfl) (hks : (backToKw pos (keywordEach kws X.env)).filterMap (·.1) = ks := by rfl)
    (hdb : (x == ("__debug__" : Str)) = false := by decide) (he : starEach (e :: es) X.env = (false, eval e X.env) :: starEach es X.env := by rfl)
    (hpl : ((backTo pos (starEach (e :: es) X.env)).any (·.1) || (backToKw pos (keywordEach kws X.env)).any (·.1.isNone)) = false := by rfl) :
    PE X (.Call (.Name x p) (e :: es) kws pos) (tCallNS n ks.length sp gV E t tk) := by
  refine ⟨fun pins s σ H Q I h => ?_⟩
  refine wpAny_Call_Name_kw (ld_glob I hg hm ?_ hdb)
  refine PySem.W.callWith_KW (h₀ := X.base) I.ok.mod.kin hk hall (thn (ha.run pos pins s σ H _ I h) fun us s1 ⟨vs, H1, I1, r, q⟩ => ?_) hpl he
  refine thn (hkw.run pos pins s1 σ H1 _ I1 q) fun ws s2 ⟨zs, H2, I2, rz, l1, l2, q2⟩ => ⟨I2.kIn, ?_⟩
  rw [hks]
  exact run_fnNS F hr hb (hx σ) I2 r rz l1 l2 q2
end
/-- a def of the module that may raise -/
structure CalleeX (P : Program) (w : World) (K : PySem.W.Frag) (mg : Str → Option Value) (base : Heap) (x : Str) (k : Nat) (ps : List Str) (sp : Sp) : Prop where
  out : ∃ (f : Addr) (fd : FuncData), FnOk P w K mg base (L2.CX P w) k f fd ps sp ∧ mg x = some (.ref f) ∧ PySem.W.keepIn K (.ref f) = true ∧ Binds K fd ps []
/-- … with n values and the rest by keyword -/
structure CalleeK (P : Program) (w : World) (K : PySem.W.Frag) (mg : Str → Option Value) (base : Heap) (x : Str) (k : Nat) (ps : List Str) (n : Nat) (ks : List Str) (sp : Sp) : Prop where
  out : ∃ (f : Addr) (fd : FuncData), FnOk P w K mg base (L2.CX P w) k f fd ps sp ∧ mg x = some (.ref f) ∧ PySem.W.keepIn K (.ref f) = true ∧ KBn K fd ps n ks (fun a b => a ++ b) (fun a b => a ++ b)
theorem pe_fnX {X : Cx} {W : WX} {x : Str} {k : Nat} {ps : List Str} {sp : Sp} {p pos : Pos} {e : Expr} {es : List Expr} {t : TA} (tk : Takes X W) (C : CalleeX X.prog X.w X.K X.mg X.base x k ps sp) (hr : Room k X.A) (hg : Gl X x) (ha : PA X (e :: es) t)
    (hdb : (x == ("__debug__" : Str)) = false := by decide) (he : starEach (e :: es) X.env = (false, eval e X.env) :: starEach es X.env := by rfl) (hpl : (backTo pos (starEach es X.env)).any (·.1) = false := by rfl) :
    PE X (.Call (.Name x p) (e :: es) [] pos) (tCallS sp (WE W) t) := by
  obtain ⟨f, fd, F, hm, hk, hb⟩ := C.out
  exact pe_callS F hr hg hm hk hb (fun σ => passAt tk σ) ha hdb he hpl
theorem pe_fnK {X : Cx} {W : WX} {x : Str} {k n : Nat} {ps ks : List Str} {sp : Sp} {p pos : Pos} {e : Expr} {es : List Expr} {kws : List Keyword} {t tz : TA} (tk : Takes X W) (C : CalleeK X.prog X.w X.K X.mg X.base x k ps n ks sp) (hr : Room k X.A) (hg : Gl X x) (ha : PA X (e :: es) t) (hkw : PK X kws tz)
    (hall : (backToKw pos (keywordEach kws X.env)).all (·.1.isSome) = true := by rfl) (hks : (backToKw pos (keywordEach kws X.env)).filterMap (·.1) = ks := by rfl)
    (hdb : (x == ("__debug__" : Str)) = false := by decide) (he : starEach (e :: es) X.env = (false, eval e X.env) :: starEach es X.env := by rfl)
    (hpl : ((backTo pos (starEach (e :: es) X.env)).any (·.1) || (backToKw pos (keywordEach kws X.env)).any (·.1.isNone)) = false := by rfl) :
    PE X (.Call (.Name x p) (e :: es) kws pos) (tCallNS n ks.length sp (fun a b => a ++ b) (WE W) t tz) := by
  obtain ⟨f, fd, F, hm, hk, hb⟩ := C.out
  exact pe_callNS F hr hg hm hk hb (fun σ => passAt tk σ) ha hkw hall hks hdb he hpl
/-! ### promises of defs that may raise an error with the field «name» -/
def FnX (Ts : List Addr) {α : Type} (enc : α → List V) (dom : α → Hp → Prop) (res : α → V) (err : α → Option (Addr × V)) : Sp := fun vs H Q E => ∃ x, vs = enc x ∧ dom x H ∧ Good Ts H ∧
  (err x = none → ∀ H', Ex Ts H H' → Q (res x) H') ∧ (∀ C v, err x = some (C, v) → ∀ d H', Ex Ts H H' → H d = none → H' d = some (.xd [(("name" : Str), v)]) → E (.ref C) (some d) H')
/-- what te is worth, or the error that it ends in -/
def EvW (Ts : List Addr) (W : WX) (te : TE) (σ : L2.St) (H : Hp) (v : V) (err : Option (Addr × V)) : Prop := ∀ H1, Ex Ts H H1 → ∀ Q : VK, (err = none → ∀ H2, Ex Ts H1 H2 → Q v H2) →
  (∀ C u, err = some (C, u) → ∀ d H2, Ex Ts H1 H2 → H1 d = none → H2 d = some (.xd [(("name" : Str), u)]) → W (.ref C) (some d) σ H2) → te σ H1 Q
section
variable {Ts : List Addr} {K : PySem.W.Frag} {w : World} {σ : L2.St} {H H0 H' : Hp} {ta tb te ti : TE} {tr tz : TA} {t u : TT} {x y z v : V} {D : Ends} {W : WX} {α : Type} {enc : α → List V} {dom : α → Hp → Prop} {res : α → V} {err : α → Option (Addr × V)}
theorem ew_call (x : α) (h : EvA Ts tr σ H (enc x)) (hd : ∀ H2, Ex Ts H H2 → dom x H2) : EvW Ts W (tCallS (FnX Ts enc dom res err) (WE W) tr) σ H (res x) (err x) := fun H1 e Q q qx =>
  h H1 e _ fun H2 e2 => ⟨x, rfl, hd H2 (e.trans e2), e2.good, fun ok H3 e3 => q ok H3 (e2.trans e3), fun C u he d H3 e3 n hx => qx C u he d H3 (e2.trans e3) (e2.back n) hx⟩
theorem ew_callK {n m : Nat} {vs zs : List V} (x : α) (h : EvA Ts tr σ H vs) (hz : EvA Ts tz σ H zs) (hx : vs ++ zs = enc x) (l1 : vs.length = n) (l2 : zs.length = m) (hd : ∀ H2, Ex Ts H H2 → dom x H2) : EvW Ts W (tCallNS n m (FnX Ts enc dom res err) (fun a b => a ++ b) (WE W) tr tz) σ H (res x) (err x) := fun H1 e Q q qx =>
  h H1 e _ fun H2 e2 => hz H2 (e.trans e2) _ fun H3 e3 => ⟨l1, l2, x, hx, hd H3 ((e.trans e2).trans e3), e3.good, fun ok H4 e4 => q ok H4 ((e2.trans e3).trans e4), fun C u he d H4 e4 n hx => qx C u he d H4 ((e2.trans e3).trans e4) ((e2.trans e3).back n) hx⟩
theorem EvW.ev (h : EvW Ts W te σ H v none) : Ev Ts te σ H v := fun H1 e Q q => h H1 e Q (fun _ => q) fun C u z => by cases z
theorem EvW.ok {o : Option (Addr × V)} (h : EvW Ts W te σ H v o) (e : o = none) : Ev Ts te σ H v := by
  subst e
  exact h.ev
theorem st_dropW {o : Option (Addr × V)} (h : EvW Ts W te σ H0 v o) (e : Ex Ts H0 H) (k : o = none → ∀ H2, Ex Ts H0 H2 → D.nx σ H2) (kx : ∀ C u, o = some (C, u) → ∀ d H2, Ex Ts H0 H2 → H0 d = none → H2 d = some (.xd [(("name" : Str), u)]) → W (.ref C) (some d) σ H2) : tDrop te D σ H :=
  h H e _ (fun ok H2 e2 => k ok H2 (e.trans e2)) fun C u he d H2 e2 n hx => kx C u he d H2 (e.trans e2) (e.back n) hx
theorem st_retW {o : Option (Addr × V)} (h : EvW Ts W te σ H0 v o) (e : Ex Ts H0 H) (k : o = none → ∀ H2, Ex Ts H0 H2 → D.rt v H2) (kx : ∀ C u, o = some (C, u) → ∀ d H2, Ex Ts H0 H2 → H0 d = none → H2 d = some (.xd [(("name" : Str), u)]) → W (.ref C) (some d) σ H2) : tRet te D σ H :=
  h H e _ (fun ok H2 e2 => k ok H2 (e.trans e2)) fun C u he d H2 e2 n hx => kx C u he d H2 (e.trans e2) (e.back n) hx
theorem st_setW {i : Nat} {o : Option (Addr × V)} (h : EvW Ts W te σ H0 v o) (e : Ex Ts H0 H) (k : o = none → ∀ H2, Ex Ts H0 H2 → D.nx (σ.set i (some v)) H2) (kx : ∀ C u, o = some (C, u) → ∀ d H2, Ex Ts H0 H2 → H0 d = none → H2 d = some (.xd [(("name" : Str), u)]) → W (.ref C) (some d) σ H2) : tAsg te (gName i) D σ H :=
  h H e _ (fun ok H2 e2 => k ok H2 (e.trans e2)) fun C u he d H2 e2 n hx => kx C u he d H2 (e.trans e2) (e.back n) hx
/-! ### the error made -/
/-- __init__: self.name = name -/
def FnIni (K : PySem.W.Frag) : Sp := fun vs H Q _ => ∃ a C v, vs = [.ref a, v] ∧ H a = some (exo a C none) ∧ OexC K C ∧ PySem.W.findIn K (.ref C) "name" = some none ∧
  ∀ dx, H dx = none → dx ≠ a → Q .non (upd (upd H dx (exd dx [(("name" : Str), v)])) a (exo a C (some dx)))
theorem ini_body {C : V → Prop} {H : Hp} {v : V} {a : Addr} {Cl : Addr} {Q : VK} (T : OexC K Cl) (hno : PySem.W.findIn K (.ref Cl) "name" = some none) (ha : H a = some (exo a Cl none)) (q : ∀ dx, H dx = none → dx ≠ a → Q .non (upd (upd H dx (exd dx [(("name" : Str), v)])) a (exo a Cl (some dx)))) :
    tOst K "name" (tVar 0) (tVar 1) { nx := fun _ H' => Q .non H', rt := Q } [some (.ref a), some v] H :=
  ⟨v, rfl, .ref a, rfl, a, Cl, rfl, T, hno, .inl ⟨ha, fun dx n ne => q dx n ne⟩⟩
/-- raise C(v) -/
theorem st_raise {Cl : Addr} {ta : TA} (hv : EvA Ts ta σ H0 [v]) (T : OexC K Cl) (hno : PySem.W.findIn K (.ref Cl) "name" = some none) (e : Ex Ts H0 H) (k : ∀ d H2, Ex Ts H0 H2 → H0 d = none → H2 d = some (.xd [(("name" : Str), v)]) → W (.ref Cl) (some d) σ H2) :
    tMkO Cl (FnIni K) [] ta σ H fun cls d H' => W cls d σ H' := hv H e _ fun H1 e1 => ⟨by show 1 ≤ 1000; decide, fun a na => ⟨a, Cl, v, rfl, upd_same, T, hno, fun dx n ne => ⟨rfl, dx, [(("name" : Str), v)], upd_same, by rw [upd_ne ne, upd_same], by rw [upd_ne ne] at n; exact n, by
  have n1 : H1 dx = none := by
    rw [upd_ne ne] at n
    exact n
  have nT : dx ∉ Ts := e1.good.free n1
  have eq : upd (del (upd (upd (upd H1 a (exo a Cl none)) dx (exd dx [(("name" : Str), v)])) a (exo a Cl (some dx))) a) dx (.xd [(("name" : Str), v)]) = upd H1 dx (.xd [(("name" : Str), v)]) := by
    funext b
    by_cases hb : b = dx
    · rw [hb, upd_same, upd_same]
    · rw [upd_ne hb, upd_ne hb]
      by_cases hb2 : b = a
      · rw [hb2, del_same, na]
      · rw [del_ne hb2, upd_ne hb2, upd_ne hb, upd_ne hb2]
  rw [eq]
  exact k dx _ ((e.trans e1).trans (Ex.new e1.good n1)) ((e.trans e1).back n1) upd_same⟩⟩⟩
end
end Cw
set_option Elab.async false
set_option linter.all false
set_option maxRecDepth 100000
set_option maxHeartbeats 2000000
/-! an error in hand: its name, its class; chains; lists copied -/
namespace Cw
open PySem PySem.Spec PyProof.Rows L2
theorem pe_globI {X : Cx} {x : Str} {i : Int} {pos : Pos} (hg : Gl X x) (hm : ∃ t, X.mg x = some (.int i t)) (hd : (x == ("__debug__" : Str)) = false := by decide) : PE X (.Name x pos) (tC (.int i)) := by
  obtain ⟨t, hm⟩ := hm
  exact pe_glob hg hm ⟨t, rfl⟩ hd
/-- what an own class over ValueError must say, that its errors are made, held and asked -/
structure ErrC (K : PySem.W.Frag) (mg : Str → Option Value) (x : Str) (C fI : Addr) : Prop where
  gC : mg x = some (.ref C)
  o : OexC K C
  xf : XfC K C
  noN : PySem.W.findIn K (.ref C) "name" = some none
  iC : PySem.W.findIn K (.ref C) "__init__" = some (some (.ref fI))
  tI : PySem.W.typeIn K (.ref fI) = some (.type "function")
  cC : PySem.W.findIn K (.ref C) "__class__" = some (some (.builtin "object.__class__"))
  nC : PySem.W.specialIn K (.builtin "object.__class__") "__get__" = some (some (.builtin "getset_descriptor.__get__"))
  kC : PySem.W.takesIn K (.builtin "object.__class__") = some true
  mC : PySem.W.mroIn K C (.type "object") = some true
  lC : PySem.W.isClsIn K C = true
/-- isinstance(e, c), e the error that the suite holds -/
def rIsX (K : PySem.W.Frag) (mg : Str → Option Value) (a : Addr) (cls : Value) (d : Option Addr) : List V → Hp → VK → Prop := fun xs H Q => ∃ (x : Str) (D fI : Addr) (c : V) (cv : Value) (b : Bool) (dd : Addr) (fs : List (Str × V)), xs = [.ref a, c] ∧ cls = .ref D ∧ ErrC K mg x D fI ∧ d = some dd ∧ H dd = some (.xd fs) ∧
  (∀ u, RelV c u → u = cv) ∧ PySem.W.kitOne K (.ref D) cv = some b ∧ Q (.bl b) H
theorem call_isX {X : Cx} {a : Addr} {cls : Value} {d : Option Addr} {oe : Obj} {pn : List (Addr × Obj)} (hz : Zc cls d oe) (hf : ∃ vs, oe.data = .fields vs) : CallR (X.suite a ((a, oe) :: pn)) (.builtin "isinstance") (rIsX X.K X.mg a cls d) := by
  intro pins s σ H xs us Q I r h
  obtain ⟨x, D, fI, c, cv, b, dd, fs, rfl, ec, C, ed, hH, hcv, e, q⟩ := h
  subst ec ed
  cases r with
  | cons rx rr =>
    cases rr with
    | cons rt rr =>
      cases rr
      cases rx
      have ec := hcv _ rt
      subst ec
      obtain ⟨hget, _⟩ := I.pin (a, oe) (List.mem_append.mpr (.inl List.mem_cons_self))
      obtain ⟨vs, hv⟩ := hf
      have hx : ObjOk X.prog X.w H s.heap dd (.xd fs) := I.hok dd _ hH
      obtain ⟨mA, hns, hr⟩ := hx
      obtain ⟨od, ho, hl⟩ := lookIn_ns hns
      have J : PySem.W.InstAt s.heap a oe D (some od) := ⟨hget, hz.1, by unfold PySem.W.notCls; rw [hv] <;> rfl, by rw [hz.2]; exact ho⟩
      exact PySem.W.kia_one (PySem.W.kitx_exc (od := some od) C.lC C.xf.ga C.xf.gg C.xf.exC C.cC C.nC C.kC C.mC) I.kIn J e (fun z => nomatch z) fun tk => ⟨.bl b, H, I.kept (t' := tk) fun _ _ z => z, rfl, q⟩
/-- e.n, e the error that the suite holds -/
def tXn (K : PySem.W.Frag) (mg : Str → Option Value) (a : Addr) (cls : Value) (d : Option Addr) (f : Str) (te : TE) : TE := fun σ H Q => te σ H fun x H1 => x = .ref a ∧ ∃ (y : Str) (C fI : Addr) (dd : Addr) (fs : List (Str × V)) (v : V), cls = .ref C ∧ ErrC K mg y C fI ∧ f = "name" ∧ d = some dd ∧ H1 dd = some (.xd fs) ∧ fs.lookup f = some v ∧ Q v H1
theorem pe_xn {X : Cx} {a : Addr} {oe : Obj} {cls : Value} {d : Option Addr} {pn : List (Addr × Obj)} {e : Expr} {te : TE} {pos : Pos} {n : Str} (hz : Zc cls d oe) (hf : ∃ vs, oe.data = .fields vs) (he : PE (X.suite a ((a, oe) :: pn)) e te)
    (hb : attributeBase e n X.env (eval e X.env) = eval e X.env := by rfl) : PE (X.suite a ((a, oe) :: pn)) (.Attribute e n pos) (tXn X.K X.mg a cls d n te) := by
  refine ⟨fun pins s σ H Q I h => ?_⟩
  refine attr_of hb (thn (he.run pins s σ H _ I h) fun u s1 hh => ?_)
  obtain ⟨x, H1, I1, rx, ex, y, C, fI, dd, fs, v, ec, T, en, ed, ea, l, q⟩ := hh
  subst ex
  obtain rfl : u = Value.ref a := rx
  subst ec ed en
  obtain ⟨ha, _⟩ := I1.pin (a, oe) (List.mem_append_left _ List.mem_cons_self)
  obtain ⟨vs, hd⟩ := hf
  have hx : ObjOk X.prog X.w H1 s1.heap dd (.xd fs) := I1.hok dd _ ea
  obtain ⟨mA, hns, hr⟩ := hx
  obtain ⟨od, ho, hl⟩ := lookIn_ns hns
  obtain ⟨u, hu, ru⟩ := RelO.some_of (v := v) (o := mA "name") (by rw [← l]; exact hr "name")
  have J : PySem.W.InstAt s1.heap a oe C (some od) := ⟨ha, hz.1, by unfold PySem.W.notCls; rw [hd] <;> rfl, by rw [hz.2]; exact ho⟩
  exact HandSPX.exc_get I1.kIn J T.xf.ga T.xf.gg T.xf.exC (PySem.W.findObj_own T.xf.hdC T.noN rfl (by rw [hl, hu])) (handed_of ru) ⟨v, H1, I1.tok _, ru, q⟩
section
variable {Ts : List Addr} {K : PySem.W.Frag} {mg : Str → Option Value} {w : World} {σ : L2.St} {H H0 H' : Hp} {ta tb tc td te ti : TE} {tr tz : TA} {t u : TT} {x y z v : V} {D : Ends} {W : WX} {r r' r'' : R2}
theorem name_at (v : V) : List.lookup ("name" : Str) [(("name" : Str), v)] = some v := by simp [List.lookup]
theorem ev_xn {a dd C fI : Addr} {s : Str} (he : Ev Ts te σ H (.ref a)) (T : ErrC K mg s C fI) (nd : dd ∉ Ts) (hx : H dd = some (.xd [(("name" : Str), v)])) : Ev Ts (tXn K mg a (.ref C) (some dd) "name" te) σ H v := fun H1 e Q q =>
  he H1 e _ fun H2 e2 => ⟨rfl, s, C, fI, dd, _, v, rfl, T, rfl, rfl, (e.trans e2).keep dd _ nd hx, name_at v, q H2 e2⟩
theorem rc_isX {a dd C fI c : Addr} {s : Str} {b : Bool} {fs : List (Str × V)} (T : ErrC K mg s C fI) (nd : dd ∉ Ts) (hx : H dd = some (.xd fs)) (hk : PySem.W.kitOne K (.ref C) (.ref c) = some b) : RC Ts (rIsX K mg a (.ref C) (some dd)) [.ref a, .ref c] H (.bl b) := fun H1 e _ q =>
  ⟨s, C, fI, .ref c, .ref c, b, dd, fs, rfl, rfl, T, rfl, e.keep dd _ nd hx, fun _ r => r, hk, q H1 (Ex.refl e.good)⟩
theorem rc_isiI {n : String} {i : Int} {b : Bool} (h : kitB "int" n = some b) : RC Ts (rIsi K) [.int i, .ty n] H (.bl b) := fun H1 e _ q => ⟨.int i, .ty n, .type "int", .type n, b, rfl, .ty _, .base (.int _), kit_ty h, q H1 (Ex.refl e.good)⟩
/-! ### chains -/
theorem ev_chain {k k' : Bool} (ha : Ev Ts ta σ H x) (hb : Ev Ts tb σ H y) (hr : RV Ts r x y H (.bl k)) (hc : k = true → Ev Ts tc σ H z) (hr' : k = true → RV Ts r' y z H (.bl k')) : Ev Ts (tChain r r' ta tb tc) σ H (.bl (k && k')) := fun H1 e Q q =>
  ha H1 e _ fun H2 e2 => hb H2 (e.trans e2) _ fun H3 e3 => hr H3 ((e.trans e2).trans e3) _ fun H4 e4 => ⟨k, rfl, by
    have e14 := (e2.trans e3).trans e4
    cases k with
    | false =>
      rw [if_neg Bool.false_ne_true]
      exact q H4 e14
    | true =>
      rw [if_pos rfl]
      exact hc rfl H4 (e.trans e14) _ fun H5 e5 => hr' rfl H5 ((e.trans e14).trans e5) Q fun H6 e6 => q H6 ((e14.trans e5).trans e6)⟩
theorem ev_chain3 {k k' k2 : Bool} (ha : Ev Ts ta σ H x) (hb : Ev Ts tb σ H y) (hr : RV Ts r x y H (.bl k)) (hc : k = true → Ev Ts tc σ H z) (hr' : k = true → RV Ts r' y z H (.bl k')) (hd : k = true → k' = true → Ev Ts td σ H v) (hr2 : k = true → k' = true → RV Ts r'' z v H (.bl k2)) :
    Ev Ts (tChain3 r r' r'' ta tb tc td) σ H (.bl (k && (k' && k2))) := fun H1 e Q q =>
  ha H1 e _ fun H2 e2 => hb H2 (e.trans e2) _ fun H3 e3 => hr H3 ((e.trans e2).trans e3) _ fun H4 e4 => ⟨k, rfl, by
    have e14 := (e2.trans e3).trans e4
    cases k with
    | false =>
      rw [if_neg Bool.false_ne_true]
      exact q H4 e14
    | true =>
      rw [if_pos rfl]
      refine hc rfl H4 (e.trans e14) _ fun H5 e5 => hr' rfl H5 ((e.trans e14).trans e5) _ fun H6 e6 => ⟨k', rfl, ?_⟩
      have e16 := (e14.trans e5).trans e6
      cases k' with
      | false =>
        rw [if_neg Bool.false_ne_true]
        exact q H6 e16
      | true =>
        rw [if_pos rfl]
        exact hd rfl rfl H6 (e.trans e16) _ fun H7 e7 => hr2 rfl rfl H7 ((e.trans e16).trans e7) Q fun H8 e8 => q H8 ((e16.trans e7).trans e8)⟩
/-! ### copies; join of what is held -/
def rListOf (K : PySem.W.Frag) : List V → Hp → VK → Prop := fun xs H Q => ∃ p ys, xs = [.ref p] ∧ (SqL K H p ys ∨ SqT K H p ys) ∧ ∀ l, H l = none → Q (.ref l) (upd H l (.lst ys))
def rTupOf (K : PySem.W.Frag) : List V → Hp → VK → Prop := fun xs H Q => ∃ p ys, xs = [.ref p] ∧ ((SqL K H p ys ∧ ∀ l, H l = none → Q (.ref l) (upd H l (.tup ys))) ∨ (SqT K H p ys ∧ Q (.ref p) H))
theorem en_listOf {l : Addr} {xs : List V} (nl : l ∉ Ts) (ha : Ev Ts ta σ H (.ref l)) (hl : H l = some (.lst xs)) : EvN Ts (tCB (rListOf K) (tCons ta tNil)) σ H (.lst xs) := fun H1 e _ q =>
  ha H1 e _ fun H2 e2 => ⟨l, xs, rfl, .inl (l_of ((e.trans e2).keep l _ nl hl)), fun p hp => q p _ (e2.back hp) (e2.trans (Ex.new e2.good hp)) upd_same⟩
theorem en_tupOf {l : Addr} {xs : List V} (nl : l ∉ Ts) (ha : Ev Ts ta σ H (.ref l)) (hl : H l = some (.lst xs)) : EvN Ts (tCB (rTupOf K) (tCons ta tNil)) σ H (.tup xs) := fun H1 e _ q =>
  ha H1 e _ fun H2 e2 => ⟨l, xs, rfl, .inl ⟨l_of ((e.trans e2).keep l _ nl hl), fun p hp => q p _ (e2.back hp) (e2.trans (Ex.new e2.good hp)) upd_same⟩⟩
theorem ev_joinV {ls : List (List Nat)} {p : Addr} {to te : TE} (ho : Ev Ts to σ H (sv [])) (h : Ev Ts te σ H (.ref p)) (g : Good Ts H) (hp : SqL K H p (ls.map sv) ∨ SqT K H p (ls.map sv)) (hl : ls.flatten.length ≤ 100000) (ty : ∀ H, tyV K "str" (sv []) H) :
    Ev Ts (tBM K "str" (fun x xs H Q => ∃ a p, ∃ ys : List Str, x = .str a ∧ xs = [.ref p] ∧ (SqL K H p (ys.map V.str) ∨ SqT K H p (ys.map V.str)) ∧ (ys.map (·.length)).sum + ys.length * a.length ≤ 16777216 ∧ Q (.str (Txt.join a ys)) H) to (tCons te tNil))
      σ H (sv ls.flatten) := fun H1 e Q q =>
  ho H1 e _ fun H2 e2 => ⟨ty H2, h H2 (e.trans e2) _ fun H3 e3 => ⟨S [], p, ls.map S, rfl, rfl, (by
    rw [map_sv]
    rcases hp with hp | hp
    · exact .inl (((e.trans e2).trans e3).l g hp)
    · exact .inr (((e.trans e2).trans e3).t g hp)), by
    rw [len_sum, S_len]
    show ls.flatten.length + (ls.map S).length * 0 ≤ 16777216
    omega, by
    rw [join_nil]
    exact q H3 (e2.trans e3)⟩⟩
theorem ev_bits {i : Int} (h : Ev Ts te σ H (.int i)) : Ev Ts (tBits te) σ H (.int (Builtin.Int.intBits i : Nat)) := fun H1 e Q q => h H1 e _ fun H2 e2 => ⟨i, rfl, q H2 e2⟩
theorem st_insW {i : Nat} {l : Addr} {xs : List V} {o : Option (Addr × V)} (hl : σ[i]? = some (some (.ref l))) (h : H l = some (.lst xs)) (nl : l ∉ Ts) (hy : EvW Ts W te σ H y o) (ok : o = none) (g : Good Ts H) (hz : xs.length < 100000)
    (k : ∀ H2, Ex Ts H H2 → H2 l = some (.lst xs) → D.nx σ (upd H2 l (.lst (y :: xs)))) :
    tDrop (tBM K "list" (fun x vs H Q => ∃ (l : Addr) (xs : List V) (i : Int) (y : V), x = .ref l ∧ vs = [.int i, y] ∧ H l = some (.lst xs) ∧ xs.length < sizeLine ∧ 0 ≤ i ∧ i < 2 ^ 63 ∧ Q .non (upd H l (.lst (xs.take i.toNat ++ [y] ++ xs.drop i.toNat)))) (tVar i) (tCons (tC (.int 0)) (tCons te tNil))) D σ H :=
  ⟨_, hl, .inl ⟨rfl, _, l_of h⟩, (hy.ok ok) H (Ex.refl g) _ fun H2 e2 => ⟨l, xs, 0, y, rfl, rfl, e2.keep l _ nl h, Nat.lt_trans hz (by decide), by decide, by decide, k H2 e2 (e2.keep l _ nl h)⟩⟩
theorem st_appW {i : Nat} {l : Addr} {xs : List V} {o : Option (Addr × V)} (hl : σ[i]? = some (some (.ref l))) (h : H l = some (.lst xs)) (nl : l ∉ Ts) (hy : EvW Ts W te σ H y o) (ok : o = none) (g : Good Ts H) (hz : xs.length < 100000)
    (k : ∀ H2, Ex Ts H H2 → H2 l = some (.lst xs) → D.nx σ (upd H2 l (.lst (xs ++ [y])))) : tDrop (tBM K "list" rAppend (tVar i) (tCons te tNil)) D σ H :=
  st_app hl h nl (hy.ok ok) (Ex.refl g) hz k
end
section
variable {P : Program} {w : World} {K : PySem.W.Frag} {mg : Str → Option Value} {base : Heap}
theorem fun_okX {x qual : Str} {st : Stmt} {f : Addr} {fd : FuncData} {N ps : List Str} {k : Nat} {sp : Sp} (F : Fun K x qual st f fd) (S : FnScope N ps (defScope st)) (len : ∀ vs H Q E, sp vs H Q E → vs.length = ps.length)
    (hb : ∀ (cdv : Value) (A : Around) (outer : List Env) (s : Shared) (H : Hp) (vs : List V) (Q : VK) (E : XK), Room k (A.deeper (envOfC qual (defScope st) s.heap.objs.size f cdv)) → sp vs H Q E →
      ∃ t, PSs (cxOf (L2.CX P w) P w K mg base N qual (defScope st) f cdv A outer s H E) (defBody st) t ∧ t { nx := fun _ H' => Q .non H', rt := Q } (L2.start N vs) H) : FnOk P w K mg base (L2.CX P w) (k + 1) f fd ps sp := by
  obtain ⟨oc, od, kV, doc, pm, an, cdv, ct, osl, rfl, lk, hcd⟩ := F.ex
  exact fn_of lk hcd S len fun A outer s H vs Q E hr hsp => hb cdv A outer s H vs Q E hr hsp
/-- an error's class with its __init__ -/
structure IniC (P : Program) (w : World) (K : PySem.W.Frag) (mg : Str → Option Value) (base : Heap) (x : Str) (C : Addr) : Prop where
  out : ∃ (fI : Addr) (fd : FuncData), ErrC K mg x C fI ∧ FnOk P w K mg base CX0 1 fI fd ["self", "name"] (FnIni K) ∧ Binds K fd ["self", "name"] []
theorem pmk_err {X : Cx} {x : Str} {C : Addr} {k : Nat} {e : Expr} {ta : TA} {p pos : Pos} (I : IniC X.prog X.w X.K X.mg X.base x C) (hr : Room 2 X.A) (hg : Gl X x) (ha : PA X [e] ta)
    (hdb : (x == ("__debug__" : Str)) = false := by decide) (he : starEach [e] X.env = (false, eval e X.env) :: starEach [] X.env := by rfl) (hpl : (backTo pos (starEach [] X.env)).any (·.1) = false := by rfl) :
    PMk X (.Call (.Name x p) [e] [] pos) (tMkO C (FnIni X.K) [] ta) := by
  obtain ⟨fI, fd, T, F, hb⟩ := I.out
  exact pmk_oex T.o T.iC T.tI F hr hb .nil pass0 hg T.gC ha hdb he hpl
theorem ps_err {X : Cx} {W : WX} {x : Str} {C : Addr} {e : Expr} {ta : TA} {p pos pos2 : Pos} (hc : X.calm = true) (tk : Takes X W) (I : IniC X.prog X.w X.K X.mg X.base x C) (hr : Room 2 X.A) (hg : Gl X x) (ha : PA X [e] ta)
    (hdb : (x == ("__debug__" : Str)) = false := by decide) (he : starEach [e] X.env = (false, eval e X.env) :: starEach [] X.env := by rfl) (hpl : (backTo pos (starEach [] X.env)).any (·.1) = false := by rfl) :
    PS X (.Raise (some (.Call (.Name x p) [e] [] pos)) none pos2) (fun _ σ H => tMkO C (FnIni X.K) [] ta σ H fun cls d H' => W cls d σ H') := ps_raise hc tk (pmk_err (k := 0) I hr hg ha hdb he hpl)
theorem exm_err {x : Str} {C R fI : Addr} (hxC : PySem.W.subIn K (.ref R) (.type "BaseException") = some true) (hd : PySem.W.hasDictIn K R = true) (ht : PySem.W.typeIn K (.ref R) = some (.type "type")) (hs : PySem.W.subIn K (.ref C) (.ref R) = some true) : PySem.W.exmOne K (.ref C) (.ref R) = some true := PySem.W.exm_ref hxC hd ht hs
/-- a try whose body ends in an error that the clause takes -/
theorem st_caught {Ts : List Addr} {σ : L2.St} {H H0 : Hp} {D : Ends} {W : WX} {c : Value} {i : Nat} {ts : Addr → Value → Option Addr → TS} {te : TE} {z v : V} {C : Addr}
    (h : EvW Ts (wAs K c i ts W D) te σ H0 z (some (C, v))) (e : Ex Ts H0 H) (hm : PySem.W.exmOne K (.ref C) c = some true)
    (k : ∀ a d H2, Ex Ts H0 H2 → d ∉ Ts → H2 d = some (.xd [(("name" : Str), v)]) → ts a (.ref C) (some d) { nx := fun σ' H' => D.nx (σ'.set i none) H', rt := D.rt, bk := fun σ' H' => D.bk (σ'.set i none) H', ct := fun σ' H' => D.ct (σ'.set i none) H' } (σ.set i (some (.ref a))) H2) :
    tDrop te D σ H := st_dropW h e (fun z => by cases z) fun C' u he d H2 e2 n hx => by
  cases he
  exact ⟨true, hm, fun _ a _ => k a d H2 e2 (e2.good.out fun ps z => by rw [hx] at z; cases z) hx, fun z => by cases z⟩
end
end Cw
namespace Cw
open PySem PySem.Spec PyProof.Rows L2
theorem kbn_mk {K : PySem.W.Frag} {x qual : Str} {st : Stmt} {f : Addr} {oc : Value} {od an : Option Addr} {osl : Array (Option Value)} {kV doc pm cdv ct : Value} {ps ks : List Str} {n : Nat}
    (l : K.lookup f = some ⟨oc, od, .func (PySem.W.fnOf x qual (defArgs st) (defBody st) (defScope st) .none kV doc pm an cdv ct), osl⟩)
    (h : ∀ us ws : List Value, us.length = n → ws.length = ks.length → bindArgs (PySem.W.fnOf x qual (defArgs st) (defBody st) (defScope st) .none kV doc pm an cdv ct) ⟨us, ks.zip ws⟩ = pure (ps.zip (us ++ ws))) :
    KBn K (PySem.W.fnOf x qual (defArgs st) (defBody st) (defScope st) .none kV doc pm an cdv ct) ps n ks (fun a b => a ++ b) (fun a b => a ++ b) :=
  ⟨fun s us ws _ l1 l2 => .of_eq (h us ws l1 l2), fun r z => r.append z⟩
end Cw
namespace Cw
open PySem PySem.Spec PyProof.Rows L2
section
variable {Ts : List Addr} {σ : L2.St} {H : Hp} {ta tb : TE}
theorem ev_orT (h1 : Ev Ts ta σ H (.bl true)) : Ev Ts (tOrV ta tb) σ H (.bl true) := fun H1 e Q q => h1 H1 e _ fun H2 e2 => ⟨true, rfl, q H2 e2⟩
theorem ev_orF {b : Bool} (h1 : Ev Ts ta σ H (.bl false)) (h2 : Ev Ts tb σ H (.bl b)) : Ev Ts (tOrV ta tb) σ H (.bl b) := fun H1 e Q q => h1 H1 e _ fun H2 e2 => ⟨false, rfl, h2 H2 (e.trans e2) Q fun H3 e3 => q H3 (e2.trans e3)⟩
end
end Cw
namespace Cw
open PySem PySem.Spec PyProof.Rows L2
theorem tk0 {X : Cx} : Takes X (fun _ _ _ _ => False) := fun _ _ x => by
  obtain ⟨_, _, _, _, _, _, _, _, _, _, _, _, _, _, _, _, z⟩ := x
  exact z.elim
end Cw
namespace Cw
open PySem PySem.Spec PyProof.Rows L2
section
variable {Ts : List Addr} {σ : L2.St} {H H0 : Hp} {ta tb te : TE} {tc : TT} {t1 : TS} {D : Ends} {W : WX} {α : Type} {enc : α → List V} {dom : α → Hp → Prop} {res : α → V} {err : α → Option (Addr × V)}
theorem st_ifP {b : Bool} (Pv : L2.St → Hp → Prop) (h : EvT Ts tc σ H0 b) (e : Ex Ts H0 H) (k1 : ∀ H2, Ex Ts H0 H2 → b = true → ∀ D' : Ends, (∀ σ2 H3, Pv σ2 H3 → D'.nx σ2 H3) → t1 D' σ H2) (k2 : ∀ H2, Ex Ts H0 H2 → b = false → Pv σ H2) (k : ∀ σ2 H2, Pv σ2 H2 → D.nx σ2 H2) : tIfS tc t1 tNext D σ H :=
  st_if h e (fun H2 e2 hb => k1 H2 e2 hb D k) fun H2 e2 hb => k _ _ (k2 H2 e2 hb)
theorem ev_callN1 {R : HO} {z : V} (h : EvN Ts te σ H R) (x : Addr → α) (hx : ∀ p, enc (x p) = [.ref p]) (hd : ∀ p H2, Ex Ts H H2 → H2 p = some R → dom (x p) H2) (hz : ∀ p, res (x p) = z) (he : ∀ p, err (x p) = none) : Ev Ts (tCallS (FnX Ts enc dom res err) (WE W) (tCons te tNil)) σ H z := fun H1 e Q q =>
  h H1 e _ fun p H2 n e2 hp => ⟨x p, (hx p).symm, hd p H2 (e.trans e2) hp, e2.good, fun _ H3 e3 => by
    rw [hz p]
    exact q H3 (e2.trans e3), fun C u z => by
    rw [he p] at z
    cases z⟩
end
end Cw
set_option Elab.async false
set_option linter.all false
set_option maxRecDepth 100000
set_option maxHeartbeats 2000000
namespace K01
open PySem PySem.Spec PyProof.Rows L2 Cw
open GxR (TabG Tabbed TabB GenS)
def topS (i : Nat) : Stmt := PySem.Challenge.pw_clockwright_k01_numbers_and_vectors.main.body.getD i (.Pass ⟨0, 0, 0, 0⟩)
def clsS (i j : Nat) : Stmt := match topS i with
  | .ClassDef (body := b) .. => b.getD j (.Pass ⟨0, 0, 0, 0⟩)
  | _ => .Pass ⟨0, 0, 0, 0⟩
abbrev s_consists_of : Stmt := topS 7
theorem sc_consists_of : FnScope ["text", "characters"] ["text", "characters"] (defScope s_consists_of) := ⟨rfl, rfl, rfl, by decide +kernel, rfl, by decide +kernel, by decide +kernel⟩
abbrev s_check_width : Stmt := topS 8
theorem sc_check_width : FnScope ["width"] ["width"] (defScope s_check_width) := ⟨rfl, rfl, rfl, by decide +kernel, rfl, by decide +kernel, by decide +kernel⟩
abbrev s_extended : Stmt := topS 9
theorem sc_extended : FnScope ["vector", "width"] ["vector", "width"] (defScope s_extended) := ⟨rfl, rfl, rfl, by decide +kernel, rfl, by decide +kernel, by decide +kernel⟩
abbrev s_low_bits : Stmt := topS 10
theorem sc_low_bits : FnScope ["number", "width"] ["number", "width"] (defScope s_low_bits) := ⟨rfl, rfl, rfl, by decide +kernel, rfl, by decide +kernel, by decide +kernel⟩
abbrev s_is_vector : Stmt := topS 11
theorem sc_is_vector : FnScope ["value"] ["value"] (defScope s_is_vector) := ⟨rfl, rfl, rfl, by decide +kernel, rfl, by decide +kernel, by decide +kernel⟩
abbrev s_is_known : Stmt := topS 12
theorem sc_is_known : FnScope ["vector"] ["vector"] (defScope s_is_known) := ⟨rfl, rfl, rfl, by decide +kernel, rfl, by decide +kernel, by decide +kernel⟩
abbrev s_to_number : Stmt := topS 13
theorem sc_to_number : FnScope ["vector"] ["vector"] (defScope s_to_number) := ⟨rfl, rfl, rfl, by decide +kernel, rfl, by decide +kernel, by decide +kernel⟩
abbrev s_from_number : Stmt := topS 14
theorem sc_from_number : FnScope ["number", "width"] ["number", "width"] (defScope s_from_number) := ⟨rfl, rfl, rfl, by decide +kernel, rfl, by decide +kernel, by decide +kernel⟩
abbrev s_least_width : Stmt := topS 15
theorem sc_least_width : FnScope ["number"] ["number"] (defScope s_least_width) := ⟨rfl, rfl, rfl, by decide +kernel, rfl, by decide +kernel, by decide +kernel⟩
abbrev s_resize : Stmt := topS 16
theorem sc_resize : FnScope ["vector", "width"] ["vector", "width"] (defScope s_resize) := ⟨rfl, rfl, rfl, by decide +kernel, rfl, by decide +kernel, by decide +kernel⟩
abbrev s_part : Stmt := topS 17
theorem sc_part : FnScope ["vector", "high", "low", "width"] ["vector", "high", "low"] (defScope s_part) := ⟨rfl, rfl, rfl, by decide +kernel, rfl, by decide +kernel, by decide +kernel⟩
abbrev s_join : Stmt := topS 18
theorem sc_join : FnScope ["vectors", "whole"] ["vectors"] (defScope s_join) := ⟨rfl, rfl, rfl, by decide +kernel, rfl, by decide +kernel, by decide +kernel⟩
abbrev s_law_numbers : Stmt := topS 20
theorem sc_law_numbers : FnScope ["script", "base", "many", "numbers", "seed", "cell", "rest", "spin", "k"] ["script", "base", "many"] (defScope s_law_numbers) := ⟨rfl, rfl, rfl, by decide +kernel, rfl, by decide +kernel, by decide +kernel⟩
abbrev s_law_cell : Stmt := topS 21
theorem sc_law_cell : FnScope ["script", "k"] ["script", "k"] (defScope s_law_cell) := ⟨rfl, rfl, rfl, by decide +kernel, rfl, by decide +kernel, by decide +kernel⟩
abbrev s_law_bits : Stmt := topS 22
theorem sc_law_bits : FnScope ["number", "width", "place"] ["number", "width"] (defScope s_law_bits) := ⟨rfl, rfl, rfl, by decide +kernel, rfl, by decide +kernel, by decide +kernel⟩
abbrev s_law_vector : Stmt := topS 23
theorem sc_law_vector : FnScope ["numbers", "size", "plain", "signs", "number"] ["numbers", "size", "plain"] (defScope s_law_vector) := ⟨rfl, rfl, rfl, by decide +kernel, rfl, by decide +kernel, by decide +kernel⟩
abbrev s_law_text : Stmt := topS 24
theorem sc_law_text : FnScope ["vector", "width"] ["vector", "width"] (defScope s_law_text) := ⟨rfl, rfl, rfl, by decide +kernel, rfl, by decide +kernel, by decide +kernel⟩
abbrev s_law_refuses_width : Stmt := topS 25
theorem sc_law_refuses_width : FnScope ["width", "number", "error"] ["width", "number"] (defScope s_law_refuses_width) := ⟨rfl, rfl, rfl, by decide +kernel, rfl, by decide +kernel, by decide +kernel⟩
abbrev s_law_refuses_part : Stmt := topS 26
theorem sc_law_refuses_part : FnScope ["vector", "high", "low", "error"] ["vector", "high", "low"] (defScope s_law_refuses_part) := ⟨rfl, rfl, rfl, by decide +kernel, rfl, by decide +kernel, by decide +kernel⟩
abbrev s_law_refuses_number : Stmt := topS 27
theorem sc_law_refuses_number : FnScope ["vector", "error"] ["vector"] (defScope s_law_refuses_number) := ⟨rfl, rfl, rfl, by decide +kernel, rfl, by decide +kernel, by decide +kernel⟩
abbrev s_law_numbers_hold : Stmt := topS 28
theorem sc_law_numbers_hold : FnScope ["number", "width", "vector", "due", "least"] ["number", "width"] (defScope s_law_numbers_hold) := ⟨rfl, rfl, rfl, by decide +kernel, rfl, by decide +kernel, by decide +kernel⟩
abbrev s_law_parts_hold : Stmt := topS 29
theorem sc_law_parts_hold : FnScope ["vector", "high", "low", "size", "middle", "pieces"] ["vector", "high", "low"] (defScope s_law_parts_hold) := ⟨rfl, rfl, rfl, by decide +kernel, rfl, by decide +kernel, by decide +kernel⟩
abbrev s_law : Stmt := topS 30
theorem sc_law : FnScope ["script", "number", "width", "numbers", "size", "vector", "wider", "known", "sign"] ["script"] (defScope s_law) := ⟨rfl, rfl, rfl, by decide +kernel, rfl, by decide +kernel, by decide +kernel⟩
abbrev s_Unknown_init : Stmt := clsS 2 0
theorem sc_Unknown_init : FnScope ["self", "name"] ["self", "name"] (defScope s_Unknown_init) := ⟨rfl, rfl, rfl, by decide +kernel, rfl, by decide +kernel, by decide +kernel⟩
abbrev s_Misused_init : Stmt := clsS 3 0
theorem sc_Misused_init : FnScope ["self", "name"] ["self", "name"] (defScope s_Misused_init) := ⟨rfl, rfl, rfl, by decide +kernel, rfl, by decide +kernel, by decide +kernel⟩
abbrev s_Width_init : Stmt := clsS 4 0
theorem sc_Width_init : FnScope ["self", "name"] ["self", "name"] (defScope s_Width_init) := ⟨rfl, rfl, rfl, by decide +kernel, rfl, by decide +kernel, by decide +kernel⟩
theorem lt_0 : ("0" : Str) = S [48] := rfl
theorem lt_b : ("b" : Str) = S [98] := rfl
theorem lt_01xz : ("01xz" : Str) = S [48, 49, 120, 122] := rfl
theorem lt_01 : ("01" : Str) = S [48, 49] := rfl
theorem lt_e : ("" : Str) = S [] := rfl
theorem lt_0110 : ("0110" : Str) = S [48, 49, 49, 48] := rfl
structure Txt (mg : Str → Option Value) (K : PySem.W.Frag) (w : World) (pRefused pUnknown pMisused pWidth : Addr) : Prop where
  len : mg "len" = none
  max : mg "max" = none
  all : mg "all" = none
  range : mg "range" = none
  abs : mg "abs" = none
  int : mg "int" = none
  isinstance : mg "isinstance" = none
  str : mg "str" = none
  bool : mg "bool" = none
  list : mg "list" = none
  tuple : mg "tuple" = none
  g_MAX_WIDTH : ∃ t, mg "MAX_WIDTH" = some (.int 64 t)
  g_Refused : mg "Refused" = some (.ref pRefused)
  g_Unknown : mg "Unknown" = some (.ref pUnknown)
  g_Misused : mg "Misused" = some (.ref pMisused)
  g_Width : mg "Width" = some (.ref pWidth)
  e_Unknown : ∃ fI, ErrC K mg "Unknown" pUnknown fI
  e_Misused : ∃ fI, ErrC K mg "Misused" pMisused fI
  e_Width : ∃ fI, ErrC K mg "Width" pWidth fI
  m_Width_Width : PySem.W.exmOne K (.ref pWidth) (.ref pWidth) = some true
  m_Misused_Refused : PySem.W.exmOne K (.ref pMisused) (.ref pRefused) = some true
  k_Width_Unknown : PySem.W.kitOne K (.ref pWidth) (.ref pUnknown) = some false
  k_Misused_Misused : PySem.W.kitOne K (.ref pMisused) (.ref pMisused) = some true
  k_Misused_Width : PySem.W.kitOne K (.ref pMisused) (.ref pWidth) = some false
end K01
set_option Elab.async false
set_option linter.all false
set_option maxRecDepth 100000
set_option maxHeartbeats 2000000
namespace K01
open PySem PySem.Spec PyProof.Rows L2 Cw
open GxR (TabG Tabbed TabB GenS)
local macro_rules | `(tactic| walk_at "ev") => `(tactic| first
  | exact ev_var rfl
  | exact ev_s lt_0 | exact ev_s lt_b | exact ev_s lt_01xz | exact ev_s lt_01 | exact ev_s lt_e | exact ev_s lt_0110
  | exact ev_c
  | (apply ev_op <;> walk_at "ev")
  | exact rv_I0 | (refine rv_I ?_; first | omega | decide | assumption)
  | exact rv_eq rfl | exact rv_ne rfl | exact rv_inS | exact rv_niS
  | (refine rv_addS ?_; first | assumption | omega | decide)
  | (refine rv_mulS ?_ ?_ <;> first | assumption | omega | decide)
  | (apply ev_cb <;> walk_at "ev")
  | (refine rc_lenS ?_; first | assumption | omega | decide)
  | exact rc_max | exact rc_abs | exact rc_intI | exact rc_intB | exact rc_min
  | exact ea_nil
  | (apply ea_cons <;> walk_at "ev")
  | (apply et_and; walk_at "ev"; intro _; walk_at "ev")
  | (apply et_or; walk_at "ev"; intro _; walk_at "ev")
  | (apply et_not; walk_at "ev")
  | (apply et_test; walk_at "ev")
  | (apply et_B; walk_at "ev"))
section
variable {P : Program} {w : World} {K : PySem.W.Frag} {mg : Str → Option Value} {base : Heap} {pRefused pUnknown pMisused pWidth : Addr} {Ts : List Addr}
theorem ok_Unknown_init {f : Addr} {fd : FuncData} (F : Fun K "__init__" "Unknown.__init__" s_Unknown_init f fd) : FnOk P w K mg base CX0 1 f fd ["self", "name"] (FnIni K) := by
  refine F.ok sc_Unknown_init (fun vs H Q E h => ?_) (fun cdv A outer s H vs Q E hr h => ?_)
  · obtain ⟨_, _, _, rfl, _⟩ := h
    rfl
  · obtain ⟨a, Cl, v, ev, ha, hT, hno, q⟩ := h
    subst ev
    exact ⟨_, pss_one (ps_ost (pv 0) (pv 1)), ini_body (C := fun _ => True) hT hno ha q⟩

theorem ok_Misused_init {f : Addr} {fd : FuncData} (F : Fun K "__init__" "Misused.__init__" s_Misused_init f fd) : FnOk P w K mg base CX0 1 f fd ["self", "name"] (FnIni K) := by
  refine F.ok sc_Misused_init (fun vs H Q E h => ?_) (fun cdv A outer s H vs Q E hr h => ?_)
  · obtain ⟨_, _, _, rfl, _⟩ := h
    rfl
  · obtain ⟨a, Cl, v, ev, ha, hT, hno, q⟩ := h
    subst ev
    exact ⟨_, pss_one (ps_ost (pv 0) (pv 1)), ini_body (C := fun _ => True) hT hno ha q⟩

theorem ok_Width_init {f : Addr} {fd : FuncData} (F : Fun K "__init__" "Width.__init__" s_Width_init f fd) : FnOk P w K mg base CX0 1 f fd ["self", "name"] (FnIni K) := by
  refine F.ok sc_Width_init (fun vs H Q E h => ?_) (fun cdv A outer s H vs Q E hr h => ?_)
  · obtain ⟨_, _, _, rfl, _⟩ := h
    rfl
  · obtain ⟨a, Cl, v, ev, ha, hT, hno, q⟩ := h
    subst ev
    exact ⟨_, pss_one (ps_ost (pv 0) (pv 1)), ini_body (C := fun _ => True) hT hno ha q⟩

abbrev sp_extended (K : PySem.W.Frag) (Ts : List Addr) : Sp := FnV Ts (fun x : List Nat × Nat => [sv x.1, .int (x.2 : Nat)]) (fun x => x.1.length ≤ 1000 ∧ x.2 ≤ 1000) fun x => sv (ext x.2 x.1)

theorem ok_extended {f : Addr} {fd : FuncData} (F : Fun K "_extended" "_extended" s_extended f fd) (T : Txt mg K w pRefused pUnknown pMisused pWidth)  :
    FnOk P w K mg base CX0 1 f fd ["vector", "width"] (sp_extended K Ts) := by
  refine F.ok sc_extended (fun vs H Q E h => ?_) (fun cdv A outer s H vs Q E hr h => ?_)
  · obtain ⟨x, rfl, _⟩ := h
    rfl
  · obtain ⟨⟨a, n⟩, ev, hd, g, q⟩ := h
    replace ev : vs = [sv a, .int (n : Nat)] := ev
    subst ev
    have h1 : a.length ≤ 1000 := hd.1
    have h2 : n ≤ 1000 := hd.2
    refine ⟨_, (pss_one (ps_ret (pe_op op_add_str (pe_op op_mulS pe_str (pe_op op_sub (pv 1) (pe_callB call_len_str (by rfl) T.len PySem.boot_len (pa_cons (pv 0) pa_nil)))) (pv 0)))), ?_⟩
    refine st_ret (ev_is (v := sv (List.replicate ((n : Int) - (a.length : Int)).toNat 48 ++ a)) ?_ ?_) (Ex.refl g) q
    · refine ev_op (ev_op (ev_s lt_0) (ev_op (ev_var rfl) (ev_cb (ea_cons (ev_var rfl) ea_nil) (rc_lenS (by omega))) rv_I0) (rv_mulS (by omega) (by omega))) (ev_var rfl) (rv_addS ?_)
      rw [List.length_replicate]
      omega
    · show sv _ = sv (List.replicate (n - a.length) 48 ++ a)
      have e : ((n : Int) - (a.length : Int)).toNat = n - a.length := by omega
      rw [e]

abbrev sp_consists_of (K : PySem.W.Frag) (Ts : List Addr) : Sp := FnV Ts (fun x : List Nat × List Nat => [sv x.1, sv x.2]) (fun _ => True) fun x => .bl (x.1.all fun c => decide (c ∈ x.2))

def genSc : Stmt → Scope
  | .FunctionDef _ _ [.Return (some (.Call _ [.GeneratorExp _ _ sc _] _ _)) _] _ _ _ _ _ _ _ => sc
  | _ => { kind := .function, names := [], isGenerator := false, isCoroutine := false }
theorem free_consists_of : ∀ y ∈ (genSc s_consists_of).names, y.2 = .free → y.1 = ("characters" : Str) := by decide +kernel
theorem ok_consists_of {f c Pt : Addr} {oc : Value} {od an : Option Addr} {osl : Array (Option Value)} {kV doc pm ct : Value}
    (lk : K.lookup f = some ⟨oc, od, .func (PySem.W.fnOf "_consists_of" "_consists_of" (defArgs s_consists_of) (defBody s_consists_of) (defScope s_consists_of) .none kV doc pm an (.ref c) ct), osl⟩) (hcd : PySem.W.codeIn K (.ref c) "_consists_of" = true)
    (TB : TabB base mg c Pt) (hP : Pt ∈ Ts) (T : Txt mg K w pRefused pUnknown pMisused pWidth) :
    FnOk P w K mg base CX0 1 f (PySem.W.fnOf "_consists_of" "_consists_of" (defArgs s_consists_of) (defBody s_consists_of) (defScope s_consists_of) .none kV doc pm an (.ref c) ct) ["text", "characters"] (sp_consists_of K Ts) := by
  refine fn_of (k := 0) lk hcd sc_consists_of (fun vs H Q E h => ?_) (fun A outer s H vs Q E hr h => ?_)
  · obtain ⟨x, rfl, _⟩ := h
    rfl
  · obtain ⟨⟨a, b⟩, ev, hd, g, q⟩ := h
    replace ev : vs = [sv a, sv b] := ev
    subst ev
    have hcode : (cxOf CX0 P w K mg base ["text", "characters"] "_consists_of" (defScope s_consists_of) f (.ref c) A outer s H E).nox.env.code = .ref c := rfl
    refine ⟨_, PSs.nox (pss_one (ps_ret (pe_allIn (j := 1) hr (by rfl) T.all (by decide +kernel) TB hcode (GenS.mk rfl rfl (by decide +kernel) rfl rfl (fun y hy e => ⟨_, by rw [free_consists_of y hy e]; rfl⟩)) (pv 0) rfl rfl (by decide +kernel) (by decide +kernel) (hs := fun _ => rfl)))), ?_⟩
    refine st_ret ?_ (Ex.refl g) q
    exact ev_allIn (b := b) hP rfl (ev_var rfl)


abbrev sp_is_known (K : PySem.W.Frag) (Ts : List Addr) : Sp := FnV Ts (fun a : List Nat => [sv a]) (fun _ => True) fun a => .bl (a.all fun c => decide (c ∈ [48, 49]))

theorem ok_is_known {f : Addr} {fd : FuncData} (F : Fun K "is_known" "is_known" s_is_known f fd) (T : Txt mg K w pRefused pUnknown pMisused pWidth) (C_consists_of : Callee P w K mg base "_consists_of" 1 ["text", "characters"] (sp_consists_of K Ts)) :
    FnOk P w K mg base CX0 2 f fd ["vector"] (sp_is_known K Ts) := by
  refine F.ok sc_is_known (fun vs H Q E h => ?_) (fun cdv A outer s H vs Q E hr h => ?_)
  · obtain ⟨x, rfl, _⟩ := h
    rfl
  · obtain ⟨a, ev, hd, g, q⟩ := h
    replace ev : vs = [sv a] := ev
    subst ev
    refine ⟨_, (pss_one (ps_ret (pe_fn C_consists_of (hr.mono (by decide)) (by rfl) (pa_cons (pv 0) (pa_cons pe_str pa_nil))))), ?_⟩
    refine st_ret ?_ (Ex.refl g) q
    exact ev_call (a, [48, 49]) (ea_cons (ev_var rfl) (ea_cons (ev_s lt_01) ea_nil)) trivial

abbrev sp_law_cell (K : PySem.W.Frag) (Ts : List Addr) : Sp := FnL Ts (fun x : Addr × List Int × Nat => [.ref x.1, .int (x.2.2 : Nat)]) (fun x H => SqL K H x.1 (x.2.1.map V.int)) fun x => .int (x.2.1.getD x.2.2 0)

theorem ok_law_cell {f : Addr} {fd : FuncData} (F : Fun K "_law_cell" "_law_cell" s_law_cell f fd) (T : Txt mg K w pRefused pUnknown pMisused pWidth)  :
    FnOk P w K mg base CX0 1 f fd ["script", "k"] (sp_law_cell K Ts) := by
  refine F.ok sc_law_cell (fun vs H Q E h => ?_) (fun cdv A outer s H vs Q E hr h => ?_)
  · obtain ⟨x, rfl, _⟩ := h
    rfl
  · obtain ⟨⟨a, ns, k⟩, ev, hd, g, q⟩ := h
    replace ev : vs = [.ref a, .int (k : Nat)] := ev
    subst ev
    have hS : SqL K H a (ns.map V.int) := hd
    refine ⟨_, (pss_cons (ps_if (pt_cmpR op_lt (pv 1) (pe_callB call_len_seq (by rfl) T.len PySem.boot_len (pa_cons (pv 0) pa_nil)) (nomark _))
      (pss_one (ps_ret (pe_ix ix_list (pv 0) (pv 1) (fun _ _ => rfl)))) pss_nil)
      (pss_one (ps_ret pe_int))), ?_⟩
    refine st_if (b := decide ((k : Int) < (ns.map V.int).length)) ?_ (Ex.refl g) ?_ ?_
    · exact et_test (ev_op (ev_var rfl) (ev_cb (ea_cons (ev_var rfl) ea_nil) (rc_lenL g hS)) rv_I0)
    · intro H1 e1 h
      have h1 := of_decide_eq_true h
      rw [List.length_map] at h1
      have h2 : k < ns.length := by omega
      refine st_ret (ev_op (ev_var rfl) (ev_var rfl) (rv_ixL g hS (atI_nat ?_))) e1 q
      show (ns.map V.int)[k]? = some (.int (ns.getD k 0))
      rw [List.getElem?_map, List.getD_eq_getElem?_getD, List.getElem?_eq_getElem h2]
      rfl
    intro H1 e1 h
    dsimp only [tNext]
    have h1 := of_decide_eq_false h
    rw [List.length_map] at h1
    have h2 : ns.length ≤ k := by omega
    refine st_ret (ev_is ev_c (congrArg V.int ?_)) e1 q
    show (0 : Int) = ns.getD k 0
    rw [List.getD_eq_getElem?_getD, List.getElem?_eq_none h2]
    rfl

abbrev sp_law_numbers (K : PySem.W.Frag) (Ts : List Addr) : Sp := FnS Ts (fun x : Addr × List Int × Nat × Nat => [.ref x.1, .int (x.2.2.1 : Nat), .int (x.2.2.2 : Nat)]) (fun x H => SqL K H x.1 (x.2.1.map V.int) ∧ 2 ≤ x.2.2.1 ∧ x.2.2.1 ≤ 1000000 ∧ x.2.2.2 ≤ 1000) fun x v H => ∃ p ms, v = .ref p ∧ H p = some (.lst (ms.map V.int)) ∧ ms.length = x.2.2.2 ∧ Below x.2.2.1 ms

theorem ok_law_numbers {f : Addr} {fd : FuncData} (F : Fun K "_law_numbers" "_law_numbers" s_law_numbers f fd) (T : Txt mg K w pRefused pUnknown pMisused pWidth)  :
    FnOk P w K mg base CX0 1 f fd ["script", "base", "many"] (sp_law_numbers K Ts) := by
  refine F.ok sc_law_numbers (fun vs H Q E h => ?_) (fun cdv A outer s H vs Q E hr h => ?_)
  · obtain ⟨x, rfl, _⟩ := h
    rfl
  · obtain ⟨⟨a, ns, b, m⟩, ev, hd, g, q⟩ := h
    replace ev : vs = [.ref a, .int (b : Nat), .int (m : Nat)] := ev
    subst ev
    have hS : SqL K H a (ns.map V.int) := hd.1
    have hb : 2 ≤ b := hd.2.1
    have hb2 : b ≤ 1000000 := hd.2.2.1
    have hm : m ≤ 1000 := hd.2.2.2
    refine ⟨_, (pss_cons (ps_set (i := 3) sc_law_numbers.nd rfl (.inl rfl) (pe_lst pa_nil))
      (pss_cons (ps_set (i := 4) sc_law_numbers.nd rfl (.inl rfl) pe_int)
      (pss_cons (ps_for PassesOwn.never rfl (pi_list (pe_slice sl_list (pv 0) po_none (po_some pe_int))) (pg_name (i := 5) sc_law_numbers.nd rfl (.inl rfl))
      (pss_cons (ps_set (i := 6) sc_law_numbers.nd rfl (.inl rfl) (pe_callB call_abs (by rfl) T.abs (by decide +kernel) (pa_cons (pv 5) pa_nil)))
      (pss_cons (ps_set (i := 4) sc_law_numbers.nd rfl (.inl rfl) (pe_op op_mod (pe_callTy call_int1 (by rfl) T.int (by decide +kernel) (pa_cons (pe_op op_add (pe_op op_mul (pv 4) pe_int) (pv 6)) pa_nil)) pe_int))
      (pss_one (ps_for PassesOwn.never rfl (pi_range1 rfl T.range (pa_cons pe_int pa_nil)) (pg_name (i := 7) sc_law_numbers.nd rfl (.inl rfl))
      (pss_cons (ps_expr (pe_bm PySem.F.plainAttrs_list PySem.F.slot_list_append PySem.F.type_list_append mt_append (pv 3) (pa_cons (pe_op op_mod (pe_callTy call_int1 (by rfl) T.int (by decide +kernel) (pa_cons (pv 6) pa_nil)) (pv 1)) pa_nil)))
      (pss_cons (ps_set (i := 6) sc_law_numbers.nd rfl (.inl rfl) (pe_op op_fdiv (pv 6) (pv 1)))
      (pss_one (ps_if (pt_cmpR op_eq (pv 6) pe_int (nomark _))
      (pss_one ps_break) pss_nil)))))))))
      (pss_cons (ps_for PassesOwn.never rfl (pi_range1 rfl T.range (pa_cons (pv 2) pa_nil)) (pg_name (i := 8) sc_law_numbers.nd rfl (.inl rfl))
      (pss_cons (ps_set (i := 4) sc_law_numbers.nd rfl (.inl rfl) (pe_op op_mod (pe_callTy call_int1 (by rfl) T.int (by decide +kernel) (pa_cons (pe_op op_add (pe_op op_add (pe_op op_mul (pv 4) pe_int) pe_int) (pv 8)) pa_nil)) pe_int))
      (pss_one (ps_expr (pe_bm PySem.F.plainAttrs_list PySem.F.slot_list_append PySem.F.type_list_append mt_append (pv 3) (pa_cons (pe_op op_mod (pe_op op_fdiv (pv 4) pe_int) (pv 1)) pa_nil))))))
      (pss_one (ps_ret (pe_slice sl_list (pv 3) po_none (po_some (pv 2))))))))), ?_⟩
    -- numbers = []; seed = 7
    refine st_setN (R := .lst []) (en_lst ea_nil (Nat.zero_le _)) g ?_
    intro l H1 n0 e1 hl
    have nl : l ∉ Ts := g.free n0
    have e1l : ∀ H2, Ex Ts H1 H2 → H2 l = some (.lst []) := fun H2 e => e.keep l _ nl hl
    dsimp only
    refine st_set (v := .int 7) ev_c (Ex.refl e1.good) ?_
    intro H2 e2
    dsimp only
    have hl2 := e1l H2 e2
    -- for cell in script[:63]
    refine st_forN (K := K) (xs := cutV (ns.map V.int) none (some 63)) (en_slL g (ev_var rfl) eo_none (eo_some ev_c) hS) (e1.trans e2)
      (fun a' i σ H' => ∃ (ms : List Int) (seed : Int) (c r s : Option V), σ = [some (.ref a), some (.int (b : Nat)), some (.int (m : Nat)), some (.ref l), some (.int seed), c, r, s, none] ∧ Ex Ts H H' ∧
        H' l = some (.lst (ms.map V.int)) ∧ H' a' = some (.lst (cutV (ns.map V.int) none (some 63))) ∧ H a' = none ∧ a' ≠ l ∧ Below b ms ∧ ms.length ≤ 60 * i ∧ 0 ≤ seed ∧ seed < 2147483647) ?_ ?_ ?_ ?_
    · intro a' H3 na e3 ha
      have ne : a' ≠ l := fun q => by
        rw [q, hl2] at na
        cases na
      have b0 : Below b [] := fun z hz => absurd hz (by simp)
      exact ⟨[], 7, none, none, none, rfl, (e1.trans e2).trans e3, e3.keep l _ nl hl2, ha, (e1.trans e2).back na, ne, b0, Nat.zero_le _, by decide, by decide⟩
    · rintro a' i σ H3 ⟨ms, seed, c, r, s, _, _, _, h, _⟩
      exact h
    · rintro a' i x σ H3 N hx ⟨ms, seed, c, r, s, rfl, e3, h3l, h3a, na, ne, hB, hlen, s0, s1⟩ hN
      obtain ⟨n, rfl⟩ := cut_int (List.mem_of_getElem? hx)
      have nT : a' ∉ Ts := g.free na
      -- rest = abs(cell)
      refine st_set (v := .int (if n < 0 then -n else n)) (ev_cb (ea_cons (ev_var rfl) ea_nil) rc_abs) (Ex.refl e3.good) ?_
      intro H4 e4
      dsimp only
      have hr0 : 0 ≤ (if n < 0 then -n else n) := by split <;> omega
      generalize (if n < 0 then -n else n) = rest at hr0 ⊢
      -- seed = int(seed * 48271 + rest) % 2147483647
      refine st_set (v := .int ((seed * 48271 + rest) % 2147483647)) (ev_op (ev_cb (ea_cons (ev_op (ev_op (ev_var rfl) ev_c (rv_I (Or.inl ⟨by omega, by omega⟩))) (ev_var rfl) rv_I0) ea_nil) rc_intI) ev_c (rv_I (by decide))) (Ex.refl e4.good) ?_
      intro H5 e5
      dsimp only
      have q0 : 0 ≤ (seed * 48271 + rest) % 2147483647 := Int.emod_nonneg _ (by decide)
      have q1 : (seed * 48271 + rest) % 2147483647 < 2147483647 := Int.emod_lt_of_pos _ (by decide)
      generalize (seed * 48271 + rest) % 2147483647 = seed2 at q0 q1 ⊢
      have e35 : Ex Ts H3 H5 := e4.trans e5
      have h5l := e35.keep l _ nl h3l
      have h5a := e35.keep a' _ nT h3a
      -- for spin in range(60)
      refine st_forR (n := 60) ev_c (by decide) (Ex.refl e35.good)
        (fun k σ H' => ∃ (ms : List Int) (rest : Int) (s : Option V), σ = [some (.ref a), some (.int (b : Nat)), some (.int (m : Nat)), some (.ref l), some (.int seed2), some (.int n), some (.int rest), s, none] ∧ Ex Ts H H' ∧
          H' l = some (.lst (ms.map V.int)) ∧ H' a' = some (.lst (cutV (ns.map V.int) none (some 63))) ∧ Below b ms ∧ ms.length ≤ 60 * i + k ∧ 0 ≤ rest) ?_ ?_ ?_
      · intro H6 e6
        exact ⟨ms, rest, s, rfl, (e3.trans e35).trans e6, e6.keep l _ nl h5l, e6.keep a' _ nT h5a, hB, by omega, hr0⟩
      · rintro k σ H6 N2 hk ⟨ms, rest, s, rfl, e6, h6l, h6a, hB, hlen, r0⟩ hN2
        have hi : i < 63 := Nat.lt_of_lt_of_le (List.getElem?_eq_some_iff.mp hx).1 (cut_63 _)
        have m0 : 0 ≤ rest % (b : Int) := Int.emod_nonneg _ (by omega)
        have m1 : rest % (b : Int) < (b : Int) := Int.emod_lt_of_pos _ (by omega)
        refine st_app (y := .int (rest % (b : Int))) rfl h6l nl (ev_op (ev_cb (ea_cons (ev_var rfl) ea_nil) rc_intI) (ev_var rfl) (rv_I (by omega))) (Ex.refl e6.good) (by rw [List.length_map]; omega) ?_
        intro H7 e7 h7l
        dsimp only
        have eE : Ex Ts H (upd H7 l (.lst (ms.map V.int ++ [V.int (rest % (b : Int))]))) := (e6.trans e7).mut nl n0
        refine st_set (v := .int (rest / (b : Int))) (ev_op (ev_var rfl) (ev_var rfl) (rv_I ⟨by omega, by omega⟩)) (Ex.refl eE.good) ?_
        intro H8 e8
        dsimp only
        have r1 : 0 ≤ rest / (b : Int) := Int.ediv_nonneg r0 (by omega)
        have h8l : H8 l = some (.lst ((ms ++ [rest % (b : Int)]).map V.int)) := by
          rw [← map_snoc]
          exact e8.keep l _ nl upd_same
        have h8a : H8 a' = some (.lst (cutV (ns.map V.int) none (some 63))) := e8.keep a' _ nT (by rw [upd_ne ne]; exact e7.keep a' _ nT h6a)
        have hB8 : Below b (ms ++ [rest % (b : Int)]) := below_snoc hB m0 m1
        have hl8 : (ms ++ [rest % (b : Int)]).length ≤ 60 * i + (k + 1) := by
          rw [List.length_append, List.length_singleton]
          omega
        refine st_if (b := decide (V.int (rest / (b : Int)) = V.int 0)) (et_test (ev_op (ev_var rfl) ev_c (rv_eq rfl))) (Ex.refl e8.good) ?_ ?_
        · intro H9 e9 _
          exact hN _ _ ⟨_, _, _, _, _, rfl, (eE.trans e8).trans e9, e9.keep l _ nl h8l, e9.keep a' _ nT h8a, na, ne, hB8, by omega, q0, q1⟩
        · intro H9 e9 _
          exact hN2 _ _ ⟨_, _, _, rfl, (eE.trans e8).trans e9, e9.keep l _ nl h8l, e9.keep a' _ nT h8a, hB8, hl8, r1⟩
      · rintro σ H6 ⟨ms, rest, s, rfl, e6, h6l, h6a, hB, hlen, r0⟩
        exact hN _ _ ⟨_, _, _, _, _, rfl, e6, h6l, h6a, na, ne, hB, by omega, q0, q1⟩
    · rintro a' σ H3 ⟨ms, seed, c, r, s, rfl, e3, h3l, h3a, na, ne, hB, hlen, s0, s1⟩
      have h63 : ms.length ≤ 3780 := by
        have := cut_63 (ns.map V.int)
        omega
      -- for k in range(many)
      refine st_forR (n := m) (ev_var rfl) (by omega) (Ex.refl e3.good)
        (fun k σ H' => ∃ (ms : List Int) (seed : Int) (z : Option V), σ = [some (.ref a), some (.int (b : Nat)), some (.int (m : Nat)), some (.ref l), some (.int seed), c, r, s, z] ∧ Ex Ts H H' ∧
          H' l = some (.lst (ms.map V.int)) ∧ Below b ms ∧ k ≤ ms.length ∧ ms.length ≤ 3780 + k ∧ 0 ≤ seed ∧ seed < 2147483647) ?_ ?_ ?_
      · intro H4 e4
        exact ⟨ms, seed, none, rfl, e3.trans e4, e4.keep l _ nl h3l, hB, Nat.zero_le _, by omega, s0, s1⟩
      · rintro k σ H4 N hk ⟨ms, seed, z, rfl, e4, h4l, hB, hlo, hhi, s0, s1⟩ hN
        refine st_set (v := .int ((seed * 16807 + 12345 + (k : Int)) % 2147483647)) (ev_op (ev_cb (ea_cons (ev_op (ev_op (ev_op (ev_var rfl) ev_c (rv_I (Or.inl ⟨by omega, by omega⟩))) ev_c rv_I0) (ev_var rfl) rv_I0) ea_nil) rc_intI) ev_c (rv_I (by decide))) (Ex.refl e4.good) ?_
        intro H5 e5
        dsimp only
        have q0 : 0 ≤ (seed * 16807 + 12345 + (k : Int)) % 2147483647 := Int.emod_nonneg _ (by decide)
        have q1 : (seed * 16807 + 12345 + (k : Int)) % 2147483647 < 2147483647 := Int.emod_lt_of_pos _ (by decide)
        generalize (seed * 16807 + 12345 + (k : Int)) % 2147483647 = seed2 at q0 q1 ⊢
        have m0 : 0 ≤ seed2 / 64 % (b : Int) := Int.emod_nonneg _ (by omega)
        have m1 : seed2 / 64 % (b : Int) < (b : Int) := Int.emod_lt_of_pos _ (by omega)
        refine st_app (y := .int (seed2 / 64 % (b : Int))) rfl (e5.keep l _ nl h4l) nl (ev_op (ev_op (ev_var rfl) ev_c (rv_I ⟨by decide, by decide⟩)) (ev_var rfl) (rv_I (by omega))) (Ex.refl e5.good) (by rw [List.length_map]; omega) ?_
        intro H6 e6 h6l
        refine hN _ _ ⟨ms ++ [seed2 / 64 % (b : Int)], seed2, _, rfl, ((e4.trans e5).trans e6).mut nl n0, ?_, below_snoc hB m0 m1, ?_, ?_, q0, q1⟩
        · rw [upd_same, map_snoc]
        · rw [List.length_append, List.length_singleton]
          omega
        · rw [List.length_append, List.length_singleton]
          omega
      · rintro σ H4 ⟨ms, seed, z, rfl, e4, h4l, hB, hlo, hhi, s0, s1⟩
        -- return numbers[:many]
        refine st_retN (R := .lst (cutV (ms.map V.int) none (some (m : Int)))) (en_slL (K := K) e4.good (ev_var rfl) eo_none (eo_some (ev_var rfl)) (l_of h4l)) (Ex.refl e4.good) ?_
        intro p H5 _ _ e5 hp
        rw [cut_to (by rw [List.length_map]; exact hlo), ← List.map_take] at hp
        refine q (.ref p) H5 (e4.trans e5) ⟨p, ms.take m, rfl, hp, ?_, fun x hx => hB x (List.mem_of_mem_take hx)⟩
        show (ms.take m).length = m
        rw [List.length_take]
        omega

abbrev sp_law_vector (K : PySem.W.Frag) (Ts : List Addr) : Sp := FnL Ts (fun x : Addr × List Int × Nat × Bool => [.ref x.1, .int (x.2.2.1 : Nat), .bl x.2.2.2]) (fun x H => SqL K H x.1 (x.2.1.map V.int) ∧ Below 4 x.2.1 ∧ x.2.2.1 ≤ x.2.1.length ∧ x.2.2.1 ≤ 64) fun x => sv ((x.2.1.take x.2.2.1).map (sgn x.2.2.2))

theorem ok_law_vector {f : Addr} {fd : FuncData} (F : Fun K "_law_vector" "_law_vector" s_law_vector f fd) (T : Txt mg K w pRefused pUnknown pMisused pWidth)  :
    FnOk P w K mg base CX0 1 f fd ["numbers", "size", "plain"] (sp_law_vector K Ts) := by
  refine F.ok sc_law_vector (fun vs H Q E h => ?_) (fun cdv A outer s H vs Q E hr h => ?_)
  · obtain ⟨x, rfl, _⟩ := h
    rfl
  · obtain ⟨⟨a, ms, n, pl⟩, ev, hd, g, q⟩ := h
    replace ev : vs = [.ref a, .int (n : Nat), .bl pl] := ev
    subst ev
    have hS : SqL K H a (ms.map V.int) := hd.1
    have hB : Below 4 ms := hd.2.1
    have hn : n ≤ ms.length := hd.2.2.1
    have hn2 : n ≤ 64 := hd.2.2.2
    refine ⟨_, (pss_cons (ps_set (i := 3) sc_law_vector.nd rfl (.inr rfl) pe_str)
      (pss_cons (ps_if (pt_val (pv 2))
      (pss_one (ps_set (i := 3) sc_law_vector.nd rfl (.inr rfl) pe_str)) pss_nil)
      (pss_one (ps_ret (pe_bm PySem.F.plainAttrs_str PySem.F.slot_str_join PySem.F.type_str_join mt_join pe_str (pa_cons (pe_lc (own := [("number", 4)]) (by rfl) sc_law_vector.nd (pi_list (pe_slice sl_list (pv 0) po_none (po_some (pv 1)))) (blkOk_by (own := [("number", 4)]) (N := ["numbers", "size", "plain", "signs", "number"]) (sc := defScope s_law_vector) (by decide +kernel)) (fun _ _ _ _ _ => pg_name (i := 4) sc_law_vector.nd rfl (Or.inl rfl)) (fun _ _ _ _ _ => pts_nil) (fun _ _ _ _ _ => (pe_ix ix_str (pv 3) (pv 4) (fun _ _ => rfl)))) pa_nil)))))), ?_⟩
    refine st_set (v := sv [48, 49, 120, 122]) (ev_s lt_01xz) (Ex.refl g) ?_
    intro H1 e1
    dsimp only
    have hm : ∀ z ∈ ms.take n, 0 ≤ z ∧ z < 4 := fun z hz => hB z (List.mem_of_mem_take hz)
    -- behind the if: signs as plain tells
    have fin : ∀ H2, Ex Ts H H2 → tRet (tBM K "str" (fun x xs H Q => ∃ a p, ∃ ys : List Str, x = .str a ∧ xs = [.ref p] ∧ (SqL K H p (ys.map V.str) ∨ SqT K H p (ys.map V.str)) ∧ (ys.map (·.length)).sum + ys.length * a.length ≤ 16777216 ∧ Q (.str (Txt.join a ys)) H) (tC (.str ""))
        (tCons (tLc (iList K (tSl (rSlL K) (tVar 0) tNoPart (tPart (tVar 1)))) (gName 4) tYes (tOp rIxS (tVar 3) (tVar 4)) [4]) tNil)) { nx := fun _ H' => Q .non H', rt := Q }
        [some (.ref a), some (.int (n : Nat)), some (.bl pl), some (sv (if pl then [48, 49, 49, 48] else [48, 49, 120, 122])), none] H2 := by
      intro H2 e2
      refine st_ret (ev_is (v := sv ((ms.take n).map fun z => [sgn pl z]).flatten) ?_ (congrArg sv (flat_one _ _))) e2 q
      refine ev_join (ev_s lt_e) (ev_strs (K := K) (sgn pl) _ ?_) ?_ (fun _ => rfl)
      · rw [← asSv_map]
        refine en_lcN (f := asSv pl) (by rw [List.length_map, List.length_take]; omega) ?_ ?_
        · rw [List.map_take, ← cut_to (by rw [List.length_map]; exact hn)]
          exact en_slL g (ev_var rfl) eo_none (eo_some (ev_var rfl)) hS
        · intro x hx
          obtain ⟨z, hz, rfl⟩ := List.mem_map.mp hx
          have hz2 := hm z hz
          refine ev_op (ev_var rfl) (ev_var rfl) (rv_ixS ?_ (sgn_at hz2.1 hz2.2))
          cases pl <;> decide
      · rw [flat_one, List.length_map, List.length_take]
        omega
    refine st_if (b := pl) (et_B (ev_var rfl)) e1 ?_ ?_
    · intro H2 e2 h
      subst h
      refine st_set (v := sv [48, 49, 49, 48]) (ev_s lt_0110) e2 ?_
      intro H3 e3
      exact fin H3 e3
    · intro H2 e2 h
      subst h
      exact fin H2 e2

abbrev sp_low_bits (K : PySem.W.Frag) (Ts : List Addr) : Sp := FnV Ts (fun x : Int × Nat => [.int x.1, .int (x.2 : Nat)]) (fun x => 1 ≤ x.2 ∧ x.2 ≤ 64) fun x => sv (lowB x.2 x.1)
theorem ok_low_bits {f : Addr} {fd : FuncData} (F : Fun K "_low_bits" "_low_bits" s_low_bits f fd) (T : Txt mg K w pRefused pUnknown pMisused pWidth)  :
    FnOk P w K mg base CX0 1 f fd ["number", "width"] (sp_low_bits K Ts) := by
  refine F.ok sc_low_bits (fun vs H Q E h => ?_) (fun cdv A outer s H vs Q E hr h => ?_)
  · obtain ⟨x, rfl, _⟩ := h
    rfl
  · obtain ⟨⟨n, k⟩, ev, hd, g, q⟩ := h
    replace ev : vs = [.int n, .int (k : Nat)] := ev
    subst ev
    have h1 : 1 ≤ k := hd.1
    have h2 : k ≤ 64 := hd.2
    refine ⟨_, (pss_one (ps_ret (pe_bm PySem.F.plainAttrs_str PySem.F.slot_str_zfill PySem.F.type_str_zfill mt_zfill (pe_fmtB (pe_op op_andM (pv 0) (pe_op op_sub (pe_op op_oneShl pe_int (pv 1)) pe_int))) (pa_cons (pv 1) pa_nil)))), ?_⟩
    refine st_ret (v := sv (lowB k n)) ?_ (Ex.refl g) q
    rw [← lowB_pad h1]
    refine ev_zfill (ev_fmtB (ev_is (v := .int (n % 2 ^ k)) ?_ (congrArg V.int (modW_cast k n))) (low_dig h1 h2)) (ev_var rfl) (dig_bin _) (by omega)
    exact ev_op (ev_var rfl) (ev_op (ev_op ev_c (ev_var rfl) (rv_oneShl (by omega))) ev_c rv_I0) rv_andM

end
end K01
set_option Elab.async false
set_option linter.all false
set_option maxRecDepth 100000
set_option maxHeartbeats 2000000
namespace K01
open PySem PySem.Spec PyProof.Rows L2 Cw
open GxR (TabG Tabbed TabB GenS)
local macro_rules | `(tactic| walk_at "ev") => `(tactic| first
  | exact ev_var rfl
  | exact ev_s lt_0 | exact ev_s lt_b | exact ev_s lt_01xz | exact ev_s lt_01 | exact ev_s lt_e | exact ev_s lt_0110
  | exact ev_c
  | (apply ev_op <;> walk_at "ev")
  | exact rv_I0 | (refine rv_I ?_; first | omega | decide | assumption)
  | exact rv_eq rfl | exact rv_ne rfl | exact rv_inS | exact rv_niS
  | (refine rv_addS ?_; first | assumption | omega | decide)
  | (refine rv_mulS ?_ ?_ <;> first | assumption | omega | decide)
  | (apply ev_cb <;> walk_at "ev")
  | (refine rc_lenS ?_; first | assumption | omega | decide)
  | exact rc_max | exact rc_abs | exact rc_intI | exact rc_intB | exact rc_min
  | exact ea_nil
  | (apply ea_cons <;> walk_at "ev")
  | (apply et_and; walk_at "ev"; intro _; walk_at "ev")
  | (apply et_or; walk_at "ev"; intro _; walk_at "ev")
  | (apply et_not; walk_at "ev")
  | (apply et_test; walk_at "ev")
  | (apply et_B; walk_at "ev"))
section
variable {P : Program} {w : World} {K : PySem.W.Frag} {mg : Str → Option Value} {base : Heap} {pRefused pUnknown pMisused pWidth : Addr} {Ts : List Addr}
def errW (C : Addr) (w : Int) : Option (Addr × V) := if 1 ≤ w ∧ w ≤ 64 then none else some (C, .int w)
theorem errW_ok {C : Addr} {w : Int} (h : errW C w = none) : 1 ≤ w ∧ w ≤ 64 := by
  unfold errW at h
  split at h
  · assumption
  · cases h

abbrev sp_check_width (pWidth : Addr) (K : PySem.W.Frag) (Ts : List Addr) : Sp := FnX Ts (fun x : Int => [.int x]) (fun _ _ => True) (fun _ => .non) (fun x => errW pWidth x)
theorem ok_check_width {f : Addr} {fd : FuncData} (F : Fun K "_check_width" "_check_width" s_check_width f fd) (T : Txt mg K w pRefused pUnknown pMisused pWidth) (I_Width : IniC P w K mg base "Width" pWidth) :
    FnOk P w K mg base (L2.CX P w) 3 f fd ["width"] (sp_check_width pWidth K Ts) := by
  refine fun_okX F sc_check_width (fun vs H Q E h => ?_) (fun cdv A outer s H vs Q E hr h => ?_)
  · obtain ⟨x, rfl, _⟩ := h
    rfl
  · obtain ⟨x, ev, hd, g, q⟩ := h
    replace ev : vs = [.int x] := ev
    subst ev
    obtain ⟨q, qx⟩ := q
    obtain ⟨fI, Er⟩ := T.e_Width
    refine ⟨_, (pss_one (ps_if (pt_not (pt_chain op_le op_le pe_int (pv 0) (pe_globI (by rfl) T.g_MAX_WIDTH)))
      (pss_one (ps_err rfl (takes_of rfl rfl rfl rfl) I_Width (hr.mono (by decide)) (by rfl) (pa_cons (pv 0) pa_nil))) pss_nil)), ?_⟩
    refine st_if (b := !(decide (1 ≤ x) && decide (x ≤ 64))) (et_not (et_test (ev_chain ev_c (ev_var rfl) rv_I0 (fun _ => ev_c) (fun _ => rv_I0)))) (Ex.refl g) ?_ ?_
    · intro H1 e1 h
      have hk := not_t h
      have hn : ¬ (1 ≤ x ∧ x ≤ 64) := fun z => by
        rw [decide_eq_true z.1, decide_eq_true z.2] at hk
        cases hk
      exact st_raise (W := fun cls d _ H => E cls d H) (ea_cons (ev_var rfl) ea_nil) Er.o Er.noN e1 fun d H2 e2 n hx => qx _ _ (if_neg hn) d H2 e2 n hx
    · intro H1 e1 h
      have hk := Bool.and_eq_true_iff.mp (not_f h)
      exact q (if_pos ⟨of_decide_eq_true hk.1, of_decide_eq_true hk.2⟩) H1 e1

abbrev sp_from_number (pWidth : Addr) (K : PySem.W.Frag) (Ts : List Addr) : Sp := FnX Ts (fun x : Int × Int => [.int x.1, .int x.2]) (fun _ _ => True) (fun x => sv (lowB x.2.toNat x.1)) (fun x => errW pWidth x.2)
theorem ok_from_number {f : Addr} {fd : FuncData} (F : Fun K "from_number" "from_number" s_from_number f fd) (T : Txt mg K w pRefused pUnknown pMisused pWidth) (C_check_width : CalleeX P w K mg base "_check_width" 3 ["width"] (sp_check_width pWidth K Ts)) (C_low_bits : Callee P w K mg base "_low_bits" 1 ["number", "width"] (sp_low_bits K Ts)) :
    FnOk P w K mg base (L2.CX P w) 4 f fd ["number", "width"] (sp_from_number pWidth K Ts) := by
  refine fun_okX F sc_from_number (fun vs H Q E h => ?_) (fun cdv A outer s H vs Q E hr h => ?_)
  · obtain ⟨x, rfl, _⟩ := h
    rfl
  · obtain ⟨⟨n, k⟩, ev, hd, g, q⟩ := h
    replace ev : vs = [.int n, .int k] := ev
    subst ev
    obtain ⟨q, qx⟩ := q
    refine ⟨_, (pss_cons (ps_expr (pe_fnX (takes_of rfl rfl rfl rfl) C_check_width (hr.mono (by decide)) (by rfl) (pa_cons (pv 1) pa_nil)))
      (pss_one (ps_ret (pe_fn C_low_bits (hr.mono (by decide)) (by rfl) (pa_cons (pv 0) (pa_cons (pv 1) pa_nil)))))), ?_⟩
    refine st_dropW (ew_call k (ea_cons (ev_var rfl) ea_nil) fun _ _ => trivial) (Ex.refl g) (fun ok H1 e1 => ?_) qx
    dsimp only
    have hw := errW_ok ok
    refine st_ret (ev_call (n, k.toNat) (ea_cons (ev_var rfl) (ea_cons (ev_is (ev_var rfl) (congrArg V.int ?_)) ea_nil)) (show 1 ≤ k.toNat ∧ k.toNat ≤ 64 by omega)) e1 (q ok)
    show k = ((k.toNat : Nat) : Int)
    omega

def errM (C : Addr) (a : List Nat) : Option (Addr × V) := if kn a = true then none else some (C, sv a)

abbrev sp_to_number (pMisused : Addr) (K : PySem.W.Frag) (Ts : List Addr) : Sp := FnX Ts (fun a : List Nat => [sv a]) (fun a _ => Vec a) (fun a => .int (val a : Nat)) (fun a => errM pMisused a)
theorem ok_to_number {f : Addr} {fd : FuncData} (F : Fun K "to_number" "to_number" s_to_number f fd) (T : Txt mg K w pRefused pUnknown pMisused pWidth) (C_is_known : Callee P w K mg base "is_known" 2 ["vector"] (sp_is_known K Ts)) (I_Misused : IniC P w K mg base "Misused" pMisused) :
    FnOk P w K mg base (L2.CX P w) 3 f fd ["vector"] (sp_to_number pMisused K Ts) := by
  refine fun_okX F sc_to_number (fun vs H Q E h => ?_) (fun cdv A outer s H vs Q E hr h => ?_)
  · obtain ⟨x, rfl, _⟩ := h
    rfl
  · obtain ⟨a, ev, hd, g, q⟩ := h
    replace ev : vs = [sv a] := ev
    subst ev
    obtain ⟨q, qx⟩ := q
    obtain ⟨fI, Er⟩ := T.e_Misused
    have ha : Vec a := hd
    refine ⟨_, (pss_cons (ps_if (pt_not (pt_val (pe_fn C_is_known (hr.mono (by decide)) (by rfl) (pa_cons (pv 0) pa_nil))))
      (pss_one (ps_err rfl (takes_of rfl rfl rfl rfl) I_Misused (hr.mono (by decide)) (by rfl) (pa_cons (pv 0) pa_nil))) pss_nil)
      (pss_one (ps_ret (pe_callTy call_int_bin (by rfl) T.int (by decide +kernel) (pa_cons (pv 0) (pa_cons pe_int pa_nil)))))), ?_⟩
    refine st_if (b := !(kn a)) (et_not (et_B (ev_call a (ea_cons (ev_var rfl) ea_nil) trivial))) (Ex.refl g) ?_ ?_
    · intro H1 e1 h
      have hk := not_t h
      exact st_raise (W := fun cls d _ H => E cls d H) (ea_cons (ev_var rfl) ea_nil) Er.o Er.noN e1 fun d H2 e2 n hx => qx _ _ (if_neg (by rw [hk]; exact Bool.false_ne_true)) d H2 e2 n hx
    intro H1 e1 h
    dsimp only [tNext]
    have hk := not_f h
    exact st_ret (ev_is (ev_cb (ea_cons (ev_var rfl) (ea_cons ev_c ea_nil)) (rc_bin (vec_ne ha) (Nat.le_trans ha.le (by decide)) (kn_bin hk))) (congrArg (fun n : Nat => V.int (n : Int)) (val_eq hk))) e1 (q (if_pos hk))

def lwB (n : Int) : Nat := max 1 (Builtin.Int.intBits n)

abbrev sp_least_width (K : PySem.W.Frag) (Ts : List Addr) : Sp := FnV Ts (fun n : Int => [.int n]) (fun _ => True) fun n => .int (lwB n : Nat)
theorem ok_least_width {f : Addr} {fd : FuncData} (F : Fun K "least_width" "least_width" s_least_width f fd) (T : Txt mg K w pRefused pUnknown pMisused pWidth)  :
    FnOk P w K mg base CX0 1 f fd ["number"] (sp_least_width K Ts) := by
  refine F.ok sc_least_width (fun vs H Q E h => ?_) (fun cdv A outer s H vs Q E hr h => ?_)
  · obtain ⟨x, rfl, _⟩ := h
    rfl
  · obtain ⟨n, ev, hd, g, q⟩ := h
    replace ev : vs = [.int n] := ev
    subst ev
    refine ⟨_, (pss_one (ps_ret (pe_callB (call_max2 rfl) (by rfl) T.max (by decide +kernel) (pa_cons pe_int (pa_cons (pe_bits (pv 0)) pa_nil))))), ?_⟩
    refine st_ret (ev_is (ev_cb (ea_cons ev_c (ea_cons (ev_bits (ev_var rfl)) ea_nil)) rc_max) (congrArg V.int ?_)) (Ex.refl g) q
    show (if ((Builtin.Int.intBits n : Nat) : Int) > 1 then ((Builtin.Int.intBits n : Nat) : Int) else 1) = ((lwB n : Nat) : Int)
    unfold lwB
    split <;> omega

abbrev sp_is_vector (K : PySem.W.Frag) (Ts : List Addr) : Sp := FnV Ts (fun a : List Nat => [sv a]) (fun a => a.length ≤ 1000) fun a => .bl (true && ((decide (1 ≤ (a.length : Int)) && decide ((a.length : Int) ≤ 64)) && a.all fun c => decide (c ∈ [48, 49, 120, 122])))
theorem ok_is_vector {f : Addr} {fd : FuncData} (F : Fun K "is_vector" "is_vector" s_is_vector f fd) (T : Txt mg K w pRefused pUnknown pMisused pWidth) (C_consists_of : Callee P w K mg base "_consists_of" 1 ["text", "characters"] (sp_consists_of K Ts)) :
    FnOk P w K mg base CX0 2 f fd ["value"] (sp_is_vector K Ts) := by
  refine F.ok sc_is_vector (fun vs H Q E h => ?_) (fun cdv A outer s H vs Q E hr h => ?_)
  · obtain ⟨x, rfl, _⟩ := h
    rfl
  · obtain ⟨a, ev, hd, g, q⟩ := h
    replace ev : vs = [sv a] := ev
    subst ev
    have hl : a.length ≤ 1000 := hd
    refine ⟨_, (pss_one (ps_ret (pe_and (pe_callB call_isi (by rfl) T.isinstance (by decide +kernel) (pa_cons (pv 0) (pa_cons (pe_ty (n := "str") (by rfl) T.str (by decide +kernel)) pa_nil))) (pe_and (pe_chain op_le op_le pe_int (pe_callB call_len_str (by rfl) T.len PySem.boot_len (pa_cons (pv 0) pa_nil)) (pe_globI (by rfl) T.g_MAX_WIDTH)) (pe_one (pe_fn C_consists_of (hr.mono (by decide)) (by rfl) (pa_cons (pv 0) (pa_cons pe_str pa_nil)))))))), ?_⟩
    refine st_ret ?_ (Ex.refl g) q
    exact ev_and (ev_cb (ea_cons (ev_var rfl) (ea_cons ev_c ea_nil)) rc_isiS) fun _ => ev_and (ev_chain ev_c (ev_cb (ea_cons (ev_var rfl) ea_nil) (rc_lenS (by omega))) rv_I0 (fun _ => ev_c) (fun _ => rv_I0)) fun _ => ev_call (a, [48, 49, 120, 122]) (ea_cons (ev_var rfl) (ea_cons (ev_s lt_01xz) ea_nil)) trivial

def rsB (w : Nat) (a : List Nat) : List Nat := if w < a.length then a.drop (a.length - w) else ext w a

abbrev sp_resize (K : PySem.W.Frag) (Ts : List Addr) : Sp := FnX Ts (fun x : List Nat × Nat => [sv x.1, .int (x.2 : Nat)]) (fun x _ => Vec x.1 ∧ 1 ≤ x.2 ∧ x.2 ≤ 64) (fun x => sv (rsB x.2 x.1)) (fun _ => none)
theorem ok_resize {f : Addr} {fd : FuncData} (F : Fun K "resize" "resize" s_resize f fd) (T : Txt mg K w pRefused pUnknown pMisused pWidth) (C_check_width : CalleeX P w K mg base "_check_width" 3 ["width"] (sp_check_width pWidth K Ts)) (C_extended : Callee P w K mg base "_extended" 1 ["vector", "width"] (sp_extended K Ts)) :
    FnOk P w K mg base (L2.CX P w) 4 f fd ["vector", "width"] (sp_resize K Ts) := by
  refine fun_okX F sc_resize (fun vs H Q E h => ?_) (fun cdv A outer s H vs Q E hr h => ?_)
  · obtain ⟨x, rfl, _⟩ := h
    rfl
  · obtain ⟨⟨a, k⟩, ev, hd, g, q⟩ := h
    replace ev : vs = [sv a, .int (k : Nat)] := ev
    subst ev
    obtain ⟨q, qx⟩ := q
    have ha : Vec a := hd.1
    have hk1 : 1 ≤ k := hd.2.1
    have hk2 : k ≤ 64 := hd.2.2
    have hal := ha.le
    have ok : errW pWidth (k : Int) = none := if_pos ⟨by omega, by omega⟩
    refine ⟨_, (pss_cons (ps_expr (pe_fnX (takes_of rfl rfl rfl rfl) C_check_width (hr.mono (by decide)) (by rfl) (pa_cons (pv 1) pa_nil)))
      (pss_cons (ps_if (pt_cmpR op_lt (pv 1) (pe_callB call_len_str (by rfl) T.len PySem.boot_len (pa_cons (pv 0) pa_nil)) (nomark _))
      (pss_one (ps_ret (pe_slice sl_str (pv 0) (po_some (pe_op op_sub (pe_callB call_len_str (by rfl) T.len PySem.boot_len (pa_cons (pv 0) pa_nil)) (pv 1))) po_none))) pss_nil)
      (pss_one (ps_ret (pe_fn C_extended (hr.mono (by decide)) (by rfl) (pa_cons (pv 0) (pa_cons (pv 1) pa_nil))))))), ?_⟩
    refine st_dropW (ew_call (k : Int) (ea_cons (ev_var rfl) ea_nil) fun _ _ => trivial) (Ex.refl g) (fun _ H1 e1 => ?_) (fun C u he => by rw [ok] at he; cases he)
    dsimp only
    refine st_if (b := decide ((k : Int) < (a.length : Int))) (et_test (ev_op (ev_var rfl) (ev_cb (ea_cons (ev_var rfl) ea_nil) (rc_lenS (by omega))) rv_I0)) e1 ?_ ?_
    · intro H2 e2 h
      have h1 := of_decide_eq_true h
      have h2 : k < a.length := by omega
      refine st_ret (ev_is (v := sv (a.drop (a.length - k))) (ev_slS (by omega) (ev_var rfl) (eo_some (ev_is (v := .int ((a.length : Int) - (k : Int))) (ev_op (ev_cb (ea_cons (ev_var rfl) ea_nil) (rc_lenS (by omega))) (ev_var rfl) rv_I0) (congrArg V.int (show (a.length : Int) - (k : Int) = ((a.length - k : Nat) : Int) by omega)))) eo_none (cutS_from (by omega))) (congrArg sv (if_pos h2).symm)) e2 (q rfl)
    · intro H2 e2 h
      dsimp only [tNext]
      have h1 := of_decide_eq_false h
      have h2 : ¬ k < a.length := by omega
      exact st_ret (ev_is (ev_call (a, k) (ea_cons (ev_var rfl) (ea_cons (ev_var rfl) ea_nil)) (show a.length ≤ 1000 ∧ k ≤ 1000 by omega)) (congrArg sv (if_neg h2).symm)) e2 (q rfl)

def inR (n : Nat) (hi lo : Int) : Prop := 0 ≤ lo ∧ lo ≤ hi ∧ hi < (n : Int)
instance (n : Nat) (hi lo : Int) : Decidable (inR n hi lo) := by
  unfold inR
  infer_instance
def errP (C : Addr) (n : Nat) (hi lo : Int) : Option (Addr × V) := if inR n hi lo then none else some (C, .int hi)
theorem errP_ok {C : Addr} {n : Nat} {hi lo : Int} (h : errP C n hi lo = none) : inR n hi lo := by
  unfold errP at h
  split at h
  · assumption
  · cases h
def ptB (a : List Nat) (hi lo : Int) : List Nat := (a.drop ((a.length : Int) - 1 - hi).toNat).take ((a.length : Int) - lo - ((a.length : Int) - 1 - hi)).toNat
theorem cutS_mid {a : List Nat} {i j : Int} (h0 : 0 ≤ i) (h1 : i ≤ j) (h2 : j ≤ (a.length : Int)) : cutS (S a) (some i) (some j) = S ((a.drop i.toNat).take (j - i).toNat) := by
  obtain ⟨i, rfl⟩ : ∃ k : Nat, i = k := ⟨i.toNat, by omega⟩
  obtain ⟨j, rfl⟩ : ∃ k : Nat, j = k := ⟨j.toNat, by omega⟩
  unfold cutS
  rw [HT.sIx_nat, HT.sIx_nat, S_list, S_len, Nat.min_eq_left (show i ≤ a.length by omega), Nat.min_eq_left (show j ≤ a.length by omega)]
  have e : ((j : Int) - (i : Int)).toNat = j - i := by omega
  rw [e]
  rfl
theorem chain_no {n : Nat} {hi lo : Int} (h : (decide (0 ≤ lo) && (decide (lo ≤ hi) && decide (hi < (n : Int)))) = false) : ¬ inR n hi lo := fun z => by
  rw [decide_eq_true z.1, decide_eq_true z.2.1, decide_eq_true z.2.2] at h
  cases h
theorem chain_yes {n : Nat} {hi lo : Int} (h : (decide (0 ≤ lo) && (decide (lo ≤ hi) && decide (hi < (n : Int)))) = true) : inR n hi lo := by
  rw [Bool.and_eq_true, Bool.and_eq_true] at h
  exact ⟨of_decide_eq_true h.1, of_decide_eq_true h.2.1, of_decide_eq_true h.2.2⟩

abbrev sp_part (pWidth : Addr) (K : PySem.W.Frag) (Ts : List Addr) : Sp := FnX Ts (fun x : List Nat × Int × Int => [sv x.1, .int x.2.1, .int x.2.2]) (fun x _ => Vec x.1) (fun x => sv (ptB x.1 x.2.1 x.2.2)) (fun x => errP pWidth x.1.length x.2.1 x.2.2)
theorem ok_part {f : Addr} {fd : FuncData} (F : Fun K "part" "part" s_part f fd) (T : Txt mg K w pRefused pUnknown pMisused pWidth) (I_Width : IniC P w K mg base "Width" pWidth) :
    FnOk P w K mg base (L2.CX P w) 3 f fd ["vector", "high", "low"] (sp_part pWidth K Ts) := by
  refine fun_okX F sc_part (fun vs H Q E h => ?_) (fun cdv A outer s H vs Q E hr h => ?_)
  · obtain ⟨x, rfl, _⟩ := h
    rfl
  · obtain ⟨⟨a, hi, lo⟩, ev, hd, g, q⟩ := h
    replace ev : vs = [sv a, .int hi, .int lo] := ev
    subst ev
    obtain ⟨q, qx⟩ := q
    obtain ⟨fI, Er⟩ := T.e_Width
    have ha : Vec a := hd
    have hal := ha.le
    refine ⟨_, (pss_cons (ps_set (i := 3) sc_part.nd rfl (.inl rfl) (pe_callB call_len_str (by rfl) T.len PySem.boot_len (pa_cons (pv 0) pa_nil)))
      (pss_cons (ps_if (pt_not (pt_chain3 op_le op_le op_lt pe_int (pv 2) (pv 1) (pv 3)))
      (pss_one (ps_err rfl (takes_of rfl rfl rfl rfl) I_Width (hr.mono (by decide)) (by rfl) (pa_cons (pv 1) pa_nil))) pss_nil)
      (pss_one (ps_ret (pe_slice sl_str (pv 0) (po_some (pe_op op_sub (pe_op op_sub (pv 3) pe_int) (pv 1))) (po_some (pe_op op_sub (pv 3) (pv 2)))))))), ?_⟩
    refine st_set (v := .int (a.length : Nat)) (ev_cb (ea_cons (ev_var rfl) ea_nil) (rc_lenS (by omega))) (Ex.refl g) ?_
    intro H1 e1
    dsimp only
    refine st_if (b := !(decide (0 ≤ lo) && (decide (lo ≤ hi) && decide (hi < (a.length : Int))))) (et_not (et_test (ev_chain3 ev_c (ev_var rfl) rv_I0 (fun _ => ev_var rfl) (fun _ => rv_I0) (fun _ _ => ev_var rfl) (fun _ _ => rv_I0)))) e1 ?_ ?_
    · intro H2 e2 h
      have hn := chain_no (not_t h)
      exact st_raise (W := fun cls d _ H => E cls d H) (ea_cons (ev_var rfl) ea_nil) Er.o Er.noN e2 fun d H2 e2 n hx => qx _ _ (if_neg hn) d H2 e2 n hx
    intro H2 e2 h
    dsimp only [tNext]
    have hr := chain_yes (not_f h)
    obtain ⟨h1, h2, h3⟩ := id hr
    refine st_ret (ev_slS (by omega) (ev_var rfl) (eo_some (ev_op (ev_op (ev_var rfl) ev_c rv_I0) (ev_var rfl) rv_I0)) (eo_some (ev_op (ev_var rfl) (ev_var rfl) rv_I0)) (cutS_mid (by omega) (by omega) (by omega))) e2 (q (if_pos hr))

abbrev sp_join (K : PySem.W.Frag) (Ts : List Addr) : Sp := FnX Ts (fun x : Addr × List (List Nat) => [.ref x.1]) (fun x H => (SqL K H x.1 (x.2.map sv) ∨ SqT K H x.1 (x.2.map sv)) ∧ 1 ≤ x.2.flatten.length ∧ x.2.flatten.length ≤ 64) (fun x => sv x.2.flatten) (fun _ => none)
theorem ok_join {f : Addr} {fd : FuncData} (F : Fun K "join" "join" s_join f fd) (T : Txt mg K w pRefused pUnknown pMisused pWidth) (C_check_width : CalleeX P w K mg base "_check_width" 3 ["width"] (sp_check_width pWidth K Ts)) :
    FnOk P w K mg base (L2.CX P w) 4 f fd ["vectors"] (sp_join K Ts) := by
  refine fun_okX F sc_join (fun vs H Q E h => ?_) (fun cdv A outer s H vs Q E hr h => ?_)
  · obtain ⟨x, rfl, _⟩ := h
    rfl
  · obtain ⟨⟨p, ls⟩, ev, hd, g, q⟩ := h
    replace ev : vs = [.ref p] := ev
    subst ev
    obtain ⟨q, qx⟩ := q
    obtain ⟨hp, hl1, hl2⟩ := hd
    replace hp : SqL K H p (ls.map sv) ∨ SqT K H p (ls.map sv) := hp
    replace hl1 : 1 ≤ ls.flatten.length := hl1
    replace hl2 : ls.flatten.length ≤ 64 := hl2
    refine ⟨_, (pss_cons (ps_set (i := 1) sc_join.nd rfl (.inl rfl) (pe_bm PySem.F.plainAttrs_str PySem.F.slot_str_join PySem.F.type_str_join mt_join pe_str (pa_cons (pv 0) pa_nil)))
      (pss_cons (ps_expr (pe_fnX (takes_of rfl rfl rfl rfl) C_check_width (hr.mono (by decide)) (by rfl) (pa_cons (pe_callB call_len_str (by rfl) T.len PySem.boot_len (pa_cons (pv 1) pa_nil)) pa_nil)))
      (pss_one (ps_ret (pv 1))))), ?_⟩
    refine st_set (v := sv ls.flatten) (ev_joinV (ev_s lt_e) (ev_var rfl) g hp (by omega) fun _ => rfl) (Ex.refl g) ?_
    intro H1 e1
    dsimp only
    have ok : errW pWidth (ls.flatten.length : Int) = none := if_pos ⟨by omega, by omega⟩
    refine st_dropW (ew_call (ls.flatten.length : Int) (ea_cons (ev_cb (ea_cons (ev_var rfl) ea_nil) (rc_lenS (by omega))) ea_nil) fun _ _ => trivial) e1 (fun _ H2 e2 => ?_) (fun C u he => by rw [ok] at he; cases he)
    dsimp only
    exact st_ret (ev_var rfl) e2 (q rfl)

end
end K01
set_option Elab.async false
set_option linter.all false
set_option maxRecDepth 100000
set_option maxHeartbeats 2000000
namespace K01
open PySem PySem.Spec PyProof.Rows L2 Cw
open GxR (TabG Tabbed TabB GenS)
local macro_rules | `(tactic| walk_at "ev") => `(tactic| first
  | exact ev_var rfl
  | exact ev_s lt_0 | exact ev_s lt_b | exact ev_s lt_01xz | exact ev_s lt_01 | exact ev_s lt_e | exact ev_s lt_0110
  | exact ev_c
  | (apply ev_op <;> walk_at "ev")
  | exact rv_I0 | (refine rv_I ?_; first | omega | decide | assumption)
  | exact rv_eq rfl | exact rv_ne rfl | exact rv_inS | exact rv_niS
  | (refine rv_addS ?_; first | assumption | omega | decide)
  | (refine rv_mulS ?_ ?_ <;> first | assumption | omega | decide)
  | (apply ev_cb <;> walk_at "ev")
  | (refine rc_lenS ?_; first | assumption | omega | decide)
  | exact rc_max | exact rc_abs | exact rc_intI | exact rc_intB | exact rc_min
  | exact ea_nil
  | (apply ea_cons <;> walk_at "ev")
  | (apply et_and; walk_at "ev"; intro _; walk_at "ev")
  | (apply et_or; walk_at "ev"; intro _; walk_at "ev")
  | (apply et_not; walk_at "ev")
  | (apply et_test; walk_at "ev")
  | (apply et_B; walk_at "ev"))
section
variable {P : Program} {w : World} {K : PySem.W.Frag} {mg : Str → Option Value} {base : Heap} {pRefused pUnknown pMisused pWidth : Addr} {Ts : List Addr}
abbrev sp_law_bits (K : PySem.W.Frag) (Ts : List Addr) : Sp := FnV Ts (fun x : Nat × Nat => [.int (x.1 : Nat), .int (x.2 : Nat)]) (fun x => x.2 ≤ 64) fun x => sv (bitsOf x.2 x.1)
theorem ok_law_bits {f : Addr} {fd : FuncData} (F : Fun K "_law_bits" "_law_bits" s_law_bits f fd) (T : Txt mg K w pRefused pUnknown pMisused pWidth)  :
    FnOk P w K mg base CX0 1 f fd ["number", "width"] (sp_law_bits K Ts) := by
  refine F.ok sc_law_bits (fun vs H Q E h => ?_) (fun cdv A outer s H vs Q E hr h => ?_)
  · obtain ⟨x, rfl, _⟩ := h
    rfl
  · obtain ⟨⟨m, k⟩, ev, hd, g, q⟩ := h
    replace ev : vs = [.int (m : Nat), .int (k : Nat)] := ev
    subst ev
    have h2 : k ≤ 64 := hd
    refine ⟨_, (pss_one (ps_ret (pe_bm PySem.F.plainAttrs_str PySem.F.slot_str_join PySem.F.type_str_join mt_join pe_str (pa_cons (pe_revL (pe_lc (own := [("place", 2)]) (by rfl) sc_law_bits.nd (pi_range1 rfl T.range (pa_cons (pv 1) pa_nil)) (blkOk_by (own := [("place", 2)]) (N := ["number", "width", "place"]) (sc := defScope s_law_bits) (by decide +kernel)) (fun _ _ _ _ _ => pg_name (i := 2) sc_law_bits.nd rfl (Or.inl rfl)) (fun _ _ _ _ _ => pts_nil) (fun _ _ _ _ _ => (pe_callTy call_str_int (by rfl) T.str (by decide +kernel) (pa_cons (pe_op op_mod (pe_op op_fdivW (pv 0) (pe_op op_oneShl pe_int (pv 2))) pe_int) pa_nil))))) pa_nil)))), ?_⟩
    refine st_ret (v := sv (((List.range k).reverse.map fun i => [48 + m / 2 ^ i % 2]).flatten)) ?_ (Ex.refl g) ?_
    · refine ev_join (ev_s lt_e) (ev_strs (K := K) (fun i => 48 + m / 2 ^ i % 2) (List.range k).reverse ?_) ?_ (fun _ => rfl)
      · rw [List.map_reverse]
        refine en_rev (en_lcR (by omega) (ev_var rfl) fun i hi => ?_)
        refine ev_cb (ea_cons (ev_is (v := .int (((m : Int) / (2 ^ i : Int)) % 2)) ?_ (congrArg V.int (bit_cast m i))) ea_nil) (rc_strB (by omega))
        refine ev_op (ev_op (ev_var rfl) (ev_op ev_c (ev_var rfl) (rv_oneShl (by omega))) (rv_I (wide_div (b := 65) (two_pos i) ?_ (by decide) (by decide)))) ev_c (rv_I (by decide))
        rw [two_pow_cast, Int.natAbs_natCast]
        exact Nat.pow_lt_pow_right (by decide) (by omega)
      · rw [flat_one, List.length_map, List.length_reverse, List.length_range]
        omega
    · rw [flat_one, List.map_reverse]
      exact q

abbrev sp_law_text (K : PySem.W.Frag) (Ts : List Addr) : Sp := FnV Ts (fun x : List Nat × Int => [sv x.1, .int x.2]) (fun x => x.1.length ≤ 1000) fun x => .bl (decide (V.int (x.1.length : Nat) = V.int x.2))
theorem ok_law_text {f : Addr} {fd : FuncData} (F : Fun K "_law_text" "_law_text" s_law_text f fd) (T : Txt mg K w pRefused pUnknown pMisused pWidth)  :
    FnOk P w K mg base CX0 1 f fd ["vector", "width"] (sp_law_text K Ts) := by
  refine F.ok sc_law_text (fun vs H Q E h => ?_) (fun cdv A outer s H vs Q E hr h => ?_)
  · obtain ⟨x, rfl, _⟩ := h
    rfl
  · obtain ⟨⟨a, k⟩, ev, hd, g, q⟩ := h
    replace ev : vs = [sv a, .int k] := ev
    subst ev
    have hl : a.length ≤ 1000 := hd
    refine ⟨_, (pss_one (ps_ret (pe_and (pe_callB call_isi (by rfl) T.isinstance (by decide +kernel) (pa_cons (pv 0) (pa_cons (pe_ty (n := "str") (by rfl) T.str (by decide +kernel)) pa_nil))) (pe_one (pe_cmpR op_eq (pe_callB call_len_str (by rfl) T.len PySem.boot_len (pa_cons (pv 0) pa_nil)) (pv 1) (nomark _)))))), ?_⟩
    refine st_ret (ev_is (ev_and (a := true) (b := decide (V.int (a.length : Nat) = V.int k)) (ev_cb (ea_cons (ev_var rfl) (ea_cons ev_c ea_nil)) rc_isiS) fun _ => ev_op (ev_cb (ea_cons (ev_var rfl) ea_nil) (rc_lenS (by omega))) (ev_var rfl) (rv_eq rfl)) rfl) (Ex.refl g) q

abbrev sp_law_refuses_width (K : PySem.W.Frag) (Ts : List Addr) : Sp := FnV Ts (fun x : Int × Int => [.int x.1, .int x.2]) (fun x => ¬ (1 ≤ x.1 ∧ x.1 ≤ 64)) fun _ => .bl true
theorem ok_law_refuses_width {f : Addr} {fd : FuncData} (F : Fun K "_law_refuses_width" "_law_refuses_width" s_law_refuses_width f fd) (T : Txt mg K w pRefused pUnknown pMisused pWidth) (C_from_number : CalleeK P w K mg base "from_number" 4 ["number", "width"] 1 ["width"] (sp_from_number pWidth K Ts)) :
    FnOk P w K mg base CX0 5 f fd ["width", "number"] (sp_law_refuses_width K Ts) := by
  refine F.ok sc_law_refuses_width (fun vs H Q E h => ?_) (fun cdv A outer s H vs Q E hr h => ?_)
  · obtain ⟨x, rfl, _⟩ := h
    rfl
  · obtain ⟨⟨k, n⟩, ev, hd, g, q⟩ := h
    replace ev : vs = [.int k, .int n] := ev
    subst ev
    have hn : ¬ (1 ≤ k ∧ k ≤ 64) := hd
    obtain ⟨fI, Er⟩ := T.e_Width
    have he : errW pWidth k = some (pWidth, .int k) := if_neg hn
    refine ⟨_, (pss_cons (ps_try_as (i := 2) (Wout := fun _ _ _ _ => False) rfl rfl sc_law_refuses_width.nd rfl rfl ⟨rfl, by decide, Or.inl T.g_Width⟩ tk0
      (fun W pn xe tk _ => (pss_one (ps_expr (pe_fnK tk C_from_number (hr.mono (by decide)) (by rfl) (pa_cons (pv 1) pa_nil) (pk_cons (pv 0) pk_nil)))))
      (fun a oe cls d pn hz hf => (pss_one (ps_ret (pe_and (pe_cmpR op_eq (pe_xn hz hf (pv 2)) (pv 0) (nomark _)) (pe_one (pe_not (pe_callB (call_isX hz hf) (by rfl) T.isinstance (by decide +kernel) (pa_cons (pv 2) (pa_cons (pe_glob (v := .ref _) (by rfl) T.g_Unknown rfl) pa_nil))))))))))
      (pss_one (ps_ret pe_bl))), ?_⟩
    have hw := fun (W : WX) => ew_callK (Ts := Ts) (W := W) (σ := [some (.int k), some (.int n), none]) (H := H) (tr := tCons (tVar 1) tNil) (tz := tCons (tVar 0) tNil) (n := 1) (m := 1) (enc := fun x : Int × Int => [.int x.1, .int x.2]) (dom := fun _ _ => True) (res := fun x => sv (lowB x.2.toNat x.1)) (err := fun x => errW pWidth x.2) (n, k) (ea_cons (ev_var rfl) ea_nil) (ea_cons (ev_var rfl) ea_nil) rfl rfl rfl fun _ _ => trivial
    try dsimp only at hw
    rw [he] at hw
    refine st_caught (hw _) (Ex.refl g) T.m_Width_Width fun a d H2 e2 nd hx => ?_
    refine st_ret (ev_and (a := true) (b := true) (ev_is (ev_op (ev_xn (ev_var rfl) Er nd hx) (ev_var rfl) (rv_eq rfl)) (by rw [decide_eq_true rfl])) fun _ => ev_not (a := false) (ev_cb (ea_cons (ev_var rfl) (ea_cons ev_c ea_nil)) (rc_isX Er nd hx T.k_Width_Unknown))) (Ex.refl e2.good) fun H3 e3 => q H3 (e2.trans e3)

abbrev sp_law_refuses_part (K : PySem.W.Frag) (Ts : List Addr) : Sp := FnV Ts (fun x : List Nat × Int × Int => [sv x.1, .int x.2.1, .int x.2.2]) (fun x => Vec x.1 ∧ ¬ inR x.1.length x.2.1 x.2.2) fun _ => .bl true
theorem ok_law_refuses_part {f : Addr} {fd : FuncData} (F : Fun K "_law_refuses_part" "_law_refuses_part" s_law_refuses_part f fd) (T : Txt mg K w pRefused pUnknown pMisused pWidth) (C_part : CalleeK P w K mg base "part" 3 ["vector", "high", "low"] 1 ["high", "low"] (sp_part pWidth K Ts)) :
    FnOk P w K mg base CX0 4 f fd ["vector", "high", "low"] (sp_law_refuses_part K Ts) := by
  refine F.ok sc_law_refuses_part (fun vs H Q E h => ?_) (fun cdv A outer s H vs Q E hr h => ?_)
  · obtain ⟨x, rfl, _⟩ := h
    rfl
  · obtain ⟨⟨a, hi, lo⟩, ev, hd, g, q⟩ := h
    replace ev : vs = [sv a, .int hi, .int lo] := ev
    subst ev
    have ha : Vec a := hd.1
    have hn : ¬ inR a.length hi lo := hd.2
    obtain ⟨fI, Er⟩ := T.e_Width
    have he : errP pWidth a.length hi lo = some (pWidth, .int hi) := if_neg hn
    refine ⟨_, (pss_cons (ps_try_as (i := 3) (Wout := fun _ _ _ _ => False) rfl rfl sc_law_refuses_part.nd rfl rfl ⟨rfl, by decide, Or.inl T.g_Width⟩ tk0
      (fun W pn xe tk _ => (pss_one (ps_expr (pe_fnK tk C_part (hr.mono (by decide)) (by rfl) (pa_cons (pv 0) pa_nil) (pk_cons (pv 1) (pk_cons (pv 2) pk_nil))))))
      (fun a oe cls d pn hz hf => (pss_one (ps_ret (pe_cmpR op_eq (pe_xn hz hf (pv 3)) (pv 1) (nomark _))))))
      (pss_one (ps_ret pe_bl))), ?_⟩
    have hw := fun (W : WX) => ew_callK (Ts := Ts) (W := W) (σ := [some (sv a), some (.int hi), some (.int lo), none]) (H := H) (tr := tCons (tVar 0) tNil) (tz := tCons (tVar 1) (tCons (tVar 2) tNil)) (n := 1) (m := 2) (enc := fun x : List Nat × Int × Int => [sv x.1, .int x.2.1, .int x.2.2]) (dom := fun x _ => Vec x.1) (res := fun x => sv (ptB x.1 x.2.1 x.2.2)) (err := fun x => errP pWidth x.1.length x.2.1 x.2.2) (a, hi, lo) (ea_cons (ev_var rfl) ea_nil) (ea_cons (ev_var rfl) (ea_cons (ev_var rfl) ea_nil)) rfl rfl rfl fun _ _ => ha
    try dsimp only at hw
    rw [he] at hw
    refine st_caught (hw _) (Ex.refl g) T.m_Width_Width fun a d H2 e2 nd hx => ?_
    exact st_ret (ev_is (ev_op (ev_xn (ev_var rfl) Er nd hx) (ev_var rfl) (rv_eq rfl)) (by rw [decide_eq_true rfl])) (Ex.refl e2.good) fun H3 e3 => q H3 (e2.trans e3)

abbrev sp_law_refuses_number (K : PySem.W.Frag) (Ts : List Addr) : Sp := FnV Ts (fun a : List Nat => [sv a]) (fun a => Vec a ∧ kn a = false) fun _ => .bl true
theorem ok_law_refuses_number {f : Addr} {fd : FuncData} (F : Fun K "_law_refuses_number" "_law_refuses_number" s_law_refuses_number f fd) (T : Txt mg K w pRefused pUnknown pMisused pWidth) (C_to_number : CalleeX P w K mg base "to_number" 3 ["vector"] (sp_to_number pMisused K Ts)) :
    FnOk P w K mg base CX0 4 f fd ["vector"] (sp_law_refuses_number K Ts) := by
  refine F.ok sc_law_refuses_number (fun vs H Q E h => ?_) (fun cdv A outer s H vs Q E hr h => ?_)
  · obtain ⟨x, rfl, _⟩ := h
    rfl
  · obtain ⟨a, ev, hd, g, q⟩ := h
    replace ev : vs = [sv a] := ev
    subst ev
    have ha : Vec a := hd.1
    have hn : kn a = false := hd.2
    obtain ⟨fI, Er⟩ := T.e_Misused
    have he : errM pMisused a = some (pMisused, sv a) := if_neg (by rw [hn]; exact Bool.false_ne_true)
    refine ⟨_, (pss_cons (ps_try_as (i := 1) (Wout := fun _ _ _ _ => False) rfl rfl sc_law_refuses_number.nd rfl rfl ⟨rfl, by decide, Or.inl T.g_Refused⟩ tk0
      (fun W pn xe tk _ => (pss_one (ps_expr (pe_fnX tk C_to_number (hr.mono (by decide)) (by rfl) (pa_cons (pv 0) pa_nil)))))
      (fun a oe cls d pn hz hf => (pss_one (ps_ret (pe_and (pe_callB (call_isX hz hf) (by rfl) T.isinstance (by decide +kernel) (pa_cons (pv 1) (pa_cons (pe_glob (v := .ref _) (by rfl) T.g_Misused rfl) pa_nil))) (pe_and (pe_not (pe_callB (call_isX hz hf) (by rfl) T.isinstance (by decide +kernel) (pa_cons (pv 1) (pa_cons (pe_glob (v := .ref _) (by rfl) T.g_Width rfl) pa_nil)))) (pe_one (pe_cmpR op_eq (pe_xn hz hf (pv 1)) (pv 0) (nomark _)))))))))
      (pss_one (ps_ret pe_bl))), ?_⟩
    have hw := fun (W : WX) => ew_call (Ts := Ts) (W := W) (σ := [some (sv a), none]) (H := H) (tr := tCons (tVar 0) tNil) (enc := fun a : List Nat => [sv a]) (dom := fun a _ => Vec a) (res := fun a => .int (val a : Nat)) (err := fun a => errM pMisused a) a (ea_cons (ev_var rfl) ea_nil) fun _ _ => ha
    try dsimp only at hw
    rw [he] at hw
    refine st_caught (hw _) (Ex.refl g) T.m_Misused_Refused fun a d H2 e2 nd hx => ?_
    exact st_ret (ev_and (a := true) (b := true) (ev_cb (ea_cons (ev_var rfl) (ea_cons ev_c ea_nil)) (rc_isX Er nd hx T.k_Misused_Misused)) fun _ => ev_and (a := true) (b := true) (ev_not (a := false) (ev_cb (ea_cons (ev_var rfl) (ea_cons ev_c ea_nil)) (rc_isX Er nd hx T.k_Misused_Width))) fun _ => (ev_is (ev_op (ev_xn (ev_var rfl) Er nd hx) (ev_var rfl) (rv_eq rfl)) (by rw [decide_eq_true rfl]))) (Ex.refl e2.good) fun H3 e3 => q H3 (e2.trans e3)

end
end K01
set_option Elab.async false
set_option linter.all false
set_option maxRecDepth 100000
set_option maxHeartbeats 2000000
namespace K01
open PySem PySem.Spec PyProof.Rows L2 Cw
open GxR (TabG Tabbed TabB GenS)
local macro_rules | `(tactic| walk_at "ev") => `(tactic| first
  | exact ev_var rfl
  | exact ev_s lt_0 | exact ev_s lt_b | exact ev_s lt_01xz | exact ev_s lt_01 | exact ev_s lt_e | exact ev_s lt_0110
  | exact ev_c
  | (apply ev_op <;> walk_at "ev")
  | exact rv_I0 | (refine rv_I ?_; first | omega | decide | assumption)
  | exact rv_eq rfl | exact rv_ne rfl | exact rv_inS | exact rv_niS
  | (refine rv_addS ?_; first | assumption | omega | decide)
  | (refine rv_mulS ?_ ?_ <;> first | assumption | omega | decide)
  | (apply ev_cb <;> walk_at "ev")
  | (refine rc_lenS ?_; first | assumption | omega | decide)
  | exact rc_max | exact rc_abs | exact rc_intI | exact rc_intB | exact rc_min
  | exact ea_nil
  | (apply ea_cons <;> walk_at "ev")
  | (apply et_and; walk_at "ev"; intro _; walk_at "ev")
  | (apply et_or; walk_at "ev"; intro _; walk_at "ev")
  | (apply et_not; walk_at "ev")
  | (apply et_test; walk_at "ev")
  | (apply et_B; walk_at "ev"))
section
variable {P : Program} {w : World} {K : PySem.W.Frag} {mg : Str → Option Value} {base : Heap} {pRefused pUnknown pMisused pWidth : Addr} {Ts : List Addr}
theorem low_kn {w : Nat} {n : Int} : kn (lowB w n) = true := List.all_eq_true.mpr fun c hc => by
  have h := bits_bin w _ c hc
  unfold IsBin at h
  exact decide_eq_true (by simpa using h)
theorem low_val {w : Nat} {n : Int} : val (lowB w n) = modW w n := by
  rw [← val_eq low_kn]
  exact bits_num w _ (modW_lt w n)
theorem low_isv {w : Nat} {n : Int} (h0 : 1 ≤ w) (h1 : w ≤ 64) : (true && ((decide (1 ≤ ((lowB w n).length : Int)) && decide (((lowB w n).length : Int) ≤ 64)) && (lowB w n).all fun c => decide (c ∈ [48, 49, 120, 122]))) = true := by
  rw [lowB_len, decide_eq_true (show (1 : Int) ≤ (w : Int) by omega), decide_eq_true (show (w : Int) ≤ 64 by omega), Bool.true_and, Bool.true_and, Bool.true_and]
  refine List.all_eq_true.mpr fun c hc => decide_eq_true ?_
  rcases bits_bin w _ c hc with h | h
  · rw [h]
    decide
  · rw [h]
    decide
theorem lw_lt (m : Nat) : (m : Int) < 2 ^ lwB (m : Int) := by
  have h := PyProof.Rows.natAbs_lt_pow_bits (m : Int)
  rw [Int.natAbs_natCast] at h
  rw [two_pow_cast]
  have h2 : 2 ^ Builtin.Int.intBits (m : Int) ≤ 2 ^ lwB (m : Int) := Nat.pow_le_pow_right (by decide) (Nat.le_max_right _ _)
  exact Int.ofNat_lt.mpr (Nat.lt_of_lt_of_le h h2)
theorem lw_ge {m : Nat} (h : lwB (m : Int) ≠ 1) : (2 : Int) ^ (lwB (m : Int) - 1) ≤ (m : Int) := by
  have hb : 2 ≤ Builtin.Int.intBits (m : Int) := by
    unfold lwB at h
    omega
  have hl : lwB (m : Int) = Builtin.Int.intBits (m : Int) := by
    unfold lwB
    omega
  rw [hl, two_pow_cast]
  refine Int.ofNat_le.mpr (Nat.not_lt.mp fun z => ?_)
  have z2 := PyProof.Rows.intBits_le (a := (m : Int)) (k := Builtin.Int.intBits (m : Int) - 1) (by rw [Int.natAbs_natCast]; exact z)
  omega
theorem lw_le {m w : Nat} (h : m < 2 ^ w) (h1 : 1 ≤ w) : lwB (m : Int) ≤ w := by
  have z := PyProof.Rows.intBits_le (a := (m : Int)) (k := w) (by rw [Int.natAbs_natCast]; exact h)
  unfold lwB
  omega

abbrev sp_law_numbers_hold (K : PySem.W.Frag) (Ts : List Addr) : Sp := FnV Ts (fun x : Int × Nat => [.int x.1, .int (x.2 : Nat)]) (fun x => 1 ≤ x.2 ∧ x.2 ≤ 64) fun _ => .bl true
theorem ok_law_numbers_hold {f : Addr} {fd : FuncData} (F : Fun K "_law_numbers_hold" "_law_numbers_hold" s_law_numbers_hold f fd) (T : Txt mg K w pRefused pUnknown pMisused pWidth) (C_from_number : CalleeK P w K mg base "from_number" 4 ["number", "width"] 1 ["width"] (sp_from_number pWidth K Ts)) (C_least_width : Callee P w K mg base "least_width" 1 ["number"] (sp_least_width K Ts)) (C_law_text : Callee P w K mg base "_law_text" 1 ["vector", "width"] (sp_law_text K Ts)) (C_is_vector : Callee P w K mg base "is_vector" 2 ["value"] (sp_is_vector K Ts)) (C_is_known : Callee P w K mg base "is_known" 2 ["vector"] (sp_is_known K Ts)) (C_law_bits : Callee P w K mg base "_law_bits" 1 ["number", "width"] (sp_law_bits K Ts)) (C_to_number : CalleeX P w K mg base "to_number" 3 ["vector"] (sp_to_number pMisused K Ts)) :
    FnOk P w K mg base CX0 5 f fd ["number", "width"] (sp_law_numbers_hold K Ts) := by
  refine F.ok sc_law_numbers_hold (fun vs H Q E h => ?_) (fun cdv A outer s H vs Q E hr h => ?_)
  · obtain ⟨x, rfl, _⟩ := h
    rfl
  · obtain ⟨⟨n, k⟩, ev, hd, g, q⟩ := h
    replace ev : vs = [.int n, .int (k : Nat)] := ev
    subst ev
    have h1 : 1 ≤ k := hd.1
    have h2 : k ≤ 64 := hd.2
    have ok : errW pWidth (k : Int) = none := if_pos ⟨by omega, by omega⟩
    have hll := lowB_len k n
    refine ⟨_, (pss_cons (ps_set (i := 2) sc_law_numbers_hold.nd rfl (.inl rfl) (pe_fnK tk0 C_from_number (hr.mono (by decide)) (by rfl) (pa_cons (pv 0) pa_nil) (pk_cons (pv 1) pk_nil)))
      (pss_cons (ps_if (PW.pt (pw_or (pt_not (pt_val (pe_fn C_law_text (hr.mono (by decide)) (by rfl) (pa_cons (pv 2) (pa_cons (pv 1) pa_nil))))) (pw_or (pt_not (pt_val (pe_fn C_is_vector (hr.mono (by decide)) (by rfl) (pa_cons (pv 2) pa_nil)))) (pw_or1 (pt_not (pt_val (pe_fn C_is_known (hr.mono (by decide)) (by rfl) (pa_cons (pv 2) pa_nil))))))))
      (pss_one (ps_ret pe_bl)) pss_nil)
      (pss_cons (ps_set (i := 3) sc_law_numbers_hold.nd rfl (.inl rfl) (pe_op op_mod (pv 0) (pe_op op_oneShl pe_int (pv 1))))
      (pss_cons (ps_if (PW.pt (pw_or (pt_cmpR op_ne (pv 2) (pe_fn C_law_bits (hr.mono (by decide)) (by rfl) (pa_cons (pv 3) (pa_cons (pv 1) pa_nil))) (nomark _)) (pw_or1 (pt_cmpR op_ne (pe_fnX tk0 C_to_number (hr.mono (by decide)) (by rfl) (pa_cons (pv 2) pa_nil)) (pv 3) (nomark _)))))
      (pss_one (ps_ret pe_bl)) pss_nil)
      (pss_cons (ps_set (i := 4) sc_law_numbers_hold.nd rfl (.inl rfl) (pe_fn C_least_width (hr.mono (by decide)) (by rfl) (pa_cons (pv 3) pa_nil)))
      (pss_cons (ps_if (PW.pt (pw_or (pt_not (pt_val (pe_callB call_isi (by rfl) T.isinstance (by decide +kernel) (pa_cons (pv 4) (pa_cons (pe_ty (n := "int") (by rfl) T.int (by decide +kernel)) pa_nil))))) (pw_or (pt_val (pe_callB call_isi (by rfl) T.isinstance (by decide +kernel) (pa_cons (pv 4) (pa_cons (pe_ty (n := "bool") (by rfl) T.bool (by decide +kernel)) pa_nil)))) (pw_or1 (pt_cmpR op_lt (pv 4) pe_int (nomark _))))))
      (pss_one (ps_ret pe_bl)) pss_nil)
      (pss_one (ps_ret (pe_and (pe_cmpR op_lt (pv 3) (pe_op op_oneShl pe_int (pv 4)) (nomark _)) (pe_one (pe_or (pe_cmpR op_eq (pv 4) pe_int (nomark _)) (pe_one (pe_cmpR op_ge (pv 3) (pe_op op_oneShl pe_int (pe_op op_sub (pv 4) pe_int)) (nomark _)))))))))))))), ?_⟩
    refine st_set (v := sv (lowB k n)) ((ew_callK (n, (k : Int)) (ea_cons (ev_var rfl) ea_nil) (ea_cons (ev_var rfl) ea_nil) rfl rfl rfl fun _ _ => trivial).ok ok) (Ex.refl g) ?_
    intro H1 e1
    dsimp only
    refine st_no (et_is (et_or (a := false) (et_is (et_not (et_B (ev_call (lowB k n, (k : Int)) (ea_cons (ev_var rfl) (ea_cons (ev_var rfl) ea_nil)) (show (lowB k n).length ≤ 1000 by omega)))) ?_) fun _ => et_or (a := false) (b := false) (et_is (et_not (et_B (ev_call (lowB k n) (ea_cons (ev_var rfl) ea_nil) (show (lowB k n).length ≤ 1000 by omega)))) ?_) fun _ => et_is (et_not (et_B (ev_call (lowB k n) (ea_cons (ev_var rfl) ea_nil) trivial))) ?_) rfl) e1 ?_
    · show (!decide (V.int ((lowB k n).length : Nat) = V.int (k : Int))) = false
      rw [hll, decide_eq_true rfl]
      rfl
    · show (!(true && ((decide (1 ≤ ((lowB k n).length : Int)) && decide (((lowB k n).length : Int) ≤ 64)) && (lowB k n).all fun c => decide (c ∈ [48, 49, 120, 122])))) = false
      rw [low_isv h1 h2]
      rfl
    · show (!(kn (lowB k n))) = false
      rw [low_kn]
      rfl
    intro H2 e2
    dsimp only
    refine st_set (v := .int (modW k n : Nat)) (ev_is (ev_op (ev_var rfl) (ev_op ev_c (ev_var rfl) (rv_oneShl (by omega))) (rv_I (two_pos k))) (congrArg V.int (modW_cast k n))) e2 ?_
    intro H3 e3
    dsimp only
    have hm := modW_lt k n
    have okM : errM pMisused (lowB k n) = none := if_pos low_kn
    refine st_no (et_is (et_or (a := false) (b := false) (et_ne (a := lowB k n) (b := bitsOf k (modW k n)) (ev_var rfl) (ev_call (modW k n, k) (ea_cons (ev_var rfl) (ea_cons (ev_var rfl) ea_nil)) h2) rfl) fun _ => et_is (et_test (ev_op ((ew_call (lowB k n) (ea_cons (ev_var rfl) ea_nil) fun _ _ => lowB_vec h1 h2).ok okM) (ev_var rfl) (rv_ne rfl))) ?_) rfl) e3 ?_
    · show (!decide (V.int (val (lowB k n) : Nat) = V.int (modW k n : Nat))) = false
      rw [low_val, decide_eq_true rfl]
      rfl
    intro H4 e4
    dsimp only
    have hle := lw_le hm h1
    have hlt := lw_lt (modW k n)
    have hge := @lw_ge (modW k n)
    refine st_set (v := .int (lwB (modW k n : Nat) : Nat)) (ev_call ((modW k n : Nat) : Int) (ea_cons (ev_var rfl) ea_nil) trivial) e4 ?_
    intro H5 e5
    dsimp only
    have hl1 : 1 ≤ lwB (modW k n : Nat) := Nat.le_max_left _ _
    generalize lwB (modW k n : Nat) = l at hle hlt hge hl1 ⊢
    refine st_no (et_is (et_or (a := false) (et_is (et_not (et_B (ev_cb (ea_cons (ev_var rfl) (ea_cons ev_c ea_nil)) (rc_isiI (b := true) (by decide +kernel))))) rfl) fun _ => et_or (a := false) (b := false) (et_B (ev_cb (ea_cons (ev_var rfl) (ea_cons ev_c ea_nil)) (rc_isiI (b := false) (by decide +kernel)))) fun _ => et_is (et_test (ev_op (ev_var rfl) ev_c rv_I0)) ?_) rfl) e5 ?_
    · exact decide_eq_false (by omega)
    intro H6 e6
    dsimp only
    refine st_ret (ev_and (a := true) (b := true) (ev_is (ev_op (ev_var rfl) (ev_op ev_c (ev_var rfl) (rv_oneShl (by omega))) rv_I0) (congrArg V.bl (decide_eq_true hlt))) fun _ => ?_) e6 q
    by_cases hl : l = 1
    · subst hl
      exact ev_orT (ev_is (ev_op (ev_var rfl) ev_c (rv_eq rfl)) (congrArg V.bl (decide_eq_true rfl)))
    · refine ev_orF (ev_is (ev_op (ev_var rfl) ev_c (rv_eq rfl)) (by rw [decide_eq_false (fun z => hl (by have := V.int.inj z; omega))])) ?_
      refine ev_is (ev_op (ev_var rfl) (ev_op ev_c (ev_is (ev_op (ev_var rfl) ev_c rv_I0) (congrArg V.int (show (l : Int) - 1 = ((l - 1 : Nat) : Int) by omega))) (rv_oneShl (by omega))) rv_I0) (congrArg V.bl (decide_eq_true ?_))
      exact hge hl

end
end K01
set_option Elab.async false
set_option linter.all false
set_option maxRecDepth 100000
set_option maxHeartbeats 2000000
namespace K01
open PySem PySem.Spec PyProof.Rows L2 Cw
open GxR (TabG Tabbed TabB GenS)
local macro_rules | `(tactic| walk_at "ev") => `(tactic| first
  | exact ev_var rfl
  | exact ev_s lt_0 | exact ev_s lt_b | exact ev_s lt_01xz | exact ev_s lt_01 | exact ev_s lt_e | exact ev_s lt_0110
  | exact ev_c
  | (apply ev_op <;> walk_at "ev")
  | exact rv_I0 | (refine rv_I ?_; first | omega | decide | assumption)
  | exact rv_eq rfl | exact rv_ne rfl | exact rv_inS | exact rv_niS
  | (refine rv_addS ?_; first | assumption | omega | decide)
  | (refine rv_mulS ?_ ?_ <;> first | assumption | omega | decide)
  | (apply ev_cb <;> walk_at "ev")
  | (refine rc_lenS ?_; first | assumption | omega | decide)
  | exact rc_max | exact rc_abs | exact rc_intI | exact rc_intB | exact rc_min
  | exact ea_nil
  | (apply ea_cons <;> walk_at "ev")
  | (apply et_and; walk_at "ev"; intro _; walk_at "ev")
  | (apply et_or; walk_at "ev"; intro _; walk_at "ev")
  | (apply et_not; walk_at "ev")
  | (apply et_test; walk_at "ev")
  | (apply et_B; walk_at "ev"))
section
variable {P : Program} {w : World} {K : PySem.W.Frag} {mg : Str → Option Value} {base : Heap} {pRefused pUnknown pMisused pWidth : Addr} {Ts : List Addr}
theorem pt_nat {a : List Nat} {hi lo : Nat} (h1 : lo ≤ hi) (h2 : hi < a.length) : ptB a (hi : Int) (lo : Int) = (a.drop (a.length - 1 - hi)).take (hi + 1 - lo) := by
  unfold ptB
  have e1 : ((a.length : Int) - 1 - (hi : Int)).toNat = a.length - 1 - hi := by omega
  have e2 : ((a.length : Int) - (lo : Int) - ((a.length : Int) - 1 - (hi : Int))).toNat = hi + 1 - lo := by omega
  rw [e1, e2]
theorem pt_top {a : List Nat} {hi : Nat} (h2 : hi + 1 < a.length) : ptB a ((a.length : Int) - 1) ((hi : Int) + 1) = a.take (a.length - 1 - hi) := by
  have e1 : (a.length : Int) - 1 = ((a.length - 1 : Nat) : Int) := by omega
  have e2 : (hi : Int) + 1 = ((hi + 1 : Nat) : Int) := by omega
  rw [e1, e2, pt_nat (by omega) (by omega)]
  have e3 : a.length - 1 - (a.length - 1) = 0 := by omega
  have e4 : a.length - 1 + 1 - (hi + 1) = a.length - 1 - hi := by omega
  rw [e3, e4, List.drop_zero]
theorem pt_bot {a : List Nat} {lo : Nat} (h1 : 0 < lo) (h2 : lo < a.length) : ptB a ((lo : Int) - 1) 0 = a.drop (a.length - lo) := by
  have e1 : (lo : Int) - 1 = ((lo - 1 : Nat) : Int) := by omega
  rw [e1, show (0 : Int) = ((0 : Nat) : Int) from rfl, pt_nat (by omega) (by omega)]
  have e3 : a.length - 1 - (lo - 1) = a.length - lo := by omega
  rw [e3]
  exact List.take_of_length_le (by rw [List.length_drop]; omega)
theorem cat_top {a : List Nat} {hi lo : Nat} (h1 : lo ≤ hi) (h2 : hi < a.length) : a.take (a.length - 1 - hi) ++ (a.drop (a.length - 1 - hi)).take (hi + 1 - lo) = a.take (a.length - lo) := by
  have e : a.length - lo = (a.length - 1 - hi) + (hi + 1 - lo) := by omega
  rw [e, List.take_add]

abbrev sp_law_parts_hold (K : PySem.W.Frag) (Ts : List Addr) : Sp := FnV Ts (fun x : List Nat × Int × Int => [sv x.1, .int x.2.1, .int x.2.2]) (fun x => Vec x.1) fun _ => .bl true
theorem ok_law_parts_hold {f : Addr} {fd : FuncData} (F : Fun K "_law_parts_hold" "_law_parts_hold" s_law_parts_hold f fd) (T : Txt mg K w pRefused pUnknown pMisused pWidth) (C_part : CalleeK P w K mg base "part" 3 ["vector", "high", "low"] 1 ["high", "low"] (sp_part pWidth K Ts)) (C_law_refuses_part : Callee P w K mg base "_law_refuses_part" 4 ["vector", "high", "low"] (sp_law_refuses_part K Ts)) (C_join : CalleeX P w K mg base "join" 4 ["vectors"] (sp_join K Ts)) :
    FnOk P w K mg base CX0 5 f fd ["vector", "high", "low"] (sp_law_parts_hold K Ts) := by
  refine F.ok sc_law_parts_hold (fun vs H Q E h => ?_) (fun cdv A outer s H vs Q E hr h => ?_)
  · obtain ⟨x, rfl, _⟩ := h
    rfl
  · obtain ⟨⟨a, hi, lo⟩, ev, hd, g, q⟩ := h
    replace ev : vs = [sv a, .int hi, .int lo] := ev
    subst ev
    have ha : Vec a := hd
    have hal := ha.le
    refine ⟨_, (pss_cons (ps_set (i := 3) sc_law_parts_hold.nd rfl (.inl rfl) (pe_callB call_len_str (by rfl) T.len PySem.boot_len (pa_cons (pv 0) pa_nil)))
      (pss_cons (ps_if (pt_not (pt_chain3 op_le op_le op_lt pe_int (pv 2) (pv 1) (pv 3)))
      (pss_one (ps_ret (pe_fn C_law_refuses_part (hr.mono (by decide)) (by rfl) (pa_cons (pv 0) (pa_cons (pv 1) (pa_cons (pv 2) pa_nil)))))) pss_nil)
      (pss_cons (ps_set (i := 4) sc_law_parts_hold.nd rfl (.inl rfl) (pe_fnK tk0 C_part (hr.mono (by decide)) (by rfl) (pa_cons (pv 0) pa_nil) (pk_cons (pv 1) (pk_cons (pv 2) pk_nil))))
      (pss_cons (ps_if (pt_cmpR op_ne (pv 4) (pe_slice sl_str (pv 0) (po_some (pe_op op_sub (pe_op op_sub (pv 3) pe_int) (pv 1))) (po_some (pe_op op_sub (pv 3) (pv 2)))) (nomark _))
      (pss_one (ps_ret pe_bl)) pss_nil)
      (pss_cons (ps_set (i := 5) sc_law_parts_hold.nd rfl (.inl rfl) (pe_lst (pa_cons (pv 4) pa_nil)))
      (pss_cons (ps_if (pt_cmpR op_lt (pe_op op_add (pv 1) pe_int) (pv 3) (nomark _))
      (pss_one (ps_expr (pe_bm PySem.F.plainAttrs_list PySem.F.slot_list_insert PySem.F.type_list_insert mt_insert (pv 5) (pa_cons pe_int (pa_cons (pe_fnK tk0 C_part (hr.mono (by decide)) (by rfl) (pa_cons (pv 0) pa_nil) (pk_cons (pe_op op_sub (pv 3) pe_int) (pk_cons (pe_op op_add (pv 1) pe_int) pk_nil))) pa_nil))))) pss_nil)
      (pss_cons (ps_if (pt_cmpR op_gt (pv 2) pe_int (nomark _))
      (pss_one (ps_expr (pe_bm PySem.F.plainAttrs_list PySem.F.slot_list_append PySem.F.type_list_append mt_append (pv 5) (pa_cons (pe_fnK tk0 C_part (hr.mono (by decide)) (by rfl) (pa_cons (pv 0) pa_nil) (pk_cons (pe_op op_sub (pv 2) pe_int) (pk_cons pe_int pk_nil))) pa_nil)))) pss_nil)
      (pss_one (ps_ret (pe_and (pe_cmpR op_eq (pe_fnX tk0 C_join (hr.mono (by decide)) (by rfl) (pa_cons (pe_callTy call_list_of (by rfl) T.list (by decide +kernel) (pa_cons (pv 5) pa_nil)) pa_nil)) (pv 0) (nomark _)) (pe_one (pe_cmpR op_eq (pe_fnX tk0 C_join (hr.mono (by decide)) (by rfl) (pa_cons (pe_callTy call_tuple_of (by rfl) T.tuple (by decide +kernel) (pa_cons (pv 5) pa_nil)) pa_nil)) (pv 0) (nomark _))))))))))))), ?_⟩
    refine st_set (v := .int (a.length : Nat)) (ev_cb (ea_cons (ev_var rfl) ea_nil) (rc_lenS (by omega))) (Ex.refl g) ?_
    intro H1 e1
    dsimp only
    refine st_if (b := !(decide (0 ≤ lo) && (decide (lo ≤ hi) && decide (hi < (a.length : Int))))) (et_not (et_test (ev_chain3 ev_c (ev_var rfl) rv_I0 (fun _ => ev_var rfl) (fun _ => rv_I0) (fun _ _ => ev_var rfl) (fun _ _ => rv_I0)))) e1 ?_ ?_
    · intro H2 e2 h
      have hn := chain_no (not_t h)
      exact st_ret (ev_call (a, hi, lo) (ea_cons (ev_var rfl) (ea_cons (ev_var rfl) (ea_cons (ev_var rfl) ea_nil))) ⟨ha, hn⟩) e2 q
    intro H2 e2 h
    dsimp only [tNext]
    have hr := chain_yes (not_f h)
    have okP : errP pWidth a.length hi lo = none := if_pos hr
    refine st_set (v := sv (ptB a hi lo)) ((ew_callK (a, hi, lo) (ea_cons (ev_var rfl) ea_nil) (ea_cons (ev_var rfl) (ea_cons (ev_var rfl) ea_nil)) rfl rfl rfl fun _ _ => ha).ok okP) e2 ?_
    intro H3 e3
    dsimp only
    obtain ⟨h1, h2, h3⟩ := id hr
    refine st_no (et_ne (a := ptB a hi lo) (b := ptB a hi lo) (ev_var rfl) (ev_slS (by omega) (ev_var rfl) (eo_some (ev_op (ev_op (ev_var rfl) ev_c rv_I0) (ev_var rfl) rv_I0)) (eo_some (ev_op (ev_var rfl) (ev_var rfl) rv_I0)) (cutS_mid (by omega) (by omega) (by omega))) rfl) e3 ?_
    intro H4 e4
    dsimp only
    refine st_setN (R := .lst [sv (ptB a hi lo)]) (en_lst (ea_cons (ev_var rfl) ea_nil) (by show 1 ≤ 100000; decide)) e4.good ?_
    intro pl H5 n5 e5 f5
    dsimp only
    have npl : pl ∉ Ts := e4.good.free n5
    have n0 : H pl = none := e4.back n5
    have g5 := e5.good
    have e05 := e4.trans e5
    obtain ⟨hi, rfl⟩ : ∃ k : Nat, hi = k := ⟨hi.toNat, by omega⟩
    obtain ⟨lo, rfl⟩ : ∃ k : Nat, lo = k := ⟨lo.toNat, by omega⟩
    have hm := pt_nat (a := a) (hi := hi) (lo := lo) (by omega) (by omega)
    have hc := cat_top (a := a) (hi := hi) (lo := lo) (by omega) (by omega)
    rw [← hm] at hc
    generalize ptB a (hi : Int) (lo : Int) = mid at f5 hc ⊢
    refine st_ifP (b := decide ((hi : Int) + 1 < (a.length : Int))) (fun σ2 H6 => ∃ ls : List (List Nat), σ2 = [some (sv a), some (.int (hi : Nat)), some (.int (lo : Nat)), some (.int (a.length : Nat)), some (sv mid), some (.ref pl)] ∧ Ex Ts H H6 ∧ H6 pl = some (.lst (ls.map sv)) ∧ ls.length ≤ 2 ∧ ls.flatten = a.take (a.length - lo)) ?_ (Ex.refl g5) ?_ ?_ ?_
    · exact et_test (ev_op (ev_op (ev_var rfl) ev_c rv_I0) (ev_var rfl) rv_I0)
    · intro H6 e6 hb D' hD
      have hb2 := of_decide_eq_true hb
      have okT : errP pWidth a.length ((a.length : Int) - 1) ((hi : Int) + 1) = none := if_pos ⟨by omega, by omega, by omega⟩
      refine st_insW (W := fun _ _ _ _ => False) rfl (e6.keep pl _ npl f5) npl (ew_callK (a, (a.length : Int) - 1, (hi : Int) + 1) (ea_cons (ev_var rfl) ea_nil) (ea_cons (ev_op (ev_var rfl) ev_c rv_I0) (ea_cons (ev_op (ev_var rfl) ev_c rv_I0) ea_nil)) rfl rfl rfl fun _ _ => ha) okT e6.good (by show 1 < 100000; decide) fun H7 e7 h7 => ?_
      refine hD _ _ ⟨[ptB a ((a.length : Int) - 1) ((hi : Int) + 1), mid], rfl, ((e05.trans e6).trans e7).mut npl n0, upd_same, by show 2 ≤ 2; decide, ?_⟩
      rw [pt_top (by omega)]
      show a.take (a.length - 1 - hi) ++ (mid ++ []) = _
      rw [List.append_nil, hc]
    · intro H6 e6 hb
      have hb2 := of_decide_eq_false hb
      refine ⟨[mid], rfl, e05.trans e6, e6.keep pl _ npl f5, by show 1 ≤ 2; decide, ?_⟩
      have z : a.length - 1 - hi = 0 := by omega
      rw [z, List.take_zero, List.nil_append] at hc
      show mid ++ [] = _
      rw [List.append_nil, hc]
    rintro σ2 H6 ⟨ls, rfl, e6, f6, hls, hfl⟩
    dsimp only
    refine st_ifP (b := decide ((lo : Int) > 0)) (fun σ2 H7 => ∃ ls : List (List Nat), σ2 = [some (sv a), some (.int (hi : Nat)), some (.int (lo : Nat)), some (.int (a.length : Nat)), some (sv mid), some (.ref pl)] ∧ Ex Ts H H7 ∧ H7 pl = some (.lst (ls.map sv)) ∧ ls.flatten = a) ?_ (Ex.refl e6.good) ?_ ?_ ?_
    · exact et_test (ev_op (ev_var rfl) ev_c rv_I0)
    · intro H7 e7 hb D' hD
      have hb2 := of_decide_eq_true hb
      have okB : errP pWidth a.length ((lo : Int) - 1) 0 = none := if_pos ⟨by omega, by omega, by omega⟩
      refine st_appW (W := fun _ _ _ _ => False) rfl (e7.keep pl _ npl f6) npl (ew_callK (a, (lo : Int) - 1, 0) (ea_cons (ev_var rfl) ea_nil) (ea_cons (ev_op (ev_var rfl) ev_c rv_I0) (ea_cons ev_c ea_nil)) rfl rfl rfl fun _ _ => ha) okB e7.good (by rw [List.length_map]; omega) fun H8 e8 h8 => ?_
      refine hD _ _ ⟨ls ++ [ptB a ((lo : Int) - 1) 0], rfl, ((e6.trans e7).trans e8).mut npl n0, by rw [upd_same, List.map_append]; rfl, ?_⟩
      rw [List.flatten_append, hfl, pt_bot (by omega) (by omega)]
      show a.take (a.length - lo) ++ (a.drop (a.length - lo) ++ []) = a
      rw [List.append_nil, List.take_append_drop]
    · intro H7 e7 hb
      have hb2 := of_decide_eq_false hb
      refine ⟨ls, rfl, e6.trans e7, e7.keep pl _ npl f6, ?_⟩
      rw [hfl]
      exact List.take_of_length_le (by omega)
    rintro σ2 H7 ⟨ls2, rfl, e7, f7, hfl2⟩
    dsimp only
    have hp := ha.pos
    have hl1 : 1 ≤ ls2.flatten.length := by rw [hfl2]; exact hp
    have hl2 : ls2.flatten.length ≤ 64 := by rw [hfl2]; exact hal
    refine st_ret (ev_and (a := true) (b := true) (ev_eqT (a := a) (ev_callN1 (R := .lst (ls2.map sv)) (en_listOf npl (ev_var rfl) f7) (fun p => (p, ls2)) (fun _ => rfl) (fun p H8 e8 hp8 => ⟨.inl (l_of hp8), hl1, hl2⟩) (fun _ => congrArg sv hfl2) fun _ => rfl) (ev_var rfl)) fun _ => ev_eqT (a := a) (ev_callN1 (R := .tup (ls2.map sv)) (en_tupOf npl (ev_var rfl) f7) (fun p => (p, ls2)) (fun _ => rfl) (fun p H8 e8 hp8 => ⟨.inr (t_of hp8), hl1, hl2⟩) (fun _ => congrArg sv hfl2) fun _ => rfl) (ev_var rfl)) (Ex.refl e7.good) fun H8 e8 => q H8 (e7.trans e8)

end
end K01
set_option Elab.async false
set_option linter.all false
set_option maxRecDepth 100000
set_option maxHeartbeats 2000000
namespace K01
open PySem PySem.Spec PyProof.Rows L2 Cw
open GxR (TabG Tabbed TabB GenS)
local macro_rules | `(tactic| walk_at "ev") => `(tactic| first
  | exact ev_var rfl
  | exact ev_s lt_0 | exact ev_s lt_b | exact ev_s lt_01xz | exact ev_s lt_01 | exact ev_s lt_e | exact ev_s lt_0110
  | exact ev_c
  | (apply ev_op <;> walk_at "ev")
  | exact rv_I0 | (refine rv_I ?_; first | omega | decide | assumption)
  | exact rv_eq rfl | exact rv_ne rfl | exact rv_inS | exact rv_niS
  | (refine rv_addS ?_; first | assumption | omega | decide)
  | (refine rv_mulS ?_ ?_ <;> first | assumption | omega | decide)
  | (apply ev_cb <;> walk_at "ev")
  | (refine rc_lenS ?_; first | assumption | omega | decide)
  | exact rc_max | exact rc_abs | exact rc_intI | exact rc_intB | exact rc_min
  | exact ea_nil
  | (apply ea_cons <;> walk_at "ev")
  | (apply et_and; walk_at "ev"; intro _; walk_at "ev")
  | (apply et_or; walk_at "ev"; intro _; walk_at "ev")
  | (apply et_not; walk_at "ev")
  | (apply et_test; walk_at "ev")
  | (apply et_B; walk_at "ev"))
section
variable {P : Program} {w : World} {K : PySem.W.Frag} {mg : Str → Option Value} {base : Heap} {pRefused pUnknown pMisused pWidth : Addr} {Ts : List Addr}
theorem es_numbers {a : Addr} {ns : List Int} {k : Int} {b m : Nat} {σ : L2.St} {H : Hp} (g : Good Ts H) (hS : SqL K H a (ns.map V.int)) (h0 : σ[0]? = some (some (.ref a))) (hb : 2 ≤ b) (hb2 : b ≤ 1000000) (hm : m ≤ 1000) :
    EvS Ts (tCall (sp_law_numbers K Ts) [] E0 (tCons (tSl (rSlL K) (tVar 0) (tPart (tC (.int k))) tNoPart) (tCons (tC (.int (b : Nat))) (tCons (tC (.int (m : Nat))) tNil)))) σ H
      (fun v H => ∃ p ms, v = .ref p ∧ H p = some (.lst (ms.map V.int)) ∧ ms.length = m ∧ Below b ms) := by
  intro H1 e1 Q q
  obtain ⟨ms0, em⟩ := drop_ints ns k
  refine (en_slL (K := K) g (ev_var h0) (eo_some ev_c) eo_none hS) H1 e1 _ fun p H2 _ e2 hp => ?_
  rw [em] at hp
  exact ⟨(p, ms0, b, m), rfl, ⟨l_of hp, hb, hb2, hm⟩, e2.good, fun v H3 e3 r => q v H3 (e2.trans e3) r⟩

abbrev sp_law (K : PySem.W.Frag) (Ts : List Addr) : Sp := FnL Ts (fun x : Addr × List Int => [.ref x.1]) (fun x H => SqL K H x.1 (x.2.map V.int)) fun _ => .bl true
theorem ok_law {f : Addr} {fd : FuncData} (F : Fun K "law" "law" s_law f fd) (T : Txt mg K w pRefused pUnknown pMisused pWidth) (C_law_cell : Callee P w K mg base "_law_cell" 1 ["script", "k"] (sp_law_cell K Ts)) (C_law_numbers : Callee P w K mg base "_law_numbers" 1 ["script", "base", "many"] (sp_law_numbers K Ts)) (C_law_vector : Callee P w K mg base "_law_vector" 1 ["numbers", "size", "plain"] (sp_law_vector K Ts)) (C_resize : CalleeK P w K mg base "resize" 4 ["vector", "width"] 1 ["width"] (sp_resize K Ts)) (C_law_parts_hold : Callee P w K mg base "_law_parts_hold" 5 ["vector", "high", "low"] (sp_law_parts_hold K Ts)) (C_law_numbers_hold : Callee P w K mg base "_law_numbers_hold" 5 ["number", "width"] (sp_law_numbers_hold K Ts)) (C_is_known : Callee P w K mg base "is_known" 2 ["vector"] (sp_is_known K Ts)) (C_law_refuses_width : Callee P w K mg base "_law_refuses_width" 5 ["width", "number"] (sp_law_refuses_width K Ts)) (C_law_refuses_number : Callee P w K mg base "_law_refuses_number" 4 ["vector"] (sp_law_refuses_number K Ts)) :
    FnOk P w K mg base CX0 6 f fd ["script"] (sp_law K Ts) := by
  refine F.ok sc_law (fun vs H Q E h => ?_) (fun cdv A outer s H vs Q E hr h => ?_)
  · obtain ⟨x, rfl, _⟩ := h
    rfl
  · obtain ⟨⟨a, ns⟩, ev, hd, g, q⟩ := h
    replace ev : vs = [.ref a] := ev
    subst ev
    have hS : SqL K H a (ns.map V.int) := hd
    refine ⟨_, (pss_cons (ps_set (i := 1) sc_law.nd rfl (.inl rfl) (pe_fn C_law_cell (hr.mono (by decide)) (by rfl) (pa_cons (pv 0) (pa_cons pe_int pa_nil))))
      (pss_cons (ps_set (i := 2) sc_law.nd rfl (.inl rfl) (pe_op op_add pe_int (pe_op op_mod (pe_fn C_law_cell (hr.mono (by decide)) (by rfl) (pa_cons (pv 0) (pa_cons pe_int pa_nil))) pe_int)))
      (pss_cons (ps_set (i := 3) sc_law.nd rfl (.inl rfl) (pe_fn C_law_numbers (hr.mono (by decide)) (by rfl) (pa_cons (pe_slice sl_list (pv 0) (po_some pe_int) po_none) (pa_cons pe_int (pa_cons pe_int pa_nil)))))
      (pss_cons (ps_set (i := 4) sc_law.nd rfl (.inl rfl) (pe_op op_add pe_int (pe_op op_mod (pe_fn C_law_cell (hr.mono (by decide)) (by rfl) (pa_cons (pv 0) (pa_cons pe_int pa_nil))) pe_int)))
      (pss_cons (ps_set (i := 5) sc_law.nd rfl (.inl rfl) (pe_fn C_law_vector (hr.mono (by decide)) (by rfl) (pa_cons (pv 3) (pa_cons (pv 4) (pa_cons (pe_cmpR op_eq (pe_op op_mod (pe_fn C_law_cell (hr.mono (by decide)) (by rfl) (pa_cons (pv 0) (pa_cons pe_int pa_nil))) pe_int) pe_int (nomark _)) pa_nil)))))
      (pss_cons (ps_if (pt_not (pt_val (pe_fn C_law_numbers_hold (hr.mono (by decide)) (by rfl) (pa_cons (pv 1) (pa_cons (pv 2) pa_nil)))))
      (pss_one (ps_ret pe_bl)) pss_nil)
      (pss_cons (ps_if (PW.pt (pw_or (pt_not (pt_val (pe_fn C_law_refuses_width (hr.mono (by decide)) (by rfl) (pa_cons (pe_op op_add (pe_op op_sub pe_int (pv 2)) pe_int) (pa_cons (pv 1) pa_nil))))) (pw_or1 (pt_not (pt_val (pe_fn C_law_refuses_width (hr.mono (by decide)) (by rfl) (pa_cons (pe_op op_add pe_int (pv 2)) (pa_cons (pv 1) pa_nil))))))))
      (pss_one (ps_ret pe_bl)) pss_nil)
      (pss_cons (ps_set (i := 6) sc_law.nd rfl (.inl rfl) (pe_fnK tk0 C_resize (hr.mono (by decide)) (by rfl) (pa_cons (pv 5) pa_nil) (pk_cons (pv 2) pk_nil)))
      (pss_cons (ps_if (PW.pt (pw_and (pt_cmpR op_le (pv 2) (pv 4) (nomark _)) (pw_and1 (pt_cmpR op_ne (pv 6) (pe_slice sl_str (pv 5) (po_some (pe_op op_sub (pv 4) (pv 2))) po_none) (nomark _)))))
      (pss_one (ps_ret pe_bl)) pss_nil)
      (pss_cons (ps_if (PW.pt (pw_and (pt_cmpR op_gt (pv 2) (pv 4) (nomark _)) (pw_and1 (pt_cmpR op_ne (pv 6) (pe_op op_add_str (pe_op op_mulS pe_str (pe_op op_sub (pv 2) (pv 4))) (pv 5)) (nomark _)))))
      (pss_one (ps_ret pe_bl)) pss_nil)
      (pss_cons (ps_set (i := 7) sc_law.nd rfl (.inl rfl) (pe_callB (cr_all rfl) (by rfl) T.all (by decide +kernel) (pa_cons (pe_lc (own := [("sign", 8)]) (by rfl) sc_law.nd (pi_str (pv 5)) (blkOk_by (own := [("sign", 8)]) (N := ["script", "number", "width", "numbers", "size", "vector", "wider", "known", "sign"]) (sc := defScope s_law) (by decide +kernel)) (fun _ _ _ _ _ => pg_name (i := 8) sc_law.nd rfl (Or.inl rfl)) (fun _ _ _ _ _ => pts_nil) (fun _ _ _ _ _ => (pe_cmpR op_in_sign (pv 8) pe_str rfl))) pa_nil)))
      (pss_cons (ps_if (pt_cmpR op_ne (pe_fn C_is_known (hr.mono (by decide)) (by rfl) (pa_cons (pv 5) pa_nil)) (pv 7) (nomark _))
      (pss_one (ps_ret pe_bl)) pss_nil)
      (pss_cons (ps_if (PW.pt (pw_and (pt_not (pt_val (pv 7))) (pw_and1 (pt_not (pt_val (pe_fn C_law_refuses_number (hr.mono (by decide)) (by rfl) (pa_cons (pv 5) pa_nil)))))))
      (pss_one (ps_ret pe_bl)) pss_nil)
      (pss_cons (ps_if (pt_not (pt_val (pe_fn C_law_parts_hold (hr.mono (by decide)) (by rfl) (pa_cons (pv 5) (pa_cons (pe_op op_mod (pe_fn C_law_cell (hr.mono (by decide)) (by rfl) (pa_cons (pv 0) (pa_cons pe_int pa_nil))) (pe_op op_add (pv 4) pe_int)) (pa_cons (pe_op op_mod (pe_fn C_law_cell (hr.mono (by decide)) (by rfl) (pa_cons (pv 0) (pa_cons pe_int pa_nil))) (pe_op op_add (pv 4) pe_int)) pa_nil))))))
      (pss_one (ps_ret pe_bl)) pss_nil)
      (pss_one (ps_ret (pe_fn C_law_parts_hold (hr.mono (by decide)) (by rfl) (pa_cons (pv 5) (pa_cons (pe_op op_sub (pv 4) pe_int) (pa_cons (pe_op op_mod (pe_fn C_law_cell (hr.mono (by decide)) (by rfl) (pa_cons (pv 0) (pa_cons pe_int pa_nil))) (pv 4)) pa_nil)))))))))))))))))))), ?_⟩
    refine st_set (v := .int (ns.getD 0 0)) (ev_callL (a, ns, 0) (ea_cons (ev_var rfl) (ea_cons ev_c ea_nil)) fun H2 e => e.l g hS) (Ex.refl g) ?_
    intro H1 e1
    dsimp only
    have z1 : 1 + ns.getD 1 0 % 64 = ((1 + ns.getD 1 0 % 64).toNat : Int) := by omega
    have w1 : 1 ≤ (1 + ns.getD 1 0 % 64).toNat ∧ (1 + ns.getD 1 0 % 64).toNat ≤ 64 := by omega
    refine st_set (v := .int ((1 + ns.getD 1 0 % 64).toNat : Nat)) (ev_is (ev_op ev_c (ev_op (ev_callL (a, ns, 1) (ea_cons (ev_var rfl) (ea_cons ev_c ea_nil)) fun H2 e => e.l g hS) ev_c (rv_I (by decide))) rv_I0) (congrArg V.int z1)) e1 ?_
    intro H2 e2
    dsimp only
    generalize (1 + ns.getD 1 0 % 64).toNat = k at w1
    clear z1
    generalize ns.getD 0 0 = n
    refine st_setS (R := fun v H => ∃ p ms, v = .ref p ∧ H p = some (.lst (ms.map V.int)) ∧ ms.length = 64 ∧ Below 4 ms) (es_numbers (b := 4) (m := 64) g hS rfl (by decide) (by decide) (by decide)) e2 ?_
    rintro _ H3 e3 ⟨pn, ms, rfl, f_pn, hms, hB⟩
    dsimp only
    have g3 := e3.good
    have z2 : 1 + ns.getD 2 0 % 64 = ((1 + ns.getD 2 0 % 64).toNat : Int) := by omega
    have w2 : 1 ≤ (1 + ns.getD 2 0 % 64).toNat ∧ (1 + ns.getD 2 0 % 64).toNat ≤ 64 := by omega
    have npn : pn ∉ Ts := g3.out fun ps z => by
      rw [f_pn] at z
      cases z
    have hS3 := e3.l g hS
    refine st_set (v := .int ((1 + ns.getD 2 0 % 64).toNat : Nat)) (ev_is (ev_op ev_c (ev_op (ev_callL (a, ns, 2) (ea_cons (ev_var rfl) (ea_cons ev_c ea_nil)) fun H2 e => e.l g3 hS3) ev_c (rv_I (by decide))) rv_I0) (congrArg V.int z2)) (Ex.refl g3) ?_
    intro H4 e4
    dsimp only
    generalize (1 + ns.getD 2 0 % 64).toNat = m at w2
    clear z2
    have hx : Vec ((ms.take m).map (sgn (decide (V.int (ns.getD 3 0 % 3) = V.int 0)))) ∧ ((ms.take m).map (sgn (decide (V.int (ns.getD 3 0 % 3) = V.int 0)))).length = m := by
      refine ⟨⟨fun c hc => ?_, ?_, ?_⟩, ?_⟩
      · obtain ⟨z, hz, rfl⟩ := List.mem_map.mp hc
        have hz2 := hB z (List.mem_of_mem_take hz)
        exact sgn_isB hz2.1 hz2.2
      · rw [List.length_map, List.length_take]
        omega
      · rw [List.length_map, List.length_take]
        omega
      · rw [List.length_map, List.length_take]
        omega
    refine st_set (v := sv ((ms.take m).map (sgn (decide (V.int (ns.getD 3 0 % 3) = V.int 0))))) (ev_callL (pn, ms, m, decide (V.int (ns.getD 3 0 % 3) = V.int 0)) (ea_cons (ev_var rfl) (ea_cons (ev_var rfl) (ea_cons (ev_op (ev_op (ev_callL (a, ns, 3) (ea_cons (ev_var rfl) (ea_cons ev_c ea_nil)) fun H2 e => e.l g3 hS3) ev_c (rv_I (by decide))) ev_c (rv_eq rfl)) ea_nil))) fun H2 e => ⟨e.l g3 (l_of f_pn), hB, by show m ≤ ms.length; omega, w2.2⟩) e4 ?_
    intro H5 e5
    dsimp only
    generalize (ms.take m).map (sgn (decide (V.int (ns.getD 3 0 % 3) = V.int 0))) = x at hx ⊢
    obtain ⟨hv, hxl⟩ := hx
    have hle := hv.le
    refine st_no (et_is (et_not (et_B (ev_call (n, k) (ea_cons (ev_var rfl) (ea_cons (ev_var rfl) ea_nil)) ⟨w1.1, w1.2⟩))) rfl) e5 ?_
    intro H6 e6
    dsimp only
    refine st_no (et_is (et_or (a := false) (b := false) (et_is (et_not (et_B (ev_call (0 - (k : Int) + 1, n) (ea_cons (ev_op (ev_op ev_c (ev_var rfl) rv_I0) ev_c rv_I0) (ea_cons (ev_var rfl) ea_nil)) (show ¬ (1 ≤ 0 - (k : Int) + 1 ∧ 0 - (k : Int) + 1 ≤ 64) by omega)))) rfl) fun _ => et_is (et_not (et_B (ev_call (64 + (k : Int), n) (ea_cons (ev_op ev_c (ev_var rfl) rv_I0) (ea_cons (ev_var rfl) ea_nil)) (show ¬ (1 ≤ 64 + (k : Int) ∧ 64 + (k : Int) ≤ 64) by omega)))) rfl) rfl) e6 ?_
    intro H7 e7
    dsimp only
    refine st_set (v := sv (rsB k x)) ((ew_callK (x, k) (ea_cons (ev_var rfl) ea_nil) (ea_cons (ev_var rfl) ea_nil) rfl rfl rfl fun _ _ => ⟨hv, w1.1, w1.2⟩).ok rfl) e7 ?_
    intro H8 e8
    dsimp only
    refine st_no (et_is (et_and (a := decide ((k : Int) ≤ (m : Int))) (b := false) (et_test (ev_op (ev_var rfl) (ev_var rfl) rv_I0)) fun h => ?_) (Bool.and_false _)) e8 ?_
    · have h1 := of_decide_eq_true h
      have i1 : (m : Int) - (k : Int) = ((m - k : Nat) : Int) := by omega
      refine et_ne (a := rsB k x) (b := x.drop (m - k)) (ev_var rfl) (ev_slS (by omega) (ev_var rfl) (eo_some (ev_is (v := .int ((m : Int) - (k : Int))) (ev_op (ev_var rfl) (ev_var rfl) rv_I0) (congrArg V.int i1))) eo_none (cutS_from (by omega))) ?_
      unfold rsB
      split
      · rw [hxl]
      · have z : m - k = 0 := by omega
        rw [z, List.drop_zero]
        unfold ext
        rw [show k - x.length = 0 by omega]
        rfl
    intro H9 e9
    dsimp only
    refine st_no (et_is (et_and (a := decide ((k : Int) > (m : Int))) (b := false) (et_test (ev_op (ev_var rfl) (ev_var rfl) rv_I0)) fun h => ?_) (Bool.and_false _)) e9 ?_
    · have h1 := of_decide_eq_true h
      refine et_ne (a := rsB k x) (b := List.replicate ((k : Int) - (m : Int)).toNat 48 ++ x) (ev_var rfl) (ev_op (ev_op (ev_s lt_0) (ev_op (ev_var rfl) (ev_var rfl) rv_I0) (rv_mulS (by omega) (by omega))) (ev_var rfl) (rv_addS (by rw [List.length_replicate]; omega))) ?_
      unfold rsB ext
      rw [if_neg (by omega), hxl]
      congr 2
      omega
    intro H10 e10
    dsimp only
    refine st_set (v := .bl (kn x)) ?_ e10 ?_
    · refine ev_cbN (R := .lst (x.map fun c => .bl (decide (c ∈ [48, 49])))) (en_lcS (by omega) (ev_var rfl) fun c hc => ev_op (ev_var rfl) (ev_s lt_01) rv_inS) fun p H1 e1 hp => ?_
      have z := rc_all (Ts := Ts) (K := K) (H := H1) (p := p) (bs := x.map fun c => decide (c ∈ [48, 49])) e1.good (l_of (by rw [hp, List.map_map]; rfl))
      rw [List.all_map] at z
      exact z
    intro H11 e11
    dsimp only
    refine st_no (et_is (et_test (ev_op (ev_call x (ea_cons (ev_var rfl) ea_nil) trivial) (ev_var rfl) (rv_ne rfl))) ?_) e11 ?_
    · show (!decide (V.bl (kn x) = V.bl (kn x))) = false
      rw [decide_eq_true rfl]
      rfl
    intro H12 e12
    dsimp only
    refine st_no (et_is (et_and (a := !(kn x)) (b := false) (et_not (et_B (ev_var rfl))) fun h => et_is (et_not (et_B (ev_call x (ea_cons (ev_var rfl) ea_nil) ⟨hv, not_t h⟩))) rfl) (Bool.and_false _)) e12 ?_
    intro H13 e13
    dsimp only
    refine st_no (et_is (et_not (et_B (ev_call (x, ns.getD 4 0 % ((m : Int) + 2), ns.getD 5 0 % ((m : Int) + 2)) (ea_cons (ev_var rfl) (ea_cons (ev_op (ev_callL (a, ns, 4) (ea_cons (ev_var rfl) (ea_cons ev_c ea_nil)) fun H2 e => e.l g3 hS3) (ev_op (ev_var rfl) ev_c rv_I0) (rv_I (by omega))) (ea_cons (ev_op (ev_callL (a, ns, 5) (ea_cons (ev_var rfl) (ea_cons ev_c ea_nil)) fun H2 e => e.l g3 hS3) (ev_op (ev_var rfl) ev_c rv_I0) (rv_I (by omega))) ea_nil))) hv))) rfl) e13 ?_
    intro H14 e14
    dsimp only
    exact st_ret (ev_call (x, (m : Int) - 1, ns.getD 6 0 % (m : Int)) (ea_cons (ev_var rfl) (ea_cons (ev_op (ev_var rfl) ev_c rv_I0) (ea_cons (ev_op (ev_callL (a, ns, 6) (ea_cons (ev_var rfl) (ea_cons ev_c ea_nil)) fun H2 e => e.l g3 hS3) (ev_var rfl) (rv_I (by omega))) ea_nil))) hv) e14 fun H15 e15 => q H15 (e3.trans e15)

end
end K01
set_option Elab.async false
set_option linter.all false
set_option maxRecDepth 100000
set_option maxHeartbeats 2000000
namespace K01
open PySem PySem.Spec PyProof.Rows L2 Cw
open GxR (TabG Tabbed TabB GenS)
open LamX (LawAtS)
/-- the table of the code object of the def called x is empty -/
def TabFact (K : PySem.W.Frag) (x : Str) (mg : Str → Option Value) (h : Heap) : Prop := ∀ (f c P : Addr) (o oc : Obj) (fd : FuncData) (vs : Array Value), mg x = some (.ref f) → K.lookup f = some o → o.data = .func fd → fd.code = .ref c → K.lookup c = some oc → oc.data = .fields vs → (vs[11]? : Option Value) = some (.ref P) →
  h.get? P = some { cls := .none, data := .fields #[] }
theorem walk_tab {l : PySem.W.OpenLaw} {n k : Nat} {q : Program} {loose : List Str} {XP : (Str → Option Value) → Heap → Prop} {YP : World → Heap → Prop} {d : DefRec} {K : Params → PySem.W.Frag} {y : Str} (xs : List Str)
    (hn : l.most = some n) (hn2 : n ≤ sizeLine) (hdf : d.params.defaults = []) (hr : Room k callerA) (hrec : (xs.all fun x => (recsOf q).any fun e => e.name == x) = true) (hY : ∀ (w : World) (h : Heap), YP w h → (K w.params).In h)
    (F : ∀ (w : World) (mg : Str → Option Value) (fa : Addr) (h : Heap), (K w.params).In h → h.Ns mainGlobals mg → mg d.name = some (.ref fa) → (∀ x ∈ xs, TabFact (K w.params) x mg h) → LawAtS l w (K w.params) CX0 k n y mg fa h) :
    PySem.W.WalkO q loose XP YP l.row.toRowW d [] (fun f vs => PySem.call f vs) := by
  refine Att.attach_callB hn hdf fun w s0 s1 mg mb fa o pm cd doc a vs ns G Y ho hd hcd hmg hobj hints hlen hbits hg => ?_
  have KX := hY w _ Y
  have own : ∀ x ∈ xs, TabFact (K w.params) x mg s1.heap := by
    intro x hx f c P of oc fd vs e1 e2 e3 e4 e5 e6 e7
    obtain ⟨r, hr1, hr2⟩ := List.any_eq_true.mp (List.all_eq_true.mp hrec x hx)
    obtain ⟨f', o', fd', c', P', h1, h2, h3, h4, _, ⟨⟨oc', vc, g1, _, g3, g4⟩, hP⟩⟩ := G.T.tab r hr1
    rw [beq_iff_eq.mp hr2, e1] at h1
    cases h1
    cases (KX _ _ e2).symm.trans h2
    cases e3.symm.trans h3
    cases e4.symm.trans h4
    cases (KX _ _ e5).symm.trans g1
    cases e6.symm.trans g3
    cases e7.symm.trans g4
    exact hP
  obtain ⟨fd, cs, sp, hT, nT, C, hb, hsp, hF⟩ := F w mg fa _ KX G.T.g hmg own
  exact LamX.law_callTs KX G.T.g G.T.b G.T.builtins G.T.nolimit hg hT nT C G.T.bmain hobj hints (Nat.le_trans hlen hn2) hr hF hb (fun H hH hS => hsp H a ns hlen hbits hH hS) fun H e s' z => z
theorem mem_isB {a : Nat} (h : IsB a) : a ∈ [48, 49, 120, 122] := by
  rcases h with rfl | rfl | rfl | rfl <;> decide
theorem all_mk {l : PySem.W.OpenLaw} {w : World} {K : PySem.W.Frag} {h : Heap} {mg : Str → Option Value} {fa : Addr} (X : K.In h) (G : h.Ns mainGlobals mg) (hfa : mg "law" = some (.ref fa)) (TF : ∀ x ∈ [("_consists_of" : Str)], TabFact K x mg h)
    {f_law_cell : Addr} {od_law_cell an_law_cell : Option Addr} {sl_law_cell : Array (Option Value)} {oc_law_cell kV_law_cell dc_law_cell pm_law_cell cd_law_cell ct_law_cell : Value}
    {f_law_numbers : Addr} {od_law_numbers an_law_numbers : Option Addr} {sl_law_numbers : Array (Option Value)} {oc_law_numbers kV_law_numbers dc_law_numbers pm_law_numbers cd_law_numbers ct_law_numbers : Value}
    {f_law_vector : Addr} {od_law_vector an_law_vector : Option Addr} {sl_law_vector : Array (Option Value)} {oc_law_vector kV_law_vector dc_law_vector pm_law_vector cd_law_vector ct_law_vector : Value}
    {f_check_width : Addr} {od_check_width an_check_width : Option Addr} {sl_check_width : Array (Option Value)} {oc_check_width kV_check_width dc_check_width pm_check_width cd_check_width ct_check_width : Value}
    {f_extended : Addr} {od_extended an_extended : Option Addr} {sl_extended : Array (Option Value)} {oc_extended kV_extended dc_extended pm_extended cd_extended ct_extended : Value}
    {f_resize : Addr} {od_resize an_resize : Option Addr} {sl_resize : Array (Option Value)} {oc_resize kV_resize dc_resize pm_resize cd_resize ct_resize : Value}
    {f_part : Addr} {od_part an_part : Option Addr} {sl_part : Array (Option Value)} {oc_part kV_part dc_part pm_part cd_part ct_part : Value}
    {f_law_refuses_part : Addr} {od_law_refuses_part an_law_refuses_part : Option Addr} {sl_law_refuses_part : Array (Option Value)} {oc_law_refuses_part kV_law_refuses_part dc_law_refuses_part pm_law_refuses_part cd_law_refuses_part ct_law_refuses_part : Value}
    {f_join : Addr} {od_join an_join : Option Addr} {sl_join : Array (Option Value)} {oc_join kV_join dc_join pm_join cd_join ct_join : Value}
    {f_law_parts_hold : Addr} {od_law_parts_hold an_law_parts_hold : Option Addr} {sl_law_parts_hold : Array (Option Value)} {oc_law_parts_hold kV_law_parts_hold dc_law_parts_hold pm_law_parts_hold cd_law_parts_hold ct_law_parts_hold : Value}
    {f_low_bits : Addr} {od_low_bits an_low_bits : Option Addr} {sl_low_bits : Array (Option Value)} {oc_low_bits kV_low_bits dc_low_bits pm_low_bits cd_low_bits ct_low_bits : Value}
    {f_from_number : Addr} {od_from_number an_from_number : Option Addr} {sl_from_number : Array (Option Value)} {oc_from_number kV_from_number dc_from_number pm_from_number cd_from_number ct_from_number : Value}
    {f_least_width : Addr} {od_least_width an_least_width : Option Addr} {sl_least_width : Array (Option Value)} {oc_least_width kV_least_width dc_least_width pm_least_width cd_least_width ct_least_width : Value}
    {f_law_text : Addr} {od_law_text an_law_text : Option Addr} {sl_law_text : Array (Option Value)} {oc_law_text kV_law_text dc_law_text pm_law_text cd_law_text ct_law_text : Value}
    {f_consists_of : Addr} {od_consists_of an_consists_of : Option Addr} {sl_consists_of : Array (Option Value)} {oc_consists_of kV_consists_of dc_consists_of pm_consists_of ct_consists_of : Value}
    {f_is_vector : Addr} {od_is_vector an_is_vector : Option Addr} {sl_is_vector : Array (Option Value)} {oc_is_vector kV_is_vector dc_is_vector pm_is_vector cd_is_vector ct_is_vector : Value}
    {f_is_known : Addr} {od_is_known an_is_known : Option Addr} {sl_is_known : Array (Option Value)} {oc_is_known kV_is_known dc_is_known pm_is_known cd_is_known ct_is_known : Value}
    {f_law_bits : Addr} {od_law_bits an_law_bits : Option Addr} {sl_law_bits : Array (Option Value)} {oc_law_bits kV_law_bits dc_law_bits pm_law_bits cd_law_bits ct_law_bits : Value}
    {f_to_number : Addr} {od_to_number an_to_number : Option Addr} {sl_to_number : Array (Option Value)} {oc_to_number kV_to_number dc_to_number pm_to_number cd_to_number ct_to_number : Value}
    {f_law_numbers_hold : Addr} {od_law_numbers_hold an_law_numbers_hold : Option Addr} {sl_law_numbers_hold : Array (Option Value)} {oc_law_numbers_hold kV_law_numbers_hold dc_law_numbers_hold pm_law_numbers_hold cd_law_numbers_hold ct_law_numbers_hold : Value}
    {f_law_refuses_width : Addr} {od_law_refuses_width an_law_refuses_width : Option Addr} {sl_law_refuses_width : Array (Option Value)} {oc_law_refuses_width kV_law_refuses_width dc_law_refuses_width pm_law_refuses_width cd_law_refuses_width ct_law_refuses_width : Value}
    {f_law_refuses_number : Addr} {od_law_refuses_number an_law_refuses_number : Option Addr} {sl_law_refuses_number : Array (Option Value)} {oc_law_refuses_number kV_law_refuses_number dc_law_refuses_number pm_law_refuses_number cd_law_refuses_number ct_law_refuses_number : Value}
    {f_law : Addr} {od_law an_law : Option Addr} {sl_law : Array (Option Value)} {oc_law kV_law dc_law pm_law cd_law ct_law : Value}
    {cT_consists_of Pt_consists_of : Addr} {ccT_consists_of : Value} {cdT_consists_of : Option Addr} {vsT_consists_of : Array Value} {cslT_consists_of : Array (Option Value)}
    {t_MAX_WIDTH : Tok}
    {pRefused : Addr}
    {pUnknown : Addr}
    {pMisused : Addr}
    {pWidth : Addr}
    {nm_Unknown q_Unknown : Str} {N_Unknown : Addr} {bs_Unknown bm_Unknown : List Value} {sn_Unknown : List Str} {sub_Unknown : List Value} {ab_Unknown : Bool} {col_Unknown : Option Bool} {dd_Unknown : Option Addr} {m0_Unknown m1_Unknown m2_Unknown m3_Unknown m5_Unknown : Option Value}
    {fI_Unknown : Addr} {od_IUnknown an_IUnknown : Option Addr} {sl_IUnknown : Array (Option Value)} {oc_IUnknown kV_IUnknown dc_IUnknown pm_IUnknown cd_IUnknown ct_IUnknown : Value}
    {nm_Misused q_Misused : Str} {N_Misused : Addr} {bs_Misused bm_Misused : List Value} {sn_Misused : List Str} {sub_Misused : List Value} {ab_Misused : Bool} {col_Misused : Option Bool} {dd_Misused : Option Addr} {m0_Misused m1_Misused m2_Misused m3_Misused m5_Misused : Option Value}
    {fI_Misused : Addr} {od_IMisused an_IMisused : Option Addr} {sl_IMisused : Array (Option Value)} {oc_IMisused kV_IMisused dc_IMisused pm_IMisused cd_IMisused ct_IMisused : Value}
    {nm_Width q_Width : Str} {N_Width : Addr} {bs_Width bm_Width : List Value} {sn_Width : List Str} {sub_Width : List Value} {ab_Width : Bool} {col_Width : Option Bool} {dd_Width : Option Addr} {m0_Width m1_Width m2_Width m3_Width m5_Width : Option Value}
    {fI_Width : Addr} {od_IWidth an_IWidth : Option Addr} {sl_IWidth : Array (Option Value)} {oc_IWidth kV_IWidth dc_IWidth pm_IWidth cd_IWidth ct_IWidth : Value}
    (a_law_cell : PySem.W.nsIn K mainGlobals "_law_cell" = some (some (.ref f_law_cell)))
    (l_law_cell : K.lookup f_law_cell = some ⟨oc_law_cell, od_law_cell, .func (PySem.W.fnOf "_law_cell" "_law_cell" (defArgs s_law_cell) (defBody s_law_cell) (defScope s_law_cell) .none kV_law_cell dc_law_cell pm_law_cell an_law_cell cd_law_cell ct_law_cell), sl_law_cell⟩)
    (c_law_cell : PySem.W.codeIn K cd_law_cell "_law_cell" = true)
    (k_law_cell : PySem.W.keepIn K (.ref f_law_cell) = true)
    (a_law_numbers : PySem.W.nsIn K mainGlobals "_law_numbers" = some (some (.ref f_law_numbers)))
    (l_law_numbers : K.lookup f_law_numbers = some ⟨oc_law_numbers, od_law_numbers, .func (PySem.W.fnOf "_law_numbers" "_law_numbers" (defArgs s_law_numbers) (defBody s_law_numbers) (defScope s_law_numbers) .none kV_law_numbers dc_law_numbers pm_law_numbers an_law_numbers cd_law_numbers ct_law_numbers), sl_law_numbers⟩)
    (c_law_numbers : PySem.W.codeIn K cd_law_numbers "_law_numbers" = true)
    (k_law_numbers : PySem.W.keepIn K (.ref f_law_numbers) = true)
    (a_law_vector : PySem.W.nsIn K mainGlobals "_law_vector" = some (some (.ref f_law_vector)))
    (l_law_vector : K.lookup f_law_vector = some ⟨oc_law_vector, od_law_vector, .func (PySem.W.fnOf "_law_vector" "_law_vector" (defArgs s_law_vector) (defBody s_law_vector) (defScope s_law_vector) .none kV_law_vector dc_law_vector pm_law_vector an_law_vector cd_law_vector ct_law_vector), sl_law_vector⟩)
    (c_law_vector : PySem.W.codeIn K cd_law_vector "_law_vector" = true)
    (k_law_vector : PySem.W.keepIn K (.ref f_law_vector) = true)
    (a_check_width : PySem.W.nsIn K mainGlobals "_check_width" = some (some (.ref f_check_width)))
    (l_check_width : K.lookup f_check_width = some ⟨oc_check_width, od_check_width, .func (PySem.W.fnOf "_check_width" "_check_width" (defArgs s_check_width) (defBody s_check_width) (defScope s_check_width) .none kV_check_width dc_check_width pm_check_width an_check_width cd_check_width ct_check_width), sl_check_width⟩)
    (c_check_width : PySem.W.codeIn K cd_check_width "_check_width" = true)
    (k_check_width : PySem.W.keepIn K (.ref f_check_width) = true)
    (a_extended : PySem.W.nsIn K mainGlobals "_extended" = some (some (.ref f_extended)))
    (l_extended : K.lookup f_extended = some ⟨oc_extended, od_extended, .func (PySem.W.fnOf "_extended" "_extended" (defArgs s_extended) (defBody s_extended) (defScope s_extended) .none kV_extended dc_extended pm_extended an_extended cd_extended ct_extended), sl_extended⟩)
    (c_extended : PySem.W.codeIn K cd_extended "_extended" = true)
    (k_extended : PySem.W.keepIn K (.ref f_extended) = true)
    (a_resize : PySem.W.nsIn K mainGlobals "resize" = some (some (.ref f_resize)))
    (l_resize : K.lookup f_resize = some ⟨oc_resize, od_resize, .func (PySem.W.fnOf "resize" "resize" (defArgs s_resize) (defBody s_resize) (defScope s_resize) .none kV_resize dc_resize pm_resize an_resize cd_resize ct_resize), sl_resize⟩)
    (c_resize : PySem.W.codeIn K cd_resize "resize" = true)
    (k_resize : PySem.W.keepIn K (.ref f_resize) = true)
    (a_part : PySem.W.nsIn K mainGlobals "part" = some (some (.ref f_part)))
    (l_part : K.lookup f_part = some ⟨oc_part, od_part, .func (PySem.W.fnOf "part" "part" (defArgs s_part) (defBody s_part) (defScope s_part) .none kV_part dc_part pm_part an_part cd_part ct_part), sl_part⟩)
    (c_part : PySem.W.codeIn K cd_part "part" = true)
    (k_part : PySem.W.keepIn K (.ref f_part) = true)
    (a_law_refuses_part : PySem.W.nsIn K mainGlobals "_law_refuses_part" = some (some (.ref f_law_refuses_part)))
    (l_law_refuses_part : K.lookup f_law_refuses_part = some ⟨oc_law_refuses_part, od_law_refuses_part, .func (PySem.W.fnOf "_law_refuses_part" "_law_refuses_part" (defArgs s_law_refuses_part) (defBody s_law_refuses_part) (defScope s_law_refuses_part) .none kV_law_refuses_part dc_law_refuses_part pm_law_refuses_part an_law_refuses_part cd_law_refuses_part ct_law_refuses_part), sl_law_refuses_part⟩)
    (c_law_refuses_part : PySem.W.codeIn K cd_law_refuses_part "_law_refuses_part" = true)
    (k_law_refuses_part : PySem.W.keepIn K (.ref f_law_refuses_part) = true)
    (a_join : PySem.W.nsIn K mainGlobals "join" = some (some (.ref f_join)))
    (l_join : K.lookup f_join = some ⟨oc_join, od_join, .func (PySem.W.fnOf "join" "join" (defArgs s_join) (defBody s_join) (defScope s_join) .none kV_join dc_join pm_join an_join cd_join ct_join), sl_join⟩)
    (c_join : PySem.W.codeIn K cd_join "join" = true)
    (k_join : PySem.W.keepIn K (.ref f_join) = true)
    (a_law_parts_hold : PySem.W.nsIn K mainGlobals "_law_parts_hold" = some (some (.ref f_law_parts_hold)))
    (l_law_parts_hold : K.lookup f_law_parts_hold = some ⟨oc_law_parts_hold, od_law_parts_hold, .func (PySem.W.fnOf "_law_parts_hold" "_law_parts_hold" (defArgs s_law_parts_hold) (defBody s_law_parts_hold) (defScope s_law_parts_hold) .none kV_law_parts_hold dc_law_parts_hold pm_law_parts_hold an_law_parts_hold cd_law_parts_hold ct_law_parts_hold), sl_law_parts_hold⟩)
    (c_law_parts_hold : PySem.W.codeIn K cd_law_parts_hold "_law_parts_hold" = true)
    (k_law_parts_hold : PySem.W.keepIn K (.ref f_law_parts_hold) = true)
    (a_low_bits : PySem.W.nsIn K mainGlobals "_low_bits" = some (some (.ref f_low_bits)))
    (l_low_bits : K.lookup f_low_bits = some ⟨oc_low_bits, od_low_bits, .func (PySem.W.fnOf "_low_bits" "_low_bits" (defArgs s_low_bits) (defBody s_low_bits) (defScope s_low_bits) .none kV_low_bits dc_low_bits pm_low_bits an_low_bits cd_low_bits ct_low_bits), sl_low_bits⟩)
    (c_low_bits : PySem.W.codeIn K cd_low_bits "_low_bits" = true)
    (k_low_bits : PySem.W.keepIn K (.ref f_low_bits) = true)
    (a_from_number : PySem.W.nsIn K mainGlobals "from_number" = some (some (.ref f_from_number)))
    (l_from_number : K.lookup f_from_number = some ⟨oc_from_number, od_from_number, .func (PySem.W.fnOf "from_number" "from_number" (defArgs s_from_number) (defBody s_from_number) (defScope s_from_number) .none kV_from_number dc_from_number pm_from_number an_from_number cd_from_number ct_from_number), sl_from_number⟩)
    (c_from_number : PySem.W.codeIn K cd_from_number "from_number" = true)
    (k_from_number : PySem.W.keepIn K (.ref f_from_number) = true)
    (a_least_width : PySem.W.nsIn K mainGlobals "least_width" = some (some (.ref f_least_width)))
    (l_least_width : K.lookup f_least_width = some ⟨oc_least_width, od_least_width, .func (PySem.W.fnOf "least_width" "least_width" (defArgs s_least_width) (defBody s_least_width) (defScope s_least_width) .none kV_least_width dc_least_width pm_least_width an_least_width cd_least_width ct_least_width), sl_least_width⟩)
    (c_least_width : PySem.W.codeIn K cd_least_width "least_width" = true)
    (k_least_width : PySem.W.keepIn K (.ref f_least_width) = true)
    (a_law_text : PySem.W.nsIn K mainGlobals "_law_text" = some (some (.ref f_law_text)))
    (l_law_text : K.lookup f_law_text = some ⟨oc_law_text, od_law_text, .func (PySem.W.fnOf "_law_text" "_law_text" (defArgs s_law_text) (defBody s_law_text) (defScope s_law_text) .none kV_law_text dc_law_text pm_law_text an_law_text cd_law_text ct_law_text), sl_law_text⟩)
    (c_law_text : PySem.W.codeIn K cd_law_text "_law_text" = true)
    (k_law_text : PySem.W.keepIn K (.ref f_law_text) = true)
    (a_consists_of : PySem.W.nsIn K mainGlobals "_consists_of" = some (some (.ref f_consists_of)))
    (l_consists_of : K.lookup f_consists_of = some ⟨oc_consists_of, od_consists_of, .func (PySem.W.fnOf "_consists_of" "_consists_of" (defArgs s_consists_of) (defBody s_consists_of) (defScope s_consists_of) .none kV_consists_of dc_consists_of pm_consists_of an_consists_of (.ref cT_consists_of) ct_consists_of), sl_consists_of⟩)
    (c_consists_of : PySem.W.codeIn K (.ref cT_consists_of) "_consists_of" = true)
    (k_consists_of : PySem.W.keepIn K (.ref f_consists_of) = true)
    (a_is_vector : PySem.W.nsIn K mainGlobals "is_vector" = some (some (.ref f_is_vector)))
    (l_is_vector : K.lookup f_is_vector = some ⟨oc_is_vector, od_is_vector, .func (PySem.W.fnOf "is_vector" "is_vector" (defArgs s_is_vector) (defBody s_is_vector) (defScope s_is_vector) .none kV_is_vector dc_is_vector pm_is_vector an_is_vector cd_is_vector ct_is_vector), sl_is_vector⟩)
    (c_is_vector : PySem.W.codeIn K cd_is_vector "is_vector" = true)
    (k_is_vector : PySem.W.keepIn K (.ref f_is_vector) = true)
    (a_is_known : PySem.W.nsIn K mainGlobals "is_known" = some (some (.ref f_is_known)))
    (l_is_known : K.lookup f_is_known = some ⟨oc_is_known, od_is_known, .func (PySem.W.fnOf "is_known" "is_known" (defArgs s_is_known) (defBody s_is_known) (defScope s_is_known) .none kV_is_known dc_is_known pm_is_known an_is_known cd_is_known ct_is_known), sl_is_known⟩)
    (c_is_known : PySem.W.codeIn K cd_is_known "is_known" = true)
    (k_is_known : PySem.W.keepIn K (.ref f_is_known) = true)
    (a_law_bits : PySem.W.nsIn K mainGlobals "_law_bits" = some (some (.ref f_law_bits)))
    (l_law_bits : K.lookup f_law_bits = some ⟨oc_law_bits, od_law_bits, .func (PySem.W.fnOf "_law_bits" "_law_bits" (defArgs s_law_bits) (defBody s_law_bits) (defScope s_law_bits) .none kV_law_bits dc_law_bits pm_law_bits an_law_bits cd_law_bits ct_law_bits), sl_law_bits⟩)
    (c_law_bits : PySem.W.codeIn K cd_law_bits "_law_bits" = true)
    (k_law_bits : PySem.W.keepIn K (.ref f_law_bits) = true)
    (a_to_number : PySem.W.nsIn K mainGlobals "to_number" = some (some (.ref f_to_number)))
    (l_to_number : K.lookup f_to_number = some ⟨oc_to_number, od_to_number, .func (PySem.W.fnOf "to_number" "to_number" (defArgs s_to_number) (defBody s_to_number) (defScope s_to_number) .none kV_to_number dc_to_number pm_to_number an_to_number cd_to_number ct_to_number), sl_to_number⟩)
    (c_to_number : PySem.W.codeIn K cd_to_number "to_number" = true)
    (k_to_number : PySem.W.keepIn K (.ref f_to_number) = true)
    (a_law_numbers_hold : PySem.W.nsIn K mainGlobals "_law_numbers_hold" = some (some (.ref f_law_numbers_hold)))
    (l_law_numbers_hold : K.lookup f_law_numbers_hold = some ⟨oc_law_numbers_hold, od_law_numbers_hold, .func (PySem.W.fnOf "_law_numbers_hold" "_law_numbers_hold" (defArgs s_law_numbers_hold) (defBody s_law_numbers_hold) (defScope s_law_numbers_hold) .none kV_law_numbers_hold dc_law_numbers_hold pm_law_numbers_hold an_law_numbers_hold cd_law_numbers_hold ct_law_numbers_hold), sl_law_numbers_hold⟩)
    (c_law_numbers_hold : PySem.W.codeIn K cd_law_numbers_hold "_law_numbers_hold" = true)
    (k_law_numbers_hold : PySem.W.keepIn K (.ref f_law_numbers_hold) = true)
    (a_law_refuses_width : PySem.W.nsIn K mainGlobals "_law_refuses_width" = some (some (.ref f_law_refuses_width)))
    (l_law_refuses_width : K.lookup f_law_refuses_width = some ⟨oc_law_refuses_width, od_law_refuses_width, .func (PySem.W.fnOf "_law_refuses_width" "_law_refuses_width" (defArgs s_law_refuses_width) (defBody s_law_refuses_width) (defScope s_law_refuses_width) .none kV_law_refuses_width dc_law_refuses_width pm_law_refuses_width an_law_refuses_width cd_law_refuses_width ct_law_refuses_width), sl_law_refuses_width⟩)
    (c_law_refuses_width : PySem.W.codeIn K cd_law_refuses_width "_law_refuses_width" = true)
    (k_law_refuses_width : PySem.W.keepIn K (.ref f_law_refuses_width) = true)
    (a_law_refuses_number : PySem.W.nsIn K mainGlobals "_law_refuses_number" = some (some (.ref f_law_refuses_number)))
    (l_law_refuses_number : K.lookup f_law_refuses_number = some ⟨oc_law_refuses_number, od_law_refuses_number, .func (PySem.W.fnOf "_law_refuses_number" "_law_refuses_number" (defArgs s_law_refuses_number) (defBody s_law_refuses_number) (defScope s_law_refuses_number) .none kV_law_refuses_number dc_law_refuses_number pm_law_refuses_number an_law_refuses_number cd_law_refuses_number ct_law_refuses_number), sl_law_refuses_number⟩)
    (c_law_refuses_number : PySem.W.codeIn K cd_law_refuses_number "_law_refuses_number" = true)
    (k_law_refuses_number : PySem.W.keepIn K (.ref f_law_refuses_number) = true)
    (a_law : PySem.W.nsIn K mainGlobals "law" = some (some (.ref f_law)))
    (l_law : K.lookup f_law = some ⟨oc_law, od_law, .func (PySem.W.fnOf "law" "law" (defArgs s_law) (defBody s_law) (defScope s_law) .none kV_law dc_law pm_law an_law cd_law ct_law), sl_law⟩)
    (c_law : PySem.W.codeIn K cd_law "law" = true)
    (k_law : PySem.W.keepIn K (.ref f_law) = true)
    (lT_consists_of : K.lookup cT_consists_of = some ⟨ccT_consists_of, cdT_consists_of, .fields vsT_consists_of, cslT_consists_of⟩)
    (eT_consists_of : (vsT_consists_of[11]? : Option Value) = some (.ref Pt_consists_of))
    (hT_consists_of : PySem.W.codeHdIn K cT_consists_of Pt_consists_of = true)
    (nT_consists_of : K.lookup Pt_consists_of = none)
    (z_len : PySem.W.nsIn K mainGlobals "len" = some none)
    (z_max : PySem.W.nsIn K mainGlobals "max" = some none)
    (z_all : PySem.W.nsIn K mainGlobals "all" = some none)
    (z_range : PySem.W.nsIn K mainGlobals "range" = some none)
    (z_abs : PySem.W.nsIn K mainGlobals "abs" = some none)
    (z_int : PySem.W.nsIn K mainGlobals "int" = some none)
    (z_isinstance : PySem.W.nsIn K mainGlobals "isinstance" = some none)
    (z_str : PySem.W.nsIn K mainGlobals "str" = some none)
    (z_bool : PySem.W.nsIn K mainGlobals "bool" = some none)
    (z_list : PySem.W.nsIn K mainGlobals "list" = some none)
    (z_tuple : PySem.W.nsIn K mainGlobals "tuple" = some none)
    (g_MAX_WIDTH : PySem.W.nsIn K mainGlobals "MAX_WIDTH" = some (some (.int 64 t_MAX_WIDTH)))
    (gC_Refused : PySem.W.nsIn K mainGlobals "Refused" = some (some (.ref pRefused)))
    (eC_Refused : PySem.W.subIn K (.ref pRefused) (.type "BaseException") = some true)
    (tC_Refused : PySem.W.typeIn K (.ref pRefused) = some (.type "type"))
    (hC_Refused : PySem.W.hasDictIn K pRefused = true)
    (gC_Unknown : PySem.W.nsIn K mainGlobals "Unknown" = some (some (.ref pUnknown)))
    (eC_Unknown : PySem.W.subIn K (.ref pUnknown) (.type "BaseException") = some true)
    (tC_Unknown : PySem.W.typeIn K (.ref pUnknown) = some (.type "type"))
    (hC_Unknown : PySem.W.hasDictIn K pUnknown = true)
    (gC_Misused : PySem.W.nsIn K mainGlobals "Misused" = some (some (.ref pMisused)))
    (eC_Misused : PySem.W.subIn K (.ref pMisused) (.type "BaseException") = some true)
    (tC_Misused : PySem.W.typeIn K (.ref pMisused) = some (.type "type"))
    (hC_Misused : PySem.W.hasDictIn K pMisused = true)
    (gC_Width : PySem.W.nsIn K mainGlobals "Width" = some (some (.ref pWidth)))
    (eC_Width : PySem.W.subIn K (.ref pWidth) (.type "BaseException") = some true)
    (tC_Width : PySem.W.typeIn K (.ref pWidth) = some (.type "type"))
    (hC_Width : PySem.W.hasDictIn K pWidth = true)
    (x_Unknown : K.lookup pUnknown = some (excClassObj nm_Unknown q_Unknown pUnknown N_Unknown bs_Unknown bm_Unknown true sn_Unknown sub_Unknown ab_Unknown col_Unknown dd_Unknown m0_Unknown m1_Unknown m2_Unknown m3_Unknown m5_Unknown "ValueError.__new__"))
    (b_Unknown : PySem.HandSPX.refsVE bm_Unknown = true)
    (sa_Unknown : PySem.W.findIn K (.ref pUnknown) "__setattr__" = some (some (.builtin "object.__setattr__")))
    (ga_Unknown : PySem.W.findIn K (.ref pUnknown) "__getattribute__" = some (some (.builtin "BaseException.__getattribute__")))
    (gg_Unknown : PySem.W.findIn K (.ref pUnknown) "__getattr__" = some none)
    (no_Unknown : PySem.W.findIn K (.ref pUnknown) "name" = some none)
    (iC_Unknown : PySem.W.findIn K (.ref pUnknown) "__init__" = some (some (.ref fI_Unknown)))
    (tI_Unknown : PySem.W.typeIn K (.ref fI_Unknown) = some (.type "function"))
    (cC_Unknown : PySem.W.findIn K (.ref pUnknown) "__class__" = some (some (.builtin "object.__class__")))
    (nC_Unknown : PySem.W.specialIn K (.builtin "object.__class__") "__get__" = some (some (.builtin "getset_descriptor.__get__")))
    (tk_Unknown : PySem.W.takesIn K (.builtin "object.__class__") = some true)
    (mC_Unknown : PySem.W.mroIn K pUnknown (.type "object") = some true)
    (lC_Unknown : PySem.W.isClsIn K pUnknown = true)
    (kp_Unknown : PySem.W.keepIn K (.ref pUnknown) = true)
    (lI_Unknown : K.lookup fI_Unknown = some ⟨oc_IUnknown, od_IUnknown, .func (PySem.W.fnOf "__init__" "Unknown.__init__" (defArgs s_Unknown_init) (defBody s_Unknown_init) (defScope s_Unknown_init) .none kV_IUnknown dc_IUnknown pm_IUnknown an_IUnknown cd_IUnknown ct_IUnknown), sl_IUnknown⟩)
    (cI_Unknown : PySem.W.codeIn K cd_IUnknown "Unknown.__init__" = true)
    (kI_Unknown : PySem.W.keepIn K (.ref fI_Unknown) = true)
    (x_Misused : K.lookup pMisused = some (excClassObj nm_Misused q_Misused pMisused N_Misused bs_Misused bm_Misused true sn_Misused sub_Misused ab_Misused col_Misused dd_Misused m0_Misused m1_Misused m2_Misused m3_Misused m5_Misused "ValueError.__new__"))
    (b_Misused : PySem.HandSPX.refsVE bm_Misused = true)
    (sa_Misused : PySem.W.findIn K (.ref pMisused) "__setattr__" = some (some (.builtin "object.__setattr__")))
    (ga_Misused : PySem.W.findIn K (.ref pMisused) "__getattribute__" = some (some (.builtin "BaseException.__getattribute__")))
    (gg_Misused : PySem.W.findIn K (.ref pMisused) "__getattr__" = some none)
    (no_Misused : PySem.W.findIn K (.ref pMisused) "name" = some none)
    (iC_Misused : PySem.W.findIn K (.ref pMisused) "__init__" = some (some (.ref fI_Misused)))
    (tI_Misused : PySem.W.typeIn K (.ref fI_Misused) = some (.type "function"))
    (cC_Misused : PySem.W.findIn K (.ref pMisused) "__class__" = some (some (.builtin "object.__class__")))
    (nC_Misused : PySem.W.specialIn K (.builtin "object.__class__") "__get__" = some (some (.builtin "getset_descriptor.__get__")))
    (tk_Misused : PySem.W.takesIn K (.builtin "object.__class__") = some true)
    (mC_Misused : PySem.W.mroIn K pMisused (.type "object") = some true)
    (lC_Misused : PySem.W.isClsIn K pMisused = true)
    (kp_Misused : PySem.W.keepIn K (.ref pMisused) = true)
    (lI_Misused : K.lookup fI_Misused = some ⟨oc_IMisused, od_IMisused, .func (PySem.W.fnOf "__init__" "Misused.__init__" (defArgs s_Misused_init) (defBody s_Misused_init) (defScope s_Misused_init) .none kV_IMisused dc_IMisused pm_IMisused an_IMisused cd_IMisused ct_IMisused), sl_IMisused⟩)
    (cI_Misused : PySem.W.codeIn K cd_IMisused "Misused.__init__" = true)
    (kI_Misused : PySem.W.keepIn K (.ref fI_Misused) = true)
    (x_Width : K.lookup pWidth = some (excClassObj nm_Width q_Width pWidth N_Width bs_Width bm_Width true sn_Width sub_Width ab_Width col_Width dd_Width m0_Width m1_Width m2_Width m3_Width m5_Width "ValueError.__new__"))
    (b_Width : PySem.HandSPX.refsVE bm_Width = true)
    (sa_Width : PySem.W.findIn K (.ref pWidth) "__setattr__" = some (some (.builtin "object.__setattr__")))
    (ga_Width : PySem.W.findIn K (.ref pWidth) "__getattribute__" = some (some (.builtin "BaseException.__getattribute__")))
    (gg_Width : PySem.W.findIn K (.ref pWidth) "__getattr__" = some none)
    (no_Width : PySem.W.findIn K (.ref pWidth) "name" = some none)
    (iC_Width : PySem.W.findIn K (.ref pWidth) "__init__" = some (some (.ref fI_Width)))
    (tI_Width : PySem.W.typeIn K (.ref fI_Width) = some (.type "function"))
    (cC_Width : PySem.W.findIn K (.ref pWidth) "__class__" = some (some (.builtin "object.__class__")))
    (nC_Width : PySem.W.specialIn K (.builtin "object.__class__") "__get__" = some (some (.builtin "getset_descriptor.__get__")))
    (tk_Width : PySem.W.takesIn K (.builtin "object.__class__") = some true)
    (mC_Width : PySem.W.mroIn K pWidth (.type "object") = some true)
    (lC_Width : PySem.W.isClsIn K pWidth = true)
    (kp_Width : PySem.W.keepIn K (.ref pWidth) = true)
    (lI_Width : K.lookup fI_Width = some ⟨oc_IWidth, od_IWidth, .func (PySem.W.fnOf "__init__" "Width.__init__" (defArgs s_Width_init) (defBody s_Width_init) (defScope s_Width_init) .none kV_IWidth dc_IWidth pm_IWidth an_IWidth cd_IWidth ct_IWidth), sl_IWidth⟩)
    (cI_Width : PySem.W.codeIn K cd_IWidth "Width.__init__" = true)
    (kI_Width : PySem.W.keepIn K (.ref fI_Width) = true)
    (s_Width_Width : PySem.W.subIn K (.ref pWidth) (.ref pWidth) = some true)
    (s_Misused_Refused : PySem.W.subIn K (.ref pMisused) (.ref pRefused) = some true)
    (kit_Width_Unknown : PySem.W.kitOne K (.ref pWidth) (.ref pUnknown) = some false)
    (kit_Misused_Misused : PySem.W.kitOne K (.ref pMisused) (.ref pMisused) = some true)
    (kit_Misused_Width : PySem.W.kitOne K (.ref pMisused) (.ref pWidth) = some false) :
    LawAtS l w K CX0 6 63 "script" mg fa h := by
  have efa := hfa.symm.trans (PySem.W.mg_of X G a_law)
  cases efa
  have E_Unknown : ErrC K mg "Unknown" pUnknown fI_Unknown := ⟨PySem.W.mg_of X G gC_Unknown, ⟨⟨_, _, _, _, _, _, _, _, _, _, _, _, _, _, _, x_Unknown, b_Unknown⟩, sa_Unknown, eC_Unknown, tC_Unknown, kp_Unknown⟩, ⟨ga_Unknown, gg_Unknown, eC_Unknown, hC_Unknown⟩, no_Unknown, iC_Unknown, tI_Unknown, cC_Unknown, nC_Unknown, tk_Unknown, mC_Unknown, lC_Unknown⟩
  have E_Misused : ErrC K mg "Misused" pMisused fI_Misused := ⟨PySem.W.mg_of X G gC_Misused, ⟨⟨_, _, _, _, _, _, _, _, _, _, _, _, _, _, _, x_Misused, b_Misused⟩, sa_Misused, eC_Misused, tC_Misused, kp_Misused⟩, ⟨ga_Misused, gg_Misused, eC_Misused, hC_Misused⟩, no_Misused, iC_Misused, tI_Misused, cC_Misused, nC_Misused, tk_Misused, mC_Misused, lC_Misused⟩
  have E_Width : ErrC K mg "Width" pWidth fI_Width := ⟨PySem.W.mg_of X G gC_Width, ⟨⟨_, _, _, _, _, _, _, _, _, _, _, _, _, _, _, x_Width, b_Width⟩, sa_Width, eC_Width, tC_Width, kp_Width⟩, ⟨ga_Width, gg_Width, eC_Width, hC_Width⟩, no_Width, iC_Width, tI_Width, cC_Width, nC_Width, tk_Width, mC_Width, lC_Width⟩
  have T : Txt mg K w pRefused pUnknown pMisused pWidth := ⟨PySem.W.mg_none_of X G z_len, PySem.W.mg_none_of X G z_max, PySem.W.mg_none_of X G z_all, PySem.W.mg_none_of X G z_range, PySem.W.mg_none_of X G z_abs, PySem.W.mg_none_of X G z_int, PySem.W.mg_none_of X G z_isinstance, PySem.W.mg_none_of X G z_str, PySem.W.mg_none_of X G z_bool, PySem.W.mg_none_of X G z_list, PySem.W.mg_none_of X G z_tuple, ⟨_, PySem.W.mg_of X G g_MAX_WIDTH⟩, PySem.W.mg_of X G gC_Refused, PySem.W.mg_of X G gC_Unknown, PySem.W.mg_of X G gC_Misused, PySem.W.mg_of X G gC_Width, ⟨_, E_Unknown⟩, ⟨_, E_Misused⟩, ⟨_, E_Width⟩, exm_err (x := "") (fI := 0) eC_Width hC_Width tC_Width s_Width_Width, exm_err (x := "") (fI := 0) eC_Refused hC_Refused tC_Refused s_Misused_Refused, kit_Width_Unknown, kit_Misused_Misused, kit_Misused_Width⟩
  have F_Unknown := fun_mk (st := s_Unknown_init) lI_Unknown cI_Unknown kI_Unknown
  have B_Unknown := F_Unknown.binds (ps := ["self", "name"]) fun _ _ _ _ _ _ us hl => match us, hl with | [_, _], _ => rfl
  have F_Misused := fun_mk (st := s_Misused_init) lI_Misused cI_Misused kI_Misused
  have B_Misused := F_Misused.binds (ps := ["self", "name"]) fun _ _ _ _ _ _ us hl => match us, hl with | [_, _], _ => rfl
  have F_Width := fun_mk (st := s_Width_init) lI_Width cI_Width kI_Width
  have B_Width := F_Width.binds (ps := ["self", "name"]) fun _ _ _ _ _ _ us hl => match us, hl with | [_, _], _ => rfl
  have F_law_cell := fun_mk (st := s_law_cell) l_law_cell c_law_cell k_law_cell
  have B_law_cell := F_law_cell.binds (ps := ["script", "k"]) fun _ _ _ _ _ _ us hl => match us, hl with | [_, _], _ => rfl
  have F_law_numbers := fun_mk (st := s_law_numbers) l_law_numbers c_law_numbers k_law_numbers
  have B_law_numbers := F_law_numbers.binds (ps := ["script", "base", "many"]) fun _ _ _ _ _ _ us hl => match us, hl with | [_, _, _], _ => rfl
  have F_law_vector := fun_mk (st := s_law_vector) l_law_vector c_law_vector k_law_vector
  have B_law_vector := F_law_vector.binds (ps := ["numbers", "size", "plain"]) fun _ _ _ _ _ _ us hl => match us, hl with | [_, _, _], _ => rfl
  have F_check_width := fun_mk (st := s_check_width) l_check_width c_check_width k_check_width
  have B_check_width := F_check_width.binds (ps := ["width"]) fun _ _ _ _ _ _ us hl => match us, hl with | [_], _ => rfl
  have F_extended := fun_mk (st := s_extended) l_extended c_extended k_extended
  have B_extended := F_extended.binds (ps := ["vector", "width"]) fun _ _ _ _ _ _ us hl => match us, hl with | [_, _], _ => rfl
  have F_resize := fun_mk (st := s_resize) l_resize c_resize k_resize
  have B_resize := kbn_mk (ps := ["vector", "width"]) (n := 1) (ks := ["width"]) l_resize fun us ws h1 h2 => match us, ws, h1, h2 with | [_], [_], _, _ => rfl
  have F_part := fun_mk (st := s_part) l_part c_part k_part
  have B_part := kbn_mk (ps := ["vector", "high", "low"]) (n := 1) (ks := ["high", "low"]) l_part fun us ws h1 h2 => match us, ws, h1, h2 with | [_], [_, _], _, _ => rfl
  have F_law_refuses_part := fun_mk (st := s_law_refuses_part) l_law_refuses_part c_law_refuses_part k_law_refuses_part
  have B_law_refuses_part := F_law_refuses_part.binds (ps := ["vector", "high", "low"]) fun _ _ _ _ _ _ us hl => match us, hl with | [_, _, _], _ => rfl
  have F_join := fun_mk (st := s_join) l_join c_join k_join
  have B_join := F_join.binds (ps := ["vectors"]) fun _ _ _ _ _ _ us hl => match us, hl with | [_], _ => rfl
  have F_law_parts_hold := fun_mk (st := s_law_parts_hold) l_law_parts_hold c_law_parts_hold k_law_parts_hold
  have B_law_parts_hold := F_law_parts_hold.binds (ps := ["vector", "high", "low"]) fun _ _ _ _ _ _ us hl => match us, hl with | [_, _, _], _ => rfl
  have F_low_bits := fun_mk (st := s_low_bits) l_low_bits c_low_bits k_low_bits
  have B_low_bits := F_low_bits.binds (ps := ["number", "width"]) fun _ _ _ _ _ _ us hl => match us, hl with | [_, _], _ => rfl
  have F_from_number := fun_mk (st := s_from_number) l_from_number c_from_number k_from_number
  have B_from_number := kbn_mk (ps := ["number", "width"]) (n := 1) (ks := ["width"]) l_from_number fun us ws h1 h2 => match us, ws, h1, h2 with | [_], [_], _, _ => rfl
  have F_least_width := fun_mk (st := s_least_width) l_least_width c_least_width k_least_width
  have B_least_width := F_least_width.binds (ps := ["number"]) fun _ _ _ _ _ _ us hl => match us, hl with | [_], _ => rfl
  have F_law_text := fun_mk (st := s_law_text) l_law_text c_law_text k_law_text
  have B_law_text := F_law_text.binds (ps := ["vector", "width"]) fun _ _ _ _ _ _ us hl => match us, hl with | [_, _], _ => rfl
  have F_consists_of := fun_mk (st := s_consists_of) l_consists_of c_consists_of k_consists_of
  have B_consists_of := F_consists_of.binds (ps := ["text", "characters"]) fun _ _ _ _ _ _ us hl => match us, hl with | [_, _], _ => rfl
  have F_is_vector := fun_mk (st := s_is_vector) l_is_vector c_is_vector k_is_vector
  have B_is_vector := F_is_vector.binds (ps := ["value"]) fun _ _ _ _ _ _ us hl => match us, hl with | [_], _ => rfl
  have F_is_known := fun_mk (st := s_is_known) l_is_known c_is_known k_is_known
  have B_is_known := F_is_known.binds (ps := ["vector"]) fun _ _ _ _ _ _ us hl => match us, hl with | [_], _ => rfl
  have F_law_bits := fun_mk (st := s_law_bits) l_law_bits c_law_bits k_law_bits
  have B_law_bits := F_law_bits.binds (ps := ["number", "width"]) fun _ _ _ _ _ _ us hl => match us, hl with | [_, _], _ => rfl
  have F_to_number := fun_mk (st := s_to_number) l_to_number c_to_number k_to_number
  have B_to_number := F_to_number.binds (ps := ["vector"]) fun _ _ _ _ _ _ us hl => match us, hl with | [_], _ => rfl
  have F_law_numbers_hold := fun_mk (st := s_law_numbers_hold) l_law_numbers_hold c_law_numbers_hold k_law_numbers_hold
  have B_law_numbers_hold := F_law_numbers_hold.binds (ps := ["number", "width"]) fun _ _ _ _ _ _ us hl => match us, hl with | [_, _], _ => rfl
  have F_law_refuses_width := fun_mk (st := s_law_refuses_width) l_law_refuses_width c_law_refuses_width k_law_refuses_width
  have B_law_refuses_width := F_law_refuses_width.binds (ps := ["width", "number"]) fun _ _ _ _ _ _ us hl => match us, hl with | [_, _], _ => rfl
  have F_law_refuses_number := fun_mk (st := s_law_refuses_number) l_law_refuses_number c_law_refuses_number k_law_refuses_number
  have B_law_refuses_number := F_law_refuses_number.binds (ps := ["vector"]) fun _ _ _ _ _ _ us hl => match us, hl with | [_], _ => rfl
  have F_law := fun_mk (st := s_law) l_law c_law k_law
  have B_law := F_law.binds (ps := ["script"]) fun _ _ _ _ _ _ us hl => match us, hl with | [_], _ => rfl
  refine ⟨PySem.W.fnOf "law" "law" (defArgs s_law) (defBody s_law) (defScope s_law) .none kV_law dc_law pm_law an_law cd_law ct_law, [(cT_consists_of, Pt_consists_of)], sp_law K [Pt_consists_of], ?_, ?_, ?_, fun s v => .of_eq rfl, ?_, ?_⟩
  · intro p hp
    rw [List.mem_singleton.mp hp]
    exact TF _ (by simp) _ _ _ _ _ _ _ (PySem.W.mg_of X G a_consists_of) l_consists_of rfl rfl lT_consists_of rfl eT_consists_of
  · intro p hp
    rw [List.mem_singleton.mp hp]
    exact nT_consists_of
  · intro p hp
    rw [List.mem_singleton.mp hp]
    exact PySem.W.codeHd_of_K X hT_consists_of
  · intro H a ns _ _ hH hS
    refine ⟨(a, ns), rfl, hS, fun P hP => ?_, fun _ _ => rfl⟩
    rw [List.mem_singleton.mp hP]
    exact ⟨#[], hH (cT_consists_of, Pt_consists_of) (List.mem_singleton.mpr rfl), trivial⟩
  · intro base XB GB TB
    have I_Unknown : IniC l.prog w K mg base "Unknown" pUnknown := ⟨⟨_, _, E_Unknown, ok_Unknown_init F_Unknown, B_Unknown⟩⟩
    have I_Misused : IniC l.prog w K mg base "Misused" pMisused := ⟨⟨_, _, E_Misused, ok_Misused_init F_Misused, B_Misused⟩⟩
    have I_Width : IniC l.prog w K mg base "Width" pWidth := ⟨⟨_, _, E_Width, ok_Width_init F_Width, B_Width⟩⟩
    have C_law_cell : Callee l.prog w K mg base "_law_cell" 1 ["script", "k"] (sp_law_cell K [Pt_consists_of]) := ⟨⟨_, _, ok_law_cell F_law_cell T , PySem.W.mg_of X G a_law_cell, k_law_cell, B_law_cell⟩⟩
    have C_law_numbers : Callee l.prog w K mg base "_law_numbers" 1 ["script", "base", "many"] (sp_law_numbers K [Pt_consists_of]) := ⟨⟨_, _, ok_law_numbers F_law_numbers T , PySem.W.mg_of X G a_law_numbers, k_law_numbers, B_law_numbers⟩⟩
    have C_law_vector : Callee l.prog w K mg base "_law_vector" 1 ["numbers", "size", "plain"] (sp_law_vector K [Pt_consists_of]) := ⟨⟨_, _, ok_law_vector F_law_vector T , PySem.W.mg_of X G a_law_vector, k_law_vector, B_law_vector⟩⟩
    have C_check_width : CalleeX l.prog w K mg base "_check_width" 3 ["width"] (sp_check_width pWidth K [Pt_consists_of]) := ⟨⟨_, _, ok_check_width F_check_width T I_Width, PySem.W.mg_of X G a_check_width, k_check_width, B_check_width⟩⟩
    have C_extended : Callee l.prog w K mg base "_extended" 1 ["vector", "width"] (sp_extended K [Pt_consists_of]) := ⟨⟨_, _, ok_extended F_extended T , PySem.W.mg_of X G a_extended, k_extended, B_extended⟩⟩
    have C_resize : CalleeK l.prog w K mg base "resize" 4 ["vector", "width"] 1 ["width"] (sp_resize K [Pt_consists_of]) := ⟨⟨_, _, ok_resize F_resize T C_check_width C_extended, PySem.W.mg_of X G a_resize, k_resize, B_resize⟩⟩
    have C_part : CalleeK l.prog w K mg base "part" 3 ["vector", "high", "low"] 1 ["high", "low"] (sp_part pWidth K [Pt_consists_of]) := ⟨⟨_, _, ok_part F_part T I_Width, PySem.W.mg_of X G a_part, k_part, B_part⟩⟩
    have C_law_refuses_part : Callee l.prog w K mg base "_law_refuses_part" 4 ["vector", "high", "low"] (sp_law_refuses_part K [Pt_consists_of]) := ⟨⟨_, _, ok_law_refuses_part F_law_refuses_part T C_part, PySem.W.mg_of X G a_law_refuses_part, k_law_refuses_part, B_law_refuses_part⟩⟩
    have C_join : CalleeX l.prog w K mg base "join" 4 ["vectors"] (sp_join K [Pt_consists_of]) := ⟨⟨_, _, ok_join F_join T C_check_width, PySem.W.mg_of X G a_join, k_join, B_join⟩⟩
    have C_law_parts_hold : Callee l.prog w K mg base "_law_parts_hold" 5 ["vector", "high", "low"] (sp_law_parts_hold K [Pt_consists_of]) := ⟨⟨_, _, ok_law_parts_hold F_law_parts_hold T C_part C_law_refuses_part C_join, PySem.W.mg_of X G a_law_parts_hold, k_law_parts_hold, B_law_parts_hold⟩⟩
    have C_low_bits : Callee l.prog w K mg base "_low_bits" 1 ["number", "width"] (sp_low_bits K [Pt_consists_of]) := ⟨⟨_, _, ok_low_bits F_low_bits T , PySem.W.mg_of X G a_low_bits, k_low_bits, B_low_bits⟩⟩
    have C_from_number : CalleeK l.prog w K mg base "from_number" 4 ["number", "width"] 1 ["width"] (sp_from_number pWidth K [Pt_consists_of]) := ⟨⟨_, _, ok_from_number F_from_number T C_check_width C_low_bits, PySem.W.mg_of X G a_from_number, k_from_number, B_from_number⟩⟩
    have C_least_width : Callee l.prog w K mg base "least_width" 1 ["number"] (sp_least_width K [Pt_consists_of]) := ⟨⟨_, _, ok_least_width F_least_width T , PySem.W.mg_of X G a_least_width, k_least_width, B_least_width⟩⟩
    have C_law_text : Callee l.prog w K mg base "_law_text" 1 ["vector", "width"] (sp_law_text K [Pt_consists_of]) := ⟨⟨_, _, ok_law_text F_law_text T , PySem.W.mg_of X G a_law_text, k_law_text, B_law_text⟩⟩
    have TB_consists_of : TabB base mg cT_consists_of Pt_consists_of := by
      have z := TB (cT_consists_of, Pt_consists_of) (by simp)
      exact ⟨z.1, z.2, z.3⟩
    have C_consists_of : Callee l.prog w K mg base "_consists_of" 1 ["text", "characters"] (sp_consists_of K [Pt_consists_of]) := ⟨⟨_, _, ok_consists_of l_consists_of c_consists_of TB_consists_of (by simp) T , PySem.W.mg_of X G a_consists_of, k_consists_of, B_consists_of⟩⟩
    have C_is_vector : Callee l.prog w K mg base "is_vector" 2 ["value"] (sp_is_vector K [Pt_consists_of]) := ⟨⟨_, _, ok_is_vector F_is_vector T C_consists_of, PySem.W.mg_of X G a_is_vector, k_is_vector, B_is_vector⟩⟩
    have C_is_known : Callee l.prog w K mg base "is_known" 2 ["vector"] (sp_is_known K [Pt_consists_of]) := ⟨⟨_, _, ok_is_known F_is_known T C_consists_of, PySem.W.mg_of X G a_is_known, k_is_known, B_is_known⟩⟩
    have C_law_bits : Callee l.prog w K mg base "_law_bits" 1 ["number", "width"] (sp_law_bits K [Pt_consists_of]) := ⟨⟨_, _, ok_law_bits F_law_bits T , PySem.W.mg_of X G a_law_bits, k_law_bits, B_law_bits⟩⟩
    have C_to_number : CalleeX l.prog w K mg base "to_number" 3 ["vector"] (sp_to_number pMisused K [Pt_consists_of]) := ⟨⟨_, _, ok_to_number F_to_number T C_is_known I_Misused, PySem.W.mg_of X G a_to_number, k_to_number, B_to_number⟩⟩
    have C_law_numbers_hold : Callee l.prog w K mg base "_law_numbers_hold" 5 ["number", "width"] (sp_law_numbers_hold K [Pt_consists_of]) := ⟨⟨_, _, ok_law_numbers_hold F_law_numbers_hold T C_from_number C_least_width C_law_text C_is_vector C_is_known C_law_bits C_to_number, PySem.W.mg_of X G a_law_numbers_hold, k_law_numbers_hold, B_law_numbers_hold⟩⟩
    have C_law_refuses_width : Callee l.prog w K mg base "_law_refuses_width" 5 ["width", "number"] (sp_law_refuses_width K [Pt_consists_of]) := ⟨⟨_, _, ok_law_refuses_width F_law_refuses_width T C_from_number, PySem.W.mg_of X G a_law_refuses_width, k_law_refuses_width, B_law_refuses_width⟩⟩
    have C_law_refuses_number : Callee l.prog w K mg base "_law_refuses_number" 4 ["vector"] (sp_law_refuses_number K [Pt_consists_of]) := ⟨⟨_, _, ok_law_refuses_number F_law_refuses_number T C_to_number, PySem.W.mg_of X G a_law_refuses_number, k_law_refuses_number, B_law_refuses_number⟩⟩
    exact ok_law F_law T C_law_cell C_law_numbers C_law_vector C_resize C_law_parts_hold C_law_numbers_hold C_is_known C_law_refuses_width C_law_refuses_number
end K01
open PySem PySem.W PyProof.Rows
set_option Elab.async false
set_option maxRecDepth 100000 in
set_option maxHeartbeats 0 in
theorem PySem.Challenge.cw_clockwright_k01_numbers_and_vectors_holds : PySem.Challenge.rw_clockwright_k01_numbers_and_vectors.Holds := by
  w_on; o_law; k_head; (case hw => w_witness2)
  k_fill
  refine K01.walk_tab (l := PySem.Challenge.rw_clockwright_k01_numbers_and_vectors) (n := 63) (k := 6) (y := "script") [("_consists_of" : Str)] rfl (by decide) rfl ⟨rfl, by decide, by decide⟩ ?R (fun w h Y => PySem.W.kIn_of Y) ?F
  case R => kernel_rfl
  case F =>
    intro w mg fa h KX G hmg TF
    refine' K01.all_mk (l := PySem.Challenge.rw_clockwright_k01_numbers_and_vectors) (w := w) KX G hmg TF ?a_law_cell ?l_law_cell ?c_law_cell ?k_law_cell ?a_law_numbers ?l_law_numbers ?c_law_numbers ?k_law_numbers ?a_law_vector ?l_law_vector ?c_law_vector ?k_law_vector ?a_check_width ?l_check_width ?c_check_width ?k_check_width ?a_extended ?l_extended ?c_extended ?k_extended ?a_resize ?l_resize ?c_resize ?k_resize ?a_part ?l_part ?c_part ?k_part ?a_law_refuses_part ?l_law_refuses_part ?c_law_refuses_part ?k_law_refuses_part ?a_join ?l_join ?c_join ?k_join ?a_law_parts_hold ?l_law_parts_hold ?c_law_parts_hold ?k_law_parts_hold ?a_low_bits ?l_low_bits ?c_low_bits ?k_low_bits ?a_from_number ?l_from_number ?c_from_number ?k_from_number ?a_least_width ?l_least_width ?c_least_width ?k_least_width ?a_law_text ?l_law_text ?c_law_text ?k_law_text ?a_consists_of ?l_consists_of ?c_consists_of ?k_consists_of ?a_is_vector ?l_is_vector ?c_is_vector ?k_is_vector ?a_is_known ?l_is_known ?c_is_known ?k_is_known ?a_law_bits ?l_law_bits ?c_law_bits ?k_law_bits ?a_to_number ?l_to_number ?c_to_number ?k_to_number ?a_law_numbers_hold ?l_law_numbers_hold ?c_law_numbers_hold ?k_law_numbers_hold ?a_law_refuses_width ?l_law_refuses_width ?c_law_refuses_width ?k_law_refuses_width ?a_law_refuses_number ?l_law_refuses_number ?c_law_refuses_number ?k_law_refuses_number ?a_law ?l_law ?c_law ?k_law ?lT_consists_of ?eT_consists_of ?hT_consists_of ?nT_consists_of ?z_len ?z_max ?z_all ?z_range ?z_abs ?z_int ?z_isinstance ?z_str ?z_bool ?z_list ?z_tuple ?g_MAX_WIDTH ?gC_Refused ?eC_Refused ?tC_Refused ?hC_Refused ?gC_Unknown ?eC_Unknown ?tC_Unknown ?hC_Unknown ?gC_Misused ?eC_Misused ?tC_Misused ?hC_Misused ?gC_Width ?eC_Width ?tC_Width ?hC_Width ?x_Unknown ?b_Unknown ?sa_Unknown ?ga_Unknown ?gg_Unknown ?no_Unknown ?iC_Unknown ?tI_Unknown ?cC_Unknown ?nC_Unknown ?tk_Unknown ?mC_Unknown ?lC_Unknown ?kp_Unknown ?lI_Unknown ?cI_Unknown ?kI_Unknown ?x_Misused ?b_Misused ?sa_Misused ?ga_Misused ?gg_Misused ?no_Misused ?iC_Misused ?tI_Misused ?cC_Misused ?nC_Misused ?tk_Misused ?mC_Misused ?lC_Misused ?kp_Misused ?lI_Misused ?cI_Misused ?kI_Misused ?x_Width ?b_Width ?sa_Width ?ga_Width ?gg_Width ?no_Width ?iC_Width ?tI_Width ?cC_Width ?nC_Width ?tk_Width ?mC_Width ?lC_Width ?kp_Width ?lI_Width ?cI_Width ?kI_Width ?s_Width_Width ?s_Misused_Refused ?kit_Width_Unknown ?kit_Misused_Misused ?kit_Misused_Width
    (case a_law_cell => k_is)
    (case l_law_cell => k_is)
    (case c_law_cell => k_is)
    (case k_law_cell => k_is)
    (case a_law_numbers => k_is)
    (case l_law_numbers => k_is)
    (case c_law_numbers => k_is)
    (case k_law_numbers => k_is)
    (case a_law_vector => k_is)
    (case l_law_vector => k_is)
    (case c_law_vector => k_is)
    (case k_law_vector => k_is)
    (case a_check_width => k_is)
    (case l_check_width => k_is)
    (case c_check_width => k_is)
    (case k_check_width => k_is)
    (case a_extended => k_is)
    (case l_extended => k_is)
    (case c_extended => k_is)
    (case k_extended => k_is)
    (case a_resize => k_is)
    (case l_resize => k_is)
    (case c_resize => k_is)
    (case k_resize => k_is)
    (case a_part => k_is)
    (case l_part => k_is)
    (case c_part => k_is)
    (case k_part => k_is)
    (case a_law_refuses_part => k_is)
    (case l_law_refuses_part => k_is)
    (case c_law_refuses_part => k_is)
    (case k_law_refuses_part => k_is)
    (case a_join => k_is)
    (case l_join => k_is)
    (case c_join => k_is)
    (case k_join => k_is)
    (case a_law_parts_hold => k_is)
    (case l_law_parts_hold => k_is)
    (case c_law_parts_hold => k_is)
    (case k_law_parts_hold => k_is)
    (case a_low_bits => k_is)
    (case l_low_bits => k_is)
    (case c_low_bits => k_is)
    (case k_low_bits => k_is)
    (case a_from_number => k_is)
    (case l_from_number => k_is)
    (case c_from_number => k_is)
    (case k_from_number => k_is)
    (case a_least_width => k_is)
    (case l_least_width => k_is)
    (case c_least_width => k_is)
    (case k_least_width => k_is)
    (case a_law_text => k_is)
    (case l_law_text => k_is)
    (case c_law_text => k_is)
    (case k_law_text => k_is)
    (case a_consists_of => k_is)
    (case l_consists_of => k_is)
    (case c_consists_of => k_is)
    (case k_consists_of => k_is)
    (case a_is_vector => k_is)
    (case l_is_vector => k_is)
    (case c_is_vector => k_is)
    (case k_is_vector => k_is)
    (case a_is_known => k_is)
    (case l_is_known => k_is)
    (case c_is_known => k_is)
    (case k_is_known => k_is)
    (case a_law_bits => k_is)
    (case l_law_bits => k_is)
    (case c_law_bits => k_is)
    (case k_law_bits => k_is)
    (case a_to_number => k_is)
    (case l_to_number => k_is)
    (case c_to_number => k_is)
    (case k_to_number => k_is)
    (case a_law_numbers_hold => k_is)
    (case l_law_numbers_hold => k_is)
    (case c_law_numbers_hold => k_is)
    (case k_law_numbers_hold => k_is)
    (case a_law_refuses_width => k_is)
    (case l_law_refuses_width => k_is)
    (case c_law_refuses_width => k_is)
    (case k_law_refuses_width => k_is)
    (case a_law_refuses_number => k_is)
    (case l_law_refuses_number => k_is)
    (case c_law_refuses_number => k_is)
    (case k_law_refuses_number => k_is)
    (case a_law => k_is)
    (case l_law => k_is)
    (case c_law => k_is)
    (case k_law => k_is)
    (case lT_consists_of => k_is)
    (case eT_consists_of => rfl)
    (case hT_consists_of => kernel_rfl)
    (case nT_consists_of => kernel_rfl)
    (case z_len => k_is)
    (case z_max => k_is)
    (case z_all => k_is)
    (case z_range => k_is)
    (case z_abs => k_is)
    (case z_int => k_is)
    (case z_isinstance => k_is)
    (case z_str => k_is)
    (case z_bool => k_is)
    (case z_list => k_is)
    (case z_tuple => k_is)
    (case g_MAX_WIDTH => k_is)
    (case gC_Refused => k_is)
    (case eC_Refused => k_is)
    (case tC_Refused => k_is)
    (case hC_Refused => k_is)
    (case gC_Unknown => k_is)
    (case eC_Unknown => k_is)
    (case tC_Unknown => k_is)
    (case hC_Unknown => k_is)
    (case gC_Misused => k_is)
    (case eC_Misused => k_is)
    (case tC_Misused => k_is)
    (case hC_Misused => k_is)
    (case gC_Width => k_is)
    (case eC_Width => k_is)
    (case tC_Width => k_is)
    (case hC_Width => k_is)
    (case x_Unknown => k_is)
    (case b_Unknown => kernel_rfl)
    (case sa_Unknown => k_is)
    (case ga_Unknown => k_is)
    (case gg_Unknown => k_is)
    (case no_Unknown => k_is)
    (case iC_Unknown => k_is)
    (case tI_Unknown => k_is)
    (case cC_Unknown => k_is)
    (case nC_Unknown => k_is)
    (case tk_Unknown => k_is)
    (case mC_Unknown => k_is)
    (case lC_Unknown => k_is)
    (case kp_Unknown => k_is)
    (case lI_Unknown => k_is)
    (case cI_Unknown => k_is)
    (case kI_Unknown => k_is)
    (case x_Misused => k_is)
    (case b_Misused => kernel_rfl)
    (case sa_Misused => k_is)
    (case ga_Misused => k_is)
    (case gg_Misused => k_is)
    (case no_Misused => k_is)
    (case iC_Misused => k_is)
    (case tI_Misused => k_is)
    (case cC_Misused => k_is)
    (case nC_Misused => k_is)
    (case tk_Misused => k_is)
    (case mC_Misused => k_is)
    (case lC_Misused => k_is)
    (case kp_Misused => k_is)
    (case lI_Misused => k_is)
    (case cI_Misused => k_is)
    (case kI_Misused => k_is)
    (case x_Width => k_is)
    (case b_Width => kernel_rfl)
    (case sa_Width => k_is)
    (case ga_Width => k_is)
    (case gg_Width => k_is)
    (case no_Width => k_is)
    (case iC_Width => k_is)
    (case tI_Width => k_is)
    (case cC_Width => k_is)
    (case nC_Width => k_is)
    (case tk_Width => k_is)
    (case mC_Width => k_is)
    (case lC_Width => k_is)
    (case kp_Width => k_is)
    (case lI_Width => k_is)
    (case cI_Width => k_is)
    (case kI_Width => k_is)
    (case s_Width_Width => first | rfl | k_is)
    (case s_Misused_Refused => first | rfl | k_is)
    (case kit_Width_Unknown => first | rfl | kernel_rfl | k_is)
    (case kit_Misused_Misused => first | rfl | kernel_rfl | k_is)
    (case kit_Misused_Width => first | rfl | kernel_rfl | k_is)
