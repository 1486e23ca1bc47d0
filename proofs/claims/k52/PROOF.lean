import PyProof.Rows.All
import Wide.All
import OpenK.AllK
import Wide.FinOn
import KE.KIntText
import KE.IntTextLaws
import HandS.Base
import HandS.Call
import HandS.Codes
import KE.GoesZip
import KE.GoesMore
import HandS.List
import HandS.Iter
import HandS.Walk
import HandS.Comp
import HandS.Text
import HandS.AnyAll
import PyProof.StrOps2
import HandS.ForMost
import HandS.More
import HandS.Lambda
import HandS.EndTab
import PyProof.FString3
import HandS.FStr
import HandS.WideBits
import HandS.StrMore
import HandS.Style
import HandS.Wide
import PyProof.GenCompT
import HandS.IsInst
import HandS.Exc
import HandS.ExcInit
import HandS.ExcField
import HandS.ExcOwn
import HandS.Defaults
import KE.KExcIs
import HandS.ExcIs
import HandS.Dict
import HandS.EndBits
import KE.KNestM
import HandS.TupAny
import HandS.Deep
import HandS.Star
import HandS.DictComp
import HandS.TupSets
import PySem.Challenge.RW_clockwright_k52_steps
set_option Elab.async false
set_option linter.all false
set_option maxRecDepth 100000
/-! int(text, 2) -/
namespace Cw
open PySem PySem.Spec PyProof.Rows L2
open PySem.NumText PySem.Calls
def IsBin (c : Nat) : Prop := c = 48 ∨ c = 49
def bv (c : Nat) : Nat := c - 48
def binNum (l : List Nat) : Nat := l.foldl (fun a c => a * 2 + bv c) 0
theorem bin_rng {c : Nat} (h : IsBin c) : 48 ≤ c ∧ c ≤ 49 ∧ c ≠ 95 := by
  unfold IsBin at h
  omega
theorem bin_digit {c : Nat} (h : IsBin c) : digit? c = some (bv c) := by
  rcases h with h | h
  · subst h
    rfl
  · subst h
    rfl
theorem bin_lt {c : Nat} (h : IsBin c) : bv c < 2 := by
  have := bin_rng h
  unfold bv
  omega
theorem bin_step {ds : Array Nat} {b : Bool} {c : Nat} (h : IsBin c) : PySem.NumText.step 2 (ds, b) c = some (ds.push (bv c), true) := by
  unfold PySem.NumText.step
  rw [if_neg (by rw [beq_iff_eq]; exact (bin_rng h).2.2), bin_digit h]
  exact if_pos (bin_lt h)
theorem bin_foldl : ∀ (cs : List Nat) (ds : Array Nat), (∀ c ∈ cs, IsBin c) → cs.foldlM (PySem.NumText.step 2) (ds, true) = some (cs.foldl (fun acc c => acc.push (bv c)) ds, true)
  | [], _, _ => rfl
  | c :: cs, ds, h => by
    rw [List.foldlM_cons, bin_step (h c (List.mem_cons_self ..))]
    show cs.foldlM (PySem.NumText.step 2) (ds.push (bv c), true) = _
    exact bin_foldl cs (ds.push (bv c)) fun d hd => h d (List.mem_cons_of_mem _ hd)
theorem bin_digits {cs : List Nat} (h : ∀ c ∈ cs, IsBin c) (hne : cs ≠ []) : digits? 2 cs = some (cs.foldl (fun acc c => acc.push (bv c)) #[]) := by
  cases cs with
  | nil => exact absurd rfl hne
  | cons c cs =>
    unfold digits?
    rw [List.foldlM_cons, bin_step (h c (List.mem_cons_self ..))]
    show (cs.foldlM (PySem.NumText.step 2) ((#[] : Array Nat).push (bv c), true)).bind _ = _
    rw [bin_foldl cs _ fun d hd => h d (List.mem_cons_of_mem _ hd)]
    rfl
theorem bin_push : ∀ (cs : List Nat) (ds : Array Nat), (cs.foldl (fun acc c => acc.push (bv c)) ds).foldl (fun acc d => acc * 2 + d) 0 = cs.foldl (fun a c => a * 2 + bv c) (ds.foldl (fun acc d => acc * 2 + d) 0)
  | [], _ => rfl
  | c :: cs, ds => by
    rw [List.foldl_cons, bin_push cs (ds.push (bv c)), List.foldl_cons]
    congr 1
    simp
theorem bin_drop {cs : List Nat} (h : ∀ c ∈ cs, IsBin c) : cs.dropWhile blank = cs := by
  cases cs with
  | nil => rfl
  | cons c cs => exact dropWhile_of (by have := bin_rng (h c (List.mem_cons_self ..)); omega)
theorem bin_sign {cs : List Nat} (h : ∀ c ∈ cs, IsBin c) : sign cs = (false, cs) := by
  cases cs with
  | nil => rfl
  | cons c cs =>
    have := bin_rng (h c (List.mem_cons_self ..))
    exact sign_of (by omega) (by omega)
theorem bin_pref {cs : List Nat} (h : ∀ c ∈ cs, IsBin c) : PySem.NumText.prefix? cs = none := by
  match cs, h with
  | [], _ => rfl
  | [a], _ =>
    unfold PySem.NumText.prefix?
    split
    · rename_i e
      cases e
    · rfl
  | a :: c :: r, h =>
    have hc := bin_rng (h c (List.mem_cons_of_mem _ (List.mem_cons_self ..)))
    by_cases ha : a = 48
    · subst ha
      have e : PySem.NumText.prefix? (48 :: c :: r) = if (c == 120 || c == 88) = true then some 16 else if (c == 111 || c == 79) = true then some 8 else if (c == 98 || c == 66) = true then some 2 else none := rfl
      rw [e, if_neg (by rw [Bool.or_eq_true, beq_iff_eq, beq_iff_eq]; omega), if_neg (by rw [Bool.or_eq_true, beq_iff_eq, beq_iff_eq]; omega), if_neg (by rw [Bool.or_eq_true, beq_iff_eq, beq_iff_eq]; omega)]
    · unfold PySem.NumText.prefix?
      split
      · rename_i e
        exact absurd (List.cons.inj e).1 ha
      · rfl
theorem bin_based {cs : List Nat} (h : ∀ c ∈ cs, IsBin c) : based 2 cs = (2, false, cs) := by
  unfold based
  rw [bin_pref h] <;> rfl
theorem bin_read {cs : List Nat} (h : ∀ c ∈ cs, IsBin c) (hne : cs ≠ []) : (int_private% "readNumeral") 0 2 cs = (int_private% "Numeral.value") ((binNum cs : Nat) : Int) := by
  have hr : ∀ c ∈ cs.reverse, IsBin c := fun c hc => h c (List.mem_reverse.mp hc)
  refine (readNumeral_eq 0 2 cs).trans ?_
  rw [bin_drop h, bin_sign h]
  show judge 0 false (based 2 cs).1 (based 2 cs).2.1 (digits? (based 2 cs).1 (((based 2 cs).2.2.reverse.dropWhile blank).reverse)) = _
  rw [bin_based h]
  show judge 0 false 2 false (digits? 2 ((cs.reverse.dropWhile blank).reverse)) = _
  rw [bin_drop hr, List.reverse_reverse, bin_digits h hne]
  show (int_private% "Numeral.value") (((cs.foldl (fun acc c => acc.push (bv c)) (#[] : Array Nat)).foldl (fun acc d => acc * 2 + d) 0 : Nat) : Int) = _
  have z : (#[] : Array Nat).foldl (fun acc d => acc * 2 + d) 0 = 0 := by first | rfl | simp
  rw [bin_push, z] <;> rfl
theorem bin_seen {x : Str} (h : ∀ c ∈ x.cps.toList, IsBin c) : numTextOf x = x.cps.toList ∧ numSeenOf x = x.cps.toList := by
  have e1 : numTextOf x = x.cps.toList := by
    refine if_pos ?_
    rw [← Array.all_toList, List.all_eq_true]
    intro c hc
    have := bin_rng (h c hc)
    exact decide_eq_true (by omega)
  refine ⟨e1, ?_⟩
  show (numTextOf x).takeWhile _ = _
  rw [e1]
  refine takeWhile_all fun c hc => ?_
  have := bin_rng (h c hc)
  exact bne_iff_ne.mpr (by omega)
theorem wp_textB {M : Model} {A : Around} {E : Value → Shared → Prop} {s : Shared} {Q : Value → Shared → Prop} {v : Value} {text : List Nat} {B : Nat} {n : Int}
    (hs : (text.takeWhile (· != 0)).length ≤ 640) (hr : (int_private% "readNumeral") 0 B (text.takeWhile (· != 0)) = (int_private% "Numeral.value") n)
    (ha : ((text.takeWhile (· != 0)).length == text.length) = true) (h : Q (.int n s.toks) { s with toks := s.toks + 1 }) :
    wpAny M A ((int_private% "intFromText") v text B) Q E s := by
  obtain ⟨hp, g, d, tk, os⟩ := s
  repeat (any_goals (first
    | assumption
    | (with_reducible refine wpAny_ite_true (decide_eq_true hs) ?_)
    | (with_reducible refine wpAny_ite_true (decide_eq_true ha) ?_)
    | wp_step))
  all_goals (try rw [hr])
  all_goals (try dsimp only)
  repeat (any_goals (first
    | assumption
    | (with_reducible refine wpAny_ite_true (decide_eq_true hs) ?_)
    | (with_reducible refine wpAny_ite_true (decide_eq_true ha) ?_)
    | wp_step))
structure Hid (p : Prop) : Prop where
  out : p
set_option maxHeartbeats 4000000 in
theorem gives_bin {x : PySem.Str} {u t : Tok} (hl : x.length ≤ 640) (h : ∀ c ∈ x.cps.toList, IsBin c) (hne : x.cps.toList ≠ []) :
    Gives (Builtin.«int.__new__» ⟨[.type "int", .str x u, .int 2 t], []⟩) (.int ((binNum x.cps.toList : Nat) : Int)) :=
  .of_wp fun M A E s Q hQ => by
    obtain ⟨hp, g, d, tk, os⟩ := s
    have f1 := F.conv_sub_int
    have f2 := F.madeHere_int
    have f6 : typeOf (.str x u) = pure (.type "str") := rfl
    obtain ⟨e1, e2⟩ := bin_seen h
    have hs : (numSeenOf x).length ≤ 640 := by
      rw [e2, Array.length_toList]
      exact hl
    have hr : (int_private% "readNumeral") 0 2 (numSeenOf x) = (int_private% "Numeral.value") ((binNum x.cps.toList : Nat) : Int) := by
      rw [e2]
      exact bin_read h hne
    have ha : ((numSeenOf x).length == (numTextOf x).length) = true := by
      rw [e1, e2]
      exact beq_self_eq_true _
    have hk := Hid.mk (And.intro hs (And.intro hr ha))
    clear hs hr ha e1 e2 hl hne h
    repeat (any_goals (first
      | assumption
      | ((with_reducible show wpAny _ _ ((int_private% "intFromText") _ _ _) _ _ _); refine wp_textB hk.out.1 hk.out.2.1 hk.out.2.2 ?_)
      | wp_step))
    all_goals first | exact ⟨_, rfl, hQ⟩ | skip
theorem typeCall_int_2 (a b : Value) : checkTypeCall "int" ⟨[a, b], []⟩ = pure () := by kernel_rfl
theorem newCall_int_2 (a b : Value) : checkBuiltinCall "int.__new__" ⟨[.type "int", a, b], []⟩ = pure () := by kernel_rfl
theorem call_bin {prog : Program} {w : World} {A : Around} {E : Value → Shared → Prop} {s : Shared} {Q : Value → Shared → Prop} {x : PySem.Str} {u t : Tok} (hl : x.length ≤ 640) (h : ∀ c ∈ x.cps.toList, IsBin c) (hne : x.cps.toList ≠ [])
    (hQ : Q (.int ((binNum x.cps.toList : Nat) : Int) s.toks) { s with toks := s.toks + 1 }) : wpAny (model prog w) A (call (.type "int") [.str x u, .int 2 t]) Q E s :=
  callType_new F.called_int F.newNe_int (typeCall_int_2 _ _) (newCall_int_2 _ _) (fun obj => F.initArgs_range_2 obj _ _) F.entry_int_new (gives_bin hl h hne).meets (show (Made.int ((binNum x.cps.toList : Nat) : Int)).post _ s from ⟨rfl, hQ⟩)
/-- int(t, 2) -/
def rIntBin : List V → Hp → VK → Prop := fun xs H Q => ∃ x : Str, xs = [.str x, .int 2] ∧ x.cps.toList ≠ [] ∧ x.length ≤ 640 ∧ (∀ c ∈ x.cps.toList, IsBin c) ∧ Q (.int ((binNum x.cps.toList : Nat) : Int)) H
theorem call_int_bin {X : Cx} : CallR X (.type "int") rIntBin := by
  intro pins s σ H xs us Q I r h
  obtain ⟨x, rfl, hne, hl, hx, q⟩ := h
  obtain ⟨u, w', rfl, r1, r2⟩ := vals2 r
  obtain ⟨t1, rfl⟩ := r1
  obtain ⟨t2, rfl⟩ := r2
  exact call_bin hl hx hne ⟨.int ((binNum x.cps.toList : Nat) : Int), H, I.tok _, ⟨_, rfl⟩, q⟩
end Cw
set_option Elab.async false
set_option linter.all false
set_option maxRecDepth 100000
/-! zip of two texts -/
namespace Cw
open PySem PySem.Spec PyProof.Rows L2
/-- two texts sign by sign, the signs in new pairs -/
def Itzs (x y : Str) : It :=
  ⟨fun i _ => i < x.cps.size ∧ i < y.cps.size,
    fun i H v H' => ∃ T c d, v = .ref T ∧ H T = none ∧ H' = upd H T (.tup [.str ⟨#[c]⟩, .str ⟨#[d]⟩]) ∧ x.cps[i]? = some c ∧ y.cps[i]? = some d,
    fun i _ => i ≤ x.cps.size ∧ i ≤ y.cps.size ∧ (i = x.cps.size ∨ i = y.cps.size)⟩
theorem turn_zips {P : Program} {w : World} {K : PySem.W.Frag} {elts : List Expr} {kk : Nat} {tpos : Pos} {z TI TO i1 i2 : Addr} {x y : Str} {t1 t2 : Tok} (D : ZipSep2 z TI TO i1 i2 [i1] [i2]) :
    Turn P w K (.Tuple elts kk tpos) (Itzs x y) [z, TI, TO, i1, i2] z (fun i h => IsZip h z TI TO .none ∧ IsPair h TI (.ref i1) (.ref i2) ∧ (∃ u v, IsPair h TO u v) ∧ h.IsStrIter i1 (strIterType x) x t1 i ∧ h.IsStrIter i2 (strIterType y) y t2 i) where
  mem := by simp
  obj := fun i h st c hc => by
    obtain ⟨hz, hTI, ⟨u, v, hTO⟩, ⟨o1, e1, _, d1⟩, ⟨o2, e2, _, d2⟩⟩ := st
    have e' : c = z ∨ c = TI ∨ c = TO ∨ c = i1 ∨ c = i2 := by simpa using hc
    rcases e' with q | q | q | q | q
    · rw [q]; exact ⟨_, hz, fun v q => nomatch q⟩
    · rw [q]; exact ⟨_, hTI, fun v q => nomatch q⟩
    · rw [q]; exact ⟨_, hTO, fun v q => nomatch q⟩
    · rw [q]; exact ⟨o1, e1, fun v q => by rw [d1] at q; cases q⟩
    · rw [q]; exact ⟨o2, e2, fun v q => by rw [d2] at q; cases q⟩
  keep := fun i h h' st k => by
    obtain ⟨hz, hTI, ⟨u, v, hTO⟩, ⟨o1, e1, r1⟩, ⟨o2, e2, r2⟩⟩ := st
    exact ⟨k z (by simp) _ hz, k TI (by simp) _ hTI, ⟨u, v, k TO (by simp) _ hTO⟩, ⟨o1, k i1 (by simp) _ e1, r1⟩, ⟨o2, k i2 (by simp) _ e2, r2⟩⟩
  item := by
    intro X hP hw hK hc i pins s σ H E I hf st hg
    subst hP hw hK
    obtain ⟨hz, hTI, ⟨u0, v0, hTO⟩, h1, h2⟩ := st
    obtain ⟨l1, l2⟩ := hg
    have hh : X.A.in1.handled = none := I.ok.hd hc
    have hzl : z < s.heap.objs.size := Heap.lt_size hz
    refine wpAny_pyNext_zipD2_item D (Draws.text hh i1 x t1) (Draws.text hh i2 y t2) hz hTI hTO h1 h2 l1 l2 fun x1 x2 h' tk p1 p2 z' TO' h1' h2' hT hsz hk => ?_
    obtain ⟨c, u, hc1, rfl⟩ := p1
    obtain ⟨d, v, hc2, rfl⟩ := p2
    refine ⟨_, rfl, wpAny_letOwnedTupleGo_zip (s := { s with heap := h', toks := tk }) z' fun h'' z'' sb => ?_⟩
    have hT2 : h''.get? s.heap.objs.size = some { cls := .type "tuple", data := .seq #[.str ⟨#[c]⟩ u, .str ⟨#[d]⟩ v] } := (sb.2 _ (Nat.ne_of_gt hzl)).trans hT
    have new : ObjOk X.prog X.w (upd H s.heap.objs.size (.tup [.str ⟨#[c]⟩, .str ⟨#[d]⟩])) h'' s.heap.objs.size (.tup [.str ⟨#[c]⟩, .str ⟨#[d]⟩]) :=
      ⟨by show 2 ≤ sizeLine; decide, [.str ⟨#[c]⟩ u, .str ⟨#[d]⟩ v], .cons ⟨u, rfl⟩ (.cons ⟨v, rfl⟩ .nil), ⟨_, hT2, rfl, _, rfl⟩⟩
    have I1 : Inv X pins σ (upd H s.heap.objs.size (.tup [.str ⟨#[c]⟩, .str ⟨#[d]⟩])) { s with heap := h'', toks := tk } :=
      I.turnedNew (t' := tk) (ch := [z, TI, TO, i1, i2]) (fun c o hb q => (sb.2 c (fun q' => hb (by simp [q']))).trans (hk c o (fun q' => hb (by simp [q'])) (fun q' => hb (by simp [q'])) (fun q' => hb (by simp [q'])) (fun q' => hb (by simp [q'])) q)) hf (Nat.le_refl _) new
    refine ⟨.ref s.heap.objs.size, _, I1, rfl, ⟨_, c, d, rfl, I.hok.fresh (Nat.le_refl _), rfl, hc1, hc2⟩, ⟨z'', ?_, ⟨.str ⟨#[c]⟩ u, .str ⟨#[d]⟩ v, ?_⟩, ?_, ?_⟩, fun c hcm => ?_⟩
    · exact (sb.2 _ D.TIz).trans (hk _ _ D.TIz D.TITO D.TIi1 D.TIi2 hTI)
    · exact (sb.2 _ D.TOz).trans TO'
    · obtain ⟨o1, e1, r1⟩ := h1'
      exact ⟨o1, (sb.2 _ D.zi1.symm).trans e1, r1⟩
    · obtain ⟨o2, e2, r2⟩ := h2'
      exact ⟨o2, (sb.2 _ D.zi2.symm).trans e2, r2⟩
    · have hlt : c < s.heap.objs.size := by
        have e' : c = z ∨ c = TI ∨ c = TO ∨ c = i1 ∨ c = i2 := by simpa using hcm
        rcases e' with q | q | q | q | q
        · rw [q]; exact hzl
        · rw [q]; exact Heap.lt_size hTI
        · rw [q]; exact Heap.lt_size hTO
        · rw [q]; obtain ⟨_, e1, _⟩ := h1; exact Heap.lt_size e1
        · rw [q]; obtain ⟨_, e2, _⟩ := h2; exact Heap.lt_size e2
      rw [upd_ne (Nat.ne_of_lt hlt)]
      exact (hf c hcm).1
  done := by
    intro X hP hw hK hc i pins s σ H E I hf st hg
    subst hP hw hK
    obtain ⟨hz, hTI, ⟨u0, v0, hTO⟩, h1, h2⟩ := st
    obtain ⟨l1, l2, he⟩ := hg
    have hh : X.A.in1.handled = none := I.ok.hd hc
    exact wpAny_pyNext_zipD2_end D (Draws.text hh i1 x t1) (Draws.text hh i2 y t2) hz hTI hTO h1 h2 l1 l2 he fun h' tk hk => ⟨rfl, I.turnedL (t' := tk) (ch := [z, TI, TO, i1, i2]) (fun c o hb q =>
      hk c o (fun q' => hb (by simp [q'])) (fun q' => hb (by simp [q'])) (fun q' => hb (by simp [q'])) (fun q' => hb (by simp [q'])) q) hf⟩
  self := fun A i s Q E st h => wpAny_pyIter_zip st.1 h
theorem zs_apart (I : Nat) : ZipSep2 (I + 4) (I + 2) (I + 3) I (I + 1) [I] [I + 1] where
  TIz := by show (I + 2 : Nat) ≠ (I + 4 : Nat); omega
  TOz := by show (I + 3 : Nat) ≠ (I + 4 : Nat); omega
  TITO := by show (I + 2 : Nat) ≠ (I + 3 : Nat); omega
  TIi1 := by show (I + 2 : Nat) ≠ (I : Nat); omega
  mem1 := by simp
  zf1 := by simp
  Tf1 := by simp
  TIi2 := by show (I + 2 : Nat) ≠ (I + 1 : Nat); omega
  mem2 := by simp
  zf2 := by simp
  Tf2 := by simp
  sep1_2 := by simp
  sep2_1 := by simp
def iZips (ta : TA) : TI := fun σ H R => ta σ H fun vs H1 => ∃ x y : Str, vs = [.str x, .str y] ∧ R (Itzs x y) H1
theorem pi_zips {X : Cx} {e e2 : Expr} {ta : TA} {p pos tpos : Pos} {elts : List Expr} {kk : Nat} (hg : Gl X "zip") (hm : X.mg "zip" = none) (ha : PA X [e, e2] ta)
    (hs : starEach [e, e2] X.env = (false, eval e X.env) :: starEach [e2] X.env := by rfl) (hpl : (backTo pos (starEach [e2] X.env)).any (·.1) = false := by rfl) :
    PI X (.Tuple elts kk tpos) (.Call (.Name "zip" p) [e, e2] [] pos) (iZips ta) := by
  refine ⟨fun pins s σ H R I h => ?_⟩
  refine Call_ (ld_blt I hg hm PyProof.Rows.boot_zip (PyProof.Rows.callWith_type1 (thn (ha.run pos pins s σ H _ I h) fun us s1 ⟨vs, H1, I1, r1, q1⟩ => ?_) hs hpl))
  obtain ⟨x, y, ex, q⟩ := q1
  subst ex
  obtain ⟨u, v, rfl, ru, rv⟩ := vals2 r1
  obtain ⟨t1, rfl⟩ := ru
  obtain ⟨t2, rfl⟩ := rv
  refine zip_begins2 (begins_text x t1) (begins_text y t2) trivial trivial fun h' hz hTI hTO h1 h2 hsz hk => wpAny_pyIter_zip hz ?_
  have I2 : Inv X pins σ H1 { s1 with heap := h' } := I1.kept (t' := s1.toks) hk
  refine ⟨s1.heap.objs.size + 4, [s1.heap.objs.size + 4, s1.heap.objs.size + 2, s1.heap.objs.size + 3, s1.heap.objs.size, s1.heap.objs.size + 1], _, _, H1, rfl, I2, turn_zips (x := x) (y := y) (t1 := t1) (t2 := t2) (zs_apart s1.heap.objs.size), ⟨hz, hTI, ⟨_, _, hTO⟩, ⟨_, h1, rfl, rfl⟩, ⟨_, h2, rfl, rfl⟩⟩, fun c hcm => ?_, q⟩
  have e' : c = s1.heap.objs.size + 4 ∨ c = s1.heap.objs.size + 2 ∨ c = s1.heap.objs.size + 3 ∨ c = s1.heap.objs.size ∨ c = s1.heap.objs.size + 1 := by simpa using hcm
  have hle : s1.heap.objs.size ≤ c := by
    rcases e' with z | z | z | z | z
    · rw [z]; exact Nat.le_add_right _ _
    · rw [z]; exact Nat.le_add_right _ _
    · rw [z]; exact Nat.le_add_right _ _
    · rw [z]; exact Nat.le_refl _
    · rw [z]; exact Nat.le_add_right _ _
  exact I1.fpOk hle (I1.hok.fresh hle)
theorem walk_zips {x y : Str} (h : x.cps.size = y.cps.size) : Walk (Itzs x y) x.cps.size (fun _ => True)
    (fun i H v H' => ∃ T c d, v = .ref T ∧ H T = none ∧ H' = upd H T (.tup [.str ⟨#[c]⟩, .str ⟨#[d]⟩]) ∧ x.cps[i]? = some c ∧ y.cps[i]? = some d) :=
  ⟨fun i _ hi _ => ⟨hi, h ▸ hi⟩, fun _ _ => ⟨Nat.le_refl _, Nat.le_of_eq h, .inl rfl⟩, fun _ _ _ _ _ _ q => q⟩
end Cw
set_option Elab.async false
set_option linter.all false
set_option maxRecDepth 100000
set_option maxHeartbeats 2000000
/-! all(x in y for x in e): e a text, y a captured text -/
namespace Cw
open PySem PySem.Spec PyProof.Rows L2 GxR
theorem clo_cm {cells : List (Str × Addr)} {names : List (Str × NameKind)} (hfree : ∀ y ∈ names, y.2 = .free → ∃ c, cells.lookup y.1 = some c) {y : Str} {c : Addr} (e : (cloFrom cells names []).lookup y = some c) : cells.lookup y = some c := by
  have hm : (y, c) ∈ cloFrom cells names [] := by
    obtain ⟨l1, l2, h, _⟩ := List.lookup_eq_some_iff.mp e
    rw [h]
    simp
  rcases cloFrom_mem hm with h | ⟨h1, h2⟩
  · cases h
  · obtain ⟨c', hc'⟩ := hfree _ h1 rfl
    rw [h2, hc'] <;> rfl
theorem clo_has {cells : List (Str × Addr)} {names : List (Str × NameKind)} (hfree : ∀ y ∈ names, y.2 = .free → ∃ c, cells.lookup y.1 = some c) {y : Str} {c : Addr} (hy : (y, NameKind.free) ∈ names) (hc : cells.lookup y = some c) : (cloFrom cells names []).lookup y = some c := by
  obtain ⟨c1, h1⟩ := mem_lookup (cloFrom_has (cells := cells) (acc := []) hy)
  have e := clo_cm hfree h1
  rw [hc] at e
  cases e
  exact h1
/-- the element: a test of the sign c, and of the text z that y holds -/
def EltC (prog : Program) (w : World) (scope : Scope) (cl : List (Str × Addr)) (x : Str) (elt : Expr) (y : Str) (z : Str) (pb : Nat → Bool) : Prop :=
  ∀ (cenv : Env) (A' : Around) (E' : Value → Shared → Prop) (c : Nat) (t : Tok) (s₂ : Shared) (m₂ : Str → Option Value) (c1 : Addr) (tz : Tok), cenv.scope = scope → cenv.cells = cl → cl.lookup y = some c1 → s₂.heap.IsCell c1 (some (.str z tz)) → s₂.heap.Ns cenv.locals m₂ → m₂ x = some (.str ⟨#[c]⟩ t) →
    wpAny (model prog w) A' (eval elt cenv) (fun v s₃ => v = .bool (pb c) ∧ Keeps s₂ s₃) E' s₂
/-- x in y -/
theorem elt_in {prog : Program} {w : World} {scope : Scope} {cl : List (Str × Addr)} {x y z : Str} {p1 p2 p3 : Pos} (hk : scope.kind = .function) (hl : scope.names.lookup x = some .local) (hy : scope.names.lookup y = some .free)
    (hd : (x == ("__debug__" : Str)) = false := by decide) (hd2 : (y == ("__debug__" : Str)) = false := by decide) (hcd : (y == ("__classdict__" : Str)) = false := by decide) :
    EltC prog w scope cl x (.Compare (.Name x p1) [.In] [.Name y p2] p3) y z (fun c => decide (c ∈ z.cps.toList)) := by
  intro cenv A' E' c t s₂ m₂ c1 tz hs hcl hlk hcell hn hm
  refine wpAny_Compare1 ?_
  refine wpAny_Name (wpAny_loadName_local (by rw [hs]; exact hk) (show cenv.scope.names.lookup x = some .local by rw [hs]; exact hl) hn hm ?_) hd
  refine wpAny_Name (wpAny_loadName_free (by rw [hs]; exact hk) (show cenv.scope.names.lookup y = some .free by rw [hs]; exact hy) (by rw [hcl]; exact hlk) hcell ?_ hcd) hd2
  refine PyProof.Rows.in_str ⟨?_, keeps_refl _⟩
  rw [PySem.StrLaws.found_one z c]
section
variable {X : Cx} {pins : List (Addr × Obj)} {σ : L2.St} {H : Hp} {s : Shared}
/-- the code record c, its table at P: ready for a generator expression; what the table may become -/
theorem tab_two {P : Addr} {ps more : Array Value} {s1 s' : Shared} {wr : List Addr} {G : Array GenState → Array GenState → Prop} {s5 : Shared} (I1 : Inv X pins σ H s1) (hP : H P = some (.tbl ps)) (ht : TriplesOk (ps ++ more).toList)
    (mv : Moved wr G s5 s') (old : ∀ b u, b ≠ P → s1.heap.get? b = some u → s5.heap.get? b = some u) (tab : s5.heap.get? P = some { cls := .none, data := .fields (ps ++ more) }) (bare : AllBare s'.gens) (os : s5.os = s1.os)
    (out : ∀ b u, s1.heap.get? b = some u → b ∉ wr) : ∃ H2, Tabbed P H H2 ∧ Inv X pins σ H2 s' := by
  have at1 : s1.heap.get? P = some { cls := .none, data := .fields ps } := I1.hok P _ hP
  have J := inv_tab (more := more) (h' := s'.heap) (g' := s'.gens) (d' := s'.drawn) (t' := s'.toks) I1 hP (fun b u hb e => mv.heap b u (out b u e) (old b u hb e)) (mv.heap P _ (out P _ at1) tab) bare
  rw [sh_eta s1 s' (mv.os.trans os)] at J
  exact ⟨_, ⟨⟨_, upd_same, ht⟩, fun b hb => upd_ne hb⟩, J⟩
/-- what a walk over the signs of a asks of the element, told once -/
theorem quiet_in {scope : Scope} {cl : List (Str × Addr)} {code : Value} {bi C : Addr} {env : Env} {x y z a : Str} {p1 p2 p3 : Pos} {tz : Tok} {c1 it : Addr} {oc : Obj} {h3 href : Heap} {prog : Program} {w : World}
    (he : EltC prog w scope cl x (.Compare (.Name x p1) [.In] [.Name y p2] p3) y z fun c => decide (c ∈ z.cps.toList)) (hcl : cl.lookup y = some c1) (ho : h3.get? c1 = some oc) (hd : oc.data = .cell (some (.str z tz))) (hne : c1 ≠ it)
    (hr : ∀ b u, h3.get? b = some u → href.get? b = some u) :
    QuietGen prog w (genEnv scope cl C code bi env) x [] (.Compare (.Name x p1) [.In] [.Name y p2] p3) (List.range h3.objs.size) [it] (SignAt a) (fun _ => true)
      (fun i v => ∃ c, a.cps[i]? = some c ∧ v = .bool (decide (c ∈ z.cps.toList))) href where
  tests := by
    intro A' E' i v s2 m2 _ _ _ _ _
    rw [List.forIn_nil]
    exact wpAny_pure ⟨rfl, keeps_refl _⟩
  elt := by
    intro A' E' i v s2 m2 _ hv _ hn hm kp
    obtain ⟨c, t, hc, rfl⟩ := hv
    have q : s2.heap.get? c1 = some oc := kp c1 (List.mem_range.mpr (Heap.lt_size ho)) (fun m => hne (List.mem_singleton.mp m)) oc (hr c1 oc ho)
    exact wpAny_mono (he _ A' E' c t s2 m2 c1 tz rfl rfl hcl ⟨oc, q, hd⟩ hn hm) (fun _ _ r => ⟨⟨c, hc, r.1⟩, r.2⟩) fun _ _ r => r
/-- the generator itself, made -/
theorem gen_in {c P : Addr} {iter : Expr} {x y z : Str} {px p1 p2 p3 gpos : Pos} {scope : Scope} {te : TE} {k j : Nat} {Q' : Value → Shared → Prop} {R : Str → Hp → Prop}
    (hr : Room k X.A) (TB : TabB X.base X.mg c P) (hcode : X.env.code = .ref c) (S : GenS X.env scope x) (hi : PE X iter te) (hN : X.N[j]? = some y) (hcy : X.env.scope.names.lookup y = some .cell) (hyf : (y, NameKind.free) ∈ scope.names)
    (he : EltC X.prog X.w scope (cloFrom X.env.cells scope.names []) x (.Compare (.Name x p1) [.In] [.Name y p2] p3) y z fun c => decide (c ∈ z.cps.toList))
    (hs : ∀ v, genFold iter X.env v = pure v) (I : Inv X pins σ H s) (hz : σ[j]? = some (some (.str z))) (h : te σ H fun v H1 => ∃ a : Str, v = .str a ∧ TabG H1 P ∧ R a H1)
    (hQ : ∀ a H1 g s5, R a H1 → Ready X pins σ H1 P a (fun c => decide (c ∈ z.cps.toList)) g s5 → Q' (.ref g) s5) :
    wpAny (model X.prog X.w) X.A (eval (.GeneratorExp (.Compare (.Name x p1) [.In] [.Name y p2] p3) [⟨.Name x px, iter, [], 0⟩] scope gpos) X.env) Q' X.xe s := by
  have deep := hr.dp
  refine wpAny_GeneratorExp_walksQ hr.hd S.co (closure_ok S.free) S.cell S.dot S.loc S.kind (by omega) (thn (hi.run pins s σ H _ I h) fun xv s1 ⟨v, H1, I1, r1, a, ea, ⟨ps, hP, ht⟩, q1⟩ => ?_) hs
  subst ea
  obtain ⟨t, rfl⟩ := r1
  -- where y is held
  obtain ⟨m1, hn1, hl1⟩ := I1.loc
  obtain ⟨_, ⟨tz, rfl⟩, lk⟩ := hl1 j y (.str z) hN hz (.inr (.inl hcy))
  obtain ⟨c1, hc1, oc, hoc, hcd⟩ : ∃ c1, X.env.cells.lookup y = some c1 ∧ ∃ oc, s1.heap.get? c1 = some oc ∧ oc.data = .cell (some (.str z tz)) := by
    rcases lk with ⟨hk0, _⟩ | ⟨_, c1, hc1, oc, hoc, hcd⟩
    · cases hcy.symm.trans hk0
    · exact ⟨c1, hc1, oc, hoc, hcd⟩
  have eP : s1.heap.get? P = some { cls := .none, data := .fields ps } := I1.hok P _ hP
  have nP : c1 ≠ P := fun q => by
    rw [q, eP] at hoc
    cases hoc
    cases hcd
  have cl1 : cStatics < s1.heap.objs.size := let ⟨_, hns, _⟩ := I1.nolimit; hns.lt
  have cP : cStatics ≠ P := fun e => by
    obtain ⟨_, ⟨o', es, ep, ho, hd, _⟩, _⟩ := I1.nolimit
    rw [e, eP] at ho
    cases ho
    cases hd
  refine wpAny_pyIter_str fun o St W hst => ?_
  have lim : (s1.heap.push o).NoLimit := I1.nolimit.push o
  have eP2 : (s1.heap.push o).get? P = some { cls := .none, data := .fields ps } := Heap.get?_push_of_some _ eP
  have cd : PySem.W.CodeHd (s1.heap.push o) c P := TB.code.keeps fun b u e => Heap.get?_push_of_some _ (I1.bk b u e)
  have szo : (s1.heap.push o).objs.size = s1.heap.objs.size + 1 := Heap.size_push ..
  -- behind the code object, whichever it is
  suffices cont : ∀ (code : Value) (h3 : Heap) (tk : Nat) (more : Array Value), Heap.ExtBut P (s1.heap.push o) h3 → (s1.heap.push o).objs.size ≤ h3.objs.size → h3.get? P = some { cls := .none, data := .fields (ps ++ more) } → TriplesOk (ps ++ more).toList →
      wpAny (model X.prog X.w) X.A (builtinsFor X.env.globals X.env.builtins) (fun bi s4 =>
        ∃ Ia fp wr n0 Pf St0 pz F, Value.ref s1.heap.objs.size = .ref Ia ∧ (∀ A' : Around, A'.handled = none → Walks X.prog X.w A' Ia fp wr n0 Pf St0) ∧ St0 0 s4.heap ∧ (∀ b ∈ fp, b < s4.heap.objs.size) ∧ s4.heap.NoLimit ∧ cStatics ∉ wr ∧
          (∀ href : Heap, (∀ b u, s4.heap.get? b = some u → href.get? b = some u) →
            QuietGen X.prog X.w (genEnv scope (cloFrom X.env.cells scope.names []) s4.heap.objs.size code bi X.env) x [] (.Compare (.Name x p1) [.In] [.Name y p2] p3) (List.range s4.heap.objs.size) wr Pf pz F href) ∧
          (∀ g h5 tk gs, gs.bare = true → s4.heap.objs.size < g → h5.objs.size = g + 1 → (∀ b u, s4.heap.get? b = some u → h5.get? b = some u) →
            WalksS X.prog X.w X.A.in4 g (g :: s4.heap.objs.size :: List.range s4.heap.objs.size) (s4.heap.objs.size :: wr) (GenOnlyQ s4.gens.size) (passing pz n0 0).length
              (fun j v => ∃ i, (passing pz n0 0)[j]? = some i ∧ F i v) (GenAt X.prog X.w X.A.in4 g s4.gens.size s4.heap.objs.size (List.range s4.heap.objs.size) wr pz n0 F) →
            GenAt X.prog X.w X.A.in4 g s4.gens.size s4.heap.objs.size (List.range s4.heap.objs.size) wr pz n0 F 0 { s4 with gens := s4.gens.push gs, toks := tk, heap := h5 } →
            Q' (.ref g) { s4 with gens := s4.gens.push gs, toks := tk, heap := h5 })) X.xe { s1 with heap := h3, toks := tk } by
    refine ⟨lim, ?_⟩
    cases hf : codeAmong gpos ps.toList with
    | none =>
      refine wpAny_genexprCodeX hcode (cd.code eP2 ht) (cd.tab eP2) hf fun c' h' tk hx hge hlt hco' _ htab' _ => ?_
      obtain ⟨_, _, _, _, _, _, _, _, _, _, _, _, _, _, _, _, _, _, _, htr, _⟩ := hco'
      exact cont _ h' tk _ hx (Nat.le_trans hge (Nat.le_of_lt hlt)) htab'.2 htr
    | some cv =>
      refine wpAny_genexprCode_hit hcode (cd.code eP2 ht) hf (cont cv _ s1.toks #[] (Heap.ExtBut.refl _ _) (Nat.le_refl _) ?_ ?_)
      · rw [Array.append_empty]
        exact eP2
      · rw [Array.append_empty]
        exact ht
  intro code h3 tk more hx hsz eP3 ht3
  have old : ∀ b u, b ≠ P → s1.heap.get? b = some u → h3.get? b = some u := fun b u hb e => hx b u hb (Heap.get?_push_of_some _ e)
  obtain ⟨bm, ob, e1, e2, _, e4, e5, e6, e7, e8⟩ := TB.bm
  refine wpAny_builtinsFor (m := X.mg) (by rw [I1.ok.glob]; exact ((I1.mod.glob.keeps I1.bk).push o).extBut hx TB.gP) e1 e2 (old _ _ e4 (I1.bk _ _ e5)) e6 e7 e8 ?_
  refine ⟨s1.heap.objs.size, [s1.heap.objs.size], [s1.heap.objs.size], a.cps.size, SignAt a, St, fun _ => true, _, rfl, W, ?_, ?_, lim.extBut hx cP, ?_, fun href kp => quiet_in he (clo_has S.free hyf hc1) (old c1 oc nP hoc) hcd (Nat.ne_of_lt (Heap.lt_size hoc)) kp, ?_⟩
  · refine (W X.A hr.hd).frame _ _ _ hst fun b hb u e => hx b u (fun q => ?_) e
    have e9 : b = s1.heap.objs.size := List.mem_singleton.mp hb
    exact Nat.ne_of_lt (Heap.lt_size eP) (q.symm.trans e9)
  · intro b hb
    have e9 : b = s1.heap.objs.size := List.mem_singleton.mp hb
    rw [e9]
    show s1.heap.objs.size < h3.objs.size
    omega
  · intro hb
    have e9 : cStatics = s1.heap.objs.size := List.mem_singleton.mp hb
    exact Nat.ne_of_lt cl1 e9
  · intro g h5 tk5 gs hgb hag hsz5 hk5 W5 hat
    simp only [GxR.passing_true, List.length_range] at W5
    have hlt : s1.heap.objs.size < h3.objs.size := by omega
    have out : ∀ b u, s1.heap.get? b = some u → b ∉ h3.objs.size :: [s1.heap.objs.size] := fun b u e hb => by
      have l1 := Heap.lt_size e
      rcases List.mem_cons.mp hb with q | q
      · rw [q] at l1
        exact Nat.lt_irrefl _ (Nat.lt_trans l1 hlt)
      · have e9 : b = s1.heap.objs.size := List.mem_singleton.mp q
        rw [e9] at l1
        exact Nat.lt_irrefl _ l1
    refine hQ a H1 g _ q1 ⟨_, _, _, _, _, W5.in4_1, hat, fun i v si Qi Ei hv hQi => ?_, fun s' mv => ?_⟩
    · obtain ⟨i', hii, cc, hcc, rfl⟩ := hv
      obtain ⟨hj, ej⟩ := List.getElem?_eq_some_iff.mp hii
      rw [List.getElem_range] at ej
      subst ej
      have q : Qi (trF _ a.cps.toList i) si := hQi
      rw [trF_some ((Array.getElem?_toList ..).trans hcc)] at q
      exact wpAny_truthy_bool q
    · exact tab_two I1 hP ht3 mv (fun b u hb e => hk5 b u (old b u hb e)) (hk5 P _ eP3) (AllBare.movedS (I1.bare.push hgb) mv) rfl out
/-- all(x in y for x in e); behind it the table of the def may have grown -/
def tAllIn (P : Addr) (j : Nat) (te : TE) : TE := fun σ H Q => ∃ z : Str, σ[j]? = some (some (.str z)) ∧ te σ H fun v H1 => ∃ a : Str, v = .str a ∧ TabG H1 P ∧ ∀ H2, Tabbed P H1 H2 → Q (.bl (a.cps.toList.all fun c => decide (c ∈ z.cps.toList))) H2
theorem pe_allIn {c P : Addr} {iter : Expr} {x y : Str} {px p p1 p2 p3 pos gpos : Pos} {scope : Scope} {te : TE} {k j : Nat}
    (hr : Room k X.A) (hg : Gl X "all") (hm : X.mg "all" = none) (hb : bootBuiltins "all" = some (.builtin "all")) (TB : TabB X.base X.mg c P) (hcode : X.env.code = .ref c) (S : GenS X.env scope x) (hi : PE X iter te)
    (hN : X.N[j]? = some y) (hcy : X.env.scope.names.lookup y = some .cell) (hyf : (y, NameKind.free) ∈ scope.names) (hy : scope.names.lookup y = some .free)
    (hd : (x == ("__debug__" : Str)) = false := by decide) (hd2 : (y == ("__debug__" : Str)) = false := by decide) (hcd : (y == ("__classdict__" : Str)) = false := by decide)
    (hs : ∀ v, genFold iter X.env v = pure v)
    (he : starEach [.GeneratorExp (.Compare (.Name x p1) [.In] [.Name y p2] p3) [⟨.Name x px, iter, [], 0⟩] scope gpos] X.env = (false, eval (.GeneratorExp (.Compare (.Name x p1) [.In] [.Name y p2] p3) [⟨.Name x px, iter, [], 0⟩] scope gpos) X.env) :: starEach [] X.env := by rfl) :
    PE X (.Call (.Name "all" p) [.GeneratorExp (.Compare (.Name x p1) [.In] [.Name y p2] p3) [⟨.Name x px, iter, [], 0⟩] scope gpos] [] pos) (tAllIn P j te) := by
  refine ⟨fun pins s σ H Q I h => ?_⟩
  obtain ⟨z, hz, h⟩ := h
  refine wpAny_Call_Name_kw (ld_blt I hg hm hb ?_)
  refine PyProof.Rows.callWith_builtin1 ?_ he (by rfl)
  rw [he]
  show wpAny _ _ (spliced ((false, eval (.GeneratorExp (.Compare (.Name x p1) [.In] [.Name y p2] p3) [⟨.Name x px, iter, [], 0⟩] scope gpos) X.env) :: backTo pos (starEach [] X.env))) _ _ s
  refine Calls.spliced_cons (gen_in (R := fun a H1 => ∀ H2, Tabbed P H1 H2 → Q (.bl (a.cps.toList.all fun c => decide (c ∈ z.cps.toList))) H2) hr TB hcode S hi hN hcy hyf (elt_in S.kind S.loc hy hd hd2 hcd) hs I hz h fun a H1 g s5 hR hG => ?_)
  obtain ⟨fp, wr, G, F, St, W, hst, htr, hI⟩ := hG
  refine Calls.spliced_nil ?_
  refine call_all_walkS (W.self 0 _ _ _ hst ⟨g, fp, wr, G, _, F, St, _, rfl, W, hst, htr, fun s' hmv => ?_⟩)
  obtain ⟨H2, hT, J⟩ := hI s' hmv
  refine ⟨.bl _, H2, J, rfl, ?_⟩
  rw [all_signs a _]
  exact hR H2 hT
end
end Cw
set_option Elab.async false
set_option linter.all false
set_option maxRecDepth 100000
set_option maxHeartbeats 2000000
/-! What an expression is worth, over a heap that may grow: texts by their signs -/
namespace Cw
open PySem PySem.Spec PyProof.Rows L2
open GxR (TabG Tabbed TabB)

/-! ### texts by their signs -/
def S (l : List Nat) : Str := ⟨l.toArray⟩
abbrev sv (l : List Nat) : V := .str (S l)
theorem S_len (l : List Nat) : (S l).length = l.length := by
  show l.toArray.size = l.length
  simp
theorem S_list (l : List Nat) : (S l).cps.toList = l := rfl
theorem S_size (l : List Nat) : (S l).cps.size = l.length := by
  show l.toArray.size = l.length
  simp
theorem S_get (l : List Nat) (i : Nat) : (S l).cps[i]? = l[i]? := by
  show l.toArray[i]? = l[i]?
  simp
theorem S_app (a b : List Nat) : S a ++ S b = S (a ++ b) := by
  show (⟨a.toArray ++ b.toArray⟩ : Str) = ⟨(a ++ b).toArray⟩
  simp
theorem S_inj {a b : List Nat} : S a = S b ↔ a = b := by
  constructor
  · intro h
    have e : (S a).cps.toList = (S b).cps.toList := by rw [h]
    exact e
  · intro h
    rw [h]
theorem S_of (x : Str) : x = S x.cps.toList := by
  cases x
  rfl
theorem sv_inj {a b : List Nat} : (sv a = sv b) ↔ a = b := by
  constructor
  · intro h
    injection h with h
    exact S_inj.mp h
  · intro h
    rw [h]
theorem sv_dec (a b : List Nat) : decide (sv a = sv b) = decide (a = b) := by
  by_cases h : a = b
  · rw [decide_eq_true h, decide_eq_true (sv_inj.mpr h)]
  · rw [decide_eq_false h, decide_eq_false fun q => h (sv_inj.mp q)]

/-! ### the heap -/
/-- what may change, and what holds of it -/
structure Fm where
  at_ : Addr → Prop
  ok : Hp → Prop
  loc : ∀ {H H' : Hp}, ok H → (∀ a, at_ a → H' a = H a) → ok H'
  has : ∀ {H : Hp} {a : Addr}, ok H → at_ a → ∃ o, H a = some o
instance : Membership Addr Fm := ⟨fun F a => F.at_ a⟩
def Good (Ts : Fm) (H : Hp) : Prop := Ts.ok H
/-- P holds a table of code objects -/
structure TabIn (Ts : Fm) (P : Addr) : Prop where
  mem : P ∈ Ts
  tab : ∀ {H}, Good Ts H → TabG H P
  upd : ∀ {H H'}, Good Ts H → Tabbed P H H' → Good Ts H'
def Tb (Tt : List Addr) (Ts : Fm) : Prop := ∀ P ∈ Tt, TabIn Ts P
structure Ex (Ts : Fm) (H H' : Hp) : Prop where
  keep : ∀ a o, a ∉ Ts → H a = some o → H' a = some o
  good : Good Ts H'
/-- the tables alone -/
def Fm.tabs (Tt : List Addr) : Fm where
  at_ a := a ∈ Tt
  ok H := ∀ P ∈ Tt, TabG H P
  loc g h P m := by
    obtain ⟨ps, e, t⟩ := g P m
    exact ⟨ps, by rw [h P m]; exact e, t⟩
  has g m := by
    obtain ⟨ps, e, t⟩ := g _ m
    exact ⟨_, e⟩
theorem tb_tabs (Tt : List Addr) : Tb Tt (Fm.tabs Tt) := fun P hP => ⟨hP, fun g => g P hP, fun {H H'} g t Q hQ => by
  by_cases h : Q = P
  · rw [h]
    exact t.1
  · obtain ⟨ps, e, q⟩ := g Q hQ
    exact ⟨ps, by rw [t.2 Q h]; exact e, q⟩⟩
/-- some more, at ms, of which J tells -/
def Fm.plus (F : Fm) (ms : Addr → Prop) (J : Hp → Prop) (loc : ∀ {H H' : Hp}, J H → (∀ a, ms a → H' a = H a) → J H') (has : ∀ {H : Hp} {a : Addr}, J H → ms a → ∃ o, H a = some o) : Fm where
  at_ a := F.at_ a ∨ ms a
  ok H := F.ok H ∧ J H
  loc g h := ⟨F.loc g.1 fun a m => h a (.inl m), loc g.2 fun a m => h a (.inr m)⟩
  has g m := by
    rcases m with m | m
    · exact F.has g.1 m
    · exact has g.2 m
section
variable {Ts : Fm} {H H1 H2 H' : Hp} {p : Addr} {o : HO} {K : PySem.W.Frag}
theorem Ex.refl (g : Good Ts H) : Ex Ts H H := ⟨fun _ _ _ e => e, g⟩
theorem Ex.trans (a : Ex Ts H H1) (b : Ex Ts H1 H2) : Ex Ts H H2 := ⟨fun x u n e => b.keep x u n (a.keep x u n e), b.good⟩
theorem Good.free (g : Good Ts H) (h : H p = none) : p ∉ Ts := fun m => by
  obtain ⟨o, e⟩ := Ts.has g m
  rw [h] at e
  cases e
theorem Good.upd (g : Good Ts H) (n : p ∉ Ts) : Good Ts (upd H p o) := Ts.loc g fun a m => upd_ne fun q => n (by rw [← q]; exact m)
theorem Ex.new (g : Good Ts H) (h : H p = none) : Ex Ts H (upd H p o) := by
  refine ⟨fun a u _ e => ?_, g.upd (g.free h)⟩
  rw [upd_ne (ne_of_none e h)]
  exact e
theorem Ex.mut (e : Ex Ts H H') (n : p ∉ Ts) (h : H p = none) : Ex Ts H (upd H' p o) := by
  refine ⟨fun a u m q => ?_, e.good.upd n⟩
  rw [upd_ne (ne_of_none q h)]
  exact e.keep a u m q
theorem Ex.tabbed (g : Good Ts H) (hp : TabIn Ts p) (t : Tabbed p H H') : Ex Ts H H' := by
  refine ⟨fun a u n e => ?_, hp.upd g t⟩
  rw [t.2 a fun q => n (by rw [q]; exact hp.mem)]
  exact e
theorem Ex.back (e : Ex Ts H H') (h : H' p = none) : H p = none := by
  cases q : H p with
  | none => rfl
  | some u =>
    by_cases m : p ∈ Ts
    · obtain ⟨o, z⟩ := Ts.has e.good m
      rw [h] at z
      cases z
    · rw [e.keep p u m q] at h
      cases h
theorem Ex.rd (n : p ∉ Ts) (e : Ex Ts H H') (h : Rd H p o) : Rd H' p o := by
  rcases h with h | ⟨u, h⟩
  · exact .inl (e.keep p _ n h)
  · exact .inr ⟨u, e.keep p _ n h⟩
theorem Ex.l {xs : List V} (n : p ∉ Ts) (e : Ex Ts H H') (h : SqL K H p xs) : SqL K H' p xs := by
  rcases h with h | h
  · exact .inl (e.rd n h)
  · exact .inr h
theorem Ex.t {xs : List V} (n : p ∉ Ts) (e : Ex Ts H H') (h : SqT K H p xs) : SqT K H' p xs := by
  rcases h with h | h
  · exact .inl (e.rd n h)
  · exact .inr h
theorem Tb.plus {Tt : List Addr} {F : Fm} {ms : Addr → Prop} {J : Hp → Prop} {loc : ∀ {H H' : Hp}, J H → (∀ a, ms a → H' a = H a) → J H'} {has : ∀ {H : Hp} {a : Addr}, J H → ms a → ∃ o, H a = some o} (h : Tb Tt F) (n : ∀ a, ms a → a ∉ F) : Tb Tt (F.plus ms J loc has) := fun P hP =>
  ⟨.inl (h P hP).mem, fun g => (h P hP).tab g.1, fun g t => ⟨(h P hP).upd g.1 t, loc g.2 fun a m => t.2 a fun q => n a m (by rw [q]; exact (h P hP).mem)⟩⟩
theorem l_of {xs : List V} (h : H p = some (.lst xs)) : SqL K H p xs := .inl (.inl h)
theorem t_of {xs : List V} (h : H p = some (.tup xs)) : SqT K H p xs := .inl (.inl h)
end

/-! ### what evaluates to what -/
def Ev (Ts : Fm) (te : TE) (σ : L2.St) (H : Hp) (v : V) : Prop := ∀ H1, Ex Ts H H1 → ∀ Q : VK, (∀ H2, Ex Ts H1 H2 → Q v H2) → te σ H1 Q
/-- some new object of which R is told -/
def EvN (Ts : Fm) (te : TE) (σ : L2.St) (H : Hp) (R : HO) : Prop := ∀ H1, Ex Ts H H1 → ∀ Q : VK, (∀ p H2, H1 p = none → Ex Ts H1 H2 → H2 p = some R → Q (.ref p) H2) → te σ H1 Q
def EvT (Ts : Fm) (t : TT) (σ : L2.St) (H : Hp) (b : Bool) : Prop := ∀ H1, Ex Ts H H1 → ∀ Q : Bool → Hp → Prop, (∀ H2, Ex Ts H1 H2 → Q b H2) → t σ H1 Q
def EvA (Ts : Fm) (t : TA) (σ : L2.St) (H : Hp) (vs : List V) : Prop := ∀ H1, Ex Ts H H1 → ∀ Q : List V → Hp → Prop, (∀ H2, Ex Ts H1 H2 → Q vs H2) → t σ H1 Q
def EvO (Ts : Fm) (t : TO) (σ : L2.St) (H : Hp) (o : Option Int) : Prop := ∀ H1, Ex Ts H H1 → ∀ Q : Option Int → Hp → Prop, (∀ H2, Ex Ts H1 H2 → Q o H2) → t σ H1 Q
def RV (Ts : Fm) (r : R2) (x y : V) (H : Hp) (z : V) : Prop := ∀ H1, Ex Ts H H1 → ∀ Q : VK, (∀ H2, Ex Ts H1 H2 → Q z H2) → r x y H1 Q
def RU (Ts : Fm) (r : V → Hp → VK → Prop) (x : V) (H : Hp) (z : V) : Prop := ∀ H1, Ex Ts H H1 → ∀ Q : VK, (∀ H2, Ex Ts H1 H2 → Q z H2) → r x H1 Q
def RC (Ts : Fm) (r : List V → Hp → VK → Prop) (vs : List V) (H : Hp) (z : V) : Prop := ∀ H1, Ex Ts H H1 → ∀ Q : VK, (∀ H2, Ex Ts H1 H2 → Q z H2) → r vs H1 Q
section
variable {Ts : Fm} {K : PySem.W.Frag} {w : World} {σ : L2.St} {H H0 H' : Hp} {ta tb te tx : TE} {t u : TT} {x y z v : V} {r : R2}
theorem Ev.go {Q : VK} (h : Ev Ts te σ H0 v) (e : Ex Ts H0 H) (k : ∀ H2, Ex Ts H0 H2 → Q v H2) : te σ H Q := h H e Q fun H2 e2 => k H2 (e.trans e2)
theorem EvT.go {b : Bool} {Q : Bool → Hp → Prop} (h : EvT Ts t σ H0 b) (e : Ex Ts H0 H) (k : ∀ H2, Ex Ts H0 H2 → Q b H2) : t σ H Q := h H e Q fun H2 e2 => k H2 (e.trans e2)
theorem EvN.go {R : HO} {Q : VK} (h : EvN Ts te σ H0 R) (e : Ex Ts H0 H) (k : ∀ p H2, H0 p = none → p ∉ Ts → Ex Ts H0 H2 → H2 p = some R → Q (.ref p) H2) : te σ H Q :=
  h H e Q fun p H2 n e2 q => k p H2 (e.back n) (e.good.free n) (e.trans e2) q
theorem Ev.mono (e : Ex Ts H H') (h : Ev Ts te σ H v) : Ev Ts te σ H' v := fun H1 a Q q => h H1 (e.trans a) Q q
theorem ev_var {i : Nat} (h : σ[i]? = some (some v)) : Ev Ts (tVar i) σ H v := fun H1 e _ q => ⟨v, h, q H1 (Ex.refl e.good)⟩
theorem ev_c : Ev Ts (tC v) σ H v := fun H1 e _ q => q H1 (Ex.refl e.good)
theorem ev_s {a : Str} {l : List Nat} (h : a = S l) : Ev Ts (tC (.str a)) σ H (sv l) := by
  rw [h]
  exact ev_c
theorem ev_op (ha : Ev Ts ta σ H x) (hb : Ev Ts tb σ H y) (hr : RV Ts r x y H z) : Ev Ts (tOp r ta tb) σ H z := fun H1 e Q q =>
  ha H1 e _ fun H2 e2 => hb H2 (e.trans e2) _ fun H3 e3 => hr H3 ((e.trans e2).trans e3) Q fun H4 e4 => q H4 ((e2.trans e3).trans e4)
theorem ev_is {a : V} (h : Ev Ts te σ H v) (e : v = a) : Ev Ts te σ H a := e ▸ h
theorem et_is {a b : Bool} (h : EvT Ts t σ H a) (e : a = b) : EvT Ts t σ H b := e ▸ h
theorem rv_I0 {g : Int → Int → V} {i j : Int} : RV Ts (rI0 g) (.int i) (.int j) H (g i j) := fun H1 e _ q => ⟨i, j, rfl, rfl, q H1 (Ex.refl e.good)⟩
theorem rv_I {C : Int → Int → Prop} {g : Int → Int → V} {i j : Int} (hc : C i j) : RV Ts (rI C g) (.int i) (.int j) H (g i j) := fun H1 e _ q => ⟨i, j, rfl, rfl, hc, q H1 (Ex.refl e.good)⟩
theorem rv_eq (h : scal x y = true) : RV Ts rEq x y H (.bl (decide (x = y))) := fun H1 e _ q => ⟨h, q H1 (Ex.refl e.good)⟩
theorem rv_ne (h : scal x y = true) : RV Ts rNe x y H (.bl (!decide (x = y))) := fun H1 e _ q => ⟨h, q H1 (Ex.refl e.good)⟩
theorem rv_addS {a b : List Nat} (h : a.length + b.length ≤ 100000) : RV Ts (fun x y H Q => ∃ i j : Str, x = .str i ∧ y = .str j ∧ i.length + j.length ≤ sizeLine ∧ Q (.str (i ++ j)) H) (sv a) (sv b) H (sv (a ++ b)) := fun H1 e _ q =>
  ⟨S a, S b, rfl, rfl, by rw [S_len, S_len]; exact Nat.le_trans h (by decide), by rw [S_app]; exact q H1 (Ex.refl e.good)⟩
theorem rv_inS {c : Nat} {a : List Nat} : RV Ts (fun x y H Q => ∃ (c : Nat) (z : Str), x = .str ⟨#[c]⟩ ∧ y = .str z ∧ Q (.bl (decide (c ∈ z.cps.toList))) H) (sv [c]) (sv a) H (.bl (decide (c ∈ a))) := fun H1 e _ q =>
  ⟨c, S a, rfl, rfl, q H1 (Ex.refl e.good)⟩
theorem rv_niS {c : Nat} {a : List Nat} : RV Ts (fun x y H Q => ∃ (c : Nat) (z : Str), x = .str ⟨#[c]⟩ ∧ y = .str z ∧ Q (.bl (!decide (c ∈ z.cps.toList))) H) (sv [c]) (sv a) H (.bl (!decide (c ∈ a))) := fun H1 e _ q =>
  ⟨c, S a, rfl, rfl, q H1 (Ex.refl e.good)⟩
theorem rv_ixS {a : List Nat} {i : Int} {c : Nat} (hl : a.length ≤ 100000) (h : atI a i = some c) : RV Ts rIxS (sv a) (.int i) H (sv [c]) := fun H1 e _ q =>
  ⟨S a, i, c, rfl, rfl, by rw [S_len]; exact Nat.le_trans hl (by decide), h, q H1 (Ex.refl e.good)⟩
theorem rv_ixL {p : Addr} {xs : List V} {i : Int} (g : p ∉ Ts) (h : SqL K H p xs) (ha : atI xs i = some v) : RV Ts (rIxL K) (.ref p) (.int i) H v := fun H1 e _ q =>
  ⟨p, xs, i, v, rfl, rfl, e.l g h, ha, q H1 (Ex.refl e.good)⟩
theorem rv_kd {p : Addr} {a : List Nat} (h : KDct K w p (S a) v) : RV Ts (rIxD K w) (.ref p) (sv a) H v := fun H1 e _ q => ⟨p, S a, v, rfl, rfl, h, q H1 (Ex.refl e.good)⟩
theorem et_test {b : Bool} (h : Ev Ts te σ H (.bl b)) : EvT Ts (tTest te) σ H b := fun H1 e _ q => h H1 e _ fun H2 e2 => ⟨b, rfl, q H2 e2⟩
theorem et_B {b : Bool} (h : Ev Ts te σ H (.bl b)) : EvT Ts (tB te) σ H b := fun H1 e _ q => h H1 e _ fun H2 e2 => ⟨b, rfl, q H2 e2⟩
theorem et_and {a b : Bool} (h1 : EvT Ts t σ H a) (h2 : a = true → EvT Ts u σ H b) : EvT Ts (tAnd t u) σ H (a && b) := fun H1 e Q q => h1 H1 e _ fun H2 e2 => by
  cases a with
  | true => exact h2 rfl H2 (e.trans e2) Q fun H3 e3 => q H3 (e2.trans e3)
  | false => exact q H2 e2
theorem et_or {a b : Bool} (h1 : EvT Ts t σ H a) (h2 : a = false → EvT Ts u σ H b) : EvT Ts (tOr t u) σ H (a || b) := fun H1 e Q q => h1 H1 e _ fun H2 e2 => by
  cases a with
  | true => exact q H2 e2
  | false => exact h2 rfl H2 (e.trans e2) Q fun H3 e3 => q H3 (e2.trans e3)
theorem et_not {a : Bool} (h1 : EvT Ts t σ H a) : EvT Ts (tNot t) σ H (!a) := fun H1 e _ q => h1 H1 e _ fun H2 e2 => q H2 e2
theorem ev_and {a b : Bool} (h1 : Ev Ts ta σ H (.bl a)) (h2 : a = true → Ev Ts tb σ H (.bl b)) : Ev Ts (tAndV ta tb) σ H (.bl (a && b)) := fun H1 e Q q => h1 H1 e _ fun H2 e2 => ⟨a, rfl, by
  cases a with
  | true => exact h2 rfl H2 (e.trans e2) Q fun H3 e3 => q H3 (e2.trans e3)
  | false => exact q H2 e2⟩
theorem ev_not {a : Bool} (h1 : Ev Ts ta σ H (.bl a)) : Ev Ts (tNotV ta) σ H (.bl (!a)) := fun H1 e _ q => h1 H1 e _ fun H2 e2 => ⟨a, rfl, q H2 e2⟩
theorem ev_if {b : Bool} (h : EvT Ts t σ H b) (h1 : b = true → Ev Ts ta σ H v) (h2 : b = false → Ev Ts tb σ H v) : Ev Ts (tIf t ta tb) σ H v := fun H1 e Q q => h H1 e _ fun H2 e2 => by
  cases b with
  | true => exact h1 rfl H2 (e.trans e2) Q fun H3 e3 => q H3 (e2.trans e3)
  | false => exact h2 rfl H2 (e.trans e2) Q fun H3 e3 => q H3 (e2.trans e3)
theorem ea_nil : EvA Ts tNil σ H [] := fun H1 e _ q => q H1 (Ex.refl e.good)
theorem ea_cons {tr : TA} {vs : List V} (h : Ev Ts ta σ H x) (hr : EvA Ts tr σ H vs) : EvA Ts (tCons ta tr) σ H (x :: vs) := fun H1 e _ q =>
  h H1 e _ fun H2 e2 => hr H2 (e.trans e2) _ fun H3 e3 => q H3 (e2.trans e3)
theorem eo_none : EvO Ts tNoPart σ H none := fun H1 e _ q => q H1 (Ex.refl e.good)
theorem eo_some {i : Int} (h : Ev Ts te σ H (.int i)) : EvO Ts (tPart te) σ H (some i) := fun H1 e _ q => h H1 e _ fun H2 e2 => ⟨i, rfl, q H2 e2⟩
theorem en_tup {tr : TA} {vs : List V} (h : EvA Ts tr σ H vs) (hl : vs.length ≤ 100000) : EvN Ts (tTup tr) σ H (.tup vs) := fun H1 e _ q =>
  h H1 e _ fun H2 e2 => ⟨Nat.le_trans hl (by decide), fun p hp => q p _ (e2.back hp) (e2.trans (Ex.new e2.good hp)) upd_same⟩
theorem en_lst {tr : TA} {vs : List V} (h : EvA Ts tr σ H vs) (hl : vs.length ≤ 100000) : EvN Ts (tLst tr) σ H (.lst vs) := fun H1 e _ q =>
  h H1 e _ fun H2 e2 => ⟨Nat.le_trans hl (by decide), fun p hp => q p _ (e2.back hp) (e2.trans (Ex.new e2.good hp)) upd_same⟩
theorem en_slL {tl th : TO} {a : Addr} {xs : List V} {lo hi : Option Int} (g : a ∉ Ts) (h : Ev Ts te σ H (.ref a)) (h1 : EvO Ts tl σ H lo) (h2 : EvO Ts th σ H hi) (hs : SqL K H a xs) : EvN Ts (tSl (rSlL K) te tl th) σ H (.lst (cutV xs lo hi)) := fun H1 e _ q =>
  h H1 e _ fun H2 e2 => h1 H2 (e.trans e2) _ fun H3 e3 => h2 H3 ((e.trans e2).trans e3) _ fun H4 e4 =>
    ⟨a, xs, rfl, (((e.trans e2).trans e3).trans e4).l g hs, fun p hp => q p _ (((e2.trans e3).trans e4).back hp) (((e2.trans e3).trans e4).trans (Ex.new e4.good hp)) upd_same⟩
theorem ev_slS {tl th : TO} {a b : List Nat} {lo hi : Option Int} (hl : a.length ≤ 100000) (h : Ev Ts te σ H (sv a)) (h1 : EvO Ts tl σ H lo) (h2 : EvO Ts th σ H hi) (hb : cutS (S a) lo hi = S b) : Ev Ts (tSl rSlS te tl th) σ H (sv b) := fun H1 e _ q =>
  h H1 e _ fun H2 e2 => h1 H2 (e.trans e2) _ fun H3 e3 => h2 H3 ((e.trans e2).trans e3) _ fun H4 e4 =>
    ⟨S a, rfl, by rw [S_len]; exact Nat.le_trans hl (by decide), by rw [hb]; exact q H4 ((e2.trans e3).trans e4)⟩
theorem ev_cb {r : List V → Hp → VK → Prop} {tr : TA} {vs : List V} (h : EvA Ts tr σ H vs) (hr : RC Ts r vs H z) : Ev Ts (tCB r tr) σ H z := fun H1 e Q q =>
  h H1 e _ fun H2 e2 => hr H2 (e.trans e2) Q fun H3 e3 => q H3 (e2.trans e3)
theorem rc_lenS {a : List Nat} (h : a.length ≤ 100000) : RC Ts (fun xs H Q => ∃ z : Str, xs = [.str z] ∧ z.length ≤ sizeLine ∧ Q (.int z.length) H) [sv a] H (.int (a.length : Int)) := fun H1 e _ q =>
  ⟨S a, rfl, by rw [S_len]; exact Nat.le_trans h (by decide), by rw [S_len]; exact q H1 (Ex.refl e.good)⟩
theorem rc_lenL {p : Addr} {xs : List V} (g : p ∉ Ts) (h : SqL K H p xs) : RC Ts (fun vs H Q => ∃ (p : Addr) (ys : List V), vs = [.ref p] ∧ (SqL K H p ys ∨ SqT K H p ys) ∧ Q (.int (ys.length : Nat)) H) [.ref p] H (.int (xs.length : Int)) := fun H1 e _ q =>
  ⟨p, xs, rfl, .inl (e.l g h), q H1 (Ex.refl e.good)⟩
theorem rc_max {i j : Int} : RC Ts (fun xs H Q => ∃ i j : Int, xs = [.int i, .int j] ∧ Q (.int (if j > i then j else i)) H) [.int i, .int j] H (.int (if j > i then j else i)) := fun H1 e _ q => ⟨i, j, rfl, q H1 (Ex.refl e.good)⟩
theorem rc_abs {i : Int} : RC Ts (fun xs H Q => ∃ i : Int, xs = [.int i] ∧ Q (.int (if i < 0 then -i else i)) H) [.int i] H (.int (if i < 0 then -i else i)) := fun H1 e _ q => ⟨i, rfl, q H1 (Ex.refl e.good)⟩
theorem rc_intI {i : Int} : RC Ts (fun xs H Q => (∃ i, xs = [V.int i] ∧ Q (.int i) H) ∨ ∃ k, xs = [V.bl k] ∧ Q (.int (if k then 1 else 0)) H) [.int i] H (.int i) := fun H1 e _ q => .inl ⟨i, rfl, q H1 (Ex.refl e.good)⟩
theorem rc_intB {k : Bool} : RC Ts (fun xs H Q => (∃ i, xs = [V.int i] ∧ Q (.int i) H) ∨ ∃ k, xs = [V.bl k] ∧ Q (.int (if k then 1 else 0)) H) [.bl k] H (.int (if k then 1 else 0)) := fun H1 e _ q => .inr ⟨k, rfl, q H1 (Ex.refl e.good)⟩
theorem rc_bin {a : List Nat} (h0 : a ≠ []) (h1 : a.length ≤ 640) (h2 : ∀ c ∈ a, IsBin c) : RC Ts rIntBin [sv a, .int 2] H (.int ((binNum a : Nat) : Int)) := fun H1 e _ q =>
  ⟨S a, rfl, h0, by rw [S_len]; exact h1, h2, q H1 (Ex.refl e.good)⟩
theorem ev_allIn {P : Addr} {j : Nat} {a b : List Nat} (hP : TabIn Ts P) (hj : σ[j]? = some (some (sv b))) (h : Ev Ts te σ H (sv a)) : Ev Ts (tAllIn P j te) σ H (.bl (a.all fun c => decide (c ∈ b))) := fun H1 e Q q =>
  ⟨S b, hj, h H1 e _ fun H2 e2 => ⟨S a, rfl, hP.tab e2.good, fun H3 t => q H3 (e2.trans (Ex.tabbed e2.good hP t))⟩⟩
theorem ev_find {K : PySem.W.Frag} {a b : List Nat} {to : TE} {ts : TE} {n : Int} (ho : Ev Ts to σ H (sv a)) (hs : Ev Ts ts σ H (sv b)) (hn : (Txt.find (S a) (S b) : Int) = n) (ty : ∀ H, tyV K "str" (sv a) H) :
    Ev Ts (tBM K "str" (fun x xs H Q => ∃ a b : Str, x = .str a ∧ xs = [.str b] ∧ Q (.int (Txt.find a b)) H) to (tCons ts tNil)) σ H (.int n) := fun H1 e Q q =>
  ho H1 e _ fun H2 e2 => ⟨ty H2, hs H2 (e.trans e2) _ fun H3 e3 => ⟨S a, S b, rfl, rfl, by rw [hn]; exact q H3 (e2.trans e3)⟩⟩
end

/-! ### promises -/
/-- from x of α: the arguments, what is asked, what is told of the answer -/
def FnS (Tt : List Addr) {α : Type} (enc : α → List V) (dom : Fm → α → Hp → Prop) (R : Fm → α → V → Hp → Prop) : Sp := fun vs H Q _ => ∃ (Ts : Fm) (_ : Tb Tt Ts) (x : α), vs = enc x ∧ dom Ts x H ∧ Good Ts H ∧ ∀ v H', Ex Ts H H' → R Ts x v H' → Q v H'
/-- the answer is a value -/
def FnV (Tt : List Addr) {α : Type} (enc : α → List V) (dom : α → Prop) (res : α → V) : Sp := fun vs H Q _ => ∃ (Ts : Fm) (_ : Tb Tt Ts) (x : α), vs = enc x ∧ dom x ∧ Good Ts H ∧ ∀ H', Ex Ts H H' → Q (res x) H'
/-- the answer is a new object -/
def FnN (Tt : List Addr) {α : Type} (enc : α → List V) (dom : Fm → α → Hp → Prop) (R : α → HO) : Sp := fun vs H Q _ => ∃ (Ts : Fm) (_ : Tb Tt Ts) (x : α), vs = enc x ∧ dom Ts x H ∧ Good Ts H ∧ ∀ p H', H p = none → Ex Ts H H' → H' p = some (R x) → Q (.ref p) H'
section
variable {Tt : List Addr} {Ts : Fm} {σ : L2.St} {H : Hp} {E : XK} {tr : TA} {α : Type} {enc : α → List V} {domV : α → Prop} {dom : Fm → α → Hp → Prop} {res : α → V} {R : α → HO}
theorem ev_call (x : α) (h : EvA Ts tr σ H (enc x)) (hd : domV x) (hTb : Tb Tt Ts := by assumption) : Ev Ts (tCall (FnV Tt enc domV res) [] E tr) σ H (res x) := fun H1 e Q q =>
  h H1 e _ fun H2 e2 => ⟨Ts, hTb, x, List.append_nil _, hd, e2.good, fun H3 e3 => q H3 (e2.trans e3)⟩
theorem en_call (x : α) (h : EvA Ts tr σ H (enc x)) (hd : ∀ H2, Ex Ts H H2 → dom Ts x H2) (hTb : Tb Tt Ts := by assumption) : EvN Ts (tCall (FnN Tt enc dom R) [] E tr) σ H (R x) := fun H1 e Q q =>
  h H1 e _ fun H2 e2 => ⟨Ts, hTb, x, List.append_nil _, hd H2 (e.trans e2), e2.good, fun p H3 n e3 => q p H3 (e2.back n) (e2.trans e3)⟩
end

/-! ### steps of a body -/
section
variable {Ts : Fm} {σ : L2.St} {H H0 : Hp} {D : Ends} {te : TE} {tc : TT} {t1 t2 : TS} {v : V} {i : Nat}
theorem st_ret (h : Ev Ts te σ H0 v) (e : Ex Ts H0 H) (k : ∀ H2, Ex Ts H0 H2 → D.rt v H2) : tRet te D σ H := h.go e k
theorem st_set (h : Ev Ts te σ H0 v) (e : Ex Ts H0 H) (k : ∀ H2, Ex Ts H0 H2 → D.nx (σ.set i (some v)) H2) : tAsg te (gName i) D σ H := h.go e k
theorem st_if {b : Bool} (h : EvT Ts tc σ H0 b) (e : Ex Ts H0 H) (k1 : ∀ H2, Ex Ts H0 H2 → b = true → t1 D σ H2) (k2 : ∀ H2, Ex Ts H0 H2 → b = false → t2 D σ H2) : tIfS tc t1 t2 D σ H := h.go e fun H2 e2 => by
  cases b with
  | true => exact k1 H2 e2 rfl
  | false => exact k2 H2 e2 rfl
end
end Cw
set_option Elab.async false
set_option linter.all false
set_option maxRecDepth 100000
set_option maxHeartbeats 2000000
/-! texts times numbers, joined; comprehensions and loops over texts, pairs of texts, lists -/
namespace Cw
open PySem PySem.Spec PyProof.Rows L2
open GxR (TabG Tabbed TabB)

/-! ### a sign times a number -/
theorem rep_fold (c : Nat) : ∀ (n : Nat) (acc : Array Nat), (List.replicate n (#[c] : Array Nat)).foldl (· ++ ·) acc = acc ++ (List.replicate n c).toArray
  | 0, acc => by simp
  | n + 1, acc => by
    rw [List.replicate_succ, List.foldl_cons, rep_fold c n, List.replicate_succ]
    apply Array.toList_inj.mp
    simp
def rMulS : R2 := fun x y H Q => ∃ (c : Nat) (n : Int), x = .str ⟨#[c]⟩ ∧ y = .int n ∧ -100000 ≤ n ∧ n ≤ 100000 ∧ Q (sv (List.replicate n.toNat c)) H
theorem op_mulS {X : Cx} : OpR X (binaryOp .Mult) rMulS := by
  intro pins s σ H x y v u Q I rx ry h
  obtain ⟨c, n, rfl, rfl, h0, h1, q⟩ := h
  obtain ⟨t, rfl⟩ := rx
  obtain ⟨t', rfl⟩ := ry
  have hl : ((⟨#[c]⟩ : Str).length) = 1 := rfl
  refine PySem.P.mul_str ?_ ?_ ?_ ?_
  · rw [decide_eq_false (show ¬ n < -(2 ^ 63 : Int) by omega), decide_eq_false (show ¬ n ≥ 2 ^ 63 by omega)]
    rfl
  · intro a _
    rw [hl]
    have q1 : (1 : Int) ≤ (2 ^ 63 - 1) / n := (Int.le_ediv_iff_mul_le (show (0 : Int) < n by omega)).mpr (by omega)
    intro b
    have b' : (1 : Int) > (2 ^ 63 - 1) / n := b
    omega
  · intro a _
    rw [hl]
    unfold Builtin.Str.tooLong
    refine decide_eq_false ?_
    have e : sizeLine = sizeLine := rfl
    have z : (100000 : Nat) ≤ sizeLine := by decide
    omega
  · by_cases a : n < 1
    · rw [if_pos a]
      have e : n.toNat = 0 := by omega
      rw [e] at q
      exact ⟨by decide, .str (S []), H, I.tok _, ⟨_, rfl⟩, q⟩
    · rw [if_neg a]
      by_cases b : (n == 1 || (⟨#[c]⟩ : Str).length == 0) = true
      · rw [if_pos b]
        have e1 : n = 1 := by
          rw [hl] at b
          rcases Bool.or_eq_true_iff.mp b with b | b
          · exact beq_iff_eq.mp b
          · exact absurd b (by decide)
        subst e1
        exact ⟨.str ⟨#[c]⟩, H, I, ⟨_, rfl⟩, q⟩
      · rw [if_neg b, rep_fold]
        have e : (#[] : Array Nat) ++ (List.replicate n.toNat c).toArray = (List.replicate n.toNat c).toArray := Array.empty_append
        refine ⟨?_, .str (S (List.replicate n.toNat c)), H, I.tok _, ⟨_, by rw [e]; rfl⟩, q⟩
        show (((#[] : Array Nat) ++ (List.replicate n.toNat c).toArray).size) ≤ sizeLine
        rw [e, List.size_toArray, List.length_replicate]
        have z : (100000 : Nat) ≤ sizeLine := by decide
        omega
section
variable {Ts : Fm} {K : PySem.W.Frag} {w : World} {σ : L2.St} {H H0 H' : Hp} {ta tb te ti : TE} {t u : TT} {x y z v : V} {r : R2}
theorem rv_mulS {c : Nat} {n : Int} (h0 : -100000 ≤ n) (h1 : n ≤ 100000) : RV Ts rMulS (sv [c]) (.int n) H (sv (List.replicate n.toNat c)) := fun H1 e _ q => ⟨c, n, rfl, rfl, h0, h1, q H1 (Ex.refl e.good)⟩

/-! ### texts joined -/
theorem join_nil : ∀ ls : List (List Nat), Txt.join (S []) (ls.map S) = S ls.flatten := by
  have aux : ∀ ls : List (List Nat), Str.join (S []) (ls.map S) = S ls.flatten := by
    intro ls
    induction ls with
    | nil => rfl
    | cons a r ih =>
      cases r with
      | nil =>
        show S a = S ([a] : List (List Nat)).flatten
        simp
      | cons b r =>
        show S a ++ S [] ++ Str.join (S []) ((b :: r).map S) = _
        rw [ih, S_app, S_app]
        simp
  intro ls
  show Builtin.Str.glued (S []) (ls.map S) = _
  rw [StrLaws.glued_eq_join]
  exact aux ls
theorem map_sv (ls : List (List Nat)) : (ls.map S).map V.str = ls.map sv := by
  rw [List.map_map]
  rfl
theorem len_sum (ls : List (List Nat)) : ((ls.map S).map (·.length)).sum = ls.flatten.length := by
  rw [List.length_flatten, List.map_map]
  exact congrArg List.sum (List.map_congr_left fun a _ => S_len a)
theorem ev_join {ls : List (List Nat)} {to te : TE} (ho : Ev Ts to σ H (sv [])) (h : EvN Ts te σ H (.lst (ls.map sv))) (hl : ls.flatten.length ≤ 100000) (ty : ∀ H, tyV K "str" (sv []) H) :
    Ev Ts (tBM K "str" (fun x xs H Q => ∃ a p, ∃ ys : List Str, x = .str a ∧ xs = [.ref p] ∧ (SqL K H p (ys.map V.str) ∨ SqT K H p (ys.map V.str)) ∧ (ys.map (·.length)).sum + ys.length * a.length ≤ 16777216 ∧ Q (.str (Txt.join a ys)) H) to (tCons te tNil))
      σ H (sv ls.flatten) := fun H1 e Q q =>
  ho H1 e _ fun H2 e2 => ⟨ty H2, h H2 (e.trans e2) _ fun p H3 n e3 hp => ⟨S [], p, ls.map S, rfl, rfl, .inl (l_of (by rw [map_sv]; exact hp)), by
    rw [len_sum, S_len]
    show ls.flatten.length + (ls.map S).length * 0 ≤ 16777216
    omega, by
    rw [join_nil]
    exact q H3 (e2.trans e3)⟩⟩

/-! ### comprehensions -/
theorem take_snoc {xs : List V} {i : Nat} {z : V} (h : xs[i]? = some z) : xs.take (i + 1) = xs.take i ++ [z] := by
  rw [List.take_add_one, h]
  rfl
theorem en_lc {wi : TI} {g : TG} {vs : List Nat} {J : It} {n : Nat} {G : Hp → Prop} {Y : Nat → Hp → V → Hp → Prop} {zs : List V} (hz : zs.length = n) (hn : n ≤ 100000) (W : Walk J n G Y)
    (hw : ∀ H1, Ex Ts H H1 → ∀ R : It → Hp → Prop, (∀ H2, Ex Ts H1 H2 → R J H2) → wi σ H1 R) (hG : ∀ H1, Ex Ts H H1 → G H1)
    (hs : ∀ i z, zs[i]? = some z → ∀ H1 x H', Ex Ts H H1 → Y i H1 x H' → ∃ σ2, Ex Ts H1 H' ∧ (∀ Q : L2.St → Hp → Prop, Q σ2 H' → g x (wipe σ vs) H' Q) ∧ wipe σ2 vs = wipe σ vs ∧ Ev Ts te σ2 H z) :
    EvN Ts (tLc wi g tYes te vs) σ H (.lst zs) := fun H1 e1 Q q => by
  refine hw H1 e1 _ fun H2 e2 => ?_
  intro D nD
  have n0 : H D = none := (e1.trans e2).back nD
  have nT : D ∉ Ts := e2.good.free nD
  have zl : (100000 : Nat) < sizeLine := by decide
  refine lc_it W (fun i H' => Ex Ts H1 H' ∧ H' D = some (.lst (zs.take i))) ⟨e2.trans (Ex.new e2.good nD), by rw [upd_same]; rfl⟩ (fun i H' _ p => hG H' (e1.trans p.1)) (fun i x H3 H4 hi p y => ?_) (fun H' p => ?_)
  · have hi' : i < zs.length := by omega
    obtain ⟨σ2, e4, hg, hwp, hev⟩ := hs i zs[i] (List.getElem?_eq_getElem hi') H3 x H4 (e1.trans p.1) y
    refine hg _ ⟨hwp, ?_⟩
    dsimp only [tYes]
    rw [if_pos rfl]
    refine hev H4 ((e1.trans p.1).trans e4) _ fun H5 e5 => ⟨zs.take i, (e4.trans e5).keep D _ nT p.2, ?_, ?_⟩
    · rw [List.length_take]
      omega
    · refine ⟨((p.1.trans e4).trans e5).mut nT (e2.back nD), ?_⟩
      rw [upd_same, take_snoc (List.getElem?_eq_getElem hi')]
  · have h2 := p.2
    rw [List.take_of_length_le (Nat.le_of_eq hz)] at h2
    exact q D H' (e2.back nD) p.1 h2
theorem wipe_one (σ : L2.St) (j : Nat) (x : V) : wipe ((wipe σ [j]).set j (some x)) [j] = wipe σ [j] := by
  show ((σ.set j none).set j (some x)).set j none = σ.set j none
  rw [List.set_set, List.set_set]
/-- [e for c in text] -/
theorem en_lcS {j : Nat} {a : List Nat} {f : Nat → V} (hl : a.length ≤ 100000) (hi : Ev Ts ti σ H (sv a)) (he : ∀ c ∈ a, Ev Ts te ((wipe σ [j]).set j (some (sv [c]))) H (f c)) : EvN Ts (tLc (iStr ti) (gName j) tYes te [j]) σ H (.lst (a.map f)) := by
  refine en_lc (n := (S a).cps.size) (by rw [List.length_map, S_size]) (by rw [S_size]; exact hl) (walk_str (z := S a)) (fun H1 e R k => hi H1 e _ fun H2 e2 => ⟨S a, rfl, k H2 e2⟩) (fun _ _ => trivial) (fun i z hz H1 x H' e y => ?_)
  obtain ⟨rfl, c, hc, rfl⟩ := y
  rw [S_get] at hc
  rw [List.getElem?_map, hc] at hz
  obtain rfl := Option.some.inj hz
  exact ⟨_, Ex.refl e.good, fun Q q => q, wipe_one σ j _, he c (List.mem_of_getElem? hc)⟩
theorem wipe_two (σ : L2.St) (j k : Nat) (x y : V) (h : j ≠ k) : wipe (((wipe σ [j, k]).set j (some x)).set k (some y)) [j, k] = wipe σ [j, k] := by
  show (((((σ.set k none).set j none).set j (some x)).set k (some y)).set k none).set j none = (σ.set k none).set j none
  rw [List.set_set, List.set_set, List.set_comm _ _ h, List.set_set, List.set_set]
/-- [e for a, b in zip(one, two)], texts of one length -/
theorem en_lcZ {j k : Nat} {a b : List Nat} {tb : TE} {f : Nat → Nat → V} (hjk : j ≠ k) (hab : a.length = b.length) (hl : a.length ≤ 100000) (ha : Ev Ts ta σ H (sv a)) (hb : Ev Ts tb σ H (sv b))
    (he : ∀ c d, c ∈ a → d ∈ b → Ev Ts te (((wipe σ [j, k]).set j (some (sv [c]))).set k (some (sv [d]))) H (f c d)) :
    EvN Ts (tLc (iZips (tCons ta (tCons tb tNil))) (gTup K 2 (gCons (gName j) (gCons (gName k) gNil))) tYes te [j, k]) σ H (.lst ((a.zip b).map fun p => f p.1 p.2)) := by
  refine en_lc (n := (S a).cps.size) (by rw [List.length_map, List.length_zip, S_size, hab, Nat.min_self]) (by rw [S_size]; exact hl) (walk_zips (x := S a) (y := S b) (by rw [S_size, S_size]; exact hab))
    (fun H1 e R q => ha H1 e _ fun H2 e2 => hb H2 (e.trans e2) _ fun H3 e3 => ⟨S a, S b, rfl, q H3 (e2.trans e3)⟩) (fun _ _ => trivial) (fun i z hz H1 x H' e y => ?_)
  obtain ⟨T, c, d, rfl, nT, rfl, hc, hd⟩ := y
  rw [S_get] at hc hd
  have hp : (a.zip b)[i]? = some (c, d) := List.getElem?_zip_eq_some.mpr ⟨hc, hd⟩
  rw [List.getElem?_map, hp] at hz
  obtain rfl := Option.some.inj hz
  exact ⟨_, Ex.new e.good nT, fun Q q => ⟨T, [sv [c], sv [d]], rfl, t_of upd_same, rfl, _, _, rfl, _, _, rfl, rfl, q⟩, wipe_two σ j k _ _ hjk, he c d (List.mem_of_getElem? hc) (List.mem_of_getElem? hd)⟩
/-- [e for x in list], the list a new one on the way -/
theorem en_lcN {j : Nat} {xs : List V} {f : V → V} (hl : xs.length ≤ 100000) (hi : EvN Ts ti σ H (.lst xs)) (he : ∀ x ∈ xs, Ev Ts te ((wipe σ [j]).set j (some x)) H (f x)) : EvN Ts (tLc (iList K ti) (gName j) tYes te [j]) σ H (.lst (xs.map f)) := fun H1 e1 Q q => by
  -- the list stands beside what was there
  refine hi H1 e1 _ fun a H2 n2 e2 ha => ?_
  have g2 : Good Ts H2 := e2.good
  have na : a ∉ Ts := e1.good.free n2
  have key : EvN Ts (fun σ H Q => tLc (fun σ H R => R (Itl K a) H) (gName j) tYes te [j] σ H Q) σ H2 (.lst (xs.map f)) := by
    refine en_lc (n := xs.length) (by rw [List.length_map]) hl (walk_list (K := K) (a := a) (xs := xs)) (fun H3 e R k => k H3 (Ex.refl e.good)) (fun H3 e => e.l na (l_of ha)) (fun i z hz H3 x H' e y => ?_)
    obtain ⟨rfl, hx⟩ := y
    rw [List.getElem?_map, hx] at hz
    obtain rfl := Option.some.inj hz
    exact ⟨_, Ex.refl e.good, fun Q q => q, wipe_one σ j _, (he x (List.mem_of_getElem? hx)).mono (e1.trans e2)⟩
  exact ⟨a, rfl, ⟨xs, l_of ha⟩, key H2 (Ex.refl g2) Q fun p H3 n e3 h => q p H3 (e2.back n) (e2.trans e3) h⟩

/-! ### loops -/
/-- for c in text: Pv by the signs taken -/
theorem st_forS {j : Nat} {a : List Nat} {tb : TS} {D : Ends} (hi : Ev Ts ti σ H0 (sv a)) (e0 : Ex Ts H0 H) (Pv : Nat → L2.St → Prop) (h0 : Pv 0 σ)
    (hs : ∀ i c σ H1 (N B : L2.St → Hp → Prop), a[i]? = some c → Pv i σ → Ex Ts H0 H1 → (∀ σ2 H2, Ex Ts H0 H2 → Pv (i + 1) σ2 → N σ2 H2) → tb { D with nx := N, ct := N, bk := D.nx } (σ.set j (some (sv [c]))) H1)
    (hd : ∀ σ H1, Ex Ts H0 H1 → Pv a.length σ → D.nx σ H1) : tFor (iStr ti) (gName j) tb D σ H := by
  refine hi.go e0 fun H2 e2 => ⟨S a, rfl, ?_⟩
  refine for_it (walk_str (z := S a)) (fun i σ H => Ex Ts H0 H ∧ Pv i σ) ⟨e2, h0⟩ (fun _ _ _ _ _ => trivial) (fun i x σ H3 H4 hi p y => ?_) (fun σ H3 p => ?_)
  · obtain ⟨rfl, c, hc, rfl⟩ := y
    rw [S_get] at hc
    exact hs i c σ H4 _ D.nx hc p.2 p.1 fun σ2 H5 e5 p5 => ⟨e5, p5⟩
  · rw [S_size] at p
    exact hd σ H3 p.1 p.2
end
end Cw
set_option Elab.async false
set_option linter.all false
set_option maxRecDepth 100000
set_option maxHeartbeats 2000000
/-! vectors by their signs: what the operators make of them -/
namespace Cw
open PySem PySem.Spec PyProof.Rows L2
def IsB (c : Nat) : Prop := c = 48 ∨ c = 49 ∨ c = 120 ∨ c = 122
def AllB (a : List Nat) : Prop := ∀ c ∈ a, IsB c
structure Vec (a : List Nat) : Prop where
  all : AllB a
  pos : 1 ≤ a.length
  le : a.length ≤ 64
def notB (c : Nat) : Nat := if c = 48 then 49 else if c = 49 then 48 else 120
def andB (a b : Nat) : Nat := if a = 48 ∨ b = 48 then 48 else if a = 49 ∧ b = 49 then 49 else 120
def orB (a b : Nat) : Nat := if a = 49 ∨ b = 49 then 49 else if a = 48 ∧ b = 48 then 48 else 120
def xorB (a b : Nat) : Nat := if (a = 48 ∨ a = 49) ∧ (b = 48 ∨ b = 49) then (if a = b then 48 else 49) else 120
def norm (c : Nat) : Nat := if c = 48 ∨ c = 49 then c else 120
def agB (a b : Nat) : Nat := if a = b ∧ (a = 48 ∨ a = 49) then a else 120
instance (c : Nat) : Decidable (IsB c) := by
  unfold IsB
  infer_instance
theorem isB_not {a : Nat} (ha : IsB a) : IsB (notB a) := by
  rcases ha with rfl | rfl | rfl | rfl <;> decide
theorem isB_and {a b : Nat} (ha : IsB a) (hb : IsB b) : IsB (andB a b) := by
  rcases ha with rfl | rfl | rfl | rfl <;> rcases hb with rfl | rfl | rfl | rfl <;> decide
theorem isB_or {a b : Nat} (ha : IsB a) (hb : IsB b) : IsB (orB a b) := by
  rcases ha with rfl | rfl | rfl | rfl <;> rcases hb with rfl | rfl | rfl | rfl <;> decide
theorem isB_xor {a b : Nat} (ha : IsB a) (hb : IsB b) : IsB (xorB a b) := by
  rcases ha with rfl | rfl | rfl | rfl <;> rcases hb with rfl | rfl | rfl | rfl <;> decide
def wid (a b : List Nat) : Nat := max a.length b.length
def ext (w : Nat) (a : List Nat) : List Nat := List.replicate (w - a.length) 48 ++ a
def exL (a b : List Nat) : List Nat := ext (wid a b) a
def exR (a b : List Nat) : List Nat := ext (wid a b) b
def map2 (f : Nat → Nat → Nat) (a b : List Nat) : List Nat := ((exL a b).zip (exR a b)).map fun p => f p.1 p.2
theorem ext_len {w : Nat} {a : List Nat} (h : a.length ≤ w) : (ext w a).length = w := by
  unfold ext
  rw [List.length_append, List.length_replicate]
  omega
theorem ext_all {w : Nat} {a : List Nat} (h : AllB a) : AllB (ext w a) := by
  intro c hc
  rcases List.mem_append.mp hc with q | q
  · rw [List.eq_of_mem_replicate q]
    exact .inl rfl
  · exact h c q
theorem exL_len (a b : List Nat) : (exL a b).length = wid a b := ext_len (Nat.le_max_left _ _)
theorem exR_len (a b : List Nat) : (exR a b).length = wid a b := ext_len (Nat.le_max_right _ _)
theorem ex_eq (a b : List Nat) : (exL a b).length = (exR a b).length := by rw [exL_len, exR_len]
theorem wid_le {a b : List Nat} (ha : a.length ≤ 64) (hb : b.length ≤ 64) : wid a b ≤ 64 := Nat.max_le.mpr ⟨ha, hb⟩
theorem map2_len (f : Nat → Nat → Nat) (a b : List Nat) : (map2 f a b).length = wid a b := by
  unfold map2
  rw [List.length_map, List.length_zip, exL_len, exR_len, Nat.min_self]
theorem map2_vec {f : Nat → Nat → Nat} (hf : ∀ a b, IsB a → IsB b → IsB (f a b)) {a b : List Nat} (ha : Vec a) (hb : Vec b) : Vec (map2 f a b) := by
  refine ⟨fun c hc => ?_, ?_, ?_⟩
  · obtain ⟨p, hp, rfl⟩ := List.mem_map.mp hc
    obtain ⟨x, y⟩ := p
    have q := List.of_mem_zip hp
    exact hf x y (ext_all ha.all x q.1) (ext_all hb.all y q.2)
  · rw [map2_len]
    exact Nat.le_trans ha.pos (Nat.le_max_left _ _)
  · rw [map2_len]
    exact wid_le ha.le hb.le
theorem vec_one {c : Nat} (h : IsB c) : Vec [c] := ⟨fun x hx => by rw [List.mem_singleton.mp hx]; exact h, Nat.le_refl _, by show 1 ≤ 64; decide⟩
/-- a fold by one of the tables -/
theorem fold_isB {f : Nat → Nat → Nat} (hf : ∀ a b, IsB a → IsB b → IsB (f a b)) : ∀ {a : List Nat} {e : Nat}, IsB e → AllB a → IsB (a.foldl f e)
  | [], _, he, _ => he
  | c :: r, e, he, ha => by
    show IsB (r.foldl f (f e c))
    exact fold_isB hf (hf e c he (ha c (List.mem_cons_self ..))) fun x hx => ha x (List.mem_cons_of_mem _ hx)
theorem fold_snoc {f : Nat → Nat → Nat} {a : List Nat} {i c : Nat} {e : Nat} (h : a[i]? = some c) : (a.take (i + 1)).foldl f e = f ((a.take i).foldl f e) c := by
  rw [List.take_add_one, h, List.foldl_append]
  rfl
theorem take_isB {f : Nat → Nat → Nat} (hf : ∀ a b, IsB a → IsB b → IsB (f a b)) {a : List Nat} {e : Nat} (he : IsB e) (ha : AllB a) (i : Nat) : IsB ((a.take i).foldl f e) :=
  fold_isB hf he fun x hx => ha x (List.mem_of_mem_take hx)
theorem flat_one {α : Type} (f : α → Nat) (l : List α) : (l.map fun x => [f x]).flatten = l.map f := by
  induction l with
  | nil => rfl
  | cons a r ih =>
    show [f a] ++ (r.map fun x => [f x]).flatten = _
    rw [ih]
    rfl
/-! ### promises of defs of the text -/
/-- a def of the module, its promise kept -/
structure Callee (P : Program) (w : World) (K : PySem.W.Frag) (mg : Str → Option Value) (base : Heap) (x : Str) (k : Nat) (ps : List Str) (sp : Sp) : Prop where
  out : ∃ (f : Addr) (fd : FuncData), FnOk P w K mg base CX0 k f fd ps sp ∧ mg x = some (.ref f) ∧ PySem.W.keepIn K (.ref f) = true ∧ Binds K fd ps []
theorem pe_fn {X : Cx} {x : Str} {k : Nat} {ps : List Str} {sp : Sp} {p pos : Pos} {e : Expr} {es : List Expr} {t : TA} (C : Callee X.prog X.w X.K X.mg X.base x k ps sp) (hr : Room k X.A) (hg : Gl X x) (ha : PA X (e :: es) t)
    (hdb : (x == ("__debug__" : Str)) = false := by decide) (he : starEach (e :: es) X.env = (false, eval e X.env) :: starEach es X.env := by rfl) (hpl : (backTo pos (starEach es X.env)).any (·.1) = false := by rfl) :
    PE X (.Call (.Name x p) (e :: es) [] pos) (tCall sp [] E0 t) := by
  obtain ⟨f, fd, F, hm, hk, hb⟩ := C.out
  exact pe_call F hr hg hm hk hb .nil pass0 ha hdb he hpl
theorem st_retN {Ts : Fm} {σ : L2.St} {H H0 : Hp} {D : Ends} {te : TE} {R : HO} (h : EvN Ts te σ H0 R) (e : Ex Ts H0 H) (k : ∀ p H2, H0 p = none → p ∉ Ts → Ex Ts H0 H2 → H2 p = some R → D.rt (.ref p) H2) : tRet te D σ H := h.go e k
/-- a, b = e: e a new pair -/
theorem st_pair {Ts : Fm} {K : PySem.W.Frag} {σ : L2.St} {H H0 : Hp} {D : Ends} {te : TE} {x y : V} {i j : Nat} (h : EvN Ts te σ H0 (.tup [x, y])) (e : Ex Ts H0 H) (k : ∀ H2, Ex Ts H0 H2 → D.nx ((σ.set i (some x)).set j (some y)) H2) :
    tAsg te (gTup K 2 (gCons (gName i) (gCons (gName j) gNil))) D σ H := h.go e fun p H2 _ _ e2 hp => ⟨p, [x, y], rfl, t_of hp, rfl, _, _, rfl, _, _, rfl, rfl, k H2 e2⟩
theorem ev_strs {Ts : Fm} {K : PySem.W.Frag} {σ : L2.St} {H : Hp} {te : TE} {α : Type} (f : α → Nat) (l : List α) (h : EvN Ts te σ H (.lst (l.map fun x => sv [f x]))) : EvN Ts te σ H (.lst ((l.map fun x => [f x]).map sv)) := by
  rw [List.map_map]
  exact h
end Cw
set_option Elab.async false
set_option linter.all false
set_option maxRecDepth 100000
set_option maxHeartbeats 2000000
/-! lists that grow; loops over them; promises that ask of the heap -/
namespace Cw
open PySem PySem.Spec PyProof.Rows L2
/-- the answer is a value; the heap is asked of -/
def FnL (Tt : List Addr) {α : Type} (enc : α → List V) (dom : Fm → α → Hp → Prop) (res : α → V) : Sp := fun vs H Q _ => ∃ (Ts : Fm) (_ : Tb Tt Ts) (x : α), vs = enc x ∧ dom Ts x H ∧ Good Ts H ∧ ∀ H', Ex Ts H H' → Q (res x) H'
section
variable {Ts : Fm} {K : PySem.W.Frag} {w : World} {σ : L2.St} {H H0 H' : Hp} {ta tb te ti : TE} {tr : TA} {x y z v : V} {D : Ends} {E : XK} {α : Type} {enc : α → List V} {Tt : List Addr} {dom : Fm → α → Hp → Prop} {res : α → V} {R : Fm → α → V → Hp → Prop}
theorem ev_callL (x : α) (h : EvA Ts tr σ H (enc x)) (hd : ∀ H2, Ex Ts H H2 → dom Ts x H2) (hTb : Tb Tt Ts := by assumption) : Ev Ts (tCall (FnL Tt enc dom res) [] E tr) σ H (res x) := fun H1 e Q q =>
  h H1 e _ fun H2 e2 => ⟨Ts, hTb, x, List.append_nil _, hd H2 (e.trans e2), e2.good, fun H3 e3 => q H3 (e2.trans e3)⟩
/-- some value, of which R is told -/
def EvS (Ts : Fm) (te : TE) (σ : L2.St) (H : Hp) (R : V → Hp → Prop) : Prop := ∀ H1, Ex Ts H H1 → ∀ Q : VK, (∀ v H2, Ex Ts H1 H2 → R v H2 → Q v H2) → te σ H1 Q
theorem es_call (x : α) (h : EvA Ts tr σ H (enc x)) (hd : ∀ H2, Ex Ts H H2 → dom Ts x H2) (hTb : Tb Tt Ts := by assumption) : EvS Ts (tCall (FnS Tt enc dom R) [] E tr) σ H (R Ts x) := fun H1 e Q q =>
  h H1 e _ fun H2 e2 => ⟨Ts, hTb, x, List.append_nil _, hd H2 (e.trans e2), e2.good, fun v H3 e3 r => q v H3 (e2.trans e3) r⟩
theorem st_app {i : Nat} {l : Addr} {xs : List V} (hl : σ[i]? = some (some (.ref l))) (h : H l = some (.lst xs)) (nl : l ∉ Ts) (hy : Ev Ts te σ H0 y) (e : Ex Ts H0 H) (hz : xs.length < 100000)
    (k : ∀ H2, Ex Ts H H2 → H2 l = some (.lst xs) → D.nx σ (upd H2 l (.lst (xs ++ [y])))) : tDrop (tBM K "list" rAppend (tVar i) (tCons te tNil)) D σ H :=
  ⟨_, hl, .inl ⟨rfl, _, l_of h⟩, hy H e _ fun H2 e2 => ⟨l, xs, y, rfl, rfl, e2.keep l _ nl h, Nat.lt_trans hz (by decide), k H2 e2 (e2.keep l _ nl h)⟩⟩
theorem st_setN {R : HO} {i : Nat} (h : EvN Ts te σ H R) (g : Good Ts H) (k : ∀ p H2, H p = none → Ex Ts H H2 → H2 p = some R → D.nx (σ.set i (some (.ref p))) H2) : tAsg te (gName i) D σ H := h H (Ex.refl g) _ k
theorem st_setS {R : V → Hp → Prop} {i : Nat} (h : EvS Ts te σ H0 R) (e : Ex Ts H0 H) (k : ∀ v H2, Ex Ts H0 H2 → R v H2 → D.nx (σ.set i (some v)) H2) : tAsg te (gName i) D σ H := h H e _ fun v H2 e2 r => k v H2 (e.trans e2) r
/-- for x in a new list -/
theorem st_forN {j : Nat} {xs : List V} {tb : TS} (h : EvN Ts ti σ H0 (.lst xs)) (e : Ex Ts H0 H) (Pv : Addr → Nat → L2.St → Hp → Prop) (h0 : ∀ a H2, H a = none → Ex Ts H H2 → H2 a = some (.lst xs) → Pv a 0 σ H2)
    (hL : ∀ a i σ H, Pv a i σ H → H a = some (.lst xs))
    (hs : ∀ a i x σ H (N : L2.St → Hp → Prop), xs[i]? = some x → Pv a i σ H → (∀ σ2 H2, Pv a (i + 1) σ2 H2 → N σ2 H2) → tb { D with nx := N, ct := N, bk := D.nx } (σ.set j (some x)) H)
    (hd : ∀ a σ H, Pv a xs.length σ H → D.nx σ H) : tFor (iList K ti) (gName j) tb D σ H := by
  refine h H e _ fun a H2 n e2 ha => ⟨a, rfl, ⟨xs, l_of ha⟩, ?_⟩
  refine for_it (walk_list (K := K) (a := a) (xs := xs)) (Pv a) (h0 a H2 n e2 ha) (fun i σ H _ p => l_of (hL a i σ H p)) (fun i x σ H3 H4 _ p y => ?_) (hd a)
  obtain ⟨rfl, hx⟩ := y
  exact hs a i x σ H4 _ hx p fun σ2 H5 p5 => p5
/-- for k in range(n) -/
theorem st_forR {j n : Nat} {tb : TS} (h : Ev Ts te σ H0 (.int (n : Nat))) (hn : n ≤ 1000000) (e : Ex Ts H0 H) (Pv : Nat → L2.St → Hp → Prop) (h0 : ∀ H2, Ex Ts H H2 → Pv 0 σ H2)
    (hs : ∀ i σ H (N : L2.St → Hp → Prop), i < n → Pv i σ H → (∀ σ2 H2, Pv (i + 1) σ2 H2 → N σ2 H2) → tb { D with nx := N, ct := N, bk := D.nx } (σ.set j (some (.int (i : Nat)))) H)
    (hd : ∀ σ H, Pv n σ H → D.nx σ H) : tFor (iRng1 (tCons te tNil)) (gName j) tb D σ H := by
  refine h H e _ fun H2 e2 => ⟨(n : Int), rfl, by omega, by omega, ?_⟩
  refine for_it (walk_range (lo := 0) (n := ((n : Int)).toNat)) Pv (h0 H2 e2) (fun _ _ _ _ _ => trivial) (fun i x σ H3 H4 hi p y => ?_) (fun σ H p => ?_)
  · obtain ⟨rfl, rfl⟩ := y
    dsimp only
    rw [Int.zero_add]
    exact hs i σ H4 _ (by omega) p fun σ2 H5 p5 => p5
  · have e0 : ((n : Int)).toNat = n := by omega
    rw [e0] at p
    exact hd σ H p
theorem cut_int {ns : List Int} {lo hi : Option Int} {x : V} (h : x ∈ cutV (ns.map V.int) lo hi) : ∃ n, x = V.int n := by
  unfold cutV at h
  have h2 := List.mem_of_mem_drop (List.mem_of_mem_take h)
  obtain ⟨n, _, e⟩ := List.mem_map.mp h2
  exact ⟨n, e.symm⟩
theorem cut_to {xs : List V} {m : Nat} (h : m ≤ xs.length) : cutV xs none (some (m : Int)) = xs.take m := by
  unfold cutV
  rw [HT.sIx_none, HT.sIx_nat, Nat.min_eq_left h, Nat.sub_zero, List.drop_zero]
theorem cut_63 (xs : List V) : (cutV xs none (some 63)).length ≤ 63 := by
  unfold cutV
  rw [HT.sIx_none, show (some (63 : Int)) = some ((63 : Nat) : Int) from rfl, HT.sIx_nat, List.length_take]
  omega
end
/-- numbers from 0 to b - 1 -/
def Below (b : Nat) (ms : List Int) : Prop := ∀ z ∈ ms, 0 ≤ z ∧ z < (b : Int)
theorem below_snoc {b : Nat} {ms : List Int} {z : Int} (h : Below b ms) (h0 : 0 ≤ z) (h1 : z < (b : Int)) : Below b (ms ++ [z]) := by
  intro x hx
  rcases List.mem_append.mp hx with q | q
  · exact h x q
  · rw [List.mem_singleton.mp q]
    exact ⟨h0, h1⟩
theorem map_snoc (ms : List Int) (z : Int) : ms.map V.int ++ [V.int z] = (ms ++ [z]).map V.int := by simp
end Cw
set_option Elab.async false
set_option linter.all false
set_option maxRecDepth 100000
set_option maxHeartbeats 2000000
/-! f'{n:b}' -/
namespace Cw
open PySem PySem.Spec PyProof.Rows L2
open Builtin Builtin.Str Builtin.Int Builtin.Float
def binDigits (n : Nat) : List Nat := (Nat.toDigits 2 n).map Char.toNat
theorem spec_b : ∃ f : FormatSpec, parseFormatSpec [98] "int" 62 = .ok f ∧ f.type = some 98 ∧ f.precision = none ∧ f.noNeg0 = false ∧ f.alt = false ∧ f.width = none ∧ f.grouping = none ∧ f.sign = none := ⟨_, rfl, rfl, rfl, rfl, rfl, rfl, rfl, rfl⟩
theorem binDigits_ne (n : Nat) : (binDigits n).isEmpty = false := by
  unfold binDigits
  have h := tDigits_len_ge 2 n
  cases e : Nat.toDigits 2 n with
  | nil =>
    rw [e] at h
    exact absurd h (by decide)
  | cons c r => rfl
theorem field_b {f : FormatSpec} {ds : List Nat} (hd : ds.isEmpty = false) (hw : f.width = none) (hgr : f.grouping = none) (hsg : f.sign = none) : intField' f false [] ds [] 4 = S ds := by
  have hroom : (if (f.fill == 48 && f.align == 61) = true then (-1 : Int) - ((([] : List Nat).length : Int) + (([] : List Nat).length : Int) + (([] : List Nat).length : Int)) else 0).toNat = 0 := by
    split <;> rfl
  unfold intField'
  simp only [hw, hgr, hsg, hd, Bool.false_eq_true, if_false]
  rw [hroom, Nat.zero_sub]
  have hpad : ((-1 : Int) - ((([] : List Nat).length : Int) + (([] : List Nat).length : Int) + (([] : List Nat).length : Int)) - ((List.replicate 0 48 ++ ds).length : Int)).toNat = 0 := by
    show ((-1 : Int) - (0 + 0 + 0) - ((ds.length : Nat) : Int)).toNat = 0
    omega
  rw [hpad]
  show (⟨_⟩ : Str) = ⟨ds.toArray⟩
  congr 2
  split
  · simp
  · split
    · simp
    · split <;> simp
set_option maxRecDepth 100000 in
theorem formatField_b {prog : Program} {w : World} {A : Around} {E : Value → Shared → Prop} {s : Shared} {n : Nat} {t : Tok} {Q : Value → Shared → Prop} (hl : (binDigits n).length ≤ 1000) (h : Q (.str (S (binDigits n)) (s.toks + 1)) { s with toks := s.toks + 1 + 1 }) :
    wpAny (model prog w) A (formatField (.int (n : Int) t) (S [98])) Q E s := by
  obtain ⟨f, hp, hty, hpr, hz, hal, hw, hgr, hsg⟩ := spec_b
  show wpAny _ _ (holding [.int (n : Int) t] (pyFormat (.int (n : Int) t) (S [98]))) Q E s
  refine wpAny_holding ?_
  unfold pyFormat
  refine wpAny_bind (wpAny_mkStr ?_ (by decide))
  refine wpAny_bind (m := callSpecial? (.int (n : Int) t) (Str.ofString "__format__") [.str (S [98]) s.toks]) (wpAny_callSpecial?_slot (name := Str.ofString "__format__") (typeIs_int _ (n : Int) t) PyProof.Rows.slot_int_format ?_)
  refine wpAny_call (codeAny_call_builtin PyProof.Rows.slot_int_format.plain PyProof.Rows.entry_int_format (PyProof.Rows.slot_int_format.check _ _ _ _ _ _ _ _ (typeIs_int _ (n : Int) t) (PyProof.Rows.args_int_format _ _) ?_))
  unfold Builtin.«int.__format__»
  simp only [selfAndOne, noKeywords, Int.intOfSelf, asInt?, asStr?, List.isEmpty_nil, if_true, pure_bind, bind_pure, bind_assoc, show ((S [98]).length == 0) = false from rfl, Bool.false_eq_true, if_false,
    show (((S [98]).cps.toList.drop 1).any (· ≥ 128) || ((S [98]).cps.getD 0 0 ≥ 128 && !([60, 62, 61, 94] : List Nat).contains ((S [98]).cps.getD 1 0))) = false from rfl,
    show (Value.str (S [98]) s.toks == Value.none) = false from rfl]
  refine wpAny_bind (wpAny_typeNameOf (T := "str") (typeIs_str _ _ _) (by decide) fun _ => ?_)
  refine wpAny_bind (wpAny_typeNameOfCut_int ?_)
  simp only [show (S [98]).cps.toList = [98] from rfl, hp, hty]
  rw [if_pos (by decide)]
  show wpAny _ _ (if _ then _ else _) _ _ _
  rw [if_neg (by simp [hpr])]
  show wpAny _ _ (if _ then _ else _) _ _ _
  rw [if_neg (by simp [hz])]
  show wpAny _ _ (if _ then _ else _) _ _ _
  rw [if_neg (by decide)]
  show wpAny _ _ (if _ then _ else _) _ _ _
  rw [if_neg (by decide)]
  show wpAny _ _ (if _ then _ else _) _ _ _
  rw [if_neg (by simp [hw])]
  show wpAny _ _ (retStr _) _ _ _
  unfold retStr
  simp only [hal, Bool.false_eq_true, if_false, show decide ((n : Int) < 0) = false from decide_eq_false (by omega), Int.natAbs_natCast, Option.getD_some, show ((98 : Nat) == 88) = false from rfl, show ((2 : Nat) == 10) = false from rfl]
  have hs : (S (binDigits n)).length ≤ sizeLine := by
    rw [S_len]
    exact Nat.le_trans hl (by decide)
  rw [show ∀ (z : Str), z = S (binDigits n) → (mkStr z) = mkStr (S (binDigits n)) from fun z e => by rw [e]]
  · refine wpAny_bind (wpAny_mkStr (wpAny_pure ?_) hs)
    exact wpAny_bind (wpAny_isInstance (typeIs_str _ _ _) isSubtype_str_str (wpAny_pure h))
  · refine Eq.trans ?_ (field_b (f := f) (binDigits_ne n) hw hgr hsg)
    clear h hp hty hpr hz hal hw hsg
    cases f
    dsimp only at hgr
    subst hgr
    rfl
end Cw
set_option Elab.async false
set_option linter.all false
set_option maxRecDepth 100000
set_option maxHeartbeats 2000000
/-! the vector of a number -/
namespace Cw
open PySem PySem.Spec PyProof.Rows L2
/-- the bits of n, w of them, the most significant one first -/
def bitsOf (w n : Nat) : List Nat := ((List.range w).map fun k => 48 + n / 2 ^ k % 2).reverse
theorem bits_len (w n : Nat) : (bitsOf w n).length = w := by
  unfold bitsOf
  rw [List.length_reverse, List.length_map, List.length_range]
theorem bits_succ (w n : Nat) : bitsOf (w + 1) n = bitsOf w (n / 2) ++ [48 + n % 2] := by
  unfold bitsOf
  rw [List.range_succ_eq_map, List.map_cons, List.reverse_cons, List.map_map]
  congr 1
  · congr 1
    refine List.map_congr_left fun k _ => ?_
    show 48 + n / 2 ^ (k + 1) % 2 = 48 + n / 2 / 2 ^ k % 2
    rw [Nat.div_div_eq_div_mul, Nat.pow_succ, Nat.mul_comm]
  · rw [Nat.pow_zero, Nat.div_one]
theorem bits_bin (w : Nat) : ∀ n, ∀ c ∈ bitsOf w n, IsBin c := by
  intro n c hc
  unfold bitsOf at hc
  obtain ⟨k, _, rfl⟩ := List.mem_map.mp (List.mem_reverse.mp hc)
  unfold IsBin
  omega
theorem bits_num : ∀ (w n : Nat), n < 2 ^ w → binNum (bitsOf w n) = n
  | 0, n, h => by
    have e : n = 0 := by
      rw [Nat.pow_zero] at h
      omega
    rw [e]
    rfl
  | w + 1, n, h => by
    have h2 : n / 2 < 2 ^ w := by
      rw [Nat.pow_succ] at h
      omega
    rw [bits_succ]
    unfold binNum
    rw [List.foldl_append]
    show binNum (bitsOf w (n / 2)) * 2 + bv (48 + n % 2) = n
    rw [bits_num w (n / 2) h2]
    unfold bv
    omega
theorem bits_vec {w n : Nat} (h0 : 1 ≤ w) (h1 : w ≤ 64) : Vec (bitsOf w n) := by
  refine ⟨fun c hc => ?_, ?_, ?_⟩
  · rcases bits_bin w n c hc with h | h
    · exact .inl h
    · exact .inr (.inl h)
  · rw [bits_len]
    exact h0
  · rw [bits_len]
    exact h1
def pad (w : Nat) (l : List Nat) : List Nat := List.replicate (w - l.length) 48 ++ l
theorem pad_snoc (w : Nat) (l : List Nat) (x : Nat) : pad (w + 1) (l ++ [x]) = pad w l ++ [x] := by
  unfold pad
  rw [List.length_append, List.length_singleton, Nat.add_sub_add_right, List.append_assoc]
theorem dig_lt {n : Nat} (h : n < 2) : binDigits n = [48 + n] := by
  unfold binDigits
  rw [Nat.toDigits_of_lt_base h]
  have e : n = 0 ∨ n = 1 := by omega
  rcases e with rfl | rfl <;> rfl
theorem dig_ge {n : Nat} (h : 2 ≤ n) : binDigits n = binDigits (n / 2) ++ [48 + n % 2] := by
  unfold binDigits
  rw [Nat.toDigits_of_base_le (by decide) h, List.map_append]
  congr 1
  have e : n % 2 = 0 ∨ n % 2 = 1 := by omega
  rcases e with e | e <;> rw [e] <;> rfl
theorem rep_snoc (w : Nat) : List.replicate (w + 1) (48 : Nat) = List.replicate w 48 ++ [48] := List.replicate_succ'
theorem pad_bits : ∀ (w n : Nat), n < 2 ^ (w + 1) → pad (w + 1) (binDigits n) = bitsOf (w + 1) n
  | 0, n, h => by
    have h2 : n < 2 := h
    rw [dig_lt h2, bits_succ, Nat.mod_eq_of_lt h2]
    rfl
  | w + 1, n, h => by
    have h2 : n / 2 < 2 ^ (w + 1) := by
      rw [Nat.pow_succ] at h
      omega
    have ih := pad_bits w (n / 2) h2
    rw [bits_succ, ← ih]
    by_cases hn : 2 ≤ n
    · rw [dig_ge hn, pad_snoc]
    · have hn2 : n < 2 := by omega
      have e0 : n / 2 = 0 := by omega
      rw [dig_lt hn2, e0, dig_lt (show 0 < 2 by decide), Nat.mod_eq_of_lt hn2]
      unfold pad
      show List.replicate (w + 1) 48 ++ [48 + n] = (List.replicate w 48 ++ [48]) ++ [48 + n]
      rw [rep_snoc]
theorem dig_bin (n : Nat) : ∀ c ∈ binDigits n, IsBin c := by
  induction n using Nat.strongRecOn with
  | _ n ih =>
    intro c hc
    by_cases h : 2 ≤ n
    · rw [dig_ge h] at hc
      rcases List.mem_append.mp hc with q | q
      · exact ih (n / 2) (by omega) c q
      · rw [List.mem_singleton.mp q]
        unfold IsBin
        omega
    · rw [dig_lt (by omega)] at hc
      rw [List.mem_singleton.mp hc]
      unfold IsBin
      omega
theorem dig_len : ∀ (w n : Nat), n < 2 ^ (w + 1) → (binDigits n).length ≤ w + 1
  | 0, n, h => by
    rw [dig_lt (show n < 2 from h)]
    exact Nat.le_refl _
  | w + 1, n, h => by
    by_cases hn : 2 ≤ n
    · have ih := dig_len w (n / 2) (by rw [Nat.pow_succ] at h; omega)
      rw [dig_ge hn, List.length_append, List.length_singleton]
      omega
    · rw [dig_lt (by omega)]
      show 1 ≤ _
      omega
theorem zfill_bin {ds : List Nat} {w : Nat} (hd : ∀ c ∈ ds, IsBin c) : Txt.zfill (S ds) (w : Int) = S (pad w ds) := by
  unfold Txt.zfill pad
  rw [S_len]
  by_cases h : (w : Int) ≤ (ds.length : Int)
  · rw [if_pos h]
    have e : w - ds.length = 0 := by omega
    rw [e]
    rfl
  · rw [if_neg h]
    have e : (w : Int).toNat - ds.length = w - ds.length := by omega
    rw [e]
    have z : PySem.zfilled (S ds) (w - ds.length) = Builtin.Str.padded (S ds) (w - ds.length) 0 48 := by
      unfold PySem.zfilled
      rw [S_get]
      cases ds with
      | nil => rfl
      | cons c r =>
        have hc := hd c (List.mem_cons_self ..)
        rcases hc with rfl | rfl <;> rfl
    rw [z]
    unfold Builtin.Str.padded
    show (⟨_⟩ : Str) = ⟨_⟩
    congr 1
    apply Array.toList_inj.mp
    simp [S]
/-- f'{n & (1 << w) - 1:b}'.zfill(w) -/
def tFmtB (te : TE) : TE := fun σ H Q => te σ H fun x H1 => ∃ n : Nat, x = .int (n : Int) ∧ (binDigits n).length ≤ 1000 ∧ Q (sv (binDigits n)) H1
theorem pe_fmtB {X : Cx} {e : Expr} {te : TE} {j : Nat} {p1 p2 p3 p4 : Pos} (he : PE X e te) : PE X (.JoinedStr [.FormattedValue e (-1) (some (.JoinedStr [.Constant (.str "b") j p1] p2)) p3] p4) (tFmtB te) := by
  refine pe_joined1 ⟨fun pins s σ H Q I h => ?_⟩
  refine wpAny_FormattedValue_spec (thn (he.run pins s σ H _ I h) fun v s1 ⟨x, H1, I1, r1, n, ex, hl, q⟩ => ?_)
  subst ex
  obtain ⟨t, rfl⟩ := r1
  refine thn ((pe_joined1 (X := X) (pos := p2) (pe_str (x := "b") (j := j) (pos := p1))).run pins s1 σ H1 (fun v H' => v = .str "b" ∧ H' = H1) I1 ⟨rfl, rfl⟩) fun v2 s2 ⟨y, H2, I2, r2, ey, eH⟩ => ?_
  subst ey eH
  obtain ⟨t2, rfl⟩ := r2
  exact ⟨_, t2, rfl, formatField_b hl ⟨sv (binDigits n), H2, I2.tok _, ⟨_, rfl⟩, q⟩⟩
section
variable {Ts : Fm} {K : PySem.W.Frag} {w : World} {σ : L2.St} {H H0 H' : Hp} {ta tb te ti : TE}
theorem ev_fmtB {n : Nat} (h : Ev Ts te σ H (.int (n : Int))) (hl : (binDigits n).length ≤ 1000) : Ev Ts (tFmtB te) σ H (sv (binDigits n)) := fun H1 e Q q => h H1 e _ fun H2 e2 => ⟨n, rfl, hl, q H2 e2⟩
theorem ev_zfill {ds : List Nat} {n : Nat} (ho : Ev Ts ta σ H (sv ds)) (hn : Ev Ts tb σ H (.int (n : Nat))) (hd : ∀ c ∈ ds, IsBin c) (hp : n ≤ 1000) :
    Ev Ts (tBM K "str" (fun x xs H Q => ∃ (a : Str) (i : Int), x = .str a ∧ xs = [.int i] ∧ PadOk i = true ∧ Q (.str (Txt.zfill a i)) H) ta (tCons tb tNil)) σ H (sv (pad n ds)) := fun H1 e Q q =>
  ho H1 e _ fun H2 e2 => ⟨rfl, hn H2 (e.trans e2) _ fun H3 e3 => ⟨S ds, (n : Int), rfl, rfl, by
    unfold PadOk fitsSsize
    have z : (1000 : Nat) ≤ sizeLine := by decide
    rw [Bool.and_eq_true, Bool.not_eq_true', Bool.not_eq_true', Bool.or_eq_false_iff]
    exact ⟨⟨decide_eq_false (by omega), decide_eq_false (by omega)⟩, decide_eq_false (by omega)⟩, by
    rw [zfill_bin hd]
    exact q H3 (e2.trans e3)⟩⟩
theorem rv_andM {i : Int} {k : Nat} : RV Ts (fun x y H Q => ∃ (i : Int) (k : Nat), x = .int i ∧ y = .int (2 ^ k - 1) ∧ Q (.int (i % 2 ^ k)) H) (.int i) (.int (2 ^ k - 1)) H (.int (i % 2 ^ k)) := fun H1 e _ q => ⟨i, k, rfl, rfl, q H1 (Ex.refl e.good)⟩
theorem rv_oneShl {k : Nat} (h : k ≤ 134217727) : RV Ts (fun x y H Q => ∃ k : Nat, x = .int 1 ∧ y = .int (k : Int) ∧ k ≤ 134217727 ∧ Q (.int (2 ^ k)) H) (.int 1) (.int (k : Nat)) H (.int (2 ^ k)) := fun H1 e _ q => ⟨k, rfl, rfl, h, q H1 (Ex.refl e.good)⟩
end
end Cw
set_option Elab.async false
set_option linter.all false
set_option maxRecDepth 100000
set_option maxHeartbeats 2000000
/-! made lists handed on; pairs in a written list; parts of texts; numbers modulo a power of two -/
namespace Cw
open PySem PySem.Spec PyProof.Rows L2
section
variable {Ts : Fm} {K : PySem.W.Frag} {w : World} {σ : L2.St} {H H0 H' : Hp} {ta tb te ti : TE} {t u : TT} {x y z v : V} {r : List V → Hp → VK → Prop}
theorem ev_cbN {R : HO} (h : EvN Ts te σ H R) (hr : ∀ p H1, p ∉ Ts → Ex Ts H H1 → H1 p = some R → RC Ts r [.ref p] H1 z) : Ev Ts (tCB r (tCons te tNil)) σ H z := fun H1 e Q q =>
  h H1 e _ fun p H2 n e2 hp => hr p H2 (e.good.free n) (e.trans e2) hp H2 (Ex.refl e2.good) Q fun H3 e3 => q H3 (e2.trans e3)
theorem rc_all {p : Addr} {bs : List Bool} (g : p ∉ Ts) (h : SqL K H p (bs.map V.bl)) : RC Ts (rAll K) [.ref p] H (.bl (bs.all id)) := fun H1 e _ q => ⟨p, bs, rfl, e.l g h, q H1 (Ex.refl e.good)⟩
theorem rc_min {i j : Int} : RC Ts (fun xs H Q => ∃ i j, xs = [.int i, .int j] ∧ Q (.int (if j < i then j else i)) H) [.int i, .int j] H (.int (if j < i then j else i)) := fun H1 e _ q => ⟨i, j, rfl, q H1 (Ex.refl e.good)⟩
theorem rc_str {i : Int} {l : List Nat} (h : i.natAbs.log2 < 1920) (hl : V.str (toString i) = sv l) : RC Ts (fun xs H Q => ∃ i : Int, xs = [.int i] ∧ i.natAbs.log2 < 1920 ∧ Q (.str (toString i)) H) [.int i] H (sv l) := fun H1 e _ q => ⟨i, rfl, h, by
  rw [hl]
  exact q H1 (Ex.refl e.good)⟩
theorem str_bit {n : Nat} (h : n < 2) : V.str (toString (n : Int)) = sv [48 + n] := by
  have e : n = 0 ∨ n = 1 := by omega
  rcases e with rfl | rfl <;> rfl
theorem rc_strB {n : Nat} (h : n < 2) : RC Ts (fun xs H Q => ∃ i : Int, xs = [.int i] ∧ i.natAbs.log2 < 1920 ∧ Q (.str (toString i)) H) [.int (n : Int)] H (sv [48 + n]) := rc_str (by
  have e : n = 0 ∨ n = 1 := by omega
  rcases e with rfl | rfl <;> decide) (str_bit h)
theorem en_rev {xs : List V} (h : EvN Ts te σ H (.lst xs)) : EvN Ts (tRevL K te) σ H (.lst xs.reverse) := fun H1 e _ q => h H1 e _ fun a H2 n e2 ha =>
  ⟨a, xs, rfl, l_of ha, fun p hp => q p _ (e2.back hp) (e2.trans (Ex.new e2.good hp)) upd_same⟩
theorem en_is {R R' : HO} (h : EvN Ts te σ H R) (e : R = R') : EvN Ts te σ H R' := e ▸ h
/-- [e for k in range(n)] -/
theorem en_lcR {j n : Nat} {f : Nat → V} (hn : n ≤ 100000) (hi : Ev Ts ti σ H (.int (n : Nat))) (he : ∀ i, i < n → Ev Ts te ((wipe σ [j]).set j (some (.int (i : Nat)))) H (f i)) : EvN Ts (tLc (iRng1 (tCons ti tNil)) (gName j) tYes te [j]) σ H (.lst ((List.range n).map f)) := by
  refine en_lc (n := n) (by rw [List.length_map, List.length_range]) hn (walk_range (lo := 0) (n := n)) (fun H1 e R k => hi H1 e _ fun H2 e2 => ⟨(n : Int), rfl, by omega, by omega, ?_⟩) (fun _ _ => trivial) (fun i z hz H1 x H' e y => ?_)
  · have e0 : ((n : Int)).toNat = n := by omega
    rw [e0]
    exact k H2 e2
  · obtain ⟨rfl, rfl⟩ := y
    dsimp only at hz ⊢
    have hi : i < n := by
      have := (List.getElem?_eq_some_iff.mp hz).1
      rwa [List.length_map, List.length_range] at this
    rw [List.getElem?_map, List.getElem?_range hi] at hz
    obtain rfl := Option.some.inj hz
    refine ⟨_, Ex.refl e.good, fun Q q => q, wipe_one σ j _, ?_⟩
    rw [Int.zero_add]
    exact he i hi
/-! ### pairs in a written list -/
def IsPr (Ts : Fm) (H : Hp) (r : V) (p : V × V) : Prop := ∃ a, r = .ref a ∧ a ∉ Ts ∧ H a = some (.tup [p.1, p.2])
inductive Prs (Ts : Fm) (H : Hp) : List V → List (V × V) → Prop
  | nil : Prs Ts H [] []
  | cons {r : V} {rs : List V} {p : V × V} {ps : List (V × V)} : IsPr Ts H r p → Prs Ts H rs ps → Prs Ts H (r :: rs) (p :: ps)
theorem IsPr.mono {r : V} {p : V × V} (h : IsPr Ts H r p) (e : Ex Ts H H') : IsPr Ts H' r p := by
  obtain ⟨a, e1, n, e2⟩ := h
  exact ⟨a, e1, n, e.keep a _ n e2⟩
theorem Prs.mono {rs : List V} {ps : List (V × V)} (h : Prs Ts H rs ps) (e : Ex Ts H H') : Prs Ts H' rs ps := by
  induction h with
  | nil => exact .nil
  | cons a _ ih => exact .cons (a.mono e) ih
theorem Prs.len {rs : List V} {ps : List (V × V)} (h : Prs Ts H rs ps) : rs.length = ps.length := by
  induction h with
  | nil => rfl
  | cons _ _ ih => rw [List.length_cons, List.length_cons, ih]
theorem Prs.get {rs : List V} {ps : List (V × V)} (h : Prs Ts H rs ps) : ∀ {i : Nat} {r : V}, rs[i]? = some r → ∃ p, ps[i]? = some p ∧ IsPr Ts H r p := by
  induction h with
  | nil => exact fun e => by cases e
  | @cons r rs p ps a _ ih =>
    intro i r' e
    cases i with
    | zero =>
      cases e
      exact ⟨p, rfl, a⟩
    | succ i => exact ih e
def EvP (Ts : Fm) (t : TA) (σ : L2.St) (H : Hp) (ps : List (V × V)) : Prop := ∀ H1, Ex Ts H H1 → ∀ Q : List V → Hp → Prop, (∀ rs H2, Ex Ts H1 H2 → Prs Ts H2 rs ps → Q rs H2) → t σ H1 Q
theorem ep_nil : EvP Ts tNil σ H [] := fun H1 e _ q => q [] H1 (Ex.refl e.good) .nil
theorem ep_cons {tr : TA} {ps : List (V × V)} (h : EvN Ts ta σ H (.tup [x, y])) (hr : EvP Ts tr σ H ps) : EvP Ts (tCons ta tr) σ H ((x, y) :: ps) := fun H1 e _ q =>
  h H1 e _ fun p H2 n e2 hp => hr H2 (e.trans e2) _ fun rs H3 e3 hrs => q _ H3 (e2.trans e3) (.cons (IsPr.mono ⟨p, rfl, e.good.free n, hp⟩ e3) hrs)
/-- for a, b in [(..), ..] -/
theorem st_forP {j k : Nat} {tr : TA} {ps : List (V × V)} {tb : TS} {D : Ends} (h : EvP Ts tr σ H0 ps) (hl : ps.length ≤ 1000) (e : Ex Ts H0 H) (Pv : Nat → L2.St → Prop) (h0 : Pv 0 σ)
    (hs : ∀ i p σ H1 (N : L2.St → Hp → Prop), ps[i]? = some p → Pv i σ → Ex Ts H0 H1 → (∀ σ2 H2, Ex Ts H1 H2 → Pv (i + 1) σ2 → N σ2 H2) → tb { D with nx := N, ct := N, bk := D.nx } ((σ.set j (some p.1)).set k (some p.2)) H1)
    (hd : ∀ σ H1, Ex Ts H0 H1 → Pv ps.length σ → D.nx σ H1) : tFor (iList K (tLst tr)) (gTup K 2 (gCons (gName j) (gCons (gName k) gNil))) tb D σ H := by
  refine h H e _ fun rs H2 e2 hrs => ⟨Nat.le_trans (by rw [hrs.len]; exact hl) (by decide), fun a na => ⟨a, rfl, ⟨rs, l_of upd_same⟩, ?_⟩⟩
  have nT : a ∉ Ts := e2.good.free na
  have e3 : Ex Ts H2 (upd H2 a (.lst rs)) := Ex.new e2.good na
  refine for_it (walk_list (K := K) (a := a) (xs := rs)) (fun i σ H => Ex Ts H0 H ∧ Ex Ts H2 H ∧ H a = some (.lst rs) ∧ Pv i σ) ⟨(e.trans e2).trans e3, e3, upd_same, h0⟩ (fun i σ H _ p => l_of p.2.2.1) (fun i x σ H3 H4 _ p y => ?_) (fun σ H3 p => ?_)
  · obtain ⟨rfl, hx⟩ := y
    obtain ⟨pr, hp, c, rfl, nc, hc⟩ := hrs.get hx
    refine ⟨c, [pr.1, pr.2], rfl, t_of (p.2.1.keep c _ nc hc), rfl, _, _, rfl, _, _, rfl, rfl, ?_⟩
    refine hs i pr σ _ _ hp p.2.2.2 p.1 fun σ2 H5 e5 p5 => ?_
    exact ⟨p.1.trans e5, p.2.1.trans e5, e5.keep a _ nT p.2.2.1, p5⟩
  · have q := p.2.2.2
    rw [hrs.len] at q
    exact hd σ H3 p.1 q
end
/-! ### parts of texts -/
theorem cutS_from {a : List Nat} {n : Nat} (h : n ≤ a.length) : cutS (S a) (some (n : Int)) none = S (a.drop n) := by
  unfold cutS
  rw [HT.sIx_none, HT.sIx_nat, S_list, S_len, Nat.min_eq_left h, List.take_of_length_le (Nat.le_of_eq (List.length_drop ..))]
  rfl
theorem cutS_to (a : List Nat) (n : Nat) : cutS (S a) none (some (n : Int)) = S (a.take n) := by
  unfold cutS
  rw [HT.sIx_none, HT.sIx_nat, S_list, S_len, Nat.sub_zero, List.drop_zero]
  by_cases h : n ≤ a.length
  · rw [Nat.min_eq_left h]
    rfl
  · rw [Nat.min_eq_right (by omega), List.take_of_length_le (Nat.le_refl _), List.take_of_length_le (by omega)]
    rfl
theorem cutS_last {a : List Nat} {k : Nat} (h0 : 1 ≤ k) (h : k ≤ a.length) : cutS (S a) (some (0 - (k : Int))) none = S (a.drop (a.length - k)) := by
  unfold cutS
  have e : HT.sIx (S a).length 0 (some (0 - (k : Int))) = a.length - k := by
    show (if (0 - (k : Int)) < 0 then ((0 - (k : Int)) + ((S a).length : Int)).toNat else min (0 - (k : Int)).toNat (S a).length) = _
    rw [if_pos (by omega), S_len]
    omega
  rw [e, HT.sIx_none, S_list, S_len, List.take_of_length_le (Nat.le_of_eq (List.length_drop ..))]
  rfl
/-! ### numbers modulo a power of two -/
def modW (w : Nat) (n : Int) : Nat := (n % (2 ^ w : Int)).toNat
theorem two_pos (w : Nat) : (0 : Int) < 2 ^ w := by
  rw [two_pow_cast]
  have := Nat.two_pow_pos w
  omega
theorem modW_cast (w : Nat) (n : Int) : n % (2 ^ w : Int) = ((modW w n : Nat) : Int) := by
  unfold modW
  have := Int.emod_nonneg n (Int.ne_of_gt (two_pos w))
  omega
theorem modW_lt (w : Nat) (n : Int) : modW w n < 2 ^ w := by
  have h := Int.emod_lt_of_pos n (two_pos w)
  rw [modW_cast, two_pow_cast] at h
  exact Int.ofNat_lt.mp h
/-- the vector of n modulo 2 ^ w -/
def lowB (w : Nat) (n : Int) : List Nat := bitsOf w (modW w n)
theorem lowB_len (w : Nat) (n : Int) : (lowB w n).length = w := bits_len w _
theorem lowB_vec {w : Nat} {n : Int} (h0 : 1 ≤ w) (h1 : w ≤ 64) : Vec (lowB w n) := bits_vec h0 h1
theorem lowB_pad {w : Nat} {n : Int} (h : 1 ≤ w) : pad w (binDigits (modW w n)) = lowB w n := by
  obtain ⟨k, rfl⟩ : ∃ k, w = k + 1 := ⟨w - 1, by omega⟩
  exact pad_bits k _ (modW_lt (k + 1) n)
theorem low_dig {w : Nat} {n : Int} (h : 1 ≤ w) (h1 : w ≤ 64) : (binDigits (modW w n)).length ≤ 1000 := by
  obtain ⟨k, rfl⟩ : ∃ k, w = k + 1 := ⟨w - 1, by omega⟩
  exact Nat.le_trans (dig_len k _ (modW_lt (k + 1) n)) (by omega)
theorem bit_cast (m i : Nat) : ((m : Int) / (2 ^ i : Int)) % 2 = ((m / 2 ^ i % 2 : Nat) : Int) := by
  rw [two_pow_cast]
  rfl
/-- the number that a vector writes: unknown bits count as 0 -/
def val (a : List Nat) : Nat := a.foldl (fun v c => 2 * v + if c = 49 then 1 else 0) 0
def kn (a : List Nat) : Bool := a.all fun c => decide (c ∈ [48, 49])
theorem kn_bin {a : List Nat} (h : kn a = true) : ∀ c ∈ a, IsBin c := fun c hc => by
  have z := of_decide_eq_true (List.all_eq_true.mp h c hc)
  unfold IsBin
  simpa using z
theorem val_eq {a : List Nat} (h : kn a = true) : binNum a = val a := by
  have hb := kn_bin h
  have aux : ∀ (l : List Nat) (v : Nat), (∀ c ∈ l, IsBin c) → l.foldl (fun a c => a * 2 + bv c) v = l.foldl (fun v c => 2 * v + if c = 49 then 1 else 0) v := by
    intro l
    induction l with
    | nil => intro v _; rfl
    | cons c r ih =>
      intro v hl
      rw [List.foldl_cons, List.foldl_cons, ih _ fun x hx => hl x (List.mem_cons_of_mem _ hx)]
      congr 1
      rcases hl c (List.mem_cons_self ..) with rfl | rfl
      · rw [if_neg (by decide)]
        unfold bv
        omega
      · rw [if_pos rfl]
        unfold bv
        omega
  exact aux a 0 hb
theorem val_lt (a : List Nat) : val a < 2 ^ a.length := by
  have aux : ∀ (l : List Nat) (v k : Nat), v < 2 ^ k → l.foldl (fun v c => 2 * v + if c = 49 then 1 else 0) v < 2 ^ (k + l.length) := by
    intro l
    induction l with
    | nil => intro v k h; exact h
    | cons c r ih =>
      intro v k h
      rw [List.foldl_cons, List.length_cons, show k + (r.length + 1) = (k + 1) + r.length by omega]
      refine ih _ (k + 1) ?_
      rw [Nat.pow_succ]
      split <;> omega
  have := aux a 0 0 (by decide)
  rwa [Nat.zero_add] at this
theorem val_le {a : List Nat} {n : Nat} (h : a.length ≤ n) : val a < 2 ^ n := Nat.lt_of_lt_of_le (val_lt a) (Nat.pow_le_pow_right (by decide) h)
theorem val_snoc {a : List Nat} {i c : Nat} (h : a[i]? = some c) : val (a.take (i + 1)) = 2 * val (a.take i) + if c = 49 then 1 else 0 := by
  unfold val
  rw [List.take_add_one, h, List.foldl_append]
  rfl
end Cw
set_option Elab.async false
set_option linter.all false
set_option maxRecDepth 100000
set_option maxHeartbeats 2000000
/-! what the laws draw; tests that are known; vectors known or not -/
namespace Cw
open PySem PySem.Spec PyProof.Rows L2
theorem max_wid (a b : List Nat) : (if (b.length : Int) > (a.length : Int) then (b.length : Int) else (a.length : Int)) = ((wid a b : Nat) : Int) := by
  unfold wid
  split <;> omega
theorem sv_one (a b : Nat) : decide (sv [a] = sv [b]) = decide (a = b) := by
  rw [sv_dec]
  by_cases h : a = b
  · rw [decide_eq_true h, h]
    exact decide_eq_true rfl
  · rw [decide_eq_false h]
    exact decide_eq_false fun q => h (List.cons.inj q).1
def sgn (pl : Bool) (z : Int) : Nat := if pl then [48, 49, 49, 48].getD z.toNat 0 else [48, 49, 120, 122].getD z.toNat 0
theorem sgn_isB {pl : Bool} {z : Int} (h0 : 0 ≤ z) (h1 : z < 4) : IsB (sgn pl z) := by
  have e : z = 0 ∨ z = 1 ∨ z = 2 ∨ z = 3 := by omega
  cases pl <;> rcases e with rfl | rfl | rfl | rfl <;> decide
theorem sgn_at {pl : Bool} {z : Int} (h0 : 0 ≤ z) (h1 : z < 4) : atI (if pl then [48, 49, 49, 48] else [48, 49, 120, 122]) z = some (sgn pl z) := by
  have e : z = 0 ∨ z = 1 ∨ z = 2 ∨ z = 3 := by omega
  cases pl <;> rcases e with rfl | rfl | rfl | rfl <;> rfl
def asSv (pl : Bool) : V → V
  | .int z => sv [sgn pl z]
  | _ => .non
theorem asSv_map (pl : Bool) (ms : List Int) : (ms.map V.int).map (asSv pl) = ms.map fun z => sv [sgn pl z] := by
  rw [List.map_map]
  rfl
theorem drop_ints (ns : List Int) (k : Int) : ∃ ms : List Int, cutV (ns.map V.int) (some k) none = ms.map V.int := by
  unfold cutV
  rw [← List.map_drop, ← List.map_take]
  exact ⟨_, rfl⟩
section
variable {Ts : Fm}
theorem et_ne {σ : L2.St} {H : Hp} {ta tb : TE} {a b : List Nat} (ha : Ev Ts ta σ H (sv a)) (hb : Ev Ts tb σ H (sv b)) (e : a = b) : EvT Ts (tTest (tOp rNe ta tb)) σ H false := by
  subst e
  refine et_is (et_test (ev_op ha hb (rv_ne rfl))) ?_
  rw [decide_eq_true rfl]
  rfl
theorem ev_eqT {σ : L2.St} {H : Hp} {ta tb : TE} {a : List Nat} (ha : Ev Ts ta σ H (sv a)) (hb : Ev Ts tb σ H (sv a)) : Ev Ts (tOp rEq ta tb) σ H (.bl true) := by
  refine ev_is (ev_op ha hb (rv_eq rfl)) ?_
  rw [decide_eq_true rfl]
theorem st_par {σ : L2.St} {H H0 : Hp} {D : Ends} {ta tb : TE} {i j : Nat} {x y : V} (h1 : Ev Ts ta σ H0 x) (h2 : Ev Ts tb σ H0 y) (e : Ex Ts H0 H) (k : ∀ H2, Ex Ts H0 H2 → D.nx ((σ.set i (some x)).set j (some y)) H2) : tPar i j (tCons ta (tCons tb tNil)) D σ H :=
  (ea_cons h1 (ea_cons h2 ea_nil)) H e _ fun H2 e2 => ⟨x, y, rfl, k H2 (e.trans e2)⟩
theorem st_no {σ : L2.St} {H H0 : Hp} {D : Ends} {tc : TT} {t1 : TS} (h : EvT Ts tc σ H0 false) (e : Ex Ts H0 H) (k : ∀ H2, Ex Ts H0 H2 → D.nx σ H2) : tIfS tc t1 tNext D σ H := st_if h e (fun _ _ z => by cases z) fun H2 e2 _ => k H2 e2
end
/-- what is due: the low bits of n, or x -/
def dueB (k : Bool) (w : Nat) (n : Int) : List Nat := if k then lowB w n else List.replicate w 120
def truthB (k h : Bool) : List Nat := if k then (if h then [49] else [48]) else [120]
def bitB (h : Bool) : List Nat := if h then [49] else [48]
theorem dueB_len (k : Bool) (w : Nat) (n : Int) : (dueB k w n).length = w := by
  cases k
  · exact List.length_replicate
  · exact lowB_len w n
theorem truthB_vec (k h : Bool) : Vec (truthB k h) := by
  cases k <;> cases h <;> exact vec_one (by decide)
theorem bitB_int (h : Bool) : bitB h = [48 + (if h then 1 else 0)] := by
  cases h <;> rfl
theorem vec_ne {a : List Nat} (h : Vec a) : a ≠ [] := fun z => by
  have := h.pos
  rw [z] at this
  exact absurd this (by decide)
theorem not_t {b : Bool} (h : (!b) = true) : b = false := by
  cases b
  · rfl
  · cases h
theorem not_f {b : Bool} (h : (!b) = false) : b = true := by
  cases b
  · cases h
  · rfl
end Cw
set_option Elab.async false
set_option linter.all false
set_option maxRecDepth 100000
set_option maxHeartbeats 2000000
/-! all(e for a, b in zip(one, two)): e asks of the two signs alone -/
namespace Cw
open PySem PySem.Spec PyProof.Rows L2 GxR
/-- the element: a test of the signs c and d -/
def EltZ (prog : Program) (w : World) (scope : Scope) (cl : List (Str × Addr)) (xa xb : Str) (elt : Expr) (pb : Nat → Nat → Bool) : Prop :=
  ∀ (cenv : Env) (A' : Around) (E' : Value → Shared → Prop) (c d : Nat) (t u : Tok) (s₂ : Shared) (m₂ : Str → Option Value), cenv.scope = scope → s₂.heap.Ns cenv.locals m₂ → m₂ xa = some (.str ⟨#[c]⟩ t) → m₂ xb = some (.str ⟨#[d]⟩ u) →
    wpAny (model prog w) A' (eval elt cenv) (fun v s₃ => v = .bool (pb c d) ∧ Keeps s₂ s₃) E' s₂
/-- x not in 'k' or x == y -/
theorem elt_fine {prog : Program} {w : World} {scope : Scope} {cl : List (Str × Addr)} {xa xb k : Str} {j : Nat} {p1 p2 p3 p4 p5 p6 p7 : Pos} (hk : scope.kind = .function) (hl : scope.names.lookup xa = some .local) (hl2 : scope.names.lookup xb = some .local)
    (hd : (xa == ("__debug__" : Str)) = false := by decide) (hd2 : (xb == ("__debug__" : Str)) = false := by decide) :
    EltZ prog w scope cl xa xb (.BoolOp .Or [.Compare (.Name xa p1) [.NotIn] [.Constant (.str k) j p2] p3, .Compare (.Name xa p4) [.Eq] [.Name xb p5] p6] p7) fun c d => (!decide (c ∈ k.cps.toList)) || decide (c = d) := by
  intro cenv A' E' c d t u s₂ m₂ hs hn hm hm2
  refine BoolOp_or ?_
  refine wpAny_Compare1 ?_
  refine wpAny_Name (wpAny_loadName_local (by rw [hs]; exact hk) (show cenv.scope.names.lookup xa = some .local by rw [hs]; exact hl) hn hm ?_) hd
  refine Calls.Constant_str ?_
  refine PyProof.Rows.notIn_str ?_
  rw [PySem.StrLaws.found_one k c]
  refine wpAny_truthy_bool ?_
  cases h : decide (c ∈ k.cps.toList) with
  | false =>
    refine ⟨?_, keeps_tok _ _⟩
    show Value.bool (!false) = Value.bool ((!decide (c ∈ k.cps.toList)) || decide (c = d))
    rw [h]
    rfl
  | true =>
    show wpAny _ _ _ _ _ _
    refine BoolOp_one ?_
    refine wpAny_Compare1 ?_
    refine wpAny_Name (wpAny_loadName_local (by rw [hs]; exact hk) (show cenv.scope.names.lookup xa = some .local by rw [hs]; exact hl) hn hm ?_) hd
    refine wpAny_Name (wpAny_loadName_local (by rw [hs]; exact hk) (show cenv.scope.names.lookup xb = some .local by rw [hs]; exact hl2) hn hm2 ?_) hd2
    refine PySem.P.eq_str ⟨?_, keeps_tok _ _⟩
    congr 1
    show _ = ((!decide (c ∈ k.cps.toList)) || decide (c = d))
    rw [h]
    by_cases e : c = d
    · subst e
      simp
    · simp [e]
/-- the test at place j -/
def trZ (pb : Nat → Nat → Bool) (a b : List Nat) (j : Nat) : Bool := match a[j]?, b[j]? with
  | some c, some d => pb c d
  | _, _ => false
theorem all_trZ (pb : Nat → Nat → Bool) (a b : List Nat) : (List.range (min a.length b.length)).all (trZ pb a b) = (a.zip b).all fun p => pb p.1 p.2 := by
  rw [Bool.eq_iff_iff, List.all_eq_true, List.all_eq_true]
  constructor
  · intro h p hp
    obtain ⟨j, hj, e⟩ := List.getElem_of_mem hp
    have hj2 : j < min a.length b.length := by rwa [List.length_zip] at hj
    have q := h j (List.mem_range.mpr hj2)
    have g : (a.zip b)[j]? = some p := by rw [List.getElem?_eq_getElem hj, e]
    obtain ⟨ga, gb⟩ := List.getElem?_zip_eq_some.mp g
    unfold trZ at q
    rw [ga, gb] at q
    exact q
  · intro h j hj
    have hj2 := List.mem_range.mp hj
    have ha : j < a.length := by omega
    have hb : j < b.length := by omega
    unfold trZ
    rw [List.getElem?_eq_getElem ha, List.getElem?_eq_getElem hb]
    refine h (a[j], b[j]) ?_
    exact List.mem_of_getElem? (i := j) (List.getElem?_zip_eq_some.mpr ⟨List.getElem?_eq_getElem ha, List.getElem?_eq_getElem hb⟩)
/-- the generator expression's own scope, of two names, none captured -/
structure GenZ (scope : Scope) (xa xb : Str) : Prop where
  kind : scope.kind = .function
  co : scope.isCoroutine = false
  cell : ∀ y ∈ scope.names, y.2 ≠ .cell
  dot : scope.names.lookup (".0" : Str) = some NameKind.local
  la : scope.names.lookup xa = some .local
  lb : scope.names.lookup xb = some .local
  free : ∀ y ∈ scope.names, y.2 ≠ .free
theorem at_lt {b N m : Nat} (h : b = N + 4 ∨ b = N + 2 ∨ b = N + 3 ∨ b = N ∨ b = N + 1) (hm : N + 5 ≤ m) : b < m := by omega
theorem at_ge {b N : Nat} (h : b = N + 4 ∨ b = N + 3 ∨ b = N ∨ b = N + 1) : N ≤ b := by omega
section
variable {X : Cx} {pins : List (Addr × Obj)} {σ : L2.St} {H : Hp} {s : Shared}
def ReadyN (X : Cx) (pins : List (Addr × Obj)) (σ : L2.St) (H1 : Hp) (P : Addr) (n : Nat) (tr : Nat → Bool) (g : Addr) (s5 : Shared) : Prop :=
  ∃ (fp wr : List Addr) (G : Array GenState → Array GenState → Prop) (F : Nat → Value → Prop) (St : Nat → Shared → Prop),
    WalksS X.prog X.w X.A.in1 g fp wr G n F St ∧ St 0 s5 ∧ TruthOf X.prog X.w X.A.in1 F tr ∧ ∀ s', Moved wr G s5 s' → ∃ H2, Tabbed P H1 H2 ∧ Inv X pins σ H2 s'
theorem quiet_zip {scope : Scope} {cl : List (Str × Addr)} {code : Value} {bi C : Addr} {env : Env} {xa xb : Str} {elt : Expr} {a b : Str} {pb : Nat → Nat → Bool} {fp wr : List Addr} {href : Heap} {prog : Program} {w : World} (he : EltZ prog w scope cl xa xb elt pb) :
    QuietGenT prog w (genEnv scope cl C code bi env) xa xb [] elt fp wr (fun i vals => ∃ x1 x2, (∃ c u, a.cps[i]? = some c ∧ x1 = Value.str ⟨#[c]⟩ u) ∧ (∃ c u, b.cps[i]? = some c ∧ x2 = Value.str ⟨#[c]⟩ u) ∧ vals = #[x1, x2]) (fun _ => true)
      (fun i v => ∃ c d, a.cps[i]? = some c ∧ b.cps[i]? = some d ∧ v = .bool (pb c d)) href where
  tests := by
    intro A' E' i va vb s2 m2 _ _ _ _ _ _
    rw [List.forIn_nil]
    exact wpAny_pure ⟨rfl, keeps_refl _⟩
  elt := by
    intro A' E' i va vb s2 m2 _ hv _ hn hma hmb kp
    obtain ⟨x1, x2, ⟨c, t, hc, rfl⟩, ⟨d, u, hd, rfl⟩, e⟩ := hv
    have e2 : va = Value.str ⟨#[c]⟩ t ∧ vb = Value.str ⟨#[d]⟩ u := by simpa using congrArg Array.toList e
    obtain ⟨rfl, rfl⟩ := e2
    exact wpAny_mono (he _ A' E' c d t u s2 m2 rfl hn hma hmb) (fun _ _ r => ⟨⟨c, d, hc, hd, r.1⟩, r.2⟩) fun _ _ r => r
theorem gen_zip {c P : Addr} {e1 e2 elt : Expr} {xa xb : Str} {kt : Nat} {pa pb' pt p pos gpos : Pos} {scope : Scope} {ta : TA} {k : Nat} {pb : Nat → Nat → Bool} {Q' : Value → Shared → Prop} {R : Str → Str → Hp → Prop}
    (hr : Room k X.A) (hg : Gl X "zip") (hm : X.mg "zip" = none) (TB : TabB X.base X.mg c P) (hcode : X.env.code = .ref c) (S : GenZ scope xa xb) (hi : PA X [e1, e2] ta) (hab : xa ≠ xb)
    (he : EltZ X.prog X.w scope (cloFrom X.env.cells scope.names []) xa xb elt pb)
    (hst : starEach [e1, e2] X.env = (false, eval e1 X.env) :: starEach [e2] X.env) (hpl : (backTo pos (starEach [e2] X.env)).any (·.1) = false)
    (hs : ∀ v, genFold (.Call (.Name "zip" p) [e1, e2] [] pos) X.env v = pure v) (I : Inv X pins σ H s) (h : ta σ H fun vs H1 => ∃ a b : Str, vs = [.str a, .str b] ∧ TabG H1 P ∧ R a b H1)
    (hQ : ∀ a b H1 g s5, R a b H1 → ReadyN X pins σ H1 P (min a.cps.size b.cps.size) (trZ pb a.cps.toList b.cps.toList) g s5 → Q' (.ref g) s5) :
    wpAny (model X.prog X.w) X.A (eval (.GeneratorExp elt [⟨.Tuple [.Name xa pa, .Name xb pb'] kt pt, .Call (.Name "zip" p) [e1, e2] [] pos, [], 0⟩] scope gpos) X.env) Q' X.xe s := by
  have deep := hr.dp
  refine wpAny_GeneratorExp_walksQT hr.hd S.co (closure_ok fun y hy e => absurd e (S.free y hy)) S.cell S.dot S.la S.lb hab S.kind (by omega) ?_ hs
  refine Call_ (ld_blt I hg hm PyProof.Rows.boot_zip (PyProof.Rows.callWith_type1 (thn (hi.run pos pins s σ H _ I h) fun us s1 ⟨vs, H1, I1, r1, q1⟩ => ?_) hst hpl))
  obtain ⟨a, b, ex, ⟨ps, hP, ht⟩, q1⟩ := q1
  subst ex
  obtain ⟨u, v, rfl, ru, rv⟩ := vals2 r1
  obtain ⟨t1, rfl⟩ := ru
  obtain ⟨t2, rfl⟩ := rv
  refine zip_begins2 (begins_text a t1) (begins_text b t2) trivial trivial fun hI hz hTI hTO h1 h2 hsz kI => wpAny_pyIter_zip hz ?_
  have eP : s1.heap.get? P = some { cls := .none, data := .fields ps } := I1.hok P _ hP
  have cl1 : cStatics < s1.heap.objs.size := let ⟨_, hns, _⟩ := I1.nolimit; hns.lt
  have cP : cStatics ≠ P := fun e => by
    obtain ⟨_, ⟨o', es, ep, ho, hd, _⟩, _⟩ := I1.nolimit
    rw [e, eP] at ho
    cases ho
    cases hd
  have lim : hI.NoLimit := I1.nolimit.keeps kI
  have eP2 : hI.get? P = some { cls := .none, data := .fields ps } := kI _ _ eP
  have cd : PySem.W.CodeHd hI c P := TB.code.keeps fun b u e => kI _ _ (I1.bk b u e)
  generalize hN : s1.heap.objs.size = N at hz hTI hTO h1 h2 hsz
  have lP : P < N := by rw [← hN]; exact Heap.lt_size eP
  -- behind the code object, whichever it is
  suffices cont : ∀ (code : Value) (h3 : Heap) (tk : Nat) (more : Array Value), Heap.ExtBut P hI h3 → hI.objs.size ≤ h3.objs.size → h3.get? P = some { cls := .none, data := .fields (ps ++ more) } → TriplesOk (ps ++ more).toList →
      wpAny (model X.prog X.w) X.A (builtinsFor X.env.globals X.env.builtins) (fun bi s4 =>
        ∃ Ia fp wr n0 Pf St0 Mid pz F, Value.ref (N + 4) = .ref Ia ∧ (∀ A' : Around, A'.handled = none → WalksU X.prog X.w A' Ia fp wr n0 Pf St0 Mid) ∧ (∀ i vals, Pf i vals → ∃ va vb, vals = #[va, vb]) ∧ St0 0 s4.heap ∧ (∀ b ∈ fp, b < s4.heap.objs.size) ∧ s4.heap.NoLimit ∧ cStatics ∉ wr ∧
          (∀ href : Heap, (∀ b u, s4.heap.get? b = some u → href.get? b = some u) →
            QuietGenT X.prog X.w (genEnv scope (cloFrom X.env.cells scope.names []) s4.heap.objs.size code bi X.env) xa xb [] elt (List.range s4.heap.objs.size) wr Pf pz F href) ∧
          (∀ g h5 tk gs, gs.bare = true → s4.heap.objs.size < g → h5.objs.size = g + 1 → (∀ b u, s4.heap.get? b = some u → h5.get? b = some u) →
            WalksS X.prog X.w X.A.in4 g (g :: s4.heap.objs.size :: List.range s4.heap.objs.size) (s4.heap.objs.size :: wr) (GenOnlyQ s4.gens.size) (passing pz n0 0).length
              (fun j v => ∃ i, (passing pz n0 0)[j]? = some i ∧ F i v) (GenAt X.prog X.w X.A.in4 g s4.gens.size s4.heap.objs.size (List.range s4.heap.objs.size) wr pz n0 F) →
            GenAt X.prog X.w X.A.in4 g s4.gens.size s4.heap.objs.size (List.range s4.heap.objs.size) wr pz n0 F 0 { s4 with gens := s4.gens.push gs, toks := tk, heap := h5 } →
            Q' (.ref g) { s4 with gens := s4.gens.push gs, toks := tk, heap := h5 })) X.xe { s1 with heap := h3, toks := tk } by
    refine ⟨lim, ?_⟩
    cases hf : codeAmong gpos ps.toList with
    | none =>
      refine wpAny_genexprCodeX hcode (cd.code eP2 ht) (cd.tab eP2) hf fun c' h' tk hx hge hlt hco' _ htab' _ => ?_
      obtain ⟨_, _, _, _, _, _, _, _, _, _, _, _, _, _, _, _, _, _, _, htr, _⟩ := hco'
      exact cont _ h' tk _ hx (Nat.le_trans hge (Nat.le_of_lt hlt)) htab'.2 htr
    | some cv =>
      refine wpAny_genexprCode_hit hcode (cd.code eP2 ht) hf (cont cv _ s1.toks #[] (Heap.ExtBut.refl _ _) (Nat.le_refl _) ?_ ?_)
      · rw [Array.append_empty]
        exact eP2
      · rw [Array.append_empty]
        exact ht
  intro code h3 tk more hx hsz3 eP3 ht3
  have old : ∀ b u, b ≠ P → s1.heap.get? b = some u → h3.get? b = some u := fun b u hb e => hx b u hb (kI _ _ e)
  obtain ⟨bm, ob, f1, f2, _, f4, f5, f6, f7, f8⟩ := TB.bm
  refine wpAny_builtinsFor (m := X.mg) (by rw [I1.ok.glob]; exact ((I1.mod.glob.keeps I1.bk).keeps kI).extBut hx TB.gP) f1 f2 (old _ _ f4 (I1.bk _ _ f5)) f6 f7 f8 ?_
  have sep := zs_apart N
  have nz : ∀ {b o}, hI.get? b = some o → b ≠ P → h3.get? b = some o := fun e n => hx _ _ n e
  have n0 : N ≠ P := Nat.ne_of_gt lP
  have n1 : N + 1 ≠ P := Nat.ne_of_gt (Nat.lt_of_lt_of_le lP (Nat.le_add_right N 1))
  have n2 : N + 2 ≠ P := Nat.ne_of_gt (Nat.lt_of_lt_of_le lP (Nat.le_add_right N 2))
  have n3 : N + 3 ≠ P := Nat.ne_of_gt (Nat.lt_of_lt_of_le lP (Nat.le_add_right N 3))
  have n4 : N + 4 ≠ P := Nat.ne_of_gt (Nat.lt_of_lt_of_le lP (Nat.le_add_right N 4))
  refine ⟨N + 4, _, [N + 4, N + 3, N, N + 1], min a.cps.size b.cps.size, _, _, _, fun _ => true, _, rfl, fun A' hA => (WalksT.zipD2 (prog := X.prog) (w := X.w) (A := A') sep (Draws.text (show A'.in1.handled = none from hA) N a t1) (Draws.text (show A'.in1.handled = none from hA) (N + 1) b t2)).toU, ?_, ?_, ?_, lim.extBut hx cP, ?_, fun href kp => quiet_zip he, ?_⟩
  · rintro i vals ⟨x1, x2, _, _, rfl⟩
    exact ⟨x1, x2, rfl⟩
  · exact ⟨nz hz n4, nz hTI n2, ⟨_, _, nz hTO n3⟩, ⟨_, nz h1 n0, rfl, rfl⟩, ⟨_, nz h2 n1, rfl, rfl⟩⟩
  · intro b hb
    have hb2 : b = N + 4 ∨ b = N + 2 ∨ b = N + 3 ∨ b = N ∨ b = N + 1 := by simpa using hb
    exact at_lt hb2 (by show N + 5 ≤ h3.objs.size; omega)
  · intro hb
    have hb2 : cStatics = N + 4 ∨ cStatics = N + 3 ∨ cStatics = N ∨ cStatics = N + 1 := by simpa using hb
    rw [hN] at cl1
    exact Nat.not_lt_of_le (at_ge hb2) cl1
  · intro g h5 tk5 gs hgb hag hsz5 hk5 W5 hat
    simp only [GxR.passing_true, List.length_range] at W5
    have out : ∀ b u, s1.heap.get? b = some u → b ∉ h3.objs.size :: [N + 4, N + 3, N, N + 1] := fun b u e hb => by
      have l1 := Heap.lt_size e
      rw [hN] at l1
      rcases List.mem_cons.mp hb with e9 | hb3
      · rw [e9] at l1
        exact Nat.lt_irrefl _ (Nat.lt_of_lt_of_le l1 (by omega))
      · have hb2 : b = N + 4 ∨ b = N + 3 ∨ b = N ∨ b = N + 1 := by simpa using hb3
        exact Nat.not_lt_of_le (at_ge hb2) l1
    refine hQ a b H1 g _ q1 ⟨_, _, _, _, _, W5.in4_1, hat, fun i v si Qi Ei hv hQi => ?_, fun s' mv => ?_⟩
    · obtain ⟨i', hii, cc, dd, hcc, hdd, rfl⟩ := hv
      obtain ⟨hj, ej⟩ := List.getElem?_eq_some_iff.mp hii
      rw [List.getElem_range] at ej
      subst ej
      have q : Qi (trZ _ a.cps.toList b.cps.toList i) si := hQi
      unfold trZ at q
      rw [(Array.getElem?_toList ..).trans hcc, (Array.getElem?_toList ..).trans hdd] at q
      exact wpAny_truthy_bool q
    · exact tab_two I1 hP ht3 mv (fun b u hb e => hk5 b u (old b u hb e)) (hk5 P _ eP3) (AllBare.movedS (I1.bare.push hgb) mv) rfl out
/-- all(e for a, b in zip(one, two)); behind it the table of the def may have grown -/
def tAllZ (P : Addr) (pb : Nat → Nat → Bool) (ta : TA) : TE := fun σ H Q => ta σ H fun vs H1 => ∃ a b : Str, vs = [.str a, .str b] ∧ TabG H1 P ∧ ∀ H2, Tabbed P H1 H2 → Q (.bl ((a.cps.toList.zip b.cps.toList).all fun p => pb p.1 p.2)) H2
theorem pe_allZ {c P : Addr} {e1 e2 elt : Expr} {xa xb : Str} {kt : Nat} {pa pb' pt p pz pos zpos gpos : Pos} {scope : Scope} {ta : TA} {k : Nat} {pb : Nat → Nat → Bool}
    (hr : Room k X.A) (hg : Gl X "all") (hm : X.mg "all" = none) (hb : bootBuiltins "all" = some (.builtin "all")) (hgz : Gl X "zip") (hmz : X.mg "zip" = none) (TB : TabB X.base X.mg c P) (hcode : X.env.code = .ref c) (S : GenZ scope xa xb) (hi : PA X [e1, e2] ta) (hab : xa ≠ xb)
    (hel : EltZ X.prog X.w scope (cloFrom X.env.cells scope.names []) xa xb elt pb)
    (hs : ∀ v, genFold (.Call (.Name "zip" pz) [e1, e2] [] zpos) X.env v = pure v)
    (hst : starEach [e1, e2] X.env = (false, eval e1 X.env) :: starEach [e2] X.env := by rfl) (hpl : (backTo zpos (starEach [e2] X.env)).any (·.1) = false := by rfl)
    (he : starEach [.GeneratorExp elt [⟨.Tuple [.Name xa pa, .Name xb pb'] kt pt, .Call (.Name "zip" pz) [e1, e2] [] zpos, [], 0⟩] scope gpos] X.env = (false, eval (.GeneratorExp elt [⟨.Tuple [.Name xa pa, .Name xb pb'] kt pt, .Call (.Name "zip" pz) [e1, e2] [] zpos, [], 0⟩] scope gpos) X.env) :: starEach [] X.env := by rfl) :
    PE X (.Call (.Name "all" p) [.GeneratorExp elt [⟨.Tuple [.Name xa pa, .Name xb pb'] kt pt, .Call (.Name "zip" pz) [e1, e2] [] zpos, [], 0⟩] scope gpos] [] pos) (tAllZ P pb ta) := by
  refine ⟨fun pins s σ H Q I h => ?_⟩
  refine wpAny_Call_Name_kw (ld_blt I hg hm hb ?_)
  refine PyProof.Rows.callWith_builtin1 ?_ he (by rfl)
  rw [he]
  show wpAny _ _ (spliced ((false, eval (.GeneratorExp elt [⟨.Tuple [.Name xa pa, .Name xb pb'] kt pt, .Call (.Name "zip" pz) [e1, e2] [] zpos, [], 0⟩] scope gpos) X.env) :: backTo pos (starEach [] X.env))) _ _ s
  refine Calls.spliced_cons (gen_zip (R := fun a b H1 => ∀ H2, Tabbed P H1 H2 → Q (.bl ((a.cps.toList.zip b.cps.toList).all fun p => pb p.1 p.2)) H2) hr hgz hmz TB hcode S hi hab hel hst hpl hs I h fun a b H1 g s5 hR hG => ?_)
  obtain ⟨fp, wr, G, F, St, W, hst0, htr, hI⟩ := hG
  refine Calls.spliced_nil ?_
  refine call_all_walkS (W.self 0 _ _ _ hst0 ⟨g, fp, wr, G, _, F, St, _, rfl, W, hst0, htr, fun s' hmv => ?_⟩)
  obtain ⟨H2, hT, J⟩ := hI s' hmv
  refine ⟨.bl _, H2, J, rfl, ?_⟩
  have e3 : a.cps.size = a.cps.toList.length := by simp
  have e4 : b.cps.size = b.cps.toList.length := by simp
  rw [e3, e4, all_trZ]
  exact hR H2 hT
end
section
variable {Ts : Fm} {σ : L2.St} {H : Hp}
theorem ev_allZ {P : Addr} {ta : TA} {a b : List Nat} {pb : Nat → Nat → Bool} (hP : TabIn Ts P) (h : EvA Ts ta σ H [sv a, sv b]) : Ev Ts (tAllZ P pb ta) σ H (.bl ((a.zip b).all fun p => pb p.1 p.2)) := fun H1 e Q q =>
  h H1 e _ fun H2 e2 => ⟨S a, S b, rfl, hP.tab e2.good, fun H3 t => q H3 (e2.trans (Ex.tabbed e2.good hP t))⟩
end
end Cw
set_option Elab.async false
set_option linter.all false
set_option maxRecDepth 100000
set_option maxHeartbeats 2000000
/-! types as values, is, lists put together, lists of new objects -/
namespace Cw
open PySem PySem.Spec PyProof.Rows L2
theorem pe_ty {X : Cx} {x : Str} {n : String} {pos : Pos} (hg : Gl X x) (hm : X.mg x = none) (hv : bootBuiltins x = some (.type n)) (hn : x ≠ "__name__" := by decide) (hd : (x == ("__debug__" : Str)) = false := by decide) : PE X (.Name x pos) (tC (.ty n)) :=
  ⟨fun pins s σ H Q I h => ld_blt I hg hm hv ⟨.ty n, H, I, rfl, h⟩ hn hd⟩
section
variable {Ts : Fm} {K : PySem.W.Frag} {w : World} {σ : L2.St} {H H0 H' : Hp} {ta tb te ti : TE} {t u : TT} {x y z v : V} {D : Ends}
theorem rc_isiS {a : Str} : RC Ts (rIsi K) [.str a, .ty "str"] H (.bl true) := fun H1 e _ q => ⟨.str a, .ty "str", .type "str", .type "str", true, rfl, .ty _, .base (.str _), kit_ty (by decide +kernel), q H1 (Ex.refl e.good)⟩
theorem rv_isB {a b : Bool} : RV Ts rIsB (.bl a) (.bl b) H (.bl (decide (a = b))) := fun H1 e _ q => ⟨a, b, rfl, rfl, q H1 (Ex.refl e.good)⟩
theorem rv_notB {a b : Bool} : RV Ts rNotB (.bl a) (.bl b) H (.bl (!decide (a = b))) := fun H1 e _ q => ⟨a, b, rfl, rfl, q H1 (Ex.refl e.good)⟩
theorem rv_ixT {p : Addr} {xs : List V} {i : Int} (g : p ∉ Ts) (h : SqT K H p xs) (ha : atI xs i = some v) : RV Ts (rIxT K) (.ref p) (.int i) H v := fun H1 e _ q => ⟨p, xs, i, v, rfl, rfl, e.t g h, ha, q H1 (Ex.refl e.good)⟩
theorem en_cat {l : Addr} {xs zs : List V} (nl : l ∉ Ts) (ha : Ev Ts ta σ H (.ref l)) (hl : H l = some (.lst xs)) (hb : EvN Ts tb σ H (.lst zs)) (hz : xs.length + zs.length ≤ 100000) : EvN Ts (tOp rCat ta tb) σ H (.lst (xs ++ zs)) := fun H1 e _ q =>
  ha H1 e _ fun H2 e2 => hb H2 (e.trans e2) _ fun p H3 n e3 hp => ⟨l, p, xs, zs, rfl, rfl, ((e.trans e2).trans e3).keep l _ nl hl, hp, Nat.le_trans hz (by decide), fun p2 hp2 => q p2 _ ((e2.trans e3).back hp2) ((e2.trans e3).trans (Ex.new e3.good hp2)) upd_same⟩
theorem st_appS {R : V → Hp → Prop} {i : Nat} {l : Addr} {xs : List V} (hl : σ[i]? = some (some (.ref l))) (h : H l = some (.lst xs)) (nl : l ∉ Ts) (hy : EvS Ts te σ H0 R) (e : Ex Ts H0 H) (hz : xs.length < 100000)
    (k : ∀ y H2, Ex Ts H H2 → R y H2 → H2 l = some (.lst xs) → D.nx σ (upd H2 l (.lst (xs ++ [y])))) : tDrop (tBM K "list" rAppend (tVar i) (tCons te tNil)) D σ H :=
  ⟨_, hl, .inl ⟨rfl, _, l_of h⟩, hy H e _ fun y H2 e2 r => ⟨l, xs, y, rfl, rfl, e2.keep l _ nl h, Nat.lt_trans hz (by decide), k y H2 e2 r (e2.keep l _ nl h)⟩⟩
/-- for x in l, l a list that is held -/
theorem st_forV {i j : Nat} {a : Addr} {xs : List V} {tb : TS} (hl : σ[i]? = some (some (.ref a))) (Pv : Nat → L2.St → Hp → Prop) (h0 : Pv 0 σ H) (hL : ∀ i σ H, Pv i σ H → SqL K H a xs)
    (hs : ∀ i x σ H (N : L2.St → Hp → Prop), xs[i]? = some x → Pv i σ H → (∀ σ2 H2, Pv (i + 1) σ2 H2 → N σ2 H2) → tb { D with nx := N, ct := N, bk := D.nx } (σ.set j (some x)) H)
    (hd : ∀ σ H, Pv xs.length σ H → D.nx σ H) : tFor (iList K (tVar i)) (gName j) tb D σ H := by
  refine ⟨_, hl, a, rfl, ⟨xs, hL 0 σ H h0⟩, ?_⟩
  refine for_it (walk_list (K := K) (a := a) (xs := xs)) Pv h0 (fun i σ H _ p => hL i σ H p) (fun i x σ H3 H4 _ p y => ?_) hd
  obtain ⟨rfl, hx⟩ := y
  exact hs i x σ H4 _ hx p fun σ2 H5 p5 => p5
theorem rc_int01 {c : Nat} (h : c = 48 ∨ c = 49) : RC Ts (fun xs H Q => ∃ a n, xs = [V.str a] ∧ PySem.intText? a = some n ∧ a.length ≤ 640 ∧ Q (.int n) H) [sv [c]] H (.int ((c - 48 : Nat) : Int)) := fun H1 e _ q => by
  rcases h with rfl | rfl
  · exact ⟨S [48], 0, rfl, by decide +kernel, by decide, q H1 (Ex.refl e.good)⟩
  · exact ⟨S [49], 1, rfl, by decide +kernel, by decide, q H1 (Ex.refl e.good)⟩
end
/-! ### what is refined -/
def rf1 (c d : Nat) : Prop := c = 48 ∨ c = 49 → d = c
inductive Rfs : List Nat → List Nat → Prop
  | nil : Rfs [] []
  | cons {a b : Nat} {as bs : List Nat} : rf1 a b → Rfs as bs → Rfs (a :: as) (b :: bs)
theorem rf1_refl (c : Nat) : rf1 c c := fun _ => rfl
theorem rf1_not {a a' : Nat} (h : rf1 a a') : rf1 (notB a) (notB a') := by
  unfold rf1 notB at *
  by_cases h1 : a = 48
  · rw [h (.inl h1), h1]
    exact fun _ => rfl
  · by_cases h2 : a = 49
    · rw [h (.inr h2), h2]
      exact fun _ => rfl
    · rw [if_neg h1, if_neg h2]
      omega
theorem rf1_and {a a' b b' : Nat} (h : rf1 a a') (g : rf1 b b') : rf1 (andB a b) (andB a' b') := by
  unfold rf1 andB at *
  split
  · rename_i x
    intro _
    rw [if_pos]
    omega
  · split
    · rename_i x y
      intro _
      rw [if_neg (by omega), if_pos (by omega)]
    · omega
theorem rf1_or {a a' b b' : Nat} (h : rf1 a a') (g : rf1 b b') : rf1 (orB a b) (orB a' b') := by
  unfold rf1 orB at *
  split
  · rename_i x
    intro _
    rw [if_pos]
    omega
  · split
    · rename_i x y
      intro _
      rw [if_neg (by omega), if_pos (by omega)]
    · omega
theorem rf1_xor {a a' b b' : Nat} (h : rf1 a a') (g : rf1 b b') : rf1 (xorB a b) (xorB a' b') := by
  unfold rf1 xorB at *
  split
  · rename_i x
    intro _
    rw [h x.1, g x.2, if_pos x]
  · omega
theorem rf1_ag {a a' b b' : Nat} (h : rf1 a a') (g : rf1 b b') : rf1 (agB a b) (agB a' b') := by
  unfold rf1 agB at *
  split
  · rename_i x
    intro _
    rw [h x.2, g (by rw [← x.1]; exact x.2), if_pos x]
  · omega
theorem Rfs.len {a b : List Nat} (h : Rfs a b) : a.length = b.length := by
  induction h with
  | nil => rfl
  | cons _ _ ih => rw [List.length_cons, List.length_cons, ih]
theorem Rfs.refl : ∀ a : List Nat, Rfs a a
  | [] => .nil
  | c :: r => .cons (rf1_refl c) (Rfs.refl r)
theorem Rfs.of_eq {a b : List Nat} (h : a = b) : Rfs a b := h ▸ Rfs.refl a
theorem Rfs.append {a b c d : List Nat} (h : Rfs a b) (g : Rfs c d) : Rfs (a ++ c) (b ++ d) := by
  induction h with
  | nil => exact g
  | cons x _ ih => exact .cons x ih
theorem Rfs.take {a b : List Nat} (h : Rfs a b) : ∀ n, Rfs (a.take n) (b.take n) := by
  induction h with
  | nil => intro n; rw [List.take_nil]; exact .nil
  | cons x _ ih =>
    intro n
    cases n with
    | zero => exact .nil
    | succ n => exact .cons x (ih n)
theorem Rfs.drop {a b : List Nat} (h : Rfs a b) : ∀ n, Rfs (a.drop n) (b.drop n) := by
  induction h with
  | nil => intro n; rw [List.drop_nil]; exact .nil
  | cons x g ih =>
    intro n
    cases n with
    | zero => exact .cons x g
    | succ n => exact ih n
theorem Rfs.map {f : Nat → Nat} (hf : ∀ a b, rf1 a b → rf1 (f a) (f b)) {a b : List Nat} (h : Rfs a b) : Rfs (a.map f) (b.map f) := by
  induction h with
  | nil => exact .nil
  | cons x _ ih => exact .cons (hf _ _ x) ih
theorem Rfs.zip {f : Nat → Nat → Nat} (hf : ∀ a a' b b', rf1 a a' → rf1 b b' → rf1 (f a b) (f a' b')) {a b : List Nat} (h : Rfs a b) : ∀ {c d : List Nat}, Rfs c d → Rfs ((a.zip c).map fun p => f p.1 p.2) ((b.zip d).map fun p => f p.1 p.2) := by
  induction h with
  | nil => intro c d _; exact .nil
  | cons x _ ih =>
    intro c d g
    cases g with
    | nil => exact .nil
    | cons y g => exact .cons (hf _ _ _ _ x y) (ih g)
theorem Rfs.fold {f : Nat → Nat → Nat} (hf : ∀ a a' b b', rf1 a a' → rf1 b b' → rf1 (f a b) (f a' b')) {a b : List Nat} (h : Rfs a b) : ∀ {e e' : Nat}, rf1 e e' → rf1 (a.foldl f e) (b.foldl f e') := by
  induction h with
  | nil => exact fun g => g
  | cons x _ ih => exact fun g => ih (hf _ _ _ _ g x)
theorem Rfs.get {a b : List Nat} (h : Rfs a b) : ∀ {i c : Nat}, a[i]? = some c → ∃ d, b[i]? = some d ∧ rf1 c d := by
  induction h with
  | nil => exact fun e => by cases e
  | @cons x y as bs g _ ih =>
    intro i c e
    cases i with
    | zero =>
      cases e
      exact ⟨y, rfl, g⟩
    | succ i => exact ih e
theorem Rfs.kn {a b : List Nat} (h : Rfs a b) : kn a = true → a = b := by
  induction h with
  | nil => exact fun _ => rfl
  | @cons x y as bs g _ ih =>
    intro e
    unfold Cw.kn at e
    rw [List.all_cons, Bool.and_eq_true] at e
    have hx : x = 48 ∨ x = 49 := by simpa using e.1
    rw [g hx, ih e.2]
theorem Rfs.x {a : List Nat} : ∀ {b : List Nat}, a.length = b.length → (∀ c ∈ a, c = 120) → Rfs a b := by
  induction a with
  | nil =>
    intro b e _
    cases b with
    | nil => exact .nil
    | cons y r => cases e
  | cons c r ih =>
    intro b e h
    cases b with
    | nil => cases e
    | cons y s =>
      refine .cons ?_ (ih (Nat.succ.inj e) fun z hz => h z (List.mem_cons_of_mem _ hz))
      rw [h c (List.mem_cons_self ..)]
      intro z
      omega
theorem Rfs.rep {b : List Nat} {n : Nat} (h : n = b.length) : Rfs (List.replicate n 120) b := Rfs.x (by rw [List.length_replicate]; exact h) fun _ hc => List.eq_of_mem_replicate hc
theorem Rfs.one {c d : Nat} (h : rf1 c d) : Rfs [c] [d] := .cons h .nil
theorem Rfs.ext {a b : List Nat} (h : Rfs a b) (w : Nat) : Rfs (ext w a) (ext w b) := by
  unfold Cw.ext
  rw [h.len]
  exact (Rfs.refl _).append h
theorem Rfs.exL {a b c d : List Nat} (h : Rfs a b) (g : Rfs c d) : Rfs (exL a c) (exL b d) := by
  unfold Cw.exL wid
  rw [h.len, g.len]
  exact h.ext _
theorem Rfs.exR {a b c d : List Nat} (h : Rfs a b) (g : Rfs c d) : Rfs (exR a c) (exR b d) := by
  unfold Cw.exR wid
  rw [h.len, g.len]
  exact g.ext _
theorem Rfs.map2 {f : Nat → Nat → Nat} (hf : ∀ a a' b b', rf1 a a' → rf1 b b' → rf1 (f a b) (f a' b')) {a b c d : List Nat} (h : Rfs a b) (g : Rfs c d) : Rfs (map2 f a c) (map2 f b d) := (h.exL g).zip hf (h.exR g)
/-- what is_refined tells -/
def irB (a b : List Nat) : Bool := decide (a.length = b.length) && (a.zip b).all fun p => (!decide (p.1 ∈ [48, 49])) || decide (p.1 = p.2)
theorem ir_of {a b : List Nat} (h : Rfs a b) : irB a b = true := by
  induction h with
  | nil => rfl
  | @cons x y as bs g _ ih =>
    unfold irB at *
    rw [Bool.and_eq_true, decide_eq_true_eq] at *
    rw [List.length_cons, List.length_cons, List.zip_cons_cons, List.all_cons, Bool.and_eq_true]
    refine ⟨by omega, ?_, ih.2⟩
    by_cases hx : x = 48 ∨ x = 49
    · rw [g hx]
      simp
    · simp [hx]
theorem ir_len {a b : List Nat} (h : a.length ≠ b.length) : irB a b = false := by
  unfold irB
  rw [decide_eq_false h, Bool.false_and]
theorem ir_not {a b : List Nat} {i c d : Nat} (ha : a[i]? = some c) (hb : b[i]? = some d) (hc : c = 48 ∨ c = 49) (hd : c ≠ d) : irB a b = false := by
  unfold irB
  rw [Bool.and_eq_false_iff]
  refine .inr (List.all_eq_false.mpr ⟨(c, d), List.mem_of_getElem? (i := i) (List.getElem?_zip_eq_some.mpr ⟨ha, hb⟩), ?_⟩)
  have h1 : c ∈ [48, 49] := by simpa using hc
  show ¬ ((!decide (c ∈ [48, 49])) || decide (c = d)) = true
  rw [decide_eq_true h1, decide_eq_false hd]
  exact Bool.false_ne_true
end Cw
set_option Elab.async false
set_option linter.all false
set_option maxRecDepth 100000
set_option maxHeartbeats 2000000
/-! chains of comparisons; calls with keywords; own errors with a name -/
namespace Cw
open PySem PySem.Spec PyProof.Rows L2
section
variable {X : Cx} {a b c d : Expr} {ta tb tc td : TE} {pos : Pos}
/-- a op1 b op2 c op3 d, as a test -/
def tChain3 (r r' r'' : R2) (ta tb tc td : TE) : TE := fun σ H Q => ta σ H fun x H1 => tb σ H1 fun y H2 => r x y H2 fun z H3 => ∃ k, z = .bl k ∧
  (if k = true then tc σ H3 fun u H4 => r' y u H4 fun z' H5 => ∃ k', z' = .bl k' ∧ (if k' = true then td σ H5 fun w' H6 => r'' u w' H6 Q else Q (.bl false) H5) else Q (.bl false) H3)
theorem pt_chain3 {op op' op'' : CmpOp} {r r' r'' : R2} (ho : OpR X (compareOp op) r) (ho' : OpR X (compareOp op') r') (ho2 : OpR X (compareOp op'') r'') (ha : PE X a ta) (hb : PE X b tb) (hc : PE X c tc) (hd : PE X d td)
    (hm : lastMarks [op, op', op''] [b, c, d] = false := by with_unfolding_all rfl) : PT X (.Compare a [op, op', op''] [b, c, d] pos) (tTest (tChain3 r r' r'' ta tb tc td)) := by
  refine ⟨fun pins s σ H Q I h => ?_⟩
  refine isTrue_chain (thn (ha.run pins s σ H _ I h) fun v s1 ⟨x, H1, I1, r1, q1⟩ => test_link (thn (hb.run pins s1 σ H1 _ I1 q1) fun u s2 ⟨y, H2, I2, r2, q2⟩ =>
    thn (ho pins s2 σ H2 x y v u _ I2 r1 r2 q2) fun d3 s3 ⟨z, H3, I3, r3, k, e, q3⟩ => ?_)) hm
  subst e
  cases r3
  refine wpAny_truthy_bool ?_
  cases k with
  | false =>
    obtain ⟨k2, e2, q4⟩ := q3
    cases e2
    exact ite_ff ⟨H3, I3, q4⟩
  | true =>
    refine ite_tt (test_link (thn (hc.run pins s3 σ H3 _ I3 q3) fun u' s4 ⟨z', H4, I4, r4, q4⟩ => thn (ho' pins s4 σ H4 y z' u u' _ I4 r2 r4 q4) fun d5 s5 ⟨z5, H5, I5, r5, k', e', q5⟩ => ?_))
    subst e'
    cases r5
    refine wpAny_truthy_bool ?_
    cases k' with
    | false =>
      obtain ⟨k2, e2, q6⟩ := q5
      cases e2
      exact ite_ff ⟨H5, I5, q6⟩
    | true =>
      refine ite_tt (test_last (thn (hd.run pins s5 σ H5 _ I5 q5) fun w' s6 ⟨z6, H6, I6, r6, q6⟩ => thn (ho2 pins s6 σ H6 z' z6 u' w' _ I6 r4 r6 q6) fun d7 s7 ⟨z7, H7, I7, r7, k7, e7, q7⟩ => ?_))
      subst e7
      cases r7
      exact wpAny_truthy_bool ⟨H7, I7, q7⟩
end
/-! ### a call with keywords, that may raise -/
def tCallNS (n m : Nat) (sp : Sp) (gV : List V → List V → List V) (E : L2.St → XK) (t tk : TA) : TE := fun σ H Q => t σ H fun vs H1 => tk σ H1 fun zs H2 => vs.length = n ∧ zs.length = m ∧ sp (gV vs zs) H2 Q (E σ)
section
variable {X : Cx} {CX : CXT} {k n : Nat} {f : Addr} {fd : FuncData} {ps ks : List Str} {sp : Sp} {E : L2.St → XK} {x : Str} {p pos : Pos} {e : Expr} {es : List Expr} {kws : List Keyword} {t tk : TA} {g : List Value → List Value → List Value} {gV : List V → List V → List V}
theorem run_fnNS {pins : List (Addr × Obj)} {σ : L2.St} {H : Hp} {s : Shared} {Q : VK} {us ws : List Value} {vs zs : List V} (F : FnOk X.prog X.w X.K X.mg X.base CX k f fd ps sp) (hr : Room k X.A) (hb : KBn X.K fd ps n ks g gV) (hx : PassesAt CX X σ (E σ))
    (I : Inv X pins σ H s) (r : Vals vs us) (rz : Vals zs ws) (l1 : vs.length = n) (l2 : zs.length = ks.length) (h : sp (gV vs zs) H Q (E σ)) : wpAny (model X.prog X.w) X.A (call (.ref f) us (ks.zip ws)) (EP X pins σ Q) X.xe s := by
  have r2 := hb.rel r rz
  refine wpAny_call (codeAny_mono (F.run X.A X.stack s H ⟨us, ks.zip ws⟩ (g us ws) (gV vs zs) Q (E σ) hr I.env0 (hb.to s us ws I.kIn (r.length.symm.trans l1) (rz.length.symm.trans l2)) r2 h) fun r s' hq => ?_)
  cases r with
  | error e => exact hx pins H s e s' I hq
  | ok fl =>
    cases fl with
    | ret u => exact I.after hq
    | next => exact False.elim hq
    | brk => exact False.elim hq
    | cont => exact False.elim hq
theorem pe_callNS (F : FnOk X.prog X.w X.K X.mg X.base CX k f fd ps sp) (hr : Room k X.A) (hg : Gl X x) (hm : X.mg x = some (.ref f)) (hk : PySem.W.keepIn X.K (.ref f) = true) (hb : KBn X.K fd ps n ks g gV) (hx : ∀ σ, PassesAt CX X σ (E σ))
    (ha : PA X (e :: es) t) (hkw : PK X kws tk) (hall : (backToKw pos (keywordEach kws X.env)).all (·.1.isSome) = true := by rfl) (hks : (backToKw pos (keywordEach kws X.env)).filterMap (·.1) = ks := by rfl)
    (hdb : (x == ("__debug__" : Str)) = false := by decide) (he : starEach (e :: es) X.env = (false, eval e X.env) :: starEach es X.env := by rfl)
    (hpl : ((backTo pos (starEach (e :: es) X.env)).any (·.1) || (backToKw pos (keywordEach kws X.env)).any (·.1.isNone)) = false := by rfl) :
    PE X (.Call (.Name x p) (e :: es) kws pos) (tCallNS n ks.length sp gV E t tk) := by
  refine ⟨fun pins s σ H Q I h => ?_⟩
  refine wpAny_Call_Name_kw (ld_glob I hg hm ?_ hdb)
  refine PySem.W.callWith_KW (h₀ := X.base) I.ok.mod.kin hk hall (thn (ha.run pos pins s σ H _ I h) fun us s1 ⟨vs, H1, I1, r, q⟩ => ?_) hpl he
  refine thn (hkw.run pos pins s1 σ H1 _ I1 q) fun ws s2 ⟨zs, H2, I2, rz, l1, l2, q2⟩ => ⟨I2.kIn, ?_⟩
  rw [hks]
  exact run_fnNS F hr hb (hx σ) I2 r rz l1 l2 q2
end
/-- a def of the module that may raise -/
structure CalleeX (P : Program) (w : World) (K : PySem.W.Frag) (mg : Str → Option Value) (base : Heap) (x : Str) (k : Nat) (ps : List Str) (sp : Sp) : Prop where
  out : ∃ (f : Addr) (fd : FuncData), FnOk P w K mg base (L2.CX P w) k f fd ps sp ∧ mg x = some (.ref f) ∧ PySem.W.keepIn K (.ref f) = true ∧ Binds K fd ps []
/-- … with n values and the rest by keyword -/
structure CalleeK (P : Program) (w : World) (K : PySem.W.Frag) (mg : Str → Option Value) (base : Heap) (x : Str) (k : Nat) (ps : List Str) (n : Nat) (ks : List Str) (sp : Sp) : Prop where
  out : ∃ (f : Addr) (fd : FuncData), FnOk P w K mg base (L2.CX P w) k f fd ps sp ∧ mg x = some (.ref f) ∧ PySem.W.keepIn K (.ref f) = true ∧ KBn K fd ps n ks (fun a b => a ++ b) (fun a b => a ++ b)
theorem pe_fnX {X : Cx} {W : WX} {x : Str} {k : Nat} {ps : List Str} {sp : Sp} {p pos : Pos} {e : Expr} {es : List Expr} {t : TA} (tk : Takes X W) (C : CalleeX X.prog X.w X.K X.mg X.base x k ps sp) (hr : Room k X.A) (hg : Gl X x) (ha : PA X (e :: es) t)
    (hdb : (x == ("__debug__" : Str)) = false := by decide) (he : starEach (e :: es) X.env = (false, eval e X.env) :: starEach es X.env := by rfl) (hpl : (backTo pos (starEach es X.env)).any (·.1) = false := by rfl) :
    PE X (.Call (.Name x p) (e :: es) [] pos) (tCallS sp (WE W) t) := by
  obtain ⟨f, fd, F, hm, hk, hb⟩ := C.out
  exact pe_callS F hr hg hm hk hb (fun σ => passAt tk σ) ha hdb he hpl
theorem pe_fnK {X : Cx} {W : WX} {x : Str} {k n : Nat} {ps ks : List Str} {sp : Sp} {p pos : Pos} {e : Expr} {es : List Expr} {kws : List Keyword} {t tz : TA} (tk : Takes X W) (C : CalleeK X.prog X.w X.K X.mg X.base x k ps n ks sp) (hr : Room k X.A) (hg : Gl X x) (ha : PA X (e :: es) t) (hkw : PK X kws tz)
    (hall : (backToKw pos (keywordEach kws X.env)).all (·.1.isSome) = true := by rfl) (hks : (backToKw pos (keywordEach kws X.env)).filterMap (·.1) = ks := by rfl)
    (hdb : (x == ("__debug__" : Str)) = false := by decide) (he : starEach (e :: es) X.env = (false, eval e X.env) :: starEach es X.env := by rfl)
    (hpl : ((backTo pos (starEach (e :: es) X.env)).any (·.1) || (backToKw pos (keywordEach kws X.env)).any (·.1.isNone)) = false := by rfl) :
    PE X (.Call (.Name x p) (e :: es) kws pos) (tCallNS n ks.length sp (fun a b => a ++ b) (WE W) t tz) := by
  obtain ⟨f, fd, F, hm, hk, hb⟩ := C.out
  exact pe_callNS F hr hg hm hk hb (fun σ => passAt tk σ) ha hkw hall hks hdb he hpl
/-! ### promises of defs that may raise an error with the field «name» -/
def FnX (Tt : List Addr) {α : Type} (enc : α → List V) (dom : Fm → α → Hp → Prop) (res : α → V) (err : α → Option (Addr × V)) : Sp := fun vs H Q E => ∃ (Ts : Fm) (_ : Tb Tt Ts) (x : α), vs = enc x ∧ dom Ts x H ∧ Good Ts H ∧
  (err x = none → ∀ H', Ex Ts H H' → Q (res x) H') ∧ (∀ C v, err x = some (C, v) → ∀ d H', Ex Ts H H' → H d = none → H' d = some (.xd [(("name" : Str), v)]) → E (.ref C) (some d) H')
/-- what te is worth, or the error that it ends in -/
def EvW (Ts : Fm) (W : WX) (te : TE) (σ : L2.St) (H : Hp) (v : V) (err : Option (Addr × V)) : Prop := ∀ H1, Ex Ts H H1 → ∀ Q : VK, (err = none → ∀ H2, Ex Ts H1 H2 → Q v H2) →
  (∀ C u, err = some (C, u) → ∀ d H2, Ex Ts H1 H2 → H1 d = none → H2 d = some (.xd [(("name" : Str), u)]) → W (.ref C) (some d) σ H2) → te σ H1 Q
section
variable {Ts : Fm} {K : PySem.W.Frag} {w : World} {σ : L2.St} {H H0 H' : Hp} {ta tb te ti : TE} {tr tz : TA} {t u : TT} {x y z v : V} {D : Ends} {W : WX} {α : Type} {enc : α → List V} {Tt : List Addr} {dom : Fm → α → Hp → Prop} {res : α → V} {err : α → Option (Addr × V)}
theorem ew_call (x : α) (h : EvA Ts tr σ H (enc x)) (hd : ∀ H2, Ex Ts H H2 → dom Ts x H2) (hTb : Tb Tt Ts := by assumption) : EvW Ts W (tCallS (FnX Tt enc dom res err) (WE W) tr) σ H (res x) (err x) := fun H1 e Q q qx =>
  h H1 e _ fun H2 e2 => ⟨Ts, hTb, x, rfl, hd H2 (e.trans e2), e2.good, fun ok H3 e3 => q ok H3 (e2.trans e3), fun C u he d H3 e3 n hx => qx C u he d H3 (e2.trans e3) (e2.back n) hx⟩
theorem ew_callK {n m : Nat} {vs zs : List V} (x : α) (h : EvA Ts tr σ H vs) (hz : EvA Ts tz σ H zs) (hx : vs ++ zs = enc x) (l1 : vs.length = n) (l2 : zs.length = m) (hd : ∀ H2, Ex Ts H H2 → dom Ts x H2) (hTb : Tb Tt Ts := by assumption) : EvW Ts W (tCallNS n m (FnX Tt enc dom res err) (fun a b => a ++ b) (WE W) tr tz) σ H (res x) (err x) := fun H1 e Q q qx =>
  h H1 e _ fun H2 e2 => hz H2 (e.trans e2) _ fun H3 e3 => ⟨l1, l2, Ts, hTb, x, hx, hd H3 ((e.trans e2).trans e3), e3.good, fun ok H4 e4 => q ok H4 ((e2.trans e3).trans e4), fun C u he d H4 e4 n hx => qx C u he d H4 ((e2.trans e3).trans e4) ((e2.trans e3).back n) hx⟩
theorem EvW.ev (h : EvW Ts W te σ H v none) : Ev Ts te σ H v := fun H1 e Q q => h H1 e Q (fun _ => q) fun C u z => by cases z
theorem EvW.ok {o : Option (Addr × V)} (h : EvW Ts W te σ H v o) (e : o = none) : Ev Ts te σ H v := by
  subst e
  exact h.ev
theorem st_dropW {o : Option (Addr × V)} (h : EvW Ts W te σ H0 v o) (e : Ex Ts H0 H) (k : o = none → ∀ H2, Ex Ts H0 H2 → D.nx σ H2) (kx : ∀ C u, o = some (C, u) → ∀ d H2, Ex Ts H0 H2 → H0 d = none → H2 d = some (.xd [(("name" : Str), u)]) → W (.ref C) (some d) σ H2) : tDrop te D σ H :=
  h H e _ (fun ok H2 e2 => k ok H2 (e.trans e2)) fun C u he d H2 e2 n hx => kx C u he d H2 (e.trans e2) (e.back n) hx
theorem st_retW {o : Option (Addr × V)} (h : EvW Ts W te σ H0 v o) (e : Ex Ts H0 H) (k : o = none → ∀ H2, Ex Ts H0 H2 → D.rt v H2) (kx : ∀ C u, o = some (C, u) → ∀ d H2, Ex Ts H0 H2 → H0 d = none → H2 d = some (.xd [(("name" : Str), u)]) → W (.ref C) (some d) σ H2) : tRet te D σ H :=
  h H e _ (fun ok H2 e2 => k ok H2 (e.trans e2)) fun C u he d H2 e2 n hx => kx C u he d H2 (e.trans e2) (e.back n) hx
theorem st_setW {i : Nat} {o : Option (Addr × V)} (h : EvW Ts W te σ H0 v o) (e : Ex Ts H0 H) (k : o = none → ∀ H2, Ex Ts H0 H2 → D.nx (σ.set i (some v)) H2) (kx : ∀ C u, o = some (C, u) → ∀ d H2, Ex Ts H0 H2 → H0 d = none → H2 d = some (.xd [(("name" : Str), u)]) → W (.ref C) (some d) σ H2) : tAsg te (gName i) D σ H :=
  h H e _ (fun ok H2 e2 => k ok H2 (e.trans e2)) fun C u he d H2 e2 n hx => kx C u he d H2 (e.trans e2) (e.back n) hx
/-! ### the error made -/
/-- __init__: self.name = name -/
def FnIni (K : PySem.W.Frag) : Sp := fun vs H Q _ => ∃ a C v, vs = [.ref a, v] ∧ H a = some (exo a C none) ∧ OexC K C ∧ PySem.W.findIn K (.ref C) "name" = some none ∧
  ∀ dx, H dx = none → dx ≠ a → Q .non (upd (upd H dx (exd dx [(("name" : Str), v)])) a (exo a C (some dx)))
theorem ini_body {C : V → Prop} {H : Hp} {v : V} {a : Addr} {Cl : Addr} {Q : VK} (T : OexC K Cl) (hno : PySem.W.findIn K (.ref Cl) "name" = some none) (ha : H a = some (exo a Cl none)) (q : ∀ dx, H dx = none → dx ≠ a → Q .non (upd (upd H dx (exd dx [(("name" : Str), v)])) a (exo a Cl (some dx)))) :
    tOst K "name" (tVar 0) (tVar 1) { nx := fun _ H' => Q .non H', rt := Q } [some (.ref a), some v] H :=
  ⟨v, rfl, .ref a, rfl, a, Cl, rfl, T, hno, .inl ⟨ha, fun dx n ne => q dx n ne⟩⟩
/-- raise C(v) -/
theorem st_raise {Cl : Addr} {ta : TA} (hv : EvA Ts ta σ H0 [v]) (T : OexC K Cl) (hno : PySem.W.findIn K (.ref Cl) "name" = some none) (e : Ex Ts H0 H) (k : ∀ d H2, Ex Ts H0 H2 → H0 d = none → H2 d = some (.xd [(("name" : Str), v)]) → W (.ref Cl) (some d) σ H2) :
    tMkO Cl (FnIni K) [] ta σ H fun cls d H' => W cls d σ H' := hv H e _ fun H1 e1 => ⟨by show 1 ≤ 1000; decide, fun a na => ⟨a, Cl, v, rfl, upd_same, T, hno, fun dx n ne => ⟨rfl, dx, [(("name" : Str), v)], upd_same, by rw [upd_ne ne, upd_same], by rw [upd_ne ne] at n; exact n, by
  have n1 : H1 dx = none := by
    rw [upd_ne ne] at n
    exact n
  have nT : dx ∉ Ts := e1.good.free n1
  have eq : upd (del (upd (upd (upd H1 a (exo a Cl none)) dx (exd dx [(("name" : Str), v)])) a (exo a Cl (some dx))) a) dx (.xd [(("name" : Str), v)]) = upd H1 dx (.xd [(("name" : Str), v)]) := by
    funext b
    by_cases hb : b = dx
    · rw [hb, upd_same, upd_same]
    · rw [upd_ne hb, upd_ne hb]
      by_cases hb2 : b = a
      · rw [hb2, del_same, na]
      · rw [del_ne hb2, upd_ne hb2, upd_ne hb, upd_ne hb2]
  rw [eq]
  exact k dx _ ((e.trans e1).trans (Ex.new e1.good n1)) ((e.trans e1).back n1) upd_same⟩⟩⟩
end
end Cw
set_option Elab.async false
set_option linter.all false
set_option maxRecDepth 100000
set_option maxHeartbeats 2000000
/-! an error in hand: its name, its class; chains; lists copied -/
namespace Cw
open PySem PySem.Spec PyProof.Rows L2
theorem pe_globI {X : Cx} {x : Str} {i : Int} {pos : Pos} (hg : Gl X x) (hm : ∃ t, X.mg x = some (.int i t)) (hd : (x == ("__debug__" : Str)) = false := by decide) : PE X (.Name x pos) (tC (.int i)) := by
  obtain ⟨t, hm⟩ := hm
  exact pe_glob hg hm ⟨t, rfl⟩ hd
/-- what an own class over ValueError must say, that its errors are made, held and asked -/
structure ErrC (K : PySem.W.Frag) (mg : Str → Option Value) (x : Str) (C fI : Addr) : Prop where
  gC : mg x = some (.ref C)
  o : OexC K C
  xf : XfC K C
  noN : PySem.W.findIn K (.ref C) "name" = some none
  iC : PySem.W.findIn K (.ref C) "__init__" = some (some (.ref fI))
  tI : PySem.W.typeIn K (.ref fI) = some (.type "function")
  cC : PySem.W.findIn K (.ref C) "__class__" = some (some (.builtin "object.__class__"))
  nC : PySem.W.specialIn K (.builtin "object.__class__") "__get__" = some (some (.builtin "getset_descriptor.__get__"))
  kC : PySem.W.takesIn K (.builtin "object.__class__") = some true
  mC : PySem.W.mroIn K C (.type "object") = some true
  lC : PySem.W.isClsIn K C = true
/-- isinstance(e, c), e the error that the suite holds -/
def rIsX (K : PySem.W.Frag) (mg : Str → Option Value) (a : Addr) (cls : Value) (d : Option Addr) : List V → Hp → VK → Prop := fun xs H Q => ∃ (x : Str) (D fI : Addr) (c : V) (cv : Value) (b : Bool) (dd : Addr) (fs : List (Str × V)), xs = [.ref a, c] ∧ cls = .ref D ∧ ErrC K mg x D fI ∧ d = some dd ∧ H dd = some (.xd fs) ∧
  (∀ u, RelV c u → u = cv) ∧ PySem.W.kitOne K (.ref D) cv = some b ∧ Q (.bl b) H
theorem call_isX {X : Cx} {a : Addr} {cls : Value} {d : Option Addr} {oe : Obj} {pn : List (Addr × Obj)} (hz : Zc cls d oe) (hf : ∃ vs, oe.data = .fields vs) : CallR (X.suite a ((a, oe) :: pn)) (.builtin "isinstance") (rIsX X.K X.mg a cls d) := by
  intro pins s σ H xs us Q I r h
  obtain ⟨x, D, fI, c, cv, b, dd, fs, rfl, ec, C, ed, hH, hcv, e, q⟩ := h
  subst ec ed
  cases r with
  | cons rx rr =>
    cases rr with
    | cons rt rr =>
      cases rr
      cases rx
      have ec := hcv _ rt
      subst ec
      obtain ⟨hget, _⟩ := I.pin (a, oe) (List.mem_append.mpr (.inl List.mem_cons_self))
      obtain ⟨vs, hv⟩ := hf
      have hx : ObjOk X.prog X.w H s.heap dd (.xd fs) := I.hok dd _ hH
      obtain ⟨mA, hns, hr⟩ := hx
      obtain ⟨od, ho, hl⟩ := lookIn_ns hns
      have J : PySem.W.InstAt s.heap a oe D (some od) := ⟨hget, hz.1, by unfold PySem.W.notCls; rw [hv] <;> rfl, by rw [hz.2]; exact ho⟩
      exact PySem.W.kia_one (PySem.W.kitx_exc (od := some od) C.lC C.xf.ga C.xf.gg C.xf.exC C.cC C.nC C.kC C.mC) I.kIn J e (fun z => nomatch z) fun tk => ⟨.bl b, H, I.kept (t' := tk) fun _ _ z => z, rfl, q⟩
/-- e.n, e the error that the suite holds -/
def tXn (K : PySem.W.Frag) (mg : Str → Option Value) (a : Addr) (cls : Value) (d : Option Addr) (f : Str) (te : TE) : TE := fun σ H Q => te σ H fun x H1 => x = .ref a ∧ ∃ (y : Str) (C fI : Addr) (dd : Addr) (fs : List (Str × V)) (v : V), cls = .ref C ∧ ErrC K mg y C fI ∧ f = "name" ∧ d = some dd ∧ H1 dd = some (.xd fs) ∧ fs.lookup f = some v ∧ Q v H1
theorem pe_xn {X : Cx} {a : Addr} {oe : Obj} {cls : Value} {d : Option Addr} {pn : List (Addr × Obj)} {e : Expr} {te : TE} {pos : Pos} {n : Str} (hz : Zc cls d oe) (hf : ∃ vs, oe.data = .fields vs) (he : PE (X.suite a ((a, oe) :: pn)) e te)
    (hb : attributeBase e n X.env (eval e X.env) = eval e X.env := by rfl) : PE (X.suite a ((a, oe) :: pn)) (.Attribute e n pos) (tXn X.K X.mg a cls d n te) := by
  refine ⟨fun pins s σ H Q I h => ?_⟩
  refine attr_of hb (thn (he.run pins s σ H _ I h) fun u s1 hh => ?_)
  obtain ⟨x, H1, I1, rx, ex, y, C, fI, dd, fs, v, ec, T, en, ed, ea, l, q⟩ := hh
  subst ex
  obtain rfl : u = Value.ref a := rx
  subst ec ed en
  obtain ⟨ha, _⟩ := I1.pin (a, oe) (List.mem_append_left _ List.mem_cons_self)
  obtain ⟨vs, hd⟩ := hf
  have hx : ObjOk X.prog X.w H1 s1.heap dd (.xd fs) := I1.hok dd _ ea
  obtain ⟨mA, hns, hr⟩ := hx
  obtain ⟨od, ho, hl⟩ := lookIn_ns hns
  obtain ⟨u, hu, ru⟩ := RelO.some_of (v := v) (o := mA "name") (by rw [← l]; exact hr "name")
  have J : PySem.W.InstAt s1.heap a oe C (some od) := ⟨ha, hz.1, by unfold PySem.W.notCls; rw [hd] <;> rfl, by rw [hz.2]; exact ho⟩
  exact HandSPX.exc_get I1.kIn J T.xf.ga T.xf.gg T.xf.exC (PySem.W.findObj_own T.xf.hdC T.noN rfl (by rw [hl, hu])) (handed_of ru) ⟨v, H1, I1.tok _, ru, q⟩
section
variable {Ts : Fm} {K : PySem.W.Frag} {mg : Str → Option Value} {w : World} {σ : L2.St} {H H0 H' : Hp} {ta tb tc td te ti : TE} {tr tz : TA} {t u : TT} {x y z v : V} {D : Ends} {W : WX} {r r' r'' : R2}
theorem name_at (v : V) : List.lookup ("name" : Str) [(("name" : Str), v)] = some v := by simp [List.lookup]
theorem ev_xn {a dd C fI : Addr} {s : Str} (he : Ev Ts te σ H (.ref a)) (T : ErrC K mg s C fI) (nd : dd ∉ Ts) (hx : H dd = some (.xd [(("name" : Str), v)])) : Ev Ts (tXn K mg a (.ref C) (some dd) "name" te) σ H v := fun H1 e Q q =>
  he H1 e _ fun H2 e2 => ⟨rfl, s, C, fI, dd, _, v, rfl, T, rfl, rfl, (e.trans e2).keep dd _ nd hx, name_at v, q H2 e2⟩
theorem rc_isX {a dd C fI c : Addr} {s : Str} {b : Bool} {fs : List (Str × V)} (T : ErrC K mg s C fI) (nd : dd ∉ Ts) (hx : H dd = some (.xd fs)) (hk : PySem.W.kitOne K (.ref C) (.ref c) = some b) : RC Ts (rIsX K mg a (.ref C) (some dd)) [.ref a, .ref c] H (.bl b) := fun H1 e _ q =>
  ⟨s, C, fI, .ref c, .ref c, b, dd, fs, rfl, rfl, T, rfl, e.keep dd _ nd hx, fun _ r => r, hk, q H1 (Ex.refl e.good)⟩
theorem rc_isiI {n : String} {i : Int} {b : Bool} (h : kitB "int" n = some b) : RC Ts (rIsi K) [.int i, .ty n] H (.bl b) := fun H1 e _ q => ⟨.int i, .ty n, .type "int", .type n, b, rfl, .ty _, .base (.int _), kit_ty h, q H1 (Ex.refl e.good)⟩
/-! ### chains -/
theorem ev_chain {k k' : Bool} (ha : Ev Ts ta σ H x) (hb : Ev Ts tb σ H y) (hr : RV Ts r x y H (.bl k)) (hc : k = true → Ev Ts tc σ H z) (hr' : k = true → RV Ts r' y z H (.bl k')) : Ev Ts (tChain r r' ta tb tc) σ H (.bl (k && k')) := fun H1 e Q q =>
  ha H1 e _ fun H2 e2 => hb H2 (e.trans e2) _ fun H3 e3 => hr H3 ((e.trans e2).trans e3) _ fun H4 e4 => ⟨k, rfl, by
    have e14 := (e2.trans e3).trans e4
    cases k with
    | false =>
      rw [if_neg Bool.false_ne_true]
      exact q H4 e14
    | true =>
      rw [if_pos rfl]
      exact hc rfl H4 (e.trans e14) _ fun H5 e5 => hr' rfl H5 ((e.trans e14).trans e5) Q fun H6 e6 => q H6 ((e14.trans e5).trans e6)⟩
theorem ev_chain3 {k k' k2 : Bool} (ha : Ev Ts ta σ H x) (hb : Ev Ts tb σ H y) (hr : RV Ts r x y H (.bl k)) (hc : k = true → Ev Ts tc σ H z) (hr' : k = true → RV Ts r' y z H (.bl k')) (hd : k = true → k' = true → Ev Ts td σ H v) (hr2 : k = true → k' = true → RV Ts r'' z v H (.bl k2)) :
    Ev Ts (tChain3 r r' r'' ta tb tc td) σ H (.bl (k && (k' && k2))) := fun H1 e Q q =>
  ha H1 e _ fun H2 e2 => hb H2 (e.trans e2) _ fun H3 e3 => hr H3 ((e.trans e2).trans e3) _ fun H4 e4 => ⟨k, rfl, by
    have e14 := (e2.trans e3).trans e4
    cases k with
    | false =>
      rw [if_neg Bool.false_ne_true]
      exact q H4 e14
    | true =>
      rw [if_pos rfl]
      refine hc rfl H4 (e.trans e14) _ fun H5 e5 => hr' rfl H5 ((e.trans e14).trans e5) _ fun H6 e6 => ⟨k', rfl, ?_⟩
      have e16 := (e14.trans e5).trans e6
      cases k' with
      | false =>
        rw [if_neg Bool.false_ne_true]
        exact q H6 e16
      | true =>
        rw [if_pos rfl]
        exact hd rfl rfl H6 (e.trans e16) _ fun H7 e7 => hr2 rfl rfl H7 ((e.trans e16).trans e7) Q fun H8 e8 => q H8 ((e16.trans e7).trans e8)⟩
/-! ### copies; join of what is held -/
def rListOf (K : PySem.W.Frag) : List V → Hp → VK → Prop := fun xs H Q => ∃ p ys, xs = [.ref p] ∧ (SqL K H p ys ∨ SqT K H p ys) ∧ ∀ l, H l = none → Q (.ref l) (upd H l (.lst ys))
def rTupOf (K : PySem.W.Frag) : List V → Hp → VK → Prop := fun xs H Q => ∃ p ys, xs = [.ref p] ∧ ((SqL K H p ys ∧ ∀ l, H l = none → Q (.ref l) (upd H l (.tup ys))) ∨ (SqT K H p ys ∧ Q (.ref p) H))
theorem en_listOf {l : Addr} {xs : List V} (nl : l ∉ Ts) (ha : Ev Ts ta σ H (.ref l)) (hl : H l = some (.lst xs)) : EvN Ts (tCB (rListOf K) (tCons ta tNil)) σ H (.lst xs) := fun H1 e _ q =>
  ha H1 e _ fun H2 e2 => ⟨l, xs, rfl, .inl (l_of ((e.trans e2).keep l _ nl hl)), fun p hp => q p _ (e2.back hp) (e2.trans (Ex.new e2.good hp)) upd_same⟩
theorem en_tupOf {l : Addr} {xs : List V} (nl : l ∉ Ts) (ha : Ev Ts ta σ H (.ref l)) (hl : H l = some (.lst xs)) : EvN Ts (tCB (rTupOf K) (tCons ta tNil)) σ H (.tup xs) := fun H1 e _ q =>
  ha H1 e _ fun H2 e2 => ⟨l, xs, rfl, .inl ⟨l_of ((e.trans e2).keep l _ nl hl), fun p hp => q p _ (e2.back hp) (e2.trans (Ex.new e2.good hp)) upd_same⟩⟩
theorem ev_joinV {ls : List (List Nat)} {p : Addr} {to te : TE} (ho : Ev Ts to σ H (sv [])) (h : Ev Ts te σ H (.ref p)) (g : p ∉ Ts) (hp : SqL K H p (ls.map sv) ∨ SqT K H p (ls.map sv)) (hl : ls.flatten.length ≤ 100000) (ty : ∀ H, tyV K "str" (sv []) H) :
    Ev Ts (tBM K "str" (fun x xs H Q => ∃ a p, ∃ ys : List Str, x = .str a ∧ xs = [.ref p] ∧ (SqL K H p (ys.map V.str) ∨ SqT K H p (ys.map V.str)) ∧ (ys.map (·.length)).sum + ys.length * a.length ≤ 16777216 ∧ Q (.str (Txt.join a ys)) H) to (tCons te tNil))
      σ H (sv ls.flatten) := fun H1 e Q q =>
  ho H1 e _ fun H2 e2 => ⟨ty H2, h H2 (e.trans e2) _ fun H3 e3 => ⟨S [], p, ls.map S, rfl, rfl, (by
    rw [map_sv]
    rcases hp with hp | hp
    · exact .inl (((e.trans e2).trans e3).l g hp)
    · exact .inr (((e.trans e2).trans e3).t g hp)), by
    rw [len_sum, S_len]
    show ls.flatten.length + (ls.map S).length * 0 ≤ 16777216
    omega, by
    rw [join_nil]
    exact q H3 (e2.trans e3)⟩⟩
theorem ev_bits {i : Int} (h : Ev Ts te σ H (.int i)) : Ev Ts (tBits te) σ H (.int (Builtin.Int.intBits i : Nat)) := fun H1 e Q q => h H1 e _ fun H2 e2 => ⟨i, rfl, q H2 e2⟩
theorem st_insW {i : Nat} {l : Addr} {xs : List V} {o : Option (Addr × V)} (hl : σ[i]? = some (some (.ref l))) (h : H l = some (.lst xs)) (nl : l ∉ Ts) (hy : EvW Ts W te σ H y o) (ok : o = none) (g : Good Ts H) (hz : xs.length < 100000)
    (k : ∀ H2, Ex Ts H H2 → H2 l = some (.lst xs) → D.nx σ (upd H2 l (.lst (y :: xs)))) :
    tDrop (tBM K "list" (fun x vs H Q => ∃ (l : Addr) (xs : List V) (i : Int) (y : V), x = .ref l ∧ vs = [.int i, y] ∧ H l = some (.lst xs) ∧ xs.length < sizeLine ∧ 0 ≤ i ∧ i < 2 ^ 63 ∧ Q .non (upd H l (.lst (xs.take i.toNat ++ [y] ++ xs.drop i.toNat)))) (tVar i) (tCons (tC (.int 0)) (tCons te tNil))) D σ H :=
  ⟨_, hl, .inl ⟨rfl, _, l_of h⟩, (hy.ok ok) H (Ex.refl g) _ fun H2 e2 => ⟨l, xs, 0, y, rfl, rfl, e2.keep l _ nl h, Nat.lt_trans hz (by decide), by decide, by decide, k H2 e2 (e2.keep l _ nl h)⟩⟩
theorem st_appW {i : Nat} {l : Addr} {xs : List V} {o : Option (Addr × V)} (hl : σ[i]? = some (some (.ref l))) (h : H l = some (.lst xs)) (nl : l ∉ Ts) (hy : EvW Ts W te σ H y o) (ok : o = none) (g : Good Ts H) (hz : xs.length < 100000)
    (k : ∀ H2, Ex Ts H H2 → H2 l = some (.lst xs) → D.nx σ (upd H2 l (.lst (xs ++ [y])))) : tDrop (tBM K "list" rAppend (tVar i) (tCons te tNil)) D σ H :=
  st_app hl h nl (hy.ok ok) (Ex.refl g) hz k
end
section
variable {P : Program} {w : World} {K : PySem.W.Frag} {mg : Str → Option Value} {base : Heap}
theorem fun_okX {x qual : Str} {st : Stmt} {f : Addr} {fd : FuncData} {N ps : List Str} {k : Nat} {sp : Sp} (F : Fun K x qual st f fd) (S : FnScope N ps (defScope st)) (len : ∀ vs H Q E, sp vs H Q E → vs.length = ps.length)
    (hb : ∀ (cdv : Value) (A : Around) (outer : List Env) (s : Shared) (H : Hp) (vs : List V) (Q : VK) (E : XK), Room k (A.deeper (envOfC qual (defScope st) s.heap.objs.size f cdv)) → sp vs H Q E →
      ∃ t, PSs (cxOf (L2.CX P w) P w K mg base N qual (defScope st) f cdv A outer s H E) (defBody st) t ∧ t { nx := fun _ H' => Q .non H', rt := Q } (L2.start N vs) H) : FnOk P w K mg base (L2.CX P w) (k + 1) f fd ps sp := by
  obtain ⟨oc, od, kV, doc, pm, an, cdv, ct, osl, rfl, lk, hcd⟩ := F.ex
  exact fn_of lk hcd S len fun A outer s H vs Q E hr hsp => hb cdv A outer s H vs Q E hr hsp
/-- an error's class with its __init__ -/
structure IniC (P : Program) (w : World) (K : PySem.W.Frag) (mg : Str → Option Value) (base : Heap) (x : Str) (C : Addr) : Prop where
  out : ∃ (fI : Addr) (fd : FuncData), ErrC K mg x C fI ∧ FnOk P w K mg base CX0 1 fI fd ["self", "name"] (FnIni K) ∧ Binds K fd ["self", "name"] []
theorem pmk_err {X : Cx} {x : Str} {C : Addr} {k : Nat} {e : Expr} {ta : TA} {p pos : Pos} (I : IniC X.prog X.w X.K X.mg X.base x C) (hr : Room 2 X.A) (hg : Gl X x) (ha : PA X [e] ta)
    (hdb : (x == ("__debug__" : Str)) = false := by decide) (he : starEach [e] X.env = (false, eval e X.env) :: starEach [] X.env := by rfl) (hpl : (backTo pos (starEach [] X.env)).any (·.1) = false := by rfl) :
    PMk X (.Call (.Name x p) [e] [] pos) (tMkO C (FnIni X.K) [] ta) := by
  obtain ⟨fI, fd, T, F, hb⟩ := I.out
  exact pmk_oex T.o T.iC T.tI F hr hb .nil pass0 hg T.gC ha hdb he hpl
theorem ps_err {X : Cx} {W : WX} {x : Str} {C : Addr} {e : Expr} {ta : TA} {p pos pos2 : Pos} (hc : X.calm = true) (tk : Takes X W) (I : IniC X.prog X.w X.K X.mg X.base x C) (hr : Room 2 X.A) (hg : Gl X x) (ha : PA X [e] ta)
    (hdb : (x == ("__debug__" : Str)) = false := by decide) (he : starEach [e] X.env = (false, eval e X.env) :: starEach [] X.env := by rfl) (hpl : (backTo pos (starEach [] X.env)).any (·.1) = false := by rfl) :
    PS X (.Raise (some (.Call (.Name x p) [e] [] pos)) none pos2) (fun _ σ H => tMkO C (FnIni X.K) [] ta σ H fun cls d H' => W cls d σ H') := ps_raise hc tk (pmk_err (k := 0) I hr hg ha hdb he hpl)
theorem exm_err {x : Str} {C R fI : Addr} (hxC : PySem.W.subIn K (.ref R) (.type "BaseException") = some true) (hd : PySem.W.hasDictIn K R = true) (ht : PySem.W.typeIn K (.ref R) = some (.type "type")) (hs : PySem.W.subIn K (.ref C) (.ref R) = some true) : PySem.W.exmOne K (.ref C) (.ref R) = some true := PySem.W.exm_ref hxC hd ht hs
/-- a try whose body ends in an error that the clause takes -/
theorem st_caught {Ts : Fm} {σ : L2.St} {H H0 : Hp} {D : Ends} {W : WX} {c : Value} {i : Nat} {ts : Addr → Value → Option Addr → TS} {te : TE} {z v : V} {C : Addr}
    (g0 : Good Ts H0) (h : EvW Ts (wAs K c i ts W D) te σ H0 z (some (C, v))) (e : Ex Ts H0 H) (hm : PySem.W.exmOne K (.ref C) c = some true)
    (k : ∀ a d H2, Ex Ts H0 H2 → d ∉ Ts → H2 d = some (.xd [(("name" : Str), v)]) → ts a (.ref C) (some d) { nx := fun σ' H' => D.nx (σ'.set i none) H', rt := D.rt, bk := fun σ' H' => D.bk (σ'.set i none) H', ct := fun σ' H' => D.ct (σ'.set i none) H' } (σ.set i (some (.ref a))) H2) :
    tDrop te D σ H := st_dropW h e (fun z => by cases z) fun C' u he d H2 e2 n hx => by
  cases he
  exact ⟨true, hm, fun _ a _ => k a d H2 e2 (g0.free n) hx, fun z => by cases z⟩
end
end Cw
namespace Cw
open PySem PySem.Spec PyProof.Rows L2
theorem kbn_mk {K : PySem.W.Frag} {x qual : Str} {st : Stmt} {f : Addr} {oc : Value} {od an : Option Addr} {osl : Array (Option Value)} {kV doc pm cdv ct : Value} {ps ks : List Str} {n : Nat}
    (l : K.lookup f = some ⟨oc, od, .func (PySem.W.fnOf x qual (defArgs st) (defBody st) (defScope st) .none kV doc pm an cdv ct), osl⟩)
    (h : ∀ us ws : List Value, us.length = n → ws.length = ks.length → bindArgs (PySem.W.fnOf x qual (defArgs st) (defBody st) (defScope st) .none kV doc pm an cdv ct) ⟨us, ks.zip ws⟩ = pure (ps.zip (us ++ ws))) :
    KBn K (PySem.W.fnOf x qual (defArgs st) (defBody st) (defScope st) .none kV doc pm an cdv ct) ps n ks (fun a b => a ++ b) (fun a b => a ++ b) :=
  ⟨fun s us ws _ l1 l2 => .of_eq (h us ws l1 l2), fun r z => r.append z⟩
end Cw
namespace Cw
open PySem PySem.Spec PyProof.Rows L2
section
variable {Ts : Fm} {σ : L2.St} {H : Hp} {ta tb : TE}
theorem ev_orT (h1 : Ev Ts ta σ H (.bl true)) : Ev Ts (tOrV ta tb) σ H (.bl true) := fun H1 e Q q => h1 H1 e _ fun H2 e2 => ⟨true, rfl, q H2 e2⟩
theorem ev_orF {b : Bool} (h1 : Ev Ts ta σ H (.bl false)) (h2 : Ev Ts tb σ H (.bl b)) : Ev Ts (tOrV ta tb) σ H (.bl b) := fun H1 e Q q => h1 H1 e _ fun H2 e2 => ⟨false, rfl, h2 H2 (e.trans e2) Q fun H3 e3 => q H3 (e2.trans e3)⟩
end
end Cw
namespace Cw
open PySem PySem.Spec PyProof.Rows L2
theorem tk0 {X : Cx} : Takes X (fun _ _ _ _ => False) := fun _ _ x => by
  obtain ⟨_, _, _, _, _, _, _, _, _, _, _, _, _, _, _, _, z⟩ := x
  exact z.elim
end Cw
namespace Cw
open PySem PySem.Spec PyProof.Rows L2
section
variable {Ts : Fm} {σ : L2.St} {H H0 : Hp} {ta tb te : TE} {tc : TT} {t1 : TS} {D : Ends} {W : WX} {α : Type} {enc : α → List V} {Tt : List Addr} {dom : Fm → α → Hp → Prop} {res : α → V} {err : α → Option (Addr × V)}
theorem st_ifP {b : Bool} (Pv : L2.St → Hp → Prop) (h : EvT Ts tc σ H0 b) (e : Ex Ts H0 H) (k1 : ∀ H2, Ex Ts H0 H2 → b = true → ∀ D' : Ends, (∀ σ2 H3, Pv σ2 H3 → D'.nx σ2 H3) → t1 D' σ H2) (k2 : ∀ H2, Ex Ts H0 H2 → b = false → Pv σ H2) (k : ∀ σ2 H2, Pv σ2 H2 → D.nx σ2 H2) : tIfS tc t1 tNext D σ H :=
  st_if h e (fun H2 e2 hb => k1 H2 e2 hb D k) fun H2 e2 hb => k _ _ (k2 H2 e2 hb)
theorem ev_callN1 {R : HO} {z : V} (h : EvN Ts te σ H R) (x : Addr → α) (hx : ∀ p, enc (x p) = [.ref p]) (hd : ∀ p H2, p ∉ Ts → Ex Ts H H2 → H2 p = some R → dom Ts (x p) H2) (hz : ∀ p, res (x p) = z) (he : ∀ p, err (x p) = none) (hTb : Tb Tt Ts := by assumption) : Ev Ts (tCallS (FnX Tt enc dom res err) (WE W) (tCons te tNil)) σ H z := fun H1 e Q q =>
  h H1 e _ fun p H2 n e2 hp => ⟨Ts, hTb, x p, (hx p).symm, hd p H2 (e.good.free n) (e.trans e2) hp, e2.good, fun _ H3 e3 => by
    rw [hz p]
    exact q H3 (e2.trans e3), fun C u z => by
    rw [he p] at z
    cases z⟩
end
end Cw
set_option Elab.async false
set_option linter.all false
set_option maxRecDepth 100000
set_option maxHeartbeats 2000000
/-! errors on the way of an expression; membership; heap dicts; statements that are never reached -/
namespace Cw
open PySem PySem.Spec PyProof.Rows L2
theorem ps_never {X : Cx} {s : Stmt} : PS X s (fun _ _ _ => False) := ⟨fun _ _ _ _ _ _ h => h.elim⟩
theorem pss_never {X : Cx} {ss : List Stmt} : PSs X ss (fun _ _ _ => False) := ⟨fun _ _ _ _ _ _ h => h.elim⟩
section
variable {Ts : Fm} {Tt : List Addr} {K : PySem.W.Frag} {w : World} {σ : L2.St} {H H0 H' : Hp} {ta tb te : TE} {tc : TT} {t1 : TS} {tr tz : TA} {x y z v u : V} {D : Ends} {W : WX} {o o2 : Option (Addr × V)} {α : Type} {enc : α → List V} {dom : Fm → α → Hp → Prop} {res : α → V} {err : α → Option (Addr × V)}
theorem st_yes (h : EvT Ts tc σ H0 true) (e : Ex Ts H0 H) (k : ∀ H2, Ex Ts H0 H2 → t1 D σ H2) : tIfS tc t1 tNext D σ H := st_if h e (fun H2 e2 _ => k H2 e2) fun _ _ z => by cases z
theorem ew_ev (h : Ev Ts te σ H v) : EvW Ts W te σ H v none := fun H1 e Q q _ => h H1 e Q fun H2 e2 => q rfl H2 e2
/-- a if f(..) == 0 else b -/
theorem ew_zero {n : Int} (h : EvW Ts W te σ H (.int n) o) : EvW Ts W (tIf (tTest (tOp rEq te (tC (.int 0)))) (tC x) (tC y)) σ H (if n = 0 then x else y) o := fun H1 e Q q qx =>
  h H1 e _ (fun ok H2 e2 => ⟨rfl, decide (V.int n = V.int 0), rfl, by
    by_cases hn : n = 0
    · rw [hn, decide_eq_true rfl]
      have z := q ok H2 e2
      rw [if_pos hn] at z
      exact z
    · rw [decide_eq_false fun z => hn (V.int.inj z)]
      have z := q ok H2 e2
      rw [if_neg hn] at z
      exact z⟩) fun C u he d H2 e2 n hx => qx C u he d H2 e2 n hx
/-- g(f(..)) -/
theorem ew_callW (h : EvW Ts W te σ H u o) (x : α) (hx : enc x = [u]) (hd : o = none → ∀ H2, Ex Ts H H2 → dom Ts x H2) (h1 : o = none → o2 = err x) (h2 : ∀ C u, o = some (C, u) → o2 = some (C, u)) (hTb : Tb Tt Ts := by assumption) :
    EvW Ts W (tCallS (FnX Tt enc dom res err) (WE W) (tCons te tNil)) σ H (res x) o2 := fun H1 e Q q qx =>
  h H1 e _ (fun ok H2 e2 => ⟨Ts, hTb, x, hx.symm, hd ok H2 (e.trans e2), e2.good, fun ok2 H3 e3 => q ((h1 ok).trans ok2) H3 (e2.trans e3), fun C u he d H3 e3 n hxx => qx C u ((h1 ok).trans he) d H3 (e2.trans e3) (e2.back n) hxx⟩)
    fun C u he d H2 e2 n hxx => qx C u (h2 C u he) d H2 e2 n hxx
theorem EvW.is {v' : V} {o' : Option (Addr × V)} (h : EvW Ts W te σ H v o) (hv : o = none → v = v') (ho : o = o') : EvW Ts W te σ H v' o' := fun H1 e Q q qx =>
  h H1 e Q (fun ok H2 e2 => by rw [hv ok]; exact q (ho.symm.trans ok) H2 e2) fun C u he => qx C u (ho.symm.trans he)
theorem EvW.mono (h : EvW Ts W te σ H v o) (e : Ex Ts H H') : EvW Ts W te σ H' v o := fun H1 a Q q qx => h H1 (e.trans a) Q q qx
/-- x in a written tuple -/
theorem rv_inK {p : Addr} {xs : List V} (h : ∀ H, SqT K H p xs) (hx : flatV x = true) (hs : xs.all flatV = true) : RV Ts (rIn K false) x (.ref p) H (.bl (inV x xs)) := fun H1 e _ q => ⟨p, xs, rfl, .inr (h H1), hx, hs, q H1 (Ex.refl e.good)⟩
theorem rv_niK {p : Addr} {xs : List V} (h : ∀ H, SqT K H p xs) (hx : flatV x = true) (hs : xs.all flatV = true) : RV Ts (rIn K true) x (.ref p) H (.bl (!inV x xs)) := fun H1 e _ q => ⟨p, xs, rfl, .inr (h H1), hx, hs, q H1 (Ex.refl e.good)⟩
/-! ### dicts of texts -/
def txtE (es : List (List Nat × Int)) : List (Key × V) := es.map fun p => (Sum.inr (S p.1), V.int p.2)
def lkp (es : List (List Nat × Int)) (s : List Nat) : Option Int := (es.find? fun p => decide (p.1 = s)).map (·.2)
theorem key_dec (a b : List Nat) : decide ((Sum.inr (S a) : Key) = Sum.inr (S b)) = decide (a = b) := by
  by_cases h : a = b
  · rw [h, decide_eq_true rfl, decide_eq_true rfl]
  · rw [decide_eq_false h, decide_eq_false fun z => h (S_inj.mp (Sum.inr.inj z))]
theorem val_txt (es : List (List Nat × Int)) (s : List Nat) : valV (txtE es) (Sum.inr (S s) : Key) = (lkp es s).map V.int := by
  unfold valV lkp txtE
  induction es with
  | nil => rfl
  | cons p r ih =>
    rw [List.map_cons, List.find?_cons, List.find?_cons, key_dec]
    cases decide (p.1 = s) with
    | true => rfl
    | false => exact ih
/-- a heap dict of texts to ints, at d -/
def TabD (H : Hp) (d : Addr) (es : List (List Nat × Int)) : Prop := H d = some (.dK (txtE es))
theorem TabD.mono {d : Addr} {es : List (List Nat × Int)} (h : TabD H d es) (n : d ∉ Ts) (e : Ex Ts H H') : TabD H' d es := e.keep d _ n h
theorem et_dnotin {d : Addr} {es : List (List Nat × Int)} {s : List Nat} (h : TabD H d es) (n : d ∉ Ts) (ha : Ev Ts ta σ H (sv s)) (hb : Ev Ts tb σ H (.ref d)) : EvT Ts (tB (tDNotIn ta tb)) σ H (!(lkp es s).isSome) := fun H1 e Q q =>
  ha H1 e _ fun H2 e2 => hb H2 (e.trans e2) _ fun H3 e3 => ⟨d, (lkp es s).map V.int, rfl, .inl ⟨_, Sum.inr (S s), .inl (h.mono n ((e.trans e2).trans e3)), rfl, (val_txt es s).symm⟩, !(lkp es s).isSome, by rw [Option.isSome_map], q H3 (e2.trans e3)⟩
theorem ev_dget {d : Addr} {es : List (List Nat × Int)} {s : List Nat} {n : Int} (h : TabD H d es) (nd : d ∉ Ts) (ha : Ev Ts ta σ H (.ref d)) (hb : Ev Ts tb σ H (sv s)) (hn : lkp es s = some n) : Ev Ts (tDGet ta tb) σ H (.int n) := fun H1 e Q q =>
  ha H1 e _ fun H2 e2 => hb H2 (e.trans e2) _ fun H3 e3 => ⟨d, .int n, rfl, .inl ⟨_, Sum.inr (S s), .inl (h.mono nd ((e.trans e2).trans e3)), rfl, by rw [val_txt, hn]; rfl⟩, q H3 (e2.trans e3)⟩
end
end Cw
set_option Elab.async false
set_option linter.all false
set_option maxRecDepth 100000
set_option maxHeartbeats 2000000
/-! a list that is drawn from: it changes, and stays a list of ints with its place in front -/
namespace Cw
open PySem PySem.Spec PyProof.Rows L2
/-- nothing may change -/
def Fe : Fm where
  at_ _ := False
  ok _ := True
  loc _ _ := trivial
  has _ m := m.elim
theorem Fe.no {p : Addr} : p ∉ Fe := fun m => m
theorem Fe.tt {H : Hp} : Good Fe H := trivial
theorem Ex.up {Ts : Fm} {H H' : Hp} (e : Ex Fe H H') (g : Good Ts H) : Ex Ts H H' := ⟨fun a o _ h => e.keep a o Fe.no h, Ts.loc g fun a m => by
  obtain ⟨o, h⟩ := Ts.has g m
  rw [h]
  exact e.keep a o Fe.no h⟩
def RowG (H : Hp) (r : Addr) : Prop := ∃ (x : Nat) (rest : List Int), H r = some (.lst (V.int (x : Nat) :: rest.map V.int)) ∧ 1 ≤ x
structure RowIn (Ts : Fm) (r : Addr) : Prop where
  mem : r ∈ Ts
  row : ∀ {H}, Good Ts H → RowG H r
  upd : ∀ {H o}, Good Ts H → RowG (upd H r o) r → Good Ts (upd H r o)
theorem row_loc {r : Addr} {H H' : Hp} (h : RowG H r) (k : ∀ a, a = r → H' a = H a) : RowG H' r := by
  obtain ⟨x, rest, e, l⟩ := h
  exact ⟨x, rest, by rw [k r rfl]; exact e, l⟩
theorem row_has {r : Addr} {H : Hp} {a : Addr} (h : RowG H r) (m : a = r) : ∃ o, H a = some o := by
  obtain ⟨x, rest, e, l⟩ := h
  rw [m]
  exact ⟨_, e⟩
/-- the frame with the row at r -/
def Fm.row (F : Fm) (r : Addr) : Fm := F.plus (fun a => a = r) (fun H => RowG H r) (fun h k => row_loc h k) (fun h m => row_has h m)
theorem row_in {F : Fm} {r : Addr} (n : r ∉ F) : RowIn (F.row r) r where
  mem := .inr rfl
  row g := g.2
  upd g h := ⟨F.loc g.1 fun a m => upd_ne fun z => n (by rw [← z]; exact m), h⟩
theorem row_tb {Tt : List Addr} {F : Fm} {r : Addr} (h : Tb Tt F) (n : r ∉ F) : Tb Tt (F.row r) := Tb.plus (ms := fun a => a = r) (J := fun H => RowG H r) (loc := fun h k => row_loc h k) (has := fun h m => row_has h m) h fun a m => by
  rw [m]
  exact n
theorem row_good {F : Fm} {H : Hp} {r : Addr} (g : Good F H) (h : RowG H r) : Good (F.row r) H := ⟨g, h⟩
theorem row_ex {F : Fm} {H H' : Hp} {r : Addr} (e : Ex (F.row r) H H') (n : H r = none) (g : Good F H) : Ex F H H' := ⟨fun a o m h => e.keep a o (fun z => by
  rcases z with z | z
  · exact m z
  · rw [z, n] at h
    cases h) h, e.good.1⟩
theorem row_out {F : Fm} {r p : Addr} (n : p ∉ F) (d : p ≠ r) : p ∉ F.row r := fun m => by
  rcases m with m | m
  · exact n m
  · exact d m
section
variable {Ts : Fm} {K : PySem.W.Frag} {σ : L2.St} {H H0 : Hp} {ta tb te ti : TE} {D : Ends} {x y z v : V} {R R1 R2' : V → Hp → Prop}
theorem EvS.go {Q : VK} (h : EvS Ts te σ H0 R) (e : Ex Ts H0 H) (k : ∀ v H2, Ex Ts H0 H2 → R v H2 → Q v H2) : te σ H Q := h H e Q fun v H2 e2 r => k v H2 (e.trans e2) r
theorem es_ev (h : Ev Ts te σ H v) : EvS Ts te σ H fun x _ => x = v := fun H1 e Q q => h H1 e Q fun H2 e2 => q v H2 e2 rfl
theorem EvS.mono {H' : Hp} (e : Ex Ts H H') (h : EvS Ts te σ H R) : EvS Ts te σ H' R := fun H1 a Q q => h H1 (e.trans a) Q q
theorem EvS.imp (h : EvS Ts te σ H R) (k : ∀ v H', R v H' → R1 v H') : EvS Ts te σ H R1 := fun H1 e Q q => h H1 e Q fun v H2 e2 r => q v H2 e2 (k v H2 r)
theorem st_retS (h : EvS Ts te σ H0 R) (e : Ex Ts H0 H) (k : ∀ v H2, Ex Ts H0 H2 → R v H2 → D.rt v H2) : tRet te D σ H := h.go e k
/-- a test of something drawn -/
def EvTS (Ts : Fm) (t : TT) (σ : L2.St) (H : Hp) : Prop := ∀ H1, Ex Ts H H1 → ∀ Q : Bool → Hp → Prop, (∀ b H2, Ex Ts H1 H2 → Q b H2) → t σ H1 Q
theorem ets_of {t : TT} {b : Bool} (h : EvT Ts t σ H b) : EvTS Ts t σ H := fun H1 e Q q => h H1 e Q fun H2 e2 => q b H2 e2
theorem ets_is {n : Int} (h : EvS Ts te σ H fun v _ => ∃ z : Int, v = .int z) : EvTS Ts (tTest (tOp rEq te (tC (.int n)))) σ H := fun H1 e Q q => h H1 e _ fun v H2 e2 ⟨z, hz⟩ => by
  subst hz
  exact ⟨rfl, _, rfl, q _ H2 e2⟩
theorem ets_and {t u : TT} (h : EvTS Ts t σ H) (h2 : EvTS Ts u σ H) : EvTS Ts (tAnd t u) σ H := fun H1 e Q q => h H1 e _ fun b H2 e2 => by
  cases b with
  | true => exact h2 H2 (e.trans e2) Q fun b H3 e3 => q b H3 (e2.trans e3)
  | false => exact q false H2 e2
theorem st_ifS {tc : TT} {t1 t2 : TS} (h : EvTS Ts tc σ H0) (e : Ex Ts H0 H) (k1 : ∀ H2, Ex Ts H0 H2 → t1 D σ H2) (k2 : ∀ H2, Ex Ts H0 H2 → t2 D σ H2) : tIfS tc t1 t2 D σ H := h H e _ fun b H2 e2 => by
  cases b with
  | true => exact k1 H2 (e.trans e2)
  | false => exact k2 H2 (e.trans e2)
theorem st_ifPS {tc : TT} {t1 : TS} (Pv : L2.St → Hp → Prop) (h : EvTS Ts tc σ H0) (e : Ex Ts H0 H) (k1 : ∀ H2, Ex Ts H0 H2 → ∀ D' : Ends, (∀ σ2 H3, Pv σ2 H3 → D'.nx σ2 H3) → t1 D' σ H2) (k2 : ∀ H2, Ex Ts H0 H2 → Pv σ H2) (k : ∀ σ2 H2, Pv σ2 H2 → D.nx σ2 H2) : tIfS tc t1 tNext D σ H :=
  st_ifS h e (fun H2 e2 => k1 H2 e2 D k) fun H2 e2 => k _ _ (k2 H2 e2)
theorem st_ifset {tc : TT} {i : Nat} {b : Bool} {v1 v0 : V} (h : EvT Ts tc σ H0 b) (h0 : σ[i]? = some (some v0)) (hv : Ev Ts te σ H0 v1) (e : Ex Ts H0 H) (k : ∀ H2, Ex Ts H0 H2 → D.nx (σ.set i (some (if b then v1 else v0))) H2) :
    tIfS tc (tAsg te (gName i)) tNext D σ H := st_if h e (fun H2 e2 hb => by
      subst hb
      exact st_set hv e2 fun H3 e3 => k H3 e3) fun H2 e2 hb => by
      subst hb
      have z : σ.set i (some v0) = σ := by
        obtain ⟨hi, hx⟩ := List.getElem?_eq_some_iff.mp h0
        rw [← hx]
        exact List.set_getElem_self hi
      have kk := k H2 e2
      rw [if_neg Bool.false_ne_true, z] at kk
      exact kk
/-- while -/
theorem st_while {tc : TT} {tb : TS} (Wv : Nat → L2.St → Hp → Prop) {m : Nat} (h0 : Wv m σ H) (hs : ∀ m σ H, Wv m σ H → Good Ts H ∧ ∃ b, EvT Ts tc σ H b ∧ (b = true → ∀ H1, Ex Ts H H1 → ∀ N : L2.St → Hp → Prop, (∀ m' σ' H', m' < m → Wv m' σ' H' → N σ' H') → tb { D with nx := N, ct := N, bk := D.nx } σ H1) ∧ (b = false → ∀ H1, Ex Ts H H1 → D.nx σ H1)) :
    tWhile tc tb D σ H := ⟨Wv, ⟨m, h0⟩, fun m σ H w => by
  obtain ⟨g, b, h, h1, h2⟩ := hs m σ H w
  refine h H (Ex.refl g) _ fun H1 e1 => ?_
  cases b with
  | true => exact ⟨fun σ' H' => ∃ m', m' < m ∧ Wv m' σ' H', fun σ' H' x => x, h1 rfl H1 e1 _ fun m' σ' H' l x => ⟨m', l, x⟩⟩
  | false => exact h2 rfl H1 e1⟩
/-! ### items that are drawn -/
def EvAS (Ts : Fm) (t : TA) (σ : L2.St) (H : Hp) (R : List V → Hp → Prop) : Prop := ∀ H1, Ex Ts H H1 → ∀ Q : List V → Hp → Prop, (∀ vs H2, Ex Ts H1 H2 → R vs H2 → Q vs H2) → t σ H1 Q
theorem eas_nil : EvAS Ts tNil σ H fun vs _ => vs = [] := fun H1 e _ q => q [] H1 (Ex.refl e.good) rfl
theorem eas_ev {tr : TA} {Rr : List V → Hp → Prop} (h : Ev Ts te σ H v) (hr : EvAS Ts tr σ H Rr) : EvAS Ts (tCons te tr) σ H fun vs H' => ∃ xs, vs = v :: xs ∧ Rr xs H' := fun H1 e Q q =>
  h H1 e _ fun H2 e2 => hr H2 (e.trans e2) _ fun xs H3 e3 r => q _ H3 (e2.trans e3) ⟨xs, rfl, r⟩
theorem eas_s {tr : TA} {Rr : List V → Hp → Prop} (h : EvS Ts te σ H R) (hm : ∀ x H1 H2, Ex Ts H1 H2 → R x H1 → R x H2) (hr : EvAS Ts tr σ H Rr) : EvAS Ts (tCons te tr) σ H fun vs H' => ∃ x xs, vs = x :: xs ∧ R x H' ∧ Rr xs H' := fun H1 e Q q =>
  h H1 e _ fun x H2 e2 r => hr H2 (e.trans e2) _ fun xs H3 e3 rr => q _ H3 (e2.trans e3) ⟨x, xs, rfl, hm x H2 H3 e3 r, rr⟩
theorem es_tup {tr : TA} {Rr : List V → Hp → Prop} (h : EvAS Ts tr σ H Rr) (hm : ∀ vs H1 H2, Ex Ts H1 H2 → Rr vs H1 → Rr vs H2) (hl : ∀ vs H1, Rr vs H1 → vs.length ≤ 1000) : EvS Ts (tTup tr) σ H fun v H' => ∃ p vs, v = .ref p ∧ p ∉ Ts ∧ H' p = some (.tup vs) ∧ Rr vs H' := fun H1 e Q q =>
  h H1 e _ fun vs H2 e2 r => ⟨Nat.le_trans (hl vs H2 r) (by decide), fun p hp => q _ _ (e2.trans (Ex.new e2.good hp)) ⟨p, vs, rfl, e2.good.free hp, upd_same, hm vs H2 _ (Ex.new e2.good hp) r⟩⟩
theorem es_lst {tr : TA} {Rr : List V → Hp → Prop} (h : EvAS Ts tr σ H Rr) (hm : ∀ vs H1 H2, Ex Ts H1 H2 → Rr vs H1 → Rr vs H2) (hl : ∀ vs H1, Rr vs H1 → vs.length ≤ 1000) : EvS Ts (tLst tr) σ H fun v H' => ∃ p vs, v = .ref p ∧ p ∉ Ts ∧ H' p = some (.lst vs) ∧ Rr vs H' := fun H1 e Q q =>
  h H1 e _ fun vs H2 e2 r => ⟨Nat.le_trans (hl vs H2 r) (by decide), fun p hp => q _ _ (e2.trans (Ex.new e2.good hp)) ⟨p, vs, rfl, e2.good.free hp, upd_same, hm vs H2 _ (Ex.new e2.good hp) r⟩⟩
/-! ### the bits of a number, in its least width -/
theorem bits_front (w n : Nat) : bitsOf (w + 1) n = [48 + n / 2 ^ w % 2] ++ bitsOf w n := by
  unfold bitsOf
  rw [List.range_succ, List.map_append, List.reverse_append]
  rfl
def lwN (n : Nat) : Nat := max 1 (Builtin.Int.intBits (n : Int))
end
end Cw
set_option Elab.async false
set_option linter.all false
set_option maxRecDepth 100000
set_option maxHeartbeats 2000000
/-! values without a heap; what stands for them; slots that hold things of their own -/
namespace Lg
open PySem PySem.Spec PyProof.Rows L2 Cw
inductive LV where
  | non | bl (b : Bool) | int (i : Int) | str (l : List Nat) | tup (xs : List LV) | lst (xs : List LV) | op (v : V) | scr (ns : List Int) | obj (C : Addr) (fs : List (Str × LV)) | kt (xs : List LV)
abbrev Ad := Addr → Prop
def TupAt (N : Ad) (K : PySem.W.Frag) (H : Hp) (p : Addr) (vs : List V) : Prop := ¬ N p ∧ H p = some (.tup vs)
def LstAt (N : Ad) (K : PySem.W.Frag) (H : Hp) (p : Addr) (vs : List V) : Prop := ¬ N p ∧ H p = some (.lst vs)
/-- what stood outside of N stands, and outside of N' -/
def Stp (N : Ad) (H : Hp) (N' : Ad) (H' : Hp) : Prop := ∀ a o, H a = some o → ¬ N a → ¬ N' a ∧ H' a = some o
theorem Stp.refl {N : Ad} {H : Hp} : Stp N H N H := fun _ _ h n => ⟨n, h⟩
theorem Stp.rd {N N' : Ad} {H H' : Hp} {p : Addr} {u : HO} (s : Stp N H N' H') (h : ¬ N p ∧ Rd H p u) : ¬ N' p ∧ Rd H' p u := by
  obtain ⟨n, h | ⟨o, h⟩⟩ := h
  · obtain ⟨a, b⟩ := s p _ h n
    exact ⟨a, .inl b⟩
  · obtain ⟨a, b⟩ := s p _ h n
    exact ⟨a, .inr ⟨o, b⟩⟩
theorem TupAt.mono {N N' : Ad} {K : PySem.W.Frag} {H H' : Hp} {p : Addr} {vs : List V} (h : TupAt N K H p vs) (s : Stp N H N' H') : TupAt N' K H' p vs := s p _ h.2 h.1
theorem LstAt.mono {N N' : Ad} {K : PySem.W.Frag} {H H' : Hp} {p : Addr} {vs : List V} (h : LstAt N K H p vs) (s : Stp N H N' H') : LstAt N' K H' p vs := s p _ h.2 h.1
theorem TupAt.sq {N : Ad} {K : PySem.W.Frag} {H : Hp} {p : Addr} {vs : List V} (h : TupAt N K H p vs) : SqT K H p vs := .inl (.inl h.2)
theorem LstAt.sq {N : Ad} {K : PySem.W.Frag} {H : Hp} {p : Addr} {vs : List V} (h : LstAt N K H p vs) : SqL K H p vs := .inl (.inl h.2)
def ScrAt (N : Ad) (K : PySem.W.Frag) (H : Hp) (p : Addr) (vs : List V) : Prop := (¬ N p ∧ Rd H p (.lst vs)) ∨ ∀ H, SqL K H p vs
theorem ScrAt.mono {N N' : Ad} {K : PySem.W.Frag} {H H' : Hp} {p : Addr} {vs : List V} (h : ScrAt N K H p vs) (s : Stp N H N' H') : ScrAt N' K H' p vs := h.imp s.rd id
theorem ScrAt.sq {N : Ad} {K : PySem.W.Frag} {H : Hp} {p : Addr} {vs : List V} (h : ScrAt N K H p vs) : SqL K H p vs := by
  rcases h with h | h
  · exact .inl h.2
  · exact h H
/-- v stands for x, and nothing of it in N -/
inductive Rp (N : Ad) (K : PySem.W.Frag) (H : Hp) : LV → V → Prop
  | non : Rp N K H .non .non
  | bl (b : Bool) : Rp N K H (.bl b) (.bl b)
  | int (i : Int) : Rp N K H (.int i) (.int i)
  | str (l : List Nat) : Rp N K H (.str l) (sv l)
  | op (v : V) : Rp N K H (.op v) v
  | scr {ns : List Int} {p : Addr} : ScrAt N K H p (ns.map V.int) → Rp N K H (.scr ns) (.ref p)
  | obj {C p dx : Addr} {fs : List (Str × LV)} {us : List (Str × V)} : ¬ N p ∧ H p = some (.ins C dx us) → fs.map (·.1) = us.map (·.1) → (∀ (i : Nat) x v, (fs.map (·.2))[i]? = some x → (us.map (·.2))[i]? = some v → Rp N K H x v) → Rp N K H (.obj C fs) (.ref p)
  | tup {xs : List LV} {p : Addr} {vs : List V} : TupAt N K H p vs → xs.length = vs.length → (∀ (i : Nat) x v, xs[i]? = some x → vs[i]? = some v → Rp N K H x v) → Rp N K H (.tup xs) (.ref p)
  | kt {xs : List LV} {p : Addr} {vs : List V} : (∀ H, SqT K H p vs) → xs.length = vs.length → (∀ (i : Nat) x v, xs[i]? = some x → vs[i]? = some v → Rp N K H x v) → Rp N K H (.kt xs) (.ref p)
  | lst {xs : List LV} {p : Addr} {vs : List V} : LstAt N K H p vs → xs.length = vs.length → (∀ (i : Nat) x v, xs[i]? = some x → vs[i]? = some v → Rp N K H x v) → Rp N K H (.lst xs) (.ref p)
theorem Rp.mono {N N' : Ad} {K : PySem.W.Frag} {H H' : Hp} {x : LV} {v : V} (h : Rp N K H x v) (s : Stp N H N' H') : Rp N' K H' x v := by
  induction h with
  | non => exact .non
  | bl b => exact .bl b
  | int i => exact .int i
  | str l => exact .str l
  | op v => exact .op v
  | scr a => exact .scr (a.mono s)
  | obj a b _ ih => exact .obj (s _ _ a.2 a.1) b ih
  | tup a b _ ih => exact .tup (a.mono s) b ih
  | kt a b _ ih => exact .kt a b ih
  | lst a b _ ih => exact .lst (a.mono s) b ih
structure Rps (N : Ad) (K : PySem.W.Frag) (H : Hp) (xs : List LV) (vs : List V) : Prop where
  len : xs.length = vs.length
  get : ∀ (i : Nat) x v, xs[i]? = some x → vs[i]? = some v → Rp N K H x v
section
variable {N N' : Ad} {K : PySem.W.Frag} {H H' : Hp} {xs ys : List LV} {vs ws : List V} {x : LV} {v : V} {p : Addr}
theorem Rps.mono (h : Rps N K H xs vs) (s : Stp N H N' H') : Rps N' K H' xs vs := ⟨h.len, fun i x v a b => (h.get i x v a b).mono s⟩
theorem Rps.nil : Rps N K H [] [] := ⟨rfl, fun i x v a _ => by cases a⟩
theorem Rps.cons (h : Rp N K H x v) (t : Rps N K H xs vs) : Rps N K H (x :: xs) (v :: vs) := ⟨by rw [List.length_cons, List.length_cons, t.len], fun i y u a b => by
  cases i with
  | zero =>
    cases a
    cases b
    exact h
  | succ i => exact t.get i y u a b⟩
theorem Rps.nil_inv (h : Rps N K H [] vs) : vs = [] := List.eq_nil_of_length_eq_zero h.len.symm
theorem Rps.cons_inv (h : Rps N K H (x :: xs) vs) : ∃ v r, vs = v :: r ∧ Rp N K H x v ∧ Rps N K H xs r := by
  cases vs with
  | nil => cases h.len
  | cons v r => exact ⟨v, r, rfl, h.get 0 x v rfl rfl, Nat.succ.inj h.len, fun i y u a b => h.get (i + 1) y u a b⟩
theorem Rps.append (h : Rps N K H xs vs) (t : Rps N K H ys ws) : Rps N K H (xs ++ ys) (vs ++ ws) := ⟨by rw [List.length_append, List.length_append, h.len, t.len], fun i y u a b => by
  rw [List.getElem?_append] at a b
  rw [h.len] at a
  split at a
  · rename_i q
    rw [if_pos q] at b
    exact h.get i y u a b
  · rename_i q
    rw [if_neg q] at b
    exact t.get _ y u a b⟩
theorem Rps.take (h : Rps N K H xs vs) (n : Nat) : Rps N K H (xs.take n) (vs.take n) := ⟨by rw [List.length_take, List.length_take, h.len], fun i y u a b => by
  rw [List.getElem?_take] at a b
  split at a
  · rename_i q
    rw [if_pos q] at b
    exact h.get i y u a b
  · cases a⟩
theorem Rps.drop (h : Rps N K H xs vs) (n : Nat) : Rps N K H (xs.drop n) (vs.drop n) := ⟨by rw [List.length_drop, List.length_drop, h.len], fun i y u a b => by
  rw [List.getElem?_drop] at a b
  exact h.get _ y u a b⟩
theorem Rps.at (h : Rps N K H xs vs) {i : Nat} (a : xs[i]? = some x) : ∃ v, vs[i]? = some v ∧ Rp N K H x v := by
  obtain ⟨hi, _⟩ := List.getElem?_eq_some_iff.mp a
  have hi' : i < vs.length := by rw [← h.len]; exact hi
  exact ⟨vs[i], List.getElem?_eq_getElem hi', h.get i x _ a (List.getElem?_eq_getElem hi')⟩
theorem Rps.set (h : Rps N K H xs vs) (r : Rp N K H x v) (n : Nat) : Rps N K H (xs.set n x) (vs.set n v) := ⟨by rw [List.length_set, List.length_set, h.len], fun i y u a b => by
  rw [List.getElem?_set] at a b
  rw [h.len] at a
  split at a
  · rename_i q
    rw [if_pos q] at b
    split at a
    · rename_i z
      rw [if_pos z] at b
      cases a
      cases b
      exact r
    · cases a
  · rename_i q
    rw [if_neg q] at b
    exact h.get i y u a b⟩
theorem Rps.one (r : Rp N K H x v) : Rps N K H [x] [v] := .cons r .nil
theorem Rp.tup' (h : TupAt N K H p vs) (t : Rps N K H xs vs) : Rp N K H (.tup xs) (.ref p) := .tup h t.len t.get
theorem Rp.lst' (h : LstAt N K H p vs) (t : Rps N K H xs vs) : Rp N K H (.lst xs) (.ref p) := .lst h t.len t.get
theorem Rp.tup_inv (h : Rp N K H (.tup xs) v) : ∃ p vs, v = .ref p ∧ TupAt N K H p vs ∧ Rps N K H xs vs := by
  cases h with
  | tup a b c => exact ⟨_, _, rfl, a, b, c⟩
theorem Rp.lst_inv (h : Rp N K H (.lst xs) v) : ∃ p vs, v = .ref p ∧ LstAt N K H p vs ∧ Rps N K H xs vs := by
  cases h with
  | lst a b c => exact ⟨_, _, rfl, a, b, c⟩
theorem Rp.scr_inv {ns : List Int} (h : Rp N K H (.scr ns) v) : ∃ p, v = .ref p ∧ SqL K H p (ns.map V.int) := by
  cases h with
  | scr a => exact ⟨_, rfl, a.sq⟩
theorem Rp.obj_inv {C : Addr} {fs : List (Str × LV)} (h : Rp N K H (.obj C fs) v) : ∃ p dx us, v = .ref p ∧ H p = some (.ins C dx us) ∧ fs.map (·.1) = us.map (·.1) ∧ (∀ (i : Nat) x v, (fs.map (·.2))[i]? = some x → (us.map (·.2))[i]? = some v → Rp N K H x v) := by
  cases h with
  | obj a b c => exact ⟨_, _, _, rfl, a.2, b, c⟩
theorem Rp.int_inv {i : Int} (h : Rp N K H (.int i) v) : v = .int i := by
  cases h
  rfl
theorem Rp.bl_inv {b : Bool} (h : Rp N K H (.bl b) v) : v = .bl b := by
  cases h
  rfl
theorem Rp.str_inv {l : List Nat} (h : Rp N K H (.str l) v) : v = sv l := by
  cases h
  rfl
theorem Rp.non_inv (h : Rp N K H .non v) : v = .non := by
  cases h
  rfl
theorem Rp.op_inv {u : V} (h : Rp N K H (.op u) v) : v = u := by
  cases h
  rfl
end
/-- ints -/
def ilv (l : List Int) : List LV := l.map .int
theorem rps_ilv {N : Ad} {K : PySem.W.Frag} {H : Hp} : ∀ {l : List Int} {vs : List V}, Rps N K H (ilv l) vs → vs = l.map V.int
  | [], vs, h => h.nil_inv
  | i :: r, vs, h => by
    obtain ⟨v, t, rfl, a, b⟩ := Rps.cons_inv (x := .int i) (xs := ilv r) h
    rw [a.int_inv, rps_ilv b]
    rfl
theorem rps_of_ilv {N : Ad} {K : PySem.W.Frag} {H : Hp} : ∀ {l : List Int}, Rps N K H (ilv l) (l.map V.int)
  | [] => .nil
  | i :: r => .cons (.int i) (rps_of_ilv (l := r))

/-- a thing of one's own: what stands for it, and where -/
structure Own where
  pin : Bool := true
  rep : PySem.W.Frag → Ad → Hp → V → Ad → Prop
  mono : ∀ {K : PySem.W.Frag} {N N' : Ad} {H H' : Hp} {v : V} {F : Ad}, rep K N H v F → Stp N H N' H' → (∀ a, F a → H' a = H a) → rep K N' H' v F
  has : ∀ {K : PySem.W.Frag} {N : Ad} {H : Hp} {v : V} {F : Ad} {a : Addr}, rep K N H v F → F a → ∃ o, H a = some o
inductive Fd where
  | v (x : LV)
  | l (xs : List LV)
  | d (kvs : List (List Int × LV))
def kD (k : List Int) : List Key := k.map Sum.inl
inductive Ent where
  | o (C : Addr) (fs : List (Str × Fd))
  | no
  | v (x : LV)
  | l (xs : List LV)
  | p (xs : List LV)
  | x (A : Own)
def Ent.pin : Ent → Bool
  | .p _ => true
  | .x A => A.pin
  | .o _ _ => true
  | _ => false
def LstOwn (N : Ad) (K : PySem.W.Frag) (H : Hp) (xs : List LV) (u : Option V) (F : Ad) : Prop := ∃ p vs, u = some (.ref p) ∧ H p = some (.lst vs) ∧ Rps N K H xs vs ∧ ∀ a, F a ↔ a = p
def fdR (N : Ad) (K : PySem.W.Frag) (H : Hp) : Fd → V → Ad → Prop
  | .v x, v, F => Rp N K H x v ∧ ∀ a, ¬ F a
  | .l xs, v, F => ∃ p vs, v = .ref p ∧ H p = some (.lst vs) ∧ Rps N K H xs vs ∧ ∀ a, F a ↔ a = p
  | .d kvs, v, F => ∃ p es, v = .ref p ∧ H p = some (.dT es) ∧ es.map (·.1) = kvs.map (fun e => kD e.1) ∧ Rps N K H (kvs.map (·.2)) (es.map (·.2)) ∧ ∀ a, F a ↔ a = p
theorem fdR.mono {N N' : Ad} {K : PySem.W.Frag} {H H' : Hp} {d : Fd} {v : V} {F : Ad} (h : fdR N K H d v F) (s : Stp N H N' H') (k : ∀ a, F a → H' a = H a) : fdR N' K H' d v F := by
  cases d with
  | v x => exact ⟨h.1.mono s, h.2⟩
  | l xs =>
    obtain ⟨p, vs, e, hp, r, f⟩ := h
    exact ⟨p, vs, e, by rw [k p ((f p).mpr rfl)]; exact hp, r.mono s, f⟩
  | d kvs =>
    obtain ⟨p, es, e, hp, hk, r, f⟩ := h
    exact ⟨p, es, e, by rw [k p ((f p).mpr rfl)]; exact hp, hk, r.mono s, f⟩
theorem fdR.has {N : Ad} {K : PySem.W.Frag} {H : Hp} {d : Fd} {v : V} {F : Ad} {a : Addr} (h : fdR N K H d v F) (m : F a) : ∃ o, H a = some o := by
  cases d with
  | v x => exact (h.2 a m).elim
  | l xs =>
    obtain ⟨p, vs, e, hp, r, f⟩ := h
    rw [(f a).mp m]
    exact ⟨_, hp⟩
  | d kvs =>
    obtain ⟨p, es, e, hp, hk, r, f⟩ := h
    rw [(f a).mp m]
    exact ⟨_, hp⟩
/-- an object of one's own: its attributes at us, the attributes' own lists at Fi -/
structure ObjAt (N : Ad) (K : PySem.W.Frag) (H : Hp) (C : Addr) (fs : List (Str × Fd)) (F : Ad) (p dx : Addr) (us : List (Str × V)) (Fi : Nat → Ad) : Prop where
  ins : H p = some (.ins C dx us)
  own : H dx = some (.own p)
  nm : fs.map (·.1) = us.map (·.1)
  fd : ∀ (i : Nat) d v, (fs.map (·.2))[i]? = some d → (us.map (·.2))[i]? = some v → fdR N K H d v (Fi i)
  dis : ∀ i j a, Fi i a → Fi j a → i = j
  np : ∀ i, ¬ Fi i p ∧ ¬ Fi i dx
  out : ∀ i a, Fi i a → i < fs.length
  F_ : ∀ a, F a ↔ a = p ∨ a = dx ∨ ∃ i, Fi i a
theorem ObjAt.mono {N N' : Ad} {K : PySem.W.Frag} {H H' : Hp} {C : Addr} {fs : List (Str × Fd)} {F : Ad} {p dx : Addr} {us : List (Str × V)} {Fi : Nat → Ad} (h : ObjAt N K H C fs F p dx us Fi) (s : Stp N H N' H') (k : ∀ a, F a → H' a = H a) : ObjAt N' K H' C fs F p dx us Fi :=
  ⟨by rw [k p ((h.F_ p).mpr (.inl rfl))]; exact h.ins, by rw [k dx ((h.F_ dx).mpr (.inr (.inl rfl)))]; exact h.own, h.nm, fun i d v a b => (h.fd i d v a b).mono s fun a m => k a ((h.F_ a).mpr (.inr (.inr ⟨i, m⟩))), h.dis, h.np, h.out, h.F_⟩
theorem ObjAt.has {N : Ad} {K : PySem.W.Frag} {H : Hp} {C : Addr} {fs : List (Str × Fd)} {F : Ad} {p dx : Addr} {us : List (Str × V)} {Fi : Nat → Ad} {a : Addr} (h : ObjAt N K H C fs F p dx us Fi) (m : F a) : ∃ o, H a = some o := by
  rcases (h.F_ a).mp m with rfl | rfl | ⟨i, m⟩
  · exact ⟨_, h.ins⟩
  · exact ⟨_, h.own⟩
  · have hi := h.out i a m
    have hl : (fs.map (·.1)).length = (us.map (·.1)).length := by rw [h.nm]
    rw [List.length_map, List.length_map] at hl
    have h1 : (fs.map (·.2))[i]? = some (fs[i].2) := by rw [List.getElem?_map, List.getElem?_eq_getElem hi]; rfl
    have h2 : (us.map (·.2))[i]? = some ((us[i]'(by omega)).2) := by rw [List.getElem?_map, List.getElem?_eq_getElem (by omega)]; rfl
    exact (h.fd i _ _ h1 h2).has m
def entR (N : Ad) (K : PySem.W.Frag) (H : Hp) : Ent → Option V → Ad → Prop
  | .no, _, F => ∀ a, ¬ F a
  | .v x, u, F => (∃ v, u = some v ∧ Rp N K H x v) ∧ ∀ a, ¬ F a
  | .l xs, u, F => LstOwn N K H xs u F
  | .p xs, u, F => LstOwn N K H xs u F
  | .x A, u, F => ∃ v, u = some v ∧ A.rep K N H v F
  | .o C fs, u, F => ∃ p dx us Fi, u = some (.ref p) ∧ ObjAt N K H C fs F p dx us Fi
theorem entR.mono {N N' : Ad} {K : PySem.W.Frag} {H H' : Hp} {e : Ent} {u : Option V} {F : Ad} (h : entR N K H e u F) (s : Stp N H N' H') (k : ∀ a, F a → H' a = H a) : entR N' K H' e u F := by
  cases e with
  | no => exact h
  | v x =>
    obtain ⟨⟨v, e, r⟩, n⟩ := h
    exact ⟨⟨v, e, r.mono s⟩, n⟩
  | l xs =>
    obtain ⟨p, vs, e, hp, r, f⟩ := h
    exact ⟨p, vs, e, by rw [k p ((f p).mpr rfl)]; exact hp, r.mono s, f⟩
  | p xs =>
    obtain ⟨p, vs, e, hp, r, f⟩ := h
    exact ⟨p, vs, e, by rw [k p ((f p).mpr rfl)]; exact hp, r.mono s, f⟩
  | x A =>
    obtain ⟨v, e, r⟩ := h
    exact ⟨v, e, A.mono r s k⟩
  | o C fs =>
    obtain ⟨p, dx, us, Fi, e, r⟩ := h
    exact ⟨p, dx, us, Fi, e, r.mono s k⟩
theorem entR.has {N : Ad} {K : PySem.W.Frag} {H : Hp} {e : Ent} {u : Option V} {F : Ad} {a : Addr} (h : entR N K H e u F) (m : F a) : ∃ o, H a = some o := by
  cases e with
  | no => exact (h a m).elim
  | v x => exact (h.2 a m).elim
  | l xs =>
    obtain ⟨p, vs, e, hp, r, f⟩ := h
    rw [(f a).mp m]
    exact ⟨_, hp⟩
  | p xs =>
    obtain ⟨p, vs, e, hp, r, f⟩ := h
    rw [(f a).mp m]
    exact ⟨_, hp⟩
  | x A =>
    obtain ⟨v, e, r⟩ := h
    exact A.has r m
  | o C fs =>
    obtain ⟨p, dx, us, Fi, e, r⟩ := h
    exact r.has m
abbrev Fp := Nat → Ad
def Nn (X : Ad) (F : Fp) : Ad := fun a => X a ∨ ∃ i, F i a
abbrev Env := List Ent
/-- the slots σ and the heap stand for Λ; τ: what is held beside -/
structure Sr (B : Fm) (K : PySem.W.Frag) (X : Ad) (Λ : Env) (σ : L2.St) (H : Hp) (τ : List (LV × V)) (F : Fp) : Prop where
  good : Good B H
  sub : ∀ a, a ∈ B → X a
  len : Λ.length = σ.length
  ent : ∀ i e u, Λ[i]? = some e → σ[i]? = some u → entR (Nn X F) K H e u (F i)
  out : ∀ i a, F i a → i < Λ.length
  dis : ∀ i j a, F i a → F j a → i = j
  disX : ∀ i a, F i a → ¬ X a
  hasX : ∀ a, X a → ∃ o, H a = some o
  tmp : ∀ t ∈ τ, Rp (Nn X F) K H t.1 t.2
/-- from one to the other -/
structure Kq (B : Fm) (Λ : Env) (σ : L2.St) (H : Hp) (F : Fp) (Λ' : Env) (σ' : L2.St) (H' : Hp) (F' : Fp) : Prop where
  keep : ∀ a o, H a = some o → a ∉ B → (∀ i, ¬ F i a) → H' a = some o
  own : ∀ i a, F' i a → (∃ j, F j a) ∨ H a = none
  all : ∀ a o, H a = some o → ∃ o', H' a = some o'
  pin : ∀ (i : Nat) (e : Ent), Λ[i]? = some e → e.pin = true → σ'[i]? = σ[i]? ∧ ∃ e' : Ent, Λ'[i]? = some e' ∧ e'.pin = true
  ln : Λ'.length = Λ.length
section
variable {B : Fm} {K : PySem.W.Frag} {X : Ad} {Λ Λ1 Λ2 : Env} {σ σ1 σ2 : L2.St} {H H1 H2 H' : Hp} {τ τ' : List (LV × V)} {F F1 F2 : Fp} {p : Addr} {o : HO} {x : LV} {v : V} {xs ys : List LV} {vs : List V}
theorem Kq.refl : Kq B Λ σ H F Λ σ H F := ⟨fun _ _ h _ _ => h, fun i _ h => .inl ⟨i, h⟩, fun _ o h => ⟨o, h⟩, fun _ e h q => ⟨rfl, e, h, q⟩, rfl⟩
theorem Kq.trans (g : Good B H1) (a : Kq B Λ σ H F Λ1 σ1 H1 F1) (b : Kq B Λ1 σ1 H1 F1 Λ2 σ2 H2 F2) : Kq B Λ σ H F Λ2 σ2 H2 F2 where
  keep := fun c o h nb nf => b.keep c o (a.keep c o h nb nf) nb fun i z => by
    rcases a.own i c z with ⟨j, q⟩ | q
    · exact nf j q
    · rw [h] at q
      cases q
  own := fun i c z => by
    rcases b.own i c z with ⟨j, q⟩ | q
    · exact a.own j c q
    · cases h : H c with
      | none => exact .inr rfl
      | some o =>
        obtain ⟨o', e⟩ := a.all c o h
        rw [q] at e
        cases e
  all := fun c o h => by
    obtain ⟨o', e⟩ := a.all c o h
    exact b.all c o' e
  pin := fun i e h q => by
    obtain ⟨e1, e', h', q'⟩ := a.pin i e h q
    obtain ⟨e2, r⟩ := b.pin i e' h' q'
    exact ⟨e2.trans e1, r⟩
  ln := b.ln.trans a.ln
theorem Kq.back (a : Kq B Λ σ H F Λ1 σ1 H1 F1) (h : H1 p = none) : H p = none := by
  cases q : H p with
  | none => rfl
  | some o =>
    obtain ⟨o', e⟩ := a.all p o q
    rw [h] at e
    cases e
theorem Sr.has (S : Sr B K X Λ σ H τ F) {a : Addr} (h : Nn X F a) : ∃ o, H a = some o := by
  rcases h with h | ⟨i, h⟩
  · exact S.hasX a h
  · have hi := S.out i a h
    have hi' : i < σ.length := by rw [← S.len]; exact hi
    exact (S.ent i Λ[i] σ[i] (List.getElem?_eq_getElem hi) (List.getElem?_eq_getElem hi')).has h
theorem Sr.free (S : Sr B K X Λ σ H τ F) (h : H p = none) : ¬ Nn X F p := fun m => by
  obtain ⟨o, e⟩ := S.has m
  rw [h] at e
  cases e
theorem Sr.tmps (S : Sr B K X Λ σ H τ F) (h : ∀ t ∈ τ', Rp (Nn X F) K H t.1 t.2) : Sr B K X Λ σ H τ' F := { S with tmp := h }
theorem Sr.push (S : Sr B K X Λ σ H τ F) (h : Rp (Nn X F) K H x v) : Sr B K X Λ σ H ((x, v) :: τ) F := S.tmps fun t m => by
  rcases List.mem_cons.mp m with rfl | m
  · exact h
  · exact S.tmp t m
theorem Sr.drop (S : Sr B K X Λ σ H τ F) : Sr B K X Λ σ H [] F := S.tmps fun t m => by cases m
theorem Sr.pop (S : Sr B K X Λ σ H ((x, v) :: τ) F) : Rp (Nn X F) K H x v ∧ Sr B K X Λ σ H τ F := ⟨S.tmp (x, v) (List.mem_cons_self ..), S.tmps fun t m => S.tmp t (List.mem_cons_of_mem _ m)⟩
theorem Sr.slot (S : Sr B K X Λ σ H τ F) {i : Nat} {e : Ent} (h : Λ[i]? = some e) : ∃ u, σ[i]? = some u ∧ entR (Nn X F) K H e u (F i) := by
  obtain ⟨hi, _⟩ := List.getElem?_eq_some_iff.mp h
  have hi' : i < σ.length := by rw [← S.len]; exact hi
  exact ⟨σ[i], List.getElem?_eq_getElem hi', S.ent i e _ h (List.getElem?_eq_getElem hi')⟩
theorem Sr.get (S : Sr B K X Λ σ H τ F) {i : Nat} (h : Λ[i]? = some (.v x)) : ∃ v, σ[i]? = some (some v) ∧ Rp (Nn X F) K H x v := by
  obtain ⟨u, e, ⟨v, rfl, r⟩, _⟩ := S.slot h
  exact ⟨v, e, r⟩
/-- the heap goes on; what is held stays -/
theorem Sr.heap (S : Sr B K X Λ σ H τ F) (g : Good B H') (k : ∀ a o, H a = some o → a ∉ B → H' a = some o) : Sr B K X Λ σ H' τ F ∧ Kq B Λ σ H F Λ σ H' F := by
  have nb : ∀ a, ¬ X a → a ∉ B := fun a n m => n (S.sub a m)
  have st : Stp (Nn X F) H (Nn X F) H' := fun a o h n => ⟨n, k a o h (nb a fun z => n (.inl z))⟩
  refine ⟨⟨g, S.sub, S.len, fun i e u h h' => (S.ent i e u h h').mono st fun a m => ?_, S.out, S.dis, S.disX, fun a m => ?_, fun t m => (S.tmp t m).mono st⟩, ?_⟩
  · obtain ⟨o, q⟩ := S.has (.inr ⟨i, m⟩)
    rw [q]
    exact k a o q (nb a (S.disX i a m))
  · by_cases hb : a ∈ B
    · exact B.has g hb
    · obtain ⟨o, q⟩ := S.hasX a m
      exact ⟨o, k a o q hb⟩
  · refine ⟨fun a o h n _ => k a o h n, fun i a h => .inl ⟨i, h⟩, fun a o h => ?_, fun _ e h q => ⟨rfl, e, h, q⟩, rfl⟩
    by_cases hb : a ∈ B
    · exact B.has g hb
    · exact ⟨o, k a o h hb⟩
theorem Sr.new (S : Sr B K X Λ σ H τ F) (h : H p = none) : Sr B K X Λ σ (upd H p o) τ F ∧ Kq B Λ σ H F Λ σ (upd H p o) F ∧ ¬ Nn X F p := by
  have n := S.free h
  have e := S.heap (H' := upd H p o) (S.good.upd fun m => n (.inl (S.sub p m))) fun a u q _ => by
    rw [upd_ne (ne_of_none q h)]
    exact q
  exact ⟨e.1, e.2, n⟩
/-- a slot takes a value -/
def Fp.cut (F : Fp) (i : Nat) : Fp := fun j a => j ≠ i ∧ F j a
theorem Sr.set (S : Sr B K X Λ σ H ((x, v) :: τ) F) {i : Nat} (hi : ∀ e, Λ[i]? = some e → e.pin = false) : Sr B K X (Λ.set i (.v x)) (σ.set i (some v)) H τ (F.cut i) ∧ Kq B Λ σ H F (Λ.set i (.v x)) (σ.set i (some v)) H (F.cut i) := by
  have st : Stp (Nn X F) H (Nn X (F.cut i)) H := fun a o h n => ⟨fun z => n (z.imp id fun ⟨j, q⟩ => ⟨j, q.2⟩), h⟩
  refine ⟨⟨S.good, S.sub, by rw [List.length_set, List.length_set, S.len], fun j e u h h' => ?_, fun j a h => by rw [List.length_set]; exact S.out j a h.2, fun j k a h h' => S.dis j k a h.2 h'.2, fun j a h => S.disX j a h.2, S.hasX, fun t m => (S.tmp t (List.mem_cons_of_mem _ m)).mono st⟩, ?_⟩
  · rw [List.getElem?_set] at h h'
    rw [S.len] at h
    by_cases q : i = j
    · rw [if_pos q] at h h'
      split at h
      · rename_i z
        rw [if_pos z] at h'
        cases h
        cases h'
        exact ⟨⟨v, rfl, S.pop.1.mono st⟩, fun a m => m.1 q.symm⟩
      · cases h
    · rw [if_neg q] at h h'
      refine entR.mono (F := F j) (S.ent j e u h h') st (fun a m => rfl) |> fun r => ?_
      have ef : F.cut i j = F j := by
        funext a
        exact propext ⟨fun z => z.2, fun z => ⟨fun w => q w.symm, z⟩⟩
      rw [ef]
      exact r
  · refine ⟨fun a o h _ _ => h, fun j a h => .inl ⟨j, h.2⟩, fun a o h => ⟨o, h⟩, fun j e h q => ?_, List.length_set ..⟩
    have ne : i ≠ j := fun z => by
      rw [hi e (by rw [z]; exact h)] at q
      cases q
    exact ⟨List.getElem?_set_ne ne, e, by rw [List.getElem?_set_ne ne]; exact h, q⟩
/-- a slot takes a new list -/
def Fp.put (F : Fp) (i : Nat) (p : Addr) : Fp := fun j a => (j ≠ i ∧ F j a) ∨ (j = i ∧ a = p)
theorem Sr.setl (S : Sr B K X Λ σ H τ F) (hp : H p = none) (r : Rps (Nn X F) K H xs vs) {i : Nat} (hl : i < Λ.length) (hi : ∀ e, Λ[i]? = some e → e.pin = false) :
    Sr B K X (Λ.set i (.l xs)) (σ.set i (some (.ref p))) (upd H p (.lst vs)) τ (F.put i p) ∧ Kq B Λ σ H F (Λ.set i (.l xs)) (σ.set i (some (.ref p))) (upd H p (.lst vs)) (F.put i p) := by
  have nN := S.free hp
  have keep : ∀ a o, H a = some o → upd H p (.lst vs) a = some o := fun a o q => by
    rw [upd_ne (ne_of_none q hp)]
    exact q
  have st : Stp (Nn X F) H (Nn X (F.put i p)) (upd H p (.lst vs)) := fun a o h n => ⟨fun z => by
    rcases z with z | ⟨j, z | z⟩
    · exact n (.inl z)
    · exact n (.inr ⟨j, z.2⟩)
    · exact ne_of_none h hp z.2, keep a o h⟩
  have nB : p ∉ B := fun m => nN (.inl (S.sub p m))
  refine ⟨⟨S.good.upd nB, S.sub, by rw [List.length_set, List.length_set, S.len], fun j e u h h' => ?_, fun j a h => ?_, fun j k a h h' => ?_, fun j a h => ?_, fun a m => ?_, fun t m => (S.tmp t m).mono st⟩, ?_⟩
  · rw [List.getElem?_set] at h h'
    rw [S.len] at h
    by_cases q : i = j
    · rw [if_pos q] at h h'
      split at h
      · rename_i z
        rw [if_pos z] at h'
        cases h
        cases h'
        exact ⟨p, vs, rfl, upd_same, r.mono st, fun a => ⟨fun z => z.elim (fun z => (z.1 q.symm).elim) fun z => z.2, fun z => .inr ⟨q.symm, z⟩⟩⟩
      · cases h
    · rw [if_neg q] at h h'
      have ef : F.put i p j = F j := by
        funext a
        exact propext ⟨fun z => z.elim (fun z => z.2) fun z => (q z.1.symm).elim, fun z => .inl ⟨fun w => q w.symm, z⟩⟩
      rw [ef]
      refine (S.ent j e u h h').mono st fun a m => ?_
      obtain ⟨o, z⟩ := S.has (.inr ⟨j, m⟩)
      rw [z]
      exact keep a o z
  · rw [List.length_set]
    rcases h with h | h
    · exact S.out j a h.2
    · rw [h.1]
      exact hl
  · rcases h with h | h
    · rcases h' with h' | h'
      · exact S.dis j k a h.2 h'.2
      · exact (nN (.inr ⟨j, by rw [← h'.2]; exact h.2⟩)).elim
    · rcases h' with h' | h'
      · exact (nN (.inr ⟨k, by rw [← h.2]; exact h'.2⟩)).elim
      · rw [h.1, h'.1]
  · rcases h with h | h
    · exact S.disX j a h.2
    · rw [h.2]
      exact fun z => nN (.inl z)
  · obtain ⟨o, z⟩ := S.hasX a m
    exact ⟨o, keep a o z⟩
  · refine ⟨fun a o h _ _ => keep a o h, fun j a h => ?_, fun a o h => ⟨o, keep a o h⟩, fun j e h q => ?_, List.length_set ..⟩
    · rcases h with h | h
      · exact .inl ⟨j, h.2⟩
      · rw [h.2]
        exact .inr hp
    · have ne : i ≠ j := fun z => by
        rw [hi e (by rw [z]; exact h)] at q
        cases q
      exact ⟨List.getElem?_set_ne ne, e, by rw [List.getElem?_set_ne ne]; exact h, q⟩
/-- a list of one's own changes -/
def Ent.lst? : Ent → Option (List LV)
  | .l xs => some xs
  | .p xs => some xs
  | _ => none
def Ent.relst (ys : List LV) : Ent → Ent
  | .l _ => .l ys
  | .p _ => .p ys
  | e => e
theorem Sr.ownl (S : Sr B K X Λ σ H τ F) {i : Nat} {e : Ent} (h : Λ[i]? = some e) (hx : e.lst? = some xs) : ∃ p vs, σ[i]? = some (some (.ref p)) ∧ H p = some (.lst vs) ∧ Rps (Nn X F) K H xs vs ∧ ∀ a, F i a ↔ a = p := by
  obtain ⟨u, hu, r⟩ := S.slot h
  cases e with
  | l ys =>
    cases hx
    obtain ⟨p, vs, rfl, q⟩ := r
    exact ⟨p, vs, hu, q⟩
  | p ys =>
    cases hx
    obtain ⟨p, vs, rfl, q⟩ := r
    exact ⟨p, vs, hu, q⟩
  | no => cases hx
  | v x => cases hx
  | x A => cases hx
  | o C fs => cases hx
theorem Sr.mutl (S : Sr B K X Λ σ H τ F) {i : Nat} {e : Ent} (h : Λ[i]? = some e) (hx : e.lst? = some xs) (hs : σ[i]? = some (some (.ref p))) (r : Rps (Nn X F) K H ys vs) :
    Sr B K X (Λ.set i (e.relst ys)) σ (upd H p (.lst vs)) τ F ∧ Kq B Λ σ H F (Λ.set i (e.relst ys)) σ (upd H p (.lst vs)) F := by
  obtain ⟨p', ws, hs', hp, _, hf⟩ := S.ownl h hx
  rw [hs] at hs'
  cases hs'
  have hF : F i p := (hf p).mpr rfl
  have keep : ∀ a o, H a = some o → a ≠ p → upd H p (.lst vs) a = some o := fun a o q n => by
    rw [upd_ne n]
    exact q
  have st : Stp (Nn X F) H (Nn X F) (upd H p (.lst vs)) := fun a o q n => ⟨n, keep a o q fun z => n (.inr ⟨i, by rw [z]; exact hF⟩)⟩
  have nB : p ∉ B := fun m => S.disX i p hF (S.sub p m)
  have hlen : i < Λ.length := (List.getElem?_eq_some_iff.mp h).1
  refine ⟨⟨S.good.upd nB, S.sub, by rw [List.length_set, S.len], fun j e' u h1 h2 => ?_, fun j a q => by rw [List.length_set]; exact S.out j a q, S.dis, S.disX, fun a m => ?_, fun t m => (S.tmp t m).mono st⟩, ?_⟩
  · rw [List.getElem?_set] at h1
    by_cases q : i = j
    · rw [if_pos q, if_pos hlen] at h1
      cases h1
      rw [← q, hs] at h2
      cases h2
      rw [← q]
      cases e with
      | l zs => exact ⟨p, vs, rfl, upd_same, r.mono st, hf⟩
      | p zs => exact ⟨p, vs, rfl, upd_same, r.mono st, hf⟩
      | no => cases hx
      | v x => cases hx
      | x A => cases hx
      | o C fs => cases hx
    · rw [if_neg q] at h1
      refine (S.ent j e' u h1 h2).mono st fun a m => ?_
      exact upd_ne fun z => q (S.dis i j a (by rw [z]; exact hF) m)
  · obtain ⟨o, z⟩ := S.hasX a m
    exact ⟨o, keep a o z fun w => S.disX i p hF (by rw [← w]; exact m)⟩
  · refine ⟨fun a o q _ nf => keep a o q fun z => nf i (by rw [z]; exact hF), fun j a q => .inl ⟨j, q⟩, fun a o q => ?_, fun j e' h1 q => ?_, List.length_set ..⟩
    · by_cases z : a = p
      · rw [z, upd_same]
        exact ⟨_, rfl⟩
      · exact ⟨o, keep a o q z⟩
    · by_cases z : i = j
      · refine ⟨rfl, e.relst ys, by rw [z, List.getElem?_set_self (by rw [← z]; exact hlen)], ?_⟩
        rw [z, h1] at h
        cases h
        cases e <;> first | exact q | cases q
      · exact ⟨rfl, e', by rw [List.getElem?_set_ne z]; exact h1, q⟩
/-- a list of one's own is given up: a value -/
theorem Sr.frz (S : Sr B K X Λ σ H τ F) {i : Nat} (h : Λ[i]? = some (.l xs)) : ∃ v, σ[i]? = some (some v) ∧ Sr B K X (Λ.set i (.v (.lst xs))) σ H ((.lst xs, v) :: τ) (F.cut i) ∧ Kq B Λ σ H F (Λ.set i (.v (.lst xs))) σ H (F.cut i) := by
  obtain ⟨p, vs, hs, hp, r, hf⟩ := S.ownl h rfl
  have st : Stp (Nn X F) H (Nn X (F.cut i)) H := fun a o h n => ⟨fun z => n (z.imp id fun ⟨j, q⟩ => ⟨j, q.2⟩), h⟩
  have np : ¬ Nn X (F.cut i) p := fun z => by
    rcases z with z | ⟨j, n, z⟩
    · exact S.disX i p ((hf p).mpr rfl) z
    · exact n (S.dis j i p z ((hf p).mpr rfl))
  have rp : Rp (Nn X (F.cut i)) K H (.lst xs) (.ref p) := .lst' ⟨np, hp⟩ (r.mono st)
  have S' : Sr B K X Λ σ H ((.lst xs, .ref p) :: τ) F ∨ True := .inr trivial
  refine ⟨.ref p, hs, ⟨S.good, S.sub, by rw [List.length_set, S.len], fun j e u h h' => ?_, fun j a h => by rw [List.length_set]; exact S.out j a h.2, fun j k a h h' => S.dis j k a h.2 h'.2, fun j a h => S.disX j a h.2, S.hasX, fun t m => ?_⟩, ?_⟩
  · rw [List.getElem?_set] at h
    by_cases q : i = j
    · rw [if_pos q] at h
      split at h
      · cases h
        rw [← q, hs] at h'
        cases h'
        exact ⟨⟨_, rfl, rp⟩, fun a m => m.1 q.symm⟩
      · cases h
    · rw [if_neg q] at h
      have ef : F.cut i j = F j := by
        funext a
        exact propext ⟨fun z => z.2, fun z => ⟨fun w => q w.symm, z⟩⟩
      rw [ef]
      exact (S.ent j e u h h').mono st fun a m => rfl
  · rcases List.mem_cons.mp m with rfl | m
    · exact rp
    · exact (S.tmp t m).mono st
  · refine ⟨fun a o h _ _ => h, fun j a h => .inl ⟨j, h.2⟩, fun a o h => ⟨o, h⟩, fun j e h1 q => ?_, List.length_set ..⟩
    have ne : i ≠ j := fun z => by
      rw [z, h1] at h
      cases h
      cases q
    exact ⟨rfl, e, by rw [List.getElem?_set_ne ne]; exact h1, q⟩
end
end Lg
set_option Elab.async false
set_option linter.all false
set_option maxRecDepth 100000
set_option maxHeartbeats 2000000
/-! what an expression, a statement does to values alone -/
namespace Lg
open PySem PySem.Spec PyProof.Rows L2 Cw
inductive Rs (α : Type) where
  | ok (a : α) (Λ : Env)
  | ex (C : Addr) (nm : Str) (x : LV) (Λ : Env)
abbrev LE := Env → (Rs LV → Prop) → Prop
abbrev LT := Env → (Rs Bool → Prop) → Prop
abbrev LA := Env → (Rs (List LV) → Prop) → Prop
abbrev LO := Env → (Rs (Option Int) → Prop) → Prop
def bk {α β : Type} (k : Rs β → Prop) (g : α → Env → Prop) : Rs α → Prop
  | .ok a Λ => g a Λ
  | .ex C nm x Λ => k (.ex C nm x Λ)
/-- what is wanted behind, made of what is wanted of values -/
structure Cn {α β : Type} (B : Fm) (K : PySem.W.Frag) (X : Ad) (R : Ad → Hp → α → β → Prop) (Λ : Env) (σ : L2.St) (H : Hp) (τ : List (LV × V)) (F : Fp) (k : Rs α → Prop) (Q : β → Hp → Prop) (W : WX) : Prop where
  ok : ∀ a b Λ' H' F', k (.ok a Λ') → Sr B K X Λ' σ H' τ F' → R (Nn X F') H' a b → Kq B Λ σ H F Λ' σ H' F' → Q b H'
  ex : ∀ C nm x u d Λ' H' F', k (.ex C nm x Λ') → Sr B K X Λ' σ H' [] F' → Rp (Nn X F') K H' x u → Kq B Λ σ H F Λ' σ H' F' → H d = none → ¬ Nn X F' d → H' d = some (.xd [(nm, u)]) → W (.ref C) (some d) σ H'
section
variable (B : Fm) (K : PySem.W.Frag) (W : WX)
def SE (te : TE) (le : LE) : Prop := ∀ X Λ σ H τ F k Q, Sr B K X Λ σ H τ F → le Λ k → Cn B K X (fun N H x v => Rp N K H x v) Λ σ H τ F k Q W → te σ H Q
def ST (tt : TT) (lt : LT) : Prop := ∀ X Λ σ H τ F k Q, Sr B K X Λ σ H τ F → lt Λ k → Cn B K X (fun _ _ a b => a = b) Λ σ H τ F k Q W → tt σ H Q
def SA (ta : TA) (la : LA) : Prop := ∀ X Λ σ H τ F k Q, Sr B K X Λ σ H τ F → la Λ k → Cn B K X (fun N H xs vs => Rps N K H xs vs) Λ σ H τ F k Q W → ta σ H Q
def SO (to : TO) (lo : LO) : Prop := ∀ X Λ σ H τ F k Q, Sr B K X Λ σ H τ F → lo Λ k → Cn B K X (fun _ _ a b => a = b) Λ σ H τ F k Q W → to σ H Q
/-- a new list -/
structure NwL (X : Ad) (Λ : Env) (σ : L2.St) (H' : Hp) (τ : List (LV × V)) (F' : Fp) (xs : List LV) (p : Addr) : Prop where
  lst : ∃ vs, H' p = some (.lst vs) ∧ Rps (Nn (fun a => X a ∨ a = p) F') K H' xs vs
  st : Sr B K (fun a => X a ∨ a = p) Λ σ H' τ F'
  nX : ¬ X p
  sub : ∀ a, a ∈ B → X a
structure CnN (X : Ad) (Λ : Env) (σ : L2.St) (H : Hp) (τ : List (LV × V)) (F : Fp) (k : Rs (List LV) → Prop) (Q : VK) : Prop where
  ok : ∀ xs p Λ' H' F', k (.ok xs Λ') → NwL B K X Λ' σ H' τ F' xs p → H p = none → Kq B Λ σ H F Λ' σ H' F' → Q (.ref p) H'
  ex : ∀ C nm x u d Λ' H' F', k (.ex C nm x Λ') → Sr B K X Λ' σ H' [] F' → Rp (Nn X F') K H' x u → Kq B Λ σ H F Λ' σ H' F' → H d = none → ¬ Nn X F' d → H' d = some (.xd [(nm, u)]) → W (.ref C) (some d) σ H'
def SN (te : TE) (ln : LA) : Prop := ∀ X Λ σ H τ F k Q, Sr B K X Λ σ H τ F → ln Λ k → CnN B K W X Λ σ H τ F k Q → te σ H Q
end
section
variable {B : Fm} {K : PySem.W.Frag} {W : WX} {α β : Type} {X : Ad} {R : Ad → Hp → α → β → Prop} {Λ Λ1 : Env} {σ : L2.St} {H H1 : Hp} {τ τ1 : List (LV × V)} {F F1 : Fp} {k : Rs α → Prop} {Q : β → Hp → Prop} {x : LV} {v : V} {xs : List LV} {vs : List V} {p : Addr} {o : HO}
theorem Cn.st (c : Cn B K X R Λ σ H τ F k Q W) (S : Sr B K X Λ1 σ H1 τ1 F1) (q : Kq B Λ σ H F Λ1 σ H1 F1) : Cn B K X R Λ1 σ H1 τ F1 k Q W :=
  ⟨fun a b Λ' H' F' h S' r q' => c.ok a b Λ' H' F' h S' r (q.trans S.good q'), fun C nm x u d Λ' H' F' h S' r q' n n' e => c.ex C nm x u d Λ' H' F' h S' r (q.trans S.good q') (q.back n) n' e⟩
/-- ahead of the last part -/
theorem Cn.bk {γ δ : Type} {R' : Ad → Hp → γ → δ → Prop} {Q' : δ → Hp → Prop} {g : γ → Env → Prop} {τ' : List (LV × V)} (c : Cn B K X R Λ σ H τ F k Q W) (h : ∀ a b Λ' H' F', g a Λ' → Sr B K X Λ' σ H' τ' F' → R' (Nn X F') H' a b → Kq B Λ σ H F Λ' σ H' F' → Q' b H') : Cn B K X R' Λ σ H τ' F (Lg.bk k g) Q' W :=
  ⟨h, c.ex⟩
theorem Sr.subX (S : Sr B K (fun a => X a ∨ a = p) Λ σ H τ F) (hB : p ∉ B) : Sr B K X Λ σ H τ F := by
  have hN : ∀ a, ¬ Nn (fun a => X a ∨ a = p) F a → ¬ Nn X F a := fun a n z => n (z.imp .inl id)
  have st : Stp (Nn (fun a => X a ∨ a = p) F) H (Nn X F) H := fun a o h n => ⟨hN a n, h⟩
  refine ⟨S.good, fun a m => ?_, S.len, fun i e u h h' => (S.ent i e u h h').mono st fun _ _ => rfl, S.out, S.dis, fun i a h z => S.disX i a h (.inl z), fun a m => S.hasX a (.inl m), fun t m => (S.tmp t m).mono st⟩
  rcases S.sub a m with z | z
  · exact z
  · exact (hB (by rw [← z]; exact m)).elim
theorem Sr.addX (S : Sr B K X Λ σ H τ F) (h : H p = none) : Sr B K (fun a => X a ∨ a = p) Λ σ (upd H p o) τ F ∧ Kq B Λ σ H F Λ σ (upd H p o) F ∧ ¬ Nn X F p := by
  obtain ⟨S', q, n⟩ := S.new (o := o) h
  have hn : ∀ a u, upd H p o a = some u → ¬ Nn X F a → a ≠ p → ¬ Nn (fun a => X a ∨ a = p) F a := fun a u _ z ne w => by
    rcases w with (w | w) | w
    · exact z (.inl w)
    · exact ne w
    · exact z (.inr w)
  have st : Stp (Nn X F) H (Nn (fun a => X a ∨ a = p) F) (upd H p o) := fun a u h1 z => by
    have ne : a ≠ p := ne_of_none h1 h
    have e : upd H p o a = some u := by rw [upd_ne ne]; exact h1
    exact ⟨hn a u e z ne, e⟩
  refine ⟨⟨S'.good, fun a m => .inl (S.sub a m), S.len, fun i e u h1 h2 => (S.ent i e u h1 h2).mono st fun a m => ?_, S.out, S.dis, fun i a m z => ?_, fun a m => ?_, fun t m => (S.tmp t m).mono st⟩, q, n⟩
  · obtain ⟨u, z⟩ := S.has (.inr ⟨i, m⟩)
    rw [z]
    rw [upd_ne (ne_of_none z h)]
    exact z
  · rcases z with z | z
    · exact S.disX i a m z
    · exact n (.inr ⟨i, by rw [← z]; exact m⟩)
  · rcases m with m | m
    · obtain ⟨u, z⟩ := S.hasX a m
      exact ⟨u, by rw [upd_ne (ne_of_none z h)]; exact z⟩
    · exact ⟨o, by rw [m]; exact upd_same⟩
theorem NwL.sr (w : NwL B K X Λ σ H τ F xs p) : Sr B K X Λ σ H τ F := w.st.subX fun m => w.nX (w.sub p m)
theorem NwL.nF (w : NwL B K X Λ σ H τ F xs p) : ∀ i, ¬ F i p := fun i m => w.st.disX i p m (.inr rfl)
theorem NwL.nN (w : NwL B K X Λ σ H τ F xs p) : ¬ Nn X F p := fun z => z.elim w.nX fun ⟨i, m⟩ => w.nF i m
theorem NwL.stp (w : NwL B K X Λ σ H τ F xs p) : Stp (Nn (fun a => X a ∨ a = p) F) H (Nn X F) H := fun a o h n => ⟨fun z => n (z.imp .inl id), h⟩
theorem NwL.rp (w : NwL B K X Λ σ H τ F xs p) : Rp (Nn X F) K H (.lst xs) (.ref p) := by
  obtain ⟨vs, e, r⟩ := w.lst
  exact .lst' ⟨w.nN, e⟩ (r.mono w.stp)
/-- a new list laid -/
theorem Sr.nwl (S : Sr B K X Λ σ H τ F) (h : H p = none) (r : Rps (Nn X F) K H xs vs) : NwL B K X Λ σ (upd H p (.lst vs)) τ F xs p ∧ Kq B Λ σ H F Λ σ (upd H p (.lst vs)) F := by
  obtain ⟨S', q, n⟩ := S.addX (o := .lst vs) h
  refine ⟨⟨⟨vs, upd_same, r.mono fun a u e z => ?_⟩, S', fun z => n (.inl z), S.sub⟩, q⟩
  have ne : a ≠ p := ne_of_none e h
  refine ⟨fun w => ?_, by rw [upd_ne ne]; exact e⟩
  rcases w with (w | w) | w
  · exact z (.inl w)
  · exact ne w
  · exact z (.inr w)
/-- it goes into a slot -/
theorem NwL.setl (w : NwL B K X Λ σ H τ F xs p) {i : Nat} (hl : i < Λ.length) (hi : ∀ e, Λ[i]? = some e → e.pin = false) :
    Sr B K X (Λ.set i (.l xs)) (σ.set i (some (.ref p))) H τ (F.put i p) := by
  obtain ⟨vs, e, r⟩ := w.lst
  have S := w.sr
  have st : Stp (Nn (fun a => X a ∨ a = p) F) H (Nn X (F.put i p)) H := fun a o h n => ⟨fun z => by
    rcases z with z | ⟨j, z | z⟩
    · exact n (.inl (.inl z))
    · exact n (.inr ⟨j, z.2⟩)
    · exact n (.inl (.inr z.2)), h⟩
  refine ⟨S.good, S.sub, by rw [List.length_set, List.length_set, S.len], fun j e' u h h' => ?_, fun j a h => ?_, fun j k a h h' => ?_, fun j a h => ?_, S.hasX, fun t m => (w.st.tmp t m).mono st⟩
  · rw [List.getElem?_set] at h h'
    rw [S.len] at h
    by_cases q : i = j
    · rw [if_pos q] at h h'
      split at h
      · rename_i z
        rw [if_pos z] at h'
        cases h
        cases h'
        exact ⟨p, vs, rfl, e, r.mono st, fun a => ⟨fun z => z.elim (fun z => (z.1 q.symm).elim) fun z => z.2, fun z => .inr ⟨q.symm, z⟩⟩⟩
      · cases h
    · rw [if_neg q] at h h'
      have ef : F.put i p j = F j := by
        funext a
        exact propext ⟨fun z => z.elim (fun z => z.2) fun z => (q z.1.symm).elim, fun z => .inl ⟨fun w => q w.symm, z⟩⟩
      rw [ef]
      exact (w.st.ent j e' u h h').mono st fun a m => rfl
  · rw [List.length_set]
    rcases h with h | h
    · exact S.out j a h.2
    · rw [h.1]
      exact hl
  · rcases h with h | h
    · rcases h' with h' | h'
      · exact S.dis j k a h.2 h'.2
      · exact (w.nF j (by rw [← h'.2]; exact h.2)).elim
    · rcases h' with h' | h'
      · exact (w.nF k (by rw [← h.2]; exact h'.2)).elim
      · rw [h.1, h'.1]
  · rcases h with h | h
    · exact S.disX j a h.2
    · rw [h.2]
      exact w.nX
theorem put_kq {i : Nat} (hi : ∀ e, Λ[i]? = some e → e.pin = false) (h : Kq B Λ1 σ H1 F1 Λ σ H F) (h0 : H1 p = none) : Kq B Λ1 σ H1 F1 (Λ.set i (.l xs)) (σ.set i (some (.ref p))) H (F.put i p) := by
  refine ⟨h.keep, fun j a z => ?_, h.all, fun j e h1 q => ?_, (List.length_set ..).trans h.ln⟩
  · rcases z with z | z
    · exact h.own j a z.2
    · rw [z.2]
      exact .inr h0
  · obtain ⟨_, e', h2, q'⟩ := h.pin j e h1 q
    have ne : i ≠ j := fun z => by
      rw [hi e' (by rw [z]; exact h2)] at q'
      cases q'
    exact ⟨List.getElem?_set_ne ne, e', by rw [List.getElem?_set_ne ne]; exact h2, q'⟩
end
end Lg
set_option Elab.async false
set_option linter.all false
set_option maxRecDepth 100000
set_option maxHeartbeats 2000000
/-! expressions over values -/
namespace Lg
open PySem PySem.Spec PyProof.Rows L2 Cw
def Br (b : Bool) (p q : Prop) : Prop := (b = true → p) ∧ (b = false → q)
def lVar (i : Nat) : LE := fun Λ k => match Λ[i]? with
  | some (.v x) => k (.ok x Λ)
  | some (.l xs) => k (.ok (.lst xs) (Λ.set i (.v (.lst xs))))
  | _ => False
def lC (x : LV) : LE := fun Λ k => k (.ok x Λ)
abbrev F2 := LV → LV → (LV → Prop) → Prop
abbrev F1 := LV → (LV → Prop) → Prop
abbrev FA := List LV → (LV → Prop) → Prop
def lOp (f : F2) (la lb : LE) : LE := fun Λ k => la Λ (bk k fun a Λ1 => lb Λ1 (bk k fun b Λ2 => f a b fun c => k (.ok c Λ2)))
def lUn (f : F1) (la : LE) : LE := fun Λ k => la Λ (bk k fun a Λ1 => f a fun c => k (.ok c Λ1))
def lCB (f : FA) (la : LA) : LE := fun Λ k => la Λ (bk k fun a Λ1 => f a fun c => k (.ok c Λ1))
def lTest (le : LE) : LT := fun Λ k => le Λ (bk k fun x Λ1 => match x with
  | .bl b => k (.ok b Λ1)
  | _ => False)
def lAnd (l1 l2 : LT) : LT := fun Λ k => l1 Λ (bk k fun b Λ1 => Br b (l2 Λ1 k) (k (.ok false Λ1)))
def lOr (l1 l2 : LT) : LT := fun Λ k => l1 Λ (bk k fun b Λ1 => Br b (k (.ok true Λ1)) (l2 Λ1 k))
def lNot (l : LT) : LT := fun Λ k => l Λ (bk k fun b Λ1 => k (.ok (!b) Λ1))
def lIfE (l : LT) (la lb : LE) : LE := fun Λ k => l Λ (bk k fun b Λ1 => Br b (la Λ1 k) (lb Λ1 k))
def lAndV (la lb : LE) : LE := fun Λ k => la Λ (bk k fun x Λ1 => match x with
  | .bl b => Br b (lb Λ1 k) (k (.ok (.bl false) Λ1))
  | _ => False)
def lOrV (la lb : LE) : LE := fun Λ k => la Λ (bk k fun x Λ1 => match x with
  | .bl b => Br b (k (.ok (.bl true) Λ1)) (lb Λ1 k)
  | _ => False)
def lNotV (la : LE) : LE := fun Λ k => la Λ (bk k fun x Λ1 => match x with
  | .bl b => k (.ok (.bl (!b)) Λ1)
  | _ => False)
def lNil : LA := fun Λ k => k (.ok [] Λ)
def lCons (la : LE) (lr : LA) : LA := fun Λ k => la Λ (bk k fun a Λ1 => lr Λ1 (bk k fun xs Λ2 => k (.ok (a :: xs) Λ2)))
def lTup (la : LA) : LE := fun Λ k => la Λ (bk k fun xs Λ1 => xs.length ≤ 100000 ∧ k (.ok (.tup xs) Λ1))
def lLst (la : LA) : LA := fun Λ k => la Λ (bk k fun xs Λ1 => xs.length ≤ 100000 ∧ k (.ok xs Λ1))
def lNew (ln : LA) : LE := fun Λ k => ln Λ (bk k fun xs Λ1 => k (.ok (.lst xs) Λ1))
def lNoPart : LO := fun Λ k => k (.ok none Λ)
def lPart (le : LE) : LO := fun Λ k => le Λ (bk k fun x Λ1 => match x with
  | .int i => k (.ok (some i) Λ1)
  | _ => False)
section
variable {B : Fm} {K : PySem.W.Frag} {W : WX} {w : World}
theorem se_var (i : Nat) : SE B K W (tVar i) (lVar i) := by
  intro X Λ σ H τ F k Q S h c
  unfold lVar at h
  split at h
  · rename_i x e
    obtain ⟨v, e', r⟩ := S.get e
    exact ⟨v, e', c.ok _ _ _ _ _ h S r Kq.refl⟩
  · rename_i xs e
    obtain ⟨v, e', S', q⟩ := S.frz e
    exact ⟨v, e', c.ok _ _ _ _ _ h S'.pop.2 S'.pop.1 q⟩
  · exact h.elim
theorem se_c {x : LV} {v : V} (hx : ∀ N H, Rp N K H x v) : SE B K W (tC v) (lC x) := fun X Λ σ H τ F k Q S h c => c.ok _ _ _ _ _ h S (hx _ _) Kq.refl
theorem se_int {i : Int} : SE B K W (tC (.int i)) (lC (.int i)) := se_c fun _ _ => .int i
theorem se_bl {b : Bool} : SE B K W (tC (.bl b)) (lC (.bl b)) := se_c fun _ _ => .bl b
theorem se_non : SE B K W (tC .non) (lC .non) := se_c fun _ _ => .non
theorem se_op_ {v : V} : SE B K W (tC v) (lC (.op v)) := se_c fun _ _ => .op v
theorem se_str {a : Str} {l : List Nat} (h : a = S l) : SE B K W (tC (.str a)) (lC (.str l)) := by
  rw [h]
  exact se_c fun _ _ => .str l
section
variable (B K)
def RV2 (r : R2) (f : F2) : Prop := ∀ X Λ σ H τ F x y u v, Sr B K X Λ σ H τ F → Rp (Nn X F) K H x u → Rp (Nn X F) K H y v → ∀ (k : LV → Prop) Q, f x y k → (∀ z w H', k z → Sr B K X Λ σ H' τ F → Rp (Nn X F) K H' z w → Kq B Λ σ H F Λ σ H' F → Q w H') → r u v H Q
def RV1 (r : V → Hp → VK → Prop) (f : F1) : Prop := ∀ X Λ σ H τ F x u, Sr B K X Λ σ H τ F → Rp (Nn X F) K H x u → ∀ (k : LV → Prop) Q, f x k → (∀ z w H', k z → Sr B K X Λ σ H' τ F → Rp (Nn X F) K H' z w → Kq B Λ σ H F Λ σ H' F → Q w H') → r u H Q
def RVA (r : List V → Hp → VK → Prop) (f : FA) : Prop := ∀ X Λ σ H τ F xs us, Sr B K X Λ σ H τ F → Rps (Nn X F) K H xs us → ∀ (k : LV → Prop) Q, f xs k → (∀ z w H', k z → Sr B K X Λ σ H' τ F → Rp (Nn X F) K H' z w → Kq B Λ σ H F Λ σ H' F → Q w H') → r us H Q
end
variable {ta tb te : TE} {la lb le : LE} {tt t1 t2 : TT} {l1 l2 lt : LT} {tr : TA} {lr : LA} {r : R2} {f : F2}
theorem se_op (hr : RV2 B K r f) (ha : SE B K W ta la) (hb : SE B K W tb lb) : SE B K W (tOp r ta tb) (lOp f la lb) := by
  intro X Λ σ H τ F k Q S h c
  refine ha X Λ σ H τ F _ _ S h (c.bk (τ' := τ) fun a u Λ1 H1 F1 h1 S1 r1 q1 => ?_)
  refine hb X Λ1 σ H1 ((a, u) :: τ) F1 _ _ (S1.push r1) h1 ((c.st S1 q1).bk (τ' := (a, u) :: τ) fun b v Λ2 H2 F2 h2 S2 r2 q2 => ?_)
  obtain ⟨ra, S2'⟩ := S2.pop
  exact hr X Λ2 σ H2 τ F2 a b u v S2' ra r2 _ Q h2 fun z w H3 hz S3 rz q3 => c.ok _ _ _ _ _ hz S3 rz ((q1.trans S1.good q2).trans S2'.good q3)
theorem se_un {r : V → Hp → VK → Prop} {f : F1} (hr : RV1 B K r f) (ha : SE B K W ta la) : SE B K W (tUn r ta) (lUn f la) := by
  intro X Λ σ H τ F k Q S h c
  refine ha X Λ σ H τ F _ _ S h (c.bk (τ' := τ) fun a u Λ1 H1 F1 h1 S1 r1 q1 => ?_)
  exact hr X Λ1 σ H1 τ F1 a u S1 r1 _ Q h1 fun z w H3 hz S3 rz q3 => c.ok _ _ _ _ _ hz S3 rz (q1.trans S1.good q3)
theorem se_cb {r : List V → Hp → VK → Prop} {f : FA} (hr : RVA B K r f) (ha : SA B K W tr lr) : SE B K W (tCB r tr) (lCB f lr) := by
  intro X Λ σ H τ F k Q S h c
  refine ha X Λ σ H τ F _ _ S h (c.bk (τ' := τ) fun a u Λ1 H1 F1 h1 S1 r1 q1 => ?_)
  exact hr X Λ1 σ H1 τ F1 a u S1 r1 _ Q h1 fun z w H3 hz S3 rz q3 => c.ok _ _ _ _ _ hz S3 rz (q1.trans S1.good q3)
theorem st_test (h0 : SE B K W te le) : ST B K W (tTest te) (lTest le) := by
  intro X Λ σ H τ F k Q S h c
  refine h0 X Λ σ H τ F _ _ S h (c.bk (τ' := τ) fun a u Λ1 H1 F1 h1 S1 r1 q1 => ?_)
  cases r1 <;> first | exact ⟨_, rfl, c.ok _ _ _ _ _ h1 S1 rfl q1⟩ | exact h1.elim
theorem st_B (h0 : SE B K W te le) : ST B K W (tB te) (lTest le) := st_test h0
theorem st_and (h1 : ST B K W t1 l1) (h2 : ST B K W t2 l2) : ST B K W (tAnd t1 t2) (lAnd l1 l2) := by
  intro X Λ σ H τ F k Q S h c
  refine h1 X Λ σ H τ F _ _ S h (c.bk (τ' := τ) fun a u Λ1 H1 F1 g1 S1 r1 q1 => ?_)
  subst r1
  cases a with
  | true => exact h2 X Λ1 σ H1 τ F1 k Q S1 (g1.1 rfl) (c.st S1 q1)
  | false => exact c.ok _ _ _ _ _ (g1.2 rfl) S1 rfl q1
theorem st_or (h1 : ST B K W t1 l1) (h2 : ST B K W t2 l2) : ST B K W (tOr t1 t2) (lOr l1 l2) := by
  intro X Λ σ H τ F k Q S h c
  refine h1 X Λ σ H τ F _ _ S h (c.bk (τ' := τ) fun a u Λ1 H1 F1 g1 S1 r1 q1 => ?_)
  subst r1
  cases a with
  | true => exact c.ok _ _ _ _ _ (g1.1 rfl) S1 rfl q1
  | false => exact h2 X Λ1 σ H1 τ F1 k Q S1 (g1.2 rfl) (c.st S1 q1)
theorem st_not (h1 : ST B K W t1 l1) : ST B K W (tNot t1) (lNot l1) := by
  intro X Λ σ H τ F k Q S h c
  refine h1 X Λ σ H τ F _ _ S h (c.bk (τ' := τ) fun a u Λ1 H1 F1 g1 S1 r1 q1 => ?_)
  subst r1
  exact c.ok _ _ _ _ _ g1 S1 rfl q1
theorem se_if (h1 : ST B K W tt lt) (ha : SE B K W ta la) (hb : SE B K W tb lb) : SE B K W (tIf tt ta tb) (lIfE lt la lb) := by
  intro X Λ σ H τ F k Q S h c
  refine h1 X Λ σ H τ F _ _ S h (c.bk (τ' := τ) fun a u Λ1 H1 F1 g1 S1 r1 q1 => ?_)
  subst r1
  cases a with
  | true => exact ha X Λ1 σ H1 τ F1 k Q S1 (g1.1 rfl) (c.st S1 q1)
  | false => exact hb X Λ1 σ H1 τ F1 k Q S1 (g1.2 rfl) (c.st S1 q1)
theorem se_and (ha : SE B K W ta la) (hb : SE B K W tb lb) : SE B K W (tAndV ta tb) (lAndV la lb) := by
  intro X Λ σ H τ F k Q S h c
  refine ha X Λ σ H τ F _ _ S h (c.bk (τ' := τ) fun a u Λ1 H1 F1 g1 S1 r1 q1 => ?_)
  cases r1 <;> first | exact g1.elim | skip
  rename_i b
  refine ⟨b, rfl, ?_⟩
  cases b with
  | true => exact hb X Λ1 σ H1 τ F1 k Q S1 (g1.1 rfl) (c.st S1 q1)
  | false => exact c.ok _ _ _ _ _ (g1.2 rfl) S1 (.bl false) q1
theorem se_or (ha : SE B K W ta la) (hb : SE B K W tb lb) : SE B K W (tOrV ta tb) (lOrV la lb) := by
  intro X Λ σ H τ F k Q S h c
  refine ha X Λ σ H τ F _ _ S h (c.bk (τ' := τ) fun a u Λ1 H1 F1 g1 S1 r1 q1 => ?_)
  cases r1 <;> first | exact g1.elim | skip
  rename_i b
  refine ⟨b, rfl, ?_⟩
  cases b with
  | true => exact c.ok _ _ _ _ _ (g1.1 rfl) S1 (.bl true) q1
  | false => exact hb X Λ1 σ H1 τ F1 k Q S1 (g1.2 rfl) (c.st S1 q1)
theorem se_not (ha : SE B K W ta la) : SE B K W (tNotV ta) (lNotV la) := by
  intro X Λ σ H τ F k Q S h c
  refine ha X Λ σ H τ F _ _ S h (c.bk (τ' := τ) fun a u Λ1 H1 F1 g1 S1 r1 q1 => ?_)
  cases r1 <;> first | exact g1.elim | skip
  rename_i b
  exact ⟨b, rfl, c.ok _ _ _ _ _ g1 S1 (.bl _) q1⟩
theorem sa_nil : SA B K W tNil lNil := fun X Λ σ H τ F k Q S h c => c.ok _ _ _ _ _ h S .nil Kq.refl
theorem sa_cons (ha : SE B K W ta la) (hr : SA B K W tr lr) : SA B K W (tCons ta tr) (lCons la lr) := by
  intro X Λ σ H τ F k Q S h c
  refine ha X Λ σ H τ F _ _ S h (c.bk (τ' := τ) fun a u Λ1 H1 F1 h1 S1 r1 q1 => ?_)
  refine hr X Λ1 σ H1 ((a, u) :: τ) F1 _ _ (S1.push r1) h1 ((c.st S1 q1).bk (τ' := (a, u) :: τ) fun b v Λ2 H2 F2 h2 S2 r2 q2 => ?_)
  obtain ⟨ra, S2'⟩ := S2.pop
  exact c.ok _ _ _ _ _ h2 S2' (.cons ra r2) (q1.trans S1.good q2)
theorem so_no : SO B K W tNoPart lNoPart := fun X Λ σ H τ F k Q S h c => c.ok _ _ _ _ _ h S rfl Kq.refl
theorem so_part (ha : SE B K W ta la) : SO B K W (tPart ta) (lPart la) := by
  intro X Λ σ H τ F k Q S h c
  refine ha X Λ σ H τ F _ _ S h (c.bk (τ' := τ) fun a u Λ1 H1 F1 h1 S1 r1 q1 => ?_)
  cases r1 <;> first | exact ⟨_, rfl, c.ok _ _ _ _ _ h1 S1 rfl q1⟩ | exact h1.elim
theorem se_tup (hr : SA B K W tr lr) : SE B K W (tTup tr) (lTup lr) := by
  intro X Λ σ H τ F k Q S h c
  refine hr X Λ σ H τ F _ _ S h (c.bk (τ' := τ) fun xs vs Λ1 H1 F1 h1 S1 r1 q1 => ?_)
  refine ⟨Nat.le_trans (by rw [← r1.len]; exact h1.1) (by decide), fun p hp => ?_⟩
  obtain ⟨S2, q2, n2⟩ := S1.new (o := .tup vs) hp
  have st : Stp (Nn X F1) H1 (Nn X F1) (upd H1 p (.tup vs)) := fun a o h n => ⟨n, by rw [upd_ne (ne_of_none h hp)]; exact h⟩
  exact c.ok _ _ _ _ _ h1.2 S2 (.tup' ⟨n2, upd_same⟩ (r1.mono st)) (q1.trans S1.good q2)
theorem sn_lst (hr : SA B K W tr lr) : SN B K W (tLst tr) (lLst lr) := by
  intro X Λ σ H τ F k Q S h c
  refine hr X Λ σ H τ F (bk k fun xs Λ1 => xs.length ≤ 100000 ∧ k (.ok xs Λ1)) _ S h ⟨fun xs vs Λ1 H1 F1 h1 S1 r1 q1 => ?_, c.ex⟩
  refine ⟨Nat.le_trans (by rw [← r1.len]; exact h1.1) (by decide), fun p hp => ?_⟩
  obtain ⟨n2, q2⟩ := S1.nwl hp r1
  exact c.ok _ _ _ _ _ h1.2 n2 (q1.back hp) (q1.trans S1.good q2)
theorem se_new {ln : LA} (hn : SN B K W te ln) : SE B K W te (lNew ln) := by
  intro X Λ σ H τ F k Q S h c
  exact hn X Λ σ H τ F (bk k fun xs Λ1 => k (.ok (.lst xs) Λ1)) Q S h ⟨fun xs p Λ1 H1 F1 h1 n _ q => c.ok _ _ _ _ _ h1 n.sr n.rp q, c.ex⟩
/-! ### by values -/
def fI0 (g : Int → Int → LV) : F2 := fun x y k => match x, y with
  | .int i, .int j => k (g i j)
  | _, _ => False
def fI (C : Int → Int → Prop) (g : Int → Int → LV) : F2 := fun x y k => match x, y with
  | .int i, .int j => C i j ∧ k (g i j)
  | _, _ => False
theorem rv_I0' {g' : Int → Int → V} {g : Int → Int → LV} (hg : ∀ N H i j, Rp N K H (g i j) (g' i j)) : RV2 B K (rI0 g') (fI0 g) := by
  intro X Λ σ H τ F x y u v S rx ry k Q h q
  unfold fI0 at h
  split at h
  · exact ⟨_, _, rx.int_inv, ry.int_inv, q _ _ _ h S (hg _ _ _ _) Kq.refl⟩
  · exact h.elim
theorem rv_I' {C : Int → Int → Prop} {g' : Int → Int → V} {g : Int → Int → LV} (hg : ∀ N H i j, Rp N K H (g i j) (g' i j)) : RV2 B K (rI C g') (fI C g) := by
  intro X Λ σ H τ F x y u v S rx ry k Q h q
  unfold fI at h
  split at h
  · exact ⟨_, _, rx.int_inv, ry.int_inv, h.1, q _ _ _ h.2 S (hg _ _ _ _) Kq.refl⟩
  · exact h.elim
def fEq (n : Bool) : F2 := fun x y k => match x, y with
  | .int i, .int j => k (.bl (xor n (decide (i = j))))
  | .str a, .str b => k (.bl (xor n (decide (a = b))))
  | .bl a, .bl b => k (.bl (xor n (decide (a = b))))
  | _, _ => False
theorem int_dec (i j : Int) : decide (V.int i = V.int j) = decide (i = j) := by
  by_cases h : i = j
  · rw [h, decide_eq_true rfl, decide_eq_true rfl]
  · rw [decide_eq_false h, decide_eq_false fun z => h (V.int.inj z)]
theorem bl_dec (i j : Bool) : decide (V.bl i = V.bl j) = decide (i = j) := by
  by_cases h : i = j
  · rw [h, decide_eq_true rfl, decide_eq_true rfl]
  · rw [decide_eq_false h, decide_eq_false fun z => h (V.bl.inj z)]
theorem rv_eq' : RV2 B K rEq (fEq false) := by
  intro X Λ σ H τ F x y u v S rx ry k Q h q
  unfold fEq at h
  split at h
  · rw [rx.int_inv, ry.int_inv]
    refine ⟨rfl, ?_⟩
    rw [int_dec]
    exact q _ _ _ h S (.bl _) Kq.refl |> fun z => by
      rw [Bool.false_xor] at z
      exact z
  · rw [rx.str_inv, ry.str_inv]
    refine ⟨rfl, ?_⟩
    rw [sv_dec]
    exact q _ _ _ h S (.bl _) Kq.refl |> fun z => by
      rw [Bool.false_xor] at z
      exact z
  · rw [rx.bl_inv, ry.bl_inv]
    refine ⟨rfl, ?_⟩
    rw [bl_dec]
    exact q _ _ _ h S (.bl _) Kq.refl |> fun z => by
      rw [Bool.false_xor] at z
      exact z
  · exact h.elim
theorem rv_ne' : RV2 B K rNe (fEq true) := by
  intro X Λ σ H τ F x y u v S rx ry k Q h q
  unfold fEq at h
  split at h
  · rw [rx.int_inv, ry.int_inv]
    refine ⟨rfl, ?_⟩
    rw [int_dec]
    exact q _ _ _ h S (.bl _) Kq.refl |> fun z => by
      rw [Bool.true_xor] at z
      exact z
  · rw [rx.str_inv, ry.str_inv]
    refine ⟨rfl, ?_⟩
    rw [sv_dec]
    exact q _ _ _ h S (.bl _) Kq.refl |> fun z => by
      rw [Bool.true_xor] at z
      exact z
  · rw [rx.bl_inv, ry.bl_inv]
    refine ⟨rfl, ?_⟩
    rw [bl_dec]
    exact q _ _ _ h S (.bl _) Kq.refl |> fun z => by
      rw [Bool.true_xor] at z
      exact z
  · exact h.elim
theorem atI_map {α β : Type} {xs : List α} {ys : List β} (h : xs.length = ys.length) {i : Int} {x : α} (e : atI xs i = some x) : ∃ (n : Nat) (y : β), xs[n]? = some x ∧ ys[n]? = some y ∧ atI ys i = some y := by
  unfold atI at e ⊢
  rw [← h]
  cases q : ixN xs.length i with
  | none => rw [q] at e; cases e
  | some n =>
    rw [q] at e
    have e1 : xs[n]? = some x := e
    obtain ⟨hn, _⟩ := List.getElem?_eq_some_iff.mp e1
    have hn' : n < ys.length := by rw [← h]; exact hn
    exact ⟨n, ys[n], e1, List.getElem?_eq_getElem hn', List.getElem?_eq_getElem hn'⟩
/-- x[i] of a list, of a tuple -/
def fIxL : F2 := fun x y k => match x, y with
  | .lst xs, .int i => ∃ z, atI xs i = some z ∧ k z
  | .scr ns, .int i => ∃ z, atI ns i = some z ∧ k (.int z)
  | _, _ => False
def fIxT : F2 := fun x y k => match x, y with
  | .tup xs, .int i => ∃ z, atI xs i = some z ∧ k z
  | _, _ => False
theorem rv_ixL' : RV2 B K (rIxL K) fIxL := by
  intro X Λ σ H τ F x y u v S rx ry k Q h q
  unfold fIxL at h
  split at h
  · obtain ⟨z, e, hz⟩ := h
    obtain ⟨p, vs, rfl, hp, r⟩ := rx.lst_inv
    obtain ⟨n, w, e1, e2, e3⟩ := atI_map r.len e
    exact ⟨p, vs, _, w, rfl, ry.int_inv, hp.sq, e3, q _ _ _ hz S (r.get n _ _ e1 e2) Kq.refl⟩
  · rename_i ns i
    obtain ⟨z, e, hz⟩ := h
    obtain ⟨p, rfl, hp⟩ := rx.scr_inv
    obtain ⟨n, w, e1, e2, e3⟩ := atI_map (xs := ns) (ys := ns.map V.int) (by rw [List.length_map]) e
    rw [List.getElem?_map, e1] at e2
    cases e2
    exact ⟨p, _, _, _, rfl, ry.int_inv, hp, e3, q _ _ _ hz S (.int z) Kq.refl⟩
  · exact h.elim
theorem rv_ixT' : RV2 B K (rIxT K) fIxT := by
  intro X Λ σ H τ F x y u v S rx ry k Q h q
  unfold fIxT at h
  split at h
  · obtain ⟨z, e, hz⟩ := h
    obtain ⟨p, vs, rfl, hp, r⟩ := rx.tup_inv
    obtain ⟨n, w, e1, e2, e3⟩ := atI_map r.len e
    exact ⟨p, vs, _, w, rfl, ry.int_inv, hp.sq, e3, q _ _ _ hz S (r.get n _ _ e1 e2) Kq.refl⟩
  · exact h.elim
/-- slot i holds a list of its own: its item -/
def own? (Λ : Env) (i : Nat) : Option (List LV) := (Λ[i]?).bind Ent.lst?
def lIxO (i : Nat) (lb : LE) : LE := fun Λ k => (own? Λ i).isSome = true ∧ lb Λ (bk k fun y Λ1 => match own? Λ1 i, y with
  | some xs, .int j => ∃ z, atI xs j = some z ∧ k (.ok z Λ1)
  | _, _ => False)
theorem own_at {Λ : Env} {i : Nat} {xs : List LV} (h : own? Λ i = some xs) : ∃ e, Λ[i]? = some e ∧ e.lst? = some xs := by
  unfold own? at h
  cases q : Λ[i]? with
  | none => rw [q] at h; cases h
  | some e => rw [q] at h; exact ⟨e, rfl, h⟩
theorem se_ixO {i : Nat} (hb : SE B K W tb lb) : SE B K W (tOp (rIxL K) (tVar i) tb) (lIxO i lb) := by
  intro X Λ σ H τ F k Q S h c
  obtain ⟨ys, ey⟩ := Option.isSome_iff_exists.mp h.1
  obtain ⟨e0, a0, b0⟩ := own_at ey
  obtain ⟨p, _, hs, _⟩ := S.ownl a0 b0
  refine ⟨_, hs, ?_⟩
  refine hb X Λ σ H τ F _ _ S h.2 (c.bk (τ' := τ) fun y v Λ1 H1 F1 h1 S1 r1 q1 => ?_)
  split at h1
  · rename_i xs j e1
    obtain ⟨z, ez, hz⟩ := h1
    obtain ⟨e2, a2, b2⟩ := own_at e1
    obtain ⟨p', vs, hs', hp, r, _⟩ := S1.ownl a2 b2
    rw [hs] at hs'
    cases hs'
    obtain ⟨n, w, n1, n2, n3⟩ := atI_map r.len ez
    exact ⟨p, vs, _, w, rfl, r1.int_inv, l_of hp, n3, c.ok _ _ _ _ _ hz S1 (r.get n _ _ n1 n2) q1⟩
  · exact h1.elim
/-- built-ins -/
def fLen : FA := fun xs k => match xs with
  | [.lst ys] => k (.int (ys.length : Nat))
  | [.tup ys] => k (.int (ys.length : Nat))
  | [.scr ns] => k (.int (ns.length : Nat))
  | _ => False
def fLenS : FA := fun xs k => match xs with
  | [.str a] => a.length ≤ 100000 ∧ k (.int (a.length : Nat))
  | _ => False
theorem Rps.one_inv {N : Ad} {H : Hp} {x : LV} {vs : List V} (h : Rps N K H [x] vs) : ∃ v, vs = [v] ∧ Rp N K H x v := by
  obtain ⟨v, r, rfl, h1, h2⟩ := h.cons_inv
  rw [h2.nil_inv]
  exact ⟨v, rfl, h1⟩
theorem Rps.two_inv {N : Ad} {H : Hp} {x y : LV} {vs : List V} (h : Rps N K H [x, y] vs) : ∃ v u, vs = [v, u] ∧ Rp N K H x v ∧ Rp N K H y u := by
  obtain ⟨v, r, rfl, h1, h2⟩ := h.cons_inv
  obtain ⟨u, rfl, h3⟩ := h2.one_inv
  exact ⟨v, u, rfl, h1, h3⟩
theorem rva_len : RVA B K (fun xs H Q => ∃ p ys, xs = [.ref p] ∧ (SqL K H p ys ∨ SqT K H p ys) ∧ Q (.int ys.length) H) fLen := by
  intro X Λ σ H τ F xs us S r k Q h q
  unfold fLen at h
  split at h
  · obtain ⟨v, rfl, rx⟩ := r.one_inv
    obtain ⟨p, vs, rfl, hp, rr⟩ := rx.lst_inv
    exact ⟨p, vs, rfl, .inl hp.sq, by rw [← rr.len]; exact q _ _ _ h S (.int _) Kq.refl⟩
  · obtain ⟨v, rfl, rx⟩ := r.one_inv
    obtain ⟨p, vs, rfl, hp, rr⟩ := rx.tup_inv
    exact ⟨p, vs, rfl, .inr hp.sq, by rw [← rr.len]; exact q _ _ _ h S (.int _) Kq.refl⟩
  · obtain ⟨v, rfl, rx⟩ := r.one_inv
    obtain ⟨p, rfl, hp⟩ := rx.scr_inv
    exact ⟨p, _, rfl, .inl hp, by rw [List.length_map]; exact q _ _ _ h S (.int _) Kq.refl⟩
  · exact h.elim
theorem rva_lenS : RVA B K (fun xs H Q => ∃ z : Str, xs = [.str z] ∧ z.length ≤ sizeLine ∧ Q (.int z.length) H) fLenS := by
  intro X Λ σ H τ F xs us S r k Q h q
  unfold fLenS at h
  split at h
  · obtain ⟨v, rfl, rx⟩ := r.one_inv
    rw [rx.str_inv]
    exact ⟨Cw.S _, rfl, by rw [S_len]; exact Nat.le_trans h.1 (by decide), by rw [S_len]; exact q _ _ _ h.2 S (.int _) Kq.refl⟩
  · exact h.elim
/-- len(x), x a list of its own -/
def lLenO (i : Nat) : LE := fun Λ k => match own? Λ i with
  | some xs => k (.ok (.int (xs.length : Nat)) Λ)
  | none => False
theorem se_lenO {i : Nat} : SE B K W (tCB (fun xs H Q => ∃ p ys, xs = [.ref p] ∧ (SqL K H p ys ∨ SqT K H p ys) ∧ Q (.int ys.length) H) (tCons (tVar i) tNil)) (lLenO i) := by
  intro X Λ σ H τ F k Q S h c
  unfold lLenO at h
  split at h
  · rename_i xs e
    obtain ⟨e0, a0, b0⟩ := own_at e
    obtain ⟨p, vs, hs, hp, r, _⟩ := S.ownl a0 b0
    exact ⟨_, hs, p, vs, rfl, .inl (l_of hp), by rw [← r.len]; exact c.ok _ _ _ _ _ h S (.int _) Kq.refl⟩
  · exact h.elim
def fMax2 : FA := fun xs k => match xs with
  | [.int i, .int j] => k (.int (if j > i then j else i))
  | _ => False
theorem rva_max2 : RVA B K (fun xs H Q => ∃ i j : Int, xs = [.int i, .int j] ∧ Q (.int (if j > i then j else i)) H) fMax2 := by
  intro X Λ σ H τ F xs us S r k Q h q
  unfold fMax2 at h
  split at h
  · obtain ⟨v, u, rfl, rx, ry⟩ := r.two_inv
    rw [rx.int_inv, ry.int_inv]
    exact ⟨_, _, rfl, q _ _ _ h S (.int _) Kq.refl⟩
  · exact h.elim
def fMin2 : FA := fun xs k => match xs with
  | [.int i, .int j] => k (.int (if j < i then j else i))
  | _ => False
theorem rva_min2 : RVA B K (fun xs H Q => ∃ i j : Int, xs = [.int i, .int j] ∧ Q (.int (if j < i then j else i)) H) fMin2 := by
  intro X Λ σ H τ F xs us S r k Q h q
  unfold fMin2 at h
  split at h
  · obtain ⟨v, u, rfl, rx, ry⟩ := r.two_inv
    rw [rx.int_inv, ry.int_inv]
    exact ⟨_, _, rfl, q _ _ _ h S (.int _) Kq.refl⟩
  · exact h.elim
def fAbs : FA := fun xs k => match xs with
  | [.int i] => k (.int (if i < 0 then -i else i))
  | _ => False
theorem rva_abs : RVA B K (fun xs H Q => ∃ i : Int, xs = [.int i] ∧ Q (.int (if i < 0 then -i else i)) H) fAbs := by
  intro X Λ σ H τ F xs us S r k Q h q
  unfold fAbs at h
  split at h
  · obtain ⟨v, rfl, rx⟩ := r.one_inv
    rw [rx.int_inv]
    exact ⟨_, rfl, q _ _ _ h S (.int _) Kq.refl⟩
  · exact h.elim
def fInt : FA := fun xs k => match xs with
  | [.int i] => k (.int i)
  | [.bl b] => k (.int (if b then 1 else 0))
  | _ => False
theorem rva_int : RVA B K (fun xs H Q => (∃ i, xs = [V.int i] ∧ Q (.int i) H) ∨ ∃ k, xs = [V.bl k] ∧ Q (.int (if k then 1 else 0)) H) fInt := by
  intro X Λ σ H τ F xs us S r k Q h q
  unfold fInt at h
  split at h
  · obtain ⟨v, rfl, rx⟩ := r.one_inv
    rw [rx.int_inv]
    exact .inl ⟨_, rfl, q _ _ _ h S (.int _) Kq.refl⟩
  · obtain ⟨v, rfl, rx⟩ := r.one_inv
    rw [rx.bl_inv]
    exact .inr ⟨_, rfl, q _ _ _ h S (.int _) Kq.refl⟩
  · exact h.elim
def fNeg : F1 := fun x k => match x with
  | .int i => k (.int (-i))
  | _ => False
theorem rv1_neg : RV1 B K (rU fun i => .int (-i)) fNeg := by
  intro X Λ σ H τ F x u S r k Q h q
  unfold fNeg at h
  split at h
  · rw [r.int_inv]
    exact ⟨_, rfl, q _ _ _ h S (.int _) Kq.refl⟩
  · exact h.elim
/-! ### new lists -/
def cutL (xs : List LV) (lo hi : Option Int) : List LV := (xs.drop (HT.sIx xs.length 0 lo)).take (HT.sIx xs.length xs.length hi - HT.sIx xs.length 0 lo)
def lSl (le : LE) (lo hi : LO) : LA := fun Λ k => le Λ (bk k fun x Λ1 => lo Λ1 (bk k fun a Λ2 => hi Λ2 (bk k fun b Λ3 => match x with
  | .lst xs => k (.ok (cutL xs a b) Λ3)
  | .scr ns => k (.ok (cutL (ilv ns) a b) Λ3)
  | _ => False)))
theorem sn_sl {tl th : TO} {lo hi : LO} (h0 : SE B K W te le) (h1 : SO B K W tl lo) (h2 : SO B K W th hi) : SN B K W (tSl (rSlL K) te tl th) (lSl le lo hi) := by
  intro X Λ σ H τ F k Q S h c
  refine h0 X Λ σ H τ F _ _ S h ⟨fun x v Λ1 H1 F1 g1 S1 r1 q1 => ?_, c.ex⟩
  refine h1 X Λ1 σ H1 ((x, v) :: τ) F1 _ _ (S1.push r1) g1 ⟨fun a a' Λ2 H2 F2 g2 S2 r2 q2 => ?_, fun C nm x u d Λ' H' F' h S' r q n n' e => c.ex C nm x u d Λ' H' F' h S' r (q1.trans S1.good q) (q1.back n) n' e⟩
  subst r2
  have q12 := q1.trans S1.good q2
  refine h2 X Λ2 σ H2 ((x, v) :: τ) F2 _ _ S2 g2 ⟨fun b b' Λ3 H3 F3 g3 S3 r3 q3 => ?_, fun C nm x u d Λ' H' F' h S' r q n n' e => c.ex C nm x u d Λ' H' F' h S' r (q12.trans S2.good q) (q12.back n) n' e⟩
  subst r3
  have q13 := q12.trans S2.good q3
  obtain ⟨rx, S3'⟩ := S3.pop
  split at g3
  · rename_i ys
    obtain ⟨p, vs, rfl, hp, r⟩ := rx.lst_inv
    refine ⟨p, vs, rfl, hp.sq, fun p2 hp2 => ?_⟩
    have rc : Rps (Nn X F3) K H3 (cutL ys a b) (cutV vs a b) := by
      unfold cutL cutV
      rw [← r.len]
      exact (r.drop _).take _
    obtain ⟨n2, q2⟩ := S3'.nwl hp2 rc
    exact c.ok _ _ _ _ _ g3 n2 (q13.back hp2) (q13.trans S3'.good q2)
  · rename_i ns
    obtain ⟨p, rfl, hp⟩ := rx.scr_inv
    refine ⟨p, _, rfl, hp, fun p2 hp2 => ?_⟩
    have r := rps_of_ilv (N := Nn X F3) (K := K) (H := H3) (l := ns)
    have rc : Rps (Nn X F3) K H3 (cutL (ilv ns) a b) (cutV (ns.map V.int) a b) := by
      unfold cutL cutV
      rw [← r.len]
      exact (r.drop _).take _
    obtain ⟨n2, q2⟩ := S3'.nwl hp2 rc
    exact c.ok _ _ _ _ _ g3 n2 (q13.back hp2) (q13.trans S3'.good q2)
  · exact g3.elim
/-- x + y, lists -/
def lCat (la lb : LE) : LA := fun Λ k => la Λ (bk k fun x Λ1 => lb Λ1 (bk k fun y Λ2 => match x, y with
  | .lst xs, .lst ys => xs.length + ys.length ≤ 100000 ∧ k (.ok (xs ++ ys) Λ2)
  | _, _ => False))
end
end Lg
set_option Elab.async false
set_option linter.all false
set_option maxRecDepth 100000
set_option maxHeartbeats 2000000
/-! calls, new lists, statements, loops over values -/
namespace Lg
open PySem PySem.Spec PyProof.Rows L2 Cw
/-! ### lists put together -/
def rCatR : R2 := fun x y H Q => ∃ l b xs zs, x = .ref l ∧ y = .ref b ∧ Rd H l (.lst xs) ∧ Rd H b (.lst zs) ∧ xs.length + zs.length ≤ sizeLine ∧ ∀ p, H p = none → Q (.ref p) (upd H p (.lst (xs ++ zs)))
theorem op_catR {X : Cx} : OpR X (binaryOp .Add) rCatR := by
  intro pins s σ H x y v u Q I rx ry h
  obtain ⟨l, b, xs, zs, rfl, rfl, hH, hB, hz, q⟩ := h
  cases rx
  cases ry
  obtain ⟨z, its, n, r, e⟩ := hH.ok I.hok
  obtain ⟨z2, its2, n2, r2, e2⟩ := hB.ok I.hok
  have hl := r.length
  have hl2 := r2.length
  refine PySem.P.add_list e e2 ?_ (by rw [List.size_toArray, List.size_toArray]; omega)
  have ea : its.toArray ++ its2.toArray = (its ++ its2).toArray := by simp
  rw [ea]
  exact ⟨.ref _, _, I.lnew (t' := s.toks) (r.append r2) (by rw [List.length_append]; omega), rfl, q _ I.fresh⟩
section
variable {B : Fm} {K : PySem.W.Frag} {W : WX} {w : World} {ta tb te : TE} {la lb le : LE} {tt t1 t2 : TT} {l1 l2 lt : LT} {tr : TA} {lr : LA} {r : R2} {f : F2}
theorem Rp.lst_rd {N : Ad} {H : Hp} {xs : List LV} {v : V} (h : Rp N K H (.lst xs) v) : ∃ p vs, v = .ref p ∧ Rd H p (.lst vs) ∧ Rps N K H xs vs := by
  obtain ⟨p, vs, e, hp, r⟩ := h.lst_inv
  exact ⟨p, vs, e, .inl hp.2, r⟩
/-- a step of SN out of two values -/
theorem sn_cat (ha : SE B K W ta la) (hb : SE B K W tb lb) : SN B K W (tOp rCatR ta tb) (lCat la lb) := by
  intro X Λ σ H τ F k Q S h c
  refine ha X Λ σ H τ F _ _ S h ⟨fun x v Λ1 H1 F1 g1 S1 r1 q1 => ?_, c.ex⟩
  refine hb X Λ1 σ H1 ((x, v) :: τ) F1 _ _ (S1.push r1) g1 ⟨fun y u Λ2 H2 F2 g2 S2 r2 q2 => ?_, fun C nm x u d Λ' H' F' h S' r q n n' e => c.ex C nm x u d Λ' H' F' h S' r (q1.trans S1.good q) (q1.back n) n' e⟩
  obtain ⟨rx, S2'⟩ := S2.pop
  have q12 := q1.trans S1.good q2
  dsimp only [bk] at g2
  split at g2
  · obtain ⟨p, vs, rfl, hp, r⟩ := rx.lst_rd
    obtain ⟨p', vs', rfl, hp', r'⟩ := r2.lst_rd
    refine ⟨p, p', vs, vs', rfl, rfl, hp, hp', Nat.le_trans (by rw [← r.len, ← r'.len]; exact g2.1) (by decide), fun p2 hp2 => ?_⟩
    obtain ⟨n2, q3⟩ := S2'.nwl hp2 (r.append r')
    exact c.ok _ _ _ _ _ g2.2 n2 (q12.back hp2) (q12.trans S2'.good q3)
  · exact g2.elim
/-- list(x) -/
def lListOf (lr : LA) : LA := fun Λ k => lr Λ (bk k fun xs Λ1 => match xs with
  | [.lst ys] => k (.ok ys Λ1)
  | [.tup ys] => k (.ok ys Λ1)
  | _ => False)
theorem sn_listOf (hr : SA B K W tr lr) : SN B K W (tCB (rListOf K) tr) (lListOf lr) := by
  intro X Λ σ H τ F k Q S h c
  refine hr X Λ σ H τ F _ _ S h ⟨fun xs us Λ1 H1 F1 g1 S1 r1 q1 => ?_, c.ex⟩
  dsimp only [bk] at g1
  split at g1
  · obtain ⟨v, rfl, rx⟩ := r1.one_inv
    obtain ⟨p, vs, rfl, hp, r⟩ := rx.lst_inv
    refine ⟨p, vs, rfl, .inl hp.sq, fun p2 hp2 => ?_⟩
    obtain ⟨n2, q3⟩ := S1.nwl hp2 r
    exact c.ok _ _ _ _ _ g1 n2 (q1.back hp2) (q1.trans S1.good q3)
  · obtain ⟨v, rfl, rx⟩ := r1.one_inv
    obtain ⟨p, vs, rfl, hp, r⟩ := rx.tup_inv
    refine ⟨p, vs, rfl, .inr hp.sq, fun p2 hp2 => ?_⟩
    obtain ⟨n2, q3⟩ := S1.nwl hp2 r
    exact c.ok _ _ _ _ _ g1 n2 (q1.back hp2) (q1.trans S1.good q3)
  · exact g1.elim
/-! ### what a def does: to values and things of one's own -/
abbrev FSp := Env → (Rs LV → Prop) → Prop
def FnL (B : Fm) (K : PySem.W.Frag) (f : FSp) : Sp := fun vs H Q E => ∃ X es F k, Sr B K X es (vs.map some) H [] F ∧ f es k ∧
  (∀ x v es' H' F', k (.ok x es') → Sr B K X es' (vs.map some) H' [] F' → Rp (Nn X F') K H' x v → Kq B es (vs.map some) H F es' (vs.map some) H' F' → Q v H') ∧
  (∀ C nm x u d es' H' F', k (.ex C nm x es') → Sr B K X es' (vs.map some) H' [] F' → Rp (Nn X F') K H' x u → Kq B es (vs.map some) H F es' (vs.map some) H' F' → H d = none → ¬ Nn X F' d → H' d = some (.xd [(nm, u)]) → E (.ref C) (some d) H')
/-- .. that lets nothing out -/
def FnL0 (B : Fm) (K : PySem.W.Frag) (n : Nat) (f : FSp) : Sp := fun vs H Q E => ∃ X es F k, es.length = n ∧ Sr B K X es (vs.map some) H [] F ∧ f es k ∧
  (∀ x v es' H' F', k (.ok x es') → Sr B K X es' (vs.map some) H' [] F' → Rp (Nn X F') K H' x v → Kq B es (vs.map some) H F es' (vs.map some) H' F' → Q v H') ∧
  (∀ C nm x es', ¬ k (.ex C nm x es'))
/-- nothing of one's own -/
def Fp.no : Fp := fun _ _ => False
theorem nn_no {X : Ad} : Nn X Fp.no = X := by
  funext a
  exact propext ⟨fun z => z.elim id fun ⟨_, z⟩ => z.elim, .inl⟩
theorem nn_empty {X : Ad} {F : Fp} (h : ∀ i a, ¬ F i a) : Nn X F = X := by
  funext a
  exact propext ⟨fun z => z.elim id fun ⟨i, z⟩ => (h i a z).elim, .inl⟩
theorem args_sr {X : Ad} {Λ : Env} {σ : L2.St} {H : Hp} {τ : List (LV × V)} {F : Fp} {xs : List LV} {vs : List V} (S : Sr B K X Λ σ H τ F) (r : Rps (Nn X F) K H xs vs) : Sr B K (Nn X F) (xs.map .v) (vs.map some) H [] Fp.no := by
  refine ⟨S.good, fun a m => .inl (S.sub a m), by rw [List.length_map, List.length_map, r.len], fun i e u h h' => ?_, fun _ _ z => z.elim, fun _ _ _ z => z.elim, fun _ _ z => z.elim, fun a m => S.has m, fun t m => by cases m⟩
  rw [List.getElem?_map] at h h'
  obtain ⟨x, hx, rfl⟩ := Option.map_eq_some_iff.mp h
  obtain ⟨v, hv, rfl⟩ := Option.map_eq_some_iff.mp h'
  rw [nn_no]
  exact ⟨⟨v, rfl, r.get i x v hx hv⟩, fun _ z => z⟩
def Ent.isV : Ent → Bool
  | .v _ => true
  | _ => false
theorem Sr.allV {X : Ad} {es : Env} {σ : L2.St} {H : Hp} {τ : List (LV × V)} {F : Fp} (S : Sr B K X es σ H τ F) (h : es.all Ent.isV = true) : ∀ i a, ¬ F i a := fun i a m => by
  have hi := S.out i a m
  have hi' : i < σ.length := by rw [← S.len]; exact hi
  have r := S.ent i es[i] σ[i] (List.getElem?_eq_getElem hi) (List.getElem?_eq_getElem hi')
  have hv := List.all_eq_true.mp h es[i] (List.getElem_mem hi)
  cases e : es[i] with
  | v x =>
    rw [e] at r
    exact r.2 a m
  | no => rw [e] at hv; cases hv
  | l xs => rw [e] at hv; cases hv
  | p xs => rw [e] at hv; cases hv
  | x A => rw [e] at hv; cases hv
  | o C fs => rw [e] at hv; cases hv
/-- a call whose arguments are values -/
def lCall (n : Nat) (f : FSp) (la : LA) : LE := fun Λ k => la Λ (bk k fun xs Λ1 => xs.length = n ∧ f (xs.map .v) fun o => match o with
  | .ok x es => es.all Ent.isV = true ∧ k (.ok x Λ1)
  | .ex _ _ _ _ => False)
theorem se_call {n : Nat} {f : FSp} {E : XK} (hr : SA B K W tr lr) : SE B K W (tCall (FnL0 B K n f) [] E tr) (lCall n f lr) := by
  intro X Λ σ H τ F k Q S h c
  refine hr X Λ σ H τ F _ _ S h (c.bk (τ' := τ) fun xs vs Λ1 H1 F1 g S1 r1 q1 => ?_)
  obtain ⟨hl, g⟩ := g
  rw [List.append_nil]
  refine ⟨Nn X F1, xs.map .v, Fp.no, _, by rw [List.length_map]; exact hl, args_sr S1 r1, g, fun x v es' H' F' hk S' rx q' => ?_, fun C nm x es' z => z⟩
  have e := nn_empty (X := Nn X F1) (S'.allV hk.1)
  rw [e] at rx
  obtain ⟨S2, q2⟩ := S1.heap S'.good fun a o h n => q'.keep a o h n fun _ z => z
  exact c.ok _ _ _ _ _ hk.2 S2 rx (q1.trans S1.good q2)
/-! ### statements -/
inductive Out where
  | nx (Λ : Env)
  | rt (x : LV) (Λ : Env)
  | bk (Λ : Env)
  | ct (Λ : Env)
  | ex (C : Addr) (nm : Str) (x : LV) (Λ : Env)
  | ro (i : Nat) (Λ : Env)
  | rl (xs : List LV) (Λ : Env)
abbrev LS := Env → (Out → Prop) → Prop
end
structure Dn (B : Fm) (K : PySem.W.Frag) (X : Ad) (Λ : Env) (σ : L2.St) (H : Hp) (τ : List (LV × V)) (F : Fp) (k : Out → Prop) (D : Ends) (W : WX) : Prop where
  nx : ∀ Λ' σ' H' F', k (.nx Λ') → Sr B K X Λ' σ' H' τ F' → Kq B Λ σ H F Λ' σ' H' F' → D.nx σ' H'
  rt : ∀ x v Λ' σ' H' F', k (.rt x Λ') → Sr B K X Λ' σ' H' τ F' → Rp (Nn X F') K H' x v → Kq B Λ σ H F Λ' σ' H' F' → D.rt v H'
  bk : ∀ Λ' σ' H' F', k (.bk Λ') → Sr B K X Λ' σ' H' τ F' → Kq B Λ σ H F Λ' σ' H' F' → D.bk σ' H'
  ct : ∀ Λ' σ' H' F', k (.ct Λ') → Sr B K X Λ' σ' H' τ F' → Kq B Λ σ H F Λ' σ' H' F' → D.ct σ' H'
  ex : ∀ C nm x u d Λ' σ' H' F', k (.ex C nm x Λ') → Sr B K X Λ' σ' H' [] F' → Rp (Nn X F') K H' x u → Kq B Λ σ H F Λ' σ' H' F' → H d = none → ¬ Nn X F' d → H' d = some (.xd [(nm, u)]) → W (.ref C) (some d) σ' H'
  ro : ∀ i e v Λ' σ' H' F', k (.ro i Λ') → Λ'[i]? = some e → σ'[i]? = some (some v) → Sr B K X Λ' σ' H' τ F' → Kq B Λ σ H F Λ' σ' H' F' → D.rt v H'
  rl : ∀ xs p Λ' σ' H' F', k (.rl xs Λ') → NwL B K X Λ' σ' H' τ F' xs p → H p = none → Kq B Λ σ H F Λ' σ' H' F' → D.rt (.ref p) H'
section
variable {B : Fm} {K : PySem.W.Frag} {X : Ad} {Λ Λ1 : Env} {σ σ1 : L2.St} {H H1 : Hp} {τ τ1 : List (LV × V)} {F F1 : Fp} {k : Out → Prop} {D : Ends} {W : WX}
theorem Dn.st (c : Dn B K X Λ σ H τ F k D W) (S : Sr B K X Λ1 σ1 H1 τ1 F1) (q : Kq B Λ σ H F Λ1 σ1 H1 F1) : Dn B K X Λ1 σ1 H1 τ F1 k D W :=
  ⟨fun a b Λ' H' h S' q' => c.nx a b Λ' H' h S' (q.trans S.good q'), fun x v a b Λ' H' h S' r q' => c.rt x v a b Λ' H' h S' r (q.trans S.good q'), fun a b Λ' H' h S' q' => c.bk a b Λ' H' h S' (q.trans S.good q'), fun a b Λ' H' h S' q' => c.ct a b Λ' H' h S' (q.trans S.good q'),
   fun C nm x u d a b Λ' H' h S' r q' n n' e => c.ex C nm x u d a b Λ' H' h S' r (q.trans S.good q') (q.back n) n' e,
   fun i e v Λ' σ' H' F' h he hv S' q' => c.ro i e v Λ' σ' H' F' h he hv S' (q.trans S.good q'), fun xs p Λ' σ' H' F' h n hp q' => c.rl xs p Λ' σ' H' F' h n (q.back hp) (q.trans S.good q')⟩
/-- an expression on the way of a statement -/
theorem Dn.cn {α β : Type} {R : Ad → Hp → α → β → Prop} {Q : β → Hp → Prop} {g : Rs α → Prop} (c : Dn B K X Λ σ H τ F k D W) (hx : ∀ C nm x Λ', g (.ex C nm x Λ') → k (.ex C nm x Λ'))
    (h : ∀ a b Λ' H' F', g (.ok a Λ') → Sr B K X Λ' σ H' τ F' → R (Nn X F') H' a b → Kq B Λ σ H F Λ' σ H' F' → Q b H') : Cn B K X R Λ σ H τ F g Q W :=
  ⟨h, fun C nm x u d Λ' H' F' z S r q n n' e => c.ex C nm x u d Λ' σ H' F' (hx _ _ _ _ z) S r q n n' e⟩
end
/-- errors pass -/
def sk {α : Type} (k : Out → Prop) (g : α → Env → Prop) : Rs α → Prop
  | .ok a Λ => g a Λ
  | .ex C nm x Λ => k (.ex C nm x Λ)
def stb (Λ : Env) (i : Nat) : Bool := match Λ[i]? with
  | some e => !e.pin
  | none => false
theorem stb_pin {Λ : Env} {i : Nat} (h : stb Λ i = true) : i < Λ.length ∧ ∀ e, Λ[i]? = some e → e.pin = false := by
  unfold stb at h
  split at h
  · rename_i e he
    refine ⟨(List.getElem?_eq_some_iff.mp he).1, fun e' h' => ?_⟩
    rw [he] at h'
    cases h'
    cases q : e.pin with
    | false => rfl
    | true => rw [q] at h; cases h
  · cases h
def SS (B : Fm) (K : PySem.W.Frag) (W : WX) (ts : TS) (ls : LS) : Prop := ∀ X Λ σ H τ F k D, Sr B K X Λ σ H τ F → ls Λ k → Dn B K X Λ σ H τ F k D W → ts D σ H
def lNext : LS := fun Λ k => k (.nx Λ)
def lBreak : LS := fun Λ k => k (.bk Λ)
def lCont : LS := fun Λ k => k (.ct Λ)
/-- the slots are told one by one -/
def force : Env → (Env → Prop) → Prop
  | [], k => k []
  | e :: r, k => force r fun r' => k (e :: r')
theorem force_eq : ∀ (Λ : Env) (k : Env → Prop), force Λ k = k Λ
  | [], _ => rfl
  | e :: r, k => force_eq r fun r' => k (e :: r')
def lSeq (l1 l2 : LS) : LS := fun Λ k => l1 Λ fun o => match o with
  | .nx Λ' => force Λ' fun Λ'' => l2 Λ'' k
  | o => k o
def lSet (i : Nat) (le : LE) : LS := fun Λ k => le Λ (sk k fun x Λ1 => stb Λ1 i = true ∧ k (.nx (Λ1.set i (.v x))))
def lSetL (i : Nat) (ln : LA) : LS := fun Λ k => ln Λ (sk k fun xs Λ1 => stb Λ1 i = true ∧ k (.nx (Λ1.set i (.l xs))))
def lRet (le : LE) : LS := fun Λ k => le Λ (sk k fun x Λ1 => k (.rt x Λ1))
def lIf (lt : LT) (l1 l2 : LS) : LS := fun Λ k => lt Λ (sk k fun b Λ1 => Br b (l1 Λ1 k) (l2 Λ1 k))
def lDrop (le : LE) : LS := fun Λ k => le Λ (sk k fun _ Λ1 => k (.nx Λ1))
/-- x.append(e), x a list of its own -/
def lApp (i : Nat) (le : LE) : LS := fun Λ k => (own? Λ i).isSome = true ∧ le Λ (sk k fun x Λ1 => match Λ1[i]? with
  | some (.l xs) => xs.length < 100000 ∧ k (.nx (Λ1.set i (.l (xs ++ [x]))))
  | some (.p xs) => xs.length < 100000 ∧ k (.nx (Λ1.set i (.p (xs ++ [x]))))
  | _ => False)
/-- x op= e -/
def lAug (i : Nat) (f : F2) (le : LE) : LS := fun Λ k => match Λ[i]? with
  | some (.v a) => le Λ (sk k fun y Λ1 => stb Λ1 i = true ∧ f a y fun z => k (.nx (Λ1.set i (.v z))))
  | _ => False
/-- a, b = x, y -/
def lPar (i j : Nat) (la : LA) : LS := fun Λ k => la Λ (sk k fun xs Λ1 => match xs with
  | [a, b] => stb Λ1 i = true ∧ stb Λ1 j = true ∧ i ≠ j ∧ k (.nx ((Λ1.set i (.v a)).set j (.v b)))
  | _ => False)
section
variable {B : Fm} {K : PySem.W.Frag} {W : WX} {w : World} {ta tb te : TE} {la lb le : LE} {tt : TT} {lt : LT} {tr : TA} {lr : LA} {t1 t2 : TS} {l1 l2 : LS}
theorem ss_next : SS B K W tNext lNext := fun X Λ σ H τ F k D S h c => c.nx _ _ _ _ h S Kq.refl
theorem ss_break : SS B K W tBreak lBreak := fun X Λ σ H τ F k D S h c => c.bk _ _ _ _ h S Kq.refl
theorem ss_cont : SS B K W tCont lCont := fun X Λ σ H τ F k D S h c => c.ct _ _ _ _ h S Kq.refl
theorem ss_seq (h1 : SS B K W t1 l1) (h2 : SS B K W t2 l2) : SS B K W (tSeq t1 t2) (lSeq l1 l2) := fun X Λ σ H τ F k D S h c =>
  h1 X Λ σ H τ F _ _ S h ⟨fun Λ' σ' H' F' g S' q => h2 X Λ' σ' H' τ F' k D S' (by have g : force Λ' (fun Λ'' => l2 Λ'' k) := g; rw [force_eq] at g; exact g) (c.st S' q), c.rt, c.bk, c.ct, c.ex, c.ro, c.rl⟩
theorem ss_set {i : Nat} (h0 : SE B K W te le) : SS B K W (tAsg te (gName i)) (lSet i le) := fun X Λ σ H τ F k D S h c =>
  h0 X Λ σ H τ F _ _ S h (c.cn (fun _ _ _ _ z => z) fun x v Λ1 H1 F1 g S1 r q => by
    obtain ⟨g1, g2⟩ := g
    obtain ⟨S2, q2⟩ := (S1.push r).set (stb_pin g1).2
    exact c.nx _ _ _ _ g2 S2 (q.trans S1.good q2))
theorem ss_setL {i : Nat} {ln : LA} (h0 : SN B K W te ln) : SS B K W (tAsg te (gName i)) (lSetL i ln) := fun X Λ σ H τ F k D S h c =>
  h0 X Λ σ H τ F _ _ S h ⟨fun xs p Λ1 H1 F1 g n hp q => by
    obtain ⟨g1, g2⟩ := g
    obtain ⟨hl, hi⟩ := stb_pin g1
    exact c.nx _ _ _ _ g2 (n.setl hl hi) (put_kq hi q hp), fun C nm x u d Λ' H' F' z S r q n n' e => c.ex C nm x u d Λ' σ H' F' z S r q n n' e⟩
theorem ss_ret (h0 : SE B K W te le) : SS B K W (tRet te) (lRet le) := fun X Λ σ H τ F k D S h c =>
  h0 X Λ σ H τ F _ _ S h (c.cn (fun _ _ _ _ z => z) fun x v Λ1 H1 F1 g S1 r q => c.rt _ _ _ _ _ _ g S1 r q)
theorem ss_if (h0 : ST B K W tt lt) (h1 : SS B K W t1 l1) (h2 : SS B K W t2 l2) : SS B K W (tIfS tt t1 t2) (lIf lt l1 l2) := fun X Λ σ H τ F k D S h c =>
  h0 X Λ σ H τ F _ _ S h (c.cn (fun _ _ _ _ z => z) fun x v Λ1 H1 F1 g S1 r q => by
    subst r
    cases x with
    | true => exact h1 X Λ1 σ H1 τ F1 k D S1 (g.1 rfl) (c.st S1 q)
    | false => exact h2 X Λ1 σ H1 τ F1 k D S1 (g.2 rfl) (c.st S1 q))
theorem ss_drop (h0 : SE B K W te le) : SS B K W (tDrop te) (lDrop le) := fun X Λ σ H τ F k D S h c =>
  h0 X Λ σ H τ F _ _ S h (c.cn (fun _ _ _ _ z => z) fun x v Λ1 H1 F1 g S1 r q => c.nx _ _ _ _ g S1 q)
theorem ss_app {i : Nat} (h0 : SE B K W te le) : SS B K W (tDrop (tBM K "list" rAppend (tVar i) (tCons te tNil))) (lApp i le) := by
  intro X Λ σ H τ F k D S h c
  obtain ⟨ys, ey⟩ := Option.isSome_iff_exists.mp h.1
  obtain ⟨e0, a0, b0⟩ := own_at ey
  obtain ⟨p, vs0, hs, hp0, _⟩ := S.ownl a0 b0
  refine ⟨_, hs, .inl ⟨rfl, _, l_of hp0⟩, ?_⟩
  refine h0 X Λ σ H τ F _ _ S h.2 (c.cn (fun _ _ _ _ z => z) fun x v Λ1 H1 F1 g S1 r q => ?_)
  dsimp only [sk] at g
  have go : ∀ xs e, Λ1[i]? = some e → e.lst? = some xs → xs.length < 100000 → k (.nx (Λ1.set i (e.relst (xs ++ [x])))) → ∃ l ys y, V.ref p = .ref l ∧ [v] = [y] ∧ H1 l = some (.lst ys) ∧ ys.length < sizeLine ∧ D.nx σ (upd H1 l (.lst (ys ++ [y]))) := by
    intro xs e e1 e2 hz hk
    obtain ⟨p', vs, hs', hp, rr, _⟩ := S1.ownl e1 e2
    rw [hs] at hs'
    cases hs'
    obtain ⟨S2, q2⟩ := S1.mutl e1 e2 hs (rr.append (.one r))
    exact ⟨p, vs, v, rfl, rfl, hp, by rw [← rr.len]; exact Nat.lt_trans hz (by decide), c.nx _ _ _ _ hk S2 (q.trans S1.good q2)⟩
  split at g
  · rename_i xs e1
    exact go xs _ e1 rfl g.1 g.2
  · rename_i xs e1
    exact go xs _ e1 rfl g.1 g.2
  · exact g.elim
theorem ss_aug {i : Nat} {f : F2} {r : R2} (hr : RV2 B K r f) (h0 : SE B K W te le) : SS B K W (tAug i te r) (lAug i f le) := by
  intro X Λ σ H τ F k D S h c
  unfold lAug at h
  split at h
  · rename_i a ea
    obtain ⟨v, hv, rv⟩ := S.get ea
    refine ⟨v, hv, ?_⟩
    refine h0 X Λ σ H ((a, v) :: τ) F _ _ (S.push rv) h ⟨fun y u Λ1 H1 F1 g S1 r1 q => ?_, fun C nm x u d Λ' H' F' z S r q n n' e => c.ex C nm x u d Λ' σ H' F' z S r q n n' e⟩
    obtain ⟨ra, S1'⟩ := S1.pop
    obtain ⟨g1, g2⟩ := g
    refine hr X Λ1 σ H1 τ F1 a y v u S1' ra r1 _ _ g2 fun z w H2 hz S2 rz q2 => ?_
    obtain ⟨S3, q3⟩ := (S2.push rz).set (stb_pin g1).2
    exact c.nx _ _ _ _ hz S3 ((q.trans S1.good q2).trans S2.good q3)
  · exact h.elim
theorem ss_par {i j : Nat} (h0 : SA B K W tr lr) : SS B K W (tPar i j tr) (lPar i j lr) := by
  intro X Λ σ H τ F k D S h c
  refine h0 X Λ σ H τ F _ _ S h (c.cn (fun _ _ _ _ z => z) fun xs vs Λ1 H1 F1 g S1 r q => ?_)
  dsimp only [sk] at g
  split at g
  · rename_i a b
    obtain ⟨v, u, rfl, ra, rb⟩ := r.two_inv
    obtain ⟨g1, g2, ne, g3⟩ := g
    obtain ⟨S2, q2⟩ := ((S1.push rb).push ra).set (stb_pin g1).2
    have p2 : ∀ e, (Λ1.set i (.v a))[j]? = some e → e.pin = false := fun e he => by
      rw [List.getElem?_set_ne ne] at he
      exact (stb_pin g2).2 e he
    obtain ⟨S3, q3⟩ := S2.set p2
    exact ⟨v, u, rfl, c.nx _ _ _ _ g3 S3 ((q.trans S1.good q2).trans S2.good q3)⟩
  · exact g.elim
end
end Lg
set_option Elab.async false
set_option linter.all false
set_option maxRecDepth 100000
set_option maxHeartbeats 2000000
/-! loops, comprehensions, a def's body -/
namespace Lg
open PySem PySem.Spec PyProof.Rows L2 Cw
/-- what is walked: its items, and that they are handed out one by one -/
structure WkOk (B : Fm) (K : PySem.W.Frag) (J : It) (xs : List LV) (τw : List (LV × V)) : Prop where
  ex : ∃ G Y, Walk J xs.length G Y ∧ (∀ X Λ σ H τ F, Sr B K X Λ σ H (τw ++ τ) F → G H) ∧
    ∀ i v H H' X Λ σ τ F, i < xs.length → Sr B K X Λ σ H (τw ++ τ) F → Y i H v H' → ∃ x, xs[i]? = some x ∧ Sr B K X Λ σ H' (τw ++ τ) F ∧ Kq B Λ σ H F Λ σ H' F ∧ Rp (Nn X F) K H' x v
structure CnI (B : Fm) (K : PySem.W.Frag) (W : WX) (X : Ad) (Λ : Env) (σ : L2.St) (H : Hp) (τ : List (LV × V)) (F : Fp) (k : Rs (List LV) → Prop) (R : It → Hp → Prop) : Prop where
  ok : ∀ xs J τw Λ' H' F', k (.ok xs Λ') → Sr B K X Λ' σ H' (τw ++ τ) F' → Kq B Λ σ H F Λ' σ H' F' → WkOk B K J xs τw → R J H'
  ex : ∀ C nm x u d Λ' H' F', k (.ex C nm x Λ') → Sr B K X Λ' σ H' [] F' → Rp (Nn X F') K H' x u → Kq B Λ σ H F Λ' σ H' F' → H d = none → ¬ Nn X F' d → H' d = some (.xd [(nm, u)]) → W (.ref C) (some d) σ H'
def SI (B : Fm) (K : PySem.W.Frag) (W : WX) (wi : TI) (li : LA) : Prop := ∀ X Λ σ H τ F k R, Sr B K X Λ σ H τ F → li Λ k → CnI B K W X Λ σ H τ F k R → wi σ H R
def Sx (js : List Nat) (σ σ' : L2.St) : Prop := σ'.length = σ.length ∧ ∀ j, j ∉ js → σ'[j]? = σ[j]?
def SG (B : Fm) (K : PySem.W.Frag) (js : List Nat) (g : TG) (lg : LV → Env → (Env → Prop) → Prop) : Prop := ∀ X Λ σ H τ F x v (k : Env → Prop) Q, Sr B K X Λ σ H τ F → Rp (Nn X F) K H x v → lg x Λ k →
  (∀ Λ' σ' H' F', k Λ' → Sr B K X Λ' σ' H' τ F' → Kq B Λ σ H F Λ' σ' H' F' → Sx js σ σ' → Q σ' H') → g v σ H Q
def SGs (B : Fm) (K : PySem.W.Frag) (js : List Nat) (g : TGs) (lg : List LV → Env → (Env → Prop) → Prop) : Prop := ∀ X Λ σ H τ F xs vs (k : Env → Prop) Q, Sr B K X Λ σ H τ F → Rps (Nn X F) K H xs vs → lg xs Λ k →
  (∀ Λ' σ' H' F', k Λ' → Sr B K X Λ' σ' H' τ F' → Kq B Λ σ H F Λ' σ' H' F' → Sx js σ σ' → Q σ' H') → g vs σ H Q
def lgName (i : Nat) : LV → Env → (Env → Prop) → Prop := fun x Λ k => stb Λ i = true ∧ k (Λ.set i (.v x))
def lgNil : List LV → Env → (Env → Prop) → Prop := fun xs Λ k => match xs with
  | [] => k Λ
  | _ => False
def lgCons (g : LV → Env → (Env → Prop) → Prop) (gs : List LV → Env → (Env → Prop) → Prop) : List LV → Env → (Env → Prop) → Prop := fun xs Λ k => match xs with
  | x :: r => g x Λ fun Λ1 => gs r Λ1 k
  | _ => False
def lgTup (n : Nat) (gs : List LV → Env → (Env → Prop) → Prop) : LV → Env → (Env → Prop) → Prop := fun x Λ k => match x with
  | .tup xs => xs.length = n ∧ gs xs Λ k
  | _ => False
def lAsg (le : LE) (lg : LV → Env → (Env → Prop) → Prop) : LS := fun Λ k => le Λ (sk k fun x Λ1 => lg x Λ1 fun Λ2 => k (.nx Λ2))
section
variable {B : Fm} {K : PySem.W.Frag} {W : WX} {w : World} {ta tb te : TE} {la lb le : LE} {tt : TT} {lt : LT} {tr : TA} {lr : LA} {t1 t2 tb' : TS} {l1 l2 lb' : LS} {wi : TI} {li : LA} {g : TG} {lg : LV → Env → (Env → Prop) → Prop} {gs : TGs} {lgs : List LV → Env → (Env → Prop) → Prop}
theorem sg_name {i : Nat} : SG B K [i] (gName i) (lgName i) := fun X Λ σ H τ F x v k Q S r h c => by
  obtain ⟨S2, q⟩ := (S.push r).set (stb_pin h.1).2
  exact c _ _ _ _ h.2 S2 q ⟨List.length_set .., fun j hj => List.getElem?_set_ne fun z => hj (by rw [← z]; exact List.mem_singleton.mpr rfl)⟩
theorem sgs_nil : SGs B K [] gNil lgNil := fun X Λ σ H τ F xs vs k Q S r h c => by
  cases xs with
  | nil => exact ⟨r.nil_inv, c _ _ _ _ h S Kq.refl ⟨rfl, fun _ _ => rfl⟩⟩
  | cons _ _ => exact h.elim
theorem sgs_cons {js js2 : List Nat} (h1 : SG B K js g lg) (h2 : SGs B K js2 gs lgs) : SGs B K (js ++ js2) (gCons g gs) (lgCons lg lgs) := fun X Λ σ H τ F xs vs k Q S r h c => by
  cases xs with
  | nil => exact h.elim
  | cons x xr =>
    obtain ⟨v, vr, rfl, rv, rr⟩ := r.cons_inv
    refine ⟨v, vr, rfl, ?_⟩
    -- the rest is held beside
    obtain ⟨τ2, hτ⟩ : ∃ τ2 : List (LV × V), τ2 = xr.zip vr ++ τ := ⟨_, rfl⟩
    have S2 : Sr B K X Λ σ H τ2 F := S.tmps fun t m => by
      rw [hτ] at m
      rcases List.mem_append.mp m with m | m
      · obtain ⟨i, hi, e⟩ := List.mem_iff_getElem.mp m
        have e2 : (xr.zip vr)[i]? = some t := by rw [← e]; exact List.getElem?_eq_getElem hi
        obtain ⟨a, b⟩ := List.getElem?_zip_eq_some.mp e2
        exact rr.get i _ _ a b
      · exact S.tmp t m
    refine h1 X Λ σ H τ2 F x v _ _ S2 rv h fun Λ1 σ1 H1 F1 g1 S1 q1 x1 => ?_
    have rr1 : Rps (Nn X F1) K H1 xr vr := ⟨rr.len, fun i a b ha hb => S1.tmp (a, b) (by rw [hτ]; exact List.mem_append_left _ (List.mem_of_getElem? (List.getElem?_zip_eq_some.mpr ⟨ha, hb⟩)))⟩
    have S1' : Sr B K X Λ1 σ1 H1 τ F1 := S1.tmps fun t m => S1.tmp t (by rw [hτ]; exact List.mem_append_right _ m)
    exact h2 X Λ1 σ1 H1 τ F1 xr vr k Q S1' rr1 g1 fun Λ2 σ2 H2 F2 g2 S2 q2 x2 => c _ _ _ _ g2 S2 (q1.trans S1.good q2) ⟨x2.1.trans x1.1, fun j hj => (x2.2 j fun z => hj (List.mem_append_right _ z)).trans (x1.2 j fun z => hj (List.mem_append_left _ z))⟩
theorem sg_tup {n : Nat} {js : List Nat} (h1 : SGs B K js gs lgs) : SG B K js (gTup K n gs) (lgTup n lgs) := fun X Λ σ H τ F x v k Q S r h c => by
  unfold lgTup at h
  split at h
  · obtain ⟨p, vs, rfl, hp, rr⟩ := r.tup_inv
    exact ⟨p, vs, rfl, hp.sq, rr.len.symm.trans h.1, h1 X Λ σ H τ F _ vs k Q S rr h.2 c⟩
  · exact h.elim
theorem ss_asg {js : List Nat} (h0 : SE B K W te le) (h1 : SG B K js g lg) : SS B K W (tAsg te g) (lAsg le lg) := fun X Λ σ H τ F k D S h c =>
  h0 X Λ σ H τ F _ _ S h (c.cn (fun _ _ _ _ z => z) fun x v Λ1 H1 F1 g1 S1 r q => h1 X Λ1 σ H1 τ F1 x v _ _ S1 r g1 fun Λ2 σ2 H2 F2 g2 S2 q2 _ => c.nx _ _ _ _ g2 S2 (q.trans S1.good q2))
/-! ### for -/
def forK (I : Env → Prop) (k : Out → Prop) : Out → Prop
  | .nx Λ => I Λ
  | .ct Λ => I Λ
  | .bk Λ => k (.nx Λ)
  | o => k o
def lFor (li : LA) (lg : LV → Env → (Env → Prop) → Prop) (lb : LS) : LS := fun Λ k => li Λ (sk k fun xs Λ1 => ∃ I : Nat → Env → Prop, I 0 Λ1 ∧ (∀ (i : Nat) x Λ2, xs[i]? = some x → I i Λ2 → lg x Λ2 fun Λ3 => lb Λ3 (forK (I (i + 1)) k)) ∧ ∀ Λ2, I xs.length Λ2 → k (.nx Λ2))
theorem ss_for {js : List Nat} (hi : SI B K W wi li) (hg : SG B K js g lg) (hb : SS B K W tb' lb') : SS B K W (tFor wi g tb') (lFor li lg lb') := by
  intro X Λ σ H τ F k D S h c
  refine hi X Λ σ H τ F _ _ S h ⟨fun xs J τw Λ1 H1 F1 g1 S1 q1 wk => ?_, fun C nm x u d Λ' H' F' z S r q n n' e => c.ex C nm x u d Λ' σ H' F' z S r q n n' e⟩
  dsimp only [sk] at g1
  obtain ⟨I, i0, iS, iE⟩ := g1
  obtain ⟨G, Y, wa, hG, hY⟩ := wk.ex
  refine for_it wa (fun i σ' H' => ∃ Λ' F', Sr B K X Λ' σ' H' (τw ++ τ) F' ∧ Kq B Λ σ H F Λ' σ' H' F' ∧ I i Λ') ⟨Λ1, F1, S1, q1, i0⟩ (fun i σ' H' _ ⟨Λ', F', S', _, _⟩ => hG _ _ _ _ _ _ S') (fun i v σ' H2 H3 hi ⟨Λ', F', S', q', g'⟩ y => ?_) (fun σ' H' ⟨Λ', F', S', q', g'⟩ => ?_)
  · obtain ⟨x, hx, S3, q3, r3⟩ := hY i v H2 H3 X Λ' σ' τ F' hi S' y
    replace g' := iS i x Λ' hx g'
    refine hg X Λ' σ' H3 (τw ++ τ) F' x v _ _ S3 r3 g' fun Λ4 σ4 H4 F4 g4 S4 q4 _ => ?_
    have q04 := (q'.trans S'.good q3).trans S3.good q4
    refine hb X Λ4 σ4 H4 (τw ++ τ) F4 _ _ S4 g4 ⟨fun Λ5 σ5 H5 F5 g5 S5 q5 => ⟨Λ5, F5, S5, q04.trans S4.good q5, g5⟩, fun x v Λ5 σ5 H5 F5 g5 S5 r5 q5 => ?_, fun Λ5 σ5 H5 F5 g5 S5 q5 => ?_, fun Λ5 σ5 H5 F5 g5 S5 q5 => ⟨Λ5, F5, S5, q04.trans S4.good q5, g5⟩,
      fun C nm x u d Λ' σ' H' F' z S r q n n' e => c.ex C nm x u d Λ' σ' H' F' z S r (q04.trans S4.good q) (q04.back n) n' e,
      fun i e v Λ5 σ5 H5 F5 g5 he hv S5 q5 => c.ro i e v _ _ _ _ g5 he hv (S5.tmps fun t m => S5.tmp t (List.mem_append_right _ m)) (q04.trans S4.good q5), fun xs p Λ5 σ5 H5 F5 g5 n5 hp q5 => c.rl xs p _ _ _ _ g5 ⟨n5.lst, n5.st.tmps fun t m => n5.st.tmp t (List.mem_append_right _ m), n5.nX, n5.sub⟩ (q04.back hp) (q04.trans S4.good q5)⟩
    · exact c.rt _ _ _ _ _ _ g5 (S5.tmps fun t m => S5.tmp t (List.mem_append_right _ m)) r5 (q04.trans S4.good q5)
    · exact c.nx _ _ _ _ g5 (S5.tmps fun t m => S5.tmp t (List.mem_append_right _ m)) (q04.trans S4.good q5)
  · exact c.nx _ _ _ _ (iE _ g') (S'.tmps fun t m => S'.tmp t (List.mem_append_right _ m)) q'
/-! ### what is walked -/
def lItL (le : LE) : LA := fun Λ k => le Λ (bk k fun x Λ1 => match x with
  | .lst xs => k (.ok xs Λ1)
  | .scr ns => k (.ok (ilv ns) Λ1)
  | _ => False)
def lItT (le : LE) : LA := fun Λ k => le Λ (bk k fun x Λ1 => match x with
  | .tup xs => k (.ok xs Λ1)
  | _ => False)
def lItS (le : LE) : LA := fun Λ k => le Λ (bk k fun x Λ1 => match x with
  | .str a => k (.ok (a.map fun c => .str [c]) Λ1)
  | _ => False)
def rngL (lo : Int) (n : Nat) : List LV := (List.range n).map fun i => .int (lo + (i : Nat))
def lRng1 (lr : LA) : LA := fun Λ k => lr Λ (bk k fun xs Λ1 => match xs with
  | [.int j] => -(2 ^ 62) ≤ j ∧ j < 2 ^ 62 ∧ k (.ok (rngL 0 j.toNat) Λ1)
  | _ => False)
def lRng2 (lr : LA) : LA := fun Λ k => lr Λ (bk k fun xs Λ1 => match xs with
  | [.int i, .int j] => (-(2 ^ 62) ≤ i ∧ i < 2 ^ 62 ∧ -(2 ^ 62) ≤ j ∧ j < 2 ^ 62) ∧ k (.ok (rngL i (j - i).toNat) Λ1)
  | _ => False)
def lEnum (lr : LA) : LA := fun Λ k => lr Λ (bk k fun xs Λ1 => match xs with
  | [.lst ys] => k (.ok (ys.zipIdx.map fun p => .tup [.int (p.2 : Nat), p.1]) Λ1)
  | _ => False)
theorem wk_tmp {τ : List (LV × V)} {X : Ad} {Λ : Env} {σ : L2.St} {H : Hp} {F : Fp} {x : LV} {v : V} (S : Sr B K X Λ σ H ([(x, v)] ++ τ) F) : Rp (Nn X F) K H x v := S.tmp _ (List.mem_append_left _ (List.mem_singleton.mpr rfl))
theorem si_list (h0 : SE B K W te le) : SI B K W (iList K te) (lItL le) := by
  intro X Λ σ H τ F k R S h c
  refine h0 X Λ σ H τ F _ _ S h ⟨fun x v Λ1 H1 F1 g S1 r q => ?_, c.ex⟩
  dsimp only [bk] at g
  split at g
  · rename_i xs
    obtain ⟨p, vs, rfl, hp, rr⟩ := r.lst_inv
    refine ⟨p, rfl, ⟨vs, hp.sq⟩, c.ok _ _ [(.lst xs, .ref p)] _ _ _ g (S1.push r) q ⟨⟨fun H => ∃ us, SqL K H p us ∧ us.length = xs.length ∧ True, fun i H v H' => H' = H ∧ ∀ us, SqL K H p us → us[i]? = some v, ?_, fun X Λ σ H τ F S => ?_, fun i v H H' X Λ σ τ F hi S y => ?_⟩⟩⟩
    · refine ⟨fun i H hi ⟨us, hu, hl, _⟩ => ⟨us, us[i]'(by omega), hu, by simp [show i < us.length by omega]⟩, fun H ⟨us, hu, hl, _⟩ => ⟨us, hu, by omega⟩, fun i H x H' _ _ y => ⟨y.1, fun us hu => y.2 us hu⟩⟩
    · obtain ⟨p', us, e, hp', rr'⟩ := (wk_tmp S).lst_inv
      cases e
      exact ⟨us, hp'.sq, rr'.len.symm, trivial⟩
    · obtain ⟨rfl, hv⟩ := y
      obtain ⟨p', us, e, hp', rr'⟩ := (wk_tmp S).lst_inv
      cases e
      exact ⟨xs[i], List.getElem?_eq_getElem hi, S, Kq.refl, rr'.get i _ _ (List.getElem?_eq_getElem hi) (hv us hp'.sq)⟩
  · rename_i ns
    obtain ⟨p, rfl, hp⟩ := r.scr_inv
    refine ⟨p, rfl, ⟨_, hp⟩, c.ok _ _ [(.scr ns, .ref p)] _ _ _ g (S1.push r) q ⟨⟨fun H => SqL K H p (ns.map V.int), fun i H v H' => H' = H ∧ (ns.map V.int)[i]? = some v, ?_, fun X Λ σ H τ F S => ?_, fun i v H H' X Λ σ τ F hi S y => ?_⟩⟩⟩
    · have e : (ilv ns).length = (ns.map V.int).length := by
        unfold ilv
        rw [List.length_map, List.length_map]
      rw [e]
      exact walk_list
    · obtain ⟨p', e, hp'⟩ := (wk_tmp S).scr_inv
      cases e
      exact hp'
    · obtain ⟨rfl, hv⟩ := y
      rw [List.getElem?_map] at hv
      obtain ⟨z, hz, rfl⟩ := Option.map_eq_some_iff.mp hv
      exact ⟨.int z, by unfold ilv; rw [List.getElem?_map, hz]; rfl, S, Kq.refl, .int z⟩
  · exact g.elim
theorem si_tup (h0 : SE B K W te le) : SI B K W (iTup K te) (lItT le) := by
  intro X Λ σ H τ F k R S h c
  refine h0 X Λ σ H τ F _ _ S h ⟨fun x v Λ1 H1 F1 g S1 r q => ?_, c.ex⟩
  dsimp only [bk] at g
  split at g
  · rename_i xs
    obtain ⟨p, vs, rfl, hp, rr⟩ := r.tup_inv
    refine ⟨p, rfl, ⟨vs, hp.sq⟩, c.ok _ _ [(.tup xs, .ref p)] _ _ _ g (S1.push r) q ⟨⟨fun H => ∃ us, SqT K H p us ∧ us.length = xs.length ∧ True, fun i H v H' => H' = H ∧ ∀ us, SqT K H p us → us[i]? = some v, ?_, fun X Λ σ H τ F S => ?_, fun i v H H' X Λ σ τ F hi S y => ?_⟩⟩⟩
    · refine ⟨fun i H hi ⟨us, hu, hl, _⟩ => ⟨us, us[i]'(by omega), hu, by simp [show i < us.length by omega]⟩, fun H ⟨us, hu, hl, _⟩ => ⟨us, hu, by omega⟩, fun i H x H' _ _ y => ⟨y.1, fun us hu => y.2 us hu⟩⟩
    · obtain ⟨p', us, e, hp', rr'⟩ := (wk_tmp S).tup_inv
      cases e
      exact ⟨us, hp'.sq, rr'.len.symm, trivial⟩
    · obtain ⟨rfl, hv⟩ := y
      obtain ⟨p', us, e, hp', rr'⟩ := (wk_tmp S).tup_inv
      cases e
      exact ⟨xs[i], List.getElem?_eq_getElem hi, S, Kq.refl, rr'.get i _ _ (List.getElem?_eq_getElem hi) (hv us hp'.sq)⟩
  · exact g.elim
theorem si_str (h0 : SE B K W te le) : SI B K W (iStr te) (lItS le) := by
  intro X Λ σ H τ F k R S h c
  refine h0 X Λ σ H τ F _ _ S h ⟨fun x v Λ1 H1 F1 g S1 r q => ?_, c.ex⟩
  dsimp only [bk] at g
  split at g
  · rename_i a
    refine ⟨Cw.S a, r.str_inv, c.ok _ _ [] _ _ _ g S1 q ⟨⟨fun _ => True, fun i H v H' => H' = H ∧ ∃ c, (Cw.S a).cps[i]? = some c ∧ v = .str ⟨#[c]⟩, ?_, fun _ _ _ _ _ _ _ => trivial, fun i v H H' X Λ σ τ F hi S y => ?_⟩⟩⟩
    · have w := walk_str (z := Cw.S a)
      rw [S_size] at w
      rw [List.length_map]
      exact w
    · obtain ⟨rfl, cc, hc, rfl⟩ := y
      rw [S_get] at hc
      exact ⟨.str [cc], by rw [List.getElem?_map, hc]; rfl, S, Kq.refl, .str [cc]⟩
  · exact g.elim
theorem rngL_len {lo : Int} {n : Nat} : (rngL lo n).length = n := by
  unfold rngL
  rw [List.length_map, List.length_range]
theorem rngL_get {lo : Int} {n i : Nat} (h : i < n) : (rngL lo n)[i]? = some (.int (lo + (i : Nat))) := by
  unfold rngL
  rw [List.getElem?_map, List.getElem?_range h]
  rfl
theorem wk_rng {lo : Int} {n : Nat} : WkOk B K (Itr lo n) (rngL lo n) [] := by
  refine ⟨⟨fun _ => True, YFn fun i => .int (lo + (i : Nat)), by rw [rngL_len]; exact walk_range, fun _ _ _ _ _ _ _ => trivial, fun i v H H' X Λ σ τ F hi S y => ?_⟩⟩
  obtain ⟨rfl, rfl⟩ := y
  rw [rngL_len] at hi
  exact ⟨_, rngL_get hi, S, Kq.refl, .int _⟩
theorem si_rng1 (h0 : SA B K W tr lr) : SI B K W (iRng1 tr) (lRng1 lr) := by
  intro X Λ σ H τ F k R S h c
  refine h0 X Λ σ H τ F _ _ S h ⟨fun x v Λ1 H1 F1 g S1 r q => ?_, c.ex⟩
  dsimp only [bk] at g
  split at g
  · obtain ⟨v, rfl, rx⟩ := r.one_inv
    rw [rx.int_inv]
    exact ⟨_, rfl, g.1, g.2.1, c.ok _ _ [] _ _ _ g.2.2 S1 q wk_rng⟩
  · exact g.elim
theorem si_rng2 (h0 : SA B K W tr lr) : SI B K W (iRng2 tr) (lRng2 lr) := by
  intro X Λ σ H τ F k R S h c
  refine h0 X Λ σ H τ F _ _ S h ⟨fun x v Λ1 H1 F1 g S1 r q => ?_, c.ex⟩
  dsimp only [bk] at g
  split at g
  · obtain ⟨v, u, rfl, rx, ry⟩ := r.two_inv
    rw [rx.int_inv, ry.int_inv]
    exact ⟨_, _, rfl, g.1, c.ok _ _ [] _ _ _ g.2 S1 q wk_rng⟩
  · exact g.elim
theorem si_enum (h0 : SA B K W tr lr) : SI B K W (iEnum K tr) (lEnum lr) := by
  intro X Λ σ H τ F k R S h c
  refine h0 X Λ σ H τ F _ _ S h ⟨fun x v Λ1 H1 F1 g S1 r q => ?_, c.ex⟩
  dsimp only [bk] at g
  split at g
  · rename_i xs
    obtain ⟨v, rfl, rx⟩ := r.one_inv
    obtain ⟨p, vs, rfl, hp, rr⟩ := rx.lst_inv
    have hl : (xs.zipIdx.map fun p => LV.tup [.int (p.2 : Nat), p.1]).length = xs.length := by rw [List.length_map, List.length_zipIdx]
    refine ⟨p, vs, rfl, hp.sq, c.ok _ _ [(.lst xs, .ref p)] _ _ _ g (S1.push rx) q ⟨⟨fun H => ∃ us, SqL K H p us ∧ us.length = xs.length, fun i H v H' => ∃ T x, v = .ref T ∧ H T = none ∧ H' = upd H T (.tup [.int (i : Nat), x]) ∧ ∀ us, SqL K H p us → us[i]? = some x, ?_, fun X Λ σ H τ F S => ?_, fun i v H H' X Λ σ τ F hi S y => ?_⟩⟩⟩
    · rw [hl]
      refine ⟨fun i H hi ⟨us, hu, hl⟩ => ⟨us, us[i]'(by omega), hu, by simp [show i < us.length by omega]⟩, fun H ⟨us, hu, hl⟩ => ⟨us, hu, by omega⟩, fun i H v H' _ _ y => ?_⟩
      obtain ⟨T, x, h1, h2, h3, h4⟩ := y
      exact ⟨T, x, h1, h2, h3, fun us hu => h4 us hu⟩
    · obtain ⟨p', us, e, hp', rr'⟩ := (wk_tmp S).lst_inv
      cases e
      exact ⟨us, hp'.sq, rr'.len.symm⟩
    · obtain ⟨T, x, rfl, nT, rfl, hx⟩ := y
      obtain ⟨p', us, e, hp', rr'⟩ := (wk_tmp S).lst_inv
      cases e
      rw [hl] at hi
      have hxi := hx us hp'.sq
      have r0 := rr'.get i xs[i] x (List.getElem?_eq_getElem hi) hxi
      obtain ⟨S2, q2, n2⟩ := S.new (o := .tup [.int (i : Nat), x]) nT
      have st : Stp (Nn X F) H (Nn X F) (upd H T (.tup [.int (i : Nat), x])) := fun a o h n => ⟨n, by rw [upd_ne (ne_of_none h nT)]; exact h⟩
      refine ⟨.tup [.int (i : Nat), xs[i]], ?_, S2, q2, .tup' ⟨n2, upd_same⟩ (.cons (.int _) (.one (r0.mono st)))⟩
      rw [List.getElem?_map, List.getElem?_zipIdx, List.getElem?_eq_getElem hi]
      simp
  · exact g.elim
/-! ### a def's body -/
def fin1 (e e' : Ent) : Ent := match e with
  | .v x => .v x
  | .p _ => e'
  | .x A => if A.pin then e' else .no
  | .o _ _ => e'
  | _ => .no
def fin (es Λ : Env) : Env := List.zipWith fin1 es Λ
def outK (es : Env) (k : Rs LV → Prop) : Out → Prop
  | .rt x Λ => k (.ok x (fin es Λ))
  | .nx Λ => k (.ok .non (fin es Λ))
  | .ex C nm x Λ => k (.ex C nm x (fin es Λ))
  | _ => False
theorem Kq.stp {X : Ad} {Λ Λ' : Env} {σ σ' : L2.St} {H H' : Hp} {F F' : Fp} (sub : ∀ a, a ∈ B → X a) (q : Kq B Λ σ H F Λ' σ' H' F') : Stp (Nn X F) H (Nn X F') H' := fun a o h n => by
  refine ⟨fun z => ?_, q.keep a o h (fun m => n (.inl (sub a m))) fun i m => n (.inr ⟨i, m⟩)⟩
  rcases z with z | ⟨i, z⟩
  · exact n (.inl z)
  · rcases q.own i a z with ⟨j, m⟩ | e
    · exact n (.inr ⟨j, m⟩)
    · rw [h] at e
      cases e
end
end Lg
set_option Elab.async false
set_option linter.all false
set_option maxRecDepth 100000
set_option maxHeartbeats 2000000
/-! a def's body; while; comprehensions -/
namespace Lg
open PySem PySem.Spec PyProof.Rows L2 Cw
section
variable {B : Fm} {K : PySem.W.Frag} {W : WX} {w : World} {ta tb te : TE} {la lb le : LE} {tt : TT} {lt : LT} {tr : TA} {lr : LA} {t1 t2 tb' : TS} {l1 l2 lb' : LS} {wi : TI} {li : LA} {g : TG} {lg : LV → Env → (Env → Prop) → Prop}
theorem Sr.ret {X : Ad} {es Λ : Env} {m : Nat} {us : List (Option V)} {σ : L2.St} {H H' : Hp} {τ : List (LV × V)} {F F' : Fp} (S : Sr B K X es us H [] F) (S' : Sr B K X Λ σ H' τ F') (q : Kq B (es ++ List.replicate m .no) (us ++ List.replicate m none) H F Λ σ H' F') :
    ∃ F2, Sr B K X (fin es Λ) us H' [] F2 ∧ Kq B es us H F (fin es Λ) us H' F2 ∧ Stp (Nn X F') H' (Nn X F2) H' := by
  have hlen : es.length ≤ Λ.length := by rw [q.ln, List.length_append]; omega
  have hpin : ∀ (i : Nat) (e : Ent), es[i]? = some e → e.pin = true → σ[i]? = us[i]? ∧ ∃ e' : Ent, Λ[i]? = some e' ∧ e'.pin = true ∧ (fin es Λ)[i]? = some e' := fun i e h hp => by
    have hi := (List.getElem?_eq_some_iff.mp h).1
    have hi2 : i < us.length := by rw [← S.len]; exact hi
    obtain ⟨e1, e', h', p'⟩ := q.pin i e (by rw [List.getElem?_append_left hi]; exact h) hp
    refine ⟨by rw [e1, List.getElem?_append_left hi2], e', h', p', ?_⟩
    unfold fin
    rw [List.getElem?_zipWith, h, h']
    cases e with
    | x A =>
      have hp : A.pin = true := hp
      show some (if A.pin then e' else .no) = _
      rw [hp]
      rfl
    | _ => first | rfl | cases hp
  have hnop : ∀ (i : Nat) (e : Ent), es[i]? = some e → e.pin = false → (fin es Λ)[i]? = some (fin1 e .no) := fun i e h hp => by
    have hi := (List.getElem?_eq_some_iff.mp h).1
    have hi2 : i < Λ.length := Nat.lt_of_lt_of_le hi hlen
    unfold fin
    rw [List.getElem?_zipWith, h, List.getElem?_eq_getElem hi2]
    cases e with
    | x A =>
      have hp : A.pin = false := hp
      show some (if A.pin then Λ[i] else .no) = some (if A.pin then .no else .no)
      rw [hp]
      rfl
    | _ => first | rfl | cases hp
  have st : Stp (Nn X F') H' (Nn X fun i a => (∃ e : Ent, es[i]? = some e ∧ e.pin = true) ∧ F' i a) H' := fun a o h n => ⟨fun z => n (z.imp id fun ⟨i, z⟩ => ⟨i, z.2⟩), h⟩
  have st0 := (q.stp (X := X) S.sub)
  refine ⟨fun i a => (∃ e : Ent, es[i]? = some e ∧ e.pin = true) ∧ F' i a, ⟨S'.good, S.sub, ?_, fun i e u h h' => ?_, fun i a h => ?_, fun i j a h h' => S'.dis i j a h.2 h'.2, fun i a h => S'.disX i a h.2, S'.hasX, fun t m => by cases m⟩, ⟨fun a o h n nf => q.keep a o h n nf, fun i a h => q.own i a h.2, q.all, fun i e h hp => ?_, ?_⟩, st⟩
  · unfold fin
    rw [List.length_zipWith, Nat.min_eq_left hlen, S.len]
  · have hi : i < es.length := by
      have := (List.getElem?_eq_some_iff.mp h).1
      unfold fin at this
      rw [List.length_zipWith] at this
      omega
    have h0 : es[i]? = some es[i] := List.getElem?_eq_getElem hi
    cases hp : es[i].pin with
    | true =>
      obtain ⟨e1, e', h2, p2, h3⟩ := hpin i _ h0 hp
      rw [h] at h3
      cases h3
      have ef : (fun a => (∃ e : Ent, es[i]? = some e ∧ e.pin = true) ∧ F' i a) = F' i := by
        funext a
        exact propext ⟨fun z => z.2, fun z => ⟨⟨_, h0, hp⟩, z⟩⟩
      rw [ef]
      exact (S'.ent i e u h2 (by rw [e1]; exact h')).mono st fun _ _ => rfl
    | false =>
      have h3 := hnop i _ h0 hp
      rw [h] at h3
      have h3 := Option.some.inj h3
      subst h3
      have r := S.ent i _ u h0 h'
      have ef : ∀ a, ¬ ((∃ e : Ent, es[i]? = some e ∧ e.pin = true) ∧ F' i a) := fun a z => by
        obtain ⟨⟨e, he, pe⟩, _⟩ := z
        rw [h0] at he
        cases he
        rw [hp] at pe
        cases pe
      cases he : es[i] with
      | no => exact ef
      | v x =>
        rw [he] at r
        obtain ⟨⟨v, ev, rv⟩, _⟩ := r
        exact ⟨⟨v, ev, (rv.mono st0).mono st⟩, ef⟩
      | l xs => exact ef
      | p xs => rw [he] at hp; cases hp
      | x A =>
        rw [he] at hp
        have hp : A.pin = false := hp
        show entR _ K H' (if A.pin then .no else .no) u _
        rw [hp]
        exact ef
      | o C fs => rw [he] at hp; cases hp
  · unfold fin
    rw [List.length_zipWith, Nat.min_eq_left hlen]
    obtain ⟨⟨e, he, _⟩, _⟩ := h
    exact (List.getElem?_eq_some_iff.mp he).1
  · obtain ⟨e1, e', h2, p2, h3⟩ := hpin i e h hp
    exact ⟨rfl, e', h3, p2⟩
  · unfold fin
    rw [List.length_zipWith, Nat.min_eq_left hlen]
theorem Sr.retW {i0 : Nat} {X : Ad} {es Λ : Env} {m : Nat} {us : List (Option V)} {σ : L2.St} {H H' : Hp} {τ : List (LV × V)} {F F' : Fp} (S : Sr B K X es us H [] F) (S' : Sr B K X Λ σ H' τ F') (h0 : es.length ≤ i0) (q : Kq B (es ++ List.replicate m .no) (us ++ List.replicate m none) H F Λ σ H' F') :
    ∃ F2, Sr B K (fun a => X a ∨ F' i0 a) (fin es Λ) us H' [] F2 ∧ Kq B es us H F (fin es Λ) us H' F2 ∧ Stp (Nn X F') H' (Nn (fun a => X a ∨ F' i0 a) F2) H' := by
  have hlen : es.length ≤ Λ.length := by rw [q.ln, List.length_append]; omega
  have hpin : ∀ (i : Nat) (e : Ent), es[i]? = some e → e.pin = true → σ[i]? = us[i]? ∧ ∃ e' : Ent, Λ[i]? = some e' ∧ e'.pin = true ∧ (fin es Λ)[i]? = some e' := fun i e h hp => by
    have hi := (List.getElem?_eq_some_iff.mp h).1
    have hi2 : i < us.length := by rw [← S.len]; exact hi
    obtain ⟨e1, e', h', p'⟩ := q.pin i e (by rw [List.getElem?_append_left hi]; exact h) hp
    refine ⟨by rw [e1, List.getElem?_append_left hi2], e', h', p', ?_⟩
    unfold fin
    rw [List.getElem?_zipWith, h, h']
    cases e with
    | x A =>
      have hp : A.pin = true := hp
      show some (if A.pin then e' else .no) = _
      rw [hp]
      rfl
    | _ => first | rfl | cases hp
  have hnop : ∀ (i : Nat) (e : Ent), es[i]? = some e → e.pin = false → (fin es Λ)[i]? = some (fin1 e .no) := fun i e h hp => by
    have hi := (List.getElem?_eq_some_iff.mp h).1
    have hi2 : i < Λ.length := Nat.lt_of_lt_of_le hi hlen
    unfold fin
    rw [List.getElem?_zipWith, h, List.getElem?_eq_getElem hi2]
    cases e with
    | x A =>
      have hp : A.pin = false := hp
      show some (if A.pin then Λ[i] else .no) = some (if A.pin then .no else .no)
      rw [hp]
      rfl
    | _ => first | rfl | cases hp
  have st : Stp (Nn X F') H' (Nn (fun a => X a ∨ F' i0 a) fun i a => (∃ e : Ent, es[i]? = some e ∧ e.pin = true) ∧ F' i a) H' := fun a o h n => ⟨fun z => n (z.elim (fun z => z.imp id fun z => ⟨i0, z⟩) fun ⟨i, z⟩ => .inr ⟨i, z.2⟩), h⟩
  have st0 := (q.stp (X := X) S.sub)
  refine ⟨fun i a => (∃ e : Ent, es[i]? = some e ∧ e.pin = true) ∧ F' i a, ⟨S'.good, fun a m => .inl (S.sub a m), ?_, fun i e u h h' => ?_, fun i a h => ?_, fun i j a h h' => S'.dis i j a h.2 h'.2, fun i a h z => z.elim (S'.disX i a h.2) fun z => (by
    have e := S'.dis i i0 a h.2 z
    obtain ⟨⟨e', he, _⟩, _⟩ := h
    have := (List.getElem?_eq_some_iff.mp he).1
    omega), fun a z => z.elim (S'.hasX a) fun z => S'.has (.inr ⟨i0, z⟩), fun t m => by cases m⟩, ⟨fun a o h n nf => q.keep a o h n nf, fun i a h => q.own i a h.2, q.all, fun i e h hp => ?_, ?_⟩, st⟩
  · unfold fin
    rw [List.length_zipWith, Nat.min_eq_left hlen, S.len]
  · have hi : i < es.length := by
      have := (List.getElem?_eq_some_iff.mp h).1
      unfold fin at this
      rw [List.length_zipWith] at this
      omega
    have h0 : es[i]? = some es[i] := List.getElem?_eq_getElem hi
    cases hp : es[i].pin with
    | true =>
      obtain ⟨e1, e', h2, p2, h3⟩ := hpin i _ h0 hp
      rw [h] at h3
      cases h3
      have ef : (fun a => (∃ e : Ent, es[i]? = some e ∧ e.pin = true) ∧ F' i a) = F' i := by
        funext a
        exact propext ⟨fun z => z.2, fun z => ⟨⟨_, h0, hp⟩, z⟩⟩
      rw [ef]
      exact (S'.ent i e u h2 (by rw [e1]; exact h')).mono st fun _ _ => rfl
    | false =>
      have h3 := hnop i _ h0 hp
      rw [h] at h3
      have h3 := Option.some.inj h3
      subst h3
      have r := S.ent i _ u h0 h'
      have ef : ∀ a, ¬ ((∃ e : Ent, es[i]? = some e ∧ e.pin = true) ∧ F' i a) := fun a z => by
        obtain ⟨⟨e, he, pe⟩, _⟩ := z
        rw [h0] at he
        cases he
        rw [hp] at pe
        cases pe
      cases he : es[i] with
      | no => exact ef
      | v x =>
        rw [he] at r
        obtain ⟨⟨v, ev, rv⟩, _⟩ := r
        exact ⟨⟨v, ev, (rv.mono st0).mono st⟩, ef⟩
      | l xs => exact ef
      | p xs => rw [he] at hp; cases hp
      | x A =>
        rw [he] at hp
        have hp : A.pin = false := hp
        show entR _ K H' (if A.pin then .no else .no) u _
        rw [hp]
        exact ef
      | o C fs => rw [he] at hp; cases hp
  · unfold fin
    rw [List.length_zipWith, Nat.min_eq_left hlen]
    obtain ⟨⟨e, he, _⟩, _⟩ := h
    exact (List.getElem?_eq_some_iff.mp he).1
  · obtain ⟨e1, e', h2, p2, h3⟩ := hpin i e h hp
    exact ⟨rfl, e', h3, p2⟩
  · unfold fin
    rw [List.length_zipWith, Nat.min_eq_left hlen]
theorem body_ok {f : FSp} {n m : Nat} {ts : TS} {ls : LS} {N : List Str} (h0 : SS B K W ts ls) (hn : N.length = n + m) (hf : ∀ es k, es.length = n → f es k → ls (es ++ List.replicate m .no) (outK es k)) {vs : List V} {H : Hp} {Q : VK} {E : XK} (h : FnL0 B K n f vs H Q E) :
    ts { nx := fun _ H' => Q .non H', rt := Q } (L2.start N vs) H := by
  obtain ⟨X, es, F, k, hl, S, g, ok, nx⟩ := h
  have hv : vs.length = n := by rw [← hl, S.len, List.length_map]
  have hs : L2.start N vs = vs.map some ++ List.replicate m none := by
    unfold L2.start
    rw [hn, hv, Nat.add_sub_cancel_left]
  rw [hs]
  have S0 : Sr B K X (es ++ List.replicate m .no) (vs.map some ++ List.replicate m none) H [] F := by
    refine ⟨S.good, S.sub, by rw [List.length_append, List.length_append, S.len, List.length_replicate, List.length_replicate], fun i e u h h' => ?_, fun i a z => ?_, S.dis, S.disX, S.hasX, fun t m => by cases m⟩
    · by_cases hi : i < es.length
      · rw [List.getElem?_append_left hi] at h
        rw [List.getElem?_append_left (by rw [← S.len]; exact hi)] at h'
        exact S.ent i e u h h'
      · rw [List.getElem?_append_right (Nat.le_of_not_lt hi)] at h
        obtain rfl := List.eq_of_mem_replicate (List.mem_of_getElem? h)
        exact fun a z => hi (S.out i a z)
    · rw [List.length_append]
      exact Nat.lt_of_lt_of_le (S.out i a z) (Nat.le_add_right _ _)
  refine h0 X _ _ H [] F (outK es k) _ S0 (hf es k hl g) ⟨fun Λ' σ' H' F' z S' q => ?_, fun x v Λ' σ' H' F' z S' r q => ?_, fun Λ' σ' H' F' z S' q => z.elim, fun Λ' σ' H' F' z S' q => z.elim, fun C nm x u d Λ' σ' H' F' z S' r q n n' e => (nx _ _ _ _ z).elim, fun _ _ _ _ _ _ _ z => z.elim, fun _ _ _ _ _ _ z => z.elim⟩
  · obtain ⟨F2, S2, q2, st⟩ := S.ret S' q
    exact ok _ _ _ _ _ z S2 .non q2
  · obtain ⟨F2, S2, q2, st⟩ := S.ret S' q
    exact ok _ _ _ _ _ z S2 (r.mono st) q2
/-! ### while -/
def lWhile (lt : LT) (lb : LS) : LS := fun Λ k => ∃ I : Nat → Env → Prop, (∃ m, I m Λ) ∧ ∀ m Λ, I m Λ → lt Λ (sk k fun b Λ1 => Br b (lb Λ1 fun o => match o with
  | .nx Λ' => ∃ m', m' < m ∧ I m' Λ'
  | .ct Λ' => ∃ m', m' < m ∧ I m' Λ'
  | .bk Λ' => k (.nx Λ')
  | o => k o) (k (.nx Λ1)))
theorem ss_while (h0 : ST B K W tt lt) (hb : SS B K W tb' lb') : SS B K W (tWhile tt tb') (lWhile lt lb') := by
  intro X Λ σ H τ F k D S h c
  obtain ⟨I, ⟨m0, i0⟩, hI⟩ := h
  refine ⟨fun m σ' H' => ∃ Λ' F', Sr B K X Λ' σ' H' τ F' ∧ Kq B Λ σ H F Λ' σ' H' F' ∧ I m Λ', ⟨m0, Λ, F, S, Kq.refl, i0⟩, fun m σ1 H1 ⟨Λ1, F1, S1, q1, g1⟩ => ?_⟩
  refine h0 X Λ1 σ1 H1 τ F1 _ _ S1 (hI m Λ1 g1) ((c.st S1 q1).cn (fun _ _ _ _ z => z) fun b b' Λ2 H2 F2 g2 S2 r q2 => ?_)
  subst r
  have q02 := q1.trans S1.good q2
  cases b with
  | true =>
    rw [if_pos rfl]
    refine ⟨fun σ' H' => ∃ m', m' < m ∧ ∃ Λ' F', Sr B K X Λ' σ' H' τ F' ∧ Kq B Λ σ H F Λ' σ' H' F' ∧ I m' Λ', fun σ' H' z => z, ?_⟩
    exact hb X Λ2 σ1 H2 τ F2 _ _ S2 (g2.1 rfl) ⟨fun Λ5 σ5 H5 F5 ⟨m', hm, z⟩ S5 q5 => ⟨m', hm, Λ5, F5, S5, q02.trans S2.good q5, z⟩, fun x v Λ5 σ5 H5 F5 g5 S5 r5 q5 => c.rt _ _ _ _ _ _ g5 S5 r5 (q02.trans S2.good q5), fun Λ5 σ5 H5 F5 g5 S5 q5 => c.nx _ _ _ _ g5 S5 (q02.trans S2.good q5),
      fun Λ5 σ5 H5 F5 ⟨m', hm, z⟩ S5 q5 => ⟨m', hm, Λ5, F5, S5, q02.trans S2.good q5, z⟩, fun C nm x u d Λ' σ' H' F' z S r q n n' e => c.ex C nm x u d Λ' σ' H' F' z S r (q02.trans S2.good q) (q02.back n) n' e,
      fun i e v Λ5 σ5 H5 F5 g5 he hv S5 q5 => c.ro i e v _ _ _ _ g5 he hv S5 (q02.trans S2.good q5), fun xs p Λ5 σ5 H5 F5 g5 n5 hp q5 => c.rl xs p _ _ _ _ g5 n5 (q02.back hp) (q02.trans S2.good q5)⟩
  | false =>
    rw [if_neg Bool.false_ne_true]
    exact c.nx _ _ _ _ (g2.2 rfl) S2 q02
/-! ### comprehensions -/
def wipeE (Λ : Env) : List Nat → Env
  | [] => Λ
  | v :: vs => (wipeE Λ vs).set v .no
def isNo : Option Ent → Bool
  | some .no => true
  | _ => false
def noAt (Λ : Env) (vs : List Nat) : Bool := vs.all fun v => isNo Λ[v]?
def okk {α : Type} (g : α → Env → Prop) : Rs α → Prop
  | .ok a Λ => g a Λ
  | _ => False
def lLc (li : LA) (lg : LV → Env → (Env → Prop) → Prop) (lt : LT) (le : LE) (vs : List Nat) : LA := fun Λ k => li Λ (bk k fun xs Λ1 => ∃ I : Nat → List LV → Env → Prop, I 0 [] Λ1 ∧ (∀ (i : Nat) x acc Λ2, xs[i]? = some x → I i acc Λ2 → noAt Λ2 vs = true ∧ lg x Λ2 fun Λ3 => lt Λ3 (okk fun b Λ4 => Br b (le Λ4 (okk fun y Λ5 => acc.length < 100000 ∧ I (i + 1) (acc ++ [y]) (wipeE Λ5 vs))) (I (i + 1) acc (wipeE Λ4 vs)))) ∧ ∀ acc Λ2, I xs.length acc Λ2 → k (.ok acc Λ2))
def lYes : LT := fun Λ k => k (.ok true Λ)
theorem st_yes' : ST B K W tYes lYes := fun X Λ σ H τ F k Q S h c => c.ok _ _ _ _ _ h S rfl Kq.refl
theorem wipe_get (σ : L2.St) (j : Nat) : ∀ vs : List Nat, (wipe σ vs)[j]? = if j ∈ vs then (σ[j]?).map fun _ => none else σ[j]?
  | [] => by simp [wipe]
  | v :: vs => by
    unfold wipe
    rw [List.getElem?_set, wipe_length]
    by_cases h : v = j
    · subst h
      rw [if_pos rfl, if_pos (List.mem_cons_self ..)]
      by_cases hv : v < σ.length
      · rw [if_pos hv, List.getElem?_eq_getElem hv]
        rfl
      · rw [if_neg hv, List.getElem?_eq_none (Nat.le_of_not_lt hv)]
        rfl
    · rw [if_neg h, wipe_get σ j vs]
      by_cases hm : j ∈ vs
      · rw [if_pos hm, if_pos (List.mem_cons_of_mem _ hm)]
      · rw [if_neg hm, if_neg fun z => (List.mem_cons.mp z).elim (fun e => h e.symm) hm]
theorem wipeE_len (Λ : Env) : ∀ vs : List Nat, (wipeE Λ vs).length = Λ.length
  | [] => rfl
  | v :: vs => by
    unfold wipeE
    rw [List.length_set, wipeE_len Λ vs]
theorem wipeE_get (Λ : Env) (j : Nat) : ∀ vs : List Nat, (wipeE Λ vs)[j]? = if j ∈ vs then (Λ[j]?).map fun _ => .no else Λ[j]?
  | [] => by simp [wipeE]
  | v :: vs => by
    unfold wipeE
    rw [List.getElem?_set, wipeE_len]
    by_cases h : v = j
    · subst h
      rw [if_pos rfl, if_pos (List.mem_cons_self ..)]
      by_cases hv : v < Λ.length
      · rw [if_pos hv, List.getElem?_eq_getElem hv]
        rfl
      · rw [if_neg hv, List.getElem?_eq_none (Nat.le_of_not_lt hv)]
        rfl
    · rw [if_neg h, wipeE_get Λ j vs]
      by_cases hm : j ∈ vs
      · rw [if_pos hm, if_pos (List.mem_cons_of_mem _ hm)]
      · rw [if_neg hm, if_neg fun z => (List.mem_cons.mp z).elim (fun e => h e.symm) hm]
theorem wipe_eq {σ σ' : L2.St} {vs js : List Nat} (h : Sx js (wipe σ vs) σ') (hj : ∀ j ∈ js, j ∈ vs) : wipe σ' vs = wipe σ vs := by
  refine List.ext_getElem? fun j => ?_
  have hl : σ'.length = σ.length := by rw [h.1, wipe_length]
  rw [wipe_get, wipe_get]
  by_cases hm : j ∈ vs
  · rw [if_pos hm, if_pos hm]
    by_cases hv : j < σ.length
    · rw [List.getElem?_eq_getElem hv, List.getElem?_eq_getElem (by rw [hl]; exact hv)]
      rfl
    · rw [List.getElem?_eq_none (Nat.le_of_not_lt hv), List.getElem?_eq_none (by rw [hl]; exact Nat.le_of_not_lt hv)]
  · rw [if_neg hm, if_neg hm, h.2 j fun z => hm (hj j z), wipe_get, if_neg hm]
/-- some slots are forgotten -/
theorem Sr.forget {X : Ad} {Λ Λ' : Env} {σ σ' : L2.St} {H : Hp} {τ : List (LV × V)} {F : Fp} (S : Sr B K X Λ σ H τ F) (hl : Λ'.length = Λ.length) (hs : σ'.length = σ.length) (h : ∀ (i : Nat) (e : Ent), Λ'[i]? = some e → e = .no ∨ (Λ[i]? = some e ∧ σ'[i]? = σ[i]?)) :
    ∃ F', Sr B K X Λ' σ' H τ F' ∧ (∀ i a, F' i a → F i a) ∧ Stp (Nn X F) H (Nn X F') H := by
  have st : Stp (Nn X F) H (Nn X fun i a => Λ'[i]? = Λ[i]? ∧ Λ'[i]? ≠ some .no ∧ F i a) H := fun a o h n => ⟨fun z => n (z.imp id fun ⟨i, z⟩ => ⟨i, z.2.2⟩), h⟩
  refine ⟨fun i a => Λ'[i]? = Λ[i]? ∧ Λ'[i]? ≠ some .no ∧ F i a, ⟨S.good, S.sub, by rw [hl, hs, S.len], fun i e u h1 h2 => ?_, fun i a z => by rw [hl]; exact S.out i a z.2.2, fun i j a z z' => S.dis i j a z.2.2 z'.2.2, fun i a z => S.disX i a z.2.2, S.hasX, fun t m => (S.tmp t m).mono st⟩, fun i a z => z.2.2, st⟩
  rcases h i e h1 with rfl | ⟨h3, h4⟩
  · exact fun a z => z.2.1 h1
  · by_cases hn : e = .no
    · subst hn
      exact fun a z => z.2.1 h1
    · have ef : (fun a => Λ'[i]? = Λ[i]? ∧ Λ'[i]? ≠ some .no ∧ F i a) = F i := by
        funext a
        exact propext ⟨fun z => z.2.2, fun z => ⟨by rw [h1, h3], by rw [h1]; exact fun w => hn (Option.some.inj w), z⟩⟩
      rw [ef]
      exact (S.ent i e u h3 (by rw [← h4]; exact h2)).mono st fun _ _ => rfl
/-- what is X's may change where nobody else looks -/
theorem Sr.updX {X : Ad} {Λ : Env} {σ : L2.St} {H : Hp} {τ : List (LV × V)} {F : Fp} {p : Addr} {o : HO} (S : Sr B K X Λ σ H τ F) (hX : X p) (hB : p ∉ B) : Sr B K X Λ σ (upd H p o) τ F ∧ Stp (Nn X F) H (Nn X F) (upd H p o) := by
  have st : Stp (Nn X F) H (Nn X F) (upd H p o) := fun a u h n => ⟨n, by rw [upd_ne fun z => n (.inl (by rw [z]; exact hX))]; exact h⟩
  refine ⟨⟨S.good.upd hB, S.sub, S.len, fun i e u h h' => (S.ent i e u h h').mono st fun a m => upd_ne fun z => S.disX i a m (by rw [z]; exact hX), S.out, S.dis, S.disX, fun a m => ?_, fun t m => (S.tmp t m).mono st⟩, st⟩
  by_cases h : a = p
  · exact ⟨o, by rw [h]; exact upd_same⟩
  · obtain ⟨u, e⟩ := S.hasX a m
    exact ⟨u, by rw [upd_ne h]; exact e⟩
structure Kh (B : Fm) (H : Hp) (F : Fp) (H' : Hp) (F' : Fp) : Prop where
  keep : ∀ a o, H a = some o → a ∉ B → (∀ i, ¬ F i a) → H' a = some o
  own : ∀ i a, F' i a → (∃ j, F j a) ∨ H a = none
  all : ∀ a o, H a = some o → ∃ o', H' a = some o'
theorem Kq.kh {Λ Λ' : Env} {σ σ' : L2.St} {H H' : Hp} {F F' : Fp} (q : Kq B Λ σ H F Λ' σ' H' F') : Kh B H F H' F' := ⟨q.keep, q.own, q.all⟩
theorem Kh.trans {H H1 H2 : Hp} {F F1 F2 : Fp} (a : Kh B H F H1 F1) (b : Kh B H1 F1 H2 F2) : Kh B H F H2 F2 where
  keep := fun c o h nb nf => b.keep c o (a.keep c o h nb nf) nb fun i z => by
    rcases a.own i c z with ⟨j, q⟩ | q
    · exact nf j q
    · rw [h] at q
      cases q
  own := fun i c z => by
    rcases b.own i c z with ⟨j, q⟩ | q
    · exact a.own j c q
    · cases h : H c with
      | none => exact .inr rfl
      | some o =>
        obtain ⟨o', e⟩ := a.all c o h
        rw [q] at e
        cases e
  all := fun c o h => by
    obtain ⟨o', e⟩ := a.all c o h
    exact b.all c o' e
theorem Kh.sub {H H' : Hp} {F F' F2 : Fp} (a : Kh B H F H' F') (h : ∀ i a, F2 i a → F' i a) : Kh B H F H' F2 := ⟨a.keep, fun i c z => a.own i c (h i c z), a.all⟩
theorem Kh.stp {X : Ad} {H H' : Hp} {F F' : Fp} (sub : ∀ a, a ∈ B → X a) (q : Kh B H F H' F') : Stp (Nn X F) H (Nn X F') H' := fun a o h n => by
  refine ⟨fun z => ?_, q.keep a o h (fun m => n (.inl (sub a m))) fun i m => n (.inr ⟨i, m⟩)⟩
  rcases z with z | ⟨i, z⟩
  · exact n (.inl z)
  · rcases q.own i a z with ⟨j, m⟩ | e
    · exact n (.inr ⟨j, m⟩)
    · rw [h] at e
      cases e
theorem Stp.trans {N N1 N2 : Ad} {H H1 H2 : Hp} (a : Stp N H N1 H1) (b : Stp N1 H1 N2 H2) : Stp N H N2 H2 := fun c o h n => by
  obtain ⟨n1, h1⟩ := a c o h n
  exact b c o h1 n1
abbrev W0 : WX := fun _ _ _ _ => False
theorem no_at {Λ : Env} {vs : List Nat} (h : noAt Λ vs = true) {i : Nat} (hi : i ∈ vs) : Λ[i]? = some .no := by
  have := List.all_eq_true.mp h i hi
  unfold isNo at this
  split at this
  · assumption
  · cases this
theorem sn_lc {js vs : List Nat} (hj : ∀ j ∈ js, j ∈ vs) (hi : SI B K W wi li) (hg : SG B K js g lg) (ht : ST B K W0 tt lt) (he : SE B K W0 te le) : SN B K W (tLc wi g tt te vs) (lLc li lg lt le vs) := by
  intro X Λ σ H τ F k Q S h c
  refine hi X Λ σ H τ F _ _ S h ⟨fun xs J τw Λ1 H1 F1 g1 S1 q1 wk => ?_, c.ex⟩
  dsimp only [bk] at g1
  obtain ⟨I, i0, iS, iE⟩ := g1
  intro D hD
  obtain ⟨G, Y, wa, hG, hY⟩ := wk.ex
  have nN := S1.free hD
  have nX : ¬ X D := fun z => nN (.inl z)
  have nB : D ∉ B := fun m => nX (S.sub D m)
  have h0D := q1.back hD
  obtain ⟨SD, qD, _⟩ := S1.addX (o := .lst []) hD
  refine lc_it wa (fun i H' => ∃ Λ' F' acc av, Sr B K (fun a => X a ∨ a = D) Λ' σ H' (τw ++ τ) F' ∧ Kq B Λ σ H F Λ' σ H' F' ∧ H' D = some (.lst av) ∧ Rps (Nn (fun a => X a ∨ a = D) F') K H' acc av ∧ I i acc Λ')
    ⟨Λ1, F1, [], [], SD, q1.trans S1.good qD, upd_same, .nil, i0⟩ (fun i H' _ ⟨Λ', F', acc, av, S', _⟩ => hG _ _ _ _ _ _ S') (fun i v Ha Hb hi ⟨Λ', F', acc, av, S', q', hDa, rr, g'⟩ y => ?_) (fun H' ⟨Λ', F', acc, av, S', q', hDa, rr, g'⟩ => ?_)
  · obtain ⟨x, hx, S3, q3, r3⟩ := hY i v Ha Hb _ Λ' σ τ F' hi S' y
    obtain ⟨hno, g'⟩ := iS i x acc Λ' hx g'
    obtain ⟨Fw, Sw, fw, stw⟩ := S3.forget (Λ' := Λ') (σ' := wipe σ vs) rfl (wipe_length ..) (fun j e hje => by
      by_cases hm : j ∈ vs
      · rw [no_at hno hm] at hje
        exact .inl (Option.some.inj hje).symm
      · exact .inr ⟨hje, by rw [wipe_get, if_neg hm]⟩)
    refine hg _ Λ' (wipe σ vs) Hb (τw ++ τ) Fw x v _ _ Sw (r3.mono stw) g' fun Λ4 σ4 H4 F4 g4 S4 q4 x4 => ⟨wipe_eq x4 hj, ?_⟩
    have k4 : Kh B Ha F' H4 F4 := (q3.kh.sub fw).trans q4.kh
    have back : ∀ Λx Hx Fx, Sr B K (fun a => X a ∨ a = D) Λx σ4 Hx (τw ++ τ) Fx → Kq B Λ4 σ4 H4 F4 Λx σ4 Hx Fx → ∃ F6, Sr B K (fun a => X a ∨ a = D) (wipeE Λx vs) σ Hx (τw ++ τ) F6 ∧ Kq B Λ σ H F (wipeE Λx vs) σ Hx F6 ∧ Hx D = some (.lst av) ∧ Rps (Nn (fun a => X a ∨ a = D) F6) K Hx acc av ∧ Stp (Nn (fun a => X a ∨ a = D) Fx) Hx (Nn (fun a => X a ∨ a = D) F6) Hx := by
      intro Λx Hx Fx Sx qx
      have kx : Kh B Ha F' Hx Fx := k4.trans qx.kh
      obtain ⟨F6, S6, f6, st6⟩ := Sx.forget (Λ' := wipeE Λx vs) (σ' := σ) (wipeE_len ..) (by rw [x4.1, wipe_length]) (fun j e hje => by
        rw [wipeE_get] at hje
        by_cases hm : j ∈ vs
        · rw [if_pos hm] at hje
          obtain ⟨_, _, z⟩ := Option.map_eq_some_iff.mp hje
          exact .inl z.symm
        · rw [if_neg hm] at hje
          exact .inr ⟨hje, by rw [x4.2 j fun z => hm (hj j z), wipe_get, if_neg hm]⟩)
      have k6 : Kh B H F Hx F6 := q'.kh.trans (kx.sub f6)
      refine ⟨F6, S6, ⟨k6.keep, k6.own, k6.all, fun j e h1 hp => ?_, ?_⟩, kx.keep D _ hDa nB fun j m => S'.disX j D m (.inr rfl), (rr.mono (kx.stp S'.sub)).mono st6, st6⟩
      · obtain ⟨_, e1, h2, p2⟩ := q'.pin j e h1 hp
        have hm : j ∉ vs := fun m => by
          rw [no_at hno m] at h2
          cases h2
          cases p2
        obtain ⟨_, e2, h3, p3⟩ := q4.pin j e1 h2 p2
        obtain ⟨_, e3, h4, p4⟩ := qx.pin j e2 h3 p3
        exact ⟨rfl, e3, by rw [wipeE_get, if_neg hm]; exact h4, p4⟩
      · rw [wipeE_len, qx.ln, q4.ln, q'.ln]
    refine ht _ Λ4 σ4 H4 (τw ++ τ) F4 _ _ S4 g4 ⟨fun b b' Λ5 H5 F5 g5 S5 r5 q5 => ?_, fun C nm x u d Λ' H' F' z => z.elim⟩
    subst r5
    dsimp only [okk] at g5
    cases b with
    | false =>
      rw [if_neg Bool.false_ne_true]
      obtain ⟨F6, S6, q6, d6, r6, _⟩ := back Λ5 H5 F5 S5 q5
      exact ⟨_, F6, acc, av, S6, q6, d6, r6, g5.2 rfl⟩
    | true =>
      rw [if_pos rfl]
      refine he _ Λ5 σ4 H5 (τw ++ τ) F5 _ _ S5 (g5.1 rfl) ⟨fun y' u Λ6 H6 F6 g6 S6 r6 q6 => ?_, fun C nm x u d Λ' H' F' z => z.elim⟩
      dsimp only [okk] at g6
      obtain ⟨F7, S7, q7, d7, r7, st7⟩ := back Λ6 H6 F6 S6 (q5.trans S5.good q6)
      refine ⟨av, d7, Nat.lt_of_le_of_lt (Nat.le_of_eq r7.len.symm) (Nat.lt_trans g6.1 (by decide)), ?_⟩
      obtain ⟨S8, st8⟩ := S7.updX (p := D) (o := .lst (av ++ [u])) (.inr rfl) nB
      refine ⟨_, F7, acc ++ [y'], av ++ [u], S8, ⟨fun a o h nb nf => ?_, q7.own, fun a o h => ?_, q7.pin, q7.ln⟩, upd_same, (r7.append (.one (r6.mono st7))).mono st8, g6.2⟩
      · rw [upd_ne (ne_of_none h h0D)]
        exact q7.keep a o h nb nf
      · rw [upd_ne (ne_of_none h h0D)]
        exact q7.all a o h
  · exact c.ok acc D Λ' H' F' (iE _ _ g') ⟨⟨av, hDa, rr⟩, S'.tmps fun t m => S'.tmp t (List.mem_append_right _ m), nX, S.sub⟩ h0D q'
end
end Lg
set_option Elab.async false
set_option linter.all false
set_option maxRecDepth 100000
set_option maxHeartbeats 2000000
/-! named operators; equality of data; isinstance; sums; loops by what holds at each turn -/
namespace Lg
open PySem PySem.Spec PyProof.Rows L2 Cw
abbrev fAdd : F2 := fI0 fun i j => .int (i + j)
abbrev fSub : F2 := fI0 fun i j => .int (i - j)
abbrev fMul : F2 := fI CMul fun i j => .int (i * j)
abbrev fDiv : F2 := fI CDiv fun i j => .int (i / j)
abbrev fDivW : F2 := fI CDivW fun i j => .int (i / j)
abbrev fMod : F2 := fI (fun _ j => 0 < j) fun i j => .int (i % j)
abbrev fShl : F2 := fI CShl fun i j => .int (i * 2 ^ j.toNat)
abbrev fShr : F2 := fI (fun _ j => 0 ≤ j) fun i j => .int (i / 2 ^ j.toNat)
abbrev fPow : F2 := fI CPow fun i j => .int (i ^ j.toNat)
abbrev fAnd : F2 := fI0 fun i j => .int (Builtin.bitAnd i j)
abbrev fOr : F2 := fI0 fun i j => .int (Builtin.bitOr i j)
abbrev fXor : F2 := fI0 fun i j => .int (Builtin.bitXor i j)
abbrev fLt : F2 := fI0 fun i j => .bl (decide (i < j))
abbrev fLe : F2 := fI0 fun i j => .bl (decide (i ≤ j))
abbrev fGt : F2 := fI0 fun i j => .bl (decide (j < i))
abbrev fGe : F2 := fI0 fun i j => .bl (decide (j ≤ i))
section
variable {B : Fm} {K : PySem.W.Frag} {W : WX}
theorem rv_add : RV2 B K (rI0 fun i j => .int (i + j)) fAdd := rv_I0' fun _ _ _ _ => .int _
theorem rv_sub : RV2 B K (rI0 fun i j => .int (i - j)) fSub := rv_I0' fun _ _ _ _ => .int _
theorem rv_mul : RV2 B K (rI CMul fun i j => .int (i * j)) fMul := rv_I' fun _ _ _ _ => .int _
theorem rv_div : RV2 B K (rI CDiv fun i j => .int (i / j)) fDiv := rv_I' fun _ _ _ _ => .int _
theorem rv_divW : RV2 B K (rI CDivW fun i j => .int (i / j)) fDivW := rv_I' fun _ _ _ _ => .int _
theorem rv_mod : RV2 B K (rI (fun _ j => 0 < j) fun i j => .int (i % j)) fMod := rv_I' fun _ _ _ _ => .int _
theorem rv_shl : RV2 B K (rI CShl fun i j => .int (i * 2 ^ j.toNat)) fShl := rv_I' fun _ _ _ _ => .int _
theorem rv_shr : RV2 B K (rI (fun _ j => 0 ≤ j) fun i j => .int (i / 2 ^ j.toNat)) fShr := rv_I' fun _ _ _ _ => .int _
theorem rv_pow : RV2 B K (rI CPow fun i j => .int (i ^ j.toNat)) fPow := rv_I' fun _ _ _ _ => .int _
theorem rv_and : RV2 B K (rI0 fun i j => .int (Builtin.bitAnd i j)) fAnd := rv_I0' fun _ _ _ _ => .int _
theorem rv_or : RV2 B K (rI0 fun i j => .int (Builtin.bitOr i j)) fOr := rv_I0' fun _ _ _ _ => .int _
theorem rv_xor : RV2 B K (rI0 fun i j => .int (Builtin.bitXor i j)) fXor := rv_I0' fun _ _ _ _ => .int _
theorem rv_lt : RV2 B K (rI0 fun i j => .bl (decide (i < j))) fLt := rv_I0' fun _ _ _ _ => .bl _
theorem rv_le : RV2 B K (rI0 fun i j => .bl (decide (i ≤ j))) fLe := rv_I0' fun _ _ _ _ => .bl _
theorem rv_gt : RV2 B K (rI0 fun i j => .bl (decide (j < i))) fGt := rv_I0' fun _ _ _ _ => .bl _
theorem rv_ge : RV2 B K (rI0 fun i j => .bl (decide (j ≤ i))) fGe := rv_I0' fun _ _ _ _ => .bl _
end
/-! ### data of any depth -/
mutual
def dD : LV → PyData
  | .non => .none
  | .bl b => .bool b
  | .int i => .int i
  | .str l => .str (Cw.S l)
  | .tup xs => .tuple (dDs xs)
  | .lst xs => .list (dDs xs)
  | .op _ => .none
  | .scr _ => .none
  | .obj _ _ => .none
  | .kt _ => .none
def dDs : List LV → List PyData
  | [] => []
  | x :: xs => dD x :: dDs xs
end
mutual
def dOk : LV → Bool
  | .tup xs => dOks xs
  | .lst xs => dOks xs
  | .op _ => false
  | .scr _ => false
  | .obj _ _ => false
  | .kt _ => false
  | _ => true
def dOks : List LV → Bool
  | [] => true
  | x :: xs => dOk x && dOks xs
end
section
variable {B : Fm} {K : PySem.W.Frag} {W : WX} {N : Ad} {H : Hp}
mutual
theorem dp_of : ∀ (x : LV) (v : V), dOk x = true → Rp N K H x v → Dp K H v (dD x)
  | .non, _, _, r => by
    rw [r.non_inv]
    exact .non
  | .bl b, _, _, r => by
    rw [r.bl_inv]
    exact .bl b
  | .int i, _, _, r => by
    rw [r.int_inv]
    exact .int i
  | .str l, _, _, r => by
    rw [r.str_inv]
    exact .str _
  | .tup xs, _, h, r => by
    obtain ⟨p, vs, rfl, hp, rr⟩ := r.tup_inv
    exact .tup hp.sq (dps_of xs vs h rr)
  | .lst xs, _, h, r => by
    obtain ⟨p, vs, rfl, hp, rr⟩ := r.lst_inv
    exact .lst hp.sq (dps_of xs vs h rr)
  | .op _, _, h, _ => by cases h
  | .scr _, _, h, _ => by cases h
  | .obj _ _, _, h, _ => by cases h
  | .kt _, _, h, _ => by cases h
theorem dps_of : ∀ (xs : List LV) (vs : List V), dOks xs = true → Rps N K H xs vs → DpAll K H vs (dDs xs)
  | [], vs, _, r => by
    rw [r.nil_inv]
    exact .nil
  | x :: xs, vs, h, r => by
    obtain ⟨v, t, rfl, rv, rt⟩ := r.cons_inv
    have h' := Bool.and_eq_true_iff.mp (show (dOk x && dOks xs) = true from h)
    exact .cons (dp_of x v h'.1 rv) (dps_of xs t h'.2 rt)
end
/-- x == y, x != y of data -/
def fEqD (n : Bool) : F2 := fun x y k => (dOk x = true ∧ dOk y = true) ∧ (SeqAt.shaped (dD x) = true ∧ SeqAt.shaped (dD y) = true) ∧ k (.bl (xor n (PyData.eqv (dD x) (dD y))))
theorem rv_eqD : RV2 B K (rEqD K) (fEqD false) := fun X Λ σ H τ F x y u v S rx ry k Q h q =>
  ⟨dD x, dD y, dp_of x u h.1.1 rx, dp_of y v h.1.2 ry, h.2.1.1, h.2.1.2, q _ _ _ h.2.2 S (.bl _) Kq.refl |> fun z => by
    rw [Bool.false_xor] at z
    exact z⟩
theorem rv_neD : RV2 B K (rNeD K) (fEqD true) := fun X Λ σ H τ F x y u v S rx ry k Q h q =>
  ⟨dD x, dD y, dp_of x u h.1.1 rx, dp_of y v h.1.2 ry, h.2.1.1, h.2.1.2, q _ _ _ h.2.2 S (.bl _) Kq.refl |> fun z => by
    rw [Bool.true_xor] at z
    exact z⟩
/-! ### isinstance -/
def tyN : LV → Option String
  | .non => some "NoneType"
  | .bl _ => some "bool"
  | .int _ => some "int"
  | .str _ => some "str"
  | .tup _ => some "tuple"
  | .lst _ => some "list"
  | .op _ => none
  | .scr _ => none
  | .obj _ _ => none
  | .kt _ => none
def fIsi : FA := fun xs k => match xs with
  | [x, .op (.ty n)] => ∃ a b, tyN x = some a ∧ kitB a n = some b ∧ k (.bl b)
  | _ => False
theorem tyX_of {x : LV} {v : V} {a : String} (r : Rp N K H x v) (h : tyN x = some a) : TyX K H v (.type a) := by
  cases r with
  | non => cases h; exact .base .non
  | bl b => cases h; exact .base (.bl _)
  | int i => cases h; exact .base (.int _)
  | str l => cases h; exact .base (.str _)
  | op v => cases h
  | scr _ => cases h
  | obj _ _ _ => cases h
  | kt _ _ _ => cases h
  | tup hp _ _ =>
    cases h
    exact .base (.tup hp.2)
  | lst hp _ _ =>
    cases h
    exact .base (.lst hp.2)
theorem rva_isi : RVA B K (rIsi K) fIsi := by
  intro X Λ σ H τ F xs us S r k Q h q
  unfold fIsi at h
  split at h
  · rename_i x n
    obtain ⟨a, b, e1, e2, hk⟩ := h
    obtain ⟨v, u, rfl, rx, ry⟩ := r.two_inv
    rw [ry.op_inv]
    exact ⟨v, .ty n, .type a, .type n, b, rfl, .ty _, tyX_of rx e1, kit_ty e2, q _ _ _ hk S (.bl _) Kq.refl⟩
  · exact h.elim
/-! ### chains -/
def lChain (f f' : F2) (la lb lc : LE) : LE := fun Λ k => la Λ (bk k fun x Λ1 => lb Λ1 (bk k fun y Λ2 => f x y fun z => match z with
  | .bl b => Br b (lc Λ2 (bk k fun u Λ3 => f' y u fun c => k (.ok c Λ3))) (k (.ok (.bl false) Λ2))
  | _ => False))
theorem se_chain {r r' : R2} {f f' : F2} {ta tb tc : TE} {la lb lc : LE} (hr : RV2 B K r f) (hr' : RV2 B K r' f') (ha : SE B K W ta la) (hb : SE B K W tb lb) (hc : SE B K W tc lc) : SE B K W (tChain r r' ta tb tc) (lChain f f' la lb lc) := by
  intro X Λ σ H τ F k Q S h c
  refine ha X Λ σ H τ F _ _ S h (c.bk (τ' := τ) fun a u Λ1 H1 F1 h1 S1 r1 q1 => ?_)
  refine hb X Λ1 σ H1 ((a, u) :: τ) F1 _ _ (S1.push r1) h1 ((c.st S1 q1).bk (τ' := (a, u) :: τ) fun b v Λ2 H2 F2 h2 S2 r2 q2 => ?_)
  obtain ⟨ra, S2'⟩ := S2.pop
  refine hr X Λ2 σ H2 ((b, v) :: τ) F2 a b u v (S2'.push r2) ra r2 _ _ h2 fun z w H3 hz S3 rz q3 => ?_
  cases rz <;> first | exact hz.elim | skip
  rename_i bb
  obtain ⟨rb, S3'⟩ := S3.pop
  have q13 := (q1.trans S1.good q2).trans S2'.good q3
  refine ⟨bb, rfl, ?_⟩
  cases bb with
  | false =>
    rw [if_neg Bool.false_ne_true]
    exact c.ok _ _ _ _ _ (hz.2 rfl) S3' (.bl false) q13
  | true =>
    rw [if_pos rfl]
    refine hc X Λ2 σ H3 ((b, v) :: τ) F2 _ _ S3 (hz.1 rfl) ((c.st S3' q13).bk (τ' := (b, v) :: τ) fun d y Λ4 H4 F4 h4 S4 r4 q4 => ?_)
    obtain ⟨rb4, S4'⟩ := S4.pop
    exact hr' X Λ4 σ H4 τ F4 b d v y S4' rb4 r4 _ Q h4 fun z w H5 hz S5 rz q5 => c.ok _ _ _ _ _ hz S5 rz ((q13.trans S3'.good q4).trans S4'.good q5)
/-! ### sums of ints -/
def fSum : FA := fun xs k => match xs with
  | [.lst ys] => ∃ ns : List Int, ys = ilv ns ∧ k (.int ns.sum)
  | _ => False
theorem rva_sum : RVA B K (rSum K) fSum := by
  intro X Λ σ H τ F xs us S r k Q h q
  unfold fSum at h
  split at h
  · obtain ⟨ns, rfl, hk⟩ := h
    obtain ⟨v, rfl, rx⟩ := r.one_inv
    obtain ⟨p, vs, rfl, hp, rr⟩ := rx.lst_inv
    have e := rps_ilv rr
    subst e
    exact ⟨p, ns, rfl, hp.sq, q _ _ _ hk S (.int _) Kq.refl⟩
  · exact h.elim
end
end Lg
set_option Elab.async false
set_option linter.all false
set_option maxRecDepth 100000
set_option maxHeartbeats 2000000
/-! the ends -/
namespace Lg
open PySem PySem.Spec PyProof.Rows L2 Cw
open GxR (TabG Tabbed TabB GenS)
open LamX (LawAtS)
section
variable {B : Fm} {K : PySem.W.Frag} {Tt : List Addr}
theorem fn_len {n : Nat} {f : FSp} {vs : List V} {H : Hp} {Q : VK} {E : XK} (h : FnL0 B K n f vs H Q E) : vs.length = n := by
  obtain ⟨X, es, F, k, hl, S, _⟩ := h
  rw [← hl, S.len, List.length_map]
abbrev scrOk (ns : List Int) : Prop := ns.length ≤ 63 ∧ ∀ z ∈ ns, Builtin.Int.intBits z ≤ 1048576
abbrev sp_law : FSp := fun es k => match es with
  | [.v (.scr ns)] => scrOk ns ∧ k (.ok (.bl true) es)
  | _ => False
theorem law_in {H : Hp} {a : Addr} {ns : List Int} (hl : ns.length ≤ 63) (hb : ∀ z ∈ ns, Builtin.Int.intBits z ≤ 1048576) (hT : ∀ P ∈ Tt, H P = some (.tbl #[])) (hS : SqL K H a (ns.map V.int)) :
    FnL0 (Fm.tabs Tt) K 1 sp_law [.ref a] H (fun v _ => v = .bl true) (fun _ _ _ => False) := by
  refine ⟨fun P => P ∈ Tt, [.v (.scr ns)], Fp.no, fun o => match o with | .ok x _ => x = .bl true | .ex _ _ _ _ => False, rfl, ?_, ⟨⟨hl, hb⟩, rfl⟩, fun x v es' H' F' hk _ r _ => ?_, fun _ _ _ _ z => z⟩
  · refine ⟨fun P hP => ⟨#[], hT P hP, trivial⟩, fun a m => m, rfl, fun i e u h h' => ?_, fun _ _ z => z.elim, fun _ _ _ z => z.elim, fun _ _ z => z.elim, fun P hP => ⟨_, hT P hP⟩, fun t m => by cases m⟩
    cases i with
    | zero =>
      cases h
      cases h'
      refine ⟨⟨_, rfl, .scr ?_⟩, fun _ z => z⟩
      rcases hS with hS | ⟨o, its, n, h⟩
      · refine .inl ⟨?_, hS⟩
        rw [nn_no]
        intro m
        have e := hT a m
        rcases hS with z | ⟨o, z⟩ <;> rw [e] at z <;> cases z
      · exact .inr fun H => .inr ⟨o, its, n, h⟩
    | succ i => cases h
  · have hk : x = .bl true := hk
    subst hk
    exact r.bl_inv
/-- a written tuple -/
theorem rp_tup {p : Addr} {o : Obj} {its : Array Value} {n : Nat} {xs : List LV} {vs : List V} (h : K.lookup p = some o) (hc : o.cls = .type "tuple") (hd : o.data = .seq its n) (hs : its.size ≤ sizeLine) (hv : Vals vs its.toList) (hx : ∀ N H, Rps N K H xs vs) : ∀ N H, Rp N K H (.kt xs) (.ref p) := fun N H =>
  .kt (fun H => .inr ⟨o, its, n, h, hc, hd, hs, hv⟩) (hx N H).len (hx N H).get
end
end Lg
set_option Elab.async false
set_option linter.all false
set_option maxRecDepth 100000
set_option maxHeartbeats 2000000
/-! small words for what values do -/
namespace Lg
open PySem PySem.Spec PyProof.Rows L2 Cw
def nlv (l : List Nat) : List LV := l.map fun (n : Nat) => LV.int (n : Int)
theorem nlv_ilv (l : List Nat) : nlv l = ilv (l.map fun (n : Nat) => (n : Int)) := by
  unfold nlv ilv
  rw [List.map_map]
  rfl
theorem nlv_len (l : List Nat) : (nlv l).length = l.length := List.length_map ..
theorem nlv_get {l : List Nat} {i : Nat} {x : LV} (h : (nlv l)[i]? = some x) : ∃ n, l[i]? = some n ∧ x = .int (n : Int) := by
  unfold nlv at h
  rw [List.getElem?_map] at h
  obtain ⟨n, hn, rfl⟩ := Option.map_eq_some_iff.mp h
  exact ⟨n, hn, rfl⟩
theorem nlv_at {l : List Nat} {i : Nat} (h : i < l.length) : atI (nlv l) (i : Int) = some (.int ((l.getD i 0 : Nat) : Int)) := by
  refine atI_nat ?_
  unfold nlv
  rw [List.getElem?_map, List.getElem?_eq_getElem h, List.getD_eq_getElem?_getD, List.getElem?_eq_getElem h]
  rfl
theorem nlv_app (l : List Nat) (n : Nat) : nlv l ++ [.int (n : Int)] = nlv (l ++ [n]) := by
  unfold nlv
  rw [List.map_append]
  rfl
theorem ilv_len (l : List Int) : (ilv l).length = l.length := List.length_map ..
theorem ilv_get {l : List Int} {i : Nat} {x : LV} (h : (ilv l)[i]? = some x) : ∃ n, l[i]? = some n ∧ x = .int n := by
  unfold ilv at h
  rw [List.getElem?_map] at h
  obtain ⟨n, hn, rfl⟩ := Option.map_eq_some_iff.mp h
  exact ⟨n, hn, rfl⟩
theorem rng_inv {lo : Int} {n i : Nat} {x : LV} (h : (rngL lo n)[i]? = some x) : i < n ∧ x = .int (lo + (i : Nat)) := by
  have hi := (List.getElem?_eq_some_iff.mp h).1
  rw [rngL_len] at hi
  rw [rngL_get hi] at h
  exact ⟨hi, (Option.some.inj h).symm⟩
theorem rng0_inv {n i : Nat} {x : LV} (h : (rngL 0 n)[i]? = some x) : i < n ∧ x = .int (i : Int) := by
  obtain ⟨a, b⟩ := rng_inv h
  rw [Int.zero_add] at b
  exact ⟨a, b⟩
def enL (ys : List LV) : List LV := ys.zipIdx.map fun p => .tup [.int (p.2 : Nat), p.1]
theorem enL_len (ys : List LV) : (enL ys).length = ys.length := by
  unfold enL
  rw [List.length_map, List.length_zipIdx]
theorem enL_inv {ys : List LV} {i : Nat} {x : LV} (h : (enL ys)[i]? = some x) : ∃ y, ys[i]? = some y ∧ x = .tup [.int (i : Nat), y] := by
  unfold enL at h
  rw [List.getElem?_map, List.getElem?_zipIdx] at h
  cases e : ys[i]? with
  | none => rw [e] at h; cases h
  | some y =>
    rw [e] at h
    cases h
    exact ⟨y, rfl, by simp⟩
theorem kI {k : Rs LV → Prop} {i j : Int} {es : Env} (h : j = i) (hk : k (.ok (.int j) es)) : k (.ok (.int i) es) := h ▸ hk
theorem kB {k : Rs LV → Prop} {i j : Bool} {es : Env} (h : j = i) (hk : k (.ok (.bl j) es)) : k (.ok (.bl i) es) := h ▸ hk
theorem kX {k : Rs LV → Prop} {i j : LV} {es : Env} (h : j = i) (hk : k (.ok j es)) : k (.ok i es) := h ▸ hk
theorem np {e : Ent} (h : e.pin = false) : (!e.pin) = true := by
  rw [h]
  rfl
theorem toN (n : Nat) : ((n : Nat) : Int).toNat = n := Int.toNat_natCast n
theorem shl1 (n : Nat) : (1 : Int) * 2 ^ ((n : Nat) : Int).toNat = ((2 ^ n : Nat) : Int) := by
  rw [toN, Int.one_mul]
  push_cast
  rfl
theorem shlN (a n : Nat) : (a : Int) * 2 ^ ((n : Nat) : Int).toNat = ((a * 2 ^ n : Nat) : Int) := by
  rw [toN]
  push_cast
  rfl
theorem shrN (a n : Nat) : (a : Int) / 2 ^ ((n : Nat) : Int).toNat = ((a / 2 ^ n : Nat) : Int) := by
  rw [toN]
  push_cast
  rfl
theorem bits_le (a n : Nat) (h : a < 2 ^ n) : Builtin.Int.intBits (a : Int) ≤ n := PyProof.Rows.intBits_le (by rw [Int.natAbs_natCast]; exact h)
theorem cshl {a m n : Nat} (h : a < 2 ^ m) (hm : m + n ≤ 134217728) : CShl (a : Int) (n : Int) := by
  have := bits_le a m h
  refine ⟨by omega, ?_⟩
  show (Builtin.Int.intBits (a : Int) : Int) + n ≤ 134217728
  omega
theorem cshl1 {n : Nat} (h : n ≤ 100000) : CShl 1 (n : Int) := cshl (a := 1) (m := 1) (by decide) (by omega)
theorem andN (a b : Nat) : Builtin.bitAnd (a : Int) (b : Int) = ((a &&& b : Nat) : Int) := by
  rw [PyProof.Rows.bitAnd_pp (by omega) (by omega), toN, toN]
theorem orN (a b : Nat) : Builtin.bitOr (a : Int) (b : Int) = ((a ||| b : Nat) : Int) := by
  rw [bitOr_nn (by omega) (by omega), toN, toN]
theorem xor_add_and (a b : Nat) : (a ^^^ b) + (a &&& b) = a ||| b := by
  have h := PyProof.Rows.nat_or_add_and (a ^^^ b) (a &&& b)
  have e1 : (a ^^^ b) &&& (a &&& b) = 0 := by
    refine Nat.eq_of_testBit_eq fun i => ?_
    rw [Nat.testBit_and, Nat.testBit_xor, Nat.testBit_and, Nat.zero_testBit]
    cases a.testBit i <;> cases b.testBit i <;> rfl
  have e2 : (a ^^^ b) ||| (a &&& b) = a ||| b := by
    refine Nat.eq_of_testBit_eq fun i => ?_
    rw [Nat.testBit_or, Nat.testBit_xor, Nat.testBit_and, Nat.testBit_or]
    cases a.testBit i <;> cases b.testBit i <;> rfl
  rw [e1, e2] at h
  omega
theorem xorN (a b : Nat) : Builtin.bitXor (a : Int) (b : Int) = ((a ^^^ b : Nat) : Int) := by
  have h := xor_add_and a b
  show Builtin.bitOr (a : Int) (b : Int) - Builtin.bitAnd (a : Int) (b : Int) = _
  rw [orN, andN]
  omega
/-- lists of numbers are data, and equal as they are -/
theorem dOk_nlv : ∀ l : List Nat, dOks (nlv l) = true
  | [] => rfl
  | n :: r => by
    show (true && dOks (nlv r)) = true
    rw [dOk_nlv r]
    rfl
theorem canLay_nlv : ∀ l : List Nat, PyData.canLayAll0 (dDs (nlv l)) = true
  | [] => by
    show PyData.canLayAll0 [] = true
    unfold PyData.canLayAll0
    rfl
  | n :: r => by
    show PyData.canLayAll0 (.int n :: dDs (nlv r)) = true
    unfold PyData.canLayAll0
    rw [canLay_nlv r]
    unfold PyData.canLay0
    rfl
theorem eqv_nlv : ∀ a b : List Nat, PyData.eqvAll (dDs (nlv a)) (dDs (nlv b)) = decide (a = b)
  | [], [] => by
    show PyData.eqvAll [] [] = true
    unfold PyData.eqvAll
    rfl
  | [], n :: r => by
    show PyData.eqvAll [] (.int n :: dDs (nlv r)) = false
    unfold PyData.eqvAll
    rfl
  | n :: r, [] => by
    show PyData.eqvAll (.int n :: dDs (nlv r)) [] = false
    unfold PyData.eqvAll
    rfl
  | n :: r, m :: s => by
    show PyData.eqvAll (.int n :: dDs (nlv r)) (.int m :: dDs (nlv s)) = _
    unfold PyData.eqvAll
    rw [eqv_nlv r s]
    unfold PyData.eqv
    by_cases h : n = m
    · subst h
      by_cases h2 : r = s
      · subst h2
        simp
      · simp [h2]
    · have : ((n : Int) == (m : Int)) = false := by
        rw [beq_eq_false_iff_ne]
        omega
      rw [this]
      simp [h]
theorem depth_nlv : ∀ l : List Nat, PyData.depthAll (dDs (nlv l)) = 0
  | [] => by
    show PyData.depthAll [] = 0
    unfold PyData.depthAll
    rfl
  | n :: r => by
    show PyData.depthAll (.int n :: dDs (nlv r)) = 0
    unfold PyData.depthAll
    rw [depth_nlv r]
    unfold PyData.depth
    rfl
theorem shaped_nlv (l : List Nat) : SeqAt.shaped (dD (.lst (nlv l))) = true := by
  show (PyData.canLay0 (.list (dDs (nlv l))) && decide (PyData.depth (.list (dDs (nlv l))) ≤ 64)) = true
  unfold PyData.canLay0 PyData.depth
  rw [canLay_nlv, depth_nlv]
  rfl
theorem eqD_nlv (a b : List Nat) : PyData.eqv (dD (.lst (nlv a))) (dD (.lst (nlv b))) = decide (a = b) := by
  show PyData.eqv (.list (dDs (nlv a))) (.list (dDs (nlv b))) = _
  unfold PyData.eqv
  exact eqv_nlv a b
theorem cut_to' {xs : List LV} {m : Nat} (h : m ≤ xs.length) : cutL xs none (some (m : Int)) = xs.take m := by
  unfold cutL
  rw [HT.sIx_none, HT.sIx_nat, Nat.min_eq_left h, Nat.sub_zero, List.drop_zero]
theorem nlv_take (l : List Nat) (m : Nat) : (nlv l).take m = nlv (l.take m) := by
  unfold nlv
  rw [List.map_take]
theorem ilv_cut (l : List Int) (lo hi : Option Int) : ∃ l2, cutL (ilv l) lo hi = ilv l2 ∧ l2.length ≤ l.length ∧ ∀ z ∈ l2, z ∈ l := by
  refine ⟨(l.drop (HT.sIx l.length 0 lo)).take (HT.sIx l.length l.length hi - HT.sIx l.length 0 lo), ?_, ?_, fun z h => List.mem_of_mem_drop (List.mem_of_mem_take h)⟩
  · unfold cutL ilv
    rw [List.length_map, List.map_take, List.map_drop]
  · rw [List.length_take, List.length_drop]
    omega
theorem xnat (a b : Nat) : (true ^^ decide ((a : Int) = (b : Int))) = decide (a ≠ b) := by
  by_cases h : a = b
  · subst h
    simp
  · have : ¬ (a : Int) = (b : Int) := by omega
    rw [decide_eq_false this, decide_eq_true h]
    rfl
theorem enat (a b : Nat) : (false ^^ decide ((a : Int) = (b : Int))) = decide (a = b) := by
  by_cases h : a = b
  · subst h
    simp
  · have : ¬ (a : Int) = (b : Int) := by omega
    rw [decide_eq_false this, decide_eq_false h]
    rfl
theorem filt_yes {p : Nat → Bool} {i : Nat} (h : p i = true) : (List.range (i + 1)).filter p = (List.range i).filter p ++ [i] := by
  rw [List.range_succ, List.filter_append]
  simp [h]
theorem filt_no {p : Nat → Bool} {i : Nat} (h : p i = false) : (List.range (i + 1)).filter p = (List.range i).filter p := by
  rw [List.range_succ, List.filter_append]
  simp [h]
theorem filt_le (p : Nat → Bool) (i : Nat) : ((List.range i).filter p).length ≤ i := Nat.le_trans (List.length_filter_le _ _) (by rw [List.length_range]; exact Nat.le_refl _)
theorem rok1 {m : Nat} (h : m ≤ 4294967296) : -(2 ^ 62) ≤ (m : Int) := by omega
theorem rok2 {m : Nat} (h : m ≤ 4294967296) : (m : Int) < 2 ^ 62 := by omega
theorem xor_mod2 (a b : Nat) : (a ^^^ b) % 2 = (a + b) % 2 := by
  have h1 := xor_add_and a b
  have h2 := PyProof.Rows.nat_or_add_and a b
  omega
end Lg
set_option Elab.async false
set_option linter.all false
set_option maxRecDepth 100000
set_option maxHeartbeats 2000000
/-! objects: their attributes, how they are made, their methods; comprehensions of two clauses -/
namespace Lg
open PySem PySem.Spec PyProof.Rows L2 Cw
def lFld (C : Addr) (f : Str) (le : LE) : LE := fun Λ k => le Λ (bk k fun x Λ1 => match x with
  | .obj C' fs => C' = C ∧ ∃ y, fs.lookup f = some y ∧ k (.ok y Λ1)
  | _ => False)
def putD (f : Str) (d : Fd) : List (Str × Fd) → List (Str × Fd)
  | [] => [(f, d)]
  | (g, x) :: r => if g = f then (g, d) :: r else (g, x) :: putD f d r
/-- self.f = e, an attribute that is new -/
def lSetF (i : Nat) (C : Addr) (f : Str) (le : LE) : LS := fun Λ k => (∃ fs, Λ[i]? = some (.o C fs)) ∧ le Λ (sk k fun x Λ1 => match Λ1[i]? with
  | some (.o C' fs) => C' = C ∧ fs.length < 1000 ∧ (fs.map (·.1)).contains f = false ∧ k (.nx (Λ1.set i (.o C (fs ++ [(f, .v x)]))))
  | _ => False)
def Fd.val : Fd → LV
  | .v x => x
  | .l xs => .lst xs
  | .d _ => .non
def Fd.nd : Fd → Bool
  | .d _ => false
  | _ => true
def frzF (fs : List (Str × Fd)) : List (Str × LV) := fs.map fun p => (p.1, p.2.val)
/-- C(..), which is only read from then on -/
def lMake (C : Addr) (n : Nat) (f : FSp) (la : LA) : LE := fun Λ k => la Λ (bk k fun xs Λ1 => xs.length + 1 = n ∧ f (.o C [] :: xs.map .v) fun o => match o with
  | .ok .non (.o C' fs :: es) => C' = C ∧ (es.all Ent.isV && fs.all fun p => p.2.nd) = true ∧ k (.ok (.obj C (frzF fs)) Λ1)
  | _ => False)
/-- o.m(..), o only read -/
def lMeth (C : Addr) (m : Str) (n : Nat) (f : FSp) (le : LE) (la : LA) : LE := fun Λ k => le Λ (bk k fun x Λ1 => match x with
  | .obj C' fs => C' = C ∧ fs.lookup m = none ∧ la Λ1 (bk k fun xs Λ2 => xs.length + 1 = n ∧ f ((x :: xs).map .v) fun o => match o with
    | .ok y es => es.all Ent.isV = true ∧ k (.ok y Λ2)
    | .ex _ _ _ _ => False)
  | _ => False)
section
variable {B : Fm} {K : PySem.W.Frag} {W : WX} {w : World} {ta tb te : TE} {la lb le : LE} {tt tt1 : TT} {lt lt1 : LT} {tr : TA} {lr : LA} {t1 t2 tb' : TS} {l1 l2 lb' : LS} {wi wi1 : TI} {li li1 : LA} {g g1 : TG} {lg lg1 : LV → Env → (Env → Prop) → Prop}
theorem lookup_rel : ∀ {fs : List (Str × LV)} {us : List (Str × V)} {f : Str} {y : LV}, fs.map (·.1) = us.map (·.1) → fs.lookup f = some y → ∃ (i : Nat) (v : V), (fs.map (·.2))[i]? = some y ∧ (us.map (·.2))[i]? = some v ∧ us.lookup f = some v
  | [], _, _, _, _, h => by cases h
  | (g, x) :: r, [], _, _, e, _ => by cases e
  | (g, x) :: r, (g', u) :: s, f, y, e, h => by
    have e1 : g = g' := (List.cons.inj e).1
    have e2 : r.map (·.1) = s.map (·.1) := (List.cons.inj e).2
    subst e1
    by_cases hf : (f == g) = true
    · rw [List.lookup_cons, hf] at h
      cases h
      exact ⟨0, u, rfl, rfl, by rw [List.lookup_cons, hf]⟩
    · have hf' : (f == g) = false := by simpa using hf
      rw [List.lookup_cons, hf'] at h
      obtain ⟨i, v, h1, h2, h3⟩ := lookup_rel e2 h
      exact ⟨i + 1, v, h1, h2, by rw [List.lookup_cons, hf']; exact h3⟩
theorem lookup_none : ∀ {fs : List (Str × LV)} {us : List (Str × V)} {f : Str}, fs.map (·.1) = us.map (·.1) → fs.lookup f = none → us.lookup f = none
  | [], [], _, _, _ => rfl
  | [], (g', u) :: s, _, e, _ => by cases e
  | (g, x) :: r, [], _, e, _ => by cases e
  | (g, x) :: r, (g', u) :: s, f, e, h => by
    have e1 : g = g' := (List.cons.inj e).1
    have e2 : r.map (·.1) = s.map (·.1) := (List.cons.inj e).2
    subst e1
    by_cases hf : (f == g) = true
    · rw [List.lookup_cons, hf] at h
      cases h
    · have hf' : (f == g) = false := by simpa using hf
      rw [List.lookup_cons, hf'] at h ⊢
      exact lookup_none e2 h
theorem se_fld {C : Addr} {f : Str} (hc : Cls K C) (hn : NoAttr K C f) (h0 : SE B K W te le) : SE B K W (tFld K te f) (lFld C f le) := by
  intro X Λ σ H τ F k Q S h c
  refine h0 X Λ σ H τ F _ _ S h (c.bk (τ' := τ) fun x v Λ1 H1 F1 h1 S1 r1 q1 => ?_)
  split at h1
  · obtain ⟨rfl, y, e, hy⟩ := h1
    obtain ⟨p, dx, us, rfl, hp, hnm, hfd⟩ := r1.obj_inv
    obtain ⟨i, v, e1, e2, e3⟩ := lookup_rel hnm e
    exact ⟨p, _, dx, us, v, rfl, hp, hc, hn, e3, c.ok _ _ _ _ _ hy S1 (hfd i _ _ e1 e2) q1⟩
  · exact h1.elim
theorem putF_new : ∀ {us : List (Str × V)} {f : Str} {v : V}, (us.map (·.1)).contains f = false → putF f v us = us ++ [(f, v)]
  | [], _, _, _ => rfl
  | (g, x) :: r, f, v, h => by
    rw [List.map_cons, List.contains_cons, Bool.or_eq_false_iff] at h
    have ne : ¬ g = f := fun z => by
      rw [z] at h
      simp at h
    show (if g = f then (g, v) :: r else (g, x) :: putF f v r) = _
    rw [if_neg ne, putF_new h.2]
    rfl
theorem ss_setF {i : Nat} {C : Addr} {f : Str} (hc : Cls K C) (hn : NoAttr K C f) (h0 : SE B K W te le) : SS B K W (sFld K (tVar i) te f) (lSetF i C f le) := by
  intro X Λ σ H τ F k D S h c
  refine h0 X Λ σ H τ F _ _ S h.2 (c.cn (fun _ _ _ _ z => z) fun x v Λ1 H1 F1 g S1 r q => ?_)
  dsimp only [sk] at g
  split at g
  · rename_i C' fs e1
    obtain ⟨rfl, hl, hnew, hk⟩ := g
    obtain ⟨u, hu, p, dx, us, Fi, rfl, ob⟩ := S1.slot e1
    have hlen : fs.length = us.length := by
      have := congrArg List.length ob.nm
      rwa [List.length_map, List.length_map] at this
    refine ⟨_, hu, p, _, dx, us, rfl, ob.ins, hc, hn, by rw [← hlen]; exact hl, ?_⟩
    rw [putF_new (by rw [← ob.nm]; exact hnew)]
    have hFp : F1 i p := (ob.F_ p).mpr (.inl rfl)
    have hi : i < Λ1.length := (List.getElem?_eq_some_iff.mp e1).1
    have nB : p ∉ B := fun m => S1.disX i p hFp (S1.sub p m)
    have st : Stp (Nn X F1) H1 (Nn X F1) (upd H1 p (.ins C' dx (us ++ [(f, v)]))) := fun a o hh n => ⟨n, by rw [upd_ne fun z => n (.inr ⟨i, by rw [z]; exact hFp⟩)]; exact hh⟩
    have ob2 : ObjAt (Nn X F1) K (upd H1 p (.ins C' dx (us ++ [(f, v)]))) C' (fs ++ [(f, .v x)]) (F1 i) p dx (us ++ [(f, v)]) Fi := by
      have hdx : dx ≠ p := fun z => by
        have a := ob.own
        rw [z, ob.ins] at a
        cases a
      refine ⟨upd_same, by rw [upd_ne hdx]; exact ob.own, by rw [List.map_append, List.map_append, ob.nm]; rfl, fun j d y h1 h2 => ?_, ob.dis, ob.np, fun j a m => by rw [List.length_append]; have := ob.out j a m; omega, ob.F_⟩
      rw [List.map_append] at h1 h2
      by_cases hj : j < fs.length
      · rw [List.getElem?_append_left (by rw [List.length_map]; exact hj)] at h1
        rw [List.getElem?_append_left (by rw [List.length_map, ← hlen]; exact hj)] at h2
        exact (ob.fd j d y h1 h2).mono st fun a m => upd_ne fun z => (ob.np j).1 (by rw [← z]; exact m)
      · rw [List.getElem?_append_right (by rw [List.length_map]; omega)] at h1
        rw [List.getElem?_append_right (by rw [List.length_map, ← hlen]; omega)] at h2
        rw [List.length_map] at h1 h2
        have e0 : j - fs.length = 0 := by
          have := (List.getElem?_eq_some_iff.mp h1).1
          have : j - fs.length < 1 := this
          omega
        rw [e0] at h1
        rw [← hlen, e0] at h2
        cases h1
        cases h2
        exact ⟨r.mono st, fun a m => hj (ob.out j a m)⟩
    refine c.nx _ _ _ _ hk ⟨S1.good.upd nB, S1.sub, by rw [List.length_set, S1.len], fun j e u h1 h2 => ?_, fun j a m => by rw [List.length_set]; exact S1.out j a m, S1.dis, S1.disX, fun a m => ?_, fun t m => (S1.tmp t m).mono st⟩ (q.trans S1.good ⟨fun a o hh _ nf => by rw [upd_ne fun z => nf i (by rw [z]; exact hFp)]; exact hh, fun j a m => .inl ⟨j, m⟩, fun a o hh => ?_, fun j e h1 hp => ?_, List.length_set ..⟩)
    · rw [List.getElem?_set] at h1
      by_cases hij : i = j
      · rw [if_pos hij, if_pos hi] at h1
        cases h1
        rw [← hij, hu] at h2
        cases h2
        rw [← hij]
        exact ⟨p, dx, _, Fi, rfl, ob2⟩
      · rw [if_neg hij] at h1
        exact (S1.ent j e u h1 h2).mono st fun a m => upd_ne fun z => hij (S1.dis i j a (by rw [z]; exact hFp) m)
    · obtain ⟨o, z⟩ := S1.hasX a m
      exact ⟨o, by rw [upd_ne fun w => S1.disX i p hFp (by rw [← w]; exact m)]; exact z⟩
    · by_cases z : a = p
      · rw [z, upd_same]
        exact ⟨_, rfl⟩
      · exact ⟨o, by rw [upd_ne z]; exact hh⟩
    · by_cases z : i = j
      · refine ⟨rfl, _, by rw [← z, List.getElem?_set_self hi], rfl⟩
      · exact ⟨rfl, e, by rw [List.getElem?_set_ne z]; exact h1, hp⟩
  · exact g.elim
theorem frz_rp {N N' : Ad} {H : Hp} {C : Addr} {fs : List (Str × Fd)} {F : Ad} {p dx : Addr} {us : List (Str × V)} {Fi : Nat → Ad} (ob : ObjAt N K H C fs F p dx us Fi) (hN : ∀ a, ¬ N a → ¬ N' a) (hF : ∀ a, F a → ¬ N' a) (hnd : (fs.all fun p => p.2.nd) = true) : Rp N' K H (.obj C (frzF fs)) (.ref p) := by
  have st : Stp N H N' H := fun a o h n => ⟨hN a n, h⟩
  refine .obj ⟨hF p ((ob.F_ p).mpr (.inl rfl)), ob.ins⟩ ?_ fun i x v h1 h2 => ?_
  · unfold frzF
    rw [List.map_map, ← ob.nm]
    rfl
  · unfold frzF at h1
    rw [List.map_map, List.getElem?_map] at h1
    obtain ⟨d, hd, rfl⟩ := Option.map_eq_some_iff.mp h1
    have r := ob.fd i d.2 v (by rw [List.getElem?_map, hd]; rfl) h2
    show Rp N' K H d.2.val v
    cases e : d.2 with
    | v x =>
      rw [e] at r
      exact r.1.mono st
    | l xs =>
      rw [e] at r
      obtain ⟨q, vs, rfl, hq, rr, f⟩ := r
      exact .lst' ⟨hF q ((ob.F_ q).mpr (.inr (.inr ⟨i, (f q).mpr rfl⟩))), hq⟩ (rr.mono st)
    | d kvs =>
      have z := List.all_eq_true.mp hnd d (List.mem_of_getElem? hd)
      rw [show d.2 = .d kvs from e] at z
      cases z
theorem se_make {C : Addr} {n : Nat} {f : FSp} {E : XK} (hr : SA B K W tr lr) : SE B K W (tMake C (FnL0 B K n f) [] E tr) (lMake C n f lr) := by
  intro X Λ σ H τ F k Q S h c
  refine hr X Λ σ H τ F _ _ S h (c.bk (τ' := τ) fun xs vs Λ1 H1 F1 g S1 r1 q1 => ?_)
  obtain ⟨hl, g⟩ := g
  intro x dx hx hd ne
  rw [List.append_nil]
  have hx2 : upd H1 dx (.own x) x = none := by rw [upd_ne (fun z => ne z.symm)]; exact hx
  have k1 : ∀ a o, H1 a = some o → upd (upd H1 dx (.own x)) x (.ins C dx []) a = some o := fun a o hh => by
    rw [upd_ne (ne_of_none hh hx), upd_ne (ne_of_none hh hd)]
    exact hh
  have st : Stp (Nn X F1) H1 (Nn X F1) (upd (upd H1 dx (.own x)) x (.ins C dx [])) := fun a o hh z => ⟨z, k1 a o hh⟩
  have nx := S1.free hx
  have nd := S1.free hd
  have nxB : x ∉ B := fun m => nx (.inl (S1.sub x m))
  have ndB : dx ∉ B := fun m => nd (.inl (S1.sub dx m))
  let F0 : Fp := fun i a => i = 0 ∧ (a = x ∨ a = dx)
  have st0 : Stp (Nn X F1) H1 (Nn (Nn X F1) F0) (upd (upd H1 dx (.own x)) x (.ins C dx [])) := fun a o hh z => ⟨fun w => by
    rcases w with w | ⟨i, _, w | w⟩
    · exact z w
    · exact ne_of_none hh hx w
    · exact ne_of_none hh hd w, k1 a o hh⟩
  have hF0 : ∀ a, F0 0 a ↔ a = x ∨ a = dx ∨ ∃ i : Nat, (fun (_ : Nat) (_ : Addr) => False) i a := fun a => by
    constructor
    · intro z
      exact z.2.elim .inl fun z => .inr (.inl z)
    · intro z
      rcases z with z | z | ⟨i, z⟩
      · exact ⟨rfl, .inl z⟩
      · exact ⟨rfl, .inr z⟩
      · exact z.elim
  have ob0 : ObjAt (Nn (Nn X F1) F0) K (upd (upd H1 dx (.own x)) x (.ins C dx [])) C [] (F0 0) x dx [] (fun _ _ => False) :=
    { ins := upd_same, own := (by rw [upd_ne ne, upd_same]), nm := rfl, fd := (fun i d v h1 _ => by cases h1), dis := (fun i j a z _ => z.elim), np := (fun i => ⟨fun z => z, fun z => z⟩), out := (fun i a z => z.elim), F_ := hF0 }
  have S0 : Sr B K (Nn X F1) (.o C [] :: xs.map .v) ((V.ref x :: vs).map some) (upd (upd H1 dx (.own x)) x (.ins C dx [])) [] F0 := by
    refine ⟨(S1.good.upd ndB).upd nxB, fun a m => .inl (S1.sub a m), by rw [List.length_cons, List.length_map, List.length_map, List.length_cons, r1.len], fun i e u h1 h2 => ?_, fun i a z => by rw [z.1, List.length_cons]; omega, fun i j a z z' => by rw [z.1, z'.1], fun i a z w => ?_, fun a m => ?_, fun t m => by cases m⟩
    · cases i with
      | zero =>
        cases h1
        cases h2
        exact ⟨x, dx, [], _, rfl, ob0⟩
      | succ i =>
        have h1 : (xs.map Ent.v)[i]? = some e := h1
        have h2 : (vs.map some)[i]? = some u := h2
        rw [List.getElem?_map] at h1 h2
        obtain ⟨y, hy, rfl⟩ := Option.map_eq_some_iff.mp h1
        obtain ⟨v, hv, rfl⟩ := Option.map_eq_some_iff.mp h2
        exact ⟨⟨v, rfl, (r1.get i y v hy hv).mono st0⟩, fun a z => by cases z.1⟩
    · rcases z.2 with z | z
      · exact nx (by rw [← z]; exact w)
      · exact nd (by rw [← z]; exact w)
    · obtain ⟨o, hh⟩ := S1.has m
      exact ⟨o, k1 a o hh⟩
  refine ⟨Nn X F1, _, F0, _, by rw [List.length_cons, List.length_map]; exact hl, S0, g, fun y v es' H' F' hk S' rx q' => ?_, fun C nm y es' z => by dsimp only at z⟩
  split at hk
  · rename_i C' fs es e1
    obtain ⟨rfl, hv, hk⟩ := hk
    obtain ⟨hv, hnd⟩ := Bool.and_eq_true_iff.mp hv
    have e2 := Rs.ok.inj e1
    obtain ⟨rfl, rfl⟩ := e2
    obtain ⟨S2, q2⟩ := S1.heap S'.good fun a o hh nb => q'.keep a o (k1 a o hh) nb fun i z => by
      rcases z.2 with z | z
      · exact ne_of_none hh hx z
      · exact ne_of_none hh hd z
    obtain ⟨u, hu, p, dx', us, Fi, rfl, ob⟩ := S'.slot (i := 0) rfl
    cases hu
    refine ⟨rx.non_inv, c.ok _ _ _ _ _ hk S2 (frz_rp ob (fun a n z => n (.inl z)) (fun a m => S'.disX 0 a m) hnd) (q1.trans S1.good q2)⟩
  · exact hk.elim
theorem se_meth {C : Addr} {m : Str} {n : Nat} {f : FSp} {E : XK} (h0 : SE B K W te le) (hr : SA B K W tr lr) : SE B K W (tMeth C m (FnL0 B K n f) [] E te tr) (lMeth C m n f le lr) := by
  intro X Λ σ H τ F k Q S h c
  refine h0 X Λ σ H τ F _ _ S h (c.bk (τ' := τ) fun x v Λ1 H1 F1 h1 S1 r1 q1 => ?_)
  split at h1
  · rename_i C' fs
    obtain ⟨rfl, hm, h1⟩ := h1
    obtain ⟨p, dx, us, rfl, hp, hnm, hfd⟩ := id r1.obj_inv
    refine ⟨p, dx, us, rfl, hp, lookup_none hnm hm, ?_⟩
    refine hr X Λ1 σ H1 ((.obj C' fs, .ref p) :: τ) F1 _ _ (S1.push r1) h1 ((c.st S1 q1).bk (τ' := (.obj C' fs, .ref p) :: τ) fun xs vs Λ2 H2 F2 g S2 r2 q2 => ?_)
    obtain ⟨hl, g⟩ := g
    obtain ⟨rx, S2'⟩ := S2.pop
    rw [List.append_nil]
    refine ⟨Nn X F2, _, Fp.no, _, by rw [List.length_map, List.length_cons]; exact hl, args_sr S2' (.cons rx r2), g, fun x v es' H' F' hk S' rx q' => ?_, fun C nm x es' z => z⟩
    have e := nn_empty (X := Nn X F2) (S'.allV hk.1)
    rw [e] at rx
    obtain ⟨S3, q3⟩ := S2'.heap S'.good fun a o h n => q'.keep a o h n fun _ z => z
    exact c.ok _ _ _ _ _ hk.2 S3 rx ((q1.trans S1.good q2).trans S2'.good q3)
  · exact h1.elim
end
end Lg
set_option Elab.async false
set_option linter.all false
set_option maxRecDepth 100000
set_option maxHeartbeats 2000000
/-! comprehensions of two clauses -/
namespace Lg
open PySem PySem.Spec PyProof.Rows L2 Cw
def lLc2 (li : LA) (lg : LV → Env → (Env → Prop) → Prop) (lt : LT) (li1 : LA) (lg1 : LV → Env → (Env → Prop) → Prop) (lt1 : LT) (le : LE) (vs vs1 : List Nat) : LA := fun Λ k => li Λ (bk k fun xs Λ1 => ∃ I : Nat → List LV → Env → Prop, I 0 [] Λ1 ∧
  (∀ (i : Nat) x acc Λ2, xs[i]? = some x → I i acc Λ2 → noAt Λ2 vs = true ∧ lg x Λ2 fun Λ3 => lt Λ3 (okk fun b Λ4 => Br b
    (li1 Λ4 (okk fun ys Λ5 => ∃ J : Nat → List LV → Env → Prop, J 0 acc Λ5 ∧
      (∀ (j : Nat) y acc2 Λ6, ys[j]? = some y → J j acc2 Λ6 → noAt Λ6 vs1 = true ∧ lg1 y Λ6 fun Λ7 => lt1 Λ7 (okk fun b Λ8 => Br b (le Λ8 (okk fun z Λ9 => acc2.length < 100000 ∧ J (j + 1) (acc2 ++ [z]) (wipeE Λ9 vs1))) (J (j + 1) acc2 (wipeE Λ8 vs1)))) ∧
      ∀ acc2 Λ6, J ys.length acc2 Λ6 → I (i + 1) acc2 (wipeE Λ6 vs)))
    (I (i + 1) acc (wipeE Λ4 vs)))) ∧ ∀ acc Λ2, I xs.length acc Λ2 → k (.ok acc Λ2))
section
variable {B : Fm} {K : PySem.W.Frag} {W : WX} {te : TE} {le : LE} {tt tt1 : TT} {lt lt1 : LT} {wi wi1 : TI} {li li1 : LA} {g g1 : TG} {lg lg1 : LV → Env → (Env → Prop) → Prop}
/-- a heap without what stands at D -/
def dl (D : Addr) (H : Hp) : Hp := fun a => if a = D then none else H a
theorem dl_ne {D a : Addr} {H : Hp} (h : a ≠ D) : dl D H a = H a := if_neg h
theorem dl_self {D : Addr} {H : Hp} : dl D H D = none := if_pos rfl
theorem dl_some {D a : Addr} {H : Hp} {o : HO} (h : dl D H a = some o) : a ≠ D ∧ H a = some o := by
  by_cases z : a = D
  · rw [z, dl_self] at h
    cases h
  · rw [dl_ne z] at h
    exact ⟨z, h⟩
theorem dl_upd {D : Addr} {H : Hp} {o : HO} : dl D (upd H D o) = dl D H := by
  funext a
  by_cases z : a = D
  · rw [z, dl_self, dl_self]
  · rw [dl_ne z, dl_ne z, upd_ne z]
theorem dl_eq {D : Addr} {H : Hp} (h : H D = none) : dl D H = H := by
  funext a
  by_cases z : a = D
  · rw [z, dl_self, h]
  · rw [dl_ne z]
theorem Kh.dl {H H' : Hp} {F F' : Fp} (D : Addr) (q : Kh B H F H' F') : Kh B (dl D H) F (dl D H') F' where
  keep := fun a o h nb nf => by
    obtain ⟨z, h⟩ := dl_some h
    rw [dl_ne z]
    exact q.keep a o h nb nf
  own := fun i a z => (q.own i a z).imp id fun e => by
    by_cases w : a = D
    · rw [w, dl_self]
    · rw [dl_ne w, e]
  all := fun a o h => by
    obtain ⟨z, h⟩ := dl_some h
    obtain ⟨o', e⟩ := q.all a o h
    exact ⟨o', by rw [dl_ne z]; exact e⟩
theorem Kh.ofdl {H H' : Hp} {F F' : Fp} {D : Addr} (q : Kh B (Lg.dl D H) F (Lg.dl D H') F') (h0 : H D = none) : Kh B H F H' F' where
  keep := fun a o h nb nf => (dl_some (q.keep a o (by rw [dl_ne (ne_of_none h h0)]; exact h) nb nf)).2
  own := fun i a z => (q.own i a z).imp id fun e => by
    rw [dl_eq h0] at e
    exact e
  all := fun a o h => by
    obtain ⟨o', e⟩ := q.all a o (by rw [dl_eq h0]; exact h)
    exact ⟨o', (dl_some e).2⟩
theorem Kh.stpD {X : Ad} {H H' : Hp} {F F' : Fp} {D : Addr} (sub : ∀ a, a ∈ B → X a) (hD : X D) (q : Kh B (Lg.dl D H) F (Lg.dl D H') F') : Stp (Nn X F) H (Nn X F') H' := fun a o h n => by
  have z : a ≠ D := fun z => n (.inl (by rw [z]; exact hD))
  obtain ⟨n', e⟩ := q.stp sub a o (by rw [dl_ne z]; exact h) n
  exact ⟨n', (dl_some e).2⟩
/-- one turn of a comprehension's target: to the wiped slots and back -/
theorem lc_turn {js vs : List Nat} (hj : ∀ j ∈ js, j ∈ vs) (hg : SG B K js g lg) {X : Ad} {Λ' : Env} {σ : L2.St} {H : Hp} {τ : List (LV × V)} {F' : Fp} {D : Addr} {av : List V} {acc : List LV} {x : LV} {v : V} {lk : Env → Prop} {Qg : L2.St → Hp → Prop}
    (S : Sr B K (fun a => X a ∨ a = D) Λ' σ H τ F') (hno : noAt Λ' vs = true) (nB : D ∉ B) (hD : H D = some (.lst av)) (rr : Rps (Nn (fun a => X a ∨ a = D) F') K H acc av) (r : Rp (Nn (fun a => X a ∨ a = D) F') K H x v) (hl : lg x Λ' lk)
    (hq : ∀ Λ4 σ4 H4 F4, lk Λ4 → Sr B K (fun a => X a ∨ a = D) Λ4 σ4 H4 τ F4 → wipe σ4 vs = wipe σ vs → H4 D = some (.lst av) → Rps (Nn (fun a => X a ∨ a = D) F4) K H4 acc av →
      (∀ Λx Hx Fx (av2 : List V) (acc2 : List LV) τ2, Sr B K (fun a => X a ∨ a = D) Λx σ4 Hx τ2 Fx → Kh B (dl D H4) F4 (dl D Hx) Fx ∧ (∀ (j : Nat) (e : Ent), Λ4[j]? = some e → e.pin = true → ∃ e' : Ent, Λx[j]? = some e' ∧ e'.pin = true) ∧ Λx.length = Λ4.length → Hx D = some (.lst av2) → Rps (Nn (fun a => X a ∨ a = D) Fx) K Hx acc2 av2 →
        ∃ F6, Sr B K (fun a => X a ∨ a = D) (wipeE Λx vs) σ Hx τ2 F6 ∧ (Kh B (dl D H) F' (dl D Hx) F6 ∧ (∀ (j : Nat) (e : Ent), Λ'[j]? = some e → e.pin = true → ∃ e' : Ent, (wipeE Λx vs)[j]? = some e' ∧ e'.pin = true) ∧ (wipeE Λx vs).length = Λ'.length) ∧ Rps (Nn (fun a => X a ∨ a = D) F6) K Hx acc2 av2) → Qg σ4 H4) : g v (wipe σ vs) H Qg := by
  obtain ⟨Fw, Sw, fw, stw⟩ := S.forget (Λ' := Λ') (σ' := wipe σ vs) rfl (wipe_length ..) (fun j e hje => by
    by_cases hm : j ∈ vs
    · rw [no_at hno hm] at hje
      exact .inl (Option.some.inj hje).symm
    · exact .inr ⟨hje, by rw [wipe_get, if_neg hm]⟩)
  refine hg _ Λ' (wipe σ vs) H τ Fw x v _ _ Sw (r.mono stw) hl fun Λ4 σ4 H4 F4 g4 S4 q4 x4 => ?_
  have k0 : Kh B H F' H Fw := ⟨fun _ _ h _ _ => h, fun i a z => .inl ⟨i, fw i a z⟩, fun _ o h => ⟨o, h⟩⟩
  have k4 : Kh B H F' H4 F4 := k0.trans q4.kh
  refine hq Λ4 σ4 H4 F4 g4 S4 (wipe_eq x4 hj) (k4.keep D _ hD nB fun j m => S.disX j D m (.inr rfl)) (rr.mono (k4.stp S.sub)) fun Λx Hx Fx av2 acc2 τ2 Sx qx hDx rx => ?_
  obtain ⟨kx, px, lx⟩ := qx
  obtain ⟨F6, S6, f6, st6⟩ := Sx.forget (Λ' := wipeE Λx vs) (σ' := σ) (wipeE_len ..) (by rw [x4.1, wipe_length]) (fun j e hje => by
    rw [wipeE_get] at hje
    by_cases hm : j ∈ vs
    · rw [if_pos hm] at hje
      obtain ⟨_, _, z⟩ := Option.map_eq_some_iff.mp hje
      exact .inl z.symm
    · rw [if_neg hm] at hje
      exact .inr ⟨hje, by rw [x4.2 j fun z => hm (hj j z), wipe_get, if_neg hm]⟩)
  refine ⟨F6, S6, ⟨((k4.dl D).trans kx).sub f6, fun j e h1 hp => ?_, by rw [wipeE_len, lx, q4.ln]⟩, rx.mono st6⟩
  have hm : j ∉ vs := fun m => by
    rw [no_at hno m] at h1
    cases h1
    cases hp
  obtain ⟨_, e2, h3, p3⟩ := q4.pin j e h1 hp
  obtain ⟨e3, h4, p4⟩ := px j e2 h3 p3
  exact ⟨e3, by rw [wipeE_get, if_neg hm]; exact h4, p4⟩
abbrev Kp (B : Fm) (Λ : Env) (H : Hp) (F : Fp) (Λ' : Env) (H' : Hp) (F' : Fp) : Prop := Kh B H F H' F' ∧ (∀ (j : Nat) (e : Ent), Λ[j]? = some e → e.pin = true → ∃ e' : Ent, Λ'[j]? = some e' ∧ e'.pin = true) ∧ Λ'.length = Λ.length
theorem Kp.trans {Λ Λ1 Λ2 : Env} {H H1 H2 : Hp} {F F1 F2 : Fp} (a : Kp B Λ H F Λ1 H1 F1) (b : Kp B Λ1 H1 F1 Λ2 H2 F2) : Kp B Λ H F Λ2 H2 F2 := ⟨a.1.trans b.1, fun j e h p => by
  obtain ⟨e', h', p'⟩ := a.2.1 j e h p
  exact b.2.1 j e' h' p', b.2.2.trans a.2.2⟩
theorem Kq.kp {Λ Λ' : Env} {σ σ' : L2.St} {H H' : Hp} {F F' : Fp} (q : Kq B Λ σ H F Λ' σ' H' F') : Kp B Λ H F Λ' H' F' := ⟨q.kh, fun j e h p => (q.pin j e h p).2, q.ln⟩
theorem Kp.dl {Λ Λ' : Env} {H H' : Hp} {F F' : Fp} (D : Addr) (q : Kp B Λ H F Λ' H' F') : Kp B Λ (Lg.dl D H) F Λ' (Lg.dl D H') F' := ⟨q.1.dl D, q.2⟩
theorem Kp.ofdl {Λ Λ' : Env} {H H' : Hp} {F F' : Fp} {D : Addr} (q : Kp B Λ (Lg.dl D H) F Λ' (Lg.dl D H') F') (h : H D = none) : Kp B Λ H F Λ' H' F' := ⟨q.1.ofdl h, q.2⟩
theorem Kp.kq {Λ Λ' : Env} {σ : L2.St} {H H' : Hp} {F F' : Fp} (q : Kp B Λ H F Λ' H' F') : Kq B Λ σ H F Λ' σ H' F' := ⟨q.1.keep, q.1.own, q.1.all, fun j e h p => ⟨rfl, q.2.1 j e h p⟩, q.2.2⟩
theorem sn_lc2 {js js1 vs vs1 : List Nat} (hj : ∀ j ∈ js, j ∈ vs) (hj1 : ∀ j ∈ js1, j ∈ vs1) (hi : SI B K W wi li) (hg : SG B K js g lg) (ht : ST B K W0 tt lt) (hi1 : SI B K W0 wi1 li1) (hg1 : SG B K js1 g1 lg1) (ht1 : ST B K W0 tt1 lt1) (he : SE B K W0 te le) :
    SN B K W (tLc2 wi g tt wi1 g1 tt1 te vs vs1) (lLc2 li lg lt li1 lg1 lt1 le vs vs1) := by
  intro X Λ σ H τ F k Q S h c
  refine hi X Λ σ H τ F _ _ S h ⟨fun xs J τw Λ1 H1 F1 g1' S1 q1 wk => ?_, c.ex⟩
  dsimp only [bk] at g1'
  obtain ⟨I, i0, iS, iE⟩ := g1'
  intro D hD
  obtain ⟨G, Y, wa, hG, hY⟩ := wk.ex
  have nN := S1.free hD
  have nX : ¬ X D := fun z => nN (.inl z)
  have nB : D ∉ B := fun m => nX (S.sub D m)
  have h0D := q1.back hD
  obtain ⟨SD, qD, _⟩ := S1.addX (o := .lst []) hD
  let XD : Ad := fun a => X a ∨ a = D
  have hXD : XD D := .inr rfl
  let Pv : Nat → Hp → Prop := fun i H' => ∃ Λ' F' acc av, Sr B K XD Λ' σ H' (τw ++ τ) F' ∧ Kp B Λ (dl D H) F Λ' (dl D H') F' ∧ H' D = some (.lst av) ∧ Rps (Nn XD F') K H' acc av ∧ I i acc Λ'
  refine ⟨fun i m H' => m = xs.length - i ∧ i ≤ xs.length ∧ Pv i H', ⟨xs.length, by simp, Nat.zero_le _, Λ1, F1, [], [], SD, (q1.trans S1.good qD).kp.dl D, upd_same, .nil, i0⟩, ?_⟩
  rintro i m Ha ⟨rfl, hil, Λ', F', acc, av, S', q', hDa, rr, g'⟩
  by_cases hlt : i < xs.length
  · refine .inr ⟨wa.goes i Ha hlt (hG _ _ _ _ _ _ S'), Pv (i + 1), fun H' p' => ⟨xs.length - (i + 1), by omega, rfl, hlt, p'⟩, fun v Hb yv => ?_⟩
    obtain ⟨x, hx, S3, q3, r3⟩ := hY i v Ha Hb _ Λ' σ τ F' hlt S' (wa.yields i Ha v Hb hlt (hG _ _ _ _ _ _ S') yv)
    obtain ⟨hno, g'⟩ := iS i x acc Λ' hx g'
    have hDb : Hb D = some (.lst av) := q3.keep D _ hDa nB fun j m => S'.disX j D m (.inr rfl)
    refine lc_turn hj hg S3 hno nB hDb (rr.mono (q3.kh.stp S'.sub)) r3 g' fun Λ4 σ4 H4 F4 g4 S4 w4 d4 rr4 back => ⟨w4, ?_⟩
    refine ht _ Λ4 σ4 H4 (τw ++ τ) F4 _ _ S4 g4 ⟨fun b b' Λ5 H5 F5 g5 S5 r5 q5 => ?_, fun C nm x u d Λ' H' F' z => z.elim⟩
    subst r5
    dsimp only [okk] at g5
    have d5 : H5 D = some (.lst av) := q5.keep D _ d4 nB fun j m => S4.disX j D m (.inr rfl)
    have rr5 := rr4.mono (q5.kh.stp S4.sub)
    cases b with
    | false =>
      rw [if_neg Bool.false_ne_true]
      obtain ⟨F6, S6, q6, rr6⟩ := back Λ5 H5 F5 av acc (τw ++ τ) S5 (q5.kp.dl D) d5 rr5
      exact ⟨_, F6, acc, av, S6, (q'.trans (q3.kp.dl D)).trans q6, d5, rr6, g5.2 rfl⟩
    | true =>
      rw [if_pos rfl]
      refine hi1 _ Λ5 σ4 H5 (τw ++ τ) F5 _ _ S5 (g5.1 rfl) ⟨fun ys J1 τv Λ6 H6 F6 g6 S6 q6 wk1 => ?_, fun C nm x u d Λ' H' F' z => z.elim⟩
      dsimp only [okk] at g6
      obtain ⟨J, j0, jS, jE⟩ := g6
      obtain ⟨G1, Y1, wa1, hG1, hY1⟩ := wk1.ex
      have d6 : H6 D = some (.lst av) := q6.keep D _ d5 nB fun j m => S5.disX j D m (.inr rfl)
      have rr6 := rr5.mono (q6.kh.stp S5.sub)
      let Pw : Nat → Hp → Prop := fun j H' => ∃ Λx Fx acc2 av2, Sr B K XD Λx σ4 H' (τv ++ (τw ++ τ)) Fx ∧ Kp B Λ4 (dl D H4) F4 Λx (dl D H') Fx ∧ H' D = some (.lst av2) ∧ Rps (Nn XD Fx) K H' acc2 av2 ∧ J j acc2 Λx
      refine ⟨fun j m H' => m = ys.length - j ∧ j ≤ ys.length ∧ Pw j H', ⟨ys.length, by simp, Nat.zero_le _, Λ6, F6, acc, av, S6, (q5.kp.trans q6.kp).dl D, d6, rr6, j0⟩, ?_⟩
      rintro j m Hc ⟨rfl, hjl, Λx, Fx, acc2, av2, Sx, qx, dx, rx, gx⟩
      by_cases hjt : j < ys.length
      · refine .inr ⟨wa1.goes j Hc hjt (hG1 _ _ _ _ _ _ Sx), Pw (j + 1), fun H' p' => ⟨ys.length - (j + 1), by omega, rfl, hjt, p'⟩, fun v2 Hd yv2 => ?_⟩
        obtain ⟨y, hy, S7, q7, r7⟩ := hY1 j v2 Hc Hd _ Λx σ4 (τw ++ τ) Fx hjt Sx (wa1.yields j Hc v2 Hd hjt (hG1 _ _ _ _ _ _ Sx) yv2)
        obtain ⟨hno1, gx⟩ := jS j y acc2 Λx hy gx
        have hDd : Hd D = some (.lst av2) := q7.keep D _ dx nB fun j m => Sx.disX j D m (.inr rfl)
        refine lc_turn hj1 hg1 S7 hno1 nB hDd (rx.mono (q7.kh.stp Sx.sub)) r7 gx fun Λ8 σ8 H8 F8 g8 S8 w8 d8 rr8 back1 => ⟨w8, ?_⟩
        refine ht1 _ Λ8 σ8 H8 (τv ++ (τw ++ τ)) F8 _ _ S8 g8 ⟨fun b b' Λ9 H9 F9 g9 S9 r9 q9 => ?_, fun C nm x u d Λ' H' F' z => z.elim⟩
        subst r9
        dsimp only [okk] at g9
        have d9 : H9 D = some (.lst av2) := q9.keep D _ d8 nB fun j m => S8.disX j D m (.inr rfl)
        have rr9 := rr8.mono (q9.kh.stp S8.sub)
        cases b with
        | false =>
          rw [if_neg Bool.false_ne_true]
          obtain ⟨Fe, Se, qe, re⟩ := back1 Λ9 H9 F9 av2 acc2 (τv ++ (τw ++ τ)) S9 (q9.kp.dl D) d9 rr9
          exact ⟨_, Fe, acc2, av2, Se, (qx.trans (q7.kp.dl D)).trans qe, d9, re, g9.2 rfl⟩
        | true =>
          rw [if_pos rfl]
          refine he _ Λ9 σ8 H9 (τv ++ (τw ++ τ)) F9 _ _ S9 (g9.1 rfl) ⟨fun z u Λa Hz Fa ga Sa ra qa => ?_, fun C nm x u d Λ' H' F' z => z.elim⟩
          dsimp only [okk] at ga
          have da : Hz D = some (.lst av2) := qa.keep D _ d9 nB fun j m => S9.disX j D m (.inr rfl)
          have rra := rr9.mono (qa.kh.stp S9.sub)
          refine ⟨av2, da, Nat.lt_of_le_of_lt (Nat.le_of_eq rra.len.symm) (Nat.lt_trans ga.1 (by decide)), ?_⟩
          obtain ⟨Sb, stb'⟩ := Sa.updX (p := D) (o := .lst (av2 ++ [u])) (.inr rfl) nB
          obtain ⟨Fe, Se, qe, re⟩ := back1 Λa (upd Hz D (.lst (av2 ++ [u]))) Fa (av2 ++ [u]) (acc2 ++ [z]) (τv ++ (τw ++ τ)) Sb (by rw [dl_upd]; exact (q9.kp.trans qa.kp).dl D) upd_same ((rra.append (.one ra)).mono stb')
          exact ⟨_, Fe, acc2 ++ [z], av2 ++ [u], Se, (qx.trans (q7.kp.dl D)).trans qe, upd_same, re, ga.2⟩
      · have e : j = ys.length := by omega
        subst e
        refine .inl ⟨wa1.stops Hc (hG1 _ _ _ _ _ _ Sx), ?_⟩
        obtain ⟨Fe, Se, qe, re⟩ := back Λx Hc Fx av2 acc2 (τw ++ τ) (Sx.tmps fun t m => Sx.tmp t (List.mem_append_right _ m)) qx dx rx
        exact ⟨_, Fe, acc2, av2, Se, (q'.trans (q3.kp.dl D)).trans qe, dx, re, jE acc2 Λx gx⟩
  · have e : i = xs.length := by omega
    subst e
    refine .inl ⟨wa.stops Ha (hG _ _ _ _ _ _ S'), ?_⟩
    exact c.ok acc D Λ' Ha F' (iE _ _ g') ⟨⟨av, hDa, rr⟩, S'.tmps fun t m => S'.tmp t (List.mem_append_right _ m), nX, S.sub⟩ h0D (q'.ofdl h0D).kq
end
end Lg
set_option Elab.async false
set_option linter.all false
set_option maxRecDepth 100000
set_option maxHeartbeats 2000000
/-! classes as they stand in a text; tuples put together; membership; texts -/
namespace Lg
open PySem PySem.Spec PyProof.Rows L2 Cw
structure MakeC (P : Program) (w : World) (K : PySem.W.Frag) (mg : Str → Option Value) (base : Heap) (x : Str) (C : Addr) (k : Nat) (ps : List Str) (sp : Sp) : Prop where
  out : ∃ (f : Addr) (fd : FuncData), Mk K C f ∧ FnOk P w K mg base CX0 k f fd ps sp ∧ mg x = some (.ref C) ∧ Binds K fd ps []
theorem pe_mkN {X : Cx} {x : Str} {C : Addr} {k : Nat} {ps : List Str} {sp : Sp} {p pos : Pos} {e : Expr} {es : List Expr} {t : TA} (M : MakeC X.prog X.w X.K X.mg X.base x C k ps sp) (hr : Room (k + 1) X.A) (hg : Gl X x) (ha : PA X (e :: es) t)
    (hdb : (x == ("__debug__" : Str)) = false := by decide) (he : starEach (e :: es) X.env = (false, eval e X.env) :: starEach es X.env := by rfl) (hpl : (backTo pos (starEach es X.env)).any (·.1) = false := by rfl) :
    PE X (.Call (.Name x p) (e :: es) [] pos) (tMake C sp [] E0 t) := by
  obtain ⟨f, fd, Mf, F, hm, hb⟩ := M.out
  exact pe_make Mf F hr hg hm hb .nil pass0 ha hdb he hpl
structure MethC (P : Program) (w : World) (K : PySem.W.Frag) (mg : Str → Option Value) (base : Heap) (C : Addr) (m : Str) (k : Nat) (ps : List Str) (sp : Sp) : Prop where
  out : ∃ (f : Addr) (fd : FuncData), Cls K C ∧ Meth K C m f ∧ FnOk P w K mg base CX0 k f fd ps sp ∧ Binds K fd ps []
theorem pe_methN {X : Cx} {C : Addr} {m : Str} {k : Nat} {ps : List Str} {sp : Sp} {o e : Expr} {es : List Expr} {ta : TE} {t : TA} {apos pos : Pos} {pl : Sem Bool} (M : MethC X.prog X.w X.K X.mg X.base C m k ps sp) (he : PE X o ta) (hr : Room k X.A) (ha : PA X (e :: es) t)
    (hst : starEach (e :: es) X.env = (false, eval e X.env) :: starEach es X.env := by rfl) (hpl : (backTo pos (starEach es X.env)).any (·.1) = false := by rfl)
    (ht : eval (.Call (.Attribute o m apos) (e :: es) [] pos) X.env = (do
      let ov ← eval o X.env
      standAt apos.atName
      let (f, first) ← holding [ov] (getMethod ov m pl)
      callWith pos f first (backTo pos (starEach (e :: es) X.env)) (backToKw pos (keywordEach [] X.env))) := by rfl) :
    PE X (.Call (.Attribute o m apos) (e :: es) [] pos) (tMeth C m sp [] E0 ta t) := by
  obtain ⟨f, fd, c, hm, F, hb⟩ := M.out
  exact pe_meth he c hm F hr hb .nil pass0 ha hst hpl ht
section
variable {B : Fm} {K : PySem.W.Frag} {W : WX} {w : World}
/-- t + u -/
def fCatT : F2 := fun x y k => match x, y with
  | .tup xs, .tup ys => xs.length + ys.length ≤ 100000 ∧ k (.tup (xs ++ ys))
  | _, _ => False
theorem rv_catT : RV2 B K (rCatA K) fCatT := by
  intro X Λ σ H τ F x y u v S rx ry k Q h q
  unfold fCatT at h
  split at h
  · rename_i xs ys
    obtain ⟨a, us, rfl, ha, ra⟩ := rx.tup_inv
    obtain ⟨b, vs, rfl, hb, rb⟩ := ry.tup_inv
    refine ⟨a, b, us, vs, rfl, rfl, ha.sq, hb.sq, Nat.le_trans (by rw [← ra.len, ← rb.len]; exact h.1) (by decide), fun e => ?_, fun _ e => ?_, fun _ _ p hp => ?_⟩
    · have : xs = [] := List.eq_nil_of_length_eq_zero (by rw [ra.len, e]; rfl)
      subst this
      exact q _ _ _ h.2 S (.tup' hb rb) Kq.refl
    · have : ys = [] := List.eq_nil_of_length_eq_zero (by rw [rb.len, e]; rfl)
      subst this
      refine q _ _ _ h.2 S ?_ Kq.refl
      rw [List.append_nil]
      exact .tup' ha ra
    · obtain ⟨S2, q2, n2⟩ := S.new (o := .tup (us ++ vs)) hp
      have st : Stp (Nn X F) H (Nn X F) (upd H p (.tup (us ++ vs))) := fun a o h n => ⟨n, by rw [upd_ne (ne_of_none h hp)]; exact h⟩
      exact q _ _ _ h.2 S2 (.tup' ⟨n2, upd_same⟩ ((ra.append rb).mono st)) q2
  · exact h.elim
theorem inV_int (i : Int) : ∀ ns : List Int, inV (.int i) (ns.map V.int) = decide (i ∈ ns)
  | [] => by simp [inV]
  | n :: r => by
    have ih := inV_int i r
    unfold inV at ih ⊢
    rw [List.map_cons, List.any_cons, ih]
    have e : eqV (.int n) (.int i) = decide (n = i) := by
      unfold eqV
      by_cases h : n = i
      · rw [h]
        simp
      · simp [h]
    rw [e]
    by_cases h : i = n
    · subst h
      simp
    · have h' : ¬ n = i := fun z => h z.symm
      rw [decide_eq_false h', Bool.false_or]
      by_cases hm : i ∈ r
      · rw [decide_eq_true hm, decide_eq_true (List.mem_cons_of_mem _ hm)]
      · rw [decide_eq_false hm, decide_eq_false fun z => (List.mem_cons.mp z).elim h hm]
theorem flat_ints (ns : List Int) : (ns.map V.int).all flatV = true := by
  rw [List.all_map]
  exact List.all_eq_true.mpr fun _ _ => rfl
/-- i in t, i not in t, t a tuple of ints -/
def fInT (n : Bool) : F2 := fun x y k => match x, y with
  | .int i, .tup xs => ∃ ns : List Int, xs = ilv ns ∧ k (.bl (xor n (decide (i ∈ ns))))
  | _, _ => False
theorem rv_inT {n : Bool} : RV2 B K (rIn K n) (fInT n) := by
  intro X Λ σ H τ F x y u v S rx ry k Q h q
  unfold fInT at h
  split at h
  · obtain ⟨ns, rfl, hk⟩ := h
    obtain ⟨b, vs, rfl, hb, rb⟩ := ry.tup_inv
    have e := rps_ilv rb
    subst e
    rw [rx.int_inv]
    refine ⟨b, _, rfl, .inr hb.sq, rfl, flat_ints ns, ?_⟩
    rw [inV_int]
    have := q _ _ _ hk S (.bl _) Kq.refl
    cases n with
    | true =>
      rw [Bool.true_xor] at this
      rw [if_pos rfl]
      exact this
    | false =>
      rw [Bool.false_xor] at this
      rw [if_neg Bool.false_ne_true]
      exact this
  · exact h.elim
/-- tuple(x) -/
def lTupOf (lr : LA) : LE := fun Λ k => lr Λ (bk k fun xs Λ1 => match xs with
  | [.lst ys] => k (.ok (.tup ys) Λ1)
  | [.tup ys] => k (.ok (.tup ys) Λ1)
  | _ => False)
theorem se_tupOf {tr : TA} {lr : LA} (hr : SA B K W tr lr) : SE B K W (tCB (rTupOf K) tr) (lTupOf lr) := by
  intro X Λ σ H τ F k Q S h c
  refine hr X Λ σ H τ F _ _ S h (c.bk (τ' := τ) fun xs us Λ1 H1 F1 g1 S1 r1 q1 => ?_)
  split at g1
  · obtain ⟨v, rfl, rx⟩ := r1.one_inv
    obtain ⟨p, vs, rfl, hp, r⟩ := rx.lst_inv
    refine ⟨p, vs, rfl, .inl ⟨hp.sq, fun p2 hp2 => ?_⟩⟩
    obtain ⟨S2, q2, n2⟩ := S1.new (o := .tup vs) hp2
    have st : Stp (Nn X F1) H1 (Nn X F1) (upd H1 p2 (.tup vs)) := fun a o h n => ⟨n, by rw [upd_ne (ne_of_none h hp2)]; exact h⟩
    exact c.ok _ _ _ _ _ g1 S2 (.tup' ⟨n2, upd_same⟩ (r.mono st)) (q1.trans S1.good q2)
  · obtain ⟨v, rfl, rx⟩ := r1.one_inv
    obtain ⟨p, vs, rfl, hp, r⟩ := rx.tup_inv
    exact ⟨p, vs, rfl, .inr ⟨hp.sq, c.ok _ _ _ _ _ g1 S1 (.tup' hp r) q1⟩⟩
  · exact g1.elim
/-- str(i) -/
def fStr : FA := fun xs k => match xs with
  | [.int i] => i.natAbs.log2 < 1920 ∧ ∃ l : List Nat, V.str (toString i) = sv l ∧ k (.str l)
  | _ => False
theorem rva_str : RVA B K (fun xs H Q => ∃ i : Int, xs = [.int i] ∧ i.natAbs.log2 < 1920 ∧ Q (.str (toString i)) H) fStr := by
  intro X Λ σ H τ F xs us S r k Q h q
  unfold fStr at h
  split at h
  · obtain ⟨h1, l, e, hk⟩ := h
    obtain ⟨v, rfl, rx⟩ := r.one_inv
    rw [rx.int_inv]
    exact ⟨_, rfl, h1, by rw [e]; exact q _ _ _ hk S (.str _) Kq.refl⟩
  · exact h.elim
/-- text + text -/
def fCatS : F2 := fun x y k => match x, y with
  | .str a, .str b => a.length + b.length ≤ 100000 ∧ k (.str (a ++ b))
  | _, _ => False
theorem rv_catS : RV2 B K (fun x y H Q => ∃ i j : Str, x = .str i ∧ y = .str j ∧ i.length + j.length ≤ sizeLine ∧ Q (.str (i ++ j)) H) fCatS := by
  intro X Λ σ H τ F x y u v S rx ry k Q h q
  unfold fCatS at h
  split at h
  · rename_i a b
    rw [rx.str_inv, ry.str_inv]
    exact ⟨Cw.S a, Cw.S b, rfl, rfl, by rw [S_len, S_len]; exact Nat.le_trans h.1 (by decide), by rw [S_app]; exact q _ _ _ h.2 S (.str _) Kq.refl⟩
  · exact h.elim
end
end Lg
set_option Elab.async false
set_option linter.all false
set_option maxRecDepth 100000
set_option maxHeartbeats 2000000
/-! enumerate over a tuple -/
namespace PySem
open Sem (wp)
open AutoSeq1 (wpAny_loadPart')
theorem meets_enumerate_newT (t : Addr) (items : Array Value) :
    Meets (Builtin.«enumerate.__new__» ⟨[.type "enumerate", .ref t], []⟩) (fun _ R s => s.heap.IsTuple t items ∧
      R (.ok (.ret (.ref (s.heap.push { cls := .type "tuple_iterator", data := .fields #[.ref t, .int 0 0] }).objs.size))) { s with heap := (s.heap.push { cls := .type "tuple_iterator", data := .fields #[.ref t, .int 0 0] }).push { cls := .type "enumerate", data := .fields #[.none, .bool false, .ref s.heap.objs.size, rawInt 0, .none, .none] } }) :=
  .of_wp fun prog w A R s h => by
    obtain ⟨hp, g, d, tk, os⟩ := s; obtain ⟨h1, h⟩ := h
    have hsub := sub_enumerate
    have q1 : ∀ {A' : Around} {E : Value → Shared → Prop} {Q : Value → Shared → Prop}, Q (.ref hp.objs.size) ⟨hp.push { cls := .type "tuple_iterator", data := .fields #[.ref t, .int 0 0] }, g, d, tk, os⟩ → wpAny (model prog w) A' (pyIter (.ref t)) Q E ⟨hp, g, d, tk, os⟩ :=
      fun q => wpAny_pyIter_tuple h1 q
    wp_walk using q1
    refine wpAny_stack_any fun st => wpAny_pure ?_
    split
    · rename_i c _ _ _ _ _
      cases (c == Value.type "enumerate")
      · wp_walk using q1
        exact ⟨_, rfl, h⟩
      · wp_walk using q1
        exact ⟨_, rfl, h⟩
    · wp_walk using q1
      exact ⟨_, rfl, h⟩
section
variable {prog : Program} {w : World} {A : Around} {E : Value → Shared → Prop} {s : Shared}
theorem call_enumerate_tuple {t : Addr} {items : Array Value} {Q : Value → Shared → Prop} (hT : s.heap.IsTuple t items)
    (h : ∀ h', IsEnum h' (s.heap.objs.size + 1) s.heap.objs.size 0 .none → h'.IsTupleIter s.heap.objs.size t 0 → h'.objs.size = s.heap.objs.size + 2 →
      (∀ b o, s.heap.get? b = some o → h'.get? b = some o) → Q (.ref (s.heap.objs.size + 1)) { s with heap := h' }) :
    wpAny (model prog w) A (call (.type "enumerate") [.ref t]) Q E s := by
  refine callType_new F.called_enumerate (by decide) (F.typeCall_enumerate_1 _) (F.newCall_enumerate_1 _) (fun obj => F.args_object_init_2 obj _) F.entry_enumerate_new
    (meets_enumerate_newT t items) ⟨hT, ?_⟩
  have hz : (s.heap.push { cls := .type "tuple_iterator", data := .fields #[.ref t, .int 0 0] }).objs.size = s.heap.objs.size + 1 := Heap.size_push ..
  show _ ∧ _
  rw [hz]
  have he : IsEnum ((s.heap.push { cls := .type "tuple_iterator", data := .fields #[.ref t, .int 0 0] }).push
      { cls := .type "enumerate", data := .fields #[.none, .bool false, .ref s.heap.objs.size, rawInt 0, .none, .none] }) (s.heap.objs.size + 1) s.heap.objs.size 0 .none := by
    have := Heap.get?_push_size (s.heap.push { cls := .type "tuple_iterator", data := .fields #[.ref t, .int 0 0] })
      (o := { cls := .type "enumerate", data := .fields #[.none, .bool false, .ref s.heap.objs.size, rawInt 0, .none, .none] }) rfl
    rw [hz] at this; exact this
  refine ⟨⟨_, he, rfl⟩, h _ he ⟨_, Heap.get?_push_of_some _ (Heap.get?_push_size _ rfl), rfl, rfl⟩ (by rw [Heap.size_push, hz]) fun b o x => Heap.get?_push_of_some _ (Heap.get?_push_of_some _ x)⟩
end
end PySem
namespace Lg
open PySem PySem.Spec PyProof.Rows L2 Cw
/-- the tuple at a, each item in a new pair -/
def Itet (K : PySem.W.Frag) (a : Addr) : It :=
  ⟨fun i H => ∃ (xs : List V) (x : V), SqT K H a xs ∧ xs[i]? = some x, fun i H v H' => ∃ T x, v = .ref T ∧ H T = none ∧ H' = upd H T (.tup [.int (i : Nat), x]) ∧ ∀ xs, SqT K H a xs → xs[i]? = some x, fun i H => ∃ xs : List V, SqT K H a xs ∧ xs.length ≤ i⟩
theorem turn_enumT {P : Program} {w : World} {K : PySem.W.Frag} {elts : List Expr} {kk : Nat} {tpos : Pos} (a e it : Addr) :
    Turn P w K (.Tuple elts kk tpos) (Itet K a) [e, it] e (fun i h => (∃ old, IsEnum h e it ((i : Nat) : Int) old) ∧ h.IsTupleIter it a i ∧ e ≠ it) where
  mem := by simp
  obj := fun i h st b hb => by
    obtain ⟨⟨old, he⟩, ⟨o, ho, hc, hd⟩, _⟩ := st
    have e' : b = e ∨ b = it := by simpa using hb
    rcases e' with z | z
    · rw [z]; exact ⟨_, he, fun v q => nomatch q⟩
    · rw [z]; exact ⟨o, ho, fun v q => by rw [hd] at q; cases q⟩
  keep := fun i h h' st k => let ⟨⟨old, he⟩, hi, hne⟩ := st; ⟨⟨old, k e (by simp) _ he⟩, hi.at fun o q => k it (by simp) o q, hne⟩
  item := by
    intro X hP hw hK hc i pins s σ H E I hf st hg
    subst hP hw hK
    obtain ⟨⟨old, he⟩, hit, hne⟩ := st
    obtain ⟨xs, x, hq, hx⟩ := hg
    obtain ⟨its, rv, p, hz⟩ := I.tuple hq
    obtain ⟨u, hu, ru⟩ := rv.get hx
    have hel : e < s.heap.objs.size := Heap.lt_size he
    have hil : it < s.heap.objs.size := by obtain ⟨_, q, _⟩ := hit; exact Heap.lt_size q
    have p' : s.heap.IsTuple a its.toArray := p
    have hta : a < s.heap.objs.size := by obtain ⟨_, q, _⟩ := p'; exact Heap.lt_size q
    have hlt : i < its.toArray.size := by
      rw [List.size_toArray]
      exact (List.getElem?_eq_some_iff.mp hu).1
    have nea : a ≠ it := fun z => by
      obtain ⟨o1, h1, c1, _⟩ := p'
      obtain ⟨o2, h2, c2, _⟩ := hit
      rw [z, h2] at h1
      cases h1
      rw [c2] at c1
      exact absurd c1 (by decide)
    have nee : a ≠ e := fun z => by
      obtain ⟨o1, h1, c1, _⟩ := p'
      rw [z, he] at h1
      cases h1
      have c2 : Value.type "enumerate" = Value.type "tuple" := c1
      exact absurd c2 (by decide)
    refine wpAny_pyNext_enum_itemD (Draws.tuple (prog := X.prog) (w := X.w) (A := X.A.in1) (I.ok.hd hc) it a nea its.toArray) he ⟨hit, p'⟩ hlt hne (by simp [Ne.symm nee, hne]) fun u' h' tk hu' ho st' hT hsz hk => ?_
    have eu : u' = u := by
      have := hu'
      simp only [List.getElem?_toArray] at this
      rw [hu] at this
      exact (Option.some.inj this).symm
    subst eu
    refine ⟨_, rfl, wpAny_letOwnedTupleGo_enum (s := { s with heap := h', toks := tk + 1 }) ho fun h'' he' sb => ?_⟩
    have hT2 : h''.get? s.heap.objs.size = some { cls := .type "tuple", data := .seq #[.int i tk, u'] } := (sb.2 _ (Nat.ne_of_gt hel)).trans hT
    have new : ObjOk X.prog X.w (upd H s.heap.objs.size (.tup [.int (i : Nat), x])) h'' s.heap.objs.size (.tup [.int (i : Nat), x]) :=
      ⟨by show 2 ≤ sizeLine; decide, [.int i tk, u'], .cons ⟨_, rfl⟩ (.cons ru .nil), ⟨_, hT2, rfl, _, rfl⟩⟩
    have I1 : Inv X pins σ (upd H s.heap.objs.size (.tup [.int (i : Nat), x])) { s with heap := h'', toks := tk + 1 } :=
      I.turnedNew (ch := [e, it]) (fun b ob hb q => (sb.2 b (fun z => hb (by simp [z]))).trans (hk b ob (fun z => hb (by simp [z])) (fun z => hb (by simp [z])) q)) hf (Nat.le_refl _) new
    refine ⟨.ref s.heap.objs.size, _, I1, rfl, ⟨_, x, rfl, I.hok.fresh (Nat.le_refl _), rfl, fun ys hy => by rw [I.tuple_inj hy hq]; exact hx⟩, ⟨⟨u', ?_⟩, st'.1.at fun o q => (sb.2 it (Ne.symm hne)).trans q, hne⟩, fun b hb => ?_⟩
    · have e1 : ((i + 1 : Nat) : Int) = (i : Int) + 1 := by omega
      rw [e1]; exact he'
    · have hb' : b < s.heap.objs.size := by
        have e' : b = e ∨ b = it := by simpa using hb
        rcases e' with z | z
        · rw [z]; exact hel
        · rw [z]; exact hil
      rw [upd_ne (Nat.ne_of_lt hb')]
      exact (hf b hb).1
  done := by
    intro X hP hw hK hc i pins s σ H E I hf st hg
    subst hP hw hK
    obtain ⟨⟨old, he⟩, hit, hne⟩ := st
    obtain ⟨xs, hq, hx⟩ := hg
    obtain ⟨its, rv, p, hz⟩ := I.tuple hq
    obtain ⟨f0, f1, f2, f3, f4, f5⟩ := hf it (by simp)
    have hl := rv.length
    have p' : s.heap.IsTuple a its.toArray := p
    have hT : s.TypeIs (.ref e) "enumerate" := ⟨_, he, rfl⟩
    unfold pyNext
    refine wpAny_bind (wpAny_attempt (wpAny_callSpecial?_slot (name := Str.ofString "__next__") hT F.slot_enumerate_next
      (wpAny_call_entry F.slot_enumerate_next hT F.entry_enumerate_next ?_ (F.args_enumerate_next_1 _))))
    show wpAny _ _ (field (.ref e) 2 >>= _) _ _ _
    refine wpAny_bind (wpAny_field he rfl (x := .ref it) rfl ?_)
    refine wpAny_bind (wpAny_nextOf_tuple_end (I.ok.hd hc) hit p' (by simp; omega) fun h' x he' hx' => ?_)
    obtain ⟨o, ho, hc'⟩ := hx'
    refine wpAny_bind (wpAny_isInstance (T := "StopIteration") (b := true) ⟨o, ho, hc'⟩ isSubtype_stop ?_)
    exact wpAny_pure ⟨rfl, I.turned (t' := s.toks) (fun b o hb q => he' b o hb q) f0 f1 f3 f4 f5⟩
  self := fun A i s Q E st h => let ⟨⟨_, he⟩, _⟩ := st; wpAny_pyIter_enum he h
def iEnumT (K : PySem.W.Frag) (ta : TA) : TI := fun σ H R => ta σ H fun vs H1 => ∃ a xs, vs = [.ref a] ∧ SqT K H1 a xs ∧ R (Itet K a) H1
theorem pi_enumT {X : Cx} {e : Expr} {ta : TA} {p pos tpos : Pos} {elts : List Expr} {kk : Nat} (hg : Gl X "enumerate") (hm : X.mg "enumerate" = none) (ha : PA X [e] ta) (hs : starEach [e] X.env = [(false, eval e X.env)] := by rfl) :
    PI X (.Tuple elts kk tpos) (.Call (.Name "enumerate" p) [e] [] pos) (iEnumT X.K ta) := by
  refine ⟨fun pins s σ H R I h => ?_⟩
  refine Call_ (ld_blt I hg hm boot_enumerate (PyProof.Rows.callWith_type1 (thn (ha.run pos pins s σ H _ I h) fun us s1 ⟨vs, H1, I1, r1, q1⟩ => ?_) hs rfl))
  obtain ⟨a, xs, ex, hq, q⟩ := q1
  subst ex
  cases r1 with
  | cons r rr =>
    cases rr
    cases r
    obtain ⟨its, rv, p', hz⟩ := I1.tuple hq
    refine call_enumerate_tuple (show s1.heap.IsTuple a its.toArray from p') fun h' he hit hsz hk => wpAny_pyIter_enum he ?_
    have I2 : Inv X pins σ H1 { s1 with heap := h' } := I1.kept (t' := s1.toks) hk
    refine ⟨s1.heap.objs.size + 1, [s1.heap.objs.size + 1, s1.heap.objs.size], _, _, H1, rfl, I2, turn_enumT a (s1.heap.objs.size + 1) s1.heap.objs.size, ⟨⟨.none, he⟩, hit, Nat.succ_ne_self _⟩, fun b hb => ?_, q⟩
    have e' : b = s1.heap.objs.size + 1 ∨ b = s1.heap.objs.size := by simpa using hb
    have hle : s1.heap.objs.size ≤ b := by
      rcases e' with z | z
      · rw [z]; exact Nat.le_add_right _ _
      · rw [z]; exact Nat.le_refl _
    exact I1.fpOk hle (I1.hok.fresh hle)
def lEnumT (lr : LA) : LA := fun Λ k => lr Λ (bk k fun xs Λ1 => match xs with
  | [.tup ys] => k (.ok (enL ys) Λ1)
  | _ => False)
section
variable {B : Fm} {K : PySem.W.Frag} {W : WX} {tr : TA} {lr : LA}
theorem si_enumT (h0 : SA B K W tr lr) : SI B K W (iEnumT K tr) (lEnumT lr) := by
  intro X Λ σ H τ F k R S h c
  refine h0 X Λ σ H τ F _ _ S h ⟨fun x v Λ1 H1 F1 g S1 r q => ?_, c.ex⟩
  dsimp only [bk] at g
  split at g
  · rename_i xs
    obtain ⟨v, rfl, rx⟩ := r.one_inv
    obtain ⟨p, vs, rfl, hp, rr⟩ := rx.tup_inv
    have hl : (enL xs).length = xs.length := enL_len xs
    refine ⟨p, vs, rfl, hp.sq, c.ok _ _ [(.tup xs, .ref p)] _ _ _ g (S1.push rx) q ⟨⟨fun H => ∃ us, SqT K H p us ∧ us.length = xs.length, fun i H v H' => ∃ T x, v = .ref T ∧ H T = none ∧ H' = upd H T (.tup [.int (i : Nat), x]) ∧ ∀ us, SqT K H p us → us[i]? = some x, ?_, fun X Λ σ H τ F S => ?_, fun i v H H' X Λ σ τ F hi S y => ?_⟩⟩⟩
    · rw [hl]
      refine ⟨fun i H hi ⟨us, hu, hl⟩ => ⟨us, us[i]'(by omega), hu, by simp [show i < us.length by omega]⟩, fun H ⟨us, hu, hl⟩ => ⟨us, hu, by omega⟩, fun i H v H' _ _ y => ?_⟩
      obtain ⟨T, x, h1, h2, h3, h4⟩ := y
      exact ⟨T, x, h1, h2, h3, fun us hu => h4 us hu⟩
    · obtain ⟨p', us, e, hp', rr'⟩ := (wk_tmp S).tup_inv
      cases e
      exact ⟨us, hp'.sq, rr'.len.symm⟩
    · obtain ⟨T, x, rfl, nT, rfl, hx⟩ := y
      obtain ⟨p', us, e, hp', rr'⟩ := (wk_tmp S).tup_inv
      cases e
      rw [hl] at hi
      have hxi := hx us hp'.sq
      have r0 := rr'.get i xs[i] x (List.getElem?_eq_getElem hi) hxi
      obtain ⟨S2, q2, n2⟩ := S.new (o := .tup [.int (i : Nat), x]) nT
      have st : Stp (Nn X F) H (Nn X F) (upd H T (.tup [.int (i : Nat), x])) := fun a o h n => ⟨n, by rw [upd_ne (ne_of_none h nT)]; exact h⟩
      refine ⟨.tup [.int (i : Nat), xs[i]], ?_, S2, q2, .tup' ⟨n2, upd_same⟩ (.cons (.int _) (.one (r0.mono st)))⟩
      unfold enL
      rw [List.getElem?_map, List.getElem?_zipIdx, List.getElem?_eq_getElem hi]
      simp
  · exact g.elim
end
/-! ### small words -/
theorem mem_cast (a : Nat) (l : List Nat) : decide ((a : Int) ∈ l.map fun (n : Nat) => (n : Int)) = decide (a ∈ l) := by
  by_cases h : a ∈ l
  · rw [decide_eq_true h, decide_eq_true (List.mem_map.mpr ⟨a, h, rfl⟩)]
  · rw [decide_eq_false h, decide_eq_false fun z => by
      obtain ⟨b, hb, e⟩ := List.mem_map.mp z
      have : b = a := by omega
      exact h (this ▸ hb)]
theorem nlv_atT {l : List Nat} {i : Nat} (h : i < l.length) : (nlv l)[i]? = some (.int ((l.getD i 0 : Nat) : Int)) := by
  unfold nlv
  rw [List.getElem?_map, List.getElem?_eq_getElem h, List.getD_eq_getElem?_getD, List.getElem?_eq_getElem h]
  rfl
/-- tuples of numbers; pairs of a number and such a tuple -/
def wlv (l : List (List Nat)) : List LV := l.map fun w => .tup (nlv w)
def plv (l : List (Nat × List Nat)) : List LV := l.map fun p => .tup [.int (p.1 : Nat), .tup (nlv p.2)]
theorem wlv_len (l : List (List Nat)) : (wlv l).length = l.length := List.length_map ..
theorem plv_len (l : List (Nat × List Nat)) : (plv l).length = l.length := List.length_map ..
theorem wlv_get {l : List (List Nat)} {i : Nat} {x : LV} (h : (wlv l)[i]? = some x) : ∃ w, l[i]? = some w ∧ x = .tup (nlv w) := by
  unfold wlv at h
  rw [List.getElem?_map] at h
  obtain ⟨n, hn, rfl⟩ := Option.map_eq_some_iff.mp h
  exact ⟨n, hn, rfl⟩
theorem wlv_app (l : List (List Nat)) (w : List Nat) : wlv l ++ [.tup (nlv w)] = wlv (l ++ [w]) := by
  unfold wlv
  rw [List.map_append]
  rfl
theorem plv_app (l : List (Nat × List Nat)) (i : Nat) (w : List Nat) : plv l ++ [.tup [.int (i : Nat), .tup (nlv w)]] = plv (l ++ [(i, w)]) := by
  unfold plv
  rw [List.map_append]
  rfl
theorem dOk_plv : ∀ l : List (Nat × List Nat), dOks (plv l) = true
  | [] => rfl
  | p :: r => by
    show ((true && (dOks (nlv p.2) && true)) && dOks (plv r)) = true
    rw [dOk_plv r, dOk_nlv]
    rfl
theorem canLay_plv : ∀ l : List (Nat × List Nat), PyData.canLayAll0 (dDs (plv l)) = true
  | [] => by
    show PyData.canLayAll0 [] = true
    unfold PyData.canLayAll0
    rfl
  | p :: r => by
    show PyData.canLayAll0 (.tuple [.int p.1, .tuple (dDs (nlv p.2))] :: dDs (plv r)) = true
    simp [PyData.canLay0, PyData.canLayAll0, canLay_nlv, canLay_plv r]
theorem depth_plv : ∀ l : List (Nat × List Nat), PyData.depthAll (dDs (plv l)) ≤ 10
  | [] => by
    show PyData.depthAll [] ≤ 10
    unfold PyData.depthAll
    decide
  | p :: r => by
    show PyData.depthAll (.tuple [.int p.1, .tuple (dDs (nlv p.2))] :: dDs (plv r)) ≤ 10
    have ih := depth_plv r
    have e : PyData.depth (.tuple [.int p.1, .tuple (dDs (nlv p.2))]) ≤ 10 := by
      simp [PyData.depth, PyData.depthAll, depth_nlv]
    unfold PyData.depthAll
    omega
theorem shaped_plv (l : List (Nat × List Nat)) : SeqAt.shaped (dD (.lst (plv l))) = true := by
  show (PyData.canLay0 (.list (dDs (plv l))) && decide (PyData.depth (.list (dDs (plv l))) ≤ 64)) = true
  have h := depth_plv l
  have e : PyData.depth (.list (dDs (plv l))) ≤ 64 := by
    unfold PyData.depth
    omega
  rw [decide_eq_true e]
  unfold PyData.canLay0
  rw [canLay_plv]
  rfl
theorem eqD_plv (l : List (Nat × List Nat)) : PyData.eqv (dD (.lst (plv l))) (dD (.lst (plv l))) = true := SeqAt.eqv_refl _ (by
  show PyData.canLay0 (.list (dDs (plv l))) = true
  unfold PyData.canLay0
  exact canLay_plv l)
end Lg
set_option Elab.async false
set_option linter.all false
set_option maxRecDepth 100000
set_option maxHeartbeats 2000000
/-! calls that are handed things of one's own -/
namespace Lg
open PySem PySem.Spec PyProof.Rows L2 Cw
inductive Ar where
  | v (x : LV)
  | own (j : Nat)
abbrev LAM := Env → (Rs (List Ar) → Prop) → Prop
def ArR (N : Ad) (K : PySem.W.Frag) (H : Hp) (σ : L2.St) : Ar → V → Prop
  | .v x, v => Rp N K H x v
  | .own j, v => σ[j]? = some (some v)
theorem ArR.mono {N N' : Ad} {K : PySem.W.Frag} {H H' : Hp} {σ : L2.St} {a : Ar} {v : V} (h : ArR N K H σ a v) (s : Stp N H N' H') : ArR N' K H' σ a v := by
  cases a with
  | v x => exact Rp.mono h s
  | own j => exact h
structure ArsR (N : Ad) (K : PySem.W.Frag) (H : Hp) (σ : L2.St) (ps : List Ar) (vs : List V) : Prop where
  len : ps.length = vs.length
  get : ∀ (i : Nat) a v, ps[i]? = some a → vs[i]? = some v → ArR N K H σ a v
theorem ArsR.nil {N : Ad} {K : PySem.W.Frag} {H : Hp} {σ : L2.St} : ArsR N K H σ [] [] := ⟨rfl, fun i a v h _ => by cases h⟩
theorem ArsR.cons {N : Ad} {K : PySem.W.Frag} {H : Hp} {σ : L2.St} {a : Ar} {v : V} {ps : List Ar} {vs : List V} (h : ArR N K H σ a v) (t : ArsR N K H σ ps vs) : ArsR N K H σ (a :: ps) (v :: vs) := ⟨by rw [List.length_cons, List.length_cons, t.len], fun i b u e e' => by
  cases i with
  | zero =>
    cases e
    cases e'
    exact h
  | succ i => exact t.get i b u e e'⟩
def SAM (B : Fm) (K : PySem.W.Frag) (W : WX) (tr : TA) (lr : LAM) : Prop := ∀ X Λ σ H τ F k Q, Sr B K X Λ σ H τ F → lr Λ k → Cn B K X (fun N H ps vs => ArsR N K H σ ps vs) Λ σ H τ F k Q W → tr σ H Q
def Ent.isOwn : Ent → Bool
  | .l _ => true
  | .p _ => true
  | .x _ => true
  | .o _ _ => true
  | _ => false
/-- as it is handed over -/
def Ent.arg : Ent → Ent
  | .l xs => .p xs
  | .x A => match A.pin with
    | true => .x A
    | false => .x { A with pin := true }
  | e => e
/-- as it comes back -/
def Ent.back : Ent → Ent → Ent
  | .l _, .p ys => .l ys
  | .x A, .x A' => match A.pin with
    | true => .x A'
    | false => .x { A' with pin := false }
  | _, e => e
def ownAt (Λ : Env) (j : Nat) : Bool := match Λ[j]? with
  | some e => e.isOwn
  | none => false
def lmNil : LAM := fun Λ k => k (.ok [] Λ)
def lmV (le : LE) (lr : LAM) : LAM := fun Λ k => le Λ (bk k fun x Λ1 => lr Λ1 (bk k fun ps Λ2 => k (.ok (.v x :: ps) Λ2)))
def lmO (i : Nat) (lr : LAM) : LAM := fun Λ k => ownAt Λ i = true ∧ lr Λ (bk k fun ps Λ1 => k (.ok (.own i :: ps) Λ1))
def Ar.isO (j : Nat) : Ar → Bool
  | .own i => decide (i = j)
  | _ => false
def ndA : List Ar → Bool
  | [] => true
  | .v _ :: r => ndA r
  | .own j :: r => !(r.any (Ar.isO j)) && ndA r
def argOk (Λ : Env) (ps : List Ar) : Bool := ps.all fun a => match a with
  | .v _ => true
  | .own j => ownAt Λ j
def argE (Λ : Env) (ps : List Ar) : Env := ps.map fun a => match a with
  | .v x => .v x
  | .own j => (Λ.getD j .no).arg
def bkOk : List Ar → Env → Bool
  | [], [] => true
  | .v _ :: r, e :: es => e.isV && bkOk r es
  | .own _ :: r, _ :: es => bkOk r es
  | _, _ => false
def putE (Λ : Env) : List Ar → Env → Env
  | .own j :: r, e :: es => (putE Λ r es).set j ((Λ.getD j .no).back e)
  | .v _ :: r, _ :: es => putE Λ r es
  | _, _ => Λ
/-- a call that may be handed things of one's own -/
def lCallM (n : Nat) (f : FSp) (la : LAM) : LE := fun Λ k => la Λ (bk k fun ps Λ1 => (ps.length = n ∧ ndA ps = true ∧ argOk Λ1 ps = true) ∧ f (argE Λ1 ps) fun o => match o with
  | .ok x es => bkOk ps es = true ∧ k (.ok x (putE Λ1 ps es))
  | .ex _ _ _ _ => False)
theorem isO_iff {j i : Nat} : Ar.isO j (.own i) = true ↔ i = j := decide_eq_true_iff
theorem nd_uniq : ∀ {ps : List Ar}, ndA ps = true → ∀ {p q i : Nat}, ps[p]? = some (.own i) → ps[q]? = some (.own i) → p = q
  | [], _, p, q, i, h, _ => by cases h
  | .v x :: r, hn, p, q, i, h, h' => by
    cases p with
    | zero => cases h
    | succ p =>
      cases q with
      | zero => cases h'
      | succ q => rw [nd_uniq (ps := r) hn (show r[p]? = _ from h) (show r[q]? = _ from h')]
  | .own j :: r, hn, p, q, i, h, h' => by
    have hn' := Bool.and_eq_true_iff.mp (show (!(r.any (Ar.isO j)) && ndA r) = true from hn)
    have no : ∀ q : Nat, ¬ r[q]? = some (.own j) := fun q e => by
      have : r.any (Ar.isO j) = true := List.any_eq_true.mpr ⟨_, List.mem_of_getElem? e, isO_iff.mpr rfl⟩
      rw [this] at hn'
      cases hn'.1
    cases p with
    | zero =>
      cases h
      cases q with
      | zero => rfl
      | succ q => exact (no q h').elim
    | succ p =>
      cases q with
      | zero =>
        cases h'
        exact (no p h).elim
      | succ q => rw [nd_uniq (ps := r) hn'.2 (show r[p]? = _ from h) (show r[q]? = _ from h')]
theorem putE_len (Λ : Env) : ∀ (ps : List Ar) (es : Env), (putE Λ ps es).length = Λ.length
  | [], _ => by unfold putE; rfl
  | .v _ :: _, [] => by unfold putE; rfl
  | .own _ :: _, [] => by unfold putE; rfl
  | .v _ :: r, _ :: es => by
    unfold putE
    exact putE_len Λ r es
  | .own j :: r, e :: es => by
    unfold putE
    rw [List.length_set]
    exact putE_len Λ r es
theorem putE_no (Λ : Env) {i : Nat} : ∀ (ps : List Ar) (es : Env), (∀ p : Nat, ¬ ps[p]? = some (.own i)) → (putE Λ ps es)[i]? = Λ[i]?
  | [], _, _ => by unfold putE; rfl
  | .v _ :: _, [], _ => by unfold putE; rfl
  | .own _ :: _, [], _ => by unfold putE; rfl
  | .v _ :: r, _ :: es, h => by
    unfold putE
    exact putE_no Λ r es fun p => h (p + 1)
  | .own j :: r, e :: es, h => by
    unfold putE
    rw [List.getElem?_set_ne fun z => h 0 (by rw [← z]; rfl)]
    exact putE_no Λ r es fun p => h (p + 1)
theorem putE_at (Λ : Env) {i p : Nat} {e : Ent} : ∀ (ps : List Ar) (es : Env), ndA ps = true → ps[p]? = some (.own i) → es[p]? = some e → i < Λ.length → (putE Λ ps es)[i]? = some ((Λ.getD i .no).back e) := by
  intro ps
  induction ps generalizing p with
  | nil => intro es _ h; cases h
  | cons a r ih =>
    intro es hn h he hi
    cases es with
    | nil => cases he
    | cons e0 es =>
      cases a with
      | v x =>
        cases p with
        | zero => cases h
        | succ p =>
          unfold putE
          exact ih es hn h he hi
      | own j =>
        have hn' := Bool.and_eq_true_iff.mp (show (!(r.any (Ar.isO j)) && ndA r) = true from hn)
        unfold putE
        cases p with
        | zero =>
          cases h
          cases he
          rw [List.getElem?_set_self (by rw [putE_len]; exact hi)]
        | succ p =>
          have ne : j ≠ i := fun z => by
            have : (0 : Nat) = p + 1 := nd_uniq hn (i := j) rfl (by rw [z]; exact h)
            cases this
          rw [List.getElem?_set_ne ne]
          exact ih es hn'.2 h he hi
theorem argE_at {Λ : Env} {ps : List Ar} {p j : Nat} {e : Ent} (h : ps[p]? = some (.own j)) (he : Λ[j]? = some e) : (argE Λ ps)[p]? = some e.arg := by
  unfold argE
  rw [List.getElem?_map, h]
  show some ((Λ.getD j .no).arg) = _
  rw [List.getD_eq_getElem?_getD, he]
  rfl
theorem ownAt_get {Λ : Env} {j : Nat} (h : ownAt Λ j = true) : ∃ e, Λ[j]? = some e ∧ e.isOwn = true := by
  unfold ownAt at h
  split at h
  · rename_i e he
    exact ⟨e, he, h⟩
  · cases h
theorem bk_len : ∀ {ps : List Ar} {es : Env}, bkOk ps es = true → ps.length = es.length
  | [], [], _ => rfl
  | [], _ :: _, h => by cases h
  | .v _ :: r, [], h => by cases h
  | .own _ :: r, [], h => by cases h
  | .v _ :: r, e :: es, h => by
    have h' := Bool.and_eq_true_iff.mp (show (e.isV && bkOk r es) = true from h)
    rw [List.length_cons, List.length_cons, bk_len h'.2]
  | .own _ :: r, e :: es, h => by
    rw [List.length_cons, List.length_cons, bk_len (show bkOk r es = true from h)]
theorem bk_v : ∀ {ps : List Ar} {es : Env}, bkOk ps es = true → ∀ {p : Nat} {x : LV} {e : Ent}, ps[p]? = some (.v x) → es[p]? = some e → e.isV = true
  | [], [], _, p, x, e, h, _ => by cases h
  | [], _ :: _, h, _, _, _, _, _ => by cases h
  | .v _ :: r, [], h, _, _, _, _, _ => by cases h
  | .own _ :: r, [], h, _, _, _, _, _ => by cases h
  | .v _ :: r, e0 :: es, h, p, x, e, h1, h2 => by
    have h' := Bool.and_eq_true_iff.mp (show (e0.isV && bkOk r es) = true from h)
    cases p with
    | zero =>
      cases h2
      exact h'.1
    | succ p => exact bk_v h'.2 (show r[p]? = _ from h1) h2
  | .own _ :: r, e0 :: es, h, p, x, e, h1, h2 => by
    cases p with
    | zero => cases h1
    | succ p => exact bk_v (show bkOk r es = true from h) (show r[p]? = _ from h1) h2
theorem arg_ent {N : Ad} {K : PySem.W.Frag} {H : Hp} {e : Ent} {u : Option V} {F : Ad} (h : entR N K H e u F) : entR N K H e.arg u F := by
  cases e with
  | x A =>
    unfold Ent.arg
    simp only
    split <;> exact h
  | _ => exact h
theorem back_ent {N : Ad} {K : PySem.W.Frag} {H : Hp} {e e' : Ent} {u : Option V} {F : Ad} (h : entR N K H e' u F) : entR N K H (e.back e') u F := by
  unfold Ent.back
  split
  · exact h
  · split <;> exact h
  · exact h
theorem arg_pin {e : Ent} (h : e.pin = true) : e.arg.pin = true := by
  cases e with
  | x A =>
    have h : A.pin = true := h
    unfold Ent.arg
    simp only
    rw [h]
    exact h
  | _ => first | rfl | exact h | cases h
theorem back_pin {e e' : Ent} (h : e.pin = true) (h' : e'.pin = true) : (e.back e').pin = true := by
  cases e with
  | x A =>
    have h : A.pin = true := h
    cases e' with
    | x A' =>
      unfold Ent.back
      simp only
      rw [h]
      exact h'
    | _ => exact h'
  | l xs => cases h
  | _ => exact h'
section
variable {B : Fm} {K : PySem.W.Frag} {W : WX} {te : TE} {le : LE} {tr : TA} {lr : LAM}
theorem sam_nil : SAM B K W tNil lmNil := fun X Λ σ H τ F k Q S h c => c.ok _ _ _ _ _ h S .nil Kq.refl
theorem sam_v (ha : SE B K W te le) (hr : SAM B K W tr lr) : SAM B K W (tCons te tr) (lmV le lr) := by
  intro X Λ σ H τ F k Q S h c
  refine ha X Λ σ H τ F _ _ S h (c.bk (τ' := τ) fun a u Λ1 H1 F1 h1 S1 r1 q1 => ?_)
  refine hr X Λ1 σ H1 ((a, u) :: τ) F1 _ _ (S1.push r1) h1 ((c.st S1 q1).bk (τ' := (a, u) :: τ) fun b v Λ2 H2 F2 h2 S2 r2 q2 => ?_)
  obtain ⟨ra, S2'⟩ := S2.pop
  exact c.ok _ _ _ _ _ h2 S2' (.cons ra r2) (q1.trans S1.good q2)
theorem own_slot {X : Ad} {Λ : Env} {σ : L2.St} {H : Hp} {τ : List (LV × V)} {F : Fp} {i : Nat} {e : Ent} (S : Sr B K X Λ σ H τ F) (h : Λ[i]? = some e) (ho : e.isOwn = true) : ∃ v, σ[i]? = some (some v) := by
  obtain ⟨u, hu, r⟩ := S.slot h
  cases e with
  | no => cases ho
  | v x => cases ho
  | l xs =>
    obtain ⟨p, vs, rfl, _⟩ := r
    exact ⟨_, hu⟩
  | p xs =>
    obtain ⟨p, vs, rfl, _⟩ := r
    exact ⟨_, hu⟩
  | x A =>
    obtain ⟨v, rfl, _⟩ := r
    exact ⟨_, hu⟩
  | o C fs =>
    obtain ⟨p, dx, us, Fi, rfl, _⟩ := r
    exact ⟨_, hu⟩
theorem sam_o {i : Nat} (hr : SAM B K W tr lr) : SAM B K W (tCons (tVar i) tr) (lmO i lr) := by
  intro X Λ σ H τ F k Q S h c
  obtain ⟨e, he, ho⟩ := ownAt_get h.1
  obtain ⟨v, hv⟩ := own_slot S he ho
  refine ⟨v, hv, ?_⟩
  exact hr X Λ σ H τ F _ _ S h.2 (c.bk (τ' := τ) fun b u Λ2 H2 F2 h2 S2 r2 q2 => c.ok _ _ _ _ _ h2 S2 (.cons hv r2) q2)
theorem callM_core {n : Nat} {f : FSp} {E : XK} {X : Ad} {Λ1 : Env} {σ : L2.St} {H1 : Hp} {τ : List (LV × V)} {F1 : Fp} {k : Rs LV → Prop} {Q : VK} {ps : List Ar} {vs : List V} (S1 : Sr B K X Λ1 σ H1 τ F1) (r1 : ArsR (Nn X F1) K H1 σ ps vs)
    (g : (ps.length = n ∧ ndA ps = true ∧ argOk Λ1 ps = true) ∧ f (argE Λ1 ps) fun o => match o with
      | .ok x es => bkOk ps es = true ∧ k (.ok x (putE Λ1 ps es))
      | .ex _ _ _ _ => False) (c : ∀ x v Λ' H' F', k (.ok x Λ') → Sr B K X Λ' σ H' τ F' → Rp (Nn X F') K H' x v → Kq B Λ1 σ H1 F1 Λ' σ H' F' → Q v H') : FnL0 B K n f vs H1 Q E := by
  obtain ⟨⟨hl, hnd, hao⟩, g⟩ := g
  have hown : ∀ (p j : Nat), ps[p]? = some (Ar.own j) → ∃ (e : Ent) (v : V), Λ1[j]? = some e ∧ e.isOwn = true ∧ vs[p]? = some v ∧ σ[j]? = some (some v) := fun p j hp => by
    have h1 := List.all_eq_true.mp hao _ (List.mem_of_getElem? hp)
    obtain ⟨e, he, ho⟩ := ownAt_get (show ownAt Λ1 j = true from h1)
    have hpl := (List.getElem?_eq_some_iff.mp hp).1
    have hv : vs[p]? = some (vs[p]'(by rw [← r1.len]; exact hpl)) := List.getElem?_eq_getElem _
    exact ⟨e, _, he, ho, hv, r1.get p _ _ hp hv⟩
  let X' : Ad := fun a => X a ∨ ∃ i, F1 i a ∧ ∀ p : Nat, ¬ ps[p]? = some (.own i)
  let F' : Fp := fun p a => ∃ j, ps[p]? = some (.own j) ∧ F1 j a
  have eN : Nn X' F' = Nn X F1 := by
    funext a
    refine propext ⟨fun z => ?_, fun z => ?_⟩
    · rcases z with (z | ⟨i, z, _⟩) | ⟨p, j, _, z⟩
      · exact .inl z
      · exact .inr ⟨i, z⟩
      · exact .inr ⟨j, z⟩
    · rcases z with z | ⟨i, z⟩
      · exact .inl (.inl z)
      · by_cases hi : ∃ p : Nat, ps[p]? = some (.own i)
        · obtain ⟨p, hp⟩ := hi
          exact .inr ⟨p, i, hp, z⟩
        · exact .inl (.inr ⟨i, z, fun p hp => hi ⟨p, hp⟩⟩)
  have SC : Sr B K X' (argE Λ1 ps) (vs.map some) H1 [] F' := by
    refine ⟨S1.good, fun a m => .inl (S1.sub a m), by unfold argE; rw [List.length_map, List.length_map, r1.len], fun p e u h1 h2 => ?_, fun p a z => ?_, fun p q a z z' => ?_, fun p a z w => ?_, fun a z => ?_, fun t m => by cases m⟩
    · rw [List.getElem?_map] at h2
      obtain ⟨v, hv, rfl⟩ := Option.map_eq_some_iff.mp h2
      have h1' := h1
      unfold argE at h1
      rw [List.getElem?_map] at h1
      obtain ⟨a, ha, e1⟩ := Option.map_eq_some_iff.mp h1
      rw [eN]
      cases a with
      | v x =>
        cases e1
        exact ⟨⟨v, rfl, r1.get p _ _ ha hv⟩, fun a ⟨j, hj, _⟩ => by rw [ha] at hj; cases hj⟩
      | own j =>
        obtain ⟨e0, v0, he0, ho, hv0, hs0⟩ := hown p j ha
        rw [argE_at ha he0] at h1'
        cases h1'
        rw [hv] at hv0
        cases hv0
        have eF : F' p = F1 j := by
          funext a
          refine propext ⟨fun ⟨j', hj', z⟩ => ?_, fun z => ⟨j, ha, z⟩⟩
          rw [ha] at hj'
          cases hj'
          exact z
        rw [eF]
        exact arg_ent (S1.ent j e0 _ he0 hs0)
    · obtain ⟨j, hj, _⟩ := z
      unfold argE
      rw [List.length_map]
      exact (List.getElem?_eq_some_iff.mp hj).1
    · obtain ⟨j, hj, zj⟩ := z
      obtain ⟨i, hi, zi⟩ := z'
      have := S1.dis j i a zj zi
      subst this
      exact nd_uniq hnd hj hi
    · obtain ⟨j, hj, zj⟩ := z
      rcases w with w | ⟨i, wi, wn⟩
      · exact S1.disX j a zj w
      · have := S1.dis j i a zj wi
        subst this
        exact wn p hj
    · rcases z with z | ⟨i, z, _⟩
      · exact S1.hasX a z
      · exact S1.has (.inr ⟨i, z⟩)
  refine ⟨X', argE Λ1 ps, F', _, by unfold argE; rw [List.length_map]; exact hl, SC, g, fun x v es' H' F'' hk S' rx q' => ?_, fun C nm x es' z => z⟩
  obtain ⟨hb, hk⟩ := hk
  have hbl := bk_len hb
  let F2 : Fp := fun i a => ((∀ p : Nat, ¬ ps[p]? = some (.own i)) ∧ F1 i a) ∨ ∃ p, ps[p]? = some (.own i) ∧ F'' p a
  have hpos : ∀ p a, F'' p a → ∃ i, ps[p]? = some (.own i) := fun p a z => by
    have hpl := S'.out p a z
    have hpl' : p < ps.length := by rw [hbl]; exact hpl
    cases ha : ps[p]? with
    | none =>
      rw [List.getElem?_eq_getElem hpl'] at ha
      cases ha
    | some b =>
      cases b with
      | own i => exact ⟨i, rfl⟩
      | v x =>
        exfalso
        have he : es'[p]? = some es'[p] := List.getElem?_eq_getElem hpl
        have hv := bk_v hb ha he
        obtain ⟨u, hu, r⟩ := S'.slot he
        cases e : es'[p] with
        | v y =>
          rw [e] at r
          exact r.2 a z
        | no => rw [e] at hv; cases hv
        | l xs => rw [e] at hv; cases hv
        | p xs => rw [e] at hv; cases hv
        | x A => rw [e] at hv; cases hv
        | o C fs => rw [e] at hv; cases hv
  have eN2 : Nn X' F'' = Nn X F2 := by
    funext a
    refine propext ⟨fun z => ?_, fun z => ?_⟩
    · rcases z with (z | ⟨i, z, n⟩) | ⟨p, z⟩
      · exact .inl z
      · exact .inr ⟨i, .inl ⟨n, z⟩⟩
      · obtain ⟨i, hi⟩ := hpos p a z
        exact .inr ⟨i, .inr ⟨p, hi, z⟩⟩
    · rcases z with z | ⟨i, ⟨n, z⟩ | ⟨p, hp, z⟩⟩
      · exact .inl (.inl z)
      · exact .inl (.inr ⟨i, z, n⟩)
      · exact .inr ⟨p, z⟩
  have st : Stp (Nn X F1) H1 (Nn X F2) H' := by
    have z := Kq.stp (X := X') (fun a m => Or.inl (S1.sub a m)) q'
    rw [eN, eN2] at z
    exact z
  rw [eN2] at rx
  have S2 : Sr B K X (putE Λ1 ps es') σ H' τ F2 := by
    refine ⟨S'.good, S1.sub, by rw [putE_len]; exact S1.len, fun i e u h1 h2 => ?_, fun i a z => ?_, fun i j a z z' => ?_, fun i a z w => ?_, fun a z => S'.hasX a (.inl z), fun t m => (S1.tmp t m).mono st⟩
    · by_cases hi : ∃ p : Nat, ps[p]? = some (.own i)
      · obtain ⟨p, hp⟩ := hi
        obtain ⟨e0, v0, he0, ho, hv0, hs0⟩ := hown p i hp
        have hpl : p < es'.length := by
          rw [← hbl]
          exact (List.getElem?_eq_some_iff.mp hp).1
        have hep : es'[p]? = some es'[p] := List.getElem?_eq_getElem hpl
        rw [putE_at Λ1 ps es' hnd hp hep (List.getElem?_eq_some_iff.mp he0).1] at h1
        cases h1
        rw [hs0] at h2
        cases h2
        have r := S'.ent p _ (some v0) hep (by rw [List.getElem?_map, hv0]; rfl)
        rw [eN2] at r
        have eF : F2 i = F'' p := by
          funext a
          refine propext ⟨fun z => ?_, fun z => .inr ⟨p, hp, z⟩⟩
          rcases z with z | ⟨q, hq, z⟩
          · exact (z.1 p hp).elim
          · rw [nd_uniq hnd hp hq]
            exact z
        rw [eF]
        exact back_ent r
      · have hi' : ∀ p : Nat, ¬ ps[p]? = some (.own i) := fun p hp => hi ⟨p, hp⟩
        rw [putE_no Λ1 ps es' hi'] at h1
        have eF : F2 i = F1 i := by
          funext a
          refine propext ⟨fun z => ?_, fun z => .inl ⟨hi', z⟩⟩
          rcases z with z | ⟨q, hq, z⟩
          · exact z.2
          · exact (hi' q hq).elim
        rw [eF]
        refine (S1.ent i e u h1 h2).mono st fun a m => ?_
        obtain ⟨o, ho⟩ := S1.has (.inr ⟨i, m⟩)
        rw [ho]
        refine q'.keep a o ho (fun mb => S1.disX i a m (S1.sub a mb)) fun p z => ?_
        obtain ⟨j, hj, zj⟩ := z
        have := S1.dis i j a m zj
        subst this
        exact hi' p hj
    · rw [putE_len]
      rcases z with z | ⟨p, hp, z⟩
      · exact S1.out i a z.2
      · obtain ⟨e0, v0, he0, _⟩ := hown p i hp
        exact (List.getElem?_eq_some_iff.mp he0).1
    · rcases z with ⟨n, z⟩ | ⟨p, hp, z⟩
      · rcases z' with ⟨n', z'⟩ | ⟨q, hq, z'⟩
        · exact S1.dis i j a z z'
        · exact (S'.disX q a z' (.inr ⟨i, z, n⟩)).elim
      · rcases z' with ⟨n', z'⟩ | ⟨q, hq, z'⟩
        · exact (S'.disX p a z (.inr ⟨j, z', n'⟩)).elim
        · have := S'.dis p q a z z'
          subst this
          rw [hp] at hq
          cases hq
          rfl
    · rcases z with ⟨n, z⟩ | ⟨p, hp, z⟩
      · exact S1.disX i a z w
      · exact S'.disX p a z (.inl w)
  have q2 : Kq B Λ1 σ H1 F1 (putE Λ1 ps es') σ H' F2 := by
    refine ⟨fun a o ha nb nf => q'.keep a o ha nb fun p z => ?_, fun i a z => ?_, q'.all, fun i e h1 hp => ⟨rfl, ?_⟩, putE_len ..⟩
    · obtain ⟨j, hj, zj⟩ := z
      exact nf j zj
    · rcases z with ⟨n, z⟩ | ⟨p, hp, z⟩
      · exact .inl ⟨i, z⟩
      · rcases q'.own p a z with ⟨p', j, _, zj⟩ | z
        · exact .inl ⟨j, zj⟩
        · exact .inr z
    · by_cases hi : ∃ p : Nat, ps[p]? = some (.own i)
      · obtain ⟨p, hpp⟩ := hi
        obtain ⟨_, e', he', hp'⟩ := q'.pin p _ (argE_at hpp h1) (arg_pin hp)
        refine ⟨_, putE_at Λ1 ps es' hnd hpp he' (List.getElem?_eq_some_iff.mp h1).1, ?_⟩
        rw [List.getD_eq_getElem?_getD, h1]
        exact back_pin hp hp'
      · exact ⟨e, by rw [putE_no Λ1 ps es' fun p hp => hi ⟨p, hp⟩]; exact h1, hp⟩
  exact c _ _ _ _ _ hk S2 rx q2
theorem se_callM {n : Nat} {f : FSp} {E : XK} (hr : SAM B K W tr lr) : SE B K W (tCall (FnL0 B K n f) [] E tr) (lCallM n f lr) := by
  intro X Λ σ H τ F k Q S h c
  refine hr X Λ σ H τ F _ _ S h (c.bk (τ' := τ) fun ps vs Λ1 H1 F1 g S1 r1 q1 => ?_)
  rw [List.append_nil]
  exact callM_core S1 r1 g fun x v Λ' H' F' hk S2 rx q2 => c.ok _ _ _ _ _ hk S2 rx (q1.trans S1.good q2)
end
end Lg
set_option Elab.async false
set_option linter.all false
set_option maxRecDepth 100000
set_option maxHeartbeats 2000000
/-! items stored into lists of one's own -/
namespace Lg
open PySem PySem.Spec PyProof.Rows L2 Cw
/-- x[i] = e, x a list of one's own -/
def lSto (i : Nat) (li le : LE) : LS := fun Λ k => le Λ (sk k fun x Λ1 => (own? Λ1 i).isSome = true ∧ li Λ1 (sk k fun y Λ2 => match Λ2[i]?, y with
  | some (.l xs), .int j => ∃ m : Nat, ixN xs.length j = some m ∧ k (.nx (Λ2.set i (.l (xs.set m x))))
  | some (.p xs), .int j => ∃ m : Nat, ixN xs.length j = some m ∧ k (.nx (Λ2.set i (.p (xs.set m x))))
  | _, _ => False))
section
variable {B : Fm} {K : PySem.W.Frag} {W : WX} {te ti : TE} {le li : LE}
theorem ss_sto {i : Nat} (h0 : SE B K W te le) (h1 : SE B K W ti li) : SS B K W (tAsg te (gSub (tVar i) ti rSetL)) (lSto i li le) := by
  intro X Λ σ H τ F k D S h c
  refine h0 X Λ σ H τ F _ _ S h (c.cn (fun _ _ _ _ z => z) fun x v Λ1 H1 F1 g S1 r q => ?_)
  dsimp only [sk] at g
  obtain ⟨g1, g2⟩ := g
  obtain ⟨ys, ey⟩ := Option.isSome_iff_exists.mp g1
  obtain ⟨e0, a0, b0⟩ := own_at ey
  obtain ⟨p, _, hs, _⟩ := S1.ownl a0 b0
  refine ⟨_, hs, ?_⟩
  refine h1 X Λ1 σ H1 ((x, v) :: τ) F1 _ _ (S1.push r) g2 ⟨fun y u Λ2 H2 F2 g3 S2 r2 q2 => ?_, fun C nm x' u d Λ' H' F' z S' r' q' n n' e => c.ex C nm x' u d Λ' σ H' F' z S' r' (q.trans S1.good q') (q.back n) n' e⟩
  dsimp only [sk] at g3
  obtain ⟨rx, S2'⟩ := S2.pop
  have go : ∀ (xs : List LV) (e : Ent) (j : Int) (m : Nat), Λ2[i]? = some e → e.lst? = some xs → u = .int j → ixN xs.length j = some m → k (.nx (Λ2.set i (e.relst (xs.set m x)))) → rSetL (V.ref p) u v H2 fun H3 => D.nx σ H3 := by
    intro xs e j m e1 e2 eu hm hk
    obtain ⟨p', vs, hs', hp, rr, _⟩ := S2'.ownl e1 e2
    rw [hs] at hs'
    cases hs'
    obtain ⟨S3, q3⟩ := S2'.mutl e1 e2 hs (rr.set rx m)
    exact ⟨p, vs, j, m, rfl, eu, hp, by rw [← rr.len]; exact hm, c.nx _ _ _ _ hk S3 ((q.trans S1.good q2).trans S2.good q3)⟩
  split at g3
  · rename_i xs j e1
    obtain ⟨m, hm, hk⟩ := g3
    exact go xs _ j m e1 rfl r2.int_inv hm hk
  · rename_i xs j e1
    obtain ⟨m, hm, hk⟩ := g3
    exact go xs _ j m e1 rfl r2.int_inv hm hk
  · exact g3.elim
end
end Lg
set_option Elab.async false
set_option linter.all false
set_option maxRecDepth 100000
set_option maxHeartbeats 2000000
/-! the state that a law draws from: a place, and the cells -/
namespace Lg
open PySem PySem.Spec PyProof.Rows L2 Cw
def StRep (K : PySem.W.Frag) (N : Ad) (H : Hp) (v : V) (F : Ad) : Prop := ∃ (p q : Addr) (n : Int) (cs : List Int), v = .ref p ∧ p ≠ q ∧ H p = some (.lst [.int n, .ref q]) ∧ H q = some (.lst (cs.map V.int)) ∧ cs ≠ [] ∧ ∀ a, F a ↔ a = p ∨ a = q
def stO : Own where
  rep := StRep
  mono := fun {K N N' H H' v F} h _ k => by
    obtain ⟨p, q, n, cs, e, ne, hp, hq, hc, hf⟩ := h
    exact ⟨p, q, n, cs, e, ne, by rw [k p ((hf p).mpr (.inl rfl))]; exact hp, by rw [k q ((hf q).mpr (.inr rfl))]; exact hq, hc, hf⟩
  has := fun {K N H v F a} h m => by
    obtain ⟨p, q, n, cs, e, ne, hp, hq, hc, hf⟩ := h
    rcases (hf a).mp m with rfl | rfl
    · exact ⟨_, hp⟩
    · exact ⟨_, hq⟩
abbrev sp_take : FSp := fun es k => match es with
  | [.x A, .v (.int m)] => A = stO ∧ 0 < m ∧ m < 1073741824 ∧ ∀ z : Int, 0 ≤ z → z < m → k (.ok (.int z) [.x stO, .v (.int m)])
  | _ => False
/-- what follows behind cells = state[1] -/
def lTakeRest : LS := (lSeq (lSet 3 (lOp fMod (lIxO 0 (lC (.int 0))) (lLenO 2)))
      (lSeq (lSet 4 (lIxO 2 (lVar 3)))
      (lSeq (lIf (lTest (lOp fGe (lVar 4) (lC (.int 1000000000000000000))))
      (lSeq (lSto 2 (lVar 3) (lOp fDiv (lVar 4) (lVar 1)))
      (lRet (lOp fMod (lVar 4) (lVar 1)))) lNext)
      (lSeq (lSto 0 (lC (.int 0)) (lOp fAdd (lIxO 0 (lC (.int 0))) (lC (.int 1))))
      (lSeq (lSet 5 (lOp fMod (lCB fInt (lCons (lOp fAdd (lOp fMul (lVar 4) (lC (.int 48271))) (lOp fMul (lIxO 0 (lC (.int 0))) (lC (.int 69621)))) lNil)) (lC (.int 2147483647))))
      (lSeq (lSet 5 (lOp fMod (lCB fInt (lCons (lOp fAdd (lOp fMul (lVar 5) (lC (.int 16807))) (lOp fMul (lIxO 0 (lC (.int 0))) (lC (.int 7919)))) lNil)) (lC (.int 1000000007))))
      (lRet (lOp fMod (lOp fDiv (lVar 5) (lC (.int 7))) (lVar 1)))))))))
theorem ilv_set (cs : List Int) (i : Nat) (c : Int) : (ilv cs).set i (.int c) = ilv (cs.set i c) := by
  unfold ilv
  rw [List.map_set]
theorem take_logic {n m : Int} {cs : List Int} {q : Addr} {k : Out → Prop} (hc : cs ≠ []) (h0 : 0 < m) (h1 : m < 1073741824)
    (hk : ∀ (z n' : Int) (cs' : List Int) (e3 e4 e5 : Ent), 0 ≤ z → z < m → cs' ≠ [] → k (.rt (.int z) [.p [.int n', .op (.ref q)], .v (.int m), .p (ilv cs'), e3, e4, e5])) :
    lTakeRest [.p [.int n, .op (.ref q)], .v (.int m), .p (ilv cs), .no, .no, .no] k := by
  have hl : 0 < cs.length := List.length_pos_iff.mpr hc
  have hi0 := Int.emod_nonneg n (show ((cs.length : Nat) : Int) ≠ 0 by omega)
  have hi1 := Int.emod_lt_of_pos n (show (0 : Int) < ((cs.length : Nat) : Int) by omega)
  obtain ⟨j, hj, ej⟩ : ∃ j : Nat, j < cs.length ∧ n % ((cs.length : Nat) : Int) = (j : Int) := ⟨(n % ((cs.length : Nat) : Int)).toNat, by omega, by omega⟩
  have hat : (ilv cs)[j]? = some (.int cs[j]) := by
    unfold ilv
    rw [List.getElem?_map, List.getElem?_eq_getElem hj]
    rfl
  have hix : ixN (ilv cs).length (j : Int) = some j := by
    unfold ixN
    rw [ilv_len, if_pos (by omega), if_pos (by omega), Int.toNat_natCast]
  unfold lTakeRest
  conv => whnf
  refine ⟨rfl, ?_⟩
  conv => whnf
  refine ⟨.int n, rfl, ?_⟩
  conv => whnf
  rw [ilv_len]
  refine ⟨(show (0 : Int) < ((cs.length : Nat) : Int) by omega), ?_⟩
  conv => whnf
  dsimp only
  rw [ej]
  refine ⟨rfl, ?_⟩
  conv => whnf
  refine ⟨rfl, ?_⟩
  conv => whnf
  refine ⟨_, atI_nat hat, ?_⟩
  conv => whnf
  refine ⟨rfl, ?_⟩
  conv => whnf
  have hm0 : ∀ z : Int, 0 ≤ z % m ∧ z % m < m := fun z => ⟨Int.emod_nonneg z (by omega), Int.emod_lt_of_pos z h0⟩
  refine ⟨fun _ => ?_, fun _ => ?_⟩
  · conv => whnf
    refine ⟨⟨h0, h1⟩, ?_⟩
    conv => whnf
    refine ⟨rfl, ?_⟩
    conv => whnf
    refine ⟨j, hix, ?_⟩
    conv => whnf
    refine ⟨h0, ?_⟩
    dsimp only
    have e := hk (cs[j] % m) n (cs.set j (cs[j] / m)) (.v (.int j)) (.v (.int cs[j])) .no (hm0 _).1 (hm0 _).2 (fun z => hc (by
      have := congrArg List.length z
      rw [List.length_set] at this
      exact List.eq_nil_of_length_eq_zero this))
    rw [← ilv_set] at e
    exact e
  · conv => whnf
    refine ⟨rfl, ?_⟩
    conv => whnf
    refine ⟨.int n, rfl, ?_⟩
    conv => whnf
    refine ⟨rfl, ?_⟩
    conv => whnf
    refine ⟨0, rfl, ?_⟩
    conv => whnf
    refine ⟨.inr ⟨by decide, by decide⟩, ?_⟩
    conv => whnf
    refine ⟨rfl, ?_⟩
    conv => whnf
    refine ⟨_, rfl, ?_⟩
    conv => whnf
    refine ⟨.inr ⟨by decide, by decide⟩, ?_⟩
    conv => whnf
    refine ⟨(show (0 : Int) < 2147483647 by decide), ?_⟩
    conv => whnf
    refine ⟨rfl, ?_⟩
    conv => whnf
    refine ⟨.inr ⟨by decide, by decide⟩, ?_⟩
    conv => whnf
    refine ⟨rfl, ?_⟩
    conv => whnf
    refine ⟨_, rfl, ?_⟩
    conv => whnf
    refine ⟨.inr ⟨by decide, by decide⟩, ?_⟩
    conv => whnf
    refine ⟨(show (0 : Int) < 1000000007 by decide), ?_⟩
    conv => whnf
    refine ⟨rfl, ?_⟩
    conv => whnf
    refine ⟨⟨by decide, by decide⟩, ?_⟩
    conv => whnf
    refine ⟨h0, ?_⟩
    exact hk _ _ cs _ _ _ (hm0 _).1 (hm0 _).2 hc
section
variable {B : Fm} {K : PySem.W.Frag}
theorem take_ok {N : List Str} (hN : N.length = 6) {tb : TS} (hb : SS B K W0 tb lTakeRest) {vs : List V} {H : Hp} {Q : VK} {E : XK} (h : FnL0 B K 2 sp_take vs H Q E) :
    tSeq (tAsg (tOp (rIxL K) (tVar 0) (tC (.int 1))) (gName 2)) tb { nx := fun _ H' => Q .non H', rt := Q } (L2.start N vs) H := by
  obtain ⟨X, es, F, k, hl, S, g, ok, nx⟩ := h
  unfold sp_take at g
  split at g
  · rename_i A m
    obtain ⟨rfl, h0, h1, hk⟩ := g
    obtain ⟨v0, v1, rfl⟩ : ∃ v0 v1, vs = [v0, v1] := by
      have := S.len
      rw [List.length_map] at this
      match vs, this with
      | [a, b], _ => exact ⟨a, b, rfl⟩
    obtain ⟨v, ev, p, q, n, cs, rfl, ne, hp, hq, hc, hf⟩ := S.ent 0 (.x stO) (some v0) rfl rfl
    cases ev
    obtain ⟨v, ev, rm⟩ := (S.ent 1 (.v (.int m)) (some v1) rfl rfl).1
    cases ev
    rw [rm.int_inv] at S ok ⊢
    have hs : L2.start N [V.ref p, V.int m] = [some (.ref p), some (.int m), none, none, none, none] := by
      unfold L2.start
      rw [hN]
      rfl
    rw [hs]
    refine ⟨.ref p, rfl, p, [.int n, .ref q], 1, .ref q, rfl, rfl, l_of hp, rfl, ?_⟩
    have FX : ∀ a, a = p ∨ a = q → ¬ X a := fun a z => S.disX 0 a ((hf a).mpr z)
    let F2 : Fp := fun i a => (i = 0 ∧ a = p) ∨ (i = 2 ∧ a = q)
    have f0 : ∀ a, F2 0 a ↔ a = p := fun a => ⟨fun z => z.elim (fun z => z.2) (fun z => (by cases z.1)), fun z => .inl ⟨rfl, z⟩⟩
    have f2 : ∀ a, F2 2 a ↔ a = q := fun a => ⟨fun z => z.elim (fun z => (by cases z.1)) (fun z => z.2), fun z => .inr ⟨rfl, z⟩⟩
    have fn : ∀ i a, i ≠ 0 → i ≠ 2 → ¬ F2 i a := fun i a z z' w => w.elim (fun w => z w.1) fun w => z' w.1
    have S2 : Sr B K X [.p [.int n, .op (.ref q)], .v (.int m), .p (ilv cs), .no, .no, .no] [some (.ref p), some (.int m), some (.ref q), none, none, none] H [] F2 := by
      refine ⟨S.good, S.sub, rfl, fun i e u a b => ?_, fun i a z => ?_, fun i j a z z' => ?_, fun i a z => ?_, S.hasX, fun t m => by cases m⟩
      · match i with
        | 0 =>
          cases a
          cases b
          exact ⟨p, _, rfl, hp, .cons (.int n) (.one (.op _)), f0⟩
        | 1 =>
          cases a
          cases b
          exact ⟨⟨_, rfl, .int m⟩, fun a => fn 1 a (by decide) (by decide)⟩
        | 2 =>
          cases a
          cases b
          exact ⟨q, _, rfl, hq, rps_of_ilv, f2⟩
        | 3 =>
          cases a
          exact fun a => fn 3 a (by decide) (by decide)
        | 4 =>
          cases a
          exact fun a => fn 4 a (by decide) (by decide)
        | 5 =>
          cases a
          exact fun a => fn 5 a (by decide) (by decide)
        | i + 6 => cases a
      · rcases z with z | z <;> rw [z.1] <;> first | exact (show 0 < 6 by decide) | exact (show 2 < 6 by decide)
      · rcases z with z | z <;> rcases z' with z' | z'
        · rw [z.1, z'.1]
        · exact (ne (by rw [← z.2, ← z'.2])).elim
        · exact (ne (by rw [← z.2, ← z'.2])).elim
        · rw [z.1, z'.1]
      · rcases z with z | z
        · exact FX a (.inl z.2)
        · exact FX a (.inr z.2)
    refine hb X _ _ H [] F2 (fun o => match o with
      | .rt x Λ' => ∃ (z n' : Int) (cs' : List Int) (e3 e4 e5 : Ent), x = .int z ∧ 0 ≤ z ∧ z < m ∧ cs' ≠ [] ∧ Λ' = [.p [.int n', .op (.ref q)], .v (.int m), .p (ilv cs'), e3, e4, e5]
      | _ => False) _ S2 (take_logic hc h0 h1 fun z n' cs' e3 e4 e5 z0 z1 hc' => ⟨z, n', cs', e3, e4, e5, rfl, z0, z1, hc', rfl⟩) ⟨fun _ _ _ _ z => z.elim, fun x v Λ' σ' H' F' hk2 S' r q' => ?_, fun _ _ _ _ z => z.elim, fun _ _ _ _ z => z.elim, fun _ _ _ _ _ _ _ _ _ z => z.elim, fun _ _ _ _ _ _ _ z => z.elim, fun _ _ _ _ _ _ z => z.elim⟩
    obtain ⟨z, n', cs', e3, e4, e5, rfl, z0, z1, hc', rfl⟩ := hk2
    rw [r.int_inv]
    obtain ⟨s0, _⟩ := q'.pin 0 _ rfl rfl
    obtain ⟨s2, _⟩ := q'.pin 2 _ rfl rfl
    obtain ⟨p', ws, hs0, hp', rr, g0⟩ := S'.ownl (i := 0) rfl rfl
    obtain ⟨q2, us, hs2, hq', rr2, g2⟩ := S'.ownl (i := 2) rfl rfl
    rw [hs0] at s0
    cases s0
    rw [hs2] at s2
    cases s2
    obtain ⟨w0, w1, rfl, r0, r1⟩ := rr.two_inv
    rw [r0.int_inv, r1.op_inv] at hp'
    rw [rps_ilv rr2] at hq'
    let F3 : Fp := fun i a => i = 0 ∧ (a = p ∨ a = q)
    have S3 : Sr B K X [.x stO, .v (.int m)] ([V.ref p, V.int m].map some) H' [] F3 := by
      refine ⟨S'.good, S.sub, rfl, fun i e u a b => ?_, fun i a z => ?_, fun i j a z z' => by rw [z.1, z'.1], fun i a z => FX a z.2, S'.hasX, fun t m => by cases m⟩
      · match i with
        | 0 =>
          cases a
          cases b
          exact ⟨_, rfl, p, q, n', cs', rfl, ne, hp', hq', hc', fun a => ⟨fun z => z.2, fun z => ⟨rfl, z⟩⟩⟩
        | 1 =>
          cases a
          cases b
          exact ⟨⟨_, rfl, .int m⟩, fun a z => by cases z.1⟩
        | i + 2 => cases a
      · rw [z.1]
        exact (show 0 < 2 by decide)
    refine ok _ _ _ _ F3 (hk z z0 z1) S3 (.int z) ⟨fun a o ha nb nf => q'.keep a o ha nb fun i w => ?_, fun i a w => ?_, q'.all, fun i e a b => ⟨rfl, e, a, b⟩, rfl⟩
    · rcases w with w | w
      · exact nf 0 ((hf a).mpr (.inl w.2))
      · exact nf 0 ((hf a).mpr (.inr w.2))
    · exact .inl ⟨0, (hf a).mpr w.2⟩
  · exact g.elim
end
end Lg
set_option Elab.async false
set_option linter.all false
set_option maxRecDepth 100000
set_option maxHeartbeats 2000000
/-! a call that makes a thing of one's own; the state made; bits drawn -/
namespace Lg
open PySem PySem.Spec PyProof.Rows L2 Cw
/-- a def that takes values and hands out a new thing of one's own -/
def FnO0 (B : Fm) (K : PySem.W.Frag) (n : Nat) (A : Own) (g : List LV → Prop) : Sp := fun vs H Q E => ∃ X xs, xs.length = n ∧ Sr B K X (xs.map .v) (vs.map some) H [] Fp.no ∧ g xs ∧
  ∀ v H' G, Good B H' → (∀ a o, H a = some o → a ∉ B → H' a = some o) → A.rep K (fun a => X a ∨ G a) H' v G → (∀ a, G a → H a = none) → Q v H'
def lSetX (i : Nat) (A : Own) (n : Nat) (g : List LV → Prop) (lr : LA) : LS := fun Λ k => lr Λ (sk k fun xs Λ1 => xs.length = n ∧ g xs ∧ stb Λ1 i = true ∧ k (.nx (Λ1.set i (.x A))))
section
variable {B : Fm} {K : PySem.W.Frag} {W : WX} {tr : TA} {lr : LA}
theorem fno_len {n : Nat} {A : Own} {g : List LV → Prop} {vs : List V} {H : Hp} {Q : VK} {E : XK} (h : FnO0 B K n A g vs H Q E) : vs.length = n := by
  obtain ⟨X, xs, hl, S, _⟩ := h
  have := S.len
  rw [List.length_map, List.length_map] at this
  omega
theorem ss_setX {i n : Nat} {A : Own} {g : List LV → Prop} {E : XK} (hr : SA B K W tr lr) : SS B K W (tAsg (tCall (FnO0 B K n A g) [] E tr) (gName i)) (lSetX i A n g lr) := by
  intro X Λ σ H τ F k D S h c
  refine hr X Λ σ H τ F _ _ S h (c.cn (fun _ _ _ _ z => z) fun xs vs Λ1 H1 F1 g1 S1 r1 q1 => ?_)
  obtain ⟨hl, hg, hst, hk⟩ := g1
  obtain ⟨hi, hp⟩ := stb_pin hst
  rw [List.append_nil]
  refine ⟨Nn X F1, xs, hl, args_sr S1 r1, hg, fun v H' G gd keep rep fresh => ?_⟩
  obtain ⟨S2, q2⟩ := S1.heap gd keep
  have nG : ∀ a, G a → ¬ Nn X F1 a := fun a z => S1.free (fresh a z)
  let F2 : Fp := fun j a => (j ≠ i ∧ F1 j a) ∨ (j = i ∧ G a)
  have st : Stp (Nn X F1) H1 (Nn X F2) H' := fun a o h n => by
    refine ⟨fun z => ?_, keep a o h fun m => n (.inl (S1.sub a m))⟩
    rcases z with z | ⟨j, z | z⟩
    · exact n (.inl z)
    · exact n (.inr ⟨j, z.2⟩)
    · have := fresh a z.2
      rw [h] at this
      cases this
  have st2 : Stp (fun a => Nn X F1 a ∨ G a) H' (Nn X F2) H' := fun a o h n => ⟨fun z => by
    rcases z with z | ⟨j, z | z⟩
    · exact n (.inl (.inl z))
    · exact n (.inl (.inr ⟨j, z.2⟩))
    · exact n (.inr z.2), h⟩
  refine c.nx _ (σ.set i (some v)) H' F2 hk ⟨gd, S1.sub, by rw [List.length_set, List.length_set, S1.len], fun j e u h1 h2 => ?_, fun j a z => ?_, fun j l a z z' => ?_, fun j a z w => ?_, S2.hasX, fun t m => (S1.tmp t m).mono st⟩ (q1.trans S1.good ⟨fun a o h nb _ => keep a o h nb, fun j a z => ?_, q2.all, fun j e h1 hp1 => ?_, List.length_set ..⟩)
  · rw [List.getElem?_set] at h1 h2
    rw [S1.len] at h1
    by_cases q : i = j
    · rw [if_pos q] at h1 h2
      split at h1
      · rename_i z
        rw [if_pos z] at h2
        cases h1
        cases h2
        have eF : F2 j = G := by
          funext a
          exact propext ⟨fun z => z.elim (fun z => (z.1 q.symm).elim) fun z => z.2, fun z => .inr ⟨q.symm, z⟩⟩
        rw [eF]
        exact ⟨v, rfl, A.mono rep st2 fun _ _ => rfl⟩
      · cases h1
    · rw [if_neg q] at h1 h2
      have eF : F2 j = F1 j := by
        funext a
        exact propext ⟨fun z => z.elim (fun z => z.2) fun z => (q z.1.symm).elim, fun z => .inl ⟨fun w => q w.symm, z⟩⟩
      rw [eF]
      refine (S1.ent j e u h1 h2).mono st fun a m => ?_
      obtain ⟨o, ho⟩ := S1.has (.inr ⟨j, m⟩)
      rw [ho]
      exact keep a o ho fun mb => S1.disX j a m (S1.sub a mb)
  · rw [List.length_set]
    rcases z with z | z
    · exact S1.out j a z.2
    · rw [z.1]
      exact hi
  · rcases z with z | z <;> rcases z' with z' | z'
    · exact S1.dis j l a z.2 z'.2
    · exact (nG a z'.2 (.inr ⟨j, z.2⟩)).elim
    · exact (nG a z.2 (.inr ⟨l, z'.2⟩)).elim
    · rw [z.1, z'.1]
  · rcases z with z | z
    · exact S1.disX j a z.2 w
    · exact nG a z.2 (.inl w)
  · rcases z with z | z
    · exact .inl ⟨j, z.2⟩
    · exact .inr (fresh a z.2)
  · have ne : i ≠ j := fun z => by
      rw [hp e (by rw [z]; exact h1)] at hp1
      cases hp1
    exact ⟨List.getElem?_set_ne ne, e, by rw [List.getElem?_set_ne ne]; exact h1, hp1⟩
end
/-! ### the state made -/
abbrev gState : List LV → Prop := fun xs => ∃ ns, xs = [.scr ns] ∧ scrOk ns
def lStA : LS := lSetL 1 (lLc (lItL (lNew (lSl (lVar 0) lNoPart (lPart (lC (.int 63)))))) (lgName 2) lYes (lCB fAbs (lCons (lVar 2) lNil)) [2])
def lStB : LS := lIf (lTest (lOp (fEq false) (lLenO 1) (lC (.int 0)))) (lSetL 1 (lLst (lCons (lC (.int 0)) lNil))) lNext
theorem ilv_app (l : List Int) (c : Int) : ilv l ++ [.int c] = ilv (l ++ [c]) := by
  unfold ilv
  rw [List.map_append]
  rfl
theorem state_logic {ns : List Int} {k : Out → Prop} (hs : scrOk ns) (hk : ∀ (cs : List Int), cs ≠ [] → k (.nx [.v (.scr ns), .l (ilv cs), .no])) : lSeq lStA lStB [.v (.scr ns), .no, .no] k := by
  obtain ⟨l2, hl2, hlen, _⟩ := ilv_cut ns none (some 63)
  unfold lStA lStB
  conv => whnf
  rw [hl2]
  refine ⟨fun i acc Λ => ∃ cs : List Int, Λ = [.v (.scr ns), .no, .no] ∧ acc = ilv cs ∧ cs.length = i, ⟨[], rfl, rfl, rfl⟩, ?_, ?_⟩
  · rintro i y acc Λ hy ⟨cs, rfl, rfl, hcs⟩
    obtain ⟨z, hz, rfl⟩ := ilv_get hy
    have hi := (List.getElem?_eq_some_iff.mp hz).1
    refine ⟨rfl, ?_⟩
    conv => whnf
    refine ⟨rfl, ?_⟩
    conv => whnf
    refine ⟨fun _ => ?_, fun hb => by cases hb⟩
    conv => whnf
    refine ⟨by rw [ilv_len]; have := hs.1; omega, cs ++ [_], rfl, ilv_app _ _, by rw [List.length_append, hcs]; rfl⟩
  · rintro acc Λ ⟨cs, rfl, rfl, hcs⟩
    conv => whnf
    refine ⟨rfl, ?_⟩
    conv => whnf
    refine ⟨fun _ => ?_, fun hb => ?_⟩
    · conv => whnf
      refine ⟨(show 1 ≤ 100000 by decide), ?_⟩
      conv => whnf
      refine ⟨rfl, ?_⟩
      exact hk [0] (fun z => by cases z)
    · refine hk cs fun z => ?_
      subst z
      cases hb
section
variable {B : Fm} {K : PySem.W.Frag}
theorem state_ok {N : List Str} (hN : N.length = 3) {t1 t2 : TS} (h1 : SS B K W0 t1 lStA) (h2 : SS B K W0 t2 lStB) {vs : List V} {H : Hp} {Q : VK} {E : XK} (h : FnO0 B K 1 stO gState vs H Q E) :
    tSeq t1 (tSeq t2 (tRet (tLst (tCons (tC (.int 0)) (tCons (tVar 1) tNil))))) { nx := fun _ H' => Q .non H', rt := Q } (L2.start N vs) H := by
  obtain ⟨X, xs, hl, S, ⟨ns, rfl, hs⟩, hq⟩ := h
  obtain ⟨v0, rfl⟩ : ∃ v0, vs = [v0] := by
    have := S.len
    rw [List.length_map, List.length_map] at this
    match vs, this with
    | [a], _ => exact ⟨a, rfl⟩
  have e0 : L2.start N [v0] = [some v0, none, none] := by
    unfold L2.start
    rw [hN]
    rfl
  rw [e0]
  have S0 : Sr B K X [.v (.scr ns), .no, .no] [some v0, none, none] H [] Fp.no := by
    refine ⟨S.good, S.sub, rfl, fun i e u a b => ?_, fun _ _ z => z.elim, fun _ _ _ z => z.elim, fun _ _ z => z.elim, S.hasX, fun t m => by cases m⟩
    match i with
    | 0 =>
      cases a
      cases b
      exact S.ent 0 _ _ rfl rfl
    | 1 =>
      cases a
      exact fun _ z => z
    | 2 =>
      cases a
      exact fun _ z => z
    | i + 3 => cases a
  refine ss_seq h1 h2 X _ _ H [] Fp.no (fun o => match o with
    | .nx Λ' => ∃ cs : List Int, cs ≠ [] ∧ Λ' = [.v (.scr ns), .l (ilv cs), .no]
    | _ => False) { nx := tRet (tLst (tCons (tC (.int 0)) (tCons (tVar 1) tNil))) { nx := fun _ H' => Q .non H', rt := Q }, rt := Q } S0 (state_logic hs fun cs hc => ⟨cs, hc, rfl⟩) ⟨fun Λ' σ' H' F' hk S' q => ?_, fun _ _ _ _ _ _ z => z.elim, fun _ _ _ _ z => z.elim, fun _ _ _ _ z => z.elim, fun _ _ _ _ _ _ _ _ _ z => z.elim, fun _ _ _ _ _ _ _ z => z.elim, fun _ _ _ _ _ _ z => z.elim⟩
  obtain ⟨cs, hc, rfl⟩ := hk
  obtain ⟨q1, ws, hs1, hq1, rr, f1⟩ := S'.ownl (i := 1) rfl rfl
  rw [rps_ilv rr] at hq1
  refine ⟨.ref q1, hs1, (show 2 ≤ sizeLine by decide), fun p hp => ?_⟩
  have np := S'.free hp
  have ne : p ≠ q1 := fun z => by
    rw [z, hq1] at hp
    cases hp
  refine hq _ _ (fun a => a = p ∨ a = q1) (S'.good.upd fun m => np (.inl (S.sub p m))) (fun a o ha nb => ?_) ⟨p, q1, 0, cs, rfl, ne, upd_same, by rw [upd_ne ne.symm]; exact hq1, hc, fun a => Iff.rfl⟩ fun a z => ?_
  · have := q.keep a o ha nb fun _ z => z
    rw [upd_ne (ne_of_none this hp)]
    exact this
  · rcases z with z | z
    · rw [z]
      exact q.back hp
    · rw [z]
      rcases q.own 1 q1 ((f1 q1).mpr rfl) with ⟨_, w⟩ | w
      · exact w.elim
      · exact w
end
end Lg
set_option Elab.async false
set_option linter.all false
set_option maxRecDepth 100000
set_option maxHeartbeats 2000000
/-! objects of one's own: methods, attributes; expressions that change nothing -/
namespace Lg
open PySem PySem.Spec PyProof.Rows L2 Cw
def recv (Λ : Env) (i : Nat) (C : Addr) (m : Str) : Prop := match Λ[i]? with
  | some (.o C' fs) => C' = C ∧ (fs.map (·.1)).contains m = false
  | _ => False
/-- x.m(..), x an object of one's own -/
def lMethM (C : Addr) (m : Str) (n : Nat) (f : FSp) (i : Nat) (lr : LAM) : LE := fun Λ k => recv Λ i C m ∧ lr Λ (bk k fun ps Λ1 => ((Ar.own i :: ps).length = n ∧ ndA (.own i :: ps) = true ∧ argOk Λ1 (.own i :: ps) = true) ∧ f (argE Λ1 (.own i :: ps)) fun o => match o with
  | .ok x es => bkOk (.own i :: ps) es = true ∧ k (.ok x (putE Λ1 (.own i :: ps) es))
  | .ex _ _ _ _ => False)
theorem lookup_no {β : Type} : ∀ {us : List (Str × β)} {f : Str}, (us.map (·.1)).contains f = false → us.lookup f = none
  | [], _, _ => rfl
  | (g, u) :: s, f, h => by
    rw [List.map_cons, List.contains_cons, Bool.or_eq_false_iff] at h
    rw [List.lookup_cons, h.1]
    exact lookup_no h.2
theorem lookup_relA {α β : Type} : ∀ {fs : List (Str × α)} {us : List (Str × β)} {f : Str} {y : α}, fs.map (·.1) = us.map (·.1) → fs.lookup f = some y → ∃ (i : Nat) (v : β), (fs.map (·.2))[i]? = some y ∧ (us.map (·.2))[i]? = some v ∧ us.lookup f = some v
  | [], _, _, _, _, h => by cases h
  | (g, x) :: r, [], _, _, e, _ => by cases e
  | (g, x) :: r, (g', u) :: s, f, y, e, h => by
    have e1 : g = g' := (List.cons.inj e).1
    have e2 : r.map (·.1) = s.map (·.1) := (List.cons.inj e).2
    subst e1
    by_cases hf : (f == g) = true
    · rw [List.lookup_cons, hf] at h
      cases h
      exact ⟨0, u, rfl, rfl, by rw [List.lookup_cons, hf]⟩
    · have hf' : (f == g) = false := by simpa using hf
      rw [List.lookup_cons, hf'] at h
      obtain ⟨i, v, h1, h2, h3⟩ := lookup_relA e2 h
      exact ⟨i + 1, v, h1, h2, by rw [List.lookup_cons, hf']; exact h3⟩
/-- what changes nothing of one's own -/
abbrev LQ := Env → (LV → Prop) → Prop
abbrev LQA := Env → (List LV → Prop) → Prop
def Stay (B : Fm) (H H' : Hp) : Prop := ∀ a o, H a = some o → a ∉ B → H' a = some o
theorem Stay.refl {B : Fm} {H : Hp} : Stay B H H := fun _ _ h _ => h
theorem Stay.trans {B : Fm} {H H1 H2 : Hp} (a : Stay B H H1) (b : Stay B H1 H2) : Stay B H H2 := fun x o h n => b x o (a x o h n) n
def SQ (B : Fm) (K : PySem.W.Frag) (te : TE) (lq : LQ) : Prop := ∀ X Λ σ H τ F k Q, Sr B K X Λ σ H τ F → lq Λ k → (∀ x v H', k x → Sr B K X Λ σ H' τ F → Rp (Nn X F) K H' x v → Stay B H H' → Q v H') → te σ H Q
def SQA (B : Fm) (K : PySem.W.Frag) (tr : TA) (lr : LQA) : Prop := ∀ X Λ σ H τ F k Q, Sr B K X Λ σ H τ F → lr Λ k → (∀ xs vs H', k xs → Sr B K X Λ σ H' τ F → Rps (Nn X F) K H' xs vs → Stay B H H' → Q vs H') → tr σ H Q
def lqVar (i : Nat) : LQ := fun Λ k => match Λ[i]? with
  | some (.v x) => k x
  | _ => False
def lqC (x : LV) : LQ := fun _ k => k x
def lqF (i : Nat) (C : Addr) (f : Str) : LQ := fun Λ k => match Λ[i]? with
  | some (.o C' fs) => C' = C ∧ match fs.lookup f with
    | some (.v y) => k y
    | _ => False
  | _ => False
/-- x.f, a list of x's own -/
def ownF (Λ : Env) (i : Nat) (C : Addr) (f : Str) (k : List LV → Prop) : Prop := match Λ[i]? with
  | some (.o C' fs) => C' = C ∧ match fs.lookup f with
    | some (.l xs) => k xs
    | _ => False
  | _ => False
def lqLenF (i : Nat) (C : Addr) (f : Str) : LQ := fun Λ k => ownF Λ i C f fun xs => k (.int (xs.length : Nat))
def lqIxF (i : Nat) (C : Addr) (f : Str) (lb : LQ) : LQ := fun Λ k => ownF Λ i C f fun xs => lb Λ fun y => match y with
  | .int j => ∃ z, atI xs j = some z ∧ k z
  | _ => False
def lqI (C : Int → Int → Prop) (g : Int → Int → LV) (la lb : LQ) : LQ := fun Λ k => la Λ fun x => lb Λ fun y => match x, y with
  | .int i, .int j => C i j ∧ k (g i j)
  | _, _ => False
def lqNil : LQA := fun _ k => k []
def lqCons (la : LQ) (lr : LQA) : LQA := fun Λ k => la Λ fun x => lr Λ fun xs => k (x :: xs)
def lqTup (lr : LQA) : LQ := fun Λ k => lr Λ fun xs => xs.length ≤ 100000 ∧ k (.tup xs)
def lOfQ (lq : LQ) : LE := fun Λ k => lq Λ fun x => k (.ok x Λ)
section
variable {B : Fm} {K : PySem.W.Frag} {W : WX} {te ta tb : TE} {la lb lq : LQ} {tr : TA} {lr : LQA}
theorem obj_at {X : Ad} {Λ : Env} {σ : L2.St} {H : Hp} {τ : List (LV × V)} {F : Fp} {i : Nat} {C : Addr} {fs : List (Str × Fd)} (S : Sr B K X Λ σ H τ F) (h : Λ[i]? = some (.o C fs)) :
    ∃ p dx us Fi, σ[i]? = some (some (.ref p)) ∧ ObjAt (Nn X F) K H C fs (F i) p dx us Fi := by
  obtain ⟨u, hu, p, dx, us, Fi, rfl, ob⟩ := S.slot h
  exact ⟨p, dx, us, Fi, hu, ob⟩
theorem Sr.stay {X : Ad} {Λ : Env} {σ : L2.St} {H H' : Hp} {τ : List (LV × V)} {F : Fp} {i : Nat} {a : Addr} {o : HO} (S : Sr B K X Λ σ H τ F) (s : Stay B H H') (m : F i a) (h : H a = some o) : H' a = some o := s a o h fun mb => S.disX i a m (S.sub a mb)
theorem Stay.stp {X : Ad} {H H' : Hp} {F : Fp} (s : Stay B H H') (sub : ∀ a, a ∈ B → X a) : Stp (Nn X F) H (Nn X F) H' := fun a o h n => ⟨n, s a o h fun m => n (.inl (sub a m))⟩
theorem se_q (h : SQ B K te lq) : SE B K W te (lOfQ lq) := fun X Λ σ H τ F k Q S g c => h X Λ σ H τ F _ _ S g fun x v H' hk S' r s => by
  obtain ⟨_, q⟩ := S.heap S'.good s
  exact c.ok _ _ _ _ _ hk S' r q
theorem sq_var {i : Nat} : SQ B K (tVar i) (lqVar i) := fun X Λ σ H τ F k Q S h c => by
  unfold lqVar at h
  split at h
  · rename_i x e
    obtain ⟨v, hv, r⟩ := S.get e
    exact ⟨v, hv, c _ _ _ h S r .refl⟩
  · exact h.elim
theorem sq_c {x : LV} {v : V} (hx : ∀ N H, Rp N K H x v) : SQ B K (tC v) (lqC x) := fun X Λ σ H τ F k Q S h c => c _ _ _ h S (hx _ _) .refl
theorem sq_int {i : Int} : SQ B K (tC (.int i)) (lqC (.int i)) := sq_c fun _ _ => .int i
theorem sq_f {i : Nat} {C : Addr} {f : Str} (hc : Cls K C) (hn : NoAttr K C f) : SQ B K (tFld K (tVar i) f) (lqF i C f) := fun X Λ σ H τ F k Q S h c => by
  unfold lqF at h
  split at h
  · rename_i C' fs e
    obtain ⟨rfl, h⟩ := h
    split at h
    · rename_i y ey
      obtain ⟨p, dx, us, Fi, hs, ob⟩ := obj_at S e
      obtain ⟨j, v, e1, e2, e3⟩ := lookup_relA ob.nm ey
      exact ⟨.ref p, hs, p, C', dx, us, v, rfl, ob.ins, hc, hn, e3, c _ _ _ h S (ob.fd j _ _ e1 e2).1 .refl⟩
    · exact h.elim
  · exact h.elim
/-- the list that an attribute holds -/
theorem own_f {X : Ad} {Λ : Env} {σ : L2.St} {H : Hp} {τ : List (LV × V)} {F : Fp} {i : Nat} {C : Addr} {f : Str} {k : List LV → Prop} {Q : VK} (S : Sr B K X Λ σ H τ F) (hc : Cls K C) (hn : NoAttr K C f) (h : ownF Λ i C f k)
    (c : ∀ q xs vs, k xs → F i q → H q = some (.lst vs) → Rps (Nn X F) K H xs vs → Q (.ref q) H) : tFld K (tVar i) f σ H Q := by
  unfold ownF at h
  split at h
  · rename_i C' fs e
    obtain ⟨rfl, h⟩ := h
    split at h
    · rename_i xs ey
      obtain ⟨p, dx, us, Fi, hs, ob⟩ := obj_at S e
      obtain ⟨j, v, e1, e2, e3⟩ := lookup_relA ob.nm ey
      obtain ⟨q, vs, rfl, hq, rr, hf⟩ := ob.fd j _ _ e1 e2
      exact ⟨.ref p, hs, p, C', dx, us, .ref q, rfl, ob.ins, hc, hn, e3, c q xs vs h ((ob.F_ q).mpr (.inr (.inr ⟨j, (hf q).mpr rfl⟩))) hq rr⟩
    · exact h.elim
  · exact h.elim
theorem sq_lenF {i : Nat} {C : Addr} {f : Str} (hc : Cls K C) (hn : NoAttr K C f) : SQ B K (tCB (fun xs H Q => ∃ p ys, xs = [.ref p] ∧ (SqL K H p ys ∨ SqT K H p ys) ∧ Q (.int ys.length) H) (tCons (tFld K (tVar i) f) tNil)) (lqLenF i C f) := fun X Λ σ H τ F k Q S h c =>
  own_f S hc hn h fun q xs vs hk _ hq rr => ⟨q, vs, rfl, .inl (l_of hq), by rw [← rr.len]; exact c _ _ _ hk S (.int _) .refl⟩
theorem sq_ixF {i : Nat} {C : Addr} {f : Str} (hc : Cls K C) (hn : NoAttr K C f) (hb : SQ B K tb lb) : SQ B K (tOp (rIxL K) (tFld K (tVar i) f) tb) (lqIxF i C f lb) := fun X Λ σ H τ F k Q S h c =>
  own_f S hc hn h fun q xs vs hk m hq rr => hb X Λ σ H τ F _ _ S hk fun y u H1 h1 S1 r1 s1 => by
    split at h1
    · obtain ⟨z, ez, hz⟩ := h1
      have hq1 := S.stay s1 m hq
      have rr1 := rr.mono (s1.stp S.sub)
      obtain ⟨n, w, n1, n2, n3⟩ := atI_map rr1.len ez
      exact ⟨q, vs, _, w, rfl, r1.int_inv, l_of hq1, n3, c _ _ _ hz S1 (rr1.get n _ _ n1 n2) s1⟩
    · exact h1.elim
theorem sq_i {C : Int → Int → Prop} {g : Int → Int → V} {g' : Int → Int → LV} (hg : ∀ N H i j, Rp N K H (g' i j) (g i j)) (ha : SQ B K ta la) (hb : SQ B K tb lb) : SQ B K (tOp (rI C g) ta tb) (lqI C g' la lb) := fun X Λ σ H τ F k Q S h c =>
  ha X Λ σ H τ F _ _ S h fun x v H1 h1 S1 r1 s1 => hb X Λ σ H1 ((x, v) :: τ) F _ _ (S1.push r1) h1 fun y u H2 h2 S2 r2 s2 => by
    obtain ⟨rx, S2'⟩ := S2.pop
    split at h2
    · exact ⟨_, _, rx.int_inv, r2.int_inv, h2.1, c _ _ _ h2.2 S2' (hg _ _ _ _) (s1.trans s2)⟩
    · exact h2.elim
theorem sqa_nil : SQA B K tNil lqNil := fun X Λ σ H τ F k Q S h c => c _ _ _ h S .nil .refl
theorem sqa_cons (ha : SQ B K ta la) (hr : SQA B K tr lr) : SQA B K (tCons ta tr) (lqCons la lr) := fun X Λ σ H τ F k Q S h c =>
  ha X Λ σ H τ F _ _ S h fun x v H1 h1 S1 r1 s1 => hr X Λ σ H1 ((x, v) :: τ) F _ _ (S1.push r1) h1 fun xs vs H2 h2 S2 r2 s2 => by
    obtain ⟨rx, S2'⟩ := S2.pop
    exact c _ _ _ h2 S2' (.cons rx r2) (s1.trans s2)
theorem sq_tup (hr : SQA B K tr lr) : SQ B K (tTup tr) (lqTup lr) := fun X Λ σ H τ F k Q S h c =>
  hr X Λ σ H τ F _ _ S h fun xs vs H1 h1 S1 r1 s1 => ⟨Nat.le_trans (by rw [← r1.len]; exact h1.1) (by decide), fun p hp => by
    obtain ⟨S2, q2, n2⟩ := S1.new (o := .tup vs) hp
    have s2 : Stay B H1 (upd H1 p (.tup vs)) := fun a o h _ => by
      rw [upd_ne (ne_of_none h hp)]
      exact h
    exact c _ _ _ h1.2 S2 (.tup' ⟨n2, upd_same⟩ (r1.mono (s2.stp S1.sub))) (s1.trans s2)⟩
theorem se_methM {C : Addr} {m : Str} {n i : Nat} {f : FSp} {E : XK} {lm : LAM} (hr : SAM B K W tr lm) : SE B K W (tMeth C m (FnL0 B K n f) [] E (tVar i) tr) (lMethM C m n f i lm) := by
  intro X Λ σ H τ F k Q S h c
  obtain ⟨h0, h⟩ := h
  unfold recv at h0
  split at h0
  · rename_i C' fs e
    obtain ⟨rfl, hm⟩ := h0
    obtain ⟨p, dx, us, Fi, hs, ob⟩ := obj_at S e
    refine ⟨.ref p, hs, p, dx, us, rfl, ob.ins, lookup_no (by rw [← ob.nm]; exact hm), ?_⟩
    refine hr X Λ σ H τ F _ _ S h (c.bk (τ' := τ) fun ps vs Λ1 H1 F1 g S1 r1 q1 => ?_)
    rw [List.append_nil]
    exact callM_core S1 (.cons (a := .own i) hs r1) g fun x v Λ' H' F' hk S2 rx q2 => c.ok _ _ _ _ _ hk S2 rx (q1.trans S1.good q2)
  · exact h0.elim
end
end Lg
set_option Elab.async false
set_option linter.all false
set_option maxRecDepth 100000
set_option maxHeartbeats 2000000
/-! objects of one's own that change: lists and dicts that they hold, values that they keep -/
namespace Lg
open PySem PySem.Spec PyProof.Rows L2 Cw
def setF (f : Str) (d : Fd) : List (Str × Fd) → List (Str × Fd)
  | [] => []
  | (g, x) :: r => match f == g with
    | true => (g, d) :: r
    | false => (g, x) :: setF f d r
theorem field_at : ∀ {fs : List (Str × Fd)} {us : List (Str × V)} {f : Str} {d : Fd}, fs.map (·.1) = us.map (·.1) → fs.lookup f = some d → ∃ (j : Nat) (v : V), (fs.map (·.2))[j]? = some d ∧ (us.map (·.2))[j]? = some v ∧ us.lookup f = some v ∧
    (∀ d', (setF f d' fs).map (·.2) = (fs.map (·.2)).set j d' ∧ (setF f d' fs).map (·.1) = fs.map (·.1)) ∧ ∀ v', (putF f v' us).map (·.2) = (us.map (·.2)).set j v' ∧ (putF f v' us).map (·.1) = us.map (·.1)
  | [], _, _, _, _, h => by cases h
  | (g, x) :: r, [], _, _, e, _ => by cases e
  | (g, x) :: r, (g', u) :: s, f, d, e, h => by
    have e1 : g = g' := (List.cons.inj e).1
    have e2 : r.map (·.1) = s.map (·.1) := (List.cons.inj e).2
    subst e1
    by_cases hf : (f == g) = true
    · have hg : g = f := (eq_of_beq hf).symm
      rw [List.lookup_cons, hf] at h
      cases h
      refine ⟨0, u, rfl, rfl, by rw [List.lookup_cons, hf], fun d' => ?_, fun v' => ?_⟩
      · unfold setF
        rw [hf]
        exact ⟨rfl, rfl⟩
      · unfold putF
        rw [if_pos hg]
        exact ⟨rfl, rfl⟩
    · have hf' : (f == g) = false := by simpa using hf
      have hg : ¬ g = f := fun z => by
        rw [z] at hf
        exact hf (beq_self_eq_true f)
      rw [List.lookup_cons, hf'] at h
      obtain ⟨j, v, h1, h2, h3, h4, h5⟩ := field_at e2 h
      refine ⟨j + 1, v, h1, h2, by rw [List.lookup_cons, hf']; exact h3, fun d' => ?_, fun v' => ?_⟩
      · unfold setF
        rw [hf']
        refine ⟨?_, ?_⟩
        · show x :: (setF f d' r).map (·.2) = _
          rw [(h4 d').1]
          rfl
        · show g :: (setF f d' r).map (·.1) = _
          rw [(h4 d').2]
          rfl
      · unfold putF
        rw [if_neg hg]
        refine ⟨?_, ?_⟩
        · show u :: (putF f v' s).map (·.2) = _
          rw [(h5 v').1]
          rfl
        · show g :: (putF f v' s).map (·.1) = _
          rw [(h5 v').2]
          rfl
section
variable {B : Fm} {K : PySem.W.Frag} {W : WX} {X : Ad} {Λ : Env} {σ : L2.St} {H : Hp} {τ : List (LV × V)} {F : Fp}
/-- what stands at q changes, q in the hands of slot i -/
theorem Sr.mutq (S : Sr B K X Λ σ H τ F) {i : Nat} {e e' : Ent} {q : Addr} {o : HO} (h : Λ[i]? = some e) (m : F i q) (pin : e.pin = true → e'.pin = true)
    (hr : Stp (Nn X F) H (Nn X F) (upd H q o) → ∀ u, σ[i]? = some u → entR (Nn X F) K (upd H q o) e' u (F i)) :
    Sr B K X (Λ.set i e') σ (upd H q o) τ F ∧ Kq B Λ σ H F (Λ.set i e') σ (upd H q o) F := by
  have keep : ∀ a x, H a = some x → a ≠ q → upd H q o a = some x := fun a x z n => by
    rw [upd_ne n]
    exact z
  have st : Stp (Nn X F) H (Nn X F) (upd H q o) := fun a x z n => ⟨n, keep a x z fun w => n (.inr ⟨i, by rw [w]; exact m⟩)⟩
  have nB : q ∉ B := fun mb => S.disX i q m (S.sub q mb)
  have hlen : i < Λ.length := (List.getElem?_eq_some_iff.mp h).1
  refine ⟨⟨S.good.upd nB, S.sub, by rw [List.length_set, S.len], fun j e2 u h1 h2 => ?_, fun j a z => by rw [List.length_set]; exact S.out j a z, S.dis, S.disX, fun a z => ?_, fun t z => (S.tmp t z).mono st⟩, ?_⟩
  · rw [List.getElem?_set] at h1
    by_cases z : i = j
    · rw [if_pos z, if_pos hlen] at h1
      cases h1
      rw [← z] at h2 ⊢
      exact hr st u h2
    · rw [if_neg z] at h1
      refine (S.ent j e2 u h1 h2).mono st fun a w => ?_
      exact upd_ne fun y => z (S.dis i j a (by rw [y]; exact m) w)
  · obtain ⟨x, y⟩ := S.hasX a z
    exact ⟨x, keep a x y fun w => S.disX i q m (by rw [← w]; exact z)⟩
  · refine ⟨fun a x z _ nf => keep a x z fun w => nf i (by rw [w]; exact m), fun j a z => .inl ⟨j, z⟩, fun a x z => ?_, fun j e2 h1 hp => ?_, List.length_set ..⟩
    · by_cases w : a = q
      · rw [w, upd_same]
        exact ⟨_, rfl⟩
      · exact ⟨x, keep a x z w⟩
    · by_cases z : i = j
      · refine ⟨rfl, e', by rw [z, List.getElem?_set_self (by rw [← z]; exact hlen)], ?_⟩
        rw [z, h1] at h
        cases h
        exact pin hp
      · exact ⟨rfl, e2, by rw [List.getElem?_set_ne z]; exact h1, hp⟩
/-- the attribute f of the object in slot i is what stands at q -/
def FldAt (σ : L2.St) (H : Hp) (i : Nat) (C : Addr) (f : Str) (q : Addr) : Prop := ∃ p dx us, σ[i]? = some (some (.ref p)) ∧ H p = some (.ins C dx us) ∧ us.lookup f = some (.ref q)
/-- an attribute's own list or dict changes -/
theorem Sr.mutF (S : Sr B K X Λ σ H τ F) {i : Nat} {C : Addr} {fs : List (Str × Fd)} {f : Str} {d d' : Fd} {q : Addr} {o : HO} (h : Λ[i]? = some (.o C fs)) (hf : fs.lookup f = some d)
    (hw : FldAt σ H i C f q) (hq : ∀ G, fdR (Nn X F) K H d (.ref q) G → G q) (hr : ∀ G, fdR (Nn X F) K H d (.ref q) G → Stp (Nn X F) H (Nn X F) (upd H q o) → fdR (Nn X F) K (upd H q o) d' (.ref q) G) :
    Sr B K X (Λ.set i (.o C (setF f d' fs))) σ (upd H q o) τ F ∧ Kq B Λ σ H F (Λ.set i (.o C (setF f d' fs))) σ (upd H q o) F := by
  obtain ⟨p, dx, us, Fi, hs, ob⟩ := obj_at S h
  obtain ⟨j, v, e1, e2, e3, e4, e5⟩ := field_at ob.nm hf
  obtain ⟨p0, dx0, us0, w1, w2, w3⟩ := hw
  rw [hs] at w1
  cases w1
  rw [ob.ins] at w2
  cases w2
  rw [e3] at w3
  cases w3
  have r := ob.fd j d _ e1 e2
  have mj := hq _ r
  refine S.mutq h ((ob.F_ q).mpr (.inr (.inr ⟨j, mj⟩))) (fun _ => rfl) fun st u hu => ?_
  rw [hs] at hu
  cases hu
  have np : p ≠ q := fun z => (ob.np j).1 (by rw [z]; exact mj)
  have nd : dx ≠ q := fun z => (ob.np j).2 (by rw [z]; exact mj)
  have hl : (setF f d' fs).length = fs.length := by
    have := congrArg List.length (e4 d').2
    rwa [List.length_map, List.length_map] at this
  refine ⟨p, dx, us, Fi, rfl, by rw [upd_ne np]; exact ob.ins, by rw [upd_ne nd]; exact ob.own, by rw [(e4 d').2]; exact ob.nm, fun l x w h1 h2 => ?_, ob.dis, ob.np, fun l a z => by rw [hl]; exact ob.out l a z, ob.F_⟩
  rw [(e4 d').1, List.getElem?_set] at h1
  by_cases z : j = l
  · rw [if_pos z] at h1
    split at h1
    · cases h1
      rw [← z] at h2 ⊢
      rw [e2] at h2
      cases h2
      exact hr _ r st
    · cases h1
  · rw [if_neg z] at h1
    exact (ob.fd l x w h1 h2).mono st fun a y => upd_ne fun w' => z (ob.dis j l a (by rw [w']; exact mj) y)
/-- an attribute takes another value -/
theorem Sr.putV (S : Sr B K X Λ σ H τ F) {i : Nat} {C p dx : Addr} {fs : List (Str × Fd)} {us : List (Str × V)} {f : Str} {x y : LV} {w : V} (h : Λ[i]? = some (.o C fs)) (hf : fs.lookup f = some (.v x)) (hs : σ[i]? = some (some (.ref p))) (hp : H p = some (.ins C dx us)) (ry : Rp (Nn X F) K H y w) :
    Sr B K X (Λ.set i (.o C (setF f (.v y) fs))) σ (upd H p (.ins C dx (putF f w us))) τ F ∧ Kq B Λ σ H F (Λ.set i (.o C (setF f (.v y) fs))) σ (upd H p (.ins C dx (putF f w us))) F := by
  obtain ⟨p', dx', us', Fi, hs', ob⟩ := obj_at S h
  rw [hs] at hs'
  cases hs'
  have hi := ob.ins
  rw [hp] at hi
  cases hi
  obtain ⟨j, v, e1, e2, e3, e4, e5⟩ := field_at ob.nm hf
  refine S.mutq h ((ob.F_ p).mpr (.inl rfl)) (fun _ => rfl) fun st u hu => ?_
  rw [hs] at hu
  cases hu
  have nd : dx ≠ p := fun z => by
    have := ob.own
    rw [z, hp] at this
    cases this
  have hl : (setF f (.v y) fs).length = fs.length := by
    have := congrArg List.length (e4 (.v y)).2
    rwa [List.length_map, List.length_map] at this
  refine ⟨p, dx, _, Fi, rfl, upd_same, by rw [upd_ne nd]; exact ob.own, by rw [(e4 (.v y)).2, (e5 w).2]; exact ob.nm, fun l a b h1 h2 => ?_, ob.dis, ob.np, fun l a z => by rw [hl]; exact ob.out l a z, ob.F_⟩
  rw [(e4 (.v y)).1, List.getElem?_set] at h1
  rw [(e5 w).1, List.getElem?_set] at h2
  by_cases z : j = l
  · rw [if_pos z] at h1 h2
    split at h1
    · split at h2
      · cases h1
        cases h2
        rw [← z]
        exact ⟨ry.mono st, (ob.fd j _ _ e1 e2).2⟩
      · cases h2
    · cases h1
  · rw [if_neg z] at h1 h2
    exact (ob.fd l a b h1 h2).mono st fun a' y' => upd_ne fun w' => (ob.np l).1 (by rw [← w']; exact y')
end
/-- x.f.append(e) -/
def lAppF (i : Nat) (C : Addr) (f : Str) (lq : LQ) : LS := fun Λ k => ∃ fs, Λ[i]? = some (.o C fs) ∧ ∃ xs, fs.lookup f = some (.l xs) ∧ lq Λ fun y => xs.length < 100000 ∧ k (.nx (Λ.set i (.o C (setF f (.l (xs ++ [y])) fs))))
/-- x.f = e, an attribute that is there -/
def lPutV (i : Nat) (C : Addr) (f : Str) (le : LE) : LS := fun Λ k => (∃ fs, Λ[i]? = some (.o C fs)) ∧ le Λ (sk k fun y Λ1 => match Λ1[i]? with
  | some (.o C' fs) => C' = C ∧ fs.length < 1000 ∧ match fs.lookup f with
    | some (.v _) => k (.nx (Λ1.set i (.o C (setF f (.v y) fs))))
    | _ => False
  | _ => False)
section
variable {B : Fm} {K : PySem.W.Frag} {W : WX} {te : TE} {lq : LQ} {le : LE}
theorem own_at2 {X : Ad} {Λ : Env} {σ : L2.St} {H : Hp} {τ : List (LV × V)} {F : Fp} {i : Nat} {C : Addr} {f : Str} {fs : List (Str × Fd)} {xs : List LV} {Q : VK} (S : Sr B K X Λ σ H τ F) (hc : Cls K C) (hn : NoAttr K C f) (e : Λ[i]? = some (.o C fs)) (ex : fs.lookup f = some (.l xs))
    (c : ∀ q vs, F i q → H q = some (.lst vs) → Rps (Nn X F) K H xs vs → FldAt σ H i C f q → Q (.ref q) H) : tFld K (tVar i) f σ H Q := by
  obtain ⟨p, dx, us, Fi, hs, ob⟩ := obj_at S e
  obtain ⟨j, v, e1, e2, e3⟩ := lookup_relA ob.nm ex
  obtain ⟨q, vs, rfl, hq, rr, hf⟩ := ob.fd j _ _ e1 e2
  exact ⟨.ref p, hs, p, C, dx, us, .ref q, rfl, ob.ins, hc, hn, e3, c q vs ((ob.F_ q).mpr (.inr (.inr ⟨j, (hf q).mpr rfl⟩))) hq rr ⟨p, dx, us, hs, ob.ins, e3⟩⟩
theorem FldAt.stay {X : Ad} {Λ : Env} {σ : L2.St} {H H' : Hp} {τ : List (LV × V)} {F : Fp} {i : Nat} {C : Addr} {f : Str} {fs : List (Str × Fd)} {q : Addr} (S : Sr B K X Λ σ H τ F) (e : Λ[i]? = some (.o C fs)) (w : FldAt σ H i C f q) (s : Stay B H H') : FldAt σ H' i C f q := by
  obtain ⟨p, dx, us, Fi, hs, ob⟩ := obj_at S e
  obtain ⟨p0, dx0, us0, w1, w2, w3⟩ := w
  rw [hs] at w1
  cases w1
  exact ⟨p, dx0, us0, hs, S.stay s ((ob.F_ p).mpr (.inl rfl)) w2, w3⟩
theorem ss_appF {i : Nat} {C : Addr} {f : Str} (hc : Cls K C) (hn : NoAttr K C f) (h0 : SQ B K te lq) : SS B K W (tDrop (tBM K "list" rAppend (tFld K (tVar i) f) (tCons te tNil))) (lAppF i C f lq) := by
  intro X Λ σ H τ F k D S h c
  obtain ⟨fs, e, xs, ex, h⟩ := h
  unfold tDrop tBM
  refine own_at2 S hc hn e ex fun q vs m hq rr fa => ?_
  refine ⟨.inl ⟨rfl, _, l_of hq⟩, h0 X Λ σ H τ F _ _ S h fun y u H1 h1 S1 r1 s1 => ?_⟩
  obtain ⟨hz, hk⟩ := h1
  have hq1 := S.stay s1 m hq
  have rr1 := rr.mono (s1.stp S.sub)
  obtain ⟨_, q01⟩ := S.heap S1.good s1
  obtain ⟨S2, q2⟩ := S1.mutF (q := q) (o := .lst (vs ++ [u])) (d' := .l (xs ++ [y])) e ex (fa.stay S e s1) (fun G r => by
    obtain ⟨q', vs', e', hq', rr', hG⟩ := r
    cases e'
    exact (hG q).mpr rfl) fun G r st => by
    obtain ⟨q', vs', e', hq', rr', hG⟩ := r
    cases e'
    exact ⟨q, _, rfl, upd_same, (rr1.append (.one r1)).mono st, hG⟩
  exact ⟨q, vs, u, rfl, rfl, hq1, by rw [← rr1.len]; exact Nat.lt_trans hz (by decide), c.nx _ _ _ _ hk S2 (q01.trans S1.good q2)⟩
theorem ss_putV {i : Nat} {C : Addr} {f : Str} (hc : Cls K C) (hn : NoAttr K C f) (h0 : SE B K W te le) : SS B K W (sFld K (tVar i) te f) (lPutV i C f le) := by
  intro X Λ σ H τ F k D S h c
  refine h0 X Λ σ H τ F _ _ S h.2 (c.cn (fun _ _ _ _ z => z) fun y w Λ1 H1 F1 g S1 r q => ?_)
  dsimp only [sk] at g
  split at g
  · rename_i C' fs e1
    obtain ⟨rfl, hl, g⟩ := g
    split at g
    · rename_i x ex
      obtain ⟨p, dx, us, Fi, hs, ob⟩ := obj_at S1 e1
      have hlen : fs.length = us.length := by
        have := congrArg List.length ob.nm
        rwa [List.length_map, List.length_map] at this
      obtain ⟨S2, q2⟩ := S1.putV e1 ex hs ob.ins r
      exact ⟨.ref p, hs, p, C', dx, us, rfl, ob.ins, hc, hn, by rw [← hlen]; exact hl, c.nx _ _ _ _ g S2 (q.trans S1.good q2)⟩
    · exact g.elim
  · exact g.elim
end
end Lg
set_option Elab.async false
set_option linter.all false
set_option maxRecDepth 100000
set_option maxHeartbeats 2000000
/-! objects of one's own are made; dicts that they hold -/
namespace Lg
open PySem PySem.Spec PyProof.Rows L2 Cw
section
variable {B : Fm} {K : PySem.W.Frag} {W : WX} {tr : TA} {lr : LA}
/-- a slot takes a new thing -/
theorem Sr.setNew {X : Ad} {Λ1 : Env} {σ : L2.St} {H1 H' : Hp} {τ : List (LV × V)} {F1 : Fp} {i : Nat} {e' : Ent} {v : V} {G : Ad} (S1 : Sr B K X Λ1 σ H1 τ F1) (gd : Good B H') (keep : ∀ a o, H1 a = some o → a ∉ B → H' a = some o) (hi : i < Λ1.length) (hp : ∀ e, Λ1[i]? = some e → e.pin = false)
    (rep : entR (fun a => Nn X F1 a ∨ G a) K H' e' (some v) G) (fresh : ∀ a, G a → H1 a = none) : ∃ F2, Sr B K X (Λ1.set i e') (σ.set i (some v)) H' τ F2 ∧ Kq B Λ1 σ H1 F1 (Λ1.set i e') (σ.set i (some v)) H' F2 := by
  obtain ⟨S2, q2⟩ := S1.heap gd keep
  have nG : ∀ a, G a → ¬ Nn X F1 a := fun a z => S1.free (fresh a z)
  let F2 : Fp := fun j a => (j ≠ i ∧ F1 j a) ∨ (j = i ∧ G a)
  have st : Stp (Nn X F1) H1 (Nn X F2) H' := fun a o h n => by
    refine ⟨fun z => ?_, keep a o h fun m => n (.inl (S1.sub a m))⟩
    rcases z with z | ⟨j, z | z⟩
    · exact n (.inl z)
    · exact n (.inr ⟨j, z.2⟩)
    · have := fresh a z.2
      rw [h] at this
      cases this
  have st2 : Stp (fun a => Nn X F1 a ∨ G a) H' (Nn X F2) H' := fun a o h n => ⟨fun z => by
    rcases z with z | ⟨j, z | z⟩
    · exact n (.inl (.inl z))
    · exact n (.inl (.inr ⟨j, z.2⟩))
    · exact n (.inr z.2), h⟩
  refine ⟨F2, ⟨gd, S1.sub, by rw [List.length_set, List.length_set, S1.len], fun j e u h1 h2 => ?_, fun j a z => ?_, fun j l a z z' => ?_, fun j a z w => ?_, S2.hasX, fun t m => (S1.tmp t m).mono st⟩, ⟨fun a o h nb _ => keep a o h nb, fun j a z => ?_, q2.all, fun j e h1 hp1 => ?_, List.length_set ..⟩⟩
  · rw [List.getElem?_set] at h1 h2
    rw [S1.len] at h1
    by_cases q : i = j
    · rw [if_pos q] at h1 h2
      split at h1
      · rename_i z
        rw [if_pos z] at h2
        cases h1
        cases h2
        have eF : F2 j = G := by
          funext a
          exact propext ⟨fun z => z.elim (fun z => (z.1 q.symm).elim) fun z => z.2, fun z => .inr ⟨q.symm, z⟩⟩
        rw [eF]
        exact rep.mono st2 fun _ _ => rfl
      · cases h1
    · rw [if_neg q] at h1 h2
      have eF : F2 j = F1 j := by
        funext a
        exact propext ⟨fun z => z.elim (fun z => z.2) fun z => (q z.1.symm).elim, fun z => .inl ⟨fun w => q w.symm, z⟩⟩
      rw [eF]
      refine (S1.ent j e u h1 h2).mono st fun a m => ?_
      obtain ⟨o, ho⟩ := S1.has (.inr ⟨j, m⟩)
      rw [ho]
      exact keep a o ho fun mb => S1.disX j a m (S1.sub a mb)
  · rw [List.length_set]
    rcases z with z | z
    · exact S1.out j a z.2
    · rw [z.1]
      exact hi
  · rcases z with z | z <;> rcases z' with z' | z'
    · exact S1.dis j l a z.2 z'.2
    · exact (nG a z'.2 (.inr ⟨j, z.2⟩)).elim
    · exact (nG a z.2 (.inr ⟨l, z'.2⟩)).elim
    · rw [z.1, z'.1]
  · rcases z with z | z
    · exact S1.disX j a z.2 w
    · exact nG a z.2 (.inl w)
  · rcases z with z | z
    · exact .inl ⟨j, z.2⟩
    · exact .inr (fresh a z.2)
  · have ne : i ≠ j := fun z => by
      rw [hp e (by rw [z]; exact h1)] at hp1
      cases hp1
    exact ⟨List.getElem?_set_ne ne, e, by rw [List.getElem?_set_ne ne]; exact h1, hp1⟩
/-- C(..) into a slot: an object of one's own -/
def lMakeO (i : Nat) (C : Addr) (n : Nat) (f : FSp) (la : LA) : LS := fun Λ k => la Λ (sk k fun xs Λ1 => xs.length + 1 = n ∧ stb Λ1 i = true ∧ f (.o C [] :: xs.map .v) fun o => match o with
  | .ok .non (.o C' fs :: es) => C' = C ∧ es.all Ent.isV = true ∧ k (.nx (Λ1.set i (.o C fs)))
  | _ => False)
theorem ss_makeO {i : Nat} {C : Addr} {n : Nat} {f : FSp} {E : XK} (hr : SA B K W tr lr) : SS B K W (tAsg (tMake C (FnL0 B K n f) [] E tr) (gName i)) (lMakeO i C n f lr) := by
  intro X Λ σ H τ F k D S h c
  refine hr X Λ σ H τ F _ _ S h (c.cn (fun _ _ _ _ z => z) fun xs vs Λ1 H1 F1 g S1 r1 q1 => ?_)
  obtain ⟨hl, hst, g⟩ := g
  obtain ⟨hi, hp⟩ := stb_pin hst
  intro x dx hx hd ne
  rw [List.append_nil]
  have hx2 : upd H1 dx (.own x) x = none := by rw [upd_ne (fun z => ne z.symm)]; exact hx
  have k1 : ∀ a o, H1 a = some o → upd (upd H1 dx (.own x)) x (.ins C dx []) a = some o := fun a o hh => by
    rw [upd_ne (ne_of_none hh hx), upd_ne (ne_of_none hh hd)]
    exact hh
  have st : Stp (Nn X F1) H1 (Nn X F1) (upd (upd H1 dx (.own x)) x (.ins C dx [])) := fun a o hh z => ⟨z, k1 a o hh⟩
  have nx := S1.free hx
  have nd := S1.free hd
  have nxB : x ∉ B := fun m => nx (.inl (S1.sub x m))
  have ndB : dx ∉ B := fun m => nd (.inl (S1.sub dx m))
  let F0 : Fp := fun i a => i = 0 ∧ (a = x ∨ a = dx)
  have st0 : Stp (Nn X F1) H1 (Nn (Nn X F1) F0) (upd (upd H1 dx (.own x)) x (.ins C dx [])) := fun a o hh z => ⟨fun w => by
    rcases w with w | ⟨i, _, w | w⟩
    · exact z w
    · exact ne_of_none hh hx w
    · exact ne_of_none hh hd w, k1 a o hh⟩
  have hF0 : ∀ a, F0 0 a ↔ a = x ∨ a = dx ∨ ∃ i : Nat, (fun (_ : Nat) (_ : Addr) => False) i a := fun a => by
    constructor
    · intro z
      exact z.2.elim .inl fun z => .inr (.inl z)
    · intro z
      rcases z with z | z | ⟨i, z⟩
      · exact ⟨rfl, .inl z⟩
      · exact ⟨rfl, .inr z⟩
      · exact z.elim
  have ob0 : ObjAt (Nn (Nn X F1) F0) K (upd (upd H1 dx (.own x)) x (.ins C dx [])) C [] (F0 0) x dx [] (fun _ _ => False) :=
    { ins := upd_same, own := (by rw [upd_ne ne, upd_same]), nm := rfl, fd := (fun i d v h1 _ => by cases h1), dis := (fun i j a z _ => z.elim), np := (fun i => ⟨fun z => z, fun z => z⟩), out := (fun i a z => z.elim), F_ := hF0 }
  have S0 : Sr B K (Nn X F1) (.o C [] :: xs.map .v) ((V.ref x :: vs).map some) (upd (upd H1 dx (.own x)) x (.ins C dx [])) [] F0 := by
    refine ⟨(S1.good.upd ndB).upd nxB, fun a m => .inl (S1.sub a m), by rw [List.length_cons, List.length_map, List.length_map, List.length_cons, r1.len], fun i e u h1 h2 => ?_, fun i a z => by rw [z.1, List.length_cons]; omega, fun i j a z z' => by rw [z.1, z'.1], fun i a z w => ?_, fun a m => ?_, fun t m => by cases m⟩
    · cases i with
      | zero =>
        cases h1
        cases h2
        exact ⟨x, dx, [], _, rfl, ob0⟩
      | succ i =>
        have h1 : (xs.map Ent.v)[i]? = some e := h1
        have h2 : (vs.map some)[i]? = some u := h2
        rw [List.getElem?_map] at h1 h2
        obtain ⟨y, hy, rfl⟩ := Option.map_eq_some_iff.mp h1
        obtain ⟨v, hv, rfl⟩ := Option.map_eq_some_iff.mp h2
        exact ⟨⟨v, rfl, (r1.get i y v hy hv).mono st0⟩, fun a z => by cases z.1⟩
    · rcases z.2 with z | z
      · exact nx (by rw [← z]; exact w)
      · exact nd (by rw [← z]; exact w)
    · obtain ⟨o, hh⟩ := S1.has m
      exact ⟨o, k1 a o hh⟩
  refine ⟨Nn X F1, _, F0, _, by rw [List.length_cons, List.length_map]; exact hl, S0, g, fun y v es' H' F' hk S' rx q' => ?_, fun C nm y es' z => by dsimp only at z⟩
  split at hk
  · rename_i C' fs es e1
    obtain ⟨rfl, hv, hk⟩ := hk
    have e2 := Rs.ok.inj e1
    obtain ⟨rfl, rfl⟩ := e2
    refine ⟨rx.non_inv, ?_⟩
    have emp : ∀ j a, ¬ F' (j + 1) a := fun j a m => by
      have hj := S'.out (j + 1) a m
      have hj' : j + 1 < ((V.ref x :: vs).map some).length := by
        rw [← S'.len]
        exact hj
      have r := S'.ent (j + 1) _ _ (List.getElem?_eq_getElem hj) (List.getElem?_eq_getElem hj')
      have hjs : j < es.length := Nat.lt_of_succ_lt_succ hj
      have hve := List.all_eq_true.mp hv es[j] (List.getElem_mem hjs)
      rw [List.getElem_cons_succ] at r
      cases e : es[j] with
      | v x =>
        rw [e] at r
        exact r.2 a m
      | no => rw [e] at hve; cases hve
      | l xs => rw [e] at hve; cases hve
      | p xs => rw [e] at hve; cases hve
      | x A => rw [e] at hve; cases hve
      | o C fs => rw [e] at hve; cases hve
    have eN : Nn (Nn X F1) F' = fun a => Nn X F1 a ∨ F' 0 a := by
      funext a
      refine propext ⟨fun z => z.imp id fun ⟨j, z⟩ => ?_, fun z => z.imp id fun z => ⟨0, z⟩⟩
      cases j with
      | zero => exact z
      | succ j => exact (emp j a z).elim
    have r0 := S'.ent 0 _ _ rfl rfl
    rw [eN] at r0
    obtain ⟨F2, S2, q2⟩ := S1.setNew (i := i) (H' := H') (e' := .o C' fs) (v := .ref x) (G := F' 0) S'.good (fun a o hh nb => q'.keep a o (k1 a o hh) nb fun j z => by
      rcases z.2 with z | z
      · exact ne_of_none hh hx z
      · exact ne_of_none hh hd z) hi hp r0 (fun a m => by
      rcases q'.own 0 a m with ⟨j, z⟩ | z
      · rcases z.2 with z | z
        · rw [z]
          exact hx
        · rw [z]
          exact hd
      · cases e : H1 a with
        | none => rfl
        | some o =>
          rw [k1 a o e] at z
          cases z)
    exact c.nx _ _ _ _ hk S2 (q1.trans S1.good q2)
  · exact hk.elim
end
end Lg
set_option Elab.async false
set_option linter.all false
set_option maxRecDepth 100000
set_option maxHeartbeats 2000000
/-! dicts that an object holds, their keys tuples of ints -/
namespace Lg
open PySem PySem.Spec PyProof.Rows L2 Cw
def lkD (kvs : List (List Int × LV)) (k : List Int) : Option LV := (kvs.find? fun e => decide (e.1 = k)).map (·.2)
def ptD (kvs : List (List Int × LV)) (k : List Int) (y : LV) : List (List Int × LV) := if (kvs.any fun e => decide (e.1 = k)) = true then kvs.map (fun e => if e.1 = k then (e.1, y) else e) else kvs ++ [(k, y)]
theorem kD_inj : ∀ {a b : List Int}, kD a = kD b → a = b
  | [], [], _ => rfl
  | [], _ :: _, h => by cases h
  | _ :: _, [], h => by cases h
  | x :: r, y :: s, h => by
    have h1 := List.cons.inj (show Sum.inl x :: kD r = (Sum.inl y : Key) :: kD s from h)
    rw [Sum.inl.inj h1.1, kD_inj h1.2]
theorem kD_dec (a b : List Int) : decide (kD a = kD b) = decide (a = b) := by
  by_cases h : a = b
  · rw [h, decide_eq_true rfl, decide_eq_true rfl]
  · rw [decide_eq_false h, decide_eq_false fun z => h (kD_inj z)]
theorem kD_kV (k : List Int) : (kD k).map kV = k.map V.int := by
  unfold kD
  rw [List.map_map]
  rfl
section
variable {N : Ad} {K : PySem.W.Frag} {H : Hp}
structure DR (N : Ad) (K : PySem.W.Frag) (H : Hp) (kvs : List (List Int × LV)) (es : List (List Key × V)) : Prop where
  ks : es.map (·.1) = kvs.map (fun e => kD e.1)
  vs : Rps N K H (kvs.map (·.2)) (es.map (·.2))
theorem DR.val {k : List Int} : ∀ {kvs : List (List Int × LV)} {es : List (List Key × V)}, DR N K H kvs es → (lkD kvs k = none ∧ valV es (kD k) = none) ∨ ∃ y v, lkD kvs k = some y ∧ valV es (kD k) = some v ∧ Rp N K H y v
  | [], [], _ => .inl ⟨rfl, rfl⟩
  | [], _ :: _, h => by cases h.ks
  | _ :: _, [], h => by cases h.ks
  | (a, x) :: r, (b, u) :: s, h => by
    obtain ⟨e1, e2⟩ := List.cons.inj (show b :: s.map (·.1) = kD a :: r.map (fun e => kD e.1) from h.ks)
    subst e1
    obtain ⟨v0, r0, ev, rx, rr⟩ := Rps.cons_inv (show Rps N K H (x :: r.map (·.2)) (u :: s.map (·.2)) from h.vs)
    cases ev
    by_cases hk : a = k
    · refine .inr ⟨x, u, ?_, valV_pos (by rw [hk]), rx⟩
      unfold lkD
      rw [List.find?_cons, decide_eq_true hk]
      rfl
    · have e3 : lkD ((a, x) :: r) k = lkD r k := by
        unfold lkD
        rw [List.find?_cons, decide_eq_false hk]
      rw [e3, valV_neg (fun z => hk (kD_inj z))]
      exact DR.val ⟨e2, rr⟩
theorem any_eq {k : List Int} : ∀ {kvs : List (List Int × LV)} {es : List (List Key × V)}, es.map (·.1) = kvs.map (fun e => kD e.1) → (es.any fun kv => decide (kv.1 = kD k)) = (kvs.any fun e => decide (e.1 = k))
  | [], [], _ => rfl
  | [], _ :: _, h => by cases h
  | _ :: _, [], h => by cases h
  | (a, x) :: r, (b, u) :: s, h => by
    obtain ⟨e1, e2⟩ := List.cons.inj (show b :: s.map (·.1) = kD a :: r.map (fun e => kD e.1) from h)
    subst e1
    rw [List.any_cons, List.any_cons, any_eq e2, kD_dec]
theorem upd_dr {k : List Int} {y : LV} {v : V} (ry : Rp N K H y v) : ∀ {kvs : List (List Int × LV)} {es : List (List Key × V)}, DR N K H kvs es → DR N K H (kvs.map fun e => if e.1 = k then (e.1, y) else e) (es.map fun kv => if kv.1 = kD k then (kv.1, v) else kv)
  | [], [], h => h
  | [], _ :: _, h => by cases h.ks
  | _ :: _, [], h => by cases h.ks
  | (a, x) :: r, (b, u) :: s, h => by
    obtain ⟨e1, e2⟩ := List.cons.inj (show b :: s.map (·.1) = kD a :: r.map (fun e => kD e.1) from h.ks)
    subst e1
    obtain ⟨v0, r0, ev, rx, rr⟩ := Rps.cons_inv (show Rps N K H (x :: r.map (·.2)) (u :: s.map (·.2)) from h.vs)
    cases ev
    have ih := upd_dr ry (k := k) (DR.mk e2 rr)
    by_cases hk : a = k
    · have hk2 : kD a = kD k := by rw [hk]
      refine ⟨?_, ?_⟩
      · rw [List.map_cons, List.map_cons, List.map_cons, List.map_cons, if_pos hk, if_pos hk2, ih.ks]
      · rw [List.map_cons, List.map_cons, List.map_cons, List.map_cons, if_pos hk, if_pos hk2]
        exact .cons ry ih.vs
    · have hk2 : ¬ kD a = kD k := fun z => hk (kD_inj z)
      refine ⟨?_, ?_⟩
      · rw [List.map_cons, List.map_cons, List.map_cons, List.map_cons, if_neg hk, if_neg hk2, ih.ks]
      · rw [List.map_cons, List.map_cons, List.map_cons, List.map_cons, if_neg hk, if_neg hk2]
        exact .cons rx ih.vs
theorem DR.put {k : List Int} {y : LV} {v : V} {kvs : List (List Int × LV)} {es : List (List Key × V)} (h : DR N K H kvs es) (ry : Rp N K H y v) : DR N K H (ptD kvs k y) (putK es (kD k) v) := by
  unfold ptD putK
  rw [any_eq h.ks]
  by_cases hc : (kvs.any fun e => decide (e.1 = k)) = true
  · rw [if_pos hc, if_pos hc]
    exact upd_dr ry h
  · rw [if_neg hc, if_neg hc]
    refine ⟨?_, ?_⟩
    · rw [List.map_append, List.map_append, h.ks]
      rfl
    · rw [List.map_append, List.map_append]
      exact h.vs.append (.one ry)
end
/-- x.f, a dict of x's own -/
def ownD (Λ : Env) (i : Nat) (C : Addr) (f : Str) (k : List (List Int × LV) → Prop) : Prop := ∃ fs, Λ[i]? = some (.o C fs) ∧ ∃ kvs, fs.lookup f = some (.d kvs) ∧ k kvs
def lqDNotIn (i : Nat) (C : Addr) (f : Str) (lr : LQA) : LQ := fun Λ k => lr Λ fun xs => ∃ ks : List Int, xs = ilv ks ∧ ks.length ≤ 100000 ∧ ownD Λ i C f fun kvs => k (.bl (!(lkD kvs ks).isSome))
def lqDGet (i : Nat) (C : Addr) (f : Str) (lr : LQA) : LQ := fun Λ k => ownD Λ i C f fun kvs => lr Λ fun xs => ∃ ks : List Int, xs = ilv ks ∧ ks.length ≤ 100000 ∧ ∃ z, lkD kvs ks = some z ∧ k z
/-- x.f[ks] = e -/
def lDPut (i : Nat) (C : Addr) (f : Str) (lr : LQA) (le : LE) : LS := fun Λ k => le Λ (sk k fun y Λ1 => ∃ fs, Λ1[i]? = some (.o C fs) ∧ ∃ kvs, fs.lookup f = some (.d kvs) ∧ kvs.length < 100000 ∧ lr Λ1 fun xs => ∃ ks : List Int, xs = ilv ks ∧ ks.length ≤ 100000 ∧ k (.nx (Λ1.set i (.o C (setF f (.d (ptD kvs ks y)) fs)))))
section
variable {B : Fm} {K : PySem.W.Frag} {W : WX} {tr : TA} {lr : LQA} {te : TE} {le : LE}
theorem own_d {X : Ad} {Λ : Env} {σ : L2.St} {H : Hp} {τ : List (LV × V)} {F : Fp} {i : Nat} {C : Addr} {f : Str} {fs : List (Str × Fd)} {kvs : List (List Int × LV)} {Q : VK} (S : Sr B K X Λ σ H τ F) (hc : Cls K C) (hn : NoAttr K C f) (e : Λ[i]? = some (.o C fs)) (ex : fs.lookup f = some (.d kvs))
    (c : ∀ q es, F i q → H q = some (.dT es) → DR (Nn X F) K H kvs es → FldAt σ H i C f q → Q (.ref q) H) : tFld K (tVar i) f σ H Q := by
  obtain ⟨p, dx, us, Fi, hs, ob⟩ := obj_at S e
  obtain ⟨j, v, e1, e2, e3⟩ := lookup_relA ob.nm ex
  obtain ⟨q, es, rfl, hq, hk, rr, hf⟩ := ob.fd j _ _ e1 e2
  exact ⟨.ref p, hs, p, C, dx, us, .ref q, rfl, ob.ins, hc, hn, e3, c q es ((ob.F_ q).mpr (.inr (.inr ⟨j, (hf q).mpr rfl⟩))) hq ⟨hk, rr⟩ ⟨p, dx, us, hs, ob.ins, e3⟩⟩
theorem DR.mono {N N' : Ad} {H H' : Hp} {kvs : List (List Int × LV)} {es : List (List Key × V)} (h : DR N K H kvs es) (s : Stp N H N' H') : DR N' K H' kvs es := ⟨h.ks, h.vs.mono s⟩
theorem key_go {X : Ad} {Λ : Env} {σ : L2.St} {H : Hp} {τ : List (LV × V)} {F : Fp} {k : List LV → Prop} {Q : VK} (hr : SQA B K tr lr) (S : Sr B K X Λ σ H τ F) (h : lr Λ k) (hk : ∀ xs, k xs → ∃ ks : List Int, xs = ilv ks ∧ ks.length ≤ 100000)
    (c : ∀ ks b H', k (ilv ks) → Sr B K X Λ σ H' τ F → Stay B H H' → H' b = some (.tup ((kD ks).map kV)) → Q (.ref b) H') : tTup tr σ H Q := by
  refine hr X Λ σ H τ F _ _ S h fun xs vs H1 h1 S1 r1 s1 => ?_
  obtain ⟨ks, rfl, hl⟩ := hk xs h1
  have ev := rps_ilv r1
  subst ev
  refine ⟨Nat.le_trans (by rw [List.length_map]; exact hl) (by decide), fun p hp => ?_⟩
  obtain ⟨S2, _, _⟩ := S1.new (o := .tup (ks.map V.int)) hp
  exact c ks p _ h1 S2 (s1.trans fun a o h _ => by rw [upd_ne (ne_of_none h hp)]; exact h) (by rw [kD_kV]; exact upd_same)
theorem sq_dnotin {i : Nat} {C : Addr} {f : Str} (hc : Cls K C) (hn : NoAttr K C f) (hr : SQA B K tr lr) : SQ B K (tDNotIn (tTup tr) (tFld K (tVar i) f)) (lqDNotIn i C f lr) := fun X Λ σ H τ F k Q S h c =>
  key_go hr S h (fun xs ⟨ks, e, l, _⟩ => ⟨ks, e, l⟩) fun ks b H1 h1 S1 s1 hb => by
    obtain ⟨ks', e, _, fs, ef, kvs, ek, hk⟩ := h1
    have : ks' = ks := by
      have := congrArg (List.map fun x => match x with | LV.int i => i | _ => 0) e
      unfold ilv at this
      rw [List.map_map, List.map_map] at this
      simpa [Function.comp_def] using this.symm
    subst this
    refine own_d S1 hc hn ef ek fun q es m hq d _ => ?_
    rcases d.val (k := ks') with ⟨z1, z2⟩ | ⟨y, v, z1, z2, r⟩
    · refine ⟨q, none, rfl, .inr ⟨es, kD ks', b, .inl hq, rfl, hb, z2.symm⟩, ?_⟩
      rw [z1] at hk
      exact c _ _ _ hk S1 (.bl _) s1
    · refine ⟨q, some v, rfl, .inr ⟨es, kD ks', b, .inl hq, rfl, hb, z2.symm⟩, ?_⟩
      rw [z1] at hk
      exact c _ _ _ hk S1 (.bl _) s1
theorem ilv_inj {a b : List Int} (e : ilv a = ilv b) : a = b := by
  have := congrArg (List.map fun x => match x with | LV.int i => i | _ => 0) e
  unfold ilv at this
  rw [List.map_map, List.map_map] at this
  simpa [Function.comp_def] using this
theorem sq_dget {i : Nat} {C : Addr} {f : Str} (hc : Cls K C) (hn : NoAttr K C f) (hr : SQA B K tr lr) : SQ B K (tDGet (tFld K (tVar i) f) (tTup tr)) (lqDGet i C f lr) := fun X Λ σ H τ F k Q S h c => by
  obtain ⟨fs, ef, kvs, ek, h⟩ := h
  refine own_d S hc hn ef ek fun q es m hq d _ => ?_
  refine key_go hr S h (fun xs ⟨ks, e, l, _⟩ => ⟨ks, e, l⟩) fun ks b H1 h1 S1 s1 hb => ?_
  obtain ⟨ks', e, _, z, ez, hk⟩ := h1
  have := ilv_inj e
  subst this
  have hq1 := S.stay s1 m hq
  rcases (d.mono (s1.stp S.sub)).val (k := ks) with ⟨z1, z2⟩ | ⟨y, v, z1, z2, r⟩
  · rw [z1] at ez
    cases ez
  · rw [z1] at ez
    cases ez
    exact ⟨q, v, rfl, .inr ⟨es, kD ks, b, .inl hq1, rfl, hb, z2.symm⟩, c _ _ _ hk S1 r s1⟩
theorem ss_dput {i : Nat} {C : Addr} {f : Str} (hc : Cls K C) (hn : NoAttr K C f) (h0 : SE B K W te le) (hr : SQA B K tr lr) : SS B K W (sDPut (tFld K (tVar i) f) (tTup tr) te) (lDPut i C f lr le) := by
  intro X Λ σ H τ F k D S h c
  refine h0 X Λ σ H τ F _ _ S h (c.cn (fun _ _ _ _ z => z) fun y v Λ1 H1 F1 g S1 r q1 => ?_)
  obtain ⟨fs, ef, kvs, ek, hl, g⟩ := g
  refine own_d S1 hc hn ef ek fun q es m hq d fa => ?_
  refine key_go hr (S1.push r) g (fun xs ⟨ks, e, l, _⟩ => ⟨ks, e, l⟩) fun ks b H2 h2 S2 s2 hb => ?_
  obtain ⟨ks', e, _, hk⟩ := h2
  have := ilv_inj e
  subst this
  obtain ⟨ry, S2'⟩ := S2.pop
  have hq2 := S1.stay s2 m hq
  have d2 := d.mono (s2.stp S1.sub)
  have hlen : es.length = kvs.length := by
    have := congrArg List.length d2.ks
    rwa [List.length_map, List.length_map] at this
  obtain ⟨_, q01⟩ := S1.heap S2'.good s2
  obtain ⟨S3, q3⟩ := S2'.mutF (q := q) (o := .dT (putK es (kD ks) v)) (d' := .d (ptD kvs ks y)) ef ek (fa.stay S1 ef s2) (fun G r => by
    obtain ⟨q', es', e', hq', hk', rr', hG⟩ := r
    cases e'
    exact (hG q).mpr rfl) fun G r st => by
    obtain ⟨q', es', e', hq', hk', rr', hG⟩ := r
    cases e'
    have dp := (d2.mono st).put (k := ks) (ry.mono st)
    exact ⟨q, _, rfl, upd_same, dp.ks, dp.vs, hG⟩
  exact ⟨q, _, rfl, .inr ⟨es, kD ks, b, hq2, rfl, hb, by rw [hlen]; exact Nat.lt_trans hl (by decide), rfl⟩, c.nx _ _ _ _ hk S3 ((q1.trans S1.good q01).trans S2'.good q3)⟩
end
end Lg
set_option Elab.async false
set_option linter.all false
set_option maxRecDepth 100000
set_option maxHeartbeats 2000000
/-! attributes that are new lists and dicts; copies of an attribute's list; two lists of one's own compared -/
namespace Lg
open PySem PySem.Spec PyProof.Rows L2 Cw
section
variable {B : Fm} {K : PySem.W.Frag} {W : WX} {X : Ad} {Λ Λ0 : Env} {σ : L2.St} {H H0 : Hp} {τ : List (LV × V)} {F F0 : Fp}
/-- an object takes a new attribute with a thing of its own -/
theorem Sr.addF {i : Nat} {C p q dx : Addr} {fs : List (Str × Fd)} {us : List (Str × V)} {f : Str} {d : Fd} (S : Sr B K (fun a => X a ∨ a = q) Λ σ H τ F) (nX : ¬ X q) (sub : ∀ a, a ∈ B → X a) (e : Λ[i]? = some (.o C fs)) (hs : σ[i]? = some (some (.ref p))) (hp : H p = some (.ins C dx us))
    (hnew : (fs.map (·.1)).contains f = false) (hd : ∀ N', Stp (Nn (fun a => X a ∨ a = q) F) H N' (upd H p (.ins C dx (us ++ [(f, .ref q)]))) → p ≠ q → fdR N' K (upd H p (.ins C dx (us ++ [(f, .ref q)]))) d (.ref q) fun a => a = q)
    (q0 : Kq B Λ0 σ H0 F0 Λ σ H F) (h0 : H0 q = none) : ∃ F2, Sr B K X (Λ.set i (.o C (fs ++ [(f, d)]))) σ (upd H p (.ins C dx (us ++ [(f, .ref q)]))) τ F2 ∧ Kq B Λ0 σ H0 F0 (Λ.set i (.o C (fs ++ [(f, d)]))) σ (upd H p (.ins C dx (us ++ [(f, .ref q)]))) F2 := by
  obtain ⟨p', dx', us', Fi, hs', ob⟩ := obj_at S e
  rw [hs] at hs'
  cases hs'
  have hi := ob.ins
  rw [hp] at hi
  cases hi
  have mp : F i p := (ob.F_ p).mpr (.inl rfl)
  have nF : ∀ j, ¬ F j q := fun j m => S.disX j q m (.inr rfl)
  have npq : p ≠ q := fun z => nF i (by rw [← z]; exact mp)
  have nB : p ∉ B := fun m => S.disX i p mp (.inl (sub p m))
  have hlen : i < Λ.length := (List.getElem?_eq_some_iff.mp e).1
  have hl : fs.length = us.length := by
    have := congrArg List.length ob.nm
    rwa [List.length_map, List.length_map] at this
  let F2 : Fp := fun j a => F j a ∨ (j = i ∧ a = q)
  have keep : ∀ a x, H a = some x → a ≠ p → upd H p (.ins C dx (us ++ [(f, .ref q)])) a = some x := fun a x z n => by
    rw [upd_ne n]
    exact z
  have st : Stp (Nn (fun a => X a ∨ a = q) F) H (Nn X F2) (upd H p (.ins C dx (us ++ [(f, .ref q)]))) := fun a x z n => by
    refine ⟨fun w => ?_, keep a x z fun w => n (.inr ⟨i, by rw [w]; exact mp⟩)⟩
    rcases w with w | ⟨j, w | w⟩
    · exact n (.inl (.inl w))
    · exact n (.inr ⟨j, w⟩)
    · exact n (.inl (.inr w.2))
  have ndx : dx ≠ p := fun z => by
    have := ob.own
    rw [z, hp] at this
    cases this
  have hd2 := hd _ st npq
  let Fi2 : Nat → Ad := fun j a => Fi j a ∨ (j = fs.length ∧ a = q)
  have fiq : ∀ j, ¬ Fi j q := fun j m => nF i ((ob.F_ q).mpr (.inr (.inr ⟨j, m⟩)))
  have ob2 : ObjAt (Nn X F2) K (upd H p (.ins C dx (us ++ [(f, .ref q)]))) C (fs ++ [(f, d)]) (F2 i) p dx (us ++ [(f, .ref q)]) Fi2 := by
    refine ⟨upd_same, by rw [upd_ne ndx]; exact ob.own, by rw [List.map_append, List.map_append, ob.nm]; rfl, fun j x v h1 h2 => ?_, fun j l a z z' => ?_, fun j => ⟨fun z => ?_, fun z => ?_⟩, fun j a z => ?_, fun a => ⟨fun z => ?_, fun z => ?_⟩⟩
    · rw [List.map_append] at h1 h2
      by_cases hj : j < fs.length
      · rw [List.getElem?_append_left (by rw [List.length_map]; exact hj)] at h1
        rw [List.getElem?_append_left (by rw [List.length_map, ← hl]; exact hj)] at h2
        have eF : Fi2 j = Fi j := by
          funext a
          exact propext ⟨fun z => z.elim id (fun z => by omega), .inl⟩
        rw [eF]
        exact (ob.fd j x v h1 h2).mono st fun a m => upd_ne fun z => (ob.np j).1 (by rw [← z]; exact m)
      · rw [List.getElem?_append_right (by rw [List.length_map]; omega)] at h1
        rw [List.getElem?_append_right (by rw [List.length_map, ← hl]; omega)] at h2
        rw [List.length_map] at h1 h2
        have e0 : j - fs.length = 0 := by
          have := (List.getElem?_eq_some_iff.mp h1).1
          have : j - fs.length < 1 := this
          omega
        rw [e0] at h1
        rw [← hl, e0] at h2
        cases h1
        cases h2
        have ej : j = fs.length := by omega
        have eF : Fi2 j = fun a => a = q := by
          funext a
          refine propext ⟨fun z => z.elim (fun z => ?_) fun z => z.2, fun z => .inr ⟨ej, z⟩⟩
          have := ob.out j a z
          omega
        rw [eF]
        exact hd2
    · rcases z with z | z <;> rcases z' with z' | z'
      · exact ob.dis j l a z z'
      · exact (fiq j (by rw [← z'.2]; exact z)).elim
      · exact (fiq l (by rw [← z.2]; exact z')).elim
      · rw [z.1, z'.1]
    · rcases z with z | z
      · exact (ob.np j).1 z
      · exact npq z.2
    · rcases z with z | z
      · exact (ob.np j).2 z
      · exact nF i ((ob.F_ q).mpr (.inr (.inl z.2.symm)))
    · rw [List.length_append]
      rcases z with z | z
      · have := ob.out j a z
        omega
      · rw [z.1]
        exact Nat.lt_succ_self _
    · rcases z with z | z
      · exact ((ob.F_ a).mp z).imp id fun z => z.imp id fun ⟨j, z⟩ => ⟨j, .inl z⟩
      · exact .inr (.inr ⟨fs.length, .inr ⟨rfl, z.2⟩⟩)
    · rcases z with z | z | ⟨j, z | z⟩
      · exact .inl ((ob.F_ a).mpr (.inl z))
      · exact .inl ((ob.F_ a).mpr (.inr (.inl z)))
      · exact .inl ((ob.F_ a).mpr (.inr (.inr ⟨j, z⟩)))
      · exact .inr ⟨rfl, z.2⟩
  refine ⟨F2, ⟨S.good.upd nB, sub, by rw [List.length_set, S.len], fun j e2 u h1 h2 => ?_, fun j a z => ?_, fun j l a z z' => ?_, fun j a z w => ?_, fun a z => ?_, fun t z => (S.tmp t z).mono st⟩, ⟨fun a o ha nb nf => ?_, fun j a z => ?_, fun a o ha => ?_, fun j e2 h1 hp1 => ?_, (List.length_set ..).trans q0.ln⟩⟩
  · rw [List.getElem?_set] at h1
    by_cases z : i = j
    · rw [if_pos z, if_pos hlen] at h1
      cases h1
      rw [← z] at h2 ⊢
      rw [hs] at h2
      cases h2
      exact ⟨p, dx, _, Fi2, rfl, ob2⟩
    · rw [if_neg z] at h1
      have eF : F2 j = F j := by
        funext a
        exact propext ⟨fun w => w.elim id fun w => (z w.1.symm).elim, .inl⟩
      rw [eF]
      exact (S.ent j e2 u h1 h2).mono st fun a w => upd_ne fun y => z (S.dis i j a (by rw [y]; exact mp) w)
  · rw [List.length_set]
    rcases z with z | z
    · exact S.out j a z
    · rw [z.1]
      exact hlen
  · rcases z with z | z <;> rcases z' with z' | z'
    · exact S.dis j l a z z'
    · exact (nF j (by rw [← z'.2]; exact z)).elim
    · exact (nF l (by rw [← z.2]; exact z')).elim
    · rw [z.1, z'.1]
  · rcases z with z | z
    · exact S.disX j a z (.inl w)
    · exact nX (by rw [← z.2]; exact w)
  · obtain ⟨x, y⟩ := S.hasX a (.inl z)
    exact ⟨x, keep a x y fun w => S.disX i p mp (.inl (by rw [← w]; exact z))⟩
  · have h1 := q0.keep a o ha nb nf
    refine keep a o h1 fun w => ?_
    rcases q0.own i p mp with ⟨j, z⟩ | z
    · exact nf j (by rw [w]; exact z)
    · rw [← w, ha] at z
      cases z
  · rcases z with z | z
    · exact q0.own j a z
    · rw [z.2]
      exact .inr h0
  · obtain ⟨o', ho⟩ := q0.all a o ha
    by_cases w : a = p
    · rw [w, upd_same]
      exact ⟨_, rfl⟩
    · exact ⟨o', keep a o' ho w⟩
  · obtain ⟨s1, e3, h3, p3⟩ := q0.pin j e2 h1 hp1
    refine ⟨s1, ?_⟩
    by_cases z : i = j
    · exact ⟨.o C (fs ++ [(f, d)]), by rw [← z, List.getElem?_set_self hlen], rfl⟩
    · exact ⟨e3, by rw [List.getElem?_set_ne z]; exact h3, p3⟩
/-- self.f = a new list, which stays its own -/
def lSetFL (i : Nat) (C : Addr) (f : Str) (ln : LA) : LS := fun Λ k => (∃ fs, Λ[i]? = some (.o C fs)) ∧ ln Λ (sk k fun xs Λ1 => match Λ1[i]? with
  | some (.o C' fs) => C' = C ∧ fs.length < 1000 ∧ (fs.map (·.1)).contains f = false ∧ k (.nx (Λ1.set i (.o C (fs ++ [(f, .l xs)]))))
  | _ => False)
theorem ss_setFL {te : TE} {ln : LA} {i : Nat} {C : Addr} {f : Str} (hc : Cls K C) (hn : NoAttr K C f) (h0 : SN B K W te ln) : SS B K W (sFld K (tVar i) te f) (lSetFL i C f ln) := by
  intro X Λ σ H τ F k D S h c
  refine h0 X Λ σ H τ F _ _ S h.2 ⟨fun xs q Λ1 H1 F1 g n hq q1 => ?_, fun C nm x u d Λ' H' F' z S r q n n' e => c.ex C nm x u d Λ' σ H' F' z S r q n n' e⟩
  dsimp only [sk] at g
  split at g
  · rename_i C' fs e1
    obtain ⟨rfl, hl, hnew, hk⟩ := g
    obtain ⟨p, dx, us, Fi, hs, ob⟩ := obj_at n.st e1
    have hlen : fs.length = us.length := by
      have := congrArg List.length ob.nm
      rwa [List.length_map, List.length_map] at this
    obtain ⟨vs, hv, rr⟩ := n.lst
    obtain ⟨F2, S2, q2⟩ := n.st.addF (p := p) (dx := dx) (us := us) (d := .l xs) n.nX n.sub e1 hs ob.ins hnew (fun N' st ne => ⟨q, vs, rfl, by rw [upd_ne ne.symm]; exact hv, rr.mono st, fun a => Iff.rfl⟩) q1 hq
    exact ⟨.ref p, hs, p, C', dx, us, rfl, ob.ins, hc, hn, by rw [← hlen]; exact hl, by rw [putF_new (by rw [← ob.nm]; exact hnew)]; exact c.nx _ _ _ _ hk S2 q2⟩
  · exact g.elim
end
end Lg
set_option Elab.async false
set_option linter.all false
set_option maxRecDepth 100000
set_option maxHeartbeats 2000000
/-! attributes that are new dicts; lists of one's own copied and compared -/
namespace Lg
open PySem PySem.Spec PyProof.Rows L2 Cw
theorem pe_methN0 {X : Cx} {C : Addr} {m : Str} {k : Nat} {ps : List Str} {sp : Sp} {o : Expr} {ta : TE} {apos pos : Pos} {pl : Sem Bool} (M : MethC X.prog X.w X.K X.mg X.base C m k ps sp) (he : PE X o ta) (hr : Room k X.A)
    (ht : eval (.Call (.Attribute o m apos) [] [] pos) X.env = (do
      let ov ← eval o X.env
      standAt apos.atName
      let (f, first) ← holding [ov] (getMethod ov m pl)
      callWith pos f first (backTo pos (starEach [] X.env)) (backToKw pos (keywordEach [] X.env))) := by rfl) :
    PE X (.Call (.Attribute o m apos) [] [] pos) (tMeth C m sp [] E0 ta tNil) := by
  obtain ⟨f, fd, c, hm, F, hb⟩ := M.out
  exact pe_meth0 he c hm F hr hb .nil pass0 ht
theorem units1 {n : Nat} (h : n + 64 < cLine) : n + 1 < cLine := by omega
def lNever : LS := fun _ _ => False
def lSetFD (i : Nat) (C : Addr) (f : Str) : LS := fun Λ k => match Λ[i]? with
  | some (.o C' fs) => C' = C ∧ fs.length < 1000 ∧ (fs.map (·.1)).contains f = false ∧ k (.nx (Λ.set i (.o C (fs ++ [(f, .d [])]))))
  | _ => False
def lnListF (i : Nat) (C : Addr) (f : Str) : LA := fun Λ k => ownF Λ i C f fun xs => k (.ok xs Λ)
def lqLst0 : LQ := fun _ k => k (.lst [])
def lqEqFO (n : Bool) (i : Nat) (C : Addr) (f : Str) (j : Nat) : LQ := fun Λ k => ownF Λ i C f fun xs => match own? Λ j with
  | some ys => fEqD n (.lst xs) (.lst ys) k
  | none => False
def lqEqFV (n : Bool) (i : Nat) (C : Addr) (f : Str) (lb : LQ) : LQ := fun Λ k => ownF Λ i C f fun xs => lb Λ fun y => fEqD n (.lst xs) y k
section
variable {B : Fm} {K : PySem.W.Frag} {W : WX} {tb : TE} {lb : LQ}
theorem ss_never : SS B K W (fun _ _ _ => False) lNever := fun _ _ _ _ _ _ _ _ _ h _ => h.elim
theorem ss_setFD {i : Nat} {C : Addr} {f : Str} (hc : Cls K C) (hn : NoAttr K C f) : SS B K W (sFld K (tVar i) tDNewT f) (lSetFD i C f) := by
  intro X Λ σ H τ F k D S h c
  unfold lSetFD at h
  split at h
  · rename_i C' fs e1
    obtain ⟨rfl, hl, hnew, hk⟩ := h
    intro q hq
    obtain ⟨S1, q1, nN⟩ := S.addX (o := .dT []) hq
    obtain ⟨p, dx, us, Fi, hs, ob⟩ := obj_at S1 e1
    have hlen : fs.length = us.length := by
      have := congrArg List.length ob.nm
      rwa [List.length_map, List.length_map] at this
    obtain ⟨F2, S2, q2⟩ := S1.addF (p := p) (dx := dx) (us := us) (d := .d []) (fun z => nN (.inl z)) S.sub e1 hs ob.ins hnew (fun N' st ne => ⟨q, [], rfl, by rw [upd_ne ne.symm]; exact upd_same, rfl, .nil, fun a => Iff.rfl⟩) q1 hq
    exact ⟨.ref p, hs, p, C', dx, us, rfl, ob.ins, hc, hn, by rw [← hlen]; exact hl, by rw [putF_new (by rw [← ob.nm]; exact hnew)]; exact c.nx _ _ _ _ hk S2 q2⟩
  · exact h.elim
theorem sn_listF {i : Nat} {C : Addr} {f : Str} (hc : Cls K C) (hn : NoAttr K C f) : SN B K W (tCB (rListOf K) (tCons (tFld K (tVar i) f) tNil)) (lnListF i C f) := fun X Λ σ H τ F k Q S h c =>
  own_f S hc hn h fun q xs vs hk m hq rr => ⟨q, vs, rfl, .inl (l_of hq), fun p2 hp2 => by
    obtain ⟨n2, q3⟩ := S.nwl hp2 rr
    exact c.ok _ _ _ _ _ hk n2 hp2 q3⟩
theorem sq_lst0 : SQ B K (tLst tNil) lqLst0 := fun X Λ σ H τ F k Q S h c => ⟨(show 0 ≤ sizeLine by decide), fun p hp => by
  obtain ⟨S2, q2, n2⟩ := S.new (o := .lst []) hp
  exact c _ _ _ h S2 (.lst' ⟨n2, upd_same⟩ .nil) fun a o h _ => by rw [upd_ne (ne_of_none h hp)]; exact h⟩
theorem dp_lst {N : Ad} {H : Hp} {q : Addr} {xs : List LV} {vs : List V} (hq : H q = some (.lst vs)) (rr : Rps N K H xs vs) (hx : dOk (.lst xs) = true) : Dp K H (.ref q) (dD (.lst xs)) := .lst (l_of hq) (dps_of xs vs hx rr)
theorem sq_eqFO {i j : Nat} {C : Addr} {f : Str} (hc : Cls K C) (hn : NoAttr K C f) : SQ B K (tOp (rEqD K) (tFld K (tVar i) f) (tVar j)) (lqEqFO false i C f j) := fun X Λ σ H τ F k Q S h c =>
  own_f S hc hn h fun q xs vs hk m hq rr => by
    split at hk
    · rename_i ys ey
      obtain ⟨e0, a0, b0⟩ := own_at ey
      obtain ⟨p, ws, hs, hp, r2, _⟩ := S.ownl a0 b0
      exact ⟨_, hs, _, _, dp_lst hq rr hk.1.1, dp_lst hp r2 hk.1.2, hk.2.1.1, hk.2.1.2, by
        have z := c _ _ _ hk.2.2 S (.bl _) .refl
        rw [Bool.false_xor] at z
        exact z⟩
    · exact hk.elim
theorem sq_neFV {i : Nat} {C : Addr} {f : Str} (hc : Cls K C) (hn : NoAttr K C f) (hb : SQ B K tb lb) : SQ B K (tOp (rNeD K) (tFld K (tVar i) f) tb) (lqEqFV true i C f lb) := fun X Λ σ H τ F k Q S h c =>
  own_f S hc hn h fun q xs vs hk m hq rr => hb X Λ σ H τ F _ _ S hk fun y u H1 h1 S1 r1 s1 => by
    have hq1 := S.stay s1 m hq
    have rr1 := rr.mono (s1.stp S.sub)
    exact ⟨_, _, dp_lst hq1 rr1 h1.1.1, dp_of y u h1.1.2 r1, h1.2.1.1, h1.2.1.2, by
      have z := c _ _ _ h1.2.2 S1 (.bl _) s1
      rw [Bool.true_xor] at z
      exact z⟩
end
end Lg
set_option Elab.async false
set_option linter.all false
set_option maxRecDepth 100000
set_option maxHeartbeats 2000000
/-! for x in o.f, o an object of one's own that the body doesn't touch -/
namespace Lg
open PySem PySem.Spec PyProof.Rows L2 Cw
/-- a thing of one's own out of reach -/
def hidO : Own where
  rep := fun _ _ _ _ F => ∀ a, ¬ F a
  mono := fun h _ _ => h
  has := fun h m => (h _ m).elim
def forKF (i : Nat) (C : Addr) (fs : List (Str × Fd)) (I : Env → Prop) (k : Out → Prop) : Out → Prop
  | .nx Λ => I Λ
  | .ct Λ => I Λ
  | .bk Λ => k (.nx (Λ.set i (.o C fs)))
  | .rt x Λ => k (.rt x (Λ.set i (.o C fs)))
  | .ex C' nm x Λ => k (.ex C' nm x (Λ.set i (.o C fs)))
  | .ro _ _ => False
  | .rl _ _ => False
def lForF (i : Nat) (C : Addr) (f : Str) (lg : LV → Env → (Env → Prop) → Prop) (lb : LS) : LS := fun Λ k => ∃ fs, Λ[i]? = some (.o C fs) ∧ ∃ xs, fs.lookup f = some (.l xs) ∧ ∃ I : Nat → Env → Prop, I 0 (Λ.set i (.x hidO)) ∧
  (∀ (j : Nat) x Λ2, xs[j]? = some x → I j Λ2 → lg x Λ2 fun Λ3 => lb Λ3 (forKF i C fs (I (j + 1)) k)) ∧ ∀ Λ2, I xs.length Λ2 → k (.nx (Λ2.set i (.o C fs)))
section
variable {B : Fm} {K : PySem.W.Frag} {W : WX} {X : Ad} {Λ Λ2 : Env} {σ σ2 : L2.St} {H H2 : Hp} {τ τ2 : List (LV × V)} {F F2 : Fp} {i : Nat} {C : Addr} {fs : List (Str × Fd)}
def hidX (X : Ad) (F : Fp) (i : Nat) : Ad := fun a => X a ∨ F i a
theorem hid_nn : Nn (hidX X F i) (F.cut i) = Nn X F := by
  funext a
  refine propext ⟨fun z => ?_, fun z => ?_⟩
  · rcases z with (z | z) | ⟨j, z⟩
    · exact .inl z
    · exact .inr ⟨i, z⟩
    · exact .inr ⟨j, z.2⟩
  · rcases z with z | ⟨j, z⟩
    · exact .inl (.inl z)
    · by_cases e : j = i
      · exact .inl (.inr (by rw [← e]; exact z))
      · exact .inr ⟨j, e, z⟩
theorem Sr.hide (S : Sr B K X Λ σ H τ F) (h : Λ[i]? = some (.o C fs)) : Sr B K (hidX X F i) (Λ.set i (.x hidO)) σ H τ (F.cut i) := by
  obtain ⟨p, dx, us, Fi, hs, ob⟩ := obj_at S h
  have hlen : i < Λ.length := (List.getElem?_eq_some_iff.mp h).1
  refine ⟨S.good, fun a m => .inl (S.sub a m), by rw [List.length_set, S.len], fun j e u h1 h2 => ?_, fun j a z => by rw [List.length_set]; exact S.out j a z.2, fun j l a z z' => S.dis j l a z.2 z'.2, fun j a z w => ?_, fun a z => ?_, fun t m => by rw [hid_nn]; exact S.tmp t m⟩
  · rw [List.getElem?_set] at h1
    rw [hid_nn]
    by_cases z : i = j
    · rw [if_pos z, if_pos hlen] at h1
      cases h1
      rw [← z, hs] at h2
      cases h2
      exact ⟨_, rfl, fun a w => w.1 z.symm⟩
    · rw [if_neg z] at h1
      have ef : F.cut i j = F j := by
        funext a
        exact propext ⟨fun z => z.2, fun w => ⟨fun y => z y.symm, w⟩⟩
      rw [ef]
      exact S.ent j e u h1 h2
  · rcases w with w | w
    · exact S.disX j a z.2 w
    · exact z.1 (S.dis j i a z.2 w)
  · rcases z with z | z
    · exact S.hasX a z
    · exact S.has (.inr ⟨i, z⟩)
theorem Sr.unhide (S : Sr B K X Λ σ H τ F) (h : Λ[i]? = some (.o C fs)) (S2 : Sr B K (hidX X F i) Λ2 σ2 H2 τ2 F2) (q : Kq B (Λ.set i (.x hidO)) σ H (F.cut i) Λ2 σ2 H2 F2) :
    ∃ F3, Sr B K X (Λ2.set i (.o C fs)) σ2 H2 τ2 F3 ∧ Kq B Λ σ H F (Λ2.set i (.o C fs)) σ2 H2 F3 ∧ (∀ a, ¬ Nn (hidX X F i) F2 a → ¬ Nn X F3 a) := by
  obtain ⟨p, dx, us, Fi, hs, ob⟩ := obj_at S h
  have hlen : i < Λ.length := (List.getElem?_eq_some_iff.mp h).1
  have hx : (Λ.set i (.x hidO))[i]? = some (.x hidO) := List.getElem?_set_self hlen
  obtain ⟨sp, e', he', _⟩ := q.pin i _ hx rfl
  have hlen2 : i < Λ2.length := (List.getElem?_eq_some_iff.mp he').1
  let F3 : Fp := fun j a => (j ≠ i ∧ F2 j a) ∨ (j = i ∧ F i a)
  have sub3 : ∀ a, ¬ Nn (hidX X F i) F2 a → ¬ Nn X F3 a := fun a n z => by
    rcases z with z | ⟨j, z | z⟩
    · exact n (.inl (.inl z))
    · exact n (.inr ⟨j, z.2⟩)
    · exact n (.inl (.inr z.2))
  have st2 : Stp (Nn (hidX X F i) F2) H2 (Nn X F3) H2 := fun a o z n => ⟨sub3 a n, z⟩
  have st0 : Stp (Nn X F) H (Nn X F3) H2 := fun a o z n => by
    have s := Kq.stp (X := hidX X F i) (fun a m => Or.inl (S.sub a m)) q
    rw [hid_nn] at s
    obtain ⟨n2, e2⟩ := s a o z n
    exact ⟨sub3 a n2, e2⟩
  have kp : ∀ a, F i a → H2 a = H a := fun a m => by
    obtain ⟨o, ho⟩ := S.has (.inr ⟨i, m⟩)
    rw [ho]
    exact q.keep a o ho (fun mb => S.disX i a m (S.sub a mb)) fun j z => z.1 (S.dis j i a z.2 m)
  refine ⟨F3, ⟨S2.good, S.sub, by rw [List.length_set, S2.len], fun j e u h1 h2 => ?_, fun j a z => ?_, fun j l a z z' => ?_, fun j a z w => ?_, fun a z => S2.hasX a (.inl z), fun t m => (S2.tmp t m).mono st2⟩, ⟨fun a o ha nb nf => q.keep a o ha nb fun j z => nf j z.2, fun j a z => ?_, q.all, fun j e h1 hp => ?_, by rw [List.length_set, q.ln, List.length_set]⟩, sub3⟩
  · rw [List.getElem?_set] at h1
    by_cases z : i = j
    · rw [if_pos z, if_pos hlen2] at h1
      cases h1
      rw [← z, sp, hs] at h2
      cases h2
      have eF : F3 j = F i := by
        funext a
        exact propext ⟨fun w => w.elim (fun w => (w.1 z.symm).elim) fun w => w.2, fun w => .inr ⟨z.symm, w⟩⟩
      rw [eF]
      exact ⟨p, dx, us, Fi, rfl, ob.mono st0 kp⟩
    · rw [if_neg z] at h1
      have eF : F3 j = F2 j := by
        funext a
        exact propext ⟨fun w => w.elim (fun w => w.2) fun w => (z w.1.symm).elim, fun w => .inl ⟨fun y => z y.symm, w⟩⟩
      rw [eF]
      exact (S2.ent j e u h1 h2).mono st2 fun _ _ => rfl
  · rw [List.length_set]
    rcases z with z | z
    · exact S2.out j a z.2
    · rw [z.1]
      exact hlen2
  · rcases z with z | z <;> rcases z' with z' | z'
    · exact S2.dis j l a z.2 z'.2
    · exact (S2.disX j a z.2 (.inr z'.2)).elim
    · exact (S2.disX l a z'.2 (.inr z.2)).elim
    · rw [z.1, z'.1]
  · rcases z with z | z
    · exact S2.disX j a z.2 (.inl w)
    · exact S.disX i a z.2 w
  · rcases z with z | z
    · rcases q.own j a z.2 with ⟨l, w⟩ | w
      · exact .inl ⟨l, w.2⟩
      · exact .inr w
    · exact .inl ⟨i, z.2⟩
  · by_cases z : i = j
    · subst z
      exact ⟨sp, .o C fs, List.getElem?_set_self hlen2, rfl⟩
    · obtain ⟨s1, e3, h3, p3⟩ := q.pin j e (by rw [List.getElem?_set_ne z]; exact h1) hp
      exact ⟨s1, e3, by rw [List.getElem?_set_ne z]; exact h3, p3⟩
theorem ss_forF {f : Str} {js : List Nat} {g : TG} {lg : LV → Env → (Env → Prop) → Prop} {tb : TS} {lb : LS} (hc : Cls K C) (hn : NoAttr K C f) (hg : SG B K js g lg) (hb : SS B K W tb lb) : SS B K W (tFor (iList K (tFld K (tVar i) f)) g tb) (lForF i C f lg lb) := by
  intro X Λ σ H τ F k D S h c
  obtain ⟨fs, e, xs, ex, I, i0, iS, iE⟩ := h
  unfold tFor iList
  refine own_at2 S hc hn e ex fun q vs m hq rr fa => ⟨q, rfl, ⟨vs, l_of hq⟩, ?_⟩
  have Sh := S.hide e
  have hqk : ∀ {Λ' σ' H' F'}, Kq B (Λ.set i (.x hidO)) σ H (F.cut i) Λ' σ' H' F' → H' q = some (.lst vs) := fun {Λ' σ' H' F'} k => k.keep q _ hq (fun mb => S.disX i q m (S.sub q mb)) fun j z => z.1 (S.dis j i q z.2 m)
  refine for_it (walk_list (a := q) (xs := vs)) (fun j σ' H' => ∃ Λ' F', Sr B K (hidX X F i) Λ' σ' H' τ F' ∧ Kq B (Λ.set i (.x hidO)) σ H (F.cut i) Λ' σ' H' F' ∧ I j Λ') ⟨_, _, Sh, Kq.refl, i0⟩ (fun j σ' H' _ ⟨Λ', F', S', q', _⟩ => l_of (hqk q')) (fun j v σ' H2 H3 hj ⟨Λ', F', S', q', g'⟩ y => ?_) (fun σ' H' ⟨Λ', F', S', q', g'⟩ => ?_)
  · obtain ⟨rfl, hv⟩ := y
    have hjx : j < xs.length := by rw [rr.len]; exact hj
    have hx : xs[j]? = some xs[j] := List.getElem?_eq_getElem hjx
    have st := Kq.stp (X := hidX X F i) (fun a m => Or.inl (S.sub a m)) q'
    rw [hid_nn] at st
    have rp := (rr.get j _ v hx hv).mono st
    refine hg _ Λ' σ' _ τ F' xs[j] v _ _ S' rp (iS j _ Λ' hx g') fun Λ4 σ4 H4 F4 g4 S4 q4 _ => ?_
    have q04 := q'.trans S'.good q4
    refine hb _ Λ4 σ4 H4 τ F4 _ _ S4 g4 ⟨fun Λ5 σ5 H5 F5 g5 S5 q5 => ⟨Λ5, F5, S5, q04.trans S4.good q5, g5⟩, fun x v Λ5 σ5 H5 F5 g5 S5 r5 q5 => ?_, fun Λ5 σ5 H5 F5 g5 S5 q5 => ?_, fun Λ5 σ5 H5 F5 g5 S5 q5 => ⟨Λ5, F5, S5, q04.trans S4.good q5, g5⟩, fun C' nm x u d Λ5 σ5 H5 F5 z S5 r5 q5 n n' e5 => ?_, fun _ _ _ _ _ _ _ z => z.elim, fun _ _ _ _ _ _ z => z.elim⟩
    · obtain ⟨F6, S6, q6, sb⟩ := S.unhide e S5 (q04.trans S4.good q5)
      exact c.rt _ _ _ _ _ _ g5 S6 (r5.mono fun a o z n => ⟨sb a n, z⟩) q6
    · obtain ⟨F6, S6, q6, sb⟩ := S.unhide e S5 (q04.trans S4.good q5)
      exact c.nx _ _ _ _ g5 S6 q6
    · obtain ⟨F6, S6, q6, sb⟩ := S.unhide e S5 (q04.trans S4.good q5)
      exact c.ex _ _ _ _ _ _ _ _ _ z S6 (r5.mono fun a o z n => ⟨sb a n, z⟩) q6 (q04.back n) (sb d n') e5
  · obtain ⟨F6, S6, q6, sb⟩ := S.unhide e S' q'
    rw [← rr.len] at g'
    exact c.nx _ _ _ _ (iE _ g') S6 q6
end
end Lg
set_option Elab.async false
set_option linter.all false
set_option maxRecDepth 100000
set_option maxHeartbeats 2000000
/-! defs that hand out a thing of one's own -/
namespace Lg
open PySem PySem.Spec PyProof.Rows L2 Cw
abbrev FSpO := Env → (Ent → Env → Prop) → Prop
def FnW0 (B : Fm) (K : PySem.W.Frag) (n : Nat) (f : FSpO) : Sp := fun vs H Q E => ∃ X es F k, es.length = n ∧ Sr B K X es (vs.map some) H [] F ∧ f es k ∧
  ∀ e v es' H' F' G, k e es' → Sr B K (fun a => X a ∨ G a) es' (vs.map some) H' [] F' → entR (Nn (fun a => X a ∨ G a) F') K H' e (some v) G → (∀ a, G a → ¬ X a) → (∀ a, G a → (∃ j, F j a) ∨ H a = none) → Kq B es (vs.map some) H F es' (vs.map some) H' F' → Q v H'
/-- return x, x a thing of one's own -/
def lRetO (i : Nat) : LS := fun Λ k => ownAt Λ i = true ∧ k (.ro i Λ)
/-- return [..], new -/
def lRetN (ln : LA) : LS := fun Λ k => ln Λ (sk k fun xs Λ1 => k (.rl xs Λ1))
def outW (es : Env) (k : Ent → Env → Prop) : Out → Prop
  | .ro i Λ => es.length ≤ i ∧ ∃ e, Λ[i]? = some e ∧ k e (fin es Λ)
  | .rl xs Λ => k (.l xs) (fin es Λ)
  | _ => False
/-- x = f(..) -/
def lSetW (i n : Nat) (f : FSpO) (la : LAM) : LS := fun Λ k => la Λ (sk k fun ps Λ1 => (ps.length = n ∧ ndA ps = true ∧ argOk Λ1 ps = true) ∧ f (argE Λ1 ps) fun e es => bkOk ps es = true ∧ stb (putE Λ1 ps es) i = true ∧ k (.nx ((putE Λ1 ps es).set i e)))
section
variable {B : Fm} {K : PySem.W.Frag} {W : WX} {te : TE} {le : LE} {tr : TA} {lr : LAM}
theorem fnw_len {n : Nat} {f : FSpO} {vs : List V} {H : Hp} {Q : VK} {E : XK} (h : FnW0 B K n f vs H Q E) : vs.length = n := by
  obtain ⟨X, es, F, k, hl, S, _⟩ := h
  rw [← hl, S.len, List.length_map]
theorem ss_retO {i : Nat} : SS B K W (tRet (tVar i)) (lRetO i) := fun X Λ σ H τ F k D S h c => by
  obtain ⟨h1, h2⟩ := h
  obtain ⟨e, he, ho⟩ := ownAt_get h1
  obtain ⟨v, hv⟩ := own_slot S he ho
  exact ⟨v, hv, c.ro _ _ _ _ _ _ _ h2 he hv S Kq.refl⟩
theorem ss_retN {ln : LA} (h0 : SN B K W te ln) : SS B K W (tRet te) (lRetN ln) := fun X Λ σ H τ F k D S h c =>
  h0 X Λ σ H τ F _ _ S h ⟨fun xs p Λ1 H1 F1 g n hp q => c.rl _ _ _ _ _ _ g n hp q, fun C nm x u d Λ' H' F' z S r q n n' e => c.ex C nm x u d Λ' σ H' F' z S r q n n' e⟩
theorem body_okW {f : FSpO} {n m : Nat} {ts : TS} {ls : LS} {N : List Str} (h0 : SS B K W0 ts ls) (hn : N.length = n + m) (hf : ∀ es k, es.length = n → f es k → ls (es ++ List.replicate m .no) (outW es k)) {vs : List V} {H : Hp} {Q : VK} {E : XK} (h : FnW0 B K n f vs H Q E) :
    ts { nx := fun _ H' => Q .non H', rt := Q } (L2.start N vs) H := by
  obtain ⟨X, es, F, k, hl, S, g, ok⟩ := h
  have hv : vs.length = n := by rw [← hl, S.len, List.length_map]
  have hs : L2.start N vs = vs.map some ++ List.replicate m none := by
    unfold L2.start
    rw [hn, hv, Nat.add_sub_cancel_left]
  rw [hs]
  have S0 : Sr B K X (es ++ List.replicate m .no) (vs.map some ++ List.replicate m none) H [] F := by
    refine ⟨S.good, S.sub, by rw [List.length_append, List.length_append, S.len, List.length_replicate, List.length_replicate], fun i e u h h' => ?_, fun i a z => ?_, S.dis, S.disX, S.hasX, fun t m => by cases m⟩
    · by_cases hi : i < es.length
      · rw [List.getElem?_append_left hi] at h
        rw [List.getElem?_append_left (by rw [← S.len]; exact hi)] at h'
        exact S.ent i e u h h'
      · rw [List.getElem?_append_right (Nat.le_of_not_lt hi)] at h
        obtain rfl := List.eq_of_mem_replicate (List.mem_of_getElem? h)
        exact fun a z => hi (S.out i a z)
    · rw [List.length_append]
      exact Nat.lt_of_lt_of_le (S.out i a z) (Nat.le_add_right _ _)
  refine h0 X _ _ H [] F (outW es k) _ S0 (hf es k hl g) ⟨fun _ _ _ _ z => z.elim, fun _ _ _ _ _ _ z => z.elim, fun _ _ _ _ z => z.elim, fun _ _ _ _ z => z.elim, fun _ _ _ _ _ _ _ _ _ z => z.elim, fun i e v Λ' σ' H' F' z he hv S' q => ?_, fun xs p Λ' σ' H' F' z nw hp q => ?_⟩
  · obtain ⟨hi, e', he', z⟩ := z
    rw [he] at he'
    cases he'
    obtain ⟨F2, S2, q2, st⟩ := S.retW S' hi q
    refine ok e v _ _ F2 (F' i) z S2 ?_ (fun a m => S'.disX i a m) (fun a m => q.own i a m) q2
    exact (S'.ent i e _ he hv).mono st fun _ _ => rfl
  · -- a new list: it stands beside
    obtain ⟨vs', hv', rr⟩ := nw.lst
    have q' : Kq B (es ++ List.replicate m .no) (vs.map some ++ List.replicate m none) (upd H p (.lst vs')) F Λ' σ' H' F' := by
      refine ⟨fun a o ha nb nf => ?_, fun i a w => ?_, fun a o ha => ?_, q.pin, q.ln⟩
      · by_cases e : a = p
        · rw [e] at ha ⊢
          rw [upd_same] at ha
          cases ha
          exact hv'
        · rw [upd_ne e] at ha
          exact q.keep a o ha nb nf
      · rcases q.own i a w with w | w'
        · exact .inl w
        · by_cases e : a = p
          · exact (nw.nF i (by rw [← e]; exact w)).elim
          · exact .inr (by rw [upd_ne e]; exact w')
      · by_cases e : a = p
        · rw [e]
          exact ⟨_, hv'⟩
        · rw [upd_ne e] at ha
          exact q.all a o ha
    obtain ⟨F2, S2, q2, st⟩ := Sr.ret (X := fun a => X a ∨ a = p) (S.addX (o := .lst vs') hp).1 nw.st q'
    refine ok (.l xs) (.ref p) _ _ F2 (fun a => a = p) z S2 ⟨p, vs', rfl, hv', rr.mono st, fun a => Iff.rfl⟩ (fun a m => by rw [m]; exact nw.nX) (fun a m => by rw [m]; exact .inr hp) ?_
    refine ⟨fun a o ha nb nf => q2.keep a o (by rw [upd_ne (ne_of_none ha hp)]; exact ha) nb nf, fun i a w => ?_, fun a o ha => q2.all a o (by rw [upd_ne (ne_of_none ha hp)]; exact ha), q2.pin, q2.ln⟩
    rcases q2.own i a w with w | w
    · exact .inl w
    · by_cases e : a = p
      · rw [e]
        exact .inr hp
      · rw [upd_ne e] at w
        exact .inr w
theorem callW_core {n : Nat} {f : FSpO} {E : XK} {X : Ad} {Λ1 : Env} {σ : L2.St} {H1 : Hp} {τ : List (LV × V)} {F1 : Fp} {k : Ent → Env → Prop} {Q : VK} {ps : List Ar} {vs : List V} (S1 : Sr B K X Λ1 σ H1 τ F1) (r1 : ArsR (Nn X F1) K H1 σ ps vs)
    (g : (ps.length = n ∧ ndA ps = true ∧ argOk Λ1 ps = true) ∧ f (argE Λ1 ps) fun e es => bkOk ps es = true ∧ k e (putE Λ1 ps es)) (c : ∀ e v G Λ' H' F', k e Λ' → Sr B K (fun a => X a ∨ G a) Λ' σ H' τ F' → entR (Nn (fun a => X a ∨ G a) F') K H' e (some v) G → (∀ a, G a → ¬ X a) → (∀ a, G a → (∃ j, F1 j a) ∨ H1 a = none) → Kq B Λ1 σ H1 F1 Λ' σ H' F' → Q v H') : FnW0 B K n f vs H1 Q E := by
  obtain ⟨⟨hl, hnd, hao⟩, g⟩ := g
  have hown : ∀ (p j : Nat), ps[p]? = some (Ar.own j) → ∃ (e : Ent) (v : V), Λ1[j]? = some e ∧ e.isOwn = true ∧ vs[p]? = some v ∧ σ[j]? = some (some v) := fun p j hp => by
    have h1 := List.all_eq_true.mp hao _ (List.mem_of_getElem? hp)
    obtain ⟨e, he, ho⟩ := ownAt_get (show ownAt Λ1 j = true from h1)
    have hpl := (List.getElem?_eq_some_iff.mp hp).1
    have hv : vs[p]? = some (vs[p]'(by rw [← r1.len]; exact hpl)) := List.getElem?_eq_getElem _
    exact ⟨e, _, he, ho, hv, r1.get p _ _ hp hv⟩
  let X' : Ad := fun a => X a ∨ ∃ i, F1 i a ∧ ∀ p : Nat, ¬ ps[p]? = some (.own i)
  let F' : Fp := fun p a => ∃ j, ps[p]? = some (.own j) ∧ F1 j a
  have eN : Nn X' F' = Nn X F1 := by
    funext a
    refine propext ⟨fun z => ?_, fun z => ?_⟩
    · rcases z with (z | ⟨i, z, _⟩) | ⟨p, j, _, z⟩
      · exact .inl z
      · exact .inr ⟨i, z⟩
      · exact .inr ⟨j, z⟩
    · rcases z with z | ⟨i, z⟩
      · exact .inl (.inl z)
      · by_cases hi : ∃ p : Nat, ps[p]? = some (.own i)
        · obtain ⟨p, hp⟩ := hi
          exact .inr ⟨p, i, hp, z⟩
        · exact .inl (.inr ⟨i, z, fun p hp => hi ⟨p, hp⟩⟩)
  have SC : Sr B K X' (argE Λ1 ps) (vs.map some) H1 [] F' := by
    refine ⟨S1.good, fun a m => .inl (S1.sub a m), by unfold argE; rw [List.length_map, List.length_map, r1.len], fun p e u h1 h2 => ?_, fun p a z => ?_, fun p q a z z' => ?_, fun p a z w => ?_, fun a z => ?_, fun t m => by cases m⟩
    · rw [List.getElem?_map] at h2
      obtain ⟨v, hv, rfl⟩ := Option.map_eq_some_iff.mp h2
      have h1' := h1
      unfold argE at h1
      rw [List.getElem?_map] at h1
      obtain ⟨a, ha, e1⟩ := Option.map_eq_some_iff.mp h1
      rw [eN]
      cases a with
      | v x =>
        cases e1
        exact ⟨⟨v, rfl, r1.get p _ _ ha hv⟩, fun a ⟨j, hj, _⟩ => by rw [ha] at hj; cases hj⟩
      | own j =>
        obtain ⟨e0, v0, he0, ho, hv0, hs0⟩ := hown p j ha
        rw [argE_at ha he0] at h1'
        cases h1'
        rw [hv] at hv0
        cases hv0
        have eF : F' p = F1 j := by
          funext a
          refine propext ⟨fun ⟨j', hj', z⟩ => ?_, fun z => ⟨j, ha, z⟩⟩
          rw [ha] at hj'
          cases hj'
          exact z
        rw [eF]
        exact arg_ent (S1.ent j e0 _ he0 hs0)
    · obtain ⟨j, hj, _⟩ := z
      unfold argE
      rw [List.length_map]
      exact (List.getElem?_eq_some_iff.mp hj).1
    · obtain ⟨j, hj, zj⟩ := z
      obtain ⟨i, hi, zi⟩ := z'
      have := S1.dis j i a zj zi
      subst this
      exact nd_uniq hnd hj hi
    · obtain ⟨j, hj, zj⟩ := z
      rcases w with w | ⟨i, wi, wn⟩
      · exact S1.disX j a zj w
      · have := S1.dis j i a zj wi
        subst this
        exact wn p hj
    · rcases z with z | ⟨i, z, _⟩
      · exact S1.hasX a z
      · exact S1.has (.inr ⟨i, z⟩)
  refine ⟨X', argE Λ1 ps, F', _, by unfold argE; rw [List.length_map]; exact hl, SC, g, fun x v es' H' F'' G hk S' rx nGX fG q' => ?_⟩
  obtain ⟨hb, hk⟩ := hk
  have hbl := bk_len hb
  let F2 : Fp := fun i a => ((∀ p : Nat, ¬ ps[p]? = some (.own i)) ∧ F1 i a) ∨ ∃ p, ps[p]? = some (.own i) ∧ F'' p a
  have hpos : ∀ p a, F'' p a → ∃ i, ps[p]? = some (.own i) := fun p a z => by
    have hpl := S'.out p a z
    have hpl' : p < ps.length := by rw [hbl]; exact hpl
    cases ha : ps[p]? with
    | none =>
      rw [List.getElem?_eq_getElem hpl'] at ha
      cases ha
    | some b =>
      cases b with
      | own i => exact ⟨i, rfl⟩
      | v x =>
        exfalso
        have he : es'[p]? = some es'[p] := List.getElem?_eq_getElem hpl
        have hv := bk_v hb ha he
        obtain ⟨u, hu, r⟩ := S'.slot he
        cases e : es'[p] with
        | v y =>
          rw [e] at r
          exact r.2 a z
        | no => rw [e] at hv; cases hv
        | l xs => rw [e] at hv; cases hv
        | p xs => rw [e] at hv; cases hv
        | x A => rw [e] at hv; cases hv
        | o C fs => rw [e] at hv; cases hv
  have eN2 : Nn (fun a => X' a ∨ G a) F'' = Nn (fun a => X a ∨ G a) F2 := by
    funext a
    refine propext ⟨fun z => ?_, fun z => ?_⟩
    · rcases z with ((z | ⟨i, z, n⟩) | z) | ⟨p, z⟩
      · exact .inl (.inl z)
      · exact .inr ⟨i, .inl ⟨n, z⟩⟩
      · exact .inl (.inr z)
      · obtain ⟨i, hi⟩ := hpos p a z
        exact .inr ⟨i, .inr ⟨p, hi, z⟩⟩
    · rcases z with (z | z) | ⟨i, ⟨n, z⟩ | ⟨p, hp, z⟩⟩
      · exact .inl (.inl (.inl z))
      · exact .inl (.inr z)
      · exact .inl (.inl (.inr ⟨i, z, n⟩))
      · exact .inr ⟨p, z⟩
  have fG1 : ∀ a, G a → (∃ j, F1 j a) ∨ H1 a = none := fun a z => (fG a z).imp (fun ⟨_, j, _, w⟩ => ⟨j, w⟩) id
  have st : Stp (Nn X F1) H1 (Nn (fun a => X a ∨ G a) F2) H' := by
    have z := Kq.stp (X := X') (fun a m => Or.inl (S1.sub a m)) q'
    rw [eN] at z
    intro a o h n
    obtain ⟨n1, h1⟩ := z a o h n
    refine ⟨?_, h1⟩
    rw [← eN2]
    rintro ((w | w) | w)
    · exact n1 (.inl w)
    · rcases fG1 a w with ⟨j, w⟩ | w
      · exact n (.inr ⟨j, w⟩)
      · rw [h] at w
        cases w
    · exact n1 (.inr w)
  rw [eN2] at rx
  have S2 : Sr B K (fun a => X a ∨ G a) (putE Λ1 ps es') σ H' τ F2 := by
    refine ⟨S'.good, fun a m => .inl (S1.sub a m), by rw [putE_len]; exact S1.len, fun i e u h1 h2 => ?_, fun i a z => ?_, fun i j a z z' => ?_, fun i a z w => ?_, fun a z => S'.hasX a (z.imp .inl id), fun t m => (S1.tmp t m).mono st⟩
    · by_cases hi : ∃ p : Nat, ps[p]? = some (.own i)
      · obtain ⟨p, hp⟩ := hi
        obtain ⟨e0, v0, he0, ho, hv0, hs0⟩ := hown p i hp
        have hpl : p < es'.length := by
          rw [← hbl]
          exact (List.getElem?_eq_some_iff.mp hp).1
        have hep : es'[p]? = some es'[p] := List.getElem?_eq_getElem hpl
        rw [putE_at Λ1 ps es' hnd hp hep (List.getElem?_eq_some_iff.mp he0).1] at h1
        cases h1
        rw [hs0] at h2
        cases h2
        have r := S'.ent p _ (some v0) hep (by rw [List.getElem?_map, hv0]; rfl)
        rw [eN2] at r
        have eF : F2 i = F'' p := by
          funext a
          refine propext ⟨fun z => ?_, fun z => .inr ⟨p, hp, z⟩⟩
          rcases z with z | ⟨q, hq, z⟩
          · exact (z.1 p hp).elim
          · rw [nd_uniq hnd hp hq]
            exact z
        rw [eF]
        exact back_ent r
      · have hi' : ∀ p : Nat, ¬ ps[p]? = some (.own i) := fun p hp => hi ⟨p, hp⟩
        rw [putE_no Λ1 ps es' hi'] at h1
        have eF : F2 i = F1 i := by
          funext a
          refine propext ⟨fun z => ?_, fun z => .inl ⟨hi', z⟩⟩
          rcases z with z | ⟨q, hq, z⟩
          · exact z.2
          · exact (hi' q hq).elim
        rw [eF]
        refine (S1.ent i e u h1 h2).mono st fun a m => ?_
        obtain ⟨o, ho⟩ := S1.has (.inr ⟨i, m⟩)
        rw [ho]
        refine q'.keep a o ho (fun mb => S1.disX i a m (S1.sub a mb)) fun p z => ?_
        obtain ⟨j, hj, zj⟩ := z
        have := S1.dis i j a m zj
        subst this
        exact hi' p hj
    · rw [putE_len]
      rcases z with z | ⟨p, hp, z⟩
      · exact S1.out i a z.2
      · obtain ⟨e0, v0, he0, _⟩ := hown p i hp
        exact (List.getElem?_eq_some_iff.mp he0).1
    · rcases z with ⟨n, z⟩ | ⟨p, hp, z⟩
      · rcases z' with ⟨n', z'⟩ | ⟨q, hq, z'⟩
        · exact S1.dis i j a z z'
        · exact (S'.disX q a z' (.inl (.inr ⟨i, z, n⟩))).elim
      · rcases z' with ⟨n', z'⟩ | ⟨q, hq, z'⟩
        · exact (S'.disX p a z (.inl (.inr ⟨j, z', n'⟩))).elim
        · have := S'.dis p q a z z'
          subst this
          rw [hp] at hq
          cases hq
          rfl
    · rcases z with ⟨n, z⟩ | ⟨p, hp, z⟩
      · rcases w with w | w
        · exact S1.disX i a z w
        · exact nGX a w (.inr ⟨i, z, n⟩)
      · exact S'.disX p a z (w.imp .inl id)
  have q2 : Kq B Λ1 σ H1 F1 (putE Λ1 ps es') σ H' F2 := by
    refine ⟨fun a o ha nb nf => q'.keep a o ha nb fun p z => ?_, fun i a z => ?_, q'.all, fun i e h1 hp => ⟨rfl, ?_⟩, putE_len ..⟩
    · obtain ⟨j, hj, zj⟩ := z
      exact nf j zj
    · rcases z with ⟨n, z⟩ | ⟨p, hp, z⟩
      · exact .inl ⟨i, z⟩
      · rcases q'.own p a z with ⟨p', j, _, zj⟩ | z
        · exact .inl ⟨j, zj⟩
        · exact .inr z
    · by_cases hi : ∃ p : Nat, ps[p]? = some (.own i)
      · obtain ⟨p, hpp⟩ := hi
        obtain ⟨_, e', he', hp'⟩ := q'.pin p _ (argE_at hpp h1) (arg_pin hp)
        refine ⟨_, putE_at Λ1 ps es' hnd hpp he' (List.getElem?_eq_some_iff.mp h1).1, ?_⟩
        rw [List.getD_eq_getElem?_getD, h1]
        exact back_pin hp hp'
      · exact ⟨e, by rw [putE_no Λ1 ps es' fun p hp => hi ⟨p, hp⟩]; exact h1, hp⟩
  exact c _ _ G _ _ _ hk S2 rx (fun a z w => nGX a z (.inl w)) fG1 q2
theorem ss_setW {i n : Nat} {f : FSpO} {E : XK} (hr : SAM B K W tr lr) : SS B K W (tAsg (tCall (FnW0 B K n f) [] E tr) (gName i)) (lSetW i n f lr) := by
  intro X Λ σ H τ F k D S h c
  refine hr X Λ σ H τ F _ _ S h (c.cn (fun _ _ _ _ z => z) fun ps vs Λ1 H1 F1 g S1 r1 q1 => ?_)
  dsimp only [sk] at g
  rw [List.append_nil]
  refine callW_core (k := fun e Λ' => stb Λ' i = true ∧ k (.nx (Λ'.set i e))) S1 r1 g fun e v G Λ' H' F' hk S2 rep nG fG q2 => ?_
  obtain ⟨hst, hk⟩ := hk
  obtain ⟨hi, hp⟩ := stb_pin hst
  let F2 : Fp := fun j a => (j ≠ i ∧ F' j a) ∨ (j = i ∧ G a)
  have nGF : ∀ j a, F' j a → ¬ G a := fun j a z w => S2.disX j a z (.inr w)
  have st : Stp (Nn (fun a => X a ∨ G a) F') H' (Nn X F2) H' := fun a o h n => ⟨fun z => by
    rcases z with z | ⟨j, z | z⟩
    · exact n (.inl (.inl z))
    · exact n (.inr ⟨j, z.2⟩)
    · exact n (.inl (.inr z.2)), h⟩
  refine c.nx _ (σ.set i (some v)) H' F2 hk ⟨S2.good, S1.sub, by rw [List.length_set, List.length_set, S2.len], fun j e' u h1 h2 => ?_, fun j a z => ?_, fun j l a z z' => ?_, fun j a z w => ?_, fun a z => S2.hasX a (.inl z), fun t m => (S2.tmp t m).mono st⟩ (q1.trans S1.good ⟨q2.keep, fun j a z => ?_, q2.all, fun j e' h1 hp1 => ?_, by rw [List.length_set]; exact q2.ln⟩)
  · rw [List.getElem?_set] at h1 h2
    rw [S2.len] at h1
    by_cases q : i = j
    · rw [if_pos q] at h1 h2
      split at h1
      · rename_i z
        rw [if_pos z] at h2
        cases h1
        cases h2
        have eF : F2 j = G := by
          funext a
          exact propext ⟨fun z => z.elim (fun z => (z.1 q.symm).elim) fun z => z.2, fun z => .inr ⟨q.symm, z⟩⟩
        rw [eF]
        exact rep.mono st fun _ _ => rfl
      · cases h1
    · rw [if_neg q] at h1 h2
      have eF : F2 j = F' j := by
        funext a
        exact propext ⟨fun z => z.elim (fun z => z.2) fun z => (q z.1.symm).elim, fun z => .inl ⟨fun w => q w.symm, z⟩⟩
      rw [eF]
      exact (S2.ent j e' u h1 h2).mono st fun a m => rfl
  · rw [List.length_set]
    rcases z with z | z
    · exact S2.out j a z.2
    · rw [z.1]
      exact hi
  · rcases z with z | z <;> rcases z' with z' | z'
    · exact S2.dis j l a z.2 z'.2
    · exact (nGF j a z.2 z'.2).elim
    · exact (nGF l a z'.2 z.2).elim
    · rw [z.1, z'.1]
  · rcases z with z | z
    · exact S2.disX j a z.2 (.inl w)
    · exact nG a z.2 w
  · rcases z with z | z
    · exact q2.own j a z.2
    · exact fG a z.2
  · obtain ⟨_, e2, h2, p2⟩ := q2.pin j e' h1 hp1
    have ne : i ≠ j := fun z => by
      rw [hp e2 (by rw [z]; exact h2)] at p2
      cases p2
    exact ⟨List.getElem?_set_ne ne, e2, by rw [List.getElem?_set_ne ne]; exact h2, p2⟩
end
end Lg
set_option Elab.async false
set_option linter.all false
set_option maxRecDepth 100000
set_option maxHeartbeats 2000000
/-! dicts in slots -/
namespace Lg
open PySem PySem.Spec PyProof.Rows L2 Cw
section
variable {κ : Type} [DecidableEq κ]
def lkG (kvs : List (κ × LV)) (k : κ) : Option LV := (kvs.find? fun e => decide (e.1 = k)).map (·.2)
def ptG (kvs : List (κ × LV)) (k : κ) (y : LV) : List (κ × LV) := if (kvs.any fun e => decide (e.1 = k)) = true then kvs.map (fun e => if e.1 = k then (e.1, y) else e) else kvs ++ [(k, y)]
structure DG (N : Ad) (K : PySem.W.Frag) (H : Hp) (kvs : List (κ × LV)) (es : List (κ × V)) : Prop where
  ks : es.map (·.1) = kvs.map (·.1)
  vs : Rps N K H (kvs.map (·.2)) (es.map (·.2))
variable {N N' : Ad} {K : PySem.W.Frag} {H H' : Hp}
theorem DG.mono {kvs : List (κ × LV)} {es : List (κ × V)} (h : DG N K H kvs es) (s : Stp N H N' H') : DG N' K H' kvs es := ⟨h.ks, h.vs.mono s⟩
theorem DG.len {kvs : List (κ × LV)} {es : List (κ × V)} (h : DG N K H kvs es) : es.length = kvs.length := by
  have := congrArg List.length h.ks
  rwa [List.length_map, List.length_map] at this
theorem DG.val {k : κ} : ∀ {kvs : List (κ × LV)} {es : List (κ × V)}, DG N K H kvs es → (lkG kvs k = none ∧ valV es k = none) ∨ ∃ y v, lkG kvs k = some y ∧ valV es k = some v ∧ Rp N K H y v
  | [], [], _ => .inl ⟨rfl, rfl⟩
  | [], _ :: _, h => by cases h.ks
  | _ :: _, [], h => by cases h.ks
  | (a, x) :: r, (b, u) :: s, h => by
    obtain ⟨e1, e2⟩ := List.cons.inj (show b :: s.map (·.1) = a :: r.map (·.1) from h.ks)
    subst e1
    obtain ⟨v0, r0, ev, rx, rr⟩ := Rps.cons_inv (show Rps N K H (x :: r.map (·.2)) (u :: s.map (·.2)) from h.vs)
    cases ev
    by_cases hk : b = k
    · refine .inr ⟨x, u, ?_, valV_pos hk, rx⟩
      unfold lkG
      rw [List.find?_cons, decide_eq_true hk]
      rfl
    · have e3 : lkG ((b, x) :: r) k = lkG r k := by
        unfold lkG
        rw [List.find?_cons, decide_eq_false hk]
      rw [e3, valV_neg hk]
      exact DG.val ⟨e2, rr⟩
theorem anyG {k : κ} : ∀ {kvs : List (κ × LV)} {es : List (κ × V)}, es.map (·.1) = kvs.map (·.1) → (es.any fun kv => decide (kv.1 = k)) = (kvs.any fun e => decide (e.1 = k))
  | [], [], _ => rfl
  | [], _ :: _, h => by cases h
  | _ :: _, [], h => by cases h
  | (a, x) :: r, (b, u) :: s, h => by
    obtain ⟨e1, e2⟩ := List.cons.inj (show b :: s.map (·.1) = a :: r.map (·.1) from h)
    subst e1
    rw [List.any_cons, List.any_cons, anyG e2]
theorem updG {k : κ} {y : LV} {v : V} (ry : Rp N K H y v) : ∀ {kvs : List (κ × LV)} {es : List (κ × V)}, DG N K H kvs es → DG N K H (kvs.map fun e => if e.1 = k then (e.1, y) else e) (es.map fun kv => if kv.1 = k then (kv.1, v) else kv)
  | [], [], h => h
  | [], _ :: _, h => by cases h.ks
  | _ :: _, [], h => by cases h.ks
  | (a, x) :: r, (b, u) :: s, h => by
    obtain ⟨e1, e2⟩ := List.cons.inj (show b :: s.map (·.1) = a :: r.map (·.1) from h.ks)
    subst e1
    obtain ⟨v0, r0, ev, rx, rr⟩ := Rps.cons_inv (show Rps N K H (x :: r.map (·.2)) (u :: s.map (·.2)) from h.vs)
    cases ev
    have ih := updG ry (k := k) (DG.mk e2 rr)
    by_cases hk : b = k
    · refine ⟨?_, ?_⟩
      · rw [List.map_cons, List.map_cons, List.map_cons, List.map_cons, if_pos hk, if_pos hk, ih.ks]
      · rw [List.map_cons, List.map_cons, List.map_cons, List.map_cons, if_pos hk, if_pos hk]
        exact .cons ry ih.vs
    · refine ⟨?_, ?_⟩
      · rw [List.map_cons, List.map_cons, List.map_cons, List.map_cons, if_neg hk, if_neg hk, ih.ks]
      · rw [List.map_cons, List.map_cons, List.map_cons, List.map_cons, if_neg hk, if_neg hk]
        exact .cons rx ih.vs
theorem DG.put {k : κ} {y : LV} {v : V} {kvs : List (κ × LV)} {es : List (κ × V)} (h : DG N K H kvs es) (ry : Rp N K H y v) : DG N K H (ptG kvs k y) (putK es k v) := by
  unfold ptG putK
  rw [anyG h.ks]
  by_cases hc : (kvs.any fun e => decide (e.1 = k)) = true
  · rw [if_pos hc, if_pos hc]
    exact updG ry h
  · rw [if_neg hc, if_neg hc]
    refine ⟨?_, ?_⟩
    · rw [List.map_append, List.map_append, h.ks]
      rfl
    · rw [List.map_append, List.map_append]
      exact h.vs.append (.one ry)
end
/-- a kind of dict, by its keys -/
structure DKind (κ : Type) [DecidableEq κ] where
  ho : List (κ × V) → HO
  key : LV → Option κ
  get : ∀ {N : Ad} {K : PySem.W.Frag} {H : Hp} {y : LV} {v : V} {q : κ} {p : Addr} {es : List (κ × V)}, Rp N K H y v → key y = some q → H p = some (ho es) → DGet H p v (valV es q)
  put : ∀ {N : Ad} {K : PySem.W.Frag} {H : Hp} {y : LV} {v x : V} {q : κ} {p : Addr} {es : List (κ × V)}, Rp N K H y v → key y = some q → H p = some (ho es) → es.length < sizeLine → DPut H p v x (upd H p (ho (putK es q x)))
def keyK : LV → Option Key
  | .int i => some (.inl i)
  | .str l => some (.inr (Cw.S l))
  | _ => none
def keyT : LV → Option (List Key)
  | .tup xs => xs.mapM keyK
  | _ => none
theorem keyK_v {N : Ad} {K : PySem.W.Frag} {H : Hp} {y : LV} {v : V} {q : Key} (r : Rp N K H y v) (h : keyK y = some q) : v = kV q := by
  unfold keyK at h
  split at h
  · cases h
    exact r.int_inv
  · cases h
    exact r.str_inv
  · cases h
theorem keyKs_v {N : Ad} {K : PySem.W.Frag} {H : Hp} : ∀ {xs : List LV} {vs : List V} {q : List Key}, Rps N K H xs vs → xs.mapM keyK = some q → vs = q.map kV
  | [], vs, q, r, h => by
    cases h
    exact r.nil_inv
  | x :: xs, vs, q, r, h => by
    obtain ⟨v, t, rfl, rv, rt⟩ := r.cons_inv
    rw [List.mapM_cons] at h
    cases e1 : keyK x with
    | none => rw [e1] at h; cases h
    | some k =>
      cases e2 : xs.mapM keyK with
      | none => rw [e1, e2] at h; cases h
      | some ks =>
        rw [e1, e2] at h
        cases h
        rw [keyK_v rv e1, keyKs_v rt e2]
        rfl
theorem keyT_v {N : Ad} {K : PySem.W.Frag} {H : Hp} {y : LV} {v : V} {q : List Key} (r : Rp N K H y v) (h : keyT y = some q) : ∃ b, v = .ref b ∧ H b = some (.tup (q.map kV)) := by
  unfold keyT at h
  split at h
  · obtain ⟨p, vs, rfl, hp, rr⟩ := r.tup_inv
    rw [← keyKs_v rr h]
    exact ⟨p, rfl, hp.2⟩
  · cases h
def dkK : DKind Key where
  ho := .dK
  key := keyK
  get := fun {N K H y v q p es} r h e => by
    rw [keyK_v r h]
    exact .inl ⟨es, q, .inl e, rfl, rfl⟩
  put := fun {N K H y v x q p es} r h e l => by
    rw [keyK_v r h]
    exact .k e l
def dkT : DKind (List Key) where
  ho := .dT
  key := keyT
  get := fun {N K H y v q p es} r h e => by
    obtain ⟨b, rfl, hb⟩ := keyT_v r h
    exact .t e hb
  put := fun {N K H y v x q p es} r h e l => by
    obtain ⟨b, rfl, hb⟩ := keyT_v r h
    exact .t e hb l
section
variable {κ : Type} [DecidableEq κ]
def DoR (D : DKind κ) (kvs : List (κ × LV)) (K : PySem.W.Frag) (N : Ad) (H : Hp) (v : V) (F : Ad) : Prop := ∃ p es, v = .ref p ∧ H p = some (D.ho es) ∧ DG N K H kvs es ∧ ∀ a, F a ↔ a = p
def dO (D : DKind κ) (pn : Bool) (kvs : List (κ × LV)) : Own where
  pin := pn
  rep := DoR D kvs
  mono := fun {K N N' H H' v F} h s k => by
    obtain ⟨p, es, e, hp, g, f⟩ := h
    exact ⟨p, es, e, by rw [k p ((f p).mpr rfl)]; exact hp, g.mono s, f⟩
  has := fun {K N H v F a} h m => by
    obtain ⟨p, es, e, hp, g, f⟩ := h
    rw [(f a).mp m]
    exact ⟨_, hp⟩
/-- in slot i stands such a dict -/
def dAt (D : DKind κ) (Λ : Env) (i : Nat) (k : Bool → List (κ × LV) → Prop) : Prop := ∃ b kvs, Λ[i]? = some (.x (dO D b kvs)) ∧ k b kvs
/-- d = {} -/
def lSetD (i : Nat) (D : DKind κ) : LS := fun Λ k => stb Λ i = true ∧ k (.nx (Λ.set i (.x (dO D false []))))
/-- e in d -/
def lDIn (n : Bool) (D : DKind κ) (i : Nat) (le : LE) : LE := fun Λ k => le Λ (bk k fun y Λ1 => ∃ q, D.key y = some q ∧ dAt D Λ1 i fun _ kvs => k (.ok (.bl (xor n (lkG kvs q).isSome)) Λ1))
/-- d[e] -/
def lDAt (D : DKind κ) (i : Nat) (le : LE) : LE := fun Λ k => ownAt Λ i = true ∧ le Λ (bk k fun y Λ1 => ∃ q, D.key y = some q ∧ dAt D Λ1 i fun _ kvs => ∃ z, lkG kvs q = some z ∧ k (.ok z Λ1))
/-- d[e] = v -/
def lDSet (D : DKind κ) (i : Nat) (lk lv : LE) : LS := fun Λ k => lv Λ (sk k fun x Λ1 => ownAt Λ1 i = true ∧ lk Λ1 (sk k fun y Λ2 => ∃ q, D.key y = some q ∧ dAt D Λ2 i fun b kvs => kvs.length < 100000 ∧ k (.nx (Λ2.set i (.x (dO D b (ptG kvs q x)))))))
variable {D : DKind κ} {B : Fm} {K : PySem.W.Frag} {W : WX} {X : Ad} {Λ : Env} {σ : L2.St} {H : Hp} {τ : List (LV × V)} {F : Fp} {i : Nat} {te tk tv : TE} {le lk lv : LE}
theorem Sr.dat {b : Bool} {kvs : List (κ × LV)} (S : Sr B K X Λ σ H τ F) (h : Λ[i]? = some (.x (dO D b kvs))) : ∃ p es, σ[i]? = some (some (.ref p)) ∧ H p = some (D.ho es) ∧ DG (Nn X F) K H kvs es ∧ ∀ a, F i a ↔ a = p := by
  obtain ⟨u, hu, v, rfl, p, es, rfl, hp, g, f⟩ := S.slot h
  exact ⟨p, es, hu, hp, g, f⟩
/-- a thing of one's own changes at one of its places -/
theorem Sr.mutX {A A' : Own} {p : Addr} {o : HO} {v : V} (S : Sr B K X Λ σ H τ F) (h : Λ[i]? = some (.x A)) (hs : σ[i]? = some (some v)) (hF : F i p) (hpin : A'.pin = A.pin) (hr : Stp (Nn X F) H (Nn X F) (upd H p o) → A'.rep K (Nn X F) (upd H p o) v (F i)) :
    Sr B K X (Λ.set i (.x A')) σ (upd H p o) τ F ∧ Kq B Λ σ H F (Λ.set i (.x A')) σ (upd H p o) F := by
  have keep : ∀ a o', H a = some o' → a ≠ p → upd H p o a = some o' := fun a o' q n => by
    rw [upd_ne n]
    exact q
  have st : Stp (Nn X F) H (Nn X F) (upd H p o) := fun a o' q n => ⟨n, keep a o' q fun z => n (.inr ⟨i, by rw [z]; exact hF⟩)⟩
  have nB : p ∉ B := fun m => S.disX i p hF (S.sub p m)
  have hlen : i < Λ.length := (List.getElem?_eq_some_iff.mp h).1
  refine ⟨⟨S.good.upd nB, S.sub, by rw [List.length_set, S.len], fun j e' u h1 h2 => ?_, fun j a q => by rw [List.length_set]; exact S.out j a q, S.dis, S.disX, fun a m => ?_, fun t m => (S.tmp t m).mono st⟩, ?_⟩
  · rw [List.getElem?_set] at h1
    by_cases q : i = j
    · rw [if_pos q, if_pos hlen] at h1
      cases h1
      rw [← q, hs] at h2
      cases h2
      rw [← q]
      exact ⟨v, rfl, hr st⟩
    · rw [if_neg q] at h1
      refine (S.ent j e' u h1 h2).mono st fun a m => ?_
      exact upd_ne fun z => q (S.dis i j a (by rw [z]; exact hF) m)
  · obtain ⟨o', z⟩ := S.hasX a m
    exact ⟨o', keep a o' z fun w => S.disX i p hF (by rw [← w]; exact m)⟩
  · refine ⟨fun a o' q _ nf => keep a o' q fun z => nf i (by rw [z]; exact hF), fun j a q => .inl ⟨j, q⟩, fun a o' q => ?_, fun j e' h1 q => ?_, List.length_set ..⟩
    · by_cases z : a = p
      · rw [z, upd_same]
        exact ⟨_, rfl⟩
      · exact ⟨o', keep a o' q z⟩
    · by_cases z : i = j
      · refine ⟨rfl, _, by rw [← z, List.getElem?_set_self hlen], ?_⟩
        rw [← z, h] at h1
        cases h1
        exact hpin.trans q
      · exact ⟨rfl, e', by rw [List.getElem?_set_ne z]; exact h1, q⟩
/-- a slot takes a new thing of one's own, laid at one place -/
theorem Sr.layX {A : Own} {p : Addr} {o : HO} (S : Sr B K X Λ σ H τ F) (hp : H p = none) (hi : stb Λ i = true) (hr : A.rep K (Nn X (F.put i p)) (upd H p o) (.ref p) (fun a => a = p)) :
    Sr B K X (Λ.set i (.x A)) (σ.set i (some (.ref p))) (upd H p o) τ (F.put i p) ∧ Kq B Λ σ H F (Λ.set i (.x A)) (σ.set i (some (.ref p))) (upd H p o) (F.put i p) := by
  obtain ⟨hl, hpn⟩ := stb_pin hi
  obtain ⟨S1, q1⟩ := S.setl (xs := []) (vs := []) hp .nil hl hpn
  have e0 : (upd (upd H p (.lst [])) p o) = upd H p o := upd_upd
  have hsl : i < (Λ.set i (.l [])).length := by rw [List.length_set]; exact hl
  have nN := S.free hp
  have keep : ∀ a o', H a = some o' → upd H p o a = some o' := fun a o' q => by
    rw [upd_ne (ne_of_none q hp)]
    exact q
  have st : Stp (Nn X F) H (Nn X (F.put i p)) (upd H p o) := fun a o' h n => ⟨fun z => by
    rcases z with z | ⟨j, z | z⟩
    · exact n (.inl z)
    · exact n (.inr ⟨j, z.2⟩)
    · exact ne_of_none h hp z.2, keep a o' h⟩
  have nB : p ∉ B := fun m => nN (.inl (S.sub p m))
  refine ⟨⟨S.good.upd nB, S.sub, by rw [List.length_set, List.length_set, S.len], fun j e u h h' => ?_, fun j a h => ?_, S1.dis, S1.disX, fun a m => ?_, fun t m => (S.tmp t m).mono st⟩, ?_⟩
  · rw [List.getElem?_set] at h h'
    rw [S.len] at h
    by_cases q : i = j
    · rw [if_pos q] at h h'
      split at h
      · rename_i z
        rw [if_pos z] at h'
        cases h
        cases h'
        have ef : F.put i p j = fun a => a = p := by
          funext a
          exact propext ⟨fun z => z.elim (fun z => (z.1 q.symm).elim) fun z => z.2, fun z => .inr ⟨q.symm, z⟩⟩
        rw [ef]
        exact ⟨.ref p, rfl, hr⟩
      · cases h
    · rw [if_neg q] at h h'
      have ef : F.put i p j = F j := by
        funext a
        exact propext ⟨fun z => z.elim (fun z => z.2) fun z => (q z.1.symm).elim, fun z => .inl ⟨fun w => q w.symm, z⟩⟩
      rw [ef]
      refine (S.ent j e u h h').mono st fun a m => ?_
      obtain ⟨o', z⟩ := S.has (.inr ⟨j, m⟩)
      rw [z]
      exact keep a o' z
  · have := S1.out j a h
    rwa [List.length_set] at this ⊢
  · obtain ⟨o', z⟩ := S.hasX a m
    exact ⟨o', keep a o' z⟩
  · refine ⟨fun a o' h _ _ => keep a o' h, q1.own, fun a o' h => ⟨o', keep a o' h⟩, fun j e h q => ?_, List.length_set ..⟩
    have ne : i ≠ j := fun z => by
      rw [hpn e (by rw [z]; exact h)] at q
      cases q
    exact ⟨List.getElem?_set_ne ne, e, by rw [List.getElem?_set_ne ne]; exact h, q⟩
theorem dg_nil {N : Ad} : DG (κ := κ) N K H [] [] := ⟨rfl, .nil⟩
theorem ss_setDK : SS B K W (tAsg tDNewK (gName i)) (lSetD i dkK) := fun X Λ σ H τ F k D S h c => fun p hp => by
  obtain ⟨S2, q2⟩ := S.layX (A := dO dkK false []) (o := .dK []) hp h.1 ⟨p, [], rfl, upd_same, dg_nil, fun a => Iff.rfl⟩
  exact c.nx _ _ _ _ h.2 S2 q2
theorem ss_setDT : SS B K W (tAsg tDNewT (gName i)) (lSetD i dkT) := fun X Λ σ H τ F k D S h c => fun p hp => by
  obtain ⟨S2, q2⟩ := S.layX (A := dO dkT false []) (o := .dT []) hp h.1 ⟨p, [], rfl, upd_same, dg_nil, fun a => Iff.rfl⟩
  exact c.nx _ _ _ _ h.2 S2 q2
theorem din_go {Q : VK} {y : LV} {v : V} {q : κ} {b : Bool} {kvs : List (κ × LV)} (S : Sr B K X Λ σ H τ F) (r : Rp (Nn X F) K H y v) (hq : D.key y = some q) (h : Λ[i]? = some (.x (dO D b kvs))) (c : ∀ p o, σ[i]? = some (some (.ref p)) → DGet H p v o → o.isSome = (lkG kvs q).isSome → (∀ z, lkG kvs q = some z → ∃ u, o = some u ∧ Rp (Nn X F) K H z u) → Q v H) : Q v H := by
  obtain ⟨p, es, hs, hp, g, f⟩ := S.dat h
  refine c p (valV es q) hs (D.get r hq hp) ?_ fun z hz => ?_
  · rcases g.val (k := q) with ⟨z1, z2⟩ | ⟨z, u, z1, z2, _⟩ <;> rw [z1, z2] <;> rfl
  · rcases g.val (k := q) with ⟨z1, z2⟩ | ⟨z', u, z1, z2, ru⟩
    · rw [z1] at hz
      cases hz
    · rw [z1] at hz
      cases hz
      exact ⟨u, z2, ru⟩
theorem se_din (h0 : SE B K W te le) : SE B K W (tDIn te (tVar i)) (lDIn false D i le) := by
  intro X Λ σ H τ F k Q S h c
  refine h0 X Λ σ H τ F _ _ S h (c.bk (τ' := τ) fun y v Λ1 H1 F1 h1 S1 r1 q1 => ?_)
  obtain ⟨q, hq, b, kvs, he, hk⟩ := h1
  refine din_go (Q := fun _ _ => _) S1 r1 hq he fun p o hs dg ho _ => ⟨_, hs, p, o, rfl, dg, ?_⟩
  rw [ho]
  rw [Bool.false_xor] at hk
  exact c.ok _ _ _ _ _ hk S1 (.bl _) q1
theorem se_dnotin (h0 : SE B K W te le) : SE B K W (tDNotIn te (tVar i)) (lDIn true D i le) := by
  intro X Λ σ H τ F k Q S h c
  refine h0 X Λ σ H τ F _ _ S h (c.bk (τ' := τ) fun y v Λ1 H1 F1 h1 S1 r1 q1 => ?_)
  obtain ⟨q, hq, b, kvs, he, hk⟩ := h1
  refine din_go (Q := fun _ _ => _) S1 r1 hq he fun p o hs dg ho _ => ⟨_, hs, p, o, rfl, dg, ?_⟩
  rw [ho]
  rw [Bool.true_xor] at hk
  exact c.ok _ _ _ _ _ hk S1 (.bl _) q1
theorem se_dat (h0 : SE B K W te le) : SE B K W (tDGet (tVar i) te) (lDAt D i le) := by
  intro X Λ σ H τ F k Q S h c
  obtain ⟨e0, he0, ho0⟩ := ownAt_get h.1
  obtain ⟨v0, hv0⟩ := own_slot S he0 ho0
  refine ⟨v0, hv0, ?_⟩
  refine h0 X Λ σ H τ F _ _ S h.2 (c.bk (τ' := τ) fun y v Λ1 H1 F1 h1 S1 r1 q1 => ?_)
  obtain ⟨q, hq, b, kvs, he, z, hz, hk⟩ := h1
  refine din_go (Q := fun _ _ => _) S1 r1 hq he fun p o hs dg _ hg => ?_
  obtain ⟨u, rfl, ru⟩ := hg z hz
  rw [hv0] at hs
  cases hs
  exact ⟨p, u, rfl, dg, c.ok _ _ _ _ _ hk S1 ru q1⟩
theorem ss_dset (h0 : SE B K W tv lv) (h1 : SE B K W tk lk) : SS B K W (sDPut (tVar i) tk tv) (lDSet D i lk lv) := by
  intro X Λ σ H τ F k E S h c
  refine h0 X Λ σ H τ F _ _ S h (c.cn (fun _ _ _ _ z => z) fun x u Λ1 H1 F1 g S1 r1 q1 => ?_)
  dsimp only [sk] at g
  obtain ⟨e0, he0, ho0⟩ := ownAt_get g.1
  obtain ⟨v0, hv0⟩ := own_slot S1 he0 ho0
  refine ⟨v0, hv0, ?_⟩
  refine h1 X Λ1 σ H1 ((x, u) :: τ) F1 _ _ (S1.push r1) g.2 ⟨fun y v Λ2 H2 F2 g2 S2 r2 q2 => ?_, fun C nm x' u' d Λ' H' F' z S' r' q' n n' e => c.ex C nm x' u' d Λ' σ H' F' z S' r' (q1.trans S1.good q') (q1.back n) n' e⟩
  dsimp only [sk] at g2
  obtain ⟨q, hq, b, kvs, he, hl, hk⟩ := g2
  obtain ⟨rx, S2'⟩ := S2.pop
  obtain ⟨p, es, hs, hp, dg, f⟩ := S2'.dat he
  rw [hv0] at hs
  cases hs
  have hl' : es.length < sizeLine := by rw [dg.len]; exact Nat.lt_trans hl (by decide)
  obtain ⟨S3, q3⟩ := S2'.mutX (A' := dO D b (ptG kvs q x)) (o := D.ho (putK es q u)) he hv0 ((f p).mpr rfl) rfl fun st => ⟨p, _, rfl, upd_same, (dg.mono st).put (rx.mono st), f⟩
  exact ⟨p, _, rfl, D.put r2 hq hp hl', c.nx _ _ _ _ hk S3 ((q1.trans S1.good q2).trans S2'.good q3)⟩
end
end Lg
set_option Elab.async false
set_option linter.all false
set_option maxRecDepth 100000
set_option maxHeartbeats 2000000
/-! the law itself, run where nothing else runs: repr is known there -/
namespace Lg
open PySem PySem.Spec PyProof.Rows L2 Cw
open LamX (TabB)
section
variable {X : Cx}
/-- repr(x) of data, where no repr is running -/
def rRepr (K : PySem.W.Frag) : List V → Hp → VK → Prop := fun xs H Q => ∃ v d, xs = [v] ∧ Dp K H v d ∧ (d.showable = true ∧ d.hasDict = false) ∧ SeqAt.shaped d = true ∧ d.shown.length ≤ sizeLine ∧ Q (.str d.shown) H
theorem call_reprD (hu : X.A.units + 66 < cLine) (hg : X.A.guards = some []) : CallR X (.builtin "repr") (rRepr X.K) := by
  intro pins s σ H xs us Q I r h
  obtain ⟨v, d, rfl, hd, ⟨hs, hdi⟩, hsh, hz, q⟩ := h
  obtain ⟨u, rfl, ru⟩ := vals1 r
  have hdep : d.depth ≤ 64 := by
    have := (Bool.and_eq_true_iff.mp (show (d.canLay0 && decide (d.depth ≤ 64)) = true from hsh)).2
    exact of_decide_eq_true this
  have big : ∀ a as, u = .ref a → Reads s.heap (.ref a) d as → wpAny (model X.prog X.w) X.A (call (.builtin "repr") [.ref a]) (EP X pins σ Q) X.xe s := fun a as e rd =>
    repr_of_reads' rd hs (fun z => by rw [hdi] at z; cases z) hg (by omega) (fun _ _ e => e) (fun h' t tk hk => ⟨.str d.shown, H, I.kept (t' := tk) hk, ⟨_, rfl⟩, q⟩) hz
  obtain ⟨as, rd⟩ := Dp.reads I d v u hd ru
  cases hd with
  | non =>
    cases ru
    refine PySem.P.repr_of_none ⟨.str _, H, I.tok _, ⟨_, rfl⟩, ?_⟩
    rw [PyData.shown] at q
    exact q
  | bl b =>
    cases ru
    refine PySem.P.repr_of_bool ⟨.str _, H, I.tok _, ⟨_, rfl⟩, ?_⟩
    rw [PyData.shown] at q
    exact q
  | int i =>
    obtain ⟨t, rfl⟩ := ru
    refine PySem.P.repr_of_int (by simpa [PyData.showable] using hs) ⟨.str _, H, I.tok _, ⟨_, rfl⟩, ?_⟩
    rw [PyData.shown] at q
    exact q
  | str x =>
    obtain ⟨t, rfl⟩ := ru
    rw [PyData.shown] at q hz
    exact PySem.P.repr_of_str ⟨.str _, H, I.tok _, ⟨_, rfl⟩, q⟩ hz
  | lst a b =>
    cases ru
    exact big _ as rfl rd
  | tup a b =>
    cases ru
    exact big _ as rfl rd
end
/-- a def's promise at the outermost call -/
structure FnTop (P : Program) (w : World) (K : PySem.W.Frag) (mg : Str → Option Value) (base : Heap) (f : Addr) (fd : FuncData) (ps : List Str) (sp : Sp) : Prop where
  go : ∀ (s : Shared) (H : Hp) (args : Args) (us : List Value) (vs : List V) (Q : VK) (E : XK), Env0 P w K mg base callerA [] s H → BindsTo s fd args (ps.zip us) → Vals vs us → sp vs H Q E → codeAny (model P w) callerA (.call (.ref f) args) (CR CX0 [] P w H s Q E) s
theorem fun_top {P : Program} {w : World} {K : PySem.W.Frag} {mg : Str → Option Value} {base : Heap} {x qual : Str} {st : Stmt} {f : Addr} {fd : FuncData} {N ps : List Str} {k : Nat} {sp : Sp} (F : Fun K x qual st f fd) (S : FnScope N ps (defScope st)) (room : Room (k + 1) callerA) (len : ∀ vs H Q E, sp vs H Q E → vs.length = ps.length)
    (hbody : ∀ (cdv : Value) (s : Shared) (H : Hp) (vs : List V) (Q : VK) (E : XK), Room k (callerA.deeper (envOfC qual (defScope st) s.heap.objs.size f cdv)) → (callerA.deeper (envOfC qual (defScope st) s.heap.objs.size f cdv)).guards = some [] → sp vs H Q E →
      ∃ t, PSs (cxOf CX0 P w K mg base N qual (defScope st) f cdv callerA [] s H E).nox (defBody st) t ∧ t { nx := fun _ H' => Q .non H', rt := Q } (L2.start N vs) H) : FnTop P w K mg base f fd ps sp := by
  obtain ⟨oc, od, kV, doc, pm, an, cdv, ct, osl, rfl, lk, hcd⟩ := F.ex
  refine ⟨fun s H args us vs Q E e0 hb r hsp => ?_⟩
  have lf : s.heap.get? f = some _ := (e0.mod.kin.keeps fun b o e => (e0.bs b o e).1) _ _ lk
  refine codeAny_call_function room.depth lf rfl S.co S.gen rfl (PySem.W.codeRec_of (e0.mod.kin.keeps fun b o e => (e0.bs b o e).1) hcd) (hb _ _ _ _ ?_)
  refine wpAny_newFunctionEnv_cells S.kind (fun y hy => ?_) fun env he s1 z => ?_
  · obtain ⟨n, v⟩ := y
    exact (S.par n (List.of_mem_zip hy).1).imp id fun q => ⟨q, PySem.W.cellsFrom_some _ _ _ (.inl q)⟩
  · subst he
    refine ⟨(e0.mod.nolimit.keeps fun b o e => (e0.bs b o e).1).keeps z.toInCall.keep, codeAny_func ?_⟩
    obtain ⟨t, ht, hq⟩ := hbody cdv s H vs Q E (room.deeper _) rfl hsp
    refine wpAny_mono (ht.nox.run [] s1 (L2.start N vs) H _ (inv_start S room.hd e0 (len _ _ _ _ hsp) r z) hq) (fun fl s' hs => ?_) fun e s' hs => hs
    cases fl with
    | next => obtain ⟨σ', H', J, q⟩ := hs; exact ⟨.non, H', J.os, J.bare, J.base, J.hok, rfl, q⟩
    | ret u => obtain ⟨v, σ', H', J, rv, q⟩ := hs; exact ⟨v, H', J.os, J.bare, J.base, J.hok, rv, q⟩
    | brk => obtain ⟨_, _, _, q⟩ := hs; exact q.elim
    | cont => obtain ⟨_, _, _, q⟩ := hs; exact q.elim
/-! ### the heap that the law meets -/
/-- the tables, and the script where it isn't written -/
def seed (T : List Addr) (lit : Bool) (a : Addr) (o : Obj) (xs : List V) : Hp := fun b => if b ∈ T then some (.tbl #[]) else if b = a ∧ lit = false then some (.frz o (.lst xs)) else none
section
variable {T : List Addr} {lit : Bool} {a b : Addr} {o : Obj} {xs : List V} {u : HO}
theorem seed_tab (h : b ∈ T) : seed T lit a o xs b = some (.tbl #[]) := if_pos h
theorem seed_cases (h : seed T lit a o xs b = some u) : (b ∈ T ∧ u = .tbl #[]) ∨ (b ∉ T ∧ b = a ∧ lit = false ∧ u = .frz o (.lst xs)) := by
  unfold seed at h
  by_cases h1 : b ∈ T
  · rw [if_pos h1] at h
    exact .inl ⟨h1, (Option.some.inj h).symm⟩
  · rw [if_neg h1] at h
    by_cases h2 : b = a ∧ lit = false
    · rw [if_pos h2] at h
      exact .inr ⟨h1, h2.1, h2.2, (Option.some.inj h).symm⟩
    · rw [if_neg h2] at h
      cases h
theorem seed_none (h1 : b ∉ T) (h2 : b ≠ a ∨ lit = true) : seed T lit a o xs b = none := by
  unfold seed
  rw [if_neg h1, if_neg]
  rintro ⟨z, w⟩
  rcases h2 with h2 | h2
  · exact h2 z
  · rw [h2] at w
    cases w
end
theorem law_top {P : Program} {w : World} {K : PySem.W.Frag} {mg mb : Str → Option Value} {fa a : Addr} {cs : List (Addr × Addr)} {fd : FuncData} {x : Str} {sp : Sp} {s : Shared} {vs : List Value} {ns : List Int}
    (kin : K.In s.heap) (gl : s.heap.Ns mainGlobals mg) (bl : s.heap.Ns builtinsNs mb) (bx : ∀ x : Str, x ≠ "__name__" → mb x = bootBuiltins x) (lim : s.heap.NoLimit) (gn : s.gens = #[])
    (tab : ∀ p ∈ cs, s.heap.get? p.2 = some { cls := .none, data := .fields #[] }) (ntab : ∀ p ∈ cs, K.lookup p.2 = none) (cod : ∀ p ∈ cs, PySem.W.CodeHd s.heap p.1 p.2)
    (bmod : ∃ (bm : Addr) (ob : Obj), mg "__builtins__" = some (.ref bm) ∧ bm ≠ builtinsNs ∧ s.heap.get? bm = some ob ∧ ob.cls = .type "module" ∧ ob.dict = some builtinsNs ∧ ob.data = .plain)
    (scr : s.heap.get? a = some { cls := .type "list", data := .seq vs.toArray }) (hin : IntsAre vs ns) (short : ns.length ≤ sizeLine)
    (F : ∀ base : Heap, K.In base → base.Ns mainGlobals mg → (∀ p ∈ cs, TabB base mg p.1 p.2) → FnTop P w K mg base fa fd [x] sp) (bind : ∀ (s : Shared) (u : Value), BindsTo s fd ⟨[u], []⟩ [(x, u)])
    (want : ∀ H : Hp, (∀ p ∈ cs, H p.2 = some (.tbl #[])) → SqL K H a (ns.map V.int) → sp [.ref a] H (fun v _ => v = .bl true) fun _ _ _ => False) :
    codeAny (model P w) callerA (.call (.ref fa) ⟨[.ref a], []⟩) (fun r s' => r = .ok (.ret (.bool true)) ∧ OldK s.heap s'.heap ∧ s'.os = s.os ∧ AllBare s'.gens) s := by
  obtain ⟨T, hT⟩ : ∃ T : List Addr, T = cs.map (·.2) := ⟨_, rfl⟩
  have inT : ∀ p ∈ cs, p.2 ∈ T := fun p hp => by rw [hT]; exact List.mem_map.mpr ⟨p, hp, rfl⟩
  have ofT : ∀ b ∈ T, ∃ p ∈ cs, b = p.2 := fun b hb => by
    rw [hT] at hb
    obtain ⟨p, hp, e⟩ := List.mem_map.mp hb
    exact ⟨p, hp, e.symm⟩
  have atT : ∀ b ∈ T, s.heap.get? b = some { cls := .none, data := .fields #[] } := fun b hb => by
    obtain ⟨p, hp, rfl⟩ := ofT b hb
    exact tab p hp
  obtain ⟨H, hH⟩ : ∃ H : Hp, H = seed T (K.lookup a).isSome a { cls := .type "list", data := .seq vs.toArray } (ns.map V.int) := ⟨_, rfl⟩
  have naT : a ∉ T := fun z => by
    have e := atT a z
    rw [scr] at e
    exact absurd (congrArg Obj.data (Option.some.inj e)) (by simp)
  have vals := vals_ints hin
  have ok : HOk P w H s.heap := fun b u h => by
    rw [hH] at h
    rcases seed_cases h with ⟨h1, rfl⟩ | ⟨_, rfl, _, rfl⟩
    · exact atT b h1
    · exact ⟨scr, by rw [List.length_map]; exact short, vs, _, vals, scr⟩
  have told : SqL K H a (ns.map V.int) := by
    cases hk : K.lookup a with
    | none =>
      refine .inl (.inr ⟨{ cls := .type "list", data := .seq vs.toArray }, ?_⟩)
      rw [hH, hk]
      unfold seed
      rw [if_neg naT, if_pos ⟨rfl, rfl⟩]
    | some o =>
      have e := kin a o hk
      rw [scr] at e
      cases e
      exact .inr ⟨_, vs.toArray, _, hk, rfl, rfl, rfl, by rw [List.size_toArray, hin.length]; exact short, by simpa using vals⟩
  -- what isn't a plain list or a table is hidden by nothing
  have free : ∀ {b : Addr} {o : Obj}, s.heap.get? b = some o → (∀ q n, o.data ≠ .seq q n) → o.data ≠ .fields #[] → H b = none := fun {b o} e n1 n2 => by
    cases h : H b with
    | none => rfl
    | some u =>
      rw [hH] at h
      rcases seed_cases h with ⟨h1, _⟩ | ⟨_, rfl, _, _⟩
      · rw [atT b h1] at e
        cases e
        exact (n2 rfl).elim
      · rw [scr] at e
        cases e
        exact (n1 _ _ rfl).elim
  have shown : ∀ {b : Addr} {o : Obj}, s.heap.get? b = some o → (∀ q n, o.data ≠ .seq q n) → o.data ≠ .fields #[] → (hidT s.heap H).get? b = some o := fun e n1 n2 => hidT_get e (free e n1 n2)
  have nsB : ∀ {b : Addr} {m : Str → Option Value}, s.heap.Ns b m → (hidT s.heap H).Ns b m := fun {b m} ⟨o, es, ep, e, d, r⟩ => ⟨o, es, ep, shown e (fun q n => by rw [d]; nofun) (by rw [d]; nofun), d, r⟩
  have kinB : K.In (hidT s.heap H) := fun b o e => by
    refine hidT_get (kin b o e) ?_
    cases h : H b with
    | none => rfl
    | some u =>
      rw [hH] at h
      rcases seed_cases h with ⟨h1, _⟩ | ⟨_, rfl, h2, _⟩
      · obtain ⟨p, hp, rfl⟩ := ofT b h1
        rw [ntab p hp] at e
        cases e
      · rw [e] at h2
        cases h2
  have modB : L2.Mod K mg (hidT s.heap H) := by
    obtain ⟨mc, l1, l2⟩ := lim
    exact ⟨kinB, nsB gl, ⟨mb, nsB bl, bx⟩, ⟨mc, nsB l1, l2⟩⟩
  have glNe : ∀ {b : Addr} {o : Obj}, s.heap.get? b = some o → (∀ es ep, o.data ≠ .dict es ep) → mainGlobals ≠ b := fun {b o} e n z => by
    obtain ⟨o', es, ep, e', d, _⟩ := gl
    rw [z, e] at e'
    cases e'
    exact n _ _ d
  have tabB : ∀ p ∈ cs, TabB (hidT s.heap H) mg p.1 p.2 := fun p hp => by
    have tp := tab p hp
    have ngp := glNe tp (fun es ep => by nofun)
    refine ⟨?_, ?_, ngp⟩
    · obtain ⟨o, us, file, tf, flags, tg, inF, text, tt, c1, c2, c3, c4, c⟩ := cod p hp
      refine ⟨o, us, file, tf, flags, tg, inF, text, tt, shown c1 (fun q n => by rw [c3]; nofun) ?_, c2, c3, c4, c⟩
      rw [c3]
      intro z
      cases z
      cases c4
    · obtain ⟨bm, ob, b1, b2, b3, b4, b5, b6⟩ := bmod
      refine ⟨bm, ob, b1, b2, fun z => glNe b3 (fun es ep => by rw [b6]; nofun) z.symm, fun z => ?_, shown b3 (fun q n => by rw [b6]; nofun) (by rw [b6]; nofun), b4, b5, b6⟩
      rw [z, tp] at b3
      cases b3
      cases b6
  have start : Env0 P w K mg (hidT s.heap H) callerA [] s H := ⟨rfl, modB, fun b o e => of_hidT e, Nat.le_of_eq (hidT_size _ _), trivial, fun b hb => (List.not_mem_nil hb).elim, ok, .of_eq gn⟩
  have tblH : ∀ p ∈ cs, H p.2 = some (.tbl #[]) := fun p hp => by rw [hH]; exact seed_tab (inT p hp)
  refine codeAny_mono ((F _ kinB (nsB gl) tabB).go s H ⟨[.ref a], []⟩ [.ref a] [.ref a] _ _ start (bind s (.ref a)) (.cons rfl .nil) (want H tblH told)) fun r s' h => ?_
  match r, h with
  | .error e, h => exact h.elim
  | .ok (.ret u), h =>
    obtain ⟨v, H', os, bare, un, ok', ru, rfl⟩ := h
    cases ru
    have still : ∀ b o, b ∉ T → s.heap.get? b = some o → s'.heap.get? b = some o := fun b o nb e => by
      cases h : H b with
      | none => exact un.keep b o e h List.not_mem_nil List.not_mem_nil
      | some u =>
        have h' := h
        rw [hH] at h'
        rcases seed_cases h' with ⟨h1, _⟩ | ⟨_, _, _, rfl⟩
        · exact (nb h1).elim
        · have now := (ok b _ h).1
          rw [now] at e
          cases e
          exact (ok' b _ (un.frzs b _ _ h)).1
    refine ⟨rfl, ⟨fun b o e => ?_, fun b o e => ?_⟩, os, bare⟩
    all_goals
      by_cases hb : b ∈ T
      · obtain ⟨p, hp, rfl⟩ := ofT b hb
        obtain ⟨more, hm⟩ := un.tbls p.2 #[] (tblH p hp)
        have new : s'.heap.get? p.2 = some { cls := .none, data := .fields (#[] ++ more) } := ok' p.2 _ hm
        first
        | exact ⟨_, new⟩
        | (rw [tab p hp] at e
           cases e
           exact .inr (.inl ⟨((cod p hp).tab (tab p hp)).isCodeTable, rfl, #[], more, rfl, by rw [Array.empty_append] at new ⊢; exact new⟩))
      · first
        | exact .inl (still b o hb e)
        | exact ⟨o, still b o hb e⟩
/-- what is known of the law at the head's heap -/
def LawTop (l : PySem.W.OpenLaw) (w : World) (K : PySem.W.Frag) (n : Nat) (x : Str) (mg : Str → Option Value) (fa : Addr) (h : Heap) : Prop :=
  ∃ (fd : FuncData) (cs : List (Addr × Addr)) (sp : Sp), ((∀ p ∈ cs, h.get? p.2 = some { cls := .none, data := .fields #[] }) ∧ (∀ p ∈ cs, K.lookup p.2 = none) ∧ ∀ p ∈ cs, PySem.W.CodeHd h p.1 p.2) ∧ (∀ (s : Shared) (u : Value), BindsTo s fd ⟨[u], []⟩ [(x, u)]) ∧
    (∀ (H : Hp) (a : Addr) (ns : List Int), ns.length ≤ n → (∀ z ∈ ns, Builtin.Int.intBits z ≤ 1048576) → (∀ p ∈ cs, H p.2 = some (.tbl #[])) → SqL K H a (ns.map V.int) → sp [.ref a] H (fun v _ => v = .bl true) fun _ _ _ => False) ∧
    ∀ base : Heap, K.In base → base.Ns mainGlobals mg → (∀ p ∈ cs, TabB base mg p.1 p.2) → FnTop l.prog w K mg base fa fd [x] sp
/-- the table of the code object of the def called x is empty -/
def TabFact (K : PySem.W.Frag) (x : Str) (mg : Str → Option Value) (h : Heap) : Prop := ∀ (f c P : Addr) (o oc : Obj) (fd : FuncData) (vs : Array Value), mg x = some (.ref f) → K.lookup f = some o → o.data = .func fd → fd.code = .ref c → K.lookup c = some oc → oc.data = .fields vs → (vs[11]? : Option Value) = some (.ref P) →
  h.get? P = some { cls := .none, data := .fields #[] }
theorem walk_top {l : PySem.W.OpenLaw} {n : Nat} {q : Program} {loose : List Str} {XP : (Str → Option Value) → Heap → Prop} {YP : World → Heap → Prop} {d : DefRec} {K : Params → PySem.W.Frag} {y : Str} (xs : List Str)
    (hn : l.most = some n) (hn2 : n ≤ sizeLine) (hdf : d.params.defaults = []) (hrec : (xs.all fun x => (recsOf q).any fun e => e.name == x) = true) (hY : ∀ (w : World) (h : Heap), YP w h → (K w.params).In h)
    (F : ∀ (w : World) (mg : Str → Option Value) (fa : Addr) (h : Heap), (K w.params).In h → h.Ns mainGlobals mg → mg d.name = some (.ref fa) → (∀ x ∈ xs, TabFact (K w.params) x mg h) → LawTop l w (K w.params) n y mg fa h) :
    PySem.W.WalkO q loose XP YP l.row.toRowW d [] (fun f vs => PySem.call f vs) := by
  refine Att.attach_callB hn hdf fun w s0 s1 mg mb fa o pm cd doc a vs ns G Y ho hd hcd hmg hobj hints hlen hbits hg => ?_
  have KX := hY w _ Y
  have own : ∀ x ∈ xs, TabFact (K w.params) x mg s1.heap := by
    intro x hx f c P of oc fd vs e1 e2 e3 e4 e5 e6 e7
    obtain ⟨r, hr1, hr2⟩ := List.any_eq_true.mp (List.all_eq_true.mp hrec x hx)
    obtain ⟨f', o', fd', c', P', h1, h2, h3, h4, _, ⟨⟨oc', vc, g1, _, g3, g4⟩, hP⟩⟩ := G.T.tab r hr1
    rw [beq_iff_eq.mp hr2, e1] at h1
    cases h1
    cases (KX _ _ e2).symm.trans h2
    cases e3.symm.trans h3
    cases e4.symm.trans h4
    cases (KX _ _ e5).symm.trans g1
    cases e6.symm.trans g3
    cases e7.symm.trans g4
    exact hP
  obtain ⟨fd, cs, sp, ⟨hT, nT, C⟩, hb, hsp, hF⟩ := F w mg fa _ KX G.T.g hmg own
  exact law_top KX G.T.g G.T.b G.T.builtins G.T.nolimit hg hT nT C G.T.bmain hobj hints (Nat.le_trans hlen hn2) hF hb fun H hH hS => hsp H a ns hlen hbits hH hS
end Lg
namespace Lg
open PySem L2
theorem hu66 {k : Nat} {A : Around} (r : Room k A) : A.units + 66 < cLine := by
  have := r.un
  omega
theorem hu65 {k : Nat} {A : Around} (r : Room k A) : A.units + 65 < cLine := by
  have := r.un
  omega
end Lg
set_option Elab.async false
set_option linter.all false
set_option maxRecDepth 100000
set_option maxHeartbeats 2000000
/-! repr; x in a list of data -/
namespace Lg
open PySem PySem.Spec PyProof.Rows L2 Cw
section
variable {B : Fm} {K : PySem.W.Frag} {W : WX} {X : Ad} {Λ : Env} {σ : L2.St} {H : Hp} {τ : List (LV × V)} {F : Fp} {i : Nat} {te tb : TE} {le lb : LE}
theorem S_cps (s : Str) : Cw.S s.cps.toList = s := by
  cases s
  rfl
def shw (x : LV) : List Nat := (dD x).shown.cps.toList
structure ShwOk (x : LV) : Prop where
  ok : dOk x = true
  sh : (dD x).showable = true ∧ (dD x).hasDict = false
  lay : SeqAt.shaped (dD x) = true
  len : (dD x).shown.length ≤ sizeLine
def fRepr : FA := fun xs k => match xs with
  | [x] => ShwOk x ∧ k (.str (shw x))
  | _ => False
theorem rva_repr : RVA B K (rRepr K) fRepr := by
  intro X Λ σ H τ F xs us S r k Q h q
  unfold fRepr at h
  split at h
  · rename_i x
    obtain ⟨v, rfl, rx⟩ := r.one_inv
    have e : sv (shw x) = .str (dD x).shown := congrArg V.str (S_cps _)
    refine ⟨v, dD x, rfl, dp_of x v h.1.ok rx, h.1.sh, h.1.lay, h.1.len, ?_⟩
    rw [← e]
    exact q _ _ _ h.2 S (.str _) Kq.refl
  · exact h.elim
/-! ### x in l -/
def fInD (n : Bool) : F2 := fun x y k => match y with
  | .lst ys => (dOk x = true ∧ dOks ys = true) ∧ (SeqAt.shaped (dD x) = true ∧ SeqAt.shaped (dD (.lst ys)) = true) ∧ k (.bl (xor n ((dDs ys).any fun z => PyData.eqv z (dD x))))
  | _ => False
theorem rv_inD : RV2 B K (rInD K) (fInD false) := by
  intro X Λ σ H τ F x y u v S rx ry k Q h q
  unfold fInD at h
  split at h
  · rename_i ys
    exact ⟨dD x, dDs ys, dp_of x u h.1.1 rx, dp_of (.lst ys) v h.1.2 ry, h.2.1.1, h.2.1.2, by have z := q _ _ _ h.2.2 S (.bl _) Kq.refl; rw [Bool.false_xor] at z; exact z⟩
  · exact h.elim
theorem rv_notinD : RV2 B K (rNotInD K) (fInD true) := by
  intro X Λ σ H τ F x y u v S rx ry k Q h q
  unfold fInD at h
  split at h
  · rename_i ys
    exact ⟨dD x, dDs ys, dp_of x u h.1.1 rx, dp_of (.lst ys) v h.1.2 ry, h.2.1.1, h.2.1.2, by have z := q _ _ _ h.2.2 S (.bl _) Kq.refl; rw [Bool.true_xor] at z; exact z⟩
  · exact h.elim
/-- e in l, l a list of one's own -/
def lInO (n : Bool) (i : Nat) (le : LE) : LE := fun Λ k => le Λ (bk k fun x Λ1 => match own? Λ1 i with
  | some ys => (dOk x = true ∧ dOks ys = true) ∧ (SeqAt.shaped (dD x) = true ∧ SeqAt.shaped (dD (.lst ys)) = true) ∧ k (.ok (.bl (xor n ((dDs ys).any fun z => PyData.eqv z (dD x)))) Λ1)
  | none => False)
theorem in_own {n : Bool} {R : R2} (hR : ∀ x y H Q d ds, Dp K H x d → Dp K H y (.list ds) → SeqAt.shaped d = true → SeqAt.shaped (.list ds) = true → Q (.bl (xor n (ds.any fun z => PyData.eqv z d))) H → R x y H Q) (h0 : SE B K W te le) : SE B K W (tOp R te (tVar i)) (lInO n i le) := by
  intro X Λ σ H τ F k Q S h c
  refine h0 X Λ σ H τ F _ _ S h (c.bk (τ' := τ) fun x u Λ1 H1 F1 g S1 r1 q1 => ?_)
  split at g
  · rename_i ys e
    obtain ⟨g1, g2, g3⟩ := g
    obtain ⟨e0, a0, b0⟩ := own_at e
    obtain ⟨p, vs, hs, hp, rr, _⟩ := S1.ownl a0 b0
    exact ⟨_, hs, hR _ _ _ _ (dD x) (dDs ys) (dp_of x u g1.1 r1) (.lst (l_of hp) (dps_of ys vs g1.2 rr)) g2.1 g2.2 (c.ok _ _ _ _ _ g3 S1 (.bl _) q1)⟩
  · exact g.elim
theorem se_inO (h0 : SE B K W te le) : SE B K W (tOp (rInD K) te (tVar i)) (lInO false i le) := in_own (fun x y H Q d ds a b c e q => ⟨d, ds, a, b, c, e, by rw [Bool.false_xor] at q; exact q⟩) h0
theorem se_notinO (h0 : SE B K W te le) : SE B K W (tOp (rNotInD K) te (tVar i)) (lInO true i le) := in_own (fun x y H Q d ds a b c e q => ⟨d, ds, a, b, c, e, by rw [Bool.true_xor] at q; exact q⟩) h0
end
/-! ### data of short ints: their depth, their weight -/
structure Sm (x : LV) (dp wt : Nat) : Prop where
  ok : dOk x = true
  lay : PyData.canLay0 (dD x) = true
  sh : (dD x).showable = true
  nd : (dD x).hasDict = false
  short : (dD x).intsShort 13 = true
  d : (dD x).depth ≤ dp
  w : (dD x).weight ≤ wt
structure Sms (xs : List LV) (dp wt : Nat) : Prop where
  ok : dOks xs = true
  lay : PyData.canLayAll0 (dDs xs) = true
  sh : PyData.showableAll (dDs xs) = true
  nd : PyData.hasDictAll (dDs xs) = false
  short : PyData.intsShortAll 13 (dDs xs) = true
  d : PyData.depthAll (dDs xs) ≤ dp
  w : PyData.weightAll (dDs xs) ≤ wt
theorem Sm.mono {x : LV} {d d' w w' : Nat} (h : Sm x d w) (hd : d ≤ d') (hw : w ≤ w') : Sm x d' w' := ⟨h.ok, h.lay, h.sh, h.nd, h.short, Nat.le_trans h.d hd, Nat.le_trans h.w hw⟩
theorem Sms.mono {x : List LV} {d d' w w' : Nat} (h : Sms x d w) (hd : d ≤ d') (hw : w ≤ w') : Sms x d' w' := ⟨h.ok, h.lay, h.sh, h.nd, h.short, Nat.le_trans h.d hd, Nat.le_trans h.w hw⟩
theorem Sm.int {i : Int} (h : i.natAbs < 1000000000000) : Sm (.int i) 0 40 := by
  refine ⟨rfl, by show PyData.canLay0 (.int i) = true; unfold PyData.canLay0; rfl, ?_, by show PyData.hasDict (.int i) = false; unfold PyData.hasDict; rfl, ?_, by show PyData.depth (.int i) ≤ 0; unfold PyData.depth; exact Nat.le_refl _, ?_⟩
  · show PyData.showable (.int i) = true
    have hl : i.natAbs.log2 < 1920 := by
      rcases Nat.eq_zero_or_pos i.natAbs with e | e
      · rw [e]
        decide
      · exact (Nat.log2_lt (by omega)).mpr (Nat.lt_trans h (by decide +kernel))
    simp [PyData.showable, hl]
  · show PyData.intsShort 13 (.int i) = true
    unfold PyData.intsShort
    exact decide_eq_true (PyData.shown_int_le (by simpa using h))
  · show PyData.weight (.int i) ≤ 40
    unfold PyData.weight
    by_cases e : i = 0
    · simp [e]
    · have hl : i.natAbs.log2 < 39 + 1 := (Nat.log2_lt (by omega)).mpr (Nat.lt_trans h (by decide))
      simp [e]
      omega
theorem Sm.nat {n : Nat} (h : n < 1000000000000) : Sm (.int (n : Int)) 0 40 := .int (by simpa using h)
theorem Sm.bl (b : Bool) : Sm (.bl b) 0 0 := by
  refine ⟨rfl, ?_, ?_, ?_, ?_, ?_, ?_⟩ <;> simp [dD, PyData.canLay0, PyData.showable, PyData.hasDict, PyData.intsShort, PyData.depth, PyData.weight]
theorem Sm.non : Sm .non 0 0 := by
  refine ⟨rfl, ?_, ?_, ?_, ?_, ?_, ?_⟩ <;> simp [dD, PyData.canLay0, PyData.showable, PyData.hasDict, PyData.intsShort, PyData.depth, PyData.weight]
theorem Sms.nil {d w : Nat} : Sms [] d w := by
  refine ⟨rfl, ?_, ?_, ?_, ?_, ?_, ?_⟩ <;> simp [dDs, PyData.canLayAll0, PyData.showableAll, PyData.hasDictAll, PyData.intsShortAll, PyData.depthAll, PyData.weightAll]
theorem Sms.cons {x : LV} {xs : List LV} {d w w' : Nat} (h : Sm x d w) (t : Sms xs d w') : Sms (x :: xs) d (w + 1 + w') := by
  refine ⟨by show (dOk x && dOks xs) = true; rw [h.ok, t.ok]; rfl, ?_, ?_, ?_, ?_, ?_, ?_⟩
  · show PyData.canLayAll0 (dD x :: dDs xs) = true
    unfold PyData.canLayAll0
    rw [h.lay, t.lay]
    rfl
  · show PyData.showableAll (dD x :: dDs xs) = true
    unfold PyData.showableAll
    rw [h.sh, t.sh]
    rfl
  · show PyData.hasDictAll (dD x :: dDs xs) = false
    unfold PyData.hasDictAll
    rw [h.nd, t.nd]
    rfl
  · show PyData.intsShortAll 13 (dD x :: dDs xs) = true
    unfold PyData.intsShortAll
    rw [h.short, t.short]
    rfl
  · show PyData.depthAll (dD x :: dDs xs) ≤ d
    unfold PyData.depthAll
    exact Nat.max_le.mpr ⟨h.d, t.d⟩
  · show PyData.weightAll (dD x :: dDs xs) ≤ _
    unfold PyData.weightAll
    have := h.w
    have := t.w
    omega
theorem Sms.one {x : LV} {d w : Nat} (h : Sm x d w) : Sms [x] d (w + 1) := (h.mono (Nat.le_refl _) (Nat.le_refl _)) |> fun h => (Sms.cons h (Sms.nil (w := 0))).mono (Nat.le_refl _) (Nat.le_refl _)
theorem Sms.all {d w : Nat} : ∀ {xs : List LV}, (∀ x ∈ xs, Sm x d w) → Sms xs d (xs.length * (w + 1))
  | [], _ => .nil
  | x :: xs, h => (Sms.cons (h x (List.mem_cons_self ..)) (Sms.all fun y hy => h y (List.mem_cons_of_mem _ hy))).mono (Nat.le_refl _) (by rw [List.length_cons, Nat.succ_mul]; omega)
theorem Sm.lst {xs : List LV} {d w : Nat} (h : Sms xs d w) : Sm (.lst xs) (d + 1) w := by
  refine ⟨h.ok, ?_, ?_, ?_, ?_, ?_, ?_⟩
  · show PyData.canLay0 (.list (dDs xs)) = true
    unfold PyData.canLay0
    exact h.lay
  · show PyData.showable (.list (dDs xs)) = true
    unfold PyData.showable
    exact h.sh
  · show PyData.hasDict (.list (dDs xs)) = false
    unfold PyData.hasDict
    exact h.nd
  · show PyData.intsShort 13 (.list (dDs xs)) = true
    unfold PyData.intsShort
    exact h.short
  · show PyData.depth (.list (dDs xs)) ≤ d + 1
    unfold PyData.depth
    have := h.d
    omega
  · show PyData.weight (.list (dDs xs)) ≤ w
    unfold PyData.weight
    exact h.w
theorem Sm.tup {xs : List LV} {d w : Nat} (h : Sms xs d w) : Sm (.tup xs) (d + 1) w := by
  refine ⟨h.ok, ?_, ?_, ?_, ?_, ?_, ?_⟩
  · show PyData.canLay0 (.tuple (dDs xs)) = true
    unfold PyData.canLay0
    exact h.lay
  · show PyData.showable (.tuple (dDs xs)) = true
    unfold PyData.showable
    exact h.sh
  · show PyData.hasDict (.tuple (dDs xs)) = false
    unfold PyData.hasDict
    exact h.nd
  · show PyData.intsShort 13 (.tuple (dDs xs)) = true
    unfold PyData.intsShort
    exact h.short
  · show PyData.depth (.tuple (dDs xs)) ≤ d + 1
    unfold PyData.depth
    have := h.d
    omega
  · show PyData.weight (.tuple (dDs xs)) ≤ w
    unfold PyData.weight
    exact h.w
theorem Sm.shaped {x : LV} {d w : Nat} (h : Sm x d w) (hd : d ≤ 64) : SeqAt.shaped (dD x) = true := by
  show (PyData.canLay0 (dD x) && decide (PyData.depth (dD x) ≤ 64)) = true
  rw [h.lay, decide_eq_true (Nat.le_trans h.d hd)]
  rfl
theorem Sm.shw {x : LV} {d w : Nat} (h : Sm x d w) (hd : d ≤ 64) (hw : w ≤ 1048576) : ShwOk x :=
  ⟨h.ok, ⟨h.sh, h.nd⟩, h.shaped hd, PyData.shown_fits (B := 13) (by decide) (by decide) (PyData.leavesShort_of_canLay0 13 _ h.lay h.short) (Nat.le_trans h.w hw)⟩
theorem Sm.refl {x : LV} {d w : Nat} (h : Sm x d w) : PyData.eqv (dD x) (dD x) = true := SeqAt.eqv_refl _ h.lay
theorem Sm.nlv {l : List Nat} {n : Nat} (h : ∀ m ∈ l, m < 1000000000000) (hn : l.length ≤ n) : Sm (.lst (nlv l)) 1 (n * 41) := (Sm.lst (Sms.all (d := 0) (w := 40) fun x hx => by
  unfold Lg.nlv at hx
  obtain ⟨m, hm, rfl⟩ := List.mem_map.mp hx
  exact .nat (h m hm))).mono (Nat.le_refl _) (by rw [nlv_len]; exact Nat.mul_le_mul_right _ hn)
end Lg
set_option Elab.async false
set_option linter.all false
set_option maxRecDepth 100000
set_option maxHeartbeats 2000000
/-! lists that are a value or one's own -/
namespace Lg
open PySem PySem.Spec PyProof.Rows L2 Cw
theorem natz {z : Int} (h : 0 ≤ z) : ∃ n : Nat, z = n := ⟨z.toNat, by omega⟩
theorem br_t {b : Bool} {p q : Prop} (h : b = true) (hp : p) : (b = true → p) ∧ (b = false → q) := ⟨fun _ => hp, fun z => (by rw [h] at z; cases z)⟩
theorem br_f {b : Bool} {p q : Prop} (h : b = false) (hq : q) : (b = true → p) ∧ (b = false → q) := ⟨fun z => (by rw [h] at z; cases z), fun _ => hq⟩
/-- both ways -/
theorem br_c {P : Prop} [Decidable P] {p q : Prop} (hp : P → p) (hq : ¬ P → q) : (decide P = true → p) ∧ (decide P = false → q) := ⟨fun z => hp (of_decide_eq_true z), fun z => hq (of_decide_eq_false z)⟩
theorem xf_t {p : Prop} [Decidable p] (h : p) : (false ^^ decide p) = true := by rw [decide_eq_true h]; rfl
theorem xf_f {p : Prop} [Decidable p] (h : ¬ p) : (false ^^ decide p) = false := by rw [decide_eq_false h]; rfl
theorem xt_t {p : Prop} [Decidable p] (h : ¬ p) : (true ^^ decide p) = true := by rw [decide_eq_false h]; rfl
theorem xt_f {p : Prop} [Decidable p] (h : p) : (true ^^ decide p) = false := by rw [decide_eq_true h]; rfl
theorem br_e {P : Prop} [Decidable P] {p q : Prop} (hp : P → p) (hq : ¬ P → q) : ((false ^^ decide P) = true → p) ∧ ((false ^^ decide P) = false → q) := ⟨fun z => hp (by simpa using z), fun z => hq (by simpa using z)⟩
theorem br_n {P : Prop} [Decidable P] {p q : Prop} (hp : ¬ P → p) (hq : P → q) : ((true ^^ decide P) = true → p) ∧ ((true ^^ decide P) = false → q) := ⟨fun z => hp (by simpa using z), fun z => hq (by simpa using z)⟩
theorem atI_eq {xs : List LV} {i j : Int} {z : LV} (e : i = j) (h : L2.atI xs j = some z) : L2.atI xs i = some z := e ▸ h
def ethE : Ent → Option (List LV)
  | .l xs => some xs
  | .p xs => some xs
  | .v (.lst xs) => some xs
  | _ => none
def eth (Λ : Env) (i : Nat) : Option (List LV) := (Λ[i]?).bind ethE
def lIxE (i : Nat) (lb : LE) : LE := fun Λ k => (eth Λ i).isSome = true ∧ lb Λ (bk k fun y Λ1 => match eth Λ1 i, y with
  | some xs, .int j => ∃ z, atI xs j = some z ∧ k (.ok z Λ1)
  | _, _ => False)
def lLenE (i : Nat) : LE := fun Λ k => match eth Λ i with
  | some xs => k (.ok (.int (xs.length : Nat)) Λ)
  | none => False
/-- handed over as it is -/
def lmE (i : Nat) (lr : LAM) : LAM := fun Λ k => match Λ[i]? with
  | some (.v x) => lr Λ (bk k fun ps Λ1 => k (.ok (.v x :: ps) Λ1))
  | some e => e.isOwn = true ∧ lr Λ (bk k fun ps Λ1 => k (.ok (.own i :: ps) Λ1))
  | none => False
section
variable {B : Fm} {K : PySem.W.Frag} {W : WX} {X : Ad} {Λ : Env} {σ : L2.St} {H : Hp} {τ : List (LV × V)} {F : Fp} {i : Nat} {te tb : TE} {le lb : LE} {tr : TA} {lr : LAM} {xs : List LV}
theorem Sr.eth (S : Sr B K X Λ σ H τ F) (h : eth Λ i = some xs) : ∃ p vs, σ[i]? = some (some (.ref p)) ∧ Rd H p (.lst vs) ∧ Rps (Nn X F) K H xs vs := by
  unfold Lg.eth at h
  cases e : Λ[i]? with
  | none => rw [e] at h; cases h
  | some en =>
    rw [e] at h
    have h : ethE en = some xs := h
    cases en with
    | l ys =>
      cases h
      obtain ⟨p, vs, hs, hp, r, _⟩ := S.ownl e rfl
      exact ⟨p, vs, hs, .inl hp, r⟩
    | p ys =>
      cases h
      obtain ⟨p, vs, hs, hp, r, _⟩ := S.ownl e rfl
      exact ⟨p, vs, hs, .inl hp, r⟩
    | v x =>
      cases x with
      | lst ys =>
        cases h
        obtain ⟨v, hv, r⟩ := S.get e
        obtain ⟨p, vs, rfl, hp, rr⟩ := r.lst_rd
        exact ⟨p, vs, hv, hp, rr⟩
      | _ => cases h
    | _ => cases h
theorem se_ixE (hb : SE B K W tb lb) : SE B K W (tOp (rIxL K) (tVar i) tb) (lIxE i lb) := by
  intro X Λ σ H τ F k Q S h c
  obtain ⟨ys, ey⟩ := Option.isSome_iff_exists.mp h.1
  obtain ⟨p, _, hs, _⟩ := S.eth ey
  refine ⟨_, hs, ?_⟩
  refine hb X Λ σ H τ F _ _ S h.2 (c.bk (τ' := τ) fun y v Λ1 H1 F1 h1 S1 r1 q1 => ?_)
  split at h1
  · rename_i xs j e1
    obtain ⟨z, ez, hz⟩ := h1
    obtain ⟨p', vs, hs', hp, r⟩ := S1.eth e1
    rw [hs] at hs'
    cases hs'
    obtain ⟨n, w, n1, n2, n3⟩ := atI_map r.len ez
    exact ⟨p, vs, _, w, rfl, r1.int_inv, .inl hp, n3, c.ok _ _ _ _ _ hz S1 (r.get n _ _ n1 n2) q1⟩
  · exact h1.elim
theorem se_lenE : SE B K W (tCB (fun xs H Q => ∃ p ys, xs = [.ref p] ∧ (SqL K H p ys ∨ SqT K H p ys) ∧ Q (.int ys.length) H) (tCons (tVar i) tNil)) (lLenE i) := by
  intro X Λ σ H τ F k Q S h c
  unfold lLenE at h
  split at h
  · rename_i xs e
    obtain ⟨p, vs, hs, hp, r⟩ := S.eth e
    exact ⟨_, hs, p, vs, rfl, .inl (.inl hp), by rw [← r.len]; exact c.ok _ _ _ _ _ h S (.int _) Kq.refl⟩
  · exact h.elim
theorem sam_e (hr : SAM B K W tr lr) : SAM B K W (tCons (tVar i) tr) (lmE i lr) := by
  intro X Λ σ H τ F k Q S h c
  unfold lmE at h
  split at h
  · rename_i x e
    obtain ⟨v, hv, r⟩ := S.get e
    refine ⟨v, hv, ?_⟩
    refine hr X Λ σ H ((x, v) :: τ) F _ _ (S.push r) h (c.bk (τ' := (x, v) :: τ) fun b u Λ2 H2 F2 h2 S2 r2 q2 => ?_)
    obtain ⟨ra, S2'⟩ := S2.pop
    exact c.ok _ _ _ _ _ h2 S2' (.cons ra r2) q2
  · rename_i e _ he
    obtain ⟨v, hv⟩ := own_slot S he h.1
    refine ⟨v, hv, ?_⟩
    exact hr X Λ σ H τ F _ _ S h.2 (c.bk (τ' := τ) fun b u Λ2 H2 F2 h2 S2 r2 q2 => c.ok _ _ _ _ _ h2 S2 (.cons hv r2) q2)
  · exact h.elim
end
end Lg
set_option Elab.async false
set_option linter.all false
set_option maxRecDepth 100000
set_option maxHeartbeats 2000000
/-! starred items; comprehensions over an attribute's list; items stored into one -/
namespace Lg
open PySem PySem.Spec PyProof.Rows L2 Cw
def lStar (le : LE) (lr : LA) : LA := fun Λ k => le Λ (bk k fun x Λ1 => match x with
  | .lst ys => lr Λ1 (bk k fun xs Λ2 => k (.ok (ys ++ xs) Λ2))
  | .tup ys => lr Λ1 (bk k fun xs Λ2 => k (.ok (ys ++ xs) Λ2))
  | _ => False)
def lqI0 (g : Int → Int → LV) (la lb : LQ) : LQ := fun Λ k => la Λ fun x => lb Λ fun y => match x, y with
  | .int i, .int j => k (g i j)
  | _, _ => False
/-- x.f[j] = e -/
def lStoF (i : Nat) (C : Addr) (f : Str) (lj : LQ) (le : LE) : LS := fun Λ k => le Λ (sk k fun x Λ1 => ∃ fs, Λ1[i]? = some (.o C fs) ∧ ∃ xs, fs.lookup f = some (.l xs) ∧ lj Λ1 fun y => match y with
  | .int j => ∃ m : Nat, ixN xs.length j = some m ∧ k (.nx (Λ1.set i (.o C (setF f (.l (xs.set m x)) fs))))
  | _ => False)
/-- [e for g in o.f if t] -/
def lLcF (i : Nat) (C : Addr) (f : Str) (lg : LV → Env → (Env → Prop) → Prop) (lt : LT) (le : LE) (vs : List Nat) : LA := fun Λ k => ∃ fs, Λ[i]? = some (.o C fs) ∧ ∃ xs, fs.lookup f = some (.l xs) ∧ ∃ I : Nat → List LV → Env → Prop, I 0 [] (Λ.set i (.x hidO)) ∧
  (∀ (j : Nat) x acc Λ2, xs[j]? = some x → I j acc Λ2 → noAt Λ2 vs = true ∧ lg x Λ2 fun Λ3 => lt Λ3 (okk fun b Λ4 => Br b (le Λ4 (okk fun y Λ5 => acc.length < 100000 ∧ I (j + 1) (acc ++ [y]) (wipeE Λ5 vs))) (I (j + 1) acc (wipeE Λ4 vs)))) ∧ ∀ acc Λ2, I xs.length acc Λ2 → k (.ok acc (Λ2.set i (.o C fs)))
section
variable {B : Fm} {K : PySem.W.Frag} {W : WX} {te tb : TE} {le lb : LE} {tr : TA} {lr : LA} {tj : TE} {lj : LQ} {tt : TT} {lt : LT} {g : TG} {lg : LV → Env → (Env → Prop) → Prop}
theorem sa_star (ha : SE B K W te le) (hr : SA B K W tr lr) : SA B K W (StX.tStar K te tr) (lStar le lr) := by
  intro X Λ σ H τ F k Q S h c
  refine ha X Λ σ H τ F _ _ S h (c.bk (τ' := τ) fun a u Λ1 H1 F1 h1 S1 r1 q1 => ?_)
  have go : ∀ (ys : List LV) (vs : List V), (lr Λ1 (bk k fun xs Λ2 => k (.ok (ys ++ xs) Λ2))) → Rps (Nn X F1) K H1 ys vs → tr σ H1 fun ws H2 => Q (vs ++ ws) H2 := fun ys vs h2 hv =>
    hr X Λ1 σ H1 τ F1 _ _ S1 h2 ((c.st S1 q1).bk (τ' := τ) fun b v Λ2 H2 F2 h3 S2 r2 q2 => c.ok _ _ _ _ _ h3 S2 ((hv.mono (q2.stp S1.sub)).append r2) (q1.trans S1.good q2))
  split at h1
  · obtain ⟨p, vs, rfl, hp, r⟩ := r1.lst_inv
    exact ⟨p, vs, rfl, .inr hp.sq, go _ vs h1 r⟩
  · obtain ⟨p, vs, rfl, hp, r⟩ := r1.tup_inv
    exact ⟨p, vs, rfl, .inl hp.sq, go _ vs h1 r⟩
  · exact h1.elim
theorem ss_stoF {i : Nat} {C : Addr} {f : Str} (hc : Cls K C) (hn : NoAttr K C f) (h0 : SE B K W te le) (h1 : SQ B K tj lj) : SS B K W (tAsg te (gSub (tFld K (tVar i) f) tj rSetL)) (lStoF i C f lj le) := by
  intro X Λ σ H τ F k D S h c
  refine h0 X Λ σ H τ F _ _ S h (c.cn (fun _ _ _ _ z => z) fun x v Λ1 H1 F1 g S1 r q => ?_)
  obtain ⟨fs, e, xs, ex, g⟩ := g
  unfold gSub
  refine own_at2 S1 hc hn e ex fun p vs m hq rr fa => ?_
  refine h1 X Λ1 σ H1 ((x, v) :: τ) F1 _ _ (S1.push r) g fun y u H2 h2 S2 r2 s2 => ?_
  obtain ⟨rx, S2'⟩ := S2.pop
  split at h2
  · rename_i j
    obtain ⟨n, hm, hk⟩ := h2
    have hq2 := S1.stay s2 m hq
    have rr2 := rr.mono (s2.stp S1.sub)
    obtain ⟨_, q01⟩ := S1.heap S2'.good s2
    obtain ⟨S3, q3⟩ := S2'.mutF (q := p) (o := .lst (vs.set n v)) (d' := .l (xs.set n x)) e ex (fa.stay S1 e s2) (fun G r => by
      obtain ⟨q', vs', e', hq', rr', hG⟩ := r
      cases e'
      exact (hG p).mpr rfl) fun G r st => by
      obtain ⟨q', vs', e', hq', rr', hG⟩ := r
      cases e'
      exact ⟨p, _, rfl, upd_same, (rr2.set rx n).mono st, hG⟩
    exact ⟨p, vs, j, n, rfl, r2.int_inv, hq2, by rw [← rr2.len]; exact hm, c.nx _ _ _ _ hk S3 ((q.trans S1.good q01).trans S2'.good q3)⟩
  · exact h2.elim
theorem sq_i0 {g : Int → Int → V} {g' : Int → Int → LV} {ta tb : TE} {la lb : LQ} (ha : SQ B K ta la) (hb : SQ B K tb lb) (hg : ∀ N H i j, Rp N K H (g' i j) (g i j) := by exact fun _ _ _ _ => .int _) : SQ B K (tOp (rI0 g) ta tb) (lqI0 g' la lb) := by
  intro X Λ σ H τ F k Q S h c
  refine ha X Λ σ H τ F _ _ S h fun x v H1 h1 S1 r1 s1 => ?_
  refine hb X Λ σ H1 ((x, v) :: τ) F _ _ (S1.push r1) h1 fun y u H2 h2 S2 r2 s2 => ?_
  obtain ⟨rx, S2'⟩ := S2.pop
  split at h2
  · exact ⟨_, _, rx.int_inv, r2.int_inv, c _ _ _ h2 S2' (hg _ _ _ _) (s1.trans s2)⟩
  · exact h2.elim
theorem sn_lcF {i : Nat} {C : Addr} {f : Str} {js vs : List Nat} (hc : Cls K C) (hn : NoAttr K C f) (hj : ∀ j ∈ js, j ∈ vs) (hg : SG B K js g lg) (ht : ST B K W0 tt lt) (he : SE B K W0 te le) : SN B K W (tLc (iList K (tFld K (tVar i) f)) g tt te vs) (lLcF i C f lg lt le vs) := by
  intro X Λ σ H τ F k Q S h c
  obtain ⟨fs, e, xs, ex, I, i0, iS, iE⟩ := h
  unfold tLc iList
  refine own_at2 S hc hn e ex fun q us m hq rr fa => ⟨q, rfl, ⟨us, l_of hq⟩, ?_⟩
  have Sh := S.hide e
  intro D hD
  have nN := Sh.free hD
  have nX : ¬ hidX X F i D := fun z => nN (.inl z)
  have nB : D ∉ B := fun m => nX (Sh.sub D m)
  have hqD : q ≠ D := ne_of_none hq hD
  obtain ⟨SD, qD, _⟩ := Sh.addX (o := .lst []) hD
  have nFq : ∀ j, ¬ F.cut i j q := fun j z => z.1 (S.dis j i q z.2 m)
  have nBq : q ∉ B := fun mb => S.disX i q m (S.sub q mb)
  have qAt : ∀ {Λ' H' F'}, Kq B (Λ.set i (.x hidO)) σ H (F.cut i) Λ' σ H' F' → H' q = some (.lst us) := fun {Λ' H' F'} k => k.keep q _ hq nBq nFq
  refine lc_it (walk_list (a := q) (xs := us)) (fun i' H' => ∃ Λ' F' acc av, Sr B K (fun a => hidX X F i a ∨ a = D) Λ' σ H' τ F' ∧ Kq B (Λ.set i (.x hidO)) σ H (F.cut i) Λ' σ H' F' ∧ H' D = some (.lst av) ∧ Rps (Nn (fun a => hidX X F i a ∨ a = D) F') K H' acc av ∧ I i' acc Λ')
    ⟨_, _, [], [], SD, qD, upd_same, .nil, i0⟩ (fun i' H' _ ⟨Λ', F', acc, av, S', q', _⟩ => l_of (qAt q')) (fun i' v Ha Hb hi ⟨Λ', F', acc, av, S', q', hDa, ra, g'⟩ y => ?_) (fun H' ⟨Λ', F', acc, av, S', q', hDa, ra, g'⟩ => ?_)
  · obtain ⟨rfl, hv⟩ := y
    have hix : i' < xs.length := by rw [rr.len]; exact hi
    have hx : xs[i']? = some xs[i'] := List.getElem?_eq_getElem hix
    have st := Kq.stp (X := hidX X F i) (fun a m => Or.inl (S.sub a m)) q'
    rw [hid_nn] at st
    have rp0 := (rr.get i' _ v hx hv).mono st
    have rp : Rp (Nn (fun a => hidX X F i a ∨ a = D) F') K Hb xs[i'] v := by
      have fresh := rr.get i' _ v hx hv
      refine fresh.mono fun a o h1 h2 => ?_
      obtain ⟨n1, e1⟩ := st a o h1 h2
      refine ⟨fun z => ?_, e1⟩
      rcases z with (z | z) | z
      · exact n1 (.inl z)
      · exact ne_of_none h1 hD z
      · exact n1 (.inr z)
    obtain ⟨hno, g'⟩ := iS i' _ acc Λ' hx g'
    obtain ⟨Fw, Sw, fw, stw⟩ := S'.forget (Λ' := Λ') (σ' := wipe σ vs) rfl (wipe_length ..) (fun j e hje => by
      by_cases hm : j ∈ vs
      · rw [no_at hno hm] at hje
        exact .inl (Option.some.inj hje).symm
      · exact .inr ⟨hje, by rw [wipe_get, if_neg hm]⟩)
    refine hg _ Λ' (wipe σ vs) Hb τ Fw xs[i'] v _ _ Sw (rp.mono stw) g' fun Λ4 σ4 H4 F4 g4 S4 q4 x4 => ⟨wipe_eq x4 hj, ?_⟩
    have k4 : Kh B Hb F' H4 F4 := (Kh.sub ⟨fun _ _ h _ _ => h, fun i a h => .inl ⟨i, h⟩, fun a o h => ⟨o, h⟩⟩ fw).trans q4.kh
    have back : ∀ Λx Hx Fx, Sr B K (fun a => hidX X F i a ∨ a = D) Λx σ4 Hx τ Fx → Kq B Λ4 σ4 H4 F4 Λx σ4 Hx Fx → ∃ F6, Sr B K (fun a => hidX X F i a ∨ a = D) (wipeE Λx vs) σ Hx τ F6 ∧ Kq B (Λ.set i (.x hidO)) σ H (F.cut i) (wipeE Λx vs) σ Hx F6 ∧ Hx D = some (.lst av) ∧ Rps (Nn (fun a => hidX X F i a ∨ a = D) F6) K Hx acc av ∧ Stp (Nn (fun a => hidX X F i a ∨ a = D) Fx) Hx (Nn (fun a => hidX X F i a ∨ a = D) F6) Hx := by
      intro Λx Hx Fx Sx qx
      have kx : Kh B Hb F' Hx Fx := k4.trans qx.kh
      obtain ⟨F6, S6, f6, st6⟩ := Sx.forget (Λ' := wipeE Λx vs) (σ' := σ) (wipeE_len ..) (by rw [x4.1, wipe_length]) (fun j e hje => by
        rw [wipeE_get] at hje
        by_cases hm : j ∈ vs
        · rw [if_pos hm] at hje
          obtain ⟨_, _, z⟩ := Option.map_eq_some_iff.mp hje
          exact .inl z.symm
        · rw [if_neg hm] at hje
          exact .inr ⟨hje, by rw [x4.2 j fun z => hm (hj j z), wipe_get, if_neg hm]⟩)
      have k6 : Kh B H (F.cut i) Hx F6 := q'.kh.trans (kx.sub f6)
      refine ⟨F6, S6, ⟨k6.keep, k6.own, k6.all, fun j e h1 hp => ?_, ?_⟩, kx.keep D _ hDa nB fun j m => S'.disX j D m (.inr rfl), (ra.mono (kx.stp S'.sub)).mono st6, st6⟩
      · obtain ⟨_, e1, h2, p2⟩ := q'.pin j e h1 hp
        have hm : j ∉ vs := fun m => by
          rw [no_at hno m] at h2
          cases h2
          cases p2
        obtain ⟨_, e2, h3, p3⟩ := q4.pin j e1 h2 p2
        obtain ⟨_, e3, h4, p4⟩ := qx.pin j e2 h3 p3
        exact ⟨rfl, e3, by rw [wipeE_get, if_neg hm]; exact h4, p4⟩
      · rw [wipeE_len, qx.ln, q4.ln, q'.ln]
    refine ht _ Λ4 σ4 H4 τ F4 _ _ S4 g4 ⟨fun b b' Λ5 H5 F5 g5 S5 r5 q5 => ?_, fun C nm x u d Λ' H' F' z => z.elim⟩
    subst r5
    dsimp only [okk] at g5
    cases b with
    | false =>
      rw [if_neg Bool.false_ne_true]
      obtain ⟨F6, S6, q6, d6, r6, _⟩ := back Λ5 H5 F5 S5 q5
      exact ⟨_, F6, acc, av, S6, q6, d6, r6, g5.2 rfl⟩
    | true =>
      rw [if_pos rfl]
      refine he _ Λ5 σ4 H5 τ F5 _ _ S5 (g5.1 rfl) ⟨fun y' u Λ6 H6 F6 g6 S6 r6 q6 => ?_, fun C nm x u d Λ' H' F' z => z.elim⟩
      dsimp only [okk] at g6
      obtain ⟨F7, S7, q7, d7, r7, st7⟩ := back Λ6 H6 F6 S6 (q5.trans S5.good q6)
      refine ⟨av, d7, Nat.lt_of_le_of_lt (Nat.le_of_eq r7.len.symm) (Nat.lt_trans g6.1 (by decide)), ?_⟩
      obtain ⟨S8, st8⟩ := S7.updX (p := D) (o := .lst (av ++ [u])) (.inr rfl) nB
      refine ⟨_, F7, acc ++ [y'], av ++ [u], S8, ⟨fun a o h nb nf => ?_, q7.own, fun a o h => ?_, q7.pin, q7.ln⟩, upd_same, (r7.append (.one (r6.mono st7))).mono st8, g6.2⟩
      · rw [upd_ne (ne_of_none h hD)]
        exact q7.keep a o h nb nf
      · rw [upd_ne (ne_of_none h hD)]
        exact q7.all a o h
  · -- the end: the object is shown again
    obtain ⟨Sa, qa, _⟩ := S.addX (o := .lst av) hD
    have eX : hidX (fun a => X a ∨ a = D) F i = fun a => hidX X F i a ∨ a = D := by
      funext a
      refine propext ⟨fun z => ?_, fun z => ?_⟩
      · rcases z with (z | z) | z
        · exact .inl (.inl z)
        · exact .inr z
        · exact .inl (.inr z)
      · rcases z with (z | z) | z
        · exact .inl (.inl z)
        · exact .inr z
        · exact .inl (.inr z)
    have S2 : Sr B K (hidX (fun a => X a ∨ a = D) F i) Λ' σ H' τ F' := by
      rw [eX]
      exact S'
    have q2 : Kq B (Λ.set i (.x hidO)) σ (upd H D (.lst av)) (F.cut i) Λ' σ H' F' := by
      refine ⟨fun a o h nb nf => ?_, fun j a z => ?_, fun a o h => ?_, q'.pin, q'.ln⟩
      · by_cases w : a = D
        · rw [w] at h ⊢
          rw [upd_same] at h
          cases h
          exact hDa
        · rw [upd_ne w] at h
          exact q'.keep a o h nb nf
      · rcases q'.own j a z with w | w
        · exact .inl w
        · refine .inr ?_
          rw [upd_ne fun y => S'.disX j a z (.inr y)]
          exact w
      · by_cases w : a = D
        · rw [w]
          exact ⟨_, hDa⟩
        · rw [upd_ne w] at h
          exact q'.all a o h
    obtain ⟨F3, S3, q3, sub3⟩ := Sa.unhide e S2 q2
    rw [← rr.len] at g'
    refine c.ok acc D _ H' F3 (iE _ _ g') ⟨⟨av, hDa, ra.mono fun a o h n => ⟨sub3 a (by rw [eX]; exact n), h⟩⟩, S3, fun z => nX (.inl z), S.sub⟩ hD (qa.trans Sa.good q3)
end
end Lg
set_option Elab.async false
set_option linter.all false
set_option maxRecDepth 100000
set_option maxHeartbeats 2000000
/-! zip; [x] * n; extend; texts that repr gives, as data -/
namespace Lg
open PySem PySem.Spec PyProof.Rows L2 Cw
def zipL (xs ys : List LV) : List LV := (xs.zip ys).map fun p => .tup [p.1, p.2]
def lZip (lr : LA) : LA := fun Λ k => lr Λ (bk k fun xs Λ1 => match xs with
  | [.lst xs, .lst ys] => k (.ok (zipL xs ys) Λ1)
  | _ => False)
/-- [..] * n -/
def lRep (ln : LA) (le : LE) : LA := fun Λ k => ln Λ (bk k fun xs Λ1 => le Λ1 (bk k fun y Λ2 => match y with
  | .int n => (-(2 ^ 62) ≤ n ∧ n < 2 ^ 62) ∧ xs.length * n.toNat ≤ 100000 ∧ k (.ok (List.replicate n.toNat xs).flatten Λ2)
  | _ => False))
/-- x.extend(e), x a list of one's own -/
def lExt (i : Nat) (le : LE) : LS := fun Λ k => (own? Λ i).isSome = true ∧ le Λ (sk k fun x Λ1 => match x with
  | .lst ys => match Λ1[i]? with
    | some (.l xs) => xs.length + ys.length ≤ 100000 ∧ k (.nx (Λ1.set i (.l (xs ++ ys))))
    | some (.p xs) => xs.length + ys.length ≤ 100000 ∧ k (.nx (Λ1.set i (.p (xs ++ ys))))
    | _ => False
  | _ => False)
section
variable {B : Fm} {K : PySem.W.Frag} {W : WX} {te tb : TE} {le lb : LE} {tr : TA} {lr : LA}
theorem zipL_len (xs ys : List LV) : (zipL xs ys).length = min xs.length ys.length := by
  unfold zipL
  rw [List.length_map, List.length_zip]
theorem zipL_get {xs ys : List LV} {i : Nat} {z : LV} (h : (zipL xs ys)[i]? = some z) : ∃ x y, xs[i]? = some x ∧ ys[i]? = some y ∧ z = .tup [x, y] := by
  unfold zipL at h
  rw [List.getElem?_map] at h
  obtain ⟨p, hp, rfl⟩ := Option.map_eq_some_iff.mp h
  obtain ⟨a, b⟩ := List.getElem?_zip_eq_some.mp hp
  exact ⟨_, _, a, b, rfl⟩
theorem si_zip (h0 : SA B K W tr lr) : SI B K W (iZip K tr) (lZip lr) := by
  intro X Λ σ H τ F k R S h c
  refine h0 X Λ σ H τ F _ _ S h ⟨fun x v Λ1 H1 F1 g S1 r q => ?_, c.ex⟩
  dsimp only [bk] at g
  split at g
  · rename_i xs ys
    obtain ⟨v, u, rfl, rx, ry⟩ := r.two_inv
    obtain ⟨p, vs, rfl, hp, rr⟩ := rx.lst_inv
    obtain ⟨p2, us, rfl, hp2, rr2⟩ := ry.lst_inv
    have n1 : ¬ Nn X F1 p := hp.1
    have n2 : ¬ Nn X F1 p2 := hp2.1
    refine ⟨p, p2, vs, us, rfl, hp.sq, hp2.sq, c.ok _ _ [(.lst xs, .ref p), (.lst ys, .ref p2)] _ _ _ g ((S1.push ry).push rx) q ⟨⟨fun H => ∃ vs us, SqL K H p vs ∧ SqL K H p2 us ∧ vs.length = xs.length ∧ us.length = ys.length, fun i H v H' => ∃ T x y, v = .ref T ∧ H T = none ∧ H' = upd H T (.tup [x, y]) ∧ (∀ vs, SqL K H p vs → vs[i]? = some x) ∧ ∀ us, SqL K H p2 us → us[i]? = some y, ?_, fun X Λ σ H τ F S => ?_, fun i v H H' X Λ σ τ F hi S y => ?_⟩⟩⟩
    · rw [zipL_len]
      refine ⟨fun i H hi ⟨vs, us, h1, h2, l1, l2⟩ => ⟨vs, us, vs[i]'(by omega), us[i]'(by omega), h1, h2, by simp [show i < vs.length by omega], by simp [show i < us.length by omega]⟩, fun H ⟨vs, us, h1, h2, l1, l2⟩ => ⟨vs, us, h1, h2, by omega⟩, fun i H v H' _ _ y => ?_⟩
      obtain ⟨T, x, z, h1, h2, h3, h4, h5⟩ := y
      exact ⟨T, x, z, h1, h2, h3, fun vs h => h4 vs h, fun us h => h5 us h⟩
    · obtain ⟨p', vs', e, hp', r'⟩ := (S.tmp _ (List.mem_append_left _ (List.mem_cons_self ..))).lst_inv
      cases e
      obtain ⟨p3, us', e, hp3, r3⟩ := (S.tmp (LV.lst ys, V.ref p2) (List.mem_append_left _ (List.mem_cons_of_mem _ (List.mem_singleton.mpr rfl)))).lst_inv
      cases e
      exact ⟨vs', us', hp'.sq, hp3.sq, r'.len.symm, r3.len.symm⟩
    · obtain ⟨T, x, z, rfl, nT, rfl, hx, hz⟩ := y
      obtain ⟨p', vs', e, hp', r'⟩ := (S.tmp _ (List.mem_append_left _ (List.mem_cons_self ..))).lst_inv
      cases e
      obtain ⟨p3, us', e, hp3, r3⟩ := (S.tmp (LV.lst ys, V.ref p2) (List.mem_append_left _ (List.mem_cons_of_mem _ (List.mem_singleton.mpr rfl)))).lst_inv
      cases e
      rw [zipL_len] at hi
      have hi1 : i < xs.length := by omega
      have hi2 : i < ys.length := by omega
      have r1 := r'.get i xs[i] x (List.getElem?_eq_getElem hi1) (hx _ hp'.sq)
      have r2 := r3.get i ys[i] z (List.getElem?_eq_getElem hi2) (hz _ hp3.sq)
      obtain ⟨S2, q2, n3⟩ := S.new (o := .tup [x, z]) nT
      have st : Stp (Nn X F) H (Nn X F) (upd H T (.tup [x, z])) := fun a o h n => ⟨n, by rw [upd_ne (ne_of_none h nT)]; exact h⟩
      refine ⟨.tup [xs[i], ys[i]], ?_, S2, q2, .tup' ⟨n3, upd_same⟩ (.cons (r1.mono st) (.one (r2.mono st)))⟩
      unfold zipL
      rw [List.getElem?_map, List.getElem?_zip_eq_some (z := (xs[i], ys[i])) |>.mpr ⟨List.getElem?_eq_getElem hi1, List.getElem?_eq_getElem hi2⟩]
      rfl
  · exact g.elim
theorem rps_rep {N : Ad} {H : Hp} {xs : List LV} {vs : List V} (h : Rps N K H xs vs) : ∀ n : Nat, Rps N K H (List.replicate n xs).flatten (List.replicate n vs).flatten
  | 0 => .nil
  | n + 1 => by
    rw [List.replicate_succ, List.replicate_succ, List.flatten_cons, List.flatten_cons]
    exact h.append (rps_rep h n)
theorem sn_rep {ln : LA} (h0 : SN B K W te ln) (h1 : SE B K W tb lb) : SN B K W (tOp rRep te tb) (lRep ln lb) := by
  intro X Λ σ H τ F k Q S h c
  refine h0 X Λ σ H τ F _ _ S h ⟨fun xs p Λ1 H1 F1 g1 n1 hp q1 => ?_, c.ex⟩
  dsimp only [bk] at g1
  obtain ⟨vs, hv, rr⟩ := n1.lst
  have nB : p ∉ B := fun m => n1.nX (n1.sub p m)
  refine h1 (fun a => X a ∨ a = p) Λ1 σ H1 τ F1 _ _ n1.st g1 ⟨fun y u Λ2 H2 F2 g2 S2 r2 q2 => ?_, fun C nm x u d Λ' H' F' z S' r' q' n n' e => ?_⟩
  · dsimp only [bk] at g2
    split at g2
    · rename_i m
      obtain ⟨hm, hl, hk⟩ := g2
      have hp2 : H2 p = some (.lst vs) := q2.keep p _ hv nB fun i z => n1.nF i z
      have nF2 : ∀ i, ¬ F2 i p := fun i z => S2.disX i p z (.inr rfl)
      have rr2 := rr.mono (q2.stp n1.st.sub)
      refine ⟨p, m, vs, rfl, r2.int_inv, hp2, by omega, by omega, Nat.le_trans (by rw [← rr2.len]; exact hl) (by decide), fun p2 hp3 => ?_⟩
      have S3 : Sr B K X Λ2 σ H2 τ F2 := S2.subX nB
      have rr3 : Rps (Nn X F2) K H2 xs vs := rr2.mono fun a o h n => ⟨fun z => n (z.imp .inl id), h⟩
      obtain ⟨n4, q4⟩ := S3.nwl hp3 (rps_rep rr3 m.toNat)
      have q12 := q1.trans n1.sr.good q2
      exact c.ok _ _ _ _ _ hk n4 (q12.back hp3) (q12.trans S3.good q4)
    · exact g2.elim
  · have S3 : Sr B K X Λ' σ H' [] F' := S'.subX nB
    refine c.ex C nm x u d Λ' H' F' z S3 (r'.mono fun a o h n => ⟨fun z => n (z.imp .inl id), h⟩) (q1.trans n1.sr.good q') (q1.back n) (fun w => n' (w.imp .inl id)) e
theorem ss_ext {i : Nat} (h0 : SE B K W te le) : SS B K W (tDrop (tBM K "list" rExtend (tVar i) (tCons te tNil))) (lExt i le) := by
  intro X Λ σ H τ F k D S h c
  obtain ⟨ys, ey⟩ := Option.isSome_iff_exists.mp h.1
  obtain ⟨e0, a0, b0⟩ := own_at ey
  obtain ⟨p, vs0, hs, hp0, _⟩ := S.ownl a0 b0
  refine ⟨_, hs, .inl ⟨rfl, _, l_of hp0⟩, ?_⟩
  refine h0 X Λ σ H τ F _ _ S h.2 (c.cn (fun _ _ _ _ z => z) fun x v Λ1 H1 F1 g S1 r q => ?_)
  dsimp only [sk] at g
  split at g
  · rename_i ys
    obtain ⟨b, zs, rfl, hb, rz⟩ := r.lst_inv
    have go : ∀ xs e, Λ1[i]? = some e → e.lst? = some xs → xs.length + ys.length ≤ 100000 → k (.nx (Λ1.set i (e.relst (xs ++ ys)))) → rExtend (V.ref p) [V.ref b] H1 fun _ H2 => D.nx σ H2 := by
      intro xs e e1 e2 hz hk
      obtain ⟨p', vs, hs', hp, rr, _⟩ := S1.ownl e1 e2
      rw [hs] at hs'
      cases hs'
      obtain ⟨S2, q2⟩ := S1.mutl e1 e2 hs (rr.append rz)
      exact ⟨p, b, vs, zs, rfl, rfl, hp, hb.2, Nat.le_trans (by rw [← rr.len, ← rz.len]; exact hz) (by decide), c.nx _ _ _ _ hk S2 (q.trans S1.good q2)⟩
    split at g
    · rename_i xs e1
      exact go xs _ e1 rfl g.1 g.2
    · rename_i xs e1
      exact go xs _ e1 rfl g.1 g.2
    · exact g.elim
  · exact g.elim
end
/-! ### a comprehension's names that stand for something ahead of it -/
def noPin (Λ : Env) (vs : List Nat) : Bool := vs.all fun v => stb Λ v
theorem np1 {e : Ent} (h : e.pin = false) : ((!e.pin) && true) = true := by
  rw [h]
  rfl
def lForgetN (vs : List Nat) (ln : LA) : LA := fun Λ k => noPin Λ vs = true ∧ ln (wipeE Λ vs) k
theorem forget_sr {B : Fm} {K : PySem.W.Frag} {X : Ad} {Λ : Env} {σ : L2.St} {H : Hp} {τ : List (LV × V)} {F : Fp} {vs : List Nat} (S : Sr B K X Λ σ H τ F) (h : noPin Λ vs = true) : ∃ F', Sr B K X (wipeE Λ vs) σ H τ F' ∧ Kq B Λ σ H F (wipeE Λ vs) σ H F' := by
  obtain ⟨F', S', f, _⟩ := S.forget (Λ' := wipeE Λ vs) (σ' := σ) (wipeE_len ..) rfl fun j e he => by
    rw [wipeE_get] at he
    by_cases hm : j ∈ vs
    · rw [if_pos hm] at he
      obtain ⟨_, _, z⟩ := Option.map_eq_some_iff.mp he
      exact .inl z.symm
    · rw [if_neg hm] at he
      exact .inr ⟨he, rfl⟩
  refine ⟨F', S', fun a o h _ _ => h, fun i a z => .inl ⟨i, f i a z⟩, fun a o h => ⟨o, h⟩, fun j e he hp => ⟨rfl, e, ?_, hp⟩, wipeE_len ..⟩
  rw [wipeE_get, if_neg]
  · exact he
  · intro hm
    have := (stb_pin (List.all_eq_true.mp h j hm)).2 e he
    rw [this] at hp
    cases hp
theorem sn_forget {B : Fm} {K : PySem.W.Frag} {W : WX} {te : TE} {ln : LA} (vs : List Nat) (h0 : SN B K W te ln) : SN B K W te (lForgetN vs ln) := by
  intro X Λ σ H τ F k Q S h c
  obtain ⟨F', S', q⟩ := forget_sr S h.1
  exact h0 X _ σ H τ F' k Q S' h.2 ⟨fun xs p Λ1 H1 F1 g n hp q1 => c.ok xs p Λ1 H1 F1 g n hp (q.trans S'.good q1), fun C nm x u d Λ' H' F' z S'' r q' n n' e => c.ex C nm x u d Λ' H' F' z S'' r (q.trans S'.good q') n n' e⟩
/-! ### the signs of what repr gives -/
mutual
/-- no texts in it -/
def Sm0 : LV → Bool
  | .tup xs => Sms0 xs
  | .lst xs => Sms0 xs
  | .str _ => false
  | _ => true
def Sms0 : List LV → Bool
  | [] => true
  | x :: xs => Sm0 x && Sms0 xs
end
theorem sms0 : ∀ {xs : List LV}, (∀ x ∈ xs, Sm0 x = true) → Sms0 xs = true
  | [], _ => rfl
  | x :: xs, h => by
    show (Sm0 x && Sms0 xs) = true
    rw [h x (List.mem_cons_self ..), sms0 fun y hy => h y (List.mem_cons_of_mem _ hy)]
    rfl
theorem sm0_nlv (l : List Nat) : Sm0 (.lst (nlv l)) = true := sms0 fun x hx => by
  unfold nlv at hx
  obtain ⟨n, _, rfl⟩ := List.mem_map.mp hx
  rfl
section
open PyProof.Rows
def low (s : Str) : Prop := ∀ c ∈ s.cps.toList, c < 1114112
theorem low_app {a b : Str} (ha : low a) (hb : low b) : low (a ++ b) := fun c hc => by
  rw [Str.cps_append, Array.toList_append] at hc
  exact (List.mem_append.mp hc).elim (ha c) (hb c)
theorem low_join {sep : Str} (hs : low sep) {ts : List Str} (h : ∀ t ∈ ts, low t) : low (Str.join sep ts) := fun c hc => by
  rcases (mem_join ..).mp hc with ⟨t, ht, hm⟩ | ⟨_, hm⟩
  · exact h t ht c hm
  · exact hs c hm
theorem low_str {s : Str} (h : s.cps.toList.all (fun c => decide (c < 1114112)) = true) : low s := fun c hc => of_decide_eq_true (List.all_eq_true.mp h c hc)
theorem low_int (i : Int) : low (PyData.int i).shown := fun c hc => by
  by_cases h : c < 1114112
  · exact h
  · exact (shown_int_free' (k := c) ⟨by omega, .inr (by omega)⟩ i hc).elim
mutual
theorem low_shown : ∀ x : LV, dOk x = true → (dD x).intsShort 13 = true → Sm0 x = true → low (dD x).shown
  | .non, _, _, _ => low_str (by decide)
  | .bl b, _, _, _ => by cases b <;> exact low_str (by decide)
  | .int i, _, _, _ => low_int i
  | .str _, _, _, h => by cases h
  | .tup xs, h1, h2, h3 => by
    show low (PyData.tuple (dDs xs)).shown
    rw [PyData.shown_tuple]
    refine low_app (low_app (low_str (by decide)) (low_join (low_str (by decide)) (lows_shown xs h1 (by simpa [dD, PyData.intsShort] using h2) h3))) ?_
    split <;> exact low_str (by decide)
  | .lst xs, h1, h2, h3 => by
    show low (PyData.list (dDs xs)).shown
    rw [PyData.shown_list]
    exact low_app (low_app (low_str (by decide)) (low_join (low_str (by decide)) (lows_shown xs h1 (by simpa [dD, PyData.intsShort] using h2) h3))) (low_str (by decide))
  | .op _, h, _, _ => by cases h
  | .scr _, h, _, _ => by cases h
  | .obj _ _, h, _, _ => by cases h
  | .kt _, h, _, _ => by cases h
theorem lows_shown : ∀ xs : List LV, dOks xs = true → PyData.intsShortAll 13 (dDs xs) = true → Sms0 xs = true → ∀ t ∈ PyData.shownAll (dDs xs), low t
  | [], _, _, _, t, ht => by
    unfold dDs PyData.shownAll at ht
    cases ht
  | x :: xs, h1, h2, h3, t, ht => by
    unfold dDs PyData.shownAll at ht
    have h1' := Bool.and_eq_true_iff.mp (show (dOk x && dOks xs) = true from h1)
    have h2' : (PyData.intsShort 13 (dD x) && PyData.intsShortAll 13 (dDs xs)) = true := by simpa [dDs, PyData.intsShortAll] using h2
    have h2' := Bool.and_eq_true_iff.mp h2'
    have h3' := Bool.and_eq_true_iff.mp (show (Sm0 x && Sms0 xs) = true from h3)
    rcases List.mem_cons.mp ht with rfl | ht
    · exact low_shown x h1'.1 h2'.1 h3'.1
    · exact lows_shown xs h1'.2 h2'.2 h3'.2 t ht
end
end
/-- a text that repr gave -/
theorem Sm.shwS {x : LV} {d w : Nat} (h : Sm x d w) (h0 : Sm0 x = true) : ∃ n, Sm (.str (Lg.shw x)) 0 n := by
  refine ⟨_, rfl, ?_, by show PyData.showable (.str _) = true; unfold PyData.showable; rfl, by show PyData.hasDict (.str _) = false; unfold PyData.hasDict; rfl, by show PyData.intsShort 13 (.str _) = true; unfold PyData.intsShort; rfl, by show PyData.depth (.str _) ≤ 0; unfold PyData.depth; exact Nat.le_refl _, Nat.le_refl _⟩
  show PyData.canLay0 (.str (Cw.S (Lg.shw x))) = true
  unfold PyData.canLay0 PyData.strOk Lg.shw
  rw [S_cps]
  have l := low_shown x h.ok h.short h0
  rw [Array.all_eq_true_iff_forall_mem]
  intro c hc
  exact decide_eq_true (l c (by simpa using hc))
end Lg
set_option Elab.async false
set_option linter.all false
set_option maxRecDepth 100000
set_option maxHeartbeats 2000000
/-! truth of ints and lists; any, all; is on truths -/
namespace Lg
open PySem PySem.Spec PyProof.Rows L2 Cw
def blv (l : List Bool) : List LV := l.map .bl
theorem rps_blv {N : Ad} {K : PySem.W.Frag} {H : Hp} : ∀ {l : List Bool} {vs : List V}, Rps N K H (blv l) vs → vs = l.map V.bl
  | [], vs, h => h.nil_inv
  | i :: r, vs, h => by
    obtain ⟨v, t, rfl, a, b⟩ := Rps.cons_inv (x := .bl i) (xs := blv r) h
    rw [a.bl_inv, rps_blv b]
    rfl
def fAny : FA := fun xs k => match xs with
  | [.lst ys] => ∃ bs : List Bool, ys = blv bs ∧ k (.bl (bs.any id))
  | _ => False
def fAll : FA := fun xs k => match xs with
  | [.lst ys] => ∃ bs : List Bool, ys = blv bs ∧ k (.bl (bs.all id))
  | _ => False
/-- is, is not on truths -/
def fIs (n : Bool) : F2 := fun x y k => match x, y with
  | .bl a, .bl b => k (.bl (n ^^ decide (a = b)))
  | _, _ => False
/-- the truth of an int or of a list -/
def lTru (le : LE) : LT := fun Λ k => le Λ (bk k fun x Λ1 => match x with
  | .int i => k (.ok (i != 0) Λ1)
  | .lst ys => k (.ok (!ys.isEmpty) Λ1)
  | _ => False)
def lTruO (i : Nat) : LT := fun Λ k => match own? Λ i with
  | some xs => k (.ok (!xs.isEmpty) Λ)
  | none => False
section
variable {B : Fm} {K : PySem.W.Frag} {W : WX} {te : TE} {le : LE}
theorem rva_any : RVA B K (rAny K) fAny := by
  intro X Λ σ H τ F xs us S r k Q h q
  unfold fAny at h
  split at h
  · obtain ⟨bs, rfl, hk⟩ := h
    obtain ⟨v, rfl, rx⟩ := r.one_inv
    obtain ⟨p, vs, rfl, hp, rr⟩ := rx.lst_inv
    have e := rps_blv rr
    subst e
    exact ⟨p, bs, rfl, hp.sq, q _ _ _ hk S (.bl _) Kq.refl⟩
  · exact h.elim
theorem rva_all : RVA B K (rAll K) fAll := by
  intro X Λ σ H τ F xs us S r k Q h q
  unfold fAll at h
  split at h
  · obtain ⟨bs, rfl, hk⟩ := h
    obtain ⟨v, rfl, rx⟩ := r.one_inv
    obtain ⟨p, vs, rfl, hp, rr⟩ := rx.lst_inv
    have e := rps_blv rr
    subst e
    exact ⟨p, bs, rfl, hp.sq, q _ _ _ hk S (.bl _) Kq.refl⟩
  · exact h.elim
theorem rv_isB : RV2 B K rIsB (fIs false) := by
  intro X Λ σ H τ F x y u v S rx ry k Q h q
  unfold fIs at h
  split at h
  · rw [rx.bl_inv, ry.bl_inv]
    refine ⟨_, _, rfl, rfl, ?_⟩
    exact q _ _ _ h S (.bl _) Kq.refl |> fun z => by
      rw [Bool.false_xor] at z
      exact z
  · exact h.elim
theorem rv_notB : RV2 B K rNotB (fIs true) := by
  intro X Λ σ H τ F x y u v S rx ry k Q h q
  unfold fIs at h
  split at h
  · rw [rx.bl_inv, ry.bl_inv]
    refine ⟨_, _, rfl, rfl, ?_⟩
    exact q _ _ _ h S (.bl _) Kq.refl |> fun z => by
      rw [Bool.true_xor] at z
      exact z
  · exact h.elim
theorem emp_len {α β : Type} {xs : List α} {ys : List β} (h : xs.length = ys.length) : xs.isEmpty = ys.isEmpty := by
  cases xs <;> cases ys <;> first | rfl | cases h
def tTru (K : PySem.W.Frag) (ta : TE) : TT := fun σ H Q => ta σ H fun x H' => ∃ k, TruV K x H' k ∧ Q k H'
theorem st_tru (h0 : SE B K W te le) : ST B K W (tTru K te) (lTru le) := by
  intro X Λ σ H τ F k Q S h c
  refine h0 X Λ σ H τ F _ _ S h (c.bk (τ' := τ) fun x v Λ1 H1 F1 g S1 r q => ?_)
  split at g
  · rw [r.int_inv]
    exact ⟨_, rfl, c.ok _ _ _ _ _ g S1 rfl q⟩
  · obtain ⟨p, vs, rfl, hp, rr⟩ := r.lst_inv
    refine ⟨_, .inl ⟨vs, hp.sq, rfl⟩, ?_⟩
    rw [← emp_len rr.len]
    exact c.ok _ _ _ _ _ g S1 rfl q
  · exact g.elim
theorem st_truO {i : Nat} : ST B K W (tTru K (tVar i)) (lTruO i) := by
  intro X Λ σ H τ F k Q S h c
  unfold lTruO at h
  split at h
  · rename_i xs e
    obtain ⟨e0, a0, b0⟩ := own_at e
    obtain ⟨p, vs, hs, hp, r, _⟩ := S.ownl a0 b0
    refine ⟨_, hs, _, .inl ⟨vs, l_of hp, rfl⟩, ?_⟩
    rw [← emp_len r.len]
    exact c.ok _ _ _ _ _ h S rfl Kq.refl
  · exact h.elim
end
theorem pt_tru {X : Cx} {a : Expr} {ta : TE} (ha : PE X a ta) (he : ∀ whole, isTrue a X.env whole = (do let v ← whole; standAt a.pos; holding [v] (truthy v))) : PT X a (tTru X.K ta) := pt_truth ha he
end Lg
set_option Elab.async false
set_option linter.all false
set_option maxRecDepth 100000
set_option maxHeartbeats 2000000
/-! x = {k: v for ..}, x a slot -/
namespace Lg
open PySem PySem.Spec PyProof.Rows L2 Cw
/-- a thing of one's own, new at p -/
structure NwX (B : Fm) (K : PySem.W.Frag) (X : Ad) (Λ : Env) (σ : L2.St) (H : Hp) (τ : List (LV × V)) (F : Fp) (A : Own) (p : Addr) : Prop where
  rep : ∀ N, Stp (Nn (fun a => X a ∨ a = p) F) H N H → A.rep K N H (.ref p) (fun a => a = p)
  st : Sr B K (fun a => X a ∨ a = p) Λ σ H τ F
  nX : ¬ X p
  sub : ∀ a, a ∈ B → X a
section
variable {B : Fm} {K : PySem.W.Frag} {X : Ad} {Λ Λ1 : Env} {σ : L2.St} {H H1 : Hp} {τ : List (LV × V)} {F F1 : Fp} {A : Own} {p : Addr}
theorem NwX.setx (w : NwX B K X Λ σ H τ F A p) {i : Nat} (hl : i < Λ.length) :
    Sr B K X (Λ.set i (.x A)) (σ.set i (some (.ref p))) H τ (F.put i p) := by
  have S : Sr B K X Λ σ H τ F := w.st.subX fun m => w.nX (w.sub p m)
  have nF : ∀ i, ¬ F i p := fun i m => w.st.disX i p m (.inr rfl)
  have st : Stp (Nn (fun a => X a ∨ a = p) F) H (Nn X (F.put i p)) H := fun a o h n => ⟨fun z => by
    rcases z with z | ⟨j, z | z⟩
    · exact n (.inl (.inl z))
    · exact n (.inr ⟨j, z.2⟩)
    · exact n (.inl (.inr z.2)), h⟩
  refine ⟨S.good, S.sub, by rw [List.length_set, List.length_set, S.len], fun j e' u h h' => ?_, fun j a h => ?_, fun j k a h h' => ?_, fun j a h => ?_, S.hasX, fun t m => (w.st.tmp t m).mono st⟩
  · rw [List.getElem?_set] at h h'
    rw [S.len] at h
    by_cases q : i = j
    · rw [if_pos q] at h h'
      split at h
      · rename_i z
        rw [if_pos z] at h'
        cases h
        cases h'
        have ef : F.put i p j = fun a => a = p := by
          funext a
          exact propext ⟨fun z => z.elim (fun z => (z.1 q.symm).elim) fun z => z.2, fun z => .inr ⟨q.symm, z⟩⟩
        rw [ef]
        exact ⟨.ref p, rfl, w.rep _ st⟩
      · cases h
    · rw [if_neg q] at h h'
      have ef : F.put i p j = F j := by
        funext a
        exact propext ⟨fun z => z.elim (fun z => z.2) fun z => (q z.1.symm).elim, fun z => .inl ⟨fun w => q w.symm, z⟩⟩
      rw [ef]
      exact (w.st.ent j e' u h h').mono st fun a m => rfl
  · rw [List.length_set]
    rcases h with h | h
    · exact S.out j a h.2
    · rw [h.1]
      exact hl
  · rcases h with h | h
    · rcases h' with h' | h'
      · exact S.dis j k a h.2 h'.2
      · exact (nF j (by rw [← h'.2]; exact h.2)).elim
    · rcases h' with h' | h'
      · exact (nF k (by rw [← h.2]; exact h'.2)).elim
      · rw [h.1, h'.1]
  · rcases h with h | h
    · exact S.disX j a h.2
    · rw [h.2]
      exact w.nX
theorem put_kqx {i : Nat} (hi : ∀ e, Λ[i]? = some e → e.pin = false) (h : Kq B Λ1 σ H1 F1 Λ σ H F) (h0 : H1 p = none) : Kq B Λ1 σ H1 F1 (Λ.set i (.x A)) (σ.set i (some (.ref p))) H (F.put i p) := by
  refine ⟨h.keep, fun j a z => ?_, h.all, fun j e h1 q => ?_, (List.length_set ..).trans h.ln⟩
  · rcases z with z | z
    · exact h.own j a z.2
    · rw [z.2]
      exact .inr h0
  · obtain ⟨_, e', h2, q'⟩ := h.pin j e h1 q
    have ne : i ≠ j := fun z => by
      rw [hi e' (by rw [z]; exact h2)] at q'
      cases q'
    exact ⟨List.getElem?_set_ne ne, e', by rw [List.getElem?_set_ne ne]; exact h2, q'⟩
end
theorem dc_it {J : It} {n : Nat} {G : Hp → Prop} {Y : Nat → Hp → V → Hp → Prop} (w : Walk J n G Y) {g : TG} {tt : TT} {tk tv : TE} {vs : List Nat} {σ : L2.St} {H1 : Hp} {D : Addr} {Qd : Hp → Prop} (Pv : Nat → Hp → Prop) (h0 : Pv 0 (upd H1 D (.dK []))) (hG : ∀ i H, i ≤ n → Pv i H → G H)
    (hs : ∀ i x H H', i < n → Pv i H → Y i H x H' → g x (wipe σ vs) H' fun σ2 H2 => wipe σ2 vs = wipe σ vs ∧ tt σ2 H2 fun b H3 =>
      if b = true then tk σ2 H3 fun y H4 => tv σ2 H4 fun z H5 => ∃ kvs k, y = kV k ∧ H5 D = some (.dK kvs) ∧ kvs.length < sizeLine ∧ Pv (i + 1) (upd H5 D (.dK (putK kvs k z))) else Pv (i + 1) H3) (hd : ∀ H, Pv n H → Qd H) :
    ∃ W : Nat → Nat → Hp → Prop, (∃ m, W 0 m (upd H1 D (.dK []))) ∧ ∀ i m H, W i m H →
      (J.stop i H ∧ Qd H) ∨ (J.go i H ∧ ∃ Nx : Hp → Prop, (∀ H', Nx H' → ∃ m', m' < m ∧ W (i + 1) m' H') ∧ ∀ x H', J.yld i H x H' → g x (wipe σ vs) H' fun σ2 H2 => wipe σ2 vs = wipe σ vs ∧ tt σ2 H2 fun b H3 =>
        if b = true then tk σ2 H3 fun y H4 => tv σ2 H4 fun z H5 => ∃ kvs k, y = kV k ∧ H5 D = some (.dK kvs) ∧ kvs.length < sizeLine ∧ Nx (upd H5 D (.dK (putK kvs k z))) else Nx H3) := by
  refine ⟨fun i m H => m = n - i ∧ i ≤ n ∧ Pv i H, ⟨n, by simp, Nat.zero_le _, h0⟩, ?_⟩
  rintro i m H ⟨rfl, hi, p⟩
  have q := hG i H hi p
  by_cases hlt : i < n
  · exact .inr ⟨w.goes i H hlt q, Pv (i + 1), fun H' p' => ⟨n - (i + 1), by omega, rfl, hlt, p'⟩, fun x H' y => hs i x H H' hlt p (w.yields i H x H' hlt q y)⟩
  · have e : i = n := by omega
    subst e
    exact .inl ⟨w.stops H q, hd H p⟩
def lSetDc (j : Nat) (li : LA) (lg : LV → Env → (Env → Prop) → Prop) (lt : LT) (lk lv : LE) (vs : List Nat) : LS := fun Λ k => li Λ (sk k fun xs Λ1 => ∃ I : Nat → List (Key × LV) → Env → Prop, I 0 [] Λ1 ∧ (∀ (i : Nat) x acc Λ2, xs[i]? = some x → I i acc Λ2 → noAt Λ2 vs = true ∧ lg x Λ2 fun Λ3 => lt Λ3 (okk fun b Λ4 => Br b (lk Λ4 (okk fun y Λ5 => lv Λ5 (okk fun z Λ6 => ∃ q, keyK y = some q ∧ acc.length < 100000 ∧ I (i + 1) (ptG acc q z) (wipeE Λ6 vs)))) (I (i + 1) acc (wipeE Λ4 vs)))) ∧ ∀ acc Λ2, I xs.length acc Λ2 → stb Λ2 j = true ∧ k (.nx (Λ2.set j (.x (dO dkK false acc)))))
section
variable {B : Fm} {K : PySem.W.Frag} {W : WX} {tk tv : TE} {lk lv : LE} {tt : TT} {lt : LT} {wi : TI} {li : LA} {g : TG} {lg : LV → Env → (Env → Prop) → Prop}
theorem ss_setDc {i0 : Nat} {js vs : List Nat} (hj : ∀ j ∈ js, j ∈ vs) (hi : SI B K W wi li) (hg : SG B K js g lg) (ht : ST B K W0 tt lt) (hk : SE B K W0 tk lk) (he : SE B K W0 tv lv) : SS B K W (tAsg (tDc wi g tt tk tv vs) (gName i0)) (lSetDc i0 li lg lt lk lv vs) := by
  intro X Λ σ H τ F k E S h c
  refine hi X Λ σ H τ F _ _ S h ⟨fun xs J τw Λ1 H1 F1 g1 S1 q1 wk => ?_, fun C nm x u d Λ' H' F' z S r q n n' e => c.ex C nm x u d Λ' σ H' F' z S r q n n' e⟩
  dsimp only [sk] at g1
  obtain ⟨I, i1, iS, iE⟩ := g1
  intro D hD
  obtain ⟨G, Y, wa, hG, hY⟩ := wk.ex
  have nN := S1.free hD
  have nX : ¬ X D := fun z => nN (.inl z)
  have nB : D ∉ B := fun m => nX (S.sub D m)
  have h0D := q1.back hD
  obtain ⟨SD, qD, _⟩ := S1.addX (o := .dK []) hD
  refine dc_it wa (fun i H' => ∃ Λ' F' acc av, Sr B K (fun a => X a ∨ a = D) Λ' σ H' (τw ++ τ) F' ∧ Kq B Λ σ H F Λ' σ H' F' ∧ H' D = some (.dK av) ∧ DG (Nn (fun a => X a ∨ a = D) F') K H' acc av ∧ I i acc Λ')
    ⟨Λ1, F1, [], [], SD, q1.trans S1.good qD, upd_same, dg_nil, i1⟩ (fun i H' _ ⟨Λ', F', acc, av, S', _⟩ => hG _ _ _ _ _ _ S') (fun i v Ha Hb hi ⟨Λ', F', acc, av, S', q', hDa, rr, g'⟩ y => ?_) (fun H' ⟨Λ', F', acc, av, S', q', hDa, rr, g'⟩ => ?_)
  · obtain ⟨x, hx, S3, q3, r3⟩ := hY i v Ha Hb _ Λ' σ τ F' hi S' y
    obtain ⟨hno, g'⟩ := iS i x acc Λ' hx g'
    obtain ⟨Fw, Sw, fw, stw⟩ := S3.forget (Λ' := Λ') (σ' := wipe σ vs) rfl (wipe_length ..) (fun j e hje => by
      by_cases hm : j ∈ vs
      · rw [no_at hno hm] at hje
        exact .inl (Option.some.inj hje).symm
      · exact .inr ⟨hje, by rw [wipe_get, if_neg hm]⟩)
    refine hg _ Λ' (wipe σ vs) Hb (τw ++ τ) Fw x v _ _ Sw (r3.mono stw) g' fun Λ4 σ4 H4 F4 g4 S4 q4 x4 => ⟨wipe_eq x4 hj, ?_⟩
    have k4 : Kh B Ha F' H4 F4 := (q3.kh.sub fw).trans q4.kh
    have back : ∀ Λx Hx Fx, Sr B K (fun a => X a ∨ a = D) Λx σ4 Hx (τw ++ τ) Fx → Kq B Λ4 σ4 H4 F4 Λx σ4 Hx Fx → ∃ F6, Sr B K (fun a => X a ∨ a = D) (wipeE Λx vs) σ Hx (τw ++ τ) F6 ∧ Kq B Λ σ H F (wipeE Λx vs) σ Hx F6 ∧ Hx D = some (.dK av) ∧ DG (Nn (fun a => X a ∨ a = D) F6) K Hx acc av ∧ Stp (Nn (fun a => X a ∨ a = D) Fx) Hx (Nn (fun a => X a ∨ a = D) F6) Hx := by
      intro Λx Hx Fx Sx qx
      have kx : Kh B Ha F' Hx Fx := k4.trans qx.kh
      obtain ⟨F6, S6, f6, st6⟩ := Sx.forget (Λ' := wipeE Λx vs) (σ' := σ) (wipeE_len ..) (by rw [x4.1, wipe_length]) (fun j e hje => by
        rw [wipeE_get] at hje
        by_cases hm : j ∈ vs
        · rw [if_pos hm] at hje
          obtain ⟨_, _, z⟩ := Option.map_eq_some_iff.mp hje
          exact .inl z.symm
        · rw [if_neg hm] at hje
          exact .inr ⟨hje, by rw [x4.2 j fun z => hm (hj j z), wipe_get, if_neg hm]⟩)
      have k6 : Kh B H F Hx F6 := q'.kh.trans (kx.sub f6)
      refine ⟨F6, S6, ⟨k6.keep, k6.own, k6.all, fun j e h1 hp => ?_, ?_⟩, kx.keep D _ hDa nB fun j m => S'.disX j D m (.inr rfl), (rr.mono (kx.stp S'.sub)).mono st6, st6⟩
      · obtain ⟨_, e1, h2, p2⟩ := q'.pin j e h1 hp
        have hm : j ∉ vs := fun m => by
          rw [no_at hno m] at h2
          cases h2
          cases p2
        obtain ⟨_, e2, h3, p3⟩ := q4.pin j e1 h2 p2
        obtain ⟨_, e3, h4, p4⟩ := qx.pin j e2 h3 p3
        exact ⟨rfl, e3, by rw [wipeE_get, if_neg hm]; exact h4, p4⟩
      · rw [wipeE_len, qx.ln, q4.ln, q'.ln]
    refine ht _ Λ4 σ4 H4 (τw ++ τ) F4 _ _ S4 g4 ⟨fun b b' Λ5 H5 F5 g5 S5 r5 q5 => ?_, fun C nm x u d Λ' H' F' z => z.elim⟩
    subst r5
    dsimp only [okk] at g5
    cases b with
    | false =>
      rw [if_neg Bool.false_ne_true]
      obtain ⟨F6, S6, q6, d6, r6, _⟩ := back Λ5 H5 F5 S5 q5
      exact ⟨_, F6, acc, av, S6, q6, d6, r6, g5.2 rfl⟩
    | true =>
      rw [if_pos rfl]
      refine hk _ Λ5 σ4 H5 (τw ++ τ) F5 _ _ S5 (g5.1 rfl) ⟨fun y' u Λ6 H6 F6 g6 S6 r6 q6 => ?_, fun C nm x u d Λ' H' F' z => z.elim⟩
      dsimp only [okk] at g6
      refine he _ Λ6 σ4 H6 (τw ++ τ) F6 _ _ S6 g6 ⟨fun z' w Λ7 H7 F7 g7 S7 r7 q7 => ?_, fun C nm x u d Λ' H' F' z => z.elim⟩
      dsimp only [okk] at g7
      obtain ⟨kq, hkq, hlen, g8⟩ := g7
      obtain ⟨F8, S8, q8, d8, r8, st8⟩ := back Λ7 H7 F7 S7 ((q5.trans S5.good q6).trans S6.good q7)
      refine ⟨av, kq, keyK_v r6 hkq, d8, Nat.lt_of_le_of_lt (Nat.le_of_eq r8.len) (Nat.lt_trans hlen (by decide)), ?_⟩
      obtain ⟨S9, st9⟩ := S8.updX (p := D) (o := .dK (putK av kq w)) (.inr rfl) nB
      refine ⟨_, F8, ptG acc kq z', putK av kq w, S9, ⟨fun a o h nb nf => ?_, q8.own, fun a o h => ?_, q8.pin, q8.ln⟩, upd_same, (r8.put (r7.mono st8)).mono st9, g8⟩
      · rw [upd_ne (ne_of_none h h0D)]
        exact q8.keep a o h nb nf
      · rw [upd_ne (ne_of_none h h0D)]
        exact q8.all a o h
  · obtain ⟨h1, h2⟩ := iE _ _ g'
    obtain ⟨hl, hpn⟩ := stb_pin h1
    have S'' := S'.tmps (τ' := τ) fun t m => S'.tmp t (List.mem_append_right _ m)
    have w : NwX B K X Λ' σ H' τ F' (dO dkK false acc) D := ⟨fun N st => ⟨D, av, rfl, hDa, rr.mono st, fun a => Iff.rfl⟩, S'', nX, S.sub⟩
    exact c.nx _ _ _ _ h2 (w.setx hl) (put_kqx hpn q' h0D)
end
theorem ps_setDc {X : Cx} {i : Nat} {y : Str} {py : Pos} {kx vx tg iter : Expr} {ifs : List Expr} {scope : Scope} {own : List (Str × Nat)} {pos spos : Pos} {wi : TI} {g : TG} {tt : TT} {tk tv : TE} (hc : X.calm = true) (hN : X.N.Nodup) (hy : X.N[i]? = some y) (hyl : X.env.scope.names.lookup y = some .local)
    (hsw : swapsWith (.DictComp kx vx [⟨tg, iter, ifs, 0⟩] scope pos) (some (.Name y py)) spos.line X.env = pure true) (hi : PI X tg iter wi) (ok : BlkOk X.N X.env.scope scope own)
    (hg : ∀ (s : Shared) (H : Hp) (C : Addr) (cl : List (Str × Addr)) (fp : List Addr), PG (X.blk s H scope (compEnvC scope cl C X.env) fp) tg g) (ht : ∀ (s : Shared) (H : Hp) (C : Addr) (cl : List (Str × Addr)) (fp : List Addr), PTs (X.blk s H scope (compEnvC scope cl C X.env) fp) ifs tt)
    (hk : ∀ (s : Shared) (H : Hp) (C : Addr) (cl : List (Str × Addr)) (fp : List Addr), PE (X.blk s H scope (compEnvC scope cl C X.env) fp) kx tk)
    (he : ∀ (s : Shared) (H : Hp) (C : Addr) (cl : List (Str × Addr)) (fp : List Addr), PE (X.blk s H scope (compEnvC scope cl C X.env) fp) vx tv) (hs : ∀ x, foldedSetIterable iter X.env x = pure x := by intro _; rfl) :
    PS X (.Assign [.Name y py] (.DictComp kx vx [⟨tg, iter, ifs, 0⟩] scope pos) spos) (tAsg (tDc wi g tt tk tv (own.map (·.2))) (gName i)) := by
  refine ⟨fun pins s σ H D I h => ?_⟩
  rw [exec_Assign_Name_used _ _ _ _ hsw]
  refine wpAny_bind (wpAny_standAt (wpAny_bind ?_))
  show wpAny _ X.A (do let _ ← comprehension (.DictComp kx vx [⟨tg, iter, ifs, 0⟩] scope pos) scope X.env (firstIterPos [⟨tg, iter, ifs, 0⟩] pos) newDict false (eval iter X.env) (some (assign (.Name y py) X.env))) _ _ s
  have h : tDc wi g tt tk tv (own.map (·.2)) σ H (fun x H1 => gName i x σ H1 D.nx) := h
  refine wpAny_bind (thn (dc_core (Qf := fun _ s' => SP X pins D .next s') hc hN I hi ok hg ht hk he hs h fun L C s' m H' I' q hn f => ?_) fun _ s' hq => wpAny_pure (wpAny_pure hq))
  show wpAny _ _ (assign (.Name y py) X.env (.ref L)) _ _ _
  refine wpAny_assign_Name (store_ok2 (v := V.ref L) I' hN hy (.inl hyl) rfl (fun s2 I2 ⟨a, sb, ha⟩ => ?_) (.inr hyl))
  obtain ⟨f0, f1, f2, f3, f4, f5⟩ := f
  have haC : C ≠ a := by
    rcases ha with z | z
    · rw [z]; exact f1
    · exact fun e => f4 y a z e.symm
  refine ⟨m, hn.sameBut sb haC, fun h3 sb3 => ?_⟩
  exact ⟨_, H', I2.turned (t' := s2.toks) (fun b o hb e => (sb3.2 b hb).trans e) f0 f1 f3 f4 f5, q⟩
/-! ### len(set(xs)), xs ints -/
def ddl (ns : List Int) : List Int := ns.foldl step_dedup []
theorem range_getD (ns : List Int) : (List.range ns.length).map (fun i => ns.getD i 0) = ns := by
  refine List.ext_getElem? fun i => ?_
  rw [List.getElem?_map]
  by_cases h : i < ns.length
  · rw [List.getElem?_range h, List.getElem?_eq_getElem h, Option.map_some, List.getD_eq_getElem?_getD, List.getElem?_eq_getElem h]
    rfl
  · rw [List.getElem?_eq_none (by rw [List.length_range]; omega), List.getElem?_eq_none (by omega)]
    rfl
theorem met_ddl (ns : List Int) : firstMet (fun i => ns.getD i 0) ns.length = ddl ns := by
  unfold firstMet ddl
  rw [range_getD]
def tLenSetG (K : PySem.W.Frag) (ta : TE) : TE := fun σ H Q => ta σ H fun x H1 => ∃ (l : Addr) (ns : List Int), x = V.ref l ∧ SqL K H1 l (ns.map V.int) ∧ ns.length < 64 ∧ Q (.int (ddl ns).length) H1
theorem pe_lenSetG {X : Cx} {a : Expr} {ta : TE} {p p2 q pos : Pos} (hc : X.calm = true) (hg : Gl X "len") (hm : X.mg "len" = none) (hg2 : Gl X "set") (hm2 : X.mg "set" = none) (ha : PE X a ta)
    (na : starEach [a] X.env = (false, eval a X.env) :: starEach [] X.env := by rfl) : PE X (.Call (.Name "len" p) [.Call (.Name "set" p2) [a] [] q] [] pos) (tLenSetG X.K ta) := by
  refine ⟨fun pins s σ H Q I h => ?_⟩
  refine Call_ (ld_blt I hg hm PySem.boot_len ?_)
  refine PyProof.Rows.callWith_builtin1 (PyProof.Rows.args_cons ?_ rfl) rfl rfl
  refine Call_ (ld_blt I hg2 hm2 PyProof.Rows.boot_set ?_)
  refine PyProof.Rows.callWith_type1 (PyProof.Rows.args_cons (thn (ha.run pins s σ H _ I h) fun v s1 ⟨x, H1, I1, r1, q1⟩ => PyProof.Rows.args_nil ?_) na) na rfl
  obtain ⟨l, ns, rfl, hq, h1, q1⟩ := q1
  cases r1
  obtain ⟨its, r, pl, hz⟩ := I1.list hq
  have hl : its.toArray.size = ns.length := by rw [List.size_toArray, ← r.length, List.length_map]
  refine call_set_list (I1.ok.hd hc) pl.isList (ns := ns) (by simpa using r.ints) (by unfold scanBound; omega) fun h' tk hS hk => ?_
  rw [hl, met_ddl] at hS
  refine PyProof.Rows.args_nil ?_
  obtain ⟨o, es, ep, t, ho, hex, hd, _, _, _, hf, hn⟩ := hS
  have I2 : Inv X pins σ H1 { s1 with heap := h', toks := tk } := I1.kept fun b o e => hk b o (Heap.lt_size e) e
  have hle : (ddl ns).length ≤ ns.length := by rw [← met_ddl]; exact firstMet_length_le _ _
  refine call_len_set ho hex hd hf (by rw [hn] <;> omega) ⟨.int (ddl ns).length, H1, I2.tok _, ⟨_, by rw [hn]⟩, q1⟩
def lLenSet (le : LE) : LE := fun Λ k => le Λ (bk k fun x Λ1 => match x with
  | .lst ys => ∃ ns : List Int, ys = ilv ns ∧ ns.length < 64 ∧ k (.ok (.int ((ddl ns).length : Nat)) Λ1)
  | _ => False)
theorem se_lenSet {B : Fm} {K : PySem.W.Frag} {W : WX} {te : TE} {le : LE} (h0 : SE B K W te le) : SE B K W (tLenSetG K te) (lLenSet le) := by
  intro X Λ σ H τ F k Q S h c
  refine h0 X Λ σ H τ F _ _ S h (c.bk (τ' := τ) fun x v Λ1 H1 F1 g S1 r q => ?_)
  split at g
  · obtain ⟨ns, rfl, hl, hk⟩ := g
    obtain ⟨p, vs, rfl, hp, rr⟩ := r.lst_inv
    have e := rps_ilv rr
    subst e
    exact ⟨p, ns, rfl, hp.sq, hl, c.ok _ _ _ _ _ hk S1 (.int _) q⟩
  · exact g.elim
end Lg
set_option Elab.async false
set_option linter.all false
set_option maxRecDepth 100000
set_option maxHeartbeats 4000000
/-! graphs by their conjunctions -/
namespace GG
open PySem L2 Cw Lg
def fnd : List (Nat × Nat) → Nat × Nat → Option Nat
  | [], _ => none
  | q :: r, p => if q = p then some 0 else (fnd r p).map (· + 1)
def alv (a : List (Nat × Nat)) : List LV := a.map fun p => .tup [.int (p.1 : Nat), .int (p.2 : Nat)]
def dlv : Nat → List (Nat × Nat) → List (List Int × LV)
  | _, [] => []
  | b, p :: r => ([((p.1 : Nat) : Int), ((p.2 : Nat) : Int)], .int ((2 * b : Nat) : Int)) :: dlv (b + 1) r
theorem key_iff (p : Nat × Nat) (x y : Nat) : [((p.1 : Nat) : Int), ((p.2 : Nat) : Int)] = [(x : Int), (y : Int)] ↔ p = (x, y) := by
  obtain ⟨u, v⟩ := p
  constructor
  · intro h
    have h1 := List.cons.inj h
    have h2 := List.cons.inj h1.2
    have e1 : (u : Int) = x := h1.1
    have e2 : (v : Int) = y := h2.1
    have e3 : u = x := by omega
    have e4 : v = y := by omega
    rw [e3, e4]
  · intro h
    cases h
    rfl
theorem lk_dl (x y : Nat) : ∀ (a : List (Nat × Nat)) (b : Nat), lkD (dlv b a) [(x : Int), (y : Int)] = (fnd a (x, y)).map fun i => LV.int ((2 * (b + i) : Nat) : Int)
  | [], _ => rfl
  | p :: r, b => by
    have ih := lk_dl x y r (b + 1)
    unfold dlv fnd
    by_cases h : p = (x, y)
    · have e := (key_iff p x y).mpr h
      unfold lkD
      rw [List.find?_cons, decide_eq_true e, if_pos h]
      rfl
    · have e : ¬ [((p.1 : Nat) : Int), ((p.2 : Nat) : Int)] = [(x : Int), (y : Int)] := fun z => h ((key_iff p x y).mp z)
      have e2 : lkD (([((p.1 : Nat) : Int), ((p.2 : Nat) : Int)], LV.int ((2 * b : Nat) : Int)) :: dlv (b + 1) r) [(x : Int), (y : Int)] = lkD (dlv (b + 1) r) [(x : Int), (y : Int)] := by
        unfold lkD
        rw [List.find?_cons, decide_eq_false e]
      rw [e2, ih, if_neg h]
      cases fnd r (x, y) with
      | none => rfl
      | some i =>
        show some (LV.int ((2 * (b + 1 + i) : Nat) : Int)) = some (LV.int ((2 * (b + (i + 1)) : Nat) : Int))
        rw [show b + 1 + i = b + (i + 1) by omega]
theorem any_dl (x y : Nat) : ∀ (a : List (Nat × Nat)) (b : Nat), ((dlv b a).any fun e => decide (e.1 = [(x : Int), (y : Int)])) = (fnd a (x, y)).isSome
  | [], _ => rfl
  | p :: r, b => by
    have ih := any_dl x y r (b + 1)
    unfold dlv fnd
    rw [List.any_cons, ih]
    by_cases h : p = (x, y)
    · rw [if_pos h, decide_eq_true ((key_iff p x y).mpr h)]
      rfl
    · rw [if_neg h, decide_eq_false fun z => h ((key_iff p x y).mp z)]
      cases fnd r (x, y) <;> rfl
theorem dl_app (p : Nat × Nat) : ∀ (a : List (Nat × Nat)) (b : Nat), dlv b (a ++ [p]) = dlv b a ++ [([((p.1 : Nat) : Int), ((p.2 : Nat) : Int)], .int ((2 * (b + a.length) : Nat) : Int))]
  | [], b => rfl
  | q :: r, b => by
    have ih := dl_app p r (b + 1)
    show _ :: dlv (b + 1) (r ++ [p]) = _ :: (dlv (b + 1) r ++ _)
    rw [ih, show b + 1 + r.length = b + (r.length + 1) by omega]
    rfl
theorem pt_dl {a : List (Nat × Nat)} {b x y : Nat} (h : fnd a (x, y) = none) : ptD (dlv b a) [(x : Int), (y : Int)] (.int ((2 * (b + a.length) : Nat) : Int)) = dlv b (a ++ [(x, y)]) := by
  unfold ptD
  rw [any_dl, h, dl_app]
  rfl
theorem fnd_app {a : List (Nat × Nat)} {p : Nat × Nat} : fnd a p = none → fnd (a ++ [p]) p = some a.length := by
  induction a with
  | nil =>
    intro _
    show (if p = p then some 0 else _) = some 0
    rw [if_pos rfl]
  | cons q r ih =>
    intro h
    unfold fnd at h
    by_cases e : q = p
    · rw [if_pos e] at h
      cases h
    · rw [if_neg e] at h
      have h' : fnd r p = none := by
        cases z : fnd r p with
        | none => rfl
        | some i =>
          rw [z] at h
          cases h
      show (if q = p then some 0 else (fnd (r ++ [p]) p).map (· + 1)) = _
      rw [if_neg e, ih h']
      rfl
theorem fnd_lt : ∀ {a : List (Nat × Nat)} {p : Nat × Nat} {i : Nat}, fnd a p = some i → i < a.length ∧ a[i]? = some p ∧ ∀ j, j < i → ¬ a[j]? = some p
  | [], _, _, h => by cases h
  | q :: r, p, i, h => by
    unfold fnd at h
    by_cases e : q = p
    · rw [if_pos e] at h
      cases h
      exact ⟨Nat.succ_pos _, by rw [e]; rfl, fun j hj => by omega⟩
    · rw [if_neg e] at h
      obtain ⟨j, hj, rfl⟩ := Option.map_eq_some_iff.mp h
      obtain ⟨h1, h2, h3⟩ := fnd_lt hj
      refine ⟨Nat.succ_lt_succ h1, h2, fun l hl => ?_⟩
      cases l with
      | zero => exact fun z => e (Option.some.inj z)
      | succ l => exact h3 l (by omega)
theorem fnd_none : ∀ {a : List (Nat × Nat)} {p : Nat × Nat}, (∀ j : Nat, ¬ a[j]? = some p) → fnd a p = none
  | [], _, _ => rfl
  | q :: r, p, h => by
    unfold fnd
    rw [if_neg fun z => h 0 (by rw [z]; rfl), fnd_none fun j => h (j + 1)]
    rfl
theorem fnd_at : ∀ {a : List (Nat × Nat)} {p : Nat × Nat} {i : Nat}, a[i]? = some p → (∀ j, j < i → ¬ a[j]? = some p) → fnd a p = some i
  | [], _, _, h, _ => by cases h
  | q :: r, p, i, h, hn => by
    unfold fnd
    cases i with
    | zero =>
      rw [if_pos (Option.some.inj h)]
    | succ i =>
      rw [if_neg fun z => hn 0 (Nat.succ_pos _) (by rw [z]; rfl), fnd_at (a := r) h fun j hj => hn (j + 1) (Nat.succ_lt_succ hj)]
      rfl
/-- what the conjunction of two literals is, and the conjunctions behind it -/
def cj (b : Nat) (a : List (Nat × Nat)) (x y : Nat) : Nat × List (Nat × Nat) :=
  if min x y = 0 then (0, a) else if min x y = 1 ∨ min x y = max x y then (max x y, a) else if min x y = max x y ^^^ 1 then (0, a)
  else match fnd a (min x y, max x y) with
    | some i => (2 * (b + i), a)
    | none => (2 * (b + a.length), a ++ [(min x y, max x y)])
theorem cj_len (b : Nat) (a : List (Nat × Nat)) (x y : Nat) : (cj b a x y).2.length ≤ a.length + 1 := by
  unfold cj
  split
  · exact Nat.le_succ _
  · split
    · exact Nat.le_succ _
    · split
      · exact Nat.le_succ _
      · split
        · exact Nat.le_succ _
        · rw [List.length_append]
          exact Nat.le_refl _
theorem min_i (x y : Nat) : (if (y : Int) < x then (y : Int) else x) = ((min x y : Nat) : Int) := by
  rw [Nat.min_def]
  split <;> split <;> omega
theorem max_i (x y : Nat) : (if (y : Int) > x then (y : Int) else x) = ((max x y : Nat) : Int) := by
  rw [Nat.max_def]
  split <;> split <;> omega
theorem half_iff {l h : Nat} (hl : l < h) (h2 : 2 ≤ l) : l / 2 = h / 2 ↔ l = h ^^^ 1 := by
  have e : h ^^^ 1 = if h % 2 = 1 then h - 1 else h + 1 := by
    have h1 := xor_add_and h 1
    have h3 := PyProof.Rows.nat_or_add_and h 1
    have h4 : h &&& 1 = h % 2 := Nat.and_one_is_mod h
    split <;> omega
  rw [e]
  split <;> omega
/-- the graph as it stands in a slot -/
abbrev gE (C : Addr) (n : Nat) (rs a : List (Nat × Nat)) (outs : List Nat) (kvs : List (List Int × LV)) : Ent := .o C [("inputs", .v (.int (n : Nat))), ("registers", .l (alv rs)), ("ands", .l (alv a)), ("outputs", .v (.lst (nlv outs))), ("_literals", .d kvs)]
abbrev gO (C : Addr) (n : Nat) (rs a : List (Nat × Nat)) (outs : List Nat) : Ent := gE C n rs a outs (dlv (1 + n + rs.length) a)
theorem alv_len (a : List (Nat × Nat)) : (alv a).length = a.length := List.length_map ..
theorem alv_app (a : List (Nat × Nat)) (x y : Nat) : alv a ++ [.tup [.int (x : Nat), .int (y : Nat)]] = alv (a ++ [(x, y)]) := by
  unfold alv
  rw [List.map_append]
  rfl
theorem alv_at {a : List (Nat × Nat)} {i : Nat} (h : i < a.length) : atI (alv a) (i : Int) = some (.tup [.int ((a[i].1 : Nat) : Int), .int ((a[i].2 : Nat) : Int)]) := by
  refine atI_nat ?_
  unfold alv
  rw [List.getElem?_map, List.getElem?_eq_getElem h]
  rfl
theorem alv_get {a : List (Nat × Nat)} {i : Nat} {x : LV} (h : (alv a)[i]? = some x) : ∃ hi : i < a.length, x = .tup [.int ((a[i].1 : Nat) : Int), .int ((a[i].2 : Nat) : Int)] := by
  have hi := (List.getElem?_eq_some_iff.mp h).1
  rw [alv_len] at hi
  refine ⟨hi, ?_⟩
  unfold alv at h
  rw [List.getElem?_map, List.getElem?_eq_getElem hi] at h
  exact (Option.some.inj h).symm
theorem _root_.List.reverseRecOn' {α : Type} {P : List α → Prop} (l : List α) (nil : P []) (snoc : ∀ (c : List α) (p : α), P c → P (c ++ [p])) : P l := by
  have h : ∀ n (l : List α), l.length = n → P l := by
    intro n
    induction n with
    | zero => intro l h; rw [List.eq_nil_of_length_eq_zero h]; exact nil
    | succ n ih =>
      intro l h
      have hn : l ≠ [] := fun z => by rw [z] at h; cases h
      rw [← List.dropLast_concat_getLast hn]
      exact snoc _ _ (ih _ (by rw [List.length_dropLast, h]; rfl))
  exact h _ l rfl
/-! ### literals and their values -/
theorem xor1 (h : Nat) : h ^^^ 1 = if h % 2 = 1 then h - 1 else h + 1 := by
  have h1 := xor_add_and h 1
  have h3 := PyProof.Rows.nat_or_add_and h 1
  have h4 : h &&& 1 = h % 2 := Nat.and_one_is_mod h
  split <;> omega
theorem xor1_lt {h m : Nat} (hl : h < 2 * m) : h ^^^ 1 < 2 * m := by
  rw [xor1]
  split <;> omega
def lv (vs : List Nat) (l : Nat) : Nat := if l % 2 = 1 then 1 - vs.getD (l / 2) 0 else vs.getD (l / 2) 0
def nx (vs : List Nat) (p : Nat × Nat) : List Nat := vs ++ [lv vs p.1 * lv vs p.2]
def vals (base : List Nat) (a : List (Nat × Nat)) : List Nat := a.foldl nx base
theorem vals_app (base : List Nat) (a c : List (Nat × Nat)) : vals base (a ++ c) = vals (vals base a) c := List.foldl_append
theorem vals_snoc (base : List Nat) (a : List (Nat × Nat)) (p : Nat × Nat) : vals base (a ++ [p]) = vals base a ++ [lv (vals base a) p.1 * lv (vals base a) p.2] := by
  rw [vals_app]
  rfl
theorem vals_pre (base : List Nat) : ∀ c : List (Nat × Nat), ∃ r, vals base c = base ++ r ∧ r.length = c.length := by
  intro c
  induction c using List.reverseRecOn' with
  | nil => exact ⟨[], (List.append_nil _).symm, rfl⟩
  | snoc c p ih =>
    obtain ⟨r, e, hl⟩ := ih
    refine ⟨r ++ [lv (vals base c) p.1 * lv (vals base c) p.2], by rw [vals_snoc, ← List.append_assoc, ← e], ?_⟩
    rw [List.length_append, List.length_append, hl]
    rfl
theorem vals_len (base : List Nat) (a : List (Nat × Nat)) : (vals base a).length = base.length + a.length := by
  obtain ⟨r, e, h⟩ := vals_pre base a
  rw [e, List.length_append, h]
theorem getD_app {l r : List Nat} {i : Nat} (h : i < l.length) : (l ++ r).getD i 0 = l.getD i 0 := by
  rw [List.getD_eq_getElem?_getD, List.getD_eq_getElem?_getD, List.getElem?_append_left h]
theorem lv_app {l r : List Nat} {x : Nat} (h : x < 2 * l.length) : lv (l ++ r) x = lv l x := by
  unfold lv
  rw [getD_app (by omega)]
theorem lv_ext {base : List Nat} {a c : List (Nat × Nat)} {x : Nat} (h : x < 2 * (base.length + a.length)) : lv (vals base (a ++ c)) x = lv (vals base a) x := by
  obtain ⟨r, e, _⟩ := vals_pre (vals base a) c
  rw [vals_app, e]
  exact lv_app (by rw [vals_len]; exact h)
/-- a base: what stands ahead of the conjunctions -/
structure Bs (base : List Nat) : Prop where
  pos : 0 < base.length
  zero : base.getD 0 0 = 0
  bit : ∀ x ∈ base, x < 2
structure Wa (b : Nat) (a : List (Nat × Nat)) : Prop where
  at_ : ∀ (i : Nat) p, a[i]? = some p → 2 ≤ p.1 ∧ p.1 < p.2 ∧ p.2 < 2 * (b + i) ∧ p.1 / 2 ≠ p.2 / 2
  nd : ∀ (i j : Nat) p, a[i]? = some p → a[j]? = some p → i = j
theorem Wa.nil {b : Nat} : Wa b [] := ⟨fun i p h => (by cases h), fun i j p h => (by cases h)⟩
theorem bit_getD {v : List Nat} (h : ∀ x ∈ v, x < 2) (k : Nat) : v.getD k 0 < 2 := by
  rw [List.getD_eq_getElem?_getD]
  cases e : v[k]? with
  | none => exact (by decide : 0 < 2)
  | some x => exact h x (List.mem_of_getElem? e)
theorem lv_lt {v : List Nat} (h : ∀ x ∈ v, x < 2) (l : Nat) : lv v l < 2 := by
  have := bit_getD h (l / 2)
  unfold lv
  split <;> omega
theorem b2 {a : Nat} (h : a < 2) : a = 0 ∨ a = 1 := by omega
theorem vals_bit {base : List Nat} (h : ∀ x ∈ base, x < 2) (a : List (Nat × Nat)) : ∀ x ∈ vals base a, x < 2 := by
  induction a using List.reverseRecOn' with
  | nil => exact h
  | snoc c p ih =>
    intro x hx
    rw [vals_snoc] at hx
    rcases List.mem_append.mp hx with hx | hx
    · exact ih x hx
    · rw [List.mem_singleton.mp hx]
      rcases b2 (lv_lt ih p.1) with h1 | h1 <;> rcases b2 (lv_lt ih p.2) with h2 | h2 <;> rw [h1, h2] <;> decide
theorem lv_neg {v : List Nat} (h : ∀ x ∈ v, x < 2) (l : Nat) : lv v (l ^^^ 1) = 1 - lv v l := by
  have hb := bit_getD h (l / 2)
  rw [xor1]
  unfold lv
  by_cases e : l % 2 = 1
  · rw [if_pos e, if_neg (by omega), if_pos e, show (l - 1) / 2 = l / 2 by omega]
    omega
  · rw [if_neg e, if_pos (by omega), if_neg e, show (l + 1) / 2 = l / 2 by omega]
theorem lv_zero {base : List Nat} (h : Bs base) (a : List (Nat × Nat)) : lv (vals base a) 0 = 0 := by
  obtain ⟨r, e, _⟩ := vals_pre base a
  unfold lv
  rw [e, if_neg (by decide), getD_app h.pos]
  exact h.zero
theorem lv_one {base : List Nat} (h : Bs base) (a : List (Nat × Nat)) : lv (vals base a) 1 = 1 := by
  have := lv_neg (vals_bit h.bit a) 0
  rw [lv_zero h a] at this
  exact this
/-- the value of a conjunction -/
theorem vals_at {base : List Nat} : ∀ {a : List (Nat × Nat)}, Wa base.length a → ∀ {i : Nat} {p : Nat × Nat}, a[i]? = some p → lv (vals base a) (2 * (base.length + i)) = lv (vals base a) p.1 * lv (vals base a) p.2 := by
  intro a
  induction a using List.reverseRecOn' with
  | nil => intro _ i p h; cases h
  | snoc c q ih =>
    intro w i p h
    have wc : Wa base.length c := ⟨fun i p h => w.at_ i p (by rw [List.getElem?_append_left (List.getElem?_eq_some_iff.mp h).1]; exact h), fun i j p h h' => w.nd i j p (by rw [List.getElem?_append_left (List.getElem?_eq_some_iff.mp h).1]; exact h) (by rw [List.getElem?_append_left (List.getElem?_eq_some_iff.mp h').1]; exact h')⟩
    have wp := w.at_ i p h
    by_cases e : i < c.length
    · rw [List.getElem?_append_left e] at h
      rw [lv_ext (by omega), lv_ext (by omega), lv_ext (by omega)]
      exact ih wc h
    · have e : i = c.length := by
        have := (List.getElem?_eq_some_iff.mp h).1
        rw [List.length_append] at this
        have : i < c.length + 1 := this
        omega
      subst e
      rw [List.getElem?_append_right (Nat.le_refl _), Nat.sub_self] at h
      have h : q = p := Option.some.inj h
      subst h
      rw [lv_ext (x := q.1) (by omega), lv_ext (x := q.2) (by omega), vals_snoc]
      unfold lv
      rw [if_neg (by omega), Nat.mul_div_cancel_left _ (by decide), List.getD_eq_getElem?_getD, List.getElem?_append_right (by rw [vals_len]; exact Nat.le_refl _), vals_len, Nat.sub_self]
      rfl
/-- what an operation has made -/
structure Rz (base : List Nat) (a : List (Nat × Nat)) (r : Nat × List (Nat × Nat)) (v n : Nat) : Prop where
  wa : Wa base.length r.2
  ext : ∃ c, r.2 = a ++ c ∧ c.length ≤ n
  lt : r.1 < 2 * (base.length + r.2.length)
  val : lv (vals base r.2) r.1 = v
theorem mul_comm_lv (x y : Nat) : x * y = y * x := Nat.mul_comm x y
theorem cj_ok {base : List Nat} (B : Bs base) {a : List (Nat × Nat)} (w : Wa base.length a) {x y : Nat} (hx : x < 2 * (base.length + a.length)) (hy : y < 2 * (base.length + a.length)) : Rz base a (cj base.length a x y) (lv (vals base a) x * lv (vals base a) y) 1 := by
  have vb := vals_bit B.bit a
  have hmm : lv (vals base a) (min x y) * lv (vals base a) (max x y) = lv (vals base a) x * lv (vals base a) y := by
    rcases Nat.le_total x y with h | h
    · rw [Nat.min_eq_left h, Nat.max_eq_right h]
    · rw [Nat.min_eq_right h, Nat.max_eq_left h, Nat.mul_comm]
  rw [← hmm]
  have hl : min x y < 2 * (base.length + a.length) := by omega
  have hh : max x y < 2 * (base.length + a.length) := by omega
  have hle : min x y ≤ max x y := by omega
  unfold cj
  generalize min x y = l at *
  generalize max x y = h at *
  have same : ∀ {z v}, z < 2 * (base.length + a.length) → lv (vals base a) z = v → Rz base a (z, a) v 1 := fun hz hv => ⟨w, ⟨[], (List.append_nil _).symm, Nat.zero_le _⟩, hz, hv⟩
  by_cases h1 : l = 0
  · rw [if_pos h1]
    refine same (by have := B.pos; omega) ?_
    rw [h1, lv_zero B, Nat.zero_mul]
  · rw [if_neg h1]
    by_cases h2 : l = 1 ∨ l = h
    · rw [if_pos h2]
      refine same hh ?_
      rcases h2 with h2 | h2
      · rw [h2, lv_one B, Nat.one_mul]
      · rw [h2]
        rcases b2 (lv_lt vb h) with e | e <;> rw [e]
    · rw [if_neg h2]
      by_cases h3 : l = h ^^^ 1
      · rw [if_pos h3]
        refine same (by have := B.pos; omega) ?_
        rw [lv_zero B, h3, lv_neg vb]
        rcases b2 (lv_lt vb h) with e | e <;> rw [e]
      · rw [if_neg h3]
        have hlt : l < h := by omega
        have hd : l / 2 ≠ h / 2 := fun z => h3 ((half_iff hlt (by omega)).mp z)
        cases hf : fnd a (l, h) with
        | some i =>
          obtain ⟨f1, f2, f3⟩ := fnd_lt hf
          refine same (by omega) ?_
          exact vals_at w f2
        | none =>
          have nin : ∀ i : Nat, ¬ a[i]? = some (l, h) := fun i z => by
            have : ∃ j : Nat, a[j]? = some (l, h) ∧ ∀ m : Nat, m < j → ¬ a[m]? = some (l, h) := by
              have hex : ∃ j : Nat, a[j]? = some (l, h) := ⟨i, z⟩
              clear z
              obtain ⟨j, hj⟩ := hex
              induction j using Nat.strongRecOn with
              | _ j ih =>
                by_cases hm : ∃ m : Nat, m < j ∧ a[m]? = some (l, h)
                · obtain ⟨m, hm1, hm2⟩ := hm
                  exact ih m hm1 hm2
                · exact ⟨j, hj, fun m hm1 hm2 => hm ⟨m, hm1, hm2⟩⟩
            obtain ⟨j, hj, hjm⟩ := this
            rw [fnd_at hj hjm] at hf
            cases hf
          have w2 : Wa base.length (a ++ [(l, h)]) := by
            have cs : ∀ {i : Nat} {p : Nat × Nat}, (a ++ [(l, h)])[i]? = some p → a[i]? = some p ∨ (i = a.length ∧ p = (l, h)) := fun {i p} z => by
              by_cases e : i < a.length
              · rw [List.getElem?_append_left e] at z
                exact .inl z
              · rw [List.getElem?_append_right (by omega)] at z
                have hi := (List.getElem?_eq_some_iff.mp z).1
                have hi : i - a.length < 1 := hi
                have e0 : i - a.length = 0 := by omega
                rw [e0] at z
                exact .inr ⟨by omega, (Option.some.inj z).symm⟩
            refine ⟨fun i p z => ?_, fun i j p z z' => ?_⟩
            · rcases cs z with z | ⟨rfl, rfl⟩
              · exact w.at_ i p z
              · exact ⟨by omega, hlt, hh, hd⟩
            · rcases cs z with z | ⟨rfl, rfl⟩
              · rcases cs z' with z' | ⟨rfl, rfl⟩
                · exact w.nd i j p z z'
                · exact (nin i z).elim
              · rcases cs z' with z' | ⟨rfl, _⟩
                · exact (nin j z').elim
                · rfl
          refine ⟨w2, ⟨_, rfl, Nat.le_refl _⟩, by show 2 * (base.length + a.length) < 2 * (base.length + (a ++ [(l, h)]).length); rw [List.length_append]; show _ < 2 * (base.length + (a.length + 1)); omega, ?_⟩
          have := vals_at w2 (i := a.length) (p := (l, h)) (by rw [List.getElem?_append_right (Nat.le_refl _), Nat.sub_self]; rfl)
          rw [this]
          rw [lv_ext hl, lv_ext hh]
def ngr (r : Nat × List (Nat × Nat)) : Nat × List (Nat × Nat) := (r.1 ^^^ 1, r.2)
def dj (b : Nat) (a : List (Nat × Nat)) (x y : Nat) : Nat × List (Nat × Nat) := ngr (cj b a (x ^^^ 1) (y ^^^ 1))
def xj (b : Nat) (a : List (Nat × Nat)) (x y : Nat) : Nat × List (Nat × Nat) :=
  dj b (cj b (cj b a x (y ^^^ 1)).2 (x ^^^ 1) y).2 (cj b a x (y ^^^ 1)).1 (cj b (cj b a x (y ^^^ 1)).2 (x ^^^ 1) y).1
def hj (b : Nat) (a : List (Nat × Nat)) (c x y : Nat) : Nat × List (Nat × Nat) :=
  dj b (cj b (cj b a c x).2 (c ^^^ 1) y).2 (cj b a c x).1 (cj b (cj b a c x).2 (c ^^^ 1) y).1
section
variable {base : List Nat} {a : List (Nat × Nat)} {x y c : Nat}
theorem Rz.neg (B : Bs base) {r : Nat × List (Nat × Nat)} {v n : Nat} (h : Rz base a r v n) : Rz base a (ngr r) (1 - v) n :=
  ⟨h.wa, h.ext, xor1_lt h.lt, by rw [← h.val]; exact lv_neg (vals_bit B.bit _) _⟩
theorem dj_ok (B : Bs base) (w : Wa base.length a) (hx : x < 2 * (base.length + a.length)) (hy : y < 2 * (base.length + a.length)) : Rz base a (dj base.length a x y) (1 - (1 - lv (vals base a) x) * (1 - lv (vals base a) y)) 1 := by
  have h := (cj_ok B w (xor1_lt hx) (xor1_lt hy)).neg B
  rw [lv_neg (vals_bit B.bit _), lv_neg (vals_bit B.bit _)] at h
  exact h
/-- two steps -/
theorem Rz.lift {r : Nat × List (Nat × Nat)} {v n z : Nat} (h : Rz base a r v n) (hz : z < 2 * (base.length + a.length)) : z < 2 * (base.length + r.2.length) ∧ lv (vals base r.2) z = lv (vals base a) z := by
  obtain ⟨c, e, _⟩ := h.ext
  rw [e]
  refine ⟨by rw [List.length_append]; omega, lv_ext hz⟩
theorem Rz.trans {r s : Nat × List (Nat × Nat)} {v u n m : Nat} (h : Rz base a r v n) (h2 : Rz base r.2 s u m) : Rz base a s u (n + m) := by
  obtain ⟨c, e, hc⟩ := h.ext
  obtain ⟨d, e2, hd⟩ := h2.ext
  exact ⟨h2.wa, ⟨c ++ d, by rw [e2, e, List.append_assoc], by rw [List.length_append]; omega⟩, h2.lt, h2.val⟩
theorem Rz.cast {r : Nat × List (Nat × Nat)} {v u n : Nat} (h : Rz base a r v n) (e : v = u) : Rz base a r u n := e ▸ h
theorem xj_ok (B : Bs base) (w : Wa base.length a) (hx : x < 2 * (base.length + a.length)) (hy : y < 2 * (base.length + a.length)) : Rz base a (xj base.length a x y) ((lv (vals base a) x + lv (vals base a) y) % 2) 3 := by
  have h1 := cj_ok B w hx (xor1_lt hy)
  obtain ⟨x1, x2⟩ := h1.lift (xor1_lt hx)
  obtain ⟨y1, y2⟩ := h1.lift hy
  have h2 := cj_ok B h1.wa x1 y1
  obtain ⟨o1, o2⟩ := h2.lift h1.lt
  have h3 := dj_ok B h2.wa o1 h2.lt
  refine ((h1.trans h2).trans h3).cast ?_
  rw [o2, h2.val, h1.val, x2, y2, lv_neg (vals_bit B.bit _), lv_neg (vals_bit B.bit _)]
  rcases b2 (lv_lt (vals_bit B.bit a) x) with e | e <;> rcases b2 (lv_lt (vals_bit B.bit a) y) with e2 | e2 <;> rw [e, e2]
theorem hj_ok (B : Bs base) (w : Wa base.length a) (hc : c < 2 * (base.length + a.length)) (hx : x < 2 * (base.length + a.length)) (hy : y < 2 * (base.length + a.length)) : Rz base a (hj base.length a c x y) (if lv (vals base a) c = 1 then lv (vals base a) x else lv (vals base a) y) 3 := by
  have h1 := cj_ok B w hc hx
  obtain ⟨x1, x2⟩ := h1.lift (xor1_lt hc)
  obtain ⟨y1, y2⟩ := h1.lift hy
  have h2 := cj_ok B h1.wa x1 y1
  obtain ⟨o1, o2⟩ := h2.lift h1.lt
  have h3 := dj_ok B h2.wa o1 h2.lt
  refine ((h1.trans h2).trans h3).cast ?_
  rw [o2, h2.val, h1.val, x2, y2, lv_neg (vals_bit B.bit _)]
  rcases b2 (lv_lt (vals_bit B.bit a) c) with e0 | e0 <;> rcases b2 (lv_lt (vals_bit B.bit a) x) with e | e <;> rcases b2 (lv_lt (vals_bit B.bit a) y) with e2 | e2 <;> rw [e0, e, e2] <;> rfl
end
/-! ### registers, bases -/
def regs (n : Nat) (bs : List Nat) (i : Nat) : List (Nat × Nat) := (List.range i).map fun j => (2 * (1 + n + j), bs.getD j 0)
theorem regs_len (n : Nat) (bs : List Nat) (i : Nat) : (regs n bs i).length = i := by
  unfold regs
  rw [List.length_map, List.length_range]
theorem regs_snoc (n : Nat) (bs : List Nat) (i : Nat) : regs n bs (i + 1) = regs n bs i ++ [(2 * (1 + n + i), bs.getD i 0)] := by
  unfold regs
  rw [List.range_succ, List.map_append]
  rfl
def bas (r s : List Nat) : List Nat := 0 :: (r ++ s)
theorem bas_len (r s : List Nat) : (bas r s).length = 1 + r.length + s.length := by
  unfold bas
  rw [List.length_cons, List.length_append]
  omega
theorem bas_bit {r s : List Nat} (hr : ∀ x ∈ r, x < 2) (hs : ∀ x ∈ s, x < 2) : ∀ x ∈ bas r s, x < 2 := by
  intro x hx
  rcases List.mem_cons.mp hx with rfl | hx
  · decide
  · rcases List.mem_append.mp hx with hx | hx
    · exact hr x hx
    · exact hs x hx
theorem bas_ok {r s : List Nat} (hr : ∀ x ∈ r, x < 2) (hs : ∀ x ∈ s, x < 2) : Bs (bas r s) := ⟨by rw [bas_len]; omega, rfl, bas_bit hr hs⟩
theorem bas_nlv (r s : List Nat) (a : List (Nat × Nat)) : nlv (vals (bas r s) (a.take 0)) = .int 0 :: (nlv r ++ nlv s) := by
  show nlv (0 :: (r ++ s)) = _
  unfold nlv
  rw [List.map_cons, List.map_append]
  rfl
theorem vals_take (base : List Nat) {a : List (Nat × Nat)} {i : Nat} (h : i < a.length) : vals base (a.take (i + 1)) = vals base (a.take i) ++ [lv (vals base (a.take i)) a[i].1 * lv (vals base (a.take i)) a[i].2] := by
  rw [List.take_succ_eq_append_getElem h]
  exact vals_snoc base (a.take i) a[i]
theorem and_mul {x y : Nat} (hx : x < 2) (hy : y < 2) : x &&& y = x * y := by
  rcases b2 hx with h1 | h1 <;> rcases b2 hy with h2 | h2 <;> rw [h1, h2] <;> rfl
theorem moved_i {vs : List Nat} (hb : ∀ v ∈ vs, v < 2) (x : Nat) : ((lv vs x : Nat) : Int) = PySem.Builtin.bitXor ((vs.getD (x / 2) 0 : Nat) : Int) (PySem.Builtin.bitAnd (x : Int) 1) := by
  have e : PySem.Builtin.bitAnd (x : Int) 1 = ((x % 2 : Nat) : Int) := by
    rw [show (1 : Int) = ((1 : Nat) : Int) from rfl, andN, Nat.and_one_is_mod]
  rw [e, xorN]
  have hv := bit_getD hb (x / 2)
  unfold lv
  rcases b2 hv with h1 | h1 <;> rw [h1] <;> rcases Nat.mod_two_eq_zero_or_one x with h2 | h2 <;> rw [h2] <;> rfl
theorem cmul_b {x y : Nat} (hx : x < 2) (hy : y < 2) : CMul (x : Int) (y : Int) := .inl ⟨by omega, by omega⟩
/-! ### operations by their kind -/
def opj (kd b : Nat) (a : List (Nat × Nat)) (x y z : Nat) : Nat × List (Nat × Nat) := if kd = 0 then cj b a x y else if kd = 1 then dj b a x y else if kd = 2 then xj b a x y else hj b a x y z
def dv (kd x y z : Nat) : Nat := if kd = 0 then x * y else if kd = 1 then x + y - x * y else if kd = 2 then (x + y) % 2 else if x = 1 then y else z
theorem opj_ok {base : List Nat} {a : List (Nat × Nat)} (B : Bs base) (w : Wa base.length a) (kd : Nat) {x y z : Nat} (hx : x < 2 * (base.length + a.length)) (hy : y < 2 * (base.length + a.length)) (hz : z < 2 * (base.length + a.length)) :
    Rz base a (opj kd base.length a x y z) (dv kd (lv (vals base a) x) (lv (vals base a) y) (lv (vals base a) z)) 3 := by
  have wk : ∀ {r v}, Rz base a r v 1 → Rz base a r v 3 := fun h => by
    obtain ⟨c, e, hc⟩ := h.ext
    exact ⟨h.wa, ⟨c, e, by omega⟩, h.lt, h.val⟩
  unfold opj dv
  have vb := vals_bit B.bit a
  split
  · exact wk (cj_ok B w hx hy)
  split
  · refine wk ((dj_ok B w hx hy).cast ?_)
    rcases b2 (lv_lt vb x) with h1 | h1 <;> rcases b2 (lv_lt vb y) with h2 | h2 <;> rw [h1, h2]
  split
  · exact xj_ok B w hx hy
  · exact hj_ok B w hx hy hz
theorem opj_len (kd b : Nat) (a : List (Nat × Nat)) (x y z : Nat) : (opj kd b a x y z).2.length ≤ a.length + 3 := by
  have c := cj_len b
  unfold opj
  split
  · have := c a x y
    omega
  split
  · have := c a (x ^^^ 1) (y ^^^ 1)
    show (cj b a (x ^^^ 1) (y ^^^ 1)).2.length ≤ _
    omega
  split
  · have h1 := c a x (y ^^^ 1)
    have h2 := c (cj b a x (y ^^^ 1)).2 (x ^^^ 1) y
    have h3 := c (cj b (cj b a x (y ^^^ 1)).2 (x ^^^ 1) y).2 ((cj b a x (y ^^^ 1)).1 ^^^ 1) ((cj b (cj b a x (y ^^^ 1)).2 (x ^^^ 1) y).1 ^^^ 1)
    show (cj b _ _ _).2.length ≤ _
    omega
  · have h1 := c a x y
    have h2 := c (cj b a x y).2 (x ^^^ 1) z
    have h3 := c (cj b (cj b a x y).2 (x ^^^ 1) z).2 ((cj b a x y).1 ^^^ 1) ((cj b (cj b a x y).2 (x ^^^ 1) z).1 ^^^ 1)
    show (cj b _ _ _).2.length ≤ _
    omega
theorem dv_lt {kd x y z : Nat} (hx : x < 2) (hy : y < 2) (hz : z < 2) : dv kd x y z < 2 := by
  unfold dv
  rcases b2 hx with h1 | h1 <;> rcases b2 hy with h2 | h2 <;> rw [h1, h2] <;> split <;> try decide
  all_goals split <;> try decide
  all_goals split <;> try decide
  all_goals first | (simp; done) | (simp; omega)
/-- seen pairs -/
def seenK (a : List (Nat × Nat)) : List (List Key × LV) := a.map fun p => ([.inl (p.1 : Int), .inl (p.2 : Int)], .bl true)
theorem seen_key (p q : Nat × Nat) : ([Sum.inl (p.1 : Int), Sum.inl (p.2 : Int)] : List Key) = [.inl (q.1 : Int), .inl (q.2 : Int)] ↔ p = q := by
  obtain ⟨a, b⟩ := p
  obtain ⟨c, d⟩ := q
  constructor
  · intro h
    have h1 := Sum.inl.inj (List.cons.inj h).1
    have h2 := Sum.inl.inj (List.cons.inj (List.cons.inj h).2).1
    have e1 : a = c := Int.ofNat.inj h1
    have e2 : b = d := Int.ofNat.inj h2
    rw [e1, e2]
  · rintro ⟨⟩
    rfl
theorem seen_no {a : List (Nat × Nat)} {q : Nat × Nat} (h : q ∉ a) : lkG (seenK a) [.inl (q.1 : Int), .inl (q.2 : Int)] = none := by
  unfold lkG seenK
  rw [Option.map_eq_none_iff, List.find?_eq_none]
  intro e he
  obtain ⟨p, hp, rfl⟩ := List.mem_map.mp he
  rw [decide_eq_true_iff]
  intro z
  exact h ((seen_key p q).mp z ▸ hp)
theorem seen_put {a : List (Nat × Nat)} {q : Nat × Nat} (h : q ∉ a) : ptG (seenK a) [.inl (q.1 : Int), .inl (q.2 : Int)] (.bl true) = seenK (a ++ [q]) := by
  have e : ((seenK a).any fun e => decide (e.1 = [.inl (q.1 : Int), .inl (q.2 : Int)])) = false := by
    rw [Bool.eq_false_iff]
    intro z
    obtain ⟨e, he, hz⟩ := List.any_eq_true.mp z
    unfold seenK at he
    obtain ⟨p, hp, rfl⟩ := List.mem_map.mp he
    exact h ((seen_key p q).mp (of_decide_eq_true hz) ▸ hp)
  unfold ptG
  rw [e]
  unfold seenK
  rw [List.map_append]
  rfl
theorem Wa.new {b : Nat} {a : List (Nat × Nat)} (w : Wa b a) {i : Nat} (h : i < a.length) : a[i] ∉ a.take i := by
  intro m
  obtain ⟨j, hj, e⟩ := List.mem_iff_getElem.mp m
  rw [List.length_take] at hj
  rw [List.getElem_take] at e
  have := w.nd i j a[i] (List.getElem?_eq_getElem h) (by rw [List.getElem?_eq_getElem (by omega), e])
  omega
theorem take_snoc {a : List (Nat × Nat)} {i : Nat} (h : i < a.length) : a.take (i + 1) = a.take i ++ [a[i]] := List.take_succ_eq_append_getElem h
/-- pairs of a literal and its bit -/
structure Kn (base : List Nat) (a kn : List (Nat × Nat)) : Prop where
  all : ∀ p ∈ kn, p.1 < 2 * (base.length + a.length) ∧ lv (vals base a) p.1 = p.2
theorem Kn.ext {base : List Nat} {a c kn : List (Nat × Nat)} (h : Kn base a kn) : Kn base (a ++ c) kn := ⟨fun p hp => by
  obtain ⟨h1, h2⟩ := h.all p hp
  exact ⟨by rw [List.length_append]; omega, by rw [lv_ext h1, h2]⟩⟩
theorem Kn.snoc {base : List Nat} {a kn : List (Nat × Nat)} (h : Kn base a kn) {l v : Nat} (hl : l < 2 * (base.length + a.length)) (hv : lv (vals base a) l = v) : Kn base a (kn ++ [(l, v)]) := ⟨fun p hp => by
  rcases List.mem_append.mp hp with hp | hp
  · exact h.all p hp
  · rw [List.mem_singleton.mp hp]
    exact ⟨hl, hv⟩⟩
theorem isN {b : Bool} : (true && b) = b := rfl
theorem lv_in {base : List Nat} (B : Bs base) {j v : Nat} (h : j < base.length ∧ base.getD j 0 = v) : lv (vals base []) (2 * j) = v := by
  unfold lv
  rw [if_neg (by omega), Nat.mul_div_cancel_left _ (by decide)]
  exact h.2
theorem bas_at_r {r s : List Nat} {i : Nat} (h : i < r.length) : 1 + i < (bas r s).length ∧ (bas r s).getD (1 + i) 0 = r.getD i 0 := by
  refine ⟨by rw [bas_len]; omega, ?_⟩
  unfold bas
  rw [Nat.add_comm, List.getD_cons_succ]
  exact getD_app h
theorem bas_at_s {r s : List Nat} {i : Nat} (h : i < s.length) : 1 + r.length + i < (bas r s).length ∧ (bas r s).getD (1 + r.length + i) 0 = s.getD i 0 := by
  refine ⟨by rw [bas_len]; omega, ?_⟩
  unfold bas
  rw [show 1 + r.length + i = (r.length + i) + 1 by omega, List.getD_cons_succ, List.getD_eq_getElem?_getD, List.getElem?_append_right (by omega), show r.length + i - r.length = i by omega, ← List.getD_eq_getElem?_getD]
/-- one of the pairs, as it is or turned -/
def Pt (kn : List (Nat × Nat)) (x u : Nat) : Prop := ∃ p ∈ kn, (x = p.1 ∧ u = p.2) ∨ (x = p.1 ^^^ 1 ∧ u = 1 - p.2)
theorem pt_ok {base : List Nat} (B : Bs base) {a kn : List (Nat × Nat)} (K : Kn base a kn) {x u : Nat} (h : Pt kn x u) : x < 2 * (base.length + a.length) ∧ lv (vals base a) x = u ∧ u < 2 := by
  have vb := vals_bit B.bit a
  obtain ⟨p, hp, ⟨rfl, rfl⟩ | ⟨rfl, rfl⟩⟩ := h
  · obtain ⟨h1, h2⟩ := K.all p hp
    exact ⟨h1, h2, by rw [← h2]; exact lv_lt vb _⟩
  · obtain ⟨h1, h2⟩ := K.all p hp
    exact ⟨xor1_lt h1, by rw [← h2]; exact lv_neg vb _, by omega⟩
/-! ### graphs put together by chance -/
def zb (b : Nat) : List Nat := List.replicate b 0
theorem zb_ok {b : Nat} (h : 0 < b) : Bs (zb b) := ⟨by unfold zb; rw [List.length_replicate]; exact h, by unfold zb; rw [List.getD_eq_getElem?_getD, List.getElem?_replicate]; split <;> rfl, fun x hx => by rw [List.eq_of_mem_replicate hx]; decide⟩
theorem zb_len (b : Nat) : (zb b).length = b := List.length_replicate ..
/-- an operation on a graph of which only the form is known -/
structure Op (b : Nat) (a : List (Nat × Nat)) (z : Nat) (a2 : List (Nat × Nat)) (n : Nat) : Prop where
  wa : Wa b a2
  ext : ∃ c, a2 = a ++ c
  len : a2.length ≤ a.length + n
  lt : z < 2 * (b + a2.length)
theorem opj_form {b : Nat} {a : List (Nat × Nat)} (hb : 0 < b) (w : Wa b a) (kd : Nat) {x y z : Nat} (hx : x < 2 * (b + a.length)) (hy : y < 2 * (b + a.length)) (hz : z < 2 * (b + a.length)) : Op b a (opj kd b a x y z).1 (opj kd b a x y z).2 3 := by
  have h := opj_ok (zb_ok hb) (base := zb b) (a := a) (by rw [zb_len]; exact w) kd (x := x) (y := y) (z := z) (by rw [zb_len]; exact hx) (by rw [zb_len]; exact hy) (by rw [zb_len]; exact hz)
  rw [zb_len] at h
  obtain ⟨h1, ⟨c, h2, h3⟩, h4, h5⟩ := h
  rw [zb_len] at h1 h4
  exact ⟨h1, ⟨c, h2⟩, by rw [h2, List.length_append]; omega, h4⟩
def llv (ls : List (List Nat)) : List LV := ls.map fun l => .lst (nlv l)
theorem llv_len (l : List (List Nat)) : (llv l).length = l.length := List.length_map ..
theorem llv_app (l : List (List Nat)) (x : List Nat) : llv l ++ [.lst (nlv x)] = llv (l ++ [x]) := by
  unfold llv
  rw [List.map_append]
  rfl
theorem llv_get {l : List (List Nat)} {i : Nat} {x : LV} (h : (llv l)[i]? = some x) : i < l.length ∧ x = .lst (nlv (l.getD i [])) := by
  have hi := (List.getElem?_eq_some_iff.mp h).1
  rw [llv_len] at hi
  refine ⟨hi, ?_⟩
  unfold llv at h
  rw [List.getElem?_map, List.getElem?_eq_getElem hi] at h
  rw [List.getD_eq_getElem?_getD, List.getElem?_eq_getElem hi]
  exact (Option.some.inj h).symm
theorem llv_at {l : List (List Nat)} {i : Nat} (h : i < l.length) : atI (llv l) (i : Int) = some (.lst (nlv (l.getD i []))) := by
  refine atI_nat ?_
  unfold llv
  rw [List.getElem?_map, List.getElem?_eq_getElem h, List.getD_eq_getElem?_getD, List.getElem?_eq_getElem h]
  rfl
structure Gw (n : Nat) (rs a : List (Nat × Nat)) (outs : List Nat) : Prop where
  wa : Wa (1 + n + rs.length) a
  reg : ∀ p ∈ rs, p.1 < 2 * (1 + n + rs.length + a.length) ∧ p.2 < 2
  out : ∀ o ∈ outs, o < 2 * (1 + n + rs.length + a.length)
def outsF (V outs : List Nat) : List Nat := outs.map (lv V)
def nextF (V : List Nat) (rs : List (Nat × Nat)) : List Nat := rs.map fun p => lv V p.1
def iniF (rs : List (Nat × Nat)) : List Nat := rs.map (·.2)
def runF (rs a : List (Nat × Nat)) (outs : List Nat) (rows : List (List Nat)) (resets : List Nat) : Nat → List (List Nat) × List Nat
  | 0 => ([], iniF rs)
  | i + 1 => ((runF rs a outs rows resets i).1 ++ [outsF (vals (bas (rows.getD i []) (runF rs a outs rows resets i).2) a) outs], if resets.getD i 0 = 1 then iniF rs else nextF (vals (bas (rows.getD i []) (runF rs a outs rows resets i).2) a) rs)
section
variable {n : Nat} {rs a : List (Nat × Nat)} {outs : List Nat} {rows : List (List Nat)} {resets : List Nat}
theorem ini_len : (iniF rs).length = rs.length := List.length_map ..
theorem next_len (V : List Nat) : (nextF V rs).length = rs.length := List.length_map ..
theorem ini_bit (w : Gw n rs a outs) : ∀ x ∈ iniF rs, x < 2 := fun x hx => by
  obtain ⟨p, hp, rfl⟩ := List.mem_map.mp hx
  exact (w.reg p hp).2
theorem next_bit {V : List Nat} (h : ∀ x ∈ V, x < 2) : ∀ x ∈ nextF V rs, x < 2 := fun x hx => by
  obtain ⟨p, hp, rfl⟩ := List.mem_map.mp hx
  exact lv_lt h _
theorem outs_bit {V : List Nat} (h : ∀ x ∈ V, x < 2) : ∀ x ∈ outsF V outs, x < 2 := fun x hx => by
  obtain ⟨p, hp, rfl⟩ := List.mem_map.mp hx
  exact lv_lt h _
theorem run_st (w : Gw n rs a outs) (hr : ∀ r ∈ rows, ∀ x ∈ r, x < 2) : ∀ i, (runF rs a outs rows resets i).2.length = rs.length ∧ ∀ x ∈ (runF rs a outs rows resets i).2, x < 2
  | 0 => ⟨ini_len, ini_bit w⟩
  | i + 1 => by
    obtain ⟨h1, h2⟩ := run_st w hr i
    have hb : ∀ x ∈ rows.getD i [], x < 2 := by
      rw [List.getD_eq_getElem?_getD]
      cases e : rows[i]? with
      | none => intro x hx; cases hx
      | some r => exact hr r (List.mem_of_getElem? e)
    show (if resets.getD i 0 = 1 then iniF rs else nextF _ rs).length = _ ∧ ∀ x ∈ (if resets.getD i 0 = 1 then iniF rs else nextF _ rs), x < 2
    split
    · exact ⟨ini_len, ini_bit w⟩
    · exact ⟨next_len _, next_bit (vals_bit (bas_bit hb h2) a)⟩
theorem run_len : ∀ i, (runF rs a outs rows resets i).1.length = i
  | 0 => rfl
  | i + 1 => by
    show ((runF rs a outs rows resets i).1 ++ [_]).length = _
    rw [List.length_append, run_len i]
    rfl
theorem run_get {i : Nat} : ∀ l ∈ (runF rs a outs rows resets i).1, ∃ V, l = outsF V outs ∧ ((∀ r ∈ rows, ∀ x ∈ r, x < 2) → Gw n rs a outs → ∀ x ∈ V, x < 2) := by
  induction i with
  | zero => intro l hl; cases hl
  | succ i ih =>
    intro l hl
    rcases List.mem_append.mp (show l ∈ (runF rs a outs rows resets i).1 ++ [_] from hl) with hl | hl
    · exact ih l hl
    · refine ⟨_, List.mem_singleton.mp hl, fun hr w => vals_bit (bas_bit ?_ (run_st w hr i).2) a⟩
      rw [List.getD_eq_getElem?_getD]
      cases e : rows[i]? with
      | none => intro x hx; cases hx
      | some r => exact hr r (List.mem_of_getElem? e)
end
theorem llv_sm {l : List (List Nat)} {m c : Nat} (hl : l.length ≤ m) (h : ∀ r ∈ l, r.length ≤ c ∧ ∀ x ∈ r, x < 1000000) : Sm (.lst (llv l)) 2 (m * (c * 41 + 1)) := by
  refine (Sm.lst (Sms.all (d := 1) (w := c * 41) fun x hx => ?_)).mono (Nat.le_refl _) (by rw [llv_len]; exact Nat.mul_le_mul_right _ hl)
  unfold llv at hx
  obtain ⟨r, hr, rfl⟩ := List.mem_map.mp hx
  obtain ⟨h1, h2⟩ := h r hr
  exact Sm.nlv (fun m hm => by have := h2 m hm; omega) h1
theorem llv_sm0 (l : List (List Nat)) : Sm0 (.lst (llv l)) = true := sms0 fun x hx => by
  unfold llv at hx
  obtain ⟨r, hr, rfl⟩ := List.mem_map.mp hx
  exact sm0_nlv r
theorem zeros (n : Nat) : (List.replicate n [LV.int 0]).flatten = nlv (List.replicate n 0) := by
  induction n with
  | zero => rfl
  | succ n ih =>
    rw [List.replicate_succ, List.flatten_cons, ih, List.replicate_succ]
    rfl
theorem alv_set (rs : List (Nat × Nat)) (i : Nat) (x y : Nat) : (alv rs).set i (.tup [.int (x : Nat), .int (y : Nat)]) = alv (rs.set i (x, y)) := by
  unfold alv
  rw [List.map_set]
theorem alv_ix {rs : List (Nat × Nat)} {i : Nat} (h : i < rs.length) : ixN (alv rs).length (i : Int) = some i := by
  unfold ixN
  rw [alv_len, if_pos (by omega), if_pos (by omega), Int.toNat_natCast]
end GG
set_option Elab.async false
set_option linter.all false
set_option maxRecDepth 100000
set_option maxHeartbeats 4000000
/-! numbers of literals: least place first -/
namespace GG
open PySem L2 Cw Lg
def num (V : List Nat) : List Nat → Nat
  | [] => 0
  | l :: r => lv V l + 2 * num V r
theorem num_app (V : List Nat) : ∀ l m : List Nat, num V (l ++ m) = num V l + 2 ^ l.length * num V m
  | [], m => by
    show num V m = 0 + 1 * num V m
    omega
  | x :: r, m => by
    show lv V x + 2 * num V (r ++ m) = lv V x + 2 * num V r + 2 ^ (r.length + 1) * num V m
    rw [num_app V r m, Nat.pow_succ, Nat.mul_add, Nat.mul_comm (2 ^ r.length) 2, Nat.mul_assoc]
    omega
theorem num_one (V : List Nat) (x : Nat) : num V [x] = lv V x := by
  show lv V x + 2 * 0 = _
  omega
theorem num_snoc (V : List Nat) (l : List Nat) (x : Nat) : num V (l ++ [x]) = num V l + 2 ^ l.length * lv V x := by
  rw [num_app, num_one]
theorem num_lt {V : List Nat} (h : ∀ x ∈ V, x < 2) : ∀ l : List Nat, num V l < 2 ^ l.length
  | [] => Nat.zero_lt_one
  | x :: r => by
    have ih := num_lt h r
    have := lv_lt h x
    show lv V x + 2 * num V r < 2 ^ (r.length + 1)
    rw [Nat.pow_succ]
    omega
theorem num_cong {V W : List Nat} : ∀ {l : List Nat}, (∀ x ∈ l, lv V x = lv W x) → num V l = num W l
  | [], _ => rfl
  | x :: r, h => by
    show lv V x + 2 * num V r = lv W x + 2 * num W r
    rw [h x (List.mem_cons_self ..), num_cong fun y hy => h y (List.mem_cons_of_mem _ hy)]
def prodL (V : List Nat) : List Nat → Nat
  | [] => 1
  | l :: r => lv V l * prodL V r
theorem prod_snoc (V : List Nat) (x : Nat) : ∀ l : List Nat, prodL V (l ++ [x]) = prodL V l * lv V x
  | [] => by
    show lv V x * 1 = 1 * lv V x
    omega
  | y :: r => by
    show lv V y * prodL V (r ++ [x]) = lv V y * prodL V r * lv V x
    rw [prod_snoc V x r, Nat.mul_assoc]
theorem prod_cong {V W : List Nat} : ∀ {l : List Nat}, (∀ x ∈ l, lv V x = lv W x) → prodL V l = prodL W l
  | [], _ => rfl
  | x :: r, h => by
    show lv V x * prodL V r = lv W x * prodL W r
    rw [h x (List.mem_cons_self ..), prod_cong fun y hy => h y (List.mem_cons_of_mem _ hy)]
/-- a2 goes on from a, by n at most -/
structure Go (base : List Nat) (a a2 : List (Nat × Nat)) (n : Nat) : Prop where
  wa : Wa base.length a2
  ext : ∃ c, a2 = a ++ c ∧ c.length ≤ n
def Lt (base : List Nat) (a : List (Nat × Nat)) (l : List Nat) : Prop := ∀ x ∈ l, x < 2 * (base.length + a.length)
section
variable {base : List Nat} {a a2 a3 : List (Nat × Nat)} {n m : Nat}
theorem Go.refl (w : Wa base.length a) : Go base a a 0 := ⟨w, [], (List.append_nil _).symm, Nat.le_refl _⟩
theorem Go.trans (h : Go base a a2 n) (h2 : Go base a2 a3 m) : Go base a a3 (n + m) := by
  obtain ⟨c, e, hc⟩ := h.ext
  obtain ⟨d, e2, hd⟩ := h2.ext
  exact ⟨h2.wa, c ++ d, by rw [e2, e, List.append_assoc], by rw [List.length_append]; omega⟩
theorem Go.mono (h : Go base a a2 n) (e : n ≤ m) : Go base a a2 m := by
  obtain ⟨c, x, hc⟩ := h.ext
  exact ⟨h.wa, c, x, by omega⟩
theorem Go.len (h : Go base a a2 n) : a.length ≤ a2.length ∧ a2.length ≤ a.length + n := by
  obtain ⟨c, e, hc⟩ := h.ext
  rw [e, List.length_append]
  omega
theorem Go.lit (h : Go base a a2 n) {x : Nat} (hx : x < 2 * (base.length + a.length)) : x < 2 * (base.length + a2.length) ∧ lv (vals base a2) x = lv (vals base a) x := by
  obtain ⟨c, e, _⟩ := h.ext
  rw [e]
  exact ⟨by rw [List.length_append]; omega, lv_ext hx⟩
theorem Go.lt (h : Go base a a2 n) {l : List Nat} (hl : Lt base a l) : Lt base a2 l := fun x hx => (h.lit (hl x hx)).1
theorem Go.num (h : Go base a a2 n) {l : List Nat} (hl : Lt base a l) : num (vals base a2) l = GG.num (vals base a) l := num_cong fun x hx => (h.lit (hl x hx)).2
theorem Go.prod (h : Go base a a2 n) {l : List Nat} (hl : Lt base a l) : prodL (vals base a2) l = prodL (vals base a) l := prod_cong fun x hx => (h.lit (hl x hx)).2
theorem Rz.go {r : Nat × List (Nat × Nat)} {v : Nat} (h : Rz base a r v n) : Go base a r.2 n := ⟨h.wa, h.ext⟩
theorem Lt.nil : Lt base a [] := fun x hx => (by cases hx)
theorem Lt.snoc {l : List Nat} {x : Nat} (h : Lt base a l) (hx : x < 2 * (base.length + a.length)) : Lt base a (l ++ [x]) := fun y hy => by
  rcases List.mem_append.mp hy with hy | hy
  · exact h y hy
  · rw [List.mem_singleton.mp hy]
    exact hx
theorem Lt.app {l m : List Nat} (h : Lt base a l) (h2 : Lt base a m) : Lt base a (l ++ m) := fun y hy => by
  rcases List.mem_append.mp hy with hy | hy
  · exact h y hy
  · exact h2 y hy
theorem Lt.at {l : List Nat} (h : Lt base a l) {i : Nat} (hi : i < l.length) : l.getD i 0 < 2 * (base.length + a.length) := h _ (by rw [List.getD_eq_getElem?_getD, List.getElem?_eq_getElem hi]; exact List.getElem_mem hi)
theorem Lt.take {l : List Nat} (h : Lt base a l) (i : Nat) : Lt base a (l.take i) := fun x hx => h x (List.mem_of_mem_take hx)
theorem Lt.rep {x : Nat} (hx : x < 2 * (base.length + a.length)) (k : Nat) : Lt base a (List.replicate k x) := fun y hy => by
  rw [List.eq_of_mem_replicate hy]
  exact hx
end
theorem take_sn {l : List Nat} {i : Nat} (h : i < l.length) : l.take (i + 1) = l.take i ++ [l.getD i 0] := by
  rw [List.take_succ_eq_append_getElem h, List.getD_eq_getElem?_getD, List.getElem?_eq_getElem h]
  rfl
theorem num_take {V l : List Nat} {i : Nat} (h : i < l.length) : num V (l.take (i + 1)) = num V (l.take i) + 2 ^ i * lv V (l.getD i 0) := by
  rw [take_sn h, num_snoc, List.length_take, Nat.min_eq_left (Nat.le_of_lt h)]
theorem prod_take {V l : List Nat} {i : Nat} (h : i < l.length) : prodL V (l.take (i + 1)) = prodL V (l.take i) * lv V (l.getD i 0) := by
  rw [take_sn h, prod_snoc]
theorem num_zero {base : List Nat} (B : Bs base) (a : List (Nat × Nat)) : ∀ k, num (vals base a) (List.replicate k 0) = 0
  | 0 => rfl
  | k + 1 => by
    show lv (vals base a) 0 + 2 * num (vals base a) (List.replicate k 0) = 0
    rw [lv_zero B, num_zero B a k]
/-- turned places -/
def inv (l : List Nat) : List Nat := l.map (· ^^^ 1)
theorem inv_len (l : List Nat) : (inv l).length = l.length := List.length_map ..
theorem num_inv {V : List Nat} (h : ∀ x ∈ V, x < 2) : ∀ l : List Nat, num V (inv l) + num V l + 1 = 2 ^ l.length
  | [] => rfl
  | x :: r => by
    have ih := num_inv h r
    have := lv_lt h x
    show lv V (x ^^^ 1) + 2 * num V (inv r) + (lv V x + 2 * num V r) + 1 = 2 ^ (r.length + 1)
    rw [lv_neg h, Nat.pow_succ]
    omega
theorem lt_inv {base : List Nat} {a : List (Nat × Nat)} {l : List Nat} (h : Lt base a l) : Lt base a (inv l) := fun x hx => by
  obtain ⟨y, hy, rfl⟩ := List.mem_map.mp hx
  exact xor1_lt (h y hy)
/-- one place of a sum -/
theorem full (A B C : Nat) (ha : A < 2) (hb : B < 2) (hc : C < 2) : ((A + B) % 2 + C) % 2 + 2 * (1 - (1 - A * B) * (1 - (A + B) % 2 * C)) = A + B + C := by
  rcases b2 ha with rfl | rfl <;> rcases b2 hb with rfl | rfl <;> rcases b2 hc with rfl | rfl <;> rfl
theorem step_sum {p S c x y s q N M k : Nat} (h : S + p * c = N + M + k) (e : s + 2 * q = x + y + c) : (S + p * s) + 2 * p * q = (N + p * x) + (M + p * y) + k := by
  have h1 : p * (s + 2 * q) = p * (x + y + c) := by rw [e]
  have h2 : p * (s + 2 * q) = p * s + 2 * p * q := by rw [Nat.mul_add, ← Nat.mul_assoc, Nat.mul_comm p 2]
  have h3 : p * (x + y + c) = p * x + p * y + p * c := by rw [Nat.mul_add, Nat.mul_add]
  omega
theorem mod_of {S p q T : Nat} (h : S + p * q = T) (hs : S < p) : S = T % p := by
  rw [← h, Nat.add_mul_mod_self_left, Nat.mod_eq_of_lt hs]
/-- less than, place by place -/
theorem lt_step {p x y N M : Nat} (hx : x < 2) (hy : y < 2) (hN : N < p) (hM : M < p) : (if N + p * x < M + p * y then 1 else 0) = if (x + y) % 2 = 1 then y else if N < M then 1 else 0 := by
  rcases b2 hx with rfl | rfl <;> rcases b2 hy with rfl | rfl
  · rw [if_neg (show ¬ (0 + 0) % 2 = 1 by decide), Nat.mul_zero, Nat.add_zero, Nat.add_zero]
  · rw [if_pos (show (0 + 1) % 2 = 1 by decide), if_pos (by omega)]
  · rw [if_pos (show (1 + 0) % 2 = 1 by decide), if_neg (by omega)]
  · rw [if_neg (show ¬ (1 + 1) % 2 = 1 by decide)]
    have : (N + p * 1 < M + p * 1) ↔ N < M := by omega
    by_cases z : N < M
    · rw [if_pos z, if_pos (this.mpr z)]
    · rw [if_neg z, if_neg fun w => z (this.mp w)]
theorem eq_step {p x y N M : Nat} (hx : x < 2) (hy : y < 2) (hN : N < p) (hM : M < p) : (if N + p * x = M + p * y then 1 else 0) = (if N = M then 1 else 0) * (1 - (x + y) % 2) := by
  rcases b2 hx with rfl | rfl <;> rcases b2 hy with rfl | rfl
  · rw [Nat.mul_zero, Nat.add_zero, Nat.add_zero, show 1 - (0 + 0) % 2 = 1 from rfl, Nat.mul_one]
  · rw [if_neg (by omega), show 1 - (0 + 1) % 2 = 0 from rfl, Nat.mul_zero]
  · rw [if_neg (by omega), show 1 - (1 + 0) % 2 = 0 from rfl, Nat.mul_zero]
  · have : (N + p = M + p) ↔ N = M := by omega
    rw [show 1 - (1 + 1) % 2 = 1 from rfl, Nat.mul_one, Nat.mul_one]
    by_cases z : N = M
    · rw [if_pos z, if_pos (this.mpr z)]
    · rw [if_neg z, if_neg fun w => z (this.mp w)]
/-- one row of a product -/
theorem mul_step {p r N T D b M : Nat} (hN : N = T + r * D) : (N * M % (p * r) + p * (b * T)) % (p * r) = N * (M + p * b) % (p * r) := by
  have e : N * (M + p * b) = N * M + p * (b * T) + (p * r) * (b * D) := by
    rw [Nat.mul_add, hN, show (T + r * D) * (p * b) = p * (b * T) + (p * r) * (b * D) by
      rw [Nat.add_mul]
      congr 1
      · rw [Nat.mul_comm T, Nat.mul_assoc]
      · rw [Nat.mul_comm (r * D), Nat.mul_assoc, Nat.mul_assoc, Nat.mul_comm b, Nat.mul_assoc r, Nat.mul_comm D], Nat.add_assoc]
  rw [e, Nat.add_mul_mod_self_left, Nat.mod_add_mod]
def andL (base : List Nat) (a : List (Nat × Nat)) (b : Nat) (l r : List Nat) : Prop := r.length = l.length ∧ num (vals base a) r = b * num (vals base a) l
theorem nlv_rep (k : Nat) : nlv (List.replicate k 0) = List.replicate k (LV.int 0) := by
  unfold nlv
  rw [List.map_replicate]
  rfl
theorem nlv_drop (l : List Nat) (i : Nat) : (nlv l).drop i = nlv (l.drop i) := by
  unfold nlv
  rw [List.map_drop]
theorem nlv_cat (l m : List Nat) : nlv l ++ nlv m = nlv (l ++ m) := by
  unfold nlv
  rw [List.map_append]
theorem cut_from' {xs : List LV} {m : Nat} (h : m ≤ xs.length) : cutL xs (some (m : Int)) none = xs.drop m := by
  unfold cutL
  rw [show HT.sIx xs.length 0 (some (m : Int)) = m by unfold HT.sIx; dsimp only; split <;> omega, show HT.sIx xs.length xs.length none = xs.length from rfl]
  exact List.take_of_length_le (by rw [List.length_drop]; exact Nat.le_refl _)
theorem cut_nlv_to {l : List Nat} {e : Int} {m : Nat} (he : e = m) (h : m ≤ l.length) : cutL (nlv l) none (some e) = nlv (l.take m) := by
  rw [he, cut_to' (by rw [nlv_len]; exact h), nlv_take]
theorem cut_nlv_from {l : List Nat} {e : Int} {m : Nat} (he : e = m) (h : m ≤ l.length) : cutL (nlv l) (some e) none = nlv (l.drop m) := by
  rw [he, cut_from' (by rw [nlv_len]; exact h), nlv_drop]
theorem take_head {l : List Nat} (h : 0 < l.length) : l = l.getD 0 0 :: l.drop 1 := by
  cases l with
  | nil => exact absurd h (Nat.lt_irrefl 0)
  | cons x r => rfl
theorem prod_drop {V l : List Nat} (h : 0 < l.length) : prodL V l = lv V (l.getD 0 0) * prodL V (l.drop 1) := by
  cases l with
  | nil => exact absurd h (Nat.lt_irrefl 0)
  | cons x r => rfl
theorem num_split (V l : List Nat) (i : Nat) : num V l = num V (l.take i) + 2 ^ (l.take i).length * num V (l.drop i) := by
  rw [← num_app, List.take_append_drop]
theorem num_put {V bits : List Nat} {i : Nat} (h : i < bits.length) : ((num V (bits.take i) : Nat) : Int) + ((lv V (bits.getD i 0) : Nat) : Int) * (1 * 2 ^ ((i : Nat) : Int).toNat) = ((num V (bits.take (i + 1)) : Nat) : Int) := by
  have e : (1 : Int) * 2 ^ ((i : Nat) : Int).toNat = ((1 * 2 ^ i : Nat) : Int) := shlN 1 i
  rw [e, num_take h, Nat.one_mul, Nat.mul_comm]
  push_cast
  rfl
theorem xor_if {l m : Nat} (b : Bool) (h : l < 2 * m) : ∃ l2 : Nat, PySem.Builtin.bitXor (l : Int) (if b then 1 else 0) = l2 ∧ l2 < 2 * m := by
  cases b with
  | false => exact ⟨l ^^^ 0, xorN l 0, by rw [Nat.xor_zero]; exact h⟩
  | true => exact ⟨l ^^^ 1, xorN l 1, xor1_lt h⟩
theorem mem_sn {l : List Nat} {x m : Nat} (h : ∀ y ∈ l, y < m) (hx : x < m) : ∀ y ∈ l ++ [x], y < m := fun y hy => by
  rcases List.mem_append.mp hy with hy | hy
  · exact h y hy
  · rw [List.mem_singleton.mp hy]
    exact hx
theorem cast_mod (a b : Nat) : ((a % b : Nat) : Int) = (a : Int) % (b : Int) := rfl
theorem r_add {S X Y w : Nat} (h : S = (X + Y) % 2 ^ w) : (S : Int) = ((X : Int) + (Y : Int)) % 2 ^ w := by
  rw [h, cast_mod]
  push_cast
  rfl
theorem r_sub {S X Y w : Nat} (h : S = (X + (2 ^ w - Y)) % 2 ^ w) (hy : Y < 2 ^ w) : (S : Int) = ((X : Int) - (Y : Int)) % 2 ^ w := by
  rw [h, cast_mod, show ((X + (2 ^ w - Y) : Nat) : Int) = (X : Int) - Y + ((2 ^ w : Nat) : Int) by omega, Int.add_emod_right]
  push_cast
  rfl
theorem r_mul {S X Y w : Nat} (h : S = (X * Y) % 2 ^ w) : (S : Int) = ((X : Int) * (Y : Int)) % 2 ^ w := by
  rw [h, cast_mod]
  push_cast
  rfl
theorem r_neg {S X w : Nat} (h : S = (2 ^ w - X) % 2 ^ w) (hx : X < 2 ^ w) : (S : Int) = (-(X : Int)) % 2 ^ w := by
  rw [h, cast_mod, show ((2 ^ w - X : Nat) : Int) = -(X : Int) + ((2 ^ w : Nat) : Int) by omega, Int.add_emod_right]
  push_cast
  rfl
theorem r_bit {p : Prop} [Decidable p] {b : Bool} (e : b = decide p) : (((if p then 1 else 0 : Nat)) : Int) = (if b then (1 : Int) else 0) % 2 ^ 1 := by
  rw [e]
  by_cases h : p
  · rw [if_pos h, decide_eq_true h]
    rfl
  · rw [if_neg h, decide_eq_false h]
    rfl
end GG
set_option Elab.async false
set_option linter.all false
set_option maxRecDepth 100000
set_option maxHeartbeats 4000000
/-! clauses of a graph -/
namespace GG
open PySem L2 Cw Lg
def tm (l : Nat) : Int := if l % 2 = 1 then -((l / 2 + 1 : Nat) : Int) else ((l / 2 + 1 : Nat) : Int)
def hold (vs : List Nat) (t : Int) : Bool := if t > 0 then decide (vs.getD (t.natAbs - 1) 0 = 1) else decide (vs.getD (t.natAbs - 1) 0 = 0)
def okT (vs : List Nat) (t : Int) : Prop := t ≠ 0 ∧ t.natAbs ≤ vs.length
theorem tm_abs (l : Nat) : (tm l).natAbs = l / 2 + 1 := by
  unfold tm
  split <;> omega
theorem tm_ne (l : Nat) : tm l ≠ 0 := by
  unfold tm
  split <;> omega
theorem tm_even (v : Nat) : tm (2 * v) = ((v + 1 : Nat) : Int) := by
  unfold tm
  rw [if_neg (by omega), show 2 * v / 2 = v by omega]
theorem hold_tm {vs : List Nat} (h : ∀ x ∈ vs, x < 2) (l : Nat) : hold vs (tm l) = decide (lv vs l = 1) := by
  have b := bit_getD h (l / 2)
  unfold hold
  rw [tm_abs, Nat.add_sub_cancel]
  unfold tm lv
  by_cases e : l % 2 = 1
  · rw [if_pos e, if_pos e, if_neg (by omega)]
    congr 1
    exact propext (by omega)
  · rw [if_neg e, if_neg e, if_pos (by omega)]
theorem hold_neg {vs : List Nat} (h : ∀ x ∈ vs, x < 2) (l : Nat) : hold vs (-(tm l)) = decide (lv vs l = 0) := by
  have b := bit_getD h (l / 2)
  unfold hold
  rw [Int.natAbs_neg, tm_abs, Nat.add_sub_cancel]
  unfold tm lv
  by_cases e : l % 2 = 1
  · rw [if_pos e, if_pos e, if_pos (by omega)]
    congr 1
    exact propext (by omega)
  · rw [if_neg e, if_neg e, if_neg (by omega)]
def tri (b j : Nat) (p : Nat × Nat) : List (List Int) := [[-(tm (2 * (b + j))), tm p.1], [-(tm (2 * (b + j))), tm p.2], [tm (2 * (b + j)), -(tm p.1), -(tm p.2)]]
def gcl (b : Nat) (a : List (Nat × Nat)) (i : Nat) : List (List Int) := [[-1]] ++ (List.range i).flatMap fun j => tri b j (a.getD j (0, 0))
theorem gcl_succ (b : Nat) (a : List (Nat × Nat)) (i : Nat) : gcl b a (i + 1) = gcl b a i ++ tri b i (a.getD i (0, 0)) := by
  unfold gcl
  rw [List.range_succ, List.flatMap_append, List.append_assoc, List.flatMap_singleton]
theorem gcl_len (b : Nat) (a : List (Nat × Nat)) : ∀ i, (gcl b a i).length = 1 + 3 * i
  | 0 => rfl
  | i + 1 => by
    rw [gcl_succ, List.length_append, gcl_len b a i]
    show _ + 3 = _
    omega
theorem gcl_mem {b : Nat} {a : List (Nat × Nat)} {i : Nat} {c : List Int} (h : c ∈ gcl b a i) : c = [-1] ∨ ∃ j, j < i ∧ c ∈ tri b j (a.getD j (0, 0)) := by
  unfold gcl at h
  rcases List.mem_append.mp h with h | h
  · exact .inl (List.mem_singleton.mp h)
  · obtain ⟨j, hj, hc⟩ := List.mem_flatMap.mp h
    exact .inr ⟨j, List.mem_range.mp hj, hc⟩
theorem gcl_in {b : Nat} {a : List (Nat × Nat)} {i j : Nat} {c : List Int} (hj : j < i) (h : c ∈ tri b j (a.getD j (0, 0))) : c ∈ gcl b a i :=
  List.mem_append_right _ (List.mem_flatMap.mpr ⟨j, List.mem_range.mpr hj, h⟩)
/-- clauses as data -/
def clv (cs : List (List Int)) : List LV := cs.map fun c => .tup (ilv c)
theorem clv_len (cs : List (List Int)) : (clv cs).length = cs.length := List.length_map ..
theorem clv_app (a b : List (List Int)) : clv a ++ clv b = clv (a ++ b) := by
  unfold clv
  rw [List.map_append]
theorem clv_get {cs : List (List Int)} {i : Nat} {x : LV} (h : (clv cs)[i]? = some x) : ∃ c, cs[i]? = some c ∧ x = .tup (ilv c) := by
  unfold clv at h
  rw [List.getElem?_map] at h
  obtain ⟨c, hc, rfl⟩ := Option.map_eq_some_iff.mp h
  exact ⟨c, hc, rfl⟩
def isT (vs : List Nat) (c : List Int) : Bool := c.any (hold vs)
def allT (vs : List Nat) (cs : List (List Int)) : Bool := cs.all (isT vs)
theorem blv_len (c : List Bool) : (blv c).length = c.length := List.length_map ..
theorem map_take_sn {α β : Type} {f : α → β} {l : List α} {i : Nat} {x : α} (h : l[i]? = some x) : (l.take (i + 1)).map f = (l.take i).map f ++ [f x] := by
  obtain ⟨hi, e⟩ := List.getElem?_eq_some_iff.mp h
  rw [List.take_succ_eq_append_getElem hi, e, List.map_append]
  rfl
theorem blv_sn {α : Type} {f : α → Bool} {l : List α} {i : Nat} {x : α} (h : l[i]? = some x) : blv ((l.take i).map f) ++ [.bl (f x)] = blv ((l.take (i + 1)).map f) := by
  unfold blv
  rw [map_take_sn h, List.map_append]
  rfl
theorem any_map' {α : Type} (f : α → Bool) (l : List α) : (l.map f).any id = l.any f := by
  induction l with
  | nil => rfl
  | cons x r ih =>
    rw [List.map_cons, List.any_cons, List.any_cons, ih]
    rfl
theorem all_map' {α : Type} (f : α → Bool) (l : List α) : (l.map f).all id = l.all f := by
  induction l with
  | nil => rfl
  | cons x r ih =>
    rw [List.map_cons, List.all_cons, List.all_cons, ih]
    rfl
/-! ### what clauses tell -/
section
variable {base : List Nat} {a : List (Nat × Nat)}
theorem ok_tm {vs : List Nat} {l : Nat} (h : l < 2 * vs.length) : okT vs (tm l) := ⟨tm_ne l, by rw [tm_abs]; omega⟩
theorem ok_neg {vs : List Nat} {t : Int} (h : okT vs t) : okT vs (-t) := ⟨by have := h.1; omega, by rw [Int.natAbs_neg]; exact h.2⟩
theorem gcl_ok (B : Bs base) (w : Wa base.length a) {vs : List Nat} (hv : vs.length = base.length + a.length) : ∀ c ∈ gcl base.length a a.length, c.length ≤ 3 ∧ ∀ t ∈ c, okT vs t := by
  intro c hc
  have pos := B.pos
  rcases gcl_mem hc with rfl | ⟨j, hj, h⟩
  · refine ⟨by decide, fun t ht => ?_⟩
    rw [List.mem_singleton.mp ht]
    exact ⟨by decide, by show 1 ≤ _; omega⟩
  · have e : a.getD j (0, 0) = a[j] := by rw [List.getD_eq_getElem?_getD, List.getElem?_eq_getElem hj]; rfl
    obtain ⟨w1, w2, w3, w4⟩ := w.at_ j _ (List.getElem?_eq_getElem hj)
    rw [e] at h
    have o0 : okT vs (tm (2 * (base.length + j))) := ok_tm (by omega)
    have o1 : okT vs (tm a[j].1) := ok_tm (by omega)
    have o2 : okT vs (tm a[j].2) := ok_tm (by omega)
    unfold tri at h
    rcases List.mem_cons.mp h with rfl | h
    · refine ⟨by show 2 ≤ 3; decide, fun t ht => ?_⟩
      rcases List.mem_cons.mp ht with rfl | ht
      · exact ok_neg o0
      · rw [List.mem_singleton.mp ht]
        exact o1
    rcases List.mem_cons.mp h with rfl | h
    · refine ⟨by show 2 ≤ 3; decide, fun t ht => ?_⟩
      rcases List.mem_cons.mp ht with rfl | ht
      · exact ok_neg o0
      · rw [List.mem_singleton.mp ht]
        exact o2
    · rw [List.mem_singleton.mp h]
      refine ⟨by show 3 ≤ 3; decide, fun t ht => ?_⟩
      rcases List.mem_cons.mp ht with rfl | ht
      · exact o0
      rcases List.mem_cons.mp ht with rfl | ht
      · exact ok_neg o1
      · rw [List.mem_singleton.mp ht]
        exact ok_neg o2
theorem any2 (f : Int → Bool) (x y : Int) : [x, y].any f = (f x || f y) := by
  rw [List.any_cons, List.any_cons, List.any_nil, Bool.or_false]
theorem any3 (f : Int → Bool) (x y z : Int) : [x, y, z].any f = (f x || (f y || f z)) := by
  rw [List.any_cons, List.any_cons, List.any_cons, List.any_nil, Bool.or_false]
theorem gcl_true (B : Bs base) (w : Wa base.length a) : allT (vals base a) (gcl base.length a a.length) = true := by
  have vb := vals_bit B.bit a
  unfold allT
  rw [List.all_eq_true]
  intro c hc
  unfold isT
  rcases gcl_mem hc with rfl | ⟨j, hj, h⟩
  · have := hold_neg vb 0
    rw [lv_zero B] at this
    rw [List.any_cons, show (-1 : Int) = -(tm 0) from rfl, this]
    rfl
  · have e : a.getD j (0, 0) = a[j] := by rw [List.getD_eq_getElem?_getD, List.getElem?_eq_getElem hj]; rfl
    have va := vals_at w (List.getElem?_eq_getElem hj)
    rw [e] at h
    have hx := hold_tm vb a[j].1
    have hy := hold_tm vb a[j].2
    have hz := hold_tm vb (2 * (base.length + j))
    have nx' := hold_neg vb a[j].1
    have ny := hold_neg vb a[j].2
    have nz := hold_neg vb (2 * (base.length + j))
    rw [va] at hz nz
    unfold tri at h
    rcases List.mem_cons.mp h with rfl | h
    · rw [any2, hx, nz]
      rcases b2 (lv_lt vb a[j].1) with h1 | h1 <;> rw [h1]
      · rw [Nat.zero_mul]; rfl
      · exact Bool.or_true _
    rcases List.mem_cons.mp h with rfl | h
    · rw [any2, hy, nz]
      rcases b2 (lv_lt vb a[j].2) with h1 | h1 <;> rw [h1]
      · rw [Nat.mul_zero]; rfl
      · exact Bool.or_true _
    · rw [List.mem_singleton.mp h, any3, nx', ny, hz]
      rcases b2 (lv_lt vb a[j].1) with h1 | h1 <;> rcases b2 (lv_lt vb a[j].2) with h2 | h2 <;> rw [h1, h2] <;> rfl
theorem set_bit {V : List Nat} (h : ∀ x ∈ V, x < 2) {i v : Nat} (hv : v < 2) : ∀ x ∈ V.set i v, x < 2 := fun x hx => by
  rcases List.mem_or_eq_of_mem_set hx with hx | rfl
  · exact h x hx
  · exact hv
theorem lv_set {V : List Nat} {i v l : Nat} (h : l / 2 ≠ i) : lv (V.set i v) l = lv V l := by
  unfold lv
  rw [List.getD_eq_getElem?_getD, List.getElem?_set_ne (Ne.symm h), ← List.getD_eq_getElem?_getD]
theorem lv_set_at {V : List Nat} {i v : Nat} (h : i < V.length) : lv (V.set i v) (2 * i) = v := by
  unfold lv
  rw [if_neg (by omega), Nat.mul_div_cancel_left _ (by decide), List.getD_eq_getElem?_getD, List.getElem?_set_self h]
  rfl
theorem gcl_false (B : Bs base) (w : Wa base.length a) {j : Nat} (hj : j < a.length) : allT ((vals base a).set (base.length + j) (1 - (vals base a).getD (base.length + j) 0)) (gcl base.length a a.length) = false := by
  have vb := vals_bit B.bit a
  have vl := vals_len base a
  have va := vals_at w (List.getElem?_eq_getElem hj)
  obtain ⟨w1, w2, w3, w4⟩ := w.at_ j _ (List.getElem?_eq_getElem hj)
  have e0 : lv (vals base a) (2 * (base.length + j)) = (vals base a).getD (base.length + j) 0 := by
    unfold lv
    rw [if_neg (by omega), Nat.mul_div_cancel_left _ (by decide)]
  rw [← e0, va]
  have hb : 1 - lv (vals base a) a[j].1 * lv (vals base a) a[j].2 < 2 := by omega
  generalize hV : (vals base a).set (base.length + j) (1 - lv (vals base a) a[j].1 * lv (vals base a) a[j].2) = V
  have sb : ∀ x ∈ V, x < 2 := by rw [← hV]; exact set_bit vb hb
  have x1 : lv V a[j].1 = lv (vals base a) a[j].1 := by rw [← hV]; exact lv_set (by omega)
  have x2 : lv V a[j].2 = lv (vals base a) a[j].2 := by rw [← hV]; exact lv_set (by omega)
  have x3 : lv V (2 * (base.length + j)) = 1 - lv (vals base a) a[j].1 * lv (vals base a) a[j].2 := by rw [← hV]; exact lv_set_at (by omega)
  have hx := hold_tm sb a[j].1
  have hy := hold_tm sb a[j].2
  have hz := hold_tm sb (2 * (base.length + j))
  have nx' := hold_neg sb a[j].1
  have ny := hold_neg sb a[j].2
  have nz := hold_neg sb (2 * (base.length + j))
  rw [x1] at hx nx'
  rw [x2] at hy ny
  rw [x3] at hz nz
  have e : a.getD j (0, 0) = a[j] := by rw [List.getD_eq_getElem?_getD, List.getElem?_eq_getElem hj]; rfl
  unfold allT
  rw [Bool.eq_false_iff]
  intro all
  rw [List.all_eq_true] at all
  have c1 := all _ (gcl_in hj (c := [-(tm (2 * (base.length + j))), tm a[j].1]) (by rw [e]; exact List.mem_cons_self ..))
  have c2 := all _ (gcl_in hj (c := [-(tm (2 * (base.length + j))), tm a[j].2]) (by rw [e]; exact List.mem_cons_of_mem _ (List.mem_cons_self ..)))
  have c3 := all _ (gcl_in hj (c := [tm (2 * (base.length + j)), -(tm a[j].1), -(tm a[j].2)]) (by rw [e]; exact List.mem_cons_of_mem _ (List.mem_cons_of_mem _ (List.mem_cons_self ..))))
  unfold isT at c1 c2 c3
  rw [any2, hx, nz] at c1
  rw [any2, hy, nz] at c2
  rw [any3, hz, nx', ny] at c3
  rcases b2 (lv_lt vb a[j].1) with h1 | h1 <;> rcases b2 (lv_lt vb a[j].2) with h2 | h2 <;> rw [h1, h2] at c1 c2 c3 <;> first | (cases c1; done) | (cases c2; done) | (cases c3; done)
end
end GG
namespace GG
open PySem L2 Cw Lg
theorem tru_and (x : Nat) : (PySem.Builtin.bitAnd (x : Int) 1 != 0) = decide (x % 2 = 1) := by
  have e : PySem.Builtin.bitAnd (x : Int) 1 = ((x % 2 : Nat) : Int) := by
    rw [show (1 : Int) = ((1 : Nat) : Int) from rfl, andN, Nat.and_one_is_mod]
  rw [e]
  rcases Nat.mod_two_eq_zero_or_one x with h | h <;> rw [h] <;> rfl
theorem half_i (x : Nat) : ((x / 2 + 1 : Nat) : Int) = (x : Int) / 2 + 1 := by push_cast; rfl
theorem abs_i {t : Int} (h : t ≠ 0) : (if t < 0 then -t else t) - 1 = ((t.natAbs - 1 : Nat) : Int) := by split <;> omega
theorem tri_clv {b i : Nat} {p : Nat × Nat} {v : Int} (e : v = ((b + i + 1 : Nat) : Int)) (cs : List (List Int)) : clv cs ++ [.tup [.int (-v), .int (tm p.1)], .tup [.int (-v), .int (tm p.2)], .tup [.int v, .int (-(tm p.1)), .int (-(tm p.2))]] = clv (cs ++ tri b i p) := by
  rw [← clv_app, e, ← tm_even]
  rfl
theorem gcl_sn {b i : Nat} {a : List (Nat × Nat)} (h : i < a.length) : gcl b a (i + 1) = gcl b a i ++ tri b i a[i] := by
  rw [gcl_succ, List.getD_eq_getElem?_getD, List.getElem?_eq_getElem h]
  rfl
theorem any_sn {c : List Int} {i : Nat} {t : Int} {f : Int → Bool} (h : c[i]? = some t) : (c.take (i + 1)).any f = ((c.take i).any f || f t) := by
  obtain ⟨hi, e⟩ := List.getElem?_eq_some_iff.mp h
  rw [List.take_succ_eq_append_getElem hi, e, List.any_append, List.any_cons, List.any_nil, Bool.or_false]
theorem any_mem {c : List Int} {i : Nat} {t : Int} {f : Int → Bool} (h : c[i]? = some t) (e : f t = true) : c.any f = true := List.any_eq_true.mpr ⟨t, List.mem_of_getElem? h, e⟩
theorem hold_pos {vs : List Nat} {t : Int} (z : 0 < t) : hold vs t = decide (vs.getD (t.natAbs - 1) 0 = 1) := if_pos z
theorem hold_not {vs : List Nat} {t : Int} (z : ¬ 0 < t) : hold vs t = decide (vs.getD (t.natAbs - 1) 0 = 0) := if_neg z
theorem clv_sm {cs : List (List Int)} {m : Nat} (hl : cs.length ≤ m) (h : ∀ c ∈ cs, c.length ≤ 3 ∧ ∀ t ∈ c, t.natAbs < 1000000) : Sm (.lst (clv cs)) 2 (m * (123 + 1)) := by
  refine (Sm.lst (Sms.all (d := 1) (w := 123) fun x hx => ?_)).mono (Nat.le_refl _) (by rw [clv_len]; exact Nat.mul_le_mul_right _ hl)
  unfold clv at hx
  obtain ⟨c, hc, rfl⟩ := List.mem_map.mp hx
  obtain ⟨h1, h2⟩ := h c hc
  refine (Sm.tup (Sms.all (d := 0) (w := 40) fun y hy => ?_)).mono (Nat.le_refl _) ?_
  · unfold ilv at hy
    obtain ⟨t, ht, rfl⟩ := List.mem_map.mp hy
    exact Sm.int (by have := h2 t ht; omega)
  · rw [ilv_len]
    omega
end GG
set_option Elab.async false
set_option linter.all false
set_option maxRecDepth 100000
set_option maxHeartbeats 4000000
/-! steps of a refutation -/
namespace GG
open PySem L2 Cw Lg
section
variable {κ : Type} [DecidableEq κ]
def hasK (kvs : List (κ × LV)) (k : κ) : Bool := kvs.any fun e => decide (e.1 = k)
theorem lk_has (kvs : List (κ × LV)) (k : κ) : (lkG kvs k).isSome = hasK kvs k := by
  unfold lkG hasK
  rw [Option.isSome_map, Bool.eq_iff_iff, List.find?_isSome, List.any_eq_true]
theorem has_pt (kvs : List (κ × LV)) (k k' : κ) (y : LV) : hasK (ptG kvs k y) k' = (decide (k = k') || hasK kvs k') := by
  unfold ptG
  by_cases h : (kvs.any fun e => decide (e.1 = k)) = true
  · rw [if_pos h]
    have e : hasK (kvs.map fun e => if e.1 = k then (e.1, y) else e) k' = hasK kvs k' := by
      unfold hasK
      rw [List.any_map]
      congr 1
      funext e
      show decide ((if e.1 = k then (e.1, y) else e).1 = k') = decide (e.1 = k')
      split <;> rfl
    rw [e]
    by_cases z : k = k'
    · subst z
      rw [decide_eq_true rfl, Bool.true_or]
      exact h
    · rw [decide_eq_false z, Bool.false_or]
  · rw [if_neg h]
    unfold hasK
    rw [List.any_append, List.any_cons, List.any_nil, Bool.or_false, Bool.or_comm]
theorem pt_len (kvs : List (κ × LV)) (k : κ) (y : LV) : (ptG kvs k y).length ≤ kvs.length + 1 := by
  unfold ptG
  split
  · rw [List.length_map]
    exact Nat.le_succ _
  · rw [List.length_append]
    exact Nat.le_refl _
end
def opn (A c : List Int) : List Int := c.filter fun t => !A.contains (-t)
def stpF (cs : List (List Int)) : List Int → List Int → Bool
  | _, [] => false
  | A, h :: hs => if 0 ≤ h ∧ h < cs.length then (if opn A (cs.getD h.toNat []) = [] then true else if 1 < (ddl (opn A (cs.getD h.toNat []))).length then false else stpF cs (A ++ [(opn A (cs.getD h.toNat [])).headD 0]) hs) else false
theorem mem_ddl (o : List Int) (x : Int) : x ∈ ddl o ↔ x ∈ o := by
  have h := PyProof.Rows.firstMet_any (fun i => o.getD i 0) o.length x
  rw [met_ddl, range_getD] at h
  have e : ∀ l : List Int, l.any (· == x) = true ↔ x ∈ l := fun l => by
    rw [List.any_eq_true]
    exact ⟨fun ⟨y, hy, z⟩ => by rw [← beq_iff_eq.mp z]; exact hy, fun hx => ⟨x, hx, beq_self_eq_true x⟩⟩
  rw [← e, h, e]
theorem ddl_sn (o : List Int) (x : Int) : ddl (o ++ [x]) = if (ddl o).contains x then ddl o else ddl o ++ [x] := by
  unfold ddl
  rw [List.foldl_append]
  show PyProof.Rows.step_dedup _ x = _
  unfold PyProof.Rows.step_dedup
  have : ∀ l : List Int, l.any (· == x) = l.contains x := fun l => by
    rw [Bool.eq_iff_iff, List.any_eq_true, List.contains_iff_mem]
    exact ⟨fun ⟨y, hy, z⟩ => by rw [← beq_iff_eq.mp z]; exact hy, fun hx => ⟨x, hx, beq_self_eq_true x⟩⟩
  rw [this]
theorem ddl_one {o : List Int} (h : ¬ 1 < (ddl o).length) {x : Int} (hx : x ∈ o) : x = o.headD 0 := by
  have hh : o.headD 0 ∈ o := by
    cases o with
    | nil => cases hx
    | cons y r => exact List.mem_cons_self ..
  have h1 := (mem_ddl o x).mpr hx
  have h2 := (mem_ddl o _).mpr hh
  match e : ddl o, h with
  | [], _ => rw [e] at h1; cases h1
  | [y], _ =>
    rw [e] at h1 h2
    rw [List.mem_singleton.mp h1, List.mem_singleton.mp h2]
  | y :: z :: r, h => exact absurd (by show 1 < r.length + 1 + 1; omega) h
theorem ddl_nil {o : List Int} : ddl o = [] ↔ o = [] := by
  constructor
  · intro h
    cases o with
    | nil => rfl
    | cons x r =>
      have := (mem_ddl (x :: r) x).mpr (List.mem_cons_self ..)
      rw [h] at this
      cases this
  · rintro rfl
    rfl
theorem ddl_head {o : List Int} (h : o ≠ []) : (ddl o).headD 0 = o.headD 0 := by
  have go : ∀ (o a : List Int) (y : Int), (o.foldl PyProof.Rows.step_dedup (y :: a)).headD 0 = y := by
    intro o
    induction o with
    | nil => intro a y; rfl
    | cons x r ih =>
      intro a y
      show (r.foldl PyProof.Rows.step_dedup (PyProof.Rows.step_dedup (y :: a) x)).headD 0 = y
      unfold PyProof.Rows.step_dedup
      split
      · exact ih a y
      · exact ih (a ++ [x]) y
  cases o with
  | nil => exact absurd rfl h
  | cons x r => exact go r [] x
theorem hold_flip {vs : List Nat} (hv : ∀ x ∈ vs, x < 2) {t : Int} (h : t ≠ 0) : hold vs (-t) = !hold vs t := by
  have b := bit_getD hv (t.natAbs - 1)
  unfold hold
  rw [Int.natAbs_neg]
  by_cases z : t > 0
  · rw [if_pos z, if_neg (by omega)]
    rcases b2 b with h1 | h1 <;> rw [h1] <;> rfl
  · rw [if_neg z, if_pos (by omega)]
    rcases b2 b with h1 | h1 <;> rw [h1] <;> rfl
theorem step_sound {vs : List Nat} (hv : ∀ x ∈ vs, x < 2) {cs : List (List Int)} (hc : allT vs cs = true) (ok : ∀ c ∈ cs, ∀ t ∈ c, t ≠ 0) : ∀ (hs A : List Int), (∀ t ∈ A, hold vs t = true) → stpF cs A hs = true → False
  | [], A, _, h => by cases h
  | g :: hs, A, hA, h => by
    unfold stpF at h
    split at h
    · rename_i hg
      have hm : cs.getD g.toNat [] ∈ cs := by
        rw [List.getD_eq_getElem?_getD, List.getElem?_eq_getElem (by omega)]
        exact List.getElem_mem _
      generalize cs.getD g.toNat [] = C at h hm
      have hT := List.all_eq_true.mp hc C hm
      obtain ⟨t, ht, htv⟩ := List.any_eq_true.mp hT
      have hto : t ∈ opn A C := by
        unfold opn
        rw [List.mem_filter]
        refine ⟨ht, ?_⟩
        rw [Bool.not_eq_true', Bool.eq_false_iff]
        intro z
        have := hA _ (List.contains_iff_mem.mp z)
        rw [hold_flip hv (ok C hm t ht), htv] at this
        cases this
      split at h
      · rename_i he
        rw [he] at hto
        cases hto
      · split at h
        · cases h
        · rename_i hd
          refine step_sound hv hc ok hs _ (fun u hu => ?_) h
          rcases List.mem_append.mp hu with hu | hu
          · exact hA u hu
          · rw [List.mem_singleton.mp hu, ← ddl_one hd hto]
            exact htv
    · cases h
theorem opn_sn (A c : List Int) (t : Int) : opn A (c ++ [t]) = if A.contains (-t) then opn A c else opn A c ++ [t] := by
  unfold opn
  rw [List.filter_append]
  by_cases h : A.contains (-t) = true
  · rw [if_pos h, List.filter_cons, h]
    exact List.append_nil _
  · rw [if_neg h, List.filter_cons, Bool.eq_false_iff.mpr h]
    rfl
theorem drop_at {hs : List Int} {i : Nat} {h : Int} (e : hs[i]? = some h) : hs.drop i = h :: hs.drop (i + 1) := by
  obtain ⟨hi, e⟩ := List.getElem?_eq_some_iff.mp e
  rw [List.drop_eq_getElem_cons hi, e]
def ngl (c : List Int) : List Int := c.map fun t => -t
theorem ngl_sn (c : List Int) (t : Int) : ngl (c ++ [t]) = ngl c ++ [-t] := by
  unfold ngl
  rw [List.map_append]
  rfl
theorem take_si {c : List Int} {i : Nat} {t : Int} (h : c[i]? = some t) : c.take (i + 1) = c.take i ++ [t] := by
  obtain ⟨hi, e⟩ := List.getElem?_eq_some_iff.mp h
  rw [List.take_succ_eq_append_getElem hi, e]
theorem cont_sn (l : List Int) (a u : Int) : (decide ((Sum.inl a : Key) = .inl u) || l.contains u) = (l ++ [a]).contains u := by
  rw [Bool.eq_iff_iff, Bool.or_eq_true, decide_eq_true_iff, List.contains_iff_mem, List.contains_iff_mem, List.mem_append, List.mem_singleton]
  constructor
  · rintro (h | h)
    · exact .inr (Sum.inl.inj h).symm
    · exact .inl h
  · rintro (h | h)
    · exact .inr h
    · exact .inl (by rw [h])
theorem ilv_sm {l : List Int} {n : Nat} (h : ∀ t ∈ l, t.natAbs < 1000000) (hl : l.length ≤ n) : Sm (.lst (ilv l)) 1 (n * 41) :=
  (Sm.lst (Sms.all (d := 0) (w := 40) fun y hy => by
    unfold ilv at hy
    obtain ⟨t, ht, rfl⟩ := List.mem_map.mp hy
    exact Sm.int (by have := h t ht; omega))).mono (Nat.le_refl _) (by rw [ilv_len]; exact Nat.mul_le_mul_right _ hl)
theorem all_filter (cs : List (List Int)) (vs : List Nat) : decide (((cs.filter fun c => !isT vs c).length : Nat) = 0) = allT vs cs := by
  unfold allT
  induction cs with
  | nil => rfl
  | cons c r ih =>
    rw [List.filter_cons, List.all_cons]
    cases h : isT vs c with
    | true => rw [Bool.true_and]; exact ih
    | false => rfl
theorem filt_sn {α : Type} {f : α → Bool} {l : List α} {i : Nat} {x : α} (h : l[i]? = some x) : (l.take (i + 1)).filter f = (l.take i).filter f ++ (if f x then [x] else []) := by
  obtain ⟨hi, e⟩ := List.getElem?_eq_some_iff.mp h
  rw [List.take_succ_eq_append_getElem hi, e, List.filter_append, List.filter_cons]
  rfl
theorem clv_at {cs : List (List Int)} {g : Int} (h0 : 0 ≤ g) (h : g < cs.length) : atI (clv cs) g = some (.tup (ilv (cs.getD g.toNat []))) := by
  have e : g = ((g.toNat : Nat) : Int) := by omega
  refine atI_eq e (atI_nat ?_)
  unfold clv
  rw [List.getElem?_map, List.getElem?_eq_getElem (by omega), List.getD_eq_getElem?_getD, List.getElem?_eq_getElem (by omega)]
  rfl
theorem ilv_at0 {l : List Int} (h : l ≠ []) : atI (ilv l) 0 = some (.int (l.headD 0)) := by
  cases l with
  | nil => exact absurd rfl h
  | cons x r => exact atI_nat (xs := ilv (x :: r)) (j := 0) (v := .int x) rfl
theorem opn_len (A c : List Int) : (opn A c).length ≤ c.length := List.length_filter_le ..
theorem emp_ilv {l : List Int} (h : l ≠ []) : (!(ilv l).isEmpty) = true := by
  cases l with
  | nil => exact absurd rfl h
  | cons x r => rfl
theorem any_ilv (t : Int) : ∀ A : List Int, ((dDs (ilv A)).any fun z => PyData.eqv z (dD (.int t))) = A.contains t
  | [] => rfl
  | a :: r => by
    have ih := any_ilv t r
    show (PyData.eqv (dD (.int a)) (dD (.int t)) || (dDs (ilv r)).any _) = _
    rw [ih, List.contains_cons]
    congr 1
    show PyData.eqv (.int a) (.int t) = _
    unfold PyData.eqv
    exact BEq.comm
theorem ddl_mem_le {o : List Int} {m : Nat} (h : ∀ t ∈ o, t.natAbs ≤ m) : ∀ t ∈ ddl o, t.natAbs ≤ m := fun t ht => h t ((mem_ddl o t).mp ht)
theorem opn_le {A c : List Int} {m : Nat} (h : ∀ t ∈ c, t.natAbs ≤ m) : ∀ t ∈ opn A c, t.natAbs ≤ m := fun t ht => h t (List.mem_filter.mp ht).1
theorem ddl_len (o : List Int) : (ddl o).length ≤ o.length := by
  rw [← met_ddl]
  exact PyProof.Rows.firstMet_length_le _ _
theorem ilv_smT {l : List Int} {n : Nat} (h : ∀ t ∈ l, t.natAbs < 1000000) (hl : l.length ≤ n) : Sm (.tup (ilv l)) 1 (n * 41) :=
  (Sm.tup (Sms.all (d := 0) (w := 40) fun y hy => by
    unfold ilv at hy
    obtain ⟨t, ht, rfl⟩ := List.mem_map.mp hy
    exact Sm.int (by have := h t ht; omega))).mono (Nat.le_refl _) (by rw [ilv_len]; exact Nat.mul_le_mul_right _ hl)
theorem sound {vs : List Nat} (hv : ∀ x ∈ vs, x < 2) {cs : List (List Int)} (hc : allT vs cs = true) (ok : ∀ c ∈ cs, ∀ t ∈ c, t ≠ 0) {c hs : List Int} (okc : ∀ t ∈ c, t ≠ 0) (h : stpF cs (ngl c) hs = true) : isT vs c = true := by
  cases e : isT vs c with
  | true => rfl
  | false =>
    refine (step_sound hv hc ok hs (ngl c) (fun t ht => ?_) h).elim
    unfold ngl at ht
    obtain ⟨u, hu, rfl⟩ := List.mem_map.mp ht
    rw [hold_flip hv (okc u hu)]
    have : hold vs u = false := by
      rw [Bool.eq_false_iff]
      intro z
      have : isT vs c = true := List.any_eq_true.mpr ⟨u, hu, z⟩
      rw [e] at this
      cases this
    rw [this]
    rfl
end GG
set_option Elab.async false
set_option linter.all false
set_option maxRecDepth 100000
set_option maxHeartbeats 4000000
namespace K52
open PySem PySem.Spec PyProof.Rows L2 Cw Lg
open GxR (TabG Tabbed TabB GenS)
def topS (i : Nat) : Stmt := PySem.Challenge.pw_clockwright_k52_steps.main.body.getD i (.Pass ⟨0, 0, 0, 0⟩)
abbrev s_law_state : Stmt := topS 3
theorem sc_law_state : FnScope ["script", "cells", "cell"] ["script"] (defScope s_law_state) := ⟨rfl, rfl, rfl, by decide +kernel, rfl, by decide +kernel, by decide +kernel⟩
abbrev s_law_take : Stmt := topS 4
theorem sc_law_take : FnScope ["state", "most", "cells", "at", "cell", "mixed"] ["state", "most"] (defScope s_law_take) := ⟨rfl, rfl, rfl, by decide +kernel, rfl, by decide +kernel, by decide +kernel⟩
abbrev s_law_clause : Stmt := topS 6
theorem sc_law_clause : FnScope ["state", "variables", "size", "clause", "k", "variable"] ["state", "variables", "size"] (defScope s_law_clause) := ⟨rfl, rfl, rfl, by decide +kernel, rfl, by decide +kernel, by decide +kernel⟩
abbrev s_check_step : Stmt := topS 1
theorem sc_check_step : FnScope ["clauses", "clause", "hints", "assumed", "term", "hint", "open_terms"] ["clauses", "clause", "hints"] (defScope s_check_step) := ⟨rfl, rfl, rfl, by decide +kernel, rfl, by decide +kernel, by decide +kernel⟩
abbrev s_law_good_hints : Stmt := topS 11
theorem sc_law_good_hints : FnScope ["clauses", "clause", "assumed", "term", "hints", "turn", "k", "terms"] ["clauses", "clause"] (defScope s_law_good_hints) := ⟨rfl, rfl, rfl, by decide +kernel, rfl, by decide +kernel, by decide +kernel⟩
abbrev s_law_true : Stmt := topS 7
theorem sc_law_true : FnScope ["clause", "bits", "term"] ["clause", "bits"] (defScope s_law_true) := ⟨rfl, rfl, rfl, by decide +kernel, rfl, by decide +kernel, by decide +kernel⟩
abbrev s_law_all : Stmt := topS 8
theorem sc_law_all : FnScope ["clauses", "bits", "clause"] ["clauses", "bits"] (defScope s_law_all) := ⟨rfl, rfl, rfl, by decide +kernel, rfl, by decide +kernel, by decide +kernel⟩
abbrev s_law_models : Stmt := topS 9
theorem sc_law_models : FnScope ["clauses", "variables", "models", "number", "bits", "k"] ["clauses", "variables"] (defScope s_law_models) := ⟨rfl, rfl, rfl, by decide +kernel, rfl, by decide +kernel, by decide +kernel⟩
abbrev s_law_right : Stmt := topS 10
theorem sc_law_right : FnScope ["clauses", "clause", "hints", "assumed", "term", "hint", "terms"] ["clauses", "clause", "hints"] (defScope s_law_right) := ⟨rfl, rfl, rfl, by decide +kernel, rfl, by decide +kernel, by decide +kernel⟩
abbrev s_law : Stmt := topS 12
theorem sc_law : FnScope ["script", "state", "clauses", "k", "clause", "hints", "kept", "told", "bits"] ["script"] (defScope s_law) := ⟨rfl, rfl, rfl, by decide +kernel, rfl, by decide +kernel, by decide +kernel⟩
structure Txt (mg : Str → Option Value) (K : PySem.W.Frag) (w : World) : Prop where
  len : mg "len" = none
  range : mg "range" = none
  abs : mg "abs" = none
  int : mg "int" = none
  set : mg "set" = none
  tuple : mg "tuple" = none
  repr : mg "repr" = none
end K52
set_option Elab.async false
set_option linter.all false
set_option maxRecDepth 100000
set_option maxHeartbeats 4000000
namespace K52
open PySem PySem.Spec PyProof.Rows L2 Cw Lg
open GxR (TabG Tabbed TabB GenS)
open GG
theorem el0 (l : Nat) : (false ^^ decide ((l : Int) = 0)) = decide (l = 0) := enat l 0
theorem el1 (l : Nat) : (false ^^ decide ((l : Int) = 1)) = decide (l = 1) := enat l 1
theorem dlv_len (b : Nat) (a : List (Nat × Nat)) : (dlv b a).length = a.length := by
  induction a generalizing b with
  | nil => rfl
  | cons p r ih => exact congrArg Nat.succ (ih (b + 1))
abbrev sp_law_take : FSp := sp_take
abbrev sp_law_clause : FSp := fun es k => match es with
  | [.x A, .v (.int vi), .v (.int si)] => A = stO ∧ ∃ v s : Nat, vi = v ∧ si = s ∧ 0 < v ∧ v ≤ 4 ∧ s ≤ 3 ∧ ∀ c : List Int, c.length ≤ 3 → (∀ t ∈ c, t ≠ 0 ∧ t.natAbs ≤ 4) → k (.ok (.tup (ilv c)) [.x stO, .v (.int vi), .v (.int si)])
  | _ => False
def ls_law_clause : LS := (lSeq (lSetL 3 (lLst lNil))
      (lSeq (lFor (lRng1 (lCons (lVar 2) lNil)) (lgName 4)
      (lSeq (lSet 5 (lOp fAdd (lC (.int 1)) (lCallM 2 sp_law_take (lmO 0 (lmV (lVar 1) lmNil)))))
      (lApp 3 (lOp fIxL (lNew (lLst (lCons (lVar 5) (lCons (lUn fNeg (lVar 5)) lNil)))) (lCallM 2 sp_law_take (lmO 0 (lmV (lC (.int 2)) lmNil)))))))
      (lRet (lTupOf (lCons (lVar 3) lNil)))))
theorem lg_law_clause : ∀ es k, es.length = 3 → sp_law_clause es k → ls_law_clause (es ++ List.replicate 3 .no) (outK es k) := by
  intro es k hl h
  unfold sp_law_clause at h
  split at h
  · obtain ⟨rfl, v, s, rfl, rfl, hv0, hv, hs, hk⟩ := h
    (repeat ((conv => whnf); first | refine ⟨rfl, ?_⟩ | refine ⟨⟨rfl, rfl⟩, ?_⟩ | refine ⟨⟨rfl, rfl, rfl⟩, ?_⟩ | refine br_t rfl ?_ | refine br_f rfl ?_ | refine ⟨by decide, ?_⟩ | refine ⟨Nat.le_of_ble_eq_true rfl, ?_⟩ | refine ⟨_, (rfl : @L2.atI LV _ _ = some _), ?_⟩ | refine ⟨(show (0 : Int) < _ from by decide), ?_⟩ | refine ⟨⟨by decide, by decide⟩, ?_⟩ | refine ⟨.inl ⟨by decide, by decide⟩, ?_⟩ | refine ⟨.inr ⟨by decide, by decide⟩, ?_⟩)); (conv => whnf)
    refine ⟨rok1 (by omega), rok2 (by omega), ?_⟩
    (repeat ((conv => whnf); first | refine ⟨rfl, ?_⟩ | refine ⟨⟨rfl, rfl⟩, ?_⟩ | refine ⟨⟨rfl, rfl, rfl⟩, ?_⟩ | refine br_t rfl ?_ | refine br_f rfl ?_ | refine ⟨by decide, ?_⟩ | refine ⟨Nat.le_of_ble_eq_true rfl, ?_⟩ | refine ⟨_, (rfl : @L2.atI LV _ _ = some _), ?_⟩ | refine ⟨(show (0 : Int) < _ from by decide), ?_⟩ | refine ⟨⟨by decide, by decide⟩, ?_⟩ | refine ⟨.inl ⟨by decide, by decide⟩, ?_⟩ | refine ⟨.inr ⟨by decide, by decide⟩, ?_⟩)); (conv => whnf)
    refine ⟨fun i Λ => ∃ (c : List Int) (e4 e5 : Ent), Λ = [.x stO, .v (.int v), .v (.int s), .l (ilv c), e4, e5] ∧ e4.pin = false ∧ e5.pin = false ∧ c.length = i ∧ ∀ t ∈ c, t ≠ 0 ∧ t.natAbs ≤ 4, ⟨[], _, _, rfl, rfl, rfl, rfl, fun t ht => (by cases ht)⟩, ?_, ?_⟩
    · rintro i y Λ hy ⟨c, e4, e5, rfl, h4, h5, hc, hct⟩
      rw [toN] at hy
      obtain ⟨hi, rfl⟩ := rng0_inv hy
      conv => whnf
      refine ⟨np h4, ?_⟩
      (repeat ((conv => whnf); first | refine ⟨rfl, ?_⟩ | refine ⟨⟨rfl, rfl⟩, ?_⟩ | refine ⟨⟨rfl, rfl, rfl⟩, ?_⟩ | refine br_t rfl ?_ | refine br_f rfl ?_ | refine ⟨by decide, ?_⟩ | refine ⟨Nat.le_of_ble_eq_true rfl, ?_⟩ | refine ⟨_, (rfl : @L2.atI LV _ _ = some _), ?_⟩ | refine ⟨(show (0 : Int) < _ from by decide), ?_⟩ | refine ⟨⟨by decide, by decide⟩, ?_⟩ | refine ⟨.inl ⟨by decide, by decide⟩, ?_⟩ | refine ⟨.inr ⟨by decide, by decide⟩, ?_⟩)); (conv => whnf)
      refine ⟨by omega, by omega, fun w' z0 z1 => ?_⟩
      obtain ⟨w, rfl⟩ := natz z0
      
      have z1 : (w : Int) < (v : Int) := z1
      (repeat ((conv => whnf); first | refine ⟨rfl, ?_⟩ | refine ⟨⟨rfl, rfl⟩, ?_⟩ | refine ⟨⟨rfl, rfl, rfl⟩, ?_⟩ | refine br_t rfl ?_ | refine br_f rfl ?_ | refine ⟨by decide, ?_⟩ | refine ⟨Nat.le_of_ble_eq_true rfl, ?_⟩ | refine ⟨_, (rfl : @L2.atI LV _ _ = some _), ?_⟩ | refine ⟨(show (0 : Int) < _ from by decide), ?_⟩ | refine ⟨⟨by decide, by decide⟩, ?_⟩ | refine ⟨.inl ⟨by decide, by decide⟩, ?_⟩ | refine ⟨.inr ⟨by decide, by decide⟩, ?_⟩)); (conv => whnf)
      refine ⟨np h5, ?_⟩
      (repeat ((conv => whnf); first | refine ⟨rfl, ?_⟩ | refine ⟨⟨rfl, rfl⟩, ?_⟩ | refine ⟨⟨rfl, rfl, rfl⟩, ?_⟩ | refine br_t rfl ?_ | refine br_f rfl ?_ | refine ⟨by decide, ?_⟩ | refine ⟨Nat.le_of_ble_eq_true rfl, ?_⟩ | refine ⟨_, (rfl : @L2.atI LV _ _ = some _), ?_⟩ | refine ⟨(show (0 : Int) < _ from by decide), ?_⟩ | refine ⟨⟨by decide, by decide⟩, ?_⟩ | refine ⟨.inl ⟨by decide, by decide⟩, ?_⟩ | refine ⟨.inr ⟨by decide, by decide⟩, ?_⟩)); (conv => whnf)
      intro b' z0 z2
      obtain ⟨b, rfl⟩ := natz z0
      
      have z2 : (b : Int) < 2 := z2
      have mem : ∀ x : Int, (x ≠ 0 ∧ x.natAbs ≤ 4) → ∀ t ∈ c ++ [x], t ≠ 0 ∧ t.natAbs ≤ 4 := fun x hx t ht => by
        rcases List.mem_append.mp ht with ht | ht
        · exact hct t ht
        · rw [List.mem_singleton.mp ht]
          exact hx
      have b01 := b2 (show b < 2 by omega)
      rcases b01 with rfl | rfl
      · (repeat ((conv => whnf); first | refine ⟨rfl, ?_⟩ | refine ⟨⟨rfl, rfl⟩, ?_⟩ | refine ⟨⟨rfl, rfl, rfl⟩, ?_⟩ | refine br_t rfl ?_ | refine br_f rfl ?_ | refine ⟨by decide, ?_⟩ | refine ⟨Nat.le_of_ble_eq_true rfl, ?_⟩ | refine ⟨_, (rfl : @L2.atI LV _ _ = some _), ?_⟩ | refine ⟨(show (0 : Int) < _ from by decide), ?_⟩ | refine ⟨⟨by decide, by decide⟩, ?_⟩ | refine ⟨.inl ⟨by decide, by decide⟩, ?_⟩ | refine ⟨.inr ⟨by decide, by decide⟩, ?_⟩)); (conv => whnf)
        refine ⟨by rw [ilv_len]; omega, ?_⟩
        exact ⟨_, _, _, by rw [← ilv_app]; rfl, rfl, rfl, by rw [List.length_append, hc]; rfl, mem (1 + (w : Int)) ⟨by omega, by omega⟩⟩
      · (repeat ((conv => whnf); first | refine ⟨rfl, ?_⟩ | refine ⟨⟨rfl, rfl⟩, ?_⟩ | refine ⟨⟨rfl, rfl, rfl⟩, ?_⟩ | refine br_t rfl ?_ | refine br_f rfl ?_ | refine ⟨by decide, ?_⟩ | refine ⟨Nat.le_of_ble_eq_true rfl, ?_⟩ | refine ⟨_, (rfl : @L2.atI LV _ _ = some _), ?_⟩ | refine ⟨(show (0 : Int) < _ from by decide), ?_⟩ | refine ⟨⟨by decide, by decide⟩, ?_⟩ | refine ⟨.inl ⟨by decide, by decide⟩, ?_⟩ | refine ⟨.inr ⟨by decide, by decide⟩, ?_⟩)); (conv => whnf)
        refine ⟨by rw [ilv_len]; omega, ?_⟩
        exact ⟨_, _, _, by rw [← ilv_app]; rfl, rfl, rfl, by rw [List.length_append, hc]; rfl, mem (-(1 + (w : Int))) ⟨by omega, by omega⟩⟩
    · rintro Λ ⟨c, e4, e5, rfl, h4, h5, hc, hct⟩
      rw [rngL_len, toN] at hc
      (repeat ((conv => whnf); first | refine ⟨rfl, ?_⟩ | refine ⟨⟨rfl, rfl⟩, ?_⟩ | refine ⟨⟨rfl, rfl, rfl⟩, ?_⟩ | refine br_t rfl ?_ | refine br_f rfl ?_ | refine ⟨by decide, ?_⟩ | refine ⟨Nat.le_of_ble_eq_true rfl, ?_⟩ | refine ⟨_, (rfl : @L2.atI LV _ _ = some _), ?_⟩ | refine ⟨(show (0 : Int) < _ from by decide), ?_⟩ | refine ⟨⟨by decide, by decide⟩, ?_⟩ | refine ⟨.inl ⟨by decide, by decide⟩, ?_⟩ | refine ⟨.inr ⟨by decide, by decide⟩, ?_⟩)); (conv => whnf)
      exact hk c (by omega) hct
  · exact h.elim

abbrev sp_check_step : FSp := fun es k => match es with
  | [.v (.lst cs_), .v (.tup c_), .v (.lst hs_)] => ∃ (cs : List (List Int)) (c hs : List Int), cs_ = clv cs ∧ c_ = ilv c ∧ hs_ = ilv hs ∧ (∀ c ∈ cs, c.length ≤ 3 ∧ ∀ t ∈ c, t ≠ 0 ∧ t.natAbs ≤ 4) ∧ c.length ≤ 3 ∧ hs.length ≤ 1000 ∧ k (.ok (.bl (stpF cs (ngl c) hs)) es)
  | _ => False
def ls_check_step : LS := (lSeq (lSetDc 3 (lItT (lVar 1)) (lgName 4) lYes (lUn fNeg (lVar 4)) (lC (.bl true)) [4])
      (lSeq (lFor (lItL (lVar 2)) (lgName 5)
      (lSeq (lIf (lNot (lTest (lChain fLe fLt (lC (.int 0)) (lVar 5) (lCB fLen (lCons (lVar 0) lNil)))))
      (lRet (lC (.bl false))) lNext)
      (lSeq (lSet 6 (lNew (lLc (lItT (lOp fIxL (lVar 0) (lVar 5))) (lgName 4) (lTest (lDIn true dkK 3 (lUn fNeg (lVar 4)))) (lVar 4) [4])))
      (lSeq (lIf (lNot (lTru (lVar 6)))
      (lRet (lC (.bl true))) lNext)
      (lSeq (lIf (lTest (lOp fGt (lLenSet (lVar 6)) (lC (.int 1))))
      (lRet (lC (.bl false))) lNext)
      (lDSet dkK 3 (lOp fIxL (lVar 6) (lC (.int 0))) (lC (.bl true))))))))
      (lRet (lC (.bl false)))))
theorem lg_check_step : ∀ es k, es.length = 3 → sp_check_step es k → ls_check_step (es ++ List.replicate 4 .no) (outK es k) := by
  intro es k hl h
  unfold sp_check_step at h
  split at h
  · obtain ⟨cs, c, hs, rfl, rfl, rfl, hcs, hc, hh, hk⟩ := h
    generalize hR : stpF cs (ngl c) hs = R at hk
    (repeat ((conv => whnf); first | refine ⟨rfl, ?_⟩ | refine ⟨⟨rfl, rfl⟩, ?_⟩ | refine ⟨⟨rfl, rfl, rfl⟩, ?_⟩ | refine br_t rfl ?_ | refine br_f rfl ?_ | refine ⟨by decide, ?_⟩ | refine ⟨Nat.le_of_ble_eq_true rfl, ?_⟩ | refine ⟨_, (rfl : @L2.atI LV _ _ = some _), ?_⟩ | refine ⟨(show (0 : Int) < _ from by decide), ?_⟩ | refine ⟨⟨by decide, by decide⟩, ?_⟩ | refine ⟨.inl ⟨by decide, by decide⟩, ?_⟩ | refine ⟨.inr ⟨by decide, by decide⟩, ?_⟩)); (conv => whnf)
    refine ⟨fun i acc Λ => Λ = [.v (.lst (clv cs)), .v (.tup (ilv c)), .v (.lst (ilv hs)), .no, .no, .no, .no] ∧ acc.length ≤ i ∧ ∀ t, hasK acc (.inl t) = (ngl (c.take i)).contains t, ⟨rfl, Nat.le_refl _, fun t => rfl⟩, ?_, ?_⟩
    · rintro i y acc Λ hy ⟨rfl, hal, hac⟩
      obtain ⟨t, ht, rfl⟩ := ilv_get hy
      have hi := (List.getElem?_eq_some_iff.mp ht).1
      (repeat ((conv => whnf); first | refine ⟨rfl, ?_⟩ | refine ⟨⟨rfl, rfl⟩, ?_⟩ | refine ⟨⟨rfl, rfl, rfl⟩, ?_⟩ | refine br_t rfl ?_ | refine br_f rfl ?_ | refine ⟨by decide, ?_⟩ | refine ⟨Nat.le_of_ble_eq_true rfl, ?_⟩ | refine ⟨_, (rfl : @L2.atI LV _ _ = some _), ?_⟩ | refine ⟨(show (0 : Int) < _ from by decide), ?_⟩ | refine ⟨⟨by decide, by decide⟩, ?_⟩ | refine ⟨.inl ⟨by decide, by decide⟩, ?_⟩ | refine ⟨.inr ⟨by decide, by decide⟩, ?_⟩)); (conv => whnf)
      refine ⟨_, rfl, by omega, rfl, Nat.le_trans (pt_len _ _ _) (by omega), fun u => ?_⟩
      rw [has_pt, hac, take_si ht, ngl_sn]
      exact cont_sn _ _ _
    rintro acc Λ ⟨rfl, hal, hac⟩
    rw [ilv_len, List.take_length] at hac
    rw [ilv_len] at hal
    (repeat ((conv => whnf); first | refine ⟨rfl, ?_⟩ | refine ⟨⟨rfl, rfl⟩, ?_⟩ | refine ⟨⟨rfl, rfl, rfl⟩, ?_⟩ | refine br_t rfl ?_ | refine br_f rfl ?_ | refine ⟨by decide, ?_⟩ | refine ⟨Nat.le_of_ble_eq_true rfl, ?_⟩ | refine ⟨_, (rfl : @L2.atI LV _ _ = some _), ?_⟩ | refine ⟨(show (0 : Int) < _ from by decide), ?_⟩ | refine ⟨⟨by decide, by decide⟩, ?_⟩ | refine ⟨.inl ⟨by decide, by decide⟩, ?_⟩ | refine ⟨.inr ⟨by decide, by decide⟩, ?_⟩)); (conv => whnf)
    refine ⟨fun i Λ => ∃ (A : List Int) (kvs : List (Key × LV)) (e5 e6 : Ent), Λ = [.v (.lst (clv cs)), .v (.tup (ilv c)), .v (.lst (ilv hs)), .x (dO dkK false kvs), .no, e5, e6] ∧ e5.pin = false ∧ e6.pin = false ∧ (∀ t, hasK kvs (.inl t) = A.contains t) ∧ kvs.length ≤ 3 + i ∧ stpF cs A (hs.drop i) = R, ⟨ngl c, acc, _, _, rfl, rfl, rfl, hac, by omega, hR⟩, ?_, ?_⟩
    · rintro i y Λ hy ⟨A, kvs, e5, e6, rfl, h5, h6, hA, hkl, hst⟩
      obtain ⟨g, hg, rfl⟩ := ilv_get hy
      have hi := (List.getElem?_eq_some_iff.mp hg).1
      rw [drop_at hg] at hst
      unfold stpF at hst
      conv => whnf
      refine ⟨np h5, ?_⟩
      (repeat ((conv => whnf); first | refine ⟨rfl, ?_⟩ | refine ⟨⟨rfl, rfl⟩, ?_⟩ | refine ⟨⟨rfl, rfl, rfl⟩, ?_⟩ | refine br_t rfl ?_ | refine br_f rfl ?_ | refine ⟨by decide, ?_⟩ | refine ⟨Nat.le_of_ble_eq_true rfl, ?_⟩ | refine ⟨_, (rfl : @L2.atI LV _ _ = some _), ?_⟩ | refine ⟨(show (0 : Int) < _ from by decide), ?_⟩ | refine ⟨⟨by decide, by decide⟩, ?_⟩ | refine ⟨.inl ⟨by decide, by decide⟩, ?_⟩ | refine ⟨.inr ⟨by decide, by decide⟩, ?_⟩)); (conv => whnf)
      refine br_c (fun z => ?_) (fun z => ?_)
      · (repeat ((conv => whnf); first | refine ⟨rfl, ?_⟩ | refine ⟨⟨rfl, rfl⟩, ?_⟩ | refine ⟨⟨rfl, rfl, rfl⟩, ?_⟩ | refine br_t rfl ?_ | refine br_f rfl ?_ | refine ⟨by decide, ?_⟩ | refine ⟨Nat.le_of_ble_eq_true rfl, ?_⟩ | refine ⟨_, (rfl : @L2.atI LV _ _ = some _), ?_⟩ | refine ⟨(show (0 : Int) < _ from by decide), ?_⟩ | refine ⟨⟨by decide, by decide⟩, ?_⟩ | refine ⟨.inl ⟨by decide, by decide⟩, ?_⟩ | refine ⟨.inr ⟨by decide, by decide⟩, ?_⟩)); (conv => whnf)
        rw [clv_len]
        by_cases hlt : g < cs.length
        · rw [if_pos ⟨z, hlt⟩] at hst
          refine br_f (by rw [decide_eq_true hlt]; rfl) ?_
          have hm : cs.getD g.toNat [] ∈ cs := by
            rw [List.getD_eq_getElem?_getD, List.getElem?_eq_getElem (by omega)]
            exact List.getElem_mem _
          have hat := clv_at z hlt
          generalize cs.getD g.toNat [] = C at hst hm hat
          obtain ⟨hC, _⟩ := hcs C hm
          have ol := opn_len A C
          (repeat ((conv => whnf); first | refine ⟨rfl, ?_⟩ | refine ⟨⟨rfl, rfl⟩, ?_⟩ | refine ⟨⟨rfl, rfl, rfl⟩, ?_⟩ | refine br_t rfl ?_ | refine br_f rfl ?_ | refine ⟨by decide, ?_⟩ | refine ⟨Nat.le_of_ble_eq_true rfl, ?_⟩ | refine ⟨_, (rfl : @L2.atI LV _ _ = some _), ?_⟩ | refine ⟨(show (0 : Int) < _ from by decide), ?_⟩ | refine ⟨⟨by decide, by decide⟩, ?_⟩ | refine ⟨.inl ⟨by decide, by decide⟩, ?_⟩ | refine ⟨.inr ⟨by decide, by decide⟩, ?_⟩)); (conv => whnf)
          refine ⟨_, hat, ?_⟩
          (repeat ((conv => whnf); first | refine ⟨rfl, ?_⟩ | refine ⟨⟨rfl, rfl⟩, ?_⟩ | refine ⟨⟨rfl, rfl, rfl⟩, ?_⟩ | refine br_t rfl ?_ | refine br_f rfl ?_ | refine ⟨by decide, ?_⟩ | refine ⟨Nat.le_of_ble_eq_true rfl, ?_⟩ | refine ⟨_, (rfl : @L2.atI LV _ _ = some _), ?_⟩ | refine ⟨(show (0 : Int) < _ from by decide), ?_⟩ | refine ⟨⟨by decide, by decide⟩, ?_⟩ | refine ⟨.inl ⟨by decide, by decide⟩, ?_⟩ | refine ⟨.inr ⟨by decide, by decide⟩, ?_⟩)); (conv => whnf)
          refine ⟨fun j acc Λ => Λ = [.v (.lst (clv cs)), .v (.tup (ilv c)), .v (.lst (ilv hs)), .x (dO dkK false kvs), .no, .v (.int g), e6] ∧ acc = ilv (opn A (C.take j)), ⟨rfl, rfl⟩, ?_, ?_⟩
          · rintro j y acc Λ hy ⟨rfl, rfl⟩
            obtain ⟨t, ht, rfl⟩ := ilv_get hy
            have hj := (List.getElem?_eq_some_iff.mp ht).1
            have ol2 := opn_len A (C.take j)
            rw [List.length_take] at ol2
            (repeat ((conv => whnf); first | refine ⟨rfl, ?_⟩ | refine ⟨⟨rfl, rfl⟩, ?_⟩ | refine ⟨⟨rfl, rfl, rfl⟩, ?_⟩ | refine br_t rfl ?_ | refine br_f rfl ?_ | refine ⟨by decide, ?_⟩ | refine ⟨Nat.le_of_ble_eq_true rfl, ?_⟩ | refine ⟨_, (rfl : @L2.atI LV _ _ = some _), ?_⟩ | refine ⟨(show (0 : Int) < _ from by decide), ?_⟩ | refine ⟨⟨by decide, by decide⟩, ?_⟩ | refine ⟨.inl ⟨by decide, by decide⟩, ?_⟩ | refine ⟨.inr ⟨by decide, by decide⟩, ?_⟩)); (conv => whnf)
            refine ⟨_, rfl, _, _, rfl, ?_⟩
            (repeat ((conv => whnf); first | refine ⟨rfl, ?_⟩ | refine ⟨⟨rfl, rfl⟩, ?_⟩ | refine ⟨⟨rfl, rfl, rfl⟩, ?_⟩ | refine br_t rfl ?_ | refine br_f rfl ?_ | refine ⟨by decide, ?_⟩ | refine ⟨Nat.le_of_ble_eq_true rfl, ?_⟩ | refine ⟨_, (rfl : @L2.atI LV _ _ = some _), ?_⟩ | refine ⟨(show (0 : Int) < _ from by decide), ?_⟩ | refine ⟨⟨by decide, by decide⟩, ?_⟩ | refine ⟨.inl ⟨by decide, by decide⟩, ?_⟩ | refine ⟨.inr ⟨by decide, by decide⟩, ?_⟩)); (conv => whnf)
            rw [lk_has, hA]
            have sn := opn_sn A (C.take j) t
            rw [← take_si ht] at sn
            refine ⟨fun w => ?_, fun w => ?_⟩
            · rw [if_neg (by intro w2; rw [w2] at w; cases w)] at sn
              (repeat ((conv => whnf); first | refine ⟨rfl, ?_⟩ | refine ⟨⟨rfl, rfl⟩, ?_⟩ | refine ⟨⟨rfl, rfl, rfl⟩, ?_⟩ | refine br_t rfl ?_ | refine br_f rfl ?_ | refine ⟨by decide, ?_⟩ | refine ⟨Nat.le_of_ble_eq_true rfl, ?_⟩ | refine ⟨_, (rfl : @L2.atI LV _ _ = some _), ?_⟩ | refine ⟨(show (0 : Int) < _ from by decide), ?_⟩ | refine ⟨⟨by decide, by decide⟩, ?_⟩ | refine ⟨.inl ⟨by decide, by decide⟩, ?_⟩ | refine ⟨.inr ⟨by decide, by decide⟩, ?_⟩)); (conv => whnf)
              exact ⟨by rw [ilv_len]; omega, rfl, by rw [sn, ← ilv_app]⟩
            · rw [if_pos (by cases e : A.contains (-t) with | true => rfl | false => rw [e] at w; cases w)] at sn
              (repeat ((conv => whnf); first | refine ⟨rfl, ?_⟩ | refine ⟨⟨rfl, rfl⟩, ?_⟩ | refine ⟨⟨rfl, rfl, rfl⟩, ?_⟩ | refine br_t rfl ?_ | refine br_f rfl ?_ | refine ⟨by decide, ?_⟩ | refine ⟨Nat.le_of_ble_eq_true rfl, ?_⟩ | refine ⟨_, (rfl : @L2.atI LV _ _ = some _), ?_⟩ | refine ⟨(show (0 : Int) < _ from by decide), ?_⟩ | refine ⟨⟨by decide, by decide⟩, ?_⟩ | refine ⟨.inl ⟨by decide, by decide⟩, ?_⟩ | refine ⟨.inr ⟨by decide, by decide⟩, ?_⟩)); (conv => whnf)
              rw [sn]
          rintro acc Λ ⟨rfl, rfl⟩
          rw [ilv_len, List.take_length]
          (repeat ((conv => whnf); first | refine ⟨rfl, ?_⟩ | refine ⟨⟨rfl, rfl⟩, ?_⟩ | refine ⟨⟨rfl, rfl, rfl⟩, ?_⟩ | refine br_t rfl ?_ | refine br_f rfl ?_ | refine ⟨by decide, ?_⟩ | refine ⟨Nat.le_of_ble_eq_true rfl, ?_⟩ | refine ⟨_, (rfl : @L2.atI LV _ _ = some _), ?_⟩ | refine ⟨(show (0 : Int) < _ from by decide), ?_⟩ | refine ⟨⟨by decide, by decide⟩, ?_⟩ | refine ⟨.inl ⟨by decide, by decide⟩, ?_⟩ | refine ⟨.inr ⟨by decide, by decide⟩, ?_⟩)); (conv => whnf)
          refine ⟨np h6, ?_⟩
          generalize opn A C = o at hst ol
          by_cases ho : o = []
          · rw [if_pos ho] at hst
            rw [← hst] at hk
            subst ho
            (repeat ((conv => whnf); first | refine ⟨rfl, ?_⟩ | refine ⟨⟨rfl, rfl⟩, ?_⟩ | refine ⟨⟨rfl, rfl, rfl⟩, ?_⟩ | refine br_t rfl ?_ | refine br_f rfl ?_ | refine ⟨by decide, ?_⟩ | refine ⟨Nat.le_of_ble_eq_true rfl, ?_⟩ | refine ⟨_, (rfl : @L2.atI LV _ _ = some _), ?_⟩ | refine ⟨(show (0 : Int) < _ from by decide), ?_⟩ | refine ⟨⟨by decide, by decide⟩, ?_⟩ | refine ⟨.inl ⟨by decide, by decide⟩, ?_⟩ | refine ⟨.inr ⟨by decide, by decide⟩, ?_⟩)); (conv => whnf)
            exact hk
          · rw [if_neg ho] at hst
            (repeat ((conv => whnf); first | refine ⟨rfl, ?_⟩ | refine ⟨⟨rfl, rfl⟩, ?_⟩ | refine ⟨⟨rfl, rfl, rfl⟩, ?_⟩ | refine br_t rfl ?_ | refine br_f rfl ?_ | refine ⟨by decide, ?_⟩ | refine ⟨Nat.le_of_ble_eq_true rfl, ?_⟩ | refine ⟨_, (rfl : @L2.atI LV _ _ = some _), ?_⟩ | refine ⟨(show (0 : Int) < _ from by decide), ?_⟩ | refine ⟨⟨by decide, by decide⟩, ?_⟩ | refine ⟨.inl ⟨by decide, by decide⟩, ?_⟩ | refine ⟨.inr ⟨by decide, by decide⟩, ?_⟩)); (conv => whnf)
            refine br_f (by rw [emp_ilv ho]; rfl) ?_
            (repeat ((conv => whnf); first | refine ⟨rfl, ?_⟩ | refine ⟨⟨rfl, rfl⟩, ?_⟩ | refine ⟨⟨rfl, rfl, rfl⟩, ?_⟩ | refine br_t rfl ?_ | refine br_f rfl ?_ | refine ⟨by decide, ?_⟩ | refine ⟨Nat.le_of_ble_eq_true rfl, ?_⟩ | refine ⟨_, (rfl : @L2.atI LV _ _ = some _), ?_⟩ | refine ⟨(show (0 : Int) < _ from by decide), ?_⟩ | refine ⟨⟨by decide, by decide⟩, ?_⟩ | refine ⟨.inl ⟨by decide, by decide⟩, ?_⟩ | refine ⟨.inr ⟨by decide, by decide⟩, ?_⟩)); (conv => whnf)
            refine ⟨o, rfl, by omega, ?_⟩
            (repeat ((conv => whnf); first | refine ⟨rfl, ?_⟩ | refine ⟨⟨rfl, rfl⟩, ?_⟩ | refine ⟨⟨rfl, rfl, rfl⟩, ?_⟩ | refine br_t rfl ?_ | refine br_f rfl ?_ | refine ⟨by decide, ?_⟩ | refine ⟨Nat.le_of_ble_eq_true rfl, ?_⟩ | refine ⟨_, (rfl : @L2.atI LV _ _ = some _), ?_⟩ | refine ⟨(show (0 : Int) < _ from by decide), ?_⟩ | refine ⟨⟨by decide, by decide⟩, ?_⟩ | refine ⟨.inl ⟨by decide, by decide⟩, ?_⟩ | refine ⟨.inr ⟨by decide, by decide⟩, ?_⟩)); (conv => whnf)
            refine br_c (fun w => ?_) (fun w => ?_)
            · rw [if_pos (by omega)] at hst
              rw [← hst] at hk
              (repeat ((conv => whnf); first | refine ⟨rfl, ?_⟩ | refine ⟨⟨rfl, rfl⟩, ?_⟩ | refine ⟨⟨rfl, rfl, rfl⟩, ?_⟩ | refine br_t rfl ?_ | refine br_f rfl ?_ | refine ⟨by decide, ?_⟩ | refine ⟨Nat.le_of_ble_eq_true rfl, ?_⟩ | refine ⟨_, (rfl : @L2.atI LV _ _ = some _), ?_⟩ | refine ⟨(show (0 : Int) < _ from by decide), ?_⟩ | refine ⟨⟨by decide, by decide⟩, ?_⟩ | refine ⟨.inl ⟨by decide, by decide⟩, ?_⟩ | refine ⟨.inr ⟨by decide, by decide⟩, ?_⟩)); (conv => whnf)
              exact hk
            · rw [if_neg (by omega)] at hst
              (repeat ((conv => whnf); first | refine ⟨rfl, ?_⟩ | refine ⟨⟨rfl, rfl⟩, ?_⟩ | refine ⟨⟨rfl, rfl, rfl⟩, ?_⟩ | refine br_t rfl ?_ | refine br_f rfl ?_ | refine ⟨by decide, ?_⟩ | refine ⟨Nat.le_of_ble_eq_true rfl, ?_⟩ | refine ⟨_, (rfl : @L2.atI LV _ _ = some _), ?_⟩ | refine ⟨(show (0 : Int) < _ from by decide), ?_⟩ | refine ⟨⟨by decide, by decide⟩, ?_⟩ | refine ⟨.inl ⟨by decide, by decide⟩, ?_⟩ | refine ⟨.inr ⟨by decide, by decide⟩, ?_⟩)); (conv => whnf)
              refine ⟨_, ilv_at0 ho, ?_⟩
              (repeat ((conv => whnf); first | refine ⟨rfl, ?_⟩ | refine ⟨⟨rfl, rfl⟩, ?_⟩ | refine ⟨⟨rfl, rfl, rfl⟩, ?_⟩ | refine br_t rfl ?_ | refine br_f rfl ?_ | refine ⟨by decide, ?_⟩ | refine ⟨Nat.le_of_ble_eq_true rfl, ?_⟩ | refine ⟨_, (rfl : @L2.atI LV _ _ = some _), ?_⟩ | refine ⟨(show (0 : Int) < _ from by decide), ?_⟩ | refine ⟨⟨by decide, by decide⟩, ?_⟩ | refine ⟨.inl ⟨by decide, by decide⟩, ?_⟩ | refine ⟨.inr ⟨by decide, by decide⟩, ?_⟩)); (conv => whnf)
              refine ⟨_, rfl, _, _, rfl, by omega, ?_⟩
              (repeat ((conv => whnf); first | refine ⟨rfl, ?_⟩ | refine ⟨⟨rfl, rfl⟩, ?_⟩ | refine ⟨⟨rfl, rfl, rfl⟩, ?_⟩ | refine br_t rfl ?_ | refine br_f rfl ?_ | refine ⟨by decide, ?_⟩ | refine ⟨Nat.le_of_ble_eq_true rfl, ?_⟩ | refine ⟨_, (rfl : @L2.atI LV _ _ = some _), ?_⟩ | refine ⟨(show (0 : Int) < _ from by decide), ?_⟩ | refine ⟨⟨by decide, by decide⟩, ?_⟩ | refine ⟨.inl ⟨by decide, by decide⟩, ?_⟩ | refine ⟨.inr ⟨by decide, by decide⟩, ?_⟩)); (conv => whnf)
              exact ⟨_, _, _, _, rfl, rfl, rfl, fun u => by rw [has_pt, hA]; exact cont_sn _ _ _, Nat.le_trans (pt_len _ _ _) (by omega), hst⟩
        · rw [if_neg fun w => hlt w.2] at hst
          rw [← hst] at hk
          refine br_t (by rw [decide_eq_false hlt]; rfl) ?_
          (repeat ((conv => whnf); first | refine ⟨rfl, ?_⟩ | refine ⟨⟨rfl, rfl⟩, ?_⟩ | refine ⟨⟨rfl, rfl, rfl⟩, ?_⟩ | refine br_t rfl ?_ | refine br_f rfl ?_ | refine ⟨by decide, ?_⟩ | refine ⟨Nat.le_of_ble_eq_true rfl, ?_⟩ | refine ⟨_, (rfl : @L2.atI LV _ _ = some _), ?_⟩ | refine ⟨(show (0 : Int) < _ from by decide), ?_⟩ | refine ⟨⟨by decide, by decide⟩, ?_⟩ | refine ⟨.inl ⟨by decide, by decide⟩, ?_⟩ | refine ⟨.inr ⟨by decide, by decide⟩, ?_⟩)); (conv => whnf)
          exact hk
      · rw [if_neg (by omega)] at hst
        rw [← hst] at hk
        (repeat ((conv => whnf); first | refine ⟨rfl, ?_⟩ | refine ⟨⟨rfl, rfl⟩, ?_⟩ | refine ⟨⟨rfl, rfl, rfl⟩, ?_⟩ | refine br_t rfl ?_ | refine br_f rfl ?_ | refine ⟨by decide, ?_⟩ | refine ⟨Nat.le_of_ble_eq_true rfl, ?_⟩ | refine ⟨_, (rfl : @L2.atI LV _ _ = some _), ?_⟩ | refine ⟨(show (0 : Int) < _ from by decide), ?_⟩ | refine ⟨⟨by decide, by decide⟩, ?_⟩ | refine ⟨.inl ⟨by decide, by decide⟩, ?_⟩ | refine ⟨.inr ⟨by decide, by decide⟩, ?_⟩)); (conv => whnf)
        exact hk
    · rintro Λ ⟨A, kvs, e5, e6, rfl, h5, h6, hA, hkl, hst⟩
      rw [ilv_len, List.drop_length] at hst
      rw [← hst] at hk
      (repeat ((conv => whnf); first | refine ⟨rfl, ?_⟩ | refine ⟨⟨rfl, rfl⟩, ?_⟩ | refine ⟨⟨rfl, rfl, rfl⟩, ?_⟩ | refine br_t rfl ?_ | refine br_f rfl ?_ | refine ⟨by decide, ?_⟩ | refine ⟨Nat.le_of_ble_eq_true rfl, ?_⟩ | refine ⟨_, (rfl : @L2.atI LV _ _ = some _), ?_⟩ | refine ⟨(show (0 : Int) < _ from by decide), ?_⟩ | refine ⟨⟨by decide, by decide⟩, ?_⟩ | refine ⟨.inl ⟨by decide, by decide⟩, ?_⟩ | refine ⟨.inr ⟨by decide, by decide⟩, ?_⟩)); (conv => whnf)
      exact hk
  · exact h.elim

abbrev sp_law_good_hints : FSpO := fun es k => match es with
  | [.v (.lst cs_), .v (.tup c_)] => ∃ (cs : List (List Int)) (c : List Int), cs_ = clv cs ∧ c_ = ilv c ∧ cs.length ≤ 9 ∧ (∀ c ∈ cs, c.length ≤ 3 ∧ ∀ t ∈ c, t ≠ 0 ∧ t.natAbs ≤ 4) ∧ c.length ≤ 3 ∧ (∀ t ∈ c, t.natAbs ≤ 4) ∧ ∀ hs : List Int, hs.length ≤ 100 → (∀ h ∈ hs, 0 ≤ h ∧ h < (cs.length : Int)) → k (.l (ilv hs)) [.v (.lst cs_), .v (.tup c_)]
  | _ => False
def ls_law_good_hints : LS := (lSeq (lSetL 2 (lLc (lItT (lVar 1)) (lgName 3) lYes (lUn fNeg (lVar 3)) [3]))
      (lSeq (lSetL 4 (lLst lNil))
      (lSeq (lFor (lRng1 (lCons (lC (.int 9)) lNil)) (lgName 5)
      (lFor (lRng1 (lCons (lCB fLen (lCons (lVar 0) lNil)) lNil)) (lgName 6)
      (lSeq (lSet 7 (lNew (lLc (lItT (lOp fIxL (lVar 0) (lVar 6))) (lgName 3) (lTest (lInO true 2 (lUn fNeg (lVar 3)))) (lVar 3) [3])))
      (lSeq (lIf (lTest (lOp (fEq false) (lCB fLen (lCons (lVar 7) lNil)) (lC (.int 0))))
      (lRetN (lCat (lVar 4) (lNew (lLst (lCons (lVar 6) lNil))))) lNext)
      (lIf (lAnd (lTest (lOp (fEq false) (lCB fLen (lCons (lVar 7) lNil)) (lC (.int 1)))) (lTest (lInO true 2 (lOp fIxL (lVar 7) (lC (.int 0))))))
      (lSeq (lApp 2 (lOp fIxL (lVar 7) (lC (.int 0))))
      (lApp 4 (lVar 6))) lNext)))))
      (lRetO 4))))
theorem lg_law_good_hints : ∀ es k, es.length = 2 → sp_law_good_hints es k → ls_law_good_hints (es ++ List.replicate 6 .no) (outW es k) := by
  intro es k hl h
  unfold sp_law_good_hints at h
  split at h
  · obtain ⟨cs, c, rfl, rfl, hl9, hcs, hc, hc4, hk⟩ := h
    (repeat ((conv => whnf); first | refine ⟨rfl, ?_⟩ | refine ⟨⟨rfl, rfl⟩, ?_⟩ | refine ⟨⟨rfl, rfl, rfl⟩, ?_⟩ | refine br_t rfl ?_ | refine br_f rfl ?_ | refine ⟨by decide, ?_⟩ | refine ⟨Nat.le_of_ble_eq_true rfl, ?_⟩ | refine ⟨_, (rfl : @L2.atI LV _ _ = some _), ?_⟩ | refine ⟨(show (0 : Int) < _ from by decide), ?_⟩ | refine ⟨⟨by decide, by decide⟩, ?_⟩ | refine ⟨.inl ⟨by decide, by decide⟩, ?_⟩ | refine ⟨.inr ⟨by decide, by decide⟩, ?_⟩)); (conv => whnf)
    refine ⟨fun i acc Λ => Λ = [.v (.lst (clv cs)), .v (.tup (ilv c)), .no, .no, .no, .no, .no, .no] ∧ acc = ilv (ngl (c.take i)), ⟨rfl, rfl⟩, ?_, ?_⟩
    · rintro i y acc Λ hy ⟨rfl, rfl⟩
      obtain ⟨t, ht, rfl⟩ := ilv_get hy
      have hi := (List.getElem?_eq_some_iff.mp ht).1
      (repeat ((conv => whnf); first | refine ⟨rfl, ?_⟩ | refine ⟨⟨rfl, rfl⟩, ?_⟩ | refine ⟨⟨rfl, rfl, rfl⟩, ?_⟩ | refine br_t rfl ?_ | refine br_f rfl ?_ | refine ⟨by decide, ?_⟩ | refine ⟨Nat.le_of_ble_eq_true rfl, ?_⟩ | refine ⟨_, (rfl : @L2.atI LV _ _ = some _), ?_⟩ | refine ⟨(show (0 : Int) < _ from by decide), ?_⟩ | refine ⟨⟨by decide, by decide⟩, ?_⟩ | refine ⟨.inl ⟨by decide, by decide⟩, ?_⟩ | refine ⟨.inr ⟨by decide, by decide⟩, ?_⟩)); (conv => whnf)
      refine ⟨by rw [ilv_len]; unfold ngl; rw [List.length_map, List.length_take]; omega, rfl, ?_⟩
      rw [take_si ht, ngl_sn, ← ilv_app]
    rintro acc Λ ⟨rfl, rfl⟩
    rw [ilv_len, List.take_length]
    (repeat ((conv => whnf); first | refine ⟨rfl, ?_⟩ | refine ⟨⟨rfl, rfl⟩, ?_⟩ | refine ⟨⟨rfl, rfl, rfl⟩, ?_⟩ | refine br_t rfl ?_ | refine br_f rfl ?_ | refine ⟨by decide, ?_⟩ | refine ⟨Nat.le_of_ble_eq_true rfl, ?_⟩ | refine ⟨_, (rfl : @L2.atI LV _ _ = some _), ?_⟩ | refine ⟨(show (0 : Int) < _ from by decide), ?_⟩ | refine ⟨⟨by decide, by decide⟩, ?_⟩ | refine ⟨.inl ⟨by decide, by decide⟩, ?_⟩ | refine ⟨.inr ⟨by decide, by decide⟩, ?_⟩)); (conv => whnf)
    refine ⟨fun i Λ => ∃ (A hs : List Int) (e5 e6 e7 : Ent), Λ = [.v (.lst (clv cs)), .v (.tup (ilv c)), .l (ilv A), .no, .l (ilv hs), e5, e6, e7] ∧ e5.pin = false ∧ e6.pin = false ∧ e7.pin = false ∧ A.length ≤ 3 + 9 * i ∧ hs.length ≤ 9 * i ∧ (∀ t ∈ A, t.natAbs ≤ 4) ∧ (∀ h ∈ hs, 0 ≤ h ∧ h < (cs.length : Int)), ⟨ngl c, [], _, _, _, rfl, rfl, rfl, rfl, by unfold ngl; rw [List.length_map]; omega, Nat.le_refl _, fun t ht => (by unfold ngl at ht; obtain ⟨u, hu, rfl⟩ := List.mem_map.mp ht; rw [Int.natAbs_neg]; exact hc4 u hu), fun h hh => (by cases hh)⟩, ?_, ?_⟩
    · rintro i y Λ hy ⟨A, hs, e5, e6, e7, rfl, h5, h6, h7, hAl, hhl, hA4, hhs⟩
      obtain ⟨hi, rfl⟩ := rng0_inv (n := 9) hy
      conv => whnf
      refine ⟨np h5, ?_⟩
      (repeat ((conv => whnf); first | refine ⟨rfl, ?_⟩ | refine ⟨⟨rfl, rfl⟩, ?_⟩ | refine ⟨⟨rfl, rfl, rfl⟩, ?_⟩ | refine br_t rfl ?_ | refine br_f rfl ?_ | refine ⟨by decide, ?_⟩ | refine ⟨Nat.le_of_ble_eq_true rfl, ?_⟩ | refine ⟨_, (rfl : @L2.atI LV _ _ = some _), ?_⟩ | refine ⟨(show (0 : Int) < _ from by decide), ?_⟩ | refine ⟨⟨by decide, by decide⟩, ?_⟩ | refine ⟨.inl ⟨by decide, by decide⟩, ?_⟩ | refine ⟨.inr ⟨by decide, by decide⟩, ?_⟩)); (conv => whnf)
      rw [clv_len]
      refine ⟨rok1 (by omega), rok2 (by omega), ?_⟩
      (repeat ((conv => whnf); first | refine ⟨rfl, ?_⟩ | refine ⟨⟨rfl, rfl⟩, ?_⟩ | refine ⟨⟨rfl, rfl, rfl⟩, ?_⟩ | refine br_t rfl ?_ | refine br_f rfl ?_ | refine ⟨by decide, ?_⟩ | refine ⟨Nat.le_of_ble_eq_true rfl, ?_⟩ | refine ⟨_, (rfl : @L2.atI LV _ _ = some _), ?_⟩ | refine ⟨(show (0 : Int) < _ from by decide), ?_⟩ | refine ⟨⟨by decide, by decide⟩, ?_⟩ | refine ⟨.inl ⟨by decide, by decide⟩, ?_⟩ | refine ⟨.inr ⟨by decide, by decide⟩, ?_⟩)); (conv => whnf)
      refine ⟨fun j Λ => ∃ (A hs : List Int) (e6 e7 : Ent), Λ = [.v (.lst (clv cs)), .v (.tup (ilv c)), .l (ilv A), .no, .l (ilv hs), .v (.int (i : Nat)), e6, e7] ∧ e6.pin = false ∧ e7.pin = false ∧ A.length ≤ 3 + 9 * i + j ∧ hs.length ≤ 9 * i + j ∧ (∀ t ∈ A, t.natAbs ≤ 4) ∧ (∀ h ∈ hs, 0 ≤ h ∧ h < (cs.length : Int)), ⟨A, hs, _, _, rfl, h6, h7, by omega, by omega, hA4, hhs⟩, ?_, ?_⟩
      · rintro j y Λ hy ⟨A, hs, e6, e7, rfl, h6, h7, hAl, hhl, hA4, hhs⟩
        rw [toN] at hy
        obtain ⟨hj, rfl⟩ := rng0_inv hy
        have hat := clv_at (cs := cs) (g := (j : Int)) (by omega) (by omega)
        have hm : cs.getD ((j : Int)).toNat [] ∈ cs := by
          rw [List.getD_eq_getElem?_getD, List.getElem?_eq_getElem (by omega)]
          exact List.getElem_mem _
        generalize cs.getD ((j : Int)).toNat [] = C at hm hat
        obtain ⟨hC, hC4⟩ := hcs C hm
        have hc4' : ∀ t ∈ C, t.natAbs ≤ 4 := fun t ht => (hC4 t ht).2
        have sA : Sm (.lst (ilv A)) 1 _ := ilv_sm (n := 200) (fun t ht => by have := hA4 t ht; omega) (by omega)
        conv => whnf
        refine ⟨np h6, ?_⟩
        (repeat ((conv => whnf); first | refine ⟨rfl, ?_⟩ | refine ⟨⟨rfl, rfl⟩, ?_⟩ | refine ⟨⟨rfl, rfl, rfl⟩, ?_⟩ | refine br_t rfl ?_ | refine br_f rfl ?_ | refine ⟨by decide, ?_⟩ | refine ⟨Nat.le_of_ble_eq_true rfl, ?_⟩ | refine ⟨_, (rfl : @L2.atI LV _ _ = some _), ?_⟩ | refine ⟨(show (0 : Int) < _ from by decide), ?_⟩ | refine ⟨⟨by decide, by decide⟩, ?_⟩ | refine ⟨.inl ⟨by decide, by decide⟩, ?_⟩ | refine ⟨.inr ⟨by decide, by decide⟩, ?_⟩)); (conv => whnf)
        refine ⟨_, hat, ?_⟩
        (repeat ((conv => whnf); first | refine ⟨rfl, ?_⟩ | refine ⟨⟨rfl, rfl⟩, ?_⟩ | refine ⟨⟨rfl, rfl, rfl⟩, ?_⟩ | refine br_t rfl ?_ | refine br_f rfl ?_ | refine ⟨by decide, ?_⟩ | refine ⟨Nat.le_of_ble_eq_true rfl, ?_⟩ | refine ⟨_, (rfl : @L2.atI LV _ _ = some _), ?_⟩ | refine ⟨(show (0 : Int) < _ from by decide), ?_⟩ | refine ⟨⟨by decide, by decide⟩, ?_⟩ | refine ⟨.inl ⟨by decide, by decide⟩, ?_⟩ | refine ⟨.inr ⟨by decide, by decide⟩, ?_⟩)); (conv => whnf)
        refine ⟨fun l acc Λ => Λ = [.v (.lst (clv cs)), .v (.tup (ilv c)), .l (ilv A), .no, .l (ilv hs), .v (.int (i : Nat)), .v (.int (j : Nat)), e7] ∧ acc = ilv (opn A (C.take l)), ⟨rfl, rfl⟩, ?_, ?_⟩
        · rintro l y acc Λ hy ⟨rfl, rfl⟩
          obtain ⟨t, ht, rfl⟩ := ilv_get hy
          have hl := (List.getElem?_eq_some_iff.mp ht).1
          have t4 := hc4' t (List.mem_of_getElem? ht)
          have ol2 := opn_len A (C.take l)
          rw [List.length_take] at ol2
          have sn := opn_sn A (C.take l) t
          rw [← take_si ht] at sn
          (repeat ((conv => whnf); first | refine ⟨rfl, ?_⟩ | refine ⟨⟨rfl, rfl⟩, ?_⟩ | refine ⟨⟨rfl, rfl, rfl⟩, ?_⟩ | refine br_t rfl ?_ | refine br_f rfl ?_ | refine ⟨by decide, ?_⟩ | refine ⟨Nat.le_of_ble_eq_true rfl, ?_⟩ | refine ⟨_, (rfl : @L2.atI LV _ _ = some _), ?_⟩ | refine ⟨(show (0 : Int) < _ from by decide), ?_⟩ | refine ⟨⟨by decide, by decide⟩, ?_⟩ | refine ⟨.inl ⟨by decide, by decide⟩, ?_⟩ | refine ⟨.inr ⟨by decide, by decide⟩, ?_⟩)); (conv => whnf)
          refine ⟨⟨rfl, sA.ok⟩, ⟨(Sm.int (i := -t) (by omega)).shaped (by decide), sA.shaped (by decide)⟩, ?_⟩
          (repeat ((conv => whnf); first | refine ⟨rfl, ?_⟩ | refine ⟨⟨rfl, rfl⟩, ?_⟩ | refine ⟨⟨rfl, rfl, rfl⟩, ?_⟩ | refine br_t rfl ?_ | refine br_f rfl ?_ | refine ⟨by decide, ?_⟩ | refine ⟨Nat.le_of_ble_eq_true rfl, ?_⟩ | refine ⟨_, (rfl : @L2.atI LV _ _ = some _), ?_⟩ | refine ⟨(show (0 : Int) < _ from by decide), ?_⟩ | refine ⟨⟨by decide, by decide⟩, ?_⟩ | refine ⟨.inl ⟨by decide, by decide⟩, ?_⟩ | refine ⟨.inr ⟨by decide, by decide⟩, ?_⟩)); (conv => whnf)
          rw [any_ilv]
          refine ⟨fun w => ?_, fun w => ?_⟩
          · rw [if_neg (by intro w2; rw [w2] at w; cases w)] at sn
            (repeat ((conv => whnf); first | refine ⟨rfl, ?_⟩ | refine ⟨⟨rfl, rfl⟩, ?_⟩ | refine ⟨⟨rfl, rfl, rfl⟩, ?_⟩ | refine br_t rfl ?_ | refine br_f rfl ?_ | refine ⟨by decide, ?_⟩ | refine ⟨Nat.le_of_ble_eq_true rfl, ?_⟩ | refine ⟨_, (rfl : @L2.atI LV _ _ = some _), ?_⟩ | refine ⟨(show (0 : Int) < _ from by decide), ?_⟩ | refine ⟨⟨by decide, by decide⟩, ?_⟩ | refine ⟨.inl ⟨by decide, by decide⟩, ?_⟩ | refine ⟨.inr ⟨by decide, by decide⟩, ?_⟩)); (conv => whnf)
            exact ⟨by rw [ilv_len]; omega, rfl, by rw [sn, ← ilv_app]⟩
          · rw [if_pos (by cases e : A.contains (-t) with | true => rfl | false => rw [e] at w; cases w)] at sn
            (repeat ((conv => whnf); first | refine ⟨rfl, ?_⟩ | refine ⟨⟨rfl, rfl⟩, ?_⟩ | refine ⟨⟨rfl, rfl, rfl⟩, ?_⟩ | refine br_t rfl ?_ | refine br_f rfl ?_ | refine ⟨by decide, ?_⟩ | refine ⟨Nat.le_of_ble_eq_true rfl, ?_⟩ | refine ⟨_, (rfl : @L2.atI LV _ _ = some _), ?_⟩ | refine ⟨(show (0 : Int) < _ from by decide), ?_⟩ | refine ⟨⟨by decide, by decide⟩, ?_⟩ | refine ⟨.inl ⟨by decide, by decide⟩, ?_⟩ | refine ⟨.inr ⟨by decide, by decide⟩, ?_⟩)); (conv => whnf)
            rw [sn]
        rintro acc Λ ⟨rfl, rfl⟩
        rw [ilv_len, List.take_length]
        (repeat ((conv => whnf); first | refine ⟨rfl, ?_⟩ | refine ⟨⟨rfl, rfl⟩, ?_⟩ | refine ⟨⟨rfl, rfl, rfl⟩, ?_⟩ | refine br_t rfl ?_ | refine br_f rfl ?_ | refine ⟨by decide, ?_⟩ | refine ⟨Nat.le_of_ble_eq_true rfl, ?_⟩ | refine ⟨_, (rfl : @L2.atI LV _ _ = some _), ?_⟩ | refine ⟨(show (0 : Int) < _ from by decide), ?_⟩ | refine ⟨⟨by decide, by decide⟩, ?_⟩ | refine ⟨.inl ⟨by decide, by decide⟩, ?_⟩ | refine ⟨.inr ⟨by decide, by decide⟩, ?_⟩)); (conv => whnf)
        refine ⟨np h7, ?_⟩
        have ho4 := opn_le (A := A) hc4'
        have ol := opn_len A C
        generalize opn A C = o at ho4 ol
        have hj9 : j < cs.length := hj
        have hsn : ∀ h ∈ hs ++ [(j : Int)], 0 ≤ h ∧ h < (cs.length : Int) := fun h hh => by
          rcases List.mem_append.mp hh with hh | hh
          · exact hhs h hh
          · rw [List.mem_singleton.mp hh]
            omega
        (repeat ((conv => whnf); first | refine ⟨rfl, ?_⟩ | refine ⟨⟨rfl, rfl⟩, ?_⟩ | refine ⟨⟨rfl, rfl, rfl⟩, ?_⟩ | refine br_t rfl ?_ | refine br_f rfl ?_ | refine ⟨by decide, ?_⟩ | refine ⟨Nat.le_of_ble_eq_true rfl, ?_⟩ | refine ⟨_, (rfl : @L2.atI LV _ _ = some _), ?_⟩ | refine ⟨(show (0 : Int) < _ from by decide), ?_⟩ | refine ⟨⟨by decide, by decide⟩, ?_⟩ | refine ⟨.inl ⟨by decide, by decide⟩, ?_⟩ | refine ⟨.inr ⟨by decide, by decide⟩, ?_⟩)); (conv => whnf)
        rw [ilv_len]
        refine br_e (fun w => ?_) (fun w => ?_)
        · (repeat ((conv => whnf); first | refine ⟨rfl, ?_⟩ | refine ⟨⟨rfl, rfl⟩, ?_⟩ | refine ⟨⟨rfl, rfl, rfl⟩, ?_⟩ | refine br_t rfl ?_ | refine br_f rfl ?_ | refine ⟨by decide, ?_⟩ | refine ⟨Nat.le_of_ble_eq_true rfl, ?_⟩ | refine ⟨_, (rfl : @L2.atI LV _ _ = some _), ?_⟩ | refine ⟨(show (0 : Int) < _ from by decide), ?_⟩ | refine ⟨⟨by decide, by decide⟩, ?_⟩ | refine ⟨.inl ⟨by decide, by decide⟩, ?_⟩ | refine ⟨.inr ⟨by decide, by decide⟩, ?_⟩)); (conv => whnf)
          refine ⟨by rw [ilv_len]; show hs.length + 1 ≤ _; omega, ?_⟩
          (repeat ((conv => whnf); first | refine ⟨rfl, ?_⟩ | refine ⟨⟨rfl, rfl⟩, ?_⟩ | refine ⟨⟨rfl, rfl, rfl⟩, ?_⟩ | refine br_t rfl ?_ | refine br_f rfl ?_ | refine ⟨by decide, ?_⟩ | refine ⟨Nat.le_of_ble_eq_true rfl, ?_⟩ | refine ⟨_, (rfl : @L2.atI LV _ _ = some _), ?_⟩ | refine ⟨(show (0 : Int) < _ from by decide), ?_⟩ | refine ⟨⟨by decide, by decide⟩, ?_⟩ | refine ⟨.inl ⟨by decide, by decide⟩, ?_⟩ | refine ⟨.inr ⟨by decide, by decide⟩, ?_⟩)); (conv => whnf)
          have := hk (hs ++ [(j : Int)]) (by rw [List.length_append]; show hs.length + 1 ≤ _; omega) hsn
          rw [← ilv_app] at this
          exact this
        (repeat ((conv => whnf); first | refine ⟨rfl, ?_⟩ | refine ⟨⟨rfl, rfl⟩, ?_⟩ | refine ⟨⟨rfl, rfl, rfl⟩, ?_⟩ | refine br_t rfl ?_ | refine br_f rfl ?_ | refine ⟨by decide, ?_⟩ | refine ⟨Nat.le_of_ble_eq_true rfl, ?_⟩ | refine ⟨_, (rfl : @L2.atI LV _ _ = some _), ?_⟩ | refine ⟨(show (0 : Int) < _ from by decide), ?_⟩ | refine ⟨⟨by decide, by decide⟩, ?_⟩ | refine ⟨.inl ⟨by decide, by decide⟩, ?_⟩ | refine ⟨.inr ⟨by decide, by decide⟩, ?_⟩)); (conv => whnf)
        rw [ilv_len]
        refine br_e (fun w1 => ?_) (fun w1 => ?_)
        · have on : o ≠ [] := fun z => by rw [z] at w1; cases w1
          have hh4 : (o.headD 0).natAbs ≤ 4 := by
            refine ho4 _ ?_
            cases o with
            | nil => exact absurd rfl on
            | cons x r => exact List.mem_cons_self ..
          (repeat ((conv => whnf); first | refine ⟨rfl, ?_⟩ | refine ⟨⟨rfl, rfl⟩, ?_⟩ | refine ⟨⟨rfl, rfl, rfl⟩, ?_⟩ | refine br_t rfl ?_ | refine br_f rfl ?_ | refine ⟨by decide, ?_⟩ | refine ⟨Nat.le_of_ble_eq_true rfl, ?_⟩ | refine ⟨_, (rfl : @L2.atI LV _ _ = some _), ?_⟩ | refine ⟨(show (0 : Int) < _ from by decide), ?_⟩ | refine ⟨⟨by decide, by decide⟩, ?_⟩ | refine ⟨.inl ⟨by decide, by decide⟩, ?_⟩ | refine ⟨.inr ⟨by decide, by decide⟩, ?_⟩)); (conv => whnf)
          refine ⟨_, ilv_at0 on, ?_⟩
          (repeat ((conv => whnf); first | refine ⟨rfl, ?_⟩ | refine ⟨⟨rfl, rfl⟩, ?_⟩ | refine ⟨⟨rfl, rfl, rfl⟩, ?_⟩ | refine br_t rfl ?_ | refine br_f rfl ?_ | refine ⟨by decide, ?_⟩ | refine ⟨Nat.le_of_ble_eq_true rfl, ?_⟩ | refine ⟨_, (rfl : @L2.atI LV _ _ = some _), ?_⟩ | refine ⟨(show (0 : Int) < _ from by decide), ?_⟩ | refine ⟨⟨by decide, by decide⟩, ?_⟩ | refine ⟨.inl ⟨by decide, by decide⟩, ?_⟩ | refine ⟨.inr ⟨by decide, by decide⟩, ?_⟩)); (conv => whnf)
          refine ⟨⟨rfl, sA.ok⟩, ⟨(Sm.int (i := o.headD 0) (by omega)).shaped (by decide), sA.shaped (by decide)⟩, ?_⟩
          (repeat ((conv => whnf); first | refine ⟨rfl, ?_⟩ | refine ⟨⟨rfl, rfl⟩, ?_⟩ | refine ⟨⟨rfl, rfl, rfl⟩, ?_⟩ | refine br_t rfl ?_ | refine br_f rfl ?_ | refine ⟨by decide, ?_⟩ | refine ⟨Nat.le_of_ble_eq_true rfl, ?_⟩ | refine ⟨_, (rfl : @L2.atI LV _ _ = some _), ?_⟩ | refine ⟨(show (0 : Int) < _ from by decide), ?_⟩ | refine ⟨⟨by decide, by decide⟩, ?_⟩ | refine ⟨.inl ⟨by decide, by decide⟩, ?_⟩ | refine ⟨.inr ⟨by decide, by decide⟩, ?_⟩)); (conv => whnf)
          refine ⟨fun w2 => ?_, fun w2 => ?_⟩
          · (repeat ((conv => whnf); first | refine ⟨rfl, ?_⟩ | refine ⟨⟨rfl, rfl⟩, ?_⟩ | refine ⟨⟨rfl, rfl, rfl⟩, ?_⟩ | refine br_t rfl ?_ | refine br_f rfl ?_ | refine ⟨by decide, ?_⟩ | refine ⟨Nat.le_of_ble_eq_true rfl, ?_⟩ | refine ⟨_, (rfl : @L2.atI LV _ _ = some _), ?_⟩ | refine ⟨(show (0 : Int) < _ from by decide), ?_⟩ | refine ⟨⟨by decide, by decide⟩, ?_⟩ | refine ⟨.inl ⟨by decide, by decide⟩, ?_⟩ | refine ⟨.inr ⟨by decide, by decide⟩, ?_⟩)); (conv => whnf)
            refine ⟨_, ilv_at0 on, ?_⟩
            (repeat ((conv => whnf); first | refine ⟨rfl, ?_⟩ | refine ⟨⟨rfl, rfl⟩, ?_⟩ | refine ⟨⟨rfl, rfl, rfl⟩, ?_⟩ | refine br_t rfl ?_ | refine br_f rfl ?_ | refine ⟨by decide, ?_⟩ | refine ⟨Nat.le_of_ble_eq_true rfl, ?_⟩ | refine ⟨_, (rfl : @L2.atI LV _ _ = some _), ?_⟩ | refine ⟨(show (0 : Int) < _ from by decide), ?_⟩ | refine ⟨⟨by decide, by decide⟩, ?_⟩ | refine ⟨.inl ⟨by decide, by decide⟩, ?_⟩ | refine ⟨.inr ⟨by decide, by decide⟩, ?_⟩)); (conv => whnf)
            refine ⟨by rw [ilv_len]; omega, ?_⟩
            (repeat ((conv => whnf); first | refine ⟨rfl, ?_⟩ | refine ⟨⟨rfl, rfl⟩, ?_⟩ | refine ⟨⟨rfl, rfl, rfl⟩, ?_⟩ | refine br_t rfl ?_ | refine br_f rfl ?_ | refine ⟨by decide, ?_⟩ | refine ⟨Nat.le_of_ble_eq_true rfl, ?_⟩ | refine ⟨_, (rfl : @L2.atI LV _ _ = some _), ?_⟩ | refine ⟨(show (0 : Int) < _ from by decide), ?_⟩ | refine ⟨⟨by decide, by decide⟩, ?_⟩ | refine ⟨.inl ⟨by decide, by decide⟩, ?_⟩ | refine ⟨.inr ⟨by decide, by decide⟩, ?_⟩)); (conv => whnf)
            refine ⟨by rw [ilv_len]; omega, ?_⟩
            refine ⟨A ++ [o.headD 0], hs ++ [(j : Int)], _, _, by rw [← ilv_app, ← ilv_app]; rfl, rfl, rfl, by rw [List.length_append]; show A.length + 1 ≤ _; omega, by rw [List.length_append]; show hs.length + 1 ≤ _; omega, fun t ht => ?_, hsn⟩
            rcases List.mem_append.mp ht with ht | ht
            · exact hA4 t ht
            · rw [List.mem_singleton.mp ht]
              exact hh4
          · exact ⟨A, hs, _, _, rfl, rfl, rfl, by omega, by omega, hA4, hhs⟩
        · (repeat ((conv => whnf); first | refine ⟨rfl, ?_⟩ | refine ⟨⟨rfl, rfl⟩, ?_⟩ | refine ⟨⟨rfl, rfl, rfl⟩, ?_⟩ | refine br_t rfl ?_ | refine br_f rfl ?_ | refine ⟨by decide, ?_⟩ | refine ⟨Nat.le_of_ble_eq_true rfl, ?_⟩ | refine ⟨_, (rfl : @L2.atI LV _ _ = some _), ?_⟩ | refine ⟨(show (0 : Int) < _ from by decide), ?_⟩ | refine ⟨⟨by decide, by decide⟩, ?_⟩ | refine ⟨.inl ⟨by decide, by decide⟩, ?_⟩ | refine ⟨.inr ⟨by decide, by decide⟩, ?_⟩)); (conv => whnf)
          exact ⟨A, hs, _, _, rfl, rfl, rfl, by omega, by omega, hA4, hhs⟩
      · rintro Λ ⟨A, hs, e6, e7, rfl, h6, h7, hAl, hhl, hA4, hhs⟩
        rw [rngL_len, toN] at hAl hhl
        exact ⟨A, hs, _, _, _, rfl, rfl, h6, h7, by omega, by omega, hA4, hhs⟩
    · rintro Λ ⟨A, hs, e5, e6, e7, rfl, h5, h6, h7, hAl, hhl, hA4, hhs⟩
      have hhl : hs.length ≤ 9 * 9 := hhl
      (repeat ((conv => whnf); first | refine ⟨rfl, ?_⟩ | refine ⟨⟨rfl, rfl⟩, ?_⟩ | refine ⟨⟨rfl, rfl, rfl⟩, ?_⟩ | refine br_t rfl ?_ | refine br_f rfl ?_ | refine ⟨by decide, ?_⟩ | refine ⟨Nat.le_of_ble_eq_true rfl, ?_⟩ | refine ⟨_, (rfl : @L2.atI LV _ _ = some _), ?_⟩ | refine ⟨(show (0 : Int) < _ from by decide), ?_⟩ | refine ⟨⟨by decide, by decide⟩, ?_⟩ | refine ⟨.inl ⟨by decide, by decide⟩, ?_⟩ | refine ⟨.inr ⟨by decide, by decide⟩, ?_⟩)); (conv => whnf)
      exact ⟨_, rfl, hk hs (by omega) hhs⟩
  · exact h.elim

abbrev sp_law_true : FSp := fun es k => match es with
  | [.v (.tup ts), .v (.lst vs_)] => ∃ (c : List Int) (vs : List Nat), ts = ilv c ∧ vs_ = nlv vs ∧ c.length ≤ 1000 ∧ (∀ t ∈ c, okT vs t) ∧ k (.ok (.bl (isT vs c)) es)
  | _ => False
def ls_law_true : LS := (lSeq (lFor (lItT (lVar 0)) (lgName 2)
      (lIf (lOr (lAnd (lTest (lOp fGt (lVar 2) (lC (.int 0)))) (lTest (lOp (fEq false) (lOp fIxL (lVar 1) (lOp fSub (lVar 2) (lC (.int 1)))) (lC (.int 1))))) (lAnd (lTest (lOp fLt (lVar 2) (lC (.int 0)))) (lTest (lOp (fEq false) (lOp fIxL (lVar 1) (lOp fSub (lUn fNeg (lVar 2)) (lC (.int 1)))) (lC (.int 0))))))
      (lRet (lC (.bl true))) lNext))
      (lRet (lC (.bl false))))
theorem lg_law_true : ∀ es k, es.length = 2 → sp_law_true es k → ls_law_true (es ++ List.replicate 1 .no) (outK es k) := by
  intro es k hl h
  unfold sp_law_true at h
  split at h
  · obtain ⟨c, vs, rfl, rfl, hc, ho, hk⟩ := h
    unfold isT at hk
    (repeat ((conv => whnf); first | refine ⟨rfl, ?_⟩ | refine ⟨⟨rfl, rfl⟩, ?_⟩ | refine ⟨⟨rfl, rfl, rfl⟩, ?_⟩ | refine br_t rfl ?_ | refine br_f rfl ?_ | refine ⟨by decide, ?_⟩ | refine ⟨Nat.le_of_ble_eq_true rfl, ?_⟩ | refine ⟨_, (rfl : @L2.atI LV _ _ = some _), ?_⟩ | refine ⟨(show (0 : Int) < _ from by decide), ?_⟩ | refine ⟨⟨by decide, by decide⟩, ?_⟩ | refine ⟨.inl ⟨by decide, by decide⟩, ?_⟩ | refine ⟨.inr ⟨by decide, by decide⟩, ?_⟩)); (conv => whnf)
    refine ⟨fun i Λ => ∃ e2 : Ent, Λ = [.v (.tup (ilv c)), .v (.lst (nlv vs)), e2] ∧ e2.pin = false ∧ (c.take i).any (hold vs) = false, ⟨_, rfl, rfl, rfl⟩, ?_, ?_⟩
    · rintro i y Λ hy ⟨e2, rfl, h2, ha⟩
      obtain ⟨t, ht, rfl⟩ := ilv_get hy
      obtain ⟨t0, t1⟩ := ho t (List.mem_of_getElem? ht)
      conv => whnf
      refine ⟨np h2, ?_⟩
      (repeat ((conv => whnf); first | refine ⟨rfl, ?_⟩ | refine ⟨⟨rfl, rfl⟩, ?_⟩ | refine ⟨⟨rfl, rfl, rfl⟩, ?_⟩ | refine br_t rfl ?_ | refine br_f rfl ?_ | refine ⟨by decide, ?_⟩ | refine ⟨Nat.le_of_ble_eq_true rfl, ?_⟩ | refine ⟨_, (rfl : @L2.atI LV _ _ = some _), ?_⟩ | refine ⟨(show (0 : Int) < _ from by decide), ?_⟩ | refine ⟨⟨by decide, by decide⟩, ?_⟩ | refine ⟨.inl ⟨by decide, by decide⟩, ?_⟩ | refine ⟨.inr ⟨by decide, by decide⟩, ?_⟩)); (conv => whnf)
      have nxt : hold vs t = false → (c.take (i + 1)).any (hold vs) = false := fun z => by rw [any_sn ht, ha, z]; rfl
      refine br_c (fun z => ?_) (fun z => ?_)
      · (repeat ((conv => whnf); first | refine ⟨rfl, ?_⟩ | refine ⟨⟨rfl, rfl⟩, ?_⟩ | refine ⟨⟨rfl, rfl, rfl⟩, ?_⟩ | refine br_t rfl ?_ | refine br_f rfl ?_ | refine ⟨by decide, ?_⟩ | refine ⟨Nat.le_of_ble_eq_true rfl, ?_⟩ | refine ⟨_, (rfl : @L2.atI LV _ _ = some _), ?_⟩ | refine ⟨(show (0 : Int) < _ from by decide), ?_⟩ | refine ⟨⟨by decide, by decide⟩, ?_⟩ | refine ⟨.inl ⟨by decide, by decide⟩, ?_⟩ | refine ⟨.inr ⟨by decide, by decide⟩, ?_⟩)); (conv => whnf)
        refine ⟨_, atI_eq (show t - 1 = ((t.natAbs - 1 : Nat) : Int) by omega) (nlv_at (l := vs) (by omega)), ?_⟩
        (repeat ((conv => whnf); first | refine ⟨rfl, ?_⟩ | refine ⟨⟨rfl, rfl⟩, ?_⟩ | refine ⟨⟨rfl, rfl, rfl⟩, ?_⟩ | refine br_t rfl ?_ | refine br_f rfl ?_ | refine ⟨by decide, ?_⟩ | refine ⟨Nat.le_of_ble_eq_true rfl, ?_⟩ | refine ⟨_, (rfl : @L2.atI LV _ _ = some _), ?_⟩ | refine ⟨(show (0 : Int) < _ from by decide), ?_⟩ | refine ⟨⟨by decide, by decide⟩, ?_⟩ | refine ⟨.inl ⟨by decide, by decide⟩, ?_⟩ | refine ⟨.inr ⟨by decide, by decide⟩, ?_⟩)); (conv => whnf)
        refine br_e (fun w => ?_) (fun w => ?_)
        · (repeat ((conv => whnf); first | refine ⟨rfl, ?_⟩ | refine ⟨⟨rfl, rfl⟩, ?_⟩ | refine ⟨⟨rfl, rfl, rfl⟩, ?_⟩ | refine br_t rfl ?_ | refine br_f rfl ?_ | refine ⟨by decide, ?_⟩ | refine ⟨Nat.le_of_ble_eq_true rfl, ?_⟩ | refine ⟨_, (rfl : @L2.atI LV _ _ = some _), ?_⟩ | refine ⟨(show (0 : Int) < _ from by decide), ?_⟩ | refine ⟨⟨by decide, by decide⟩, ?_⟩ | refine ⟨.inl ⟨by decide, by decide⟩, ?_⟩ | refine ⟨.inr ⟨by decide, by decide⟩, ?_⟩)); (conv => whnf)
          rw [any_mem ht (by rw [hold_pos z, decide_eq_true (by omega)])] at hk
          exact hk
        · (repeat ((conv => whnf); first | refine ⟨rfl, ?_⟩ | refine ⟨⟨rfl, rfl⟩, ?_⟩ | refine ⟨⟨rfl, rfl, rfl⟩, ?_⟩ | refine br_t rfl ?_ | refine br_f rfl ?_ | refine ⟨by decide, ?_⟩ | refine ⟨Nat.le_of_ble_eq_true rfl, ?_⟩ | refine ⟨_, (rfl : @L2.atI LV _ _ = some _), ?_⟩ | refine ⟨(show (0 : Int) < _ from by decide), ?_⟩ | refine ⟨⟨by decide, by decide⟩, ?_⟩ | refine ⟨.inl ⟨by decide, by decide⟩, ?_⟩ | refine ⟨.inr ⟨by decide, by decide⟩, ?_⟩)); (conv => whnf)
          refine br_f (decide_eq_false (by omega)) ?_
          (repeat ((conv => whnf); first | refine ⟨rfl, ?_⟩ | refine ⟨⟨rfl, rfl⟩, ?_⟩ | refine ⟨⟨rfl, rfl, rfl⟩, ?_⟩ | refine br_t rfl ?_ | refine br_f rfl ?_ | refine ⟨by decide, ?_⟩ | refine ⟨Nat.le_of_ble_eq_true rfl, ?_⟩ | refine ⟨_, (rfl : @L2.atI LV _ _ = some _), ?_⟩ | refine ⟨(show (0 : Int) < _ from by decide), ?_⟩ | refine ⟨⟨by decide, by decide⟩, ?_⟩ | refine ⟨.inl ⟨by decide, by decide⟩, ?_⟩ | refine ⟨.inr ⟨by decide, by decide⟩, ?_⟩)); (conv => whnf)
          exact ⟨_, rfl, rfl, nxt (by rw [hold_pos z, decide_eq_false (by omega)])⟩
      · (repeat ((conv => whnf); first | refine ⟨rfl, ?_⟩ | refine ⟨⟨rfl, rfl⟩, ?_⟩ | refine ⟨⟨rfl, rfl, rfl⟩, ?_⟩ | refine br_t rfl ?_ | refine br_f rfl ?_ | refine ⟨by decide, ?_⟩ | refine ⟨Nat.le_of_ble_eq_true rfl, ?_⟩ | refine ⟨_, (rfl : @L2.atI LV _ _ = some _), ?_⟩ | refine ⟨(show (0 : Int) < _ from by decide), ?_⟩ | refine ⟨⟨by decide, by decide⟩, ?_⟩ | refine ⟨.inl ⟨by decide, by decide⟩, ?_⟩ | refine ⟨.inr ⟨by decide, by decide⟩, ?_⟩)); (conv => whnf)
        refine br_t (decide_eq_true (show t < 0 by omega)) ?_
        (repeat ((conv => whnf); first | refine ⟨rfl, ?_⟩ | refine ⟨⟨rfl, rfl⟩, ?_⟩ | refine ⟨⟨rfl, rfl, rfl⟩, ?_⟩ | refine br_t rfl ?_ | refine br_f rfl ?_ | refine ⟨by decide, ?_⟩ | refine ⟨Nat.le_of_ble_eq_true rfl, ?_⟩ | refine ⟨_, (rfl : @L2.atI LV _ _ = some _), ?_⟩ | refine ⟨(show (0 : Int) < _ from by decide), ?_⟩ | refine ⟨⟨by decide, by decide⟩, ?_⟩ | refine ⟨.inl ⟨by decide, by decide⟩, ?_⟩ | refine ⟨.inr ⟨by decide, by decide⟩, ?_⟩)); (conv => whnf)
        refine ⟨_, atI_eq (show -t - 1 = ((t.natAbs - 1 : Nat) : Int) by omega) (nlv_at (l := vs) (by omega)), ?_⟩
        (repeat ((conv => whnf); first | refine ⟨rfl, ?_⟩ | refine ⟨⟨rfl, rfl⟩, ?_⟩ | refine ⟨⟨rfl, rfl, rfl⟩, ?_⟩ | refine br_t rfl ?_ | refine br_f rfl ?_ | refine ⟨by decide, ?_⟩ | refine ⟨Nat.le_of_ble_eq_true rfl, ?_⟩ | refine ⟨_, (rfl : @L2.atI LV _ _ = some _), ?_⟩ | refine ⟨(show (0 : Int) < _ from by decide), ?_⟩ | refine ⟨⟨by decide, by decide⟩, ?_⟩ | refine ⟨.inl ⟨by decide, by decide⟩, ?_⟩ | refine ⟨.inr ⟨by decide, by decide⟩, ?_⟩)); (conv => whnf)
        refine br_e (fun w => ?_) (fun w => ?_)
        · (repeat ((conv => whnf); first | refine ⟨rfl, ?_⟩ | refine ⟨⟨rfl, rfl⟩, ?_⟩ | refine ⟨⟨rfl, rfl, rfl⟩, ?_⟩ | refine br_t rfl ?_ | refine br_f rfl ?_ | refine ⟨by decide, ?_⟩ | refine ⟨Nat.le_of_ble_eq_true rfl, ?_⟩ | refine ⟨_, (rfl : @L2.atI LV _ _ = some _), ?_⟩ | refine ⟨(show (0 : Int) < _ from by decide), ?_⟩ | refine ⟨⟨by decide, by decide⟩, ?_⟩ | refine ⟨.inl ⟨by decide, by decide⟩, ?_⟩ | refine ⟨.inr ⟨by decide, by decide⟩, ?_⟩)); (conv => whnf)
          rw [any_mem ht (by rw [hold_not z, decide_eq_true (by omega)])] at hk
          exact hk
        · (repeat ((conv => whnf); first | refine ⟨rfl, ?_⟩ | refine ⟨⟨rfl, rfl⟩, ?_⟩ | refine ⟨⟨rfl, rfl, rfl⟩, ?_⟩ | refine br_t rfl ?_ | refine br_f rfl ?_ | refine ⟨by decide, ?_⟩ | refine ⟨Nat.le_of_ble_eq_true rfl, ?_⟩ | refine ⟨_, (rfl : @L2.atI LV _ _ = some _), ?_⟩ | refine ⟨(show (0 : Int) < _ from by decide), ?_⟩ | refine ⟨⟨by decide, by decide⟩, ?_⟩ | refine ⟨.inl ⟨by decide, by decide⟩, ?_⟩ | refine ⟨.inr ⟨by decide, by decide⟩, ?_⟩)); (conv => whnf)
          exact ⟨_, rfl, rfl, nxt (by rw [hold_not z, decide_eq_false (by omega)])⟩
    rintro Λ ⟨e2, rfl, h2, ha⟩
    rw [ilv_len, List.take_length] at ha
    rw [ha] at hk
    (repeat ((conv => whnf); first | refine ⟨rfl, ?_⟩ | refine ⟨⟨rfl, rfl⟩, ?_⟩ | refine ⟨⟨rfl, rfl, rfl⟩, ?_⟩ | refine br_t rfl ?_ | refine br_f rfl ?_ | refine ⟨by decide, ?_⟩ | refine ⟨Nat.le_of_ble_eq_true rfl, ?_⟩ | refine ⟨_, (rfl : @L2.atI LV _ _ = some _), ?_⟩ | refine ⟨(show (0 : Int) < _ from by decide), ?_⟩ | refine ⟨⟨by decide, by decide⟩, ?_⟩ | refine ⟨.inl ⟨by decide, by decide⟩, ?_⟩ | refine ⟨.inr ⟨by decide, by decide⟩, ?_⟩)); (conv => whnf)
    exact hk
  · exact h.elim

abbrev sp_law_all : FSp := fun es k => match es with
  | [.v (.lst cs_), .v (.lst vs_)] => ∃ (cs : List (List Int)) (vs : List Nat), cs_ = clv cs ∧ vs_ = nlv vs ∧ cs.length ≤ 100 ∧ (∀ c ∈ cs, c.length ≤ 1000 ∧ ∀ t ∈ c, okT vs t) ∧ k (.ok (.bl (allT vs cs)) es)
  | _ => False
def ls_law_all : LS := (lRet (lOp (fEq false) (lCB fLen (lCons (lNew (lLc (lItL (lVar 0)) (lgName 2) (lNot (lTest (lCall 2 sp_law_true (lCons (lVar 2) (lCons (lVar 1) lNil))))) (lVar 2) [2])) lNil)) (lC (.int 0))))
theorem lg_law_all : ∀ es k, es.length = 2 → sp_law_all es k → ls_law_all (es ++ List.replicate 1 .no) (outK es k) := by
  intro es k hl h
  unfold sp_law_all at h
  split at h
  · obtain ⟨cs, vs, rfl, rfl, hl1, ho, hk⟩ := h
    rw [← all_filter] at hk
    (repeat ((conv => whnf); first | refine ⟨rfl, ?_⟩ | refine ⟨⟨rfl, rfl⟩, ?_⟩ | refine ⟨⟨rfl, rfl, rfl⟩, ?_⟩ | refine br_t rfl ?_ | refine br_f rfl ?_ | refine ⟨by decide, ?_⟩ | refine ⟨Nat.le_of_ble_eq_true rfl, ?_⟩ | refine ⟨_, (rfl : @L2.atI LV _ _ = some _), ?_⟩ | refine ⟨(show (0 : Int) < _ from by decide), ?_⟩ | refine ⟨⟨by decide, by decide⟩, ?_⟩ | refine ⟨.inl ⟨by decide, by decide⟩, ?_⟩ | refine ⟨.inr ⟨by decide, by decide⟩, ?_⟩)); (conv => whnf)
    refine ⟨fun i acc Λ => Λ = [.v (.lst (clv cs)), .v (.lst (nlv vs)), .no] ∧ acc = clv ((cs.take i).filter fun c => !isT vs c), ⟨rfl, rfl⟩, ?_, ?_⟩
    · rintro i y acc Λ hy ⟨rfl, rfl⟩
      obtain ⟨c, hc, rfl⟩ := clv_get hy
      obtain ⟨o1, o2⟩ := ho c (List.mem_of_getElem? hc)
      have sn := filt_sn (f := fun c => !isT vs c) hc
      have fl : ((cs.take i).filter fun c => !isT vs c).length ≤ _ := List.length_filter_le ..
      rw [List.length_take] at fl
      (repeat ((conv => whnf); first | refine ⟨rfl, ?_⟩ | refine ⟨⟨rfl, rfl⟩, ?_⟩ | refine ⟨⟨rfl, rfl, rfl⟩, ?_⟩ | refine br_t rfl ?_ | refine br_f rfl ?_ | refine ⟨by decide, ?_⟩ | refine ⟨Nat.le_of_ble_eq_true rfl, ?_⟩ | refine ⟨_, (rfl : @L2.atI LV _ _ = some _), ?_⟩ | refine ⟨(show (0 : Int) < _ from by decide), ?_⟩ | refine ⟨⟨by decide, by decide⟩, ?_⟩ | refine ⟨.inl ⟨by decide, by decide⟩, ?_⟩ | refine ⟨.inr ⟨by decide, by decide⟩, ?_⟩)); (conv => whnf)
      refine ⟨c, vs, rfl, rfl, o1, o2, ?_⟩
      (repeat ((conv => whnf); first | refine ⟨rfl, ?_⟩ | refine ⟨⟨rfl, rfl⟩, ?_⟩ | refine ⟨⟨rfl, rfl, rfl⟩, ?_⟩ | refine br_t rfl ?_ | refine br_f rfl ?_ | refine ⟨by decide, ?_⟩ | refine ⟨Nat.le_of_ble_eq_true rfl, ?_⟩ | refine ⟨_, (rfl : @L2.atI LV _ _ = some _), ?_⟩ | refine ⟨(show (0 : Int) < _ from by decide), ?_⟩ | refine ⟨⟨by decide, by decide⟩, ?_⟩ | refine ⟨.inl ⟨by decide, by decide⟩, ?_⟩ | refine ⟨.inr ⟨by decide, by decide⟩, ?_⟩)); (conv => whnf)
      cases hT : isT vs c with
      | true =>
        rw [if_neg (by rw [hT]; exact Bool.false_ne_true)] at sn
        refine br_f rfl ?_
        (repeat ((conv => whnf); first | refine ⟨rfl, ?_⟩ | refine ⟨⟨rfl, rfl⟩, ?_⟩ | refine ⟨⟨rfl, rfl, rfl⟩, ?_⟩ | refine br_t rfl ?_ | refine br_f rfl ?_ | refine ⟨by decide, ?_⟩ | refine ⟨Nat.le_of_ble_eq_true rfl, ?_⟩ | refine ⟨_, (rfl : @L2.atI LV _ _ = some _), ?_⟩ | refine ⟨(show (0 : Int) < _ from by decide), ?_⟩ | refine ⟨⟨by decide, by decide⟩, ?_⟩ | refine ⟨.inl ⟨by decide, by decide⟩, ?_⟩ | refine ⟨.inr ⟨by decide, by decide⟩, ?_⟩)); (conv => whnf)
        rw [sn, List.append_nil]
      | false =>
        rw [if_pos (by rw [hT]; rfl)] at sn
        refine br_t rfl ?_
        (repeat ((conv => whnf); first | refine ⟨rfl, ?_⟩ | refine ⟨⟨rfl, rfl⟩, ?_⟩ | refine ⟨⟨rfl, rfl, rfl⟩, ?_⟩ | refine br_t rfl ?_ | refine br_f rfl ?_ | refine ⟨by decide, ?_⟩ | refine ⟨Nat.le_of_ble_eq_true rfl, ?_⟩ | refine ⟨_, (rfl : @L2.atI LV _ _ = some _), ?_⟩ | refine ⟨(show (0 : Int) < _ from by decide), ?_⟩ | refine ⟨⟨by decide, by decide⟩, ?_⟩ | refine ⟨.inl ⟨by decide, by decide⟩, ?_⟩ | refine ⟨.inr ⟨by decide, by decide⟩, ?_⟩)); (conv => whnf)
        exact ⟨by rw [clv_len]; omega, rfl, by rw [sn, ← clv_app]; rfl⟩
    rintro acc Λ ⟨rfl, rfl⟩
    rw [clv_len, List.take_length]
    (repeat ((conv => whnf); first | refine ⟨rfl, ?_⟩ | refine ⟨⟨rfl, rfl⟩, ?_⟩ | refine ⟨⟨rfl, rfl, rfl⟩, ?_⟩ | refine br_t rfl ?_ | refine br_f rfl ?_ | refine ⟨by decide, ?_⟩ | refine ⟨Nat.le_of_ble_eq_true rfl, ?_⟩ | refine ⟨_, (rfl : @L2.atI LV _ _ = some _), ?_⟩ | refine ⟨(show (0 : Int) < _ from by decide), ?_⟩ | refine ⟨⟨by decide, by decide⟩, ?_⟩ | refine ⟨.inl ⟨by decide, by decide⟩, ?_⟩ | refine ⟨.inr ⟨by decide, by decide⟩, ?_⟩)); (conv => whnf)
    rw [clv_len]
    exact kB (enat _ 0).symm hk
  · exact h.elim

abbrev sp_law_models : FSp := fun es k => match es with
  | [.v (.lst cs_), .v (.int vi)] => ∃ (cs : List (List Int)), cs_ = clv cs ∧ vi = 4 ∧ cs.length ≤ 100 ∧ (∀ c ∈ cs, c.length ≤ 3 ∧ ∀ t ∈ c, t ≠ 0 ∧ t.natAbs ≤ 4) ∧ ∀ ms : List (List Nat), ms.length ≤ 16 → (∀ m ∈ ms, m.length = 4 ∧ (∀ x ∈ m, x < 2) ∧ allT m cs = true) → k (.ok (.lst (llv ms)) es)
  | _ => False
def ls_law_models : LS := (lSeq (lSetL 2 (lLst lNil))
      (lSeq (lFor (lRng1 (lCons (lOp fShl (lC (.int 1)) (lVar 1)) lNil)) (lgName 3)
      (lSeq (lSet 4 (lNew (lLc (lRng1 (lCons (lVar 1) lNil)) (lgName 5) lYes (lOp fMod (lOp fDiv (lVar 3) (lOp fShl (lC (.int 1)) (lVar 5))) (lC (.int 2))) [5])))
      (lIf (lTest (lCall 2 sp_law_all (lCons (lVar 0) (lCons (lVar 4) lNil))))
      (lApp 2 (lVar 4)) lNext)))
      (lRet (lVar 2))))
theorem lg_law_models : ∀ es k, es.length = 2 → sp_law_models es k → ls_law_models (es ++ List.replicate 4 .no) (outK es k) := by
  intro es k hl h
  unfold sp_law_models at h
  split at h
  · obtain ⟨cs, rfl, rfl, hl1, hcs, hk⟩ := h
    (repeat ((conv => whnf); first | refine ⟨rfl, ?_⟩ | refine ⟨⟨rfl, rfl⟩, ?_⟩ | refine ⟨⟨rfl, rfl, rfl⟩, ?_⟩ | refine br_t rfl ?_ | refine br_f rfl ?_ | refine ⟨by decide, ?_⟩ | refine ⟨Nat.le_of_ble_eq_true rfl, ?_⟩ | refine ⟨_, (rfl : @L2.atI LV _ _ = some _), ?_⟩ | refine ⟨(show (0 : Int) < _ from by decide), ?_⟩ | refine ⟨⟨by decide, by decide⟩, ?_⟩ | refine ⟨.inl ⟨by decide, by decide⟩, ?_⟩ | refine ⟨.inr ⟨by decide, by decide⟩, ?_⟩)); (conv => whnf)
    refine ⟨fun i Λ => ∃ (ms : List (List Nat)) (e3 e4 : Ent), Λ = [.v (.lst (clv cs)), .v (.int 4), .l (llv ms), e3, e4, .no] ∧ e3.pin = false ∧ e4.pin = false ∧ ms.length ≤ i ∧ ∀ m ∈ ms, m.length = 4 ∧ (∀ x ∈ m, x < 2) ∧ allT m cs = true, ⟨[], _, _, rfl, rfl, rfl, Nat.le_refl _, fun m hm => (by cases hm)⟩, ?_, ?_⟩
    · rintro i y Λ hy ⟨ms, e3, e4, rfl, h3, h4, hml, hmp⟩
      obtain ⟨hi, rfl⟩ := rng0_inv (n := 16) hy
      conv => whnf
      refine ⟨np h3, ?_⟩
      (repeat ((conv => whnf); first | refine ⟨rfl, ?_⟩ | refine ⟨⟨rfl, rfl⟩, ?_⟩ | refine ⟨⟨rfl, rfl, rfl⟩, ?_⟩ | refine br_t rfl ?_ | refine br_f rfl ?_ | refine ⟨by decide, ?_⟩ | refine ⟨Nat.le_of_ble_eq_true rfl, ?_⟩ | refine ⟨_, (rfl : @L2.atI LV _ _ = some _), ?_⟩ | refine ⟨(show (0 : Int) < _ from by decide), ?_⟩ | refine ⟨⟨by decide, by decide⟩, ?_⟩ | refine ⟨.inl ⟨by decide, by decide⟩, ?_⟩ | refine ⟨.inr ⟨by decide, by decide⟩, ?_⟩)); (conv => whnf)
      refine ⟨fun j acc Λ => ∃ bs : List Nat, Λ = [.v (.lst (clv cs)), .v (.int 4), .l (llv ms), .v (.int (i : Nat)), e4, .no] ∧ acc = nlv bs ∧ bs.length = j ∧ ∀ x ∈ bs, x < 2, ⟨[], rfl, rfl, rfl, fun x hx => (by cases hx)⟩, ?_, ?_⟩
      · rintro j y acc Λ hy ⟨bs, rfl, rfl, hb, hb2⟩
        obtain ⟨hj, rfl⟩ := rng0_inv (n := 4) hy
        have p2 : 2 ^ j ≤ 2 ^ 4 := Nat.pow_le_pow_right (by decide) (by omega)
        have p2 : 2 ^ j ≤ 16 := p2
        have p0 : 0 < 2 ^ j := Nat.pow_pos (by decide)
        have e : (1 : Int) * 2 ^ ((j : Nat) : Int).toNat = ((2 ^ j : Nat) : Int) := by rw [toN, Int.one_mul]; push_cast; rfl
        (repeat ((conv => whnf); first | refine ⟨rfl, ?_⟩ | refine ⟨⟨rfl, rfl⟩, ?_⟩ | refine ⟨⟨rfl, rfl, rfl⟩, ?_⟩ | refine br_t rfl ?_ | refine br_f rfl ?_ | refine ⟨by decide, ?_⟩ | refine ⟨Nat.le_of_ble_eq_true rfl, ?_⟩ | refine ⟨_, (rfl : @L2.atI LV _ _ = some _), ?_⟩ | refine ⟨(show (0 : Int) < _ from by decide), ?_⟩ | refine ⟨⟨by decide, by decide⟩, ?_⟩ | refine ⟨.inl ⟨by decide, by decide⟩, ?_⟩ | refine ⟨.inr ⟨by decide, by decide⟩, ?_⟩)); (conv => whnf)
        refine ⟨cshl1 (by omega), ?_⟩
        (repeat ((conv => whnf); first | refine ⟨rfl, ?_⟩ | refine ⟨⟨rfl, rfl⟩, ?_⟩ | refine ⟨⟨rfl, rfl, rfl⟩, ?_⟩ | refine br_t rfl ?_ | refine br_f rfl ?_ | refine ⟨by decide, ?_⟩ | refine ⟨Nat.le_of_ble_eq_true rfl, ?_⟩ | refine ⟨_, (rfl : @L2.atI LV _ _ = some _), ?_⟩ | refine ⟨(show (0 : Int) < _ from by decide), ?_⟩ | refine ⟨⟨by decide, by decide⟩, ?_⟩ | refine ⟨.inl ⟨by decide, by decide⟩, ?_⟩ | refine ⟨.inr ⟨by decide, by decide⟩, ?_⟩)); (conv => whnf)
        refine ⟨⟨by rw [e]; omega, by rw [e]; omega⟩, ?_⟩
        (repeat ((conv => whnf); first | refine ⟨rfl, ?_⟩ | refine ⟨⟨rfl, rfl⟩, ?_⟩ | refine ⟨⟨rfl, rfl, rfl⟩, ?_⟩ | refine br_t rfl ?_ | refine br_f rfl ?_ | refine ⟨by decide, ?_⟩ | refine ⟨Nat.le_of_ble_eq_true rfl, ?_⟩ | refine ⟨_, (rfl : @L2.atI LV _ _ = some _), ?_⟩ | refine ⟨(show (0 : Int) < _ from by decide), ?_⟩ | refine ⟨⟨by decide, by decide⟩, ?_⟩ | refine ⟨.inl ⟨by decide, by decide⟩, ?_⟩ | refine ⟨.inr ⟨by decide, by decide⟩, ?_⟩)); (conv => whnf)
        refine ⟨by rw [nlv_len]; omega, bs ++ [i / 2 ^ j % 2], rfl, ?_, by rw [List.length_append, hb]; rfl, mem_sn hb2 (Nat.mod_lt _ (by decide))⟩
        rw [e, ← nlv_app]
        rfl
      rintro acc Λ ⟨bs, rfl, rfl, hb, hb2⟩
      have hb : bs.length = 4 := hb
      (repeat ((conv => whnf); first | refine ⟨rfl, ?_⟩ | refine ⟨⟨rfl, rfl⟩, ?_⟩ | refine ⟨⟨rfl, rfl, rfl⟩, ?_⟩ | refine br_t rfl ?_ | refine br_f rfl ?_ | refine ⟨by decide, ?_⟩ | refine ⟨Nat.le_of_ble_eq_true rfl, ?_⟩ | refine ⟨_, (rfl : @L2.atI LV _ _ = some _), ?_⟩ | refine ⟨(show (0 : Int) < _ from by decide), ?_⟩ | refine ⟨⟨by decide, by decide⟩, ?_⟩ | refine ⟨.inl ⟨by decide, by decide⟩, ?_⟩ | refine ⟨.inr ⟨by decide, by decide⟩, ?_⟩)); (conv => whnf)
      refine ⟨np h4, ?_⟩
      (repeat ((conv => whnf); first | refine ⟨rfl, ?_⟩ | refine ⟨⟨rfl, rfl⟩, ?_⟩ | refine ⟨⟨rfl, rfl, rfl⟩, ?_⟩ | refine br_t rfl ?_ | refine br_f rfl ?_ | refine ⟨by decide, ?_⟩ | refine ⟨Nat.le_of_ble_eq_true rfl, ?_⟩ | refine ⟨_, (rfl : @L2.atI LV _ _ = some _), ?_⟩ | refine ⟨(show (0 : Int) < _ from by decide), ?_⟩ | refine ⟨⟨by decide, by decide⟩, ?_⟩ | refine ⟨.inl ⟨by decide, by decide⟩, ?_⟩ | refine ⟨.inr ⟨by decide, by decide⟩, ?_⟩)); (conv => whnf)
      refine ⟨cs, bs, rfl, rfl, hl1, fun c hc => ⟨by have := (hcs c hc).1; omega, fun t ht => ⟨((hcs c hc).2 t ht).1, by rw [hb]; exact ((hcs c hc).2 t ht).2⟩⟩, ?_⟩
      (repeat ((conv => whnf); first | refine ⟨rfl, ?_⟩ | refine ⟨⟨rfl, rfl⟩, ?_⟩ | refine ⟨⟨rfl, rfl, rfl⟩, ?_⟩ | refine br_t rfl ?_ | refine br_f rfl ?_ | refine ⟨by decide, ?_⟩ | refine ⟨Nat.le_of_ble_eq_true rfl, ?_⟩ | refine ⟨_, (rfl : @L2.atI LV _ _ = some _), ?_⟩ | refine ⟨(show (0 : Int) < _ from by decide), ?_⟩ | refine ⟨⟨by decide, by decide⟩, ?_⟩ | refine ⟨.inl ⟨by decide, by decide⟩, ?_⟩ | refine ⟨.inr ⟨by decide, by decide⟩, ?_⟩)); (conv => whnf)
      cases hT : allT bs cs with
      | true =>
        refine br_t rfl ?_
        (repeat ((conv => whnf); first | refine ⟨rfl, ?_⟩ | refine ⟨⟨rfl, rfl⟩, ?_⟩ | refine ⟨⟨rfl, rfl, rfl⟩, ?_⟩ | refine br_t rfl ?_ | refine br_f rfl ?_ | refine ⟨by decide, ?_⟩ | refine ⟨Nat.le_of_ble_eq_true rfl, ?_⟩ | refine ⟨_, (rfl : @L2.atI LV _ _ = some _), ?_⟩ | refine ⟨(show (0 : Int) < _ from by decide), ?_⟩ | refine ⟨⟨by decide, by decide⟩, ?_⟩ | refine ⟨.inl ⟨by decide, by decide⟩, ?_⟩ | refine ⟨.inr ⟨by decide, by decide⟩, ?_⟩)); (conv => whnf)
        refine ⟨by rw [llv_len]; omega, ?_⟩
        refine ⟨ms ++ [bs], _, _, by rw [← llv_app]; rfl, rfl, rfl, by rw [List.length_append]; show ms.length + 1 ≤ _; omega, fun m hm => ?_⟩
        rcases List.mem_append.mp hm with hm | hm
        · exact hmp m hm
        · rw [List.mem_singleton.mp hm]
          exact ⟨hb, hb2, hT⟩
      | false =>
        refine br_f rfl ?_
        exact ⟨ms, _, _, rfl, rfl, rfl, by omega, hmp⟩
    · rintro Λ ⟨ms, e3, e4, rfl, h3, h4, hml, hmp⟩
      have hml : ms.length ≤ 16 := hml
      (repeat ((conv => whnf); first | refine ⟨rfl, ?_⟩ | refine ⟨⟨rfl, rfl⟩, ?_⟩ | refine ⟨⟨rfl, rfl, rfl⟩, ?_⟩ | refine br_t rfl ?_ | refine br_f rfl ?_ | refine ⟨by decide, ?_⟩ | refine ⟨Nat.le_of_ble_eq_true rfl, ?_⟩ | refine ⟨_, (rfl : @L2.atI LV _ _ = some _), ?_⟩ | refine ⟨(show (0 : Int) < _ from by decide), ?_⟩ | refine ⟨⟨by decide, by decide⟩, ?_⟩ | refine ⟨.inl ⟨by decide, by decide⟩, ?_⟩ | refine ⟨.inr ⟨by decide, by decide⟩, ?_⟩)); (conv => whnf)
      exact hk ms hml hmp
  · exact h.elim

abbrev sp_law_right : FSp := fun es k => match es with
  | [.v (.lst cs_), .v (.tup c_), .v (.lst hs_)] => ∃ (cs : List (List Int)) (c hs : List Int), cs_ = clv cs ∧ c_ = ilv c ∧ hs_ = ilv hs ∧ (∀ c ∈ cs, c.length ≤ 3 ∧ ∀ t ∈ c, t ≠ 0 ∧ t.natAbs ≤ 4) ∧ c.length ≤ 3 ∧ (∀ t ∈ c, t.natAbs ≤ 4) ∧ hs.length ≤ 1000 ∧ k (.ok (.bl (stpF cs (ngl c) hs)) es)
  | _ => False
def ls_law_right : LS := (lSeq (lSetL 3 (lForgetN [4] (lLc (lItT (lVar 1)) (lgName 4) lYes (lUn fNeg (lVar 4)) [4])))
      (lSeq (lFor (lItL (lVar 2)) (lgName 5)
      (lSeq (lIf (lOr (lTest (lOp fLt (lVar 5) (lC (.int 0)))) (lTest (lOp fGe (lVar 5) (lCB fLen (lCons (lVar 0) lNil)))))
      (lRet (lC (.bl false))) lNext)
      (lSeq (lSetL 6 (lLst lNil))
      (lSeq (lFor (lItT (lOp fIxL (lVar 0) (lVar 5))) (lgName 4)
      (lIf (lAnd (lTest (lInO true 3 (lUn fNeg (lVar 4)))) (lTest (lInO true 6 (lVar 4))))
      (lApp 6 (lVar 4)) lNext))
      (lSeq (lIf (lTest (lOp (fEq false) (lLenO 6) (lC (.int 0))))
      (lRet (lC (.bl true))) lNext)
      (lSeq (lIf (lTest (lOp fGt (lLenO 6) (lC (.int 1))))
      (lRet (lC (.bl false))) lNext)
      (lApp 3 (lIxO 6 (lC (.int 0))))))))))
      (lRet (lC (.bl false)))))
theorem lg_law_right : ∀ es k, es.length = 3 → sp_law_right es k → ls_law_right (es ++ List.replicate 4 .no) (outK es k) := by
  intro es k hl h
  unfold sp_law_right at h
  split at h
  · obtain ⟨cs, c, hs, rfl, rfl, rfl, hcs, hc, hc4, hh, hk⟩ := h
    generalize hR : stpF cs (ngl c) hs = R at hk
    (repeat ((conv => whnf); first | refine ⟨rfl, ?_⟩ | refine ⟨⟨rfl, rfl⟩, ?_⟩ | refine ⟨⟨rfl, rfl, rfl⟩, ?_⟩ | refine br_t rfl ?_ | refine br_f rfl ?_ | refine ⟨by decide, ?_⟩ | refine ⟨Nat.le_of_ble_eq_true rfl, ?_⟩ | refine ⟨_, (rfl : @L2.atI LV _ _ = some _), ?_⟩ | refine ⟨(show (0 : Int) < _ from by decide), ?_⟩ | refine ⟨⟨by decide, by decide⟩, ?_⟩ | refine ⟨.inl ⟨by decide, by decide⟩, ?_⟩ | refine ⟨.inr ⟨by decide, by decide⟩, ?_⟩)); (conv => whnf)
    refine ⟨fun i acc Λ => Λ = [.v (.lst (clv cs)), .v (.tup (ilv c)), .v (.lst (ilv hs)), .no, .no, .no, .no] ∧ acc = ilv (ngl (c.take i)), ⟨rfl, rfl⟩, ?_, ?_⟩
    · rintro i y acc Λ hy ⟨rfl, rfl⟩
      obtain ⟨t, ht, rfl⟩ := ilv_get hy
      have hi := (List.getElem?_eq_some_iff.mp ht).1
      (repeat ((conv => whnf); first | refine ⟨rfl, ?_⟩ | refine ⟨⟨rfl, rfl⟩, ?_⟩ | refine ⟨⟨rfl, rfl, rfl⟩, ?_⟩ | refine br_t rfl ?_ | refine br_f rfl ?_ | refine ⟨by decide, ?_⟩ | refine ⟨Nat.le_of_ble_eq_true rfl, ?_⟩ | refine ⟨_, (rfl : @L2.atI LV _ _ = some _), ?_⟩ | refine ⟨(show (0 : Int) < _ from by decide), ?_⟩ | refine ⟨⟨by decide, by decide⟩, ?_⟩ | refine ⟨.inl ⟨by decide, by decide⟩, ?_⟩ | refine ⟨.inr ⟨by decide, by decide⟩, ?_⟩)); (conv => whnf)
      refine ⟨by rw [ilv_len]; unfold ngl; rw [List.length_map, List.length_take]; omega, rfl, ?_⟩
      rw [take_si ht, ngl_sn, ← ilv_app]
    rintro acc Λ ⟨rfl, rfl⟩
    rw [ilv_len, List.take_length]
    (repeat ((conv => whnf); first | refine ⟨rfl, ?_⟩ | refine ⟨⟨rfl, rfl⟩, ?_⟩ | refine ⟨⟨rfl, rfl, rfl⟩, ?_⟩ | refine br_t rfl ?_ | refine br_f rfl ?_ | refine ⟨by decide, ?_⟩ | refine ⟨Nat.le_of_ble_eq_true rfl, ?_⟩ | refine ⟨_, (rfl : @L2.atI LV _ _ = some _), ?_⟩ | refine ⟨(show (0 : Int) < _ from by decide), ?_⟩ | refine ⟨⟨by decide, by decide⟩, ?_⟩ | refine ⟨.inl ⟨by decide, by decide⟩, ?_⟩ | refine ⟨.inr ⟨by decide, by decide⟩, ?_⟩)); (conv => whnf)
    refine ⟨fun i Λ => ∃ (A : List Int) (e4 e5 e6 : Ent), Λ = [.v (.lst (clv cs)), .v (.tup (ilv c)), .v (.lst (ilv hs)), .l (ilv A), e4, e5, e6] ∧ e4.pin = false ∧ e5.pin = false ∧ e6.pin = false ∧ A.length ≤ 3 + i ∧ (∀ t ∈ A, t.natAbs ≤ 4) ∧ stpF cs A (hs.drop i) = R, ⟨ngl c, _, _, _, rfl, rfl, rfl, rfl, by unfold ngl; rw [List.length_map]; omega, fun t ht => (by unfold ngl at ht; obtain ⟨u, hu, rfl⟩ := List.mem_map.mp ht; rw [Int.natAbs_neg]; exact hc4 u hu), hR⟩, ?_, ?_⟩
    · rintro i y Λ hy ⟨A, e4, e5, e6, rfl, h4, h5, h6, hAl, hA4, hst⟩
      obtain ⟨g, hg, rfl⟩ := ilv_get hy
      have hi := (List.getElem?_eq_some_iff.mp hg).1
      rw [drop_at hg] at hst
      unfold stpF at hst
      conv => whnf
      refine ⟨np h5, ?_⟩
      (repeat ((conv => whnf); first | refine ⟨rfl, ?_⟩ | refine ⟨⟨rfl, rfl⟩, ?_⟩ | refine ⟨⟨rfl, rfl, rfl⟩, ?_⟩ | refine br_t rfl ?_ | refine br_f rfl ?_ | refine ⟨by decide, ?_⟩ | refine ⟨Nat.le_of_ble_eq_true rfl, ?_⟩ | refine ⟨_, (rfl : @L2.atI LV _ _ = some _), ?_⟩ | refine ⟨(show (0 : Int) < _ from by decide), ?_⟩ | refine ⟨⟨by decide, by decide⟩, ?_⟩ | refine ⟨.inl ⟨by decide, by decide⟩, ?_⟩ | refine ⟨.inr ⟨by decide, by decide⟩, ?_⟩)); (conv => whnf)
      refine br_c (fun z => ?_) (fun z => ?_)
      · rw [if_neg (by omega)] at hst
        rw [← hst] at hk
        (repeat ((conv => whnf); first | refine ⟨rfl, ?_⟩ | refine ⟨⟨rfl, rfl⟩, ?_⟩ | refine ⟨⟨rfl, rfl, rfl⟩, ?_⟩ | refine br_t rfl ?_ | refine br_f rfl ?_ | refine ⟨by decide, ?_⟩ | refine ⟨Nat.le_of_ble_eq_true rfl, ?_⟩ | refine ⟨_, (rfl : @L2.atI LV _ _ = some _), ?_⟩ | refine ⟨(show (0 : Int) < _ from by decide), ?_⟩ | refine ⟨⟨by decide, by decide⟩, ?_⟩ | refine ⟨.inl ⟨by decide, by decide⟩, ?_⟩ | refine ⟨.inr ⟨by decide, by decide⟩, ?_⟩)); (conv => whnf)
        exact hk
      (repeat ((conv => whnf); first | refine ⟨rfl, ?_⟩ | refine ⟨⟨rfl, rfl⟩, ?_⟩ | refine ⟨⟨rfl, rfl, rfl⟩, ?_⟩ | refine br_t rfl ?_ | refine br_f rfl ?_ | refine ⟨by decide, ?_⟩ | refine ⟨Nat.le_of_ble_eq_true rfl, ?_⟩ | refine ⟨_, (rfl : @L2.atI LV _ _ = some _), ?_⟩ | refine ⟨(show (0 : Int) < _ from by decide), ?_⟩ | refine ⟨⟨by decide, by decide⟩, ?_⟩ | refine ⟨.inl ⟨by decide, by decide⟩, ?_⟩ | refine ⟨.inr ⟨by decide, by decide⟩, ?_⟩)); (conv => whnf)
      rw [clv_len]
      refine br_c (fun w => ?_) (fun w => ?_)
      · rw [if_neg (by omega)] at hst
        rw [← hst] at hk
        (repeat ((conv => whnf); first | refine ⟨rfl, ?_⟩ | refine ⟨⟨rfl, rfl⟩, ?_⟩ | refine ⟨⟨rfl, rfl, rfl⟩, ?_⟩ | refine br_t rfl ?_ | refine br_f rfl ?_ | refine ⟨by decide, ?_⟩ | refine ⟨Nat.le_of_ble_eq_true rfl, ?_⟩ | refine ⟨_, (rfl : @L2.atI LV _ _ = some _), ?_⟩ | refine ⟨(show (0 : Int) < _ from by decide), ?_⟩ | refine ⟨⟨by decide, by decide⟩, ?_⟩ | refine ⟨.inl ⟨by decide, by decide⟩, ?_⟩ | refine ⟨.inr ⟨by decide, by decide⟩, ?_⟩)); (conv => whnf)
        exact hk
      rw [if_pos (by omega)] at hst
      have hm : cs.getD g.toNat [] ∈ cs := by
        rw [List.getD_eq_getElem?_getD, List.getElem?_eq_getElem (by omega)]
        exact List.getElem_mem _
      have hat := clv_at (cs := cs) (g := g) (by omega) (by omega)
      generalize cs.getD g.toNat [] = C at hst hm hat
      obtain ⟨hC, hC4⟩ := hcs C hm
      have sA : Sm (.lst (ilv A)) 1 _ := ilv_sm (n := 2000) (fun t ht => by have := hA4 t ht; omega) (by omega)
      have hc4' : ∀ t ∈ C, t.natAbs ≤ 4 := fun t ht => (hC4 t ht).2
      (repeat ((conv => whnf); first | refine ⟨rfl, ?_⟩ | refine ⟨⟨rfl, rfl⟩, ?_⟩ | refine ⟨⟨rfl, rfl, rfl⟩, ?_⟩ | refine br_t rfl ?_ | refine br_f rfl ?_ | refine ⟨by decide, ?_⟩ | refine ⟨Nat.le_of_ble_eq_true rfl, ?_⟩ | refine ⟨_, (rfl : @L2.atI LV _ _ = some _), ?_⟩ | refine ⟨(show (0 : Int) < _ from by decide), ?_⟩ | refine ⟨⟨by decide, by decide⟩, ?_⟩ | refine ⟨.inl ⟨by decide, by decide⟩, ?_⟩ | refine ⟨.inr ⟨by decide, by decide⟩, ?_⟩)); (conv => whnf)
      refine ⟨np h6, ?_⟩
      (repeat ((conv => whnf); first | refine ⟨rfl, ?_⟩ | refine ⟨⟨rfl, rfl⟩, ?_⟩ | refine ⟨⟨rfl, rfl, rfl⟩, ?_⟩ | refine br_t rfl ?_ | refine br_f rfl ?_ | refine ⟨by decide, ?_⟩ | refine ⟨Nat.le_of_ble_eq_true rfl, ?_⟩ | refine ⟨_, (rfl : @L2.atI LV _ _ = some _), ?_⟩ | refine ⟨(show (0 : Int) < _ from by decide), ?_⟩ | refine ⟨⟨by decide, by decide⟩, ?_⟩ | refine ⟨.inl ⟨by decide, by decide⟩, ?_⟩ | refine ⟨.inr ⟨by decide, by decide⟩, ?_⟩)); (conv => whnf)
      refine ⟨_, hat, ?_⟩
      (repeat ((conv => whnf); first | refine ⟨rfl, ?_⟩ | refine ⟨⟨rfl, rfl⟩, ?_⟩ | refine ⟨⟨rfl, rfl, rfl⟩, ?_⟩ | refine br_t rfl ?_ | refine br_f rfl ?_ | refine ⟨by decide, ?_⟩ | refine ⟨Nat.le_of_ble_eq_true rfl, ?_⟩ | refine ⟨_, (rfl : @L2.atI LV _ _ = some _), ?_⟩ | refine ⟨(show (0 : Int) < _ from by decide), ?_⟩ | refine ⟨⟨by decide, by decide⟩, ?_⟩ | refine ⟨.inl ⟨by decide, by decide⟩, ?_⟩ | refine ⟨.inr ⟨by decide, by decide⟩, ?_⟩)); (conv => whnf)
      refine ⟨fun j Λ => ∃ (e4 : Ent), Λ = [.v (.lst (clv cs)), .v (.tup (ilv c)), .v (.lst (ilv hs)), .l (ilv A), e4, .v (.int g), .l (ilv (ddl (opn A (C.take j))))] ∧ e4.pin = false, ⟨_, rfl, h4⟩, ?_, ?_⟩
      · rintro j y Λ hy ⟨e4, rfl, h4⟩
        obtain ⟨t, ht, rfl⟩ := ilv_get hy
        have hj := (List.getElem?_eq_some_iff.mp ht).1
        have t4 := hc4' t (List.mem_of_getElem? ht)
        have sn := opn_sn A (C.take j) t
        rw [← take_si ht] at sn
        have dl := ddl_len (opn A (C.take j))
        have ol := opn_len A (C.take j)
        rw [List.length_take] at ol
        have sD : Sm (.lst (ilv (ddl (opn A (C.take j))))) 1 _ := ilv_sm (n := 100) (fun u hu => by have := ddl_mem_le (opn_le fun v hv => hc4' v (List.mem_of_mem_take hv)) u hu; omega) (by omega)
        conv => whnf
        refine ⟨np h4, ?_⟩
        (repeat ((conv => whnf); first | refine ⟨rfl, ?_⟩ | refine ⟨⟨rfl, rfl⟩, ?_⟩ | refine ⟨⟨rfl, rfl, rfl⟩, ?_⟩ | refine br_t rfl ?_ | refine br_f rfl ?_ | refine ⟨by decide, ?_⟩ | refine ⟨Nat.le_of_ble_eq_true rfl, ?_⟩ | refine ⟨_, (rfl : @L2.atI LV _ _ = some _), ?_⟩ | refine ⟨(show (0 : Int) < _ from by decide), ?_⟩ | refine ⟨⟨by decide, by decide⟩, ?_⟩ | refine ⟨.inl ⟨by decide, by decide⟩, ?_⟩ | refine ⟨.inr ⟨by decide, by decide⟩, ?_⟩)); (conv => whnf)
        refine ⟨⟨rfl, sA.ok⟩, ⟨(Sm.int (i := -t) (by omega)).shaped (by decide), sA.shaped (by decide)⟩, ?_⟩
        (repeat ((conv => whnf); first | refine ⟨rfl, ?_⟩ | refine ⟨⟨rfl, rfl⟩, ?_⟩ | refine ⟨⟨rfl, rfl, rfl⟩, ?_⟩ | refine br_t rfl ?_ | refine br_f rfl ?_ | refine ⟨by decide, ?_⟩ | refine ⟨Nat.le_of_ble_eq_true rfl, ?_⟩ | refine ⟨_, (rfl : @L2.atI LV _ _ = some _), ?_⟩ | refine ⟨(show (0 : Int) < _ from by decide), ?_⟩ | refine ⟨⟨by decide, by decide⟩, ?_⟩ | refine ⟨.inl ⟨by decide, by decide⟩, ?_⟩ | refine ⟨.inr ⟨by decide, by decide⟩, ?_⟩)); (conv => whnf)
        rw [any_ilv]
        refine ⟨fun w => ?_, fun w => ?_⟩
        · rw [if_neg (by intro w2; rw [w2] at w; cases w)] at sn
          have d := ddl_sn (opn A (C.take j)) t
          rw [← sn] at d
          (repeat ((conv => whnf); first | refine ⟨rfl, ?_⟩ | refine ⟨⟨rfl, rfl⟩, ?_⟩ | refine ⟨⟨rfl, rfl, rfl⟩, ?_⟩ | refine br_t rfl ?_ | refine br_f rfl ?_ | refine ⟨by decide, ?_⟩ | refine ⟨Nat.le_of_ble_eq_true rfl, ?_⟩ | refine ⟨_, (rfl : @L2.atI LV _ _ = some _), ?_⟩ | refine ⟨(show (0 : Int) < _ from by decide), ?_⟩ | refine ⟨⟨by decide, by decide⟩, ?_⟩ | refine ⟨.inl ⟨by decide, by decide⟩, ?_⟩ | refine ⟨.inr ⟨by decide, by decide⟩, ?_⟩)); (conv => whnf)
          refine ⟨⟨rfl, sD.ok⟩, ⟨(Sm.int (i := t) (by omega)).shaped (by decide), sD.shaped (by decide)⟩, ?_⟩
          (repeat ((conv => whnf); first | refine ⟨rfl, ?_⟩ | refine ⟨⟨rfl, rfl⟩, ?_⟩ | refine ⟨⟨rfl, rfl, rfl⟩, ?_⟩ | refine br_t rfl ?_ | refine br_f rfl ?_ | refine ⟨by decide, ?_⟩ | refine ⟨Nat.le_of_ble_eq_true rfl, ?_⟩ | refine ⟨_, (rfl : @L2.atI LV _ _ = some _), ?_⟩ | refine ⟨(show (0 : Int) < _ from by decide), ?_⟩ | refine ⟨⟨by decide, by decide⟩, ?_⟩ | refine ⟨.inl ⟨by decide, by decide⟩, ?_⟩ | refine ⟨.inr ⟨by decide, by decide⟩, ?_⟩)); (conv => whnf)
          rw [any_ilv]
          refine ⟨fun w2 => ?_, fun w2 => ?_⟩
          · rw [if_neg (by intro w3; rw [w3] at w2; cases w2)] at d
            (repeat ((conv => whnf); first | refine ⟨rfl, ?_⟩ | refine ⟨⟨rfl, rfl⟩, ?_⟩ | refine ⟨⟨rfl, rfl, rfl⟩, ?_⟩ | refine br_t rfl ?_ | refine br_f rfl ?_ | refine ⟨by decide, ?_⟩ | refine ⟨Nat.le_of_ble_eq_true rfl, ?_⟩ | refine ⟨_, (rfl : @L2.atI LV _ _ = some _), ?_⟩ | refine ⟨(show (0 : Int) < _ from by decide), ?_⟩ | refine ⟨⟨by decide, by decide⟩, ?_⟩ | refine ⟨.inl ⟨by decide, by decide⟩, ?_⟩ | refine ⟨.inr ⟨by decide, by decide⟩, ?_⟩)); (conv => whnf)
            refine ⟨by rw [ilv_len]; omega, ?_⟩
            exact ⟨_, by rw [d, ← ilv_app]; rfl, rfl⟩
          · rw [if_pos (by cases e : (ddl (opn A (C.take j))).contains t with | true => rfl | false => rw [e] at w2; cases w2)] at d
            (repeat ((conv => whnf); first | refine ⟨rfl, ?_⟩ | refine ⟨⟨rfl, rfl⟩, ?_⟩ | refine ⟨⟨rfl, rfl, rfl⟩, ?_⟩ | refine br_t rfl ?_ | refine br_f rfl ?_ | refine ⟨by decide, ?_⟩ | refine ⟨Nat.le_of_ble_eq_true rfl, ?_⟩ | refine ⟨_, (rfl : @L2.atI LV _ _ = some _), ?_⟩ | refine ⟨(show (0 : Int) < _ from by decide), ?_⟩ | refine ⟨⟨by decide, by decide⟩, ?_⟩ | refine ⟨.inl ⟨by decide, by decide⟩, ?_⟩ | refine ⟨.inr ⟨by decide, by decide⟩, ?_⟩)); (conv => whnf)
            exact ⟨_, by rw [d]; rfl, rfl⟩
        · rw [if_pos (by cases e : A.contains (-t) with | true => rfl | false => rw [e] at w; cases w)] at sn
          (repeat ((conv => whnf); first | refine ⟨rfl, ?_⟩ | refine ⟨⟨rfl, rfl⟩, ?_⟩ | refine ⟨⟨rfl, rfl, rfl⟩, ?_⟩ | refine br_t rfl ?_ | refine br_f rfl ?_ | refine ⟨by decide, ?_⟩ | refine ⟨Nat.le_of_ble_eq_true rfl, ?_⟩ | refine ⟨_, (rfl : @L2.atI LV _ _ = some _), ?_⟩ | refine ⟨(show (0 : Int) < _ from by decide), ?_⟩ | refine ⟨⟨by decide, by decide⟩, ?_⟩ | refine ⟨.inl ⟨by decide, by decide⟩, ?_⟩ | refine ⟨.inr ⟨by decide, by decide⟩, ?_⟩)); (conv => whnf)
          exact ⟨_, by rw [sn]; rfl, rfl⟩
      · rintro Λ ⟨e4, rfl, h4⟩
        rw [ilv_len, List.take_length]
        have ho4 := opn_le (A := A) hc4'
        have ol := opn_len A C
        generalize opn A C = o at hst ho4 ol
        have dl := ddl_len o
        by_cases ho : o = []
        · rw [if_pos ho] at hst
          rw [← hst] at hk
          subst ho
          (repeat ((conv => whnf); first | refine ⟨rfl, ?_⟩ | refine ⟨⟨rfl, rfl⟩, ?_⟩ | refine ⟨⟨rfl, rfl, rfl⟩, ?_⟩ | refine br_t rfl ?_ | refine br_f rfl ?_ | refine ⟨by decide, ?_⟩ | refine ⟨Nat.le_of_ble_eq_true rfl, ?_⟩ | refine ⟨_, (rfl : @L2.atI LV _ _ = some _), ?_⟩ | refine ⟨(show (0 : Int) < _ from by decide), ?_⟩ | refine ⟨⟨by decide, by decide⟩, ?_⟩ | refine ⟨.inl ⟨by decide, by decide⟩, ?_⟩ | refine ⟨.inr ⟨by decide, by decide⟩, ?_⟩)); (conv => whnf)
          exact hk
        · rw [if_neg ho] at hst
          have dn : ddl o ≠ [] := fun z => ho (ddl_nil.mp z)
          have dp : 0 < (ddl o).length := List.length_pos_iff.mpr dn
          (repeat ((conv => whnf); first | refine ⟨rfl, ?_⟩ | refine ⟨⟨rfl, rfl⟩, ?_⟩ | refine ⟨⟨rfl, rfl, rfl⟩, ?_⟩ | refine br_t rfl ?_ | refine br_f rfl ?_ | refine ⟨by decide, ?_⟩ | refine ⟨Nat.le_of_ble_eq_true rfl, ?_⟩ | refine ⟨_, (rfl : @L2.atI LV _ _ = some _), ?_⟩ | refine ⟨(show (0 : Int) < _ from by decide), ?_⟩ | refine ⟨⟨by decide, by decide⟩, ?_⟩ | refine ⟨.inl ⟨by decide, by decide⟩, ?_⟩ | refine ⟨.inr ⟨by decide, by decide⟩, ?_⟩)); (conv => whnf)
          rw [ilv_len]
          refine br_f (xf_f (by omega)) ?_
          (repeat ((conv => whnf); first | refine ⟨rfl, ?_⟩ | refine ⟨⟨rfl, rfl⟩, ?_⟩ | refine ⟨⟨rfl, rfl, rfl⟩, ?_⟩ | refine br_t rfl ?_ | refine br_f rfl ?_ | refine ⟨by decide, ?_⟩ | refine ⟨Nat.le_of_ble_eq_true rfl, ?_⟩ | refine ⟨_, (rfl : @L2.atI LV _ _ = some _), ?_⟩ | refine ⟨(show (0 : Int) < _ from by decide), ?_⟩ | refine ⟨⟨by decide, by decide⟩, ?_⟩ | refine ⟨.inl ⟨by decide, by decide⟩, ?_⟩ | refine ⟨.inr ⟨by decide, by decide⟩, ?_⟩)); (conv => whnf)
          rw [ilv_len]
          refine br_c (fun w => ?_) (fun w => ?_)
          · rw [if_pos (by omega)] at hst
            rw [← hst] at hk
            (repeat ((conv => whnf); first | refine ⟨rfl, ?_⟩ | refine ⟨⟨rfl, rfl⟩, ?_⟩ | refine ⟨⟨rfl, rfl, rfl⟩, ?_⟩ | refine br_t rfl ?_ | refine br_f rfl ?_ | refine ⟨by decide, ?_⟩ | refine ⟨Nat.le_of_ble_eq_true rfl, ?_⟩ | refine ⟨_, (rfl : @L2.atI LV _ _ = some _), ?_⟩ | refine ⟨(show (0 : Int) < _ from by decide), ?_⟩ | refine ⟨⟨by decide, by decide⟩, ?_⟩ | refine ⟨.inl ⟨by decide, by decide⟩, ?_⟩ | refine ⟨.inr ⟨by decide, by decide⟩, ?_⟩)); (conv => whnf)
            exact hk
          · rw [if_neg (by omega), ← ddl_head ho] at hst
            (repeat ((conv => whnf); first | refine ⟨rfl, ?_⟩ | refine ⟨⟨rfl, rfl⟩, ?_⟩ | refine ⟨⟨rfl, rfl, rfl⟩, ?_⟩ | refine br_t rfl ?_ | refine br_f rfl ?_ | refine ⟨by decide, ?_⟩ | refine ⟨Nat.le_of_ble_eq_true rfl, ?_⟩ | refine ⟨_, (rfl : @L2.atI LV _ _ = some _), ?_⟩ | refine ⟨(show (0 : Int) < _ from by decide), ?_⟩ | refine ⟨⟨by decide, by decide⟩, ?_⟩ | refine ⟨.inl ⟨by decide, by decide⟩, ?_⟩ | refine ⟨.inr ⟨by decide, by decide⟩, ?_⟩)); (conv => whnf)
            refine ⟨_, ilv_at0 dn, ?_⟩
            (repeat ((conv => whnf); first | refine ⟨rfl, ?_⟩ | refine ⟨⟨rfl, rfl⟩, ?_⟩ | refine ⟨⟨rfl, rfl, rfl⟩, ?_⟩ | refine br_t rfl ?_ | refine br_f rfl ?_ | refine ⟨by decide, ?_⟩ | refine ⟨Nat.le_of_ble_eq_true rfl, ?_⟩ | refine ⟨_, (rfl : @L2.atI LV _ _ = some _), ?_⟩ | refine ⟨(show (0 : Int) < _ from by decide), ?_⟩ | refine ⟨⟨by decide, by decide⟩, ?_⟩ | refine ⟨.inl ⟨by decide, by decide⟩, ?_⟩ | refine ⟨.inr ⟨by decide, by decide⟩, ?_⟩)); (conv => whnf)
            refine ⟨by rw [ilv_len]; omega, ?_⟩
            refine ⟨A ++ [(ddl o).headD 0], _, _, _, by rw [← ilv_app]; rfl, h4, rfl, rfl, by rw [List.length_append]; show A.length + 1 ≤ _; omega, fun t ht => ?_, hst⟩
            rcases List.mem_append.mp ht with ht | ht
            · exact hA4 t ht
            · rw [List.mem_singleton.mp ht]
              refine ho4 _ ?_
              rw [ddl_head ho]
              cases o with
              | nil => exact absurd rfl ho
              | cons x r => exact List.mem_cons_self ..
    · rintro Λ ⟨A, e4, e5, e6, rfl, h4, h5, h6, hAl, hA4, hst⟩
      rw [ilv_len, List.drop_length] at hst
      rw [← hst] at hk
      (repeat ((conv => whnf); first | refine ⟨rfl, ?_⟩ | refine ⟨⟨rfl, rfl⟩, ?_⟩ | refine ⟨⟨rfl, rfl, rfl⟩, ?_⟩ | refine br_t rfl ?_ | refine br_f rfl ?_ | refine ⟨by decide, ?_⟩ | refine ⟨Nat.le_of_ble_eq_true rfl, ?_⟩ | refine ⟨_, (rfl : @L2.atI LV _ _ = some _), ?_⟩ | refine ⟨(show (0 : Int) < _ from by decide), ?_⟩ | refine ⟨⟨by decide, by decide⟩, ?_⟩ | refine ⟨.inl ⟨by decide, by decide⟩, ?_⟩ | refine ⟨.inr ⟨by decide, by decide⟩, ?_⟩)); (conv => whnf)
      exact hk
  · exact h.elim

abbrev sp_law : FSp := fun es k => match es with
  | [.v (.scr ns)] => scrOk ns ∧ k (.ok (.bl true) es)
  | _ => False
def ls_law : LS := (lSeq (lSetX 1 stO 1 gState (lCons (lVar 0) lNil))
      (lSeq (lSet 2 (lNew (lLc (lRng1 (lCons (lCallM 2 sp_law_take (lmO 1 (lmV (lC (.int 9)) lmNil))) lNil)) (lgName 3) lYes (lCallM 3 sp_law_clause (lmO 1 (lmV (lC (.int 4)) (lmV (lCallM 2 sp_law_take (lmO 1 (lmV (lC (.int 4)) lmNil))) lmNil)))) [3])))
      (lSeq (lSet 4 (lCallM 3 sp_law_clause (lmO 1 (lmV (lC (.int 4)) (lmV (lCallM 2 sp_law_take (lmO 1 (lmV (lC (.int 4)) lmNil))) lmNil)))))
      (lSeq (lSetL 5 (lLc (lRng1 (lCons (lCallM 2 sp_law_take (lmO 1 (lmV (lC (.int 9)) lmNil))) lNil)) (lgName 3) lYes (lOp fSub (lCallM 2 sp_law_take (lmO 1 (lmV (lOp fAdd (lCB fLen (lCons (lVar 2) lNil)) (lC (.int 2))) lmNil))) (lC (.int 1))) [3]))
      (lSeq (lIf (lTest (lOp fGt (lCallM 2 sp_law_take (lmO 1 (lmV (lC (.int 4)) lmNil))) (lC (.int 0))))
      (lSeq (lSetW 5 2 sp_law_good_hints (lmV (lVar 2) (lmV (lVar 4) lmNil)))
      (lIf (lAnd (lTest (lOp fGt (lLenO 5) (lC (.int 0)))) (lTest (lOp (fEq false) (lCallM 2 sp_law_take (lmO 1 (lmV (lC (.int 4)) lmNil))) (lC (.int 0)))))
      (lSto 5 (lCallM 2 sp_law_take (lmO 1 (lmV (lLenO 5) lmNil))) (lCallM 2 sp_law_take (lmO 1 (lmV (lCB fLen (lCons (lVar 2) lNil)) lmNil)))) lNext)) lNext)
      (lSeq (lSet 6 (lCB fRepr (lCons (lTup (lCons (lVar 2) (lCons (lVar 4) (lCons (lVar 5) lNil)))) lNil)))
      (lSeq (lSet 7 (lCall 3 sp_check_step (lCons (lVar 2) (lCons (lVar 4) (lCons (lVar 5) lNil)))))
      (lSeq (lIf (lOr (lTest (lOp (fEq true) (lCB fRepr (lCons (lVar 7) lNil)) (lCB fRepr (lCons (lCall 3 sp_law_right (lCons (lVar 2) (lCons (lVar 4) (lCons (lVar 5) lNil)))) lNil)))) (lTest (lOp (fEq true) (lCB fRepr (lCons (lTup (lCons (lVar 2) (lCons (lVar 4) (lCons (lVar 5) lNil)))) lNil)) (lVar 6))))
      (lRet (lC (.bl false))) lNext)
      (lSeq (lIf (lTest (lVar 7))
      (lFor (lItL (lCall 2 sp_law_models (lCons (lVar 2) (lCons (lC (.int 4)) lNil)))) (lgName 8)
      (lIf (lNot (lTest (lCall 2 sp_law_true (lCons (lVar 4) (lCons (lVar 8) lNil)))))
      (lRet (lC (.bl false))) lNext)) lNext)
      (lRet (lC (.bl true))))))))))))
theorem lg_law : ∀ es k, es.length = 1 → sp_law es k → ls_law (es ++ List.replicate 8 .no) (outK es k) := by
  intro es k hl h
  unfold sp_law at h
  split at h
  · obtain ⟨hs0, hk⟩ := h
    rename_i ns
    (repeat ((conv => whnf); first | refine ⟨rfl, ?_⟩ | refine ⟨⟨rfl, rfl⟩, ?_⟩ | refine ⟨⟨rfl, rfl, rfl⟩, ?_⟩ | refine br_t rfl ?_ | refine br_f rfl ?_ | refine ⟨by decide, ?_⟩ | refine ⟨Nat.le_of_ble_eq_true rfl, ?_⟩ | refine ⟨_, (rfl : @L2.atI LV _ _ = some _), ?_⟩ | refine ⟨(show (0 : Int) < _ from by decide), ?_⟩ | refine ⟨⟨by decide, by decide⟩, ?_⟩ | refine ⟨.inl ⟨by decide, by decide⟩, ?_⟩ | refine ⟨.inr ⟨by decide, by decide⟩, ?_⟩)); (conv => whnf)
    refine ⟨⟨ns, rfl, hs0⟩, rfl, ?_⟩
    (repeat ((conv => whnf); first | refine ⟨rfl, ?_⟩ | refine ⟨⟨rfl, rfl⟩, ?_⟩ | refine ⟨⟨rfl, rfl, rfl⟩, ?_⟩ | refine br_t rfl ?_ | refine br_f rfl ?_ | refine ⟨by decide, ?_⟩ | refine ⟨Nat.le_of_ble_eq_true rfl, ?_⟩ | refine ⟨_, (rfl : @L2.atI LV _ _ = some _), ?_⟩ | refine ⟨(show (0 : Int) < _ from by decide), ?_⟩ | refine ⟨⟨by decide, by decide⟩, ?_⟩ | refine ⟨.inl ⟨by decide, by decide⟩, ?_⟩ | refine ⟨.inr ⟨by decide, by decide⟩, ?_⟩)); (conv => whnf)
    intro nc' z0 z1
    obtain ⟨nc, rfl⟩ := natz z0
    
    have z1 : (nc : Int) < 9 := z1
    (repeat ((conv => whnf); first | refine ⟨rfl, ?_⟩ | refine ⟨⟨rfl, rfl⟩, ?_⟩ | refine ⟨⟨rfl, rfl, rfl⟩, ?_⟩ | refine br_t rfl ?_ | refine br_f rfl ?_ | refine ⟨by decide, ?_⟩ | refine ⟨Nat.le_of_ble_eq_true rfl, ?_⟩ | refine ⟨_, (rfl : @L2.atI LV _ _ = some _), ?_⟩ | refine ⟨(show (0 : Int) < _ from by decide), ?_⟩ | refine ⟨⟨by decide, by decide⟩, ?_⟩ | refine ⟨.inl ⟨by decide, by decide⟩, ?_⟩ | refine ⟨.inr ⟨by decide, by decide⟩, ?_⟩)); (conv => whnf)
    refine ⟨rok1 (by omega), rok2 (by omega), ?_⟩
    (repeat ((conv => whnf); first | refine ⟨rfl, ?_⟩ | refine ⟨⟨rfl, rfl⟩, ?_⟩ | refine ⟨⟨rfl, rfl, rfl⟩, ?_⟩ | refine br_t rfl ?_ | refine br_f rfl ?_ | refine ⟨by decide, ?_⟩ | refine ⟨Nat.le_of_ble_eq_true rfl, ?_⟩ | refine ⟨_, (rfl : @L2.atI LV _ _ = some _), ?_⟩ | refine ⟨(show (0 : Int) < _ from by decide), ?_⟩ | refine ⟨⟨by decide, by decide⟩, ?_⟩ | refine ⟨.inl ⟨by decide, by decide⟩, ?_⟩ | refine ⟨.inr ⟨by decide, by decide⟩, ?_⟩)); (conv => whnf)
    refine ⟨fun i acc Λ => ∃ cs : List (List Int), Λ = [.v (.scr ns), .x stO, .no, .no, .no, .no, .no, .no, .no] ∧ acc = clv cs ∧ cs.length = i ∧ (∀ c ∈ cs, c.length ≤ 3 ∧ ∀ t ∈ c, t ≠ 0 ∧ t.natAbs ≤ 4), ⟨[], rfl, rfl, rfl, fun c hc => (by cases hc)⟩, ?_, ?_⟩
    · rintro i y acc Λ hy ⟨cs, rfl, rfl, hcl, hcs⟩
      rw [toN] at hy
      obtain ⟨hi, rfl⟩ := rng0_inv hy
      (repeat ((conv => whnf); first | refine ⟨rfl, ?_⟩ | refine ⟨⟨rfl, rfl⟩, ?_⟩ | refine ⟨⟨rfl, rfl, rfl⟩, ?_⟩ | refine br_t rfl ?_ | refine br_f rfl ?_ | refine ⟨by decide, ?_⟩ | refine ⟨Nat.le_of_ble_eq_true rfl, ?_⟩ | refine ⟨_, (rfl : @L2.atI LV _ _ = some _), ?_⟩ | refine ⟨(show (0 : Int) < _ from by decide), ?_⟩ | refine ⟨⟨by decide, by decide⟩, ?_⟩ | refine ⟨.inl ⟨by decide, by decide⟩, ?_⟩ | refine ⟨.inr ⟨by decide, by decide⟩, ?_⟩)); (conv => whnf)
      intro sz' z0 z2
      obtain ⟨sz, rfl⟩ := natz z0
      
      have z2 : (sz : Int) < 4 := z2
      (repeat ((conv => whnf); first | refine ⟨rfl, ?_⟩ | refine ⟨⟨rfl, rfl⟩, ?_⟩ | refine ⟨⟨rfl, rfl, rfl⟩, ?_⟩ | refine br_t rfl ?_ | refine br_f rfl ?_ | refine ⟨by decide, ?_⟩ | refine ⟨Nat.le_of_ble_eq_true rfl, ?_⟩ | refine ⟨_, (rfl : @L2.atI LV _ _ = some _), ?_⟩ | refine ⟨(show (0 : Int) < _ from by decide), ?_⟩ | refine ⟨⟨by decide, by decide⟩, ?_⟩ | refine ⟨.inl ⟨by decide, by decide⟩, ?_⟩ | refine ⟨.inr ⟨by decide, by decide⟩, ?_⟩)); (conv => whnf)
      refine ⟨4, sz, rfl, rfl, by decide, by decide, by omega, fun c hc hct => ?_⟩
      (repeat ((conv => whnf); first | refine ⟨rfl, ?_⟩ | refine ⟨⟨rfl, rfl⟩, ?_⟩ | refine ⟨⟨rfl, rfl, rfl⟩, ?_⟩ | refine br_t rfl ?_ | refine br_f rfl ?_ | refine ⟨by decide, ?_⟩ | refine ⟨Nat.le_of_ble_eq_true rfl, ?_⟩ | refine ⟨_, (rfl : @L2.atI LV _ _ = some _), ?_⟩ | refine ⟨(show (0 : Int) < _ from by decide), ?_⟩ | refine ⟨⟨by decide, by decide⟩, ?_⟩ | refine ⟨.inl ⟨by decide, by decide⟩, ?_⟩ | refine ⟨.inr ⟨by decide, by decide⟩, ?_⟩)); (conv => whnf)
      refine ⟨by rw [clv_len]; omega, cs ++ [c], rfl, by rw [← clv_app]; rfl, by rw [List.length_append, hcl]; rfl, fun d hd => ?_⟩
      rcases List.mem_append.mp hd with hd | hd
      · exact hcs d hd
      · rw [List.mem_singleton.mp hd]
        exact ⟨hc, hct⟩
    rintro acc Λ ⟨cs, rfl, rfl, hcl, hcs⟩
    rw [rngL_len, toN] at hcl
    (repeat ((conv => whnf); first | refine ⟨rfl, ?_⟩ | refine ⟨⟨rfl, rfl⟩, ?_⟩ | refine ⟨⟨rfl, rfl, rfl⟩, ?_⟩ | refine br_t rfl ?_ | refine br_f rfl ?_ | refine ⟨by decide, ?_⟩ | refine ⟨Nat.le_of_ble_eq_true rfl, ?_⟩ | refine ⟨_, (rfl : @L2.atI LV _ _ = some _), ?_⟩ | refine ⟨(show (0 : Int) < _ from by decide), ?_⟩ | refine ⟨⟨by decide, by decide⟩, ?_⟩ | refine ⟨.inl ⟨by decide, by decide⟩, ?_⟩ | refine ⟨.inr ⟨by decide, by decide⟩, ?_⟩)); (conv => whnf)
    intro sz' z0 z2
    obtain ⟨sz, rfl⟩ := natz z0
    
    have z2 : (sz : Int) < 4 := z2
    (repeat ((conv => whnf); first | refine ⟨rfl, ?_⟩ | refine ⟨⟨rfl, rfl⟩, ?_⟩ | refine ⟨⟨rfl, rfl, rfl⟩, ?_⟩ | refine br_t rfl ?_ | refine br_f rfl ?_ | refine ⟨by decide, ?_⟩ | refine ⟨Nat.le_of_ble_eq_true rfl, ?_⟩ | refine ⟨_, (rfl : @L2.atI LV _ _ = some _), ?_⟩ | refine ⟨(show (0 : Int) < _ from by decide), ?_⟩ | refine ⟨⟨by decide, by decide⟩, ?_⟩ | refine ⟨.inl ⟨by decide, by decide⟩, ?_⟩ | refine ⟨.inr ⟨by decide, by decide⟩, ?_⟩)); (conv => whnf)
    refine ⟨4, sz, rfl, rfl, by decide, by decide, by omega, fun c hc hct => ?_⟩
    (repeat ((conv => whnf); first | refine ⟨rfl, ?_⟩ | refine ⟨⟨rfl, rfl⟩, ?_⟩ | refine ⟨⟨rfl, rfl, rfl⟩, ?_⟩ | refine br_t rfl ?_ | refine br_f rfl ?_ | refine ⟨by decide, ?_⟩ | refine ⟨Nat.le_of_ble_eq_true rfl, ?_⟩ | refine ⟨_, (rfl : @L2.atI LV _ _ = some _), ?_⟩ | refine ⟨(show (0 : Int) < _ from by decide), ?_⟩ | refine ⟨⟨by decide, by decide⟩, ?_⟩ | refine ⟨.inl ⟨by decide, by decide⟩, ?_⟩ | refine ⟨.inr ⟨by decide, by decide⟩, ?_⟩)); (conv => whnf)
    intro nh' z0 z3
    obtain ⟨nh, rfl⟩ := natz z0
    
    have z3 : (nh : Int) < 9 := z3
    (repeat ((conv => whnf); first | refine ⟨rfl, ?_⟩ | refine ⟨⟨rfl, rfl⟩, ?_⟩ | refine ⟨⟨rfl, rfl, rfl⟩, ?_⟩ | refine br_t rfl ?_ | refine br_f rfl ?_ | refine ⟨by decide, ?_⟩ | refine ⟨Nat.le_of_ble_eq_true rfl, ?_⟩ | refine ⟨_, (rfl : @L2.atI LV _ _ = some _), ?_⟩ | refine ⟨(show (0 : Int) < _ from by decide), ?_⟩ | refine ⟨⟨by decide, by decide⟩, ?_⟩ | refine ⟨.inl ⟨by decide, by decide⟩, ?_⟩ | refine ⟨.inr ⟨by decide, by decide⟩, ?_⟩)); (conv => whnf)
    refine ⟨rok1 (by omega), rok2 (by omega), ?_⟩
    have key : ∀ (hs : List Int), hs.length ≤ 100 → (∀ h ∈ hs, h.natAbs ≤ 100) → (lSeq (lSet 6 (lCB fRepr (lCons (lTup (lCons (lVar 2) (lCons (lVar 4) (lCons (lVar 5) lNil)))) lNil)))
          (lSeq (lSet 7 (lCall 3 sp_check_step (lCons (lVar 2) (lCons (lVar 4) (lCons (lVar 5) lNil)))))
          (lSeq (lIf (lOr (lTest (lOp (fEq true) (lCB fRepr (lCons (lVar 7) lNil)) (lCB fRepr (lCons (lCall 3 sp_law_right (lCons (lVar 2) (lCons (lVar 4) (lCons (lVar 5) lNil)))) lNil)))) (lTest (lOp (fEq true) (lCB fRepr (lCons (lTup (lCons (lVar 2) (lCons (lVar 4) (lCons (lVar 5) lNil)))) lNil)) (lVar 6))))
          (lRet (lC (.bl false))) lNext)
          (lSeq (lIf (lTest (lVar 7))
          (lFor (lItL (lCall 2 sp_law_models (lCons (lVar 2) (lCons (lC (.int 4)) lNil)))) (lgName 8)
          (lIf (lNot (lTest (lCall 2 sp_law_true (lCons (lVar 4) (lCons (lVar 8) lNil)))))
          (lRet (lC (.bl false))) lNext)) lNext)
          (lRet (lC (.bl true))))))) [.v (.scr ns), .x stO, .v (.lst (clv cs)), .no, .v (.tup (ilv c)), .l (ilv hs), .no, .no, .no] (outK [.v (.scr ns)] k) := fun hs hhl hh => by
      have s1 : Sm (.lst (clv cs)) 2 2000 := (clv_sm (m := 9) (by omega) fun c hc => ⟨(hcs c hc).1, fun t ht => by have := ((hcs c hc).2 t ht).2; omega⟩).mono (Nat.le_refl _) (by decide)
      have s2 : Sm (.tup (ilv c)) 2 2000 := (ilv_smT (n := 3) (fun t ht => by have := (hct t ht).2; omega) hc).mono (by decide) (by decide)
      have s3 : Sm (.lst (ilv hs)) 2 5000 := (ilv_sm (n := 100) (fun t ht => by have := hh t ht; omega) hhl).mono (by decide) (by decide)
      have st := Sm.tup (Sms.cons s1 (.cons s2 (.one s3)))
      (repeat ((conv => whnf); first | refine ⟨rfl, ?_⟩ | refine ⟨⟨rfl, rfl⟩, ?_⟩ | refine ⟨⟨rfl, rfl, rfl⟩, ?_⟩ | refine br_t rfl ?_ | refine br_f rfl ?_ | refine ⟨by decide, ?_⟩ | refine ⟨Nat.le_of_ble_eq_true rfl, ?_⟩ | refine ⟨_, (rfl : @L2.atI LV _ _ = some _), ?_⟩ | refine ⟨(show (0 : Int) < _ from by decide), ?_⟩ | refine ⟨⟨by decide, by decide⟩, ?_⟩ | refine ⟨.inl ⟨by decide, by decide⟩, ?_⟩ | refine ⟨.inr ⟨by decide, by decide⟩, ?_⟩)); (conv => whnf)
      refine ⟨st.shw (by decide) (by decide), ?_⟩
      (repeat ((conv => whnf); first | refine ⟨rfl, ?_⟩ | refine ⟨⟨rfl, rfl⟩, ?_⟩ | refine ⟨⟨rfl, rfl, rfl⟩, ?_⟩ | refine br_t rfl ?_ | refine br_f rfl ?_ | refine ⟨by decide, ?_⟩ | refine ⟨Nat.le_of_ble_eq_true rfl, ?_⟩ | refine ⟨_, (rfl : @L2.atI LV _ _ = some _), ?_⟩ | refine ⟨(show (0 : Int) < _ from by decide), ?_⟩ | refine ⟨⟨by decide, by decide⟩, ?_⟩ | refine ⟨.inl ⟨by decide, by decide⟩, ?_⟩ | refine ⟨.inr ⟨by decide, by decide⟩, ?_⟩)); (conv => whnf)
      refine ⟨cs, c, hs, rfl, rfl, rfl, hcs, hc, by omega, ?_⟩
      (repeat ((conv => whnf); first | refine ⟨rfl, ?_⟩ | refine ⟨⟨rfl, rfl⟩, ?_⟩ | refine ⟨⟨rfl, rfl, rfl⟩, ?_⟩ | refine br_t rfl ?_ | refine br_f rfl ?_ | refine ⟨by decide, ?_⟩ | refine ⟨Nat.le_of_ble_eq_true rfl, ?_⟩ | refine ⟨_, (rfl : @L2.atI LV _ _ = some _), ?_⟩ | refine ⟨(show (0 : Int) < _ from by decide), ?_⟩ | refine ⟨⟨by decide, by decide⟩, ?_⟩ | refine ⟨.inl ⟨by decide, by decide⟩, ?_⟩ | refine ⟨.inr ⟨by decide, by decide⟩, ?_⟩)); (conv => whnf)
      refine ⟨(Sm.bl _).shw (by decide) (by decide), ?_⟩
      (repeat ((conv => whnf); first | refine ⟨rfl, ?_⟩ | refine ⟨⟨rfl, rfl⟩, ?_⟩ | refine ⟨⟨rfl, rfl, rfl⟩, ?_⟩ | refine br_t rfl ?_ | refine br_f rfl ?_ | refine ⟨by decide, ?_⟩ | refine ⟨Nat.le_of_ble_eq_true rfl, ?_⟩ | refine ⟨_, (rfl : @L2.atI LV _ _ = some _), ?_⟩ | refine ⟨(show (0 : Int) < _ from by decide), ?_⟩ | refine ⟨⟨by decide, by decide⟩, ?_⟩ | refine ⟨.inl ⟨by decide, by decide⟩, ?_⟩ | refine ⟨.inr ⟨by decide, by decide⟩, ?_⟩)); (conv => whnf)
      refine ⟨cs, c, hs, rfl, rfl, rfl, hcs, hc, fun t ht => (hct t ht).2, by omega, ?_⟩
      (repeat ((conv => whnf); first | refine ⟨rfl, ?_⟩ | refine ⟨⟨rfl, rfl⟩, ?_⟩ | refine ⟨⟨rfl, rfl, rfl⟩, ?_⟩ | refine br_t rfl ?_ | refine br_f rfl ?_ | refine ⟨by decide, ?_⟩ | refine ⟨Nat.le_of_ble_eq_true rfl, ?_⟩ | refine ⟨_, (rfl : @L2.atI LV _ _ = some _), ?_⟩ | refine ⟨(show (0 : Int) < _ from by decide), ?_⟩ | refine ⟨⟨by decide, by decide⟩, ?_⟩ | refine ⟨.inl ⟨by decide, by decide⟩, ?_⟩ | refine ⟨.inr ⟨by decide, by decide⟩, ?_⟩)); (conv => whnf)
      refine ⟨(Sm.bl _).shw (by decide) (by decide), ?_⟩
      (repeat ((conv => whnf); first | refine ⟨rfl, ?_⟩ | refine ⟨⟨rfl, rfl⟩, ?_⟩ | refine ⟨⟨rfl, rfl, rfl⟩, ?_⟩ | refine br_t rfl ?_ | refine br_f rfl ?_ | refine ⟨by decide, ?_⟩ | refine ⟨Nat.le_of_ble_eq_true rfl, ?_⟩ | refine ⟨_, (rfl : @L2.atI LV _ _ = some _), ?_⟩ | refine ⟨(show (0 : Int) < _ from by decide), ?_⟩ | refine ⟨⟨by decide, by decide⟩, ?_⟩ | refine ⟨.inl ⟨by decide, by decide⟩, ?_⟩ | refine ⟨.inr ⟨by decide, by decide⟩, ?_⟩)); (conv => whnf)
      refine br_f (xt_f rfl) ?_
      (repeat ((conv => whnf); first | refine ⟨rfl, ?_⟩ | refine ⟨⟨rfl, rfl⟩, ?_⟩ | refine ⟨⟨rfl, rfl, rfl⟩, ?_⟩ | refine br_t rfl ?_ | refine br_f rfl ?_ | refine ⟨by decide, ?_⟩ | refine ⟨Nat.le_of_ble_eq_true rfl, ?_⟩ | refine ⟨_, (rfl : @L2.atI LV _ _ = some _), ?_⟩ | refine ⟨(show (0 : Int) < _ from by decide), ?_⟩ | refine ⟨⟨by decide, by decide⟩, ?_⟩ | refine ⟨.inl ⟨by decide, by decide⟩, ?_⟩ | refine ⟨.inr ⟨by decide, by decide⟩, ?_⟩)); (conv => whnf)
      refine ⟨st.shw (by decide) (by decide), ?_⟩
      (repeat ((conv => whnf); first | refine ⟨rfl, ?_⟩ | refine ⟨⟨rfl, rfl⟩, ?_⟩ | refine ⟨⟨rfl, rfl, rfl⟩, ?_⟩ | refine br_t rfl ?_ | refine br_f rfl ?_ | refine ⟨by decide, ?_⟩ | refine ⟨Nat.le_of_ble_eq_true rfl, ?_⟩ | refine ⟨_, (rfl : @L2.atI LV _ _ = some _), ?_⟩ | refine ⟨(show (0 : Int) < _ from by decide), ?_⟩ | refine ⟨⟨by decide, by decide⟩, ?_⟩ | refine ⟨.inl ⟨by decide, by decide⟩, ?_⟩ | refine ⟨.inr ⟨by decide, by decide⟩, ?_⟩)); (conv => whnf)
      refine br_f (xt_f rfl) ?_
      (repeat ((conv => whnf); first | refine ⟨rfl, ?_⟩ | refine ⟨⟨rfl, rfl⟩, ?_⟩ | refine ⟨⟨rfl, rfl, rfl⟩, ?_⟩ | refine br_t rfl ?_ | refine br_f rfl ?_ | refine ⟨by decide, ?_⟩ | refine ⟨Nat.le_of_ble_eq_true rfl, ?_⟩ | refine ⟨_, (rfl : @L2.atI LV _ _ = some _), ?_⟩ | refine ⟨(show (0 : Int) < _ from by decide), ?_⟩ | refine ⟨⟨by decide, by decide⟩, ?_⟩ | refine ⟨.inl ⟨by decide, by decide⟩, ?_⟩ | refine ⟨.inr ⟨by decide, by decide⟩, ?_⟩)); (conv => whnf)
      cases hR : stpF cs (ngl c) hs with
      | true =>
        refine br_t rfl ?_
        (repeat ((conv => whnf); first | refine ⟨rfl, ?_⟩ | refine ⟨⟨rfl, rfl⟩, ?_⟩ | refine ⟨⟨rfl, rfl, rfl⟩, ?_⟩ | refine br_t rfl ?_ | refine br_f rfl ?_ | refine ⟨by decide, ?_⟩ | refine ⟨Nat.le_of_ble_eq_true rfl, ?_⟩ | refine ⟨_, (rfl : @L2.atI LV _ _ = some _), ?_⟩ | refine ⟨(show (0 : Int) < _ from by decide), ?_⟩ | refine ⟨⟨by decide, by decide⟩, ?_⟩ | refine ⟨.inl ⟨by decide, by decide⟩, ?_⟩ | refine ⟨.inr ⟨by decide, by decide⟩, ?_⟩)); (conv => whnf)
        refine ⟨cs, rfl, rfl, by omega, hcs, fun ms hml hmp => ?_⟩
        (repeat ((conv => whnf); first | refine ⟨rfl, ?_⟩ | refine ⟨⟨rfl, rfl⟩, ?_⟩ | refine ⟨⟨rfl, rfl, rfl⟩, ?_⟩ | refine br_t rfl ?_ | refine br_f rfl ?_ | refine ⟨by decide, ?_⟩ | refine ⟨Nat.le_of_ble_eq_true rfl, ?_⟩ | refine ⟨_, (rfl : @L2.atI LV _ _ = some _), ?_⟩ | refine ⟨(show (0 : Int) < _ from by decide), ?_⟩ | refine ⟨⟨by decide, by decide⟩, ?_⟩ | refine ⟨.inl ⟨by decide, by decide⟩, ?_⟩ | refine ⟨.inr ⟨by decide, by decide⟩, ?_⟩)); (conv => whnf)
        refine ⟨fun i Λ => ∃ (e8 : Ent), Λ = [.v (.scr ns), .x stO, .v (.lst (clv cs)), .no, .v (.tup (ilv c)), .v (.lst (ilv hs)), .v (.str (shw (.tup [.lst (clv cs), .tup (ilv c), .lst (ilv hs)]))), .v (.bl true), e8] ∧ e8.pin = false, ⟨_, rfl, rfl⟩, ?_, ?_⟩
        · rintro i y Λ hy ⟨e8, rfl, h8⟩
          obtain ⟨hi, rfl⟩ := llv_get hy
          have hm : ms.getD i [] ∈ ms := by rw [List.getD_eq_getElem?_getD, List.getElem?_eq_getElem hi]; exact List.getElem_mem hi
          obtain ⟨m1, m2, m3⟩ := hmp _ hm
          have sd := sound m2 m3 (fun c hc t ht => ((hcs c hc).2 t ht).1) (fun t ht => (hct t ht).1) hR
          conv => whnf
          refine ⟨np h8, ?_⟩
          (repeat ((conv => whnf); first | refine ⟨rfl, ?_⟩ | refine ⟨⟨rfl, rfl⟩, ?_⟩ | refine ⟨⟨rfl, rfl, rfl⟩, ?_⟩ | refine br_t rfl ?_ | refine br_f rfl ?_ | refine ⟨by decide, ?_⟩ | refine ⟨Nat.le_of_ble_eq_true rfl, ?_⟩ | refine ⟨_, (rfl : @L2.atI LV _ _ = some _), ?_⟩ | refine ⟨(show (0 : Int) < _ from by decide), ?_⟩ | refine ⟨⟨by decide, by decide⟩, ?_⟩ | refine ⟨.inl ⟨by decide, by decide⟩, ?_⟩ | refine ⟨.inr ⟨by decide, by decide⟩, ?_⟩)); (conv => whnf)
          refine ⟨c, _, rfl, rfl, by omega, fun t ht => ⟨(hct t ht).1, by rw [m1]; exact (hct t ht).2⟩, ?_⟩
          (repeat ((conv => whnf); first | refine ⟨rfl, ?_⟩ | refine ⟨⟨rfl, rfl⟩, ?_⟩ | refine ⟨⟨rfl, rfl, rfl⟩, ?_⟩ | refine br_t rfl ?_ | refine br_f rfl ?_ | refine ⟨by decide, ?_⟩ | refine ⟨Nat.le_of_ble_eq_true rfl, ?_⟩ | refine ⟨_, (rfl : @L2.atI LV _ _ = some _), ?_⟩ | refine ⟨(show (0 : Int) < _ from by decide), ?_⟩ | refine ⟨⟨by decide, by decide⟩, ?_⟩ | refine ⟨.inl ⟨by decide, by decide⟩, ?_⟩ | refine ⟨.inr ⟨by decide, by decide⟩, ?_⟩)); (conv => whnf)
          refine br_f (by rw [sd]; rfl) ?_
          exact ⟨_, rfl, rfl⟩
        · rintro Λ ⟨e8, rfl, h8⟩
          (repeat ((conv => whnf); first | refine ⟨rfl, ?_⟩ | refine ⟨⟨rfl, rfl⟩, ?_⟩ | refine ⟨⟨rfl, rfl, rfl⟩, ?_⟩ | refine br_t rfl ?_ | refine br_f rfl ?_ | refine ⟨by decide, ?_⟩ | refine ⟨Nat.le_of_ble_eq_true rfl, ?_⟩ | refine ⟨_, (rfl : @L2.atI LV _ _ = some _), ?_⟩ | refine ⟨(show (0 : Int) < _ from by decide), ?_⟩ | refine ⟨⟨by decide, by decide⟩, ?_⟩ | refine ⟨.inl ⟨by decide, by decide⟩, ?_⟩ | refine ⟨.inr ⟨by decide, by decide⟩, ?_⟩)); (conv => whnf)
          exact hk
      | false =>
        refine br_f rfl ?_
        (repeat ((conv => whnf); first | refine ⟨rfl, ?_⟩ | refine ⟨⟨rfl, rfl⟩, ?_⟩ | refine ⟨⟨rfl, rfl, rfl⟩, ?_⟩ | refine br_t rfl ?_ | refine br_f rfl ?_ | refine ⟨by decide, ?_⟩ | refine ⟨Nat.le_of_ble_eq_true rfl, ?_⟩ | refine ⟨_, (rfl : @L2.atI LV _ _ = some _), ?_⟩ | refine ⟨(show (0 : Int) < _ from by decide), ?_⟩ | refine ⟨⟨by decide, by decide⟩, ?_⟩ | refine ⟨.inl ⟨by decide, by decide⟩, ?_⟩ | refine ⟨.inr ⟨by decide, by decide⟩, ?_⟩)); (conv => whnf)
        exact hk
    (repeat ((conv => whnf); first | refine ⟨rfl, ?_⟩ | refine ⟨⟨rfl, rfl⟩, ?_⟩ | refine ⟨⟨rfl, rfl, rfl⟩, ?_⟩ | refine br_t rfl ?_ | refine br_f rfl ?_ | refine ⟨by decide, ?_⟩ | refine ⟨Nat.le_of_ble_eq_true rfl, ?_⟩ | refine ⟨_, (rfl : @L2.atI LV _ _ = some _), ?_⟩ | refine ⟨(show (0 : Int) < _ from by decide), ?_⟩ | refine ⟨⟨by decide, by decide⟩, ?_⟩ | refine ⟨.inl ⟨by decide, by decide⟩, ?_⟩ | refine ⟨.inr ⟨by decide, by decide⟩, ?_⟩)); (conv => whnf)
    refine ⟨fun i acc Λ => ∃ hs : List Int, Λ = [.v (.scr ns), .x stO, .v (.lst (clv cs)), .no, .v (.tup (ilv c)), .no, .no, .no, .no] ∧ acc = ilv hs ∧ hs.length = i ∧ ∀ h ∈ hs, h.natAbs ≤ 100, ⟨[], rfl, rfl, rfl, fun c hc => (by cases hc)⟩, ?_, ?_⟩
    · rintro i y acc Λ hy ⟨hs, rfl, rfl, hhl, hh⟩
      rw [toN] at hy
      obtain ⟨hi, rfl⟩ := rng0_inv hy
      (repeat ((conv => whnf); first | refine ⟨rfl, ?_⟩ | refine ⟨⟨rfl, rfl⟩, ?_⟩ | refine ⟨⟨rfl, rfl, rfl⟩, ?_⟩ | refine br_t rfl ?_ | refine br_f rfl ?_ | refine ⟨by decide, ?_⟩ | refine ⟨Nat.le_of_ble_eq_true rfl, ?_⟩ | refine ⟨_, (rfl : @L2.atI LV _ _ = some _), ?_⟩ | refine ⟨(show (0 : Int) < _ from by decide), ?_⟩ | refine ⟨⟨by decide, by decide⟩, ?_⟩ | refine ⟨.inl ⟨by decide, by decide⟩, ?_⟩ | refine ⟨.inr ⟨by decide, by decide⟩, ?_⟩)); (conv => whnf)
      rw [clv_len]
      refine ⟨by omega, by omega, fun hv' z0 z4 => ?_⟩
      obtain ⟨hv, rfl⟩ := natz z0
      
      have z4 : (hv : Int) < (cs.length : Int) + 2 := z4
      (repeat ((conv => whnf); first | refine ⟨rfl, ?_⟩ | refine ⟨⟨rfl, rfl⟩, ?_⟩ | refine ⟨⟨rfl, rfl, rfl⟩, ?_⟩ | refine br_t rfl ?_ | refine br_f rfl ?_ | refine ⟨by decide, ?_⟩ | refine ⟨Nat.le_of_ble_eq_true rfl, ?_⟩ | refine ⟨_, (rfl : @L2.atI LV _ _ = some _), ?_⟩ | refine ⟨(show (0 : Int) < _ from by decide), ?_⟩ | refine ⟨⟨by decide, by decide⟩, ?_⟩ | refine ⟨.inl ⟨by decide, by decide⟩, ?_⟩ | refine ⟨.inr ⟨by decide, by decide⟩, ?_⟩)); (conv => whnf)
      refine ⟨by rw [ilv_len]; omega, hs ++ [(hv : Int) - 1], rfl, by rw [← ilv_app], by rw [List.length_append, hhl]; rfl, fun d hd => ?_⟩
      rcases List.mem_append.mp hd with hd | hd
      · exact hh d hd
      · rw [List.mem_singleton.mp hd]
        omega
    rintro acc Λ ⟨hs, rfl, rfl, hhl, hh⟩
    rw [rngL_len, toN] at hhl
    (repeat ((conv => whnf); first | refine ⟨rfl, ?_⟩ | refine ⟨⟨rfl, rfl⟩, ?_⟩ | refine ⟨⟨rfl, rfl, rfl⟩, ?_⟩ | refine br_t rfl ?_ | refine br_f rfl ?_ | refine ⟨by decide, ?_⟩ | refine ⟨Nat.le_of_ble_eq_true rfl, ?_⟩ | refine ⟨_, (rfl : @L2.atI LV _ _ = some _), ?_⟩ | refine ⟨(show (0 : Int) < _ from by decide), ?_⟩ | refine ⟨⟨by decide, by decide⟩, ?_⟩ | refine ⟨.inl ⟨by decide, by decide⟩, ?_⟩ | refine ⟨.inr ⟨by decide, by decide⟩, ?_⟩)); (conv => whnf)
    intro tq' z0 z4
    obtain ⟨tq, rfl⟩ := natz z0
    
    (repeat ((conv => whnf); first | refine ⟨rfl, ?_⟩ | refine ⟨⟨rfl, rfl⟩, ?_⟩ | refine ⟨⟨rfl, rfl, rfl⟩, ?_⟩ | refine br_t rfl ?_ | refine br_f rfl ?_ | refine ⟨by decide, ?_⟩ | refine ⟨Nat.le_of_ble_eq_true rfl, ?_⟩ | refine ⟨_, (rfl : @L2.atI LV _ _ = some _), ?_⟩ | refine ⟨(show (0 : Int) < _ from by decide), ?_⟩ | refine ⟨⟨by decide, by decide⟩, ?_⟩ | refine ⟨.inl ⟨by decide, by decide⟩, ?_⟩ | refine ⟨.inr ⟨by decide, by decide⟩, ?_⟩)); (conv => whnf)
    refine br_c (fun z => ?_) (fun z => ?_)
    · (repeat ((conv => whnf); first | refine ⟨rfl, ?_⟩ | refine ⟨⟨rfl, rfl⟩, ?_⟩ | refine ⟨⟨rfl, rfl, rfl⟩, ?_⟩ | refine br_t rfl ?_ | refine br_f rfl ?_ | refine ⟨by decide, ?_⟩ | refine ⟨Nat.le_of_ble_eq_true rfl, ?_⟩ | refine ⟨_, (rfl : @L2.atI LV _ _ = some _), ?_⟩ | refine ⟨(show (0 : Int) < _ from by decide), ?_⟩ | refine ⟨⟨by decide, by decide⟩, ?_⟩ | refine ⟨.inl ⟨by decide, by decide⟩, ?_⟩ | refine ⟨.inr ⟨by decide, by decide⟩, ?_⟩)); (conv => whnf)
      refine ⟨cs, c, rfl, rfl, by omega, hcs, hc, fun t ht => (hct t ht).2, fun hs2 hl2 hh2 => ?_⟩
      have hn : ∀ h ∈ hs2, h.natAbs ≤ 100 := fun h hm => by have := hh2 h hm; omega
      (repeat ((conv => whnf); first | refine ⟨rfl, ?_⟩ | refine ⟨⟨rfl, rfl⟩, ?_⟩ | refine ⟨⟨rfl, rfl, rfl⟩, ?_⟩ | refine br_t rfl ?_ | refine br_f rfl ?_ | refine ⟨by decide, ?_⟩ | refine ⟨Nat.le_of_ble_eq_true rfl, ?_⟩ | refine ⟨_, (rfl : @L2.atI LV _ _ = some _), ?_⟩ | refine ⟨(show (0 : Int) < _ from by decide), ?_⟩ | refine ⟨⟨by decide, by decide⟩, ?_⟩ | refine ⟨.inl ⟨by decide, by decide⟩, ?_⟩ | refine ⟨.inr ⟨by decide, by decide⟩, ?_⟩)); (conv => whnf)
      rw [ilv_len]
      refine br_c (fun z2 => ?_) (fun z2 => ?_)
      · have hc0 : 0 < cs.length := by
          cases hs2 with
          | nil => exact absurd z2 (by decide)
          | cons x r => have := hh2 x (List.mem_cons_self ..); omega
        (repeat ((conv => whnf); first | refine ⟨rfl, ?_⟩ | refine ⟨⟨rfl, rfl⟩, ?_⟩ | refine ⟨⟨rfl, rfl, rfl⟩, ?_⟩ | refine br_t rfl ?_ | refine br_f rfl ?_ | refine ⟨by decide, ?_⟩ | refine ⟨Nat.le_of_ble_eq_true rfl, ?_⟩ | refine ⟨_, (rfl : @L2.atI LV _ _ = some _), ?_⟩ | refine ⟨(show (0 : Int) < _ from by decide), ?_⟩ | refine ⟨⟨by decide, by decide⟩, ?_⟩ | refine ⟨.inl ⟨by decide, by decide⟩, ?_⟩ | refine ⟨.inr ⟨by decide, by decide⟩, ?_⟩)); (conv => whnf)
        intro tr' z0 z5
        obtain ⟨tr, rfl⟩ := natz z0
        
        (repeat ((conv => whnf); first | refine ⟨rfl, ?_⟩ | refine ⟨⟨rfl, rfl⟩, ?_⟩ | refine ⟨⟨rfl, rfl, rfl⟩, ?_⟩ | refine br_t rfl ?_ | refine br_f rfl ?_ | refine ⟨by decide, ?_⟩ | refine ⟨Nat.le_of_ble_eq_true rfl, ?_⟩ | refine ⟨_, (rfl : @L2.atI LV _ _ = some _), ?_⟩ | refine ⟨(show (0 : Int) < _ from by decide), ?_⟩ | refine ⟨⟨by decide, by decide⟩, ?_⟩ | refine ⟨.inl ⟨by decide, by decide⟩, ?_⟩ | refine ⟨.inr ⟨by decide, by decide⟩, ?_⟩)); (conv => whnf)
        refine br_e (fun z6 => ?_) (fun z6 => ?_)
        · (repeat ((conv => whnf); first | refine ⟨rfl, ?_⟩ | refine ⟨⟨rfl, rfl⟩, ?_⟩ | refine ⟨⟨rfl, rfl, rfl⟩, ?_⟩ | refine br_t rfl ?_ | refine br_f rfl ?_ | refine ⟨by decide, ?_⟩ | refine ⟨Nat.le_of_ble_eq_true rfl, ?_⟩ | refine ⟨_, (rfl : @L2.atI LV _ _ = some _), ?_⟩ | refine ⟨(show (0 : Int) < _ from by decide), ?_⟩ | refine ⟨⟨by decide, by decide⟩, ?_⟩ | refine ⟨.inl ⟨by decide, by decide⟩, ?_⟩ | refine ⟨.inr ⟨by decide, by decide⟩, ?_⟩)); (conv => whnf)
          rw [clv_len]
          refine ⟨by omega, by omega, fun tv' z0 z7 => ?_⟩
          obtain ⟨tv, rfl⟩ := natz z0
          
          have z7 : (tv : Int) < (cs.length : Int) := z7
          (repeat ((conv => whnf); first | refine ⟨rfl, ?_⟩ | refine ⟨⟨rfl, rfl⟩, ?_⟩ | refine ⟨⟨rfl, rfl, rfl⟩, ?_⟩ | refine br_t rfl ?_ | refine br_f rfl ?_ | refine ⟨by decide, ?_⟩ | refine ⟨Nat.le_of_ble_eq_true rfl, ?_⟩ | refine ⟨_, (rfl : @L2.atI LV _ _ = some _), ?_⟩ | refine ⟨(show (0 : Int) < _ from by decide), ?_⟩ | refine ⟨⟨by decide, by decide⟩, ?_⟩ | refine ⟨.inl ⟨by decide, by decide⟩, ?_⟩ | refine ⟨.inr ⟨by decide, by decide⟩, ?_⟩)); (conv => whnf)
          rw [ilv_len]
          refine ⟨by omega, by omega, fun tx' z0 z8 => ?_⟩
          obtain ⟨tx, rfl⟩ := natz z0
          
          have z8 : (tx : Int) < (hs2.length : Int) := z8
          (repeat ((conv => whnf); first | refine ⟨rfl, ?_⟩ | refine ⟨⟨rfl, rfl⟩, ?_⟩ | refine ⟨⟨rfl, rfl, rfl⟩, ?_⟩ | refine br_t rfl ?_ | refine br_f rfl ?_ | refine ⟨by decide, ?_⟩ | refine ⟨Nat.le_of_ble_eq_true rfl, ?_⟩ | refine ⟨_, (rfl : @L2.atI LV _ _ = some _), ?_⟩ | refine ⟨(show (0 : Int) < _ from by decide), ?_⟩ | refine ⟨⟨by decide, by decide⟩, ?_⟩ | refine ⟨.inl ⟨by decide, by decide⟩, ?_⟩ | refine ⟨.inr ⟨by decide, by decide⟩, ?_⟩)); (conv => whnf)
          refine ⟨tx, by unfold ixN; rw [ilv_len, if_pos (by omega), if_pos (by omega), Int.toNat_natCast], ?_⟩
          rw [ilv_set]
          refine key (hs2.set tx (tv : Int)) (by rw [List.length_set]; exact hl2) fun h hm => ?_
          rcases List.mem_or_eq_of_mem_set hm with hm | rfl
          · exact hn h hm
          · omega
        · first | exact key hs2 hl2 hn | (refine br_f rfl ?_; exact key hs2 hl2 hn)
      · first | (refine br_f rfl ?_; exact key hs2 hl2 hn) | ((conv => whnf); refine br_f rfl ?_; exact key hs2 hl2 hn)
    · exact key hs (by omega) hh
  · exact h.elim

end K52
set_option Elab.async false
set_option linter.all false
set_option maxRecDepth 100000
set_option maxHeartbeats 4000000
namespace K52
open PySem PySem.Spec PyProof.Rows L2 Cw Lg
open GxR (TabG Tabbed TabB GenS)
section
variable {P : Program} {w : World} {K : PySem.W.Frag} {mg : Str → Option Value} {base : Heap} {pZ : Addr} {Tt : List Addr}
theorem ok_law_state {f : Addr} {fd : FuncData} (F : Fun K "_law_state" "_law_state" s_law_state f fd) (T : Txt mg K w )  :
    FnOk P w K mg base CX0 1 f fd ["script"] (FnO0 (Fm.tabs Tt) K 1 stO gState) := by
  refine F.ok sc_law_state (fun vs H Q E h => fno_len h) (fun cdv A outer s H vs Q E hr h => ⟨_, (pss_cons (ps_setLc (i := 1) (own := [("cell", 2)]) (by rfl) sc_law_state.nd rfl rfl (by rfl) (pi_list (pe_slice sl_list (pv 0) po_none (po_some pe_int))) (blkOk_by (own := [("cell", 2)]) (N := ["script", "cells", "cell"]) (sc := defScope s_law_state) (by decide +kernel)) (fun _ _ _ _ _ => (pg_name (i := 2) sc_law_state.nd rfl (Or.inl rfl))) (fun _ _ _ _ _ => pts_nil) (fun _ _ _ _ _ => (pe_callB call_abs (by rfl) T.abs (by decide +kernel) (pa_cons (pv 2) pa_nil))))
      (pss_cons (ps_if (pt_cmpR op_eq (pe_callB call_len_seq (by rfl) T.len PySem.boot_len (pa_cons (pv 1) pa_nil)) pe_int (nomark _))
      (pss_one (ps_set (i := 1) sc_law_state.nd rfl (.inl rfl) (pe_lst (pa_cons pe_int pa_nil)))) pss_nil)
      (pss_one (ps_ret (pe_lst (pa_cons pe_int (pa_cons (pv 1) pa_nil))))))), (state_ok rfl (show SS _ _ W0 _ lStA from (ss_setL (i := 1) (sn_lc (js := [2]) (vs := [2]) (by decide) (si_list (se_new (sn_sl (se_var 0) so_no (so_part se_int)))) (sg_name (i := 2)) st_yes' (se_cb rva_abs (sa_cons (se_var 2) sa_nil))))) (show SS _ _ W0 _ lStB from (ss_if (st_test (se_op rv_eq' (se_lenO (i := 1)) se_int))
      (ss_setL (i := 1) (sn_lst (sa_cons se_int sa_nil))) ss_next)) h)⟩)
theorem ok_law_take {f : Addr} {fd : FuncData} (F : Fun K "_law_take" "_law_take" s_law_take f fd) (T : Txt mg K w )  :
    FnOk P w K mg base CX0 1 f fd ["state", "most"] (FnL0 (Fm.tabs Tt) K 2 sp_law_take) := by
  refine F.ok sc_law_take (fun vs H Q E h => fn_len h) (fun cdv A outer s H vs Q E hr h => ⟨_, (pss_cons (ps_set (i := 2) sc_law_take.nd rfl (.inl rfl) (pe_ix ix_list (pv 0) pe_int (fun _ _ => rfl)))
      (pss_cons (ps_set (i := 3) sc_law_take.nd rfl (.inl rfl) (pe_op op_mod (pe_ix ix_list (pv 0) pe_int (fun _ _ => rfl)) (pe_callB call_len_seq (by rfl) T.len PySem.boot_len (pa_cons (pv 2) pa_nil))))
      (pss_cons (ps_set (i := 4) sc_law_take.nd rfl (.inl rfl) (pe_ix ix_list (pv 2) (pv 3) (fun _ _ => rfl)))
      (pss_cons (ps_if (pt_cmpR op_ge (pv 4) pe_int (nomark _))
      (pss_cons (ps_asg (pe_op op_fdiv (pv 4) (pv 1)) (pg_sub (pv 2) (pv 3) set_list))
      (pss_one (ps_ret (pe_op op_mod (pv 4) (pv 1))))) pss_nil)
      (pss_cons (ps_asg (pe_op op_add (pe_ix ix_list (pv 0) pe_int (fun _ _ => rfl)) pe_int) (pg_sub (pv 0) pe_int set_list))
      (pss_cons (ps_set (i := 5) sc_law_take.nd rfl (.inl rfl) (pe_op op_mod (pe_callTy call_int1 (by rfl) T.int (by decide +kernel) (pa_cons (pe_op op_add (pe_op op_mul (pv 4) pe_int) (pe_op op_mul (pe_ix ix_list (pv 0) pe_int (fun _ _ => rfl)) pe_int)) pa_nil)) pe_int))
      (pss_cons (ps_set (i := 5) sc_law_take.nd rfl (.inl rfl) (pe_op op_mod (pe_callTy call_int1 (by rfl) T.int (by decide +kernel) (pa_cons (pe_op op_add (pe_op op_mul (pv 5) pe_int) (pe_op op_mul (pe_ix ix_list (pv 0) pe_int (fun _ _ => rfl)) pe_int)) pa_nil)) pe_int))
      (pss_one (ps_ret (pe_op op_mod (pe_op op_fdiv (pv 5) pe_int) (pv 1))))))))))), (take_ok rfl (show SS _ _ W0 _ lTakeRest from (ss_seq (ss_set (i := 3) (se_op rv_mod (se_ixO (i := 0) se_int) (se_lenO (i := 2))))
      (ss_seq (ss_set (i := 4) (se_ixO (i := 2) (se_var 3)))
      (ss_seq (ss_if (st_test (se_op rv_ge (se_var 4) se_int))
      (ss_seq (ss_sto (i := 2) (se_op rv_div (se_var 4) (se_var 1)) (se_var 3))
      (ss_ret (se_op rv_mod (se_var 4) (se_var 1)))) ss_next)
      (ss_seq (ss_sto (i := 0) (se_op rv_add (se_ixO (i := 0) se_int) se_int) se_int)
      (ss_seq (ss_set (i := 5) (se_op rv_mod (se_cb rva_int (sa_cons (se_op rv_add (se_op rv_mul (se_var 4) se_int) (se_op rv_mul (se_ixO (i := 0) se_int) se_int)) sa_nil)) se_int))
      (ss_seq (ss_set (i := 5) (se_op rv_mod (se_cb rva_int (sa_cons (se_op rv_add (se_op rv_mul (se_var 5) se_int) (se_op rv_mul (se_ixO (i := 0) se_int) se_int)) sa_nil)) se_int))
      (ss_ret (se_op rv_mod (se_op rv_div (se_var 5) se_int) (se_var 1)))))))))) h)⟩)
theorem ok_law_clause {f : Addr} {fd : FuncData} (F : Fun K "_law_clause" "_law_clause" s_law_clause f fd) (T : Txt mg K w ) (C_law_take : Callee P w K mg base "_law_take" 1 ["state", "most"] (FnL0 (Fm.tabs Tt) K 2 sp_law_take)) :
    FnOk P w K mg base CX0 2 f fd ["state", "variables", "size"] (FnL0 (Fm.tabs Tt) K 3 sp_law_clause) := by
  refine F.ok sc_law_clause (fun vs H Q E h => fn_len h) (fun cdv A outer s H vs Q E hr h => ⟨_, (pss_cons (ps_set (i := 3) sc_law_clause.nd rfl (.inl rfl) (pe_lst pa_nil))
      (pss_cons (ps_for PassesOwn.never rfl (pi_range1 rfl T.range (pa_cons (pv 2) pa_nil)) (pg_name (i := 4) sc_law_clause.nd rfl (.inl rfl))
      (pss_cons (ps_set (i := 5) sc_law_clause.nd rfl (.inl rfl) (pe_op op_add pe_int (pe_fn C_law_take (hr.mono (by decide)) (by rfl) (pa_cons (pv 0) (pa_cons (pv 1) pa_nil)))))
      (pss_one (ps_expr (pe_bm PySem.F.plainAttrs_list PySem.F.slot_list_append PySem.F.type_list_append mt_append (pv 3) (pa_cons (pe_ix ix_list (pe_lst (pa_cons (pv 5) (pa_cons (pe_un un_neg (pv 5)) pa_nil))) (pe_fn C_law_take (hr.mono (by decide)) (by rfl) (pa_cons (pv 0) (pa_cons pe_int pa_nil))) (fun _ _ => rfl)) pa_nil))))))
      (pss_one (ps_ret (pe_callTy call_tuple_of (by rfl) T.tuple (by decide +kernel) (pa_cons (pv 3) pa_nil)))))), body_ok (W := W0) (ls := ls_law_clause) (ss_seq (ss_setL (i := 3) (sn_lst sa_nil))
      (ss_seq (ss_for (si_rng1 (sa_cons (se_var 2) sa_nil)) (sg_name (i := 4))
      (ss_seq (ss_set (i := 5) (se_op rv_add se_int (se_callM (sam_o (i := 0) (sam_v (se_var 1) sam_nil)))))
      (ss_app (i := 3) (se_op rv_ixL' (se_new (sn_lst (sa_cons (se_var 5) (sa_cons (se_un rv1_neg (se_var 5)) sa_nil)))) (se_callM (sam_o (i := 0) (sam_v se_int sam_nil)))))))
      (ss_ret (se_tupOf (sa_cons (se_var 3) sa_nil))))) rfl (lg_law_clause) h⟩)
theorem ok_check_step {f : Addr} {fd : FuncData} (F : Fun K "check_step" "check_step" s_check_step f fd) (T : Txt mg K w )  :
    FnOk P w K mg base CX0 1 f fd ["clauses", "clause", "hints"] (FnL0 (Fm.tabs Tt) K 3 sp_check_step) := by
  refine F.ok sc_check_step (fun vs H Q E h => fn_len h) (fun cdv A outer s H vs Q E hr h => ⟨_, (pss_cons (ps_set (i := 3) sc_check_step.nd rfl (.inr rfl) (pe_dc (own := [("term", 4)]) (by rfl) sc_check_step.nd (pi_tup (pv 1)) (blkOk_by (own := [("term", 4)]) (N := ["clauses", "clause", "hints", "assumed", "term", "hint", "open_terms"]) (sc := defScope s_check_step) (by decide +kernel)) (fun _ _ _ _ _ => (pg_name (i := 4) sc_check_step.nd rfl (Or.inl rfl))) (fun _ _ _ _ _ => pts_nil) (fun _ _ _ _ _ => (pe_un un_neg (pv 4))) (fun _ _ _ _ _ => pe_bl)))
      (pss_cons (ps_for PassesOwn.never rfl (pi_list (pv 2)) (pg_name (i := 5) sc_check_step.nd rfl (.inl rfl))
      (pss_cons (ps_if (pt_not (pt_chain op_le op_lt pe_int (pv 5) (pe_callB call_len_seq (by rfl) T.len PySem.boot_len (pa_cons (pv 0) pa_nil))))
      (pss_one (ps_ret pe_bl)) pss_nil)
      (pss_cons (ps_setLc (i := 6) (own := [("term", 4)]) (by rfl) sc_check_step.nd rfl rfl (by rfl) (pi_tup (pe_ix ix_list (pv 0) (pv 5) (fun _ _ => rfl))) (blkOk_by (own := [("term", 4)]) (N := ["clauses", "clause", "hints", "assumed", "term", "hint", "open_terms"]) (sc := defScope s_check_step) (by decide +kernel)) (fun _ _ _ _ _ => (pg_name (i := 4) sc_check_step.nd rfl (Or.inl rfl))) (fun _ _ _ _ _ => (pts_one (pt_cmp (h1 := rfl) (pc_dnotin (units1 hr.units) (pe_un un_neg (pv 4)) (pv 3))))) (fun _ _ _ _ _ => (pv 4)))
      (pss_cons (ps_if (pt_not (pt_tru (pv 6) (fun _ => rfl)))
      (pss_one (ps_ret pe_bl)) pss_nil)
      (pss_cons (ps_if (pt_cmpR op_gt (pe_lenSetG rfl (by rfl) T.len (by rfl) T.set (pv 6)) pe_int (nomark _))
      (pss_one (ps_ret pe_bl)) pss_nil)
      (pss_one (ps_dput (units1 hr.units) (pv 3) (pe_ix ix_list (pv 6) pe_int (fun _ _ => rfl)) pe_bl (by rfl))))))))
      (pss_one (ps_ret pe_bl)))), body_ok (W := W0) (ls := ls_check_step) (ss_seq (ss_setDc (i0 := 3) (js := [4]) (vs := [4]) (by decide) (si_tup (se_var 1)) (sg_name (i := 4)) st_yes' (se_un rv1_neg (se_var 4)) se_bl)
      (ss_seq (ss_for (si_list (se_var 2)) (sg_name (i := 5))
      (ss_seq (ss_if (st_not (st_test (se_chain rv_le rv_lt se_int (se_var 5) (se_cb rva_len (sa_cons (se_var 0) sa_nil)))))
      (ss_ret se_bl) ss_next)
      (ss_seq (ss_set (i := 6) (se_new (sn_lc (js := [4]) (vs := [4]) (by decide) (si_tup (se_op rv_ixL' (se_var 0) (se_var 5))) (sg_name (i := 4)) (st_B (se_dnotin (D := dkK) (i := 3) (se_un rv1_neg (se_var 4)))) (se_var 4))))
      (ss_seq (ss_if (st_not (st_tru (se_var 6)))
      (ss_ret se_bl) ss_next)
      (ss_seq (ss_if (st_test (se_op rv_gt (se_lenSet (se_var 6)) se_int))
      (ss_ret se_bl) ss_next)
      (ss_dset (D := dkK) (i := 3) se_bl (se_op rv_ixL' (se_var 6) se_int)))))))
      (ss_ret se_bl))) rfl (lg_check_step) h⟩)
theorem ok_law_good_hints {f : Addr} {fd : FuncData} (F : Fun K "_law_good_hints" "_law_good_hints" s_law_good_hints f fd) (T : Txt mg K w )  :
    FnOk P w K mg base CX0 1 f fd ["clauses", "clause"] (FnW0 (Fm.tabs Tt) K 2 sp_law_good_hints) := by
  refine F.ok sc_law_good_hints (fun vs H Q E h => fnw_len h) (fun cdv A outer s H vs Q E hr h => ⟨_, (pss_cons (ps_set (i := 2) sc_law_good_hints.nd rfl (.inr rfl) (pe_lc (own := [("term", 3)]) (by rfl) sc_law_good_hints.nd (pi_tup (pv 1)) (blkOk_by (own := [("term", 3)]) (N := ["clauses", "clause", "assumed", "term", "hints", "turn", "k", "terms"]) (sc := defScope s_law_good_hints) (by decide +kernel)) (fun _ _ _ _ _ => (pg_name (i := 3) sc_law_good_hints.nd rfl (Or.inl rfl))) (fun _ _ _ _ _ => pts_nil) (fun _ _ _ _ _ => (pe_un un_neg (pv 3)))))
      (pss_cons (ps_set (i := 4) sc_law_good_hints.nd rfl (.inl rfl) (pe_lst pa_nil))
      (pss_cons (ps_for PassesOwn.never rfl (pi_range1 rfl T.range (pa_cons pe_int pa_nil)) (pg_name (i := 5) sc_law_good_hints.nd rfl (.inl rfl))
      (pss_one (ps_for PassesOwn.never rfl (pi_range1 rfl T.range (pa_cons (pe_callB call_len_seq (by rfl) T.len PySem.boot_len (pa_cons (pv 0) pa_nil)) pa_nil)) (pg_name (i := 6) sc_law_good_hints.nd rfl (.inl rfl))
      (pss_cons (ps_setLc (i := 7) (own := [("term", 3)]) (by rfl) sc_law_good_hints.nd rfl rfl (by rfl) (pi_tup (pe_ix ix_list (pv 0) (pv 6) (fun _ _ => rfl))) (blkOk_by (own := [("term", 3)]) (N := ["clauses", "clause", "assumed", "term", "hints", "turn", "k", "terms"]) (sc := defScope s_law_good_hints) (by decide +kernel)) (fun _ _ _ _ _ => (pg_name (i := 3) sc_law_good_hints.nd rfl (Or.inl rfl))) (fun _ _ _ _ _ => (pts_one (pt_cmpR (op_notInD (hu65 hr)) (pe_un un_neg (pv 3)) (pv 2) rfl))) (fun _ _ _ _ _ => (pv 3)))
      (pss_cons (ps_if (pt_cmpR op_eq (pe_callB call_len_seq (by rfl) T.len PySem.boot_len (pa_cons (pv 7) pa_nil)) pe_int (nomark _))
      (pss_one (ps_ret (pe_op op_catR (pv 4) (pe_lst (pa_cons (pv 6) pa_nil))))) pss_nil)
      (pss_one (ps_if (PW.pt (pw_and (pt_cmpR op_eq (pe_callB call_len_seq (by rfl) T.len PySem.boot_len (pa_cons (pv 7) pa_nil)) pe_int (nomark _)) (pw_and1 (pt_cmpR (op_notInD (hu65 hr)) (pe_ix ix_list (pv 7) pe_int (fun _ _ => rfl)) (pv 2) rfl))))
      (pss_cons (ps_expr (pe_bm PySem.F.plainAttrs_list PySem.F.slot_list_append PySem.F.type_list_append mt_append (pv 2) (pa_cons (pe_ix ix_list (pv 7) pe_int (fun _ _ => rfl)) pa_nil)))
      (pss_one (ps_expr (pe_bm PySem.F.plainAttrs_list PySem.F.slot_list_append PySem.F.type_list_append mt_append (pv 4) (pa_cons (pv 6) pa_nil))))) pss_nil)))))))
      (pss_one (ps_ret (pv 4)))))), body_okW (ls := ls_law_good_hints) (ss_seq (ss_setL (i := 2) (sn_lc (js := [3]) (vs := [3]) (by decide) (si_tup (se_var 1)) (sg_name (i := 3)) st_yes' (se_un rv1_neg (se_var 3))))
      (ss_seq (ss_setL (i := 4) (sn_lst sa_nil))
      (ss_seq (ss_for (si_rng1 (sa_cons se_int sa_nil)) (sg_name (i := 5))
      (ss_for (si_rng1 (sa_cons (se_cb rva_len (sa_cons (se_var 0) sa_nil)) sa_nil)) (sg_name (i := 6))
      (ss_seq (ss_set (i := 7) (se_new (sn_lc (js := [3]) (vs := [3]) (by decide) (si_tup (se_op rv_ixL' (se_var 0) (se_var 6))) (sg_name (i := 3)) (st_test (se_notinO (i := 2) (se_un rv1_neg (se_var 3)))) (se_var 3))))
      (ss_seq (ss_if (st_test (se_op rv_eq' (se_cb rva_len (sa_cons (se_var 7) sa_nil)) se_int))
      (ss_retN (sn_cat (se_var 4) (se_new (sn_lst (sa_cons (se_var 6) sa_nil))))) ss_next)
      (ss_if (st_and (st_test (se_op rv_eq' (se_cb rva_len (sa_cons (se_var 7) sa_nil)) se_int)) (st_test (se_notinO (i := 2) (se_op rv_ixL' (se_var 7) se_int))))
      (ss_seq (ss_app (i := 2) (se_op rv_ixL' (se_var 7) se_int))
      (ss_app (i := 4) (se_var 6))) ss_next)))))
      (ss_retO (i := 4))))) rfl (lg_law_good_hints) h⟩)
theorem ok_law_true {f : Addr} {fd : FuncData} (F : Fun K "_law_true" "_law_true" s_law_true f fd) (T : Txt mg K w )  :
    FnOk P w K mg base CX0 1 f fd ["clause", "bits"] (FnL0 (Fm.tabs Tt) K 2 sp_law_true) := by
  refine F.ok sc_law_true (fun vs H Q E h => fn_len h) (fun cdv A outer s H vs Q E hr h => ⟨_, (pss_cons (ps_for PassesOwn.never rfl (pi_tup (pv 0)) (pg_name (i := 2) sc_law_true.nd rfl (.inl rfl))
      (pss_one (ps_if (PW.pt (pw_or (PW.pt (pw_and (pt_cmpR op_gt (pv 2) pe_int (nomark _)) (pw_and1 (pt_cmpR op_eq (pe_ix ix_list (pv 1) (pe_op op_sub (pv 2) pe_int) (fun _ _ => rfl)) pe_int (nomark _))))) (pw_or1 (PW.pt (pw_and (pt_cmpR op_lt (pv 2) pe_int (nomark _)) (pw_and1 (pt_cmpR op_eq (pe_ix ix_list (pv 1) (pe_op op_sub (pe_un un_neg (pv 2)) pe_int) (fun _ _ => rfl)) pe_int (nomark _))))))))
      (pss_one (ps_ret pe_bl)) pss_nil)))
      (pss_one (ps_ret pe_bl))), body_ok (W := W0) (ls := ls_law_true) (ss_seq (ss_for (si_tup (se_var 0)) (sg_name (i := 2))
      (ss_if (st_or (st_and (st_test (se_op rv_gt (se_var 2) se_int)) (st_test (se_op rv_eq' (se_op rv_ixL' (se_var 1) (se_op rv_sub (se_var 2) se_int)) se_int))) (st_and (st_test (se_op rv_lt (se_var 2) se_int)) (st_test (se_op rv_eq' (se_op rv_ixL' (se_var 1) (se_op rv_sub (se_un rv1_neg (se_var 2)) se_int)) se_int))))
      (ss_ret se_bl) ss_next))
      (ss_ret se_bl)) rfl (lg_law_true) h⟩)
theorem ok_law_all {f : Addr} {fd : FuncData} (F : Fun K "_law_all" "_law_all" s_law_all f fd) (T : Txt mg K w ) (C_law_true : Callee P w K mg base "_law_true" 1 ["clause", "bits"] (FnL0 (Fm.tabs Tt) K 2 sp_law_true)) :
    FnOk P w K mg base CX0 2 f fd ["clauses", "bits"] (FnL0 (Fm.tabs Tt) K 2 sp_law_all) := by
  refine F.ok sc_law_all (fun vs H Q E h => fn_len h) (fun cdv A outer s H vs Q E hr h => ⟨_, (pss_one (ps_ret (pe_cmpR op_eq (pe_callB call_len_seq (by rfl) T.len PySem.boot_len (pa_cons (pe_lc (own := [("clause", 2)]) (by rfl) sc_law_all.nd (pi_list (pv 0)) (blkOk_by (own := [("clause", 2)]) (N := ["clauses", "bits", "clause"]) (sc := defScope s_law_all) (by decide +kernel)) (fun _ _ _ _ _ => (pg_name (i := 2) sc_law_all.nd rfl (Or.inl rfl))) (fun _ _ _ _ _ => (pts_one (pt_not (pt_val (pe_fn C_law_true (hr.mono (by decide)) (by rfl) (pa_cons (pv 2) (pa_cons (pv 1) pa_nil))))))) (fun _ _ _ _ _ => (pv 2))) pa_nil)) pe_int (nomark _)))), body_ok (W := W0) (ls := ls_law_all) (ss_ret (se_op rv_eq' (se_cb rva_len (sa_cons (se_new (sn_lc (js := [2]) (vs := [2]) (by decide) (si_list (se_var 0)) (sg_name (i := 2)) (st_not (st_B (se_call (sa_cons (se_var 2) (sa_cons (se_var 1) sa_nil))))) (se_var 2))) sa_nil)) se_int)) rfl (lg_law_all) h⟩)
theorem ok_law_models {f : Addr} {fd : FuncData} (F : Fun K "_law_models" "_law_models" s_law_models f fd) (T : Txt mg K w ) (C_law_all : Callee P w K mg base "_law_all" 2 ["clauses", "bits"] (FnL0 (Fm.tabs Tt) K 2 sp_law_all)) :
    FnOk P w K mg base CX0 3 f fd ["clauses", "variables"] (FnL0 (Fm.tabs Tt) K 2 sp_law_models) := by
  refine F.ok sc_law_models (fun vs H Q E h => fn_len h) (fun cdv A outer s H vs Q E hr h => ⟨_, (pss_cons (ps_set (i := 2) sc_law_models.nd rfl (.inl rfl) (pe_lst pa_nil))
      (pss_cons (ps_for PassesOwn.never rfl (pi_range1 rfl T.range (pa_cons (pe_op op_shlW pe_int (pv 1)) pa_nil)) (pg_name (i := 3) sc_law_models.nd rfl (.inr rfl))
      (pss_cons (ps_setLc (i := 4) (own := [("k", 5)]) (by rfl) sc_law_models.nd rfl rfl (by rfl) (pi_range1 rfl T.range (pa_cons (pv 1) pa_nil)) (blkOk_by (own := [("k", 5)]) (N := ["clauses", "variables", "models", "number", "bits", "k"]) (sc := defScope s_law_models) (by decide +kernel)) (fun _ _ _ _ _ => (pg_name (i := 5) sc_law_models.nd rfl (Or.inl rfl))) (fun _ _ _ _ _ => pts_nil) (fun _ _ _ _ _ => (pe_op op_mod (pe_op op_fdiv (pv 3) (pe_op op_shlW pe_int (pv 5))) pe_int)))
      (pss_one (ps_if (pt_val (pe_fn C_law_all (hr.mono (by decide)) (by rfl) (pa_cons (pv 0) (pa_cons (pv 4) pa_nil))))
      (pss_one (ps_expr (pe_bm PySem.F.plainAttrs_list PySem.F.slot_list_append PySem.F.type_list_append mt_append (pv 2) (pa_cons (pv 4) pa_nil)))) pss_nil))))
      (pss_one (ps_ret (pv 2))))), body_ok (W := W0) (ls := ls_law_models) (ss_seq (ss_setL (i := 2) (sn_lst sa_nil))
      (ss_seq (ss_for (si_rng1 (sa_cons (se_op rv_shl se_int (se_var 1)) sa_nil)) (sg_name (i := 3))
      (ss_seq (ss_set (i := 4) (se_new (sn_lc (js := [5]) (vs := [5]) (by decide) (si_rng1 (sa_cons (se_var 1) sa_nil)) (sg_name (i := 5)) st_yes' (se_op rv_mod (se_op rv_div (se_var 3) (se_op rv_shl se_int (se_var 5))) se_int))))
      (ss_if (st_B (se_call (sa_cons (se_var 0) (sa_cons (se_var 4) sa_nil))))
      (ss_app (i := 2) (se_var 4)) ss_next)))
      (ss_ret (se_var 2)))) rfl (lg_law_models) h⟩)
theorem ok_law_right {f : Addr} {fd : FuncData} (F : Fun K "_law_right" "_law_right" s_law_right f fd) (T : Txt mg K w )  :
    FnOk P w K mg base CX0 1 f fd ["clauses", "clause", "hints"] (FnL0 (Fm.tabs Tt) K 3 sp_law_right) := by
  refine F.ok sc_law_right (fun vs H Q E h => fn_len h) (fun cdv A outer s H vs Q E hr h => ⟨_, (pss_cons (ps_setLc (i := 3) (own := [("term", 4)]) (by rfl) sc_law_right.nd rfl rfl (by rfl) (pi_tup (pv 1)) (blkOk_by (own := [("term", 4)]) (N := ["clauses", "clause", "hints", "assumed", "term", "hint", "terms"]) (sc := defScope s_law_right) (by decide +kernel)) (fun _ _ _ _ _ => (pg_name (i := 4) sc_law_right.nd rfl (Or.inl rfl))) (fun _ _ _ _ _ => pts_nil) (fun _ _ _ _ _ => (pe_un un_neg (pv 4))))
      (pss_cons (ps_for PassesOwn.never rfl (pi_list (pv 2)) (pg_name (i := 5) sc_law_right.nd rfl (.inl rfl))
      (pss_cons (ps_if (PW.pt (pw_or (pt_cmpR op_lt (pv 5) pe_int (nomark _)) (pw_or1 (pt_cmpR op_ge (pv 5) (pe_callB call_len_seq (by rfl) T.len PySem.boot_len (pa_cons (pv 0) pa_nil)) (nomark _)))))
      (pss_one (ps_ret pe_bl)) pss_nil)
      (pss_cons (ps_set (i := 6) sc_law_right.nd rfl (.inl rfl) (pe_lst pa_nil))
      (pss_cons (ps_for PassesOwn.never rfl (pi_tup (pe_ix ix_list (pv 0) (pv 5) (fun _ _ => rfl))) (pg_name (i := 4) sc_law_right.nd rfl (.inl rfl))
      (pss_one (ps_if (PW.pt (pw_and (pt_cmpR (op_notInD (hu65 hr)) (pe_un un_neg (pv 4)) (pv 3) rfl) (pw_and1 (pt_cmpR (op_notInD (hu65 hr)) (pv 4) (pv 6) rfl))))
      (pss_one (ps_expr (pe_bm PySem.F.plainAttrs_list PySem.F.slot_list_append PySem.F.type_list_append mt_append (pv 6) (pa_cons (pv 4) pa_nil)))) pss_nil)))
      (pss_cons (ps_if (pt_cmpR op_eq (pe_callB call_len_seq (by rfl) T.len PySem.boot_len (pa_cons (pv 6) pa_nil)) pe_int (nomark _))
      (pss_one (ps_ret pe_bl)) pss_nil)
      (pss_cons (ps_if (pt_cmpR op_gt (pe_callB call_len_seq (by rfl) T.len PySem.boot_len (pa_cons (pv 6) pa_nil)) pe_int (nomark _))
      (pss_one (ps_ret pe_bl)) pss_nil)
      (pss_one (ps_expr (pe_bm PySem.F.plainAttrs_list PySem.F.slot_list_append PySem.F.type_list_append mt_append (pv 3) (pa_cons (pe_ix ix_list (pv 6) pe_int (fun _ _ => rfl)) pa_nil))))))))))
      (pss_one (ps_ret pe_bl)))), body_ok (W := W0) (ls := ls_law_right) (ss_seq (ss_setL (i := 3) (sn_forget [4] (sn_lc (js := [4]) (vs := [4]) (by decide) (si_tup (se_var 1)) (sg_name (i := 4)) st_yes' (se_un rv1_neg (se_var 4)))))
      (ss_seq (ss_for (si_list (se_var 2)) (sg_name (i := 5))
      (ss_seq (ss_if (st_or (st_test (se_op rv_lt (se_var 5) se_int)) (st_test (se_op rv_ge (se_var 5) (se_cb rva_len (sa_cons (se_var 0) sa_nil)))))
      (ss_ret se_bl) ss_next)
      (ss_seq (ss_setL (i := 6) (sn_lst sa_nil))
      (ss_seq (ss_for (si_tup (se_op rv_ixL' (se_var 0) (se_var 5))) (sg_name (i := 4))
      (ss_if (st_and (st_test (se_notinO (i := 3) (se_un rv1_neg (se_var 4)))) (st_test (se_notinO (i := 6) (se_var 4))))
      (ss_app (i := 6) (se_var 4)) ss_next))
      (ss_seq (ss_if (st_test (se_op rv_eq' (se_lenO (i := 6)) se_int))
      (ss_ret se_bl) ss_next)
      (ss_seq (ss_if (st_test (se_op rv_gt (se_lenO (i := 6)) se_int))
      (ss_ret se_bl) ss_next)
      (ss_app (i := 3) (se_ixO (i := 6) se_int))))))))
      (ss_ret se_bl))) rfl (lg_law_right) h⟩)
theorem ok_law {f : Addr} {fd : FuncData} (F : Fun K "law" "law" s_law f fd) (T : Txt mg K w ) (C_law_state : Callee P w K mg base "_law_state" 1 ["script"] (FnO0 (Fm.tabs Tt) K 1 stO gState)) (C_law_clause : Callee P w K mg base "_law_clause" 2 ["state", "variables", "size"] (FnL0 (Fm.tabs Tt) K 3 sp_law_clause)) (C_check_step : Callee P w K mg base "check_step" 1 ["clauses", "clause", "hints"] (FnL0 (Fm.tabs Tt) K 3 sp_check_step)) (C_law_take : Callee P w K mg base "_law_take" 1 ["state", "most"] (FnL0 (Fm.tabs Tt) K 2 sp_law_take)) (C_law_good_hints : Callee P w K mg base "_law_good_hints" 1 ["clauses", "clause"] (FnW0 (Fm.tabs Tt) K 2 sp_law_good_hints)) (C_law_models : Callee P w K mg base "_law_models" 3 ["clauses", "variables"] (FnL0 (Fm.tabs Tt) K 2 sp_law_models)) (C_law_right : Callee P w K mg base "_law_right" 1 ["clauses", "clause", "hints"] (FnL0 (Fm.tabs Tt) K 3 sp_law_right)) (C_law_true : Callee P w K mg base "_law_true" 1 ["clause", "bits"] (FnL0 (Fm.tabs Tt) K 2 sp_law_true)) :
    FnTop P w K mg base f fd ["script"] (FnL0 (Fm.tabs Tt) K 1 sp_law) := by
  refine fun_top (k := 3) F sc_law ⟨rfl, by decide +kernel, by decide +kernel⟩ (fun vs H Q E h => fn_len h) (fun cdv s H vs Q E hr hgd h => ⟨_, (pss_cons (ps_set (i := 1) sc_law.nd rfl (.inr rfl) (pe_fn C_law_state (hr.mono (by decide)) (by rfl) (pa_cons (pv 0) pa_nil)))
      (pss_cons (ps_set (i := 2) sc_law.nd rfl (.inr rfl) (pe_lc (own := [("k", 3)]) (by rfl) sc_law.nd (pi_range1 rfl T.range (pa_cons (pe_fn C_law_take (hr.mono (by decide)) (by rfl) (pa_cons (pv 1) (pa_cons pe_int pa_nil))) pa_nil)) (blkOk_by (own := [("k", 3)]) (N := ["script", "state", "clauses", "k", "clause", "hints", "kept", "told", "bits"]) (sc := defScope s_law) (by decide +kernel)) (fun _ _ _ _ _ => (pg_name (i := 3) sc_law.nd rfl (Or.inl rfl))) (fun _ _ _ _ _ => pts_nil) (fun _ _ _ _ _ => (pe_fn C_law_clause (hr.mono (by decide)) (by rfl) (pa_cons (pv 1) (pa_cons pe_int (pa_cons (pe_fn C_law_take (hr.mono (by decide)) (by rfl) (pa_cons (pv 1) (pa_cons pe_int pa_nil))) pa_nil)))))))
      (pss_cons (ps_set (i := 4) sc_law.nd rfl (.inl rfl) (pe_fn C_law_clause (hr.mono (by decide)) (by rfl) (pa_cons (pv 1) (pa_cons pe_int (pa_cons (pe_fn C_law_take (hr.mono (by decide)) (by rfl) (pa_cons (pv 1) (pa_cons pe_int pa_nil))) pa_nil)))))
      (pss_cons (ps_setLc (i := 5) (own := [("k", 3)]) (by rfl) sc_law.nd rfl rfl (by rfl) (pi_range1 rfl T.range (pa_cons (pe_fn C_law_take (hr.mono (by decide)) (by rfl) (pa_cons (pv 1) (pa_cons pe_int pa_nil))) pa_nil)) (blkOk_by (own := [("k", 3)]) (N := ["script", "state", "clauses", "k", "clause", "hints", "kept", "told", "bits"]) (sc := defScope s_law) (by decide +kernel)) (fun _ _ _ _ _ => (pg_name (i := 3) sc_law.nd rfl (Or.inl rfl))) (fun _ _ _ _ _ => pts_nil) (fun _ _ _ _ _ => (pe_op op_sub (pe_fn C_law_take (hr.mono (by decide)) (by rfl) (pa_cons (pv 1) (pa_cons (pe_op op_add (pe_callB call_len_seq (by rfl) T.len PySem.boot_len (pa_cons (pv 2) pa_nil)) pe_int) pa_nil))) pe_int)))
      (pss_cons (ps_if (pt_cmpR op_gt (pe_fn C_law_take (hr.mono (by decide)) (by rfl) (pa_cons (pv 1) (pa_cons pe_int pa_nil))) pe_int (nomark _))
      (pss_cons (ps_set (i := 5) sc_law.nd rfl (.inl rfl) (pe_fn C_law_good_hints (hr.mono (by decide)) (by rfl) (pa_cons (pv 2) (pa_cons (pv 4) pa_nil))))
      (pss_one (ps_if (PW.pt (pw_and (pt_cmpR op_gt (pe_callB call_len_seq (by rfl) T.len PySem.boot_len (pa_cons (pv 5) pa_nil)) pe_int (nomark _)) (pw_and1 (pt_cmpR op_eq (pe_fn C_law_take (hr.mono (by decide)) (by rfl) (pa_cons (pv 1) (pa_cons pe_int pa_nil))) pe_int (nomark _)))))
      (pss_one (ps_asg (pe_fn C_law_take (hr.mono (by decide)) (by rfl) (pa_cons (pv 1) (pa_cons (pe_callB call_len_seq (by rfl) T.len PySem.boot_len (pa_cons (pv 2) pa_nil)) pa_nil))) (pg_sub (pv 5) (pe_fn C_law_take (hr.mono (by decide)) (by rfl) (pa_cons (pv 1) (pa_cons (pe_callB call_len_seq (by rfl) T.len PySem.boot_len (pa_cons (pv 5) pa_nil)) pa_nil))) set_list))) pss_nil))) pss_nil)
      (pss_cons (ps_set (i := 6) sc_law.nd rfl (.inl rfl) (pe_callB (call_reprD (hu66 hr) hgd) (by rfl) T.repr (by decide +kernel) (pa_cons (pe_tup (pa_cons (pv 2) (pa_cons (pv 4) (pa_cons (pv 5) pa_nil)))) pa_nil)))
      (pss_cons (ps_set (i := 7) sc_law.nd rfl (.inl rfl) (pe_fn C_check_step (hr.mono (by decide)) (by rfl) (pa_cons (pv 2) (pa_cons (pv 4) (pa_cons (pv 5) pa_nil)))))
      (pss_cons (ps_if (PW.pt (pw_or (pt_cmpR op_ne (pe_callB (call_reprD (hu66 hr) hgd) (by rfl) T.repr (by decide +kernel) (pa_cons (pv 7) pa_nil)) (pe_callB (call_reprD (hu66 hr) hgd) (by rfl) T.repr (by decide +kernel) (pa_cons (pe_fn C_law_right (hr.mono (by decide)) (by rfl) (pa_cons (pv 2) (pa_cons (pv 4) (pa_cons (pv 5) pa_nil)))) pa_nil)) (nomark _)) (pw_or1 (pt_cmpR op_ne (pe_callB (call_reprD (hu66 hr) hgd) (by rfl) T.repr (by decide +kernel) (pa_cons (pe_tup (pa_cons (pv 2) (pa_cons (pv 4) (pa_cons (pv 5) pa_nil)))) pa_nil)) (pv 6) (nomark _)))))
      (pss_one (ps_ret pe_bl)) pss_nil)
      (pss_cons (ps_if (pt_val (pv 7))
      (pss_one (ps_for PassesOwn.never rfl (pi_list (pe_fn C_law_models (hr.mono (by decide)) (by rfl) (pa_cons (pv 2) (pa_cons pe_int pa_nil)))) (pg_name (i := 8) sc_law.nd rfl (.inl rfl))
      (pss_one (ps_if (pt_not (pt_val (pe_fn C_law_true (hr.mono (by decide)) (by rfl) (pa_cons (pv 4) (pa_cons (pv 8) pa_nil)))))
      (pss_one (ps_ret pe_bl)) pss_nil)))) pss_nil)
      (pss_one (ps_ret pe_bl))))))))))), body_ok (W := W0) (ls := ls_law) (ss_seq (ss_setX (i := 1) (sa_cons (se_var 0) sa_nil))
      (ss_seq (ss_set (i := 2) (se_new (sn_lc (js := [3]) (vs := [3]) (by decide) (si_rng1 (sa_cons (se_callM (sam_o (i := 1) (sam_v se_int sam_nil))) sa_nil)) (sg_name (i := 3)) st_yes' (se_callM (sam_o (i := 1) (sam_v se_int (sam_v (se_callM (sam_o (i := 1) (sam_v se_int sam_nil))) sam_nil)))))))
      (ss_seq (ss_set (i := 4) (se_callM (sam_o (i := 1) (sam_v se_int (sam_v (se_callM (sam_o (i := 1) (sam_v se_int sam_nil))) sam_nil)))))
      (ss_seq (ss_setL (i := 5) (sn_lc (js := [3]) (vs := [3]) (by decide) (si_rng1 (sa_cons (se_callM (sam_o (i := 1) (sam_v se_int sam_nil))) sa_nil)) (sg_name (i := 3)) st_yes' (se_op rv_sub (se_callM (sam_o (i := 1) (sam_v (se_op rv_add (se_cb rva_len (sa_cons (se_var 2) sa_nil)) se_int) sam_nil))) se_int)))
      (ss_seq (ss_if (st_test (se_op rv_gt (se_callM (sam_o (i := 1) (sam_v se_int sam_nil))) se_int))
      (ss_seq (ss_setW (i := 5) (sam_v (se_var 2) (sam_v (se_var 4) sam_nil)))
      (ss_if (st_and (st_test (se_op rv_gt (se_lenO (i := 5)) se_int)) (st_test (se_op rv_eq' (se_callM (sam_o (i := 1) (sam_v se_int sam_nil))) se_int)))
      (ss_sto (i := 5) (se_callM (sam_o (i := 1) (sam_v (se_cb rva_len (sa_cons (se_var 2) sa_nil)) sam_nil))) (se_callM (sam_o (i := 1) (sam_v (se_lenO (i := 5)) sam_nil)))) ss_next)) ss_next)
      (ss_seq (ss_set (i := 6) (se_cb rva_repr (sa_cons (se_tup (sa_cons (se_var 2) (sa_cons (se_var 4) (sa_cons (se_var 5) sa_nil)))) sa_nil)))
      (ss_seq (ss_set (i := 7) (se_call (sa_cons (se_var 2) (sa_cons (se_var 4) (sa_cons (se_var 5) sa_nil)))))
      (ss_seq (ss_if (st_or (st_test (se_op rv_ne' (se_cb rva_repr (sa_cons (se_var 7) sa_nil)) (se_cb rva_repr (sa_cons (se_call (sa_cons (se_var 2) (sa_cons (se_var 4) (sa_cons (se_var 5) sa_nil)))) sa_nil)))) (st_test (se_op rv_ne' (se_cb rva_repr (sa_cons (se_tup (sa_cons (se_var 2) (sa_cons (se_var 4) (sa_cons (se_var 5) sa_nil)))) sa_nil)) (se_var 6))))
      (ss_ret se_bl) ss_next)
      (ss_seq (ss_if (st_B (se_var 7))
      (ss_for (si_list (se_call (sa_cons (se_var 2) (sa_cons se_int sa_nil)))) (sg_name (i := 8))
      (ss_if (st_not (st_B (se_call (sa_cons (se_var 4) (sa_cons (se_var 8) sa_nil)))))
      (ss_ret se_bl) ss_next)) ss_next)
      (ss_ret se_bl)))))))))) rfl (lg_law) h⟩)
end
end K52
set_option Elab.async false
set_option linter.all false
set_option maxRecDepth 100000
set_option maxHeartbeats 4000000
namespace K52
open PySem PySem.Spec PyProof.Rows L2 Cw Lg
open GxR (TabG Tabbed TabB GenS)
theorem all_mk {l : PySem.W.OpenLaw} {w : World} {K : PySem.W.Frag} {h : Heap} {mg : Str → Option Value} {fa : Addr} (X : K.In h) (G : h.Ns mainGlobals mg) (hfa : mg "law" = some (.ref fa)) (TF : ∀ x ∈ ([] : List Str), TabFact K x mg h)
    {f_law_state : Addr} {od_law_state an_law_state : Option Addr} {sl_law_state : Array (Option Value)} {oc_law_state kV_law_state dc_law_state pm_law_state cd_law_state ct_law_state : Value}
    {f_law_take : Addr} {od_law_take an_law_take : Option Addr} {sl_law_take : Array (Option Value)} {oc_law_take kV_law_take dc_law_take pm_law_take cd_law_take ct_law_take : Value}
    {f_law_clause : Addr} {od_law_clause an_law_clause : Option Addr} {sl_law_clause : Array (Option Value)} {oc_law_clause kV_law_clause dc_law_clause pm_law_clause cd_law_clause ct_law_clause : Value}
    {f_check_step : Addr} {od_check_step an_check_step : Option Addr} {sl_check_step : Array (Option Value)} {oc_check_step kV_check_step dc_check_step pm_check_step cd_check_step ct_check_step : Value}
    {f_law_good_hints : Addr} {od_law_good_hints an_law_good_hints : Option Addr} {sl_law_good_hints : Array (Option Value)} {oc_law_good_hints kV_law_good_hints dc_law_good_hints pm_law_good_hints cd_law_good_hints ct_law_good_hints : Value}
    {f_law_true : Addr} {od_law_true an_law_true : Option Addr} {sl_law_true : Array (Option Value)} {oc_law_true kV_law_true dc_law_true pm_law_true cd_law_true ct_law_true : Value}
    {f_law_all : Addr} {od_law_all an_law_all : Option Addr} {sl_law_all : Array (Option Value)} {oc_law_all kV_law_all dc_law_all pm_law_all cd_law_all ct_law_all : Value}
    {f_law_models : Addr} {od_law_models an_law_models : Option Addr} {sl_law_models : Array (Option Value)} {oc_law_models kV_law_models dc_law_models pm_law_models cd_law_models ct_law_models : Value}
    {f_law_right : Addr} {od_law_right an_law_right : Option Addr} {sl_law_right : Array (Option Value)} {oc_law_right kV_law_right dc_law_right pm_law_right cd_law_right ct_law_right : Value}
    {f_law : Addr} {od_law an_law : Option Addr} {sl_law : Array (Option Value)} {oc_law kV_law dc_law pm_law cd_law ct_law : Value}
    (a_law_state : PySem.W.nsIn K mainGlobals "_law_state" = some (some (.ref f_law_state)))
    (l_law_state : K.lookup f_law_state = some ⟨oc_law_state, od_law_state, .func (PySem.W.fnOf "_law_state" "_law_state" (defArgs s_law_state) (defBody s_law_state) (defScope s_law_state) .none kV_law_state dc_law_state pm_law_state an_law_state cd_law_state ct_law_state), sl_law_state⟩)
    (c_law_state : PySem.W.codeIn K cd_law_state "_law_state" = true)
    (k_law_state : PySem.W.keepIn K (.ref f_law_state) = true)
    (a_law_take : PySem.W.nsIn K mainGlobals "_law_take" = some (some (.ref f_law_take)))
    (l_law_take : K.lookup f_law_take = some ⟨oc_law_take, od_law_take, .func (PySem.W.fnOf "_law_take" "_law_take" (defArgs s_law_take) (defBody s_law_take) (defScope s_law_take) .none kV_law_take dc_law_take pm_law_take an_law_take cd_law_take ct_law_take), sl_law_take⟩)
    (c_law_take : PySem.W.codeIn K cd_law_take "_law_take" = true)
    (k_law_take : PySem.W.keepIn K (.ref f_law_take) = true)
    (a_law_clause : PySem.W.nsIn K mainGlobals "_law_clause" = some (some (.ref f_law_clause)))
    (l_law_clause : K.lookup f_law_clause = some ⟨oc_law_clause, od_law_clause, .func (PySem.W.fnOf "_law_clause" "_law_clause" (defArgs s_law_clause) (defBody s_law_clause) (defScope s_law_clause) .none kV_law_clause dc_law_clause pm_law_clause an_law_clause cd_law_clause ct_law_clause), sl_law_clause⟩)
    (c_law_clause : PySem.W.codeIn K cd_law_clause "_law_clause" = true)
    (k_law_clause : PySem.W.keepIn K (.ref f_law_clause) = true)
    (a_check_step : PySem.W.nsIn K mainGlobals "check_step" = some (some (.ref f_check_step)))
    (l_check_step : K.lookup f_check_step = some ⟨oc_check_step, od_check_step, .func (PySem.W.fnOf "check_step" "check_step" (defArgs s_check_step) (defBody s_check_step) (defScope s_check_step) .none kV_check_step dc_check_step pm_check_step an_check_step cd_check_step ct_check_step), sl_check_step⟩)
    (c_check_step : PySem.W.codeIn K cd_check_step "check_step" = true)
    (k_check_step : PySem.W.keepIn K (.ref f_check_step) = true)
    (a_law_good_hints : PySem.W.nsIn K mainGlobals "_law_good_hints" = some (some (.ref f_law_good_hints)))
    (l_law_good_hints : K.lookup f_law_good_hints = some ⟨oc_law_good_hints, od_law_good_hints, .func (PySem.W.fnOf "_law_good_hints" "_law_good_hints" (defArgs s_law_good_hints) (defBody s_law_good_hints) (defScope s_law_good_hints) .none kV_law_good_hints dc_law_good_hints pm_law_good_hints an_law_good_hints cd_law_good_hints ct_law_good_hints), sl_law_good_hints⟩)
    (c_law_good_hints : PySem.W.codeIn K cd_law_good_hints "_law_good_hints" = true)
    (k_law_good_hints : PySem.W.keepIn K (.ref f_law_good_hints) = true)
    (a_law_true : PySem.W.nsIn K mainGlobals "_law_true" = some (some (.ref f_law_true)))
    (l_law_true : K.lookup f_law_true = some ⟨oc_law_true, od_law_true, .func (PySem.W.fnOf "_law_true" "_law_true" (defArgs s_law_true) (defBody s_law_true) (defScope s_law_true) .none kV_law_true dc_law_true pm_law_true an_law_true cd_law_true ct_law_true), sl_law_true⟩)
    (c_law_true : PySem.W.codeIn K cd_law_true "_law_true" = true)
    (k_law_true : PySem.W.keepIn K (.ref f_law_true) = true)
    (a_law_all : PySem.W.nsIn K mainGlobals "_law_all" = some (some (.ref f_law_all)))
    (l_law_all : K.lookup f_law_all = some ⟨oc_law_all, od_law_all, .func (PySem.W.fnOf "_law_all" "_law_all" (defArgs s_law_all) (defBody s_law_all) (defScope s_law_all) .none kV_law_all dc_law_all pm_law_all an_law_all cd_law_all ct_law_all), sl_law_all⟩)
    (c_law_all : PySem.W.codeIn K cd_law_all "_law_all" = true)
    (k_law_all : PySem.W.keepIn K (.ref f_law_all) = true)
    (a_law_models : PySem.W.nsIn K mainGlobals "_law_models" = some (some (.ref f_law_models)))
    (l_law_models : K.lookup f_law_models = some ⟨oc_law_models, od_law_models, .func (PySem.W.fnOf "_law_models" "_law_models" (defArgs s_law_models) (defBody s_law_models) (defScope s_law_models) .none kV_law_models dc_law_models pm_law_models an_law_models cd_law_models ct_law_models), sl_law_models⟩)
    (c_law_models : PySem.W.codeIn K cd_law_models "_law_models" = true)
    (k_law_models : PySem.W.keepIn K (.ref f_law_models) = true)
    (a_law_right : PySem.W.nsIn K mainGlobals "_law_right" = some (some (.ref f_law_right)))
    (l_law_right : K.lookup f_law_right = some ⟨oc_law_right, od_law_right, .func (PySem.W.fnOf "_law_right" "_law_right" (defArgs s_law_right) (defBody s_law_right) (defScope s_law_right) .none kV_law_right dc_law_right pm_law_right an_law_right cd_law_right ct_law_right), sl_law_right⟩)
    (c_law_right : PySem.W.codeIn K cd_law_right "_law_right" = true)
    (k_law_right : PySem.W.keepIn K (.ref f_law_right) = true)
    (a_law : PySem.W.nsIn K mainGlobals "law" = some (some (.ref f_law)))
    (l_law : K.lookup f_law = some ⟨oc_law, od_law, .func (PySem.W.fnOf "law" "law" (defArgs s_law) (defBody s_law) (defScope s_law) .none kV_law dc_law pm_law an_law cd_law ct_law), sl_law⟩)
    (c_law : PySem.W.codeIn K cd_law "law" = true)
    (k_law : PySem.W.keepIn K (.ref f_law) = true)
    (z_len : PySem.W.nsIn K mainGlobals "len" = some none)
    (z_range : PySem.W.nsIn K mainGlobals "range" = some none)
    (z_abs : PySem.W.nsIn K mainGlobals "abs" = some none)
    (z_int : PySem.W.nsIn K mainGlobals "int" = some none)
    (z_set : PySem.W.nsIn K mainGlobals "set" = some none)
    (z_tuple : PySem.W.nsIn K mainGlobals "tuple" = some none)
    (z_repr : PySem.W.nsIn K mainGlobals "repr" = some none) :
    LawTop l w K 63 "script" mg fa h := by
  have efa := hfa.symm.trans (PySem.W.mg_of X G a_law)
  cases efa
  have T : Txt mg K w  := ⟨PySem.W.mg_none_of X G z_len, PySem.W.mg_none_of X G z_range, PySem.W.mg_none_of X G z_abs, PySem.W.mg_none_of X G z_int, PySem.W.mg_none_of X G z_set, PySem.W.mg_none_of X G z_tuple, PySem.W.mg_none_of X G z_repr⟩
  have F_law_state := fun_mk (st := s_law_state) l_law_state c_law_state k_law_state
  have B_law_state := F_law_state.binds (ps := ["script"]) fun _ _ _ _ _ _ us hl => match us, hl with | [_], _ => rfl
  have F_law_take := fun_mk (st := s_law_take) l_law_take c_law_take k_law_take
  have B_law_take := F_law_take.binds (ps := ["state", "most"]) fun _ _ _ _ _ _ us hl => match us, hl with | [_, _], _ => rfl
  have F_law_clause := fun_mk (st := s_law_clause) l_law_clause c_law_clause k_law_clause
  have B_law_clause := F_law_clause.binds (ps := ["state", "variables", "size"]) fun _ _ _ _ _ _ us hl => match us, hl with | [_, _, _], _ => rfl
  have F_check_step := fun_mk (st := s_check_step) l_check_step c_check_step k_check_step
  have B_check_step := F_check_step.binds (ps := ["clauses", "clause", "hints"]) fun _ _ _ _ _ _ us hl => match us, hl with | [_, _, _], _ => rfl
  have F_law_good_hints := fun_mk (st := s_law_good_hints) l_law_good_hints c_law_good_hints k_law_good_hints
  have B_law_good_hints := F_law_good_hints.binds (ps := ["clauses", "clause"]) fun _ _ _ _ _ _ us hl => match us, hl with | [_, _], _ => rfl
  have F_law_true := fun_mk (st := s_law_true) l_law_true c_law_true k_law_true
  have B_law_true := F_law_true.binds (ps := ["clause", "bits"]) fun _ _ _ _ _ _ us hl => match us, hl with | [_, _], _ => rfl
  have F_law_all := fun_mk (st := s_law_all) l_law_all c_law_all k_law_all
  have B_law_all := F_law_all.binds (ps := ["clauses", "bits"]) fun _ _ _ _ _ _ us hl => match us, hl with | [_, _], _ => rfl
  have F_law_models := fun_mk (st := s_law_models) l_law_models c_law_models k_law_models
  have B_law_models := F_law_models.binds (ps := ["clauses", "variables"]) fun _ _ _ _ _ _ us hl => match us, hl with | [_, _], _ => rfl
  have F_law_right := fun_mk (st := s_law_right) l_law_right c_law_right k_law_right
  have B_law_right := F_law_right.binds (ps := ["clauses", "clause", "hints"]) fun _ _ _ _ _ _ us hl => match us, hl with | [_, _, _], _ => rfl
  have F_law := fun_mk (st := s_law) l_law c_law k_law
  have B_law := F_law.binds (ps := ["script"]) fun _ _ _ _ _ _ us hl => match us, hl with | [_], _ => rfl
  refine ⟨PySem.W.fnOf "law" "law" (defArgs s_law) (defBody s_law) (defScope s_law) .none kV_law dc_law pm_law an_law cd_law ct_law, ([] : List (Addr × Addr)), FnL0 (Fm.tabs ([] : List Addr)) K 1 Lg.sp_law, ⟨?_, ?_, ?_⟩, fun s v => .of_eq rfl, ?_, ?_⟩
  · intro p hp
    cases hp
  · intro p hp
    cases hp
  · intro p hp
    cases hp
  · intro H a ns hl hb hH hS
    refine law_in hl hb (fun P hP => ?_) hS
    cases hP
  · intro base XB GB TB
    have C_law_state : Callee l.prog w K mg base "_law_state" 1 ["script"] (FnO0 (Fm.tabs ([] : List Addr)) K 1 stO gState) := ⟨⟨_, _, ok_law_state F_law_state T , PySem.W.mg_of X G a_law_state, k_law_state, B_law_state⟩⟩
    have C_law_take : Callee l.prog w K mg base "_law_take" 1 ["state", "most"] (FnL0 (Fm.tabs ([] : List Addr)) K 2 sp_law_take) := ⟨⟨_, _, ok_law_take F_law_take T , PySem.W.mg_of X G a_law_take, k_law_take, B_law_take⟩⟩
    have C_law_clause : Callee l.prog w K mg base "_law_clause" 2 ["state", "variables", "size"] (FnL0 (Fm.tabs ([] : List Addr)) K 3 sp_law_clause) := ⟨⟨_, _, ok_law_clause F_law_clause T C_law_take, PySem.W.mg_of X G a_law_clause, k_law_clause, B_law_clause⟩⟩
    have C_check_step : Callee l.prog w K mg base "check_step" 1 ["clauses", "clause", "hints"] (FnL0 (Fm.tabs ([] : List Addr)) K 3 sp_check_step) := ⟨⟨_, _, ok_check_step F_check_step T , PySem.W.mg_of X G a_check_step, k_check_step, B_check_step⟩⟩
    have C_law_good_hints : Callee l.prog w K mg base "_law_good_hints" 1 ["clauses", "clause"] (FnW0 (Fm.tabs ([] : List Addr)) K 2 sp_law_good_hints) := ⟨⟨_, _, ok_law_good_hints F_law_good_hints T , PySem.W.mg_of X G a_law_good_hints, k_law_good_hints, B_law_good_hints⟩⟩
    have C_law_true : Callee l.prog w K mg base "_law_true" 1 ["clause", "bits"] (FnL0 (Fm.tabs ([] : List Addr)) K 2 sp_law_true) := ⟨⟨_, _, ok_law_true F_law_true T , PySem.W.mg_of X G a_law_true, k_law_true, B_law_true⟩⟩
    have C_law_all : Callee l.prog w K mg base "_law_all" 2 ["clauses", "bits"] (FnL0 (Fm.tabs ([] : List Addr)) K 2 sp_law_all) := ⟨⟨_, _, ok_law_all F_law_all T C_law_true, PySem.W.mg_of X G a_law_all, k_law_all, B_law_all⟩⟩
    have C_law_models : Callee l.prog w K mg base "_law_models" 3 ["clauses", "variables"] (FnL0 (Fm.tabs ([] : List Addr)) K 2 sp_law_models) := ⟨⟨_, _, ok_law_models F_law_models T C_law_all, PySem.W.mg_of X G a_law_models, k_law_models, B_law_models⟩⟩
    have C_law_right : Callee l.prog w K mg base "_law_right" 1 ["clauses", "clause", "hints"] (FnL0 (Fm.tabs ([] : List Addr)) K 3 sp_law_right) := ⟨⟨_, _, ok_law_right F_law_right T , PySem.W.mg_of X G a_law_right, k_law_right, B_law_right⟩⟩
    exact ok_law F_law T C_law_state C_law_clause C_check_step C_law_take C_law_good_hints C_law_models C_law_right C_law_true
end K52
open PySem PySem.W PyProof.Rows
set_option Elab.async false
set_option maxRecDepth 100000 in
set_option maxHeartbeats 0 in
theorem PySem.Challenge.cw_clockwright_k52_steps_holds : PySem.Challenge.rw_clockwright_k52_steps.Holds := by
  w_on; o_law; k_head; (case hw => w_witness2)
  k_fill
  refine Lg.walk_top (l := PySem.Challenge.rw_clockwright_k52_steps) (n := 63) (y := "script") ([] : List Str) rfl (by decide) rfl ?R (fun w h Y => PySem.W.kIn_of Y) ?F
  case R => kernel_rfl
  case F =>
    intro w mg fa h KX G hmg TF
    refine' K52.all_mk (l := PySem.Challenge.rw_clockwright_k52_steps) (w := w) KX G hmg TF ?a_law_state ?l_law_state ?c_law_state ?k_law_state ?a_law_take ?l_law_take ?c_law_take ?k_law_take ?a_law_clause ?l_law_clause ?c_law_clause ?k_law_clause ?a_check_step ?l_check_step ?c_check_step ?k_check_step ?a_law_good_hints ?l_law_good_hints ?c_law_good_hints ?k_law_good_hints ?a_law_true ?l_law_true ?c_law_true ?k_law_true ?a_law_all ?l_law_all ?c_law_all ?k_law_all ?a_law_models ?l_law_models ?c_law_models ?k_law_models ?a_law_right ?l_law_right ?c_law_right ?k_law_right ?a_law ?l_law ?c_law ?k_law ?z_len ?z_range ?z_abs ?z_int ?z_set ?z_tuple ?z_repr
    (case a_law_state => k_is)
    (case l_law_state => k_is)
    (case c_law_state => k_is)
    (case k_law_state => k_is)
    (case a_law_take => k_is)
    (case l_law_take => k_is)
    (case c_law_take => k_is)
    (case k_law_take => k_is)
    (case a_law_clause => k_is)
    (case l_law_clause => k_is)
    (case c_law_clause => k_is)
    (case k_law_clause => k_is)
    (case a_check_step => k_is)
    (case l_check_step => k_is)
    (case c_check_step => k_is)
    (case k_check_step => k_is)
    (case a_law_good_hints => k_is)
    (case l_law_good_hints => k_is)
    (case c_law_good_hints => k_is)
    (case k_law_good_hints => k_is)
    (case a_law_true => k_is)
    (case l_law_true => k_is)
    (case c_law_true => k_is)
    (case k_law_true => k_is)
    (case a_law_all => k_is)
    (case l_law_all => k_is)
    (case c_law_all => k_is)
    (case k_law_all => k_is)
    (case a_law_models => k_is)
    (case l_law_models => k_is)
    (case c_law_models => k_is)
    (case k_law_models => k_is)
    (case a_law_right => k_is)
    (case l_law_right => k_is)
    (case c_law_right => k_is)
    (case k_law_right => k_is)
    (case a_law => k_is)
    (case l_law => k_is)
    (case c_law => k_is)
    (case k_law => k_is)
    (case z_len => k_is)
    (case z_range => k_is)
    (case z_abs => k_is)
    (case z_int => k_is)
    (case z_set => k_is)
    (case z_tuple => k_is)
    (case z_repr => k_is)
