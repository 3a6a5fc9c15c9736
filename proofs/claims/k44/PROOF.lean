import PyProof.Rows.All
import Wide.All
import OpenK.AllK
import Wide.FinOn
import HandS.ForMost
import HandS.Wide
import HandS.WideBits
import HandS.Gcd
import HandS.EndBits
import HandS.Steps
import HandS.Style
import HandS.IsInst
import HandS.Deep
import HandS.SortRule
import HandS.TupSets
import HandS.ExcInit
import HandS.ExcOwn
import HandS.ExcField
import HandS.FStr
import HandS.TryOnly
import HandS.ForSpec
import HandS.ExcIs
import HandS.Lambda
import KE.KBits
import HandS.IntHex
import HandS.Zip
import KE.GoesMore
import PyProof.ReprRoads
import PyProof.ReprLen
import HandS.Words
import KE.SortKeyHeap
import HandS.SortKw
import HandS.ExcValue
import HandS.SortInts
import PyProof.SeqIndex
import PySem.Challenge.RW_twicedial_k44_whole_turning_sets
set_option Elab.async false
set_option linter.all false
set_option maxRecDepth 100000
set_option maxHeartbeats 8000000
namespace Tw
open PySem PySem.Spec PyProof.Rows L2
/-! ### heaps: what stays -/
/-- all tracked objects but dicts stay -/
def Keep (H H' : Hp) : Prop := ∀ b o, (∀ kvs, o ≠ .dK kvs) → H b = some o → H' b = some o
theorem Keep.refl (H : Hp) : Keep H H := fun _ _ _ h => h
theorem Keep.of {H H' : Hp} (e : Same H H') : Keep H H' := fun b o _ h => e b o h
theorem Keep.trans {H H1 H2 : Hp} (a : Keep H H1) (b : Keep H1 H2) : Keep H H2 := fun c o n h => b c o n (a c o n h)
theorem Keep.rd {H H' : Hp} {a : Addr} {u : HO} (e : Keep H H') (n : ∀ kvs, u ≠ .dK kvs) (h : Rd H a u) : Rd H' a u := by
  rcases h with h | ⟨o, h⟩
  · exact .inl (e a _ n h)
  · exact .inr ⟨o, e a _ (fun kvs z => nomatch z) h⟩
theorem Keep.seqL {K : PySem.W.Frag} {H H' : Hp} {a : Addr} {xs : List V} (e : Keep H H') (h : SqL K H a xs) : SqL K H' a xs := by
  rcases h with h | h
  · exact .inl (e.rd (fun _ z => nomatch z) h)
  · exact .inr h
theorem Keep.seqT {K : PySem.W.Frag} {H H' : Hp} {a : Addr} {xs : List V} (e : Keep H H') (h : SqT K H a xs) : SqT K H' a xs := by
  rcases h with h | h
  · exact .inl (e.rd (fun _ z => nomatch z) h)
  · exact .inr h
theorem Keep.l {H H' : Hp} {a : Addr} {xs : List V} (e : Keep H H') (h : H a = some (.lst xs)) : H' a = some (.lst xs) := e a _ (fun _ z => nomatch z) h
theorem Keep.t {H H' : Hp} {a : Addr} {xs : List V} (e : Keep H H') (h : H a = some (.tup xs)) : H' a = some (.tup xs) := e a _ (fun _ z => nomatch z) h
theorem len_ok {n : Nat} (h : n ≤ 1000) : n ≤ sizeLine := Nat.le_trans h (by decide)
theorem len_lt {n : Nat} (h : n ≤ 1000) : n < sizeLine := Nat.lt_of_le_of_lt h (by decide)
theorem same_new {H : Hp} {p : Addr} {o : HO} (h : H p = none) : Same H (upd H p o) := fun b x e => by
  rw [upd_ne (ne_of_none e h)]; exact e
/-- an object that H does not know may change -/
theorem same_mut {H H' : Hp} {p : Addr} {o : HO} (e : Same H H') (h : H p = none) : Same H (upd H' p o) := fun a u ha => by
  rw [upd_ne (ne_of_none ha h)]; exact e a u ha
theorem keep_mut {H H' : Hp} {p : Addr} {o : HO} (e : Keep H H') (h : H p = none) : Keep H (upd H' p o) := fun a u n ha => by
  rw [upd_ne (ne_of_none ha h)]; exact e a u n ha
theorem keep_dict {H : Hp} {m : Addr} {kvs : List (Key × V)} {o : HO} (h : H m = some (.dK kvs)) : Keep H (upd H m o) := fun b u n e => by
  rw [upd_ne]
  · exact e
  · intro z; subst z; rw [h] at e; exact n kvs (Option.some.inj e).symm
theorem keep_free {H H' : Hp} (e : Same H H') {l : Addr} (h : H' l = none) : H l = none := e.free h

/-! ### data -/
abbrev Dt := PyData
mutual
theorem Dpk {K : PySem.W.Frag} {H H' : Hp} (e : Keep H H') : ∀ (d : PyData) (v : V), Dp K H v d → Dp K H' v d
  | .none, _, h => by cases h; exact .non
  | .bool b, _, h => by cases h; exact .bl b
  | .int i, _, h => by cases h; exact .int i
  | .str x, _, h => by cases h; exact .str x
  | .list ds, _, h => by
    cases h with
    | lst hs ha => exact .lst (e.seqL hs) (DpkAll e ds _ ha)
  | .tuple ds, _, h => by
    cases h with
    | tup hs ha => exact .tup (e.seqT hs) (DpkAll e ds _ ha)
  | .dict _, _, h => by cases h
theorem DpkAll {K : PySem.W.Frag} {H H' : Hp} (e : Keep H H') : ∀ (ds : List PyData) (vs : List V), DpAll K H vs ds → DpAll K H' vs ds
  | [], _, h => by cases h; exact .nil
  | d :: ds, _, h => by
    cases h with
    | cons h1 h2 => exact .cons (Dpk e d _ h1) (DpkAll e ds _ h2)
end
section
variable {K : PySem.W.Frag} {H H' : Hp} {v : V} {d : PyData} {vs : List V} {ds : List PyData} {a p : Addr} {xs : List V}
theorem dp_keep (e : Keep H H') (h : Dp K H v d) : Dp K H' v d := Dpk e d v h
theorem dp_same (e : Same H H') (h : Dp K H v d) : Dp K H' v d := Dpk (Keep.of e) d v h
theorem dpa_keep (e : Keep H H') (h : DpAll K H vs ds) : DpAll K H' vs ds := DpkAll e ds vs h
theorem dpa_same (e : Same H H') (h : DpAll K H vs ds) : DpAll K H' vs ds := DpkAll (Keep.of e) ds vs h
theorem dp_int {i : Int} (h : Dp K H v (.int i)) : v = .int i := by cases h; rfl
theorem dp_str {i : Str} (h : Dp K H v (.str i)) : v = .str i := by cases h; rfl
theorem dp_bl {i : Bool} (h : Dp K H v (.bool i)) : v = .bl i := by cases h; rfl
theorem dp_non (h : Dp K H v .none) : v = .non := by cases h; rfl
theorem dp_tup (h : Dp K H v (.tuple ds)) : ∃ a xs, v = .ref a ∧ SqT K H a xs ∧ DpAll K H xs ds := by
  cases h with
  | tup hs ha => exact ⟨_, _, rfl, hs, ha⟩
theorem dp_lst (h : Dp K H v (.list ds)) : ∃ a xs, v = .ref a ∧ SqL K H a xs ∧ DpAll K H xs ds := by
  cases h with
  | lst hs ha => exact ⟨_, _, rfl, hs, ha⟩
theorem dpa_len : ∀ {vs : List V} {ds : List PyData}, DpAll K H vs ds → vs.length = ds.length
  | _, [], h => by cases h; rfl
  | _, d :: ds, h => by
    cases h with
    | cons h1 h2 => simp [dpa_len h2]
theorem dpa_get : ∀ {vs : List V} {ds : List PyData} {i : Nat} {d : PyData}, DpAll K H vs ds → ds[i]? = some d → ∃ v, vs[i]? = some v ∧ Dp K H v d
  | _, [], i, d, h, e => by simp at e
  | _, d0 :: ds, 0, d, h, e => by
    cases h with
    | cons h1 h2 => simp at e; subst e; exact ⟨_, rfl, h1⟩
  | _, d0 :: ds, i + 1, d, h, e => by
    cases h with
    | cons h1 h2 =>
      obtain ⟨v, e1, e2⟩ := dpa_get (i := i) h2 (by simpa using e)
      exact ⟨v, by simpa using e1, e2⟩
theorem dpa_get2 : ∀ {vs : List V} {ds : List PyData} {i : Nat} {v : V}, DpAll K H vs ds → vs[i]? = some v → ∃ d, ds[i]? = some d ∧ Dp K H v d := fun {vs ds i v} h e => by
  have hi : i < ds.length := by
    rw [← dpa_len h]; exact (List.getElem?_eq_some_iff.mp e).1
  obtain ⟨v', e1, e2⟩ := dpa_get h (List.getElem?_eq_getElem hi)
  rw [e] at e1
  cases e1
  exact ⟨_, List.getElem?_eq_getElem hi, e2⟩
theorem dpa_app : ∀ {vs : List V} {ds : List PyData} {ws : List V} {es : List PyData}, DpAll K H vs ds → DpAll K H ws es → DpAll K H (vs ++ ws) (ds ++ es)
  | _, [], _, _, h, g => by cases h; exact g
  | _, d :: ds, _, _, h, g => by
    cases h with
    | cons h1 h2 => exact .cons h1 (dpa_app h2 g)
theorem dpa_one (h : Dp K H v d) : DpAll K H [v] [d] := .cons h .nil
theorem dpa_take : ∀ {vs : List V} {ds : List PyData} (n : Nat), DpAll K H vs ds → DpAll K H (vs.take n) (ds.take n)
  | _, _, 0, h => by simp; exact .nil
  | _, [], n + 1, h => by cases h; exact .nil
  | _, d :: ds, n + 1, h => by
    cases h with
    | cons h1 h2 => exact .cons h1 (dpa_take n h2)
theorem dpa_drop : ∀ {vs : List V} {ds : List PyData} (n : Nat), DpAll K H vs ds → DpAll K H (vs.drop n) (ds.drop n)
  | _, _, 0, h => h
  | _, [], n + 1, h => by cases h; exact .nil
  | _, d :: ds, n + 1, h => by
    cases h with
    | cons h1 h2 => exact dpa_drop n h2
theorem dpa_ints : ∀ (ns : List Int), DpAll K H (ns.map V.int) (ns.map PyData.int)
  | [] => .nil
  | n :: ns => .cons (.int n) (dpa_ints ns)
theorem dpa_ints_inv : ∀ {vs : List V} {ns : List Int}, DpAll K H vs (ns.map PyData.int) → vs = ns.map V.int
  | _, [], h => by cases h; rfl
  | _, n :: ns, h => by
    cases h with
    | cons h1 h2 => cases h1; rw [dpa_ints_inv h2]; rfl
theorem dpa_strs : ∀ (ns : List Str), DpAll K H (ns.map V.str) (ns.map PyData.str)
  | [] => .nil
  | n :: ns => .cons (.str n) (dpa_strs ns)
theorem dpa_strs_inv : ∀ {vs : List V} {ns : List Str}, DpAll K H vs (ns.map PyData.str) → vs = ns.map V.str
  | _, [], h => by cases h; rfl
  | _, n :: ns, h => by
    cases h with
    | cons h1 h2 => cases h1; rw [dpa_strs_inv h2]; rfl
theorem dp_newL (h : H a = some (.lst xs)) (g : DpAll K H xs ds) : Dp K H (.ref a) (.list ds) := .lst (.of h) g
theorem dp_newT (h : H a = some (.tup xs)) (g : DpAll K H xs ds) : Dp K H (.ref a) (.tuple ds) := .tup (.of h) g
end

/-! ### readings, step by step -/
def rB (x : V) (H : Hp) (Q : Bool → Hp → Prop) : Prop := ∃ k, x = .bl k ∧ Q k H
def rBV (x : V) (A : Bool → Prop) : Prop := ∃ c, x = .bl c ∧ A c
def rDG (x y : V) (H : Hp) (Q : VK) : Prop := ∃ a v, x = .ref a ∧ DGet H a y (some v) ∧ Q v H
def rDP (x y v : V) (H : Hp) (Q : Hp → Prop) : Prop := ∃ a H4, x = .ref a ∧ DPut H a y v H4 ∧ Q H4
def r2V (vs : List V) (A : V → V → Prop) : Prop := ∃ v w, vs = [v, w] ∧ A v w
def rNewT (xs : List V) (H : Hp) (Q : VK) : Prop := xs.length ≤ sizeLine ∧ ∀ p, H p = none → Q (.ref p) (upd H p (.tup xs))
def rNewL (xs : List V) (H : Hp) (Q : VK) : Prop := xs.length ≤ sizeLine ∧ ∀ p, H p = none → Q (.ref p) (upd H p (.lst xs))
def rPI (x : V) (A : Option Int → Prop) : Prop := ∃ i, x = .int i ∧ A (some i)
section
variable {K : PySem.W.Frag} {σ : L2.St} {H : Hp} {Q : VK} {D : Ends} {v x y z : V} {i : Nat} {ta tb tc te : TE} {t u : TS} {c : TT} {g : TG} {tn : TA} {r : R2}
theorem w_seq (h : t { D with nx := u D } σ H) : tSeq t u D σ H := h
theorem w_next (h : D.nx σ H) : tNext D σ H := h
theorem w_asg (h : te σ H fun x H1 => D.nx (σ.set i (some x)) H1) : tAsg te (gName i) D σ H := h
theorem w_asgG (h : te σ H fun x H1 => g x σ H1 D.nx) : tAsg te g D σ H := h
theorem w_drop (h : te σ H fun _ H1 => D.nx σ H1) : tDrop te D σ H := h
theorem w_ret (h : te σ H D.rt) : tRet te D σ H := h
theorem w_retN (h : D.rt .non H) : tRetN D σ H := h
theorem w_brk (h : D.bk σ H) : tBreak D σ H := h
theorem w_cont (h : D.ct σ H) : tCont D σ H := h
theorem w_ifS (h : c σ H fun b H1 => if b = true then t D σ H1 else u D σ H1) : tIfS c t u D σ H := h
theorem w_var (h : σ[i]? = some (some v)) (q : Q v H) : tVar i σ H Q := ⟨v, h, q⟩
theorem w_c (q : Q v H) : tC v σ H Q := q
theorem w_op (h : ta σ H fun x H1 => tb σ H1 fun y H2 => r x y H2 Q) : tOp r ta tb σ H Q := h
theorem w_un {r : V → Hp → VK → Prop} (h : ta σ H fun x H1 => r x H1 Q) : tUn r ta σ H Q := h
theorem w_rI0 {g : Int → Int → V} {i j : Int} (q : Q (g i j) H) : rI0 g (.int i) (.int j) H Q := ⟨i, j, rfl, rfl, q⟩
theorem w_rI {C : Int → Int → Prop} {g : Int → Int → V} {i j : Int} (hc : C i j) (q : Q (g i j) H) : rI C g (.int i) (.int j) H Q := ⟨i, j, rfl, rfl, hc, q⟩
theorem w_rU {g : Int → V} {i : Int} (q : Q (g i) H) : rU g (.int i) H Q := ⟨i, rfl, q⟩
theorem w_eqI {i j : Int} (q : Q (.bl (decide (i = j))) H) : rEq (.int i) (.int j) H Q := ⟨rfl, by
  rw [dec_int, show (i == j) = decide (i = j) from rfl]; exact q⟩
theorem w_neI {i j : Int} (q : Q (.bl (!decide (i = j))) H) : rNe (.int i) (.int j) H Q := ⟨rfl, by
  rw [dec_int, show (i == j) = decide (i = j) from rfl]; exact q⟩
theorem w_rEq (hs : scal x y = true) (q : Q (.bl (decide (x = y))) H) : rEq x y H Q := ⟨hs, q⟩
theorem w_rNe (hs : scal x y = true) (q : Q (.bl (!decide (x = y))) H) : rNe x y H Q := ⟨hs, q⟩
theorem w_tI (h : c σ H fun b H1 => if b = true then ta σ H1 Q else tb σ H1 Q) : tIf c ta tb σ H Q := h
theorem w_tTest {Q : Bool → Hp → Prop} (h : te σ H fun x H' => rB x H' Q) : tTest te σ H Q := h
theorem w_tB {Q : Bool → Hp → Prop} (h : te σ H fun x H' => rB x H' Q) : tB te σ H Q := h
theorem w_bl {b : Bool} {Q : Bool → Hp → Prop} (h : Q b H) : rB (.bl b) H Q := ⟨b, rfl, h⟩
theorem w_blV {b : Bool} {A : Bool → Prop} (h : A b) : rBV (.bl b) A := ⟨b, rfl, h⟩
theorem w_and {t u : TT} {Q : Bool → Hp → Prop} (h : t σ H fun c H1 => if c = true then u σ H1 Q else Q false H1) : tAnd t u σ H Q := h
theorem w_or {t u : TT} {Q : Bool → Hp → Prop} (h : t σ H fun c H1 => if c = true then Q true H1 else u σ H1 Q) : tOr t u σ H Q := h
theorem w_not {t : TT} {Q : Bool → Hp → Prop} (h : t σ H fun c H1 => Q (!c) H1) : tNot t σ H Q := h
theorem w_andV (h : ta σ H fun x H1 => rBV x fun c => if c = true then tb σ H1 Q else Q (.bl false) H1) : tAndV ta tb σ H Q := h
theorem w_orV (h : ta σ H fun x H1 => rBV x fun c => if c = true then Q (.bl true) H1 else tb σ H1 Q) : tOrV ta tb σ H Q := h
theorem w_notV (h : ta σ H fun x H1 => rBV x fun c => Q (.bl (!c)) H1) : tNotV ta σ H Q := h
theorem w_chain {r r' : R2} (h : ta σ H fun x H1 => tb σ H1 fun y H2 => r x y H2 fun z H3 => rBV z fun k => if k = true then tc σ H3 fun w' H4 => r' y w' H4 Q else Q (.bl false) H3) : tChain r r' ta tb tc σ H Q := h
theorem w_nil {Q : List V → Hp → Prop} (q : Q [] H) : tNil σ H Q := q
theorem w_cons {Q : List V → Hp → Prop} (h : ta σ H fun x H1 => tn σ H1 fun xs H2 => Q (x :: xs) H2) : tCons ta tn σ H Q := h
theorem w_call {sp : Sp} {dvs : List V} {E : XK} (h : tn σ H fun vs H1 => sp (vs ++ dvs) H1 Q E) : tCall sp dvs E tn σ H Q := h
theorem w_cb {r : List V → Hp → VK → Prop} (h : tn σ H fun vs H1 => r vs H1 Q) : tCB r tn σ H Q := h
theorem w_tup (h : tn σ H fun xs H1 => rNewT xs H1 Q) : tTup tn σ H Q := h
theorem w_lst (h : tn σ H fun xs H1 => rNewL xs H1 Q) : tLst tn σ H Q := h
theorem w_newT {xs : List V} {ds : List PyData} (hl : xs.length ≤ sizeLine) (hd : DpAll K H xs ds) (q : ∀ p H', H p = none → Same H H' → Dp K H' (.ref p) (.tuple ds) → Q (.ref p) H') :
    rNewT xs H Q :=
  ⟨hl, fun p hp => q p _ hp (same_new hp) (dp_newT upd_same (dpa_same (same_new hp) hd))⟩
theorem w_newL {xs : List V} {ds : List PyData} (hl : xs.length ≤ sizeLine) (hd : DpAll K H xs ds) (q : ∀ p H', H p = none → Same H H' → H' p = some (.lst xs) → Dp K H' (.ref p) (.list ds) → Q (.ref p) H') :
    rNewL xs H Q :=
  ⟨hl, fun p hp => q p _ hp (same_new hp) upd_same (dp_newL upd_same (dpa_same (same_new hp) hd))⟩
theorem w_ite {b : Bool} {A B : Prop} (h1 : b = true → A) (h2 : b = false → B) : if b = true then A else B := by
  cases b with
  | true => rw [if_pos rfl]; exact h1 rfl
  | false => rw [if_neg Bool.false_ne_true]; exact h2 rfl
theorem w_iteD {P : Prop} [Decidable P] {A B : Prop} (h1 : P → A) (h2 : ¬ P → B) : if decide P = true then A else B := by
  by_cases h : P
  · rw [if_pos (decide_eq_true h)]; exact h1 h
  · rw [if_neg (by simpa using h)]; exact h2 h
theorem w_iteND {P : Prop} [Decidable P] {A B : Prop} (h1 : ¬ P → A) (h2 : P → B) : if (!decide P) = true then A else B := by
  by_cases h : P
  · rw [decide_eq_true h]; simpa using h2 h
  · rw [decide_eq_false h]; simpa using h1 h
theorem w_iteT {A B : Prop} (h : A) : if true = true then A else B := by rw [if_pos rfl]; exact h
theorem w_iteNT {A B : Prop} (h : B) : if (!true) = true then A else B := by rw [Bool.not_true, if_neg Bool.false_ne_true]; exact h
theorem w_iteNF {A B : Prop} (h : A) : if (!false) = true then A else B := by rw [Bool.not_false, if_pos rfl]; exact h
theorem w_iteF {A B : Prop} (h : B) : if false = true then A else B := by rw [if_neg Bool.false_ne_true]; exact h
end
end Tw
namespace Tw
open PySem PySem.Spec PyProof.Rows L2
/-! ### rules by data -/
section
variable {X : Cx}
def rLen (K : PySem.W.Frag) : List V → Hp → VK → Prop := fun xs H Q => ∃ x n, xs = [x] ∧ LenV K x H n ∧ Q (.int n) H
theorem cl_len {K : PySem.W.Frag} (h : X.K = K := by rfl) : CallR X (.builtin "len") (rLen K) := h ▸ call_len
def rInt : List V → Hp → VK → Prop := fun xs H Q => (∃ i, xs = [.int i] ∧ Q (.int i) H) ∨ ∃ k, xs = [.bl k] ∧ Q (.int (if k then 1 else 0)) H
theorem cl_int : CallR X (.type "int") rInt := call_int1
def rStrI : List V → Hp → VK → Prop := fun xs H Q => ∃ i, xs = [.int i] ∧ i.natAbs.log2 < 1920 ∧ Q (.str (toString i)) H
theorem cl_strI : CallR X (.type "str") rStrI := call_str_int
def rTupOf (K : PySem.W.Frag) : List V → Hp → VK → Prop := fun xs H Q => ∃ p ys, xs = [.ref p] ∧ ((SqL K H p ys ∧ ∀ l, H l = none → Q (.ref l) (upd H l (.tup ys))) ∨ (SqT K H p ys ∧ Q (.ref p) H))
def rMax2 : List V → Hp → VK → Prop := fun xs H Q => ∃ i j, xs = [.int i, .int j] ∧ Q (.int (if j > i then j else i)) H
theorem cl_max2 (hc : X.calm = true) : CallR X (.builtin "max") rMax2 := call_max2 hc
def rMin2 : List V → Hp → VK → Prop := fun xs H Q => ∃ i j, xs = [.int i, .int j] ∧ Q (.int (if j < i then j else i)) H
theorem cl_min2 (hc : X.calm = true) : CallR X (.builtin "min") rMin2 := call_min2 hc
theorem pe_cint {x : Str} {pos : Pos} {i : Int} {t : Tok} (hg : Gl X x) (hm : X.mg x = some (.int i t)) (hd : (x == ("__debug__" : Str)) = false := by decide) : PE X (.Name x pos) (tC (.int i)) := pe_glob hg hm (show RelV (.int i) _ from ⟨t, rfl⟩) hd
theorem cl_tup {K : PySem.W.Frag} (h : X.K = K := by rfl) : CallR X (.type "tuple") (rTupOf K) := h ▸ call_tuple_of
def rLstOf (K : PySem.W.Frag) : List V → Hp → VK → Prop := fun xs H Q => ∃ p ys, xs = [.ref p] ∧ (SqL K H p ys ∨ SqT K H p ys) ∧ ∀ l, H l = none → Q (.ref l) (upd H l (.lst ys))
theorem cl_lst {K : PySem.W.Frag} (h : X.K = K := by rfl) : CallR X (.type "list") (rLstOf K) := h ▸ call_list_of
theorem ix_listK {K : PySem.W.Frag} (h : X.K = K := by rfl) : IxR X (rIxL K) := h ▸ ix_list
theorem ix_tupK {K : PySem.W.Frag} (h : X.K = K := by rfl) : IxR X (rIxT K) := h ▸ ix_tup
theorem op_eqK {K : PySem.W.Frag} (hu : X.A.units + 64 < cLine) (h : X.K = K := by rfl) : OpR X (compareOp .Eq) (rEqD K) := h ▸ op_eqD hu
theorem op_neK {K : PySem.W.Frag} (hu : X.A.units + 64 < cLine) (h : X.K = K := by rfl) : OpR X (compareOp .NotEq) (rNeD K) := h ▸ op_neD hu
theorem sl_listK {K : PySem.W.Frag} (h : X.K = K := by rfl) : SlR X (rSlL K) := h ▸ sl_list
theorem pi_listK {K : PySem.W.Frag} {tg l : Expr} {tl : TE} (hl : PE X l tl) (h : X.K = K := by rfl) : PI X tg l (iList K tl) := h ▸ pi_list hl
theorem pi_tupK {K : PySem.W.Frag} {tg l : Expr} {tl : TE} (hl : PE X l tl) (h : X.K = K := by rfl) : PI X tg l (iTup K tl) := h ▸ pi_tup hl
def rAddStr : R2 := fun x y H Q => ∃ i j, x = .str i ∧ y = .str j ∧ i.length + j.length ≤ sizeLine ∧ Q (.str (i ++ j)) H
theorem op_addS : OpR X (binaryOp .Add) rAddStr := op_add_str
theorem op_catL : OpR X (binaryOp .Add) rCat := op_cat
def rJoin (K : PySem.W.Frag) : V → List V → Hp → VK → Prop := fun x xs H Q => ∃ a p, ∃ ys : List Str, x = .str a ∧ xs = [.ref p] ∧ (SqL K H p (ys.map V.str) ∨ SqT K H p (ys.map V.str)) ∧ (ys.map (·.length)).sum + ys.length * a.length ≤ 16777216 ∧ Q (.str (Txt.join a ys)) H
def tTru (K : PySem.W.Frag) (ta : TE) : TT := fun σ H Q => ta σ H fun x H' => ∃ k, TruV K x H' k ∧ Q k H'
theorem pt_tru {K : PySem.W.Frag} {a : Expr} {ta : TE} (ha : PE X a ta) (he : ∀ whole, isTrue a X.env whole = (do let v ← whole; standAt a.pos; holding [v] (truthy v))) (h : X.K = K := by rfl) : PT X a (tTru K ta) := h ▸ pt_truth ha he
end
end Tw

namespace Tw
open PySem PySem.Spec PyProof.Rows L2
section
variable {X : Cx}
theorem pe_joinD {K : PySem.W.Frag} {o e : Expr} {to te : TE} {apos pos : Pos} (ho : PE X o to) (he : PE X e te) (h : X.K = K := by rfl) (hs : starEach [e] X.env = [(false, eval e X.env)] := by rfl) (hbase : attributeBase o "join" X.env (eval o X.env) = eval o X.env := by rfl) (hline : (apos.endLine == pos.line) = true := by rfl) :
    PE X (.Call (.Attribute o "join" apos) [e] [] pos) (tM1 (rJoin K) to te) := h ▸ pe_join ho he hs hbase hline
end
section
variable {K : PySem.W.Frag} {σ : L2.St} {H : Hp} {Q : VK} {D : Ends} {v x y z : V} {d e : PyData} {ds es : List PyData} {i : Nat} {to ta tb tc te : TE} {t u : TS} {tn : TA}
theorem w_lenL (h : Dp K H v (.list ds)) (q : Q (.int (ds.length : Int)) H) : rLen K [v] H Q := by
  obtain ⟨a, xs, rfl, hs, ha⟩ := dp_lst h
  exact ⟨.ref a, ds.length, rfl, .inl ⟨xs, hs, (dpa_len ha).symm⟩, q⟩
theorem w_lenT (h : Dp K H v (.tuple ds)) (q : Q (.int (ds.length : Int)) H) : rLen K [v] H Q := by
  obtain ⟨a, xs, rfl, hs, ha⟩ := dp_tup h
  exact ⟨.ref a, ds.length, rfl, .inr ⟨xs, hs, (dpa_len ha).symm⟩, q⟩
theorem w_lenS {x : Str} (h : x.length ≤ sizeLine) (q : Q (.int (x.length : Int)) H) : rLen K [.str x] H Q := ⟨.str x, x.length, rfl, ⟨h, rfl⟩, q⟩
theorem w_int {n : Int} (q : Q (.int n) H) : rInt [.int n] H Q := .inl ⟨n, rfl, q⟩
theorem w_strI {n : Int} (h : n.natAbs.log2 < 1920) (q : Q (.str (toString n)) H) : rStrI [.int n] H Q := ⟨n, rfl, h, q⟩
theorem w_max2 {i j : Int} (q : ∀ r, r = max i j → Q (.int r) H) : rMax2 [.int i, .int j] H Q := ⟨i, j, rfl, q _ (by split <;> omega)⟩
theorem w_min2 {i j : Int} (q : ∀ r, r = min i j → Q (.int r) H) : rMin2 [.int i, .int j] H Q := ⟨i, j, rfl, q _ (by split <;> omega)⟩
theorem w_tupOf (h : Dp K H v (.list ds)) (q : ∀ p H', H p = none → Same H H' → Dp K H' (.ref p) (.tuple ds) → Q (.ref p) H') : rTupOf K [v] H Q := by
  obtain ⟨a, xs, rfl, hs, ha⟩ := dp_lst h
  exact ⟨a, xs, rfl, .inl ⟨hs, fun l hl => q l _ hl (same_new hl) (dp_newT upd_same (dpa_same (same_new hl) ha))⟩⟩
theorem w_tupOfT (h : Dp K H v (.tuple ds)) (q : ∀ v, Dp K H v (.tuple ds) → Q v H) : rTupOf K [v] H Q := by
  obtain ⟨a, xs, rfl, hs, ha⟩ := dp_tup h
  exact ⟨a, xs, rfl, .inr ⟨hs, q _ h⟩⟩
theorem w_lstOfT (h : Dp K H v (.tuple ds)) (q : ∀ p H' xs, H p = none → Same H H' → H' p = some (.lst xs) → Dp K H' (.ref p) (.list ds) → Q (.ref p) H') : rLstOf K [v] H Q := by
  obtain ⟨a, xs, rfl, hs, ha⟩ := dp_tup h
  exact ⟨a, xs, rfl, .inr hs, fun l hl => q l _ xs hl (same_new hl) upd_same (dp_newL upd_same (dpa_same (same_new hl) ha))⟩
theorem w_lstOfL (h : Dp K H v (.list ds)) (q : ∀ p H' xs, H p = none → Same H H' → H' p = some (.lst xs) → Dp K H' (.ref p) (.list ds) → Q (.ref p) H') : rLstOf K [v] H Q := by
  obtain ⟨a, xs, rfl, hs, ha⟩ := dp_lst h
  exact ⟨a, xs, rfl, .inl hs, fun l hl => q l _ xs hl (same_new hl) upd_same (dp_newL upd_same (dpa_same (same_new hl) ha))⟩
theorem w_addS {x y : Str} (h : x.length + y.length ≤ sizeLine) (q : Q (.str (x ++ y)) H) : rAddStr (.str x) (.str y) H Q := ⟨x, y, rfl, rfl, h, q⟩
/-- an item by a place that is known to be a number -/
theorem w_ixL {n : Int} {j : Nat} (h : Dp K H v (.list ds)) (hn : n = (j : Int)) (hd : ds[j]? = some d) (q : ∀ v', Dp K H v' d → Q v' H) : rIxL K v (.int n) H Q := by
  obtain ⟨a, xs, rfl, hs, ha⟩ := dp_lst h
  obtain ⟨v', e1, e2⟩ := dpa_get ha hd
  exact ⟨a, xs, n, v', rfl, rfl, hs, at_of hn e1, q v' e2⟩
theorem w_ixT {n : Int} {j : Nat} (h : Dp K H v (.tuple ds)) (hn : n = (j : Int)) (hd : ds[j]? = some d) (q : ∀ v', Dp K H v' d → Q v' H) : rIxT K v (.int n) H Q := by
  obtain ⟨a, xs, rfl, hs, ha⟩ := dp_tup h
  obtain ⟨v', e1, e2⟩ := dpa_get ha hd
  exact ⟨a, xs, n, v', rfl, rfl, hs, at_of hn e1, q v' e2⟩
theorem w_ixLI {n : Int} {ns : List Int} (h : Dp K H v (.list (ns.map PyData.int))) (h0 : 0 ≤ n) (h1 : n < (ns.length : Int)) (q : ∀ z, ns[n.toNat]? = some z → Q (.int z) H) : rIxL K v (.int n) H Q := by
  have hl : n.toNat < ns.length := by omega
  refine w_ixL (j := n.toNat) (d := .int ns[n.toNat]) h (by omega) (by simp [hl]) fun v' hv => ?_
  cases hv
  exact q _ (List.getElem?_eq_getElem hl)
theorem w_ixTI {n : Int} {ns : List Int} (h : Dp K H v (.tuple (ns.map PyData.int))) (h0 : 0 ≤ n) (h1 : n < (ns.length : Int)) (q : ∀ z, ns[n.toNat]? = some z → Q (.int z) H) : rIxT K v (.int n) H Q := by
  have hl : n.toNat < ns.length := by omega
  refine w_ixT (j := n.toNat) (d := .int ns[n.toNat]) h (by omega) (by simp [hl]) fun v' hv => ?_
  cases hv
  exact q _ (List.getElem?_eq_getElem hl)
theorem w_ixLast (h : Dp K H v (.list ds)) (hd : ds.getLast? = some d) (q : ∀ v', Dp K H v' d → Q v' H) : rIxL K v (.int (-1)) H Q := by
  obtain ⟨a, xs, rfl, hs, ha⟩ := dp_lst h
  rw [List.getLast?_eq_getElem?] at hd
  obtain ⟨v', e1, e2⟩ := dpa_get ha hd
  have hne : xs ≠ [] := fun z => by subst z; simp at e1
  have hx : xs = xs.dropLast ++ [xs.getLast hne] := (List.dropLast_concat_getLast hne).symm
  have e3 : v' = xs.getLast hne := by
    rw [← dpa_len ha, ← List.getLast?_eq_getElem?, List.getLast?_eq_getLast hne] at e1
    exact (Option.some.inj e1).symm
  refine ⟨a, xs, -1, v', rfl, rfl, hs, ?_, q v' e2⟩
  rw [hx, e3]; exact atI_last _ _
theorem w_ixLastT (h : Dp K H v (.tuple ds)) (hd : ds.getLast? = some d) (q : ∀ v', Dp K H v' d → Q v' H) : rIxT K v (.int (-1)) H Q := by
  obtain ⟨a, xs, rfl, hs, ha⟩ := dp_tup h
  rw [List.getLast?_eq_getElem?] at hd
  obtain ⟨v', e1, e2⟩ := dpa_get ha hd
  have hne : xs ≠ [] := fun z => by subst z; simp at e1
  have hx : xs = xs.dropLast ++ [xs.getLast hne] := (List.dropLast_concat_getLast hne).symm
  have e3 : v' = xs.getLast hne := by
    rw [← dpa_len ha, ← List.getLast?_eq_getElem?, List.getLast?_eq_getLast hne] at e1
    exact (Option.some.inj e1).symm
  refine ⟨a, xs, -1, v', rfl, rfl, hs, ?_, q v' e2⟩
  rw [hx, e3]; exact atI_last _ _
theorem w_ixS {s : Str} {n : Int} {j c : Nat} (hz : s.length ≤ sizeLine) (hn : n = (j : Int)) (hd : s.cps.toList[j]? = some c) (q : Q (.str ⟨#[c]⟩) H) : rIxS (.str s) (.int n) H Q :=
  ⟨s, n, c, rfl, rfl, hz, by rw [hn]; exact atI_nat hd, q⟩
theorem w_tIsN (q : Q (.bl (decide (x = .non))) H) : rIsN x .non H Q := ⟨rfl, q⟩
theorem w_tNotN (q : Q (.bl (!decide (x = .non))) H) : rNotN x .non H Q := ⟨rfl, q⟩
theorem w_bm {T : String} {r : V → List V → Hp → VK → Prop} (h : to σ H fun x H1 => tyV K T x H1 ∧ tn σ H1 fun xs H2 => r x xs H2 Q) : tBM K T r to tn σ H Q := h
theorem w_bm0 {T : String} {r : V → List V → Hp → VK → Prop} (h : to σ H fun x H1 => tyV K T x H1 ∧ r x [] H1 Q) : tBM0 K T r to σ H Q := h
theorem w_m1 {r : V → List V → Hp → VK → Prop} (h : to σ H fun x H1 => (∃ a, x = .str a) ∧ te σ H1 fun y H2 => r x [y] H2 Q) : tM1 r to te σ H Q := h
theorem w_isStr {s : Str} {A : Prop} (h : A) : (∃ a, V.str s = .str a) ∧ A := ⟨⟨s, rfl⟩, h⟩
theorem w_append {l : Addr} {xs : List V} (h : H l = some (.lst xs)) (hz : xs.length < sizeLine) (q : Q .non (upd H l (.lst (xs ++ [y])))) : rAppend (.ref l) [y] H Q := ⟨l, xs, y, rfl, rfl, h, hz, q⟩
theorem w_tyL {a : Addr} {xs : List V} {A : Prop} (h : H a = some (.lst xs)) (q : A) : tyV K "list" (.ref a) H ∧ A := ⟨.inl ⟨rfl, xs, .of h⟩, q⟩
theorem w_tyS {s : Str} {A : Prop} (q : A) : tyV K "str" (.str s) H ∧ A := ⟨rfl, q⟩
theorem w_join {s : Str} {ys : List Str} (h : Dp K H v (.list (ys.map PyData.str))) (hz : (ys.map (·.length)).sum + ys.length * s.length ≤ 16777216) (q : Q (.str (Txt.join s ys)) H) : rJoin K (.str s) [v] H Q := by
  obtain ⟨a, xs, rfl, hs, ha⟩ := dp_lst h
  rw [dpa_strs_inv ha] at hs
  exact ⟨s, a, ys, rfl, rfl, .inl hs, hz, q⟩
/-- a new list out of two -/
theorem w_catL {a b : Addr} {xs zs : List V} (h : H a = some (.lst xs)) (h' : H b = some (.lst zs)) (hz : xs.length + zs.length ≤ sizeLine) (q : ∀ p H', H p = none → Same H H' → H' p = some (.lst (xs ++ zs)) → Q (.ref p) H') : rCat (.ref a) (.ref b) H Q :=
  ⟨a, b, xs, zs, rfl, rfl, h, h', hz, fun p hp => q p _ hp (same_new hp) upd_same⟩
theorem w_dget {td ty : TE} (h : td σ H fun x H1 => ty σ H1 fun y H2 => rDG x y H2 Q) : tDGet td ty σ H Q := h
theorem w_dgS {k : Str} {kvs : List (Key × V)} {m : Addr} (h : H m = some (.dK kvs)) (e : valV kvs (.inr k) = some v) (q : Q v H) : rDG (.ref m) (.str k) H Q :=
  ⟨m, v, rfl, by rw [← e]; exact DGet.k (k := .inr k) h, q⟩
theorem w_dpS {k : Str} {kvs kvs' : List (Key × V)} {m : Addr} (h : H m = some (.dK kvs)) (e : putK kvs (.inr k) v = kvs') (hl : kvs.length < sizeLine) {Q : Hp → Prop} (q : ∀ H', Keep H H' → H' m = some (.dK kvs') → Q H') : rDP (.ref m) (.str k) v H Q := by
  subst e
  exact ⟨m, _, rfl, DPut.k (k := .inr k) h hl, q _ (keep_dict h) upd_same⟩
theorem w_dput {td ty tv : TE} (h : tv σ H fun v H1 => td σ H1 fun x H2 => ty σ H2 fun y H3 => rDP x y v H3 (D.nx σ)) : sDPut td ty tv D σ H := h
theorem w_par {a b : Nat} {ta : TA} (h : ta σ H fun vs H1 => r2V vs fun v w => D.nx ((σ.set a (some v)).set b (some w)) H1) : tPar a b ta D σ H := h
theorem w_par2 {v w : V} {A : V → V → Prop} (h : A v w) : r2V [v, w] A := ⟨v, w, rfl, h⟩
def r3V (vs : List V) (A : V → V → V → Prop) : Prop := ∃ u v w, vs = [u, v, w] ∧ A u v w
theorem w_par3 {a b c : Nat} {ta : TA} (h : ta σ H fun vs H1 => r3V vs fun u v w => D.nx (((σ.set a (some u)).set b (some v)).set c (some w)) H1) : tPar3 a b c ta D σ H := h
theorem w_par33 {u v w : V} {A : V → V → V → Prop} (h : A u v w) : r3V [u, v, w] A := ⟨u, v, w, rfl, h⟩
theorem w_eqB {a b : Bool} (q1 : a = b → Q (.bl true) H) (q2 : a ≠ b → Q (.bl false) H) : rEq (.bl a) (.bl b) H Q := ⟨rfl, by
  by_cases h : a = b
  · subst h; rw [decide_eq_true rfl]; exact q1 rfl
  · rw [decide_eq_false (fun z => h (V.bl.inj z))]; exact q2 h⟩
theorem w_neB {a b : Bool} (q1 : a = b → Q (.bl false) H) (q2 : a ≠ b → Q (.bl true) H) : rNe (.bl a) (.bl b) H Q := ⟨rfl, by
  by_cases h : a = b
  · subst h; rw [decide_eq_true rfl]; exact q1 rfl
  · rw [decide_eq_false (fun z => h (V.bl.inj z))]; exact q2 h⟩
theorem w_aug {te : TE} {ti : TIp} (h : σ[i]? = some (some x)) (q : te σ H fun y H1 => ti x y H1 fun z H2 => D.nx (σ.set i (some z)) H2) : tAug i te ti D σ H := ⟨x, h, q⟩
theorem w_gTup {n : Nat} {tg : TGs} {Q : L2.St → Hp → Prop} {a : Addr} {xs : List V} (hs : SqT K H a xs) (hn : xs.length = n) (q : tg xs σ H Q) : gTup K n tg (.ref a) σ H Q := ⟨a, xs, rfl, hs, hn, q⟩
theorem w_gTup2 {i j : Nat} {Q : L2.St → Hp → Prop} {d e : PyData} (h : Dp K H v (.tuple [d, e])) (q : ∀ v1 v2, Dp K H v1 d → Dp K H v2 e → Q ((σ.set i (some v1)).set j (some v2)) H) : gTup K 2 (gCons (gName i) (gCons (gName j) gNil)) v σ H Q := by
  obtain ⟨a, xs, rfl, hs, ha⟩ := dp_tup h
  cases ha with
  | cons h1 h2 => cases h2 with
    | cons h3 h4 => cases h4; exact ⟨a, _, rfl, hs, rfl, _, _, rfl, _, _, rfl, rfl, q _ _ h1 h3⟩
theorem w_slice {r : V → Option Int → Option Int → Hp → VK → Prop} {tl th : TO} (h : te σ H fun x H1 => tl σ H1 fun l H2 => th σ H2 fun u H3 => r x l u H3 Q) : tSl r te tl th σ H Q := h
theorem w_noPart {Q : Option Int → Hp → Prop} (h : Q none H) : tNoPart σ H Q := h
theorem w_part {Q : Option Int → Hp → Prop} (h : te σ H fun x H1 => rPI x fun o => Q o H1) : tPart te σ H Q := h
theorem w_pint {n : Int} {A : Option Int → Prop} (h : A (some n)) : rPI (.int n) A := ⟨n, rfl, h⟩
theorem w_slL {lo hi : Option Int} {ds' : List PyData} (h : Dp K H v (.list ds)) (hc : ∀ xs, xs.length = ds.length → DpAll K H xs ds → DpAll K H (cutV xs lo hi) ds') (q : ∀ p H' xs, H p = none → Same H H' → H' p = some (.lst xs) → Dp K H' (.ref p) (.list ds') → Q (.ref p) H') : rSlL K v lo hi H Q := by
  obtain ⟨a, xs, rfl, hs, ha⟩ := dp_lst h
  exact ⟨a, xs, rfl, hs, fun p hp => q p _ _ hp (same_new hp) upd_same (dp_newL upd_same (dpa_same (same_new hp) (hc xs (dpa_len ha) ha)))⟩
end
/-- a text's signs, a text of signs -/
theorem wideX {i j : Int} {a b : Nat} (ha : i.natAbs < 2 ^ a) (hb : j.natAbs < 2 ^ b) (h : a + b ≤ 134217728) : CMulX i j := mulx_ok ha hb h
theorem mulS {i j : Int} (ha : -(2 ^ 250) < i ∧ i < 2 ^ 250) (hb : -(2 ^ 250) < j ∧ j < 2 ^ 250) : CMulX i j := mulx_ok (a := 250) (b := 250) (by omega) (by omega) (by decide)
theorem divS {i j : Int} (h : 0 < j ∧ j < 2 ^ 250) : CDivW i j := wide_div (b := 250) h.1 (by omega) (by decide) (by decide)
end Tw
namespace Tw
open PySem PySem.Spec PyProof.Rows L2
def rMod : R2 := rI (fun _ j => 0 < j) fun i j => .int (i % j)
theorem op_modD {X : Cx} : OpR X (binaryOp .Mod) rMod := op_mod
theorem w_rMod {H : Hp} {Q : VK} {i j : Int} (hc : 0 < j) (q : Q (.int (i % j)) H) : rMod (.int i) (.int j) H Q := ⟨i, j, rfl, rfl, hc, q⟩
/-- the rest as a letter -/
theorem w_rModA {H : Hp} {Q : VK} {i j : Int} (hc : 0 < j) (q : ∀ r, r = i % j → 0 ≤ r → r < j → Q (.int r) H) : rMod (.int i) (.int j) H Q :=
  ⟨i, j, rfl, rfl, hc, q _ rfl (Int.emod_nonneg _ (by omega)) (Int.emod_lt_of_pos _ hc)⟩
theorem w_rModB {H : Hp} {Q : VK} {i j : Int} (hc : 0 < j) (q : ∀ r, 0 ≤ r → r < j → Q (.int r) H) : rMod (.int i) (.int j) H Q :=
  w_rModA hc fun r _ => q r
def rWB (W : Nat → L2.St → Hp → Prop) (m : Nat) (tb : TS) (D : Ends) (σ : L2.St) (H1 : Hp) : Prop := ∃ N : L2.St → Hp → Prop, (∀ σ' H', N σ' H' → ∃ m', m' < m ∧ W m' σ' H') ∧ tb { D with nx := N, ct := N, bk := D.nx } σ H1
theorem w_wb {W : Nat → L2.St → Hp → Prop} {m : Nat} {tb : TS} {D : Ends} {σ : L2.St} {H1 : Hp} (h : tb { D with nx := fun σ' H' => ∃ m', m' < m ∧ W m' σ' H', ct := fun σ' H' => ∃ m', m' < m ∧ W m' σ' H', bk := D.nx } σ H1) : rWB W m tb D σ H1 :=
  ⟨_, fun _ _ h => h, h⟩
theorem whl_by {c : TT} {tb : TS} {D : Ends} {σ : L2.St} {H : Hp} (W : Nat → L2.St → Hp → Prop) (m0 : Nat) (h0 : W m0 σ H) (hs : ∀ m σ H, W m σ H → c σ H fun b H1 => if b = true then rWB W m tb D σ H1 else D.nx σ H1) : tWhile c tb D σ H :=
  ⟨W, ⟨m0, h0⟩, hs⟩
/-- two ways of an expression meet behind it -/
theorem w_meet {t : TE} {σ : L2.St} {H : Hp} {Q : VK} (Pm : V → Hp → Prop) (h : ∀ Q' : VK, (∀ v H', Pm v H' → Q' v H') → t σ H Q') (k : ∀ v H', Pm v H' → Q v H') : t σ H Q := h Q k
/-- .. of a statement -/
theorem w_meetS {t : TS} {D : Ends} {σ : L2.St} {H : Hp} (Pm : L2.St → Hp → Prop) (h : ∀ nx' : L2.St → Hp → Prop, (∀ σ' H', Pm σ' H' → nx' σ' H') → t { D with nx := nx' } σ H) (k : ∀ σ' H', Pm σ' H' → D.nx σ' H') : t D σ H := h D.nx k
theorem cxK {CX : CXT} {P : Program} {w : World} {K : PySem.W.Frag} {mg : Str → Option Value} {base : Heap} {N : List Str} {qual : Str} {scope : Scope} {f : Addr} {cd : Value} {A : Around} {outer : List Env} {s : Shared} {H : Hp} {E : XK} :
    (cxOf CX P w K mg base N qual scope f cd A outer s H E).nox.K = K := rfl
end Tw
namespace Tw
open PySem PySem.Spec PyProof.Rows L2
/-! ### slices, for -/
def cutD {α : Type} (ds : List α) (lo hi : Option Int) : List α := (ds.drop (HT.sIx ds.length 0 lo)).take (HT.sIx ds.length ds.length hi - HT.sIx ds.length 0 lo)
theorem cutD_len {α : Type} (ds : List α) (lo hi : Option Int) : (cutD ds lo hi).length ≤ ds.length := by
  unfold cutD; rw [List.length_take, List.length_drop]; omega
theorem cutD_map {α β : Type} (f : α → β) (ds : List α) (lo hi : Option Int) : cutD (ds.map f) lo hi = (cutD ds lo hi).map f := by
  unfold cutD; rw [List.length_map, List.map_take, List.map_drop]
theorem cutD_from {α : Type} (ds : List α) {k : Int} (h : 0 ≤ k) : cutD ds (some k) none = ds.drop k.toNat := by
  obtain ⟨n, rfl⟩ := Int.eq_ofNat_of_zero_le h
  unfold cutD
  rw [show HT.sIx ds.length 0 (some (n : Int)) = min n ds.length from HT.sIx_nat _ _ _, HT.sIx_none, Int.toNat_natCast]
  by_cases hn : n ≤ ds.length
  · rw [Nat.min_eq_left hn, List.take_of_length_le (by rw [List.length_drop]; omega)]
  · rw [Nat.min_eq_right (by omega), List.drop_eq_nil_of_le (Nat.le_refl _), List.drop_eq_nil_of_le (by omega)]
    simp
theorem cutD_to {α : Type} (ds : List α) {k : Int} (h : 0 ≤ k) : cutD ds none (some k) = ds.take k.toNat := by
  obtain ⟨n, rfl⟩ := Int.eq_ofNat_of_zero_le h
  unfold cutD
  rw [show HT.sIx ds.length ds.length (some (n : Int)) = min n ds.length from HT.sIx_nat _ _ _, HT.sIx_none, Int.toNat_natCast, Nat.sub_zero, List.drop_zero]
  by_cases hn : n ≤ ds.length
  · rw [Nat.min_eq_left hn]
  · rw [Nat.min_eq_right (by omega), List.take_length, List.take_of_length_le (by omega)]
theorem cutD_both {α : Type} (ds : List α) {a b : Int} (h : 0 ≤ a) (h2 : 0 ≤ b) : cutD ds (some a) (some b) = (ds.take b.toNat).drop a.toNat := by
  obtain ⟨n, rfl⟩ := Int.eq_ofNat_of_zero_le h
  obtain ⟨k, rfl⟩ := Int.eq_ofNat_of_zero_le h2
  unfold cutD
  rw [show HT.sIx ds.length 0 (some (n : Int)) = min n ds.length from HT.sIx_nat _ _ _, show HT.sIx ds.length ds.length (some (k : Int)) = min k ds.length from HT.sIx_nat _ _ _, Int.toNat_natCast, Int.toNat_natCast, ← List.drop_take]
  have e1 : List.take (min k ds.length) ds = List.take k ds := by
    by_cases hk : k ≤ ds.length
    · rw [Nat.min_eq_left hk]
    · rw [Nat.min_eq_right (show ds.length ≤ k by omega), List.take_length, List.take_of_length_le (show ds.length ≤ k by omega)]
  rw [e1]
  by_cases hn : n ≤ ds.length
  · rw [Nat.min_eq_left hn]
  · rw [Nat.min_eq_right (show ds.length ≤ n by omega), List.drop_eq_nil_of_le (by rw [List.length_take]; omega), List.drop_eq_nil_of_le (by rw [List.length_take]; omega)]
theorem cutD_butlast {α : Type} (ds : List α) : cutD ds none (some (-1)) = ds.dropLast := by
  unfold cutD
  rw [HT.sIx_none]
  show (List.drop 0 ds).take ((if (-1 : Int) < 0 then ((-1 : Int) + (ds.length : Int)).toNat else min (-1 : Int).toNat ds.length) - 0) = _
  rw [if_pos (by decide), List.drop_zero, List.dropLast_eq_take]
  congr 1
  omega
theorem cutV_D (xs : List V) (lo hi : Option Int) : cutV xs lo hi = cutD xs lo hi := rfl
section
variable {K : PySem.W.Frag} {σ : L2.St} {H : Hp} {Q : VK} {D : Ends} {v x y z : V} {d e : PyData} {ds es : List PyData} {tl te : TE} {ta : TA} {tb : TS} {g : TG} {lo hi : Option Int}
theorem dpa_cut {vs : List V} (h : DpAll K H vs ds) : DpAll K H (cutD vs lo hi) (cutD ds lo hi) := by
  unfold cutD
  rw [dpa_len h]
  exact dpa_take _ (dpa_drop _ h)
theorem w_slD (h : Dp K H v (.list ds)) (q : ∀ p H' xs, H p = none → Same H H' → H' p = some (.lst xs) → Dp K H' (.ref p) (.list (cutD ds lo hi)) → Q (.ref p) H') : rSlL K v lo hi H Q := by
  obtain ⟨a, xs, rfl, hs, ha⟩ := dp_lst h
  exact ⟨a, xs, rfl, hs, fun p hp => q p _ _ hp (same_new hp) upd_same (dp_newL upd_same (dpa_same (same_new hp) (dpa_cut ha)))⟩
theorem w_slV {a : Addr} {xs : List V} (h : SqL K H a xs) (q : ∀ p H', H p = none → Same H H' → H' p = some (.lst (cutD xs lo hi)) → Q (.ref p) H') : rSlL K (.ref a) lo hi H Q :=
  ⟨a, xs, rfl, h, fun p hp => q p _ hp (same_new hp) upd_same⟩
theorem w_slT (h : Dp K H v (.tuple ds)) (q : ∀ p H', Same H H' → Dp K H' (.ref p) (.tuple (cutD ds lo hi)) → Q (.ref p) H') (hne : ¬ (HT.sIx ds.length 0 lo = 0 ∧ HT.sIx ds.length ds.length hi = ds.length)) : ∃ a xs, v = .ref a ∧ SqT K H a xs := by
  obtain ⟨a, xs, rfl, hs, ha⟩ := dp_tup h
  exact ⟨a, xs, rfl, hs⟩
/-- strings -/
theorem w_slS {s : Str} (hz : s.length ≤ sizeLine) (q : Q (.str ⟨(cutD s.cps.toList lo hi).toArray⟩) H) : rSlS (.str s) lo hi H Q := ⟨s, rfl, hz, q⟩
def rForL (K : PySem.W.Frag) (g : TG) (tb : TS) (D : Ends) (σ : L2.St) (x : V) (H1 : Hp) : Prop := ∃ a, x = .ref a ∧ (∃ xs, SqL K H1 a xs) ∧ ∃ W : Nat → Nat → L2.St → Hp → Prop, (∃ m, W 0 m σ H1) ∧ ∀ i m σ H, W i m σ H →
  ((Itl K a).stop i H ∧ D.nx σ H) ∨ ((Itl K a).go i H ∧ ∃ N : L2.St → Hp → Prop, (∀ σ' H', N σ' H' → ∃ m', m' < m ∧ W (i + 1) m' σ' H') ∧ ∀ x H', (Itl K a).yld i H x H' → g x σ H' fun σ2 H2 => tb { D with nx := N, ct := N, bk := D.nx } σ2 H2)
theorem w_forL (h : tl σ H fun x H1 => rForL K g tb D σ x H1) : tFor (iList K tl) g tb D σ H := h
def rForT (K : PySem.W.Frag) (g : TG) (tb : TS) (D : Ends) (σ : L2.St) (x : V) (H1 : Hp) : Prop := ∃ a, x = .ref a ∧ (∃ xs, SqT K H1 a xs) ∧ ∃ W : Nat → Nat → L2.St → Hp → Prop, (∃ m, W 0 m σ H1) ∧ ∀ i m σ H, W i m σ H →
  ((Itt K a).stop i H ∧ D.nx σ H) ∨ ((Itt K a).go i H ∧ ∃ N : L2.St → Hp → Prop, (∀ σ' H', N σ' H' → ∃ m', m' < m ∧ W (i + 1) m' σ' H') ∧ ∀ x H', (Itt K a).yld i H x H' → g x σ H' fun σ2 H2 => tb { D with nx := N, ct := N, bk := D.nx } σ2 H2)
theorem w_forT (h : tl σ H fun x H1 => rForT K g tb D σ x H1) : tFor (iTup K tl) g tb D σ H := h
def rForR (g : TG) (tb : TS) (D : Ends) (σ : L2.St) (lo : Int) (n : Nat) (H1 : Hp) : Prop := ∃ W : Nat → Nat → L2.St → Hp → Prop, (∃ m, W 0 m σ H1) ∧ ∀ i m σ H, W i m σ H →
  ((Itr lo n).stop i H ∧ D.nx σ H) ∨ ((Itr lo n).go i H ∧ ∃ N : L2.St → Hp → Prop, (∀ σ' H', N σ' H' → ∃ m', m' < m ∧ W (i + 1) m' σ' H') ∧ ∀ x H', (Itr lo n).yld i H x H' → g x σ H' fun σ2 H2 => tb { D with nx := N, ct := N, bk := D.nx } σ2 H2)
def rForR1 (g : TG) (tb : TS) (D : Ends) (σ : L2.St) (vs : List V) (H1 : Hp) : Prop := ∃ j : Int, vs = [.int j] ∧ -(2 ^ 62) ≤ j ∧ j < 2 ^ 62 ∧ rForR g tb D σ 0 j.toNat H1
def rForR2 (g : TG) (tb : TS) (D : Ends) (σ : L2.St) (vs : List V) (H1 : Hp) : Prop := ∃ i j : Int, vs = [.int i, .int j] ∧ (-(2 ^ 62) ≤ i ∧ i < 2 ^ 62 ∧ -(2 ^ 62) ≤ j ∧ j < 2 ^ 62) ∧ rForR g tb D σ i (j - i).toNat H1
theorem w_forR1 (h : ta σ H fun vs H1 => rForR1 g tb D σ vs H1) : tFor (iRng1 ta) g tb D σ H := h
theorem w_forR2 (h : ta σ H fun vs H1 => rForR2 g tb D σ vs H1) : tFor (iRng2 ta) g tb D σ H := h
def rForS (g : TG) (tb : TS) (D : Ends) (σ : L2.St) (v : V) (H1 : Hp) : Prop := ∃ x, v = .str x ∧ ∃ W : Nat → Nat → L2.St → Hp → Prop, (∃ m, W 0 m σ H1) ∧ ∀ i m σ H, W i m σ H →
  ((Its x).stop i H ∧ D.nx σ H) ∨ ((Its x).go i H ∧ ∃ N : L2.St → Hp → Prop, (∀ σ' H', N σ' H' → ∃ m', m' < m ∧ W (i + 1) m' σ' H') ∧ ∀ x' H', (Its x).yld i H x' H' → g x' σ H' fun σ2 H2 => tb { D with nx := N, ct := N, bk := D.nx } σ2 H2)
theorem w_forS (h : te σ H fun v H1 => rForS g tb D σ v H1) : tFor (iStr te) g tb D σ H := h
/-- a list walked: at each turn an item by its data -/
theorem forL_by (Pv : Nat → L2.St → Hp → Prop) (src : Dp K H x (.list ds)) (h0 : Pv 0 σ H) (hk : ∀ i σ' H', i ≤ ds.length → Pv i σ' H' → Keep H H')
    (hs : ∀ i d y σ' H', ds[i]? = some d → Dp K H' y d → Pv i σ' H' → g y σ' H' fun σ2 H2 => tb { D with nx := Pv (i + 1), ct := Pv (i + 1), bk := D.nx } σ2 H2) (hd : ∀ σ' H', Pv ds.length σ' H' → D.nx σ' H') : rForL K g tb D σ x H := by
  obtain ⟨a, xs, rfl, hq, ha⟩ := dp_lst src
  have hl := dpa_len ha
  refine ⟨a, rfl, ⟨xs, hq⟩, for_list (xs := xs) Pv h0 (fun i σ' H' hi p => (hk i σ' H' (by omega) p).seqL hq) (fun i y σ' H' hi p => ?_) (fun σ' H' p => hd σ' H' (by rw [← hl]; exact p))⟩
  obtain ⟨d, e1, e2⟩ := dpa_get2 ha hi
  exact hs i d y σ' H' e1 (dp_keep (hk i σ' H' (by have := (List.getElem?_eq_some_iff.mp e1).1; omega) p) e2) p
theorem forT_by (Pv : Nat → L2.St → Hp → Prop) (src : Dp K H x (.tuple ds)) (h0 : Pv 0 σ H) (hk : ∀ i σ' H', i ≤ ds.length → Pv i σ' H' → Keep H H')
    (hs : ∀ i d y σ' H', ds[i]? = some d → Dp K H' y d → Pv i σ' H' → g y σ' H' fun σ2 H2 => tb { D with nx := Pv (i + 1), ct := Pv (i + 1), bk := D.nx } σ2 H2) (hd : ∀ σ' H', Pv ds.length σ' H' → D.nx σ' H') : rForT K g tb D σ x H := by
  obtain ⟨a, xs, rfl, hq, ha⟩ := dp_tup src
  have hl := dpa_len ha
  refine ⟨a, rfl, ⟨xs, hq⟩, for_tup (xs := xs) Pv h0 (fun i σ' H' hi p => (hk i σ' H' (by omega) p).seqT hq) (fun i y σ' H' hi p => ?_) (fun σ' H' p => hd σ' H' (by rw [← hl]; exact p))⟩
  obtain ⟨d, e1, e2⟩ := dpa_get2 ha hi
  exact hs i d y σ' H' e1 (dp_keep (hk i σ' H' (by have := (List.getElem?_eq_some_iff.mp e1).1; omega) p) e2) p
theorem forR1_by {k : Int} (Pv : Nat → L2.St → Hp → Prop) (hz : -(2 ^ 62) ≤ k ∧ k < 2 ^ 62) (h0 : Pv 0 σ H)
    (hs : ∀ (i : Nat) σ' H', (i : Int) < k → Pv i σ' H' → g (.int (i : Int)) σ' H' fun σ2 H2 => tb { D with nx := Pv (i + 1), ct := Pv (i + 1), bk := D.nx } σ2 H2) (hd : ∀ σ' H', Pv k.toNat σ' H' → D.nx σ' H') : rForR1 g tb D σ [.int k] H :=
  ⟨k, rfl, hz.1, hz.2, for_range (lo := 0) (n := k.toNat) Pv h0 (fun i σ' H' hi p => by rw [Int.zero_add]; exact hs i σ' H' (by omega) p) hd⟩
theorem forR2_by {lo k : Int} (Pv : Nat → L2.St → Hp → Prop) (hz : -(2 ^ 62) ≤ lo ∧ lo < 2 ^ 62 ∧ -(2 ^ 62) ≤ k ∧ k < 2 ^ 62) (h0 : Pv 0 σ H)
    (hs : ∀ (i : Nat) σ' H', lo + (i : Int) < k → Pv i σ' H' → g (.int (lo + (i : Int))) σ' H' fun σ2 H2 => tb { D with nx := Pv (i + 1), ct := Pv (i + 1), bk := D.nx } σ2 H2) (hd : ∀ σ' H', Pv (k - lo).toNat σ' H' → D.nx σ' H') : rForR2 g tb D σ [.int lo, .int k] H :=
  ⟨lo, k, rfl, hz, for_range (lo := lo) (n := (k - lo).toNat) Pv h0 (fun i σ' H' hi p => hs i σ' H' (by omega) p) hd⟩
theorem forS_by {s : Str} (Pv : Nat → L2.St → Hp → Prop) (h0 : Pv 0 σ H)
    (hs : ∀ (i : Nat) c σ' H', s.cps.toList[i]? = some c → Pv i σ' H' → g (.str ⟨#[c]⟩) σ' H' fun σ2 H2 => tb { D with nx := Pv (i + 1), ct := Pv (i + 1), bk := D.nx } σ2 H2) (hd : ∀ σ' H', Pv s.length σ' H' → D.nx σ' H') : rForS g tb D σ (.str s) H := by
  refine ⟨s, rfl, fun i m σ H => m = s.length - i ∧ i ≤ s.length ∧ Pv i σ H, ⟨s.length, by simp, Nat.zero_le _, h0⟩, ?_⟩
  rintro i m σ H ⟨rfl, hi, p⟩
  by_cases hlt : i < s.length
  · refine .inr ⟨hlt, Pv (i + 1), fun σ' H' p' => ⟨s.length - (i + 1), by omega, rfl, hlt, p'⟩, fun x H' y => ?_⟩
    obtain ⟨e, c, hc, rfl⟩ := y
    subst e
    exact hs i c σ _ (by simpa using hc) p
  · have e : i = s.length := by omega
    subst e
    exact .inl ⟨Nat.le_refl _, hd σ H p⟩
theorem w_gName {j : Nat} {Q : L2.St → Hp → Prop} (q : Q (σ.set j (some v)) H) : gName j v σ H Q := q
theorem w_pw {P : Prop} (h : P) : P := h
end
end Tw
namespace Tw
open PySem PySem.Spec PyProof.Rows L2
/-! ### data without bools and dicts: == is equality -/
def pln : Nat → PyData → Bool
  | _, .none => true
  | _, .int _ => true
  | _, .str x => PyData.strOk x
  | k + 1, .list ds => ds.all (pln k)
  | k + 1, .tuple ds => ds.all (pln k)
  | _, _ => false
theorem pln_shape : ∀ (k : Nat) (d : PyData), pln k d = true → d.canLay0 = true ∧ d.depth ≤ k := by
  intro k
  induction k with
  | zero =>
    intro d h
    cases d <;> simp [pln] at h <;> simp [PyData.canLay0, PyData.depth, h]
  | succ k ih =>
    have all : ∀ ds : List PyData, ds.all (pln k) = true → PyData.canLayAll0 ds = true ∧ PyData.depthAll ds ≤ k := by
      intro ds
      induction ds with
      | nil => intro _; exact ⟨rfl, Nat.zero_le _⟩
      | cons d ds ihd =>
        intro h
        rw [List.all_cons, Bool.and_eq_true] at h
        obtain ⟨a, b⟩ := ih d h.1
        obtain ⟨a', b'⟩ := ihd h.2
        exact ⟨by simp [PyData.canLayAll0, a, a'], by simp only [PyData.depthAll]; omega⟩
    intro d h
    cases d with
    | list ds =>
      obtain ⟨a, b⟩ := all ds (by simpa [pln] using h)
      exact ⟨by simpa [PyData.canLay0] using a, by simp only [PyData.depth]; omega⟩
    | tuple ds =>
      obtain ⟨a, b⟩ := all ds (by simpa [pln] using h)
      exact ⟨by simpa [PyData.canLay0] using a, by simp only [PyData.depth]; omega⟩
    | none => simp [PyData.canLay0, PyData.depth]
    | int i => simp [PyData.canLay0, PyData.depth]
    | str x => simp [pln] at h; simp [PyData.canLay0, PyData.depth, h]
    | bool b => simp [pln] at h
    | dict kvs => simp [pln] at h
theorem pln_shaped {k : Nat} {d : PyData} (h : pln k d = true) (hk : k ≤ 64) : SeqAt.shaped d = true := by
  obtain ⟨a, b⟩ := pln_shape k d h
  unfold SeqAt.shaped
  rw [a, Bool.true_and, decide_eq_true]
  omega
theorem pln_eqv : ∀ (k l : Nat) (d e : PyData), pln k d = true → pln l e = true → (PyData.eqv d e = true ↔ d = e) := by
  intro k
  induction k with
  | zero =>
    intro l d e h1 h2
    cases d <;> simp [pln] at h1 <;> cases e <;> simp [PyData.eqv] <;> cases l <;> simp [pln] at h2
  | succ k ih =>
    have all : ∀ (l : Nat) (ds es : List PyData), ds.all (pln k) = true → es.all (pln l) = true → (PyData.eqvAll ds es = true ↔ ds = es) := by
      intro l ds
      induction ds with
      | nil => intro es _ _; cases es <;> simp [PyData.eqvAll]
      | cons d ds ihd =>
        intro es h1 h2
        cases es with
        | nil => simp [PyData.eqvAll]
        | cons e es =>
          rw [List.all_cons, Bool.and_eq_true] at h1 h2
          simp only [PyData.eqvAll, Bool.and_eq_true, List.cons.injEq]
          rw [ih l d e h1.1 h2.1, ihd es h1.2 h2.2]
    intro l d e h1 h2
    cases d with
    | list ds =>
      cases e with
      | list es =>
        cases l with
        | zero => simp [pln] at h2
        | succ l =>
          have := all l ds es (by simpa [pln] using h1) (by simpa [pln] using h2)
          simpa [PyData.eqv] using this
      | _ => simp [PyData.eqv]
    | tuple ds =>
      cases e with
      | tuple es =>
        cases l with
        | zero => simp [pln] at h2
        | succ l =>
          have := all l ds es (by simpa [pln] using h1) (by simpa [pln] using h2)
          simpa [PyData.eqv] using this
      | _ => simp [PyData.eqv]
    | none => cases e <;> simp [PyData.eqv]
    | int i => cases e <;> simp [PyData.eqv] <;> (cases l <;> simp [pln] at h2)
    | str x => cases e <;> simp [PyData.eqv]
    | bool b => simp [pln] at h1
    | dict kvs => simp [pln] at h1
theorem pln_ints {k : Nat} (ns : List Int) : pln (k + 1) (.list (ns.map PyData.int)) = true := by
  cases k <;> simp [pln, List.all_eq_true]
theorem pln_intsT {k : Nat} (ns : List Int) : pln (k + 1) (.tuple (ns.map PyData.int)) = true := by
  cases k <;> simp [pln, List.all_eq_true]
section
variable {K : PySem.W.Frag} {H : Hp} {Q : VK} {x y : V} {d e : PyData}
theorem w_eqP (h1 : Dp K H x d) (h2 : Dp K H y e) (p1 : pln 9 d = true) (p2 : pln 9 e = true) (q1 : d = e → Q (.bl true) H) (q2 : d ≠ e → Q (.bl false) H) : rEqD K x y H Q := by
  refine ⟨d, e, h1, h2, pln_shaped p1 (by decide), pln_shaped p2 (by decide), ?_⟩
  have r := pln_eqv _ _ d e p1 p2
  cases he : PyData.eqv d e with
  | true => exact q1 (r.mp he)
  | false => exact q2 (fun z => by rw [r.mpr z] at he; cases he)
theorem w_neP (h1 : Dp K H x d) (h2 : Dp K H y e) (p1 : pln 9 d = true) (p2 : pln 9 e = true) (q1 : d = e → Q (.bl false) H) (q2 : d ≠ e → Q (.bl true) H) : rNeD K x y H Q := by
  refine ⟨d, e, h1, h2, pln_shaped p1 (by decide), pln_shaped p2 (by decide), ?_⟩
  have r := pln_eqv _ _ d e p1 p2
  cases he : PyData.eqv d e with
  | true => exact q1 (r.mp he)
  | false => exact q2 (fun z => by rw [r.mpr z] at he; cases he)
end
/-! ### a dict written out -/
def rDisp (p : Addr) (ps : List (V × V)) (H2 : Hp) (Q : VK) : Prop := H2 p = some (.dK []) ∧ ∃ kvs : List (Key × V), ps = kvs.map (fun kv => (kV kv.1, kv.2)) ∧ kvs.length ≤ 15 ∧ Q (.ref p) (upd H2 p (.dK (mergeK [] kvs)))
theorem w_disp {σ : L2.St} {H : Hp} {Q : VK} {trs : List (TE × TE)} (h : ∀ p H0, H p = none → Same H H0 → H0 p = some (.dK []) → tPairs trs σ H0 fun ps H2 => rDisp p ps H2 Q) : tDisp trs σ H Q := fun p hp => h p _ hp (same_new hp) upd_same
theorem w_pp {σ : L2.St} {H : Hp} {Q : List (V × V) → Hp → Prop} {tk tv : TE} {r : List (TE × TE)} (h : tk σ H fun x H1 => tv σ H1 fun y H2 => tPairs r σ H2 fun ps H3 => Q ((x, y) :: ps) H3) : tPairs ((tk, tv) :: r) σ H Q := h
theorem w_pp0 {σ : L2.St} {H : Hp} {Q : List (V × V) → Hp → Prop} (h : Q [] H) : tPairs [] σ H Q := h
theorem pg_tupK {X : Cx} {K : PySem.W.Frag} {es : List Expr} {k : Nat} {t : TGs} {n : Nat} {pos : Pos} (hc : X.calm = true) (hh : PGs X es t) (h : X.K = K := by rfl)
    (hn : (assignEach es X.env).length = n := by rfl) (hst : (assignEach es X.env).findIdx? (·.1) = none := by rfl) : PG X (.Tuple es k pos) (gTup K n t) := h ▸ pg_tup hc hh hn hst
end Tw
namespace Tw
open PySem PySem.Spec PyProof.Rows L2
/-! ### the law's own drawing: its dict -/
def moKvs (left seed : Int) (c : Addr) (spot : Int) : List (Key × V) := [(.inr "left", .int left), (.inr "seed", .int seed), (.inr "cells", .ref c), (.inr "spot", .int spot)]
theorem mo_len {l s : Int} {c : Addr} {p : Int} : (moKvs l s c p).length < sizeLine := by show 4 < sizeLine; decide
/-- a number of the script, or a little more -/
structure Big (n : Int) : Prop where
  lt : n.natAbs < 2 ^ 1048600
theorem Big.mul {i j : Int} (h : Big i) (hb : -(2 ^ 250) < j ∧ j < 2 ^ 250) : CMulX i j := mulx_ok (a := 1048600) (b := 250) h.lt (by omega) (by decide)
theorem Big.bits {n : Int} (h : Builtin.Int.intBits n ≤ 1048576) : Big n := by
  have h1 : n.natAbs < 2 ^ Builtin.Int.intBits n := by
    by_cases h0 : n = 0
    · subst h0; decide
    · unfold Builtin.Int.intBits
      rw [if_neg (by simpa using h0)]
      exact Nat.lt_log2_self
  exact ⟨Nat.lt_of_lt_of_le h1 (Nat.pow_le_pow_right (by decide) (by omega))⟩
theorem Big.small {n : Int} (h : -(2 ^ 250) < n ∧ n < 2 ^ 250) : Big n := by
  exact ⟨Nat.lt_of_lt_of_le (show n.natAbs < 2 ^ 250 by omega) (Nat.pow_le_pow_right (by decide) (by decide))⟩
/-- the dict of the law's draws, at most b of which were made; its cells at c -/
def Mo (H : Hp) (m c : Addr) (b : Nat) : Prop := ∃ (left seed spot : Int) (ns : List Int),
  H m = some (.dK (moKvs left seed c spot)) ∧ H c = some (.lst (ns.map V.int)) ∧ 0 < ns.length ∧ ns.length ≤ 100 ∧ (∀ n ∈ ns, Big n) ∧ 0 ≤ seed ∧ seed < 2147483647 ∧ 0 ≤ spot ∧ spot ≤ b
theorem k_left_seed : ¬ Str.ofString "left" = Str.ofString "seed" := by decide +kernel
theorem k_left_cells : ¬ Str.ofString "left" = Str.ofString "cells" := by decide +kernel
theorem k_left_spot : ¬ Str.ofString "left" = Str.ofString "spot" := by decide +kernel
theorem k_seed_cells : ¬ Str.ofString "seed" = Str.ofString "cells" := by decide +kernel
theorem k_seed_spot : ¬ Str.ofString "seed" = Str.ofString "spot" := by decide +kernel
theorem k_cells_spot : ¬ Str.ofString "cells" = Str.ofString "spot" := by decide +kernel
theorem mo_left {l s : Int} {c : Addr} {p : Int} : valV (moKvs l s c p) (.inr "left") = some (.int l) := by simp [valV, moKvs]
theorem mo_seed {l s : Int} {c : Addr} {p : Int} : valV (moKvs l s c p) (.inr "seed") = some (.int s) := by simp [valV, moKvs, k_left_seed]
theorem mo_cells {l s : Int} {c : Addr} {p : Int} : valV (moKvs l s c p) (.inr "cells") = some (.ref c) := by simp [valV, moKvs, k_left_cells, k_seed_cells]
theorem mo_spot {l s : Int} {c : Addr} {p : Int} : valV (moKvs l s c p) (.inr "spot") = some (.int p) := by simp [valV, moKvs, k_left_spot, k_seed_spot, k_cells_spot]
theorem mo_put_left {l s : Int} {c : Addr} {p z : Int} : putK (moKvs l s c p) (.inr "left") (.int z) = moKvs z s c p := by
  simp [putK, moKvs, k_left_seed, k_left_cells, k_left_spot, Ne.symm k_left_seed, Ne.symm k_left_cells, Ne.symm k_left_spot]
theorem mo_put_spot {l s : Int} {c : Addr} {p z : Int} : putK (moKvs l s c p) (.inr "spot") (.int z) = moKvs l s c z := by
  simp [putK, moKvs, k_left_spot, k_seed_spot, k_cells_spot]
theorem Mo.mono {H : Hp} {m c : Addr} {a b : Nat} (h : Mo H m c a) (l : a ≤ b) : Mo H m c b := by
  obtain ⟨left, seed, spot, ns, h1, h2, h3, h4, h5, h6, h7, h8, h9⟩ := h
  exact ⟨left, seed, spot, ns, h1, h2, h3, h4, h5, h6, h7, h8, by omega⟩
theorem Mo.same {H H' : Hp} {m c : Addr} {a : Nat} (e : Same H H') (h : Mo H m c a) : Mo H' m c a := by
  obtain ⟨left, seed, spot, ns, h1, h2, h⟩ := h
  exact ⟨left, seed, spot, ns, e _ _ h1, e _ _ h2, h⟩
theorem Mo.ne {H : Hp} {m c : Addr} {a : Nat} {D : Addr} (h : Mo H m c a) (hD : H D = none) : c ≠ D := by
  obtain ⟨left, seed, spot, ns, h1, h2, h⟩ := h
  exact ne_of_none h2 hD
theorem Mo.upd {H : Hp} {m c : Addr} {a : Nat} {D : Addr} {o : HO} {xs : List V} (h : Mo H m c a) (hD : H D = some (.lst xs)) (n : c ≠ D) : Mo (upd H D o) m c a := by
  obtain ⟨left, seed, spot, ns, h1, h2, h⟩ := h
  refine ⟨left, seed, spot, ns, ?_, ?_, h⟩
  · rw [upd_ne (ne_of h1 hD (fun z => nomatch z))]; exact h1
  · rw [upd_ne n]; exact h2
theorem Mo.new {H : Hp} {m c : Addr} {a : Nat} {D : Addr} {o : HO} (h : Mo H m c a) (hD : H D = none) : Mo (L2.upd H D o) m c a := h.same (same_new hD)
/-! ### data without lists -/
mutual
def noL : PyData → Bool
  | .list _ => false
  | .dict _ => false
  | .tuple ds => noLs ds
  | .none => true
  | .bool _ => true
  | .int _ => true
  | .str _ => true
def noLs : List PyData → Bool
  | [] => true
  | d :: ds => noL d && noLs ds
end
mutual
theorem dp_upd {K : PySem.W.Frag} {H : Hp} {D : Addr} {o : HO} {xs0 : List V} (hD : H D = some (.lst xs0)) : ∀ (d : PyData) (v : V), noL d = true → Dp K H v d → Dp K (upd H D o) v d
  | .none, _, _, h => by cases h; exact .non
  | .bool b, _, _, h => by cases h; exact .bl b
  | .int i, _, _, h => by cases h; exact .int i
  | .str x, _, _, h => by cases h; exact .str x
  | .list ds, _, n, h => by simp [noL] at n
  | .tuple ds, _, n, h => by
    cases h with
    | tup hs ha =>
      refine .tup ?_ (dpa_upd hD ds _ (by simpa [noL] using n) ha)
      rcases hs with (hs | ⟨ob, hs⟩) | hs
      · exact .inl (.inl (by rw [upd_ne (ne_of hs hD (fun z => nomatch z))]; exact hs))
      · exact .inl (.inr ⟨ob, by rw [upd_ne (ne_of hs hD (fun z => nomatch z))]; exact hs⟩)
      · exact .inr hs
  | .dict _, _, n, h => by cases h
theorem dpa_upd {K : PySem.W.Frag} {H : Hp} {D : Addr} {o : HO} {xs0 : List V} (hD : H D = some (.lst xs0)) : ∀ (ds : List PyData) (vs : List V), noLs ds = true → DpAll K H vs ds → DpAll K (upd H D o) vs ds
  | [], _, _, h => by cases h; exact .nil
  | d :: ds, _, n, h => by
    simp only [noLs, Bool.and_eq_true] at n
    cases h with
    | cons h1 h2 => exact .cons (dp_upd hD d _ n.1 h1) (dpa_upd hD ds _ n.2 h2)
end
theorem noLs_app : ∀ {ds es : List PyData}, noLs ds = true → noLs es = true → noLs (ds ++ es) = true
  | [], _, _, h => h
  | d :: ds, es, n, h => by
    simp only [noLs, Bool.and_eq_true] at n
    simp only [List.cons_append, noLs, Bool.and_eq_true]
    exact ⟨n.1, noLs_app n.2 h⟩
theorem noLs_one {d : PyData} (h : noL d = true) : noLs [d] = true := by simp [noLs, h]

/-! ### comprehensions -/
section
variable {K : PySem.W.Frag} {σ : L2.St} {H H1 : Hp} {Q : VK} {x : V} {ds : List PyData} {j : Nat} {vs : List Nat} {tt : TT} {te tl : TE} {ta : TA}
/-- what holds between two turns of a comprehension: i turns, the data made so far, the heap -/
structure LcJ (H1 : Hp) (J : Nat → List PyData → Hp → Prop) : Prop where
  start : ∀ D, H1 D = none → J 0 [] (L2.upd H1 D (.lst []))
  keep : ∀ i es H', J i es H' → Keep H1 H'
  upd : ∀ i es H' D xs o, H1 D = none → H' D = some (.lst xs) → J i es H' → J i es (L2.upd H' D o)
def LcP (K : PySem.W.Frag) (J : Nat → List PyData → Hp → Prop) (D : Addr) (i : Nat) (H' : Hp) : Prop :=
  ∃ vs es, H' D = some (.lst vs) ∧ DpAll K H' vs es ∧ noLs es = true ∧ es.length ≤ i ∧ J i es H'
def LcTurn (K : PySem.W.Frag) (J : Nat → List PyData → Hp → Prop) (tt : TT) (te : TE) (σx : L2.St) (i : Nat) (es : List PyData) (H' : Hp) : Prop :=
  ∀ (Yes : VK) (No : Hp → Prop), (∀ z H4 e, Keep H' H4 → noL e = true → Dp K H4 z e → J (i + 1) (es ++ [e]) H4 → Yes z H4) → (∀ H3, Keep H' H3 → J (i + 1) es H3 → No H3) →
    tt σx H' fun b H3 => if b = true then te σx H3 Yes else No H3
theorem lc_turn {J : Nat → List PyData → Hp → Prop} (lj : LcJ H1 J) {D : Addr} (hD : H1 D = none) {i : Nat} (hi : i < 1000000) {H' : Hp} {σx : L2.St} (p : LcP K J D i H') (turn : ∀ es, J i es H' → LcTurn K J tt te σx i es H') :
    tt σx H' fun b H3 => if b = true then te σx H3 fun y H4 => ∃ acc, H4 D = some (.lst acc) ∧ acc.length < sizeLine ∧ LcP K J D (i + 1) (L2.upd H4 D (.lst (acc ++ [y]))) else LcP K J D (i + 1) H3 := by
  obtain ⟨vs, es, p1, p2, p3, p4, p5⟩ := p
  have hs : sizeLine = 16777216 := sizeLine_eq
  refine turn es p5 _ _ (fun z H4 e k n dz j => ?_) (fun H3 k j => ?_)
  · have l := dpa_len p2
    refine ⟨vs, k.l p1, by omega, _, es ++ [e], upd_same, ?_, noLs_app p3 (noLs_one n), by simp; omega, lj.upd _ _ _ _ vs _ hD (k.l p1) j⟩
    exact dpa_app (dpa_upd (k.l p1) _ _ p3 (dpa_keep k p2)) (dpa_one (dp_upd (k.l p1) _ _ n dz))
  · exact ⟨vs, es, k.l p1, dpa_keep k p2, p3, by omega, j⟩
def rLcL (K : PySem.W.Frag) (j : Nat) (tt : TT) (te : TE) (vs : List Nat) (σ : L2.St) (x : V) (H1 : Hp) (Q : VK) : Prop := ∃ a, x = .ref a ∧ (∃ xs, SqL K H1 a xs) ∧ ∀ D, H1 D = none → ∃ W : Nat → Nat → Hp → Prop, (∃ m, W 0 m (L2.upd H1 D (.lst []))) ∧ ∀ i m H, W i m H →
  ((Itl K a).stop i H ∧ Q (.ref D) H) ∨ ((Itl K a).go i H ∧ ∃ Nx : Hp → Prop, (∀ H', Nx H' → ∃ m', m' < m ∧ W (i + 1) m' H') ∧ ∀ x H', (Itl K a).yld i H x H' → gName j x (wipe σ vs) H' fun σ2 H2 => wipe σ2 vs = wipe σ vs ∧ tt σ2 H2 fun b H3 =>
    if b = true then te σ2 H3 fun y H4 => ∃ acc, H4 D = some (.lst acc) ∧ acc.length < sizeLine ∧ Nx (L2.upd H4 D (.lst (acc ++ [y]))) else Nx H3)
theorem w_lcL (h : tl σ H fun x H1 => rLcL K j tt te vs σ x H1 Q) : tLc (iList K tl) (gName j) tt te vs σ H Q := h
theorem lc_list_by (J : Nat → List PyData → Hp → Prop) (lj : LcJ H1 J) (src : Dp K H1 x (.list ds)) (hz : ds.length ≤ 1000000) (hw : ∀ x, wipe ((wipe σ vs).set j (some x)) vs = wipe σ vs)
    (turn : ∀ i d y H' es, ds[i]? = some d → Dp K H' y d → J i es H' → LcTurn K J tt te ((wipe σ vs).set j (some y)) i es H')
    (done : ∀ p H' vs es, H1 p = none → Keep H1 H' → H' p = some (.lst vs) → Dp K H' (.ref p) (.list es) → J ds.length es H' → Q (.ref p) H') : rLcL K j tt te vs σ x H1 Q := by
  obtain ⟨a, xs, rfl, hs, ha⟩ := dp_lst src
  have hl := dpa_len ha
  refine ⟨a, rfl, ⟨xs, hs⟩, fun D hD => lc_list (xs := xs) (LcP K J D) ⟨[], [], upd_same, .nil, rfl, Nat.le_refl _, lj.start D hD⟩ (fun i H' _ p => ?_) (fun i y H' hi p => ⟨hw y, lc_turn lj hD ?_ p fun es q => ?_⟩) fun H' p => ?_⟩
  · obtain ⟨vs, es, p1, p2, p3, p4, p5⟩ := p
    exact (lj.keep _ _ _ p5).seqL hs
  · have := (List.getElem?_eq_some_iff.mp hi).1; omega
  · obtain ⟨d, e1, e2⟩ := dpa_get2 ha hi
    exact turn i d y H' es e1 (dp_keep (lj.keep _ _ _ q) e2) q
  · obtain ⟨vs, es, p1, p2, p3, p4, p5⟩ := p
    rw [hl] at p5
    exact done D H' vs es hD (lj.keep _ _ _ p5) p1 (dp_newL p1 p2) p5
def rLcT (K : PySem.W.Frag) (j : Nat) (tt : TT) (te : TE) (vs : List Nat) (σ : L2.St) (x : V) (H1 : Hp) (Q : VK) : Prop := ∃ a, x = .ref a ∧ (∃ xs, SqT K H1 a xs) ∧ ∀ D, H1 D = none → ∃ W : Nat → Nat → Hp → Prop, (∃ m, W 0 m (L2.upd H1 D (.lst []))) ∧ ∀ i m H, W i m H →
  ((Itt K a).stop i H ∧ Q (.ref D) H) ∨ ((Itt K a).go i H ∧ ∃ Nx : Hp → Prop, (∀ H', Nx H' → ∃ m', m' < m ∧ W (i + 1) m' H') ∧ ∀ x H', (Itt K a).yld i H x H' → gName j x (wipe σ vs) H' fun σ2 H2 => wipe σ2 vs = wipe σ vs ∧ tt σ2 H2 fun b H3 =>
    if b = true then te σ2 H3 fun y H4 => ∃ acc, H4 D = some (.lst acc) ∧ acc.length < sizeLine ∧ Nx (L2.upd H4 D (.lst (acc ++ [y]))) else Nx H3)
theorem w_lcT (h : tl σ H fun x H1 => rLcT K j tt te vs σ x H1 Q) : tLc (iTup K tl) (gName j) tt te vs σ H Q := h
theorem lc_tup_by (J : Nat → List PyData → Hp → Prop) (lj : LcJ H1 J) (src : Dp K H1 x (.tuple ds)) (hz : ds.length ≤ 1000000) (hw : ∀ x, wipe ((wipe σ vs).set j (some x)) vs = wipe σ vs)
    (turn : ∀ i d y H' es, ds[i]? = some d → Dp K H' y d → J i es H' → LcTurn K J tt te ((wipe σ vs).set j (some y)) i es H')
    (done : ∀ p H' vs es, H1 p = none → Keep H1 H' → H' p = some (.lst vs) → Dp K H' (.ref p) (.list es) → J ds.length es H' → Q (.ref p) H') : rLcT K j tt te vs σ x H1 Q := by
  obtain ⟨a, xs, rfl, hs, ha⟩ := dp_tup src
  have hl := dpa_len ha
  refine ⟨a, rfl, ⟨xs, hs⟩, fun D hD => lc_tup (xs := xs) (LcP K J D) ⟨[], [], upd_same, .nil, rfl, Nat.le_refl _, lj.start D hD⟩ (fun i H' _ p => ?_) (fun i y H' hi p => ⟨hw y, lc_turn lj hD ?_ p fun es q => ?_⟩) fun H' p => ?_⟩
  · obtain ⟨vs, es, p1, p2, p3, p4, p5⟩ := p
    exact (lj.keep _ _ _ p5).seqT hs
  · have := (List.getElem?_eq_some_iff.mp hi).1; omega
  · obtain ⟨d, e1, e2⟩ := dpa_get2 ha hi
    exact turn i d y H' es e1 (dp_keep (lj.keep _ _ _ q) e2) q
  · obtain ⟨vs, es, p1, p2, p3, p4, p5⟩ := p
    rw [hl] at p5
    exact done D H' vs es hD (lj.keep _ _ _ p5) p1 (dp_newL p1 p2) p5
def rLcR (j : Nat) (tt : TT) (te : TE) (us : List Nat) (σ : L2.St) (lo : Int) (n : Nat) (H1 : Hp) (Q : VK) : Prop := ∀ D, H1 D = none → ∃ W : Nat → Nat → Hp → Prop, (∃ m, W 0 m (L2.upd H1 D (.lst []))) ∧ ∀ i m H, W i m H →
  ((Itr lo n).stop i H ∧ Q (.ref D) H) ∨ ((Itr lo n).go i H ∧ ∃ Nx : Hp → Prop, (∀ H', Nx H' → ∃ m', m' < m ∧ W (i + 1) m' H') ∧ ∀ x H', (Itr lo n).yld i H x H' → gName j x (wipe σ us) H' fun σ2 H2 => wipe σ2 us = wipe σ us ∧ tt σ2 H2 fun b H3 =>
    if b = true then te σ2 H3 fun y H4 => ∃ acc, H4 D = some (.lst acc) ∧ acc.length < sizeLine ∧ Nx (L2.upd H4 D (.lst (acc ++ [y]))) else Nx H3)
def rLcR1 (j : Nat) (tt : TT) (te : TE) (us : List Nat) (σ : L2.St) (vs : List V) (H1 : Hp) (Q : VK) : Prop := ∃ k : Int, vs = [.int k] ∧ -(2 ^ 62) ≤ k ∧ k < 2 ^ 62 ∧ rLcR j tt te us σ 0 k.toNat H1 Q
def rLcR2 (j : Nat) (tt : TT) (te : TE) (us : List Nat) (σ : L2.St) (vs : List V) (H1 : Hp) (Q : VK) : Prop := ∃ i k : Int, vs = [.int i, .int k] ∧ (-(2 ^ 62) ≤ i ∧ i < 2 ^ 62 ∧ -(2 ^ 62) ≤ k ∧ k < 2 ^ 62) ∧ rLcR j tt te us σ i (k - i).toNat H1 Q
theorem w_lcR1 (h : ta σ H fun ws H1 => rLcR1 j tt te vs σ ws H1 Q) : tLc (iRng1 ta) (gName j) tt te vs σ H Q := h
theorem w_lcR2 (h : ta σ H fun ws H1 => rLcR2 j tt te vs σ ws H1 Q) : tLc (iRng2 ta) (gName j) tt te vs σ H Q := h
theorem lc_rng_by {lo : Int} {n : Nat} (J : Nat → List PyData → Hp → Prop) (lj : LcJ H1 J) (hz : n ≤ 1000000) (hw : ∀ x, wipe ((wipe σ vs).set j (some x)) vs = wipe σ vs)
    (turn : ∀ (i : Nat) H' es, i < n → J i es H' → LcTurn K J tt te ((wipe σ vs).set j (some (.int (lo + (i : Int))))) i es H')
    (done : ∀ p H' vs es, H1 p = none → Keep H1 H' → H' p = some (.lst vs) → Dp K H' (.ref p) (.list es) → J n es H' → Q (.ref p) H') : rLcR j tt te vs σ lo n H1 Q := by
  refine fun D hD => lc_range (lo := lo) (n := n) (LcP K J D) ⟨[], [], upd_same, .nil, rfl, Nat.le_refl _, lj.start D hD⟩ (fun i H' hi p => ⟨hw _, lc_turn lj hD (by omega) p fun es q => turn i H' es hi q⟩) fun H' p => ?_
  obtain ⟨vs, es, p1, p2, p3, p4, p5⟩ := p
  exact done D H' vs es hD (lj.keep _ _ _ p5) p1 (dp_newL p1 p2) p5
theorem lc_rng1_by {k : Int} (J : Nat → List PyData → Hp → Prop) (lj : LcJ H1 J) (hz : 0 ≤ k ∧ k ≤ 1000000) (hw : ∀ x, wipe ((wipe σ vs).set j (some x)) vs = wipe σ vs)
    (turn : ∀ (i : Nat) H' es, (i : Int) < k → J i es H' → LcTurn K J tt te ((wipe σ vs).set j (some (.int (i : Int)))) i es H')
    (done : ∀ p H' vs es, H1 p = none → Keep H1 H' → H' p = some (.lst vs) → Dp K H' (.ref p) (.list es) → J k.toNat es H' → Q (.ref p) H') : rLcR1 j tt te vs σ [.int k] H1 Q := by
  refine ⟨k, rfl, by omega, by omega, lc_rng_by (K := K) J lj (by omega) hw (fun i H' es hi q => ?_) done⟩
  rw [Int.zero_add]
  exact turn i H' es (by omega) q
theorem lc_rng2_by {lo k : Int} (J : Nat → List PyData → Hp → Prop) (lj : LcJ H1 J) (hz : -1000000 ≤ lo ∧ lo ≤ 1000000 ∧ -1000000 ≤ k ∧ k ≤ 1000000 ∧ k - lo ≤ 1000000) (hw : ∀ x, wipe ((wipe σ vs).set j (some x)) vs = wipe σ vs)
    (turn : ∀ (i : Nat) H' es, lo + (i : Int) < k → J i es H' → LcTurn K J tt te ((wipe σ vs).set j (some (.int (lo + (i : Int))))) i es H')
    (done : ∀ p H' vs es, H1 p = none → Keep H1 H' → H' p = some (.lst vs) → Dp K H' (.ref p) (.list es) → J (k - lo).toNat es H' → Q (.ref p) H') : rLcR2 j tt te vs σ [.int lo, .int k] H1 Q :=
  ⟨lo, k, rfl, by omega, lc_rng_by (K := K) J lj (by omega) hw (fun i H' es hi q => turn i H' es (by omega) q) done⟩
theorem w_tYes {Q : Bool → Hp → Prop} (q : Q true H) : tYes σ H Q := q
/-- nothing but new objects: a word about the turns and the data -/
def JP (H1 : Hp) (R : Nat → List PyData → Prop) (i : Nat) (es : List PyData) (H' : Hp) : Prop := Same H1 H' ∧ R i es
theorem JP.ok {R : Nat → List PyData → Prop} (r0 : R 0 []) : LcJ H1 (JP H1 R) where
  start := fun D hD => ⟨same_new hD, r0⟩
  keep := fun _ _ _ h => Keep.of h.1
  upd := fun _ _ _ _ _ _ hD _ h => ⟨same_mut h.1 hD, h.2⟩
/-- .. and draws, at most n a turn -/
def JM (H1 : Hp) (m c : Addr) (b n : Nat) (R : Nat → List PyData → Prop) (i : Nat) (es : List PyData) (H' : Hp) : Prop := Keep H1 H' ∧ Mo H' m c (b + n * i) ∧ R i es
theorem JM.ok {m c : Addr} {b n : Nat} {R : Nat → List PyData → Prop} (hm : Mo H1 m c b) (r0 : R 0 []) : LcJ H1 (JM H1 m c b n R) where
  start := fun D hD => ⟨Keep.of (same_new hD), hm.new hD, r0⟩
  keep := fun _ _ _ h => h.1
  upd := fun _ _ _ _ _ _ hD hx h => ⟨keep_mut h.1 hD, h.2.1.upd hx (hm.ne hD), h.2.2⟩
end
end Tw
namespace Tw
open PySem PySem.Spec PyProof.Rows L2
/-! ### texts as lists of codes -/
def Sg (l : List Nat) : Str := ⟨l.toArray⟩
theorem sg_tl (l : List Nat) : (Sg l).cps.toList = l := by simp [Sg]
theorem sg_len (l : List Nat) : (Sg l).length = l.length := by simp [Sg, Str.length]
theorem sg_app (a b : List Nat) : Sg a ++ Sg b = Sg (a ++ b) := by
  show Str.append (Sg a) (Sg b) = _
  simp [Sg, Str.append]
theorem sg_inj {a b : List Nat} (h : Sg a = Sg b) : a = b := by
  have := congrArg (fun s : Str => s.cps.toList) h
  simpa [Sg] using this
theorem sg_eq {a b : List Nat} : Sg a = Sg b ↔ a = b := ⟨sg_inj, fun h => by rw [h]⟩
theorem sg_one (c : Nat) : (⟨#[c]⟩ : Str) = Sg [c] := rfl
theorem sg_of (s : Str) : ∃ l, s = Sg l := ⟨s.cps.toList, by simp [Sg]⟩
theorem sg_V {a b : List Nat} : (V.str (Sg a) = V.str (Sg b)) ↔ a = b := by
  constructor
  · intro h; exact sg_inj (V.str.inj h)
  · intro h; rw [h]
theorem sg_join (ys : List (List Nat)) : Txt.join (Sg []) (ys.map Sg) = Sg ys.flatten := by
  rw [TL.join_eq]
  induction ys with
  | nil => rfl
  | cons a r ih =>
    cases r with
    | nil => simp [Str.join]
    | cons b r =>
      show Str.append (Str.append (Sg a) (Sg [])) (Str.join (Sg []) (Sg b :: r.map Sg)) = _
      rw [show Sg b :: r.map Sg = (b :: r).map Sg from rfl, ih]
      simp [Sg, Str.append]
theorem sg_empty : Str.ofString "" = Sg [] := by decide +kernel
theorem sg_cut (l : List Nat) (lo hi : Option Int) : (⟨(cutD (Sg l).cps.toList lo hi).toArray⟩ : Str) = Sg (cutD l lo hi) := by simp [Sg]
section
variable {K : PySem.W.Frag} {H : Hp} {Q : VK} {v : V} {lo hi : Option Int}
theorem w_ixSg {l : List Nat} {n : Int} (hz : l.length ≤ 1000000) (h0 : 0 ≤ n) (h1 : n < (l.length : Int)) (q : ∀ c, l[n.toNat]? = some c → Q (.str (Sg [c])) H) : rIxS (.str (Sg l)) (.int n) H Q := by
  have hl : n.toNat < l.length := by omega
  have hs : sizeLine = 16777216 := sizeLine_eq
  exact w_ixS (j := n.toNat) (c := l[n.toNat]) (by rw [sg_len]; omega) (by omega) (by rw [sg_tl]; exact List.getElem?_eq_getElem hl) (q _ (List.getElem?_eq_getElem hl))
theorem w_ixSgLast {l : List Nat} (hz : l.length ≤ 1000000) (h1 : l ≠ []) (q : Q (.str (Sg [l.getLast h1])) H) : rIxS (.str (Sg l)) (.int (-1)) H Q := by
  have hs : sizeLine = 16777216 := sizeLine_eq
  refine ⟨Sg l, -1, l.getLast h1, rfl, rfl, by rw [sg_len]; omega, ?_, q⟩
  rw [sg_tl]
  have e : l = l.dropLast ++ [l.getLast h1] := (List.dropLast_concat_getLast h1).symm
  rw [show atI l (-1) = atI (l.dropLast ++ [l.getLast h1]) (-1) by rw [← e]]
  exact atI_last _ _
theorem w_lenSg {l : List Nat} (h : l.length ≤ 1000000) (q : Q (.int (l.length : Int)) H) : rLen K [.str (Sg l)] H Q := by
  have hs : sizeLine = 16777216 := sizeLine_eq
  refine w_lenS (by rw [sg_len]; omega) ?_
  rw [sg_len]; exact q
theorem w_addSg {a b : List Nat} (h : a.length + b.length ≤ 1000000) (q : Q (.str (Sg (a ++ b))) H) : rAddStr (.str (Sg a)) (.str (Sg b)) H Q := by
  have hs : sizeLine = 16777216 := sizeLine_eq
  refine w_addS (by rw [sg_len, sg_len]; omega) ?_
  rw [sg_app]; exact q
theorem w_slSg {l : List Nat} (h : l.length ≤ 1000000) (q : Q (.str (Sg (cutD l lo hi))) H) : rSlS (.str (Sg l)) lo hi H Q := by
  have hs : sizeLine = 16777216 := sizeLine_eq
  refine w_slS (by rw [sg_len]; omega) ?_
  rw [sg_cut]; exact q
theorem w_eqSg {a b : List Nat} (q1 : a = b → Q (.bl true) H) (q2 : a ≠ b → Q (.bl false) H) : rEq (.str (Sg a)) (.str (Sg b)) H Q := by
  refine ⟨rfl, ?_⟩
  by_cases h : a = b
  · rw [decide_eq_true (sg_V.mpr h)]; exact q1 h
  · rw [decide_eq_false (fun z => h (sg_V.mp z))]; exact q2 h
theorem w_neSg {a b : List Nat} (q1 : a = b → Q (.bl false) H) (q2 : a ≠ b → Q (.bl true) H) : rNe (.str (Sg a)) (.str (Sg b)) H Q := by
  refine ⟨rfl, ?_⟩
  by_cases h : a = b
  · rw [decide_eq_true (sg_V.mpr h)]; exact q1 h
  · rw [decide_eq_false (fun z => h (sg_V.mp z))]; exact q2 h
theorem w_joinSg {ys : List (List Nat)} (h : Dp K H v (.list (ys.map fun y => PyData.str (Sg y)))) (hz : ys.flatten.length ≤ 1000000) (q : Q (.str (Sg ys.flatten)) H) : rJoin K (.str (Sg [])) [v] H Q := by
  refine w_join (ys := ys.map Sg) (by rw [List.map_map]; exact h) ?_ (by rw [sg_join]; exact q)
  rw [List.map_map, sg_len, List.length_nil, Nat.mul_zero, Nat.add_zero]
  have e : (ys.map ((·.length) ∘ Sg)).sum = ys.flatten.length := by
    rw [List.length_flatten]
    congr 1
    first
    | done
    | (apply List.map_congr_left; intro a _; exact sg_len a)
  omega
end
section
variable {K : PySem.W.Frag} {H : Hp} {Q : VK} {v x : V} {ds : List PyData}
theorem cl_isi {X : Cx} {K : PySem.W.Frag} (h : X.K = K := by rfl) : CallR X (.builtin "isinstance") (rIsi K) := h ▸ call_isi
theorem w_isiY {t n : String} (ty : TyX K H x (.type t)) (h : kitB t n = some true) (q : Q (.bl true) H) : rIsi K [x, .ty n] H Q := ⟨x, .ty n, .type t, .type n, true, rfl, .ty n, ty, kit_ty h, q⟩
theorem w_isiN {t n : String} (ty : TyX K H x (.type t)) (h : kitB t n = some false) (q : Q (.bl false) H) : rIsi K [x, .ty n] H Q := ⟨x, .ty n, .type t, .type n, false, rfl, .ty n, ty, kit_ty h, q⟩
theorem ty_tup (h : Dp K H v (.tuple ds)) : TyX K H v (.type "tuple") := by
  obtain ⟨a, xs, rfl, hs, ha⟩ := dp_tup h
  rcases hs with (hs | ⟨o, hs⟩) | ⟨o, its, n, e, c, _⟩
  · exact .base (.tup hs)
  · exact .fTuple hs
  · exact .kTuple e c
theorem ty_lst (h : Dp K H v (.list ds)) : TyX K H v (.type "list") := by
  obtain ⟨a, xs, rfl, hs, ha⟩ := dp_lst h
  rcases hs with (hs | ⟨o, hs⟩) | ⟨o, its, n, e, c, _⟩
  · exact .base (.lst hs)
  · exact .base (.frz hs)
  · exact .kList e c
theorem ty_int {i : Int} : TyX K H (.int i) (.type "int") := .base (.int i)
theorem ty_non : TyX K H .non (.type "NoneType") := .base .non
theorem ty_bl {b : Bool} : TyX K H (.bl b) (.type "bool") := .base (.bl b)
theorem ty_str {s : Str} : TyX K H (.str s) (.type "str") := .base (.str s)
end
end Tw
namespace Tw
open PySem PySem.Spec PyProof.Rows L2
section
variable {X : Cx} {K : PySem.W.Frag} {H H' : Hp} {v : V} {Q : VK} {σ : L2.St}
/-- a tuple as it lies, without a dict -/
def FrT (H : Hp) (v : V) : Prop := ∃ (p : Addr) (o : Obj) (xs : List V), v = .ref p ∧ H p = some (.frz o (.tup xs)) ∧ o.cls = .type "tuple" ∧ o.dict = none
theorem FrT.same (f : FrT H v) (e : Same H H') : FrT H' v := by
  obtain ⟨p, o, xs, rfl, h, r⟩ := f
  exact ⟨p, o, xs, rfl, e _ _ h, r⟩
/-- tuple(list), told so -/
def rTupF (K : PySem.W.Frag) : List V → Hp → VK → Prop := fun xs H Q => ∃ (p : Addr) (ys : List V), xs = [.ref p] ∧ SqL K H p ys ∧ ∀ (l : Addr) (o : Obj), o.cls = .type "tuple" → o.dict = none → H l = none → Q (.ref l) (upd H l (.frz o (.tup ys)))
theorem cl_tupF (hK : X.K = K := by rfl) : CallR X (.type "tuple") (rTupF K) := by
  subst hK
  intro pins t σ H xs us Q I r h
  obtain ⟨p, ys, rfl, hs, q⟩ := h
  obtain ⟨u, rfl, ru⟩ := vals1 r
  cases ru
  obtain ⟨its, rv, lies, lim⟩ := I.list hs
  have many := rv.length
  refine call_tuple_list lies.isList (fun h1 kp => ?_) (by simp only [List.size_toArray]; omega)
  have I1 := I.kept (t' := t.toks) kp
  have at_ : (h1.push { cls := .type "tuple", data := .seq its.toArray }).get? h1.objs.size = some { cls := .type "tuple", data := .seq its.toArray } := Heap.get?_push_size _ rfl
  have new : ObjOk X.prog X.w (upd H h1.objs.size (.frz { cls := .type "tuple", data := .seq its.toArray } (.tup ys))) (h1.push { cls := .type "tuple", data := .seq its.toArray }) h1.objs.size (.frz { cls := .type "tuple", data := .seq its.toArray } (.tup ys)) :=
    ⟨at_, lim, its, rv, IsTup.new _ _⟩
  exact ⟨.ref h1.objs.size, _, I1.laid (t' := t.toks) (fun b o e => Heap.get?_push_of_some _ e) (Nat.le_refl _) new, rfl, q _ _ rfl rfl (I1.hok.fresh (Nat.le_refl _))⟩
theorem w_tupF {ds : List PyData} (h : Dp K H v (.list ds)) (q : ∀ w H', Same H H' → FrT H' w → Dp K H' w (.tuple ds) → Q w H') : rTupF K [v] H Q := by
  obtain ⟨a, xs, rfl, hs, ha⟩ := dp_lst h
  refine ⟨a, xs, rfl, hs, fun l o hc hd hl => ?_⟩
  have sm : Same H (upd H l (.frz o (.tup xs))) := same_new hl
  exact q _ _ sm ⟨l, o, xs, rfl, upd_same, hc, hd⟩ (.tup (.inl (.inr ⟨o, upd_same⟩)) (dpa_same sm ha))
/-- a method of such a tuple -/
def tBMF (r : V → List V → Hp → VK → Prop) (to : TE) (ta : TA) : TE := fun σ H Q => to σ H fun x H1 => FrT H1 x ∧ ta σ H1 fun xs H2 => r x xs H2 Q
theorem w_bmF {r : V → List V → Hp → VK → Prop} {to : TE} {ta : TA} (h : to σ H fun x H1 => FrT H1 x ∧ ta σ H1 fun xs H2 => r x xs H2 Q) : tBMF r to ta σ H Q := h
theorem pe_bmF {name : Str} {id : String} {o e : Expr} {es : List Expr} {to : TE} {ta : TA} {apos cpos : Pos} {r : V → List V → Hp → VK → Prop}
    (pa : PlainAttrs "tuple") (slot : Slot "tuple" name id) (hty : typeOf (.builtin id) = pure (.type "method_descriptor")) (hm : MtR X id r) (ho : PE X o to) (ha : PA X (e :: es) ta)
    (hbase : attributeBase o name X.env (eval o X.env) = eval o X.env := by rfl)
    (few : ((backTo cpos (starEach (e :: es) X.env)).all (fun x => !x.1) && (backToKw cpos (keywordEach [] X.env)).all (fun x => x.1.isSome) && decide ((e :: es).length + ([] : List Keyword).length + (if ([] : List Keyword).isEmpty then 0 else 1) < 30)) = true := by rfl)
    (line : (apos.endLine == cpos.line) = true := by rfl) (st1 : starEach (e :: es) X.env = (false, eval e X.env) :: starEach es X.env := by rfl) (st2 : (backTo cpos (starEach es X.env)).any (·.1) = false := by rfl) :
    PE X (.Call (.Attribute o name apos) (e :: es) [] cpos) (tBMF r to ta) := by
  refine ⟨fun pins t σ H Q I want => wpAny_Call_method_late hbase few line rfl (thn (ho.run pins t σ H _ I want) ?_)⟩
  rintro u t1 ⟨x, H1, I1, ru, ⟨p, ob, xs, rfl, lies, cls, nod⟩, q1⟩
  cases ru
  have get : t1.heap.get? p = some ob := (I1.hok p _ lies).1
  have args := ha.run cpos pins t1 σ H1 _ I1 q1
  refine ⟨"tuple", id, pa, slot, hty, ⟨ob, get, cls⟩, fun a z => ?_, ?_⟩
  · cases z
    exact ⟨ob, get, nod⟩
  · rw [st1] at args ⊢
    refine Calls.callWith_builtin (by show (false || (backTo cpos (starEach es X.env)).any (·.1)) = false; rw [st2]; rfl) (Calls.evalArgs_plain (thn args ?_))
    rintro us t2 ⟨vs, H2, I2, r2, q2⟩
    exact hm pins t2 σ H2 (.ref p) vs (.ref p) us Q I2 rfl r2 q2
end
end Tw
namespace Tw
open PySem PySem.Spec PyProof.Rows L2
/-! ### ratios in lowest terms -/
def red (p q : Nat) : Nat × Nat := (p / Nat.gcd p q, q / Nat.gcd p q)
theorem red_pos {p q : Nat} (h : 0 < q) : 0 < (red p q).2 := Nat.div_pos (Nat.le_of_dvd h (Nat.gcd_dvd_right p q)) (Nat.gcd_pos_of_pos_right p h)
theorem red_coprime {p q : Nat} (h : 0 < q) : Nat.Coprime (red p q).1 (red p q).2 := Nat.coprime_div_gcd_div_gcd (Nat.gcd_pos_of_pos_right p h)
theorem red_cross {p q : Nat} : (red p q).1 * q = p * (red p q).2 := by
  have h1 := Nat.gcd_dvd_left p q
  have h2 := Nat.gcd_dvd_right p q
  show p / Nat.gcd p q * q = p * (q / Nat.gcd p q)
  rw [← Nat.mul_div_assoc p h2, Nat.div_mul_right_comm h1]
theorem red_unique {a b c d : Nat} (hb : 0 < b) (hd : 0 < d) (h1 : Nat.Coprime a b) (h2 : Nat.Coprime c d) (h : a * d = c * b) : a = c ∧ b = d := by
  have e1 : b ∣ d := h1.symm.dvd_of_dvd_mul_left (by rw [h]; exact Nat.dvd_mul_left b c)
  have e2 : d ∣ b := h2.symm.dvd_of_dvd_mul_left (by rw [← h]; exact Nat.dvd_mul_left d a)
  have e3 := Nat.dvd_antisymm e1 e2
  subst e3
  exact ⟨Nat.eq_of_mul_eq_mul_right hb h, rfl⟩
theorem red_eq {p q p' q' : Nat} (hq : 0 < q) (hq' : 0 < q') (h : p * q' = p' * q) : red p q = red p' q' := by
  have e := red_unique (red_pos (p := p) hq) (red_pos (p := p') hq') (red_coprime hq) (red_coprime hq') (by
    have h1 := red_cross (p := p) (q := q)
    have h2 := red_cross (p := p') (q := q')
    have h3 : (red p q).1 * (red p' q').2 * (q * q') = (red p' q').1 * (red p q).2 * (q * q') := by grind
    exact Nat.eq_of_mul_eq_mul_right (Nat.mul_pos hq hq') h3)
  exact Prod.ext e.1 e.2
theorem red_self {p q : Nat} (h : Nat.Coprime p q) : red p q = (p, q) := by
  unfold red
  rw [show Nat.gcd p q = 1 from h, Nat.div_one, Nat.div_one]
theorem red_of {x : Nat × Nat} {p q : Nat} (hx : Nat.Coprime x.1 x.2) (h0 : 0 < x.2) (hq : 0 < q) (h : x.1 * q = p * x.2) : red p q = x := by
  rw [← red_eq h0 hq h, red_self hx]
theorem red_le {p q : Nat} : (red p q).2 ≤ q := Nat.div_le_self _ _
theorem red_le1 {p q : Nat} : (red p q).1 ≤ p := Nat.div_le_self _ _
theorem red_dvd {p q : Nat} : (red p q).2 ∣ q := Nat.div_dvd_of_dvd (Nat.gcd_dvd_right p q)
theorem red_lt {p q : Nat} (h : p < q) : (red p q).1 < (red p q).2 := Nat.div_lt_div_of_lt_of_dvd (Nat.gcd_dvd_right p q) h
/-! ### places -/
def CN : Nat := 56525307072677432455503587098948920087821904549333509463754043204567040000
theorem CN_pos : 0 < CN := by decide +kernel
theorem CN_lt : CN < 2 ^ 250 := by decide +kernel
theorem CN_dvdAll : ∀ m : Fin 24, ∀ n : Fin 25, 1 ≤ n.val → m.val + n.val ≤ 24 → CN % (2 ^ m.val * (2 ^ n.val - 1)) = 0 := by decide +kernel
theorem CN_dvd {m n : Nat} (hn : 1 ≤ n) (h : m + n ≤ 24) : 2 ^ m * (2 ^ n - 1) ∣ CN := Nat.dvd_of_mod_eq_zero (CN_dvdAll ⟨m, by omega⟩ ⟨n, by omega⟩ hn h)
theorem two_pow_pos (n : Nat) : 0 < 2 ^ n := Nat.pow_pos (by decide)
theorem bot_pos {m n : Nat} (hn : 1 ≤ n) : 0 < 2 ^ m * (2 ^ n - 1) := by
  have h1 : 2 ≤ 2 ^ n := by
    calc 2 = 2 ^ 1 := rfl
      _ ≤ 2 ^ n := Nat.pow_le_pow_right (by decide) hn
  exact Nat.mul_pos (two_pow_pos m) (by omega)
theorem bot_lt {m n : Nat} (h : m + n ≤ 24) : 2 ^ m * (2 ^ n - 1) < 2 ^ 24 := by
  have h0 := two_pow_pos n
  have h1 := two_pow_pos m
  calc 2 ^ m * (2 ^ n - 1) < 2 ^ m * 2 ^ n := Nat.mul_lt_mul_of_pos_left (by omega) h1
    _ = 2 ^ (m + n) := (Nat.pow_add 2 m n).symm
    _ ≤ 2 ^ 24 := Nat.pow_le_pow_right (by decide) h
/-- a place -/
structure Plc (x : Nat × Nat) : Prop where
  lt : x.1 < x.2
  cop : Nat.Coprime x.1 x.2
  bot : ∃ m n, 1 ≤ n ∧ m + n ≤ 24 ∧ x.2 ∣ 2 ^ m * (2 ^ n - 1)
section
variable {x y z a b : Nat × Nat}
theorem Plc.dvd (h : Plc x) : x.2 ∣ CN := by
  obtain ⟨m, n, h1, h2, h3⟩ := h.bot
  exact Nat.dvd_trans h3 (CN_dvd h1 h2)
theorem Plc.pos (h : Plc x) : 0 < x.2 := Nat.lt_of_le_of_lt (Nat.zero_le _) h.lt
theorem Plc.small (h : Plc x) : x.2 < 2 ^ 24 := by
  obtain ⟨m, n, h1, h2, h3⟩ := h.bot
  exact Nat.lt_of_le_of_lt (Nat.le_of_dvd (bot_pos h1) h3) (bot_lt h2)
/-- steps of 1 / CN from zero -/
def sz (x : Nat × Nat) : Nat := x.1 * (CN / x.2)
theorem sz_mul (h : Plc x) : sz x * x.2 = x.1 * CN := by
  unfold sz
  rw [Nat.mul_assoc, Nat.div_mul_cancel h.dvd]
theorem sz_lt (h : Plc x) : sz x < CN := by
  have h1 := sz_mul h
  have h2 : sz x * x.2 < CN * x.2 := by
    rw [h1, Nat.mul_comm CN]
    exact Nat.mul_lt_mul_of_pos_right h.lt CN_pos
  exact Nat.lt_of_mul_lt_mul_right h2
theorem sz_red (h : Plc x) : red (sz x) CN = x := red_of h.cop h.pos CN_pos (sz_mul h).symm
theorem sz_inj (h : Plc x) (h' : Plc y) (e : sz x = sz y) : x = y := by rw [← sz_red h, ← sz_red h', e]
theorem sz_less (h : Plc x) (h' : Plc y) : (x.1 * y.2 < y.1 * x.2 ↔ sz x < sz y) := by
  have h1 := sz_mul h
  have h2 := sz_mul h'
  have p := h.pos
  have p' := h'.pos
  have e1 : x.1 * y.2 * CN = sz x * (x.2 * y.2) := by grind
  have e2 : y.1 * x.2 * CN = sz y * (x.2 * y.2) := by grind
  constructor
  · intro l
    have : x.1 * y.2 * CN < y.1 * x.2 * CN := Nat.mul_lt_mul_of_pos_right l CN_pos
    rw [e1, e2] at this
    exact Nat.lt_of_mul_lt_mul_right this
  · intro l
    have : sz x * (x.2 * y.2) < sz y * (x.2 * y.2) := Nat.mul_lt_mul_of_pos_right l (Nat.mul_pos p p')
    rw [← e1, ← e2] at this
    exact Nat.lt_of_mul_lt_mul_right this
/-- the way up from a to b -/
def wu (a b : Nat × Nat) : Nat := (sz b + (CN - sz a)) % CN
theorem wu_lt : wu a b < CN := Nat.mod_lt _ CN_pos
theorem wu_eq (ha : Plc a) (hb : Plc b) : wu a b = if sz a ≤ sz b then sz b - sz a else sz b + CN - sz a := by
  have h1 := sz_lt ha
  have h2 := sz_lt hb
  unfold wu
  split
  · rw [show sz b + (CN - sz a) = (sz b - sz a) + CN by omega, Nat.add_mod_right, Nat.mod_eq_of_lt (by omega)]
  · rw [Nat.mod_eq_of_lt (by omega)]; omega
theorem wu_int (ha : Plc a) (hb : Plc b) : ((sz b : Int) - sz a) % (CN : Int) = (wu a b : Int) := by
  have h1 := sz_lt ha
  have h2 := sz_lt hb
  rw [wu_eq ha hb]
  split
  · rw [Int.emod_eq_of_lt (by omega) (by omega)]; omega
  · rw [← Int.add_emod_right, Int.emod_eq_of_lt (by omega) (by omega)]; omega
def arcN (a b : Nat × Nat) : Nat × Nat := red (wu a b) CN
/-- the mirrored place -/
def mirN (x : Nat × Nat) : Nat × Nat := (if x.1 = 0 then 0 else x.2 - x.1, x.2)
theorem mir_plc (h : Plc x) : Plc (mirN x) := by
  have h1 := h.lt
  refine ⟨?_, ?_, h.bot⟩
  · show (if x.1 = 0 then 0 else x.2 - x.1) < x.2
    split <;> omega
  · show Nat.Coprime (if x.1 = 0 then 0 else x.2 - x.1) x.2
    have hc := h.cop
    split
    · rename_i e
      rw [e] at hc
      exact hc
    · unfold Nat.Coprime at hc ⊢
      rw [Nat.gcd_comm, Nat.gcd_self_sub_right (Nat.le_of_lt h1), Nat.gcd_comm]
      exact hc
theorem mir_sz (h : Plc x) : sz (mirN x) = if sz x = 0 then 0 else CN - sz x := by
  have h1 := sz_mul h
  have h3 := sz_mul (mir_plc h)
  have hp := h.pos
  have hl := h.lt
  have hs := sz_lt h
  have e2 : (mirN x).2 = x.2 := rfl
  have e1 : (mirN x).1 = if x.1 = 0 then 0 else x.2 - x.1 := rfl
  rw [e2, e1] at h3
  by_cases h0 : x.1 = 0
  · have : sz x = 0 := by unfold sz; rw [h0, Nat.zero_mul]
    rw [if_pos this]
    rw [if_pos h0, Nat.zero_mul] at h3
    rcases Nat.mul_eq_zero.mp h3 with h | h
    · exact h
    · omega
  · have hn : sz x ≠ 0 := by
      intro z
      rw [z, Nat.zero_mul] at h1
      rcases Nat.mul_eq_zero.mp h1.symm with h | h
      · exact h0 h
      · have := CN_pos; omega
    rw [if_neg hn]
    rw [if_neg h0, Nat.sub_mul, ← h1] at h3
    have e : sz (mirN x) * x.2 = (CN - sz x) * x.2 := by rw [h3, Nat.sub_mul, Nat.mul_comm CN]
    exact Nat.eq_of_mul_eq_mul_right hp e
theorem mir_wu (ha : Plc a) (hb : Plc b) : wu (mirN b) (mirN a) = wu a b := by
  have h1 := sz_lt ha
  have h2 := sz_lt hb
  rw [wu_eq (mir_plc hb) (mir_plc ha), wu_eq ha hb, mir_sz ha, mir_sz hb]
  (repeat' split) <;> omega
end
def pd (x : Nat × Nat) : PyData := .tuple [.int x.1, .int x.2]
theorem pd_inj {x y : Nat × Nat} (h : pd x = pd y) : x = y := by
  simp only [pd, PyData.tuple.injEq, List.cons.injEq, PyData.int.injEq, and_true] at h
  exact Prod.ext (by omega) (by omega)
theorem pd_pln {k : Nat} (x : Nat × Nat) : pln (k + 1) (pd x) = true := by
  cases k <;> simp [pd, pln]
theorem pd_noL (x : Nat × Nat) : noL (pd x) = true := rfl
end Tw
namespace Tw
open PySem PySem.Spec PyProof.Rows L2
theorem mir_int {x : Nat × Nat} (h : x.1 < x.2) : (-(x.1 : Int)) % (x.2 : Int) = ((mirN x).1 : Int) := by
  show _ = (((if x.1 = 0 then 0 else x.2 - x.1) : Nat) : Int)
  split
  · rename_i e; rw [e]; simp
  · rw [← Int.add_emod_right, Int.emod_eq_of_lt (by omega) (by omega)]; omega
/-! ### doubling -/
def dblN (x : Nat × Nat) : Nat × Nat := if x.2 % 2 = 0 then (x.1 % (x.2 / 2), x.2 / 2) else (2 * x.1 % x.2, x.2)
theorem odd_of_dvd {b n : Nat} (hn : 1 ≤ n) (h : b ∣ 2 ^ 0 * (2 ^ n - 1)) : b % 2 = 1 := by
  obtain ⟨k, hk⟩ := h
  rw [Nat.pow_zero, Nat.one_mul] at hk
  have h1 : 2 ^ n = 2 * 2 ^ (n - 1) := by rw [← Nat.pow_succ']; congr 1; omega
  have h0 := two_pow_pos (n - 1)
  rcases Nat.mod_two_eq_zero_or_one b with hb | hb
  · have hb2 : b = 2 * (b / 2) := by omega
    rw [hb2, Nat.mul_assoc] at hk
    omega
  · exact hb
theorem dbl_plc {x : Nat × Nat} (h : Plc x) : Plc (dblN x) := by
  obtain ⟨m, n, h1, h2, h3⟩ := h.bot
  have hp := h.pos
  have hl := h.lt
  have hc := h.cop
  unfold dblN
  split
  · rename_i e
    have hx : x.2 = 2 * (x.2 / 2) := by omega
    have hq : 0 < x.2 / 2 := by omega
    have hm : 1 ≤ m := by
      cases m with
      | zero => have := odd_of_dvd h1 h3; omega
      | succ m => omega
    refine ⟨Nat.mod_lt _ hq, ?_, m - 1, n, h1, by omega, ?_⟩
    · show Nat.Coprime (x.1 % (x.2 / 2)) (x.2 / 2)
      have hd : Nat.gcd x.1 (x.2 / 2) ∣ Nat.gcd x.1 x.2 := Nat.dvd_gcd (Nat.gcd_dvd_left _ _) (Nat.dvd_trans (Nat.gcd_dvd_right _ _) ⟨2, by omega⟩)
      rw [show Nat.gcd x.1 x.2 = 1 from hc] at hd
      unfold Nat.Coprime
      rw [← Nat.gcd_rec, Nat.gcd_comm]
      exact Nat.dvd_one.mp hd
    · show x.2 / 2 ∣ _
      have e2 : 2 ^ m = 2 * 2 ^ (m - 1) := by rw [← Nat.pow_succ']; congr 1; omega
      rw [hx, e2, Nat.mul_assoc] at h3
      exact Nat.dvd_of_mul_dvd_mul_left (by decide) h3
  · rename_i e
    refine ⟨Nat.mod_lt _ hp, ?_, m, n, h1, h2, h3⟩
    show Nat.Coprime (2 * x.1 % x.2) x.2
    unfold Nat.Coprime
    rw [← Nat.gcd_rec]
    have h2c : Nat.Coprime x.2 2 := by
      unfold Nat.Coprime
      rw [Nat.gcd_comm, Nat.gcd_rec, show x.2 % 2 = 1 by omega]
      rfl
    exact Nat.Coprime.mul_right h2c hc.symm
/-! ### digits -/
def bv (l : List Nat) : Nat := l.foldl (fun s c => 2 * s + (c - 48)) 0
def Dg (l : List Nat) : Prop := ∀ c ∈ l, c = 48 ∨ c = 49
theorem bv_snoc (l : List Nat) (c : Nat) : bv (l ++ [c]) = 2 * bv l + (c - 48) := by simp [bv, List.foldl_append]
theorem bv_lt : ∀ (l : List Nat), Dg l → bv l < 2 ^ l.length := by
  intro l
  induction hn : l.length generalizing l with
  | zero => intro _; rw [List.length_eq_zero_iff.mp hn]; decide
  | succ n ih =>
    intro h
    have hne : l ≠ [] := fun z => by rw [z] at hn; simp at hn
    have hl : l.dropLast.length = n := by rw [List.length_dropLast]; omega
    have h1 := ih l.dropLast hl (fun c hc => h c (List.dropLast_subset l hc))
    have h2 := h (l.getLast hne) (List.getLast_mem hne)
    rw [← List.dropLast_concat_getLast hne, bv_snoc, Nat.pow_succ]
    omega
def botN (h c : List Nat) : Nat := 2 ^ h.length * (2 ^ c.length - 1)
def binN (h c : List Nat) : Nat × Nat := red ((bv h * (2 ^ c.length - 1) + bv c) % botN h c) (botN h c)
theorem botN_pos {h c : List Nat} (hc : c ≠ []) : 0 < botN h c := bot_pos (List.length_pos_iff.mpr hc)
theorem bin_plc {h c : List Nat} (hc : c ≠ []) (hl : h.length + c.length ≤ 24) : Plc (binN h c) :=
  ⟨red_lt (Nat.mod_lt _ (botN_pos hc)), red_coprime (botN_pos hc), h.length, c.length, List.length_pos_iff.mpr hc, hl, red_dvd⟩
/-! ### what readings ask -/
section
variable {K : PySem.W.Frag} {σ : L2.St} {H : Hp} {Q : VK} {v y : V} {x : Nat × Nat} {p q : Nat}
theorem w_gcdN (h : Q (.int ((Nat.gcd p q : Nat) : Int)) H) : rGcd [.int (p : Int), .int (q : Int)] H Q := ⟨p, q, rfl, by simpa using h⟩
theorem w_ix0 (h : Dp K H v (pd x)) (q : Q (.int (x.1 : Int)) H) : rIxT K v (.int 0) H Q := w_ixT (j := 0) h rfl rfl fun v' hv => by cases hv; exact q
theorem w_ix1 (h : Dp K H v (pd x)) (q : Q (.int (x.2 : Int)) H) : rIxT K v (.int 1) H Q := w_ixT (j := 1) h rfl rfl fun v' hv => by cases hv; exact q
theorem w_gTupP {i j : Nat} {Q : L2.St → Hp → Prop} (h : Dp K H v (pd x)) (q : Q ((σ.set i (some (.int (x.1 : Int)))).set j (some (.int (x.2 : Int)))) H) : gTup K 2 (gCons (gName i) (gCons (gName j) gNil)) v σ H Q :=
  w_gTup2 h fun v1 v2 h1 h2 => by cases h1; cases h2; exact q
def rAbs : List V → Hp → VK → Prop := fun xs H Q => ∃ i, xs = [.int i] ∧ Q (.int (if i < 0 then -i else i)) H
theorem cl_abs {X : Cx} : CallR X (.builtin "abs") rAbs := call_abs
theorem w_absN (h : Q (.int (p : Int)) H) : rAbs [.int (p : Int)] H Q := ⟨p, rfl, by rw [if_neg (by omega)]; exact h⟩
theorem w_absI {i : Int} (h : Q (.int (i.natAbs : Int)) H) : rAbs [.int i] H Q := ⟨i, rfl, by
  rw [show (if i < 0 then -i else i) = (i.natAbs : Int) by split <;> omega]; exact h⟩
def rIntS : List V → Hp → VK → Prop := fun xs H Q => ∃ a n, xs = [.str a] ∧ PySem.intText? a = some n ∧ a.length ≤ 640 ∧ Q (.int n) H
theorem cl_intS {X : Cx} : CallR X (.type "int") rIntS := call_int_str
theorem int_0 : PySem.intText? (Sg [48]) = some 0 := by decide +kernel
theorem int_1 : PySem.intText? (Sg [49]) = some 1 := by decide +kernel
theorem w_intS {c : Nat} (hc : c = 48 ∨ c = 49) (h : Q (.int ((c - 48 : Nat) : Int)) H) : rIntS [.str (Sg [c])] H Q := by
  rcases hc with rfl | rfl
  · exact ⟨Sg [48], 0, rfl, int_0, by decide, h⟩
  · exact ⟨Sg [49], 1, rfl, int_1, by decide, h⟩
theorem op_inDK {X : Cx} {K : PySem.W.Frag} (hu : X.A.units + 65 < cLine) (h : X.K = K := by rfl) : OpR X (compareOp .In) (rInD K) := h ▸ op_inD hu
theorem op_notInDK {X : Cx} {K : PySem.W.Frag} (hu : X.A.units + 65 < cLine) (h : X.K = K := by rfl) : OpR X (compareOp .NotIn) (rNotInD K) := h ▸ op_notInD hu
theorem any_eqv {d : PyData} {ds : List PyData} (hd : pln 8 d = true) (hs : ∀ z ∈ ds, pln 8 z = true) : (ds.any fun z => PyData.eqv z d) = true ↔ d ∈ ds := by
  rw [List.any_eq_true]
  constructor
  · rintro ⟨z, hz, e⟩
    rw [(pln_eqv 8 8 z d (hs z hz) hd).mp e] at hz
    exact hz
  · intro h
    exact ⟨d, h, (pln_eqv 8 8 d d hd hd).mpr rfl⟩
theorem pln_list {k : Nat} {ds : List PyData} (h : ∀ z ∈ ds, pln k z = true) : pln (k + 1) (.list ds) = true := by simpa [pln] using h
theorem pln_tuple {k : Nat} {ds : List PyData} (h : ∀ z ∈ ds, pln k z = true) : pln (k + 1) (.tuple ds) = true := by simpa [pln] using h
theorem w_inP {d : PyData} {ds : List PyData} (h1 : Dp K H v d) (h2 : Dp K H y (.list ds)) (p1 : pln 8 d = true) (p2 : ∀ z ∈ ds, pln 8 z = true) (q1 : d ∈ ds → Q (.bl true) H) (q2 : d ∉ ds → Q (.bl false) H) : rInD K v y H Q := by
  refine ⟨d, ds, h1, h2, pln_shaped p1 (by decide), pln_shaped (pln_list p2) (by decide), ?_⟩
  have r := any_eqv p1 p2
  cases he : (ds.any fun z => PyData.eqv z d) with
  | true => exact q1 (r.mp he)
  | false => exact q2 (fun z => by rw [r.mpr z] at he; cases he)
theorem w_notInP {d : PyData} {ds : List PyData} (h1 : Dp K H v d) (h2 : Dp K H y (.list ds)) (p1 : pln 8 d = true) (p2 : ∀ z ∈ ds, pln 8 z = true) (q1 : d ∈ ds → Q (.bl false) H) (q2 : d ∉ ds → Q (.bl true) H) : rNotInD K v y H Q := by
  refine ⟨d, ds, h1, h2, pln_shaped p1 (by decide), pln_shaped (pln_list p2) (by decide), ?_⟩
  have r := any_eqv p1 p2
  cases he : (ds.any fun z => PyData.eqv z d) with
  | true => exact q1 (r.mp he)
  | false => exact q2 (fun z => by rw [r.mpr z] at he; cases he)
theorem Room65 {k : Nat} {A : Around} (r : Room k A) : A.units + 65 < cLine := by have := r.un; omega
end
/-! ### Euclid's steps -/
structure Eu (a b : Nat) (i a' b' : Nat) : Prop where
  g : Nat.gcd a' b' = Nat.gcd a b
  s : i = 0 → b' = b
  l : 1 ≤ i → b' < a' ∧ a' * b' * 2 ^ (i - 1) < 2 ^ 380 ∨ b' = 0
theorem Eu.start (a b : Nat) : Eu a b 0 a b := ⟨rfl, fun _ => rfl, fun h => by omega⟩
theorem Eu.step {a b i a' b' : Nat} (hb : b < 2 ^ 190) (h : Eu a b i a' b') (h0 : b' ≠ 0) : Eu a b (i + 1) b' (a' % b') := by
  have hlt : a' % b' < b' := Nat.mod_lt _ (by omega)
  refine ⟨?_, fun z => by omega, fun _ => ?_⟩
  · rw [← h.g, Nat.gcd_comm b', ← Nat.gcd_rec, Nat.gcd_comm]
  · left
    refine ⟨hlt, ?_⟩
    rw [Nat.add_sub_cancel]
    by_cases hi : i = 0
    · subst hi
      have e := h.s rfl
      subst e
      rw [Nat.pow_zero, Nat.mul_one]
      calc b' * (a' % b') ≤ b' * b' := Nat.mul_le_mul_left _ (Nat.le_of_lt hlt)
        _ < 2 ^ 190 * 2 ^ 190 := Nat.mul_lt_mul'' hb hb
        _ = 2 ^ 380 := by rw [← Nat.pow_add]
    · rcases h.l (by omega) with ⟨h1, h2⟩ | h1
      · have h3 : 2 * (a' % b') ≤ a' := by
          have := Nat.div_add_mod a' b'
          have : 1 ≤ a' / b' := Nat.div_pos (by omega) (by omega)
          have : b' * 1 ≤ b' * (a' / b') := Nat.mul_le_mul_left _ this
          omega
        have e : 2 ^ i = 2 * 2 ^ (i - 1) := by rw [← Nat.pow_succ']; congr 1; omega
        calc b' * (a' % b') * 2 ^ i = b' * (2 * (a' % b')) * 2 ^ (i - 1) := by rw [e]; grind
          _ ≤ b' * a' * 2 ^ (i - 1) := Nat.mul_le_mul_right _ (Nat.mul_le_mul_left _ h3)
          _ = a' * b' * 2 ^ (i - 1) := by rw [Nat.mul_comm b']
          _ < 2 ^ 380 := h2
      · exact absurd h1 h0
theorem Eu.done {a b i a' b' : Nat} (h : Eu a b i a' b') (hi : 382 ≤ i) : a' = Nat.gcd a b := by
  have : b' = 0 := by
    rcases h.l (by omega) with ⟨h1, h2⟩ | h1
    · by_cases hb : b' = 0
      · exact hb
      · exfalso
        have h3 : 1 ≤ a' * b' := Nat.mul_pos (by omega) (by omega)
        have h4 : 2 ^ 380 ≤ 2 ^ (i - 1) := Nat.pow_le_pow_right (by decide) (by omega)
        have h5 : 1 * 2 ^ (i - 1) ≤ a' * b' * 2 ^ (i - 1) := Nat.mul_le_mul_right _ h3
        omega
    · exact h1
  rw [← h.g, this, Nat.gcd_zero_right]
theorem Eu.zero {a b i a' : Nat} (h : Eu a b i a' 0) : a' = Nat.gcd a b := by rw [← h.g, Nat.gcd_zero_right]
end Tw
namespace Tw
open PySem PySem.Spec PyProof.Rows L2
/-- x lies between a and b, going up from a (by the law's own look) -/
def btw (a x b : Nat × Nat) : Prop := if sz a < sz b then sz a < sz x ∧ sz x < sz b else sz a < sz x ∨ sz x < sz b
instance {a x b : Nat × Nat} : Decidable (btw a x b) := by unfold btw; infer_instance
theorem btw_wu {a x b : Nat × Nat} (ha : Plc a) (hx : Plc x) (hb : Plc b) (h1 : x ≠ a) (h2 : x ≠ b) (h3 : a ≠ b) : btw a x b ↔ (0 < wu a x ∧ wu a x < wu a b) := by
  have s1 := sz_lt ha
  have s2 := sz_lt hx
  have s3 := sz_lt hb
  have n1 : sz x ≠ sz a := fun z => h1 (sz_inj hx ha z)
  have n2 : sz x ≠ sz b := fun z => h2 (sz_inj hx hb z)
  have n3 : sz a ≠ sz b := fun z => h3 (sz_inj ha hb z)
  rw [wu_eq ha hx, wu_eq ha hb]
  unfold btw
  (repeat' split) <;> omega
theorem wu_self {a : Nat × Nat} (ha : Plc a) : wu a a = 0 := by rw [wu_eq ha ha]; simp
theorem arc_top {a b : Nat × Nat} (ha : Plc a) (hb : Plc b) : ∃ n : Nat, (if 0 ≤ (b.1 : Int) * a.2 - (a.1 : Int) * b.2 then (b.1 : Int) * a.2 - (a.1 : Int) * b.2 else (b.1 : Int) * a.2 - (a.1 : Int) * b.2 + (a.2 : Int) * b.2) = (n : Int) ∧ n * CN = wu a b * (a.2 * b.2) := by
  have e1 := sz_mul ha
  have e2 := sz_mul hb
  have p1 := ha.lt
  have p2 := hb.lt
  have hl : (a.1 * b.2 ≤ b.1 * a.2 ↔ sz a ≤ sz b) := by
    have := sz_less hb ha
    omega
  have u1 : b.1 * a.2 * CN = sz b * (a.2 * b.2) := by grind
  have u2 : a.1 * b.2 * CN = sz a * (a.2 * b.2) := by grind
  have hab : a.1 * b.2 ≤ a.2 * b.2 := Nat.mul_le_mul_right _ (Nat.le_of_lt p1)
  have c1 : (b.1 : Int) * a.2 = ((b.1 * a.2 : Nat) : Int) := rfl
  have c2 : (a.1 : Int) * b.2 = ((a.1 * b.2 : Nat) : Int) := rfl
  have c3 : (a.2 : Int) * b.2 = ((a.2 * b.2 : Nat) : Int) := rfl
  rw [c1, c2, c3, wu_eq ha hb]
  have s1 := sz_lt ha
  by_cases h : sz a ≤ sz b
  · have h' := hl.mpr h
    refine ⟨b.1 * a.2 - a.1 * b.2, by rw [if_pos (by omega)]; omega, ?_⟩
    rw [if_pos h, Nat.sub_mul, Nat.sub_mul, u1, u2]
  · have h' : ¬ a.1 * b.2 ≤ b.1 * a.2 := fun z => h (hl.mp z)
    refine ⟨b.1 * a.2 + a.2 * b.2 - a.1 * b.2, by rw [if_neg (by omega)]; omega, ?_⟩
    rw [if_neg h, Nat.sub_mul, Nat.add_mul, u1, u2, Nat.sub_mul, Nat.add_mul, Nat.mul_comm CN]
/-- sums of arcs -/
theorem red_add {n k : Nat} {x y : Nat × Nat} (hx : x = red n CN) (hy : y = red k CN) : red (x.1 * y.2 + y.1 * x.2) (x.2 * y.2) = red (n + k) CN := by
  have h1 := red_cross (p := n) (q := CN)
  have h2 := red_cross (p := k) (q := CN)
  have p1 := red_pos (p := n) CN_pos
  have p2 := red_pos (p := k) CN_pos
  rw [← hx] at h1 p1
  rw [← hy] at h2 p2
  refine red_eq (Nat.mul_pos p1 p2) CN_pos ?_
  grind
theorem red_one : red CN CN = (1, 1) := by
  unfold red; rw [Nat.gcd_self, Nat.div_self CN_pos]
theorem red_two : red (2 * CN) CN = (2, 1) := by
  unfold red
  rw [Nat.gcd_comm, Nat.gcd_mul_left_right, Nat.div_self CN_pos, Nat.mul_div_cancel _ CN_pos]
theorem red_ne {n k : Nat} (h : red n CN = red k CN) : n = k := by
  have h1 := red_cross (p := n) (q := CN)
  have h2 := red_cross (p := k) (q := CN)
  have p1 := red_pos (p := n) CN_pos
  rw [h] at h1
  rw [h] at p1
  have := h1.symm.trans h2
  exact Nat.eq_of_mul_eq_mul_right p1 this
theorem arc_bd {a b : Nat × Nat} (ha : Plc a) (hb : Plc b) : 0 < (arcN a b).2 ∧ (arcN a b).2 < 2 ^ 48 ∧ (arcN a b).1 < 2 ^ 48 := by
  have p1 := ha.small
  have p3 := hb.small
  have hd : a.2 * b.2 < 2 ^ 48 := by
    calc a.2 * b.2 < 2 ^ 24 * 2 ^ 24 := Nat.mul_lt_mul'' p1 p3
      _ = 2 ^ 48 := by rw [← Nat.pow_add]
  have hpos : 0 < a.2 * b.2 := Nat.mul_pos ha.pos hb.pos
  obtain ⟨n, _, hn⟩ := arc_top ha hb
  have e : arcN a b = red n (a.2 * b.2) := (red_eq hpos CN_pos hn).symm
  have h1 := red_le (p := n) (q := a.2 * b.2)
  have h2 := red_pos (p := n) hpos
  have h3 : (arcN a b).1 < (arcN a b).2 := red_lt wu_lt
  rw [← e] at h1 h2
  omega
theorem wu_back {a b : Nat × Nat} (ha : Plc a) (hb : Plc b) (h : a ≠ b) : wu a b + wu b a = CN := by
  have s1 := sz_lt ha
  have s3 := sz_lt hb
  have n3 : sz a ≠ sz b := fun z => h (sz_inj ha hb z)
  rw [wu_eq ha hb, wu_eq hb ha]
  (repeat' split) <;> omega
theorem arc_mir {a b : Nat × Nat} (ha : Plc a) (hb : Plc b) : arcN (mirN b) (mirN a) = arcN a b := by unfold arcN; rw [mir_wu ha hb]
theorem sum_bd {a x b : Nat × Nat} (ha : Plc a) (hx : Plc x) (hb : Plc b) :
    0 < (red ((arcN a x).1 * (arcN x b).2 + (arcN x b).1 * (arcN a x).2) ((arcN a x).2 * (arcN x b).2)).2 ∧ (red ((arcN a x).1 * (arcN x b).2 + (arcN x b).1 * (arcN a x).2) ((arcN a x).2 * (arcN x b).2)).2 < 2 ^ 96 ∧
    (red ((arcN a x).1 * (arcN x b).2 + (arcN x b).1 * (arcN a x).2) ((arcN a x).2 * (arcN x b).2)).1 < 2 ^ 97 := by
  have b1 := arc_bd ha hx
  have b2 := arc_bd hx hb
  have hq : (arcN a x).2 * (arcN x b).2 < 2 ^ 96 := by
    calc (arcN a x).2 * (arcN x b).2 < 2 ^ 48 * 2 ^ 48 := Nat.mul_lt_mul'' b1.2.1 b2.2.1
      _ = 2 ^ 96 := by rw [← Nat.pow_add]
  have h1 : (arcN a x).1 * (arcN x b).2 < 2 ^ 96 := by
    calc (arcN a x).1 * (arcN x b).2 < 2 ^ 48 * 2 ^ 48 := Nat.mul_lt_mul'' b1.2.2 b2.2.1
      _ = 2 ^ 96 := by rw [← Nat.pow_add]
  have h2 : (arcN x b).1 * (arcN a x).2 < 2 ^ 96 := by
    calc (arcN x b).1 * (arcN a x).2 < 2 ^ 48 * 2 ^ 48 := Nat.mul_lt_mul'' b2.2.2 b1.2.1
      _ = 2 ^ 96 := by rw [← Nat.pow_add]
  exact ⟨red_pos (Nat.mul_pos b1.1 b2.1), Nat.lt_of_le_of_lt red_le hq, Nat.lt_of_le_of_lt red_le1 (by omega)⟩
end Tw
namespace Tw
open PySem PySem.Spec PyProof.Rows L2
/-- a value (i, (p, q)) -/
def IsRow (h : Heap) (v : Value) (k : Int × Int × Int) : Prop :=
  ∃ a o t b n, v = .ref a ∧ h.get? a = some o ∧ o.cls = .type "tuple" ∧ o.data = .seq #[.int k.1 t, .ref b] n ∧ Srt.IsPair h (.ref b) k.2.1 k.2.2
theorem IsRow.keeps {h h' : Heap} {v : Value} {k : Int × Int × Int} (r : IsRow h v k) (e : ∀ b o, h.get? b = some o → o.cls = .type "tuple" → h'.get? b = some o) : IsRow h' v k := by
  obtain ⟨a, o, t, b, n, rfl, h1, h2, h3, h4⟩ := r
  exact ⟨a, o, t, b, n, rfl, e _ _ h1 h2, h2, h3, h4.keeps e⟩
theorem row_firsts {h : Heap} : ∀ {vs : List Value}, (∀ v ∈ vs, ∃ k, IsRow h v k) → ∃ fs, W.KatTups h vs fs ∧ fs.length = vs.length ∧ ∀ f ∈ fs, ∃ x t, f = Value.int x t
  | [], _ => ⟨[], .nil, rfl, fun _ z => nomatch z⟩
  | v :: vs, hv => by
    obtain ⟨fs, h1, h2, h3⟩ := row_firsts (vs := vs) fun u hu => hv u (List.mem_cons_of_mem _ hu)
    obtain ⟨k, a, o, t, b, n, rfl, g1, g2, g3, g4⟩ := hv v List.mem_cons_self
    refine ⟨.int k.1 t :: fs, ⟨⟨a, o, _, n, rfl, g1, g2, g3, rfl⟩, h1⟩, by simp [h2], fun f hf => ?_⟩
    rcases List.mem_cons.mp hf with rfl | hf
    · exact ⟨_, _, rfl⟩
    · exact h3 f hf
theorem isInt_me (x : Int) (t : Tok) : Value.isInt x (.int x t) = true := by simp [Value.isInt]
theorem pair_key {P : Program} {w : World} {h : Heap} {b : Addr} {x y : Int} (r : Srt.IsPair h (.ref b) x y) : IsTupleKey (intKind P w) h [x, y] b := by
  obtain ⟨a, o, t, u, n, e, h1, h2, h3⟩ := r
  cases e
  exact ⟨o, _, n, h1, h2, h3, .cons (v := .int x t) (isInt_me x t) (.cons (v := .int y u) (isInt_me y u) .nil)⟩
theorem row_cmp {prog : Program} {w : World} {A : Around} {s : Shared} {vs : List Value} {k : Value → Int × Int × Int} (hu : A.units < cLine) (h : ∀ v ∈ vs, IsRow s.heap v (k v)) (det : ∀ v ∈ vs, ∀ u ∈ vs, (k v).1 = (k u).1 → (k v).2 = (k u).2) :
    SrtO.Cmp prog w A s (PyProof.Rows.tuples' true) (fun p => p.fst ∈ vs) (SrtO.lt2 fun v u => decide ((k v).1 < (k u).1)) := by
  intro p q hp hq
  obtain ⟨a, o, t, b, n, e1, h1, h2, h3, h4⟩ := h _ hp
  obtain ⟨a', o', t', b', n', e1', h1', h2', h3', h4'⟩ := h _ hq
  have hd := det _ hp _ hq
  show wpAny _ _ (PyProof.Rows.keyLt' _ p.fst q.fst) _ _ _
  unfold SrtO.lt2
  dsimp only
  generalize k p.fst = kp at *
  generalize k q.fst = kq at *
  rw [e1, e1']
  refine PySem.W.kat_lt h1 h3 h1' h3' (PySem.W.kat_cons ?_)
  refine (intKind prog w).eqBool (a := kp.1) (b := kq.1) (isInt_me kp.1 t) (isInt_me kq.1 t') ?_
  unfold PySem.W.KatGo
  by_cases hk : kp.1 = kq.1
  · rw [if_pos (decide_eq_true hk)]
    refine PySem.W.kat_cons ?_
    have h5 := hd hk
    refine wpAny_eqBool_tuple (knd := intKind prog w) hu (pair_key h4) (pair_key h4') ?_
    unfold PySem.W.KatGo
    rw [h5, if_pos (decide_eq_true rfl)]
    exact ⟨rfl, by rw [hk]; simp⟩
  · rw [if_neg (by simpa using hk)]
    exact TS.oneLt_ints _ ⟨rfl, rfl⟩
theorem ltk_swo {α : Type} (k : α → Int) : SrtO.Swo fun v u => decide (k v < k u) := by
  refine ⟨fun x y h => ?_, fun x y z h1 h2 => ?_⟩
  · rw [decide_eq_true_eq] at h
    rw [decide_eq_false_iff_not]
    omega
  · rw [decide_eq_false_iff_not] at *
    omega
theorem rows_sortable {prog : Program} {w : World} {A : Around} {s : Shared} {a : Addr} {vs : List Value} {k : Value → Int × Int × Int} (hu : A.units < cLine) (h0 : 0 < vs.length) (h : ∀ v ∈ vs, IsRow s.heap v (k v)) (det : ∀ v ∈ vs, ∀ u ∈ vs, (k v).1 = (k u).1 → (k v).2 = (k u).2)
    (ha : ∀ o, s.heap.get? a = some o → o.cls ≠ .type "tuple") : SrtO.SortableO prog w A s a vs fun v u => decide ((k v).1 < (k u).1) := by
  intro h' keep
  have hr : ∀ v ∈ vs, IsRow h' v (k v) := fun v hv => (h v hv).keeps fun b o e1 e2 => keep b o (fun z => by subst z; exact ha o e1 e2) e1
  obtain ⟨fs, f1, f2, f3⟩ := row_firsts (h := h') (vs := vs) fun v hv => ⟨_, hr v hv⟩
  refine ⟨PyProof.Rows.tuples' true, fun Q E q => ?_, row_cmp hu hr det⟩
  refine PySem.W.kat_kind (T := .type "int") f1 (by omega) (fun v hv => ?_) (by decide +kernel) ?_
  · obtain ⟨x, t, rfl⟩ := f3 v hv
    exact PySem.W.Looks.now
  · rw [show (Value.type "int" != Value.type "tuple") = true by decide +kernel]
    exact q
theorem sorted_rows {prog : Program} {w : World} {A : Around} {E : Value → Shared → Prop} {s : Shared} {l : Addr} {vs : List Value} {k : Value → Int × Int × Int} {Q : Value → Shared → Prop} (hu : A.in1.in1.units < cLine) (hl : s.heap.IsList l vs.toArray) (hz : vs.length ≤ sizeLine)
    (h : ∀ v ∈ vs, IsRow s.heap v (k v)) (det : ∀ v ∈ vs, ∀ u ∈ vs, (k v).1 = (k u).1 → (k v).2 = (k u).2)
    (q : ∀ (h' : Heap) (d : Addr) (out : List Value), out.Perm vs → out.Pairwise (fun v u => (k v).1 ≤ (k u).1) → (∀ b o, s.heap.get? b = some o → h'.get? b = some o) → s.heap.objs.size ≤ d → (∃ n, h'.get? d = some (PyProof.Rows.seqObj "list" out.toArray n)) →
      Q (.ref d) { heap := h', gens := s.gens, drawn := s.drawn, toks := s.toks, os := s.os }) :
    wpAny (model prog w) A (call (.builtin "sorted") [.ref l]) Q E s := by
  refine SrtO.sorted_ord (ltk_swo fun v => (k v).1) hl hz (fun h2 h1 a g1 g2 => ?_) fun out o1 o2 => ?_
  · refine rows_sortable hu (by omega) (fun v hv => (h v hv).keeps fun b o e1 _ => (g2 b o e1).2) det fun o e => ?_
    rw [g1] at e
    cases e
    intro z
    exact absurd (Value.type.inj z) (by decide)
  · refine q _ _ out o2.perm ?_ (fun b o e => PyProof.Rows.sortedAll_old e) (Nat.le_succ _) (PyProof.Rows.sortedAll_at _ _ _)
    refine List.Pairwise.imp (fun {x y} z => ?_) o1
    rw [decide_eq_false_iff_not] at z
    omega
end Tw
namespace Tw
open PySem PySem.Spec PyProof.Rows L2
def rowP (e : Int × Int × Int) : PyData := .tuple [.int e.1, .tuple [.int e.2.1, .int e.2.2]]
theorem pairP {X : Cx} {pins : List (Addr × Obj)} {σ : L2.St} {H : Hp} {s : Shared} {v : V} {p q : Int} (I : L2.Inv X pins σ H s) (d : Dp X.K H v (.tuple [.int p, .int q])) : ∃ b, v = .ref b ∧ Srt.IsPair s.heap (.ref b) p q := by
  obtain ⟨b, xs, rfl, hs, ha⟩ := dp_tup d
  obtain ⟨its, hv, ⟨o, h1, h2, n, h3⟩, _⟩ := I.tuple hs
  cases ha with
  | cons a1 a2 =>
    cases a2 with
    | cons a2 a3 =>
      cases a3
      cases a1; cases a2
      cases hv with
      | cons v1 v2 =>
        cases v2 with
        | cons v2 v3 =>
          cases v3
          obtain ⟨t, rfl⟩ := v1
          obtain ⟨u, rfl⟩ := v2
          exact ⟨b, rfl, b, o, t, u, n, rfl, h1, h2, h3⟩
theorem rowI {X : Cx} {pins : List (Addr × Obj)} {σ : L2.St} {H : Hp} {s : Shared} {v : V} {u : Value} {e : Int × Int × Int} (I : L2.Inv X pins σ H s) (r : RelV v u) (d : Dp X.K H v (rowP e)) : IsRow s.heap u e ∧ ∃ a, v = .ref a := by
  obtain ⟨a, xs, rfl, hs, ha⟩ := dp_tup d
  obtain ⟨its, hv, ⟨o, h1, h2, n, h3⟩, _⟩ := I.tuple hs
  cases r
  cases ha with
  | cons a1 a2 =>
    cases a2 with
    | cons a2 a3 =>
      cases a3
      cases a1
      obtain ⟨b, rfl, hp⟩ := pairP I a2
      cases hv with
      | cons v1 v2 =>
        cases v2 with
        | cons v2 v3 =>
          cases v3
          obtain ⟨t, rfl⟩ := v1
          cases v2
          exact ⟨⟨a, o, t, b, n, rfl, h1, h2, h3, hp⟩, a, rfl⟩
theorem row_one {h : Heap} {v : Value} {e f : Int × Int × Int} (a : IsRow h v e) (b : IsRow h v f) : e = f := by
  obtain ⟨a1, o1, t1, b1, n1, rfl, g1, _, g2, x1, y1, _, _, _, q1, q2, _, q3⟩ := a
  obtain ⟨a2, o2, t2, b2, n2, h0, k1, _, k2, x2, y2, _, _, _, r1, r2, _, r3⟩ := b
  cases h0
  rw [g1] at k1
  cases k1
  rw [g2] at k2
  simp only [Data.seq.injEq, Array.mk.injEq, List.cons.injEq, Value.int.injEq, Value.ref.injEq, and_true] at k2
  obtain ⟨⟨⟨i1, _⟩, i2⟩, _⟩ := k2
  subst i2
  cases q1; cases r1
  rw [q2] at r2
  cases r2
  rw [q3] at r3
  simp only [Data.seq.injEq, Array.mk.injEq, List.cons.injEq, Value.int.injEq, and_true] at r3
  obtain ⟨⟨⟨j1, _⟩, ⟨j2, _⟩⟩, _⟩ := r3
  exact Prod.ext i1 (Prod.ext j1 j2)
open Classical in
noncomputable def rowK (h : Heap) (v : Value) : Int × Int × Int := if z : ∃ e, IsRow h v e then z.choose else (0, 0, 0)
theorem rowK_eq {h : Heap} {v : Value} {e : Int × Int × Int} (r : IsRow h v e) : rowK h v = e := by
  unfold rowK
  rw [dif_pos ⟨e, r⟩]
  exact row_one (Exists.choose_spec (⟨e, r⟩ : ∃ e, IsRow h v e)) r
theorem rowsI {X : Cx} {pins : List (Addr × Obj)} {σ : L2.St} {H : Hp} {s : Shared} (I : L2.Inv X pins σ H s) : ∀ {xs : List V} {its : List Value} {es : List (Int × Int × Int)}, Vals xs its → DpAll X.K H xs (es.map rowP) →
    es = its.map (rowK s.heap) ∧ ∀ u ∈ its, IsRow s.heap u (rowK s.heap u) ∧ RelV (backV u) u ∧ Dp X.K H (backV u) (rowP (rowK s.heap u))
  | [], _, es, hv, hd => by
    cases hv
    cases es with
    | nil => exact ⟨rfl, fun _ z => nomatch z⟩
    | cons e es => cases hd
  | x :: xs, _, es, hv, hd => by
    cases hv with
    | cons r hv =>
      cases es with
      | nil => cases hd
      | cons e es =>
        cases hd with
        | cons d hd =>
          obtain ⟨i1, i2⟩ := rowsI I hv hd
          obtain ⟨j1, a, rfl⟩ := rowI I r d
          have j2 := rowK_eq j1
          refine ⟨by rw [List.map_cons, j2, ← i1], fun u hu => ?_⟩
          rcases List.mem_cons.mp hu with rfl | hu
          · cases r
            rw [j2]
            exact ⟨j1, rfl, d⟩
          · exact i2 u hu
def rSortR (K : PySem.W.Frag) : List V → Hp → VK → Prop := fun vs H Q => ∃ (a : Addr) (es : List (Int × Int × Int)), vs = [.ref a] ∧ Dp K H (.ref a) (.list (es.map rowP)) ∧ (∀ e ∈ es, ∀ f ∈ es, e.1 = f.1 → e.2 = f.2) ∧
  ∀ (es' : List (Int × Int × Int)) (p : Addr) H', es'.Perm es → es'.Pairwise (fun e f => e.1 ≤ f.1) → H p = none → Same H H' → Dp K H' (.ref p) (.list (es'.map rowP)) → Q (.ref p) H'
theorem cr_sortR {X : Cx} {K : PySem.W.Frag} (hu : X.A.units + 64 < cLine) (hK : X.K = K := by rfl) : CallR X (.builtin "sorted") (rSortR K) := by
  subst hK
  intro pins s σ H xs us Q I hv h
  obtain ⟨a, es, rfl, hd, det, q⟩ := h
  obtain ⟨u, rfl, ru⟩ := vals1 hv
  cases ru
  obtain ⟨a', ys, e0, hs, ha⟩ := dp_lst hd
  cases e0
  obtain ⟨its, hy, hp, hz⟩ := I.list hs
  have hl := hy.length
  obtain ⟨r1, r2⟩ := rowsI I hy ha
  refine sorted_rows (k := rowK s.heap) (by show X.A.units + 1 + 1 < cLine; omega) (PlainL.isList hp) (by omega) (fun v hv => (r2 v hv).1) (fun v hv u hu e => ?_) fun h' d out o1 o2 o3 o4 o5 => ?_
  · exact det _ (by rw [r1]; exact List.mem_map_of_mem hv) _ (by rw [r1]; exact List.mem_map_of_mem hu) e
  · have hn : H d = none := I.hok.fresh o4
    have hvs : ∀ l : List Value, (∀ u ∈ l, u ∈ its) → Vals (l.map backV) l ∧ DpAll X.K H (l.map backV) ((l.map (rowK s.heap)).map rowP) := by
      intro l
      induction l with
      | nil => exact fun _ => ⟨.nil, .nil⟩
      | cons u l ih =>
        intro hl
        obtain ⟨i1, i2⟩ := ih fun v hv => hl v (List.mem_cons_of_mem _ hv)
        obtain ⟨_, j1, j2⟩ := r2 u (hl u List.mem_cons_self)
        exact ⟨.cons j1 i1, .cons j2 i2⟩
    obtain ⟨v1, v2⟩ := hvs out fun u hu => (o1.mem_iff).mp hu
    have lo : out.length = its.length := o1.length_eq
    obtain ⟨n, o5⟩ := o5
    have same : Same H (upd H d (.lst (out.map backV))) := same_new hn
    refine ⟨.ref d, upd H d (.lst (out.map backV)), I.laid o3 o4 ⟨by rw [List.length_map]; omega, out, n, v1, o5⟩, rfl, q (out.map (rowK s.heap)) d _ (by rw [r1]; exact o1.map _) (List.pairwise_map.mpr o2) hn same ?_⟩
    exact .lst (SqL.of upd_same) (dpa_same same v2)
end Tw
namespace Tw
open PySem PySem.Spec PyProof.Rows L2
/-- a place with its numerator over W -/
def key3 (W : Nat) (x : Nat × Nat) : Int × Int × Int := (((x.1 * (W / x.2) : Nat) : Int), (x.1 : Int), (x.2 : Int))
theorem key_pd (W : Nat) (x : Nat × Nat) : rowP (key3 W x) = .tuple [.int ((x.1 * (W / x.2) : Nat) : Int), pd x] := rfl
theorem key_inj {W : Nat} {x y : Nat × Nat} (hW : 0 < W) (hx : Plc x) (hy : Plc y) (dx : x.2 ∣ W) (dy : y.2 ∣ W) (e : x.1 * (W / x.2) = y.1 * (W / y.2)) : x = y := by
  have h1 : x.1 * (W / x.2) * x.2 = x.1 * W := by rw [Nat.mul_assoc, Nat.div_mul_cancel dx]
  have h2 : y.1 * (W / y.2) * y.2 = y.1 * W := by rw [Nat.mul_assoc, Nat.div_mul_cancel dy]
  have r1 := red_of hx.cop hx.pos hW h1.symm
  have r2 := red_of hy.cop hy.pos hW h2.symm
  rw [← r1, ← r2, e]
theorem key_sz {W : Nat} {x : Nat × Nat} (hW : 0 < W) (hC : W ∣ CN) (dx : x.2 ∣ W) : sz x = x.1 * (W / x.2) * (CN / W) := by
  unfold sz
  obtain ⟨m, hm⟩ := hC
  obtain ⟨n, hn⟩ := dx
  have hx : 0 < x.2 := by
    rcases Nat.eq_zero_or_pos x.2 with z | z
    · rw [z] at hn; omega
    · exact z
  rw [hm, Nat.mul_div_cancel_left _ hW, hn, Nat.mul_assoc, Nat.mul_div_cancel_left _ hx, Nat.mul_div_cancel_left _ hx, Nat.mul_assoc]
theorem sorted_back {W : Nat} {xs : List (Nat × Nat)} {es : List (Int × Int × Int)} (h : es.Perm (xs.map (key3 W))) : ∃ ys : List (Nat × Nat), ys.Perm xs ∧ es = ys.map (key3 W) := by
  let g : Int × Int × Int → Nat × Nat := fun e => (e.2.1.toNat, e.2.2.toNat)
  have hg : ∀ x, g (key3 W x) = x := fun x => by simp [g, key3]
  refine ⟨es.map g, ?_, ?_⟩
  · have := h.map g
    rw [List.map_map] at this
    rwa [show g ∘ key3 W = id from funext hg, List.map_id] at this
  · rw [List.map_map]
    symm
    refine (List.map_congr_left fun e he => ?_).trans (List.map_id _)
    obtain ⟨x, _, rfl⟩ := List.mem_map.mp (h.mem_iff.mp he)
    show key3 W (g (key3 W x)) = key3 W x
    rw [hg]
theorem lcm_step {W b : Nat} (hW : 0 < W) (hb : 0 < b) (h1 : W ∣ CN) (h2 : b ∣ CN) : 0 < W / Nat.gcd W b * b ∧ W / Nat.gcd W b * b ∣ CN ∧ W ∣ W / Nat.gcd W b * b ∧ b ∣ W / Nat.gcd W b * b := by
  have e : W / Nat.gcd W b * b = Nat.lcm W b := by
    unfold Nat.lcm
    obtain ⟨m, hm⟩ := Nat.gcd_dvd_left W b
    have hg : 0 < Nat.gcd W b := Nat.gcd_pos_of_pos_left _ hW
    generalize Nat.gcd W b = g at *
    rw [hm, Nat.mul_div_cancel_left _ hg, Nat.mul_assoc, Nat.mul_div_cancel_left _ hg]
  rw [e]
  exact ⟨Nat.lcm_pos hW hb, Nat.lcm_dvd h1 h2, Nat.dvd_lcm_left _ _, Nat.dvd_lcm_right _ _⟩
end Tw
namespace Tw
open PySem PySem.Spec PyProof.Rows L2
theorem pe_ownInit {X : Cx} {e : Expr} {es : List Expr} {ta : TA} {p1 p2 pos : Pos} {pl : Sem Bool} {x : Str} {D : Addr} (hg : Gl X x) (hm : X.mg x = some (.ref D))
    (sp : PySem.W.specialIn X.K (.ref D) "__getattribute__" = some (some (.builtin "type.__getattribute__"))) (tp : PySem.W.typeIn X.K (.ref D) = some (.type "type")) (rd : PySem.W.readsIn X.K D (.type "type") = true)
    (fc : PySem.W.findCls X.K (.ref D) (.type "type") "__init__" = some (.val (.builtin "ValueError.__init__"))) (ha : PA X (e :: es) ta) (hd : (x == ("__debug__" : Str)) = false := by rfl)
    (he : eval (.Call (.Attribute (.Name x p1) "__init__" p2) (e :: es) [] pos) X.env = (do
      let ov ← eval (.Name x p1) X.env
      standAt p2.atName
      let (f, first) ← holding [ov] (getMethod ov "__init__" pl)
      callWith pos f first (backTo pos (starEach (e :: es) X.env)) (backToKw pos (keywordEach [] X.env))) := by rfl)
    (h1 : starEach (e :: es) X.env = (false, eval e X.env) :: starEach es X.env := by rfl) (h2 : (backTo pos (starEach es X.env)).any (·.1) = false := by rfl) :
    PE X (.Call (.Attribute (.Name x p1) "__init__" p2) (e :: es) [] pos) (tVeI X.K ta) where
  run := fun pins s σ H Q I h => by
    obtain ⟨m, fr⟩ := I.fr
    have kin := I.ok.mod.kin
    refine PySem.W.methodCall_KW (ld_glob I hg hm ?_ hd) he
    refine PySem.W.method_of_cls fr kin sp (PySem.W.cls_val fr kin tp rd fc (by rfl) ?_)
    refine callWith_method1 (thn (ha.run pos pins _ σ H _ (I.tok _) h) fun us s' z => ?_) h1 h2
    obtain ⟨vs, H', I', rv, a, C, ws, rfl, hl, ox, hx, q⟩ := z
    cases rv with
    | cons r1 r2 =>
      cases r1
      refine oinit_ok ox I' hx ?_ fun s2 I2 => ⟨.non, H', I2, rfl, q⟩
      have := r2.length
      rw [sizeLine_eq]
      omega
/-- a call of a def that may raise, where it doesn't -/
theorem passF {P : Program} {w : World} {X : Cx} : Passes (CX P w) X (fun _ _ _ => False) := by
  intro pins σ H s e s' I h
  obtain ⟨_, _, _, _, _, _, _, _, _, _, _, _, h⟩ := h
  exact h.elim
/-- what the top says of an own class of errors at C -/
structure ExK (K : PySem.W.Frag) (C : Addr) : Prop where
  o : OexC K C
  f : XfC K C
/-- .. of one whose __init__ is called by name -/
structure ExB (K : PySem.W.Frag) (D : Addr) : Prop where
  sp : PySem.W.specialIn K (.ref D) "__getattribute__" = some (some (.builtin "type.__getattribute__"))
  tp : PySem.W.typeIn K (.ref D) = some (.type "type")
  rd : PySem.W.readsIn K D (.type "type") = true
  fc : PySem.W.findCls K (.ref D) (.type "type") "__init__" = some (.val (.builtin "ValueError.__init__"))
section
variable {K : PySem.W.Frag} {σ : L2.St} {H : Hp} {Q : VK} {D : Ends}
theorem w_vei {ta : TA} (h : ta σ H fun vs H1 => ∃ a C ws, vs = V.ref a :: ws ∧ ws.length ≤ 1000 ∧ OexC K C ∧ H1 a = some (exo a C none) ∧ Q V.non H1) : tVeI K ta σ H Q := h
theorem w_ost {f : Str} {to te : TE} (h : te σ H fun y H1 => to σ H1 fun x H2 => ∃ a C, x = V.ref a ∧ OexC K C ∧ PySem.W.findIn K (Value.ref C) f = some none ∧
      ((H2 a = some (exo a C none) ∧ ∀ dx : Addr, H2 dx = none → dx ≠ a → D.nx σ (upd (upd H2 dx (exd dx [(f, y)])) a (exo a C (some dx)))) ∨
        ∃ dx fs, H2 a = some (exo a C (some dx)) ∧ H2 dx = some (exd dx fs) ∧ fs.length ≤ 900 ∧ D.nx σ (upd H2 dx (exd dx ((f, y) :: fs))))) : tOst K f to te D σ H := h
theorem w_js {t : TE} {ts : List TE} {acc : Str} {Q : Str → Hp → Prop} (h : t σ H fun x H1 => ∃ y : Str, x = .str y ∧ (acc ++ y).length ≤ sizeLine ∧ tJs ts (acc ++ y) σ H1 Q) : tJs (t :: ts) acc σ H Q := h
theorem w_jsN {acc : Str} {Q : Str → Hp → Prop} (h : Q acc H) : tJs [] acc σ H Q := h
theorem w_fmt {te : TE} (h : te σ H fun x H1 => (∃ y, x = V.str y ∧ y.length ≤ sizeLine ∧ Q (V.str y) H1) ∨ ∃ i, x = V.int i ∧ i.natAbs.log2 < 1920 ∧ Q (V.str (Str.ofString (toString i))) H1) : tFmt te σ H Q := h
end
theorem exm_ofS {K : PySem.W.Frag} {C S : Addr} {b : Bool} (h1 : PySem.W.subIn K (.ref S) (.type "BaseException") = some true) (h2 : PySem.W.isClsIn K S = true) (h3 : PySem.W.typeIn K (.ref S) = some (.type "type")) (h4 : PySem.W.subIn K (.ref C) (.ref S) = some b) :
    PySem.W.exmOne K (.ref C) (.ref S) = some b := by
  have e1 : (PySem.W.subIn K (.ref S) (.type "BaseException") == some true) = true := by rw [h1] <;> rfl
  have e2 : ((PySem.W.clsIn K S).isSome && PySem.W.typeIn K (.ref S) == some (.type "type")) = true := by
    have h2' : (PySem.W.clsIn K S).isSome = true := h2
    rw [h2', h3] <;> rfl
  show (if (PySem.W.subIn K (.ref S) (.type "BaseException") == some true) = true then (if ((PySem.W.clsIn K S).isSome && PySem.W.typeIn K (.ref S) == some (.type "type")) = true then PySem.W.subIn K (.ref C) (.ref S) else none) else none) = some b
  rw [if_pos e1, if_pos e2]
  exact h4
theorem str_app (a b : Str) : (a ++ b).length = a.length + b.length := by
  show (a.cps ++ b.cps).size = _
  exact Array.size_append
theorem log2_ok {n : Int} (h0 : 0 ≤ n) (h1 : n < 1000000) : n.natAbs.log2 < 1920 := by
  by_cases z : n.natAbs = 0
  · rw [z]; decide
  · rw [Nat.log2_lt z]
    exact Nat.lt_of_lt_of_le (show n.natAbs < 2 ^ 20 by omega) (Nat.pow_le_pow_right (by decide) (by decide))
theorem strI_len {n : Int} (h0 : 0 ≤ n) (h1 : n < 1000000) : (Str.ofString (toString n)).length ≤ 6 := toString_length_le h0 (by decide) (by omega)
section
variable {K : PySem.W.Frag} {σ : L2.St} {H : Hp} {D : Ends} {C : Addr}
theorem w_mko {sp : Sp} {dvs : List V} {ta : TA} {Q : XK} (h : ta σ H fun vs H1 => vs.length ≤ 1000 ∧ ∀ a : Addr, H1 a = none → sp (V.ref a :: (vs ++ dvs)) (upd H1 a (exo a C none))
      (fun v H2 => v = V.non ∧ ∃ d fs, H2 a = some (exo a C (some d)) ∧ H2 d = some (exd d fs) ∧ H1 d = none ∧ Q (Value.ref C) (some d) (upd (del H2 a) d (HO.xd fs))) fun _ _ _ => False) : tMkO C sp dvs ta σ H Q := h
/-- the error's dict beside what stood -/
theorem raise_same {H : Hp} {a dx : Addr} {o1 o2 o3 o4 : HO} (ha : H a = none) (hd : H dx = none) : Same H (upd (del (upd (upd (upd H a o1) dx o2) a o3) a) dx o4) := fun b o e => by
  have h1 : b ≠ a := fun z => by rw [z, ha] at e; cases e
  have h2 : b ≠ dx := fun z => by rw [z, hd] at e; cases e
  rw [upd_ne h2, del_ne h1, upd_ne h1, upd_ne h2, upd_ne h1]
  exact e
end
section
variable {K : PySem.W.Frag} {σ : L2.St} {H : Hp} {Q : VK}
theorem w_callS {sp : Sp} {E : L2.St → XK} {ta : TA} (h : ta σ H fun vs H1 => sp vs H1 Q (E σ)) : tCallS sp E ta σ H Q := h
theorem w_xf {a C : Addr} {cls : Value} {d : Option Addr} {f : Str} {te : TE} (h : te σ H fun x H1 => x = V.ref a ∧ cls = Value.ref C ∧ ∃ dd fs v, d = some dd ∧ H1 dd = some (HO.xd fs) ∧ List.lookup f fs = some v ∧ Q v H1) : tXf a cls d C f te σ H Q := h
end
end Tw
namespace Tw
open PySem PySem.Spec PyProof.Rows L2
/-- an error that was kept: its class, its dict -/
def keO (a : Addr) (cls : Value) (d : Option Addr) : HO := .ext fun h => ∃ oe vs, h.get? a = some oe ∧ Zc cls d oe ∧ oe.data = .fields vs
section
variable {X : Cx} {pins : List (Addr × Obj)} {σ : L2.St} {H : Hp} {s : Shared} {a : Addr} {oe : Obj} {cls : Value} {d : Option Addr}
/-- a pinned error becomes a tracked one -/
theorem keep_err (I : Inv X ((a, oe) :: pins) σ H s) (z : Zc cls d oe) (hd : ∃ vs, oe.data = .fields vs) (n0 : X.s_0.heap.get? a = none) (np : ∀ p ∈ X.pn ++ pins, p.1 ≠ a) :
    Inv X pins σ (upd H a (keO a cls d)) s := by
  obtain ⟨vs, hv⟩ := hd
  obtain ⟨p1, p2, p3, p4, p5⟩ := I.pin (a, oe) (by simp)
  have sub : ∀ p ∈ X.pn ++ pins, p ∈ X.pn ++ (a, oe) :: pins := fun p hp => by
    rcases List.mem_append.mp hp with q | q
    · exact List.mem_append_left _ q
    · exact List.mem_append_right _ (List.mem_cons_of_mem _ q)
  have ne : ∀ {b u}, H b = some u → b ≠ a := fun e => ne_of_none e p2
  constructor
  case ok => exact I.ok
  case os => exact I.os
  case bare => exact I.bare
  case base =>
    have B := I.base
    constructor
    case keep => exact B.keep
    case slot => exact B.slot
    case there => exact B.there
    case free =>
      intro b o e n hx
      rw [upd_ne (fun q => by rw [q, n0] at e; cases e)]
      exact B.free b o e n hx
    case tups => intro b xs e; have q := B.tups b xs e; rw [upd_ne (ne q)]; exact q
    case frzs => intro b o u e; have q := B.frzs b o u e; rw [upd_ne (ne q)]; exact q
    case tbls => intro b ps e; obtain ⟨m, q⟩ := B.tbls b ps e; exact ⟨m, by rw [upd_ne (ne q)]; exact q⟩
  case loc => exact I.loc
  case cell => exact I.cell
  case free => rw [upd_ne (Ne.symm p3)]; exact I.free
  case freeC =>
    intro x c e
    have hc : c ≠ a := fun q => by
      obtain ⟨v, o, ho, hcell⟩ := I.cell x c e
      rw [q, p1] at ho
      cases ho
      exact p5 v hcell
    rw [upd_ne hc]
    exact I.freeC x c e
  case pin =>
    intro p hp
    obtain ⟨q1, q2, q3⟩ := I.pin p (sub p hp)
    exact ⟨q1, by rw [upd_ne (np p hp)]; exact q2, q3⟩
  case hok =>
    intro b u e
    by_cases hb : b = a
    · subst hb
      rw [upd_same] at e
      cases e
      exact ⟨⟨oe, vs, p1, z, hv⟩, ⟨oe, p1⟩, fun h1 h2 ⟨o, v, a1, a2, a3⟩ st => ⟨o, v, st _ a1, a2, a3⟩⟩
    · rw [upd_ne hb] at e
      exact (I.hok b u e).stay (fun _ _ _ q => q) (fun c q => by rw [upd_ne (ne q)]; exact q) fun c xs q => by rw [upd_ne (ne q)]; exact q
  case len => exact I.len
/-- out of the suite, the error still pinned -/
theorem unsuite_pin (I : Inv (X.suite a ((a, oe) :: (X.pn ++ pins))) [] σ H s) (ok : X.Ok) : Inv X ((a, oe) :: pins) σ H s :=
  { ok := ok, os := I.os, bare := I.bare, base := I.base, loc := I.loc, cell := I.cell, free := I.free, freeC := I.freeC, hok := I.hok, len := I.len,
    pin := fun p hp => I.pin p (by
      refine List.mem_append_left _ ?_
      rcases List.mem_append.mp hp with q | q
      · exact List.mem_cons_of_mem _ (List.mem_append_left _ q)
      · rcases List.mem_cons.mp q with q | q
        · rw [q]; exact List.mem_cons_self
        · exact List.mem_cons_of_mem _ (List.mem_append_right _ q)) }
end
/-- what a clause that keeps its error wishes of an exception of the body -/
def wKe (K : PySem.W.Frag) (c : Value) (i : Nat) (ts : Addr → Value → Option Addr → TS) (Wout : WX) (D : Ends) : WX := fun cls d σ H =>
  ∃ b, PySem.W.exmOne K cls c = some b ∧ (b = true → ∀ a, H a = none → ts a cls d { nx := fun σ' H' => D.nx (σ'.set i none) (upd H' a (keO a cls d)), rt := D.rt, bk := fun σ' H' => D.bk (σ'.set i none) H', ct := fun σ' H' => D.ct (σ'.set i none) H' } (σ.set i (some (.ref a))) H) ∧
    (b = false → Wout cls d σ H)
section
variable {X : Cx} {x n : Str} {c : Value} {i : Nat} {body suite : List Stmt} {b₀ : Stmt} {np pos pos' : Pos} {tb : WX → TS} {ts : Addr → Value → Option Addr → TS} {Wout : WX}
/-- try: body / except x as n: suite, where n's object is tracked from then on -/
theorem ps_try_keep (hs : X.stack = X.env :: X.outer) (hf : X.env.frame = some X.env.locals) (hex : X.ex = []) (hN : X.N.Nodup) (hi : X.N[i]? = some n) (hln : X.env.kindOf n = some .local) (hc : Names X x c) (tk : Takes X Wout)
    (hb : ∀ (W : WX) (pn : List (Addr × Obj)) (xe : Value → Shared → Prop), Takes (X.tr pn xe) W → PassesOwn (model X.prog X.w) X.A X.env xe → PSs (X.tr pn xe) body (tb W))
    (hsu : ∀ (a : Addr) (oe : Obj) (cls : Value) (d : Option Addr) (pn : List (Addr × Obj)), Zc cls d oe → (∃ vs, oe.data = .fields vs) → PSs (X.suite a ((a, oe) :: pn)) (b₀ :: suite) (ts a cls d)) :
    PS X (.Try body [.ExceptHandler (some (.Name x np)) (some n) (b₀ :: suite) pos'] [] [] pos) (fun D σ H => tb (wKe X.K c i ts Wout D) D σ H) := by
  constructor
  intro pins s σ H D I h
  have ok := I.ok
  have frm : X.A.frames = some (X.env :: X.outer) := ok.frames.trans (by rw [hs])
  refine wpAny_Try_except ?_
  have run := (hb (wKe X.K c i ts Wout D) (X.pn ++ pins)
    (fun e s₁ => wpAny (model X.prog X.w) X.A (noteFrame e X.env) (fun _ s₂ => wpAny (model X.prog X.w) X.A (setFlight e none) (fun _ s₃ => wpAny (model X.prog X.w) X.A (handleBy e X.env [.ExceptHandler (some (.Name x np)) (some n) (b₀ :: suite) pos']) (SP X pins D) X.xe s₃) X.xe s₂) X.xe s₁)
    (fun u s' w => ?_) PassesOwn.looking).run [] s σ H D (I.toTry _) h
  · refine wpAny_mono run (fun f s1 q => ?_) fun e s1 q => q
    cases f with
    | next => obtain ⟨σ', H', J, q⟩ := q; exact wpAny_execs_nil ⟨σ', H', J.ofTry ok, q⟩
    | ret u => obtain ⟨v, σ', H', J, r, q⟩ := q; exact ⟨v, σ', H', J.ofTry ok, r, q⟩
    | brk => obtain ⟨σ', H', J, q⟩ := q; exact ⟨σ', H', J.ofTry ok, q⟩
    | cont => obtain ⟨σ', H', J, q⟩ := q; exact ⟨σ', H', J.ofTry ok, q⟩
  · -- an exception of the body
    obtain ⟨a, B, sI, pins', σ', H', cls, d, rfl, J', nb, up, sky, na, os, ag, b, hb1, yes, no⟩ := w
    have J : Inv X pins σ' H' sI := J'.ofTry ok
    show wpAny (model X.prog X.w) X.A (noteFrame (.ref a) X.env) _ _ _
    have sky2 : Sky B (X.env :: X.outer) a (Zc cls d) X.env.locals s'.heap := hs ▸ sky
    refine Sky.land Zc.steady frm hf sky2 fun h3 fl up3 => ?_
    have J3 : Inv X pins σ' H' { s' with heap := h3 } := J.landed nb fl.1 (up.trans up3) os ag
    obtain ⟨o3, v3, ge3, ze3, fe3⟩ := fl.there
    have nfr : a ∉ frs (X.env :: X.outer) := fun hm => by
      obtain ⟨_, o', e', hnf⟩ := fl.2.2.1.mem hm
      rw [ge3] at e'
      cases e'
      exact hnf _ fe3
    have nL : a ≠ X.env.locals := fun q => nfr (List.mem_filterMap.mpr ⟨X.env, List.mem_cons_self, by rw [hf, q]⟩)
    have nF : a ∉ X.fs := fun hm => by
      obtain ⟨e, he, q⟩ := List.mem_filterMap.mp hm
      exact nfr (List.mem_filterMap.mpr ⟨e, List.mem_cons_of_mem _ he, q⟩)
    -- it is new
    have nI : sI.heap.get? a = none := by
      cases q : sI.heap.get? a with
      | none => rfl
      | some o =>
        have r := nb a o q (by rw [hs]; exact nfr)
        rw [fl.2.1] at r
        cases r
    have newA : X.s_0.heap.get? a = none := by
      cases q : X.s_0.heap.get? a with
      | none => rfl
      | some o =>
        obtain ⟨o', r⟩ := J.base.there a o q (by rw [hex]; simp)
        rw [nI] at r
        cases r
    have nP : ∀ p ∈ X.pn ++ pins, p.1 ≠ a := fun p hp q => by
      have r := (J.pin p hp).1
      rw [q, nI] at r
      cases r
    have S3 := J3.suite ge3 fe3 na nL nF
    refine wpAny_handleBy_cons (codeAny_handlers_test ?_) (by intro q; cases q)
    have LT : PySem.W.Looks (model X.prog X.w) h3 (typeOf (.ref a)) cls := fun A Q E s k q => wpAny_typeOf_ref (k _ _ ge3) (by rw [ze3.1]; exact q)
    have LM := PySem.W.exm_one (M := model X.prog X.w) (J3.kIn) LT hb1
    have named : ∀ {Q : Value → Shared → Prop} {E : Value → Shared → Prop}, Q c { s' with heap := h3 } → wpAny (model X.prog X.w) (X.A.mark (some (.ref a))) (eval (.Name x np) X.env) Q E { s' with heap := h3 } := by
      intro Q E q
      obtain ⟨hg, hdbg, hm⟩ := hc
      rcases hm with hm | ⟨hm, hv, hnn⟩
      · exact ld_glob (X := X.suite a ((a, o3) :: (X.pn ++ pins))) S3 hg hm q hdbg
      · exact ld_blt (X := X.suite a ((a, o3) :: (X.pn ++ pins))) S3 hg hm hv q hnn hdbg
    refine named (LM.here ?_)
    cases b with
    | false =>
      show wpAny _ X.A (handleBy (.ref a) X.env []) _ _ _
      refine wpAny_handleBy_nil ?_
      obtain ⟨k1, k2, k3, o5, vs, T, oT, ts', he, hz, hd, h1, hr⟩ := id fl
      unfold PySem.passOn
      refine wpAny_bind (wpAny_field he hd h1 ?_)
      rw [if_neg (show ¬ ((Value.ref T == Value.none) = true) from by simp)]
      have fin : wpAny (model X.prog X.w) X.A (setFlight (.ref a) X.env.frame) (fun _ s4 => wpAny (model X.prog X.w) X.A (throw (.ref a) : Sem Flow) (SP X pins D) X.xe s4) X.xe { s' with heap := h3 } := by
        rw [hf]
        exact HandSPX.setFlight_upZ fl fun h4 hh4 up4 => wpAny_throw (tk _ _ ⟨a, B, sI, pins, σ', H', cls, d, rfl, J, nb, (up.trans up3).trans up4, .inr (.inr (by rw [hs]; exact hh4)), na, os, ag, no rfl⟩)
      first
        | exact wpAny_bind (wpAny_pure (wpAny_bind fin))
        | exact wpAny_bind fin
    | true =>
      refine codeAny_handlers_suite_as (HandSPX.lands_againZ fl fun h4 fl4 up4 => ?_)
      have J4 : Inv X pins σ' H' { s' with heap := h4 } := J.landed nb fl4.1 ((up.trans up3).trans up4) os ag
      obtain ⟨o4, v4, ge4, ze4, fe4⟩ := fl4.there
      refine store_ok (X := X.suite a ((a, o4) :: (X.pn ++ pins))) (v := .ref a) (J4.suite ge4 fe4 na nL nF) hN hi (.inl hln) rfl (fun s5 S5 => ?_) (.inr hln)
      refine wpAny_mono ((hsu a o4 cls d (X.pn ++ pins) ze4 ⟨_, fe4⟩).run [] s5 _ H' _ S5 (yes rfl a na)) (fun f s6 q => ?_) (fun _ _ z => z.elim)
      have done : ∀ {σ6 : L2.St} {H6 : Hp} {Q : Shared → Prop}, Inv (X.suite a ((a, o4) :: (X.pn ++ pins))) [] σ6 H6 s6 → (∀ s7, Inv X ((a, o4) :: pins) (σ6.set i none) H6 s7 → Q s7) →
          wpAny (model X.prog X.w) X.A (do bindName X.env n .none; unbindBehindTheSuite X.env n pos') (fun _ s7 => Q s7) X.xe s6 := fun S6 k => gone_ok (unsuite_pin S6 ok) hN hi hln k
      have less : ∀ {σ6 : L2.St} {H6 : Hp} {s7 : Shared}, Inv X ((a, o4) :: pins) σ6 H6 s7 → Inv X pins σ6 H6 s7 := fun J7 =>
        { ok := J7.ok, os := J7.os, bare := J7.bare, base := J7.base, loc := J7.loc, cell := J7.cell, free := J7.free, freeC := J7.freeC, hok := J7.hok, len := J7.len,
          pin := fun p hp => J7.pin p (by
            rcases List.mem_append.mp hp with q | q
            · exact List.mem_append_left _ q
            · exact List.mem_append_right _ (List.mem_cons_of_mem _ q)) }
      cases f with
      | next => obtain ⟨σ6, H6, S6, q6⟩ := q; exact done S6 fun s7 J7 => ⟨_, _, keep_err J7 ze4 ⟨_, fe4⟩ newA nP, q6⟩
      | ret u => obtain ⟨v6, σ6, H6, S6, r6, q6⟩ := q; exact done S6 fun s7 J7 => ⟨_, _, _, less J7, r6, q6⟩
      | brk => obtain ⟨σ6, H6, S6, q6⟩ := q; exact done S6 fun s7 J7 => ⟨_, _, less J7, q6⟩
      | cont => obtain ⟨σ6, H6, S6, q6⟩ := q; exact done S6 fun s7 J7 => ⟨_, _, less J7, q6⟩
end
section
variable {prog : Program} {w : World} {A : Around} {E : Value → Shared → Prop} {s : Shared} {K : PySem.W.Frag} {x D : Addr} {ox : Obj} {od : Option Obj}
/-- e.__class__ of an error of an own class, with a dict of its own or without -/
theorem err_class {Q : Option Value → Shared → Prop} (C : ExcC K D) (X : K.In s.heap) (I : PySem.W.InstAt s.heap x ox D od) (h : Q (some (.ref D)) { s with toks := s.toks + 1 }) :
    wpAny (model prog w) A (getAttr? (.ref x) "__class__") Q E s := by
  have hcl : (PySem.W.clsIn K D).isSome = true := by obtain ⟨cd, hc, _⟩ := PySem.W.any_some C.hd; rw [hc]; rfl
  have found : PySem.W.findObj K D od "__class__" = some (.bind (.builtin "getset_descriptor.__get__") (.builtin "object.__class__")) := by
    obtain ⟨cd, hc⟩ := Option.isSome_iff_exists.mp hcl
    unfold PySem.W.findObj
    rw [hc, Option.bind_some, C.ha, Option.bind_some]
    simp [C.hn, C.ht]
  obtain ⟨hp, g, d, t, os⟩ := s
  have ofType := I.type (M := model prog w)
  have ofGet := PySem.W.looks_findIn (M := model prog w) X C.hg
  have ofHook := PySem.W.looks_findIn (M := model prog w) X C.hk
  have ofClass := PySem.W.looks_find (M := model prog w) X I found
  have isExc : PySem.W.Looks (model prog w) hp (isInstance (.ref x) (.type "BaseException")) true := ofType.andThen (PySem.W.looks_subIn X C.hs)
  have n1 : (Value.builtin "BaseException.__getattribute__" == Value.builtin "object.__getattribute__") = false := by decide +kernel
  have n2 : (onTheHeap (Value.ref D) && Value.builtin "BaseException.__getattribute__" == Value.builtin "object.__getattribute__") = false := by rw [n1]; rfl
  have n3 : (false && onTheHeap (Value.builtin "BaseException.__getattribute__")) = false := rfl
  unfold getAttr? getAttrBy? getAttrBy
  refine wpAny_bind (wpAny_mkText (wpAny_bind (wpAny_attempt (wpAny_holding (wpAny_bind (ofType.at (wpAny_bind (ofGet.at ?_))))))))
  show wpAny _ _ (if (onTheHeap (Value.ref D) && Value.builtin "BaseException.__getattribute__" == Value.builtin "object.__getattribute__") = true then _ else _) _ _ _
  rw [n2, if_neg Bool.false_ne_true]
  unfold getAttrByItsOwn hookBefore
  refine wpAny_bind ?_
  rw [if_pos (show onTheHeap (Value.ref D) = true from rfl)]
  refine ofHook.at (wpAny_bind (wpAny_attempt (wpAny_holding ?_)))
  unfold callGetattribute
  rw [n3, if_neg Bool.false_ne_true]
  unfold boundAndCalled
  rw [PySem.F.excAttr_ValueError.ga.bind (.ref x)]
  refine wpAny_bind (wpAny_pure ?_)
  show wpAny _ _ (call (.builtin "BaseException.__getattribute__") [.ref x, .str "__class__" t]) _ _ _
  refine wpAny_call (codeAny_call_builtin PySem.F.excAttr_ValueError.ga.plain PySem.F.entry_bexc_ga ?_)
  refine @PySem.W.check_slot (model prog w) _ _ ⟨hp, g, d, t + 1, os⟩ "BaseException.__getattribute__" "BaseException" "__getattribute__" (.ref x) [.str "__class__" t] [] _ (by decide +kernel) (by decide +kernel) isExc (PySem.F.args_bexc_ga (.ref x) (.str "__class__" t)) ?_
  unfold Builtin.«object.__getattribute__»
  refine wpAny_bind (wpAny_of_eq (a := ((Value.ref x : Value), [Value.str "__class__" t])) (by first | rfl | (simp only [slotArgs]; rfl)) ?_)
  refine wpAny_bind (wpAny_pure (wpAny_bind (ofType.at (wpAny_bind (ofClass.at ?_)))))
  show wpAny _ _ (holding [Value.builtin "object.__class__"] (call (.builtin "getset_descriptor.__get__") [.builtin "object.__class__", .ref x, .ref D]) >>= ret) _ _ _
  refine wpAny_bind (wpAny_holding (wpAny_call (PySem.W.class_get (s := ⟨hp, g, d, t + 1, os⟩) (ox := ox) (od := od) X I C.hm ?_)))
  refine wpAny_pure ?_
  show wpAny _ _ (handedOut (.ref D)) _ _ _
  rw [PySem.W.handedOut_of (v := .ref D) rfl]
  first
    | exact wpAny_pure (wpAny_pure h)
    | exact wpAny_pure h
    | exact wpAny_pure (wpAny_bind (wpAny_pure (wpAny_pure h)))
theorem err_kit (C : ExcC K D) : PySem.W.KitX K (.ref x) (.ref D) (fun h => ∃ ox od, PySem.W.InstAt h x ox D od) := by
  have cls : ∃ c' d' cd' sl', K.lookup D = some ⟨c', d', .cls cd', sl'⟩ := by
    obtain ⟨cd, hc, _⟩ := PySem.W.any_some C.hd
    unfold PySem.W.clsIn at hc
    split at hc
    · rename_i c' d' cd' sl' ho; exact ⟨c', d', cd', sl', ho⟩
    · cases hc
  obtain ⟨c', d', cd', sl', ho⟩ := cls
  constructor
  case ty => intro M h X ⟨ox, od, I⟩; exact I.type
  case it =>
    intro M h X _ A' Q' E' s' k q
    unfold isType loadHead
    exact wpAny_bind (wpAny_loadPart (k _ _ (X _ _ ho)) (wpAny_pure q))
  case ne =>
    intro h tp dd its n sl X htp
    refine Bool.eq_false_iff.mpr fun q => ?_
    have e : D = tp := Value.ref.inj (beq_iff_eq.mp q)
    subst e
    have r := (X _ _ ho).symm.trans htp
    cases r
  case ca => intro prog w A E Q s X ⟨ox, od, I⟩ k; exact err_class C X I k
end
/-- the dict of a kept error is known -/
def dictAt (H : Hp) (d : Option Addr) : Prop := ∀ dd, d = some dd → ∃ fs, H dd = some (.xd fs)
/-- isinstance(e, c), e a kept error -/
def rIsK (K : PySem.W.Frag) : List V → Hp → VK → Prop := fun xs H Q => ∃ (a D : Addr) (c : V) (cv : Value) (d : Option Addr) (b : Bool), xs = [.ref a, c] ∧ H a = some (keO a (.ref D) d) ∧ dictAt H d ∧ ExcC K D ∧ (∀ u, RelV c u → u = cv) ∧ PySem.W.kitOne K (.ref D) cv = some b ∧ Q (.bl b) H
theorem kept_get {P : Program} {w : World} {H : Hp} {h : Heap} {a D : Addr} {d : Option Addr} (ok : HOk P w H h) (ea : H a = some (keO a (.ref D) d)) (hd : dictAt H d) : ∃ ox od, PySem.W.InstAt h a ox D od ∧ ∀ dd fs, d = some dd → H dd = some (.xd fs) → ∃ o mA, od = some o ∧ h.Ns1 dd mA ∧ h.get? dd = some o ∧ ∀ f, RelO (fs.lookup f) (mA f) := by
  obtain ⟨⟨oe, vs, g, z, fe⟩, _⟩ := ok a _ ea
  have no : PySem.W.notCls oe = true := by unfold PySem.W.notCls; rw [fe]
  cases d with
  | none => exact ⟨oe, none, ⟨g, z.1, no, by rw [z.2]; trivial⟩, fun dd fs e => by cases e⟩
  | some dd =>
    obtain ⟨fs, e⟩ := hd dd rfl
    obtain ⟨mA, hns, hr⟩ := ok dd _ e
    obtain ⟨o, ho, hl⟩ := lookIn_ns hns
    refine ⟨oe, some o, ⟨g, z.1, no, by rw [z.2]; exact ho⟩, fun d2 f2 e2 q => ?_⟩
    cases e2
    rw [e] at q
    cases q
    exact ⟨o, mA, rfl, hns, ho, hr⟩
theorem cl_isK {X : Cx} {K : PySem.W.Frag} (hk : X.K = K := by rfl) : CallR X (.builtin "isinstance") (rIsK K) := by
  subst hk
  intro pins s σ H xs us Q I r h
  obtain ⟨a, D, c, cv, d, b, rfl, ea, hd, C, hcv, e, q⟩ := h
  cases r with
  | cons rx rr =>
    cases rr with
    | cons rt rr =>
      cases rr
      cases rx
      have ec := hcv _ rt
      subst ec
      obtain ⟨ox, od, J, _⟩ := kept_get I.hok ea hd
      exact PySem.W.kia_one (err_kit C) I.kIn ⟨ox, od, J⟩ e (fun z => nomatch z) fun tk => ⟨.bl b, H, I.kept (t' := tk) fun _ _ z => z, rfl, q⟩
/-- e.f of a kept error -/
def tKf (K : PySem.W.Frag) (f : Str) (te : TE) : TE := fun σ H Q => te σ H fun x H1 => ∃ (a D dd : Addr) (fs : List (Str × V)) (v : V), x = .ref a ∧ H1 a = some (keO a (.ref D) (some dd)) ∧ H1 dd = some (.xd fs) ∧ XfC K D ∧ PySem.W.findIn K (.ref D) f = some none ∧ fs.lookup f = some v ∧ Q v H1
theorem pe_kf {X : Cx} {K : PySem.W.Frag} {e : Expr} {te : TE} {pos : Pos} {n : Str} (he : PE X e te) (hk : X.K = K := by rfl) (hb : attributeBase e n X.env (eval e X.env) = eval e X.env := by rfl) : PE X (.Attribute e n pos) (tKf K n te) := by
  subst hk
  refine ⟨fun pins s σ H Q I h => ?_⟩
  refine attr_of hb (thn (he.run pins s σ H _ I h) fun u s1 hh => ?_)
  obtain ⟨x, H1, I1, rx, a, D, dd, fs, v, rfl, ea, ed, T, hno, l, q⟩ := hh
  obtain rfl : u = Value.ref a := rx
  obtain ⟨ox, od, J, r⟩ := kept_get I1.hok ea (fun d2 e2 => ⟨fs, by cases e2; exact ed⟩)
  obtain ⟨o, mA, rfl, hns, ho, hr⟩ := r dd fs rfl ed
  obtain ⟨o2, ho2, hl⟩ := lookIn_ns hns
  rw [ho] at ho2
  cases ho2
  obtain ⟨u, hu, ru⟩ := RelO.some_of (v := v) (o := mA n) (by rw [← l]; exact hr n)
  exact HandSPX.exc_get I1.kIn J T.ga T.gg T.exC (PySem.W.findObj_own T.hdC hno rfl (by rw [hl, hu])) (handed_of ru) ⟨v, H1, I1.tok _, ru, q⟩
/-- isinstance(e, c) and isinstance(e, (c1, c2)) of the error that a suite holds -/
def isWhat (K : PySem.W.Frag) (D : Addr) (c : V) (H : Hp) (b : Bool) : Prop :=
  (∃ cv : Value, (∀ u, RelV c u → u = cv) ∧ PySem.W.kitOne K (.ref D) cv = some b) ∨ ∃ (p : Addr) (C1 C2 : Addr) (b1 b2 : Bool), c = .ref p ∧ H p = some (.tup [.ref C1, .ref C2]) ∧ PySem.W.kitOne K (.ref D) (.ref C1) = some b1 ∧ PySem.W.kitOne K (.ref D) (.ref C2) = some b2 ∧ b = (b1 || b2)
theorem isWhat_run {P : Program} {w : World} {K : PySem.W.Frag} {H : Hp} {s : Shared} {a D : Addr} {c : V} {cv : Value} {b : Bool} {A : Around} {Q : Value → Shared → Prop} {E : Value → Shared → Prop} (C : ExcC K D) (kin : K.In s.heap) (ok : HOk P w H s.heap) (J : ∃ ox od, PySem.W.InstAt s.heap a ox D od)
    (r : RelV c cv) (h : isWhat K D c H b) (q : ∀ tk, Q (.bool b) { s with toks := tk }) : wpAny (model P w) A (call (.builtin "isinstance") [.ref a, cv]) Q E s := by
  rcases h with ⟨u, hu, e⟩ | ⟨p, C1, C2, b1, b2, rfl, hp, e1, e2, rfl⟩
  · have e0 := hu _ r
    subst e0
    exact PySem.W.kia_one (err_kit C) kin J e (fun z => nomatch z) q
  · obtain rfl : cv = Value.ref p := r
    obtain ⟨_, its, rv, ob, ho, hc, hd⟩ := ok p _ hp
    cases rv with
    | cons r1 rr =>
      cases rr with
      | cons r2 rr =>
        cases rr
        cases r1
        cases r2
        obtain ⟨c0, d0, da, sl⟩ := ob
        obtain ⟨n, hd⟩ := hd
        dsimp only at hc hd
        subst hc hd
        refine PySem.W.kia_tup (err_kit C) kin J ho (b := (b1 || b2)) ?_ (fun z => nomatch z) q
        unfold PySem.W.kitAny
        rw [e1]
        cases b1 with
        | true => rfl
        | false =>
          show PySem.W.kitAny K (.ref D) [.ref C2] = _
          unfold PySem.W.kitAny
          rw [e2]
          cases b2 <;> rfl
def rIsS (K : PySem.W.Frag) (cls : Value) (d : Option Addr) (a : Addr) : List V → Hp → VK → Prop := fun xs H Q => ∃ (D : Addr) (c : V) (b : Bool), cls = .ref D ∧ dictAt H d ∧ ExcC K D ∧ xs = [.ref a, c] ∧ isWhat K D c H b ∧ Q (.bl b) H
theorem cl_isS {X : Cx} {K : PySem.W.Frag} {a : Addr} {oe : Obj} {pn : List (Addr × Obj)} {cls : Value} {d : Option Addr} (hz : Zc cls d oe) (hf : ∃ vs, oe.data = .fields vs) (hk : X.K = K := by rfl) : CallR (X.suite a ((a, oe) :: pn)) (.builtin "isinstance") (rIsS K cls d a) := by
  subst hk
  intro pins s σ H xs us Q I r h
  obtain ⟨D, c, b, rfl, hd, C, rfl, hw, q⟩ := h
  cases r with
  | cons rx rr =>
    cases rr with
    | cons rt rr =>
      cases rr
      cases rx
      obtain ⟨hget, _⟩ := I.pin (a, oe) (List.mem_append.mpr (.inl List.mem_cons_self))
      obtain ⟨vs, hv⟩ := hf
      have no : PySem.W.notCls oe = true := by unfold PySem.W.notCls; rw [hv]
      have J : ∃ ox od, PySem.W.InstAt s.heap a ox D od := by
        cases d with
        | none => exact ⟨oe, none, hget, hz.1, no, by rw [hz.2]; trivial⟩
        | some dd =>
          obtain ⟨fs, e⟩ := hd dd rfl
          obtain ⟨mA, hns, hr⟩ := I.hok dd _ e
          obtain ⟨o, ho, hl⟩ := lookIn_ns hns
          exact ⟨oe, some o, hget, hz.1, no, by rw [hz.2]; exact ho⟩
      exact isWhat_run C I.kIn I.hok J rt hw fun tk => ⟨.bl b, H, I.kept (t' := tk) fun _ _ z => z, rfl, q⟩
/-- a class of the text as a value -/
theorem pe_cls {X : Cx} {x : Str} {pos : Pos} {a : Addr} (hg : Gl X x) (hm : X.mg x = some (.ref a)) (hd : (x == ("__debug__" : Str)) = false := by decide) : PE X (.Name x pos) (tC (.ref a)) := pe_glob hg hm rfl hd
theorem isWhat_one {K : PySem.W.Frag} {D C : Addr} {H : Hp} {b : Bool} (e : PySem.W.kitOne K (.ref D) (.ref C) = some b) : isWhat K D (.ref C) H b := .inl ⟨.ref C, fun u r => r, e⟩
theorem isWhat_ty {K : PySem.W.Frag} {D : Addr} {n : String} {H : Hp} {b : Bool} (e : PySem.W.kitOne K (.ref D) (.type n) = some b) : isWhat K D (.ty n) H b := .inl ⟨.type n, fun u r => r, e⟩
theorem isWhat_two {K : PySem.W.Frag} {D C1 C2 p : Addr} {H : Hp} {b1 b2 : Bool} (hp : H p = some (.tup [.ref C1, .ref C2])) (e1 : PySem.W.kitOne K (.ref D) (.ref C1) = some b1) (e2 : PySem.W.kitOne K (.ref D) (.ref C2) = some b2) : isWhat K D (.ref p) H (b1 || b2) :=
  .inr ⟨p, C1, C2, b1, b2, rfl, hp, e1, e2, rfl⟩
theorem kit_of {K : PySem.W.Frag} {D C : Addr} {b : Bool} (hc : PySem.W.isClsIn K C = true) (ht : PySem.W.typeIn K (.ref C) = some (.type "type")) (hs : PySem.W.subIn K (.ref D) (.ref C) = some b) (hr : D = C → b = true) : PySem.W.kitOne K (.ref D) (.ref C) = some b := by
  unfold PySem.W.kitOne
  by_cases e : D = C
  · subst e
    rw [if_pos (by simp), hr rfl]
  · rw [if_neg (fun z => e (Value.ref.inj (beq_iff_eq.mp z)))]
    have hc' : (PySem.W.clsIn K C).isSome = true := hc
    unfold PySem.W.kitCls
    dsimp only
    rw [if_pos (by rw [hc', ht] <;> rfl)]
    exact hs
theorem kit_ty {K : PySem.W.Frag} {D : Addr} {n : String} {b : Bool} (hm : PySem.W.kitMeta n = true) (hs : PySem.W.subIn K (.ref D) (.type n) = some b) : PySem.W.kitOne K (.ref D) (.type n) = some b := by
  unfold PySem.W.kitOne
  rw [if_neg (fun z => by have := beq_iff_eq.mp z; cases this)]
  unfold PySem.W.kitCls
  dsimp only
  rw [if_pos hm]
  exact hs
def rKf (K : PySem.W.Frag) (f : Str) (x : V) (H1 : Hp) (Q : VK) : Prop := ∃ (a D dd : Addr) (fs : List (Str × V)) (v : V), x = .ref a ∧ H1 a = some (keO a (.ref D) (some dd)) ∧ H1 dd = some (.xd fs) ∧ XfC K D ∧ PySem.W.findIn K (.ref D) f = some none ∧ fs.lookup f = some v ∧ Q v H1
theorem w_kf {K : PySem.W.Frag} {σ : L2.St} {H : Hp} {Q : VK} {f : Str} {te : TE} (h : te σ H fun x H1 => rKf K f x H1 Q) : tKf K f te σ H Q := h
/-- an error that was just kept -/
theorem kept_new {H : Hp} {e D d : Addr} {fs : List (Str × V)} (he : H e = none) (hd : H d = some (.xd fs)) : let H2 := upd H e (keO e (.ref D) (some d)); H2 e = some (keO e (.ref D) (some d)) ∧ Same H H2 ∧ H2 d = some (.xd fs) ∧ dictAt H2 (some d) := by
  have e2 : Same H (upd H e (keO e (.ref D) (some d))) := same_new he
  exact ⟨upd_same, e2, e2 _ _ hd, fun dd z => by cases z; exact ⟨_, e2 _ _ hd⟩⟩
theorem kept_new0 {H : Hp} {e D : Addr} (he : H e = none) : let H2 := upd H e (keO e (.ref D) none); H2 e = some (keO e (.ref D) none) ∧ Same H H2 ∧ dictAt H2 none := ⟨upd_same, same_new he, fun dd z => nomatch z⟩
end Tw
namespace Tw
open PySem PySem.Spec PyProof.Rows L2
def rInT (K : PySem.W.Frag) : R2 := fun x y H Q => ∃ d ds, Dp K H x d ∧ Dp K H y (.tuple ds) ∧ SeqAt.shaped d = true ∧ SeqAt.shaped (.tuple ds) = true ∧ Q (.bl (ds.any fun z => PyData.eqv z d)) H
def rNotInT (K : PySem.W.Frag) : R2 := fun x y H Q => ∃ d ds, Dp K H x d ∧ Dp K H y (.tuple ds) ∧ SeqAt.shaped d = true ∧ SeqAt.shaped (.tuple ds) = true ∧ Q (.bl (!(ds.any fun z => PyData.eqv z d))) H
theorem op_inT {X : Cx} {K : PySem.W.Frag} (hu : X.A.units + 65 < cLine) (hK : X.K = K := by rfl) : OpR X (compareOp .In) (rInT K) := by
  subst hK
  intro pins s σ H x y v u Q I rx ry h
  obtain ⟨d, ds, h1, h2, h3, h4, q⟩ := h
  obtain ⟨as, r1⟩ := L2.Dp.reads I d x v h1 rx
  obtain ⟨bs, r2⟩ := L2.Dp.reads I _ y u h2 ry
  refine SeqAt.in_tuple_reads r2 r1 (SeqAt.canLay_of_shaped h4) (SeqAt.canLay_of_shaped h3) (room_in_shaped h3 hu) ?_
  exact ⟨.bl _, H, I, rfl, q⟩
theorem op_notInT {X : Cx} {K : PySem.W.Frag} (hu : X.A.units + 65 < cLine) (hK : X.K = K := by rfl) : OpR X (compareOp .NotIn) (rNotInT K) := by
  subst hK
  intro pins s σ H x y v u Q I rx ry h
  obtain ⟨d, ds, h1, h2, h3, h4, q⟩ := h
  obtain ⟨as, r1⟩ := L2.Dp.reads I d x v h1 rx
  obtain ⟨bs, r2⟩ := L2.Dp.reads I _ y u h2 ry
  refine SeqAt.notIn_tuple_reads r2 r1 (SeqAt.canLay_of_shaped h4) (SeqAt.canLay_of_shaped h3) (room_in_shaped h3 hu) ?_
  exact ⟨.bl _, H, I, rfl, q⟩
section
variable {K : PySem.W.Frag} {H : Hp} {Q : VK} {x y : V} {d : PyData} {ds : List PyData}
/-- x in y, y a tuple of data without bools -/
theorem w_inT (h1 : Dp K H x d) (h2 : Dp K H y (.tuple ds)) (p1 : pln 8 d = true) (p2 : pln 9 (.tuple ds) = true) (q1 : d ∈ ds → Q (.bl true) H) (q2 : d ∉ ds → Q (.bl false) H) : rInT K x y H Q := by
  have hs : ∀ z ∈ ds, pln 8 z = true := List.all_eq_true.mp p2
  have e := any_eqv p1 hs
  refine ⟨d, ds, h1, h2, pln_shaped p1 (by decide), pln_shaped p2 (by decide), ?_⟩
  cases hc : ds.any fun z => PyData.eqv z d with
  | true => exact q1 (e.mp hc)
  | false => exact q2 fun z => by rw [e.mpr z] at hc; cases hc
theorem w_notInT (h1 : Dp K H x d) (h2 : Dp K H y (.tuple ds)) (p1 : pln 8 d = true) (p2 : pln 9 (.tuple ds) = true) (q1 : d ∈ ds → Q (.bl false) H) (q2 : d ∉ ds → Q (.bl true) H) : rNotInT K x y H Q := by
  have hs : ∀ z ∈ ds, pln 8 z = true := List.all_eq_true.mp p2
  have e := any_eqv p1 hs
  refine ⟨d, ds, h1, h2, pln_shaped p1 (by decide), pln_shaped p2 (by decide), ?_⟩
  cases hc : ds.any fun z => PyData.eqv z d with
  | true => exact q1 (e.mp hc)
  | false => exact q2 fun z => by rw [e.mpr z] at hc; cases hc
end
end Tw
namespace Tw
open PySem PySem.Spec PyProof.Rows L2
/-! ### more rules: any, all, two fors in a comprehension -/
section
variable {X : Cx} {K : PySem.W.Frag}
def rAnyK (K : PySem.W.Frag) : List V → Hp → VK → Prop := fun vs H Q => ∃ a, ∃ bs : List Bool, vs = [.ref a] ∧ SqL K H a (bs.map V.bl) ∧ Q (.bl (bs.any id)) H
theorem cl_any (hc : X.calm = true) (h : X.K = K := by rfl) : CallR X (.builtin "any") (rAnyK K) := h ▸ cr_any hc
def rAllK (K : PySem.W.Frag) : List V → Hp → VK → Prop := fun vs H Q => ∃ a, ∃ bs : List Bool, vs = [.ref a] ∧ SqL K H a (bs.map V.bl) ∧ Q (.bl (bs.all id)) H
theorem cl_all (hc : X.calm = true) (h : X.K = K := by rfl) : CallR X (.builtin "all") (rAllK K) := h ▸ cr_all hc
def rSumK (K : PySem.W.Frag) : List V → Hp → VK → Prop := fun vs H Q => ∃ a, ∃ ns : List Int, vs = [.ref a] ∧ SqL K H a (ns.map V.int) ∧ Q (.int ns.sum) H
theorem cl_sum (hc : X.calm = true) (h : X.K = K := by rfl) : CallR X (.builtin "sum") (rSumK K) := h ▸ cr_sum hc
end
section
variable {K : PySem.W.Frag} {σ : L2.St} {H H1 : Hp} {Q : VK} {x v : V} {ds : List PyData} {j j1 : Nat} {vs vs1 : List Nat} {tl ts te : TE}
theorem dpa_bools : ∀ (ns : List Bool), DpAll K H (ns.map V.bl) (ns.map PyData.bool)
  | [] => .nil
  | n :: ns => .cons (.bl n) (dpa_bools ns)
theorem dpa_bools_inv : ∀ {vs : List V} {ns : List Bool}, DpAll K H vs (ns.map PyData.bool) → vs = ns.map V.bl
  | _, [], h => by cases h; rfl
  | _, n :: ns, h => by
    cases h with
    | cons h1 h2 => cases h1; rw [dpa_bools_inv h2]; rfl
theorem w_any {bs : List Bool} (h : Dp K H v (.list (bs.map PyData.bool))) (q : Q (.bl (bs.any id)) H) : rAnyK K [v] H Q := by
  obtain ⟨a, xs, rfl, hs, ha⟩ := dp_lst h
  rw [dpa_bools_inv ha] at hs
  exact ⟨a, bs, rfl, hs, q⟩
theorem w_all {bs : List Bool} (h : Dp K H v (.list (bs.map PyData.bool))) (q : Q (.bl (bs.all id)) H) : rAllK K [v] H Q := by
  obtain ⟨a, xs, rfl, hs, ha⟩ := dp_lst h
  rw [dpa_bools_inv ha] at hs
  exact ⟨a, bs, rfl, hs, q⟩
theorem w_sum {ns : List Int} (h : Dp K H v (.list (ns.map PyData.int))) (q : Q (.int ns.sum) H) : rSumK K [v] H Q := by
  obtain ⟨a, xs, rfl, hs, ha⟩ := dp_lst h
  rw [dpa_ints_inv ha] at hs
  exact ⟨a, ns, rfl, hs, q⟩
/-- [e for x in a list for c in a text] -/
def rLc2 (K : PySem.W.Frag) (j j1 : Nat) (ts te : TE) (vs vs1 : List Nat) (σ : L2.St) (x : V) (H1 : Hp) (Q : VK) : Prop :=
  tLc2 (iList K (tC x)) (gName j) tYes (iStr ts) (gName j1) tYes te vs vs1 σ H1 Q
theorem w_lc2 (h : tl σ H fun x H1 => rLc2 K j j1 ts te vs vs1 σ x H1 Q) : tLc2 (iList K tl) (gName j) tYes (iStr ts) (gName j1) tYes te vs vs1 σ H Q := h
/-- a comprehension's turn over data: what one turn makes -/
theorem lc2_by (f : PyData → Nat → PyData) (cs : List Nat) (src : Dp K H1 x (.list ds)) (hz : ds.length * cs.length ≤ 1000000)
    (hf : ∀ d ∈ ds, ∀ c ∈ cs, noL (f d c) = true)
    (hw : ∀ x, wipe ((wipe σ vs).set j (some x)) vs = wipe σ vs) (hw1 : ∀ x y, wipe ((wipe ((wipe σ vs).set j (some x)) vs1).set j1 (some y)) vs1 = wipe ((wipe σ vs).set j (some x)) vs1)
    (text : ∀ y d H', d ∈ ds → Dp K H' y d → ∀ R : VK, R (.str (Sg cs)) H' → ts ((wipe σ vs).set j (some y)) H' R)
    (turn : ∀ y d c H', d ∈ ds → c ∈ cs → Dp K H' y d → ∀ R : VK, (∀ z H4, Same H' H4 → Dp K H4 z (f d c) → R z H4) → te ((wipe ((wipe σ vs).set j (some y)) vs1).set j1 (some (.str (Sg [c])))) H' R)
    (done : ∀ p H' ws, H1 p = none → Same H1 H' → H' p = some (.lst ws) → Dp K H' (.ref p) (.list (ds.flatMap fun d => cs.map (f d))) → Q (.ref p) H') : rLc2 K j j1 ts te vs vs1 σ x H1 Q := by
  obtain ⟨a, xs, rfl, hs, ha⟩ := dp_lst src
  have hl := dpa_len ha
  have hline : sizeLine = 16777216 := sizeLine_eq
  have nof : ∀ (es : List PyData), (∀ d ∈ es, noL d = true) → noLs es = true := by
    intro es
    induction es with
    | nil => intro _; rfl
    | cons e es ih => intro h; simp only [noLs, Bool.and_eq_true]; exact ⟨h e List.mem_cons_self, ih fun d hd => h d (List.mem_cons_of_mem _ hd)⟩
  have fml : ∀ es : List PyData, (es.flatMap fun d => cs.map (f d)).length = es.length * cs.length := by
    intro es
    induction es with
    | nil => simp
    | cons e es ih => rw [List.flatMap_cons, List.length_append, ih, List.length_map, List.length_cons, Nat.succ_mul]; omega
  have nol : ∀ (i : Nat), noLs ((ds.take i).flatMap fun d => cs.map (f d)) = true := fun i => nof _ fun e he => by
    obtain ⟨d, hd, he⟩ := List.mem_flatMap.mp he
    obtain ⟨c, hc, rfl⟩ := List.mem_map.mp he
    exact hf d (List.mem_of_mem_take hd) c hc
  refine ⟨a, rfl, ⟨xs, hs⟩, fun D hD => ?_⟩
  refine ⟨fun i m H' => m = xs.length - i ∧ i ≤ xs.length ∧ Same H1 H' ∧ ∃ ws, H' D = some (.lst ws) ∧ DpAll K H' ws ((ds.take i).flatMap fun d => cs.map (f d)), ⟨xs.length, by simp, Nat.zero_le _, same_new hD, [], upd_same, by simp; exact .nil⟩, ?_⟩
  rintro i m H' ⟨rfl, hi, k1, ws, e1, d1⟩
  have q := k1.seq hs
  by_cases hlt : i < xs.length
  · refine .inr ⟨⟨xs, xs[i], q, by simp [hlt]⟩, fun H2 => Same H1 H2 ∧ ∃ ws, H2 D = some (.lst ws) ∧ DpAll K H2 ws ((ds.take (i + 1)).flatMap fun d => cs.map (f d)), fun H2 p => ⟨xs.length - (i + 1), by omega, rfl, hlt, p⟩, fun y H2 hy => ?_⟩
    obtain ⟨rfl, hy⟩ := hy
    have hyi := hy xs q
    obtain ⟨d, ed, dy0⟩ := dpa_get2 ha hyi
    have hdm : d ∈ ds := List.mem_of_getElem? ed
    have ht : ds.take (i + 1) = ds.take i ++ [d] := by rw [List.take_add_one, ed]; rfl
    refine ⟨hw y, ?_⟩
    refine text y d H2 hdm (dp_same k1 dy0) _ ⟨Sg cs, rfl, ?_⟩
    refine ⟨fun jj k H3 => k = cs.length - jj ∧ jj ≤ cs.length ∧ Same H1 H3 ∧ ∃ ws, H3 D = some (.lst ws) ∧ DpAll K H3 ws (((ds.take i).flatMap fun d => cs.map (f d)) ++ (cs.take jj).map (f d)), ⟨cs.length, by simp, Nat.zero_le _, k1, ws, e1, by simpa using d1⟩, ?_⟩
    rintro jj k H3 ⟨rfl, hj, k3, ws3, e3, d3⟩
    by_cases hjl : jj < cs.length
    · have hc : cs[jj]? = some cs[jj] := by simp [hjl]
      have htc : cs.take (jj + 1) = cs.take jj ++ [cs[jj]] := by rw [List.take_add_one, hc]; rfl
      refine .inr ⟨by show jj < (Sg cs).cps.size; simpa [Sg] using hjl, fun H4 => Same H1 H4 ∧ ∃ ws, H4 D = some (.lst ws) ∧ DpAll K H4 ws (((ds.take i).flatMap fun d => cs.map (f d)) ++ (cs.take (jj + 1)).map (f d)), fun H4 p => ⟨cs.length - (jj + 1), by omega, rfl, hjl, p⟩, fun z H4 hz4 => ?_⟩
      obtain ⟨rfl, c, hc4, rfl⟩ := hz4
      have hcc : c = cs[jj] := by simpa [Sg, hjl] using hc4.symm
      subst hcc
      refine ⟨hw1 _ _, ?_⟩
      refine turn y d cs[jj] H4 hdm (List.getElem_mem hjl) (dp_same k3 dy0) _ fun z H5 k5 d5 => ?_
      have e5 := k5 _ _ e3
      have len3 := dpa_len d3
      have le1 : (((ds.take i).flatMap fun d => cs.map (f d)) ++ (cs.take jj).map (f d)).length ≤ ds.length * cs.length := by
        rw [List.length_append, fml, List.length_map, List.length_take, List.length_take]
        have : min i ds.length + 1 ≤ ds.length := by omega
        have := Nat.mul_le_mul_right cs.length this
        rw [Nat.succ_mul] at this
        omega
      have no3 : noLs (((ds.take i).flatMap fun d => cs.map (f d)) ++ (cs.take jj).map (f d)) = true := noLs_app (nol i) (nof _ fun e he => by
        obtain ⟨c, hc, rfl⟩ := List.mem_map.mp he
        exact hf d hdm c (List.mem_of_mem_take hc))
      refine ⟨ws3, e5, by omega, same_mut (k3.trans k5) hD, _, upd_same, ?_⟩
      rw [htc, List.map_append, ← List.append_assoc]
      exact dpa_app (dpa_upd e5 _ _ no3 (dpa_same k5 d3)) (dpa_one (dp_upd e5 _ _ (hf d hdm _ (List.getElem_mem hjl)) d5))
    · have : jj = cs.length := by omega
      subst this
      refine .inl ⟨by show (Sg cs).cps.size ≤ cs.length; simp [Sg], k3, ws3, e3, ?_⟩
      rw [ht, List.flatMap_append]
      simpa using d3
  · have e : i = xs.length := by omega
    subst e
    refine .inl ⟨⟨xs, q, Nat.le_refl _⟩, done D H' ws hD k1 e1 (dp_newL e1 ?_)⟩
    rw [hl, List.take_length] at d1
    exact d1
/-- [e for c in a text] -/
def rLcS (j : Nat) (tt : TT) (te : TE) (vs : List Nat) (σ : L2.St) (x : V) (H1 : Hp) (Q : VK) : Prop := tLc (iStr (tC x)) (gName j) tt te vs σ H1 Q
theorem w_lcS {tt : TT} (h : ts σ H fun x H1 => rLcS j tt te vs σ x H1 Q) : tLc (iStr ts) (gName j) tt te vs σ H Q := h
theorem lc_str_by {tt : TT} {l : List Nat} (J : Nat → List PyData → Hp → Prop) (lj : LcJ H1 J) (hz : l.length ≤ 1000000) (hw : ∀ x, wipe ((wipe σ vs).set j (some x)) vs = wipe σ vs)
    (turn : ∀ i c H' es, l[i]? = some c → J i es H' → LcTurn K J tt te ((wipe σ vs).set j (some (.str (Sg [c])))) i es H')
    (done : ∀ p H' ws es, H1 p = none → Keep H1 H' → H' p = some (.lst ws) → Dp K H' (.ref p) (.list es) → J l.length es H' → Q (.ref p) H') : rLcS j tt te vs σ (.str (Sg l)) H1 Q := by
  refine ⟨Sg l, rfl, fun D hD => ?_⟩
  refine ⟨fun i m H' => m = l.length - i ∧ i ≤ l.length ∧ LcP K J D i H', ⟨l.length, by simp, Nat.zero_le _, [], [], upd_same, .nil, rfl, Nat.le_refl _, lj.start D hD⟩, ?_⟩
  rintro i m H' ⟨rfl, hi, p⟩
  by_cases hlt : i < l.length
  · refine .inr ⟨by show i < (Sg l).cps.size; simpa [Sg] using hlt, LcP K J D (i + 1), fun H2 p2 => ⟨l.length - (i + 1), by omega, rfl, hlt, p2⟩, fun x H2 y => ?_⟩
    obtain ⟨rfl, c, hc, rfl⟩ := y
    have hc2 : l[i]? = some c := by simpa [Sg] using hc
    exact ⟨hw _, lc_turn lj hD (by omega) p fun es q => turn i c H2 es hc2 q⟩
  · have e : i = l.length := by omega
    subst e
    obtain ⟨ws, es, p1, p2, p3, p4, p5⟩ := p
    exact .inl ⟨by show (Sg l).cps.size ≤ l.length; simp [Sg], done D H' ws es hD (lj.keep _ _ _ p5) p1 (dp_newL p1 p2) p5⟩
end
end Tw
namespace Tw
open PySem PySem.Spec PyProof.Rows L2
/-! ### doubling, again and again -/
def itN : Nat → Nat × Nat → Nat × Nat
  | 0, x => x
  | i + 1, x => itN i (dblN x)
theorem itN_succ (i : Nat) (x : Nat × Nat) : itN (i + 1) x = dblN (itN i x) := by
  induction i generalizing x with
  | zero => rfl
  | succ i ih => show itN (i + 1) (dblN x) = dblN (itN i (dblN x)); exact ih (dblN x)
theorem itN_add (i j : Nat) (x : Nat × Nat) : itN (i + j) x = itN i (itN j x) := by
  induction j generalizing x with
  | zero => rfl
  | succ j ih => show itN (i + j) (dblN x) = itN i (itN j (dblN x)); exact ih (dblN x)
theorem it_plc {x : Nat × Nat} (h : Plc x) (i : Nat) : Plc (itN i x) := by
  induction i with
  | zero => exact h
  | succ i ih => rw [itN_succ]; exact dbl_plc ih
theorem dbl_red {x : Nat × Nat} (h : Plc x) : dblN x = red (2 * x.1 % x.2) x.2 := by
  have hp := h.pos
  have hd := dbl_plc h
  symm
  refine red_of hd.cop hd.pos hp ?_
  unfold dblN
  split
  · rename_i e
    have hx : x.2 = 2 * (x.2 / 2) := by omega
    have e2 : 2 * x.1 % x.2 = 2 * (x.1 % (x.2 / 2)) := by
      conv => lhs; rw [hx]
      rw [Nat.mul_mod_mul_left]
    rw [e2]
    show x.1 % (x.2 / 2) * x.2 = 2 * (x.1 % (x.2 / 2)) * (x.2 / 2)
    generalize x.1 % (x.2 / 2) = y
    rw [Nat.mul_comm 2 y, Nat.mul_assoc, ← hx]
  · rfl
theorem red_mod2 {p q : Nat} (hq : 0 < q) (hp : p < q) : red (2 * (red p q).1 % (red p q).2) (red p q).2 = red (2 * p % q) q := by
  have hc := red_cross (p := p) (q := q)
  have h0 := red_pos (p := p) hq
  obtain ⟨g, hg⟩ := red_dvd (p := p) (q := q)
  have hg0 : 0 < g := by
    rcases Nat.eq_zero_or_pos g with z | z
    · rw [z] at hg; omega
    · exact z
  generalize hr : red p q = r at *
  have hpe : p = r.1 * g := by
    rw [hg] at hc
    have : r.1 * g * r.2 = p * r.2 := by rw [← hc, Nat.mul_assoc, Nat.mul_comm g]
    exact (Nat.eq_of_mul_eq_mul_right h0 this).symm
  refine red_eq h0 hq ?_
  rw [hpe, hg, show 2 * (r.1 * g) = 2 * r.1 * g from (Nat.mul_assoc _ _ _).symm, Nat.mul_mod_mul_right, Nat.mul_assoc (2 * r.1 % r.2) g, Nat.mul_comm g]
theorem it_red {x : Nat × Nat} (h : Plc x) (i : Nat) : itN i x = red (2 ^ i * x.1 % x.2) x.2 := by
  have hp := h.pos
  induction i with
  | zero =>
    rw [Nat.pow_zero, Nat.one_mul, Nat.mod_eq_of_lt h.lt]
    exact (red_self h.cop).symm
  | succ i ih =>
    rw [itN_succ, dbl_red (it_plc h i), ih, red_mod2 hp (Nat.mod_lt _ hp)]
    congr 1
    rw [Nat.mul_mod, Nat.mod_mod, ← Nat.mul_mod, Nat.pow_succ, Nat.mul_comm (2 ^ i) 2, Nat.mul_assoc]
theorem red_inj {p p' q : Nat} (hq : 0 < q) (h : red p q = red p' q) : p = p' := by
  have h1 := red_cross (p := p) (q := q)
  have h2 := red_cross (p := p') (q := q)
  have h0 := red_pos (p := p) hq
  rw [h] at h1 h0
  exact Nat.eq_of_mul_eq_mul_right h0 (h1.symm.trans h2)
theorem it_eq {x : Nat × Nat} (h : Plc x) {i j : Nat} (hij : i ≤ j) : itN i x = itN j x ↔ x.2 ∣ 2 ^ i * (2 ^ (j - i) - 1) := by
  have hp := h.pos
  rw [it_red h, it_red h]
  have e : 2 ^ j = 2 ^ i * 2 ^ (j - i) := by rw [← Nat.pow_add]; congr 1; omega
  have hpw : 1 ≤ 2 ^ (j - i) := two_pow_pos _
  have key : (2 ^ i * x.1 % x.2 = 2 ^ j * x.1 % x.2) ↔ x.2 ∣ 2 ^ i * (2 ^ (j - i) - 1) := by
    have hle : 2 ^ i * x.1 ≤ 2 ^ j * x.1 := Nat.mul_le_mul_right _ (Nat.pow_le_pow_right (by decide) hij)
    have hsub : 2 ^ j * x.1 - 2 ^ i * x.1 = 2 ^ i * (2 ^ (j - i) - 1) * x.1 := by
      rw [e, ← Nat.sub_mul, Nat.mul_sub_one]
    constructor
    · intro z
      have d1 : x.2 ∣ 2 ^ j * x.1 - 2 ^ i * x.1 := Nat.dvd_of_mod_eq_zero (Nat.sub_mod_eq_zero_of_mod_eq z.symm)
      rw [hsub] at d1
      exact h.cop.symm.dvd_of_dvd_mul_right d1
    · intro d
      have d1 : x.2 ∣ 2 ^ j * x.1 - 2 ^ i * x.1 := by rw [hsub]; exact Nat.dvd_trans d (Nat.dvd_mul_right _ _)
      obtain ⟨c, hc⟩ := d1
      have : 2 ^ j * x.1 = 2 ^ i * x.1 + x.2 * c := by omega
      rw [this, Nat.add_mul_mod_self_left]
  constructor
  · intro z; exact key.mp (red_inj hp z)
  · intro z; rw [key.mpr z]
/-! ### way in and period -/
/-- how often 2 divides, at most f times -/
def twosF : Nat → Nat → Nat
  | 0, _ => 0
  | f + 1, b => if b % 2 = 0 then twosF f (b / 2) + 1 else 0
def twos (b : Nat) : Nat := twosF 60 b
theorem twosF_spec : ∀ (f b : Nat), 0 < b → b < 2 ^ f → ∃ o, b = 2 ^ twosF f b * (2 * o + 1) := by
  intro f
  induction f with
  | zero => intro b h1 h2; omega
  | succ f ih =>
    intro b h1 h2
    unfold twosF
    split
    · rename_i e
      obtain ⟨o, ho⟩ := ih (b / 2) (by omega) (by rw [Nat.pow_succ] at h2; omega)
      refine ⟨o, ?_⟩
      rw [Nat.pow_succ, Nat.mul_assoc, Nat.mul_comm 2, ← Nat.mul_assoc, ← ho]
      omega
    · exact ⟨b / 2, by simp; omega⟩
theorem twos_spec {b : Nat} (h1 : 0 < b) (h2 : b < 2 ^ 60) : ∃ o, b = 2 ^ twos b * (2 * o + 1) := twosF_spec 60 b h1 h2
def oddOf (b : Nat) : Nat := b / 2 ^ twos b
theorem odd_spec {b : Nat} (h1 : 0 < b) (h2 : b < 2 ^ 60) : b = 2 ^ twos b * oddOf b ∧ oddOf b % 2 = 1 := by
  obtain ⟨o, ho⟩ := twos_spec h1 h2
  have : oddOf b = 2 * o + 1 := by
    unfold oddOf
    conv => lhs; rw [ho]
    have e : twos (2 ^ twos b * (2 * o + 1)) = twos b := by rw [← ho]
    rw [e, Nat.mul_div_cancel_left _ (two_pow_pos _)]
  rw [this]
  exact ⟨ho, by omega⟩
/-- the least n from 1 to f with 2 ^ n - 1 divided by o, else 0 -/
def ordN (o : Nat) : Nat := match (List.range 24).find? (fun i => (2 ^ (i + 1) - 1) % o == 0) with
  | some i => i + 1
  | none => 0
theorem ord_spec {o n : Nat} (h1 : 1 ≤ n) (h2 : n ≤ 24) (h : o ∣ 2 ^ n - 1) : 1 ≤ ordN o ∧ ordN o ≤ n ∧ o ∣ 2 ^ ordN o - 1 ∧ ∀ k, 1 ≤ k → k < ordN o → ¬ o ∣ 2 ^ k - 1 := by
  unfold ordN
  cases hf : (List.range 24).find? (fun i => (2 ^ (i + 1) - 1) % o == 0) with
  | none =>
    rw [List.find?_eq_none] at hf
    have := hf (n - 1) (List.mem_range.mpr (by omega))
    rw [show n - 1 + 1 = n by omega, beq_iff_eq] at this
    exact absurd (Nat.mod_eq_zero_of_dvd h) this
  | some i =>
    rw [List.find?_range_eq_some] at hf
    obtain ⟨p, hi, hj⟩ := hf
    rw [beq_iff_eq] at p
    show 1 ≤ i + 1 ∧ i + 1 ≤ n ∧ o ∣ 2 ^ (i + 1) - 1 ∧ ∀ k, 1 ≤ k → k < i + 1 → ¬ o ∣ 2 ^ k - 1
    refine ⟨by omega, ?_, Nat.dvd_of_mod_eq_zero p, fun k a b d => ?_⟩
    · apply Nat.le_of_not_lt
      intro z
      have := hj (n - 1) (by omega)
      rw [show n - 1 + 1 = n by omega, Bool.not_eq_true', beq_eq_false_iff_ne] at this
      exact this (Nat.mod_eq_zero_of_dvd h)
    · have := hj (k - 1) (by omega)
      rw [show k - 1 + 1 = k by omega, Bool.not_eq_true', beq_eq_false_iff_ne] at this
      exact this (Nat.mod_eq_zero_of_dvd d)
def wayN (x : Nat × Nat) : Nat := twos x.2
def perN (x : Nat × Nat) : Nat := ordN (oddOf x.2)
theorem cop_two_pow {o : Nat} (h : o % 2 = 1) (m : Nat) : Nat.Coprime (2 ^ m) o := by
  refine Nat.Coprime.pow_left m ?_
  unfold Nat.Coprime
  rw [Nat.gcd_rec, h]
  rfl
/-- 2 ^ m o divides 2 ^ i (2 ^ n - 1), o odd -/
theorem dvd_split {m o i n : Nat} (ho : o % 2 = 1) (hn : 1 ≤ n) : 2 ^ m * o ∣ 2 ^ i * (2 ^ n - 1) ↔ m ≤ i ∧ o ∣ 2 ^ n - 1 := by
  have hodd : (2 ^ n - 1) % 2 = 1 := by
    have h1 : 2 ^ n = 2 * 2 ^ (n - 1) := by rw [← Nat.pow_succ']; congr 1; omega
    have := two_pow_pos (n - 1)
    omega
  constructor
  · intro d
    have d1 : 2 ^ m ∣ 2 ^ i * (2 ^ n - 1) := Nat.dvd_trans (Nat.dvd_mul_right _ _) d
    have d2 : o ∣ 2 ^ i * (2 ^ n - 1) := Nat.dvd_trans (Nat.dvd_mul_left _ _) d
    have d3 : 2 ^ m ∣ 2 ^ i := (cop_two_pow hodd m).dvd_of_dvd_mul_right d1
    have d4 : o ∣ 2 ^ n - 1 := (cop_two_pow ho i).symm.dvd_of_dvd_mul_left d2
    refine ⟨?_, d4⟩
    apply Nat.le_of_not_lt
    intro z
    have := Nat.le_of_dvd (two_pow_pos i) d3
    have := Nat.pow_lt_pow_right (a := 2) (by decide) z
    omega
  · rintro ⟨h1, h2⟩
    exact Nat.mul_dvd_mul (Nat.pow_dvd_pow 2 h1) h2
structure Ways (x : Nat × Nat) (m n : Nat) : Prop where
  n1 : 1 ≤ n
  le : m + n ≤ 24
  eq : ∀ i j, i < j → (itN i x = itN j x ↔ m ≤ i ∧ (oddOf x.2) ∣ 2 ^ (j - i) - 1)
  dv : oddOf x.2 ∣ 2 ^ n - 1
  lt : ∀ k, 1 ≤ k → k < n → ¬ oddOf x.2 ∣ 2 ^ k - 1
theorem ways {x : Nat × Nat} (h : Plc x) : Ways x (wayN x) (perN x) := by
  have hp := h.pos
  have hs := h.small
  obtain ⟨e1, e2⟩ := odd_spec hp (Nat.lt_trans hs (by decide))
  obtain ⟨m', n', h1, h2, h3⟩ := h.bot
  rw [e1, dvd_split e2 h1] at h3
  have ho := ord_spec h1 (by omega) h3.2
  refine ⟨ho.1, ?_, fun i j hij => ?_, ho.2.2.1, ho.2.2.2⟩
  · have := ho.2.1
    have : twos x.2 ≤ m' := h3.1
    unfold wayN perN
    omega
  · rw [it_eq h (Nat.le_of_lt hij)]
    conv => lhs; rw [e1]
    rw [dvd_split e2 (by omega)]
    rfl
namespace Ways
variable {x : Nat × Nat} {m n : Nat}
theorem back (w : Ways x m n) : itN (m + n) x = itN m x := by
  symm
  have := w.n1
  rw [w.eq m (m + n) (by omega)]
  exact ⟨Nat.le_refl _, by rw [show m + n - m = n by omega]; exact w.dv⟩
theorem ne (w : Ways x m n) {i j : Nat} (h1 : i < j) (h2 : j < m + n) : itN i x ≠ itN j x := by
  intro z
  obtain ⟨a, b⟩ := (w.eq i j h1).mp z
  exact w.lt (j - i) (by omega) (by omega) b
theorem inj (w : Ways x m n) {i j : Nat} (h1 : i < m + n) (h2 : j < m + n) (h : itN i x = itN j x) : i = j := by
  rcases Nat.lt_trichotomy i j with z | z | z
  · exact absurd h (w.ne z h2)
  · exact z
  · exact absurd h.symm (w.ne z h1)
end Ways
/-- the orbit -/
def orbN (x : Nat × Nat) : List (Nat × Nat) := (List.range (wayN x + perN x)).map fun i => itN i x
theorem orb_len (x : Nat × Nat) : (orbN x).length = wayN x + perN x := by simp [orbN]
theorem orb_get {x : Nat × Nat} {i : Nat} (h : i < wayN x + perN x) : (orbN x)[i]? = some (itN i x) := by simp [orbN, h]
theorem orb_plc {x : Nat × Nat} (h : Plc x) : ∀ y ∈ orbN x, Plc y := by
  intro y hy
  obtain ⟨i, _, rfl⟩ := List.mem_map.mp hy
  exact it_plc h i
/-- the first i places of the orbit -/
def preN (x : Nat × Nat) (i : Nat) : List (Nat × Nat) := (List.range i).map fun i => itN i x
theorem pre_succ (x : Nat × Nat) (i : Nat) : preN x (i + 1) = preN x i ++ [itN i x] := by simp [preN, List.range_succ]
theorem pre_len (x : Nat × Nat) (i : Nat) : (preN x i).length = i := by simp [preN]
theorem pre_mem {x : Nat × Nat} (h : Plc x) {i : Nat} (hi : i ≤ wayN x + perN x) : itN i x ∈ preN x i ↔ i = wayN x + perN x := by
  have w := ways h
  constructor
  · intro hm
    obtain ⟨j, hj, e⟩ := List.mem_map.mp hm
    have hj := List.mem_range.mp hj
    by_cases z : i = wayN x + perN x
    · exact z
    · exact absurd e (w.ne hj (by omega))
  · intro e
    have := w.n1
    rw [e, w.back]
    exact List.mem_map.mpr ⟨wayN x, List.mem_range.mpr (by omega), rfl⟩
/-! ### for the defs -/
theorem twos_bits {b : Nat} (h1 : 0 < b) (h2 : b < 2 ^ 60) : Builtin.bitAnd (b : Int) (-(b : Int)) = ((2 ^ twos b : Nat) : Int) := by
  obtain ⟨o, ho⟩ := twos_spec h1 h2
  have e : (b : Int) = 2 ^ twos b * (2 * (o : Int) + 1) := by
    conv => lhs; rw [ho]
    push_cast
    rfl
  conv => lhs; rw [e]
  rw [PySem.W.kbt_low]
  push_cast
  rfl
theorem pow_bits (k : Nat) : Builtin.Int.intBits ((2 ^ k : Nat) : Int) = k + 1 := by
  unfold Builtin.Int.intBits
  have hp := two_pow_pos k
  have e : (((2 ^ k : Nat) : Int) == 0) = false := beq_eq_false_iff_ne.mpr fun z => by
    have : (2 ^ k : Nat) = 0 := Int.ofNat.inj z
    omega
  rw [e, Int.natAbs_natCast, Nat.log2_two_pow]
  rfl
theorem ord_first {o k : Nat} (h1 : 1 ≤ k) (h2 : k ≤ 24) (h : (2 ^ k - 1) % o = 0) (hb : ∀ j, 1 ≤ j → j < k → ¬ (2 ^ j - 1) % o = 0) : ordN o = k := by
  unfold ordN
  have : (List.range 24).find? (fun i => (2 ^ (i + 1) - 1) % o == 0) = some (k - 1) := by
    rw [List.find?_range_eq_some]
    refine ⟨by rw [show k - 1 + 1 = k by omega, beq_iff_eq]; exact h, List.mem_range.mpr (by omega), fun j hj => ?_⟩
    rw [Bool.not_eq_true', beq_eq_false_iff_ne]
    exact hb (j + 1) (by omega) (by omega)
  rw [this]
  show k - 1 + 1 = k
  omega
theorem ord_none {o : Nat} (h : ∀ j, 1 ≤ j → j ≤ 24 → ¬ (2 ^ j - 1) % o = 0) : ordN o = 0 := by
  unfold ordN
  have : (List.range 24).find? (fun i => (2 ^ (i + 1) - 1) % o == 0) = none := by
    rw [List.find?_eq_none]
    intro i hi
    rw [beq_iff_eq]
    exact h (i + 1) (by omega) (by have := List.mem_range.mp hi; omega)
  rw [this]
theorem odd_pos {b : Nat} (h1 : 0 < b) (h2 : b < 2 ^ 60) : 0 < oddOf b := by have := (odd_spec h1 h2).2; omega
theorem bits_le {b k : Nat} (h1 : 0 < b) (h : b < 2 ^ k) : Builtin.Int.intBits (b : Int) ≤ k := by
  unfold Builtin.Int.intBits
  have e : ((b : Int) == 0) = false := beq_eq_false_iff_ne.mpr fun z => by omega
  rw [e, Int.natAbs_natCast]
  have := (Nat.log2_lt (by omega : b ≠ 0)).mpr h
  simp
  omega
theorem dig_lt (k : Nat) : 2 ^ k - 1 < 2 ^ k := by have := two_pow_pos k; omega
/-! ### digits -/
def dig (y : Nat × Nat) : Nat := if 2 * y.1 < y.2 then 48 else 49
def digL (x : Nat × Nat) : List Nat := (orbN x).map dig
theorem digL_len (x : Nat × Nat) : (digL x).length = wayN x + perN x := by simp [digL, orb_len]
theorem digL_dg (x : Nat × Nat) : Dg (digL x) := by
  intro c hc
  obtain ⟨y, _, rfl⟩ := List.mem_map.mp hc
  unfold dig
  split
  · exact .inl rfl
  · exact .inr rfl
/-! ### readings -/
section
variable {K : PySem.W.Frag} {σ : L2.St} {H : Hp} {Q : VK} {v y : V} {to : TE}
def rBits (x : V) (H : Hp) (Q : VK) : Prop := ∃ i, x = .int i ∧ Q (.int (Builtin.Int.intBits i : Nat)) H
theorem w_bits (h : to σ H fun x H1 => rBits x H1 Q) : tBits to σ H Q := h
theorem w_bitsI {i : Int} (h : Q (.int (Builtin.Int.intBits i : Nat)) H) : rBits (.int i) H Q := ⟨i, rfl, h⟩
def rDivmod : List V → Hp → VK → Prop := fun xs H Q => ∃ i j, xs = [.int i, .int j] ∧ CDivP i j ∧ ∀ p, H p = none → Q (.ref p) (upd H p (.tup [.int (i / j), .int (i % j)]))
theorem cl_divmod {X : Cx} : CallR X (.builtin "divmod") rDivmod := call_divmodW
theorem w_divmod {i j : Int} (hc : CDivP i j) (q : ∀ p H', Same H H' → Dp K H' (.ref p) (.tuple [.int (i / j), .int (i % j)]) → Q (.ref p) H') : rDivmod [.int i, .int j] H Q :=
  ⟨i, j, rfl, hc, fun p hp => q p _ (same_new hp) (dp_newT upd_same (.cons (.int _) (.cons (.int _) .nil)))⟩
def rIndexK (K : PySem.W.Frag) : V → List V → Hp → VK → Prop := fun x xs H Q => ∃ (a : Addr) (y : V) (d : PyData) (ds : List PyData) (j : Nat) (z : PyData), x = V.ref a ∧ xs = [y] ∧ Dp K H (V.ref a) (.list ds) ∧ Dp K H y d ∧ SeqAt.shaped (.list ds) = true ∧ SeqAt.shaped d = true ∧
  ds[j]? = some z ∧ PyData.eqv z d = true ∧ (∀ (m : Nat) (z' : PyData), m < j → ds[m]? = some z' → PyData.eqv z' d = false) ∧ Q (.int (j : Nat)) H
theorem mt_indexK {X : Cx} {K : PySem.W.Frag} (hu : X.A.units + 65 < cLine) (h : X.K = K := by rfl) : MtR X "list.index" (rIndexK K) := h ▸ mt_indexD hu
theorem w_index {d : PyData} {ds : List PyData} {j : Nat} (h1 : Dp K H v (.list ds)) (h2 : Dp K H y d) (p1 : pln 8 d = true) (p2 : ∀ z ∈ ds, pln 8 z = true) (hj : ds[j]? = some d) (hn : ∀ m, m < j → ds[m]? ≠ some d) (q : Q (.int (j : Nat)) H) : rIndexK K v [y] H Q := by
  obtain ⟨a, xs, rfl, hs, ha⟩ := dp_lst h1
  refine ⟨a, y, d, ds, j, d, rfl, rfl, h1, h2, pln_shaped (pln_list p2) (by decide), pln_shaped p1 (by decide), hj, (pln_eqv 8 8 d d p1 p1).mpr rfl, fun m z' hm hz => ?_, q⟩
  cases he : PyData.eqv z' d with
  | false => rfl
  | true =>
    have := (pln_eqv 8 8 z' d (p2 z' (List.mem_of_getElem? hz)) p1).mp he
    subst this
    exact absurd hz (hn m hm)
theorem w_tyLD {ds : List PyData} {A : Prop} (h : Dp K H v (.list ds)) (q : A) : tyV K "list" v H ∧ A := by
  obtain ⟨a, xs, rfl, hs, ha⟩ := dp_lst h
  exact ⟨.inl ⟨rfl, xs, hs⟩, q⟩
end
/-! ### digits of a place: what they are worth -/
/-- the numerator over x's own denominator -/
def aN (x : Nat × Nat) (i : Nat) : Nat := 2 ^ i * x.1 % x.2
theorem it_aN {x : Nat × Nat} (h : Plc x) (i : Nat) : itN i x = red (aN x i) x.2 := it_red h i
theorem aN_lt {x : Nat × Nat} (h : Plc x) (i : Nat) : aN x i < x.2 := Nat.mod_lt _ h.pos
theorem red_low {p q : Nat} (hq : 0 < q) : 2 * (red p q).1 < (red p q).2 ↔ 2 * p < q := by
  have hc := red_cross (p := p) (q := q)
  have h0 := red_pos (p := p) hq
  constructor
  · intro h
    have : 2 * (red p q).1 * q < (red p q).2 * q := Nat.mul_lt_mul_of_pos_right h hq
    rw [Nat.mul_assoc, hc, ← Nat.mul_assoc, Nat.mul_comm _ q] at this
    exact Nat.lt_of_mul_lt_mul_right this
  · intro h
    have : 2 * p * (red p q).2 < q * (red p q).2 := Nat.mul_lt_mul_of_pos_right h h0
    rw [Nat.mul_assoc, ← hc, ← Nat.mul_assoc, Nat.mul_comm q] at this
    exact Nat.lt_of_mul_lt_mul_right this
theorem aN_succ {x : Nat × Nat} (h : Plc x) (i : Nat) : aN x (i + 1) + (dig (itN i x) - 48) * x.2 = 2 * aN x i := by
  have hp := h.pos
  have hl := aN_lt h i
  have e : aN x (i + 1) = 2 * aN x i % x.2 := by
    unfold aN
    rw [Nat.pow_succ, Nat.mul_comm (2 ^ i) 2, Nat.mul_assoc]
    conv => lhs; rw [Nat.mul_mod]
    conv => rhs; rw [Nat.mul_mod, Nat.mod_mod]
  have hd := red_low (p := aN x i) hp
  rw [← it_aN h] at hd
  rw [e]
  unfold dig
  split
  · rename_i z
    have := hd.mp z
    rw [Nat.mod_eq_of_lt this]; simp
  · rename_i z
    have z2 : ¬ 2 * aN x i < x.2 := fun w => z (hd.mpr w)
    rw [show 2 * aN x i = (2 * aN x i - x.2) + x.2 by omega, Nat.add_mod_right, Nat.mod_eq_of_lt (by omega)]
    simp
def digsFrom (x : Nat × Nat) (i k : Nat) : List Nat := (List.range k).map fun j => dig (itN (i + j) x)
theorem digsFrom_succ (x : Nat × Nat) (i k : Nat) : digsFrom x i (k + 1) = digsFrom x i k ++ [dig (itN (i + k) x)] := by simp [digsFrom, List.range_succ]
theorem digs_val {x : Nat × Nat} (h : Plc x) (i k : Nat) : bv (digsFrom x i k) * x.2 + aN x (i + k) = 2 ^ k * aN x i := by
  induction k with
  | zero => simp [digsFrom, bv]
  | succ k ih =>
    rw [digsFrom_succ, bv_snoc]
    have := aN_succ h (i + k)
    rw [← Nat.add_assoc, Nat.pow_succ, Nat.mul_comm (2 ^ k) 2, Nat.mul_assoc, ← ih, Nat.add_mul]
    generalize (dig (itN (i + k) x) - 48) * x.2 = u at *
    rw [Nat.mul_add, ← this, Nat.mul_assoc]
    omega
theorem digL_take (x : Nat × Nat) : (digL x).take (wayN x) = digsFrom x 0 (wayN x) := by
  unfold digL orbN digsFrom
  rw [List.map_map, ← List.map_take, List.take_range, Nat.min_eq_left (by omega)]
  apply List.map_congr_left
  intro j _
  simp
theorem digL_drop (x : Nat × Nat) : (digL x).drop (wayN x) = digsFrom x (wayN x) (perN x) := by
  unfold digL orbN digsFrom
  rw [List.map_map]
  apply List.ext_getElem?
  intro j
  simp only [List.getElem?_drop, List.getElem?_map]
  by_cases z : j < perN x
  · rw [List.getElem?_range (by omega), List.getElem?_range z]
    simp
  · rw [List.getElem?_eq_none (by simp; omega), List.getElem?_eq_none (by simp; omega)]
    rfl
def frontL (x : Nat × Nat) : List Nat := (digL x).take (wayN x)
def backL (x : Nat × Nat) : List Nat := (digL x).drop (wayN x)
theorem front_len (x : Nat × Nat) : (frontL x).length = wayN x := by unfold frontL; rw [List.length_take, digL_len]; omega
theorem back_len (x : Nat × Nat) : (backL x).length = perN x := by unfold backL; rw [List.length_drop, digL_len]; omega
theorem front_dg (x : Nat × Nat) : Dg (frontL x) := fun c hc => digL_dg x c (List.mem_of_mem_take hc)
theorem back_dg (x : Nat × Nat) : Dg (backL x) := fun c hc => digL_dg x c (List.mem_of_mem_drop hc)
/-- the digits are those of the place -/
theorem bin_digits {x : Nat × Nat} (h : Plc x) : binN (frontL x) (backL x) = x := by
  have hp := h.pos
  have w := ways h
  have hw1 := w.n1
  have e1 := digs_val h 0 (wayN x)
  have e2 := digs_val h (wayN x) (perN x)
  rw [← digL_take, Nat.zero_add] at e1
  rw [← digL_drop] at e2
  have a0 : aN x 0 = x.1 := by unfold aN; rw [Nat.pow_zero, Nat.one_mul, Nat.mod_eq_of_lt h.lt]
  have ab : aN x (wayN x + perN x) = aN x (wayN x) := by
    have := w.back
    rw [it_aN h, it_aN h] at this
    exact red_inj hp this
  rw [a0] at e1
  rw [ab] at e2
  have hw : 1 ≤ 2 ^ perN x := two_pow_pos _
  unfold binN botN
  rw [front_len, back_len]
  have hB : 0 < 2 ^ wayN x * (2 ^ perN x - 1) := bot_pos hw1
  have e3 : bv (backL x) * x.2 = (2 ^ perN x - 1) * aN x (wayN x) := by
    rw [Nat.sub_mul, Nat.one_mul, ← e2]
    unfold backL
    omega
  have key : (bv (frontL x) * (2 ^ perN x - 1) + bv (backL x)) * x.2 = x.1 * (2 ^ wayN x * (2 ^ perN x - 1)) := by
    rw [Nat.add_mul, e3]
    have e4 : bv (frontL x) * x.2 + aN x (wayN x) = 2 ^ wayN x * x.1 := e1
    generalize 2 ^ perN x - 1 = W at *
    generalize bv (frontL x) = f at *
    generalize aN x (wayN x) = A at *
    calc f * W * x.2 + W * A = W * (f * x.2 + A) := by grind
      _ = W * (2 ^ wayN x * x.1) := by rw [e4]
      _ = x.1 * (2 ^ wayN x * W) := by grind
  have hlt : bv (frontL x) * (2 ^ perN x - 1) + bv (backL x) < 2 ^ wayN x * (2 ^ perN x - 1) := by
    have : (bv (frontL x) * (2 ^ perN x - 1) + bv (backL x)) * x.2 < 2 ^ wayN x * (2 ^ perN x - 1) * x.2 := by
      rw [key, Nat.mul_comm x.1]
      exact Nat.mul_lt_mul_of_pos_left h.lt hB
    exact Nat.lt_of_mul_lt_mul_right this
  rw [Nat.mod_eq_of_lt hlt]
  exact red_of h.cop hp hB key.symm
/-- one digit moved into the head -/
theorem bv_cons (c : Nat) (r : List Nat) : bv (c :: r) = (c - 48) * 2 ^ r.length + bv r := by
  have gen : ∀ (r : List Nat) (s : Nat), r.foldl (fun s c => 2 * s + (c - 48)) s = s * 2 ^ r.length + bv r := by
    intro r
    induction r with
    | nil => intro s; simp [bv]
    | cons d r ih =>
      intro s
      have h1 := ih (2 * s + (d - 48))
      have h2 := ih (2 * 0 + (d - 48))
      show r.foldl _ (2 * s + (d - 48)) = s * 2 ^ (r.length + 1) + r.foldl _ (2 * 0 + (d - 48))
      rw [h1, h2, Nat.pow_succ]
      grind
  have := gen r (2 * 0 + (c - 48))
  show r.foldl _ (2 * 0 + (c - 48)) = _
  rw [this]
  simp
theorem bin_turn (h r : List Nat) (c : Nat) : binN (h ++ [c]) (r ++ [c]) = binN h (c :: r) := by
  have hB : 0 < 2 ^ h.length * (2 ^ (r.length + 1) - 1) := bot_pos (by omega)
  have hw : 1 ≤ 2 ^ (r.length + 1) := two_pow_pos _
  unfold binN botN
  rw [bv_snoc, bv_snoc, bv_cons]
  simp only [List.length_append, List.length_cons, List.length_nil, Nat.zero_add]
  have e1 : 2 ^ (h.length + 1) * (2 ^ (r.length + 1) - 1) = 2 * (2 ^ h.length * (2 ^ (r.length + 1) - 1)) := by rw [Nat.pow_succ]; grind
  have e2 : (2 * bv h + (c - 48)) * (2 ^ (r.length + 1) - 1) + (2 * bv r + (c - 48)) = 2 * (bv h * (2 ^ (r.length + 1) - 1) + ((c - 48) * 2 ^ r.length + bv r)) := by
    have e3 : 2 ^ (r.length + 1) = (2 ^ (r.length + 1) - 1) + 1 := by omega
    have e4 : 2 ^ (r.length + 1) = 2 * 2 ^ r.length := by rw [Nat.pow_succ]; omega
    generalize 2 ^ (r.length + 1) - 1 = W at *
    rw [e3] at e4
    generalize 2 ^ r.length = V at *
    have : W = 2 * V - 1 := by omega
    have hV : 1 ≤ V := by omega
    obtain ⟨u, rfl⟩ : ∃ u, V = u + 1 := ⟨V - 1, by omega⟩
    have : W = 2 * u + 1 := by omega
    subst this
    grind
  rw [e1, e2, Nat.mul_mod_mul_left]
  refine red_eq (by omega) hB ?_
  grind
/-- all digits exchanged -/
def swC (c : Nat) : Nat := if c = 49 then 48 else 49
theorem bv_swap : ∀ (l : List Nat), Dg l → bv (l.map swC) + bv l = 2 ^ l.length - 1 := by
  intro l
  induction l with
  | nil => intro _; rfl
  | cons c r ih =>
    intro h
    have h1 := ih fun d hd => h d (List.mem_cons_of_mem _ hd)
    have hp := two_pow_pos r.length
    rw [List.map_cons, bv_cons, bv_cons, List.length_map, List.length_cons, Nat.pow_succ]
    rcases h c List.mem_cons_self with rfl | rfl
    · simp [swC]; omega
    · simp [swC]; omega
theorem dg_swap {l : List Nat} (h : Dg l) : Dg (l.map swC) := by
  intro c hc
  obtain ⟨d, _, rfl⟩ := List.mem_map.mp hc
  unfold swC
  split
  · exact .inl rfl
  · exact .inr rfl
theorem red_mirN {p q : Nat} (hq : 0 < q) (hp : p ≤ q) : red ((q - p) % q) q = mirN (red (p % q) q) := by
  have hl : p % q < q := Nat.mod_lt _ hq
  generalize hr : p % q = r at *
  have e : (q - p) % q = if r = 0 then 0 else q - r := by
    by_cases z : p = q
    · subst z
      rw [Nat.mod_self] at hr
      rw [if_pos hr.symm, Nat.sub_self, Nat.zero_mod]
    · have : r = p := by rw [← hr, Nat.mod_eq_of_lt (by omega)]
      subst this
      split
      · rename_i z0; rw [z0, Nat.sub_zero, Nat.mod_self]
      · rw [Nat.mod_eq_of_lt (by omega)]
  rw [e]
  have hc := red_cross (p := r) (q := q)
  have h0 := red_pos (p := r) hq
  have hlt := red_lt hl
  have hcop := red_coprime (p := r) hq
  generalize red r q = x at *
  have hm : Nat.Coprime (mirN x).1 (mirN x).2 := by
    show Nat.Coprime (if x.1 = 0 then 0 else x.2 - x.1) x.2
    split
    · rename_i z; rw [z] at hcop; exact hcop
    · unfold Nat.Coprime at hcop ⊢
      rw [Nat.gcd_comm, Nat.gcd_self_sub_right (Nat.le_of_lt hlt), Nat.gcd_comm]
      exact hcop
  refine red_of hm h0 hq ?_
  show (if x.1 = 0 then 0 else x.2 - x.1) * q = (if r = 0 then 0 else q - r) * x.2
  by_cases z : r = 0
  · have z1 : x.1 = 0 := by
      rw [z, Nat.zero_mul] at hc
      rcases Nat.mul_eq_zero.mp hc with w | w
      · exact w
      · omega
    rw [if_pos z, if_pos z1, Nat.zero_mul, Nat.zero_mul]
  · have z1 : x.1 ≠ 0 := by
      intro w
      rw [w, Nat.zero_mul] at hc
      rcases Nat.mul_eq_zero.mp hc.symm with u | u
      · exact z u
      · omega
    rw [if_neg z, if_neg z1, Nat.sub_mul, Nat.sub_mul, hc, Nat.mul_comm x.2 q]
theorem bin_swap {h t : List Nat} (dh : Dg h) (dt : Dg t) (ht : t ≠ []) : binN (h.map swC) (t.map swC) = mirN (binN h t) := by
  have hB := botN_pos (h := h) ht
  have e1 := bv_swap h dh
  have e2 := bv_swap t dt
  have b1 := bv_lt h dh
  have b2 := bv_lt t dt
  have p1 := two_pow_pos h.length
  unfold binN
  rw [show botN (h.map swC) (t.map swC) = botN h t by simp [botN], List.length_map]
  have hle : bv h * (2 ^ t.length - 1) + bv t ≤ botN h t := by
    unfold botN
    have : (bv h + 1) * (2 ^ t.length - 1) ≤ 2 ^ h.length * (2 ^ t.length - 1) := Nat.mul_le_mul_right _ b1
    rw [Nat.add_mul, Nat.one_mul] at this
    omega
  have e3 : bv (h.map swC) * (2 ^ t.length - 1) + bv (t.map swC) = botN h t - (bv h * (2 ^ t.length - 1) + bv t) := by
    have e4 : bv (t.map swC) = (2 ^ t.length - 1) - bv t := by omega
    have e5 : bv (h.map swC) = 2 ^ h.length - 1 - bv h := by omega
    rw [e4, e5]
    unfold botN at *
    generalize 2 ^ t.length - 1 = W at *
    have : (2 ^ h.length - 1 - bv h) * W = 2 ^ h.length * W - (bv h + 1) * W := by rw [← Nat.sub_mul]; congr 1; omega
    rw [this, Nat.add_mul, Nat.one_mul]
    have : (bv h + 1) * W ≤ 2 ^ h.length * W := Nat.mul_le_mul_right _ b1
    rw [Nat.add_mul, Nat.one_mul] at this
    omega
  rw [e3]
  exact red_mirN hB hle
/-! ### the doubled place's orbit -/
theorem twosF_half {f b : Nat} (h : b % 2 = 0) (hb : 0 < b) (hf : b < 2 ^ f) : twosF (f + 1) b = twosF f (b / 2) + 1 := by
  show (if b % 2 = 0 then twosF f (b / 2) + 1 else 0) = _
  rw [if_pos h]
theorem twosF_mono : ∀ (f g b : Nat), 0 < b → b < 2 ^ f → b < 2 ^ g → twosF f b = twosF g b := by
  intro f
  induction f with
  | zero => intro g b h1 h2; omega
  | succ f ih =>
    intro g b h1 h2 h3
    cases g with
    | zero => omega
    | succ g =>
      show (if b % 2 = 0 then twosF f (b / 2) + 1 else 0) = (if b % 2 = 0 then twosF g (b / 2) + 1 else 0)
      split
      · rw [ih g (b / 2) (by omega) (by rw [Nat.pow_succ] at h2; omega) (by rw [Nat.pow_succ] at h3; omega)]
      · rfl
theorem twos_even {b : Nat} (h1 : 0 < b) (h2 : b < 2 ^ 50) (e : b % 2 = 0) : twos b = twos (b / 2) + 1 := by
  have h60 : (2 : Nat) ^ 50 < 2 ^ 60 := by decide
  have h59 : (2 : Nat) ^ 50 < 2 ^ 59 := by decide
  show twosF (59 + 1) b = twosF 60 (b / 2) + 1
  rw [twosF_half e h1 (by omega), twosF_mono 59 60 (b / 2) (by omega) (by omega) (by omega)]
theorem twos_odd {b : Nat} (e : b % 2 = 1) : twos b = 0 := by
  show (if b % 2 = 0 then twosF 59 (b / 2) + 1 else 0) = 0
  rw [if_neg (by omega)]
theorem odd_half {b : Nat} (h1 : 0 < b) (h2 : b < 2 ^ 50) (e : b % 2 = 0) : oddOf (b / 2) = oddOf b := by
  unfold oddOf
  rw [twos_even h1 h2 e, Nat.pow_succ, Nat.div_div_eq_div_mul, Nat.mul_comm 2]
theorem dbl_ways {x : Nat × Nat} (h : Plc x) : wayN (dblN x) = wayN x - 1 ∧ perN (dblN x) = perN x := by
  have hp := h.pos
  have hs := h.small
  have h50 : (2 : Nat) ^ 24 < 2 ^ 50 := by decide
  unfold wayN perN dblN
  split
  · rename_i e
    refine ⟨?_, ?_⟩
    · show twos (x.2 / 2) = twos x.2 - 1
      rw [twos_even hp (by omega) e]; omega
    · show ordN (oddOf (x.2 / 2)) = ordN (oddOf x.2)
      rw [odd_half hp (by omega) e]
  · rename_i e
    refine ⟨?_, rfl⟩
    show twos x.2 = twos x.2 - 1
    rw [twos_odd (by omega)]
theorem digL_dbl {x : Nat × Nat} (h : Plc x) : (frontL (dblN x), backL (dblN x)) = if wayN x = 0 then ([], (backL x).tail ++ (backL x).take 1) else ((frontL x).tail, backL x) := by
  have w := ways h
  have w1 := w.n1
  obtain ⟨d1, d2⟩ := dbl_ways h
  have hit : ∀ i, itN i (dblN x) = itN (i + 1) x := fun i => rfl
  have fd : ∀ y i k, digsFrom y i k = (List.range k).map fun j => dig (itN (i + j) y) := fun _ _ _ => rfl
  unfold frontL backL
  rw [digL_take, digL_drop, digL_take, digL_drop, d1, d2]
  by_cases z : wayN x = 0
  · rw [if_pos z, z]
    have e0 : itN (0 + perN x) x = itN 0 x := by have := w.back; rwa [z] at this
    refine Prod.ext rfl ?_
    show digsFrom (dblN x) 0 (perN x) = (digsFrom x 0 (perN x)).tail ++ (digsFrom x 0 (perN x)).take 1
    obtain ⟨n, hn⟩ : ∃ n, perN x = n + 1 := ⟨perN x - 1, by omega⟩
    rw [hn] at e0 ⊢
    have e1 : digsFrom x 0 (n + 1) = dig (itN 0 x) :: (List.range n).map fun j => dig (itN (j + 1) x) := by
      rw [fd, List.range_succ_eq_map, List.map_cons, List.map_map]
      congr 1
      apply List.map_congr_left
      intro j _
      simp
    rw [e1, digsFrom_succ, fd]
    simp only [List.tail_cons, List.take_succ_cons, List.take_zero, hit, Nat.zero_add] at *
    rw [e0]
  · rw [if_neg z]
    obtain ⟨m, hm⟩ : ∃ m, wayN x = m + 1 := ⟨wayN x - 1, by omega⟩
    rw [hm, Nat.add_sub_cancel]
    refine Prod.ext ?_ ?_
    · show digsFrom (dblN x) 0 m = (digsFrom x 0 (m + 1)).tail
      rw [fd, fd, List.range_succ_eq_map, List.map_cons, List.map_map, List.tail_cons]
      apply List.map_congr_left
      intro j _
      simp [hit]
    · show digsFrom (dblN x) m (perN x) = digsFrom x (m + 1) (perN x)
      rw [fd, fd]
      apply List.map_congr_left
      intro j _
      rw [hit, show m + j + 1 = m + 1 + j by omega]
/-! ### mirrored -/
theorem mir_dbl {x : Nat × Nat} (h : Plc x) : dblN (mirN x) = mirN (dblN x) := by
  have hm := mir_plc h
  have hp := h.pos
  rw [dbl_red hm, dbl_red h]
  show red (2 * (if x.1 = 0 then 0 else x.2 - x.1) % x.2) x.2 = _
  have hl := h.lt
  have e : 2 * (if x.1 = 0 then 0 else x.2 - x.1) % x.2 = (x.2 - 2 * x.1 % x.2) % x.2 := by
    by_cases z : x.1 = 0
    · rw [if_pos z, z]; simp
    · rw [if_neg z]
      by_cases z2 : 2 * x.1 < x.2
      · rw [Nat.mod_eq_of_lt z2, show 2 * (x.2 - x.1) = (x.2 - 2 * x.1) + x.2 by omega, Nat.add_mod_right]
      · rw [show 2 * x.1 = (2 * x.1 - x.2) + x.2 by omega, Nat.add_mod_right, Nat.mod_eq_of_lt (show 2 * x.1 - x.2 < x.2 by omega)]
        congr 1
        omega
  rw [e, red_mirN hp (Nat.le_of_lt (Nat.mod_lt _ hp)), Nat.mod_mod]
theorem mir_it {x : Nat × Nat} (h : Plc x) (i : Nat) : itN i (mirN x) = mirN (itN i x) := by
  induction i with
  | zero => rfl
  | succ i ih => rw [itN_succ, ih, mir_dbl (it_plc h i), itN_succ]
theorem mir_digs {x : Nat × Nat} (h : Plc x) (hn : ∀ i, i < wayN x + perN x → (itN i x).1 ≠ 0 ∧ 2 * (itN i x).1 ≠ (itN i x).2) : frontL (mirN x) = (frontL x).map swC ∧ backL (mirN x) = (backL x).map swC := by
  have hw : wayN (mirN x) = wayN x := rfl
  have hpr : perN (mirN x) = perN x := rfl
  have hd : digL (mirN x) = (digL x).map swC := by
    unfold digL orbN
    rw [hw, hpr, List.map_map, List.map_map, List.map_map]
    apply List.map_congr_left
    intro i hi
    have := hn i (List.mem_range.mp hi)
    have hl := (it_plc h i).lt
    show dig (itN i (mirN x)) = swC (dig (itN i x))
    rw [mir_it h]
    unfold dig mirN swC
    simp only [if_neg this.1]
    by_cases z : 2 * (itN i x).1 < (itN i x).2
    · rw [if_pos z, if_neg (by omega), if_neg (by decide)]
    · rw [if_neg z, if_pos (by omega), if_pos rfl]
  unfold frontL backL
  rw [hd, hw, List.map_take, List.map_drop]
  exact ⟨rfl, rfl⟩
/-- a place that comes to zero has the cycle "0" -/
theorem zero_back {x : Nat × Nat} (h : Plc x) {i : Nat} (hi : (itN i x).1 = 0) : backL x = [48] := by
  have hz : ∀ y : Nat × Nat, Plc y → y.1 = 0 → y = (0, 1) := by
    intro y hy e
    have hc := hy.cop
    rw [e] at hc
    have : y.2 = 1 := by simpa [Nat.Coprime] using hc
    exact Prod.ext e this
  have e0 : itN i x = (0, 1) := hz _ (it_plc h i) hi
  have d0 : dblN (0, 1) = (0, 1) := by decide
  have e1 : itN (i + 1) x = itN i x := by rw [itN_succ, e0, d0]
  have w := ways h
  have hper : perN x = 1 := by
    have h1 := (w.eq i (i + 1) (by omega)).mp e1.symm
    have h2 := w.lt 1 (by omega)
    have h3 := w.n1
    by_cases z : perN x = 1
    · exact z
    · have := h2 (by omega)
      rw [show i + 1 - i = 1 by omega] at h1
      exact absurd h1.2 this
  have hway : wayN x ≤ i := ((w.eq i (i + 1) (by omega)).mp e1.symm).1
  have e2 : itN (wayN x) x = (0, 1) := by
    have hb := w.back
    rw [hper] at hb
    have : ∀ k, itN (wayN x + k) x = itN (wayN x) x := by
      intro k
      induction k with
      | zero => rfl
      | succ k ih => rw [← Nat.add_assoc, itN_succ, ih, ← itN_succ, hb]
    have := this (i - wayN x)
    rw [show wayN x + (i - wayN x) = i by omega] at this
    rw [← this, e0]
  unfold backL
  rw [digL_drop, hper]
  show [dig (itN (wayN x + 0) x)] = [48]
  rw [Nat.add_zero, e2]
  rfl
theorem half_zero {y : Nat × Nat} (h : Plc y) (e : 2 * y.1 = y.2) : (dblN y).1 = 0 := by
  rw [dbl_red h, e, Nat.mod_self]
  show 0 / _ = 0
  simp
theorem rep_dg {n : Nat} {l : List Nat} (h : Dg l) : Dg (List.replicate n l).flatten := by
  intro c hc
  obtain ⟨y, hy, hc⟩ := List.mem_flatten.mp hc
  rw [(List.mem_replicate.mp hy).2] at hc
  exact h c hc
theorem repl_len (n : Nat) (l : List Nat) : (List.replicate n l).flatten.length = n * l.length := by
  induction n with
  | zero => simp
  | succ n ih => rw [List.replicate_succ, List.flatten_cons, List.length_append, ih, Nat.succ_mul]; omega
theorem dg_one : Dg [49] := fun c hc => by simp at hc; exact .inr hc
theorem dg_zero : Dg [48] := fun c hc => by simp at hc; exact .inl hc
theorem dg_nil : Dg [] := fun c hc => by cases hc
end Tw
namespace Tw
open PySem PySem.Spec PyProof.Rows L2
namespace Bn
open PySem.NumText PySem.Calls
def IsB (c : Nat) : Prop := c = 48 ∨ c = 49
theorem hexOf {c : Nat} (h : IsB c) : Hx.IsHex c := by rcases h with rfl | rfl <;> exact .inl ⟨by decide, by decide⟩
theorem one_step {ds : Array Nat} {b : Bool} {c : Nat} (h : IsB c) : PySem.NumText.step 2 (ds, b) c = some (ds.push (c - 48), true) := by
  rcases h with rfl | rfl <;> rfl
theorem all_steps (cs : List Nat) : ∀ ds : Array Nat, (∀ c ∈ cs, IsB c) → cs.foldlM (PySem.NumText.step 2) (ds, true) = some (cs.foldl (fun r c => r.push (c - 48)) ds, true) := by
  induction cs with
  | nil => intro _ _; rfl
  | cons c cs ih =>
    intro ds h
    rw [List.foldlM_cons, one_step (h c List.mem_cons_self)]
    exact ih _ fun d hd => h d (List.mem_cons_of_mem _ hd)
theorem digitsB {cs : List Nat} (h : ∀ c ∈ cs, IsB c) (hne : cs ≠ []) : digits? 2 cs = some (cs.foldl (fun r c => r.push (c - 48)) #[]) := by
  obtain ⟨c, r, rfl⟩ := List.exists_cons_of_ne_nil hne
  unfold digits?
  rw [List.foldlM_cons, one_step (h c List.mem_cons_self)]
  have := all_steps r ((#[] : Array Nat).push (c - 48)) fun d hd => h d (List.mem_cons_of_mem _ hd)
  show (r.foldlM (PySem.NumText.step 2) ((#[] : Array Nat).push (c - 48), true)).bind _ = _
  rw [this]
  rfl
/-- what the signs are worth -/
def val (l : List Nat) : Nat := l.foldl (fun a c => 2 * a + (c - 48)) 0
theorem val_push (cs : List Nat) : ∀ ds : Array Nat, (cs.foldl (fun r c => r.push (c - 48)) ds).foldl (fun acc d => acc * 2 + d) 0 = cs.foldl (fun a c => 2 * a + (c - 48)) (ds.foldl (fun acc d => acc * 2 + d) 0) := by
  induction cs with
  | nil => intro _; rfl
  | cons c cs ih =>
    intro ds
    rw [List.foldl_cons, ih, List.foldl_cons]
    congr 1
    simp
    omega
theorem basedB {cs : List Nat} (h : ∀ c ∈ cs, IsB c) : based 2 cs = (2, false, cs) := by
  match cs, h with
  | [], _ => rfl
  | [a], h => rcases h a List.mem_cons_self with rfl | rfl <;> rfl
  | a :: c :: r, h =>
    rcases h a List.mem_cons_self with rfl | rfl
    · rcases h c (List.mem_cons_of_mem _ List.mem_cons_self) with rfl | rfl <;> rfl
    · rfl
theorem readB {cs : List Nat} (h : ∀ c ∈ cs, IsB c) (hne : cs ≠ []) : (int_private% "readNumeral") 0 2 cs = (int_private% "Numeral.value") ((val cs : Nat) : Int) := by
  have hx : ∀ c ∈ cs, Hx.IsHex c := fun c hc => hexOf (h c hc)
  have hr : ∀ c ∈ cs.reverse, Hx.IsHex c := fun c hc => hx c (List.mem_reverse.mp hc)
  rw [readNumeral_eq 0 2 cs, Hx.dropB hx, Hx.signH hx]
  show judge 0 false (based 2 cs).1 (based 2 cs).2.1 (digits? (based 2 cs).1 (((based 2 cs).2.2.reverse.dropWhile blank).reverse)) = _
  rw [basedB h]
  show judge 0 false 2 false (digits? 2 ((cs.reverse.dropWhile blank).reverse)) = _
  rw [Hx.dropB hr, List.reverse_reverse, digitsB h hne]
  show (int_private% "Numeral.value") (((cs.foldl (fun r c => r.push (c - 48)) (#[] : Array Nat)).foldl (fun acc d => acc * 2 + d) 0 : Nat) : Int) = _
  rw [val_push]
  rfl
structure Box (p : Prop) : Prop where
  out : p
set_option maxHeartbeats 4000000 in
theorem gives {x : PySem.Str} {u t : Tok} (hl : x.length ≤ 640) (h : ∀ c ∈ x.cps.toList, IsB c) (hne : x.cps.toList ≠ []) :
    Gives (Builtin.«int.__new__» ⟨[.type "int", .str x u, .int 2 t], []⟩) (.int ((val x.cps.toList : Nat) : Int)) :=
  .of_wp fun M A E s Q hQ => by
    obtain ⟨hp, g, d, tk, os⟩ := s
    have a1 := F.conv_sub_int
    have a2 := F.madeHere_int
    have a3 : typeOf (.str x u) = pure (.type "str") := rfl
    obtain ⟨b1, b2⟩ := Hx.seen_hex (x := x) fun c hc => hexOf (h c hc)
    have c1 : (numSeenOf x).length ≤ 640 := by rw [b2, Array.length_toList]; exact hl
    have c2 : (int_private% "readNumeral") 0 2 (numSeenOf x) = (int_private% "Numeral.value") ((val x.cps.toList : Nat) : Int) := by rw [b2]; exact readB h hne
    have c3 : ((numSeenOf x).length == (numTextOf x).length) = true := by rw [b1, b2]; exact beq_self_eq_true _
    have k := Box.mk (And.intro c1 (And.intro c2 c3))
    clear c1 c2 c3 b1 b2 hl hne h
    repeat (any_goals (first
      | assumption
      | ((with_reducible show wpAny _ _ ((int_private% "intFromText") _ _ _) _ _ _); refine Hx.wp_textB k.out.1 k.out.2.1 k.out.2.2 ?_)
      | wp_step))
    all_goals first | exact ⟨_, rfl, hQ⟩ | skip
end Bn
def rIntB : List V → Hp → VK → Prop := fun xs H Q => ∃ l : List Nat, xs = [.str (Sg l), .int 2] ∧ l ≠ [] ∧ l.length ≤ 640 ∧ (∀ c ∈ l, Bn.IsB c) ∧ Q (.int ((Bn.val l : Nat) : Int)) H
theorem cl_intB {X : Cx} : CallR X (.type "int") rIntB := by
  intro pins s σ H xs us Q I r h
  obtain ⟨l, rfl, hne, hl, hx, q⟩ := h
  obtain ⟨u, w', rfl, r1, r2⟩ := vals2 r
  obtain ⟨t1, rfl⟩ := r1
  obtain ⟨t2, rfl⟩ := r2
  have e := sg_tl l
  refine callType_new PySem.F.called_int PySem.F.newNe_int (Hx.typeCall_int_2 _ _) (Hx.newCall_int_2 _ _) (fun obj => PySem.F.initArgs_range_2 obj _ _) PySem.F.entry_int_new (Bn.gives (x := Sg l) (by rw [sg_len]; exact hl) (by rw [e]; exact hx) (by rw [e]; exact hne)).meets (show (Made.int ((Bn.val (Sg l).cps.toList : Nat) : Int)).post _ s from ⟨rfl, ?_⟩)
  rw [e]
  exact ⟨.int _, H, I.tok _, ⟨_, rfl⟩, q⟩
end Tw
namespace Tw
open PySem PySem.Spec PyProof.Rows L2
/-- a test whose way returns nothing but False, and that doesn't hold -/
theorem w_check {t : TS} {D : Ends} {σ : L2.St} {H : Hp} (h : ∀ nx' : L2.St → Hp → Prop, (∀ H', Same H H' → nx' σ H') → t { D with nx := nx' } σ H) (k : ∀ H', Same H H' → D.nx σ H') : t D σ H := h D.nx k
end Tw
namespace Tw
open PySem PySem.Spec PyProof.Rows L2
/-! ### going back by halves -/
/-- (x + j) / 2 ^ k -/
def hvN (x : Nat × Nat) (k j : Nat) : Nat × Nat := red (x.1 + j * x.2) (2 ^ k * x.2)
theorem hv_zero {x : Nat × Nat} (h : Plc x) : hvN x 0 0 = x := by
  unfold hvN
  rw [Nat.zero_mul, Nat.add_zero, Nat.pow_zero, Nat.one_mul]
  exact red_self h.cop
theorem hv_top {x : Nat × Nat} (h : Plc x) {k j : Nat} (hj : j < 2 ^ k) : x.1 + j * x.2 < 2 ^ k * x.2 := by
  have : (j + 1) * x.2 ≤ 2 ^ k * x.2 := Nat.mul_le_mul_right _ hj
  have := h.lt
  rw [Nat.add_mul, Nat.one_mul] at *
  omega
theorem hv_plc {x : Nat × Nat} (h : Plc x) {m n k j : Nat} (hn : 1 ≤ n) (hmn : m + k + n ≤ 24) (hd : x.2 ∣ 2 ^ m * (2 ^ n - 1)) (hj : j < 2 ^ k) : Plc (hvN x k j) := by
  have hp := h.pos
  have hq : 0 < 2 ^ k * x.2 := Nat.mul_pos (two_pow_pos k) hp
  refine ⟨red_lt (hv_top h hj), red_coprime hq, m + k, n, hn, by omega, ?_⟩
  refine Nat.dvd_trans red_dvd ?_
  rw [Nat.pow_add, Nat.mul_comm (2 ^ m), Nat.mul_assoc]
  exact Nat.mul_dvd_mul_left _ hd
theorem red_half (p q : Nat) (hq : 0 < q) (c : Nat) : red ((red p q).1 + c * (red p q).2) (2 * (red p q).2) = red (p + c * q) (2 * q) := by
  have hc := red_cross (p := p) (q := q)
  have h0 := red_pos (p := p) hq
  refine red_eq (by omega) (by omega) ?_
  generalize red p q = r at *
  grind
theorem hv_low {x : Nat × Nat} (h : Plc x) (k j : Nat) : red (hvN x k j).1 (2 * (hvN x k j).2) = hvN x (k + 1) j := by
  have hq : 0 < 2 ^ k * x.2 := Nat.mul_pos (two_pow_pos k) h.pos
  have := red_half (x.1 + j * x.2) (2 ^ k * x.2) hq 0
  rw [Nat.zero_mul, Nat.zero_mul, Nat.add_zero, Nat.add_zero] at this
  show red (red _ _).1 _ = _
  unfold hvN
  rw [this, Nat.pow_succ]
  congr 1
  rw [Nat.mul_comm (2 ^ k) 2, Nat.mul_assoc]
theorem hv_high {x : Nat × Nat} (h : Plc x) (k j : Nat) : red ((hvN x k j).1 + (hvN x k j).2) (2 * (hvN x k j).2) = hvN x (k + 1) (j + 2 ^ k) := by
  have hq : 0 < 2 ^ k * x.2 := Nat.mul_pos (two_pow_pos k) h.pos
  have := red_half (x.1 + j * x.2) (2 ^ k * x.2) hq 1
  rw [Nat.one_mul, Nat.one_mul] at this
  unfold hvN
  rw [this, Nat.pow_succ]
  congr 1
  · rw [Nat.add_mul, Nat.add_assoc]
  · rw [Nat.mul_comm (2 ^ k) 2, Nat.mul_assoc]
/-- the numbers of the rows, in their turn -/
def jsN : Nat → List Nat
  | 0 => [0]
  | k + 1 => (jsN k).flatMap fun j => [j, j + 2 ^ k]
theorem js_len (k : Nat) : (jsN k).length = 2 ^ k := by
  induction k with
  | zero => rfl
  | succ k ih =>
    have : ∀ l : List Nat, (l.flatMap fun j => [j, j + 2 ^ k]).length = 2 * l.length := by
      intro l
      induction l with
      | nil => rfl
      | cons a r ih => rw [List.flatMap_cons, List.length_append, ih]; simp; omega
    rw [jsN, this, ih, Nat.pow_succ]; omega
theorem js_mem (k j : Nat) : j ∈ jsN k ↔ j < 2 ^ k := by
  induction k generalizing j with
  | zero => simp [jsN]
  | succ k ih =>
    rw [jsN, List.mem_flatMap, Nat.pow_succ]
    constructor
    · rintro ⟨i, hi, hj⟩
      have := (ih i).mp hi
      simp at hj
      omega
    · intro h
      by_cases z : j < 2 ^ k
      · exact ⟨j, (ih j).mpr z, by simp⟩
      · exact ⟨j - 2 ^ k, (ih _).mpr (by omega), by simp; omega⟩
/-- the places (x + j) / 2 ^ k by size -/
def dueN (x : Nat × Nat) (k : Nat) : List (Nat × Nat) := (List.range (2 ^ k)).map (hvN x k)
theorem hv_sz {x : Nat × Nat} (h : Plc x) {k j : Nat} (hy : Plc (hvN x k j)) : sz (hvN x k j) * (2 ^ k * x.2) = (x.1 + j * x.2) * CN := by
  have hq : 0 < 2 ^ k * x.2 := Nat.mul_pos (two_pow_pos k) h.pos
  have h1 := sz_mul hy
  have h2 := red_cross (p := x.1 + j * x.2) (q := 2 ^ k * x.2)
  have h0 := hy.pos
  change (hvN x k j).1 * _ = _ * (hvN x k j).2 at h2
  have : sz (hvN x k j) * (2 ^ k * x.2) * (hvN x k j).2 = (x.1 + j * x.2) * CN * (hvN x k j).2 := by
    generalize hvN x k j = y at *
    generalize 2 ^ k * x.2 = B at *
    generalize x.1 + j * x.2 = A at *
    calc sz y * B * y.2 = sz y * y.2 * B := by grind
      _ = y.1 * CN * B := by rw [h1]
      _ = y.1 * B * CN := by grind
      _ = A * y.2 * CN := by rw [h2]
      _ = A * CN * y.2 := by grind
  exact Nat.eq_of_mul_eq_mul_right h0 this
theorem hv_less {x : Nat × Nat} (h : Plc x) {k i j : Nat} (hi : Plc (hvN x k i)) (hj : Plc (hvN x k j)) (hij : i < j) : sz (hvN x k i) < sz (hvN x k j) := by
  have hq : 0 < 2 ^ k * x.2 := Nat.mul_pos (two_pow_pos k) h.pos
  have e1 := hv_sz h hi
  have e2 := hv_sz h hj
  have hlt : (x.1 + i * x.2) * CN < (x.1 + j * x.2) * CN := by
    refine Nat.mul_lt_mul_of_pos_right ?_ CN_pos
    have := Nat.mul_lt_mul_of_pos_right hij h.pos
    omega
  rw [← e1, ← e2] at hlt
  exact Nat.lt_of_mul_lt_mul_right hlt
/-- two lists that ascend and have the same places are one -/
theorem asc_unique : ∀ {xs ys : List (Nat × Nat)}, xs.Pairwise (fun x y => sz x < sz y) → ys.Pairwise (fun x y => sz x < sz y) → (∀ x, x ∈ xs ↔ x ∈ ys) → xs = ys := by
  intro xs
  induction xs with
  | nil =>
    intro ys _ _ h
    cases ys with
    | nil => rfl
    | cons y ys => exact absurd ((h y).mpr List.mem_cons_self) (by simp)
  | cons x xs ih =>
    intro ys h1 h2 h
    cases ys with
    | nil => exact absurd ((h x).mp List.mem_cons_self) (by simp)
    | cons y ys =>
      cases h1 with
      | cons a1 b1 => cases h2 with
        | cons a2 b2 =>
          have hxy : x = y := by
            rcases List.mem_cons.mp ((h x).mp List.mem_cons_self) with e | hx
            · exact e
            · rcases List.mem_cons.mp ((h y).mpr List.mem_cons_self) with e | hy
              · exact e.symm
              · have := a2 x hx; have := a1 y hy; omega
          subst hxy
          congr 1
          refine ih b1 b2 fun z => ?_
          constructor
          · intro hz
            rcases List.mem_cons.mp ((h z).mp (List.mem_cons_of_mem _ hz)) with e | h'
            · have := a1 z hz; rw [e] at this; omega
            · exact h'
          · intro hz
            rcases List.mem_cons.mp ((h z).mpr (List.mem_cons_of_mem _ hz)) with e | h'
            · have := a2 z hz; rw [e] at this; omega
            · exact h'
theorem due_asc {x : Nat × Nat} (h : Plc x) {k : Nat} (hy : ∀ j, j < 2 ^ k → Plc (hvN x k j)) : (dueN x k).Pairwise fun x y => sz x < sz y := by
  unfold dueN
  rw [List.pairwise_map]
  refine List.Pairwise.imp_of_mem ?_ (List.pairwise_lt_range (n := 2 ^ k))
  intro i j hi hj hij
  exact hv_less h (hy i (List.mem_range.mp hi)) (hy j (List.mem_range.mp hj)) hij
theorem due_mem {x : Nat × Nat} {k : Nat} {y : Nat × Nat} : y ∈ dueN x k ↔ ∃ j, j < 2 ^ k ∧ hvN x k j = y := by
  unfold dueN
  rw [List.mem_map]
  constructor
  · rintro ⟨j, hj, e⟩; exact ⟨j, List.mem_range.mp hj, e⟩
  · rintro ⟨j, hj, e⟩; exact ⟨j, List.mem_range.mpr hj, e⟩
/-- doubled so many times, it is x -/
theorem dbl_hv {x : Nat × Nat} (h : Plc x) {k j : Nat} (hy : Plc (hvN x (k + 1) j)) : dblN (hvN x (k + 1) j) = hvN x k (j % 2 ^ k) := by
  have hp := h.pos
  have hq : 0 < 2 ^ k * x.2 := Nat.mul_pos (two_pow_pos k) hp
  have hq1 : 0 < 2 ^ (k + 1) * x.2 := Nat.mul_pos (two_pow_pos _) hp
  have hl : x.1 + j * x.2 < 2 ^ (k + 1) * x.2 := by
    have := hy.lt
    have hc := red_cross (p := x.1 + j * x.2) (q := 2 ^ (k + 1) * x.2)
    have h0 := hy.pos
    change (hvN x (k + 1) j).1 * _ = _ * (hvN x (k + 1) j).2 at hc
    have h3 : (hvN x (k + 1) j).1 * (2 ^ (k + 1) * x.2) < (hvN x (k + 1) j).2 * (2 ^ (k + 1) * x.2) := Nat.mul_lt_mul_of_pos_right this hq1
    rw [hc, Nat.mul_comm] at h3
    exact Nat.lt_of_mul_lt_mul_left h3
  rw [dbl_red hy]
  unfold hvN
  rw [red_mod2 hq1 hl]
  have e1 : 2 ^ (k + 1) * x.2 = 2 * (2 ^ k * x.2) := by rw [Nat.pow_succ, Nat.mul_comm (2 ^ k) 2, Nat.mul_assoc]
  rw [e1, Nat.mul_mod_mul_left]
  have e2 : (x.1 + j * x.2) % (2 ^ k * x.2) = x.1 + j % 2 ^ k * x.2 := by
    have hm := Nat.mod_lt j (two_pow_pos k)
    have hd := Nat.div_add_mod j (2 ^ k)
    have : x.1 + j * x.2 = (x.1 + j % 2 ^ k * x.2) + (2 ^ k * x.2) * (j / 2 ^ k) := by
      conv => lhs; rw [← hd]
      grind
    rw [this, Nat.add_mul_mod_self_left, Nat.mod_eq_of_lt (hv_top h hm)]
  rw [e2]
  refine red_eq (by omega) hq ?_
  grind
theorem it_hv {x : Nat × Nat} (h : Plc x) : ∀ (k j : Nat), (∀ i, i ≤ k → ∀ j, j < 2 ^ i → Plc (hvN x i j)) → j < 2 ^ k → itN k (hvN x k j) = x := by
  intro k
  induction k with
  | zero =>
    intro j _ hj
    have : j = 0 := by simpa using hj
    subst this
    exact hv_zero h
  | succ k ih =>
    intro j hy hj
    show itN k (dblN (hvN x (k + 1) j)) = x
    rw [dbl_hv h (hy (k + 1) (Nat.le_refl _) j hj)]
    exact ih _ (fun i hi => hy i (by omega)) (Nat.mod_lt _ (two_pow_pos k))
theorem it_ways {x : Nat × Nat} (h : Plc x) (k : Nat) : wayN (itN k x) = wayN x - k ∧ perN (itN k x) = perN x := by
  induction k with
  | zero => exact ⟨rfl, rfl⟩
  | succ k ih =>
    rw [itN_succ]
    have := dbl_ways (it_plc h k)
    rw [ih.1, ih.2] at this
    exact ⟨by rw [this.1]; omega, this.2⟩
/-! ### texts of digits ahead -/
def hdsN : Nat → List (List Nat)
  | 0 => [[]]
  | k + 1 => (hdsN k).map (48 :: ·) ++ (hdsN k).map (49 :: ·)
theorem hds_len (k : Nat) : (hdsN k).length = 2 ^ k ∧ ∀ t ∈ hdsN k, t.length = k ∧ Dg t := by
  induction k with
  | zero => exact ⟨rfl, fun t ht => by simp [hdsN] at ht; subst ht; exact ⟨rfl, dg_nil⟩⟩
  | succ k ih =>
    constructor
    · rw [hdsN, List.length_append, List.length_map, List.length_map, ih.1, Nat.pow_succ]; omega
    · intro t ht
      rw [hdsN, List.mem_append, List.mem_map, List.mem_map] at ht
      have go : ∀ c, (c = 48 ∨ c = 49) → ∀ s, s ∈ hdsN k → (c :: s).length = k + 1 ∧ Dg (c :: s) := by
        intro c hc s hs
        have := ih.2 s hs
        refine ⟨by simp [this.1], fun d hd => ?_⟩
        rcases List.mem_cons.mp hd with rfl | hd
        · exact hc
        · exact this.2 d hd
      rcases ht with ⟨s, hs, rfl⟩ | ⟨s, hs, rfl⟩
      · exact go 48 (.inl rfl) s hs
      · exact go 49 (.inr rfl) s hs
theorem hds_bv (k : Nat) : (hdsN k).map bv = List.range (2 ^ k) := by
  induction k with
  | zero => rfl
  | succ k ih =>
    have hl := hds_len k
    rw [hdsN, List.map_append, List.map_map, List.map_map]
    have e1 : (hdsN k).map (bv ∘ (48 :: ·)) = (hdsN k).map bv := by
      apply List.map_congr_left
      intro t _
      show bv (48 :: t) = bv t
      rw [bv_cons]; simp
    have e2 : (hdsN k).map (bv ∘ (49 :: ·)) = ((hdsN k).map bv).map (2 ^ k + ·) := by
      rw [List.map_map]
      apply List.map_congr_left
      intro t ht
      show bv (49 :: t) = 2 ^ k + bv t
      rw [bv_cons, (hl.2 t ht).1]; simp
    rw [e1, e2, ih, Nat.pow_succ, show 2 ^ k * 2 = 2 ^ k + 2 ^ k by omega]
    exact List.range_add.symm
theorem bv_app (a b : List Nat) : bv (a ++ b) = bv a * 2 ^ b.length + bv b := by
  induction a with
  | nil => simp [bv]
  | cons c a ih =>
    rw [List.cons_append, bv_cons, ih, bv_cons, List.length_append, Nat.pow_add]
    grind
theorem bin_ahead {x : Nat × Nat} (hx : Plc x) {h c t : List Nat} (dt : Dg t) (dh : Dg h) (dc : Dg c) (hc : c ≠ []) (e : binN h c = x) (hlt : bv h * (2 ^ c.length - 1) + bv c < botN h c) : binN (t ++ h) c = hvN x t.length (bv t) := by
  have hB := botN_pos (h := h) hc
  have hB2 := botN_pos (h := t ++ h) hc
  have hp := hx.pos
  have eB : botN (t ++ h) c = 2 ^ t.length * botN h c := by
    unfold botN
    rw [List.length_append, Nat.pow_add, Nat.mul_assoc]
  have hx2 : x.1 * botN h c = (bv h * (2 ^ c.length - 1) + bv c) * x.2 := by
    have := red_cross (p := (bv h * (2 ^ c.length - 1) + bv c) % botN h c) (q := botN h c)
    rw [Nat.mod_eq_of_lt hlt] at this
    unfold binN at e
    rw [Nat.mod_eq_of_lt hlt] at e
    rw [e] at this
    exact this
  have b1 := bv_lt t dt
  have etop : bv (t ++ h) * (2 ^ c.length - 1) + bv c = bv t * botN h c + (bv h * (2 ^ c.length - 1) + bv c) := by
    rw [bv_app]
    unfold botN
    generalize 2 ^ c.length - 1 = W
    grind
  have hlt2 : bv t * botN h c + (bv h * (2 ^ c.length - 1) + bv c) < 2 ^ t.length * botN h c := by
    have : (bv t + 1) * botN h c ≤ 2 ^ t.length * botN h c := Nat.mul_le_mul_right _ b1
    rw [Nat.add_mul, Nat.one_mul] at this
    omega
  unfold binN hvN
  rw [etop, eB, Nat.mod_eq_of_lt hlt2]
  have hq : 0 < 2 ^ t.length * x.2 := Nat.mul_pos (two_pow_pos _) hp
  refine red_eq (by rw [← eB]; exact hB2) hq ?_
  generalize bv h * (2 ^ c.length - 1) + bv c = N at *
  generalize botN h c = B at *
  generalize 2 ^ t.length = T at *
  calc (bv t * B + N) * (T * x.2) = T * (bv t * B * x.2 + N * x.2) := by grind
    _ = T * (bv t * B * x.2 + x.1 * B) := by rw [hx2]
    _ = (x.1 + bv t * x.2) * (T * B) := by grind
/-- the digits of a place lie below the whole -/
theorem dig_below {x : Nat × Nat} (h : Plc x) : bv (frontL x) * (2 ^ (backL x).length - 1) + bv (backL x) < botN (frontL x) (backL x) := by
  have hp := h.pos
  have w := ways h
  have hw1 := w.n1
  have e1 := digs_val h 0 (wayN x)
  have e2 := digs_val h (wayN x) (perN x)
  rw [← digL_take, Nat.zero_add] at e1
  rw [← digL_drop] at e2
  have a0 : aN x 0 = x.1 := by unfold aN; rw [Nat.pow_zero, Nat.one_mul, Nat.mod_eq_of_lt h.lt]
  have ab : aN x (wayN x + perN x) = aN x (wayN x) := by
    have := w.back
    rw [it_aN h, it_aN h] at this
    exact red_inj hp this
  rw [a0] at e1
  rw [ab] at e2
  have hw : 1 ≤ 2 ^ perN x := two_pow_pos _
  have hB : 0 < 2 ^ wayN x * (2 ^ perN x - 1) := bot_pos hw1
  unfold botN
  rw [front_len, back_len]
  have e3 : bv (backL x) * x.2 = (2 ^ perN x - 1) * aN x (wayN x) := by
    rw [Nat.sub_mul, Nat.one_mul, ← e2]
    unfold backL
    omega
  have e4 : bv (frontL x) * x.2 + aN x (wayN x) = 2 ^ wayN x * x.1 := e1
  have : (bv (frontL x) * (2 ^ perN x - 1) + bv (backL x)) * x.2 < 2 ^ wayN x * (2 ^ perN x - 1) * x.2 := by
    have key : (bv (frontL x) * (2 ^ perN x - 1) + bv (backL x)) * x.2 = x.1 * (2 ^ wayN x * (2 ^ perN x - 1)) := by
      rw [Nat.add_mul, e3]
      generalize 2 ^ perN x - 1 = W at *
      generalize bv (frontL x) = f at *
      generalize aN x (wayN x) = A at *
      calc f * W * x.2 + W * A = W * (f * x.2 + A) := by grind
        _ = W * (2 ^ wayN x * x.1) := by rw [e4]
        _ = x.1 * (2 ^ wayN x * W) := by grind
    rw [key, Nat.mul_comm x.1]
    exact Nat.mul_lt_mul_of_pos_left h.lt hB
  exact Nat.lt_of_mul_lt_mul_right this
/-! ### mirrored -/
theorem mir_hv {x : Nat × Nat} (h : Plc x) {k j : Nat} (hj : j < 2 ^ k) : mirN (hvN x k j) = hvN (mirN x) k (if x.1 = 0 then (2 ^ k - j) % 2 ^ k else 2 ^ k - 1 - j) := by
  have hp := h.pos
  have hq : 0 < 2 ^ k * x.2 := Nat.mul_pos (two_pow_pos k) hp
  have ht := hv_top h hj
  have e := red_mirN hq (Nat.le_of_lt ht)
  rw [Nat.mod_eq_of_lt ht] at e
  unfold hvN
  rw [← e]
  show red _ _ = red ((if x.1 = 0 then 0 else x.2 - x.1) + (if x.1 = 0 then (2 ^ k - j) % 2 ^ k else 2 ^ k - 1 - j) * x.2) (2 ^ k * x.2)
  congr 1
  have hl := h.lt
  by_cases z : x.1 = 0
  · rw [if_pos z, if_pos z, z, Nat.zero_add, Nat.zero_add]
    rw [← Nat.sub_mul, Nat.mul_mod_mul_right]
  · rw [if_neg z, if_neg z, Nat.mod_eq_of_lt (by omega)]
    have : 2 ^ k * x.2 = (j + 1) * x.2 + (2 ^ k - 1 - j) * x.2 := by rw [← Nat.add_mul]; congr 1; omega
    rw [this, Nat.add_mul, Nat.one_mul]
    omega
theorem mir_due {x : Nat × Nat} (h : Plc x) (k : Nat) (y : Nat × Nat) : y ∈ (dueN x k).map mirN ↔ y ∈ dueN (mirN x) k := by
  have hp2 := two_pow_pos k
  rw [List.mem_map, due_mem]
  constructor
  · rintro ⟨z, hz, rfl⟩
    obtain ⟨j, hj, rfl⟩ := due_mem.mp hz
    refine ⟨_, ?_, (mir_hv h hj).symm⟩
    split
    · exact Nat.mod_lt _ hp2
    · omega
  · rintro ⟨j, hj, rfl⟩
    by_cases z : x.1 = 0
    · refine ⟨hvN x k ((2 ^ k - j) % 2 ^ k), due_mem.mpr ⟨_, Nat.mod_lt _ hp2, rfl⟩, ?_⟩
      rw [mir_hv h (Nat.mod_lt _ hp2), if_pos z]
      congr 1
      by_cases j0 : j = 0
      · subst j0; rw [Nat.sub_zero, Nat.mod_self, Nat.sub_zero, Nat.mod_self]
      · rw [Nat.mod_eq_of_lt (show 2 ^ k - j < 2 ^ k by omega), Nat.mod_eq_of_lt (by omega)]
        omega
    · refine ⟨hvN x k (2 ^ k - 1 - j), due_mem.mpr ⟨_, by omega, rfl⟩, ?_⟩
      rw [mir_hv h (by omega), if_neg z]
      congr 1
      omega
/-! ### readings -/
section
variable {K : PySem.W.Frag} {σ : L2.St} {H H1 : Hp} {Q : VK} {v x y : V} {ds : List PyData} {j : Nat} {vs : List Nat} {tt : TT} {te : TE}
theorem w_extend {l b : Addr} {xs zs : List V} (h : H l = some (.lst xs)) (h' : H b = some (.lst zs)) (hz : xs.length + zs.length ≤ 1000000) (q : Q .non (upd H l (.lst (xs ++ zs)))) : rExtend (.ref l) [.ref b] H Q :=
  ⟨l, b, xs, zs, rfl, rfl, h, h', by rw [sizeLine_eq]; omega, q⟩
theorem w_lstT (h : Dp K H v (.tuple ds)) (q : ∀ p H' xs, H p = none → Same H H' → H' p = some (.lst xs) → DpAll K H' xs ds → Q (.ref p) H') : rLstOf K [v] H Q := by
  obtain ⟨a, xs, rfl, hs, ha⟩ := dp_tup h
  exact ⟨a, xs, rfl, .inr hs, fun l hl => q l _ xs hl (same_new hl) upd_same (dpa_same (same_new hl) ha)⟩
/-- as lc_list_by, with the values and their data at the end -/
theorem lc_list_byA (J : Nat → List PyData → Hp → Prop) (lj : LcJ H1 J) (src : Dp K H1 x (.list ds)) (hz : ds.length ≤ 1000000) (hw : ∀ x, wipe ((wipe σ vs).set j (some x)) vs = wipe σ vs)
    (turn : ∀ i d y H' es, ds[i]? = some d → Dp K H' y d → J i es H' → LcTurn K J tt te ((wipe σ vs).set j (some y)) i es H')
    (done : ∀ p H' ws es, H1 p = none → Keep H1 H' → H' p = some (.lst ws) → DpAll K H' ws es → J ds.length es H' → Q (.ref p) H') : rLcL K j tt te vs σ x H1 Q := by
  obtain ⟨a, xs, rfl, hs, ha⟩ := dp_lst src
  have hl := dpa_len ha
  refine ⟨a, rfl, ⟨xs, hs⟩, fun D hD => lc_list (xs := xs) (LcP K J D) ⟨[], [], upd_same, .nil, rfl, Nat.le_refl _, lj.start D hD⟩ (fun i H' _ p => ?_) (fun i y H' hi p => ⟨hw y, lc_turn lj hD ?_ p fun es q => ?_⟩) fun H' p => ?_⟩
  · obtain ⟨ws, es, p1, p2, p3, p4, p5⟩ := p
    exact (lj.keep _ _ _ p5).seqL hs
  · have := (List.getElem?_eq_some_iff.mp hi).1; omega
  · obtain ⟨d, e1, e2⟩ := dpa_get2 ha hi
    exact turn i d y H' es e1 (dp_keep (lj.keep _ _ _ q) e2) q
  · obtain ⟨ws, es, p1, p2, p3, p4, p5⟩ := p
    rw [hl] at p5
    exact done D H' ws es hD (lj.keep _ _ _ p5) p1 p2 p5
theorem noLs_pd (l : List (Nat × Nat)) : noLs (l.map pd) = true := by
  induction l with
  | nil => rfl
  | cons u r ih => simp only [List.map_cons, noLs, pd_noL, Bool.true_and]; exact ih
theorem pln_pds (l : List (Nat × Nat)) : pln 9 (.list (l.map pd)) = true := pln_list fun z hz => by
  obtain ⟨u, _, rfl⟩ := List.mem_map.mp hz
  exact pd_pln _
/-- a list walked while other objects change: what keeps it is said by the invariant -/
theorem forL_byB {σ : L2.St} {D : Ends} {g : TG} {tb : TS} {a : Addr} {xs : List V} {ds : List PyData} (Pv : Nat → L2.St → Hp → Prop) (h0 : Pv 0 σ H) (hl : xs.length = ds.length)
    (hk : ∀ i σ' H', i ≤ ds.length → Pv i σ' H' → H' a = some (.lst xs) ∧ DpAll K H' xs ds)
    (hs : ∀ i d y σ' H', ds[i]? = some d → Dp K H' y d → Pv i σ' H' → g y σ' H' fun σ2 H2 => tb { D with nx := Pv (i + 1), ct := Pv (i + 1), bk := D.nx } σ2 H2) (hd : ∀ σ' H', Pv ds.length σ' H' → D.nx σ' H') : rForL K g tb D σ (.ref a) H := by
  refine ⟨a, rfl, ⟨xs, .of (hk 0 _ _ (Nat.zero_le _) h0).1⟩, for_list (xs := xs) Pv h0 (fun i σ' H' hi p => .of (hk i σ' H' (by omega) p).1) (fun i y σ' H' hi p => ?_) (fun σ' H' p => hd σ' H' (by rw [← hl]; exact p))⟩
  have hlt := (List.getElem?_eq_some_iff.mp hi).1
  obtain ⟨d, e1, e2⟩ := dpa_get2 (hk i σ' H' (by omega) p).2 hi
  exact hs i d y σ' H' e1 e2 p
end
end Tw
namespace Tw
open PySem PySem.Spec PyProof.Rows L2
/-! ### all places of one way in and one period -/
def bt (a n : Nat) : Nat := 2 ^ a * (2 ^ n - 1)
def plN (a n : Nat) : List (Nat × Nat) := ((List.range (bt a n)).map fun t => red t (bt a n)).filter fun x => wayN x == a && perN x == n
theorem bt_pos {a n : Nat} (hn : 1 ≤ n) : 0 < bt a n := bot_pos hn
theorem bt_le {a n : Nat} (h : a + n ≤ 10) : bt a n ≤ 1024 := by
  unfold bt
  have h1 : 2 ^ a * (2 ^ n - 1) ≤ 2 ^ a * 2 ^ n := Nat.mul_le_mul_left _ (Nat.sub_le _ _)
  rw [← Nat.pow_add] at h1
  have h2 : 2 ^ (a + n) ≤ 2 ^ 10 := Nat.pow_le_pow_right (by decide) h
  have : 2 ^ 10 = 1024 := rfl
  omega
theorem bt_plc {a n t : Nat} (hn : 1 ≤ n) (h : a + n ≤ 24) (ht : t < bt a n) : Plc (red t (bt a n)) := ⟨red_lt ht, red_coprime (bt_pos hn), a, n, hn, h, red_dvd⟩
theorem bt_sz {a n t : Nat} (hn : 1 ≤ n) (h : a + n ≤ 24) (ht : t < bt a n) : sz (red t (bt a n)) * bt a n = t * CN := by
  have p := bt_plc hn h ht
  have h1 := sz_mul p
  have h2 := red_cross (p := t) (q := bt a n)
  have h0 := p.pos
  generalize red t (bt a n) = x at *
  have : (sz x * bt a n) * x.2 = (t * CN) * x.2 := by
    rw [Nat.mul_right_comm, h1, Nat.mul_right_comm, h2, Nat.mul_right_comm]
  exact Nat.eq_of_mul_eq_mul_right h0 this
theorem pl_asc {a n : Nat} (hn : 1 ≤ n) (h : a + n ≤ 24) : (plN a n).Pairwise (fun x y => sz x < sz y) := by
  unfold plN
  refine List.Pairwise.filter _ ?_
  rw [List.pairwise_map]
  refine List.Pairwise.imp_of_mem ?_ (List.pairwise_lt_range (n := bt a n))
  intro t u ht hu htu
  have e1 := bt_sz hn h (List.mem_range.mp ht)
  have e2 := bt_sz hn h (List.mem_range.mp hu)
  have hb := bt_pos (a := a) hn
  have hc := CN_pos
  have : t * CN < u * CN := Nat.mul_lt_mul_of_pos_right htu hc
  rw [← e1, ← e2] at this
  exact Nat.lt_of_mul_lt_mul_right this
theorem pl_plc {a n : Nat} (hn : 1 ≤ n) (h : a + n ≤ 24) : ∀ x ∈ plN a n, Plc x := fun x hx => by
  obtain ⟨hx, _⟩ := List.mem_filter.mp hx
  obtain ⟨t, ht, rfl⟩ := List.mem_map.mp hx
  exact bt_plc hn h (List.mem_range.mp ht)
theorem pl_len {a n : Nat} (h : a + n ≤ 10) : (plN a n).length ≤ 1024 := by
  refine Nat.le_trans (List.length_filter_le _ _) ?_
  rw [List.length_map, List.length_range]
  exact bt_le h
/-- how many there are -/
def plC (a n : Nat) : Nat := ((List.range (bt a n)).filter fun t => wayN (red t (bt a n)) == a && perN (red t (bt a n)) == n).length
theorem pl_cnt (a n : Nat) : (plN a n).length = plC a n := by
  unfold plN plC
  rw [List.filter_map, List.length_map]
  rfl
theorem cnt_all : ∀ n : Fin 11, 1 ≤ n.val → ((List.range n.val).map fun d => if n.val % (d + 1) = 0 then plC 0 (d + 1) else 0).sum = 2 ^ n.val - 1 := by decide +kernel
theorem cnt_half : ∀ n : Fin 11, ∀ a : Fin 11, 1 ≤ n.val → 1 ≤ a.val → a.val + n.val ≤ 10 → plC a.val n.val = plC 0 n.val * 2 ^ (a.val - 1) := by decide +kernel
theorem cnt_top : ∀ n : Fin 11, ∀ a : Fin 11, 1 ≤ n.val → a.val + n.val ≤ 10 → plC a.val n.val ≤ 1000 := by decide +kernel
end Tw
namespace Tw
open PySem PySem.Spec PyProof.Rows L2
variable {K : PySem.W.Frag} {g : TG} {tb : TS} {D : Ends} {σ : L2.St} {H : Hp} {ta : TA}
def rForI (J : It) (g : TG) (tb : TS) (D : Ends) (σ : L2.St) (H1 : Hp) : Prop := ∃ W : Nat → Nat → L2.St → Hp → Prop, (∃ m, W 0 m σ H1) ∧ ∀ i m σ H, W i m σ H →
  (J.stop i H ∧ D.nx σ H) ∨ (J.go i H ∧ ∃ N : L2.St → Hp → Prop, (∀ σ' H', N σ' H' → ∃ m', m' < m ∧ W (i + 1) m' σ' H') ∧ ∀ x H', J.yld i H x H' → g x σ H' fun σ2 H2 => tb { D with nx := N, ct := N, bk := D.nx } σ2 H2)
def rForZ (K : PySem.W.Frag) (g : TG) (tb : TS) (D : Ends) (σ : L2.St) (vs : List V) (H1 : Hp) : Prop := ∃ a b xs ys, vs = [.ref a, .ref b] ∧ ((SqL K H1 a xs ∧ SqL K H1 b ys ∧ rForI (Itz K a b) g tb D σ H1) ∨ (SqT K H1 a xs ∧ SqT K H1 b ys ∧ rForI (RZ.ItzT K a b) g tb D σ H1))
theorem pi_zipK {X : Cx} {e e2 : Expr} {ta : TA} {p pos tpos : Pos} {elts : List Expr} {kk : Nat} (hg : Gl X "zip") (hm : X.mg "zip" = none) (ha : PA X [e, e2] ta) (h : X.K = K := by rfl)
    (hs : starEach [e, e2] X.env = (false, eval e X.env) :: starEach [e2] X.env := by rfl) (hpl : (backTo pos (starEach [e2] X.env)).any (·.1) = false := by rfl) :
    PI X (.Tuple elts kk tpos) (.Call (.Name "zip" p) [e, e2] [] pos) (RZ.iZipA K ta) := h ▸ RZ.pi_zipA hg hm ha hs hpl
theorem w_forZ (h : ta σ H fun vs H1 => rForZ K g tb D σ vs H1) : tFor (RZ.iZipA K ta) g tb D σ H := h
/-- two tuples side by side -/
theorem forZT_by {u v : V} {ds es : List PyData} (Pv : Nat → L2.St → Hp → Prop) (s1 : Dp K H u (.tuple ds)) (s2 : Dp K H v (.tuple es)) (h0 : Pv 0 σ H) (hk : ∀ i σ' H', i ≤ ds.length → Pv i σ' H' → Keep H H')
    (hs : ∀ i d e T σ' H' H2, ds[i]? = some d → es[i]? = some e → Pv i σ' H' → Same H' H2 → Dp K H2 (.ref T) (.tuple [d, e]) → g (.ref T) σ' H2 fun σ2 H2 => tb { D with nx := Pv (i + 1), ct := Pv (i + 1), bk := D.nx } σ2 H2)
    (hd : ∀ σ' H', Pv (min ds.length es.length) σ' H' → D.nx σ' H') : rForZ K g tb D σ [u, v] H := by
  obtain ⟨a, xs, rfl, qx, dx⟩ := dp_tup s1
  obtain ⟨b, ys, rfl, qy, dy⟩ := dp_tup s2
  have lx := dpa_len dx
  have ly := dpa_len dy
  refine ⟨a, b, xs, ys, rfl, .inr ⟨qx, qy, fun i m σ H => m = min ds.length es.length - i ∧ i ≤ min ds.length es.length ∧ Pv i σ H, ⟨_, rfl, Nat.zero_le _, h0⟩, ?_⟩⟩
  rintro i m σ' H' ⟨rfl, hi, p⟩
  have k := hk i σ' H' (by omega) p
  have qx' := k.seqT qx
  have qy' := k.seqT qy
  by_cases hlt : i < min ds.length es.length
  · have hx : xs[i]? = some xs[i] := List.getElem?_eq_getElem (by omega)
    have hy : ys[i]? = some ys[i] := List.getElem?_eq_getElem (by omega)
    refine .inr ⟨⟨xs, ys, _, _, qx', qy', hx, hy⟩, Pv (i + 1), fun σ' H' p' => ⟨min ds.length es.length - (i + 1), by omega, rfl, hlt, p'⟩, fun w H2 y => ?_⟩
    obtain ⟨T, x', y', rfl, hT, rfl, f1, f2⟩ := y
    obtain ⟨d, e1, e2⟩ := dpa_get2 dx (f1 xs qx')
    obtain ⟨d2, e3, e4⟩ := dpa_get2 dy (f2 ys qy')
    have sm : Same H' (upd H' T (.tup [x', y'])) := same_new hT
    exact hs i d d2 T σ' H' _ e1 e3 p sm (.tup (SqT.of upd_same) (.cons (dp_same sm (dp_keep k e2)) (dpa_one (dp_same sm (dp_keep k e4)))))
  · have e : i = min ds.length es.length := by omega
    subst e
    exact .inl ⟨⟨xs, ys, qx', qy', by omega⟩, hd σ' H' p⟩
/-- two lists side by side -/
theorem forZL_by {u v : V} {ds es : List PyData} (Pv : Nat → L2.St → Hp → Prop) (s1 : Dp K H u (.list ds)) (s2 : Dp K H v (.list es)) (h0 : Pv 0 σ H) (hk : ∀ i σ' H', i ≤ ds.length → Pv i σ' H' → Keep H H')
    (hs : ∀ i d e T σ' H' H2, ds[i]? = some d → es[i]? = some e → Pv i σ' H' → Same H' H2 → Dp K H2 (.ref T) (.tuple [d, e]) → g (.ref T) σ' H2 fun σ2 H2 => tb { D with nx := Pv (i + 1), ct := Pv (i + 1), bk := D.nx } σ2 H2)
    (hd : ∀ σ' H', Pv (min ds.length es.length) σ' H' → D.nx σ' H') : rForZ K g tb D σ [u, v] H := by
  obtain ⟨a, xs, rfl, qx, dx⟩ := dp_lst s1
  obtain ⟨b, ys, rfl, qy, dy⟩ := dp_lst s2
  have lx := dpa_len dx
  have ly := dpa_len dy
  refine ⟨a, b, xs, ys, rfl, .inl ⟨qx, qy, fun i m σ H => m = min ds.length es.length - i ∧ i ≤ min ds.length es.length ∧ Pv i σ H, ⟨_, rfl, Nat.zero_le _, h0⟩, ?_⟩⟩
  rintro i m σ' H' ⟨rfl, hi, p⟩
  have k := hk i σ' H' (by omega) p
  have qx' := k.seqL qx
  have qy' := k.seqL qy
  by_cases hlt : i < min ds.length es.length
  · have hx : xs[i]? = some xs[i] := List.getElem?_eq_getElem (by omega)
    have hy : ys[i]? = some ys[i] := List.getElem?_eq_getElem (by omega)
    refine .inr ⟨⟨xs, ys, _, _, qx', qy', hx, hy⟩, Pv (i + 1), fun σ' H' p' => ⟨min ds.length es.length - (i + 1), by omega, rfl, hlt, p'⟩, fun w H2 y => ?_⟩
    obtain ⟨T, x', y', rfl, hT, rfl, f1, f2⟩ := y
    obtain ⟨d, e1, e2⟩ := dpa_get2 dx (f1 xs qx')
    obtain ⟨d2, e3, e4⟩ := dpa_get2 dy (f2 ys qy')
    have sm : Same H' (upd H' T (.tup [x', y'])) := same_new hT
    exact hs i d d2 T σ' H' _ e1 e3 p sm (.tup (SqT.of upd_same) (.cons (dp_same sm (dp_keep k e2)) (dpa_one (dp_same sm (dp_keep k e4)))))
  · have e : i = min ds.length es.length := by omega
    subst e
    exact .inl ⟨⟨xs, ys, qx', qy', by omega⟩, hd σ' H' p⟩
/-- a text put behind a text, in place -/
theorem ip_addS {X : Cx} : PIp X .Add rAddStr := by
  intro pins s σ H x y v u Q I rx ry h
  exact iop_add_str pins s σ H x y v u Q I rx ry h
section
variable {j : Nat} {tt : TT} {te : TE} {vs : List Nat} {H1 : Hp} {Q : VK}
/-- a comprehension over range(lo, k), the items' values kept -/
theorem lc_rng2_byA {lo k : Int} (J : Nat → List PyData → Hp → Prop) (lj : LcJ H1 J) (hz : -1000000 ≤ lo ∧ lo ≤ 1000000 ∧ -1000000 ≤ k ∧ k ≤ 1000000 ∧ k - lo ≤ 1000000) (hw : ∀ x, wipe ((wipe σ vs).set j (some x)) vs = wipe σ vs)
    (turn : ∀ (i : Nat) H' es, lo + (i : Int) < k → J i es H' → LcTurn K J tt te ((wipe σ vs).set j (some (.int (lo + (i : Int))))) i es H')
    (done : ∀ p H' vs es, H1 p = none → Keep H1 H' → H' p = some (.lst vs) → DpAll K H' vs es → J (k - lo).toNat es H' → Q (.ref p) H') : rLcR2 j tt te vs σ [.int lo, .int k] H1 Q := by
  refine ⟨lo, k, rfl, by omega, fun D hD => lc_range (lo := lo) (n := (k - lo).toNat) (LcP K J D) ⟨[], [], upd_same, .nil, rfl, Nat.le_refl _, lj.start D hD⟩ (fun i H' hi p => ⟨hw _, lc_turn lj hD (by omega) p fun es q => turn i H' es (by omega) q⟩) fun H' p => ?_⟩
  obtain ⟨vs, es, p1, p2, p3, p4, p5⟩ := p
  exact done D H' vs es hD (lj.keep _ _ _ p5) p1 p2 p5
end
/-- two lists put behind one another -/
theorem w_catA {a b : Addr} {xs zs : List V} {ds es : List PyData} {Q : VK} (h : H a = some (.lst xs)) (h' : H b = some (.lst zs)) (hd : DpAll K H xs ds) (he : DpAll K H zs es) (hz : xs.length + zs.length ≤ sizeLine)
    (q : ∀ p H', H p = none → Same H H' → H' p = some (.lst (xs ++ zs)) → DpAll K H' (xs ++ zs) (ds ++ es) → Q (.ref p) H') : rCat (.ref a) (.ref b) H Q := by
  refine w_catL h h' hz fun p H' n e f => q p H' n e f ?_
  have app : ∀ {us : List V} {fs : List PyData}, DpAll K H' us fs → ∀ {ws : List V} {gs : List PyData}, DpAll K H' ws gs → DpAll K H' (us ++ ws) (fs ++ gs) := by
    intro us fs h1
    induction us generalizing fs with
    | nil => intro ws gs h2; cases h1; exact h2
    | cons u us ih =>
      intro ws gs h2
      cases h1 with
      | cons a b => exact .cons a (ih b h2)
  exact app (dpa_same e hd) (dpa_same e he)
end Tw
namespace Tw
open PySem PySem.Spec PyProof.Rows L2
/-- the order of tuples of ints -/
def ltL : List Int → List Int → Bool
  | _, [] => false
  | [], _ :: _ => true
  | x :: xs, y :: ys => if x = y then ltL xs ys else decide (x < y)
theorem ltL_asym : ∀ x y : List Int, ltL x y = true → ltL y x = false := by
  intro x
  induction x with
  | nil => intro y _; cases y <;> rfl
  | cons a x ih =>
    intro y h
    cases y with
    | nil => cases h
    | cons b y =>
      unfold ltL at h ⊢
      by_cases e : a = b
      · rw [if_pos e] at h
        rw [if_pos e.symm]
        exact ih y h
      · rw [if_neg e, decide_eq_true_eq] at h
        rw [if_neg (Ne.symm e), decide_eq_false_iff_not]
        omega
theorem ltL_tr : ∀ x y z : List Int, ltL y x = false → ltL z y = false → ltL z x = false := by
  intro x
  induction x with
  | nil => intro y z _ _; cases z <;> rfl
  | cons a x ih =>
    intro y z h1 h2
    cases y with
    | nil => cases h1
    | cons b y =>
      cases z with
      | nil => cases h2
      | cons c z =>
        unfold ltL at h1 h2 ⊢
        by_cases e1 : b = a
        · rw [if_pos e1] at h1
          by_cases e2 : c = b
          · rw [if_pos e2] at h2
            rw [if_pos (e2.trans e1)]
            exact ih y z h1 h2
          · rw [if_neg e2, decide_eq_false_iff_not] at h2
            rw [if_neg (by omega), decide_eq_false_iff_not]
            omega
        · rw [if_neg e1, decide_eq_false_iff_not] at h1
          by_cases e2 : c = b
          · rw [if_neg (by omega), decide_eq_false_iff_not]
            omega
          · rw [if_neg e2, decide_eq_false_iff_not] at h2
            rw [if_neg (by omega), decide_eq_false_iff_not]
            omega
theorem ltL_anti : ∀ x y : List Int, ltL x y = false → ltL y x = false → x = y := by
  intro x
  induction x with
  | nil =>
    intro y h _
    cases y with
    | nil => rfl
    | cons b y => cases h
  | cons a x ih =>
    intro y h1 h2
    cases y with
    | nil => cases h2
    | cons b y =>
      unfold ltL at h1 h2
      by_cases e : a = b
      · rw [if_pos e] at h1
        rw [if_pos e.symm] at h2
        rw [e, ih y h1 h2]
      · rw [if_neg e, decide_eq_false_iff_not] at h1
        rw [if_neg (Ne.symm e), decide_eq_false_iff_not] at h2
        omega
theorem srt_unique {α : Type} {R : α → α → Prop} (anti : ∀ a b, R a b → R b a → a = b) : ∀ {l m : List α}, l.Perm m → l.Pairwise R → m.Pairwise R → l = m
  | [], m, p, _, _ => (List.nil_perm.mp p).symm
  | a :: l, [], p, _, _ => absurd p.length_eq (by simp)
  | a :: l, b :: m, p, h1, h2 => by
    obtain ⟨g1, g2⟩ := List.pairwise_cons.mp h1
    obtain ⟨k1, k2⟩ := List.pairwise_cons.mp h2
    have e : a = b := by
      rcases List.mem_cons.mp (p.mem_iff.mp (List.mem_cons_self (a := a) (l := l))) with z | z
      · exact z
      · rcases List.mem_cons.mp (p.mem_iff.mpr (List.mem_cons_self (a := b) (l := m))) with y | y
        · exact y.symm
        · exact anti _ _ (g1 b y) (k1 a z)
    subst e
    rw [srt_unique anti (List.perm_cons a |>.mp p) g2 k2]
theorem perm_of {α : Type} [DecidableEq α] : ∀ {l m : List α}, l.Nodup → (∀ a ∈ l, a ∈ m) → m.length ≤ l.length → l.Perm m
  | [], m, _, _, h => by rw [List.eq_nil_of_length_eq_zero (Nat.le_zero.mp h)]
  | a :: l, m, hn, hs, h => by
    obtain ⟨n1, n2⟩ := List.nodup_cons.mp hn
    have ha := hs a List.mem_cons_self
    have hp := List.perm_cons_erase ha
    refine (List.Perm.cons a (perm_of n2 (fun b hb => ?_) ?_)).trans hp.symm
    · have := hp.mem_iff.mp (hs b (List.mem_cons_of_mem _ hb))
      rcases List.mem_cons.mp this with z | z
      · exact absurd (z ▸ hb) n1
      · exact z
    · have := hp.length_eq
      simp only [List.length_cons] at this h
      omega
section
variable {prog : Program} {w : World} {A : Around} {s : Shared}
def IsTk (P : Program) (w : World) (h : Heap) (v : Value) (k : List Int) : Prop := ∃ a, v = .ref a ∧ k ≠ [] ∧ IsTupleKey (intKind P w) h k a
theorem IsTk.keeps {h h' : Heap} {v : Value} {k : List Int} (r : IsTk prog w h v k) (e : ∀ b o, h.get? b = some o → o.cls = .type "tuple" → h'.get? b = some o) : IsTk prog w h' v k := by
  obtain ⟨a, rfl, h0, o, items, n, h1, h2, h3⟩ := r
  exact ⟨a, rfl, h0, o, items, n, e _ _ h1 h2, h2, h3⟩
theorem items_cons {k : Int} {ks : List Int} {vs : List Value} (h : ItemsAre (intKind prog w) (k :: ks) vs) : ∃ v us t, vs = v :: us ∧ v = .int k t ∧ ItemsAre (intKind prog w) ks us := by
  cases h with
  | cons a b =>
    obtain ⟨t, e⟩ := Value.isInt_shape a
    exact ⟨_, _, t, rfl, e, b⟩
theorem tk_firsts {h : Heap} : ∀ {vs : List Value}, (∀ v ∈ vs, ∃ k, IsTk prog w h v k) → ∃ fs, W.KatTups h vs fs ∧ fs.length = vs.length ∧ ∀ f ∈ fs, ∃ x t, f = Value.int x t
  | [], _ => ⟨[], .nil, rfl, fun _ z => nomatch z⟩
  | v :: vs, hv => by
    obtain ⟨fs, h1, h2, h3⟩ := tk_firsts (vs := vs) fun u hu => hv u (List.mem_cons_of_mem _ hu)
    obtain ⟨k, a, rfl, h0, o, items, n, g1, g2, g3, g4⟩ := hv v List.mem_cons_self
    cases k with
    | nil => exact absurd rfl h0
    | cons k0 ks =>
      obtain ⟨v0, us, t, e1, e2, _⟩ := items_cons g4
      refine ⟨v0 :: fs, ⟨⟨a, o, items, n, rfl, g1, g2, g3, ?_⟩, h1⟩, by simp [h2], fun f hf => ?_⟩
      · rw [← Array.getElem?_toList, e1]
        rfl
      · rcases List.mem_cons.mp hf with rfl | hf
        · exact ⟨_, _, e2⟩
        · exact h3 f hf
theorem lex_ints {b fin : Bool} {Q : Bool → Shared → Prop} : ∀ {ks ls : List Int} {vs us : List Value} {i : Nat}, ItemsAre (intKind prog w) ks vs → ItemsAre (intKind prog w) ls us → fin = decide (ks.length < ls.length) → Q (ltL ks ls) s → PySem.W.KatLex prog w A b fin Q (vs.zip us) i s
  | [], ls, vs, us, i, h1, h2, hf, q => by
    cases h1
    rw [List.zip_nil_left]
    refine PySem.W.kat_nil ?_
    rw [hf]
    cases ls with
    | nil => exact q
    | cons y ys => exact (by simpa [ltL] using q)
  | x :: ks, [], vs, us, i, h1, h2, hf, q => by
    cases h2
    rw [List.zip_nil_right]
    refine PySem.W.kat_nil ?_
    rw [hf]
    exact (by simpa [ltL] using q)
  | x :: ks, y :: ls, vs, us, i, h1, h2, hf, q => by
    obtain ⟨v, vs', t, rfl, rfl, i1⟩ := items_cons h1
    obtain ⟨u, us', t', rfl, rfl, i2⟩ := items_cons h2
    rw [List.zip_cons_cons]
    refine PySem.W.kat_cons ?_
    refine (intKind prog w).eqBool (a := x) (b := y) (isInt_me x t) (isInt_me y t') ?_
    unfold ltL at q
    by_cases e : x = y
    · rw [if_pos e] at q
      rw [decide_eq_true e]
      refine PySem.W.kat_yes ?_
      exact lex_ints i1 i2 (by rw [hf]; simp) q
    · rw [if_neg e] at q
      rw [decide_eq_false e]
      exact PySem.W.kat_no (TS.oneLt_ints _ q)
theorem tk_cmp {vs : List Value} {k : Value → List Int} (h : ∀ v ∈ vs, IsTk prog w s.heap v (k v)) :
    SrtO.Cmp prog w A s (PyProof.Rows.tuples' true) (fun p => p.fst ∈ vs) (SrtO.lt2 fun v u => ltL (k v) (k u)) := by
  intro p q hp hq
  obtain ⟨a, e1, h0, o, items, n, h1, h2, h3, h4⟩ := h _ hp
  obtain ⟨a', e1', h0', o', items', n', h1', h2', h3', h4'⟩ := h _ hq
  show wpAny _ _ (PyProof.Rows.keyLt' _ p.fst q.fst) _ _ _
  unfold SrtO.lt2
  dsimp only
  generalize k p.fst = kp at *
  generalize k q.fst = kq at *
  rw [e1, e1']
  refine PySem.W.kat_lt h1 h3 h1' h3' (lex_ints h4 h4' ?_ ⟨rfl, rfl⟩)
  have l1 := h4.length
  have l2 := h4'.length
  rw [show items.size = items.toList.length from rfl, show items'.size = items'.toList.length from rfl, l1, l2]
theorem ltk_swoL {α : Type} (k : α → List Int) : SrtO.Swo fun v u => ltL (k v) (k u) := ⟨fun x y h => ltL_asym _ _ h, fun x y z h1 h2 => ltL_tr _ _ _ h1 h2⟩
theorem tk_sortable {a : Addr} {vs : List Value} {k : Value → List Int} (h0 : 0 < vs.length) (h : ∀ v ∈ vs, IsTk prog w s.heap v (k v))
    (ha : ∀ o, s.heap.get? a = some o → o.cls ≠ .type "tuple") : SrtO.SortableO prog w A s a vs fun v u => ltL (k v) (k u) := by
  intro h' keep
  have hr : ∀ v ∈ vs, IsTk prog w h' v (k v) := fun v hv => (h v hv).keeps fun b o e1 e2 => keep b o (fun z => by subst z; exact ha o e1 e2) e1
  obtain ⟨fs, f1, f2, f3⟩ := tk_firsts (h := h') (vs := vs) fun v hv => ⟨_, hr v hv⟩
  refine ⟨PyProof.Rows.tuples' true, fun Q E q => ?_, tk_cmp hr⟩
  refine PySem.W.kat_kind (T := .type "int") f1 (by omega) (fun v hv => ?_) (by decide +kernel) ?_
  · obtain ⟨x, t, rfl⟩ := f3 v hv
    exact PySem.W.Looks.now
  · rw [show (Value.type "int" != Value.type "tuple") = true by decide +kernel]
    exact q
theorem sorted_tk {E : Value → Shared → Prop} {l : Addr} {vs : List Value} {k : Value → List Int} {Q : Value → Shared → Prop} (hl : s.heap.IsList l vs.toArray) (hz : vs.length ≤ sizeLine)
    (h : ∀ v ∈ vs, IsTk prog w s.heap v (k v))
    (q : ∀ (h' : Heap) (d : Addr) (out : List Value), out.Perm vs → out.Pairwise (fun v u => ltL (k u) (k v) = false) → (∀ b o, s.heap.get? b = some o → h'.get? b = some o) → s.heap.objs.size ≤ d → (∃ n, h'.get? d = some (PyProof.Rows.seqObj "list" out.toArray n)) →
      Q (.ref d) { heap := h', gens := s.gens, drawn := s.drawn, toks := s.toks, os := s.os }) :
    wpAny (model prog w) A (call (.builtin "sorted") [.ref l]) Q E s := by
  refine SrtO.sorted_ord (ltk_swoL k) hl hz (fun h2 h1 a g1 g2 => ?_) fun out o1 o2 => ?_
  · refine tk_sortable (by omega) (fun v hv => (h v hv).keeps fun b o e1 _ => (g2 b o e1).2) fun o e => ?_
    rw [g1] at e
    cases e
    intro z
    exact absurd (Value.type.inj z) (by decide)
  · exact q _ _ out o2.perm o1 (fun b o e => PyProof.Rows.sortedAll_old e) (Nat.le_succ _) (PyProof.Rows.sortedAll_at _ _ _)
end
def tupD (k : List Int) : PyData := .tuple (k.map PyData.int)
theorem items_of {P : Program} {w : World} : ∀ {k : List Int} {xs : List V} {its : List Value} {K : PySem.W.Frag} {H : Hp}, Vals xs its → DpAll K H xs (k.map PyData.int) → ItemsAre (intKind P w) k its
  | [], _, _, _, _, hv, hd => by
    cases hd; cases hv
    exact .nil
  | a :: k, _, _, _, _, hv, hd => by
    cases hd with
    | cons d1 d2 =>
      cases d1
      cases hv with
      | cons r hv =>
        obtain ⟨t, rfl⟩ := r
        exact .cons (v := .int a t) (isInt_me a t) (items_of hv d2)
theorem tkI {X : Cx} {pins : List (Addr × Obj)} {σ : L2.St} {H : Hp} {s : Shared} {v : V} {u : Value} {k : List Int} (I : L2.Inv X pins σ H s) (r : RelV v u) (d : Dp X.K H v (tupD k)) (h0 : k ≠ []) : IsTk X.prog X.w s.heap u k ∧ ∃ a, v = .ref a := by
  obtain ⟨a, xs, rfl, hs, ha⟩ := dp_tup d
  obtain ⟨its, hv, ⟨o, h1, h2, n, h3⟩, _⟩ := I.tuple hs
  cases r
  exact ⟨⟨a, rfl, h0, o, its.toArray, n, h1, h2, h3, by simpa using items_of hv ha⟩, a, rfl⟩
theorem tk_one {P : Program} {w : World} {h : Heap} {v : Value} {e f : List Int} (a : IsTk P w h v e) (b : IsTk P w h v f) : e = f := by
  obtain ⟨a1, rfl, _, x⟩ := a
  obtain ⟨a2, h0, _, y⟩ := b
  cases h0
  exact x.inj y
open Classical in
noncomputable def tkK (P : Program) (w : World) (h : Heap) (v : Value) : List Int := if z : ∃ e, IsTk P w h v e then z.choose else []
theorem tkK_eq {P : Program} {w : World} {h : Heap} {v : Value} {e : List Int} (r : IsTk P w h v e) : tkK P w h v = e := by
  unfold tkK
  rw [dif_pos ⟨e, r⟩]
  exact tk_one (Exists.choose_spec (⟨e, r⟩ : ∃ e, IsTk P w h v e)) r
theorem tksI {X : Cx} {pins : List (Addr × Obj)} {σ : L2.St} {H : Hp} {s : Shared} (I : L2.Inv X pins σ H s) : ∀ {xs : List V} {its : List Value} {es : List (List Int)}, Vals xs its → DpAll X.K H xs (es.map tupD) → (∀ e ∈ es, e ≠ []) →
    es = its.map (tkK X.prog X.w s.heap) ∧ ∀ u ∈ its, IsTk X.prog X.w s.heap u (tkK X.prog X.w s.heap u) ∧ RelV (backV u) u ∧ Dp X.K H (backV u) (tupD (tkK X.prog X.w s.heap u))
  | [], _, es, hv, hd, _ => by
    cases hv
    cases es with
    | nil => exact ⟨rfl, fun _ z => nomatch z⟩
    | cons e es => cases hd
  | x :: xs, _, es, hv, hd, h0 => by
    cases hv with
    | cons r hv =>
      cases es with
      | nil => cases hd
      | cons e es =>
        cases hd with
        | cons d hd =>
          obtain ⟨i1, i2⟩ := tksI I hv hd fun f hf => h0 f (List.mem_cons_of_mem _ hf)
          obtain ⟨j1, a, rfl⟩ := tkI I r d (h0 e List.mem_cons_self)
          have j2 := tkK_eq j1
          refine ⟨by rw [List.map_cons, j2, ← i1], fun u hu => ?_⟩
          rcases List.mem_cons.mp hu with rfl | hu
          · cases r
            rw [j2]
            exact ⟨j1, rfl, d⟩
          · exact i2 u hu
def rSortT (K : PySem.W.Frag) : List V → Hp → VK → Prop := fun vs H Q => ∃ (a : Addr) (es : List (List Int)), vs = [.ref a] ∧ Dp K H (.ref a) (.list (es.map tupD)) ∧ (∀ e ∈ es, e ≠ []) ∧
  ∀ (es' : List (List Int)) (p : Addr) H', es'.Perm es → es'.Pairwise (fun e f => ltL f e = false) → H p = none → Same H H' → Dp K H' (.ref p) (.list (es'.map tupD)) → Q (.ref p) H'
theorem cr_sortT {X : Cx} {K : PySem.W.Frag} (hK : X.K = K := by rfl) : CallR X (.builtin "sorted") (rSortT K) := by
  subst hK
  intro pins s σ H xs us Q I hv h
  obtain ⟨a, es, rfl, hd, h0, q⟩ := h
  obtain ⟨u, rfl, ru⟩ := vals1 hv
  cases ru
  obtain ⟨a', ys, e0, hs, ha⟩ := dp_lst hd
  cases e0
  obtain ⟨its, hy, hp, hz⟩ := I.list hs
  have hl := hy.length
  obtain ⟨r1, r2⟩ := tksI I hy ha h0
  refine sorted_tk (k := tkK X.prog X.w s.heap) (PlainL.isList hp) (by omega) (fun v hv => (r2 v hv).1) fun h' d out o1 o2 o3 o4 o5 => ?_
  have hn : H d = none := I.hok.fresh o4
  have hvs : ∀ l : List Value, (∀ u ∈ l, u ∈ its) → Vals (l.map backV) l ∧ DpAll X.K H (l.map backV) ((l.map (tkK X.prog X.w s.heap)).map tupD) := by
    intro l
    induction l with
    | nil => exact fun _ => ⟨.nil, .nil⟩
    | cons u l ih =>
      intro hl
      obtain ⟨i1, i2⟩ := ih fun v hv => hl v (List.mem_cons_of_mem _ hv)
      obtain ⟨_, j1, j2⟩ := r2 u (hl u List.mem_cons_self)
      exact ⟨.cons j1 i1, .cons j2 i2⟩
  obtain ⟨v1, v2⟩ := hvs out fun u hu => (o1.mem_iff).mp hu
  have lo : out.length = its.length := o1.length_eq
  obtain ⟨n, o5⟩ := o5
  have same : Same H (upd H d (.lst (out.map backV))) := same_new hn
  refine ⟨.ref d, upd H d (.lst (out.map backV)), I.laid o3 o4 ⟨by rw [List.length_map]; omega, out, n, v1, o5⟩, rfl, q (out.map (tkK X.prog X.w s.heap)) d _ (by rw [r1]; exact o1.map _) (List.pairwise_map.mpr o2) hn same ?_⟩
  exact .lst (SqL.of upd_same) (dpa_same same v2)
section
variable {K : PySem.W.Frag} {H : Hp} {Q : VK}
theorem op_catTK {X : Cx} (h : X.K = K := by rfl) : OpR X (binaryOp .Add) (rCatT K) := h ▸ op_catT
/-- a tuple put behind a tuple -/
theorem w_catT {a b : V} {ds es : List PyData} (h : Dp K H a (.tuple ds)) (h' : Dp K H b (.tuple es)) (h0 : ds ≠ []) (h1 : es ≠ []) (hz : ds.length + es.length ≤ 1000000)
    (q : ∀ p H', H p = none → Same H H' → Dp K H' (.ref p) (.tuple (ds ++ es)) → Q (.ref p) H') : rCatT K a b H Q := by
  obtain ⟨a, xs, rfl, hs, ha⟩ := dp_tup h
  obtain ⟨b, ys, rfl, ht, hb⟩ := dp_tup h'
  have l1 := dpa_len ha
  have l2 := dpa_len hb
  have hsz := sizeLine_eq
  refine ⟨a, b, xs, ys, rfl, rfl, hs, ht, fun z => h0 (List.eq_nil_of_length_eq_zero (by rw [← l1, z]; rfl)), by omega, fun z => absurd (List.eq_nil_of_length_eq_zero (by rw [← l2, z]; rfl)) h1, fun _ p hp => ?_⟩
  have sm : Same H (upd H p (.tup (xs ++ ys))) := same_new hp
  exact q p _ hp sm (dp_newT upd_same (dpa_same sm (dpa_app ha hb)))
theorem noLs_ints : ∀ (k : List Int), noLs (k.map PyData.int) = true
  | [] => rfl
  | _ :: k => by simp only [List.map_cons, noLs, noL, Bool.true_and]; exact noLs_ints k
theorem noL_tupD (k : List Int) : noL (tupD k) = true := by
  unfold tupD
  rw [noL]
  exact noLs_ints k
theorem noLs_tupD : ∀ (es : List (List Int)), noLs (es.map tupD) = true
  | [] => rfl
  | e :: es => by
    simp only [List.map_cons, noLs, tupD, noL, noLs_ints, Bool.true_and]
    exact noLs_tupD es
end
/-- the signs of a text, each in a new pair -/
def Itse (x : Str) : It :=
  ⟨fun i _ => i < x.cps.size, fun i H v H' => ∃ T c, v = .ref T ∧ H T = none ∧ H' = upd H T (.tup [.int (i : Nat), .str ⟨#[c]⟩]) ∧ x.cps[i]? = some c, fun i _ => x.cps.size = i⟩
theorem turn_enumS {P : Program} {w : World} {K : PySem.W.Frag} {elts : List Expr} {kk : Nat} {tpos : Pos} (x : Str) (t : Tok) (en ic : Addr) :
    Turn P w K (.Tuple elts kk tpos) (Itse x) [en, ic] en (fun i h => (∃ last, IsEnum h en ic (i : Int) last) ∧ h.IsStrIter ic (strIterType x) x t i ∧ en ≠ ic) := by
  have two : ∀ {b : Addr}, b ∈ [en, ic] → b = en ∨ b = ic := fun m => by simpa using m
  refine { mem := List.mem_cons_self, obj := ?_, keep := ?_, item := ?_, done := ?_, self := ?_ }
  · rintro i h ⟨⟨last, q1⟩, ⟨oi, q2, _, q3⟩, _⟩ b m
    rcases two m with rfl | rfl
    · exact ⟨_, q1, fun _ z => by cases z⟩
    · exact ⟨oi, q2, fun _ z => by rw [q3] at z; cases z⟩
  · rintro i h h' ⟨⟨last, q1⟩, ⟨oi, q2, q3⟩, ne⟩ all
    exact ⟨⟨last, all en (by simp) _ q1⟩, ⟨oi, all ic (by simp) oi q2, q3⟩, ne⟩
  · intro X eP ew eK calm i pins st σ H E I fp ⟨⟨last, q1⟩, q2, ne⟩ lt
    subst eP; subst ew; subst eK
    have l1 : en < st.heap.objs.size := Heap.lt_size q1
    have l2 : ic < st.heap.objs.size := q2.elim fun _ z => Heap.lt_size z.1
    have signs : Draws X.prog X.w X.A.in1 ic [ic] x.cps.size (fun i v => ∃ c u, x.cps[i]? = some c ∧ v = .str ⟨#[c]⟩ u) (fun i h => h.IsStrIter ic (strIterType x) x t i) :=
      Draws.text (A := X.A.in1) (show X.A.handled = none from I.ok.hd calm) ic x t
    refine wpAny_pyNext_enum_itemD signs q1 q2 lt ne (fun z => ne (List.mem_singleton.mp z)) ?_
    rintro _ h1 tk ⟨c, tu, get, rfl⟩ out q3 tup _ kept
    refine ⟨_, rfl, wpAny_letOwnedTupleGo_enum (s := ⟨h1, st.gens, st.drawn, tk + 1, st.os⟩) out fun h2 q4 but => ?_⟩
    have tup2 : h2.get? st.heap.objs.size = some { cls := .type "tuple", data := .seq #[.int i tk, .str ⟨#[c]⟩ tu] } := by
      rw [← tup]
      exact but.2 _ (Nat.ne_of_gt l1)
    have far : ∀ b ob, b ∉ [en, ic] → st.heap.get? b = some ob → h2.get? b = some ob := by
      intro b ob nm z
      have n1 : b ≠ en := fun y => nm (y ▸ List.mem_cons_self)
      have n2 : b ≠ ic := fun y => nm (by simp [y])
      rw [← kept b ob n1 n2 z]
      exact but.2 b n1
    have I2 : Inv X pins σ (upd H st.heap.objs.size (.tup [.int (i : Nat), .str ⟨#[c]⟩])) { st with heap := h2, toks := tk + 1 } := by
      refine I.turnedNew (ch := [en, ic]) far fp (Nat.le_refl _) ⟨(by decide : 2 ≤ sizeLine), [.int i tk, .str ⟨#[c]⟩ tu], ?_, _, tup2, rfl, _, rfl⟩
      exact .cons ⟨tk, rfl⟩ (.cons ⟨tu, rfl⟩ .nil)
    have next : IsEnum h2 en ic ((i + 1 : Nat) : Int) (.str ⟨#[c]⟩ tu) := by
      rw [show ((i + 1 : Nat) : Int) = (i : Int) + 1 from Int.natCast_succ i]
      exact q4
    obtain ⟨oi, z1, z2⟩ := q3
    refine ⟨.ref st.heap.objs.size, _, I2, rfl, ⟨_, c, rfl, I.hok.fresh (Nat.le_refl _), rfl, get⟩, ⟨⟨_, next⟩, ⟨oi, (but.2 ic ne.symm).trans z1, z2⟩, ne⟩, fun b m => ?_⟩
    have lb : b < st.heap.objs.size := by
      rcases two m with rfl | rfl
      · exact l1
      · exact l2
    exact (upd_ne (Nat.ne_of_lt lb)).trans (fp b m).1
  · intro X eP ew eK calm i pins st σ H E I fp ⟨⟨last, q1⟩, q2, ne⟩ stop
    subst eP; subst ew; subst eK
    obtain ⟨a0, a1, _, a3, a4, a5⟩ := fp ic (by simp)
    cases (show x.cps.size = i from stop)
    have signs : Draws X.prog X.w X.A.in1 ic [ic] x.cps.size (fun i v => ∃ c u, x.cps[i]? = some c ∧ v = .str ⟨#[c]⟩ u) (fun i h => h.IsStrIter ic (strIterType x) x t i) :=
      Draws.text (A := X.A.in1) (show X.A.handled = none from I.ok.hd calm) ic x t
    exact wpAny_pyNext_enum_endD signs q1 q2 fun h1 but => ⟨rfl, I.turned (t' := st.toks) (fun b ob nb z => but b ob nb z) a0 a1 a3 a4 a5⟩
  · rintro A i st Q E ⟨⟨_, q1⟩, _⟩ q
    exact wpAny_pyIter_enum q1 q
def iEnumS (ta : TA) : TI := fun σ H R => ta σ H fun vs H1 => ∃ x, vs = [.str x] ∧ R (Itse x) H1
theorem pi_enumS {X : Cx} {e : Expr} {ta : TA} {p pos tpos : Pos} {elts : List Expr} {kk : Nat} (hg : Gl X "enumerate") (hm : X.mg "enumerate" = none) (ha : PA X [e] ta) (one : starEach [e] X.env = [(false, eval e X.env)] := by rfl) :
    PI X (.Tuple elts kk tpos) (.Call (.Name "enumerate" p) [e] [] pos) (iEnumS ta) := by
  constructor
  intro pins st σ H R I want
  have args := ha.run pos pins st σ H _ I want
  refine Call_ (ld_blt I hg hm boot_enumerate (PyProof.Rows.callWith_type1 (thn args ?_) one rfl))
  rintro _ t1 ⟨_, H1, I1, rv, x, rfl, q⟩
  cases rv with
  | cons r1 r2 =>
    cases r2
    obtain ⟨t, rfl⟩ := r1
    refine call_enumerate_str fun h1 q1 q2 _ kept => wpAny_pyIter_enum q1 ?_
    have new : ∀ b ∈ [t1.heap.objs.size + 1, t1.heap.objs.size], t1.heap.objs.size ≤ b := fun b m => by
      simp only [List.mem_cons, List.not_mem_nil, or_false] at m
      omega
    exact ⟨_, _, _, _, H1, rfl, I1.kept (t' := t1.toks) kept, turn_enumS x t _ t1.heap.objs.size, ⟨⟨.none, q1⟩, q2, Nat.succ_ne_self _⟩, fun b m => I1.fpOk (new b m) (I1.hok.fresh (new b m)), q⟩
variable {K : PySem.W.Frag} {g : TG} {tb : TS} {D : Ends} {σ : L2.St} {H : Hp} {ta : TA}
def rForE (g : TG) (tb : TS) (D : Ends) (σ : L2.St) (vs : List V) (H1 : Hp) : Prop := ∃ x, vs = [.str x] ∧ rForI (Itse x) g tb D σ H1
theorem w_forE (h : ta σ H fun vs H1 => rForE g tb D σ vs H1) : tFor (iEnumS ta) g tb D σ H := h
/-- the signs of a text, one after another, with their indices -/
theorem forE_by {l : List Nat} (Pv : Nat → L2.St → Hp → Prop) (h0 : Pv 0 σ H)
    (hs : ∀ i c T σ' H' H2, l[i]? = some c → Pv i σ' H' → Same H' H2 → Dp K H2 (.ref T) (.tuple [.int i, .str (Sg [c])]) → g (.ref T) σ' H2 fun σ2 H2 => tb { D with nx := Pv (i + 1), ct := Pv (i + 1), bk := D.nx } σ2 H2)
    (hd : ∀ σ' H', Pv l.length σ' H' → D.nx σ' H') : rForE g tb D σ [.str (Sg l)] H := by
  have hz : (Sg l).cps.size = l.length := by simp [Sg]
  have hget : ∀ i : Nat, (Sg l).cps[i]? = l[i]? := fun i => by rw [← Array.getElem?_toList, sg_tl]
  refine ⟨Sg l, rfl, fun i m σ H => m = l.length - i ∧ i ≤ l.length ∧ Pv i σ H, ⟨_, rfl, Nat.zero_le _, h0⟩, ?_⟩
  rintro i m σ' H' ⟨rfl, hi, p⟩
  by_cases hlt : i < l.length
  · refine .inr ⟨by show i < _; omega, Pv (i + 1), fun σ' H' p' => ⟨l.length - (i + 1), by omega, rfl, hlt, p'⟩, fun w H2 y => ?_⟩
    obtain ⟨T, c, rfl, hT, rfl, f1⟩ := y
    rw [hget] at f1
    have sm : Same H' (upd H' T (.tup [.int (i : Nat), .str ⟨#[c]⟩])) := same_new hT
    exact hs i c T σ' H' _ f1 p sm (.tup (SqT.of upd_same) (.cons (.int _) (dpa_one (.str _))))
  · have e : i = l.length := by omega
    subst e
    exact .inl ⟨hz, hd σ' H' p⟩
end Tw
namespace Tw
open PySem PySem.Spec PyProof.Rows L2
/-! ### repr -/
/-- what repr can show: no dict, numbers of at most so many digits, not too deep, not too much -/
def Shw (d : PyData) : Prop := d.showable = true ∧ d.hasDict = false ∧ d.shown.length ≤ sizeLine ∧ d.depth ≤ 40
def rRepr (K : PySem.W.Frag) : List V → Hp → VK → Prop := fun vs H Q => ∃ (a : Addr) (d : PyData), vs = [.ref a] ∧ Dp K H (.ref a) d ∧ Shw d ∧ Q (.str d.shown) H
theorem cr_repr {X : Cx} {K : PySem.W.Frag} (hg : X.A.guards = some []) (hu : X.A.units + 64 < cLine) (hK : X.K = K := by rfl) : CallR X (.builtin "repr") (rRepr K) := by
  subst hK
  intro pins s σ H xs us Q I hv h
  obtain ⟨a, d, rfl, hd, ⟨h1, h2, h3, h4⟩, q⟩ := h
  obtain ⟨u, rfl, ru⟩ := vals1 hv
  cases ru
  obtain ⟨as, R⟩ := Dp.reads I d _ _ hd rfl
  refine repr_of_reads' R h1 (PyData.noDict_hsm h2) hg (by omega) (fun _ _ e => e) (fun h' u tk hk => ?_) h3
  exact ⟨.str d.shown, H, I.kept hk, ⟨u, rfl⟩, q⟩
/-! ### defs that are run only where no repr is under way -/
structure FnG (P : Program) (w : World) (K : PySem.W.Frag) (mg : Str → Option Value) (base : Heap) (CX : CXT) (k : Nat) (f : Addr) (fd : FuncData) (ps : List Str) (sp : Sp) : Prop where
  many : ∀ us H Q E, sp us H Q E → us.length = ps.length
  goes : ∀ (A : Around) (up : List Env) (t : Shared) (H : Hp) (as : Args) (us : List Value) (vs : List V) (Q : VK) (E : XK),
    A.guards = some [] → Room k A → Env0 P w K mg base A up t H → BindsTo t fd as (ps.zip us) → Vals vs us → sp vs H Q E → codeAny (model P w) A (.call (.ref f) as) (CR CX up P w H t Q E) t
section
variable {P : Program} {w : World} {K : PySem.W.Frag} {mg : Str → Option Value} {base : Heap}
/-- such a def by its body -/
theorem FnG.of {x qual : Str} {st : Stmt} {f : Addr} {fd : FuncData} {N ps : List Str} {k : Nat} {sp : Sp} (F : L2.Fun K x qual st f fd) (S : FnScope N ps (defScope st)) (many : ∀ us H Q E, sp us H Q E → us.length = ps.length)
    (body : ∀ (cdv : Value) (A : Around) (up : List Env) (t : Shared) (H : Hp) (vs : List V) (Q : VK) (E : XK), A.guards = some [] → Room k (A.deeper (envOfC qual (defScope st) t.heap.objs.size f cdv)) → sp vs H Q E →
      ∃ r, PSs (cxOf CX0 P w K mg base N qual (defScope st) f cdv A up t H E).nox (defBody st) r ∧ r { nx := fun _ H' => Q .non H', rt := Q } (start N vs) H) : FnG P w K mg base CX0 (k + 1) f fd ps sp := by
  obtain ⟨cl, od, kv, dc, pm, an, cdv, ct, sl, hfd, hlk, hcode⟩ := F.ex
  subst hfd
  refine ⟨many, ?_⟩
  intro A up t H as us vs Q E hg room env binds rv hsp
  have old : ∀ b o, base.get? b = some o → t.heap.get? b = some o := fun b o e => (env.bs b o e).1
  have inK : K.In t.heap := env.mod.kin.keeps old
  have noLim : t.heap.NoLimit := env.mod.nolimit.keeps old
  have names : ∀ y ∈ ps.zip us, (defScope st).names.lookup y.1 = some .local ∨ ((defScope st).names.lookup y.1 = some .cell ∧ ((cellsFrom (t.heap.objs.size + 1) (defScope st).names []).lookup y.1).isSome = true) := by
    rintro ⟨nm, v⟩ hy
    have hp := S.par nm (List.of_mem_zip hy).1
    exact hp.imp id fun q => ⟨q, PySem.W.cellsFrom_some _ _ _ (.inl q)⟩
  have step := fun h => codeAny_call_function (prog := P) (w := w) (R := CR CX0 up P w H t Q E) room.depth (inK f _ hlk) rfl S.co S.gen rfl (PySem.W.codeRec_of inK hcode) (binds _ _ _ _ h)
  refine step (wpAny_newFunctionEnv_cells S.kind names fun env' heq t1 inC => ?_)
  cases heq
  obtain ⟨r, hr, hq⟩ := body cdv A up t H vs Q E hg (room.deeper _) hsp
  have J0 := inv_start (CX := CX0) (P := P) (w := w) (mg := mg) (E := E) S room.hd env (many _ _ _ _ hsp) rv inC
  refine ⟨noLim.keeps inC.toInCall.keep, codeAny_func (wpAny_mono (hr.nox.run [] t1 (start N vs) H _ J0 hq) ?_ fun _ _ z => z)⟩
  rintro fl t' hs
  match fl, hs with
  | .ret u, ⟨v, _, H', J, rv', q⟩ => exact ⟨v, H', J.os, J.bare, J.base, J.hok, rv', q⟩
  | .next, ⟨_, H', J, q⟩ => exact ⟨V.non, H', J.os, J.bare, J.base, J.hok, rfl, q⟩
  | .brk, ⟨_, _, _, q⟩ => exact q.elim
  | .cont, ⟨_, _, _, q⟩ => exact q.elim
end
section
variable {X : Cx} {CX : CXT} {k : Nat} {f : Addr} {fd : FuncData} {ps : List Str} {sp : Sp} {dvs : List V} {ds : List Value} {E : XK} {x : Str} {p pos : Pos} {e : Expr} {es : List Expr} {t : TA}
/-- a call of such a def -/
theorem pe_callG (F : FnG X.prog X.w X.K X.mg X.base CX k f fd ps sp) (hgd : X.A.guards = some []) (hr : Room k X.A) (hg : Gl X x) (hm : X.mg x = some (.ref f)) (hk : PySem.W.keepIn X.K (.ref f) = true) (hb : Binds X.K fd ps ds) (hd : Vals dvs ds) (hx : Passes CX X E)
    (args : PA X (e :: es) t) (nodbg : (x == ("__debug__" : Str)) = false := by decide) (st1 : starEach (e :: es) X.env = (false, eval e X.env) :: starEach es X.env := by rfl)
    (st2 : (backTo pos (starEach es X.env)).any (·.1) = false := by rfl) : PE X (.Call (.Name x p) (e :: es) [] pos) (tCall sp dvs E t) := by
  refine ⟨fun pins s σ H Q I h => wpAny_Call_Name_kw (ld_glob I hg hm (PySem.W.callWith_K I.ok.mod.kin hk (thn (args.run pos pins s σ H _ I h) ?_) st1 st2) nodbg)⟩
  rintro us s1 ⟨vs, H1, I1, rv, q⟩
  have rall : Vals (vs ++ dvs) (us ++ ds) := rv.append hd
  have many : (us ++ ds).length = ps.length := rall.length.symm.trans (F.many _ _ _ _ q)
  refine ⟨I1.kIn, wpAny_call (codeAny_mono (F.goes X.A X.stack s1 H1 ⟨us, []⟩ _ _ Q E hgd hr I1.env0 (hb s1 us I1.kIn many) rall q) ?_)⟩
  rintro (er | fl) s2 hq
  · exact hx pins σ H1 s1 er s2 I1 hq
  · match fl, hq with
    | .ret u, hq => exact I1.after hq
    | .next, hq => exact hq.elim
    | .brk, hq => exact hq.elim
    | .cont, hq => exact hq.elim
end
/-! ### a law that is such a def -/
section
variable {P : Program} {w : World} {K : PySem.W.Frag} {mg mb : Str → Option Value} {CX : CXT} {k : Nat} {fa a : Addr} {fd : FuncData} {x : Str} {sp : Sp} {t : Shared} {us : List Value} {zs : List Int}
/-- the script's list as it lies -/
abbrev scO (us : List Value) : Obj := { cls := .type "list", data := .seq us.toArray }
/-- the end of the caller's call -/
abbrev LawEnd (t : Shared) (r : Result) (t' : Shared) : Prop := r = .ok (.ret (.bool true)) ∧ OldK t.heap t'.heap ∧ t'.os = t.os ∧ AllBare t'.gens
theorem law_at {H : Hp} (hk : K.In t.heap) (hn : t.heap.Ns mainGlobals mg) (hm : t.heap.Ns builtinsNs mb) (hmm : ∀ y : Str, y ≠ "__name__" → mb y = bootBuiltins y) (hL : t.heap.NoLimit) (h0 : t.gens = #[])
    (at_ : t.heap.get? a = some (scO us)) (hr : Room k callerA) (F : ∀ base : Heap, K.In base → base.Ns mainGlobals mg → FnG P w K mg base CX k fa fd [x] sp) (bnd : ∀ (t : Shared) (u : Value), BindsTo t fd ⟨[u], []⟩ [(x, u)])
    (cx : ∀ H e t', CX [] H t (fun _ _ _ => False) e t' → False) (only : Only H) (ok : HOk P w H t.heap) (onlyA : ∀ b, b ≠ a → H b = none) (nK : H a ≠ none → K.lookup a = none)
    (q : sp [.ref a] H (fun v _ => v = .bl true) fun _ _ _ => False) : codeAny (model P w) callerA (.call (.ref fa) ⟨[.ref a], []⟩) (LawEnd t) t := by
  have clear : ∀ {b : Addr} {o : Obj}, t.heap.get? b = some o → (∀ es ep, o.data = .dict es ep → H b = none) := by
    intro b o e es ep ed
    by_cases hb : b = a
    · rw [hb, at_] at e
      rw [← Option.some.inj e] at ed
      cases ed
    · exact onlyA b hb
  have seen : ∀ {b : Addr} {m : Str → Option Value}, t.heap.Ns b m → (hidT t.heap H).Ns b m := by
    rintro b m ⟨o, es, ep, e, ed, rest⟩
    exact ⟨o, es, ep, hidT_get e (clear e es ep ed), ed, rest⟩
  have hk' : K.In (hidT t.heap H) := by
    intro b o e
    refine hidT_get (hk b o e) ?_
    by_cases hb : b = a
    · subst hb
      cases hz : H b with
      | none => rfl
      | some z => exact absurd (nK (by rw [hz]; exact Option.some_ne_none z)) (by rw [e]; exact Option.some_ne_none o)
    · exact onlyA b hb
  obtain ⟨mc, c1, c2⟩ := hL
  have env : Env0 P w K mg (hidT t.heap H) callerA [] t H :=
    { frames := rfl, mod := ⟨hk', seen hn, ⟨mb, seen hm, hmm⟩, ⟨mc, seen c1, c2⟩⟩, bs := fun _ _ => of_hidT, bsz := Nat.le_of_eq (hidT_size t.heap H), funs := trivial, frf := (fun b hb => by cases (show b ∈ ([] : List Addr) from hb)), hok := ok, bare := AllBare.of_eq h0 }
  have run := (F _ hk' (seen hn)).goes callerA [] t H ⟨[.ref a], []⟩ [.ref a] [.ref a] _ _ rfl hr env (bnd t _) (.cons rfl .nil) q
  refine codeAny_mono run ?_
  rintro (er | fl) t' z
  · exact (cx H er t' z).elim
  · match fl, z with
    | .ret u, ⟨v, H2, o1, o2, un, ok2, rv, qv⟩ =>
      subst qv
      have eu : u = Value.bool true := rv
      refine ⟨by rw [eu], OldK.of_keep ?_, o1, o2⟩
      intro b o e
      cases hz : H b with
      | none => exact un.keep b o e hz (fun y => by cases (show b ∈ ([] : List Addr) from y)) (fun y => by cases y)
      | some z =>
        obtain hn | ⟨ob, l, hf⟩ := only b
        · rw [hz] at hn
          cases hn
        · have f2 := un.frzs b ob _ hf
          have g1 := (ok b _ hf).1
          have g2 := (ok2 b _ f2).1
          rw [g2, ← e, g1]
    | .next, z => exact z.elim
    | .brk, z => exact z.elim
    | .cont, z => exact z.elim
theorem law_goes (hk : K.In t.heap) (hn : t.heap.Ns mainGlobals mg) (hm : t.heap.Ns builtinsNs mb) (hmm : ∀ y : Str, y ≠ "__name__" → mb y = bootBuiltins y) (hL : t.heap.NoLimit) (h0 : t.gens = #[])
    (at_ : t.heap.get? a = some (scO us)) (zi : IntsAre us zs) (zl : zs.length ≤ sizeLine) (hr : Room k callerA) (F : ∀ base : Heap, K.In base → base.Ns mainGlobals mg → FnG P w K mg base CX k fa fd [x] sp) (bnd : ∀ (t : Shared) (u : Value), BindsTo t fd ⟨[u], []⟩ [(x, u)])
    (cx : ∀ H e t', CX [] H t (fun _ _ _ => False) e t' → False) (q : ∀ H : Hp, Only H → SqL K H a (zs.map V.int) → sp [.ref a] H (fun v _ => v = .bl true) fun _ _ _ => False) :
    codeAny (model P w) callerA (.call (.ref fa) ⟨[.ref a], []⟩) (LawEnd t) t := by
  have rel := vals_ints zi
  have many := zi.length
  by_cases z : ∃ o, K.lookup a = some o
  · obtain ⟨o, ho⟩ := z
    have eo : scO us = o := Option.some.inj (at_.symm.trans (hk a o ho))
    subst eo
    have emp : Only (fun _ => none) := fun _ => .inl rfl
    refine law_at (H := fun _ => none) hk hn hm hmm hL h0 at_ hr F bnd cx emp (fun b u e => by cases (show (none : Option HO) = some u from e)) (fun _ _ => rfl) (fun e => absurd rfl e) (q _ emp (Or.inr ⟨scO us, us.toArray, _, ho, rfl, rfl, rfl, ?_, ?_⟩))
    · show us.toArray.size ≤ sizeLine
      rw [List.size_toArray]
      omega
    · simpa using rel
  · have nK : K.lookup a = none := by
      cases y : K.lookup a with
      | none => rfl
      | some o => exact absurd ⟨o, y⟩ z
    have hA : (upd (fun _ => none) a (.frz (scO us) (.lst (zs.map V.int))) : Hp) a = some (.frz (scO us) (.lst (zs.map V.int))) := upd_same
    have hB : ∀ b, b ≠ a → (upd (fun _ => none) a (.frz (scO us) (.lst (zs.map V.int))) : Hp) b = none := fun b hb => upd_ne hb
    have one : Only (upd (fun _ => none) a (.frz (scO us) (.lst (zs.map V.int)))) := by
      intro b
      by_cases hb : b = a
      · exact .inr ⟨_, _, by rw [hb]; exact hA⟩
      · exact .inl (hB b hb)
    refine law_at hk hn hm hmm hL h0 at_ hr F bnd cx one ?_ hB (fun _ => nK) (q _ one (.inl (.inr ⟨scO us, hA⟩)))
    intro b u e
    by_cases hb : b = a
    · subst hb
      rw [hA] at e
      rw [← Option.some.inj e]
      refine ⟨at_, ?_, us, _, rel, at_⟩
      rw [List.length_map]
      exact zl
    · rw [hB b hb] at e
      cases e
end
/-- the end of a law whose def is run only where no repr is under way -/
theorem walk_ofG {l : PySem.W.OpenLaw} {n k : Nat} {p : Program} {loose : List Str} {XP : (Str → Option Value) → Heap → Prop} {YP : World → Heap → Prop} {d : DefRec} {K : Params → PySem.W.Frag} {CX : World → CXT} {sp : World → Sp} {x : Str}
    (h1 : l.most = some n) (h2 : n ≤ sizeLine) (h3 : d.params.defaults = []) (hr : Room k callerA) (hY : ∀ (w : World) (h : Heap), YP w h → (K w.params).In h)
    (F : ∀ (w : World) (gl : Str → Option Value) (fa : Addr) (t : Heap), (K w.params).In t → t.Ns mainGlobals gl → gl d.name = some (.ref fa) →
      ∃ fd : FuncData, (∀ (t : Shared) (u : Value), BindsTo t fd ⟨[u], []⟩ [(x, u)]) ∧ ∀ base : Heap, (K w.params).In base → base.Ns mainGlobals gl → FnG l.prog w (K w.params) gl base (CX w) k fa fd [x] (sp w))
    (q : ∀ (w : World) (H : Hp) (a : Addr) (zs : List Int), zs.length ≤ n → (∀ z ∈ zs, Builtin.Int.intBits z ≤ 1048576) → Only H → SqL (K w.params) H a (zs.map V.int) → sp w [.ref a] H (fun v _ => v = .bl true) fun _ _ _ => False)
    (cx : ∀ (w : World) (H : Hp) (t : Shared) (e : Value) (t' : Shared), CX w [] H t (fun _ _ _ => False) e t' → False) : PySem.W.WalkO p loose XP YP l.row.toRowW d [] (fun f vs => PySem.call f vs) := by
  refine Att.attach_callB h1 h3 ?_
  intro w _ t mg mb fa o _ _ _ a us zs G Y _ _ _ name lies nums len bits bare
  obtain ⟨fd, bnd, hF⟩ := F w mg fa _ (hY w _ Y) G.T.g name
  exact law_goes (hY w _ Y) G.T.g G.T.b G.T.builtins G.T.nolimit bare lies nums (Nat.le_trans len h2) hr hF bnd (fun H e t' => cx w H t e t') fun H hO hS => q w H a zs len bits hO hS
end Tw
namespace Tw
open PySem PySem.Spec PyProof.Rows L2 PySem.W
section
variable {X : Cx} {pins : List (Addr × Obj)} {σ : L2.St} {H : Hp} {D kS : Addr} {e1 : Nat} {k : Nat} {f : Addr} {fd : FuncData} {x : Str} {sp : Sp}
/-- what stands while the keys are asked: the list at D is empty, the keys so far lie at kS -/
structure Keyed (X : Cx) (pins : List (Addr × Obj)) (σ : L2.St) (H : Hp) (D kS : Addr) (e1 : Nat) (kA : Array Value) (e : Nat) (t : Shared) : Prop where
  inv : L2.Inv X pins σ H t
  fd : FpOk X pins H D
  fk : FpOk X pins H kS
  ne : kS ≠ D
  od : t.heap.get? D = some (seqObj "list" #[] e1)
  ok : t.heap.get? kS = some (seqObj "list" kA e)
/-- one call for a key -/
theorem key_call {t : Shared} {v : Value} {y : V} {n : Int} {kA : Array Value} {e : Nat} (F : FnOk X.prog X.w X.K X.mg X.base CX0 k f fd [x] sp) (hr : Room (k + 2) X.A) (hb : Binds X.K fd [x] []) (J : Keyed X pins σ H D kS e1 kA e t) (rv : RelV y v)
    (want : sp [y] H (fun z H' => z = .int n ∧ H' = H) fun _ _ _ => False) :
    wpAny (model X.prog X.w) X.A.in1.in1 (call (.ref f) [v]) (fun u t' => (∃ tk, u = .int n tk) ∧ Keyed X pins σ H D kS e1 kA e t') (fun _ _ => False) t := by
  have two : ∀ b ∈ [D, kS], FpOk X pins H b ∧ ∃ o, t.heap.get? b = some o ∧ ∀ u, o.data ≠ .cell u := by
    intro b m
    rcases List.mem_cons.mp m with rfl | m
    · exact ⟨J.fd, _, J.od, fun u z => by cases z⟩
    · rw [List.mem_singleton.mp m]
      exact ⟨J.fk, _, J.ok, fun u z => by cases z⟩
  have I1 := J.inv.pinned (fun b m => (two b m).1) fun b m => (two b m).2
  refine wpAny_call (codeAny_mono (F.run X.A.in1.in1 X.stack t H ⟨[v], []⟩ [v] [y] _ _ hr.in1.in1 I1.env0.in1.in1 (hb t [v] I1.kIn rfl) (.cons rv .nil) want) ?_)
  rintro (er | fl) t' z
  · exact z.elim
  · match fl, z with
    | .ret u, z =>
      obtain ⟨w, H', I2, ru, ew, eH⟩ := I1.after z
      subst ew
      subst eH
      refine ⟨ru, I2.unpinned, J.fd, J.fk, J.ne, ?_, ?_⟩
      · exact (I2.pin _ (List.mem_append_right _ (List.mem_append_right _ (mem_pinsAt (by simp) J.od)))).1
      · exact (I2.pin _ (List.mem_append_right _ (List.mem_append_right _ (mem_pinsAt (by simp) J.ok)))).1
    | .next, z => exact z.elim
    | .brk, z => exact z.elim
    | .cont, z => exact z.elim
theorem Keyed.push {t : Shared} {kA : Array Value} {e : Nat} (J : Keyed X pins σ H D kS e1 kA e t) (v : Value) :
    ∃ c, Keyed X pins σ H D kS e1 (kA.push v) c { t with heap := t.heap.update kS (Obj.mapSeq (·.push v)) } := by
  have but := Heap.SameBut.update t.heap kS (Obj.mapSeq (·.push v))
  refine ⟨_, J.inv.turnedL (ch := [kS]) (fun b o m z => (but.2 b (fun y => m (by simp [y]))).trans z) (fun b m => ?_), J.fd, J.fk, J.ne, (but.2 D J.ne.symm).trans J.od, get?_update_seq J.ok (·.push v)⟩
  rw [List.mem_singleton.mp m]
  exact J.fk
/-- all keys, the sort, the list filled again -/
theorem keys_rest {t : Shared} {vs : List Value} {kz : List Int} {P : PySem.Fin → Shared → Prop} {E : Value → Shared → Prop} (F : FnOk X.prog X.w X.K X.mg X.base CX0 k f fd [x] sp) (hr : Room (k + 2) X.A) (hb : Binds X.K fd [x] []) (J : Keyed X pins σ H D kS e1 #[] 0 t)
    (many : kz.length = vs.length) (lim : vs.length ≤ sizeLine) (want : ∀ (i : Nat) (v : Value) (n : Int), vs[i]? = some v → kz[i]? = some n → ∃ y, RelV y v ∧ sp [y] H (fun z H' => z = .int n ∧ H' = H) fun _ _ _ => False)
    (h : ∀ (t' : Shared) (out : List Value) (c : Nat), L2.Inv X pins σ H t' → t'.heap.get? D = some (seqObj "list" out.toArray c) → KeyedOut false (kz.map PyData.int) vs out → P (.done (.ret .none)) t') :
    wpAny (model X.prog X.w) X.A.in1.in1 (ksk_rest D (.ref f) false vs.toArray e1 (.ref kS)) P E t := by
  unfold ksk_rest
  refine wpAny_bind (wpAny_rule ?_)
  rw [← Array.forIn_toList]
  refine wpAny_bind (ksk_fold (fun i t' => ∃ kA e, Keyed X pins σ H D kS e1 kA e t' ∧ IntsAre kA.toList (kz.take i)) vs 0 t ⟨#[], 0, J, by rw [List.take_zero]; exact IntsAre.nil⟩ ?turn ?fin)
  case turn =>
    rintro j v t1 hv ⟨kA, e, J1, ki⟩
    rw [Nat.zero_add] at ki ⊢
    have lt : j < vs.length := (List.getElem?_eq_some_iff.mp hv).1
    have hn : kz[j]? = some kz[j] := List.getElem?_eq_getElem (by omega)
    obtain ⟨y, rv, w⟩ := want j v _ hv hn
    refine wpAny_bind (wpAny_attempt (wpAny_mono (key_call F hr hb J1 rv w) ?_ fun _ _ z => z.elim))
    rintro u t2 ⟨⟨tk, rfl⟩, J2⟩
    have len : kA.size = j := by
      have := ki.length
      rw [List.length_take, Array.length_toList] at this
      omega
    obtain ⟨c, J3⟩ := J2.push (.int kz[j] tk)
    refine wpAny_bind (listUpdate_at J2.ok rfl (wpAny_pure ⟨rfl, _, c, J3, ?_⟩) (by omega) (by rw [Array.size_push]; omega))
    rw [List.take_add_one, hn, Array.toList_push]
    exact ksk_snoc ki
  case fin =>
    rintro t1 ⟨kA, e, J1, ki⟩
    rw [Nat.zero_add, ← many, List.take_length] at ki
    have len : kA.size = vs.length := by
      have := ki.length
      rw [Array.length_toList] at this
      omega
    refine wpAny_bind (listItems_at J1.ok rfl ?_)
    obtain ⟨G, g1, g2⟩ := restrict t1.heap fun b => decide (b ≠ kS)
    have kp : KeepsBut D G t1.heap := by
      intro b o _ z
      by_cases hb : b = kS
      · rw [g2 b (by simp [hb])] at z
        cases z
      · rw [← g1 b (by simp [hb])]
        exact z
    have reads : EachIs (fun v d => ∃ as, Reads t1.heap v d as) kA.toList (kz.map PyData.int) := by
      clear len many want h
      generalize kA.toList = l at ki
      induction ki with
      | nil => exact .nil
      | cons n tk _ ih => exact .cons ⟨[], .int n tk⟩ ih
    have alike_ : AllAlike (kz.map PyData.int) := by
      intro d hd d' hd'
      obtain ⟨n, _, rfl⟩ := List.mem_map.mp hd
      obtain ⟨n', _, rfl⟩ := List.mem_map.mp hd'
      rfl
    have sortable : Sortable (kz.map PyData.int) := by
      refine .inr fun d hd => ?_
      obtain ⟨n, _, rfl⟩ := List.mem_map.mp hd
      exact ⟨(fun z => by cases z), (fun xs z => by cases z)⟩
    have units : ∀ d, d ∈ kz.map PyData.int → X.A.in1.in1.units + d.depth < cLine := by
      intro d hd
      obtain ⟨n, _, rfl⟩ := List.mem_map.mp hd
      have := hr.in1.in1.units
      rw [PyData.depth, Nat.add_zero]
      exact Nat.lt_of_le_of_lt (Nat.le_add_right _ 64) this
    refine keyH_end (κ := dataKind t1.heap (kz.map PyData.int)) kp (g2 kS (by simp)) J1.ok J1.od J1.ne (SortsAt.data reads alike_ sortable units) len lim fun h2 tk c k2 at_ => ?_
    refine h _ _ c (J1.inv.turnedL (t' := tk) (ch := [D, kS]) (fun b o m z => k2 b o (fun y => m (by simp [y])) ?_) fun b m => ?_) at_ ⟨t1.heap, kA.toList, alike_, rfl, reads⟩
    · rw [g1 b (by simpa using fun y => m (by simp [y]))]
      exact z
    · rcases List.mem_cons.mp m with rfl | m
      · exact J1.fd
      · rw [List.mem_singleton.mp m]
        exact J1.fk
/-- sorted by such a def -/
theorem sorted_def {t : Shared} {l : Addr} {vs : List Value} {kz : List Int} {Q : Value → Shared → Prop} {E : Value → Shared → Prop} (F : FnOk X.prog X.w X.K X.mg X.base CX0 k f fd [x] sp) (hr : Room (k + 2) X.A) (hb : Binds X.K fd [x] []) (I : L2.Inv X pins σ H t)
    (hl : t.heap.IsList l vs.toArray) (many : kz.length = vs.length) (lim : vs.length ≤ sizeLine) (want : ∀ (i : Nat) (v : Value) (n : Int), vs[i]? = some v → kz[i]? = some n → ∃ y, RelV y v ∧ sp [y] H (fun z H' => z = .int n ∧ H' = H) fun _ _ _ => False)
    (q : ∀ (t' : Shared) (D : Addr) (out : List Value) (c : Nat), L2.Inv X pins σ H t' → FpOk X pins H D → t'.heap.get? D = some (seqObj "list" out.toArray c) → KeyedOut false (kz.map PyData.int) vs out → Q (.ref D) t') :
    wpAny (model X.prog X.w) X.A (call (.builtin "sorted") [.ref l] [(Str.ofString "key", .ref f)]) Q E t := by
  refine sorted_of_sort hl lim (ksk_s1 _ _) (fun _ => ksk_l1 _ _) fun E' => ?_
  rw [ksk_t1]
  have at0 := copyHeap_at t.heap vs
  have I0 : L2.Inv X pins σ H { t with heap := copyHeap t.heap vs } := I.kept (t' := t.toks) fun b o z => copyHeap_old z
  have fD : FpOk X pins H (t.heap.objs.size + 1) := I.fpOk (Nat.le_succ _) (I.hok.fresh (Nat.le_succ _))
  generalize hD : t.heap.objs.size + 1 = D at at0 fD ⊢
  generalize copyHeap t.heap vs = h0 at at0 I0 ⊢
  have but := Heap.SameBut.update h0 D (Obj.mapSeq fun _ => (#[] : Array Value))
  obtain ⟨e1, at1⟩ : ∃ e1, (h0.update D (Obj.mapSeq fun _ => (#[] : Array Value))).get? D = some (seqObj "list" #[] e1) := ⟨_, get?_update_seq at0 fun _ => #[]⟩
  have I1 := I0.turnedL (h' := h0.update D (Obj.mapSeq fun _ => (#[] : Array Value))) (t' := t.toks) (ch := [D]) (fun b o m z => (but.2 b (fun y => m (by simp [y]))).trans z) fun b m => by
    rw [List.mem_singleton.mp m]
    exact fD
  unfold ksk_tree
  refine wpAny_bind (listItems_at at0 rfl ?_)
  refine wpAny_bind (listUpdate_at at0 rfl ?_ (by rw [List.size_toArray]; exact lim) (Nat.zero_le _))
  refine wpAny_bind (seqEpoch_at at1 rfl ?_)
  refine wpAny_bind (wpAny_newTuple ?_ lim)
  refine wpAny_bind (wpAny_newList ?_ (Nat.zero_le _))
  refine wpAny_holding ?_
  generalize h0.update D (Obj.mapSeq fun _ => (#[] : Array Value)) = h1 at at1 I1 ⊢
  have I2 : L2.Inv X pins σ H { t with heap := h1.push (seqObj "tuple" vs.toArray 0) } := I1.kept (t' := t.toks) fun b o z => Heap.get?_push_of_some _ z
  have I3 : L2.Inv X pins σ H { t with heap := (h1.push (seqObj "tuple" vs.toArray 0)).push (seqObj "list" #[] 0) } := I2.kept (t' := t.toks) fun b o z => Heap.get?_push_of_some _ z
  have fk : FpOk X pins H (h1.push (seqObj "tuple" vs.toArray 0)).objs.size := I2.fpOk (Nat.le_refl _) (I2.hok.fresh (Nat.le_refl _))
  have ne : (h1.push (seqObj "tuple" vs.toArray 0)).objs.size ≠ D := by
    have l1 := Heap.lt_size at1
    rw [size_push']
    exact Nat.ne_of_gt (Nat.lt_succ_of_lt l1)
  have J : Keyed X pins σ H D (h1.push (seqObj "tuple" vs.toArray 0)).objs.size e1 #[] 0 { t with heap := (h1.push (seqObj "tuple" vs.toArray 0)).push (seqObj "list" #[] 0) } :=
    ⟨I3, fD, fk, ne, Heap.get?_push_of_some _ (Heap.get?_push_of_some _ at1), Heap.get?_push_size _ rfl⟩
  exact keys_rest F hr hb J many lim want fun t' out c I' lies ko => ⟨rfl, q t' D out c I' fD lies ko⟩
/-- sorted(xs, key=f): items of any data, each given an int by f -/
def rSortF (K : PySem.W.Frag) (sp : Sp) (f : Addr) : List V → List V → Hp → VK → Prop := fun vs zs H Q => ∃ (a : Addr) (es : List PyData) (key : PyData → Int), vs = [.ref a] ∧ zs = [.ref f] ∧ Dp K H (.ref a) (.list es) ∧
  (∀ e ∈ es, ∀ y, Dp K H y e → sp [y] H (fun z H' => z = .int (key e) ∧ H' = H) fun _ _ _ => False) ∧
  ∀ (es' : List PyData) (p : Addr) H', es'.Perm es → es'.Pairwise (fun a b => key a ≤ key b) → H p = none → Same H H' → Dp K H' (.ref p) (.list es') → Q (.ref p) H'
theorem cr_sortF {K : PySem.W.Frag} (F : FnOk X.prog X.w X.K X.mg X.base CX0 k f fd [x] sp) (hr : Room (k + 2) X.A) (hb : Binds X.K fd [x] []) (hK : X.K = K := by rfl) : CallRK X (.builtin "sorted") [Str.ofString "key"] (rSortF K sp f) := by
  subst hK
  intro pins t σ H xs zs us ws Q I r rz want
  obtain ⟨a, es, key, rfl, rfl, dat, ask, q⟩ := want
  obtain rfl := Vals.ref1 r
  obtain ⟨w1, rfl, ew⟩ := vals1 rz
  obtain rfl : w1 = Value.ref f := ew
  obtain ⟨a', ys, e0, hs, ha⟩ := dp_lst dat
  cases e0
  obtain ⟨its, rv, lies, lim⟩ := I.list hs
  have l1 := rv.length
  have l2 := dpa_len ha
  have each : ∀ {ys : List V} {its : List Value} {es : List PyData}, Vals ys its → DpAll X.K H ys es → EachIs (fun v d => ∃ y, RelV y v ∧ Dp X.K H y d) its es := by
    intro ys
    induction ys with
    | nil =>
      intro its es h1 h2
      cases h1; cases h2
      exact .nil
    | cons y ys ih =>
      intro its es h1 h2
      cases h1 with
      | cons r1 r2 =>
        cases h2 with
        | cons d1 d2 => exact .cons ⟨y, r1, d1⟩ (ih r2 d2)
  have ea := each rv ha
  refine sorted_def (kz := es.map key) F hr hb I (PlainL.isList lies) (by rw [List.length_map]; omega) (by omega) (fun i v n hv hn => ?_) fun t' D out c I' fD lies' ko => ?_
  · rw [List.getElem?_map] at hn
    obtain ⟨d, hd, rfl⟩ := Option.map_eq_some_iff.mp hn
    obtain ⟨y, r1, d1⟩ := ea.zip (v, d) (List.mem_of_getElem? (i := i) (List.getElem?_zip_eq_some.mpr ⟨hv, hd⟩))
    exact ⟨y, r1, ask d (List.mem_of_getElem? hd) y d1⟩
  · rw [List.map_map] at ko
    have eo := keyedOut_each (fun d => PyData.int (key d)) ko ea
    rw [dataLe_int] at eo
    have back : ∀ {out : List Value} {es' : List PyData}, EachIs (fun v d => ∃ y, RelV y v ∧ Dp X.K H y d) out es' → ∃ ys', Vals ys' out ∧ DpAll X.K H ys' es' := by
      intro out es' z
      induction z with
      | nil => exact ⟨[], .nil, .nil⟩
      | cons g _ ih =>
        obtain ⟨y, r1, d1⟩ := g
        obtain ⟨ys', r2, d2⟩ := ih
        exact ⟨y :: ys', .cons r1 r2, .cons d1 d2⟩
    obtain ⟨ys', rv', da'⟩ := back eo
    have perm := List.mergeSort_perm es fun a b => decide (key a ≤ key b)
    have ord := List.pairwise_mergeSort (le := fun a b => decide (key a ≤ key b)) (fun a b c h1 h2 => by simp only [decide_eq_true_eq] at *; omega) (fun a b => by simp only [Bool.or_eq_true, decide_eq_true_eq]; omega) es
    have lo := rv'.length
    have lo2 := dpa_len da'
    have lo3 := perm.length_eq
    have same : Same H (upd H D (.lst ys')) := same_new fD.1
    have new : ObjOk X.prog X.w (upd H D (.lst ys')) t'.heap D (.lst ys') := ⟨by omega, out, c, rv', lies'⟩
    obtain ⟨_, dl, df, dx, dc, dp⟩ := id fD
    have I2 : L2.Inv X pins σ (upd H D (.lst ys')) t' := by
      have nH : ∀ {b : Addr} {o : HO}, H b = some o → b ≠ D := fun z y => by rw [y, fD.1] at z; cases z
      refine I'.step (ch := [D]) (fun b m => ?_) (fun b o _ _ _ z _ => z) (fun b o _ _ _ z _ => ⟨o.slots, z⟩) (fun b o m z n => ?_) (fun b o _ z => ⟨o, z⟩) (fun b l z => ?_) (fun b o u z => ?_) (fun b ps z => ⟨#[], ?_⟩) (fun m z => z) (I'.hok.laidN (fun _ _ z => z) fD.1 new) I'.bare
      · rw [List.mem_singleton.mp m]
        exact ⟨dx, dl, dc, dp⟩
      · rw [upd_ne (fun y => m (by simp [y]))]
        exact n
      · rw [upd_ne (nH z)]; exact z
      · rw [upd_ne (nH z)]; exact z
      · rw [upd_ne (nH z), z]; simp
    exact ⟨.ref D, _, I2, rfl, q (es.mergeSort fun a b => decide (key a ≤ key b)) D _ perm (ord.imp fun z => by simpa using z) fD.1 same (.lst (SqL.of upd_same) (dpa_same same da'))⟩
/-- a def as a value -/
theorem pe_fn {X : Cx} {y : Str} {pos : Pos} {a : Addr} (hg : Gl X y) (hm : X.mg y = some (.ref a)) (hd : (y == ("__debug__" : Str)) = false := by decide) : PE X (.Name y pos) (tC (.ref a)) := pe_glob hg hm rfl hd
variable {K : PySem.W.Frag} {t tk : TA} {Q : VK} {r : List V → List V → Hp → VK → Prop}
theorem w_cKw (h : t σ H fun vs H1 => tk σ H1 fun zs H2 => r vs zs H2 Q) : tCKw r t tk σ H Q := h
/-- a < b < c < d -/
def tChain3 (r r' r'' : R2) (ta tb tc td : TE) : TE := fun σ H Q => ta σ H fun x H1 => tb σ H1 fun y H2 => r x y H2 fun z H3 => rBV z fun b => if b = true then tc σ H3 fun w' H4 => r' y w' H4 fun z' H5 => rBV z' fun b' =>
  if b' = true then td σ H5 fun w'' H6 => r'' w' w'' H6 Q else Q (.bl false) H5 else Q (.bl false) H3
theorem pe_chain3 {a b c d : Expr} {pos : Pos} {ta tb tc td : TE} {op op' op'' : CmpOp} {r r' r'' : R2} (ho : OpR X (compareOp op) r) (ho' : OpR X (compareOp op') r') (ho'' : OpR X (compareOp op'') r'') (ha : PE X a ta) (hb : PE X b tb) (hc : PE X c tc) (hd : PE X d td)
    (hm : lastMarks [op, op', op''] [b, c, d] = false := by with_unfolding_all rfl) : PE X (.Compare a [op, op', op''] [b, c, d] pos) (tChain3 r r' r'' ta tb tc td) := by
  refine ⟨fun pins s σ H Q I h => ?_⟩
  refine Compare_chain (thn (ha.run pins s σ H _ I h) fun v s1 ⟨x, H1, I1, r1, q1⟩ => chain_link (thn (hb.run pins s1 σ H1 _ I1 q1) fun u s2 ⟨y, H2, I2, r2, q2⟩ => thn (ho pins s2 σ H2 x y v u _ I2 r1 r2 q2) ?_)) hm
  rintro o s3 ⟨z, H3, I3, r3, b1, rfl, q3⟩
  cases r3
  refine wpAny_truthy_bool ?_
  cases b1 with
  | false => exact ite_ff ⟨.bl false, H3, I3, rfl, q3⟩
  | true =>
    refine ite_tt (chain_link (thn (hc.run pins s3 σ H3 _ I3 q3) fun w1 s4 ⟨z1, H4, I4, r4, q4⟩ => thn (ho' pins s4 σ H4 y z1 u w1 _ I4 r2 r4 q4) ?_))
    rintro o2 s5 ⟨z5, H5, I5, r5, b2, rfl, q5⟩
    cases r5
    refine wpAny_truthy_bool ?_
    cases b2 with
    | false => exact ite_ff ⟨.bl false, H5, I5, rfl, q5⟩
    | true => exact ite_tt (chain_last (thn (hd.run pins s5 σ H5 _ I5 q5) fun w2 s6 ⟨z6, H6, I6, r6, q6⟩ => ho'' pins s6 σ H6 z1 z6 w1 w2 Q I6 r4 r6 q6))
theorem pt_chain3 {a b c d : Expr} {pos : Pos} {ta tb tc td : TE} {op op' op'' : CmpOp} {r r' r'' : R2} (ho : OpR X (compareOp op) r) (ho' : OpR X (compareOp op') r') (ho'' : OpR X (compareOp op'') r'') (ha : PE X a ta) (hb : PE X b tb) (hc : PE X c tc) (hd : PE X d td)
    (hm : lastMarks [op, op', op''] [b, c, d] = false := by with_unfolding_all rfl) : PT X (.Compare a [op, op', op''] [b, c, d] pos) (tTest (tChain3 r r' r'' ta tb tc td)) := by
  refine ⟨fun pins s σ H Q I h => ?_⟩
  refine isTrue_chain (thn (ha.run pins s σ H _ I h) fun v s1 ⟨x, H1, I1, r1, q1⟩ => test_link (thn (hb.run pins s1 σ H1 _ I1 q1) fun u s2 ⟨y, H2, I2, r2, q2⟩ => thn (ho pins s2 σ H2 x y v u _ I2 r1 r2 q2) ?_)) hm
  rintro o s3 ⟨z, H3, I3, r3, b1, rfl, q3⟩
  cases r3
  refine wpAny_truthy_bool ?_
  cases b1 with
  | false =>
    obtain ⟨_, eb, q3⟩ := q3
    cases eb
    exact ite_ff ⟨H3, I3, q3⟩
  | true =>
    refine ite_tt (test_link (thn (hc.run pins s3 σ H3 _ I3 q3) fun w1 s4 ⟨z1, H4, I4, r4, q4⟩ => thn (ho' pins s4 σ H4 y z1 u w1 _ I4 r2 r4 q4) ?_))
    rintro o2 s5 ⟨z5, H5, I5, r5, b2, rfl, q5⟩
    cases r5
    refine wpAny_truthy_bool ?_
    cases b2 with
    | false =>
      obtain ⟨_, eb, q5⟩ := q5
      cases eb
      exact ite_ff ⟨H5, I5, q5⟩
    | true =>
      refine ite_tt (test_last (thn (hd.run pins s5 σ H5 _ I5 q5) fun w2 s6 ⟨z6, H6, I6, r6, q6⟩ => thn (ho'' pins s6 σ H6 z1 z6 w1 w2 _ I6 r4 r6 q6) ?_))
      rintro o3 s7 ⟨z7, H7, I7, r7, b3, rfl, q7⟩
      cases r7
      exact wpAny_truthy_bool ⟨H7, I7, q7⟩
theorem w_chain3 {r r' r'' : R2} {ta tb tc td : TE} (h : ta σ H fun x H1 => tb σ H1 fun y H2 => r x y H2 fun z H3 => rBV z fun b => if b = true then tc σ H3 fun w' H4 => r' y w' H4 fun z' H5 => rBV z' fun b' =>
  if b' = true then td σ H5 fun w'' H6 => r'' w' w'' H6 Q else Q (.bl false) H5 else Q (.bl false) H3) : tChain3 r r' r'' ta tb tc td σ H Q := h
/-- a built-in's method within a comprehension -/
theorem pe_bmK {T : String} {name : Str} {id : String} {o e : Expr} {es : List Expr} {to : TE} {t : TA} {apos cpos : Pos} {r : V → List V → Hp → VK → Prop}
    (pa : PlainAttrs T) (slot : Slot T name id) (hty : typeOf (.builtin id) = pure (.type "method_descriptor")) (hm : MtR X id r) (ho : PE X o to) (ha : PA X (e :: es) t)
    (hbase : attributeBase o name X.env (eval o X.env) = eval o X.env := by rfl)
    (few : ((backTo cpos (starEach (e :: es) X.env)).all (fun x => !x.1) && (backToKw cpos (keywordEach [] X.env)).all (fun x => x.1.isSome) && decide ((e :: es).length + ([] : List Keyword).length + (if ([] : List Keyword).isEmpty then 0 else 1) < 30)) = true := by rfl)
    (line : (apos.endLine == cpos.line) = true := by rfl) (st1 : starEach (e :: es) X.env = (false, eval e X.env) :: starEach es X.env := by rfl) (st2 : (backTo cpos (starEach es X.env)).any (·.1) = false := by rfl) (hK : X.K = K := by rfl) :
    PE X (.Call (.Attribute o name apos) (e :: es) [] cpos) (tBM K T r to t) := hK ▸ pe_bm pa slot hty hm ho ha hbase few line st1 st2
/-- sorted of ints -/
theorem cr_sortI (hK : X.K = K := by rfl) : CallR X (.builtin "sorted") (rSortedI K) := hK ▸ cr_sortedI
theorem w_sortI {v : V} {ns : List Int} (h : Dp K H v (.list (ns.map PyData.int))) (q : ∀ (ns' : List Int) (p : Addr) (H' : Hp), ns'.Perm ns → ns'.Pairwise (· ≤ ·) → Same H H' → Dp K H' (.ref p) (.list (ns'.map PyData.int)) → Q (.ref p) H') : rSortedI K [v] H Q := by
  obtain ⟨a, xs, rfl, hs, ha⟩ := dp_lst h
  obtain rfl := dpa_ints_inv ha
  exact ⟨a, ns, rfl, hs, fun ns' p h1 h2 h3 => q ns' p _ h1 h2 (same_new h3) (.lst (SqL.of upd_same) (dpa_ints ns'))⟩
end
end Tw
namespace Tw
/-- the digit number k, from 0 on -/
def lnD (p q k : Nat) : Nat := 48 + ((k + 1) * p / q - k * p / q)
def lnN (p q : Nat) : List Nat := (List.range q).map (lnD p q)
def rotL (l : List Nat) (k : Nat) : List Nat := l.drop k ++ l.take k
/-- a list of places put in order -/
def insP (x : Nat × Nat) : List (Nat × Nat) → List (Nat × Nat)
  | [] => [x]
  | y :: r => if sz x ≤ sz y then x :: y :: r else y :: insP x r
def srtP : List (Nat × Nat) → List (Nat × Nat)
  | [] => []
  | x :: r => insP x (srtP r)
def tsN (p q : Nat) : List (Nat × Nat) := srtP ((List.range q).map fun k => binN [] (rotL (lnN p q) k))
def ascB : List (Nat × Nat) → Bool
  | x :: y :: r => decide (sz x < sz y) && ascB (y :: r)
  | _ => true
theorem insP_perm (x : Nat × Nat) : ∀ l, (insP x l).Perm (x :: l)
  | [] => .refl _
  | y :: r => by
    unfold insP
    split
    · exact .refl _
    · exact ((insP_perm x r).cons y).trans (.swap x y r)
theorem srtP_perm : ∀ l, (srtP l).Perm l
  | [] => .refl _
  | x :: r => (insP_perm x (srtP r)).trans ((srtP_perm r).cons x)
theorem ascB_pw : ∀ {l : List (Nat × Nat)}, ascB l = true → l.Pairwise fun x y => sz x < sz y
  | [], _ => .nil
  | [x], _ => List.pairwise_singleton _ _
  | x :: y :: r, h => by
    unfold ascB at h
    simp only [Bool.and_eq_true, decide_eq_true_eq] at h
    have ih := ascB_pw h.2
    refine List.pairwise_cons.mpr ⟨fun z hz => ?_, ih⟩
    rcases List.mem_cons.mp hz with rfl | hz
    · exact h.1
    · exact Nat.lt_trans h.1 ((List.pairwise_cons.mp ih).1 z hz)
/-- how far doubling leads the members of a class on, 0 if not evenly -/
def tpN (ms : List (Nat × Nat)) (x : Nat × Nat) : Int := if dblN x ∈ ms then (ms.idxOf (dblN x) : Nat) else -1
def toN (ms : List (Nat × Nat)) : Int :=
  if (List.range ms.length).all fun k => decide ((ms.map (tpN ms)).getD k 0 = ((k : Int) + (ms.map (tpN ms)).getD 0 0) % (ms.length : Int)) then (ms.map (tpN ms)).getD 0 0 else 0
/-- p and q of a turning set -/
def trnL (most : Nat) : List (Nat × Nat) := (List.range' 2 (most - 1)).flatMap fun q => ((List.range' 1 (q - 1)).filter fun p => decide (Nat.gcd p q = 1)).map fun p => (p, q)
theorem ts_check : ((trnL 24).all fun t => ascB (tsN t.1 t.2) && decide (toN (tsN t.1 t.2) = (t.1 : Int))) = true := by decide +kernel
theorem flat_one {α : Type} (f : Nat → α) : ∀ l : List Nat, (l.map fun k => [f k]).flatten = l.map f
  | [] => rfl
  | a :: l => by rw [List.map_cons, List.flatten_cons, flat_one f l]; rfl
theorem lnD_step {p q : Nat} (h : p < q) (k : Nat) : k * p / q ≤ (k + 1) * p / q ∧ (k + 1) * p / q ≤ k * p / q + 1 := by
  refine ⟨Nat.div_le_div_right (Nat.mul_le_mul_right _ (Nat.le_succ k)), ?_⟩
  have e : (k + 1) * p = k * p + p := by rw [Nat.succ_mul]
  rw [e]
  have : (k * p + p) / q ≤ (k * p + q) / q := Nat.div_le_div_right (by omega)
  rwa [Nat.add_div_right _ (by omega)] at this
theorem lnD_bit {p q : Nat} (h : p < q) (k : Nat) : lnD p q k = 48 ∨ lnD p q k = 49 := by
  have := lnD_step h k
  unfold lnD
  omega
theorem lnD_int {p q : Nat} (h : p < q) (k : Nat) : (1 + (k : Int)) * (p : Int) / (q : Int) - (1 + (k : Int) - 1) * (p : Int) / (q : Int) = ((lnD p q k - 48 : Nat) : Int) := by
  have := lnD_step h k
  have e1 : (1 + (k : Int)) * (p : Int) / (q : Int) = (((k + 1) * p / q : Nat) : Int) := by
    rw [Int.natCast_ediv, Int.natCast_mul, Int.natCast_add, Int.add_comm 1]
    rfl
  have e2 : (1 + (k : Int) - 1) * (p : Int) / (q : Int) = ((k * p / q : Nat) : Int) := by
    rw [Int.natCast_ediv, Int.natCast_mul, show 1 + (k : Int) - 1 = (k : Int) by omega]
  rw [e1, e2]
  unfold lnD
  omega
theorem lnN_dg {p q : Nat} (h : p < q) : ∀ c ∈ lnN p q, c = 48 ∨ c = 49 := by
  intro c hc
  obtain ⟨k, _, rfl⟩ := List.mem_map.mp hc
  exact lnD_bit h k
theorem lnN_len (p q : Nat) : (lnN p q).length = q := by simp [lnN]
theorem rotL_mem {l : List Nat} {k c : Nat} (h : c ∈ rotL l k) : c ∈ l := by
  rcases List.mem_append.mp h with z | z
  · exact List.mem_of_mem_drop z
  · exact List.mem_of_mem_take z
theorem rotL_len {l : List Nat} {k : Nat} (h : k ≤ l.length) : (rotL l k).length = l.length := by
  simp only [rotL, List.length_append, List.length_drop, List.length_take]
  omega
end Tw
namespace Tw
open PySem PySem.Spec PyProof.Rows L2
def okT (p q : Int) : Prop := 1 ≤ p ∧ p < q ∧ q ≤ 24 ∧ Nat.gcd p.natAbs q.natAbs = 1
theorem trnL_mem {m : Nat} {t : Nat × Nat} : t ∈ trnL m ↔ 1 ≤ t.1 ∧ t.1 < t.2 ∧ t.2 ≤ m ∧ Nat.gcd t.1 t.2 = 1 := by
  obtain ⟨p, q⟩ := t
  unfold trnL
  simp only [List.mem_flatMap, List.mem_map, List.mem_filter, List.mem_range'_1, decide_eq_true_eq, Prod.mk.injEq]
  constructor
  · rintro ⟨q', ⟨a, b⟩, p', ⟨⟨c, d⟩, e⟩, rfl, rfl⟩
    exact ⟨c, by omega, by omega, e⟩
  · rintro ⟨a, b, c, d⟩
    exact ⟨q, ⟨by omega, by omega⟩, p, ⟨⟨a, by omega⟩, d⟩, rfl, rfl⟩
theorem trnL_check : ((List.range 25).all fun m => decide ((trnL m).length ≤ 1000)) = true := by decide +kernel
theorem trnL_len {m : Nat} (h : m ≤ 24) : (trnL m).length ≤ 1000 := of_decide_eq_true (List.all_eq_true.mp trnL_check m (List.mem_range.mpr (by omega)))
theorem trnL_succ (i : Nat) : trnL (1 + (i + 1)) = trnL (1 + i) ++ ((List.range' 1 (2 + i - 1)).filter fun p => decide (Nat.gcd p (2 + i) = 1)).map fun p => (p, 2 + i) := by
  unfold trnL
  rw [show 1 + (i + 1) - 1 = i + 1 by omega, show 1 + i - 1 = i by omega]
  have e := List.range'_concat (s := 2) (n := i) (step := 1)
  rw [Nat.one_mul] at e
  rw [e, List.flatMap_append]
  simp
theorem ts_ok {p q : Nat} (h1 : 1 ≤ p) (h2 : p < q) (h3 : q ≤ 24) (h4 : Nat.gcd p q = 1) : (tsN p q).Pairwise (fun x y => sz x < sz y) ∧ toN (tsN p q) = (p : Int) := by
  have := List.all_eq_true.mp ts_check (p, q) (trnL_mem.mpr ⟨h1, h2, h3, h4⟩)
  simp only [Bool.and_eq_true, decide_eq_true_eq] at this
  exact ⟨ascB_pw this.1, this.2⟩
theorem ts_perm (p q : Nat) : (tsN p q).Perm ((List.range q).map fun k => binN [] (rotL (lnN p q) k)) := srtP_perm _
theorem ts_len (p q : Nat) : (tsN p q).length = q := by rw [(ts_perm p q).length_eq]; simp
theorem ts_plc {p q : Nat} (h0 : 0 < q) (h3 : q ≤ 24) : ∀ x ∈ tsN p q, Plc x := by
  intro x hx
  obtain ⟨k, hk, rfl⟩ := List.mem_map.mp ((ts_perm p q).mem_iff.mp hx)
  have hk := List.mem_range.mp hk
  have hl : (rotL (lnN p q) k).length = q := by rw [rotL_len (by rw [lnN_len]; omega), lnN_len]
  exact bin_plc (fun z => by rw [z] at hl; simp at hl; omega) (by simp [hl]; omega)
/-- the key of a place as data -/
def keyP : PyData → Int
  | .tuple [.int a, .int b] => (sz (a.toNat, b.toNat) : Nat)
  | _ => 0
theorem keyP_pd (x : Nat × Nat) : keyP (pd x) = (sz x : Nat) := rfl
theorem pds_perm {es : List PyData} {xs : List (Nat × Nat)} (h : es.Perm (xs.map pd)) : ∃ ys : List (Nat × Nat), es = ys.map pd ∧ ys.Perm xs := by
  have hm : ∀ e ∈ es, ∃ x, e = pd x := fun e he => by
    obtain ⟨x, _, rfl⟩ := List.mem_map.mp (h.mem_iff.mp he)
    exact ⟨x, rfl⟩
  have : ∃ ys : List (Nat × Nat), es = ys.map pd := by
    clear h
    induction es with
    | nil => exact ⟨[], rfl⟩
    | cons e es ih =>
      obtain ⟨ys, rfl⟩ := ih fun e he => hm e (List.mem_cons_of_mem _ he)
      obtain ⟨x, rfl⟩ := hm e List.mem_cons_self
      exact ⟨x :: ys, rfl⟩
  obtain ⟨ys, rfl⟩ := this
  refine ⟨ys, rfl, ?_⟩
  have back : ∀ l : List (Nat × Nat), (l.map pd).map (fun d => match d with | PyData.tuple [.int a, .int b] => (a.toNat, b.toNat) | _ => (0, 0)) = l := fun l => by
    rw [List.map_map]
    conv => rhs; rw [← List.map_id l]
    exact List.map_congr_left fun x _ => rfl
  have := h.map (fun d => match d with | PyData.tuple [.int a, .int b] => (a.toNat, b.toNat) | _ => (0, 0))
  rwa [back, back] at this
/-- what sorted by size gives of the places of all turns -/
theorem ts_sorted {p q : Nat} (h1 : 1 ≤ p) (h2 : p < q) (h3 : q ≤ 24) (h4 : Nat.gcd p q = 1) {es : List PyData} (hp : es.Perm (((List.range q).map fun k => binN [] (rotL (lnN p q) k)).map pd)) (ho : es.Pairwise fun a b => keyP a ≤ keyP b) : es = (tsN p q).map pd := by
  obtain ⟨ys, rfl, hy⟩ := pds_perm hp
  rw [List.pairwise_map] at ho
  have ho' : ys.Pairwise fun a b => sz a ≤ sz b := ho.imp fun {a b} z => by rw [keyP_pd, keyP_pd] at z; omega
  have pc := ts_plc (p := p) (q := q) (by omega) h3
  have hm : ∀ x, x ∈ ys ↔ x ∈ tsN p q := fun x => (hy.trans (ts_perm p q).symm).mem_iff
  have lt := (ts_ok h1 h2 h3 h4).1
  -- both lists are in order; on places the size tells the place
  have key : ∀ {l m : List (Nat × Nat)}, (∀ x ∈ l, Plc x) → l.Perm m → l.Pairwise (fun a b => sz a ≤ sz b) → m.Pairwise (fun a b => sz a ≤ sz b) → l = m := by
    intro l
    induction l with
    | nil => intro m _ pm _ _; exact (List.nil_perm.mp pm).symm
    | cons a l ih =>
      intro m hpl pm o1 o2
      cases m with
      | nil => exact absurd pm.length_eq (by simp)
      | cons b m =>
        obtain ⟨g1, g2⟩ := List.pairwise_cons.mp o1
        obtain ⟨k1, k2⟩ := List.pairwise_cons.mp o2
        have e : a = b := by
          rcases List.mem_cons.mp (pm.mem_iff.mp (List.mem_cons_self (a := a) (l := l))) with z | z
          · exact z
          · rcases List.mem_cons.mp (pm.mem_iff.mpr (List.mem_cons_self (a := b) (l := m))) with y | y
            · exact y.symm
            · exact sz_inj (hpl a List.mem_cons_self) (hpl b (pm.mem_iff.mpr List.mem_cons_self)) (Nat.le_antisymm (g1 b y) (k1 a z))
        subst e
        rw [ih (fun x hx => hpl x (List.mem_cons_of_mem _ hx)) (List.perm_cons a |>.mp pm) g2 k2]
  rw [key (fun x hx => pc x ((hm x).mp hx)) (hy.trans (ts_perm p q).symm) ho' (lt.imp fun z => Nat.le_of_lt z)]
end Tw
namespace Tw
/-- all orbits of places of a period, each begun with its least place -/
def rdsF : List (Nat × Nat) → List (Nat × Nat) × List (List (Nat × Nat)) → List (Nat × Nat) × List (List (Nat × Nat))
  | [], s => s
  | x :: r, s => rdsF r (if x ∈ s.1 then s else (s.1 ++ orbN x, s.2 ++ [orbN x]))
def rdsN (n : Nat) : List (List (Nat × Nat)) := (rdsF (plN 0 n) ([], [])).2
def rdsOk (n : Nat) : Bool := ascB (plN 0 n) && (rdsN n).all fun r => ascB (srtP r) && (decide (toN (srtP r) ≤ 0) || (decide (0 < toN (srtP r)) && decide (toN (srtP r) < (n : Int)) && decide (tsN (toN (srtP r)).toNat n = srtP r)))
theorem rds_check : ((List.range' 2 6).all rdsOk) = true := by decide +kernel
/-- by how many places the orbits that turn are turned -/
def metN (n : Nat) : List Int := ((rdsN n).map fun r => toN (srtP r)).filter fun z => decide (0 < z)
def insI (x : Int) : List Int → List Int
  | [] => [x]
  | y :: r => if x ≤ y then x :: y :: r else y :: insI x r
def srtI : List Int → List Int
  | [] => []
  | x :: r => insI x (srtI r)
theorem met_check : ((List.range' 2 6).all fun n => decide (srtI (metN n) = ((List.range' 1 (n - 1)).filter fun p => decide (Nat.gcd p n = 1)).map fun p : Nat => (p : Int))) = true := by decide +kernel
end Tw
namespace Tw
open PySem PySem.Spec PyProof.Rows L2
/-! ### where a place stands in a tuple of places -/
def rTIdx (K : PySem.W.Frag) : V → List V → Hp → VK → Prop := fun v xs H Q => ∃ (a : Addr) (y : V) (ms : List (Nat × Nat)) (c : Nat × Nat), v = .ref a ∧ xs = [y] ∧ Dp K H (.ref a) (.tuple (ms.map pd)) ∧ Dp K H y (pd c) ∧ c ∈ ms ∧ Q (.int (ms.idxOf c : Nat)) H
theorem pd_eqv (a b : Nat × Nat) : PyData.eqv (pd a) (pd b) = decide (a = b) := by
  have h := pln_eqv 8 8 (pd a) (pd b) (pd_pln a) (pd_pln b)
  by_cases e : a = b
  · rw [decide_eq_true e, e]
    exact (pln_eqv 8 8 (pd b) (pd b) (pd_pln b) (pd_pln b)).mpr rfl
  · rw [decide_eq_false e]
    cases z : PyData.eqv (pd a) (pd b) with
    | false => rfl
    | true =>
      refine absurd ?_ e
      have := h.mp z
      unfold pd at this
      simp only [PyData.tuple.injEq, List.cons.injEq, PyData.int.injEq, and_true] at this
      exact Prod.ext (Int.ofNat.inj this.1) (Int.ofNat.inj this.2)
theorem beq_inst {α : Type} (i1 i2 : BEq α) (h1 : @LawfulBEq α i1) (h2 : @LawfulBEq α i2) : i1 = i2 := by
  have e : ∀ a b, i1.beq a b = i2.beq a b := fun a b => by
    cases z1 : i1.beq a b with
    | true =>
      have := h1.eq_of_beq z1
      subst this
      exact h2.rfl.symm
    | false =>
      cases z2 : i2.beq a b with
      | false => rfl
      | true =>
        have := h2.eq_of_beq z2
        subst this
        exact absurd h1.rfl (by rw [show (@BEq.beq α i1 a a) = false from z1]; decide)
  cases i1
  cases i2
  congr 1
  funext a b
  exact e a b
theorem idx_inst (c : Nat × Nat) (ms : List (Nat × Nat)) : @List.idxOf (Nat × Nat) instBEqOfDecidableEq c ms = ms.idxOf c :=
  congrArg (fun i => @List.idxOf (Nat × Nat) i c ms) (beq_inst _ _ inferInstance inferInstance)
theorem mt_tidx {X : Cx} {K : PySem.W.Frag} (hu : X.A.units + 65 < cLine) (hK : X.K = K := by rfl) : MtR X "tuple.index" (rTIdx K) := by
  subst hK
  intro pins s σ H v xs u us Q I rv rxs h
  obtain ⟨a, y, ms, c, rfl, rfl, hd, hy, hc, q⟩ := h
  cases rv
  obtain ⟨uy, rfl, ry⟩ := vals1 rxs
  obtain ⟨bs, r1⟩ := Dp.reads I (pd c) y uy hy ry
  obtain ⟨a', ys, e0, hs, ha⟩ := dp_tup hd
  cases e0
  obtain ⟨its, rits, lies, lim⟩ := I.tuple hs
  obtain ⟨as, h4⟩ := Dp.readsAll I (ms.map pd) _ its ha rits
  have sh : ∀ l : List (Nat × Nat), PyData.canLayAll0 (l.map pd) = true := fun l => SeqAt.canLay_of_shaped (pln_shaped (pln_tuple (k := 8) fun z hz => by obtain ⟨x, _, rfl⟩ := List.mem_map.mp hz; exact pd_pln x) (by decide))
  have hn : its.length = (ms.map pd).length := SeqAt.ReadsAll.length _ its as h4
  have hmap : its.map (SeqAt.readOf s.heap) = ms.map pd := SeqAt.readsAll_map _ its as (sh ms) h4
  have ssd : SeqAt.shaped (pd c) = true := pln_shaped (pd_pln (k := 7) c) (by decide)
  have eqs := SeqAt.items_eqAt (A := X.A) (vs := its.toArray) (show ReadsAll s.heap its.toArray.toList (ms.map pd) as from h4) r1 (sh ms) (SeqAt.canLay_of_shaped ssd) (room_in_shaped ssd hu)
  refine SeqAt.call_tuple_index (ks := ms) (k := c) lies ⟨by rw [hn, List.length_map], fun j h1 h2 => ?_⟩ hc ⟨.int (ms.idxOf c : Nat), H, I.tok _, ⟨s.toks, by rw [idx_inst]⟩, q⟩
  have e1 : SeqAt.readOf s.heap its[j] = pd ms[j] := by
    have := congrArg (fun l => l[j]?) hmap
    simp only [List.getElem?_map, List.getElem?_eq_getElem h1, List.getElem?_eq_getElem h2, Option.map_some] at this
    exact Option.some.inj this
  have := eqs its[j] (by simp)
  rw [e1, pd_eqv] at this
  exact this
end Tw
namespace Tw
open PySem PySem.Spec PyProof.Rows L2
theorem w_tidx {K : PySem.W.Frag} {H : Hp} {Q : VK} {v y : V} {ms : List (Nat × Nat)} {c : Nat × Nat} (h1 : Dp K H v (.tuple (ms.map pd))) (h2 : Dp K H y (pd c)) (h3 : c ∈ ms) (q : Q (.int (ms.idxOf c : Nat)) H) : rTIdx K v [y] H Q := by
  obtain ⟨a, xs, rfl, _, _⟩ := dp_tup h1
  exact ⟨a, y, ms, c, rfl, rfl, h1, h2, h3, q⟩
end Tw
namespace Tw
open PySem PySem.Spec PyProof.Rows L2
theorem pd_mem {x : Nat × Nat} {ms : List (Nat × Nat)} : pd x ∈ ms.map pd ↔ x ∈ ms := by
  constructor
  · intro h
    obtain ⟨y, hy, e⟩ := List.mem_map.mp h
    exact pd_inj e ▸ hy
  · exact fun h => List.mem_map.mpr ⟨x, h, rfl⟩
end Tw
namespace Tw
open PySem PySem.Spec PyProof.Rows L2
/-! ### rows of places in a list that grows -/
inductive RowsA (K : PySem.W.Frag) (H : Hp) (pf : Addr) : List V → List (List (Nat × Nat)) → Prop
  | nil : RowsA K H pf [] []
  | cons {q : Addr} {zs ws : List V} {r : List (Nat × Nat)} {rs : List (List (Nat × Nat))} : q ≠ pf → H q = some (.lst zs) → DpAll K H zs (r.map pd) → RowsA K H pf ws rs → RowsA K H pf (.ref q :: ws) (r :: rs)
theorem noLs_pds : ∀ l : List (Nat × Nat), noLs (l.map pd) = true
  | [] => rfl
  | u :: r => by simp only [List.map_cons, noLs, pd_noL, Bool.true_and]; exact noLs_pds r
section
variable {K : PySem.W.Frag} {H H' : Hp} {pf : Addr} {ws : List V} {rs : List (List (Nat × Nat))}
theorem RowsA.same (h : RowsA K H pf ws rs) (e : Same H H') : RowsA K H' pf ws rs := by
  induction h with
  | nil => exact .nil
  | cons a b c _ ih => exact .cons a (e _ _ b) (dpa_same e c) ih
theorem RowsA.upd {xs ys : List V} (h : RowsA K H pf ws rs) (at_ : H pf = some (.lst xs)) : RowsA K (upd H pf (.lst ys)) pf ws rs := by
  induction h with
  | nil => exact .nil
  | cons a b c _ ih => exact .cons a (by rw [upd_ne a]; exact b) (dpa_upd at_ _ _ (noLs_pds _) c) ih
theorem RowsA.snoc {q : Addr} {zs : List V} {r : List (Nat × Nat)} (h : RowsA K H pf ws rs) (a : q ≠ pf) (b : H q = some (.lst zs)) (c : DpAll K H zs (r.map pd)) : RowsA K H pf (ws ++ [.ref q]) (rs ++ [r]) := by
  induction h with
  | nil => exact .cons a b c .nil
  | cons a' b' c' _ ih => exact .cons a' b' c' ih
theorem RowsA.dpa (h : RowsA K H pf ws rs) : DpAll K H ws (rs.map fun r => PyData.list (r.map pd)) := by
  induction h with
  | nil => exact .nil
  | cons _ b c _ ih => exact .cons (dp_newL b c) ih
theorem RowsA.len (h : RowsA K H pf ws rs) : ws.length = rs.length := by
  induction h with
  | nil => rfl
  | cons _ _ _ _ ih => simp [ih]
end
theorem rdsF_snoc (x : Nat × Nat) : ∀ (l : List (Nat × Nat)) (s : List (Nat × Nat) × List (List (Nat × Nat))), rdsF (l ++ [x]) s = (if x ∈ (rdsF l s).1 then rdsF l s else ((rdsF l s).1 ++ orbN x, (rdsF l s).2 ++ [orbN x]))
  | [], s => rfl
  | y :: l, s => rdsF_snoc x l _
theorem rdsF_len (l : List (Nat × Nat)) (hp : ∀ x ∈ l, Plc x) : ∀ s : List (Nat × Nat) × List (List (Nat × Nat)), (rdsF l s).1.length ≤ s.1.length + 24 * l.length ∧ (rdsF l s).2.length ≤ s.2.length + l.length := by
  induction l with
  | nil => intro s; exact ⟨by simp [rdsF], by simp [rdsF]⟩
  | cons x r ih =>
    intro s
    obtain ⟨a, b⟩ := ih (fun z hz => hp z (List.mem_cons_of_mem _ hz)) (if x ∈ s.1 then s else (s.1 ++ orbN x, s.2 ++ [orbN x]))
    have ho : (orbN x).length ≤ 24 := by
      rw [orb_len]
      have := (ways (hp x List.mem_cons_self)).le
      omega
    unfold rdsF
    split at a
    · rename_i h
      rw [if_pos h] at b ⊢
      simp only [List.length_cons]
      omega
    · rename_i h
      rw [if_neg h] at b ⊢
      simp only [List.length_cons, List.length_append, List.length_nil] at a b ⊢
      omega
theorem rds_pos_check : ((List.range' 2 6).all fun n => decide (0 < (plN 0 n).length)) = true := by decide +kernel
theorem rds_pos {n : Nat} (h1 : 2 ≤ n) (h2 : n ≤ 7) : 0 < (plN 0 n).length := of_decide_eq_true (List.all_eq_true.mp rds_pos_check n (List.mem_range'_1.mpr ⟨h1, by omega⟩))
theorem rds_ok {n : Nat} (h1 : 2 ≤ n) (h2 : n ≤ 7) : (plN 0 n).Pairwise (fun x y => sz x < sz y) ∧ ∀ r ∈ rdsN n, (srtP r).Pairwise (fun x y => sz x < sz y) ∧ (0 < toN (srtP r) → toN (srtP r) < (n : Int) ∧ tsN (toN (srtP r)).toNat n = srtP r) := by
  have := List.all_eq_true.mp rds_check n (List.mem_range'_1.mpr ⟨h1, by omega⟩)
  unfold rdsOk at this
  simp only [Bool.and_eq_true, List.all_eq_true, Bool.or_eq_true, decide_eq_true_eq] at this
  refine ⟨ascB_pw this.1, fun r hr => ?_⟩
  obtain ⟨a, b⟩ := this.2 r hr
  refine ⟨ascB_pw a, fun z => ?_⟩
  rcases b with b | b
  · omega
  · exact ⟨b.1.2, b.2⟩
end Tw
namespace Tw
open PySem PySem.Spec PyProof.Rows L2
/-- a list that is walked while another one, at pf, grows -/
def SrcL (K : PySem.W.Frag) (H : Hp) (pf a : Addr) (xs : List V) : Prop := (a ≠ pf ∧ Rd H a (.lst xs)) ∨
  ∃ (o : Obj) (its : Array Value) (n : Nat), K.lookup a = some o ∧ o.cls = .type "list" ∧ o.dict = none ∧ o.data = .seq its n ∧ its.size ≤ sizeLine ∧ Vals xs its.toList
section
variable {K : PySem.W.Frag} {H H' : Hp} {pf a : Addr} {xs ys zs : List V}
theorem SrcL.sq (h : SrcL K H pf a xs) : SqL K H a xs := h.imp (fun z => z.2) id
theorem SrcL.of (h : SqL K H a xs) (at_ : H pf = some (.lst ys)) (ne : xs ≠ ys) : SrcL K H pf a xs := by
  refine h.imp (fun z => ⟨fun e => ?_, z⟩) id
  subst e
  rcases z with z | ⟨o, z⟩
  · rw [at_] at z
    cases z
    exact ne rfl
  · rw [at_] at z
    cases z
theorem SrcL.same (h : SrcL K H pf a xs) (e : Same H H') : SrcL K H' pf a xs := by
  refine h.imp (fun z => ⟨z.1, ?_⟩) id
  rcases z.2 with z | ⟨o, z⟩
  · exact .inl (e _ _ z)
  · exact .inr ⟨o, e _ _ z⟩
theorem SrcL.upd (h : SrcL K H pf a xs) : SrcL K (upd H pf (.lst zs)) pf a xs := by
  refine h.imp (fun z => ⟨z.1, ?_⟩) id
  rcases z.2 with y | ⟨o, y⟩
  · exact .inl (by rw [upd_ne z.1]; exact y)
  · exact .inr ⟨o, by rw [upd_ne z.1]; exact y⟩
end
theorem forL_byA {K : PySem.W.Frag} {H : Hp} {σ : L2.St} {g : TG} {tb : TS} {D : Ends} {a : Addr} {xs : List V} {ds : List PyData} (Pv : Nat → L2.St → Hp → Prop) (hq : SqL K H a xs) (hl : xs.length = ds.length) (h0 : Pv 0 σ H) (hk : ∀ i σ' H', i ≤ ds.length → Pv i σ' H' → SqL K H' a xs ∧ DpAll K H' xs ds)
    (hs : ∀ i d y σ' H', ds[i]? = some d → Dp K H' y d → Pv i σ' H' → g y σ' H' fun σ2 H2 => tb { D with nx := Pv (i + 1), ct := Pv (i + 1), bk := D.nx } σ2 H2) (hd : ∀ σ' H', Pv ds.length σ' H' → D.nx σ' H') : rForL K g tb D σ (.ref a) H := by
  refine ⟨a, rfl, ⟨xs, hq⟩, for_list (xs := xs) Pv h0 (fun i σ' H' hi p => (hk i σ' H' (by omega) p).1) (fun i y σ' H' hi p => ?_) (fun σ' H' p => hd σ' H' (by rw [← hl]; exact p))⟩
  have hlt := (List.getElem?_eq_some_iff.mp hi).1
  obtain ⟨d, e1, e2⟩ := dpa_get2 (hk i σ' H' (by omega) p).2 hi
  exact hs i d y σ' H' e1 e2 p
end Tw
namespace Tw
open PySem PySem.Spec PyProof.Rows L2
inductive RowsS (K : PySem.W.Frag) (H : Hp) (pf : Addr) : List V → List (List (Nat × Nat)) → Prop
  | nil : RowsS K H pf [] []
  | cons {q : Addr} {zs ws : List V} {r : List (Nat × Nat)} {rs : List (List (Nat × Nat))} : SrcL K H pf q zs → DpAll K H zs (r.map pd) → RowsS K H pf ws rs → RowsS K H pf (.ref q :: ws) (r :: rs)
section
variable {K : PySem.W.Frag} {H H' : Hp} {pf : Addr} {ws : List V} {rs : List (List (Nat × Nat))}
theorem RowsS.same (h : RowsS K H pf ws rs) (e : Same H H') : RowsS K H' pf ws rs := by
  induction h with
  | nil => exact .nil
  | cons b c _ ih => exact .cons (b.same e) (dpa_same e c) ih
theorem RowsS.upd {xs ys : List V} (h : RowsS K H pf ws rs) (at_ : H pf = some (.lst xs)) : RowsS K (upd H pf (.lst ys)) pf ws rs := by
  induction h with
  | nil => exact .nil
  | cons b c _ ih => exact .cons b.upd (dpa_upd at_ _ _ (noLs_pds _) c) ih
theorem RowsS.dpa (h : RowsS K H pf ws rs) : DpAll K H ws (rs.map fun r => PyData.list (r.map pd)) := by
  induction h with
  | nil => exact .nil
  | cons b c _ ih => exact .cons (.lst b.sq c) ih
theorem RowsS.of (at_ : H pf = some (.lst [])) : ∀ {ws : List V} {rs : List (List (Nat × Nat))}, (∀ r ∈ rs, r ≠ []) → DpAll K H ws (rs.map fun r => PyData.list (r.map pd)) → RowsS K H pf ws rs
  | [], [], _, _ => .nil
  | [], _ :: _, _, h => by cases h
  | _ :: _, [], _, h => by cases h
  | w :: ws, r :: rs, ne, h => by
    cases h with
    | cons a b =>
      obtain ⟨q, zs, rfl, hs, ha⟩ := dp_lst a
      refine .cons (SrcL.of hs at_ fun z => ?_) ha (RowsS.of at_ (fun r hr => ne r (List.mem_cons_of_mem _ hr)) b)
      subst z
      have := dpa_len ha
      rw [List.length_map] at this
      exact ne r List.mem_cons_self (List.eq_nil_of_length_eq_zero this.symm)
end
/-! ### what repr shows of places -/
theorem shw_pd {x : Nat × Nat} (h : Plc x) : (pd x).showable = true ∧ (pd x).hasDict = false ∧ (pd x).leavesShort 13 = true ∧ (pd x).weight ≤ 100 ∧ (pd x).depth = 1 := by
  have a := h.lt
  have b := h.small
  have e24 : (2 : Nat) ^ 24 = 16777216 := by decide
  have one : ∀ n : Nat, n < 2 ^ 24 → PyData.showable (.int (n : Int)) = true ∧ PyData.leavesShort 13 (.int (n : Int)) = true ∧ PyData.weight (.int (n : Int)) ≤ 25 := by
    intro n hn
    have hl : (n : Int).natAbs.log2 < 24 := PySem.Flt.log2_lt_of (by decide) (by rw [Int.natAbs_natCast]; exact hn)
    refine ⟨?_, ?_, ?_⟩
    · rw [PyData.showable]
      exact decide_eq_true (by omega)
    · rw [PyData.leavesShort]
      exact decide_eq_true (PyData.shown_int_le (by rw [Int.natAbs_natCast]; omega))
    · rw [PyData.weight]
      split <;> omega
  obtain ⟨a1, a2, a3⟩ := one x.1 (by omega)
  obtain ⟨b1, b2, b3⟩ := one x.2 b
  refine ⟨?_, ?_, ?_, ?_, ?_⟩
  · simp only [pd, PyData.showable, PyData.showableAll] at a1 b1 ⊢
    rw [a1, b1]
    rfl
  · simp only [pd, PyData.hasDict, PyData.hasDictAll, Bool.or_false]
  · simp only [pd, PyData.leavesShort, PyData.leavesShortAll] at a2 b2 ⊢
    rw [a2, b2]
    rfl
  · simp only [pd, PyData.weight, PyData.weightAll] at a3 b3 ⊢
    omega
  · simp [pd, PyData.depth, PyData.depthAll]
theorem shw_pds : ∀ {ms : List (Nat × Nat)}, (∀ x ∈ ms, Plc x) → PyData.showableAll (ms.map pd) = true ∧ PyData.hasDictAll (ms.map pd) = false ∧ PyData.leavesShortAll 13 (ms.map pd) = true ∧ PyData.weightAll (ms.map pd) ≤ 101 * ms.length ∧ PyData.depthAll (ms.map pd) ≤ 1
  | [], _ => ⟨rfl, rfl, rfl, Nat.le_refl _, Nat.zero_le _⟩
  | x :: r, h => by
    obtain ⟨a1, a2, a3, a4, a5⟩ := shw_pd (h x List.mem_cons_self)
    obtain ⟨b1, b2, b3, b4, b5⟩ := shw_pds (ms := r) fun y hy => h y (List.mem_cons_of_mem _ hy)
    refine ⟨?_, ?_, ?_, ?_, ?_⟩
    · rw [List.map_cons, PyData.showableAll, a1, b1]; rfl
    · rw [List.map_cons, PyData.hasDictAll, a2, b2]; rfl
    · rw [List.map_cons, PyData.leavesShortAll, a3, b3]; rfl
    · rw [List.map_cons, PyData.weightAll, List.length_cons]; omega
    · rw [List.map_cons, PyData.depthAll, a5]; omega
theorem shw_tup {ms : List (Nat × Nat)} (h : ∀ x ∈ ms, Plc x) (hl : ms.length ≤ 100) : Shw (.tuple (ms.map pd)) := by
  obtain ⟨b1, b2, b3, b4, b5⟩ := shw_pds h
  refine ⟨by rw [PyData.showable]; exact b1, by rw [PyData.hasDict]; exact b2, ?_, by rw [PyData.depth]; omega⟩
  have := PyData.shown_le 13 (by decide) (.tuple (ms.map pd)) (by rw [PyData.leavesShort]; exact b3)
  have e := sizeLine_eq
  rw [PyData.weight] at this
  omega
/-! ### the orbits -/
theorem rdsF_orb : ∀ (l : List (Nat × Nat)) (s : List (Nat × Nat) × List (List (Nat × Nat))), ∀ r ∈ (rdsF l s).2, r ∈ s.2 ∨ ∃ x ∈ l, r = orbN x
  | [], s, r, h => .inl h
  | x :: l, s, r, h => by
    rcases rdsF_orb l _ r h with z | ⟨y, hy, e⟩
    · split at z
      · exact .inl z
      · rcases List.mem_append.mp z with z | z
        · exact .inl z
        · exact .inr ⟨x, List.mem_cons_self, List.mem_singleton.mp z⟩
    · exact .inr ⟨y, List.mem_cons_of_mem _ hy, e⟩
theorem rds_plc {n : Nat} (h1 : 2 ≤ n) (h2 : n ≤ 7) : ∀ r ∈ rdsN n, (∀ x ∈ r, Plc x) ∧ r ≠ [] ∧ r.length ≤ 24 := by
  intro r hr
  rcases rdsF_orb _ _ r hr with z | ⟨x, hx, rfl⟩
  · cases z
  · have px := pl_plc (by omega) (by omega) x hx
    have w := ways px
    have hle := w.le
    have hn := w.n1
    refine ⟨fun y hy => ?_, fun z => ?_, by rw [orb_len]; omega⟩
    · obtain ⟨i, _, rfl⟩ := List.mem_map.mp hy
      exact it_plc px i
    · have := congrArg List.length z
      rw [orb_len] at this
      simp at this
      omega
theorem insI_perm (x : Int) : ∀ l, (insI x l).Perm (x :: l)
  | [] => .refl _
  | y :: r => by
    unfold insI
    split
    · exact .refl _
    · exact ((insI_perm x r).cons y).trans (.swap x y r)
theorem srtI_perm : ∀ l, (srtI l).Perm l
  | [] => .refl _
  | x :: r => (insI_perm x (srtI r)).trans ((srtI_perm r).cons x)
def copL (n : Nat) : List Int := ((List.range' 1 (n - 1)).filter fun p => decide (Nat.gcd p n = 1)).map fun p : Nat => (p : Int)
theorem met_cop {n : Nat} (h1 : 2 ≤ n) (h2 : n ≤ 7) : (metN n).Perm (copL n) := by
  have := of_decide_eq_true (List.all_eq_true.mp met_check n (List.mem_range'_1.mpr ⟨h1, by omega⟩))
  rw [copL, ← this]
  exact (srtI_perm _).symm
theorem cop_asc (n : Nat) : (copL n).Pairwise (· ≤ ·) := by
  unfold copL
  rw [List.pairwise_map]
  refine List.Pairwise.filter _ ?_
  exact (List.pairwise_lt_range' (s := 1) (n := n - 1)).imp fun z => by omega
theorem met_ok {n : Nat} (h1 : 2 ≤ n) (h2 : n ≤ 7) {r : List (Nat × Nat)} (hr : r ∈ rdsN n) (hz : 0 < toN (srtP r)) : ∃ p : Nat, toN (srtP r) = (p : Int) ∧ 1 ≤ p ∧ p < n ∧ Nat.gcd p n = 1 := by
  have hm : toN (srtP r) ∈ metN n := List.mem_filter.mpr ⟨List.mem_map.mpr ⟨r, hr, rfl⟩, decide_eq_true hz⟩
  obtain ⟨p, hp, e⟩ := List.mem_map.mp ((met_cop h1 h2).mem_iff.mp hm)
  obtain ⟨a, b⟩ := List.mem_filter.mp hp
  have a := List.mem_range'_1.mp a
  exact ⟨p, e.symm, a.1, by omega, of_decide_eq_true b⟩
theorem met_sorted {n : Nat} (h1 : 2 ≤ n) (h2 : n ≤ 7) {ns : List Int} (hp : ns.Perm (metN n)) (ho : ns.Pairwise (· ≤ ·)) : ns = copL n :=
  srt_unique (R := (· ≤ ·)) (fun a b x y => Int.le_antisymm x y) (hp.trans (met_cop h1 h2)) ho (cop_asc n)
end Tw
namespace Tw
theorem rdsN_check : ((List.range' 2 6).all fun n => decide (0 < (rdsN n).length) && decide ((rdsN n).length ≤ 1000)) = true := by decide +kernel
theorem rdsN_pos {n : Nat} (h1 : 2 ≤ n) (h2 : n ≤ 7) : 0 < (rdsN n).length := by
  have := List.all_eq_true.mp rdsN_check n (List.mem_range'_1.mpr ⟨h1, by omega⟩)
  simp only [Bool.and_eq_true, decide_eq_true_eq] at this
  exact this.1
theorem rdsN_len {n : Nat} (h1 : 2 ≤ n) (h2 : n ≤ 7) : (rdsN n).length ≤ 1000 := by
  have := List.all_eq_true.mp rdsN_check n (List.mem_range'_1.mpr ⟨h1, by omega⟩)
  simp only [Bool.and_eq_true, decide_eq_true_eq] at this
  exact this.2
theorem trnL_pos : 0 < (trnL 24).length := by decide +kernel
/-- p and q that are no such -/
def farL : List (Int × Int) := [(1, 1), (0, 1), (1, 0), (2, 4), (-1, 3), (1, -3), (3, 2), (1, 25), (12, 24), (0, 24)]
def tupZ (x : Int × Int) : PySem.PyData := .tuple [.int x.1, .int x.2]
theorem far_bad : ∀ x ∈ farL ++ [(100000000000000000000, 100000000000000000001)], ¬ okT x.1 x.2 := by
  intro x hx h
  obtain ⟨a, b, c, d⟩ := h
  simp only [farL, List.cons_append, List.nil_append, List.mem_cons, List.not_mem_nil, or_false] at hx
  rcases hx with rfl | rfl | rfl | rfl | rfl | rfl | rfl | rfl | rfl | rfl | rfl <;> first | (exact absurd d (by decide)) | (simp at a b c <;> omega)
end Tw
namespace Tw
open PySem PySem.Spec PyProof.Rows L2
def topS (i : Nat) : Stmt := PySem.Challenge.pw_twicedial_k44_whole_turning_sets.main.body.getD i (.Pass ⟨0, 0, 0, 0⟩)
abbrev s_is_whole : Stmt := topS 7
abbrev N_is_whole : List Str := ["value"]
theorem sc_is_whole : FnScope N_is_whole ["value"] (defScope s_is_whole) := ⟨rfl, rfl, rfl, by decide +kernel, rfl, by decide +kernel, by decide +kernel⟩
abbrev s_reduced : Stmt := topS 8
abbrev N_reduced : List Str := ["top", "bottom", "common"]
theorem sc_reduced : FnScope N_reduced ["top", "bottom"] (defScope s_reduced) := ⟨rfl, rfl, rfl, by decide +kernel, rfl, by decide +kernel, by decide +kernel⟩
abbrev s_size : Stmt := topS 9
abbrev N_size : List Str := ["x"]
theorem sc_size : FnScope N_size ["x"] (defScope s_size) := ⟨rfl, rfl, rfl, by decide +kernel, rfl, by decide +kernel, by decide +kernel⟩
abbrev s_check_place : Stmt := topS 12
abbrev N_check_place : List Str := ["value"]
theorem sc_check_place : FnScope N_check_place ["value"] (defScope s_check_place) := ⟨rfl, rfl, rfl, by decide +kernel, rfl, by decide +kernel, by decide +kernel⟩
abbrev s_is_place : Stmt := topS 13
abbrev N_is_place : List Str := ["value", "top", "bottom"]
theorem sc_is_place : FnScope N_is_place ["value"] (defScope s_is_place) := ⟨rfl, rfl, rfl, by decide +kernel, rfl, by decide +kernel, by decide +kernel⟩
abbrev s_place : Stmt := topS 14
abbrev N_place : List Str := ["top", "bottom", "steps", "rest"]
theorem sc_place : FnScope N_place ["top", "bottom"] (defScope s_place) := ⟨rfl, rfl, rfl, by decide +kernel, rfl, by decide +kernel, by decide +kernel⟩
abbrev s__is_in_reach : Stmt := topS 15
abbrev N__is_in_reach : List Str := ["bottom", "twos", "again"]
theorem sc__is_in_reach : FnScope N__is_in_reach ["bottom"] (defScope s__is_in_reach) := ⟨rfl, rfl, rfl, by decide +kernel, rfl, by decide +kernel, by decide +kernel⟩
abbrev s__twos : Stmt := topS 16
abbrev N__twos : List Str := ["bottom"]
theorem sc__twos : FnScope N__twos ["bottom"] (defScope s__twos) := ⟨rfl, rfl, rfl, by decide +kernel, rfl, by decide +kernel, by decide +kernel⟩
abbrev s__order : Stmt := topS 17
abbrev N__order : List Str := ["odd", "n"]
theorem sc__order : FnScope N__order ["odd"] (defScope s__order) := ⟨rfl, rfl, rfl, by decide +kernel, rfl, by decide +kernel, by decide +kernel⟩
abbrev s_place_of : Stmt := topS 19
abbrev N_place_of : List Str := ["head", "cycle", "ones", "top"]
theorem sc_place_of : FnScope N_place_of ["head", "cycle"] (defScope s_place_of) := ⟨rfl, rfl, rfl, by decide +kernel, rfl, by decide +kernel, by decide +kernel⟩
abbrev s__number : Stmt := topS 20
abbrev N__number : List Str := ["binary"]
theorem sc__number : FnScope N__number ["binary"] (defScope s__number) := ⟨rfl, rfl, rfl, by decide +kernel, rfl, by decide +kernel, by decide +kernel⟩
abbrev s_turning_set : Stmt := topS 23
abbrev N_turning_set : List Str := ["p", "q", "line", "turned", "k"]
theorem sc_turning_set : FnScope N_turning_set ["p", "q"] (defScope s_turning_set) := ⟨rfl, rfl, rfl, by decide +kernel, rfl, by decide +kernel, by decide +kernel⟩
abbrev s_line_digits : Stmt := topS 24
abbrev N_line_digits : List Str := ["p", "q", "k"]
theorem sc_line_digits : FnScope N_line_digits ["p", "q"] (defScope s_line_digits) := ⟨rfl, rfl, rfl, by decide +kernel, rfl, by decide +kernel, by decide +kernel⟩
abbrev s__check_turn : Stmt := topS 25
abbrev N__check_turn : List Str := ["p", "q"]
theorem sc__check_turn : FnScope N__check_turn ["p", "q"] (defScope s__check_turn) := ⟨rfl, rfl, rfl, by decide +kernel, rfl, by decide +kernel, by decide +kernel⟩
abbrev s__law_begun : Stmt := topS 27
abbrev N__law_begun : List Str := ["script", "k", "cells", "great", "seed", "cell"]
theorem sc__law_begun : FnScope N__law_begun ["script", "k"] (defScope s__law_begun) := ⟨rfl, rfl, rfl, by decide +kernel, rfl, by decide +kernel, by decide +kernel⟩
abbrev s__law_draw : Stmt := topS 28
abbrev N__law_draw : List Str := ["m", "below", "found", "spot", "cells", "extra", "cell", "blend"]
theorem sc__law_draw : FnScope N__law_draw ["m", "below"] (defScope s__law_draw) := ⟨rfl, rfl, rfl, by decide +kernel, rfl, by decide +kernel, by decide +kernel⟩
abbrev s__law_of : Stmt := topS 29
abbrev N__law_of : List Str := ["m", "some"]
theorem sc__law_of : FnScope N__law_of ["m", "some"] (defScope s__law_of) := ⟨rfl, rfl, rfl, by decide +kernel, rfl, by decide +kernel, by decide +kernel⟩
abbrev s__law_twos : Stmt := topS 30
abbrev N__law_twos : List Str := ["count", "found", "k"]
theorem sc__law_twos : FnScope N__law_twos ["count"] (defScope s__law_twos) := ⟨rfl, rfl, rfl, by decide +kernel, rfl, by decide +kernel, by decide +kernel⟩
abbrev s__law_shared : Stmt := topS 31
abbrev N__law_shared : List Str := ["a", "b", "k"]
theorem sc__law_shared : FnScope N__law_shared ["a", "b"] (defScope s__law_shared) := ⟨rfl, rfl, rfl, by decide +kernel, rfl, by decide +kernel, by decide +kernel⟩
abbrev s__law_ratio : Stmt := topS 32
abbrev N__law_ratio : List Str := ["a", "b", "shared"]
theorem sc__law_ratio : FnScope N__law_ratio ["a", "b"] (defScope s__law_ratio) := ⟨rfl, rfl, rfl, by decide +kernel, rfl, by decide +kernel, by decide +kernel⟩
abbrev s__law_double : Stmt := topS 33
abbrev N__law_double : List Str := ["x"]
theorem sc__law_double : FnScope N__law_double ["x"] (defScope s__law_double) := ⟨rfl, rfl, rfl, by decide +kernel, rfl, by decide +kernel, by decide +kernel⟩
abbrev s__law_orbit : Stmt := topS 34
abbrev N__law_orbit : List Str := ["x", "found", "k"]
theorem sc__law_orbit : FnScope N__law_orbit ["x"] (defScope s__law_orbit) := ⟨rfl, rfl, rfl, by decide +kernel, rfl, by decide +kernel, by decide +kernel⟩
abbrev s__law_ways : Stmt := topS 35
abbrev N__law_ways : List Str := ["x", "found", "ahead"]
theorem sc__law_ways : FnScope N__law_ways ["x"] (defScope s__law_ways) := ⟨rfl, rfl, rfl, by decide +kernel, rfl, by decide +kernel, by decide +kernel⟩
abbrev s__law_sorted : Stmt := topS 36
abbrev N__law_sorted : List Str := ["rows", "whole", "x", "found", "k"]
theorem sc__law_sorted : FnScope N__law_sorted ["rows"] (defScope s__law_sorted) := ⟨rfl, rfl, rfl, by decide +kernel, rfl, by decide +kernel, by decide +kernel⟩
abbrev s__law_all_places : Stmt := topS 37
abbrev N__law_all_places : List Str := ["ahead", "again", "whole", "found", "top", "x"]
theorem sc__law_all_places : FnScope N__law_all_places ["ahead", "again"] (defScope s__law_all_places) := ⟨rfl, rfl, rfl, by decide +kernel, rfl, by decide +kernel, by decide +kernel⟩
abbrev s__law_rounds : Stmt := topS 38
abbrev N__law_rounds : List Str := ["again", "seen", "found", "x", "row"]
theorem sc__law_rounds : FnScope N__law_rounds ["again"] (defScope s__law_rounds) := ⟨rfl, rfl, rfl, by decide +kernel, rfl, by decide +kernel, by decide +kernel⟩
abbrev s__law_turns : Stmt := topS 39
abbrev N__law_turns : List Str := ["most", "found", "q", "p"]
theorem sc__law_turns : FnScope N__law_turns ["most"] (defScope s__law_turns) := ⟨rfl, rfl, rfl, by decide +kernel, rfl, by decide +kernel, by decide +kernel⟩
abbrev s__law_turn_of : Stmt := topS 40
abbrev N__law_turn_of : List Str := ["members", "places_so", "by", "k", "x"]
theorem sc__law_turn_of : FnScope N__law_turn_of ["members"] (defScope s__law_turn_of) := ⟨rfl, rfl, rfl, by decide +kernel, rfl, by decide +kernel, by decide +kernel⟩
abbrev s__law_refused : Stmt := topS 41
abbrev N__law_refused : List Str := ["p", "q"]
theorem sc__law_refused : FnScope N__law_refused ["p", "q"] (defScope s__law_refused) := ⟨rfl, rfl, rfl, by decide +kernel, rfl, by decide +kernel, by decide +kernel⟩
abbrev s_law : Stmt := topS 42
abbrev N_law : List Str := ["script", "turn", "m", "q", "met", "row", "members", "by", "p", "far"]
theorem sc_law : FnScope N_law ["script"] (defScope s_law) := ⟨rfl, rfl, rfl, by decide +kernel, rfl, by decide +kernel, by decide +kernel⟩
structure Top (K : PySem.W.Frag) (mg : Str → Option Value) where
  f_is_whole : Addr
  fd_is_whole : FuncData
  F_is_whole : Fun K "is_whole" "is_whole" s_is_whole f_is_whole fd_is_whole
  b_is_whole : Binds K fd_is_whole ["value"] []
  g_is_whole : mg "is_whole" = some (.ref f_is_whole)
  f_reduced : Addr
  fd_reduced : FuncData
  F_reduced : Fun K "reduced" "reduced" s_reduced f_reduced fd_reduced
  b_reduced : Binds K fd_reduced ["top", "bottom"] []
  g_reduced : mg "reduced" = some (.ref f_reduced)
  f_size : Addr
  fd_size : FuncData
  F_size : Fun K "size" "size" s_size f_size fd_size
  b_size : Binds K fd_size ["x"] []
  g_size : mg "size" = some (.ref f_size)
  f_check_place : Addr
  fd_check_place : FuncData
  F_check_place : Fun K "check_place" "check_place" s_check_place f_check_place fd_check_place
  b_check_place : Binds K fd_check_place ["value"] []
  g_check_place : mg "check_place" = some (.ref f_check_place)
  f_is_place : Addr
  fd_is_place : FuncData
  F_is_place : Fun K "is_place" "is_place" s_is_place f_is_place fd_is_place
  b_is_place : Binds K fd_is_place ["value"] []
  g_is_place : mg "is_place" = some (.ref f_is_place)
  f_place : Addr
  fd_place : FuncData
  F_place : Fun K "place" "place" s_place f_place fd_place
  b_place : Binds K fd_place ["top", "bottom"] []
  g_place : mg "place" = some (.ref f_place)
  f__is_in_reach : Addr
  fd__is_in_reach : FuncData
  F__is_in_reach : Fun K "_is_in_reach" "_is_in_reach" s__is_in_reach f__is_in_reach fd__is_in_reach
  b__is_in_reach : Binds K fd__is_in_reach ["bottom"] []
  g__is_in_reach : mg "_is_in_reach" = some (.ref f__is_in_reach)
  f__twos : Addr
  fd__twos : FuncData
  F__twos : Fun K "_twos" "_twos" s__twos f__twos fd__twos
  b__twos : Binds K fd__twos ["bottom"] []
  g__twos : mg "_twos" = some (.ref f__twos)
  f__order : Addr
  fd__order : FuncData
  F__order : Fun K "_order" "_order" s__order f__order fd__order
  b__order : Binds K fd__order ["odd"] []
  g__order : mg "_order" = some (.ref f__order)
  f_place_of : Addr
  fd_place_of : FuncData
  F_place_of : Fun K "place_of" "place_of" s_place_of f_place_of fd_place_of
  b_place_of : Binds K fd_place_of ["head", "cycle"] []
  g_place_of : mg "place_of" = some (.ref f_place_of)
  f__number : Addr
  fd__number : FuncData
  F__number : Fun K "_number" "_number" s__number f__number fd__number
  b__number : Binds K fd__number ["binary"] []
  g__number : mg "_number" = some (.ref f__number)
  f_turning_set : Addr
  fd_turning_set : FuncData
  F_turning_set : Fun K "turning_set" "turning_set" s_turning_set f_turning_set fd_turning_set
  b_turning_set : Binds K fd_turning_set ["p", "q"] []
  g_turning_set : mg "turning_set" = some (.ref f_turning_set)
  f_line_digits : Addr
  fd_line_digits : FuncData
  F_line_digits : Fun K "line_digits" "line_digits" s_line_digits f_line_digits fd_line_digits
  b_line_digits : Binds K fd_line_digits ["p", "q"] []
  g_line_digits : mg "line_digits" = some (.ref f_line_digits)
  f__check_turn : Addr
  fd__check_turn : FuncData
  F__check_turn : Fun K "_check_turn" "_check_turn" s__check_turn f__check_turn fd__check_turn
  b__check_turn : Binds K fd__check_turn ["p", "q"] []
  g__check_turn : mg "_check_turn" = some (.ref f__check_turn)
  f__law_begun : Addr
  fd__law_begun : FuncData
  F__law_begun : Fun K "_law_begun" "_law_begun" s__law_begun f__law_begun fd__law_begun
  b__law_begun : Binds K fd__law_begun ["script", "k"] []
  g__law_begun : mg "_law_begun" = some (.ref f__law_begun)
  f__law_draw : Addr
  fd__law_draw : FuncData
  F__law_draw : Fun K "_law_draw" "_law_draw" s__law_draw f__law_draw fd__law_draw
  b__law_draw : Binds K fd__law_draw ["m", "below"] []
  g__law_draw : mg "_law_draw" = some (.ref f__law_draw)
  f__law_of : Addr
  fd__law_of : FuncData
  F__law_of : Fun K "_law_of" "_law_of" s__law_of f__law_of fd__law_of
  b__law_of : Binds K fd__law_of ["m", "some"] []
  g__law_of : mg "_law_of" = some (.ref f__law_of)
  f__law_twos : Addr
  fd__law_twos : FuncData
  F__law_twos : Fun K "_law_twos" "_law_twos" s__law_twos f__law_twos fd__law_twos
  b__law_twos : Binds K fd__law_twos ["count"] []
  g__law_twos : mg "_law_twos" = some (.ref f__law_twos)
  f__law_shared : Addr
  fd__law_shared : FuncData
  F__law_shared : Fun K "_law_shared" "_law_shared" s__law_shared f__law_shared fd__law_shared
  b__law_shared : Binds K fd__law_shared ["a", "b"] []
  g__law_shared : mg "_law_shared" = some (.ref f__law_shared)
  f__law_ratio : Addr
  fd__law_ratio : FuncData
  F__law_ratio : Fun K "_law_ratio" "_law_ratio" s__law_ratio f__law_ratio fd__law_ratio
  b__law_ratio : Binds K fd__law_ratio ["a", "b"] []
  g__law_ratio : mg "_law_ratio" = some (.ref f__law_ratio)
  f__law_double : Addr
  fd__law_double : FuncData
  F__law_double : Fun K "_law_double" "_law_double" s__law_double f__law_double fd__law_double
  b__law_double : Binds K fd__law_double ["x"] []
  g__law_double : mg "_law_double" = some (.ref f__law_double)
  f__law_orbit : Addr
  fd__law_orbit : FuncData
  F__law_orbit : Fun K "_law_orbit" "_law_orbit" s__law_orbit f__law_orbit fd__law_orbit
  b__law_orbit : Binds K fd__law_orbit ["x"] []
  g__law_orbit : mg "_law_orbit" = some (.ref f__law_orbit)
  f__law_ways : Addr
  fd__law_ways : FuncData
  F__law_ways : Fun K "_law_ways" "_law_ways" s__law_ways f__law_ways fd__law_ways
  b__law_ways : Binds K fd__law_ways ["x"] []
  g__law_ways : mg "_law_ways" = some (.ref f__law_ways)
  f__law_sorted : Addr
  fd__law_sorted : FuncData
  F__law_sorted : Fun K "_law_sorted" "_law_sorted" s__law_sorted f__law_sorted fd__law_sorted
  b__law_sorted : Binds K fd__law_sorted ["rows"] []
  g__law_sorted : mg "_law_sorted" = some (.ref f__law_sorted)
  f__law_all_places : Addr
  fd__law_all_places : FuncData
  F__law_all_places : Fun K "_law_all_places" "_law_all_places" s__law_all_places f__law_all_places fd__law_all_places
  b__law_all_places : Binds K fd__law_all_places ["ahead", "again"] []
  g__law_all_places : mg "_law_all_places" = some (.ref f__law_all_places)
  f__law_rounds : Addr
  fd__law_rounds : FuncData
  F__law_rounds : Fun K "_law_rounds" "_law_rounds" s__law_rounds f__law_rounds fd__law_rounds
  b__law_rounds : Binds K fd__law_rounds ["again"] []
  g__law_rounds : mg "_law_rounds" = some (.ref f__law_rounds)
  f__law_turns : Addr
  fd__law_turns : FuncData
  F__law_turns : Fun K "_law_turns" "_law_turns" s__law_turns f__law_turns fd__law_turns
  b__law_turns : Binds K fd__law_turns ["most"] []
  g__law_turns : mg "_law_turns" = some (.ref f__law_turns)
  f__law_turn_of : Addr
  fd__law_turn_of : FuncData
  F__law_turn_of : Fun K "_law_turn_of" "_law_turn_of" s__law_turn_of f__law_turn_of fd__law_turn_of
  b__law_turn_of : Binds K fd__law_turn_of ["members"] []
  g__law_turn_of : mg "_law_turn_of" = some (.ref f__law_turn_of)
  f__law_refused : Addr
  fd__law_refused : FuncData
  F__law_refused : Fun K "_law_refused" "_law_refused" s__law_refused f__law_refused fd__law_refused
  b__law_refused : Binds K fd__law_refused ["p", "q"] []
  g__law_refused : mg "_law_refused" = some (.ref f__law_refused)
  f_law : Addr
  fd_law : FuncData
  F_law : Fun K "law" "law" s_law f_law fd_law
  b_law : Binds K fd_law ["script"] []
  g_law : mg "law" = some (.ref f_law)
  c_DialError : Addr
  gc_DialError : mg "DialError" = some (.ref c_DialError)
  x_DialError : ExK K c_DialError
  c_NotPlace : Addr
  gc_NotPlace : mg "NotPlace" = some (.ref c_NotPlace)
  x_NotPlace : ExK K c_NotPlace
  xq_NotPlace : PySem.W.excIn K c_NotPlace [.type "ValueError", .type "Exception", .type "BaseException", .type "object"] "ValueError.__new__" = true
  c_NotTurn : Addr
  gc_NotTurn : mg "NotTurn" = some (.ref c_NotTurn)
  x_NotTurn : ExK K c_NotTurn
  xq_NotTurn : PySem.W.excIn K c_NotTurn [.type "ValueError", .type "Exception", .type "BaseException", .type "object"] "ValueError.__new__" = true
  e_NotPlace_NotTurn : PySem.W.exmOne K (.ref c_NotPlace) (.ref c_NotTurn) = some false
  e_NotTurn_NotTurn : PySem.W.exmOne K (.ref c_NotTurn) (.ref c_NotTurn) = some true
  z_abs : mg "abs" = none
  z_bool : mg "bool" = none
  z_divmod : mg "divmod" = none
  z_int : mg "int" = none
  z_isinstance : mg "isinstance" = none
  z_len : mg "len" = none
  z_list : mg "list" = none
  z_max : mg "max" = none
  z_min : mg "min" = none
  z_range : mg "range" = none
  z_repr : mg "repr" = none
  z_sorted : mg "sorted" = none
  z_str : mg "str" = none
  z_tuple : mg "tuple" = none
  i_gcd : mg "gcd" = some (.builtin "math.gcd")
  t_COMMON : Tok
  c_COMMON : mg "COMMON" = some (.int ((CN : Nat) : Int) t_COMMON)
  t_MOST_STEPS : Tok
  c_MOST_STEPS : mg "MOST_STEPS" = some (.int 24 t_MOST_STEPS)
  t_MOST_TURN : Tok
  c_MOST_TURN : mg "MOST_TURN" = some (.int 24 t_MOST_TURN)
end Tw
namespace Tw
open PySem PySem.Spec PyProof.Rows L2
local macro_rules | `(tactic| walk_at "dp") => `(tactic| first
  | exact Dp.int _ | exact Dp.str _ | exact Dp.bl _ | exact Dp.non
  | assumption
  | ((refine' dp_same ?he ?hd); (case he => assumption); (case hd => walk_at "dp"))
  | ((refine' dp_keep ?he ?hd); (case he => assumption); (case hd => walk_at "dp")))
local macro_rules | `(tactic| walk_at "dpa") => `(tactic| first
  | exact DpAll.nil
  | assumption
  | ((refine' DpAll.cons ?ha ?hb); (case ha => walk_at "dp"); (case hb => walk_at "dpa")))
local macro_rules | `(tactic| walk_at "ty") => `(tactic| first
  | exact ty_int | exact ty_non | exact ty_bl | exact ty_str
  | ((refine' ty_tup ?hx); (case hx => walk_at "dp"))
  | ((refine' ty_lst ?hx); (case hx => walk_at "dp")))
local macro_rules | `(tactic| walk_at "c") => `(tactic| ((try dsimp only); (first
  | (with_reducible assumption) | omega | decide
  | (simp only [List.length_map]; omega)
  | exact mulS ⟨by omega, by omega⟩ ⟨by omega, by omega⟩
  | exact divS ⟨by omega, by omega⟩)))
local macro_rules | `(tactic| walk_at "e0") => `(tactic| first
  | with_reducible refine w_c ?_
  | ((with_reducible refine' w_var ?hv ?_); case hv => rfl)
  | with_reducible refine w_op ?_
  | with_reducible refine w_rI0 ?_
  | with_reducible refine w_rU ?_
  | with_reducible refine w_cons ?_
  | with_reducible refine w_nil ?_
  | with_reducible refine w_cb ?_
  | with_reducible refine w_call ?_
  | with_reducible refine w_tTest ?_
  | with_reducible refine w_bl ?_
  | with_reducible refine w_blV ?_
  | with_reducible refine w_andV ?_
  | with_reducible refine w_chain ?_
  | with_reducible refine w_orV ?_
  | with_reducible refine w_notV ?_
  | with_reducible refine w_tB ?_
  | with_reducible refine w_and ?_
  | with_reducible refine w_or ?_
  | with_reducible refine w_not ?_
  | with_reducible refine w_tI ?_
  | with_reducible refine w_un ?_
  | with_reducible refine w_int ?_
  | with_reducible refine w_tup ?_
  | with_reducible refine w_lst ?_
  | with_reducible refine w_tIsN ?_
  | with_reducible refine w_tNotN ?_
  | with_reducible refine w_slice ?_
  | with_reducible refine w_noPart ?_
  | with_reducible refine w_part ?_
  | with_reducible refine w_pint ?_
  | with_reducible refine w_isStr ?_
  | with_reducible refine w_bm ?_
  | with_reducible refine w_bm0 ?_
  | with_reducible refine w_m1 ?_
  | with_reducible refine w_tyS ?_
  | with_reducible refine w_dget ?_
  | with_reducible refine w_iteT ?_
  | with_reducible refine w_iteF ?_
  | with_reducible refine w_iteNT ?_
  | with_reducible refine w_iteNF ?_
  | with_reducible refine w_pp ?_
  | with_reducible refine w_pp0 ?_
  | with_reducible refine w_lcL ?_
  | with_reducible refine w_lcT ?_
  | with_reducible refine w_lcR1 ?_
  | with_reducible refine w_lcR2 ?_
  | with_reducible refine w_tYes ?_
  | ((with_reducible refine' w_dgS ?h ?hm ?_); (case h => assumption); (case hm => first | exact mo_left | exact mo_seed | exact mo_cells | exact mo_spot))
  | ((with_reducible refine' w_isiY ?ty ?h ?_); (case ty => walk_at "ty"); (case h => decide +kernel))
  | ((with_reducible refine' w_isiN ?ty ?h ?_); (case ty => walk_at "ty"); (case h => decide +kernel))
  | ((with_reducible refine' w_lenL ?h ?_); case h => walk_at "dp")
  | ((with_reducible refine' w_lenT ?h ?_); case h => walk_at "dp")
  | ((with_reducible refine' w_lenSg ?h ?_); case h => walk_at "c")
  | ((with_reducible refine' w_lenS ?h ?_); case h => walk_at "c")
  | ((with_reducible refine' w_addSg ?h ?_); case h => walk_at "c")
  | ((with_reducible refine' w_rI ?c ?_); case c => walk_at "c")
  | with_reducible refine w_eqI ?_
  | with_reducible refine w_neI ?_
  | ((with_reducible refine' w_rEq ?hs ?_); case hs => rfl)
  | ((with_reducible refine' w_rNe ?hs ?_); case hs => rfl))
local macro_rules | `(tactic| walk_at "e") => `(tactic| first
  | walk_at "e0"
  | ((with_reducible refine' w_rMod ?c ?_); case c => walk_at "c"))
local macro_rules | `(tactic| walk_at "p") => `(tactic| first
  | with_reducible refine w_bmF ?_
  | ((with_reducible refine' w_ix0 ?h ?_); case h => walk_at "dp")
  | ((with_reducible refine' w_ix1 ?h ?_); case h => walk_at "dp")
  | ((with_reducible refine' w_gTupP ?h ?_); case h => walk_at "dp")
  | with_reducible refine w_gcdN ?_
  | with_reducible refine w_absN ?_
  | with_reducible refine w_absI ?_
  | with_reducible refine w_vei ?_
  | with_reducible refine w_ost ?_
  | with_reducible refine w_callS ?_
  | with_reducible refine w_xf ?_
  | with_reducible refine w_mko ?_
  | with_reducible refine w_kf ?_
  | with_reducible refine w_lcS ?_
  | with_reducible refine w_lc2 ?_
  | with_reducible refine w_bits ?_
  | with_reducible refine w_bitsI ?_
  | with_reducible refine w_forZ ?_
  | with_reducible refine w_forE ?_
  | with_reducible refine w_cKw ?_
  | with_reducible refine w_chain3 ?_
  | with_reducible refine w_max2 (fun _ _ => ?_)
  | with_reducible refine w_min2 (fun _ _ => ?_))
local macro_rules | `(tactic| walk_at "s0") => `(tactic| first
  | with_reducible refine w_seq ?_
  | with_reducible refine w_asg ?_
  | with_reducible refine w_ret ?_
  | with_reducible refine w_drop ?_
  | with_reducible refine w_next ?_
  | with_reducible refine w_retN ?_
  | with_reducible refine w_brk ?_
  | with_reducible refine w_cont ?_
  | with_reducible refine w_dput ?_
  | with_reducible refine w_forL ?_
  | with_reducible refine w_wb ?_
  | with_reducible refine w_forT ?_
  | with_reducible refine w_forR1 ?_
  | with_reducible refine w_forR2 ?_
  | with_reducible refine w_forS ?_
  | with_reducible refine w_gName ?_
  | with_reducible refine w_par ?_
  | with_reducible refine w_asgG ?_
  | with_reducible refine w_par3 ?_
  | with_reducible refine w_par33 ?_
  | with_reducible refine w_par2 ?_)
local macro_rules | `(tactic| walk_at "s") => `(tactic| first
  | walk_at "s0"
  | with_reducible refine w_ifS ?_)
local macro_rules | `(tactic| walk_at "w") => `(tactic| repeat first | walk_at "e" | walk_at "s")
local macro_rules | `(tactic| walk_at "w0") => `(tactic| repeat first | walk_at "e0" | walk_at "s")
local macro_rules | `(tactic| walk_at "wp") => `(tactic| repeat first | walk_at "e" | walk_at "s" | walk_at "p")
local macro_rules | `(tactic| walk_at "t") => `(tactic| first
  | ((with_reducible refine' w_newT (K := ‹PySem.W.Frag›) ?hl ?hd (fun _ _ _ _ _ => ?_)); (case hl => exact len_ok (by simp)); (case hd => walk_at "dpa"))
  | ((with_reducible refine' w_newL (K := ‹PySem.W.Frag›) ?hl ?hd (fun _ _ _ _ _ _ => ?_)); (case hl => exact len_ok (by simp)); (case hd => walk_at "dpa"))
  | ((with_reducible refine' w_gTup2 ?h (fun _ _ _ _ => ?_)); case h => walk_at "dp"))
local macro_rules | `(tactic| walk_at "wt") => `(tactic| repeat first | walk_at "e" | walk_at "s" | walk_at "p" | walk_at "t")
local macro_rules | `(tactic| walk_at "same") => `(tactic| first
  | exact Same.refl _
  | assumption
  | ((refine' Same.trans ?ha ?hb); (case hb => assumption); (case ha => walk_at "same")))
local macro_rules | `(tactic| walk_at "keep") => `(tactic| first
  | exact Keep.refl _
  | assumption
  | (refine Keep.of ?_; assumption)
  | ((refine' Keep.trans ?ha ?hb); (case hb => first | assumption | (refine Keep.of ?_; assumption)); (case ha => walk_at "keep")))
local macro_rules | `(tactic| walk_at "wi") => `(tactic| repeat first | walk_at "e" | walk_at "s0" | walk_at "p" | walk_at "t")
section
variable {P : Program} {w : World} {K : PySem.W.Frag} {mg : Str → Option Value} {base : Heap}
/-! ### is_whole -/
def sp_is_whole (K : PySem.W.Frag) : Sp := fun vs H Q _ => ∃ i : Int, vs = [.int i] ∧ Q (.bl true) H
theorem ok_is_whole (T : Top K mg) : FnOk P w K mg base CX0 1 T.f_is_whole T.fd_is_whole ["value"] (sp_is_whole K) := by
  refine T.F_is_whole.ok sc_is_whole (fun vs H Q E h => ?_) (fun cdv A outer s H vs Q E hr h => ?_)
  · obtain ⟨i, rfl, _⟩ := h
    rfl
  · obtain ⟨i, rfl, q⟩ := h
    refine ⟨_, (pss_one (ps_ret (pe_and (pe_callB (cl_isi (K := K)) (by rfl) T.z_isinstance (by decide +kernel) (pa_cons (pv 0) (pa_cons (pe_bltn (v := .ty "int") (by rfl) T.z_int (by decide +kernel) rfl) pa_nil))) (pe_one (pe_not (pe_callB (cl_isi (K := K)) (by rfl) T.z_isinstance (by decide +kernel) (pa_cons (pv 0) (pa_cons (pe_bltn (v := .ty "bool") (by rfl) T.z_bool (by decide +kernel) rfl) pa_nil)))))))), ?_⟩
    rw [show start N_is_whole [.int i] = [some (.int i)] from rfl]
    try dsimp only [cxK]
    walk_at "wp"
    exact q

/-! ### reduced -/
def sp_reduced (K : PySem.W.Frag) : Sp := fun vs H Q _ => ∃ p q : Nat, vs = [.int (p : Int), .int (q : Int)] ∧ 0 < q ∧ q < 2 ^ 250 ∧ ∀ v H', Same H H' → Dp K H' v (pd (red p q)) → Q v H'
theorem ok_reduced (T : Top K mg) : FnOk P w K mg base CX0 1 T.f_reduced T.fd_reduced ["top", "bottom"] (sp_reduced K) := by
  refine T.F_reduced.ok sc_reduced (fun vs H Q E h => ?_) (fun cdv A outer s H vs Q E hr h => ?_)
  · obtain ⟨p, q, rfl, _⟩ := h
    rfl
  · obtain ⟨p, q, rfl, h0, h1, q1⟩ := h
    refine ⟨_, (pss_cons (ps_set (i := 2) sc_reduced.nd (by rfl) (by first | exact Or.inl rfl | exact Or.inr rfl) (pe_callBfun cr_gcd (by rfl) T.i_gcd (pa_cons (pv 0) (pa_cons (pv 1) pa_nil))))
      (pss_one (ps_ret (pe_tup (pa_cons (pe_op op_fdivW (pv 0) (pv 2)) (pa_cons (pe_op op_fdivW (pv 1) (pv 2)) pa_nil)))))), ?_⟩
    rw [show start N_reduced [.int (p : Int), .int (q : Int)] = [some (.int (p : Int)), some (.int (q : Int)), none] from rfl]
    try dsimp only [cxK]
    have g0 : 0 < Nat.gcd p q := Nat.gcd_pos_of_pos_right p h0
    have g1 : Nat.gcd p q ≤ q := Nat.le_of_dvd h0 (Nat.gcd_dvd_right p q)
    walk_at "wp"
    refine w_newT (K := K) (len_ok (by simp)) (.cons (.int _) (.cons (.int _) .nil)) fun t H1 n1 e1 d1 => ?_
    exact q1 _ H1 e1 d1

/-! ### size -/
def sp_size (K : PySem.W.Frag) : Sp := fun vs H Q _ => ∃ v x, vs = [v] ∧ Dp K H v (pd x) ∧ Plc x ∧ Q (.int (sz x : Int)) H
theorem ok_size (T : Top K mg) : FnOk P w K mg base CX0 1 T.f_size T.fd_size ["x"] (sp_size K) := by
  refine T.F_size.ok sc_size (fun vs H Q E h => ?_) (fun cdv A outer s H vs Q E hr h => ?_)
  · obtain ⟨v, x, rfl, _⟩ := h
    rfl
  · obtain ⟨v, x, rfl, hv, hx, q⟩ := h
    refine ⟨_, (pss_one (ps_ret (pe_op op_mulX (pe_ix (ix_tupK (K := K)) (pv 0) pe_int (fun _ _ => rfl)) (pe_op op_fdivW (pe_cint (by rfl) T.c_COMMON) (pe_ix (ix_tupK (K := K)) (pv 0) pe_int (fun _ _ => rfl)))))), ?_⟩
    rw [show start N_size [v] = [some (v)] from rfl]
    try dsimp only [cxK]
    have p0 := hx.pos
    have p1 := hx.small
    have p2 := hx.lt
    have c1 := CN_lt
    have c2 : CN / x.2 ≤ CN := Nat.div_le_self _ _
    have c3 : ((CN : Int) / (x.2 : Int)) = ((CN / x.2 : Nat) : Int) := rfl
    walk_at "wp"
    rw [c3]
    have e4 : sz x = x.1 * (CN / x.2) := rfl
    rw [e4] at q
    generalize CN / x.2 = z at *
    walk_at "wp"
    exact q

/-! ### _twos -/
def sp__twos (K : PySem.W.Frag) : Sp := fun vs H Q _ => ∃ b : Nat, vs = [.int b] ∧ 0 < b ∧ b < 2 ^ 60 ∧ Q (.int (twos b : Int)) H
theorem ok__twos (T : Top K mg) : FnOk P w K mg base CX0 1 T.f__twos T.fd__twos ["bottom"] (sp__twos K) := by
  refine T.F__twos.ok sc__twos (fun vs H Q E h => ?_) (fun cdv A outer s H vs Q E hr h => ?_)
  · obtain ⟨b, rfl, _⟩ := h
    rfl
  · obtain ⟨b, rfl, h1, h2, q⟩ := h
    refine ⟨_, (pss_one (ps_ret (pe_op op_sub (pe_bits (pe_op op_and (pv 0) (pe_un un_neg (pv 0)))) pe_int))), ?_⟩
    rw [show start N__twos [.int (b : Int)] = [some (.int (b : Int))] from rfl]
    try dsimp only [cxK]
    walk_at "wp"
    rw [twos_bits h1 h2, pow_bits]
    walk_at "wp"
    rw [show (((twos b + 1 : Nat) : Int) - 1) = (twos b : Int) by omega]
    exact q

/-! ### _order -/
def sp__order (K : PySem.W.Frag) : Sp := fun vs H Q _ => ∃ o : Nat, vs = [.int o] ∧ 0 < o ∧ 1 ≤ ordN o ∧ Q (.int (ordN o : Int)) H
theorem ok__order (T : Top K mg) : FnOk P w K mg base CX0 1 T.f__order T.fd__order ["odd"] (sp__order K) := by
  refine T.F__order.ok sc__order (fun vs H Q E h => ?_) (fun cdv A outer s H vs Q E hr h => ?_)
  · obtain ⟨o, rfl, _⟩ := h
    rfl
  · obtain ⟨o, rfl, h1, h2, q⟩ := h
    refine ⟨_, (pss_cons (ps_for PassesOwn.never (by rfl) (pi_range2 (by rfl) T.z_range (pa_cons pe_int (pa_cons (pe_op op_add (pe_cint (by rfl) T.c_MOST_STEPS) pe_int) pa_nil))) (pg_name (i := 1) sc__order.nd (by rfl) (by first | exact Or.inl rfl | exact Or.inr rfl)) (pss_one (ps_if (pt_cmpR op_eq (pe_op op_modD (pe_op op_sub (pe_op op_shl pe_int (pv 1)) pe_int) (pv 0)) pe_int (nomark _)) (pss_one (ps_ret (pv 1))) pss_nil)))
      (pss_one (ps_ret pe_non))), ?_⟩
    rw [show start N__order [.int (o : Int)] = [some (.int (o : Int)), none] from rfl]
    try dsimp only [cxK]
    walk_at "wp"
    refine forR2_by (fun i σ' H' => ∃ y, σ' = [some (.int (o : Int)), y] ∧ H = H' ∧ ∀ j, 1 ≤ j → j ≤ i → ¬ (2 ^ j - 1) % o = 0) (by omega) ⟨none, rfl, rfl, fun j a b => by omega⟩ ?_ ?_
    · rintro i σ' H' hi ⟨y, rfl, rfl, hj⟩
      walk_at "wp"
      have hp := two_pow_pos (i + 1)
      have e : ((1 : Int) * 2 ^ (1 + (i : Int)).toNat - 1) = ((2 ^ (i + 1) - 1 : Nat) : Int) := by
        rw [show (1 + (i : Int)).toNat = i + 1 by omega, Int.one_mul]
        have e2 : ((2 ^ (i + 1) : Nat) : Int) = (2 : Int) ^ (i + 1) := by push_cast; rfl
        rw [← e2]
        omega
      refine w_rI ⟨by omega, by omega, by decide⟩ ?_
      walk_at "wp"
      rw [e]
      refine w_iteD (fun h => ?_) (fun h => ?_)
      · walk_at "wp"
        have hh : (2 ^ (i + 1) - 1) % o = 0 := by
          rw [← Int.natCast_emod] at h
          omega
        have := ord_first (by omega) (by omega) hh (fun j a b => hj j a (by omega))
        rw [this] at q
        rw [show (1 + (i : Int)) = ((i + 1 : Nat) : Int) by push_cast; omega]
        exact q
      · walk_at "wp"
        refine ⟨_, rfl, rfl, fun j a b => ?_⟩
        by_cases z : j ≤ i
        · exact hj j a z
        · have : j = i + 1 := by omega
          subst this
          intro hh
          apply h
          rw [← Int.natCast_emod, hh]
          rfl
    · rintro σ' H' ⟨y, rfl, rfl, hj⟩
      have := ord_none fun j a b => hj j a (by omega)
      omega

/-! ### _number -/
def sp__number (K : PySem.W.Frag) : Sp := fun vs H Q _ => ∃ l : List Nat, vs = [.str (Sg l)] ∧ Dg l ∧ l.length ≤ 100 ∧ Q (.int (bv l : Int)) H
theorem ok__number (T : Top K mg) : FnOk P w K mg base CX0 1 T.f__number T.fd__number ["binary"] (sp__number K) := by
  refine T.F__number.ok sc__number (fun vs H Q E h => ?_) (fun cdv A outer s H vs Q E hr h => ?_)
  · obtain ⟨l, rfl, _⟩ := h
    rfl
  · obtain ⟨l, rfl, hd, hl, q⟩ := h
    refine ⟨_, (pss_one (ps_ret (pe_callTy cl_intB (by rfl) T.z_int (by decide +kernel) (pa_cons (pe_op op_addS pe_str (pv 0)) (pa_cons pe_int pa_nil))))), ?_⟩
    rw [show start N__number [.str (Sg l)] = [some (.str (Sg l))] from rfl]
    rw [show Str.ofString "0" = Sg [48] by decide +kernel]
    try dsimp only [cxK]
    walk_at "wp"
    refine w_addSg (by simp; omega) ?_
    walk_at "wp"
    refine ⟨48 :: l, rfl, by simp, by simp; omega, fun c hc => ?_, ?_⟩
    · rcases List.mem_cons.mp hc with rfl | hc
      · exact .inl rfl
      · exact hd c hc
    · have e : Bn.val (48 :: l) = bv l := rfl
      rw [e]
      exact q

/-! ### _law_begun -/
def sp__law_begun (K : PySem.W.Frag) : Sp := fun vs H Q _ => ∃ (a : Addr) (ns : List Int) (k : Int), vs = [.ref a, .int k] ∧ SqL K H a (ns.map V.int) ∧ ns.length ≤ 63 ∧ (∀ n ∈ ns, Big n) ∧ 0 ≤ k ∧ k < 1000 ∧
  ∀ (m c : Addr) H', Same H H' → H m = none → Mo H' m c 0 → Q (.ref m) H'
theorem ok__law_begun (T : Top K mg) : FnOk P w K mg base CX0 1 T.f__law_begun T.fd__law_begun ["script", "k"] (sp__law_begun K) := by
  refine T.F__law_begun.ok sc__law_begun (fun vs H Q E h => ?_) (fun cdv A outer s H vs Q E hr h => ?_)
  · obtain ⟨a, ns, k, rfl, _⟩ := h
    rfl
  · obtain ⟨a, ns, k, rfl, hS, hl, hB, hk0, hk1, q⟩ := h
    refine ⟨_, (pss_cons (ps_set (i := 2) sc__law_begun.nd (by rfl) (by first | exact Or.inl rfl | exact Or.inr rfl) (pe_op op_catL (pe_slice (sl_listK (K := K)) (pv 0) (po_some (pv 1)) po_none) (pe_slice (sl_listK (K := K)) (pv 0) po_none (po_some (pv 1)))))
      (pss_cons (ps_setLc (i := 3) (own := [("cell", 5)]) (g := gName 5) (by rfl) sc__law_begun.nd (by rfl) (by rfl) (sw_true rfl rfl rfl (by decide +kernel)) (pi_listK (K := K) (pv 2)) (blkOk_by (own := [("cell", 5)]) (N := N__law_begun) (sc := defScope s__law_begun) (by decide +kernel)) (fun _ _ _ _ _ => (pg_name (i := 5) sc__law_begun.nd (by rfl) (by first | exact Or.inl rfl | exact Or.inr rfl))) (fun _ _ _ _ _ => (pts_one (pt_cmpR op_ge (pv 5) (pe_op op_pow pe_int pe_int) (nomark _)))) (fun _ _ _ _ _ => (pv 5)))
      (pss_cons (ps_set (i := 4) sc__law_begun.nd (by rfl) (by first | exact Or.inl rfl | exact Or.inr rfl) (pe_op op_add pe_int (pv 1)))
      (pss_cons (ps_for PassesOwn.never (by rfl) (pi_listK (K := K) (pv 2)) (pg_name (i := 5) sc__law_begun.nd (by rfl) (by first | exact Or.inl rfl | exact Or.inr rfl)) (pss_one (ps_set (i := 4) sc__law_begun.nd (by rfl) (by first | exact Or.inl rfl | exact Or.inr rfl) (pe_op op_modD (pe_callTy cl_int (by rfl) T.z_int (by decide +kernel) (pa_cons (pe_op op_add (pe_op op_mulX (pv 4) pe_int) (pv 5)) pa_nil)) pe_int))))
      (pss_one (ps_ret (pe_disp (pps_cons pe_str (pe_ifExp (pt_cmpR (op_neK (K := K) hr.units) (pv 3) (pe_lst pa_nil) (nomark _)) (pe_ix (ix_listK (K := K)) (pv 3) pe_int (fun _ _ => rfl)) pe_int) (pps_cons pe_str (pv 4) (pps_cons pe_str (pe_op op_catL (pv 2) (pe_lst (pa_cons (pe_op op_add (pe_op op_mulX pe_int (pv 1)) pe_int) pa_nil))) (pps_cons pe_str pe_int pps_nil)))) (by rfl) (by rfl) (fun z => by cases z) (by decide)))))))), ?_⟩
    rw [show start N__law_begun [.ref a, .int k] = [some (.ref a), some (.int k), none, none, none, none] from rfl]
    try dsimp only [cxK]
    have hz : sizeLine = 16777216 := sizeLine_eq
    walk_at "w"
    refine w_slV hS fun p1 H1 n1 e1 f1 => ?_
    walk_at "w"
    refine w_slV (e1.seq hS) fun p2 H2 n2 e2 f2 => ?_
    rw [cutD_from _ hk0] at f1
    rw [cutD_to _ hk0] at f2
    refine w_catL (e2 _ _ f1) f2 (by simp only [List.length_drop, List.length_take, List.length_map]; omega) fun p3 H3 n3 e3 f3 => ?_
    rw [← List.map_drop, ← List.map_take, ← List.map_append] at f3
    generalize hcs : ns.drop k.toNat ++ ns.take k.toNat = cs at f3
    have hcB : ∀ n ∈ cs, Big n := fun n hn => by
      rw [← hcs] at hn
      rcases List.mem_append.mp hn with hn | hn
      · exact hB n (List.mem_of_mem_drop hn)
      · exact hB n (List.mem_of_mem_take hn)
    have hcl : cs.length ≤ 63 := by rw [← hcs]; simp only [List.length_append, List.length_drop, List.length_take]; omega
    have d3 : Dp K H3 (.ref p3) (.list (cs.map PyData.int)) := .lst (.of f3) (dpa_ints cs)
    have s3 : Same H H3 := (e1.trans e2).trans e3
    walk_at "w"
    refine lc_list_by (JP H3 fun i es => ∃ gs : List Int, es = gs.map PyData.int ∧ gs.length ≤ i) (JP.ok ⟨[], rfl, by simp⟩) d3 (by simp; omega) (fun _ => rfl) ?_ ?_
    · intro i d y H' es hd hy hJ Yes No hyes hno
      obtain ⟨hs, gs, rfl, hgl⟩ := hJ
      rw [List.getElem?_map] at hd
      obtain ⟨z, hz1, rfl⟩ := Option.map_eq_some_iff.mp hd
      cases hy
      walk_at "w"
      refine w_rI ⟨by decide, by decide, by decide⟩ ?_
      walk_at "w"
      refine w_ite (fun hb => ?_) (fun hb => ?_)
      · walk_at "w"
        exact hyes _ H' (.int z) (Keep.refl _) rfl (.int z) ⟨hs, gs ++ [z], by simp, by simp; omega⟩
      · exact hno H' (Keep.refl _) ⟨hs, gs, rfl, by omega⟩
    · intro p4 H4 vs4 es n4 k4 f4 d4 hJ
      obtain ⟨s4, gs, rfl, hgl⟩ := hJ
      rw [List.length_map] at hgl
      walk_at "w"
      refine forL_by (fun i σ' H' => ∃ (sd : Int) (y5 : Option V), σ' = [some (.ref a), some (.int k), some (.ref p3), some (.ref p4), some (.int sd), y5] ∧ H4 = H' ∧ 0 ≤ sd ∧ sd < 2147483647) (dp_same s4 d3) ⟨71 + k, none, rfl, rfl, by omega, by omega⟩ ?_ ?_ ?_
      · rintro i σ' H' _ ⟨sd, y5, rfl, rfl, _⟩
        exact Keep.refl _
      · rintro i d y σ' H' hd hy ⟨sd, y5, rfl, rfl, hsd0, hsd1⟩
        rw [List.getElem?_map] at hd
        obtain ⟨z, hz1, rfl⟩ := Option.map_eq_some_iff.mp hd
        cases hy
        walk_at "w0"
        refine w_rModB (by decide) fun r h0 h1 => ?_
        walk_at "w0"
        exact ⟨r, _, rfl, rfl, h0, h1⟩
      · rintro σ' H' ⟨sd, y5, rfl, rfl, hsd0, hsd1⟩
        walk_at "w"
        refine w_disp fun pd Hd nd ed fd => ?_
        walk_at "w"
        refine w_newL (K := K) (by decide) .nil fun p6 H6 n6 e6 f6 d6 => ?_
        have d4' : Dp K H6 (.ref p4) (.list (gs.map PyData.int)) := dp_same e6 (dp_same ed d4)
        have rest : ∀ (lv : Int) (H7 : Hp), Same H6 H7 → rNewL [V.int (53 * k + 11)] H7 fun y H2 => rCat (V.ref p3) y H2 fun y H2 =>
            tPairs [(tC (V.str (Str.ofString "spot")), tC (V.int 0))] [some (V.ref a), some (V.int k), some (V.ref p3), some (V.ref p4), some (V.int sd), y5] H2 fun ps H3 =>
              rDisp pd ((V.str (Str.ofString "left"), V.int lv) :: (V.str (Str.ofString "seed"), V.int sd) :: (V.str (Str.ofString "cells"), y) :: ps) H3 Q := by
          intro lv H7 e7
          refine w_newL (K := K) (len_ok (by simp)) (dpa_one (.int _)) fun p8 H8 n8 e8 f8 d8 => ?_
          refine w_catL (e8 _ _ (e7 _ _ (e6 _ _ (ed _ _ (s4 _ _ f3))))) f8 (by simp; omega) fun p9 H9 n9 e9 f9 => ?_
          walk_at "w"
          have fd9 : H9 pd = some (.dK []) := e9 _ _ (e8 _ _ (e7 _ _ (e6 _ _ fd)))
          refine ⟨fd9, [(.inr "left", .int lv), (.inr "seed", .int sd), (.inr "cells", .ref p9), (.inr "spot", .int 0)], rfl, by simp, ?_⟩
          have hm : mergeK [] [((.inr "left" : Key), V.int lv), (.inr "seed", .int sd), (.inr "cells", .ref p9), (.inr "spot", .int 0)] = moKvs lv sd p9 0 := by
            simp [mergeK, putK, moKvs, k_left_seed, k_left_cells, k_left_spot, k_seed_cells, k_seed_spot, k_cells_spot]
          rw [hm]
          have sall : Same H4 H9 := (((ed.trans e6).trans e7).trans e8).trans e9
          refine q pd p9 _ (same_mut ((s3.trans s4).trans sall) ((s3.trans s4).free nd)) ((s3.trans s4).free nd) ⟨lv, sd, 0, cs ++ [53 * k + 11], upd_same, ?_, by simp, by simp; omega, ?_, hsd0, hsd1, by omega, by omega⟩
          · rw [upd_ne (ne_of f9 fd9 (fun z => nomatch z)), f9]
            simp
          · intro n hn
            rcases List.mem_append.mp hn with hn | hn
            · exact hcB n hn
            · simp at hn; subst hn; exact Big.small (by omega)
        refine w_neP d4' d6 (pln_ints _) rfl (fun he => ?_) (fun he => ?_)
        · walk_at "w"
          exact rest 0 H6 (Same.refl _)
        · have hg0 : 0 < gs.length := by
            cases gs with
            | nil => exact absurd rfl he
            | cons g gs => simp
          walk_at "w"
          refine w_ixLI d4' (by decide) (by omega) fun z _ => ?_
          walk_at "w"
          exact rest z H6 (Same.refl _)

/-! ### _law_draw -/
def sp__law_draw (K : PySem.W.Frag) : Sp := fun vs H Q _ => ∃ (m c : Addr) (below : Int) (b : Nat), vs = [.ref m, .int below] ∧ 0 < below ∧ below < 2 ^ 60 ∧ Mo H m c b ∧ b < 2 ^ 50 ∧
  ∀ (r : Int) H', 0 ≤ r → r < below → Keep H H' → Mo H' m c (b + 1) → Q (.int r) H'
theorem ok__law_draw (T : Top K mg) : FnOk P w K mg base CX0 1 T.f__law_draw T.fd__law_draw ["m", "below"] (sp__law_draw K) := by
  refine T.F__law_draw.ok sc__law_draw (fun vs H Q E h => ?_) (fun cdv A outer s H vs Q E hr h => ?_)
  · obtain ⟨m, c, below, b, rfl, _⟩ := h
    rfl
  · obtain ⟨m, c, below, b, rfl, hb0, hb1, hm, hb, q⟩ := h
    refine ⟨_, (pss_cons (ps_if (pt_cmpR op_gt (pe_dget (hu_of hr) (pv 0) pe_str (fun _ _ => rfl)) pe_int (nomark _)) (pss_cons (ps_set (i := 2) sc__law_draw.nd (by rfl) (by first | exact Or.inl rfl | exact Or.inr rfl) (pe_op op_modD (pe_callTy cl_int (by rfl) T.z_int (by decide +kernel) (pa_cons (pe_dget (hu_of hr) (pv 0) pe_str (fun _ _ => rfl)) pa_nil)) (pv 1)))
      (pss_cons (ps_dput (hu_of hr) (pv 0) pe_str (pe_op op_fdivW (pe_dget (hu_of hr) (pv 0) pe_str (fun _ _ => rfl)) (pv 1)) rfl)
      (pss_one (ps_ret (pv 2))))) pss_nil)
      (pss_cons (ps_set (i := 3) sc__law_draw.nd (by rfl) (by first | exact Or.inl rfl | exact Or.inr rfl) (pe_dget (hu_of hr) (pv 0) pe_str (fun _ _ => rfl)))
      (pss_cons (ps_dput (hu_of hr) (pv 0) pe_str (pe_op op_add (pv 3) pe_int) rfl)
      (pss_cons (ps_par (i := 4) (j := 5) (by rfl) sc__law_draw.nd (by rfl) (by rfl) (by decide) (by rfl) (by rfl) (pa_cons (pe_dget (hu_of hr) (pv 0) pe_str (fun _ _ => rfl)) (pa_cons (pe_op op_add (pe_dget (hu_of hr) (pv 0) pe_str (fun _ _ => rfl)) (pe_op op_mulX (pe_op op_mulX pe_int (pv 3)) (pv 3))) pa_nil)) (by rfl))
      (pss_cons (ps_set (i := 6) sc__law_draw.nd (by rfl) (by first | exact Or.inl rfl | exact Or.inr rfl) (pe_ix (ix_listK (K := K)) (pv 4) (pe_op op_modD (pe_callTy cl_int (by rfl) T.z_int (by decide +kernel) (pa_cons (pv 3) pa_nil)) (pe_callB (cl_len (K := K)) (by rfl) T.z_len (by decide +kernel) (pa_cons (pv 4) pa_nil))) (fun _ _ => rfl)))
      (pss_cons (ps_set (i := 7) sc__law_draw.nd (by rfl) (by first | exact Or.inl rfl | exact Or.inr rfl) (pe_op op_modD (pe_callTy cl_int (by rfl) T.z_int (by decide +kernel) (pa_cons (pe_op op_add (pe_op op_mulX (pv 6) (pe_op op_add (pe_op op_mulX pe_int (pv 3)) pe_int)) (pv 5)) pa_nil)) pe_int))
      (pss_cons (ps_set (i := 7) sc__law_draw.nd (by rfl) (by first | exact Or.inl rfl | exact Or.inr rfl) (pe_op op_modD (pe_callTy cl_int (by rfl) T.z_int (by decide +kernel) (pa_cons (pe_op op_add (pe_op op_add (pe_op op_mulX (pv 7) (pv 7)) (pe_op op_mulX pe_int (pv 3))) (pe_dget (hu_of hr) (pv 0) pe_str (fun _ _ => rfl))) pa_nil)) pe_int))
      (pss_one (ps_ret (pe_op op_modD (pe_op op_fdivW (pe_op op_modD (pe_callTy cl_int (by rfl) T.z_int (by decide +kernel) (pa_cons (pe_op op_add (pe_op op_mulX (pv 7) pe_int) (pv 3)) pa_nil)) pe_int) pe_int) (pv 1))))))))))), ?_⟩
    rw [show start N__law_draw [.ref m, .int below] = [some (.ref m), some (.int below), none, none, none, none, none, none] from rfl]
    obtain ⟨left, seed, spot, ns, m1, m2, m3, m4, m5, m6, m7, m8, m9⟩ := hm
    try dsimp only [cxK]
    walk_at "w"
    refine w_iteD (fun hl => ?_) (fun hl => ?_)
    · walk_at "w"
      refine w_dpS m1 mo_put_left mo_len fun H1 e1 m1' => ?_
      walk_at "w"
      exact q _ H1 (Int.emod_nonneg _ (by omega)) (Int.emod_lt_of_pos _ hb0) e1 ⟨_, seed, spot, ns, m1', e1.l m2, m3, m4, m5, m6, m7, m8, by omega⟩
    · walk_at "w"
      refine w_dpS m1 mo_put_spot mo_len fun H1 e1 m1' => ?_
      have m2' := e1.l m2
      have dC : Dp K H1 (.ref c) (.list (ns.map PyData.int)) := .lst (.of m2') (dpa_ints ns)
      walk_at "w"
      rw [List.length_map]
      refine w_ixLI dC (Int.emod_nonneg _ (by omega)) (Int.emod_lt_of_pos _ (by omega)) fun z hz => ?_
      have hz2 := m5 z (List.mem_of_getElem? hz)
      walk_at "w"
      refine w_rI (hz2.mul (by omega)) ?_
      walk_at "w0"
      refine w_rModB (by decide) fun r1 h1 h1' => ?_
      walk_at "w0"
      refine w_rModB (by decide) fun r2 h2 h2' => ?_
      walk_at "w0"
      refine w_rModB (by decide) fun r3 h3 h3' => ?_
      walk_at "w0"
      refine w_rModB hb0 fun r4 h4 h4' => ?_
      walk_at "w0"
      exact q r4 H1 h4 h4' e1 ⟨left, seed, spot + 1, ns, m1', m2', m3, m4, m5, m6, m7, by omega, by omega⟩

/-! ### _law_twos -/
def sp__law_twos (K : PySem.W.Frag) : Sp := fun vs H Q _ => ∃ n : Nat, vs = [.int (n : Int)] ∧ n ≤ 200 ∧ Q (.int ((2 ^ n : Nat) : Int)) H
theorem ok__law_twos (T : Top K mg) : FnOk P w K mg base CX0 1 T.f__law_twos T.fd__law_twos ["count"] (sp__law_twos K) := by
  refine T.F__law_twos.ok sc__law_twos (fun vs H Q E h => ?_) (fun cdv A outer s H vs Q E hr h => ?_)
  · obtain ⟨n, rfl, _⟩ := h
    rfl
  · obtain ⟨n, rfl, hn, q⟩ := h
    refine ⟨_, (pss_cons (ps_set (i := 1) sc__law_twos.nd (by rfl) (by first | exact Or.inl rfl | exact Or.inr rfl) pe_int)
      (pss_cons (ps_for PassesOwn.never (by rfl) (pi_range1 (by rfl) T.z_range (pa_cons (pv 0) pa_nil)) (pg_name (i := 2) sc__law_twos.nd (by rfl) (by first | exact Or.inl rfl | exact Or.inr rfl)) (pss_one (ps_set (i := 1) sc__law_twos.nd (by rfl) (by first | exact Or.inl rfl | exact Or.inr rfl) (pe_op op_mulX pe_int (pv 1)))))
      (pss_one (ps_ret (pv 1))))), ?_⟩
    rw [show start N__law_twos [.int (n : Int)] = [some (.int (n : Int)), none, none] from rfl]
    try dsimp only [cxK]
    walk_at "wp"
    refine forR1_by (fun i σ' H' => ∃ (y : Option V) (P : Nat), P = 2 ^ i ∧ σ' = [some (.int (n : Int)), some (.int (P : Int)), y] ∧ H = H') (by omega) ⟨none, 1, rfl, rfl, rfl⟩ ?_ ?_
    · rintro i σ' H' hi ⟨y, P, hP, rfl, rfl⟩
      have hp : P ≤ 2 ^ 200 := by rw [hP]; exact Nat.pow_le_pow_right (by decide) (by omega)
      walk_at "wp"
      refine ⟨_, 2 * P, ?_, rfl, rfl⟩
      rw [hP, Nat.pow_succ']
    · rintro σ' H' ⟨y, P, rfl, rfl, rfl⟩
      walk_at "wp"
      rw [Int.toNat_natCast]
      exact q

/-! ### _law_shared -/
def sp__law_shared (K : PySem.W.Frag) : Sp := fun vs H Q _ => ∃ a b : Nat, vs = [.int (a : Int), .int (b : Int)] ∧ b < 2 ^ 190 ∧ Q (.int (Nat.gcd a b : Int)) H
theorem ok__law_shared (T : Top K mg) : FnOk P w K mg base CX0 1 T.f__law_shared T.fd__law_shared ["a", "b"] (sp__law_shared K) := by
  refine T.F__law_shared.ok sc__law_shared (fun vs H Q E h => ?_) (fun cdv A outer s H vs Q E hr h => ?_)
  · obtain ⟨a, b, rfl, _⟩ := h
    rfl
  · obtain ⟨a, b, rfl, hb, q⟩ := h
    refine ⟨_, (pss_cons (ps_for PassesOwn.never (by rfl) (pi_range1 (by rfl) T.z_range (pa_cons pe_int pa_nil)) (pg_name (i := 2) sc__law_shared.nd (by rfl) (by first | exact Or.inl rfl | exact Or.inr rfl)) (pss_cons (ps_if (pt_cmpR op_eq (pv 1) pe_int (nomark _)) (pss_one (ps_ret (pv 0))) pss_nil)
      (pss_one (ps_par (i := 0) (j := 1) (by rfl) sc__law_shared.nd (by rfl) (by rfl) (by decide) (by rfl) (by rfl) (pa_cons (pv 1) (pa_cons (pe_op op_modD (pe_callTy cl_int (by rfl) T.z_int (by decide +kernel) (pa_cons (pv 0) pa_nil)) (pv 1)) pa_nil)) (by rfl)))))
      (pss_one (ps_ret (pv 0)))), ?_⟩
    rw [show start N__law_shared [.int (a : Int), .int (b : Int)] = [some (.int (a : Int)), some (.int (b : Int)), none] from rfl]
    try dsimp only [cxK]
    walk_at "wp"
    refine forR1_by (fun i σ' H' => ∃ (y : Option V) (a' b' : Nat), σ' = [some (.int (a' : Int)), some (.int (b' : Int)), y] ∧ H = H' ∧ Eu a b i a' b') (by omega) ⟨none, a, b, rfl, rfl, Eu.start a b⟩ ?_ ?_
    · rintro i σ' H' hi ⟨y, a', b', rfl, rfl, he⟩
      walk_at "wp"
      refine w_iteD (fun h => ?_) (fun h => ?_)
      · walk_at "wp"
        have hb0 : b' = 0 := by omega
        subst hb0
        rw [he.zero]
        exact q
      · walk_at "wp"
        exact ⟨_, b', a' % b', rfl, rfl, he.step hb (by omega)⟩
    · rintro σ' H' ⟨y, a', b', rfl, rfl, he⟩
      walk_at "wp"
      rw [he.done (by decide)]
      exact q

/-! ### _law_double -/
def sp__law_double (K : PySem.W.Frag) : Sp := fun vs H Q _ => ∃ v x, vs = [v] ∧ Dp K H v (pd x) ∧ x.1 < x.2 ∧ x.2 < 2 ^ 60 ∧ ∀ v H', Same H H' → Dp K H' v (pd (dblN x)) → Q v H'
theorem ok__law_double (T : Top K mg) : FnOk P w K mg base CX0 1 T.f__law_double T.fd__law_double ["x"] (sp__law_double K) := by
  refine T.F__law_double.ok sc__law_double (fun vs H Q E h => ?_) (fun cdv A outer s H vs Q E hr h => ?_)
  · obtain ⟨v, x, rfl, _⟩ := h
    rfl
  · obtain ⟨v, x, rfl, hv, hx, hx2, q⟩ := h
    refine ⟨_, (pss_cons (ps_if (pt_cmpR op_eq (pe_op op_modD (pe_callTy cl_int (by rfl) T.z_int (by decide +kernel) (pa_cons (pe_ix (ix_tupK (K := K)) (pv 0) pe_int (fun _ _ => rfl)) pa_nil)) pe_int) pe_int (nomark _)) (pss_one (ps_ret (pe_tup (pa_cons (pe_op op_modD (pe_callTy cl_int (by rfl) T.z_int (by decide +kernel) (pa_cons (pe_ix (ix_tupK (K := K)) (pv 0) pe_int (fun _ _ => rfl)) pa_nil)) (pe_op op_fdivW (pe_ix (ix_tupK (K := K)) (pv 0) pe_int (fun _ _ => rfl)) pe_int)) (pa_cons (pe_op op_fdivW (pe_ix (ix_tupK (K := K)) (pv 0) pe_int (fun _ _ => rfl)) pe_int) pa_nil))))) pss_nil)
      (pss_one (ps_ret (pe_tup (pa_cons (pe_op op_modD (pe_callTy cl_int (by rfl) T.z_int (by decide +kernel) (pa_cons (pe_op op_mulX pe_int (pe_ix (ix_tupK (K := K)) (pv 0) pe_int (fun _ _ => rfl))) pa_nil)) (pe_ix (ix_tupK (K := K)) (pv 0) pe_int (fun _ _ => rfl))) (pa_cons (pe_ix (ix_tupK (K := K)) (pv 0) pe_int (fun _ _ => rfl)) pa_nil)))))), ?_⟩
    rw [show start N__law_double [v] = [some (v)] from rfl]
    try dsimp only [cxK]
    walk_at "wp"
    refine w_iteD (fun h => ?_) (fun h => ?_)
    · have hh : x.2 % 2 = 0 := by omega
      walk_at "wp"
      refine w_newT (K := K) (len_ok (by simp)) (.cons (.int _) (.cons (.int _) .nil)) fun t H1 n1 e1 d1 => ?_
      refine q _ H1 e1 ?_
      unfold dblN
      rw [if_pos hh]
      exact d1
    · have hh : ¬ x.2 % 2 = 0 := by omega
      walk_at "wp"
      refine w_newT (K := K) (len_ok (by simp)) (.cons (.int _) (.cons (.int _) .nil)) fun t H1 n1 e1 d1 => ?_
      refine q _ H1 e1 ?_
      unfold dblN
      rw [if_neg hh]
      exact d1

/-! ### _is_in_reach -/
def sp__is_in_reach (K : PySem.W.Frag) : Sp := fun vs H Q _ => ∃ x, vs = [.int (x.2 : Nat)] ∧ Plc x ∧ Q (.bl true) H
theorem ok__is_in_reach (T : Top K mg) : FnOk P w K mg base CX0 2 T.f__is_in_reach T.fd__is_in_reach ["bottom"] (sp__is_in_reach K) := by
  refine T.F__is_in_reach.ok sc__is_in_reach (fun vs H Q E h => ?_) (fun cdv A outer s H vs Q E hr h => ?_)
  · obtain ⟨x, rfl, _⟩ := h
    rfl
  · obtain ⟨x, rfl, hx, q⟩ := h
    refine ⟨_, (pss_cons (ps_if (pt_cmpR op_gt (pe_bits (pv 0)) (pe_cint (by rfl) T.c_MOST_STEPS) (nomark _)) (pss_one (ps_ret pe_bl)) pss_nil)
      (pss_cons (ps_set (i := 1) sc__is_in_reach.nd (by rfl) (by first | exact Or.inl rfl | exact Or.inr rfl) (pe_call (ok__twos T) (hr.mono (by decide)) (by rfl) T.g__twos T.F__twos.kp T.b__twos .nil pass0 (pa_cons (pv 0) pa_nil)))
      (pss_cons (ps_set (i := 2) sc__is_in_reach.nd (by rfl) (by first | exact Or.inl rfl | exact Or.inr rfl) (pe_call (ok__order T) (hr.mono (by decide)) (by rfl) T.g__order T.F__order.kp T.b__order .nil pass0 (pa_cons (pe_op op_shr (pv 0) (pv 1)) pa_nil)))
      (pss_one (ps_ret (pe_and (pe_cmpR op_notN1 (pv 2) pe_non (nomark _)) (pe_one (pe_cmpR op_le (pe_op op_add (pv 1) (pv 2)) (pe_cint (by rfl) T.c_MOST_STEPS) (nomark _))))))))), ?_⟩
    rw [show start N__is_in_reach [.int (x.2 : Nat)] = [some (.int (x.2 : Nat)), none, none] from rfl]
    try dsimp only [cxK]
    have hp := hx.pos
    have hs := hx.small
    have hb := bits_le hp hs
    have w := ways hx
    have w1 := w.n1
    have w2 := w.le
    have ho := odd_pos hp (Nat.lt_trans hs (by decide))
    walk_at "wp"
    refine w_iteD (fun h => by omega) (fun _ => ?_)
    walk_at "wp"
    refine ⟨x.2, rfl, hp, by omega, ?_⟩
    walk_at "wp"
    have e : (x.2 : Int) / 2 ^ (twos x.2 : Int).toNat = ((oddOf x.2 : Nat) : Int) := by
      rw [Int.toNat_natCast, ← show ((2 ^ twos x.2 : Nat) : Int) = (2 : Int) ^ twos x.2 by push_cast; rfl, ← Int.natCast_ediv]
      rfl
    rw [e]
    refine ⟨oddOf x.2, rfl, ho, w1, ?_⟩
    walk_at "wp"
    rw [decide_eq_false (fun z => nomatch z)]
    walk_at "wp"
    rw [decide_eq_true (show (twos x.2 : Int) + (ordN (oddOf x.2) : Int) ≤ 24 by unfold wayN perN at w2; omega)]
    exact q

/-! ### _check_turn -/
def sp__check_turn {K : PySem.W.Frag} {mg : Str → Option Value} (T : Top K mg) : Sp := fun vs H Q E => ∃ p q : Int, vs = [.int p, .int q] ∧ (okT p q → Q .non H) ∧ (¬ okT p q → E (.ref T.c_NotTurn) none H)
theorem ok__check_turn (T : Top K mg) : FnOk P w K mg base (CX P w) 2 T.f__check_turn T.fd__check_turn ["p", "q"] (sp__check_turn T) := by
  refine T.F__check_turn.okX sc__check_turn (fun vs H Q E h => ?_) (fun cdv A outer s H vs Q E hr h => ?_)
  · obtain ⟨p, q, rfl, _⟩ := h
    rfl
  · obtain ⟨p, q, rfl, q1, q2⟩ := h
    refine ⟨_, (pss_cons (ps_if (pt_not (PW.pt (pw_and (pt_val (pe_call (ok_is_whole T) (hr.mono (by decide)) (by rfl) T.g_is_whole T.F_is_whole.kp T.b_is_whole .nil pass0 (pa_cons (pv 0) pa_nil))) (pw_and (pt_val (pe_call (ok_is_whole T) (hr.mono (by decide)) (by rfl) T.g_is_whole T.F_is_whole.kp T.b_is_whole .nil pass0 (pa_cons (pv 1) pa_nil))) (pw_and (pt_chain3 op_le op_lt op_le pe_int (pv 0) (pv 1) (pe_cint (by rfl) T.c_MOST_TURN)) (pw_and1 (pt_cmpR op_eq (pe_callBfun cr_gcd (by rfl) T.i_gcd (pa_cons (pv 0) (pa_cons (pv 1) pa_nil))) pe_int (nomark _)))))))) (pss_one (ps_raise rfl (takes_of rfl rfl rfl rfl) (pmk_own PySem.F.excBase_ValueError T.xq_NotTurn T.gc_NotTurn T.x_NotTurn.o.kC (raises_own T.x_NotTurn.o.exC T.x_NotTurn.o.tyC) (by rfl)))) pss_nil)
      pss_nil), ?_⟩
    rw [show start N__check_turn [.int p, .int q] = [some (.int p), some (.int q)] from rfl]
    try dsimp only [cxK]
    walk_at "wp"
    refine ⟨p, rfl, ?_⟩
    walk_at "wp"
    refine ⟨q, rfl, ?_⟩
    walk_at "wp"
    refine w_iteD (fun a1 => ?_) (fun a1 => ?_)
    · walk_at "wp"
      refine w_iteD (fun a2 => ?_) (fun a2 => ?_)
      · walk_at "wp"
        refine w_iteD (fun a3 => ?_) (fun a3 => ?_)
        · walk_at "wp"
          refine ⟨p, q, rfl, ?_⟩
          walk_at "wp"
          refine w_iteND (fun a4 => ?_) (fun a4 => ?_)
          · walk_at "wp"
            exact q2 fun z => a4 (by rw [z.2.2.2]; rfl)
          · walk_at "wp"
            exact q1 ⟨a1, a2, a3, by omega⟩
        · walk_at "wp"
          exact q2 fun z => a3 z.2.2.1
      · walk_at "wp"
        exact q2 fun z => a2 z.2.1
    · walk_at "wp"
      exact q2 fun z => a1 z.1

/-! ### _law_of -/
def sp__law_of (K : PySem.W.Frag) : Sp := fun vs H Q _ => ∃ (m c : Addr) (v : V) (ds : List PyData) (b : Nat), vs = [.ref m, v] ∧ Dp K H v (.list ds) ∧ 0 < ds.length ∧ ds.length ≤ 1000 ∧ Mo H m c b ∧ b < 2 ^ 50 ∧
  ∀ y d H', d ∈ ds → Dp K H' y d → Keep H H' → Mo H' m c (b + 1) → Q y H'
theorem ok__law_of (T : Top K mg) : FnOk P w K mg base CX0 2 T.f__law_of T.fd__law_of ["m", "some"] (sp__law_of K) := by
  refine T.F__law_of.ok sc__law_of (fun vs H Q E h => ?_) (fun cdv A outer s H vs Q E hr h => ?_)
  · obtain ⟨m, c, v, ds, b, rfl, _⟩ := h
    rfl
  · obtain ⟨m, c, v, ds, b, rfl, hv, hz0, hz1, hm, hb, q⟩ := h
    refine ⟨_, (pss_one (ps_ret (pe_ix (ix_listK (K := K)) (pv 1) (pe_call (ok__law_draw T) (hr.mono (by decide)) (by rfl) T.g__law_draw T.F__law_draw.kp T.b__law_draw .nil pass0 (pa_cons (pv 0) (pa_cons (pe_callB (cl_len (K := K)) (by rfl) T.z_len (by decide +kernel) (pa_cons (pv 1) pa_nil)) pa_nil))) (fun _ _ => rfl)))), ?_⟩
    rw [show start N__law_of [.ref m, v] = [some (.ref m), some (v)] from rfl]
    try dsimp only [cxK]
    walk_at "w"
    refine ⟨m, c, _, b, rfl, by omega, by omega, hm, hb, fun r H' h0 h1 k m' => ?_⟩
    have hr : r.toNat < ds.length := by omega
    exact w_ixL (j := r.toNat) (dp_keep k hv) (by omega) (List.getElem?_eq_getElem hr) fun y hy => q y _ H' (List.getElem_mem hr) hy k m'

/-! ### _law_ratio -/
def sp__law_ratio (K : PySem.W.Frag) : Sp := fun vs H Q _ => ∃ p q : Nat, vs = [.int (p : Int), .int (q : Int)] ∧ 0 < q ∧ q < 2 ^ 190 ∧ ∀ v H', Same H H' → Dp K H' v (pd (red p q)) → Q v H'
theorem ok__law_ratio (T : Top K mg) : FnOk P w K mg base CX0 2 T.f__law_ratio T.fd__law_ratio ["a", "b"] (sp__law_ratio K) := by
  refine T.F__law_ratio.ok sc__law_ratio (fun vs H Q E h => ?_) (fun cdv A outer s H vs Q E hr h => ?_)
  · obtain ⟨p, q, rfl, _⟩ := h
    rfl
  · obtain ⟨p, q, rfl, h0, h1, q1⟩ := h
    refine ⟨_, (pss_cons (ps_set (i := 2) sc__law_ratio.nd (by rfl) (by first | exact Or.inl rfl | exact Or.inr rfl) (pe_call (ok__law_shared T) (hr.mono (by decide)) (by rfl) T.g__law_shared T.F__law_shared.kp T.b__law_shared .nil pass0 (pa_cons (pe_callB cl_abs (by rfl) T.z_abs (by decide +kernel) (pa_cons (pv 0) pa_nil)) (pa_cons (pv 1) pa_nil))))
      (pss_one (ps_ret (pe_tup (pa_cons (pe_op op_fdivW (pv 0) (pv 2)) (pa_cons (pe_op op_fdivW (pv 1) (pv 2)) pa_nil)))))), ?_⟩
    rw [show start N__law_ratio [.int (p : Int), .int (q : Int)] = [some (.int (p : Int)), some (.int (q : Int)), none] from rfl]
    try dsimp only [cxK]
    have g0 : 0 < Nat.gcd p q := Nat.gcd_pos_of_pos_right p h0
    have g1 : Nat.gcd p q ≤ q := Nat.le_of_dvd h0 (Nat.gcd_dvd_right p q)
    walk_at "wp"
    refine ⟨p, q, rfl, h1, ?_⟩
    walk_at "wp"
    refine w_newT (K := K) (len_ok (by simp)) (.cons (.int _) (.cons (.int _) .nil)) fun t H1 n1 e1 d1 => ?_
    exact q1 _ H1 e1 d1

/-! ### _law_orbit -/
def sp__law_orbit (K : PySem.W.Frag) : Sp := fun vs H Q _ => ∃ v x, vs = [v] ∧ Dp K H v (pd x) ∧ Plc x ∧ ∀ v H', Same H H' → Dp K H' v (.list ((orbN x).map pd)) → (∃ (p : Addr) (ws : List V), v = .ref p ∧ H p = none ∧ H' p = some (.lst ws) ∧ DpAll K H' ws ((orbN x).map pd)) → Q v H'
theorem ok__law_orbit (T : Top K mg) : FnOk P w K mg base CX0 2 T.f__law_orbit T.fd__law_orbit ["x"] (sp__law_orbit K) := by
  refine T.F__law_orbit.ok sc__law_orbit (fun vs H Q E h => ?_) (fun cdv A outer s H vs Q E hr h => ?_)
  · obtain ⟨v, x, rfl, _⟩ := h
    rfl
  · obtain ⟨v, x, rfl, hv, hx, q⟩ := h
    refine ⟨_, (pss_cons (ps_set (i := 1) sc__law_orbit.nd (by rfl) (by first | exact Or.inl rfl | exact Or.inr rfl) (pe_lst (pa_cons (pv 0) pa_nil)))
      (pss_cons (ps_for PassesOwn.never (by rfl) (pi_range1 (by rfl) T.z_range (pa_cons pe_int pa_nil)) (pg_name (i := 2) sc__law_orbit.nd (by rfl) (by first | exact Or.inl rfl | exact Or.inr rfl)) (pss_cons (ps_set (i := 0) sc__law_orbit.nd (by rfl) (by first | exact Or.inl rfl | exact Or.inr rfl) (pe_call (ok__law_double T) (hr.mono (by decide)) (by rfl) T.g__law_double T.F__law_double.kp T.b__law_double .nil pass0 (pa_cons (pv 0) pa_nil)))
      (pss_cons (ps_if (pt_cmpR (op_inDK (K := K) (Room65 hr)) (pv 0) (pv 1) (by rfl)) (pss_one (ps_ret (pv 1))) pss_nil)
      (pss_one (ps_expr (pe_bm PySem.F.plainAttrs_list PySem.F.slot_list_append PySem.F.type_list_append mt_append (pv 1) (pa_cons (pv 0) pa_nil)))))))
      (pss_one (ps_ret (pv 1))))), ?_⟩
    rw [show start N__law_orbit [v] = [some (v), none, none] from rfl]
    try dsimp only [cxK]
    have w := ways hx
    have hle := w.le
    have hn1 := w.n1
    walk_at "wp"
    refine w_newL (K := K) (len_ok (by simp)) (dpa_one hv) fun p H1 n1 e1 f1 d1 => ?_
    walk_at "wp"
    refine forR1_by (fun i σ' H' => ∃ y yk ws, σ' = [some y, some (.ref p), yk] ∧ Same H H' ∧ H' p = some (.lst ws) ∧ DpAll K H' ws ((preN x (i + 1)).map pd) ∧ Dp K H' y (pd (itN i x)) ∧ i + 1 ≤ wayN x + perN x) (by omega) ⟨v, none, [v], rfl, e1, f1, dpa_one (dp_same e1 hv), dp_same e1 hv, by omega⟩ ?_ ?_
    · rintro i σ' H' hi ⟨y, yk, ws, rfl, s1, f2, d2, dy, hle1⟩
      have pre : ∀ z ∈ (preN x (i + 1)).map pd, pln 8 z = true := fun z hz => by
        obtain ⟨u, _, rfl⟩ := List.mem_map.mp hz
        exact pd_pln _
      have hno : noLs ((preN x (i + 1)).map pd) = true := by
        induction preN x (i + 1) with
        | nil => rfl
        | cons u r ih => simp only [List.map_cons, noLs, pd_noL, Bool.true_and]; exact ih
      have hmem : pd (itN (i + 1) x) ∈ (preN x (i + 1)).map pd ↔ i + 1 = wayN x + perN x := by
        rw [← pre_mem hx hle1, List.mem_map]
        constructor
        · rintro ⟨u, hu, e⟩
          rw [← pd_inj e]; exact hu
        · intro h; exact ⟨_, h, rfl⟩
      have pi := it_plc hx i
      have ps := pi.small
      walk_at "wp"
      refine ⟨y, itN i x, rfl, dy, pi.lt, by omega, fun y2 H2 e2 dy2 => ?_⟩
      rw [← itN_succ] at dy2
      have d3 := dpa_same e2 d2
      have f3 := e2 _ _ f2
      walk_at "wp"
      refine w_inP dy2 (dp_newL f3 d3) (pd_pln _) pre (fun hm => ?_) (fun hm => ?_)
      · walk_at "wp"
        rw [hmem.mp hm] at d3
        exact q _ H2 (s1.trans e2) (dp_newL f3 d3) ⟨p, ws, rfl, n1, f3, d3⟩
      · have hlt : i + 1 < wayN x + perN x := by
          by_cases z : i + 1 = wayN x + perN x
          · exact absurd (hmem.mpr z) hm
          · omega
        walk_at "wp"
        refine w_tyL f3 ?_
        walk_at "wp"
        have hl := dpa_len d2
        rw [List.length_map, pre_len] at hl
        refine w_append f3 (len_lt (by omega)) ?_
        have dy3 := dp_upd (o := .lst (ws ++ [y2])) f3 _ _ (pd_noL _) dy2
        walk_at "wp"
        refine ⟨y2, _, ws ++ [y2], rfl, same_mut (s1.trans e2) n1, upd_same, ?_, dy3, by omega⟩
        rw [pre_succ x (i + 1), List.map_append]
        exact dpa_app (dpa_upd f3 _ _ hno d3) (dpa_one dy3)
    · rintro σ' H' ⟨y, yk, ws, rfl, s1, f2, d2, dy, hle1⟩
      exfalso
      have : (60 : Int).toNat = 60 := rfl
      omega

/-! ### _law_sorted -/
def sp__law_sorted (K : PySem.W.Frag) : Sp := fun vs H Q _ => ∃ (v : V) (xs : List (Nat × Nat)), vs = [v] ∧ Dp K H v (.list (xs.map pd)) ∧ (∀ x ∈ xs, Plc x) ∧ xs.length ≤ 1000 ∧ ∀ (ys : List (Nat × Nat)) v' H', ys.Pairwise (fun x y => sz x < sz y) → (∀ x, x ∈ ys ↔ x ∈ xs) → Same H H' → Dp K H' v' (.list (ys.map pd)) → Q v' H'
theorem ok__law_sorted (T : Top K mg) : FnOk P w K mg base CX0 2 T.f__law_sorted T.fd__law_sorted ["rows"] (sp__law_sorted K) := by
  refine T.F__law_sorted.ok sc__law_sorted (fun vs H Q E h => ?_) (fun cdv A outer s H vs Q E hr h => ?_)
  · obtain ⟨v, xs, rfl, _⟩ := h
    rfl
  · obtain ⟨v, xs, rfl, hd, hx, hl, q⟩ := h
    refine ⟨_, (pss_cons (ps_set (i := 1) sc__law_sorted.nd (by rfl) (by first | exact Or.inl rfl | exact Or.inr rfl) pe_int)
      (pss_cons (ps_for PassesOwn.never (by rfl) (pi_listK (K := K) (pv 0)) (pg_name (i := 2) sc__law_sorted.nd (by rfl) (by first | exact Or.inl rfl | exact Or.inr rfl)) (pss_one (ps_set (i := 1) sc__law_sorted.nd (by rfl) (by first | exact Or.inl rfl | exact Or.inr rfl) (pe_op op_mulX (pe_op op_fdivW (pv 1) (pe_call (ok__law_shared T) (hr.mono (by decide)) (by rfl) T.g__law_shared T.F__law_shared.kp T.b__law_shared .nil pass0 (pa_cons (pv 1) (pa_cons (pe_ix (ix_tupK (K := K)) (pv 2) pe_int (fun _ _ => rfl)) pa_nil)))) (pe_ix (ix_tupK (K := K)) (pv 2) pe_int (fun _ _ => rfl))))))
      (pss_cons (ps_set (i := 3) sc__law_sorted.nd (by rfl) (by first | exact Or.inl rfl | exact Or.inr rfl) (pe_callB (cr_sortR (K := K) hr.units) (by rfl) T.z_sorted (by decide +kernel) (pa_cons (pe_lc (own := [("x", 2)]) (g := gName 2) (tt := tYes) (by rfl) sc__law_sorted.nd (pi_listK (K := K) (pv 0)) (blkOk_by (own := [("x", 2)]) (N := N__law_sorted) (sc := defScope s__law_sorted) (by decide +kernel)) (fun _ _ _ _ _ => (pg_name (i := 2) sc__law_sorted.nd (by rfl) (by first | exact Or.inl rfl | exact Or.inr rfl))) (fun _ _ _ _ _ => pts_nil) (fun _ _ _ _ _ => (pe_tup (pa_cons (pe_op op_mulX (pe_ix (ix_tupK (K := K)) (pv 2) pe_int (fun _ _ => rfl)) (pe_op op_fdivW (pv 1) (pe_ix (ix_tupK (K := K)) (pv 2) pe_int (fun _ _ => rfl)))) (pa_cons (pv 2) pa_nil))))) pa_nil)))
      (pss_one (ps_ret (pe_lc (own := [("k", 4)]) (g := gName 4) (by rfl) sc__law_sorted.nd (pi_range1 (by rfl) T.z_range (pa_cons (pe_callB (cl_len (K := K)) (by rfl) T.z_len (by decide +kernel) (pa_cons (pv 3) pa_nil)) pa_nil)) (blkOk_by (own := [("k", 4)]) (N := N__law_sorted) (sc := defScope s__law_sorted) (by decide +kernel)) (fun _ _ _ _ _ => (pg_name (i := 4) sc__law_sorted.nd (by rfl) (by first | exact Or.inl rfl | exact Or.inr rfl))) (fun _ _ _ _ _ => (pts_one (PW.pt (pw_or (pt_cmpR op_eq (pv 4) pe_int (nomark _)) (pw_or1 (pt_cmpR (op_neK (K := K) hr.units) (pe_ix (ix_listK (K := K)) (pv 3) (pv 4) (fun _ _ => rfl)) (pe_ix (ix_listK (K := K)) (pv 3) (pe_op op_sub (pv 4) pe_int) (fun _ _ => rfl)) (nomark _))))))) (fun _ _ _ _ _ => (pe_ix (ix_tupK (K := K)) (pe_ix (ix_listK (K := K)) (pv 3) (pv 4) (fun _ _ => rfl)) pe_int (fun _ _ => rfl))))))))), ?_⟩
    rw [show start N__law_sorted [v] = [some (v), none, none, none, none] from rfl]
    try dsimp only [cxK]
    walk_at "wp"
    refine forL_by (fun i σ' H' => ∃ (W : Nat) (y2 y3 y4 : Option V), σ' = [some v, some (.int (W : Int)), y2, y3, y4] ∧ H = H' ∧ 0 < W ∧ W ∣ CN ∧ ∀ x ∈ xs.take i, x.2 ∣ W) hd ⟨1, _, _, _, rfl, rfl, by decide, Nat.one_dvd _, fun x hx => by simp at hx⟩ ?_ ?_ ?_
    · rintro i σ' H' _ ⟨W, y2, y3, y4, rfl, rfl, _⟩
      exact Keep.refl _
    · rintro i d y σ' H' hi hy ⟨W, y2, y3, y4, rfl, rfl, h0, h1, h2⟩
      rw [List.getElem?_map] at hi
      obtain ⟨x, hxi, rfl⟩ := Option.map_eq_some_iff.mp hi
      have px := hx x (List.mem_of_getElem? hxi)
      have hWC := Nat.le_of_dvd CN_pos h1
      have hCN := CN_lt
      have hg1 := Nat.gcd_pos_of_pos_left x.2 h0
      have hg2 := Nat.gcd_le_left x.2 h0
      have hs := px.small
      have hdiv := Nat.div_le_self W (Nat.gcd W x.2)
      obtain ⟨l0, l1, l2, l3⟩ := lcm_step h0 px.pos h1 px.dvd
      walk_at "wp"
      refine ⟨W, x.2, rfl, by omega, ?_⟩
      walk_at "wp"
      rw [← Int.natCast_ediv]
      generalize W / Nat.gcd W x.2 = G at *
      refine w_rI (mulS ⟨by omega, by omega⟩ ⟨by omega, by omega⟩) ?_
      rw [← Int.natCast_mul]
      walk_at "wp"
      refine ⟨_, _, _, _, rfl, rfl, l0, l1, fun z hz => ?_⟩
      rw [List.take_succ, hxi] at hz
      rcases List.mem_append.mp hz with hz | hz
      · exact Nat.dvd_trans (h2 z hz) l2
      · simp at hz
        rw [hz]
        exact l3
    · rintro σ' H' ⟨W, y2, y3, y4, rfl, rfl, h0, h1, h2⟩
      rw [List.length_map, List.take_length] at h2
      walk_at "wp"
      have hWC := Nat.le_of_dvd CN_pos h1
      have hCN := CN_lt
      refine lc_list_by (K := K) (JP H fun i es => es = ((xs.take i).map (key3 W)).map rowP) (JP.ok rfl) hd (by rw [List.length_map]; omega) (fun _ => rfl) ?_ ?_
      · rintro i d y H1 es hi hy ⟨s1, rfl⟩ Yes No hyes hno
        rw [List.getElem?_map] at hi
        obtain ⟨x, hxi, rfl⟩ := Option.map_eq_some_iff.mp hi
        have px := hx x (List.mem_of_getElem? hxi)
        have hs := px.small
        have hp := px.pos
        have hlt := px.lt
        have hdiv := Nat.div_le_self W x.2
        walk_at "wp"
        rw [← Int.natCast_ediv]
        generalize hG : W / x.2 = G at *
        refine w_rI (mulS ⟨by omega, by omega⟩ ⟨by omega, by omega⟩) ?_
        rw [← Int.natCast_mul]
        walk_at "wt"
        rename_i t2 H2 n2 e2 d2
        subst hG
        refine hyes _ _ (rowP (key3 W x)) (Keep.of e2) rfl d2 ⟨s1.trans e2, ?_⟩
        dsimp only
        rw [List.take_succ, hxi]
        simp
      · rintro p H1 vs es hn k1 hv dl ⟨s1, rfl⟩
        rw [List.length_map, List.take_length] at dl
        walk_at "wp"
        refine ⟨p, xs.map (key3 W), rfl, dl, fun e he f hf hef => ?_, fun es' p' H2 perm pw hn' s2 d2 => ?_⟩
        · obtain ⟨x, hx1, rfl⟩ := List.mem_map.mp he
          obtain ⟨y, hy1, rfl⟩ := List.mem_map.mp hf
          rw [key_inj h0 (hx _ hx1) (hx _ hy1) (h2 _ hx1) (h2 _ hy1) (by have : ((x.1 * (W / x.2) : Nat) : Int) = ((y.1 * (W / y.2) : Nat) : Int) := hef; omega)]
        · obtain ⟨ys, yp, rfl⟩ := sorted_back perm
          walk_at "wp"
          rw [List.length_map, List.length_map]
          have yl := yp.length_eq
          have yx : ∀ x ∈ ys, Plc x ∧ x.2 ∣ W := fun x z => ⟨hx x (yp.mem_iff.mp z), h2 x (yp.mem_iff.mp z)⟩
          have hys : ys.Pairwise fun x y => sz x ≤ sz y := by
            refine (List.pairwise_map.mp pw).imp_of_mem fun {x y} hx1 hy1 hxy => ?_
            rw [key_sz h0 h1 (yx x hx1).2, key_sz h0 h1 (yx y hy1).2]
            have hxy' : ((x.1 * (W / x.2) : Nat) : Int) ≤ ((y.1 * (W / y.2) : Nat) : Int) := hxy
            exact Nat.mul_le_mul_right _ (by omega)
          have hget : ∀ (i : Nat) x, ys[i]? = some x → ((ys.map (key3 W)).map rowP)[i]? = some (rowP (key3 W x)) := fun i x e => by rw [List.getElem?_map, List.getElem?_map, e]; rfl
          refine lc_rng1_by (K := K) (JP H2 fun i es => ∃ zs : List (Nat × Nat), es = zs.map pd ∧ zs.Pairwise (fun x y => sz x < sz y) ∧ ∀ x, x ∈ zs ↔ x ∈ ys.take i) (JP.ok ⟨[], rfl, .nil, fun x => by simp⟩) (by omega) (fun _ => rfl) ?_ ?_
          · rintro i H3 es hi ⟨s3, zs, rfl, hp, hm⟩ Yes No hyes hno
            have hi' : i < ys.length := by omega
            have hxi : ys[i]? = some ys[i] := List.getElem?_eq_getElem hi'
            have d3 := dp_same s3 d2
            have add : (∀ z ∈ zs, sz z < sz ys[i]) → ∀ v, Dp K H3 v (pd ys[i]) → Yes v H3 := fun hz v dv => by
              refine hyes _ _ (pd ys[i]) (Keep.refl _) rfl dv ⟨s3, zs ++ [ys[i]], by simp, ?_, fun x => ?_⟩
              · exact List.pairwise_append.mpr ⟨hp, List.pairwise_singleton _ _, fun a ha b hb => by rw [List.mem_singleton.mp hb]; exact hz a ha⟩
              · rw [List.take_succ, hxi, List.mem_append, List.mem_append, hm x]
                simp
            walk_at "wp"
            have fin : (∀ z ∈ zs, sz z < sz ys[i]) → ∀ v', Dp K H3 v' (rowP (key3 W ys[i])) → rIxT K v' (.int 1) H3 Yes := fun hz v' dv =>
              w_ixT (j := 1) dv rfl rfl fun v2 dv2 => add hz v2 dv2
            refine w_iteD (fun hi0 => ?_) (fun hi0 => ?_)
            · walk_at "wp"
              refine w_ixL (j := i) d3 rfl (hget i _ hxi) fun v1 dv1 => ?_
              walk_at "wp"
              refine fin (fun z hz => ?_) _ dv1
              have := (hm z).mp hz
              rw [show i = 0 by omega] at this
              simp at this
            · obtain ⟨j, rfl⟩ : ∃ j, i = j + 1 := ⟨i - 1, by omega⟩
              have hj' : j < ys.length := by omega
              have hxj : ys[j]? = some ys[j] := List.getElem?_eq_getElem hj'
              have le1 : sz ys[j] ≤ sz ys[j + 1] := List.pairwise_iff_getElem.mp hys j (j + 1) hj' hi' (by omega)
              have le2 : ∀ z ∈ zs, sz z ≤ sz ys[j] := fun z hz => by
                obtain ⟨m, hm1, hm2⟩ := List.mem_take_iff_getElem.mp ((hm z).mp hz)
                rw [← hm2]
                by_cases hmj : m = j
                · subst hmj; exact Nat.le_refl _
                · exact List.pairwise_iff_getElem.mp hys m j (by omega) hj' (by omega)
              walk_at "wp"
              refine w_ixL (j := j + 1) d3 rfl (hget _ _ hxi) fun v1 dv1 => ?_
              walk_at "wp"
              refine w_ixL (j := j) d3 (by omega) (hget _ _ hxj) fun v2 dv2 => ?_
              refine w_neP dv1 dv2 rfl rfl (fun he => ?_) (fun he => ?_)
              · walk_at "wp"
                refine hno _ (Keep.refl _) ⟨s3, zs, rfl, hp, fun x => ?_⟩
                have exy : ys[j + 1] = ys[j] := by
                  have e1 : ((ys[j + 1].1 * (W / ys[j + 1].2) : Nat) : Int) = ((ys[j].1 * (W / ys[j].2) : Nat) : Int) := by
                    simp only [rowP, key3, PyData.tuple.injEq, List.cons.injEq, PyData.int.injEq] at he
                    exact he.1
                  exact key_inj h0 (yx _ (List.getElem_mem hi')).1 (yx _ (List.getElem_mem hj')).1 (yx _ (List.getElem_mem hi')).2 (yx _ (List.getElem_mem hj')).2 (by omega)
                have t1 : ys.take (j + 1) = ys.take j ++ [ys[j]] := by rw [List.take_succ, hxj]; rfl
                have t2 : ys.take (j + 1 + 1) = ys.take (j + 1) ++ [ys[j]] := by rw [List.take_succ, hxi, exy]; rfl
                rw [hm x, t2, List.mem_append]
                exact ⟨Or.inl, fun z => z.elim id fun z => by rw [t1]; exact List.mem_append_right _ z⟩
              · walk_at "wp"
                refine w_ixL (j := j + 1) d3 rfl (hget _ _ hxi) fun v3 dv3 => ?_
                walk_at "wp"
                refine fin (fun z hz => Nat.lt_of_le_of_lt (le2 z hz) (Nat.lt_of_le_of_ne le1 fun z2 => he ?_)) _ dv3
                rw [sz_inj (yx _ (List.getElem_mem hj')).1 (yx _ (List.getElem_mem hi')).1 z2]
          · rintro p3 H3 vs3 es3 hn3 k3 hv3 dl3 ⟨s3, zs, rfl, hp, hm⟩
            rw [Int.toNat_natCast, List.take_length] at hm
            exact q zs _ _ hp (fun x => (hm x).trans yp.mem_iff) ((s1.trans s2).trans s3) dl3

/-! ### _law_turns -/
def sp__law_turns (K : PySem.W.Frag) : Sp := fun vs H Q _ => ∃ n : Nat, vs = [.int (n : Int)] ∧ 1 ≤ n ∧ n ≤ 24 ∧ ∀ v H', Same H H' → Dp K H' v (.list ((trnL n).map pd)) → Q v H'
theorem ok__law_turns (T : Top K mg) : FnOk P w K mg base CX0 2 T.f__law_turns T.fd__law_turns ["most"] (sp__law_turns K) := by
  refine T.F__law_turns.ok sc__law_turns (fun vs H Q E h => ?_) (fun cdv A outer s H vs Q E hr h => ?_)
  · obtain ⟨n, rfl, _⟩ := h
    rfl
  · obtain ⟨n, rfl, h1, h2, q⟩ := h
    refine ⟨_, (pss_cons (ps_set (i := 1) sc__law_turns.nd (by rfl) (by first | exact Or.inl rfl | exact Or.inr rfl) (pe_lst pa_nil))
      (pss_cons (ps_for PassesOwn.never (by rfl) (pi_range2 (by rfl) T.z_range (pa_cons pe_int (pa_cons (pe_op op_add (pv 0) pe_int) pa_nil))) (pg_name (i := 2) sc__law_turns.nd (by rfl) (by first | exact Or.inl rfl | exact Or.inr rfl)) (pss_one (ps_set (i := 1) sc__law_turns.nd (by rfl) (by first | exact Or.inl rfl | exact Or.inr rfl) (pe_op op_catL (pv 1) (pe_lc (own := [("p", 3)]) (g := gName 3) (by rfl) sc__law_turns.nd (pi_range2 (by rfl) T.z_range (pa_cons pe_int (pa_cons (pv 2) pa_nil))) (blkOk_by (own := [("p", 3)]) (N := N__law_turns) (sc := defScope s__law_turns) (by decide +kernel)) (fun _ _ _ _ _ => (pg_name (i := 3) sc__law_turns.nd (by rfl) (by first | exact Or.inl rfl | exact Or.inr rfl))) (fun _ _ _ _ _ => (pts_one (pt_cmpR op_eq (pe_call (ok__law_shared T) (hr.mono (by decide)) (by rfl) T.g__law_shared T.F__law_shared.kp T.b__law_shared .nil pass0 (pa_cons (pv 3) (pa_cons (pv 2) pa_nil))) pe_int (nomark _)))) (fun _ _ _ _ _ => (pe_tup (pa_cons (pv 3) (pa_cons (pv 2) pa_nil)))))))))
      (pss_one (ps_ret (pv 1))))), ?_⟩
    rw [show start N__law_turns [.int (n : Int)] = [some (.int (n : Int)), none, none, none] from rfl]
    try dsimp only [cxK]
    walk_at "wp"
    refine w_newL (K := K) (len_ok (by simp)) .nil fun p0 H0 n0 e0 f0 d0 => ?_
    walk_at "wp"
    refine forR2_by (fun i σ' H' => ∃ (v y4 : Option V) (aw : Addr) (xw : List V), σ' = [some (.int (n : Int)), some (.ref aw), v, y4] ∧ Same H H' ∧ H' aw = some (.lst xw) ∧ DpAll K H' xw ((trnL (1 + i)).map pd)) (by omega) ⟨none, none, _, _, rfl, e0, f0, .nil⟩ ?_ ?_
    · rintro i σ' H' hi ⟨v, y4, aw, xw, rfl, s1, fw, dw⟩
      walk_at "wp"
      refine lc_rng2_byA (K := K) (JP H' fun j es => es = ((List.range' 1 j).filter fun p => decide (Nat.gcd p (2 + i) = 1)).map fun p : Nat => pd (p, 2 + i)) (JP.ok rfl) (by omega) (fun _ => rfl) ?_ ?_
      · rintro j H2 es hj ⟨s2, rfl⟩ Yes No hyes hno
        rw [show (1 : Int) + (j : Int) = ((1 + j : Nat) : Int) by omega, show (2 : Int) + (i : Int) = ((2 + i : Nat) : Int) by omega]
        walk_at "wp"
        refine ⟨1 + j, 2 + i, rfl, by omega, ?_⟩
        walk_at "wp"
        have e := List.range'_concat (s := 1) (n := j) (step := 1)
        rw [Nat.one_mul] at e
        refine w_iteD (fun h => ?_) (fun h => ?_)
        · walk_at "wp"
          refine w_newT (K := K) (ds := [.int ((1 + j : Nat) : Int), .int ((2 + i : Nat) : Int)]) (len_ok (by simp)) (.cons (.int _) (dpa_one (.int _))) fun t0 H3 n3 e3 d3 => ?_
          refine hyes _ H3 (pd (1 + j, 2 + i)) (Keep.of e3) rfl d3 ⟨s2.trans e3, ?_⟩
          have hg : Nat.gcd (1 + j) (2 + i) = 1 := by omega
          have eg : List.filter (fun p => decide (Nat.gcd p (2 + i) = 1)) [1 + j] = [1 + j] := by simp [hg]
          dsimp only
          rw [e, List.filter_append, List.map_append, eg]
          rfl
        · refine hno _ (Keep.refl _) ⟨s2, ?_⟩
          have hg : ¬ Nat.gcd (1 + j) (2 + i) = 1 := by omega
          have eg : List.filter (fun p => decide (Nat.gcd p (2 + i) = 1)) [1 + j] = [] := by simp [hg]
          dsimp only
          rw [e, List.filter_append, List.map_append, eg]
          simp
      · rintro p H2 vs es hn k2 hv dl ⟨s2, rfl⟩
        walk_at "wp"
        rw [show ((2 : Int) + (i : Int) - 1).toNat = 2 + i - 1 by omega] at dl
        have hwl := dpa_len dw
        have hvl := dpa_len dl
        have hsz := sizeLine_eq
        have hl1 : (trnL (1 + i)).length ≤ 1000 := trnL_len (by omega)
        have hl2 : (((List.range' 1 (2 + i - 1)).filter fun p => decide (Nat.gcd p (2 + i) = 1)).map fun p : Nat => pd (p, 2 + i)).length ≤ 100 := by
          rw [List.length_map]
          exact Nat.le_trans (List.length_filter_le _ _) (by simp; omega)
        rw [List.length_map] at hwl
        refine w_catA (s2 _ _ fw) hv (dpa_same s2 dw) dl (by omega) fun p3 H3 n3 e3 f3 d3 => ?_
        refine ⟨_, _, p3, _, rfl, (s1.trans s2).trans e3, f3, ?_⟩
        rw [trnL_succ, List.map_append, List.map_map]
        exact d3
    · rintro σ' H' ⟨v, y4, aw, xw, rfl, s1, fw, dw⟩
      walk_at "wp"
      rw [show 1 + ((n : Int) + 1 - 2).toNat = n by omega] at dw
      exact q _ _ s1 (dp_newL fw dw)

/-! ### _law_turn_of -/
def sp__law_turn_of (K : PySem.W.Frag) : Sp := fun vs H Q _ => ∃ (v : V) (ms : List (Nat × Nat)), vs = [v] ∧ FrT H v ∧ Dp K H v (.tuple (ms.map pd)) ∧ (∀ x ∈ ms, Plc x) ∧ ms ≠ [] ∧ ms.length ≤ 100 ∧ ∀ H', Same H H' → Q (.int (toN ms)) H'
theorem ok__law_turn_of (T : Top K mg) : FnOk P w K mg base CX0 2 T.f__law_turn_of T.fd__law_turn_of ["members"] (sp__law_turn_of K) := by
  refine T.F__law_turn_of.ok sc__law_turn_of (fun vs H Q E h => ?_) (fun cdv A outer s H vs Q E hr h => ?_)
  · obtain ⟨v, ms, rfl, _⟩ := h
    rfl
  · obtain ⟨v, ms, rfl, hf, hv, hp, h0, hl, q⟩ := h
    refine ⟨_, (pss_cons (ps_setLc (i := 1) (own := [("x", 4)]) (g := gName 4) (tt := tYes) (by rfl) sc__law_turn_of.nd (by rfl) (by rfl) (sw_true rfl rfl rfl (by decide +kernel)) (pi_tupK (K := K) (pv 0)) (blkOk_by (own := [("x", 4)]) (N := N__law_turn_of) (sc := defScope s__law_turn_of) (by decide +kernel)) (fun _ _ _ _ _ => (pg_name (i := 4) sc__law_turn_of.nd (by rfl) (by first | exact Or.inl rfl | exact Or.inr rfl))) (fun _ _ _ _ _ => pts_nil) (fun _ _ _ _ _ => (pe_ifExp (pt_cmpR (op_inT (K := K) (Room65 hr)) (pe_call (ok__law_double T) (hr.mono (by decide)) (by rfl) T.g__law_double T.F__law_double.kp T.b__law_double .nil pass0 (pa_cons (pv 4) pa_nil)) (pv 0) (by rfl)) (pe_bmF PySem.F.plainAttrs_tuple PySem.F.slot_tuple_index PySem.F.type_tuple_index (mt_tidx (K := K) (Room65 hr)) (pv 0) (pa_cons (pe_call (ok__law_double T) (hr.mono (by decide)) (by rfl) T.g__law_double T.F__law_double.kp T.b__law_double .nil pass0 (pa_cons (pv 4) pa_nil)) pa_nil)) (pe_un un_neg pe_int))))
      (pss_cons (ps_set (i := 2) sc__law_turn_of.nd (by rfl) (by first | exact Or.inl rfl | exact Or.inr rfl) (pe_ix (ix_listK (K := K)) (pv 1) pe_int (fun _ _ => rfl)))
      (pss_cons (ps_for PassesOwn.never (by rfl) (pi_range1 (by rfl) T.z_range (pa_cons (pe_callB (cl_len (K := K)) (by rfl) T.z_len (by decide +kernel) (pa_cons (pv 0) pa_nil)) pa_nil)) (pg_name (i := 3) sc__law_turn_of.nd (by rfl) (by first | exact Or.inl rfl | exact Or.inr rfl)) (pss_one (ps_if (pt_cmpR op_ne (pe_ix (ix_listK (K := K)) (pv 1) (pv 3) (fun _ _ => rfl)) (pe_op op_modD (pe_callTy cl_int (by rfl) T.z_int (by decide +kernel) (pa_cons (pe_op op_add (pv 3) (pv 2)) pa_nil)) (pe_callB (cl_len (K := K)) (by rfl) T.z_len (by decide +kernel) (pa_cons (pv 0) pa_nil))) (nomark _)) (pss_one (ps_ret pe_int)) pss_nil)))
      (pss_one (ps_ret (pv 2)))))), ?_⟩
    rw [show start N__law_turn_of [v] = [some (v), none, none, none, none] from rfl]
    try dsimp only [cxK]
    walk_at "wp"
    refine lc_tup_by (K := K) (JP H fun j es => es = ((ms.take j).map (tpN ms)).map PyData.int) (JP.ok rfl) hv (by rw [List.length_map]; omega) (fun _ => rfl) ?_ ?_
    · rintro j d y H1 es hd hy ⟨s1, rfl⟩ Yes No hyes hno
      rw [List.getElem?_map] at hd
      obtain ⟨x, hx, rfl⟩ := Option.map_eq_some_iff.mp hd
      have px := hp x (List.mem_of_getElem? hx)
      have fin : ∀ H2, Same H1 H2 → Yes (.int (tpN ms x)) H2 := fun H2 e2 => hyes _ H2 (.int (tpN ms x)) (Keep.of e2) rfl (.int _) ⟨s1.trans e2, by
        show _ = _
        rw [List.take_add_one, hx]
        simp⟩
      walk_at "wp"
      refine ⟨y, x, rfl, hy, px.lt, Nat.lt_trans px.small (by decide), fun v2 H2 e2 d2 => ?_⟩
      walk_at "wp"
      refine w_inT d2 (dp_same (s1.trans e2) hv) (pd_pln _) (pln_tuple fun z hz => by obtain ⟨x, _, rfl⟩ := List.mem_map.mp hz; exact pd_pln _) (fun hm => ?_) (fun hm => ?_)
      · have hm := pd_mem.mp hm
        walk_at "wp"
        refine ⟨hf.same (s1.trans e2), ?_⟩
        walk_at "wp"
        refine ⟨y, x, rfl, dp_same e2 hy, px.lt, Nat.lt_trans px.small (by decide), fun v3 H3 e3 d3 => ?_⟩
        walk_at "wp"
        refine w_tidx (dp_same ((s1.trans e2).trans e3) hv) d3 hm ?_
        have := fin H3 (e2.trans e3)
        rw [tpN, if_pos hm] at this
        exact this
      · have hm := fun z => hm (pd_mem.mpr z)
        walk_at "wp"
        have := fin H2 e2
        rw [tpN, if_neg hm] at this
        exact this
    · rintro p H1 us es n1 k1 hus dl ⟨s1, rfl⟩
      rw [List.length_map, List.take_length] at dl
      have hp0 : 0 < ms.length := List.length_pos_iff.mpr h0
      generalize hL : ms.map (tpN ms) = L at dl
      have hLl : L.length = ms.length := by rw [← hL, List.length_map]
      have gd : ∀ i, i < ms.length → L[i]? = some (L.getD i 0) := fun i hi => by
        rw [List.getD_eq_getElem?_getD, List.getElem?_eq_getElem (by omega)]
        rfl
      walk_at "wp"
      refine w_ixL (j := 0) (d := .int (L.getD 0 0)) dl rfl (by rw [List.getElem?_map, gd 0 hp0]; rfl) fun v2 hv2 => ?_
      cases hv2
      walk_at "wp"
      refine forR1_by (fun i σ' H' => ∃ y3 : Option V, σ' = [some v, some (.ref p), some (.int (L.getD 0 0)), y3, none] ∧ H1 = H' ∧ ∀ k, k < i → L.getD k 0 = ((k : Int) + L.getD 0 0) % (ms.length : Int)) (by rw [List.length_map]; omega) ⟨none, rfl, rfl, fun k hk => by omega⟩ ?_ ?_
      · rintro i σ' H' hi ⟨y3, rfl, rfl, ih⟩
        rw [List.length_map] at hi
        walk_at "wp"
        refine w_ixL (j := i) (d := .int (L.getD i 0)) dl rfl (by rw [List.getElem?_map, gd i (by omega)]; rfl) fun v3 hv3 => ?_
        cases hv3
        walk_at "wp"
        rw [List.length_map]
        refine w_iteND (fun h => ?_) (fun h => ?_)
        · walk_at "wp"
          have := q _ s1
          rw [toN, hL, if_neg (by
            intro z
            exact h (of_decide_eq_true (List.all_eq_true.mp z i (List.mem_range.mpr (by omega)))))] at this
          exact this
        · walk_at "wp"
          refine ⟨_, rfl, rfl, fun k hk => ?_⟩
          by_cases z : k = i
          · rw [z]; exact h
          · exact ih k (by omega)
      · rintro σ' H' ⟨y3, rfl, rfl, ih⟩
        rw [List.length_map] at ih
        walk_at "wp"
        have := q _ s1
        rw [toN, hL, if_pos (by
          rw [List.all_eq_true]
          intro k hk
          exact decide_eq_true (ih k (by have := List.mem_range.mp hk; omega)))] at this
        exact this

/-! ### is_place -/
def sp_is_place (K : PySem.W.Frag) : Sp := fun vs H Q _ => ∃ v x, vs = [v] ∧ Dp K H v (pd x) ∧ Plc x ∧ Q (.bl true) H
theorem ok_is_place (T : Top K mg) : FnOk P w K mg base CX0 3 T.f_is_place T.fd_is_place ["value"] (sp_is_place K) := by
  refine T.F_is_place.ok sc_is_place (fun vs H Q E h => ?_) (fun cdv A outer s H vs Q E hr h => ?_)
  · obtain ⟨v, x, rfl, _⟩ := h
    rfl
  · obtain ⟨v, x, rfl, hv, hx, q⟩ := h
    refine ⟨_, (pss_cons (ps_if (PW.pt (pw_or (pt_not (pt_val (pe_callB (cl_isi (K := K)) (by rfl) T.z_isinstance (by decide +kernel) (pa_cons (pv 0) (pa_cons (pe_bltn (v := .ty "tuple") (by rfl) T.z_tuple (by decide +kernel) rfl) pa_nil))))) (pw_or1 (pt_cmpR op_ne (pe_callB (cl_len (K := K)) (by rfl) T.z_len (by decide +kernel) (pa_cons (pv 0) pa_nil)) pe_int (nomark _))))) (pss_one (ps_ret pe_bl)) pss_nil)
      (pss_cons (ps_asg (pv 0) (pg_tupK (K := K) (n := 2) (by rfl) (pgs_cons (pg_name (i := 1) sc_is_place.nd (by rfl) (by first | exact Or.inl rfl | exact Or.inr rfl)) (pgs_cons (pg_name (i := 2) sc_is_place.nd (by rfl) (by first | exact Or.inl rfl | exact Or.inr rfl)) pgs_nil))))
      (pss_cons (ps_if (pt_not (PW.pt (pw_and (pt_val (pe_call (ok_is_whole T) (hr.mono (by decide)) (by rfl) T.g_is_whole T.F_is_whole.kp T.b_is_whole .nil pass0 (pa_cons (pv 1) pa_nil))) (pw_and1 (pt_val (pe_call (ok_is_whole T) (hr.mono (by decide)) (by rfl) T.g_is_whole T.F_is_whole.kp T.b_is_whole .nil pass0 (pa_cons (pv 2) pa_nil))))))) (pss_one (ps_ret pe_bl)) pss_nil)
      (pss_one (ps_ret (pe_and (pe_chain op_le op_lt pe_int (pv 1) (pv 2)) (pe_and (pe_call (ok__is_in_reach T) (hr.mono (by decide)) (by rfl) T.g__is_in_reach T.F__is_in_reach.kp T.b__is_in_reach .nil pass0 (pa_cons (pv 2) pa_nil)) (pe_one (pe_cmpR op_eq (pe_callBfun cr_gcd (by rfl) T.i_gcd (pa_cons (pv 1) (pa_cons (pv 2) pa_nil))) pe_int (nomark _)))))))))), ?_⟩
    rw [show start N_is_place [v] = [some (v), none, none] from rfl]
    try dsimp only [cxK]
    have hlt := hx.lt
    have hc := hx.cop
    walk_at "wp"
    rw [show decide ((([PyData.int (x.1 : Int), PyData.int (x.2 : Int)] : List PyData).length : Int) = 2) = true by rfl]
    walk_at "wp"
    refine ⟨_, rfl, ?_⟩
    walk_at "wp"
    refine ⟨_, rfl, ?_⟩
    walk_at "wp"
    rw [decide_eq_true (show (0 : Int) ≤ (x.1 : Int) by omega)]
    walk_at "wp"
    rw [decide_eq_true (show (x.1 : Int) < (x.2 : Int) by omega)]
    walk_at "wp"
    refine ⟨x, rfl, hx, ?_⟩
    walk_at "wp"
    rw [show Nat.gcd x.1 x.2 = 1 from hc]
    walk_at "wp"
    exact q

/-! ### line_digits -/
def sp_line_digits {K : PySem.W.Frag} {mg : Str → Option Value} (T : Top K mg) : Sp := fun vs H Q E => ∃ p q : Int, vs = [.int p, .int q] ∧ (okT p q → ∀ H', Same H H' → Q (.str (Sg (lnN p.toNat q.toNat))) H') ∧ (¬ okT p q → E (.ref T.c_NotTurn) none H)
theorem ok_line_digits (T : Top K mg) : FnOk P w K mg base (CX P w) 3 T.f_line_digits T.fd_line_digits ["p", "q"] (sp_line_digits T) := by
  refine T.F_line_digits.okX sc_line_digits (fun vs H Q E h => ?_) (fun cdv A outer s H vs Q E hr h => ?_)
  · obtain ⟨p, q, rfl, _⟩ := h
    rfl
  · obtain ⟨p, q, rfl, q1, q2⟩ := h
    refine ⟨_, (pss_cons (ps_expr (pe_call (ok__check_turn T) (hr.mono (by decide)) (by rfl) T.g__check_turn T.F__check_turn.kp T.b__check_turn .nil (passes_call (takes_of rfl rfl rfl rfl) (fun _ _ _ _ h => h)) (pa_cons (pv 0) (pa_cons (pv 1) pa_nil))))
      (PSs.nox (pss_one (ps_ret (pe_joinD (K := K) pe_str (pe_lc (own := [("k", 2)]) (g := gName 2) (tt := tYes) (by rfl) sc_line_digits.nd (pi_range2 (by rfl) T.z_range (pa_cons pe_int (pa_cons (pe_op op_add (pv 1) pe_int) pa_nil))) (blkOk_by (own := [("k", 2)]) (N := N_line_digits) (sc := defScope s_line_digits) (by decide +kernel)) (fun _ _ _ _ _ => (pg_name (i := 2) sc_line_digits.nd (by rfl) (by first | exact Or.inl rfl | exact Or.inr rfl))) (fun _ _ _ _ _ => pts_nil) (fun _ _ _ _ _ => (pe_callTy cl_strI (by rfl) T.z_str (by decide +kernel) (pa_cons (pe_op op_sub (pe_op op_fdivW (pe_op op_mulX (pv 2) (pv 0)) (pv 1)) (pe_op op_fdivW (pe_op op_mulX (pe_op op_sub (pv 2) pe_int) (pv 0)) (pv 1))) pa_nil))))))))), ?_⟩
    rw [show start N_line_digits [.int p, .int q] = [some (.int p), some (.int q), none] from rfl]
    rw [show Str.ofString "" = Sg [] by decide +kernel]
    try dsimp only [cxK]
    walk_at "wp"
    refine ⟨p, q, rfl, fun ht => ?_, fun ht => ?_⟩
    · obtain ⟨a1, a2, a3, a4⟩ := ht
      obtain ⟨P, rfl⟩ := Int.eq_ofNat_of_zero_le (show 0 ≤ p by omega)
      obtain ⟨N, rfl⟩ := Int.eq_ofNat_of_zero_le (show 0 ≤ q by omega)
      walk_at "wp"
      refine lc_rng2_by (K := K) (JP H fun j es => es = (List.range j).map fun k => PyData.str (Sg [lnD P N k])) (JP.ok rfl) (by omega) (fun _ => rfl) ?_ ?_
      · rintro j H1 es hj ⟨s1, rfl⟩ Yes No hyes hno
        walk_at "wp"
        rw [lnD_int (by omega : P < N) j]
        have e0 : ((toString (0 : Int) : String) : Str) = Sg [48] := by decide +kernel
        have e1 : ((toString (1 : Int) : String) : Str) = Sg [49] := by decide +kernel
        have en : ((List.range (j + 1)).map fun k => PyData.str (Sg [lnD P N k])) = ((List.range j).map fun k => PyData.str (Sg [lnD P N k])) ++ [PyData.str (Sg [lnD P N j])] := by
          rw [List.range_succ, List.map_append]
          rfl
        rcases lnD_bit (by omega : P < N) j with z | z
        · rw [z]
          refine w_strI (by decide) ?_
          rw [show ((48 - 48 : Nat) : Int) = 0 from rfl, e0]
          refine hyes _ _ (.str (Sg [48])) (Keep.refl _) rfl (.str _) ⟨s1, ?_⟩
          show _ = _
          rw [en, z]
        · rw [z]
          refine w_strI (by decide) ?_
          rw [show ((49 - 48 : Nat) : Int) = 1 from rfl, e1]
          refine hyes _ _ (.str (Sg [49])) (Keep.refl _) rfl (.str _) ⟨s1, ?_⟩
          show _ = _
          rw [en, z]
      · rintro p5 H5 us es n5 k5 f5 d5 ⟨s5, rfl⟩
        walk_at "wp"
        rw [show ((N : Int) + 1 - 1).toNat = N by omega] at d5
        have ef := flat_one (lnD P N) (List.range N)
        refine w_joinSg (ys := (List.range N).map fun k => [lnD P N k]) (by rw [List.map_map]; exact d5) (by rw [ef]; simp; omega) ?_
        rw [ef]
        exact q1 ⟨a1, a2, a3, a4⟩ _ s5
    · exact q2 ht

/-! ### _law_ways -/
def sp__law_ways (K : PySem.W.Frag) : Sp := fun vs H Q _ => ∃ v x, vs = [v] ∧ Dp K H v (pd x) ∧ Plc x ∧ ∀ v H', Same H H' → Dp K H' v (pd (wayN x, perN x)) → Q v H'
theorem ok__law_ways (T : Top K mg) : FnOk P w K mg base CX0 3 T.f__law_ways T.fd__law_ways ["x"] (sp__law_ways K) := by
  refine T.F__law_ways.ok sc__law_ways (fun vs H Q E h => ?_) (fun cdv A outer s H vs Q E hr h => ?_)
  · obtain ⟨v, x, rfl, _⟩ := h
    rfl
  · obtain ⟨v, x, rfl, hv, hx, q⟩ := h
    refine ⟨_, (pss_cons (ps_set (i := 1) sc__law_ways.nd (by rfl) (by first | exact Or.inl rfl | exact Or.inr rfl) (pe_call (ok__law_orbit T) (hr.mono (by decide)) (by rfl) T.g__law_orbit T.F__law_orbit.kp T.b__law_orbit .nil pass0 (pa_cons (pv 0) pa_nil)))
      (pss_cons (ps_set (i := 2) sc__law_ways.nd (by rfl) (by first | exact Or.inl rfl | exact Or.inr rfl) (pe_bm PySem.F.plainAttrs_list PySem.F.slot_list_index PySem.F.type_list_index (mt_indexK (K := K) (Room65 hr)) (pv 1) (pa_cons (pe_call (ok__law_double T) (hr.mono (by decide)) (by rfl) T.g__law_double T.F__law_double.kp T.b__law_double .nil pass0 (pa_cons (pe_ix (ix_listK (K := K)) (pv 1) (pe_un un_neg pe_int) (fun _ _ => rfl)) pa_nil)) pa_nil)))
      (pss_one (ps_ret (pe_tup (pa_cons (pv 2) (pa_cons (pe_op op_sub (pe_callB (cl_len (K := K)) (by rfl) T.z_len (by decide +kernel) (pa_cons (pv 1) pa_nil)) (pv 2)) pa_nil))))))), ?_⟩
    rw [show start N__law_ways [v] = [some (v), none, none] from rfl]
    try dsimp only [cxK]
    have w := ways hx
    have hle := w.le
    have hn1 := w.n1
    have hlen := orb_len x
    walk_at "wp"
    refine ⟨v, x, rfl, hv, hx, fun v1 H1 e1 d1 _ => ?_⟩
    walk_at "wp"
    refine w_tyLD d1 ?_
    walk_at "wp"
    have hl1 : ((orbN x).map pd).getLast? = some (pd (itN (wayN x + perN x - 1) x)) := by
      rw [List.getLast?_eq_getElem?, List.length_map, hlen, List.getElem?_map, orb_get (by omega)]
      rfl
    refine w_ixLast d1 hl1 fun v2 d2 => ?_
    have pi := it_plc hx (wayN x + perN x - 1)
    have ps := pi.small
    walk_at "wp"
    refine ⟨v2, _, rfl, d2, pi.lt, by omega, fun v3 H3 e3 d3 => ?_⟩
    rw [← itN_succ, show wayN x + perN x - 1 + 1 = wayN x + perN x by omega, w.back] at d3
    walk_at "wp"
    refine w_index (j := wayN x) (dp_same e3 d1) d3 (pd_pln _) (fun z hz => by
      obtain ⟨u, _, rfl⟩ := List.mem_map.mp hz
      exact pd_pln _) (by rw [List.getElem?_map, orb_get (by omega)]; rfl) (fun m hm z => ?_) ?_
    · rw [List.getElem?_map, orb_get (by omega)] at z
      have := pd_inj (Option.some.inj z)
      exact w.ne hm (by omega) this
    · walk_at "wp"
      rw [List.length_map, hlen]
      rw [show (((wayN x + perN x : Nat) : Int) - (wayN x : Int)) = (perN x : Int) by omega]
      refine w_newT (K := K) (len_ok (by simp)) (.cons (.int _) (.cons (.int _) .nil)) fun p5 H5 n5 e5 d5 => ?_
      exact q _ H5 ((e1.trans e3).trans e5) d5

/-! ### check_place -/
def sp_check_place (K : PySem.W.Frag) : Sp := fun vs H Q _ => ∃ v x, vs = [v] ∧ Dp K H v (pd x) ∧ Plc x ∧ Q v H
theorem ok_check_place (T : Top K mg) : FnOk P w K mg base CX0 4 T.f_check_place T.fd_check_place ["value"] (sp_check_place K) := by
  refine T.F_check_place.ok sc_check_place (fun vs H Q E h => ?_) (fun cdv A outer s H vs Q E hr h => ?_)
  · obtain ⟨v, x, rfl, _⟩ := h
    rfl
  · obtain ⟨v, x, rfl, hv, hx, q⟩ := h
    refine ⟨_, (pss_cons (ps_if (pt_not (pt_val (pe_call (ok_is_place T) (hr.mono (by decide)) (by rfl) T.g_is_place T.F_is_place.kp T.b_is_place .nil pass0 (pa_cons (pv 0) pa_nil)))) (pss_one ps_never) pss_nil)
      (pss_one (ps_ret (pv 0)))), ?_⟩
    rw [show start N_check_place [v] = [some (v)] from rfl]
    try dsimp only [cxK]
    walk_at "wp"
    refine ⟨v, x, rfl, hv, hx, ?_⟩
    walk_at "wp"
    exact q

/-! ### _law_all_places -/
def sp__law_all_places (K : PySem.W.Frag) : Sp := fun vs H Q _ => ∃ a n : Nat, vs = [.int a, .int n] ∧ 1 ≤ n ∧ a + n ≤ 10 ∧ ∀ v H', Same H H' → Dp K H' v (.list ((plN a n).map pd)) → Q v H'
theorem ok__law_all_places (T : Top K mg) : FnOk P w K mg base CX0 4 T.f__law_all_places T.fd__law_all_places ["ahead", "again"] (sp__law_all_places K) := by
  refine T.F__law_all_places.ok sc__law_all_places (fun vs H Q E h => ?_) (fun cdv A outer s H vs Q E hr h => ?_)
  · obtain ⟨a, n, rfl, _⟩ := h
    rfl
  · obtain ⟨a, n, rfl, hn1, hle, q⟩ := h
    refine ⟨_, (pss_cons (ps_set (i := 2) sc__law_all_places.nd (by rfl) (by first | exact Or.inl rfl | exact Or.inr rfl) (pe_op op_mulX (pe_call (ok__law_twos T) (hr.mono (by decide)) (by rfl) T.g__law_twos T.F__law_twos.kp T.b__law_twos .nil pass0 (pa_cons (pv 0) pa_nil)) (pe_op op_sub (pe_call (ok__law_twos T) (hr.mono (by decide)) (by rfl) T.g__law_twos T.F__law_twos.kp T.b__law_twos .nil pass0 (pa_cons (pv 1) pa_nil)) pe_int)))
      (pss_cons (ps_setLc (i := 3) (own := [("top", 4)]) (g := gName 4) (tt := tYes) (by rfl) sc__law_all_places.nd (by rfl) (by rfl) (sw_true rfl rfl rfl (by decide +kernel)) (pi_range1 (by rfl) T.z_range (pa_cons (pv 2) pa_nil)) (blkOk_by (own := [("top", 4)]) (N := N__law_all_places) (sc := defScope s__law_all_places) (by decide +kernel)) (fun _ _ _ _ _ => (pg_name (i := 4) sc__law_all_places.nd (by rfl) (by first | exact Or.inl rfl | exact Or.inr rfl))) (fun _ _ _ _ _ => pts_nil) (fun _ _ _ _ _ => (pe_call (ok__law_ratio T) (hr.mono (by decide)) (by rfl) T.g__law_ratio T.F__law_ratio.kp T.b__law_ratio .nil pass0 (pa_cons (pv 4) (pa_cons (pv 2) pa_nil)))))
      (pss_one (ps_ret (pe_lc (own := [("x", 5)]) (g := gName 5) (by rfl) sc__law_all_places.nd (pi_listK (K := K) (pv 3)) (blkOk_by (own := [("x", 5)]) (N := N__law_all_places) (sc := defScope s__law_all_places) (by decide +kernel)) (fun _ _ _ _ _ => (pg_name (i := 5) sc__law_all_places.nd (by rfl) (by first | exact Or.inl rfl | exact Or.inr rfl))) (fun _ _ _ _ _ => (pts_one (pt_cmpR (op_eqK (K := K) hr.units) (pe_call (ok__law_ways T) (hr.mono (by decide)) (by rfl) T.g__law_ways T.F__law_ways.kp T.b__law_ways .nil pass0 (pa_cons (pv 5) pa_nil)) (pe_tup (pa_cons (pv 0) (pa_cons (pv 1) pa_nil))) (nomark _)))) (fun _ _ _ _ _ => (pv 5))))))), ?_⟩
    rw [show start N__law_all_places [.int a, .int n] = [some (.int a), some (.int n), none, none, none, none] from rfl]
    try dsimp only [cxK]
    walk_at "wp"
    refine ⟨a, rfl, by omega, ?_⟩
    walk_at "wp"
    refine ⟨n, rfl, by omega, ?_⟩
    walk_at "wp"
    have hp := two_pow_pos n
    have hp2 := two_pow_pos a
    have hbt := bt_pos (a := a) hn1
    have hbl := bt_le hle
    have hb2 : 2 ^ n ≤ 2 ^ 10 := Nat.pow_le_pow_right (by decide) (by omega)
    have hb3 : 2 ^ a ≤ 2 ^ 10 := Nat.pow_le_pow_right (by decide) (by omega)
    refine w_rI (mulS ⟨by omega, by omega⟩ ⟨by omega, by omega⟩) ?_
    have e3 : ((2 ^ a : Nat) : Int) * (((2 ^ n : Nat) : Int) - 1) = ((bt a n : Nat) : Int) := by
      unfold bt
      rw [Int.natCast_mul, Int.natCast_sub (by omega)]
      rfl
    rw [e3]
    walk_at "wp"
    refine lc_rng1_by (K := K) (JP H fun i es => es = ((List.range i).map fun t => red t (bt a n)).map pd) (JP.ok rfl) (by omega) (fun _ => rfl) ?_ ?_
    · rintro i H1 es hi ⟨s1, rfl⟩ Yes No hyes hno
      walk_at "wp"
      refine ⟨i, bt a n, rfl, hbt, by omega, fun v2 H2 e2 d2 => ?_⟩
      refine hyes _ H2 (pd (red i (bt a n))) (Keep.of e2) rfl d2 ⟨s1.trans e2, ?_⟩
      show _ = _
      rw [List.range_succ, List.map_append, List.map_append]
      rfl
    · rintro p H1 ws es hn1' k1 hv1 dl ⟨s1, rfl⟩
      rw [Int.toNat_natCast] at dl
      walk_at "wp"
      refine lc_list_by (K := K) (JP H1 fun i es => es = (((((List.range (bt a n)).map fun t => red t (bt a n)).take i).filter fun x => wayN x == a && perN x == n)).map pd) (JP.ok rfl) dl (by rw [List.length_map, List.length_map, List.length_range]; omega) (fun _ => rfl) ?_ ?_
      · intro i d y H2 es hd hy hJ Yes No hyes hno
        obtain ⟨s2, rfl⟩ := hJ
        rw [List.getElem?_map] at hd
        obtain ⟨z, hz, rfl⟩ := Option.map_eq_some_iff.mp hd
        have pz : Plc z := by
          obtain ⟨t, ht, rfl⟩ := List.mem_map.mp (List.mem_of_getElem? hz)
          exact bt_plc hn1 (by omega) (List.mem_range.mp ht)
        have htk : ((List.range (bt a n)).map fun t => red t (bt a n)).take (i + 1) = ((List.range (bt a n)).map fun t => red t (bt a n)).take i ++ [z] := by rw [List.take_add_one, hz]; rfl
        walk_at "wp"
        refine ⟨y, z, rfl, hy, pz, fun v3 H3 e3 d3 => ?_⟩
        walk_at "wp"
        refine w_newT (K := K) (ds := [.int (a : Int), .int (n : Int)]) (len_ok (by simp)) (.cons (.int _) (dpa_one (.int _))) fun p4 H4 n4 e4 d4 => ?_
        refine w_eqP (dp_same e4 d3) d4 (pd_pln _) rfl (fun hw => ?_) (fun hw => ?_)
        · have hw2 : (wayN z, perN z) = (a, n) := pd_inj hw
          walk_at "wp"
          refine hyes _ H4 (pd z) (Keep.of (e3.trans e4)) rfl (dp_same (e3.trans e4) hy) ⟨s2.trans (e3.trans e4), ?_⟩
          show _ = _
          have : (wayN z == a && perN z == n) = true := by rw [Bool.and_eq_true, beq_iff_eq, beq_iff_eq]; exact ⟨congrArg Prod.fst hw2, congrArg Prod.snd hw2⟩
          rw [htk, List.filter_append, List.filter_cons, if_pos this, List.map_append]
          rfl
        · walk_at "wp"
          refine hno _ (Keep.of (e3.trans e4)) ⟨s2.trans (e3.trans e4), ?_⟩
          show _ = _
          have : ¬ (wayN z == a && perN z == n) = true := fun h => by
            rw [Bool.and_eq_true, beq_iff_eq, beq_iff_eq] at h
            exact hw (by rw [h.1, h.2]; rfl)
          rw [htk, List.filter_append, List.filter_cons, if_neg this]
          simp
      · rintro p2 H2 ws2 es hn2 k2 hv2 dl2 ⟨s2, rfl⟩
        rw [List.length_map, List.take_length] at dl2
        walk_at "wp"
        exact q _ H2 (s1.trans s2) dl2

/-! ### place -/
def sp_place (K : PySem.W.Frag) : Sp := fun vs H Q _ => ∃ p q : Nat, vs = [.int p, .int q] ∧ 0 < q ∧ q ∣ CN ∧ p < 2 ^ 100 ∧ Plc (red (p % q) q) ∧ ∀ v H', Same H H' → Dp K H' v (pd (red (p % q) q)) → Q v H'
theorem ok_place (T : Top K mg) : FnOk P w K mg base CX0 5 T.f_place T.fd_place ["top", "bottom"] (sp_place K) := by
  refine T.F_place.ok sc_place (fun vs H Q E h => ?_) (fun cdv A outer s H vs Q E hr h => ?_)
  · obtain ⟨p, q, rfl, _⟩ := h
    rfl
  · obtain ⟨p, q, rfl, h0, h1, h2, hx, q1⟩ := h
    refine ⟨_, (pss_cons (ps_asg (pe_callB cl_divmod (by rfl) T.z_divmod (by decide +kernel) (pa_cons (pe_op op_mulX (pv 0) (pe_cint (by rfl) T.c_COMMON)) (pa_cons (pv 1) pa_nil))) (pg_tupK (K := K) (n := 2) (by rfl) (pgs_cons (pg_name (i := 2) sc_place.nd (by rfl) (by first | exact Or.inl rfl | exact Or.inr rfl)) (pgs_cons (pg_name (i := 3) sc_place.nd (by rfl) (by first | exact Or.inl rfl | exact Or.inr rfl)) pgs_nil))))
      (pss_cons (ps_if (pt_cmpR op_ne (pv 3) pe_int (nomark _)) (pss_one ps_never) pss_nil)
      (pss_one (ps_ret (pe_call (ok_check_place T) (hr.mono (by decide)) (by rfl) T.g_check_place T.F_check_place.kp T.b_check_place .nil pass0 (pa_cons (pe_call (ok_reduced T) (hr.mono (by decide)) (by rfl) T.g_reduced T.F_reduced.kp T.b_reduced .nil pass0 (pa_cons (pe_op op_modD (pv 2) (pe_cint (by rfl) T.c_COMMON)) (pa_cons (pe_cint (by rfl) T.c_COMMON) pa_nil))) pa_nil)))))), ?_⟩
    rw [show start N_place [.int (p : Int), .int (q : Int)] = [some (.int (p : Int)), some (.int (q : Int)), none, none] from rfl]
    try dsimp only [cxK]
    have hC := CN_lt
    have hC0 := CN_pos
    have hqC := Nat.le_of_dvd hC0 h1
    walk_at "wp"
    have e0 : ((p : Int) * ((CN : Nat) : Int)) = ((p * CN : Nat) : Int) := by push_cast; rfl
    rw [e0]
    have hbig : p * CN < 2 ^ 350 := by
      calc p * CN < 2 ^ 100 * 2 ^ 250 := Nat.mul_lt_mul'' h2 hC
        _ = 2 ^ 350 := by rw [← Nat.pow_add]
    have hdiv : CDivP ((p * CN : Nat) : Int) (q : Int) := by
      refine divp_ok (by omega) ?_
      rcases Nat.eq_zero_or_pos (p * CN) with z | z
      · rw [z]
        exact Nat.le_trans (show Builtin.Int.intBits ((0 : Nat) : Int) ≤ 0 by decide) (Nat.zero_le _)
      · have := bits_le z hbig
        omega
    refine w_divmod (K := K) hdiv fun p3 H1 e1 d1 => ?_
    obtain ⟨c, hc⟩ := h1
    have r0 : ((p * CN : Nat) : Int) % (q : Int) = 0 := by
      rw [← Int.natCast_emod, hc, Nat.mul_left_comm, Nat.mul_mod_right]
      rfl
    have r1 : ((p * CN : Nat) : Int) / (q : Int) = ((p * c : Nat) : Int) := by
      rw [← Int.natCast_ediv, hc, Nat.mul_left_comm, Nat.mul_div_cancel_left _ h0]
    rw [r0, r1] at d1
    refine w_gTup2 d1 fun v1 v2 dv1 dv2 => ?_
    cases dv1
    cases dv2
    walk_at "wp"
    refine w_iteND (fun h => absurd rfl h) (fun _ => ?_)
    walk_at "wp"
    have e3 : ((p * c : Nat) : Int) % ((CN : Nat) : Int) = ((p * c % CN : Nat) : Int) := by rw [Int.natCast_emod]
    rw [e3]
    refine ⟨p * c % CN, CN, rfl, hC0, hC, fun v2 H2 e2 d2 => ?_⟩
    have er : red (p * c % CN) CN = red (p % q) q := by
      refine red_eq hC0 h0 ?_
      rw [hc, Nat.mul_mod_mul_right, Nat.mul_assoc, Nat.mul_comm c q]
    rw [er] at d2
    walk_at "wp"
    refine ⟨v2, _, rfl, d2, hx, ?_⟩
    exact q1 v2 H2 (e1.trans e2) d2

/-! ### _law_rounds -/
def sp__law_rounds (K : PySem.W.Frag) : Sp := fun vs H Q _ => ∃ n : Nat, vs = [.int (n : Int)] ∧ 2 ≤ n ∧ n ≤ 7 ∧ ∀ v H', Same H H' → Dp K H' v (.list ((rdsN n).map fun r => .list (r.map pd))) → Q v H'
theorem ok__law_rounds (T : Top K mg) : FnOk P w K mg base CX0 5 T.f__law_rounds T.fd__law_rounds ["again"] (sp__law_rounds K) := by
  refine T.F__law_rounds.ok sc__law_rounds (fun vs H Q E h => ?_) (fun cdv A outer s H vs Q E hr h => ?_)
  · obtain ⟨n, rfl, _⟩ := h
    rfl
  · obtain ⟨n, rfl, h1, h2, q⟩ := h
    refine ⟨_, (pss_cons (ps_par (i := 1) (j := 2) (by rfl) sc__law_rounds.nd (by rfl) (by rfl) (by decide) (by rfl) (by rfl) (pa_cons (pe_lst pa_nil) (pa_cons (pe_lst pa_nil) pa_nil)) (by rfl))
      (pss_cons (ps_for PassesOwn.never (by rfl) (pi_listK (K := K) (pe_call (ok__law_sorted T) (hr.mono (by decide)) (by rfl) T.g__law_sorted T.F__law_sorted.kp T.b__law_sorted .nil pass0 (pa_cons (pe_call (ok__law_all_places T) (hr.mono (by decide)) (by rfl) T.g__law_all_places T.F__law_all_places.kp T.b__law_all_places .nil pass0 (pa_cons pe_int (pa_cons (pv 0) pa_nil))) pa_nil))) (pg_name (i := 3) sc__law_rounds.nd (by rfl) (by first | exact Or.inl rfl | exact Or.inr rfl)) (pss_one (ps_if (pt_cmpR (op_notInDK (K := K) (Room65 hr)) (pv 3) (pv 1) (by rfl)) (pss_cons (ps_set (i := 4) sc__law_rounds.nd (by rfl) (by first | exact Or.inl rfl | exact Or.inr rfl) (pe_call (ok__law_orbit T) (hr.mono (by decide)) (by rfl) T.g__law_orbit T.F__law_orbit.kp T.b__law_orbit .nil pass0 (pa_cons (pv 3) pa_nil)))
      (pss_cons (ps_set (i := 1) sc__law_rounds.nd (by rfl) (by first | exact Or.inl rfl | exact Or.inr rfl) (pe_op op_catL (pv 1) (pv 4)))
      (pss_one (ps_expr (pe_bm PySem.F.plainAttrs_list PySem.F.slot_list_append PySem.F.type_list_append mt_append (pv 2) (pa_cons (pv 4) pa_nil)))))) pss_nil)))
      (pss_one (ps_ret (pv 2))))), ?_⟩
    rw [show start N__law_rounds [.int (n : Int)] = [some (.int (n : Int)), none, none, none, none] from rfl]
    try dsimp only [cxK]
    obtain ⟨asc, _⟩ := rds_ok h1 h2
    have pc : ∀ x ∈ plN 0 n, Plc x := pl_plc (by omega) (by omega)
    have pl : (plN 0 n).length ≤ 1000 := by
      refine Nat.le_trans (List.length_filter_le _ _) ?_
      rw [List.length_map, List.length_range]
      have h7 : 2 ^ n ≤ 2 ^ 7 := Nat.pow_le_pow_right (by decide) h2
      unfold bt
      rw [Nat.pow_zero, Nat.one_mul]
      omega
    walk_at "wp"
    refine w_newL (K := K) (len_ok (by simp)) .nil fun ps H1 n1 e1 f1 d1 => ?_
    walk_at "wp"
    refine w_newL (K := K) (len_ok (by simp)) .nil fun pf H2 n2 e2 f2 d2 => ?_
    walk_at "wp"
    refine ⟨0, n, rfl, by omega, by omega, fun v3 H3 e3 d3 => ?_⟩
    walk_at "wp"
    refine ⟨v3, plN 0 n, rfl, d3, pc, pl, fun ys v4 H4 hpw hmem e4 d4 => ?_⟩
    obtain rfl := asc_unique hpw asc hmem
    walk_at "wp"
    have pne : ps ≠ pf := fun z => by rw [z, n2] at f1; cases f1
    obtain ⟨sa, sx, sev, sq, sd⟩ := dp_lst d4
    subst sev
    have sl := dpa_len sd
    have spos : 0 < (plN 0 n).length := by
      have := rds_pos h1 h2
      omega
    have src : SrcL K H4 pf sa sx := SrcL.of sq (e4 _ _ (e3 _ _ f2)) fun z => by rw [z] at sl; simp at sl; omega
    refine forL_byA (fun i σ' H' => ∃ (y3 y4 : Option V) (pe : Addr) (xs xf : List V), σ' = [some (.int (n : Int)), some (.ref pe), some (.ref pf), y3, y4] ∧ Same H1 H' ∧ pe ≠ pf ∧ H' pe = some (.lst xs) ∧ DpAll K H' xs ((rdsF ((plN 0 n).take i) ([], [])).1.map pd) ∧ H' pf = some (.lst xf) ∧ RowsA K H' pf xf (rdsF ((plN 0 n).take i) ([], [])).2 ∧ SrcL K H' pf sa sx ∧ DpAll K H' sx ((plN 0 n).map pd))
      sq sl ⟨none, none, ps, [], [], rfl, (e2.trans e3).trans e4, pne, e4 _ _ (e3 _ _ (e2 _ _ f1)), .nil, e4 _ _ (e3 _ _ f2), .nil, src, sd⟩ (fun i σ' H' _ ⟨_, _, _, _, _, _, _, _, _, _, _, _, z1, z2⟩ => ⟨z1.sq, z2⟩) ?_ ?_
    · rintro i d y σ' H5 hd hy ⟨y3, y4, pe, xs, xf, rfl, s5, ne5, fe5, de5, ff5, rf5, k5, kd5⟩
      rw [List.getElem?_map] at hd
      obtain ⟨x, hx, rfl⟩ := Option.map_eq_some_iff.mp hd
      have px := pc x (List.mem_of_getElem? hx)
      have et : (plN 0 n).take (i + 1) = (plN 0 n).take i ++ [x] := by rw [List.take_add_one, hx]; rfl
      obtain ⟨b1, b2⟩ := rdsF_len ((plN 0 n).take i) (fun z hz => pc z (List.mem_of_mem_take hz)) ([], [])
      have btk : ((plN 0 n).take i).length ≤ 1000 := Nat.le_trans (List.length_take_le' _ _) pl
      simp only [List.length_nil, Nat.zero_add] at b1 b2
      have hxl := dpa_len de5
      rw [List.length_map] at hxl
      have hfl := rf5.len
      have hsz := sizeLine_eq
      walk_at "wp"
      refine w_notInP hy (dp_newL fe5 de5) (pd_pln _) (fun z hz => by obtain ⟨u, _, rfl⟩ := List.mem_map.mp hz; exact pd_pln _) (fun hm => ?_) (fun hm => ?_)
      · have hm := pd_mem.mp hm
        walk_at "wp"
        refine ⟨_, _, pe, xs, xf, rfl, s5, ne5, fe5, ?_, ff5, ?_, k5, kd5⟩
        · rw [et, rdsF_snoc, if_pos hm]; exact de5
        · rw [et, rdsF_snoc, if_pos hm]; exact rf5
      · have hm := fun z => hm (pd_mem.mpr z)
        walk_at "wp"
        refine ⟨y, x, rfl, hy, px, fun v6 H6 e6 d6 ⟨q6, zs, ev, n6, f6, da6⟩ => ?_⟩
        subst ev
        have nq : q6 ≠ pf := fun z => by rw [z, ff5] at n6; cases n6
        have lo : zs.length ≤ 24 := by
          rw [dpa_len da6, List.length_map, orb_len]
          have := (ways px).le
          omega
        walk_at "wp"
        refine w_catA (e6 _ _ fe5) f6 (dpa_same e6 de5) da6 (by omega) fun p7 H7 n7 e7 f7 d7 => ?_
        have ff7 : H7 pf = some (.lst xf) := e7 _ _ (e6 _ _ ff5)
        have ne7 : p7 ≠ pf := fun z => by rw [z] at n7; rw [e6 _ _ ff5] at n7; cases n7
        walk_at "wp"
        refine w_tyL ff7 ?_
        walk_at "wp"
        refine w_append ff7 (by omega) ?_
        walk_at "wp"
        refine ⟨_, _, p7, _, _, rfl, same_mut ((s5.trans e6).trans e7) n2, ne7, by rw [upd_ne ne7]; exact f7, ?_, upd_same, ?_, (k5.same (e6.trans e7)).upd, dpa_upd ff7 _ _ (noLs_pds _) (dpa_same (e6.trans e7) kd5)⟩
        · rw [et, rdsF_snoc, if_neg hm, List.map_append]
          exact dpa_upd ff7 _ _ (by rw [← List.map_append]; exact noLs_pds _) d7
        · rw [et, rdsF_snoc, if_neg hm]
          exact ((rf5.same (e6.trans e7)).upd ff7).snoc nq (by rw [upd_ne nq]; exact e7 _ _ f6) (dpa_upd ff7 _ _ (noLs_pds _) (dpa_same e7 da6))
    · rintro σ' H5 ⟨y3, y4, pe, xs, xf, rfl, s5, ne5, fe5, de5, ff5, rf5, k5, kd5⟩
      walk_at "wp"
      rw [List.length_map, List.take_length] at rf5
      exact q _ _ (e1.trans s5) (dp_newL ff5 rf5.dpa)

/-! ### place_of -/
def sp_place_of (K : PySem.W.Frag) : Sp := fun vs H Q _ => ∃ h t : List Nat, vs = [.str (Sg h), .str (Sg t)] ∧ Dg h ∧ Dg t ∧ t ≠ [] ∧ h.length + t.length ≤ 24 ∧ ∀ v H', Same H H' → Dp K H' v (pd (binN h t)) → Q v H'
theorem ok_place_of (T : Top K mg) : FnOk P w K mg base CX0 6 T.f_place_of T.fd_place_of ["head", "cycle"] (sp_place_of K) := by
  refine T.F_place_of.ok sc_place_of (fun vs H Q E h => ?_) (fun cdv A outer s H vs Q E hr h => ?_)
  · obtain ⟨h, t, rfl, _⟩ := h
    rfl
  · obtain ⟨h, t, rfl, dh, dt, ht, hl, q⟩ := h
    refine ⟨_, (pss_cons (ps_set (i := 2) sc_place_of.nd (by rfl) (by first | exact Or.inl rfl | exact Or.inr rfl) (pe_op op_sub (pe_op op_shl pe_int (pe_callB (cl_len (K := K)) (by rfl) T.z_len (by decide +kernel) (pa_cons (pv 1) pa_nil))) pe_int))
      (pss_cons (ps_set (i := 3) sc_place_of.nd (by rfl) (by first | exact Or.inl rfl | exact Or.inr rfl) (pe_op op_add (pe_op op_mulX (pe_call (ok__number T) (hr.mono (by decide)) (by rfl) T.g__number T.F__number.kp T.b__number .nil pass0 (pa_cons (pv 0) pa_nil)) (pv 2)) (pe_call (ok__number T) (hr.mono (by decide)) (by rfl) T.g__number T.F__number.kp T.b__number .nil pass0 (pa_cons (pv 1) pa_nil))))
      (pss_one (ps_ret (pe_call (ok_place T) (hr.mono (by decide)) (by rfl) T.g_place T.F_place.kp T.b_place .nil pass0 (pa_cons (pv 3) (pa_cons (pe_op op_shl (pv 2) (pe_callB (cl_len (K := K)) (by rfl) T.z_len (by decide +kernel) (pa_cons (pv 0) pa_nil))) pa_nil))))))), ?_⟩
    rw [show start N_place_of [.str (Sg h), .str (Sg t)] = [some (.str (Sg h)), some (.str (Sg t)), none, none] from rfl]
    try dsimp only [cxK]
    have hp : 0 < t.length := List.length_pos_iff.mpr ht
    have hx := bin_plc ht hl
    have b1 := bv_lt h dh
    have b2 := bv_lt t dt
    have p1 : 2 ^ h.length ≤ 2 ^ 24 := Nat.pow_le_pow_right (by decide) (by omega)
    have p2 : 2 ^ t.length ≤ 2 ^ 24 := Nat.pow_le_pow_right (by decide) (by omega)
    have p3 := two_pow_pos t.length
    have hB := botN_pos (h := h) ht
    walk_at "wp"
    refine w_rI ⟨by omega, by omega, by decide⟩ ?_
    walk_at "wp"
    have e1 : ((1 : Int) * 2 ^ ((t.length : Int)).toNat - 1) = ((2 ^ t.length - 1 : Nat) : Int) := by
      rw [Int.toNat_natCast, Int.one_mul]
      have : ((2 ^ t.length : Nat) : Int) = (2 : Int) ^ t.length := by push_cast; rfl
      rw [← this]
      omega
    rw [e1]
    refine ⟨h, rfl, dh, by omega, ?_⟩
    walk_at "wp"
    refine ⟨t, rfl, dt, by omega, ?_⟩
    walk_at "wp"
    refine w_rI ⟨by omega, by omega, by omega⟩ ?_
    walk_at "wp"
    have e2 : (((2 ^ t.length - 1 : Nat) : Int) * 2 ^ ((h.length : Int)).toNat) = ((botN h t : Nat) : Int) := by
      rw [Int.toNat_natCast]
      unfold botN
      rw [Nat.mul_comm]
      push_cast
      rfl
    have e3 : ((bv h : Int) * ((2 ^ t.length - 1 : Nat) : Int) + (bv t : Int)) = ((bv h * (2 ^ t.length - 1) + bv t : Nat) : Int) := by push_cast; rfl
    rw [e2, e3]
    refine ⟨_, _, rfl, hB, ?_, ?_, hx, fun v1 H1 s1 d1 => ?_⟩
    · exact CN_dvd (by omega) hl
    · have : bv h * (2 ^ t.length - 1) ≤ 2 ^ 24 * 2 ^ 24 := Nat.mul_le_mul (by omega) (by omega)
      omega
    · exact q v1 H1 s1 d1

/-! ### turning_set -/
def sp_turning_set {K : PySem.W.Frag} {mg : Str → Option Value} (T : Top K mg) : Sp := fun vs H Q E => ∃ p q : Int, vs = [.int p, .int q] ∧ (okT p q → ∀ v H', Same H H' → FrT H' v → Dp K H' v (.tuple ((tsN p.toNat q.toNat).map pd)) → Q v H') ∧ (¬ okT p q → E (.ref T.c_NotTurn) none H)
theorem ok_turning_set (T : Top K mg) : FnOk P w K mg base (CX P w) 7 T.f_turning_set T.fd_turning_set ["p", "q"] (sp_turning_set T) := by
  refine T.F_turning_set.okX sc_turning_set (fun vs H Q E h => ?_) (fun cdv A outer s H vs Q E hr h => ?_)
  · obtain ⟨p, q, rfl, _⟩ := h
    rfl
  · obtain ⟨p, q, rfl, q1, q2⟩ := h
    refine ⟨_, (pss_cons (ps_set (i := 2) sc_turning_set.nd (by rfl) (by first | exact Or.inl rfl | exact Or.inr rfl) (pe_call (ok_line_digits T) (hr.mono (by decide)) (by rfl) T.g_line_digits T.F_line_digits.kp T.b_line_digits .nil (passes_call (takes_of rfl rfl rfl rfl) (fun _ _ _ _ h => h)) (pa_cons (pv 0) (pa_cons (pv 1) pa_nil))))
      (PSs.nox (pss_cons (ps_setLc (i := 3) (own := [("k", 4)]) (g := gName 4) (tt := tYes) (by rfl) sc_turning_set.nd (by rfl) (by rfl) (sw_true rfl rfl rfl (by decide +kernel)) (pi_range1 (by rfl) T.z_range (pa_cons (pv 1) pa_nil)) (blkOk_by (own := [("k", 4)]) (N := N_turning_set) (sc := defScope s_turning_set) (by decide +kernel)) (fun _ _ _ _ _ => (pg_name (i := 4) sc_turning_set.nd (by rfl) (by first | exact Or.inl rfl | exact Or.inr rfl))) (fun _ _ _ _ _ => pts_nil) (fun _ _ _ _ _ => (pe_call (ok_place_of T) (hr.mono (by decide)) (by rfl) T.g_place_of T.F_place_of.kp T.b_place_of .nil pass0 (pa_cons pe_str (pa_cons (pe_op op_addS (pe_slice sl_str (pv 2) (po_some (pv 4)) po_none) (pe_slice sl_str (pv 2) po_none (po_some (pv 4)))) pa_nil)))))
      (pss_one (ps_ret (pe_callTy (cl_tupF (K := K)) (by rfl) T.z_tuple (by decide +kernel) (pa_cons (pe_callBK (cr_sortF (K := K) (ok_size T) (hr.mono (by decide)) T.b_size) (by rfl) T.z_sorted (by decide +kernel) (pa_cons (pv 3) pa_nil) (pk_cons (pe_fn (by rfl) T.g_size) pk_nil)) pa_nil))))))), ?_⟩
    rw [show start N_turning_set [.int p, .int q] = [some (.int p), some (.int q), none, none, none] from rfl]
    rw [show Str.ofString "" = Sg [] by decide +kernel]
    try dsimp only [cxK]
    walk_at "wp"
    refine ⟨p, q, rfl, fun ht H1 e1 => ?_, fun ht => ?_⟩
    · obtain ⟨a1, a2, a3, a4⟩ := id ht
      obtain ⟨P, rfl⟩ := Int.eq_ofNat_of_zero_le (show 0 ≤ p by omega)
      obtain ⟨N, rfl⟩ := Int.eq_ofNat_of_zero_le (show 0 ≤ q by omega)
      rw [Int.toNat_natCast, Int.toNat_natCast]
      walk_at "wp"
      refine lc_rng1_by (K := K) (JP H1 fun j es => es = (List.range j).map fun k => pd (binN [] (rotL (lnN P N) k))) (JP.ok rfl) (by omega) (fun _ => rfl) ?_ ?_
      · rintro j H2 es hj ⟨s1, rfl⟩ Yes No hyes hno
        have hll : (lnN P N).length = N := lnN_len P N
        walk_at "wp"
        refine w_slSg (by omega) ?_
        rw [cutD_from _ (by omega), Int.toNat_natCast]
        walk_at "wp"
        refine w_slSg (by omega) ?_
        rw [cutD_to _ (by omega), Int.toNat_natCast]
        walk_at "wp"
        refine w_addSg (by simp; omega) ?_
        have hrl : (rotL (lnN P N) j).length = N := by rw [rotL_len (by omega), hll]
        walk_at "wp"
        refine ⟨[], rotL (lnN P N) j, rfl, fun c hc => by simp at hc, fun c hc => lnN_dg (by omega) c (rotL_mem hc), fun z => by rw [z] at hrl; simp at hrl; omega, by simp [hrl]; omega, fun v H3 e3 d3 => ?_⟩
        refine hyes _ H3 _ (Keep.of e3) rfl d3 ⟨s1.trans e3, ?_⟩
        show _ = _
        rw [List.range_succ, List.map_append]
        rfl
      · rintro p5 H5 us es n5 k5 f5 d5 ⟨s5, rfl⟩
        walk_at "wp"
        rw [Int.toNat_natCast] at d5
        refine ⟨p5, _, keyP, rfl, rfl, d5, fun e he y hy => ?_, fun es' p6 H6 hp ho n6 e6 d6 => ?_⟩
        · obtain ⟨k, hk, rfl⟩ := List.mem_map.mp he
          have hk := List.mem_range.mp hk
          have hrl : (rotL (lnN P N) k).length = N := by rw [rotL_len (by rw [lnN_len]; omega), lnN_len]
          exact ⟨y, _, rfl, hy, bin_plc (fun z => by rw [z] at hrl; simp at hrl; omega) (by simp [hrl]; omega), by rw [keyP_pd], rfl⟩
        · have es := ts_sorted (p := P) (q := N) (es := es') (by omega) (by omega) (by omega) (by simpa using a4) (by rw [List.map_map]; exact hp) ho
          rw [es] at d6
          walk_at "wp"
          refine w_tupF d6 fun v7 H7 e7 f7 d7 => ?_
          have := q1 ht v7 H7 (((e1.trans s5).trans e6).trans e7) f7
          rw [Int.toNat_natCast, Int.toNat_natCast] at this
          exact this d7
    · exact q2 ht

/-! ### _law_refused -/
def sp__law_refused (K : PySem.W.Frag) : Sp := fun vs H Q _ => ∃ p q : Int, vs = [.int p, .int q] ∧ (okT p q → ∀ H', Same H H' → Q (.bl false) H') ∧ (¬ okT p q → ∀ H', Same H H' → Q (.bl true) H')
theorem ok__law_refused (T : Top K mg) : FnOk P w K mg base CX0 8 T.f__law_refused T.fd__law_refused ["p", "q"] (sp__law_refused K) := by
  refine T.F__law_refused.ok sc__law_refused (fun vs H Q E h => ?_) (fun cdv A outer s H vs Q E hr h => ?_)
  · obtain ⟨p, q, rfl, _⟩ := h
    rfl
  · obtain ⟨p, q, rfl, q1, q2⟩ := h
    refine ⟨_, (pss_cons (ps_try_only rfl rfl ⟨rfl, by decide, .inl T.gc_NotTurn⟩ L2.takes0 (fun W pn xe tk _ => (pss_one (ps_expr (pe_callS (ok_turning_set T) (hr.mono (by decide)) (by rfl) T.g_turning_set T.F_turning_set.kp T.b_turning_set (fun σ => passAt tk σ) (pa_cons (pv 0) (pa_cons (pv 1) pa_nil)))))) (fun a oe cls d pn hz hf => (pss_one (ps_ret pe_bl))))
      (pss_one (ps_ret pe_bl))), ?_⟩
    rw [show start N__law_refused [.int p, .int q] = [some (.int p), some (.int q)] from rfl]
    try dsimp only [cxK]
    walk_at "wp"
    refine ⟨p, q, rfl, fun ht v H1 e1 _ d1 => ?_, fun ht => ?_⟩
    · walk_at "wp"
      exact q1 ht _ e1
    · refine ⟨true, T.e_NotTurn_NotTurn, fun _ a ha => ?_, fun z => absurd z (by decide)⟩
      walk_at "wp"
      exact q2 ht _ (Same.refl _)

/-! ### law -/
def sp_law (K : PySem.W.Frag) : Sp := fun vs H Q _ => ∃ (a : Addr) (ns : List Int), vs = [.ref a] ∧ SqL K H a (ns.map V.int) ∧ ns.length ≤ 63 ∧ (∀ z ∈ ns, Builtin.Int.intBits z ≤ 1048576) ∧ ∀ H', Q (.bl true) H'
theorem ok_law (T : Top K mg) : FnG P w K mg base CX0 9 T.f_law T.fd_law ["script"] (sp_law K) := by
  refine FnG.of T.F_law sc_law (fun vs H Q E h => ?_) (fun cdv A outer s H vs Q E hgd hr h => ?_)
  · obtain ⟨a, ns, rfl, _⟩ := h
    rfl
  · obtain ⟨a, ns, rfl, hS, hl, hB, q⟩ := h
    refine ⟨_, (pss_cons (ps_for PassesOwn.never (by rfl) (pi_range1 (by rfl) T.z_range (pa_cons (pe_callB (cl_max2 (by rfl)) (by rfl) T.z_max (by decide +kernel) (pa_cons pe_int (pa_cons (pe_callB (cl_min2 (by rfl)) (by rfl) T.z_min (by decide +kernel) (pa_cons pe_int (pa_cons (pe_callB (cl_len (K := K)) (by rfl) T.z_len (by decide +kernel) (pa_cons (pv 0) pa_nil)) pa_nil))) pa_nil))) pa_nil)) (pg_name (i := 1) sc_law.nd (by rfl) (by first | exact Or.inl rfl | exact Or.inr rfl)) (pss_cons (ps_set (i := 2) sc_law.nd (by rfl) (by first | exact Or.inl rfl | exact Or.inr rfl) (pe_call (ok__law_begun T) (hr.mono (by decide)) (by rfl) T.g__law_begun T.F__law_begun.kp T.b__law_begun .nil pass0 (pa_cons (pv 0) (pa_cons (pv 1) pa_nil))))
      (pss_cons (ps_set (i := 3) sc_law.nd (by rfl) (by first | exact Or.inl rfl | exact Or.inr rfl) (pe_op op_add pe_int (pe_call (ok__law_draw T) (hr.mono (by decide)) (by rfl) T.g__law_draw T.F__law_draw.kp T.b__law_draw .nil pass0 (pa_cons (pv 2) (pa_cons (pe_ifExp (pt_cmpR op_eq (pv 1) pe_int (nomark _)) pe_int pe_int) pa_nil)))))
      (pss_cons (ps_set (i := 4) sc_law.nd (by rfl) (by first | exact Or.inl rfl | exact Or.inr rfl) (pe_lst pa_nil))
      (pss_cons (ps_for PassesOwn.never (by rfl) (pi_listK (K := K) (pe_call (ok__law_rounds T) (hr.mono (by decide)) (by rfl) T.g__law_rounds T.F__law_rounds.kp T.b__law_rounds .nil pass0 (pa_cons (pv 3) pa_nil))) (pg_name (i := 5) sc_law.nd (by rfl) (by first | exact Or.inl rfl | exact Or.inr rfl)) (pss_cons (ps_set (i := 6) sc_law.nd (by rfl) (by first | exact Or.inl rfl | exact Or.inr rfl) (pe_callTy (cl_tupF (K := K)) (by rfl) T.z_tuple (by decide +kernel) (pa_cons (pe_call (ok__law_sorted T) (hr.mono (by decide)) (by rfl) T.g__law_sorted T.F__law_sorted.kp T.b__law_sorted .nil pass0 (pa_cons (pv 5) pa_nil)) pa_nil)))
      (pss_cons (ps_set (i := 7) sc_law.nd (by rfl) (by first | exact Or.inl rfl | exact Or.inr rfl) (pe_call (ok__law_turn_of T) (hr.mono (by decide)) (by rfl) T.g__law_turn_of T.F__law_turn_of.kp T.b__law_turn_of .nil pass0 (pa_cons (pv 6) pa_nil)))
      (pss_one (ps_if (pt_cmpR op_gt (pv 7) pe_int (nomark _)) (pss_cons (ps_expr (pe_bm PySem.F.plainAttrs_list PySem.F.slot_list_append PySem.F.type_list_append mt_append (pv 4) (pa_cons (pv 7) pa_nil)))
      (pss_one (ps_if (pt_cmpR op_ne (pe_callB (cr_repr (K := K) hgd hr.units) (by rfl) T.z_repr (by decide +kernel) (pa_cons (pe_call (ok_turning_set T) (hr.mono (by decide)) (by rfl) T.g_turning_set T.F_turning_set.kp T.b_turning_set .nil passF (pa_cons (pv 7) (pa_cons (pv 3) pa_nil))) pa_nil)) (pe_callB (cr_repr (K := K) hgd hr.units) (by rfl) T.z_repr (by decide +kernel) (pa_cons (pv 6) pa_nil)) (nomark _)) (pss_one (ps_ret pe_bl)) pss_nil))) pss_nil)))))
      (pss_cons (ps_if (pt_cmpR (op_neK (K := K) hr.units) (pe_callB (cr_sortI (K := K)) (by rfl) T.z_sorted (by decide +kernel) (pa_cons (pv 4) pa_nil)) (pe_lc (own := [("p", 8)]) (g := gName 8) (by rfl) sc_law.nd (pi_range2 (by rfl) T.z_range (pa_cons pe_int (pa_cons (pv 3) pa_nil))) (blkOk_by (own := [("p", 8)]) (N := N_law) (sc := defScope s_law) (by decide +kernel)) (fun _ _ _ _ _ => (pg_name (i := 8) sc_law.nd (by rfl) (by first | exact Or.inl rfl | exact Or.inr rfl))) (fun _ _ _ _ _ => (pts_one (pt_cmpR op_eq (pe_call (ok__law_shared T) (hr.mono (by decide)) (by rfl) T.g__law_shared T.F__law_shared.kp T.b__law_shared .nil pass0 (pa_cons (pv 8) (pa_cons (pv 3) pa_nil))) pe_int (nomark _)))) (fun _ _ _ _ _ => (pv 8))) (nomark _)) (pss_one (ps_ret pe_bl)) pss_nil)
      (pss_cons (ps_asg (pe_call (ok__law_of T) (hr.mono (by decide)) (by rfl) T.g__law_of T.F__law_of.kp T.b__law_of .nil pass0 (pa_cons (pv 2) (pa_cons (pe_call (ok__law_turns T) (hr.mono (by decide)) (by rfl) T.g__law_turns T.F__law_turns.kp T.b__law_turns .nil pass0 (pa_cons pe_int pa_nil)) pa_nil))) (pg_tupK (K := K) (n := 2) (by rfl) (pgs_cons (pg_name (i := 8) sc_law.nd (by rfl) (by first | exact Or.inl rfl | exact Or.inr rfl)) (pgs_cons (pg_name (i := 3) sc_law.nd (by rfl) (by first | exact Or.inl rfl | exact Or.inr rfl)) pgs_nil))))
      (pss_cons (ps_set (i := 6) sc_law.nd (by rfl) (by first | exact Or.inl rfl | exact Or.inr rfl) (pe_call (ok_turning_set T) (hr.mono (by decide)) (by rfl) T.g_turning_set T.F_turning_set.kp T.b_turning_set .nil passF (pa_cons (pv 8) (pa_cons (pv 3) pa_nil))))
      (pss_cons (ps_if (PW.pt (pw_or (pt_not (pt_val (pe_callB (cl_isi (K := K)) (by rfl) T.z_isinstance (by decide +kernel) (pa_cons (pv 6) (pa_cons (pe_bltn (v := .ty "tuple") (by rfl) T.z_tuple (by decide +kernel) rfl) pa_nil))))) (pw_or (pt_cmpR op_ne (pe_callB (cl_len (K := K)) (by rfl) T.z_len (by decide +kernel) (pa_cons (pv 6) pa_nil)) (pv 3) (nomark _)) (pw_or1 (pt_cmpR (op_neK (K := K) hr.units) (pe_callTy (cl_lst (K := K)) (by rfl) T.z_list (by decide +kernel) (pa_cons (pv 6) pa_nil)) (pe_call (ok__law_sorted T) (hr.mono (by decide)) (by rfl) T.g__law_sorted T.F__law_sorted.kp T.b__law_sorted .nil pass0 (pa_cons (pe_callTy (cl_lst (K := K)) (by rfl) T.z_list (by decide +kernel) (pa_cons (pv 6) pa_nil)) pa_nil)) (nomark _)))))) (pss_one (ps_ret pe_bl)) pss_nil)
      (pss_cons (ps_if (pt_cmpR op_ne (pe_call (ok__law_turn_of T) (hr.mono (by decide)) (by rfl) T.g__law_turn_of T.F__law_turn_of.kp T.b__law_turn_of .nil pass0 (pa_cons (pv 6) pa_nil)) (pv 8) (nomark _)) (pss_one (ps_ret pe_bl)) pss_nil)
      (pss_cons (ps_set (i := 3) sc_law.nd (by rfl) (by first | exact Or.inl rfl | exact Or.inr rfl) (pe_op op_sub (pe_call (ok__law_draw T) (hr.mono (by decide)) (by rfl) T.g__law_draw T.F__law_draw.kp T.b__law_draw .nil pass0 (pa_cons (pv 2) (pa_cons pe_int pa_nil))) pe_int))
      (pss_cons (ps_set (i := 8) sc_law.nd (by rfl) (by first | exact Or.inl rfl | exact Or.inr rfl) (pe_op op_sub (pe_call (ok__law_draw T) (hr.mono (by decide)) (by rfl) T.g__law_draw T.F__law_draw.kp T.b__law_draw .nil pass0 (pa_cons (pv 2) (pa_cons pe_int pa_nil))) pe_int))
      (pss_cons (ps_if (pt_cmpR op_ne (pe_call (ok__law_refused T) (hr.mono (by decide)) (by rfl) T.g__law_refused T.F__law_refused.kp T.b__law_refused .nil pass0 (pa_cons (pv 8) (pa_cons (pv 3) pa_nil))) (pe_not (pe_and (pe_chain3 op_le op_lt op_le pe_int (pv 8) (pv 3) pe_int) (pe_one (pe_cmpR op_eq (pe_call (ok__law_shared T) (hr.mono (by decide)) (by rfl) T.g__law_shared T.F__law_shared.kp T.b__law_shared .nil pass0 (pa_cons (pv 8) (pa_cons (pv 3) pa_nil))) pe_int (nomark _))))) (nomark _)) (pss_one (ps_ret pe_bl)) pss_nil)
      (pss_cons (ps_set (i := 9) sc_law.nd (by rfl) (by first | exact Or.inl rfl | exact Or.inr rfl) (pe_lst (pa_cons (pe_tup (pa_cons pe_int (pa_cons pe_int pa_nil))) (pa_cons (pe_tup (pa_cons pe_int (pa_cons pe_int pa_nil))) (pa_cons (pe_tup (pa_cons pe_int (pa_cons pe_int pa_nil))) (pa_cons (pe_tup (pa_cons pe_int (pa_cons pe_int pa_nil))) (pa_cons (pe_tup (pa_cons (pe_un un_neg pe_int) (pa_cons pe_int pa_nil))) (pa_cons (pe_tup (pa_cons pe_int (pa_cons (pe_un un_neg pe_int) pa_nil))) (pa_cons (pe_tup (pa_cons pe_int (pa_cons pe_int pa_nil))) (pa_cons (pe_tup (pa_cons pe_int (pa_cons pe_int pa_nil))) (pa_cons (pe_tup (pa_cons pe_int (pa_cons pe_int pa_nil))) (pa_cons (pe_tup (pa_cons pe_int (pa_cons pe_int pa_nil))) pa_nil))))))))))))
      (pss_cons (ps_set (i := 9) sc_law.nd (by rfl) (by first | exact Or.inl rfl | exact Or.inr rfl) (pe_call (ok__law_of T) (hr.mono (by decide)) (by rfl) T.g__law_of T.F__law_of.kp T.b__law_of .nil pass0 (pa_cons (pv 2) (pa_cons (pe_op op_catL (pv 9) (pe_lst (pa_cons (pe_tup (pa_cons (pe_op op_pow pe_int pe_int) (pa_cons (pe_op op_add (pe_op op_pow pe_int pe_int) pe_int) pa_nil))) pa_nil))) pa_nil))))
      (pss_one (ps_if (pt_not (pt_val (pe_call (ok__law_refused T) (hr.mono (by decide)) (by rfl) T.g__law_refused T.F__law_refused.kp T.b__law_refused .nil pass0 (pa_cons (pe_ix (ix_tupK (K := K)) (pv 9) pe_int (fun _ _ => rfl)) (pa_cons (pe_ix (ix_tupK (K := K)) (pv 9) pe_int (fun _ _ => rfl)) pa_nil))))) (pss_one (ps_ret pe_bl)) pss_nil)))))))))))))))))
      (pss_one (ps_ret pe_bl))), ?_⟩
    rw [show start N_law [.ref a] = [some (.ref a), none, none, none, none, none, none, none, none, none] from rfl]
    try dsimp only [cxK]
    have hBig : ∀ n ∈ ns, Big n := fun n hn => Big.bits (hB n hn)
    have dS : Dp K H (.ref a) (.list (ns.map PyData.int)) := .lst hS (dpa_ints ns)
    walk_at "wp"
    rename_i r1 er1 r2 er2
    try rw [List.length_map] at er1
    try rw [List.length_map] at er2
    refine forR1_by (fun i σ' H' => ∃ (y1 y2 y3 y4 y5 y6 y7 y8 y9 : Option V), σ' = [some (.ref a), y1, y2, y3, y4, y5, y6, y7, y8, y9] ∧ Keep H H') (by omega) ⟨_, _, _, _, _, _, _, _, _, rfl, Keep.refl _⟩ ?_ ?_
    · rintro i σ' H' hi ⟨y1, y2, y3, y4, y5, y6, y7, y8, y9, rfl, k0⟩
      walk_at "wp"
      refine ⟨a, ns, _, rfl, k0.seqL hS, hl, hBig, by omega, by omega, fun m c H1 e1 n1 m1 => ?_⟩
      have k1 : Keep H H1 := k0.trans (Keep.of e1)
      with_reducible refine w_seq ?_
      with_reducible refine w_asg ?_
      refine w_meet (fun v H2 => ∃ n : Nat, v = .int (n : Int) ∧ 2 ≤ n ∧ n ≤ 7 ∧ Keep H H2 ∧ Mo H2 m c 200) (fun Q' hQ' => ?_) ?_
      · walk_at "wp"
        refine w_iteD (fun _ => ?_) (fun _ => ?_)
        · walk_at "wp"
          refine ⟨m, c, 6, _, rfl, by decide, by decide, m1, by omega, fun d H2 h0 h1 k2 m2 => ?_⟩
          walk_at "wp"
          exact hQ' _ _ ⟨(2 + d).toNat, by rw [Int.toNat_of_nonneg (by omega)], by omega, by omega, k1.trans k2, m2.mono (by omega)⟩
        · walk_at "wp"
          refine ⟨m, c, 5, _, rfl, by decide, by decide, m1, by omega, fun d H2 h0 h1 k2 m2 => ?_⟩
          walk_at "wp"
          exact hQ' _ _ ⟨(2 + d).toNat, by rw [Int.toNat_of_nonneg (by omega)], by omega, by omega, k1.trans k2, m2.mono (by omega)⟩
      · rintro v H2 ⟨n, rfl, hn2, hn7, k2, m2⟩
        obtain ⟨pasc, rok⟩ := rds_ok hn2 hn7
        have rpl := rds_plc hn2 hn7
        walk_at "wp"
        refine w_newL (K := K) (len_ok (by simp)) .nil fun pm H3 n3 e3 f3 d3 => ?_
        walk_at "wp"
        refine ⟨n, rfl, hn2, hn7, fun vr H4 e4 d4 => ?_⟩
        obtain ⟨sa, sx, sev, sq, sd⟩ := dp_lst d4
        subst sev
        have sl := dpa_len sd
        rw [List.length_map] at sl
        have rpos : 0 < (rdsN n).length := rdsN_pos hn2 hn7
        have src : SrcL K H4 pm sa sx := SrcL.of sq (e4 _ _ f3) fun z => by rw [z] at sl; simp at sl; omega
        have rws : RowsS K H4 pm sx (rdsN n) := RowsS.of (e4 _ _ f3) (fun r hr => (rpl r hr).2.1) sd
        have rlen : (rdsN n).length ≤ 1000 := rdsN_len hn2 hn7
        walk_at "wp"
        refine forL_byA (ds := (rdsN n).map fun r => PyData.list (r.map pd)) (fun j σ' H' => ∃ (y5 y6 y7 : Option V) (zs : List Int), σ' = [some (.ref a), some (.int (i : Int)), some (.ref m), some (.int (n : Int)), some (.ref pm), y5, y6, y7, y8, y9] ∧ Same H2 H' ∧ H' pm = some (.lst (zs.map V.int)) ∧ zs = (((rdsN n).take j).map fun r => toN (srtP r)).filter (fun z => decide (0 < z)) ∧ SrcL K H' pm sa sx ∧ RowsS K H' pm sx (rdsN n))
          sq (by rw [List.length_map]; exact sl) ⟨_, _, _, [], rfl, e3.trans e4, e4 _ _ f3, rfl, src, rws⟩ (fun j σ' H' _ ⟨_, _, _, _, _, _, _, _, z1, z2⟩ => ⟨z1.sq, z2.dpa⟩) ?_ ?_
        · rintro j d y σ' H5 hd hy ⟨y5, y6, y7, zs, rfl, s5, f5, hzs, src5, rws5⟩
          rw [List.getElem?_map] at hd
          obtain ⟨r, hr, rfl⟩ := Option.map_eq_some_iff.mp hd
          have hrm := List.mem_of_getElem? hr
          obtain ⟨p1, p2, p3⟩ := rpl r hrm
          obtain ⟨o1, o2⟩ := rok r hrm
          have sm : ∀ x, x ∈ srtP r ↔ x ∈ r := fun x => (srtP_perm r).mem_iff
          have sln : (srtP r).length = r.length := (srtP_perm r).length_eq
          have spl : ∀ x ∈ srtP r, Plc x := fun x hx => p1 x ((sm x).mp hx)
          have et : (rdsN n).take (j + 1) = (rdsN n).take j ++ [r] := by rw [List.take_add_one, hr]; rfl
          walk_at "wp"
          refine ⟨y, r, rfl, hy, p1, by omega, fun ys v6 H6 hpw hmem e6 d6 => ?_⟩
          obtain rfl := asc_unique hpw o1 (fun x => (hmem x).trans (sm x).symm)
          walk_at "wp"
          refine w_tupF d6 fun v7 H7 e7 f7 d7 => ?_
          walk_at "wp"
          refine ⟨v7, srtP r, rfl, f7, d7, spl, fun z => p2 (List.eq_nil_of_length_eq_zero (by rw [← sln, z]; rfl)), by omega, fun H8 e8 => ?_⟩
          have s8 : Same H5 H8 := (e6.trans e7).trans e8
          walk_at "wp"
          refine w_iteD (fun hz => ?_) (fun hz => ?_)
          · obtain ⟨pp, ep, c1, c2, c3⟩ := met_ok hn2 hn7 hrm hz
            walk_at "wp"
            refine w_tyL (s8 _ _ f5) ?_
            walk_at "wp"
            have hzl : zs.length ≤ 1000 := by
              rw [hzs]
              refine Nat.le_trans (List.length_filter_le _ _) ?_
              rw [List.length_map]
              exact Nat.le_trans (List.length_take_le' _ _) rlen
            refine w_append (s8 _ _ f5) (len_lt (by rw [List.length_map]; omega)) ?_
            walk_at "wp"
            refine ⟨toN (srtP r), n, rfl, fun _ v9 H10 e10 f10 d10 => ?_, fun z => absurd (show okT (toN (srtP r)) (n : Int) from by rw [ep]; exact ⟨by omega, by omega, by omega, by simpa using c3⟩) z⟩
            rw [Int.toNat_natCast, (o2 hz).2] at d10
            obtain ⟨a9, _, ev9, _, _⟩ := dp_tup d10
            subst ev9
            obtain ⟨a7, _, ev7, _, _⟩ := dp_tup d7
            subst ev7
            have shw := shw_tup spl (by omega)
            have t7 : Dp K H10 (.ref a7) (.tuple ((srtP r).map pd)) := dp_same e10 (dp_upd (s8 _ _ f5) _ _ (by rw [noL]; exact noLs_pds _) (dp_same e8 d7))
            walk_at "wp"
            refine ⟨a9, _, rfl, d10, shw, ?_⟩
            walk_at "wp"
            refine ⟨a7, _, rfl, t7, shw, ?_⟩
            walk_at "wp"
            rw [if_neg (by simp)]
            walk_at "wp"
            refine ⟨_, _, _, zs ++ [toN (srtP r)], rfl, (same_mut (s5.trans s8) n3).trans e10, ?_, ?_, ((src5.same s8).upd).same e10, ((rws5.same s8).upd (s8 _ _ f5)).same e10⟩
            · rw [List.map_append]
              exact e10 _ _ upd_same
            · rw [hzs, et, List.map_append, List.filter_append]
              simp [hz]
          · walk_at "wp"
            refine ⟨_, _, _, zs, rfl, s5.trans s8, s8 _ _ f5, ?_, src5.same s8, rws5.same s8⟩
            rw [hzs, et, List.map_append, List.filter_append]
            simp [hz]
        · rintro σ' H5 ⟨y5, y6, y7, zs, rfl, s5, f5, hzs, src5, rws5⟩
          rw [List.length_map, List.take_length] at hzs
          have d5 : Dp K H5 (.ref pm) (.list (zs.map PyData.int)) := dp_newL f5 (dpa_ints zs)
          walk_at "wp"
          refine w_sortI d5 fun ns' p6 H6 hp6 ho6 e6 d6 => ?_
          have en := met_sorted hn2 hn7 (by rw [hzs] at hp6; exact hp6) ho6
          subst en
          walk_at "wp"
          refine lc_rng2_by (K := K) (JP H6 fun j es => es = ((List.range' 1 j).filter fun p => decide (Nat.gcd p n = 1)).map fun p : Nat => PyData.int (p : Int)) (JP.ok rfl) (by omega) (fun _ => rfl) ?_ ?_
          · rintro j H7 es hj ⟨s7, rfl⟩ Yes No hyes hno
            rw [show (1 : Int) + (j : Int) = ((1 + j : Nat) : Int) by omega]
            walk_at "wp"
            refine ⟨1 + j, n, rfl, by omega, ?_⟩
            walk_at "wp"
            have e := List.range'_concat (s := 1) (n := j) (step := 1)
            rw [Nat.one_mul] at e
            refine w_iteD (fun h => ?_) (fun h => ?_)
            · walk_at "wp"
              refine hyes _ H7 (.int ((1 + j : Nat) : Int)) (Keep.refl _) rfl (.int _) ⟨s7, ?_⟩
              have hg : Nat.gcd (1 + j) n = 1 := by omega
              have eg : List.filter (fun p => decide (Nat.gcd p n = 1)) [1 + j] = [1 + j] := by simp [hg]
              dsimp only
              rw [e, List.filter_append, List.map_append, eg]
              rfl
            · refine hno _ (Keep.refl _) ⟨s7, ?_⟩
              have hg : ¬ Nat.gcd (1 + j) n = 1 := by omega
              have eg : List.filter (fun p => decide (Nat.gcd p n = 1)) [1 + j] = [] := by simp [hg]
              dsimp only
              rw [e, List.filter_append, List.map_append, eg]
              simp
          · rintro p8 H8 us es n8 k8 hus dl ⟨s8, rfl⟩
            rw [show ((n : Int) - 1).toNat = n - 1 by omega] at dl
            have dl' : Dp K H8 (.ref p8) (.list ((copL n).map PyData.int)) := by
              rw [copL, List.map_map]
              exact dl
            refine w_neP (dp_same s8 d6) dl' (pln_ints _) (pln_ints _) (fun _ => ?_) (fun h => absurd rfl h)
            have sB : Same H2 H8 := (s5.trans e6).trans s8
            have mB := m2.same sB
            have kB : Keep H H8 := k2.trans (Keep.of sB)
            walk_at "wp"
            refine ⟨24, rfl, by decide, by decide, fun vt H9 e9 d9 => ?_⟩
            walk_at "wp"
            refine ⟨m, c, vt, _, _, rfl, d9, by rw [List.length_map]; exact trnL_pos, by rw [List.length_map]; exact trnL_len (by decide), mB.same e9, by omega, fun y d H10 hd hy k10 m10 => ?_⟩
            obtain ⟨t, htm, rfl⟩ := List.mem_map.mp hd
            obtain ⟨t1, t2, t3, t4⟩ := trnL_mem.mp htm
            refine w_gTup2 hy fun v1 v2 g1 g2 => ?_
            cases g1
            cases g2
            walk_at "wp"
            obtain ⟨ts1, ts2⟩ := ts_ok t1 t2 t3 t4
            have tpl := ts_plc (p := t.1) (q := t.2) (by omega) t3
            have tln := ts_len t.1 t.2
            refine ⟨(t.1 : Int), (t.2 : Int), rfl, fun _ v11 H11 e11 f11 d11 => ?_, fun z => absurd (show okT (t.1 : Int) (t.2 : Int) from ⟨by omega, by omega, by omega, by simpa using t4⟩) z⟩
            rw [Int.toNat_natCast, Int.toNat_natCast] at d11
            walk_at "wp"
            rw [if_neg (by simp [tln])]
            walk_at "wp"
            refine w_lstOfT d11 fun p12 H12 x12 n12 e12 f12 d12 => ?_
            walk_at "wp"
            refine w_lstOfT (dp_same e12 d11) fun p13 H13 x13 n13 e13 f13 d13 => ?_
            walk_at "wp"
            refine ⟨.ref p13, tsN t.1 t.2, rfl, d13, tpl, by omega, fun ys v14 H14 hpw hmem e14 d14 => ?_⟩
            obtain rfl := asc_unique hpw ts1 hmem
            walk_at "wp"
            have pll : pln 9 (.list ((tsN t.1 t.2).map pd)) = true := pln_list fun z hz => by
              obtain ⟨x, _, rfl⟩ := List.mem_map.mp hz
              exact pd_pln _
            refine w_neP (dp_same (e13.trans e14) d12) d14 pll pll (fun _ => ?_) (fun h => absurd rfl h)
            have sC : Same H11 H14 := (e12.trans e13).trans e14
            walk_at "wp"
            refine ⟨v11, tsN t.1 t.2, rfl, f11.same sC, dp_same sC d11, tpl, fun z => by rw [z] at tln; simp at tln; omega, by omega, fun H15 e15 => ?_⟩
            rw [ts2]
            walk_at "wp"
            rw [if_neg (by simp)]
            have kC : Keep H H15 := (((kB.trans (Keep.of e9)).trans k10).trans (Keep.of e11)).trans (Keep.of (sC.trans e15))
            have mC := m10.same (e11.trans (sC.trans e15))
            walk_at "wp"
            refine ⟨m, c, 30, _, rfl, by decide, by decide, mC, by omega, fun d1 H16 h0 h1 k16 m16 => ?_⟩
            walk_at "wp"
            refine ⟨m, c, 32, _, rfl, by decide, by decide, m16, by omega, fun d2 H17 g0 g1 k17 m17 => ?_⟩
            walk_at "wi"
            refine w_meetS (fun σ' H' => ∃ y5 y6 y7 : Option V, σ' = [some (.ref a), some (.int (i : Int)), some (.ref m), some (.int (d1 - 2)), some (.ref pm), y5, y6, y7, some (.int (d2 - 3)), y9] ∧ Keep H H' ∧ ∃ b, b < 2000 ∧ Mo H' m c b) (fun D hD => ?_) ?_
            · walk_at "wp"
              refine ⟨d2 - 3, d1 - 2, rfl, fun ok H18 e18 => ?_, fun nok H18 e18 => ?_⟩
              · obtain ⟨a1, a2, a3, a4⟩ := ok
                obtain ⟨P, eP⟩ := Int.eq_ofNat_of_zero_le (show 0 ≤ d2 - 3 by omega)
                obtain ⟨N, eN⟩ := Int.eq_ofNat_of_zero_le (show 0 ≤ d1 - 2 by omega)
                rw [eP, eN, Int.natAbs_natCast, Int.natAbs_natCast] at a4
                walk_at "wp"
                refine w_iteD (fun _ => ?_) (fun z => absurd a1 z)
                walk_at "wp"
                refine w_iteD (fun _ => ?_) (fun z => absurd a2 z)
                walk_at "wp"
                refine w_iteD (fun _ => ?_) (fun z => absurd a3 z)
                walk_at "wp"
                refine ⟨P, N, by rw [eP, eN]; rfl, by omega, ?_⟩
                rw [a4]
                walk_at "wp"
                rw [if_neg (by simp)]
                walk_at "wp"
                exact hD _ _ ⟨_, _, _, rfl, ((kC.trans k16).trans k17).trans (Keep.of e18), _, by omega, m17.same e18⟩
              · walk_at "wp"
                refine w_iteD (fun b1 => ?_) (fun _ => ?_)
                · walk_at "wp"
                  refine w_iteD (fun b2 => ?_) (fun _ => ?_)
                  · walk_at "wp"
                    refine w_iteD (fun b3 => ?_) (fun _ => ?_)
                    · obtain ⟨P, eP⟩ := Int.eq_ofNat_of_zero_le (show 0 ≤ d2 - 3 by omega)
                      obtain ⟨N, eN⟩ := Int.eq_ofNat_of_zero_le (show 0 ≤ d1 - 2 by omega)
                      have b4 : ¬ Nat.gcd P N = 1 := fun z => nok ⟨b1, b2, b3, by rw [eP, eN, Int.natAbs_natCast, Int.natAbs_natCast]; exact z⟩
                      walk_at "wp"
                      refine ⟨P, N, by rw [eP, eN]; rfl, by omega, ?_⟩
                      walk_at "wp"
                      rw [decide_eq_false (show ¬ ((Nat.gcd P N : Nat) : Int) = 1 from fun z => b4 (by omega)), if_neg (by simp)]
                      walk_at "wp"
                      exact hD _ _ ⟨_, _, _, rfl, ((kC.trans k16).trans k17).trans (Keep.of e18), _, by omega, m17.same e18⟩
                    · walk_at "wp"
                      rw [if_neg (by simp)]
                      walk_at "wp"
                      exact hD _ _ ⟨_, _, _, rfl, ((kC.trans k16).trans k17).trans (Keep.of e18), _, by omega, m17.same e18⟩
                  · walk_at "wp"
                    rw [if_neg (by simp)]
                    walk_at "wp"
                    exact hD _ _ ⟨_, _, _, rfl, ((kC.trans k16).trans k17).trans (Keep.of e18), _, by omega, m17.same e18⟩
                · walk_at "wp"
                  rw [if_neg (by simp)]
                  walk_at "wp"
                  exact hD _ _ ⟨_, _, _, rfl, ((kC.trans k16).trans k17).trans (Keep.of e18), _, by omega, m17.same e18⟩
            · rintro σ' H18 ⟨y5, y6, y7, rfl, k18, b, hb, m18⟩
              repeat first | walk_at "e" | walk_at "s" | walk_at "p" | ((with_reducible refine' w_newT (K := K) ?hl ?hd (fun _ _ _ _ _ => ?_)); (case hl => exact len_ok (by simp)); (case hd => walk_at "dpa"))
              refine (fun hda => w_newL (K := K) (ds := farL.map tupZ) (len_ok (by simp)) hda fun pf Hf nf ef ff df => ?_) (by walk_at "dpa")
              have sf : Same H18 Hf := by walk_at "same"
              walk_at "wp"
              refine w_rI (C := CPow) ⟨by decide, by decide, by decide⟩ ?_
              walk_at "wp"
              refine w_rI (C := CPow) ⟨by decide, by decide, by decide⟩ ?_
              walk_at "wp"
              refine w_newT (K := K) (ds := [.int 100000000000000000000, .int 100000000000000000001]) (len_ok (by simp)) (.cons (.int _) (dpa_one (.int _))) fun tg Hg ng eg dg => ?_
              walk_at "wp"
              refine w_newL (K := K) (len_ok (by simp)) (dpa_one dg) fun ph Hh nh eh fh dh => ?_
              walk_at "wp"
              have sh : Same H18 Hh := (sf.trans eg).trans eh
              refine w_catA (eh _ _ (eg _ _ ff)) fh (dpa_same ((ef.trans eg).trans eh) hda) (dpa_one (dp_same eh dg)) (by simp; decide) fun pk Hk nk ek fk dk => ?_
              have mk := m18.same (sh.trans ek)
              walk_at "wp"
              refine ⟨m, c, .ref pk, _, b, rfl, dp_newL fk dk, by simp, by simp [farL], mk, by omega, fun y d H20 hd hy k20 m20 => ?_⟩
              obtain ⟨x, hx, rfl⟩ : ∃ x, ¬ okT x.1 x.2 ∧ d = tupZ x := by
                rcases List.mem_append.mp hd with z | z
                · obtain ⟨x, hx, rfl⟩ := List.mem_map.mp z
                  exact ⟨x, far_bad x (List.mem_append_left _ hx), rfl⟩
                · rw [List.mem_singleton.mp z]
                  exact ⟨(100000000000000000000, 100000000000000000001), far_bad _ (by simp), rfl⟩
              have hy' : Dp K H20 y (.tuple [.int x.1, .int x.2]) := hy
              walk_at "wp"
              refine w_ixT (j := 0) hy' rfl rfl fun z1 hz1 => ?_
              cases hz1
              walk_at "wp"
              refine w_ixT (j := 1) hy' rfl rfl fun z2 hz2 => ?_
              cases hz2
              walk_at "wp"
              refine ⟨x.1, x.2, rfl, fun ok => absurd ok hx, fun _ H21 e21 => ?_⟩
              walk_at "wp"
              exact ⟨_, _, _, _, _, _, _, _, _, rfl, ((k18.trans (Keep.of (sh.trans ek))).trans k20).trans (Keep.of e21)⟩
    · rintro σ' H' ⟨y1, y2, y3, y4, y5, y6, y7, y8, y9, rfl, k0⟩
      walk_at "wp"
      exact q H'

end
end Tw
namespace Tw
open PySem PySem.Spec PyProof.Rows L2
set_option maxHeartbeats 4000000 in
def top_mk {K : PySem.W.Frag} {h : Heap} {mg : Str → Option Value} (X : K.In h) (G : h.Ns mainGlobals mg) {f_is_whole f_reduced f_size f_check_place f_is_place f_place f__is_in_reach f__twos f__order f_place_of f__number f_turning_set f_line_digits f__check_turn f__law_begun f__law_draw f__law_of f__law_twos f__law_shared f__law_ratio f__law_double f__law_orbit f__law_ways f__law_sorted f__law_all_places f__law_rounds f__law_turns f__law_turn_of f__law_refused f_law : Addr} {od_is_whole an_is_whole od_reduced an_reduced od_size an_size od_check_place an_check_place od_is_place an_is_place od_place an_place od__is_in_reach an__is_in_reach od__twos an__twos od__order an__order od_place_of an_place_of od__number an__number od_turning_set an_turning_set od_line_digits an_line_digits od__check_turn an__check_turn od__law_begun an__law_begun od__law_draw an__law_draw od__law_of an__law_of od__law_twos an__law_twos od__law_shared an__law_shared od__law_ratio an__law_ratio od__law_double an__law_double od__law_orbit an__law_orbit od__law_ways an__law_ways od__law_sorted an__law_sorted od__law_all_places an__law_all_places od__law_rounds an__law_rounds od__law_turns an__law_turns od__law_turn_of an__law_turn_of od__law_refused an__law_refused od_law an_law : Option Addr} {oc_is_whole kV_is_whole dc_is_whole pm_is_whole cd_is_whole ct_is_whole oc_reduced kV_reduced dc_reduced pm_reduced cd_reduced ct_reduced oc_size kV_size dc_size pm_size cd_size ct_size oc_check_place kV_check_place dc_check_place pm_check_place cd_check_place ct_check_place oc_is_place kV_is_place dc_is_place pm_is_place cd_is_place ct_is_place oc_place kV_place dc_place pm_place cd_place ct_place oc__is_in_reach kV__is_in_reach dc__is_in_reach pm__is_in_reach cd__is_in_reach ct__is_in_reach oc__twos kV__twos dc__twos pm__twos cd__twos ct__twos oc__order kV__order dc__order pm__order cd__order ct__order oc_place_of kV_place_of dc_place_of pm_place_of cd_place_of ct_place_of oc__number kV__number dc__number pm__number cd__number ct__number oc_turning_set kV_turning_set dc_turning_set pm_turning_set cd_turning_set ct_turning_set oc_line_digits kV_line_digits dc_line_digits pm_line_digits cd_line_digits ct_line_digits oc__check_turn kV__check_turn dc__check_turn pm__check_turn cd__check_turn ct__check_turn oc__law_begun kV__law_begun dc__law_begun pm__law_begun cd__law_begun ct__law_begun oc__law_draw kV__law_draw dc__law_draw pm__law_draw cd__law_draw ct__law_draw oc__law_of kV__law_of dc__law_of pm__law_of cd__law_of ct__law_of oc__law_twos kV__law_twos dc__law_twos pm__law_twos cd__law_twos ct__law_twos oc__law_shared kV__law_shared dc__law_shared pm__law_shared cd__law_shared ct__law_shared oc__law_ratio kV__law_ratio dc__law_ratio pm__law_ratio cd__law_ratio ct__law_ratio oc__law_double kV__law_double dc__law_double pm__law_double cd__law_double ct__law_double oc__law_orbit kV__law_orbit dc__law_orbit pm__law_orbit cd__law_orbit ct__law_orbit oc__law_ways kV__law_ways dc__law_ways pm__law_ways cd__law_ways ct__law_ways oc__law_sorted kV__law_sorted dc__law_sorted pm__law_sorted cd__law_sorted ct__law_sorted oc__law_all_places kV__law_all_places dc__law_all_places pm__law_all_places cd__law_all_places ct__law_all_places oc__law_rounds kV__law_rounds dc__law_rounds pm__law_rounds cd__law_rounds ct__law_rounds oc__law_turns kV__law_turns dc__law_turns pm__law_turns cd__law_turns ct__law_turns oc__law_turn_of kV__law_turn_of dc__law_turn_of pm__law_turn_of cd__law_turn_of ct__law_turn_of oc__law_refused kV__law_refused dc__law_refused pm__law_refused cd__law_refused ct__law_refused oc_law kV_law dc_law pm_law cd_law ct_law : Value} {sl_is_whole sl_reduced sl_size sl_check_place sl_is_place sl_place sl__is_in_reach sl__twos sl__order sl_place_of sl__number sl_turning_set sl_line_digits sl__check_turn sl__law_begun sl__law_draw sl__law_of sl__law_twos sl__law_shared sl__law_ratio sl__law_double sl__law_orbit sl__law_ways sl__law_sorted sl__law_all_places sl__law_rounds sl__law_turns sl__law_turn_of sl__law_refused sl_law : Array (Option Value)} {c_DialError N_DialError : Addr} {nm_DialError q_DialError : Str} {bs_DialError sub_DialError : List Value} {sn_DialError : List Str} {ab_DialError : Bool} {col_DialError : Option Bool} {dd_DialError : Option Addr} {m0_DialError m1_DialError m2_DialError m3_DialError m5_DialError : Option Value} {c_NotPlace N_NotPlace : Addr} {nm_NotPlace q_NotPlace : Str} {bs_NotPlace sub_NotPlace : List Value} {sn_NotPlace : List Str} {ab_NotPlace : Bool} {col_NotPlace : Option Bool} {dd_NotPlace : Option Addr} {m0_NotPlace m1_NotPlace m2_NotPlace m3_NotPlace m5_NotPlace : Option Value} {c_NotTurn N_NotTurn : Addr} {nm_NotTurn q_NotTurn : Str} {bs_NotTurn sub_NotTurn : List Value} {sn_NotTurn : List Str} {ab_NotTurn : Bool} {col_NotTurn : Option Bool} {dd_NotTurn : Option Addr} {m0_NotTurn m1_NotTurn m2_NotTurn m3_NotTurn m5_NotTurn : Option Value} {t_COMMON t_MOST_STEPS t_MOST_TURN : Tok}
    (gc_DialError : PySem.W.nsIn K mainGlobals "DialError" = some (some (.ref c_DialError)))
    (xL_DialError : K.lookup c_DialError = some (excClassObj nm_DialError q_DialError c_DialError N_DialError bs_DialError ([.type "ValueError", .type "Exception", .type "BaseException", .type "object"]) true sn_DialError sub_DialError ab_DialError col_DialError dd_DialError m0_DialError m1_DialError m2_DialError m3_DialError m5_DialError "ValueError.__new__"))
    (sa_DialError : PySem.W.findIn K (.ref c_DialError) "__setattr__" = some (some (.builtin "object.__setattr__")))
    (eC_DialError : PySem.W.subIn K (.ref c_DialError) (.type "BaseException") = some true)
    (tC_DialError : PySem.W.typeIn K (.ref c_DialError) = some (.type "type"))
    (kC_DialError : PySem.W.keepIn K (.ref c_DialError) = true)
    (ga_DialError : PySem.W.findIn K (.ref c_DialError) "__getattribute__" = some (some (.builtin "BaseException.__getattribute__")))
    (gg_DialError : PySem.W.findIn K (.ref c_DialError) "__getattr__" = some none)
    (hC_DialError : PySem.W.hasDictIn K c_DialError = true)
    (gc_NotPlace : PySem.W.nsIn K mainGlobals "NotPlace" = some (some (.ref c_NotPlace)))
    (xL_NotPlace : K.lookup c_NotPlace = some (excClassObj nm_NotPlace q_NotPlace c_NotPlace N_NotPlace bs_NotPlace (.ref c_DialError :: [.type "ValueError", .type "Exception", .type "BaseException", .type "object"]) true sn_NotPlace sub_NotPlace ab_NotPlace col_NotPlace dd_NotPlace m0_NotPlace m1_NotPlace m2_NotPlace m3_NotPlace m5_NotPlace "ValueError.__new__"))
    (sa_NotPlace : PySem.W.findIn K (.ref c_NotPlace) "__setattr__" = some (some (.builtin "object.__setattr__")))
    (eC_NotPlace : PySem.W.subIn K (.ref c_NotPlace) (.type "BaseException") = some true)
    (tC_NotPlace : PySem.W.typeIn K (.ref c_NotPlace) = some (.type "type"))
    (kC_NotPlace : PySem.W.keepIn K (.ref c_NotPlace) = true)
    (ga_NotPlace : PySem.W.findIn K (.ref c_NotPlace) "__getattribute__" = some (some (.builtin "BaseException.__getattribute__")))
    (gg_NotPlace : PySem.W.findIn K (.ref c_NotPlace) "__getattr__" = some none)
    (hC_NotPlace : PySem.W.hasDictIn K c_NotPlace = true)
    (xq_NotPlace : PySem.W.excIn K c_NotPlace [.type "ValueError", .type "Exception", .type "BaseException", .type "object"] "ValueError.__new__" = true)
    (gc_NotTurn : PySem.W.nsIn K mainGlobals "NotTurn" = some (some (.ref c_NotTurn)))
    (xL_NotTurn : K.lookup c_NotTurn = some (excClassObj nm_NotTurn q_NotTurn c_NotTurn N_NotTurn bs_NotTurn (.ref c_DialError :: [.type "ValueError", .type "Exception", .type "BaseException", .type "object"]) true sn_NotTurn sub_NotTurn ab_NotTurn col_NotTurn dd_NotTurn m0_NotTurn m1_NotTurn m2_NotTurn m3_NotTurn m5_NotTurn "ValueError.__new__"))
    (sa_NotTurn : PySem.W.findIn K (.ref c_NotTurn) "__setattr__" = some (some (.builtin "object.__setattr__")))
    (eC_NotTurn : PySem.W.subIn K (.ref c_NotTurn) (.type "BaseException") = some true)
    (tC_NotTurn : PySem.W.typeIn K (.ref c_NotTurn) = some (.type "type"))
    (kC_NotTurn : PySem.W.keepIn K (.ref c_NotTurn) = true)
    (ga_NotTurn : PySem.W.findIn K (.ref c_NotTurn) "__getattribute__" = some (some (.builtin "BaseException.__getattribute__")))
    (gg_NotTurn : PySem.W.findIn K (.ref c_NotTurn) "__getattr__" = some none)
    (hC_NotTurn : PySem.W.hasDictIn K c_NotTurn = true)
    (xq_NotTurn : PySem.W.excIn K c_NotTurn [.type "ValueError", .type "Exception", .type "BaseException", .type "object"] "ValueError.__new__" = true)
    (e_NotPlace_NotTurn : PySem.W.subIn K (.ref c_NotPlace) (.ref c_NotTurn) = some false)
    (e_NotTurn_NotTurn : PySem.W.subIn K (.ref c_NotTurn) (.ref c_NotTurn) = some true)
    (iL_NotTurn : PySem.W.isClsIn K c_NotTurn = true)
    (a_is_whole : PySem.W.nsIn K mainGlobals "is_whole" = some (some (.ref f_is_whole)))
    (l_is_whole : K.lookup f_is_whole = some ⟨oc_is_whole, od_is_whole, .func (PySem.W.fnOf "is_whole" "is_whole" (defArgs s_is_whole) (defBody s_is_whole) (defScope s_is_whole) .none kV_is_whole dc_is_whole pm_is_whole an_is_whole cd_is_whole ct_is_whole), sl_is_whole⟩) (c_is_whole : PySem.W.codeIn K cd_is_whole "is_whole" = true) (k_is_whole : PySem.W.keepIn K (.ref f_is_whole) = true)
    (a_reduced : PySem.W.nsIn K mainGlobals "reduced" = some (some (.ref f_reduced)))
    (l_reduced : K.lookup f_reduced = some ⟨oc_reduced, od_reduced, .func (PySem.W.fnOf "reduced" "reduced" (defArgs s_reduced) (defBody s_reduced) (defScope s_reduced) .none kV_reduced dc_reduced pm_reduced an_reduced cd_reduced ct_reduced), sl_reduced⟩) (c_reduced : PySem.W.codeIn K cd_reduced "reduced" = true) (k_reduced : PySem.W.keepIn K (.ref f_reduced) = true)
    (a_size : PySem.W.nsIn K mainGlobals "size" = some (some (.ref f_size)))
    (l_size : K.lookup f_size = some ⟨oc_size, od_size, .func (PySem.W.fnOf "size" "size" (defArgs s_size) (defBody s_size) (defScope s_size) .none kV_size dc_size pm_size an_size cd_size ct_size), sl_size⟩) (c_size : PySem.W.codeIn K cd_size "size" = true) (k_size : PySem.W.keepIn K (.ref f_size) = true)
    (a_check_place : PySem.W.nsIn K mainGlobals "check_place" = some (some (.ref f_check_place)))
    (l_check_place : K.lookup f_check_place = some ⟨oc_check_place, od_check_place, .func (PySem.W.fnOf "check_place" "check_place" (defArgs s_check_place) (defBody s_check_place) (defScope s_check_place) .none kV_check_place dc_check_place pm_check_place an_check_place cd_check_place ct_check_place), sl_check_place⟩) (c_check_place : PySem.W.codeIn K cd_check_place "check_place" = true) (k_check_place : PySem.W.keepIn K (.ref f_check_place) = true)
    (a_is_place : PySem.W.nsIn K mainGlobals "is_place" = some (some (.ref f_is_place)))
    (l_is_place : K.lookup f_is_place = some ⟨oc_is_place, od_is_place, .func (PySem.W.fnOf "is_place" "is_place" (defArgs s_is_place) (defBody s_is_place) (defScope s_is_place) .none kV_is_place dc_is_place pm_is_place an_is_place cd_is_place ct_is_place), sl_is_place⟩) (c_is_place : PySem.W.codeIn K cd_is_place "is_place" = true) (k_is_place : PySem.W.keepIn K (.ref f_is_place) = true)
    (a_place : PySem.W.nsIn K mainGlobals "place" = some (some (.ref f_place)))
    (l_place : K.lookup f_place = some ⟨oc_place, od_place, .func (PySem.W.fnOf "place" "place" (defArgs s_place) (defBody s_place) (defScope s_place) .none kV_place dc_place pm_place an_place cd_place ct_place), sl_place⟩) (c_place : PySem.W.codeIn K cd_place "place" = true) (k_place : PySem.W.keepIn K (.ref f_place) = true)
    (a__is_in_reach : PySem.W.nsIn K mainGlobals "_is_in_reach" = some (some (.ref f__is_in_reach)))
    (l__is_in_reach : K.lookup f__is_in_reach = some ⟨oc__is_in_reach, od__is_in_reach, .func (PySem.W.fnOf "_is_in_reach" "_is_in_reach" (defArgs s__is_in_reach) (defBody s__is_in_reach) (defScope s__is_in_reach) .none kV__is_in_reach dc__is_in_reach pm__is_in_reach an__is_in_reach cd__is_in_reach ct__is_in_reach), sl__is_in_reach⟩) (c__is_in_reach : PySem.W.codeIn K cd__is_in_reach "_is_in_reach" = true) (k__is_in_reach : PySem.W.keepIn K (.ref f__is_in_reach) = true)
    (a__twos : PySem.W.nsIn K mainGlobals "_twos" = some (some (.ref f__twos)))
    (l__twos : K.lookup f__twos = some ⟨oc__twos, od__twos, .func (PySem.W.fnOf "_twos" "_twos" (defArgs s__twos) (defBody s__twos) (defScope s__twos) .none kV__twos dc__twos pm__twos an__twos cd__twos ct__twos), sl__twos⟩) (c__twos : PySem.W.codeIn K cd__twos "_twos" = true) (k__twos : PySem.W.keepIn K (.ref f__twos) = true)
    (a__order : PySem.W.nsIn K mainGlobals "_order" = some (some (.ref f__order)))
    (l__order : K.lookup f__order = some ⟨oc__order, od__order, .func (PySem.W.fnOf "_order" "_order" (defArgs s__order) (defBody s__order) (defScope s__order) .none kV__order dc__order pm__order an__order cd__order ct__order), sl__order⟩) (c__order : PySem.W.codeIn K cd__order "_order" = true) (k__order : PySem.W.keepIn K (.ref f__order) = true)
    (a_place_of : PySem.W.nsIn K mainGlobals "place_of" = some (some (.ref f_place_of)))
    (l_place_of : K.lookup f_place_of = some ⟨oc_place_of, od_place_of, .func (PySem.W.fnOf "place_of" "place_of" (defArgs s_place_of) (defBody s_place_of) (defScope s_place_of) .none kV_place_of dc_place_of pm_place_of an_place_of cd_place_of ct_place_of), sl_place_of⟩) (c_place_of : PySem.W.codeIn K cd_place_of "place_of" = true) (k_place_of : PySem.W.keepIn K (.ref f_place_of) = true)
    (a__number : PySem.W.nsIn K mainGlobals "_number" = some (some (.ref f__number)))
    (l__number : K.lookup f__number = some ⟨oc__number, od__number, .func (PySem.W.fnOf "_number" "_number" (defArgs s__number) (defBody s__number) (defScope s__number) .none kV__number dc__number pm__number an__number cd__number ct__number), sl__number⟩) (c__number : PySem.W.codeIn K cd__number "_number" = true) (k__number : PySem.W.keepIn K (.ref f__number) = true)
    (a_turning_set : PySem.W.nsIn K mainGlobals "turning_set" = some (some (.ref f_turning_set)))
    (l_turning_set : K.lookup f_turning_set = some ⟨oc_turning_set, od_turning_set, .func (PySem.W.fnOf "turning_set" "turning_set" (defArgs s_turning_set) (defBody s_turning_set) (defScope s_turning_set) .none kV_turning_set dc_turning_set pm_turning_set an_turning_set cd_turning_set ct_turning_set), sl_turning_set⟩) (c_turning_set : PySem.W.codeIn K cd_turning_set "turning_set" = true) (k_turning_set : PySem.W.keepIn K (.ref f_turning_set) = true)
    (a_line_digits : PySem.W.nsIn K mainGlobals "line_digits" = some (some (.ref f_line_digits)))
    (l_line_digits : K.lookup f_line_digits = some ⟨oc_line_digits, od_line_digits, .func (PySem.W.fnOf "line_digits" "line_digits" (defArgs s_line_digits) (defBody s_line_digits) (defScope s_line_digits) .none kV_line_digits dc_line_digits pm_line_digits an_line_digits cd_line_digits ct_line_digits), sl_line_digits⟩) (c_line_digits : PySem.W.codeIn K cd_line_digits "line_digits" = true) (k_line_digits : PySem.W.keepIn K (.ref f_line_digits) = true)
    (a__check_turn : PySem.W.nsIn K mainGlobals "_check_turn" = some (some (.ref f__check_turn)))
    (l__check_turn : K.lookup f__check_turn = some ⟨oc__check_turn, od__check_turn, .func (PySem.W.fnOf "_check_turn" "_check_turn" (defArgs s__check_turn) (defBody s__check_turn) (defScope s__check_turn) .none kV__check_turn dc__check_turn pm__check_turn an__check_turn cd__check_turn ct__check_turn), sl__check_turn⟩) (c__check_turn : PySem.W.codeIn K cd__check_turn "_check_turn" = true) (k__check_turn : PySem.W.keepIn K (.ref f__check_turn) = true)
    (a__law_begun : PySem.W.nsIn K mainGlobals "_law_begun" = some (some (.ref f__law_begun)))
    (l__law_begun : K.lookup f__law_begun = some ⟨oc__law_begun, od__law_begun, .func (PySem.W.fnOf "_law_begun" "_law_begun" (defArgs s__law_begun) (defBody s__law_begun) (defScope s__law_begun) .none kV__law_begun dc__law_begun pm__law_begun an__law_begun cd__law_begun ct__law_begun), sl__law_begun⟩) (c__law_begun : PySem.W.codeIn K cd__law_begun "_law_begun" = true) (k__law_begun : PySem.W.keepIn K (.ref f__law_begun) = true)
    (a__law_draw : PySem.W.nsIn K mainGlobals "_law_draw" = some (some (.ref f__law_draw)))
    (l__law_draw : K.lookup f__law_draw = some ⟨oc__law_draw, od__law_draw, .func (PySem.W.fnOf "_law_draw" "_law_draw" (defArgs s__law_draw) (defBody s__law_draw) (defScope s__law_draw) .none kV__law_draw dc__law_draw pm__law_draw an__law_draw cd__law_draw ct__law_draw), sl__law_draw⟩) (c__law_draw : PySem.W.codeIn K cd__law_draw "_law_draw" = true) (k__law_draw : PySem.W.keepIn K (.ref f__law_draw) = true)
    (a__law_of : PySem.W.nsIn K mainGlobals "_law_of" = some (some (.ref f__law_of)))
    (l__law_of : K.lookup f__law_of = some ⟨oc__law_of, od__law_of, .func (PySem.W.fnOf "_law_of" "_law_of" (defArgs s__law_of) (defBody s__law_of) (defScope s__law_of) .none kV__law_of dc__law_of pm__law_of an__law_of cd__law_of ct__law_of), sl__law_of⟩) (c__law_of : PySem.W.codeIn K cd__law_of "_law_of" = true) (k__law_of : PySem.W.keepIn K (.ref f__law_of) = true)
    (a__law_twos : PySem.W.nsIn K mainGlobals "_law_twos" = some (some (.ref f__law_twos)))
    (l__law_twos : K.lookup f__law_twos = some ⟨oc__law_twos, od__law_twos, .func (PySem.W.fnOf "_law_twos" "_law_twos" (defArgs s__law_twos) (defBody s__law_twos) (defScope s__law_twos) .none kV__law_twos dc__law_twos pm__law_twos an__law_twos cd__law_twos ct__law_twos), sl__law_twos⟩) (c__law_twos : PySem.W.codeIn K cd__law_twos "_law_twos" = true) (k__law_twos : PySem.W.keepIn K (.ref f__law_twos) = true)
    (a__law_shared : PySem.W.nsIn K mainGlobals "_law_shared" = some (some (.ref f__law_shared)))
    (l__law_shared : K.lookup f__law_shared = some ⟨oc__law_shared, od__law_shared, .func (PySem.W.fnOf "_law_shared" "_law_shared" (defArgs s__law_shared) (defBody s__law_shared) (defScope s__law_shared) .none kV__law_shared dc__law_shared pm__law_shared an__law_shared cd__law_shared ct__law_shared), sl__law_shared⟩) (c__law_shared : PySem.W.codeIn K cd__law_shared "_law_shared" = true) (k__law_shared : PySem.W.keepIn K (.ref f__law_shared) = true)
    (a__law_ratio : PySem.W.nsIn K mainGlobals "_law_ratio" = some (some (.ref f__law_ratio)))
    (l__law_ratio : K.lookup f__law_ratio = some ⟨oc__law_ratio, od__law_ratio, .func (PySem.W.fnOf "_law_ratio" "_law_ratio" (defArgs s__law_ratio) (defBody s__law_ratio) (defScope s__law_ratio) .none kV__law_ratio dc__law_ratio pm__law_ratio an__law_ratio cd__law_ratio ct__law_ratio), sl__law_ratio⟩) (c__law_ratio : PySem.W.codeIn K cd__law_ratio "_law_ratio" = true) (k__law_ratio : PySem.W.keepIn K (.ref f__law_ratio) = true)
    (a__law_double : PySem.W.nsIn K mainGlobals "_law_double" = some (some (.ref f__law_double)))
    (l__law_double : K.lookup f__law_double = some ⟨oc__law_double, od__law_double, .func (PySem.W.fnOf "_law_double" "_law_double" (defArgs s__law_double) (defBody s__law_double) (defScope s__law_double) .none kV__law_double dc__law_double pm__law_double an__law_double cd__law_double ct__law_double), sl__law_double⟩) (c__law_double : PySem.W.codeIn K cd__law_double "_law_double" = true) (k__law_double : PySem.W.keepIn K (.ref f__law_double) = true)
    (a__law_orbit : PySem.W.nsIn K mainGlobals "_law_orbit" = some (some (.ref f__law_orbit)))
    (l__law_orbit : K.lookup f__law_orbit = some ⟨oc__law_orbit, od__law_orbit, .func (PySem.W.fnOf "_law_orbit" "_law_orbit" (defArgs s__law_orbit) (defBody s__law_orbit) (defScope s__law_orbit) .none kV__law_orbit dc__law_orbit pm__law_orbit an__law_orbit cd__law_orbit ct__law_orbit), sl__law_orbit⟩) (c__law_orbit : PySem.W.codeIn K cd__law_orbit "_law_orbit" = true) (k__law_orbit : PySem.W.keepIn K (.ref f__law_orbit) = true)
    (a__law_ways : PySem.W.nsIn K mainGlobals "_law_ways" = some (some (.ref f__law_ways)))
    (l__law_ways : K.lookup f__law_ways = some ⟨oc__law_ways, od__law_ways, .func (PySem.W.fnOf "_law_ways" "_law_ways" (defArgs s__law_ways) (defBody s__law_ways) (defScope s__law_ways) .none kV__law_ways dc__law_ways pm__law_ways an__law_ways cd__law_ways ct__law_ways), sl__law_ways⟩) (c__law_ways : PySem.W.codeIn K cd__law_ways "_law_ways" = true) (k__law_ways : PySem.W.keepIn K (.ref f__law_ways) = true)
    (a__law_sorted : PySem.W.nsIn K mainGlobals "_law_sorted" = some (some (.ref f__law_sorted)))
    (l__law_sorted : K.lookup f__law_sorted = some ⟨oc__law_sorted, od__law_sorted, .func (PySem.W.fnOf "_law_sorted" "_law_sorted" (defArgs s__law_sorted) (defBody s__law_sorted) (defScope s__law_sorted) .none kV__law_sorted dc__law_sorted pm__law_sorted an__law_sorted cd__law_sorted ct__law_sorted), sl__law_sorted⟩) (c__law_sorted : PySem.W.codeIn K cd__law_sorted "_law_sorted" = true) (k__law_sorted : PySem.W.keepIn K (.ref f__law_sorted) = true)
    (a__law_all_places : PySem.W.nsIn K mainGlobals "_law_all_places" = some (some (.ref f__law_all_places)))
    (l__law_all_places : K.lookup f__law_all_places = some ⟨oc__law_all_places, od__law_all_places, .func (PySem.W.fnOf "_law_all_places" "_law_all_places" (defArgs s__law_all_places) (defBody s__law_all_places) (defScope s__law_all_places) .none kV__law_all_places dc__law_all_places pm__law_all_places an__law_all_places cd__law_all_places ct__law_all_places), sl__law_all_places⟩) (c__law_all_places : PySem.W.codeIn K cd__law_all_places "_law_all_places" = true) (k__law_all_places : PySem.W.keepIn K (.ref f__law_all_places) = true)
    (a__law_rounds : PySem.W.nsIn K mainGlobals "_law_rounds" = some (some (.ref f__law_rounds)))
    (l__law_rounds : K.lookup f__law_rounds = some ⟨oc__law_rounds, od__law_rounds, .func (PySem.W.fnOf "_law_rounds" "_law_rounds" (defArgs s__law_rounds) (defBody s__law_rounds) (defScope s__law_rounds) .none kV__law_rounds dc__law_rounds pm__law_rounds an__law_rounds cd__law_rounds ct__law_rounds), sl__law_rounds⟩) (c__law_rounds : PySem.W.codeIn K cd__law_rounds "_law_rounds" = true) (k__law_rounds : PySem.W.keepIn K (.ref f__law_rounds) = true)
    (a__law_turns : PySem.W.nsIn K mainGlobals "_law_turns" = some (some (.ref f__law_turns)))
    (l__law_turns : K.lookup f__law_turns = some ⟨oc__law_turns, od__law_turns, .func (PySem.W.fnOf "_law_turns" "_law_turns" (defArgs s__law_turns) (defBody s__law_turns) (defScope s__law_turns) .none kV__law_turns dc__law_turns pm__law_turns an__law_turns cd__law_turns ct__law_turns), sl__law_turns⟩) (c__law_turns : PySem.W.codeIn K cd__law_turns "_law_turns" = true) (k__law_turns : PySem.W.keepIn K (.ref f__law_turns) = true)
    (a__law_turn_of : PySem.W.nsIn K mainGlobals "_law_turn_of" = some (some (.ref f__law_turn_of)))
    (l__law_turn_of : K.lookup f__law_turn_of = some ⟨oc__law_turn_of, od__law_turn_of, .func (PySem.W.fnOf "_law_turn_of" "_law_turn_of" (defArgs s__law_turn_of) (defBody s__law_turn_of) (defScope s__law_turn_of) .none kV__law_turn_of dc__law_turn_of pm__law_turn_of an__law_turn_of cd__law_turn_of ct__law_turn_of), sl__law_turn_of⟩) (c__law_turn_of : PySem.W.codeIn K cd__law_turn_of "_law_turn_of" = true) (k__law_turn_of : PySem.W.keepIn K (.ref f__law_turn_of) = true)
    (a__law_refused : PySem.W.nsIn K mainGlobals "_law_refused" = some (some (.ref f__law_refused)))
    (l__law_refused : K.lookup f__law_refused = some ⟨oc__law_refused, od__law_refused, .func (PySem.W.fnOf "_law_refused" "_law_refused" (defArgs s__law_refused) (defBody s__law_refused) (defScope s__law_refused) .none kV__law_refused dc__law_refused pm__law_refused an__law_refused cd__law_refused ct__law_refused), sl__law_refused⟩) (c__law_refused : PySem.W.codeIn K cd__law_refused "_law_refused" = true) (k__law_refused : PySem.W.keepIn K (.ref f__law_refused) = true)
    (a_law : PySem.W.nsIn K mainGlobals "law" = some (some (.ref f_law)))
    (l_law : K.lookup f_law = some ⟨oc_law, od_law, .func (PySem.W.fnOf "law" "law" (defArgs s_law) (defBody s_law) (defScope s_law) .none kV_law dc_law pm_law an_law cd_law ct_law), sl_law⟩) (c_law : PySem.W.codeIn K cd_law "law" = true) (k_law : PySem.W.keepIn K (.ref f_law) = true)
    (z_abs : PySem.W.nsIn K mainGlobals "abs" = some none)
    (z_bool : PySem.W.nsIn K mainGlobals "bool" = some none)
    (z_divmod : PySem.W.nsIn K mainGlobals "divmod" = some none)
    (z_int : PySem.W.nsIn K mainGlobals "int" = some none)
    (z_isinstance : PySem.W.nsIn K mainGlobals "isinstance" = some none)
    (z_len : PySem.W.nsIn K mainGlobals "len" = some none)
    (z_list : PySem.W.nsIn K mainGlobals "list" = some none)
    (z_max : PySem.W.nsIn K mainGlobals "max" = some none)
    (z_min : PySem.W.nsIn K mainGlobals "min" = some none)
    (z_range : PySem.W.nsIn K mainGlobals "range" = some none)
    (z_repr : PySem.W.nsIn K mainGlobals "repr" = some none)
    (z_sorted : PySem.W.nsIn K mainGlobals "sorted" = some none)
    (z_str : PySem.W.nsIn K mainGlobals "str" = some none)
    (z_tuple : PySem.W.nsIn K mainGlobals "tuple" = some none)
    (i_gcd : PySem.W.nsIn K mainGlobals "gcd" = some (some (.builtin "math.gcd")))
    (c_COMMON : PySem.W.nsIn K mainGlobals "COMMON" = some (some (.int 56525307072677432455503587098948920087821904549333509463754043204567040000 t_COMMON)))
    (c_MOST_STEPS : PySem.W.nsIn K mainGlobals "MOST_STEPS" = some (some (.int 24 t_MOST_STEPS)))
    (c_MOST_TURN : PySem.W.nsIn K mainGlobals "MOST_TURN" = some (some (.int 24 t_MOST_TURN))) : Top K mg :=
  { g_is_whole := PySem.W.mg_of X G a_is_whole,
    f_is_whole := f_is_whole, fd_is_whole := PySem.W.fnOf "is_whole" "is_whole" (defArgs s_is_whole) (defBody s_is_whole) (defScope s_is_whole) .none kV_is_whole dc_is_whole pm_is_whole an_is_whole cd_is_whole ct_is_whole, F_is_whole := fun_mk (st := s_is_whole) l_is_whole c_is_whole k_is_whole, b_is_whole := (fun_mk (st := s_is_whole) l_is_whole c_is_whole k_is_whole).binds (ps := ["value"]) fun _ _ _ _ _ _ us hl => match us, hl with | [_], _ => rfl,
    g_reduced := PySem.W.mg_of X G a_reduced,
    f_reduced := f_reduced, fd_reduced := PySem.W.fnOf "reduced" "reduced" (defArgs s_reduced) (defBody s_reduced) (defScope s_reduced) .none kV_reduced dc_reduced pm_reduced an_reduced cd_reduced ct_reduced, F_reduced := fun_mk (st := s_reduced) l_reduced c_reduced k_reduced, b_reduced := (fun_mk (st := s_reduced) l_reduced c_reduced k_reduced).binds (ps := ["top", "bottom"]) fun _ _ _ _ _ _ us hl => match us, hl with | [_, _], _ => rfl,
    g_size := PySem.W.mg_of X G a_size,
    f_size := f_size, fd_size := PySem.W.fnOf "size" "size" (defArgs s_size) (defBody s_size) (defScope s_size) .none kV_size dc_size pm_size an_size cd_size ct_size, F_size := fun_mk (st := s_size) l_size c_size k_size, b_size := (fun_mk (st := s_size) l_size c_size k_size).binds (ps := ["x"]) fun _ _ _ _ _ _ us hl => match us, hl with | [_], _ => rfl,
    g_check_place := PySem.W.mg_of X G a_check_place,
    f_check_place := f_check_place, fd_check_place := PySem.W.fnOf "check_place" "check_place" (defArgs s_check_place) (defBody s_check_place) (defScope s_check_place) .none kV_check_place dc_check_place pm_check_place an_check_place cd_check_place ct_check_place, F_check_place := fun_mk (st := s_check_place) l_check_place c_check_place k_check_place, b_check_place := (fun_mk (st := s_check_place) l_check_place c_check_place k_check_place).binds (ps := ["value"]) fun _ _ _ _ _ _ us hl => match us, hl with | [_], _ => rfl,
    g_is_place := PySem.W.mg_of X G a_is_place,
    f_is_place := f_is_place, fd_is_place := PySem.W.fnOf "is_place" "is_place" (defArgs s_is_place) (defBody s_is_place) (defScope s_is_place) .none kV_is_place dc_is_place pm_is_place an_is_place cd_is_place ct_is_place, F_is_place := fun_mk (st := s_is_place) l_is_place c_is_place k_is_place, b_is_place := (fun_mk (st := s_is_place) l_is_place c_is_place k_is_place).binds (ps := ["value"]) fun _ _ _ _ _ _ us hl => match us, hl with | [_], _ => rfl,
    g_place := PySem.W.mg_of X G a_place,
    f_place := f_place, fd_place := PySem.W.fnOf "place" "place" (defArgs s_place) (defBody s_place) (defScope s_place) .none kV_place dc_place pm_place an_place cd_place ct_place, F_place := fun_mk (st := s_place) l_place c_place k_place, b_place := (fun_mk (st := s_place) l_place c_place k_place).binds (ps := ["top", "bottom"]) fun _ _ _ _ _ _ us hl => match us, hl with | [_, _], _ => rfl,
    g__is_in_reach := PySem.W.mg_of X G a__is_in_reach,
    f__is_in_reach := f__is_in_reach, fd__is_in_reach := PySem.W.fnOf "_is_in_reach" "_is_in_reach" (defArgs s__is_in_reach) (defBody s__is_in_reach) (defScope s__is_in_reach) .none kV__is_in_reach dc__is_in_reach pm__is_in_reach an__is_in_reach cd__is_in_reach ct__is_in_reach, F__is_in_reach := fun_mk (st := s__is_in_reach) l__is_in_reach c__is_in_reach k__is_in_reach, b__is_in_reach := (fun_mk (st := s__is_in_reach) l__is_in_reach c__is_in_reach k__is_in_reach).binds (ps := ["bottom"]) fun _ _ _ _ _ _ us hl => match us, hl with | [_], _ => rfl,
    g__twos := PySem.W.mg_of X G a__twos,
    f__twos := f__twos, fd__twos := PySem.W.fnOf "_twos" "_twos" (defArgs s__twos) (defBody s__twos) (defScope s__twos) .none kV__twos dc__twos pm__twos an__twos cd__twos ct__twos, F__twos := fun_mk (st := s__twos) l__twos c__twos k__twos, b__twos := (fun_mk (st := s__twos) l__twos c__twos k__twos).binds (ps := ["bottom"]) fun _ _ _ _ _ _ us hl => match us, hl with | [_], _ => rfl,
    g__order := PySem.W.mg_of X G a__order,
    f__order := f__order, fd__order := PySem.W.fnOf "_order" "_order" (defArgs s__order) (defBody s__order) (defScope s__order) .none kV__order dc__order pm__order an__order cd__order ct__order, F__order := fun_mk (st := s__order) l__order c__order k__order, b__order := (fun_mk (st := s__order) l__order c__order k__order).binds (ps := ["odd"]) fun _ _ _ _ _ _ us hl => match us, hl with | [_], _ => rfl,
    g_place_of := PySem.W.mg_of X G a_place_of,
    f_place_of := f_place_of, fd_place_of := PySem.W.fnOf "place_of" "place_of" (defArgs s_place_of) (defBody s_place_of) (defScope s_place_of) .none kV_place_of dc_place_of pm_place_of an_place_of cd_place_of ct_place_of, F_place_of := fun_mk (st := s_place_of) l_place_of c_place_of k_place_of, b_place_of := (fun_mk (st := s_place_of) l_place_of c_place_of k_place_of).binds (ps := ["head", "cycle"]) fun _ _ _ _ _ _ us hl => match us, hl with | [_, _], _ => rfl,
    g__number := PySem.W.mg_of X G a__number,
    f__number := f__number, fd__number := PySem.W.fnOf "_number" "_number" (defArgs s__number) (defBody s__number) (defScope s__number) .none kV__number dc__number pm__number an__number cd__number ct__number, F__number := fun_mk (st := s__number) l__number c__number k__number, b__number := (fun_mk (st := s__number) l__number c__number k__number).binds (ps := ["binary"]) fun _ _ _ _ _ _ us hl => match us, hl with | [_], _ => rfl,
    g_turning_set := PySem.W.mg_of X G a_turning_set,
    f_turning_set := f_turning_set, fd_turning_set := PySem.W.fnOf "turning_set" "turning_set" (defArgs s_turning_set) (defBody s_turning_set) (defScope s_turning_set) .none kV_turning_set dc_turning_set pm_turning_set an_turning_set cd_turning_set ct_turning_set, F_turning_set := fun_mk (st := s_turning_set) l_turning_set c_turning_set k_turning_set, b_turning_set := (fun_mk (st := s_turning_set) l_turning_set c_turning_set k_turning_set).binds (ps := ["p", "q"]) fun _ _ _ _ _ _ us hl => match us, hl with | [_, _], _ => rfl,
    g_line_digits := PySem.W.mg_of X G a_line_digits,
    f_line_digits := f_line_digits, fd_line_digits := PySem.W.fnOf "line_digits" "line_digits" (defArgs s_line_digits) (defBody s_line_digits) (defScope s_line_digits) .none kV_line_digits dc_line_digits pm_line_digits an_line_digits cd_line_digits ct_line_digits, F_line_digits := fun_mk (st := s_line_digits) l_line_digits c_line_digits k_line_digits, b_line_digits := (fun_mk (st := s_line_digits) l_line_digits c_line_digits k_line_digits).binds (ps := ["p", "q"]) fun _ _ _ _ _ _ us hl => match us, hl with | [_, _], _ => rfl,
    g__check_turn := PySem.W.mg_of X G a__check_turn,
    f__check_turn := f__check_turn, fd__check_turn := PySem.W.fnOf "_check_turn" "_check_turn" (defArgs s__check_turn) (defBody s__check_turn) (defScope s__check_turn) .none kV__check_turn dc__check_turn pm__check_turn an__check_turn cd__check_turn ct__check_turn, F__check_turn := fun_mk (st := s__check_turn) l__check_turn c__check_turn k__check_turn, b__check_turn := (fun_mk (st := s__check_turn) l__check_turn c__check_turn k__check_turn).binds (ps := ["p", "q"]) fun _ _ _ _ _ _ us hl => match us, hl with | [_, _], _ => rfl,
    g__law_begun := PySem.W.mg_of X G a__law_begun,
    f__law_begun := f__law_begun, fd__law_begun := PySem.W.fnOf "_law_begun" "_law_begun" (defArgs s__law_begun) (defBody s__law_begun) (defScope s__law_begun) .none kV__law_begun dc__law_begun pm__law_begun an__law_begun cd__law_begun ct__law_begun, F__law_begun := fun_mk (st := s__law_begun) l__law_begun c__law_begun k__law_begun, b__law_begun := (fun_mk (st := s__law_begun) l__law_begun c__law_begun k__law_begun).binds (ps := ["script", "k"]) fun _ _ _ _ _ _ us hl => match us, hl with | [_, _], _ => rfl,
    g__law_draw := PySem.W.mg_of X G a__law_draw,
    f__law_draw := f__law_draw, fd__law_draw := PySem.W.fnOf "_law_draw" "_law_draw" (defArgs s__law_draw) (defBody s__law_draw) (defScope s__law_draw) .none kV__law_draw dc__law_draw pm__law_draw an__law_draw cd__law_draw ct__law_draw, F__law_draw := fun_mk (st := s__law_draw) l__law_draw c__law_draw k__law_draw, b__law_draw := (fun_mk (st := s__law_draw) l__law_draw c__law_draw k__law_draw).binds (ps := ["m", "below"]) fun _ _ _ _ _ _ us hl => match us, hl with | [_, _], _ => rfl,
    g__law_of := PySem.W.mg_of X G a__law_of,
    f__law_of := f__law_of, fd__law_of := PySem.W.fnOf "_law_of" "_law_of" (defArgs s__law_of) (defBody s__law_of) (defScope s__law_of) .none kV__law_of dc__law_of pm__law_of an__law_of cd__law_of ct__law_of, F__law_of := fun_mk (st := s__law_of) l__law_of c__law_of k__law_of, b__law_of := (fun_mk (st := s__law_of) l__law_of c__law_of k__law_of).binds (ps := ["m", "some"]) fun _ _ _ _ _ _ us hl => match us, hl with | [_, _], _ => rfl,
    g__law_twos := PySem.W.mg_of X G a__law_twos,
    f__law_twos := f__law_twos, fd__law_twos := PySem.W.fnOf "_law_twos" "_law_twos" (defArgs s__law_twos) (defBody s__law_twos) (defScope s__law_twos) .none kV__law_twos dc__law_twos pm__law_twos an__law_twos cd__law_twos ct__law_twos, F__law_twos := fun_mk (st := s__law_twos) l__law_twos c__law_twos k__law_twos, b__law_twos := (fun_mk (st := s__law_twos) l__law_twos c__law_twos k__law_twos).binds (ps := ["count"]) fun _ _ _ _ _ _ us hl => match us, hl with | [_], _ => rfl,
    g__law_shared := PySem.W.mg_of X G a__law_shared,
    f__law_shared := f__law_shared, fd__law_shared := PySem.W.fnOf "_law_shared" "_law_shared" (defArgs s__law_shared) (defBody s__law_shared) (defScope s__law_shared) .none kV__law_shared dc__law_shared pm__law_shared an__law_shared cd__law_shared ct__law_shared, F__law_shared := fun_mk (st := s__law_shared) l__law_shared c__law_shared k__law_shared, b__law_shared := (fun_mk (st := s__law_shared) l__law_shared c__law_shared k__law_shared).binds (ps := ["a", "b"]) fun _ _ _ _ _ _ us hl => match us, hl with | [_, _], _ => rfl,
    g__law_ratio := PySem.W.mg_of X G a__law_ratio,
    f__law_ratio := f__law_ratio, fd__law_ratio := PySem.W.fnOf "_law_ratio" "_law_ratio" (defArgs s__law_ratio) (defBody s__law_ratio) (defScope s__law_ratio) .none kV__law_ratio dc__law_ratio pm__law_ratio an__law_ratio cd__law_ratio ct__law_ratio, F__law_ratio := fun_mk (st := s__law_ratio) l__law_ratio c__law_ratio k__law_ratio, b__law_ratio := (fun_mk (st := s__law_ratio) l__law_ratio c__law_ratio k__law_ratio).binds (ps := ["a", "b"]) fun _ _ _ _ _ _ us hl => match us, hl with | [_, _], _ => rfl,
    g__law_double := PySem.W.mg_of X G a__law_double,
    f__law_double := f__law_double, fd__law_double := PySem.W.fnOf "_law_double" "_law_double" (defArgs s__law_double) (defBody s__law_double) (defScope s__law_double) .none kV__law_double dc__law_double pm__law_double an__law_double cd__law_double ct__law_double, F__law_double := fun_mk (st := s__law_double) l__law_double c__law_double k__law_double, b__law_double := (fun_mk (st := s__law_double) l__law_double c__law_double k__law_double).binds (ps := ["x"]) fun _ _ _ _ _ _ us hl => match us, hl with | [_], _ => rfl,
    g__law_orbit := PySem.W.mg_of X G a__law_orbit,
    f__law_orbit := f__law_orbit, fd__law_orbit := PySem.W.fnOf "_law_orbit" "_law_orbit" (defArgs s__law_orbit) (defBody s__law_orbit) (defScope s__law_orbit) .none kV__law_orbit dc__law_orbit pm__law_orbit an__law_orbit cd__law_orbit ct__law_orbit, F__law_orbit := fun_mk (st := s__law_orbit) l__law_orbit c__law_orbit k__law_orbit, b__law_orbit := (fun_mk (st := s__law_orbit) l__law_orbit c__law_orbit k__law_orbit).binds (ps := ["x"]) fun _ _ _ _ _ _ us hl => match us, hl with | [_], _ => rfl,
    g__law_ways := PySem.W.mg_of X G a__law_ways,
    f__law_ways := f__law_ways, fd__law_ways := PySem.W.fnOf "_law_ways" "_law_ways" (defArgs s__law_ways) (defBody s__law_ways) (defScope s__law_ways) .none kV__law_ways dc__law_ways pm__law_ways an__law_ways cd__law_ways ct__law_ways, F__law_ways := fun_mk (st := s__law_ways) l__law_ways c__law_ways k__law_ways, b__law_ways := (fun_mk (st := s__law_ways) l__law_ways c__law_ways k__law_ways).binds (ps := ["x"]) fun _ _ _ _ _ _ us hl => match us, hl with | [_], _ => rfl,
    g__law_sorted := PySem.W.mg_of X G a__law_sorted,
    f__law_sorted := f__law_sorted, fd__law_sorted := PySem.W.fnOf "_law_sorted" "_law_sorted" (defArgs s__law_sorted) (defBody s__law_sorted) (defScope s__law_sorted) .none kV__law_sorted dc__law_sorted pm__law_sorted an__law_sorted cd__law_sorted ct__law_sorted, F__law_sorted := fun_mk (st := s__law_sorted) l__law_sorted c__law_sorted k__law_sorted, b__law_sorted := (fun_mk (st := s__law_sorted) l__law_sorted c__law_sorted k__law_sorted).binds (ps := ["rows"]) fun _ _ _ _ _ _ us hl => match us, hl with | [_], _ => rfl,
    g__law_all_places := PySem.W.mg_of X G a__law_all_places,
    f__law_all_places := f__law_all_places, fd__law_all_places := PySem.W.fnOf "_law_all_places" "_law_all_places" (defArgs s__law_all_places) (defBody s__law_all_places) (defScope s__law_all_places) .none kV__law_all_places dc__law_all_places pm__law_all_places an__law_all_places cd__law_all_places ct__law_all_places, F__law_all_places := fun_mk (st := s__law_all_places) l__law_all_places c__law_all_places k__law_all_places, b__law_all_places := (fun_mk (st := s__law_all_places) l__law_all_places c__law_all_places k__law_all_places).binds (ps := ["ahead", "again"]) fun _ _ _ _ _ _ us hl => match us, hl with | [_, _], _ => rfl,
    g__law_rounds := PySem.W.mg_of X G a__law_rounds,
    f__law_rounds := f__law_rounds, fd__law_rounds := PySem.W.fnOf "_law_rounds" "_law_rounds" (defArgs s__law_rounds) (defBody s__law_rounds) (defScope s__law_rounds) .none kV__law_rounds dc__law_rounds pm__law_rounds an__law_rounds cd__law_rounds ct__law_rounds, F__law_rounds := fun_mk (st := s__law_rounds) l__law_rounds c__law_rounds k__law_rounds, b__law_rounds := (fun_mk (st := s__law_rounds) l__law_rounds c__law_rounds k__law_rounds).binds (ps := ["again"]) fun _ _ _ _ _ _ us hl => match us, hl with | [_], _ => rfl,
    g__law_turns := PySem.W.mg_of X G a__law_turns,
    f__law_turns := f__law_turns, fd__law_turns := PySem.W.fnOf "_law_turns" "_law_turns" (defArgs s__law_turns) (defBody s__law_turns) (defScope s__law_turns) .none kV__law_turns dc__law_turns pm__law_turns an__law_turns cd__law_turns ct__law_turns, F__law_turns := fun_mk (st := s__law_turns) l__law_turns c__law_turns k__law_turns, b__law_turns := (fun_mk (st := s__law_turns) l__law_turns c__law_turns k__law_turns).binds (ps := ["most"]) fun _ _ _ _ _ _ us hl => match us, hl with | [_], _ => rfl,
    g__law_turn_of := PySem.W.mg_of X G a__law_turn_of,
    f__law_turn_of := f__law_turn_of, fd__law_turn_of := PySem.W.fnOf "_law_turn_of" "_law_turn_of" (defArgs s__law_turn_of) (defBody s__law_turn_of) (defScope s__law_turn_of) .none kV__law_turn_of dc__law_turn_of pm__law_turn_of an__law_turn_of cd__law_turn_of ct__law_turn_of, F__law_turn_of := fun_mk (st := s__law_turn_of) l__law_turn_of c__law_turn_of k__law_turn_of, b__law_turn_of := (fun_mk (st := s__law_turn_of) l__law_turn_of c__law_turn_of k__law_turn_of).binds (ps := ["members"]) fun _ _ _ _ _ _ us hl => match us, hl with | [_], _ => rfl,
    g__law_refused := PySem.W.mg_of X G a__law_refused,
    f__law_refused := f__law_refused, fd__law_refused := PySem.W.fnOf "_law_refused" "_law_refused" (defArgs s__law_refused) (defBody s__law_refused) (defScope s__law_refused) .none kV__law_refused dc__law_refused pm__law_refused an__law_refused cd__law_refused ct__law_refused, F__law_refused := fun_mk (st := s__law_refused) l__law_refused c__law_refused k__law_refused, b__law_refused := (fun_mk (st := s__law_refused) l__law_refused c__law_refused k__law_refused).binds (ps := ["p", "q"]) fun _ _ _ _ _ _ us hl => match us, hl with | [_, _], _ => rfl,
    g_law := PySem.W.mg_of X G a_law,
    f_law := f_law, fd_law := PySem.W.fnOf "law" "law" (defArgs s_law) (defBody s_law) (defScope s_law) .none kV_law dc_law pm_law an_law cd_law ct_law, F_law := fun_mk (st := s_law) l_law c_law k_law, b_law := (fun_mk (st := s_law) l_law c_law k_law).binds (ps := ["script"]) fun _ _ _ _ _ _ us hl => match us, hl with | [_], _ => rfl,
    c_DialError := c_DialError, gc_DialError := PySem.W.mg_of X G gc_DialError, x_DialError := ⟨⟨⟨_, _, _, _, _, _, _, _, _, _, _, _, _, _, _, xL_DialError, by rfl⟩, sa_DialError, eC_DialError, tC_DialError, kC_DialError⟩, ⟨ga_DialError, gg_DialError, eC_DialError, hC_DialError⟩⟩,
    c_NotPlace := c_NotPlace, gc_NotPlace := PySem.W.mg_of X G gc_NotPlace, x_NotPlace := ⟨⟨⟨_, _, _, _, _, _, _, _, _, _, _, _, _, _, _, xL_NotPlace, by rfl⟩, sa_NotPlace, eC_NotPlace, tC_NotPlace, kC_NotPlace⟩, ⟨ga_NotPlace, gg_NotPlace, eC_NotPlace, hC_NotPlace⟩⟩,
    xq_NotPlace := xq_NotPlace,
    c_NotTurn := c_NotTurn, gc_NotTurn := PySem.W.mg_of X G gc_NotTurn, x_NotTurn := ⟨⟨⟨_, _, _, _, _, _, _, _, _, _, _, _, _, _, _, xL_NotTurn, by rfl⟩, sa_NotTurn, eC_NotTurn, tC_NotTurn, kC_NotTurn⟩, ⟨ga_NotTurn, gg_NotTurn, eC_NotTurn, hC_NotTurn⟩⟩,
    xq_NotTurn := xq_NotTurn,
    e_NotPlace_NotTurn := exm_ofS eC_NotTurn iL_NotTurn tC_NotTurn e_NotPlace_NotTurn,
    e_NotTurn_NotTurn := exm_ofS eC_NotTurn iL_NotTurn tC_NotTurn e_NotTurn_NotTurn,
    z_abs := PySem.W.mg_none_of X G z_abs,
    z_bool := PySem.W.mg_none_of X G z_bool,
    z_divmod := PySem.W.mg_none_of X G z_divmod,
    z_int := PySem.W.mg_none_of X G z_int,
    z_isinstance := PySem.W.mg_none_of X G z_isinstance,
    z_len := PySem.W.mg_none_of X G z_len,
    z_list := PySem.W.mg_none_of X G z_list,
    z_max := PySem.W.mg_none_of X G z_max,
    z_min := PySem.W.mg_none_of X G z_min,
    z_range := PySem.W.mg_none_of X G z_range,
    z_repr := PySem.W.mg_none_of X G z_repr,
    z_sorted := PySem.W.mg_none_of X G z_sorted,
    z_str := PySem.W.mg_none_of X G z_str,
    z_tuple := PySem.W.mg_none_of X G z_tuple,
    i_gcd := PySem.W.mg_of X G i_gcd,
    t_COMMON := t_COMMON, c_COMMON := PySem.W.mg_of X G c_COMMON,
    t_MOST_STEPS := t_MOST_STEPS, c_MOST_STEPS := PySem.W.mg_of X G c_MOST_STEPS,
    t_MOST_TURN := t_MOST_TURN, c_MOST_TURN := PySem.W.mg_of X G c_MOST_TURN }
theorem all_mk {l : PySem.W.OpenLaw} {w : World} {K : PySem.W.Frag} {h : Heap} {mg : Str → Option Value} {fa : Addr} (X : K.In h) (G : h.Ns mainGlobals mg) (hfa : mg "law" = some (.ref fa)) {f_is_whole f_reduced f_size f_check_place f_is_place f_place f__is_in_reach f__twos f__order f_place_of f__number f_turning_set f_line_digits f__check_turn f__law_begun f__law_draw f__law_of f__law_twos f__law_shared f__law_ratio f__law_double f__law_orbit f__law_ways f__law_sorted f__law_all_places f__law_rounds f__law_turns f__law_turn_of f__law_refused f_law : Addr} {od_is_whole an_is_whole od_reduced an_reduced od_size an_size od_check_place an_check_place od_is_place an_is_place od_place an_place od__is_in_reach an__is_in_reach od__twos an__twos od__order an__order od_place_of an_place_of od__number an__number od_turning_set an_turning_set od_line_digits an_line_digits od__check_turn an__check_turn od__law_begun an__law_begun od__law_draw an__law_draw od__law_of an__law_of od__law_twos an__law_twos od__law_shared an__law_shared od__law_ratio an__law_ratio od__law_double an__law_double od__law_orbit an__law_orbit od__law_ways an__law_ways od__law_sorted an__law_sorted od__law_all_places an__law_all_places od__law_rounds an__law_rounds od__law_turns an__law_turns od__law_turn_of an__law_turn_of od__law_refused an__law_refused od_law an_law : Option Addr} {oc_is_whole kV_is_whole dc_is_whole pm_is_whole cd_is_whole ct_is_whole oc_reduced kV_reduced dc_reduced pm_reduced cd_reduced ct_reduced oc_size kV_size dc_size pm_size cd_size ct_size oc_check_place kV_check_place dc_check_place pm_check_place cd_check_place ct_check_place oc_is_place kV_is_place dc_is_place pm_is_place cd_is_place ct_is_place oc_place kV_place dc_place pm_place cd_place ct_place oc__is_in_reach kV__is_in_reach dc__is_in_reach pm__is_in_reach cd__is_in_reach ct__is_in_reach oc__twos kV__twos dc__twos pm__twos cd__twos ct__twos oc__order kV__order dc__order pm__order cd__order ct__order oc_place_of kV_place_of dc_place_of pm_place_of cd_place_of ct_place_of oc__number kV__number dc__number pm__number cd__number ct__number oc_turning_set kV_turning_set dc_turning_set pm_turning_set cd_turning_set ct_turning_set oc_line_digits kV_line_digits dc_line_digits pm_line_digits cd_line_digits ct_line_digits oc__check_turn kV__check_turn dc__check_turn pm__check_turn cd__check_turn ct__check_turn oc__law_begun kV__law_begun dc__law_begun pm__law_begun cd__law_begun ct__law_begun oc__law_draw kV__law_draw dc__law_draw pm__law_draw cd__law_draw ct__law_draw oc__law_of kV__law_of dc__law_of pm__law_of cd__law_of ct__law_of oc__law_twos kV__law_twos dc__law_twos pm__law_twos cd__law_twos ct__law_twos oc__law_shared kV__law_shared dc__law_shared pm__law_shared cd__law_shared ct__law_shared oc__law_ratio kV__law_ratio dc__law_ratio pm__law_ratio cd__law_ratio ct__law_ratio oc__law_double kV__law_double dc__law_double pm__law_double cd__law_double ct__law_double oc__law_orbit kV__law_orbit dc__law_orbit pm__law_orbit cd__law_orbit ct__law_orbit oc__law_ways kV__law_ways dc__law_ways pm__law_ways cd__law_ways ct__law_ways oc__law_sorted kV__law_sorted dc__law_sorted pm__law_sorted cd__law_sorted ct__law_sorted oc__law_all_places kV__law_all_places dc__law_all_places pm__law_all_places cd__law_all_places ct__law_all_places oc__law_rounds kV__law_rounds dc__law_rounds pm__law_rounds cd__law_rounds ct__law_rounds oc__law_turns kV__law_turns dc__law_turns pm__law_turns cd__law_turns ct__law_turns oc__law_turn_of kV__law_turn_of dc__law_turn_of pm__law_turn_of cd__law_turn_of ct__law_turn_of oc__law_refused kV__law_refused dc__law_refused pm__law_refused cd__law_refused ct__law_refused oc_law kV_law dc_law pm_law cd_law ct_law : Value} {sl_is_whole sl_reduced sl_size sl_check_place sl_is_place sl_place sl__is_in_reach sl__twos sl__order sl_place_of sl__number sl_turning_set sl_line_digits sl__check_turn sl__law_begun sl__law_draw sl__law_of sl__law_twos sl__law_shared sl__law_ratio sl__law_double sl__law_orbit sl__law_ways sl__law_sorted sl__law_all_places sl__law_rounds sl__law_turns sl__law_turn_of sl__law_refused sl_law : Array (Option Value)} {c_DialError N_DialError : Addr} {nm_DialError q_DialError : Str} {bs_DialError sub_DialError : List Value} {sn_DialError : List Str} {ab_DialError : Bool} {col_DialError : Option Bool} {dd_DialError : Option Addr} {m0_DialError m1_DialError m2_DialError m3_DialError m5_DialError : Option Value} {c_NotPlace N_NotPlace : Addr} {nm_NotPlace q_NotPlace : Str} {bs_NotPlace sub_NotPlace : List Value} {sn_NotPlace : List Str} {ab_NotPlace : Bool} {col_NotPlace : Option Bool} {dd_NotPlace : Option Addr} {m0_NotPlace m1_NotPlace m2_NotPlace m3_NotPlace m5_NotPlace : Option Value} {c_NotTurn N_NotTurn : Addr} {nm_NotTurn q_NotTurn : Str} {bs_NotTurn sub_NotTurn : List Value} {sn_NotTurn : List Str} {ab_NotTurn : Bool} {col_NotTurn : Option Bool} {dd_NotTurn : Option Addr} {m0_NotTurn m1_NotTurn m2_NotTurn m3_NotTurn m5_NotTurn : Option Value} {t_COMMON t_MOST_STEPS t_MOST_TURN : Tok}
    (gc_DialError : PySem.W.nsIn K mainGlobals "DialError" = some (some (.ref c_DialError)))
    (xL_DialError : K.lookup c_DialError = some (excClassObj nm_DialError q_DialError c_DialError N_DialError bs_DialError ([.type "ValueError", .type "Exception", .type "BaseException", .type "object"]) true sn_DialError sub_DialError ab_DialError col_DialError dd_DialError m0_DialError m1_DialError m2_DialError m3_DialError m5_DialError "ValueError.__new__"))
    (sa_DialError : PySem.W.findIn K (.ref c_DialError) "__setattr__" = some (some (.builtin "object.__setattr__")))
    (eC_DialError : PySem.W.subIn K (.ref c_DialError) (.type "BaseException") = some true)
    (tC_DialError : PySem.W.typeIn K (.ref c_DialError) = some (.type "type"))
    (kC_DialError : PySem.W.keepIn K (.ref c_DialError) = true)
    (ga_DialError : PySem.W.findIn K (.ref c_DialError) "__getattribute__" = some (some (.builtin "BaseException.__getattribute__")))
    (gg_DialError : PySem.W.findIn K (.ref c_DialError) "__getattr__" = some none)
    (hC_DialError : PySem.W.hasDictIn K c_DialError = true)
    (gc_NotPlace : PySem.W.nsIn K mainGlobals "NotPlace" = some (some (.ref c_NotPlace)))
    (xL_NotPlace : K.lookup c_NotPlace = some (excClassObj nm_NotPlace q_NotPlace c_NotPlace N_NotPlace bs_NotPlace (.ref c_DialError :: [.type "ValueError", .type "Exception", .type "BaseException", .type "object"]) true sn_NotPlace sub_NotPlace ab_NotPlace col_NotPlace dd_NotPlace m0_NotPlace m1_NotPlace m2_NotPlace m3_NotPlace m5_NotPlace "ValueError.__new__"))
    (sa_NotPlace : PySem.W.findIn K (.ref c_NotPlace) "__setattr__" = some (some (.builtin "object.__setattr__")))
    (eC_NotPlace : PySem.W.subIn K (.ref c_NotPlace) (.type "BaseException") = some true)
    (tC_NotPlace : PySem.W.typeIn K (.ref c_NotPlace) = some (.type "type"))
    (kC_NotPlace : PySem.W.keepIn K (.ref c_NotPlace) = true)
    (ga_NotPlace : PySem.W.findIn K (.ref c_NotPlace) "__getattribute__" = some (some (.builtin "BaseException.__getattribute__")))
    (gg_NotPlace : PySem.W.findIn K (.ref c_NotPlace) "__getattr__" = some none)
    (hC_NotPlace : PySem.W.hasDictIn K c_NotPlace = true)
    (xq_NotPlace : PySem.W.excIn K c_NotPlace [.type "ValueError", .type "Exception", .type "BaseException", .type "object"] "ValueError.__new__" = true)
    (gc_NotTurn : PySem.W.nsIn K mainGlobals "NotTurn" = some (some (.ref c_NotTurn)))
    (xL_NotTurn : K.lookup c_NotTurn = some (excClassObj nm_NotTurn q_NotTurn c_NotTurn N_NotTurn bs_NotTurn (.ref c_DialError :: [.type "ValueError", .type "Exception", .type "BaseException", .type "object"]) true sn_NotTurn sub_NotTurn ab_NotTurn col_NotTurn dd_NotTurn m0_NotTurn m1_NotTurn m2_NotTurn m3_NotTurn m5_NotTurn "ValueError.__new__"))
    (sa_NotTurn : PySem.W.findIn K (.ref c_NotTurn) "__setattr__" = some (some (.builtin "object.__setattr__")))
    (eC_NotTurn : PySem.W.subIn K (.ref c_NotTurn) (.type "BaseException") = some true)
    (tC_NotTurn : PySem.W.typeIn K (.ref c_NotTurn) = some (.type "type"))
    (kC_NotTurn : PySem.W.keepIn K (.ref c_NotTurn) = true)
    (ga_NotTurn : PySem.W.findIn K (.ref c_NotTurn) "__getattribute__" = some (some (.builtin "BaseException.__getattribute__")))
    (gg_NotTurn : PySem.W.findIn K (.ref c_NotTurn) "__getattr__" = some none)
    (hC_NotTurn : PySem.W.hasDictIn K c_NotTurn = true)
    (xq_NotTurn : PySem.W.excIn K c_NotTurn [.type "ValueError", .type "Exception", .type "BaseException", .type "object"] "ValueError.__new__" = true)
    (e_NotPlace_NotTurn : PySem.W.subIn K (.ref c_NotPlace) (.ref c_NotTurn) = some false)
    (e_NotTurn_NotTurn : PySem.W.subIn K (.ref c_NotTurn) (.ref c_NotTurn) = some true)
    (iL_NotTurn : PySem.W.isClsIn K c_NotTurn = true)
    (a_is_whole : PySem.W.nsIn K mainGlobals "is_whole" = some (some (.ref f_is_whole)))
    (l_is_whole : K.lookup f_is_whole = some ⟨oc_is_whole, od_is_whole, .func (PySem.W.fnOf "is_whole" "is_whole" (defArgs s_is_whole) (defBody s_is_whole) (defScope s_is_whole) .none kV_is_whole dc_is_whole pm_is_whole an_is_whole cd_is_whole ct_is_whole), sl_is_whole⟩) (c_is_whole : PySem.W.codeIn K cd_is_whole "is_whole" = true) (k_is_whole : PySem.W.keepIn K (.ref f_is_whole) = true)
    (a_reduced : PySem.W.nsIn K mainGlobals "reduced" = some (some (.ref f_reduced)))
    (l_reduced : K.lookup f_reduced = some ⟨oc_reduced, od_reduced, .func (PySem.W.fnOf "reduced" "reduced" (defArgs s_reduced) (defBody s_reduced) (defScope s_reduced) .none kV_reduced dc_reduced pm_reduced an_reduced cd_reduced ct_reduced), sl_reduced⟩) (c_reduced : PySem.W.codeIn K cd_reduced "reduced" = true) (k_reduced : PySem.W.keepIn K (.ref f_reduced) = true)
    (a_size : PySem.W.nsIn K mainGlobals "size" = some (some (.ref f_size)))
    (l_size : K.lookup f_size = some ⟨oc_size, od_size, .func (PySem.W.fnOf "size" "size" (defArgs s_size) (defBody s_size) (defScope s_size) .none kV_size dc_size pm_size an_size cd_size ct_size), sl_size⟩) (c_size : PySem.W.codeIn K cd_size "size" = true) (k_size : PySem.W.keepIn K (.ref f_size) = true)
    (a_check_place : PySem.W.nsIn K mainGlobals "check_place" = some (some (.ref f_check_place)))
    (l_check_place : K.lookup f_check_place = some ⟨oc_check_place, od_check_place, .func (PySem.W.fnOf "check_place" "check_place" (defArgs s_check_place) (defBody s_check_place) (defScope s_check_place) .none kV_check_place dc_check_place pm_check_place an_check_place cd_check_place ct_check_place), sl_check_place⟩) (c_check_place : PySem.W.codeIn K cd_check_place "check_place" = true) (k_check_place : PySem.W.keepIn K (.ref f_check_place) = true)
    (a_is_place : PySem.W.nsIn K mainGlobals "is_place" = some (some (.ref f_is_place)))
    (l_is_place : K.lookup f_is_place = some ⟨oc_is_place, od_is_place, .func (PySem.W.fnOf "is_place" "is_place" (defArgs s_is_place) (defBody s_is_place) (defScope s_is_place) .none kV_is_place dc_is_place pm_is_place an_is_place cd_is_place ct_is_place), sl_is_place⟩) (c_is_place : PySem.W.codeIn K cd_is_place "is_place" = true) (k_is_place : PySem.W.keepIn K (.ref f_is_place) = true)
    (a_place : PySem.W.nsIn K mainGlobals "place" = some (some (.ref f_place)))
    (l_place : K.lookup f_place = some ⟨oc_place, od_place, .func (PySem.W.fnOf "place" "place" (defArgs s_place) (defBody s_place) (defScope s_place) .none kV_place dc_place pm_place an_place cd_place ct_place), sl_place⟩) (c_place : PySem.W.codeIn K cd_place "place" = true) (k_place : PySem.W.keepIn K (.ref f_place) = true)
    (a__is_in_reach : PySem.W.nsIn K mainGlobals "_is_in_reach" = some (some (.ref f__is_in_reach)))
    (l__is_in_reach : K.lookup f__is_in_reach = some ⟨oc__is_in_reach, od__is_in_reach, .func (PySem.W.fnOf "_is_in_reach" "_is_in_reach" (defArgs s__is_in_reach) (defBody s__is_in_reach) (defScope s__is_in_reach) .none kV__is_in_reach dc__is_in_reach pm__is_in_reach an__is_in_reach cd__is_in_reach ct__is_in_reach), sl__is_in_reach⟩) (c__is_in_reach : PySem.W.codeIn K cd__is_in_reach "_is_in_reach" = true) (k__is_in_reach : PySem.W.keepIn K (.ref f__is_in_reach) = true)
    (a__twos : PySem.W.nsIn K mainGlobals "_twos" = some (some (.ref f__twos)))
    (l__twos : K.lookup f__twos = some ⟨oc__twos, od__twos, .func (PySem.W.fnOf "_twos" "_twos" (defArgs s__twos) (defBody s__twos) (defScope s__twos) .none kV__twos dc__twos pm__twos an__twos cd__twos ct__twos), sl__twos⟩) (c__twos : PySem.W.codeIn K cd__twos "_twos" = true) (k__twos : PySem.W.keepIn K (.ref f__twos) = true)
    (a__order : PySem.W.nsIn K mainGlobals "_order" = some (some (.ref f__order)))
    (l__order : K.lookup f__order = some ⟨oc__order, od__order, .func (PySem.W.fnOf "_order" "_order" (defArgs s__order) (defBody s__order) (defScope s__order) .none kV__order dc__order pm__order an__order cd__order ct__order), sl__order⟩) (c__order : PySem.W.codeIn K cd__order "_order" = true) (k__order : PySem.W.keepIn K (.ref f__order) = true)
    (a_place_of : PySem.W.nsIn K mainGlobals "place_of" = some (some (.ref f_place_of)))
    (l_place_of : K.lookup f_place_of = some ⟨oc_place_of, od_place_of, .func (PySem.W.fnOf "place_of" "place_of" (defArgs s_place_of) (defBody s_place_of) (defScope s_place_of) .none kV_place_of dc_place_of pm_place_of an_place_of cd_place_of ct_place_of), sl_place_of⟩) (c_place_of : PySem.W.codeIn K cd_place_of "place_of" = true) (k_place_of : PySem.W.keepIn K (.ref f_place_of) = true)
    (a__number : PySem.W.nsIn K mainGlobals "_number" = some (some (.ref f__number)))
    (l__number : K.lookup f__number = some ⟨oc__number, od__number, .func (PySem.W.fnOf "_number" "_number" (defArgs s__number) (defBody s__number) (defScope s__number) .none kV__number dc__number pm__number an__number cd__number ct__number), sl__number⟩) (c__number : PySem.W.codeIn K cd__number "_number" = true) (k__number : PySem.W.keepIn K (.ref f__number) = true)
    (a_turning_set : PySem.W.nsIn K mainGlobals "turning_set" = some (some (.ref f_turning_set)))
    (l_turning_set : K.lookup f_turning_set = some ⟨oc_turning_set, od_turning_set, .func (PySem.W.fnOf "turning_set" "turning_set" (defArgs s_turning_set) (defBody s_turning_set) (defScope s_turning_set) .none kV_turning_set dc_turning_set pm_turning_set an_turning_set cd_turning_set ct_turning_set), sl_turning_set⟩) (c_turning_set : PySem.W.codeIn K cd_turning_set "turning_set" = true) (k_turning_set : PySem.W.keepIn K (.ref f_turning_set) = true)
    (a_line_digits : PySem.W.nsIn K mainGlobals "line_digits" = some (some (.ref f_line_digits)))
    (l_line_digits : K.lookup f_line_digits = some ⟨oc_line_digits, od_line_digits, .func (PySem.W.fnOf "line_digits" "line_digits" (defArgs s_line_digits) (defBody s_line_digits) (defScope s_line_digits) .none kV_line_digits dc_line_digits pm_line_digits an_line_digits cd_line_digits ct_line_digits), sl_line_digits⟩) (c_line_digits : PySem.W.codeIn K cd_line_digits "line_digits" = true) (k_line_digits : PySem.W.keepIn K (.ref f_line_digits) = true)
    (a__check_turn : PySem.W.nsIn K mainGlobals "_check_turn" = some (some (.ref f__check_turn)))
    (l__check_turn : K.lookup f__check_turn = some ⟨oc__check_turn, od__check_turn, .func (PySem.W.fnOf "_check_turn" "_check_turn" (defArgs s__check_turn) (defBody s__check_turn) (defScope s__check_turn) .none kV__check_turn dc__check_turn pm__check_turn an__check_turn cd__check_turn ct__check_turn), sl__check_turn⟩) (c__check_turn : PySem.W.codeIn K cd__check_turn "_check_turn" = true) (k__check_turn : PySem.W.keepIn K (.ref f__check_turn) = true)
    (a__law_begun : PySem.W.nsIn K mainGlobals "_law_begun" = some (some (.ref f__law_begun)))
    (l__law_begun : K.lookup f__law_begun = some ⟨oc__law_begun, od__law_begun, .func (PySem.W.fnOf "_law_begun" "_law_begun" (defArgs s__law_begun) (defBody s__law_begun) (defScope s__law_begun) .none kV__law_begun dc__law_begun pm__law_begun an__law_begun cd__law_begun ct__law_begun), sl__law_begun⟩) (c__law_begun : PySem.W.codeIn K cd__law_begun "_law_begun" = true) (k__law_begun : PySem.W.keepIn K (.ref f__law_begun) = true)
    (a__law_draw : PySem.W.nsIn K mainGlobals "_law_draw" = some (some (.ref f__law_draw)))
    (l__law_draw : K.lookup f__law_draw = some ⟨oc__law_draw, od__law_draw, .func (PySem.W.fnOf "_law_draw" "_law_draw" (defArgs s__law_draw) (defBody s__law_draw) (defScope s__law_draw) .none kV__law_draw dc__law_draw pm__law_draw an__law_draw cd__law_draw ct__law_draw), sl__law_draw⟩) (c__law_draw : PySem.W.codeIn K cd__law_draw "_law_draw" = true) (k__law_draw : PySem.W.keepIn K (.ref f__law_draw) = true)
    (a__law_of : PySem.W.nsIn K mainGlobals "_law_of" = some (some (.ref f__law_of)))
    (l__law_of : K.lookup f__law_of = some ⟨oc__law_of, od__law_of, .func (PySem.W.fnOf "_law_of" "_law_of" (defArgs s__law_of) (defBody s__law_of) (defScope s__law_of) .none kV__law_of dc__law_of pm__law_of an__law_of cd__law_of ct__law_of), sl__law_of⟩) (c__law_of : PySem.W.codeIn K cd__law_of "_law_of" = true) (k__law_of : PySem.W.keepIn K (.ref f__law_of) = true)
    (a__law_twos : PySem.W.nsIn K mainGlobals "_law_twos" = some (some (.ref f__law_twos)))
    (l__law_twos : K.lookup f__law_twos = some ⟨oc__law_twos, od__law_twos, .func (PySem.W.fnOf "_law_twos" "_law_twos" (defArgs s__law_twos) (defBody s__law_twos) (defScope s__law_twos) .none kV__law_twos dc__law_twos pm__law_twos an__law_twos cd__law_twos ct__law_twos), sl__law_twos⟩) (c__law_twos : PySem.W.codeIn K cd__law_twos "_law_twos" = true) (k__law_twos : PySem.W.keepIn K (.ref f__law_twos) = true)
    (a__law_shared : PySem.W.nsIn K mainGlobals "_law_shared" = some (some (.ref f__law_shared)))
    (l__law_shared : K.lookup f__law_shared = some ⟨oc__law_shared, od__law_shared, .func (PySem.W.fnOf "_law_shared" "_law_shared" (defArgs s__law_shared) (defBody s__law_shared) (defScope s__law_shared) .none kV__law_shared dc__law_shared pm__law_shared an__law_shared cd__law_shared ct__law_shared), sl__law_shared⟩) (c__law_shared : PySem.W.codeIn K cd__law_shared "_law_shared" = true) (k__law_shared : PySem.W.keepIn K (.ref f__law_shared) = true)
    (a__law_ratio : PySem.W.nsIn K mainGlobals "_law_ratio" = some (some (.ref f__law_ratio)))
    (l__law_ratio : K.lookup f__law_ratio = some ⟨oc__law_ratio, od__law_ratio, .func (PySem.W.fnOf "_law_ratio" "_law_ratio" (defArgs s__law_ratio) (defBody s__law_ratio) (defScope s__law_ratio) .none kV__law_ratio dc__law_ratio pm__law_ratio an__law_ratio cd__law_ratio ct__law_ratio), sl__law_ratio⟩) (c__law_ratio : PySem.W.codeIn K cd__law_ratio "_law_ratio" = true) (k__law_ratio : PySem.W.keepIn K (.ref f__law_ratio) = true)
    (a__law_double : PySem.W.nsIn K mainGlobals "_law_double" = some (some (.ref f__law_double)))
    (l__law_double : K.lookup f__law_double = some ⟨oc__law_double, od__law_double, .func (PySem.W.fnOf "_law_double" "_law_double" (defArgs s__law_double) (defBody s__law_double) (defScope s__law_double) .none kV__law_double dc__law_double pm__law_double an__law_double cd__law_double ct__law_double), sl__law_double⟩) (c__law_double : PySem.W.codeIn K cd__law_double "_law_double" = true) (k__law_double : PySem.W.keepIn K (.ref f__law_double) = true)
    (a__law_orbit : PySem.W.nsIn K mainGlobals "_law_orbit" = some (some (.ref f__law_orbit)))
    (l__law_orbit : K.lookup f__law_orbit = some ⟨oc__law_orbit, od__law_orbit, .func (PySem.W.fnOf "_law_orbit" "_law_orbit" (defArgs s__law_orbit) (defBody s__law_orbit) (defScope s__law_orbit) .none kV__law_orbit dc__law_orbit pm__law_orbit an__law_orbit cd__law_orbit ct__law_orbit), sl__law_orbit⟩) (c__law_orbit : PySem.W.codeIn K cd__law_orbit "_law_orbit" = true) (k__law_orbit : PySem.W.keepIn K (.ref f__law_orbit) = true)
    (a__law_ways : PySem.W.nsIn K mainGlobals "_law_ways" = some (some (.ref f__law_ways)))
    (l__law_ways : K.lookup f__law_ways = some ⟨oc__law_ways, od__law_ways, .func (PySem.W.fnOf "_law_ways" "_law_ways" (defArgs s__law_ways) (defBody s__law_ways) (defScope s__law_ways) .none kV__law_ways dc__law_ways pm__law_ways an__law_ways cd__law_ways ct__law_ways), sl__law_ways⟩) (c__law_ways : PySem.W.codeIn K cd__law_ways "_law_ways" = true) (k__law_ways : PySem.W.keepIn K (.ref f__law_ways) = true)
    (a__law_sorted : PySem.W.nsIn K mainGlobals "_law_sorted" = some (some (.ref f__law_sorted)))
    (l__law_sorted : K.lookup f__law_sorted = some ⟨oc__law_sorted, od__law_sorted, .func (PySem.W.fnOf "_law_sorted" "_law_sorted" (defArgs s__law_sorted) (defBody s__law_sorted) (defScope s__law_sorted) .none kV__law_sorted dc__law_sorted pm__law_sorted an__law_sorted cd__law_sorted ct__law_sorted), sl__law_sorted⟩) (c__law_sorted : PySem.W.codeIn K cd__law_sorted "_law_sorted" = true) (k__law_sorted : PySem.W.keepIn K (.ref f__law_sorted) = true)
    (a__law_all_places : PySem.W.nsIn K mainGlobals "_law_all_places" = some (some (.ref f__law_all_places)))
    (l__law_all_places : K.lookup f__law_all_places = some ⟨oc__law_all_places, od__law_all_places, .func (PySem.W.fnOf "_law_all_places" "_law_all_places" (defArgs s__law_all_places) (defBody s__law_all_places) (defScope s__law_all_places) .none kV__law_all_places dc__law_all_places pm__law_all_places an__law_all_places cd__law_all_places ct__law_all_places), sl__law_all_places⟩) (c__law_all_places : PySem.W.codeIn K cd__law_all_places "_law_all_places" = true) (k__law_all_places : PySem.W.keepIn K (.ref f__law_all_places) = true)
    (a__law_rounds : PySem.W.nsIn K mainGlobals "_law_rounds" = some (some (.ref f__law_rounds)))
    (l__law_rounds : K.lookup f__law_rounds = some ⟨oc__law_rounds, od__law_rounds, .func (PySem.W.fnOf "_law_rounds" "_law_rounds" (defArgs s__law_rounds) (defBody s__law_rounds) (defScope s__law_rounds) .none kV__law_rounds dc__law_rounds pm__law_rounds an__law_rounds cd__law_rounds ct__law_rounds), sl__law_rounds⟩) (c__law_rounds : PySem.W.codeIn K cd__law_rounds "_law_rounds" = true) (k__law_rounds : PySem.W.keepIn K (.ref f__law_rounds) = true)
    (a__law_turns : PySem.W.nsIn K mainGlobals "_law_turns" = some (some (.ref f__law_turns)))
    (l__law_turns : K.lookup f__law_turns = some ⟨oc__law_turns, od__law_turns, .func (PySem.W.fnOf "_law_turns" "_law_turns" (defArgs s__law_turns) (defBody s__law_turns) (defScope s__law_turns) .none kV__law_turns dc__law_turns pm__law_turns an__law_turns cd__law_turns ct__law_turns), sl__law_turns⟩) (c__law_turns : PySem.W.codeIn K cd__law_turns "_law_turns" = true) (k__law_turns : PySem.W.keepIn K (.ref f__law_turns) = true)
    (a__law_turn_of : PySem.W.nsIn K mainGlobals "_law_turn_of" = some (some (.ref f__law_turn_of)))
    (l__law_turn_of : K.lookup f__law_turn_of = some ⟨oc__law_turn_of, od__law_turn_of, .func (PySem.W.fnOf "_law_turn_of" "_law_turn_of" (defArgs s__law_turn_of) (defBody s__law_turn_of) (defScope s__law_turn_of) .none kV__law_turn_of dc__law_turn_of pm__law_turn_of an__law_turn_of cd__law_turn_of ct__law_turn_of), sl__law_turn_of⟩) (c__law_turn_of : PySem.W.codeIn K cd__law_turn_of "_law_turn_of" = true) (k__law_turn_of : PySem.W.keepIn K (.ref f__law_turn_of) = true)
    (a__law_refused : PySem.W.nsIn K mainGlobals "_law_refused" = some (some (.ref f__law_refused)))
    (l__law_refused : K.lookup f__law_refused = some ⟨oc__law_refused, od__law_refused, .func (PySem.W.fnOf "_law_refused" "_law_refused" (defArgs s__law_refused) (defBody s__law_refused) (defScope s__law_refused) .none kV__law_refused dc__law_refused pm__law_refused an__law_refused cd__law_refused ct__law_refused), sl__law_refused⟩) (c__law_refused : PySem.W.codeIn K cd__law_refused "_law_refused" = true) (k__law_refused : PySem.W.keepIn K (.ref f__law_refused) = true)
    (a_law : PySem.W.nsIn K mainGlobals "law" = some (some (.ref f_law)))
    (l_law : K.lookup f_law = some ⟨oc_law, od_law, .func (PySem.W.fnOf "law" "law" (defArgs s_law) (defBody s_law) (defScope s_law) .none kV_law dc_law pm_law an_law cd_law ct_law), sl_law⟩) (c_law : PySem.W.codeIn K cd_law "law" = true) (k_law : PySem.W.keepIn K (.ref f_law) = true)
    (z_abs : PySem.W.nsIn K mainGlobals "abs" = some none)
    (z_bool : PySem.W.nsIn K mainGlobals "bool" = some none)
    (z_divmod : PySem.W.nsIn K mainGlobals "divmod" = some none)
    (z_int : PySem.W.nsIn K mainGlobals "int" = some none)
    (z_isinstance : PySem.W.nsIn K mainGlobals "isinstance" = some none)
    (z_len : PySem.W.nsIn K mainGlobals "len" = some none)
    (z_list : PySem.W.nsIn K mainGlobals "list" = some none)
    (z_max : PySem.W.nsIn K mainGlobals "max" = some none)
    (z_min : PySem.W.nsIn K mainGlobals "min" = some none)
    (z_range : PySem.W.nsIn K mainGlobals "range" = some none)
    (z_repr : PySem.W.nsIn K mainGlobals "repr" = some none)
    (z_sorted : PySem.W.nsIn K mainGlobals "sorted" = some none)
    (z_str : PySem.W.nsIn K mainGlobals "str" = some none)
    (z_tuple : PySem.W.nsIn K mainGlobals "tuple" = some none)
    (i_gcd : PySem.W.nsIn K mainGlobals "gcd" = some (some (.builtin "math.gcd")))
    (c_COMMON : PySem.W.nsIn K mainGlobals "COMMON" = some (some (.int 56525307072677432455503587098948920087821904549333509463754043204567040000 t_COMMON)))
    (c_MOST_STEPS : PySem.W.nsIn K mainGlobals "MOST_STEPS" = some (some (.int 24 t_MOST_STEPS)))
    (c_MOST_TURN : PySem.W.nsIn K mainGlobals "MOST_TURN" = some (some (.int 24 t_MOST_TURN))) :
    ∃ fd : FuncData, (∀ (s : Shared) (v : Value), BindsTo s fd ⟨[v], []⟩ [("script", v)]) ∧ ∀ base : Heap, K.In base → base.Ns mainGlobals mg → FnG l.prog w K mg base CX0 9 fa fd ["script"] (sp_law K) := by
  have e := hfa.symm.trans (PySem.W.mg_of X G a_law)
  cases e
  exact ⟨_, fun s v => .of_eq rfl, fun base _ _ => ok_law (top_mk X G gc_DialError xL_DialError sa_DialError eC_DialError tC_DialError kC_DialError ga_DialError gg_DialError hC_DialError gc_NotPlace xL_NotPlace sa_NotPlace eC_NotPlace tC_NotPlace kC_NotPlace ga_NotPlace gg_NotPlace hC_NotPlace xq_NotPlace gc_NotTurn xL_NotTurn sa_NotTurn eC_NotTurn tC_NotTurn kC_NotTurn ga_NotTurn gg_NotTurn hC_NotTurn xq_NotTurn e_NotPlace_NotTurn e_NotTurn_NotTurn iL_NotTurn a_is_whole l_is_whole c_is_whole k_is_whole a_reduced l_reduced c_reduced k_reduced a_size l_size c_size k_size a_check_place l_check_place c_check_place k_check_place a_is_place l_is_place c_is_place k_is_place a_place l_place c_place k_place a__is_in_reach l__is_in_reach c__is_in_reach k__is_in_reach a__twos l__twos c__twos k__twos a__order l__order c__order k__order a_place_of l_place_of c_place_of k_place_of a__number l__number c__number k__number a_turning_set l_turning_set c_turning_set k_turning_set a_line_digits l_line_digits c_line_digits k_line_digits a__check_turn l__check_turn c__check_turn k__check_turn a__law_begun l__law_begun c__law_begun k__law_begun a__law_draw l__law_draw c__law_draw k__law_draw a__law_of l__law_of c__law_of k__law_of a__law_twos l__law_twos c__law_twos k__law_twos a__law_shared l__law_shared c__law_shared k__law_shared a__law_ratio l__law_ratio c__law_ratio k__law_ratio a__law_double l__law_double c__law_double k__law_double a__law_orbit l__law_orbit c__law_orbit k__law_orbit a__law_ways l__law_ways c__law_ways k__law_ways a__law_sorted l__law_sorted c__law_sorted k__law_sorted a__law_all_places l__law_all_places c__law_all_places k__law_all_places a__law_rounds l__law_rounds c__law_rounds k__law_rounds a__law_turns l__law_turns c__law_turns k__law_turns a__law_turn_of l__law_turn_of c__law_turn_of k__law_turn_of a__law_refused l__law_refused c__law_refused k__law_refused a_law l_law c_law k_law z_abs z_bool z_divmod z_int z_isinstance z_len z_list z_max z_min z_range z_repr z_sorted z_str z_tuple i_gcd c_COMMON c_MOST_STEPS c_MOST_TURN)⟩
end Tw
open PySem PySem.W PyProof.Rows
set_option maxHeartbeats 0 in
theorem PySem.Challenge.cw_twicedial_k44_whole_turning_sets_holds : PySem.Challenge.rw_twicedial_k44_whole_turning_sets.Holds := by
  w_on; o_law; k_head; (case hw => w_witness2)
  k_fill
  refine Tw.walk_ofG (l := PySem.Challenge.rw_twicedial_k44_whole_turning_sets) (n := 63) (k := 9) (x := "script") (CX := fun _ => L2.CX0) (sp := fun w => Tw.sp_law _) rfl (by decide) rfl ⟨rfl, by decide, by decide⟩ (fun w h Y => PySem.W.kIn_of Y) ?F (fun _ _ a ns hl hb _ hS => ⟨a, ns, rfl, hS, hl, hb, fun _ => rfl⟩) (fun _ _ _ _ _ h => h)
  case F =>
    intro w mg fa h KX G hmg
    refine' Tw.all_mk KX G hmg ?gc_DialError ?xL_DialError ?sa_DialError ?eC_DialError ?tC_DialError ?kC_DialError ?ga_DialError ?gg_DialError ?hC_DialError ?gc_NotPlace ?xL_NotPlace ?sa_NotPlace ?eC_NotPlace ?tC_NotPlace ?kC_NotPlace ?ga_NotPlace ?gg_NotPlace ?hC_NotPlace ?xq_NotPlace ?gc_NotTurn ?xL_NotTurn ?sa_NotTurn ?eC_NotTurn ?tC_NotTurn ?kC_NotTurn ?ga_NotTurn ?gg_NotTurn ?hC_NotTurn ?xq_NotTurn ?e_NotPlace_NotTurn ?e_NotTurn_NotTurn ?iL_NotTurn ?a_is_whole ?l_is_whole ?c_is_whole ?k_is_whole ?a_reduced ?l_reduced ?c_reduced ?k_reduced ?a_size ?l_size ?c_size ?k_size ?a_check_place ?l_check_place ?c_check_place ?k_check_place ?a_is_place ?l_is_place ?c_is_place ?k_is_place ?a_place ?l_place ?c_place ?k_place ?a__is_in_reach ?l__is_in_reach ?c__is_in_reach ?k__is_in_reach ?a__twos ?l__twos ?c__twos ?k__twos ?a__order ?l__order ?c__order ?k__order ?a_place_of ?l_place_of ?c_place_of ?k_place_of ?a__number ?l__number ?c__number ?k__number ?a_turning_set ?l_turning_set ?c_turning_set ?k_turning_set ?a_line_digits ?l_line_digits ?c_line_digits ?k_line_digits ?a__check_turn ?l__check_turn ?c__check_turn ?k__check_turn ?a__law_begun ?l__law_begun ?c__law_begun ?k__law_begun ?a__law_draw ?l__law_draw ?c__law_draw ?k__law_draw ?a__law_of ?l__law_of ?c__law_of ?k__law_of ?a__law_twos ?l__law_twos ?c__law_twos ?k__law_twos ?a__law_shared ?l__law_shared ?c__law_shared ?k__law_shared ?a__law_ratio ?l__law_ratio ?c__law_ratio ?k__law_ratio ?a__law_double ?l__law_double ?c__law_double ?k__law_double ?a__law_orbit ?l__law_orbit ?c__law_orbit ?k__law_orbit ?a__law_ways ?l__law_ways ?c__law_ways ?k__law_ways ?a__law_sorted ?l__law_sorted ?c__law_sorted ?k__law_sorted ?a__law_all_places ?l__law_all_places ?c__law_all_places ?k__law_all_places ?a__law_rounds ?l__law_rounds ?c__law_rounds ?k__law_rounds ?a__law_turns ?l__law_turns ?c__law_turns ?k__law_turns ?a__law_turn_of ?l__law_turn_of ?c__law_turn_of ?k__law_turn_of ?a__law_refused ?l__law_refused ?c__law_refused ?k__law_refused ?a_law ?l_law ?c_law ?k_law ?z_abs ?z_bool ?z_divmod ?z_int ?z_isinstance ?z_len ?z_list ?z_max ?z_min ?z_range ?z_repr ?z_sorted ?z_str ?z_tuple ?i_gcd ?c_COMMON ?c_MOST_STEPS ?c_MOST_TURN
    (case gc_DialError => k_is); (case xL_DialError => k_is); (case sa_DialError => k_is); (case eC_DialError => k_is); (case tC_DialError => k_is); (case kC_DialError => k_is); (case ga_DialError => k_is); (case gg_DialError => k_is); (case hC_DialError => k_is); (case gc_NotPlace => k_is); (case xL_NotPlace => k_is); (case sa_NotPlace => k_is); (case eC_NotPlace => k_is); (case tC_NotPlace => k_is); (case kC_NotPlace => k_is); (case ga_NotPlace => k_is); (case gg_NotPlace => k_is); (case hC_NotPlace => k_is); (case xq_NotPlace => first | k_exc | k_is); (case gc_NotTurn => k_is); (case xL_NotTurn => k_is); (case sa_NotTurn => k_is); (case eC_NotTurn => k_is); (case tC_NotTurn => k_is); (case kC_NotTurn => k_is); (case ga_NotTurn => k_is); (case gg_NotTurn => k_is); (case hC_NotTurn => k_is); (case xq_NotTurn => first | k_exc | k_is); (case e_NotPlace_NotTurn => first | rfl | k_is); (case e_NotTurn_NotTurn => first | rfl | k_is); (case iL_NotTurn => k_is); (case a_is_whole => k_is); (case l_is_whole => k_is); (case c_is_whole => k_is); (case k_is_whole => k_is); (case a_reduced => k_is); (case l_reduced => k_is); (case c_reduced => k_is); (case k_reduced => k_is); (case a_size => k_is); (case l_size => k_is); (case c_size => k_is); (case k_size => k_is); (case a_check_place => k_is); (case l_check_place => k_is); (case c_check_place => k_is); (case k_check_place => k_is); (case a_is_place => k_is); (case l_is_place => k_is); (case c_is_place => k_is); (case k_is_place => k_is); (case a_place => k_is); (case l_place => k_is); (case c_place => k_is); (case k_place => k_is); (case a__is_in_reach => k_is); (case l__is_in_reach => k_is); (case c__is_in_reach => k_is); (case k__is_in_reach => k_is); (case a__twos => k_is); (case l__twos => k_is); (case c__twos => k_is); (case k__twos => k_is); (case a__order => k_is); (case l__order => k_is); (case c__order => k_is); (case k__order => k_is); (case a_place_of => k_is); (case l_place_of => k_is); (case c_place_of => k_is); (case k_place_of => k_is); (case a__number => k_is); (case l__number => k_is); (case c__number => k_is); (case k__number => k_is); (case a_turning_set => k_is); (case l_turning_set => k_is); (case c_turning_set => k_is); (case k_turning_set => k_is); (case a_line_digits => k_is); (case l_line_digits => k_is); (case c_line_digits => k_is); (case k_line_digits => k_is); (case a__check_turn => k_is); (case l__check_turn => k_is); (case c__check_turn => k_is); (case k__check_turn => k_is); (case a__law_begun => k_is); (case l__law_begun => k_is); (case c__law_begun => k_is); (case k__law_begun => k_is); (case a__law_draw => k_is); (case l__law_draw => k_is); (case c__law_draw => k_is); (case k__law_draw => k_is); (case a__law_of => k_is); (case l__law_of => k_is); (case c__law_of => k_is); (case k__law_of => k_is); (case a__law_twos => k_is); (case l__law_twos => k_is); (case c__law_twos => k_is); (case k__law_twos => k_is); (case a__law_shared => k_is); (case l__law_shared => k_is); (case c__law_shared => k_is); (case k__law_shared => k_is); (case a__law_ratio => k_is); (case l__law_ratio => k_is); (case c__law_ratio => k_is); (case k__law_ratio => k_is); (case a__law_double => k_is); (case l__law_double => k_is); (case c__law_double => k_is); (case k__law_double => k_is); (case a__law_orbit => k_is); (case l__law_orbit => k_is); (case c__law_orbit => k_is); (case k__law_orbit => k_is); (case a__law_ways => k_is); (case l__law_ways => k_is); (case c__law_ways => k_is); (case k__law_ways => k_is); (case a__law_sorted => k_is); (case l__law_sorted => k_is); (case c__law_sorted => k_is); (case k__law_sorted => k_is); (case a__law_all_places => k_is); (case l__law_all_places => k_is); (case c__law_all_places => k_is); (case k__law_all_places => k_is); (case a__law_rounds => k_is); (case l__law_rounds => k_is); (case c__law_rounds => k_is); (case k__law_rounds => k_is); (case a__law_turns => k_is); (case l__law_turns => k_is); (case c__law_turns => k_is); (case k__law_turns => k_is); (case a__law_turn_of => k_is); (case l__law_turn_of => k_is); (case c__law_turn_of => k_is); (case k__law_turn_of => k_is); (case a__law_refused => k_is); (case l__law_refused => k_is); (case c__law_refused => k_is); (case k__law_refused => k_is); (case a_law => k_is); (case l_law => k_is); (case c_law => k_is); (case k_law => k_is); (case z_abs => k_is); (case z_bool => k_is); (case z_divmod => k_is); (case z_int => k_is); (case z_isinstance => k_is); (case z_len => k_is); (case z_list => k_is); (case z_max => k_is); (case z_min => k_is); (case z_range => k_is); (case z_repr => k_is); (case z_sorted => k_is); (case z_str => k_is); (case z_tuple => k_is); (case i_gcd => k_is); (case c_COMMON => k_is); (case c_MOST_STEPS => k_is); (case c_MOST_TURN => k_is)
