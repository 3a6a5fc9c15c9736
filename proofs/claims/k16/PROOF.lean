import PyProof.Rows.All
import Wide.All
import OpenK.AllK
import Wide.FinOn
import HandS.ForMost
import HandS.Wide
import HandS.WideBits
import HandS.Gcd
import HandS.EndBits
import HandS.Steps
import HandS.Style
import HandS.IsInst
import HandS.Deep
import HandS.StrMore
import HandS.SortRule
import HandS.TupSets
import HandS.ExcInit
import HandS.ExcOwn
import HandS.ExcField
import HandS.FStr
import HandS.TryOnly
import HandS.ForSpec
import HandS.ExcIs
import HandS.Lambda
import KE.KBits
import HandS.IntHex
import HandS.TupAny
import HandS.Zip
import HandS.Conv
import PySem.Challenge.RW_twicedial_k16_lesser_or_greater
set_option Elab.async false
set_option linter.all false
set_option maxRecDepth 100000
set_option maxHeartbeats 8000000
namespace Tw
open PySem PySem.Spec PyProof.Rows L2
/-! ### heaps: what stays -/
/-- all tracked objects but dicts stay -/
def Keep (H H' : Hp) : Prop := ∀ b o, (∀ kvs, o ≠ .dK kvs) → H b = some o → H' b = some o
theorem Keep.refl (H : Hp) : Keep H H := fun _ _ _ h => h
theorem Keep.of {H H' : Hp} (e : Same H H') : Keep H H' := fun b o _ h => e b o h
theorem Keep.trans {H H1 H2 : Hp} (a : Keep H H1) (b : Keep H1 H2) : Keep H H2 := fun c o n h => b c o n (a c o n h)
theorem Keep.rd {H H' : Hp} {a : Addr} {u : HO} (e : Keep H H') (n : ∀ kvs, u ≠ .dK kvs) (h : Rd H a u) : Rd H' a u := by
  rcases h with h | ⟨o, h⟩
  · exact .inl (e a _ n h)
  · exact .inr ⟨o, e a _ (fun kvs z => nomatch z) h⟩
theorem Keep.seqL {K : PySem.W.Frag} {H H' : Hp} {a : Addr} {xs : List V} (e : Keep H H') (h : SqL K H a xs) : SqL K H' a xs := by
  rcases h with h | h
  · exact .inl (e.rd (fun _ z => nomatch z) h)
  · exact .inr h
theorem Keep.seqT {K : PySem.W.Frag} {H H' : Hp} {a : Addr} {xs : List V} (e : Keep H H') (h : SqT K H a xs) : SqT K H' a xs := by
  rcases h with h | h
  · exact .inl (e.rd (fun _ z => nomatch z) h)
  · exact .inr h
theorem Keep.l {H H' : Hp} {a : Addr} {xs : List V} (e : Keep H H') (h : H a = some (.lst xs)) : H' a = some (.lst xs) := e a _ (fun _ z => nomatch z) h
theorem Keep.t {H H' : Hp} {a : Addr} {xs : List V} (e : Keep H H') (h : H a = some (.tup xs)) : H' a = some (.tup xs) := e a _ (fun _ z => nomatch z) h
theorem len_ok {n : Nat} (h : n ≤ 1000) : n ≤ sizeLine := Nat.le_trans h (by decide)
theorem len_lt {n : Nat} (h : n ≤ 1000) : n < sizeLine := Nat.lt_of_le_of_lt h (by decide)
theorem same_new {H : Hp} {p : Addr} {o : HO} (h : H p = none) : Same H (upd H p o) := fun b x e => by
  rw [upd_ne (ne_of_none e h)]; exact e
/-- an object that H does not know may change -/
theorem same_mut {H H' : Hp} {p : Addr} {o : HO} (e : Same H H') (h : H p = none) : Same H (upd H' p o) := fun a u ha => by
  rw [upd_ne (ne_of_none ha h)]; exact e a u ha
theorem keep_mut {H H' : Hp} {p : Addr} {o : HO} (e : Keep H H') (h : H p = none) : Keep H (upd H' p o) := fun a u n ha => by
  rw [upd_ne (ne_of_none ha h)]; exact e a u n ha
theorem keep_dict {H : Hp} {m : Addr} {kvs : List (Key × V)} {o : HO} (h : H m = some (.dK kvs)) : Keep H (upd H m o) := fun b u n e => by
  rw [upd_ne]
  · exact e
  · intro z; subst z; rw [h] at e; exact n kvs (Option.some.inj e).symm
theorem keep_free {H H' : Hp} (e : Same H H') {l : Addr} (h : H' l = none) : H l = none := e.free h

/-! ### data -/
abbrev Dt := PyData
mutual
theorem Dpk {K : PySem.W.Frag} {H H' : Hp} (e : Keep H H') : ∀ (d : PyData) (v : V), Dp K H v d → Dp K H' v d
  | .none, _, h => by cases h; exact .non
  | .bool b, _, h => by cases h; exact .bl b
  | .int i, _, h => by cases h; exact .int i
  | .str x, _, h => by cases h; exact .str x
  | .list ds, _, h => by
    cases h with
    | lst hs ha => exact .lst (e.seqL hs) (DpkAll e ds _ ha)
  | .tuple ds, _, h => by
    cases h with
    | tup hs ha => exact .tup (e.seqT hs) (DpkAll e ds _ ha)
  | .dict _, _, h => by cases h
theorem DpkAll {K : PySem.W.Frag} {H H' : Hp} (e : Keep H H') : ∀ (ds : List PyData) (vs : List V), DpAll K H vs ds → DpAll K H' vs ds
  | [], _, h => by cases h; exact .nil
  | d :: ds, _, h => by
    cases h with
    | cons h1 h2 => exact .cons (Dpk e d _ h1) (DpkAll e ds _ h2)
end
section
variable {K : PySem.W.Frag} {H H' : Hp} {v : V} {d : PyData} {vs : List V} {ds : List PyData} {a p : Addr} {xs : List V}
theorem dp_keep (e : Keep H H') (h : Dp K H v d) : Dp K H' v d := Dpk e d v h
theorem dp_same (e : Same H H') (h : Dp K H v d) : Dp K H' v d := Dpk (Keep.of e) d v h
theorem dpa_keep (e : Keep H H') (h : DpAll K H vs ds) : DpAll K H' vs ds := DpkAll e ds vs h
theorem dpa_same (e : Same H H') (h : DpAll K H vs ds) : DpAll K H' vs ds := DpkAll (Keep.of e) ds vs h
theorem dp_int {i : Int} (h : Dp K H v (.int i)) : v = .int i := by cases h; rfl
theorem dp_str {i : Str} (h : Dp K H v (.str i)) : v = .str i := by cases h; rfl
theorem dp_bl {i : Bool} (h : Dp K H v (.bool i)) : v = .bl i := by cases h; rfl
theorem dp_non (h : Dp K H v .none) : v = .non := by cases h; rfl
theorem dp_tup (h : Dp K H v (.tuple ds)) : ∃ a xs, v = .ref a ∧ SqT K H a xs ∧ DpAll K H xs ds := by
  cases h with
  | tup hs ha => exact ⟨_, _, rfl, hs, ha⟩
theorem dp_lst (h : Dp K H v (.list ds)) : ∃ a xs, v = .ref a ∧ SqL K H a xs ∧ DpAll K H xs ds := by
  cases h with
  | lst hs ha => exact ⟨_, _, rfl, hs, ha⟩
theorem dpa_len : ∀ {vs : List V} {ds : List PyData}, DpAll K H vs ds → vs.length = ds.length
  | _, [], h => by cases h; rfl
  | _, d :: ds, h => by
    cases h with
    | cons h1 h2 => simp [dpa_len h2]
theorem dpa_get : ∀ {vs : List V} {ds : List PyData} {i : Nat} {d : PyData}, DpAll K H vs ds → ds[i]? = some d → ∃ v, vs[i]? = some v ∧ Dp K H v d
  | _, [], i, d, h, e => by simp at e
  | _, d0 :: ds, 0, d, h, e => by
    cases h with
    | cons h1 h2 => simp at e; subst e; exact ⟨_, rfl, h1⟩
  | _, d0 :: ds, i + 1, d, h, e => by
    cases h with
    | cons h1 h2 =>
      obtain ⟨v, e1, e2⟩ := dpa_get (i := i) h2 (by simpa using e)
      exact ⟨v, by simpa using e1, e2⟩
theorem dpa_get2 : ∀ {vs : List V} {ds : List PyData} {i : Nat} {v : V}, DpAll K H vs ds → vs[i]? = some v → ∃ d, ds[i]? = some d ∧ Dp K H v d := fun {vs ds i v} h e => by
  have hi : i < ds.length := by
    rw [← dpa_len h]; exact (List.getElem?_eq_some_iff.mp e).1
  obtain ⟨v', e1, e2⟩ := dpa_get h (List.getElem?_eq_getElem hi)
  rw [e] at e1
  cases e1
  exact ⟨_, List.getElem?_eq_getElem hi, e2⟩
theorem dpa_app : ∀ {vs : List V} {ds : List PyData} {ws : List V} {es : List PyData}, DpAll K H vs ds → DpAll K H ws es → DpAll K H (vs ++ ws) (ds ++ es)
  | _, [], _, _, h, g => by cases h; exact g
  | _, d :: ds, _, _, h, g => by
    cases h with
    | cons h1 h2 => exact .cons h1 (dpa_app h2 g)
theorem dpa_one (h : Dp K H v d) : DpAll K H [v] [d] := .cons h .nil
theorem dpa_take : ∀ {vs : List V} {ds : List PyData} (n : Nat), DpAll K H vs ds → DpAll K H (vs.take n) (ds.take n)
  | _, _, 0, h => by simp; exact .nil
  | _, [], n + 1, h => by cases h; exact .nil
  | _, d :: ds, n + 1, h => by
    cases h with
    | cons h1 h2 => exact .cons h1 (dpa_take n h2)
theorem dpa_drop : ∀ {vs : List V} {ds : List PyData} (n : Nat), DpAll K H vs ds → DpAll K H (vs.drop n) (ds.drop n)
  | _, _, 0, h => h
  | _, [], n + 1, h => by cases h; exact .nil
  | _, d :: ds, n + 1, h => by
    cases h with
    | cons h1 h2 => exact dpa_drop n h2
theorem dpa_ints : ∀ (ns : List Int), DpAll K H (ns.map V.int) (ns.map PyData.int)
  | [] => .nil
  | n :: ns => .cons (.int n) (dpa_ints ns)
theorem dpa_ints_inv : ∀ {vs : List V} {ns : List Int}, DpAll K H vs (ns.map PyData.int) → vs = ns.map V.int
  | _, [], h => by cases h; rfl
  | _, n :: ns, h => by
    cases h with
    | cons h1 h2 => cases h1; rw [dpa_ints_inv h2]; rfl
theorem dpa_strs : ∀ (ns : List Str), DpAll K H (ns.map V.str) (ns.map PyData.str)
  | [] => .nil
  | n :: ns => .cons (.str n) (dpa_strs ns)
theorem dpa_strs_inv : ∀ {vs : List V} {ns : List Str}, DpAll K H vs (ns.map PyData.str) → vs = ns.map V.str
  | _, [], h => by cases h; rfl
  | _, n :: ns, h => by
    cases h with
    | cons h1 h2 => cases h1; rw [dpa_strs_inv h2]; rfl
theorem dp_newL (h : H a = some (.lst xs)) (g : DpAll K H xs ds) : Dp K H (.ref a) (.list ds) := .lst (.of h) g
theorem dp_newT (h : H a = some (.tup xs)) (g : DpAll K H xs ds) : Dp K H (.ref a) (.tuple ds) := .tup (.of h) g
end

/-! ### readings, step by step -/
def rB (x : V) (H : Hp) (Q : Bool → Hp → Prop) : Prop := ∃ k, x = .bl k ∧ Q k H
def rBV (x : V) (A : Bool → Prop) : Prop := ∃ c, x = .bl c ∧ A c
def rDG (x y : V) (H : Hp) (Q : VK) : Prop := ∃ a v, x = .ref a ∧ DGet H a y (some v) ∧ Q v H
def rDP (x y v : V) (H : Hp) (Q : Hp → Prop) : Prop := ∃ a H4, x = .ref a ∧ DPut H a y v H4 ∧ Q H4
def r2V (vs : List V) (A : V → V → Prop) : Prop := ∃ v w, vs = [v, w] ∧ A v w
def rNewT (xs : List V) (H : Hp) (Q : VK) : Prop := xs.length ≤ sizeLine ∧ ∀ p, H p = none → Q (.ref p) (upd H p (.tup xs))
def rNewL (xs : List V) (H : Hp) (Q : VK) : Prop := xs.length ≤ sizeLine ∧ ∀ p, H p = none → Q (.ref p) (upd H p (.lst xs))
def rPI (x : V) (A : Option Int → Prop) : Prop := ∃ i, x = .int i ∧ A (some i)
section
variable {K : PySem.W.Frag} {σ : L2.St} {H : Hp} {Q : VK} {D : Ends} {v x y z : V} {i : Nat} {ta tb tc te : TE} {t u : TS} {c : TT} {g : TG} {tn : TA} {r : R2}
theorem w_seq (h : t { D with nx := u D } σ H) : tSeq t u D σ H := h
theorem w_next (h : D.nx σ H) : tNext D σ H := h
theorem w_asg (h : te σ H fun x H1 => D.nx (σ.set i (some x)) H1) : tAsg te (gName i) D σ H := h
theorem w_asgG (h : te σ H fun x H1 => g x σ H1 D.nx) : tAsg te g D σ H := h
theorem w_drop (h : te σ H fun _ H1 => D.nx σ H1) : tDrop te D σ H := h
theorem w_ret (h : te σ H D.rt) : tRet te D σ H := h
theorem w_retN (h : D.rt .non H) : tRetN D σ H := h
theorem w_brk (h : D.bk σ H) : tBreak D σ H := h
theorem w_cont (h : D.ct σ H) : tCont D σ H := h
theorem w_ifS (h : c σ H fun b H1 => if b = true then t D σ H1 else u D σ H1) : tIfS c t u D σ H := h
theorem w_var (h : σ[i]? = some (some v)) (q : Q v H) : tVar i σ H Q := ⟨v, h, q⟩
theorem w_c (q : Q v H) : tC v σ H Q := q
theorem w_op (h : ta σ H fun x H1 => tb σ H1 fun y H2 => r x y H2 Q) : tOp r ta tb σ H Q := h
theorem w_un {r : V → Hp → VK → Prop} (h : ta σ H fun x H1 => r x H1 Q) : tUn r ta σ H Q := h
theorem w_rI0 {g : Int → Int → V} {i j : Int} (q : Q (g i j) H) : rI0 g (.int i) (.int j) H Q := ⟨i, j, rfl, rfl, q⟩
theorem w_rI {C : Int → Int → Prop} {g : Int → Int → V} {i j : Int} (hc : C i j) (q : Q (g i j) H) : rI C g (.int i) (.int j) H Q := ⟨i, j, rfl, rfl, hc, q⟩
theorem w_rU {g : Int → V} {i : Int} (q : Q (g i) H) : rU g (.int i) H Q := ⟨i, rfl, q⟩
theorem w_eqI {i j : Int} (q : Q (.bl (decide (i = j))) H) : rEq (.int i) (.int j) H Q := ⟨rfl, by
  rw [dec_int, show (i == j) = decide (i = j) from rfl]; exact q⟩
theorem w_neI {i j : Int} (q : Q (.bl (!decide (i = j))) H) : rNe (.int i) (.int j) H Q := ⟨rfl, by
  rw [dec_int, show (i == j) = decide (i = j) from rfl]; exact q⟩
theorem w_rEq (hs : scal x y = true) (q : Q (.bl (decide (x = y))) H) : rEq x y H Q := ⟨hs, q⟩
theorem w_rNe (hs : scal x y = true) (q : Q (.bl (!decide (x = y))) H) : rNe x y H Q := ⟨hs, q⟩
theorem w_tI (h : c σ H fun b H1 => if b = true then ta σ H1 Q else tb σ H1 Q) : tIf c ta tb σ H Q := h
theorem w_tTest {Q : Bool → Hp → Prop} (h : te σ H fun x H' => rB x H' Q) : tTest te σ H Q := h
theorem w_tB {Q : Bool → Hp → Prop} (h : te σ H fun x H' => rB x H' Q) : tB te σ H Q := h
theorem w_bl {b : Bool} {Q : Bool → Hp → Prop} (h : Q b H) : rB (.bl b) H Q := ⟨b, rfl, h⟩
theorem w_blV {b : Bool} {A : Bool → Prop} (h : A b) : rBV (.bl b) A := ⟨b, rfl, h⟩
theorem w_and {t u : TT} {Q : Bool → Hp → Prop} (h : t σ H fun c H1 => if c = true then u σ H1 Q else Q false H1) : tAnd t u σ H Q := h
theorem w_or {t u : TT} {Q : Bool → Hp → Prop} (h : t σ H fun c H1 => if c = true then Q true H1 else u σ H1 Q) : tOr t u σ H Q := h
theorem w_not {t : TT} {Q : Bool → Hp → Prop} (h : t σ H fun c H1 => Q (!c) H1) : tNot t σ H Q := h
theorem w_andV (h : ta σ H fun x H1 => rBV x fun c => if c = true then tb σ H1 Q else Q (.bl false) H1) : tAndV ta tb σ H Q := h
theorem w_orV (h : ta σ H fun x H1 => rBV x fun c => if c = true then Q (.bl true) H1 else tb σ H1 Q) : tOrV ta tb σ H Q := h
theorem w_notV (h : ta σ H fun x H1 => rBV x fun c => Q (.bl (!c)) H1) : tNotV ta σ H Q := h
theorem w_chain {r r' : R2} (h : ta σ H fun x H1 => tb σ H1 fun y H2 => r x y H2 fun z H3 => rBV z fun k => if k = true then tc σ H3 fun w' H4 => r' y w' H4 Q else Q (.bl false) H3) : tChain r r' ta tb tc σ H Q := h
theorem w_nil {Q : List V → Hp → Prop} (q : Q [] H) : tNil σ H Q := q
theorem w_cons {Q : List V → Hp → Prop} (h : ta σ H fun x H1 => tn σ H1 fun xs H2 => Q (x :: xs) H2) : tCons ta tn σ H Q := h
theorem w_call {sp : Sp} {dvs : List V} {E : XK} (h : tn σ H fun vs H1 => sp (vs ++ dvs) H1 Q E) : tCall sp dvs E tn σ H Q := h
theorem w_cb {r : List V → Hp → VK → Prop} (h : tn σ H fun vs H1 => r vs H1 Q) : tCB r tn σ H Q := h
theorem w_tup (h : tn σ H fun xs H1 => rNewT xs H1 Q) : tTup tn σ H Q := h
theorem w_lst (h : tn σ H fun xs H1 => rNewL xs H1 Q) : tLst tn σ H Q := h
theorem w_newT {xs : List V} {ds : List PyData} (hl : xs.length ≤ sizeLine) (hd : DpAll K H xs ds) (q : ∀ p H', H p = none → Same H H' → Dp K H' (.ref p) (.tuple ds) → Q (.ref p) H') :
    rNewT xs H Q :=
  ⟨hl, fun p hp => q p _ hp (same_new hp) (dp_newT upd_same (dpa_same (same_new hp) hd))⟩
theorem w_newL {xs : List V} {ds : List PyData} (hl : xs.length ≤ sizeLine) (hd : DpAll K H xs ds) (q : ∀ p H', H p = none → Same H H' → H' p = some (.lst xs) → Dp K H' (.ref p) (.list ds) → Q (.ref p) H') :
    rNewL xs H Q :=
  ⟨hl, fun p hp => q p _ hp (same_new hp) upd_same (dp_newL upd_same (dpa_same (same_new hp) hd))⟩
theorem w_ite {b : Bool} {A B : Prop} (h1 : b = true → A) (h2 : b = false → B) : if b = true then A else B := by
  cases b with
  | true => rw [if_pos rfl]; exact h1 rfl
  | false => rw [if_neg Bool.false_ne_true]; exact h2 rfl
theorem w_iteD {P : Prop} [Decidable P] {A B : Prop} (h1 : P → A) (h2 : ¬ P → B) : if decide P = true then A else B := by
  by_cases h : P
  · rw [if_pos (decide_eq_true h)]; exact h1 h
  · rw [if_neg (by simpa using h)]; exact h2 h
theorem w_iteND {P : Prop} [Decidable P] {A B : Prop} (h1 : ¬ P → A) (h2 : P → B) : if (!decide P) = true then A else B := by
  by_cases h : P
  · rw [decide_eq_true h]; simpa using h2 h
  · rw [decide_eq_false h]; simpa using h1 h
theorem w_iteT {A B : Prop} (h : A) : if true = true then A else B := by rw [if_pos rfl]; exact h
theorem w_iteNT {A B : Prop} (h : B) : if (!true) = true then A else B := by rw [Bool.not_true, if_neg Bool.false_ne_true]; exact h
theorem w_iteNF {A B : Prop} (h : A) : if (!false) = true then A else B := by rw [Bool.not_false, if_pos rfl]; exact h
theorem w_iteF {A B : Prop} (h : B) : if false = true then A else B := by rw [if_neg Bool.false_ne_true]; exact h
end
end Tw
namespace Tw
open PySem PySem.Spec PyProof.Rows L2
/-! ### rules by data -/
section
variable {X : Cx}
def rLen (K : PySem.W.Frag) : List V → Hp → VK → Prop := fun xs H Q => ∃ x n, xs = [x] ∧ LenV K x H n ∧ Q (.int n) H
theorem cl_len {K : PySem.W.Frag} (h : X.K = K := by rfl) : CallR X (.builtin "len") (rLen K) := h ▸ call_len
def rInt : List V → Hp → VK → Prop := fun xs H Q => (∃ i, xs = [.int i] ∧ Q (.int i) H) ∨ ∃ k, xs = [.bl k] ∧ Q (.int (if k then 1 else 0)) H
theorem cl_int : CallR X (.type "int") rInt := call_int1
def rStrI : List V → Hp → VK → Prop := fun xs H Q => ∃ i, xs = [.int i] ∧ i.natAbs.log2 < 1920 ∧ Q (.str (toString i)) H
theorem cl_strI : CallR X (.type "str") rStrI := call_str_int
def rTupOf (K : PySem.W.Frag) : List V → Hp → VK → Prop := fun xs H Q => ∃ p ys, xs = [.ref p] ∧ ((SqL K H p ys ∧ ∀ l, H l = none → Q (.ref l) (upd H l (.tup ys))) ∨ (SqT K H p ys ∧ Q (.ref p) H))
def rMax2 : List V → Hp → VK → Prop := fun xs H Q => ∃ i j, xs = [.int i, .int j] ∧ Q (.int (if j > i then j else i)) H
theorem cl_max2 (hc : X.calm = true) : CallR X (.builtin "max") rMax2 := call_max2 hc
def rMin2 : List V → Hp → VK → Prop := fun xs H Q => ∃ i j, xs = [.int i, .int j] ∧ Q (.int (if j < i then j else i)) H
theorem cl_min2 (hc : X.calm = true) : CallR X (.builtin "min") rMin2 := call_min2 hc
theorem pe_cint {x : Str} {pos : Pos} {i : Int} {t : Tok} (hg : Gl X x) (hm : X.mg x = some (.int i t)) (hd : (x == ("__debug__" : Str)) = false := by decide) : PE X (.Name x pos) (tC (.int i)) := pe_glob hg hm (show RelV (.int i) _ from ⟨t, rfl⟩) hd
theorem cl_tup {K : PySem.W.Frag} (h : X.K = K := by rfl) : CallR X (.type "tuple") (rTupOf K) := h ▸ call_tuple_of
def rLstOf (K : PySem.W.Frag) : List V → Hp → VK → Prop := fun xs H Q => ∃ p ys, xs = [.ref p] ∧ (SqL K H p ys ∨ SqT K H p ys) ∧ ∀ l, H l = none → Q (.ref l) (upd H l (.lst ys))
theorem cl_lst {K : PySem.W.Frag} (h : X.K = K := by rfl) : CallR X (.type "list") (rLstOf K) := h ▸ call_list_of
theorem ix_listK {K : PySem.W.Frag} (h : X.K = K := by rfl) : IxR X (rIxL K) := h ▸ ix_list
theorem ix_tupK {K : PySem.W.Frag} (h : X.K = K := by rfl) : IxR X (rIxT K) := h ▸ ix_tup
theorem op_eqK {K : PySem.W.Frag} (hu : X.A.units + 64 < cLine) (h : X.K = K := by rfl) : OpR X (compareOp .Eq) (rEqD K) := h ▸ op_eqD hu
theorem op_neK {K : PySem.W.Frag} (hu : X.A.units + 64 < cLine) (h : X.K = K := by rfl) : OpR X (compareOp .NotEq) (rNeD K) := h ▸ op_neD hu
theorem sl_listK {K : PySem.W.Frag} (h : X.K = K := by rfl) : SlR X (rSlL K) := h ▸ sl_list
theorem pi_listK {K : PySem.W.Frag} {tg l : Expr} {tl : TE} (hl : PE X l tl) (h : X.K = K := by rfl) : PI X tg l (iList K tl) := h ▸ pi_list hl
theorem pi_tupK {K : PySem.W.Frag} {tg l : Expr} {tl : TE} (hl : PE X l tl) (h : X.K = K := by rfl) : PI X tg l (iTup K tl) := h ▸ pi_tup hl
def rAddStr : R2 := fun x y H Q => ∃ i j, x = .str i ∧ y = .str j ∧ i.length + j.length ≤ sizeLine ∧ Q (.str (i ++ j)) H
theorem op_addS : OpR X (binaryOp .Add) rAddStr := op_add_str
theorem op_catL : OpR X (binaryOp .Add) rCat := op_cat
def rJoin (K : PySem.W.Frag) : V → List V → Hp → VK → Prop := fun x xs H Q => ∃ a p, ∃ ys : List Str, x = .str a ∧ xs = [.ref p] ∧ (SqL K H p (ys.map V.str) ∨ SqT K H p (ys.map V.str)) ∧ (ys.map (·.length)).sum + ys.length * a.length ≤ 16777216 ∧ Q (.str (Txt.join a ys)) H
def tTru (K : PySem.W.Frag) (ta : TE) : TT := fun σ H Q => ta σ H fun x H' => ∃ k, TruV K x H' k ∧ Q k H'
theorem pt_tru {K : PySem.W.Frag} {a : Expr} {ta : TE} (ha : PE X a ta) (he : ∀ whole, isTrue a X.env whole = (do let v ← whole; standAt a.pos; holding [v] (truthy v))) (h : X.K = K := by rfl) : PT X a (tTru K ta) := h ▸ pt_truth ha he
end
end Tw

namespace Tw
open PySem PySem.Spec PyProof.Rows L2
section
variable {X : Cx}
theorem pe_joinD {K : PySem.W.Frag} {o e : Expr} {to te : TE} {apos pos : Pos} (ho : PE X o to) (he : PE X e te) (h : X.K = K := by rfl) (hs : starEach [e] X.env = [(false, eval e X.env)] := by rfl) (hbase : attributeBase o "join" X.env (eval o X.env) = eval o X.env := by rfl) (hline : (apos.endLine == pos.line) = true := by rfl) :
    PE X (.Call (.Attribute o "join" apos) [e] [] pos) (tM1 (rJoin K) to te) := h ▸ pe_join ho he hs hbase hline
end
section
variable {K : PySem.W.Frag} {σ : L2.St} {H : Hp} {Q : VK} {D : Ends} {v x y z : V} {d e : PyData} {ds es : List PyData} {i : Nat} {to ta tb tc te : TE} {t u : TS} {tn : TA}
theorem w_lenL (h : Dp K H v (.list ds)) (q : Q (.int (ds.length : Int)) H) : rLen K [v] H Q := by
  obtain ⟨a, xs, rfl, hs, ha⟩ := dp_lst h
  exact ⟨.ref a, ds.length, rfl, .inl ⟨xs, hs, (dpa_len ha).symm⟩, q⟩
theorem w_lenT (h : Dp K H v (.tuple ds)) (q : Q (.int (ds.length : Int)) H) : rLen K [v] H Q := by
  obtain ⟨a, xs, rfl, hs, ha⟩ := dp_tup h
  exact ⟨.ref a, ds.length, rfl, .inr ⟨xs, hs, (dpa_len ha).symm⟩, q⟩
theorem w_lenS {x : Str} (h : x.length ≤ sizeLine) (q : Q (.int (x.length : Int)) H) : rLen K [.str x] H Q := ⟨.str x, x.length, rfl, ⟨h, rfl⟩, q⟩
theorem w_int {n : Int} (q : Q (.int n) H) : rInt [.int n] H Q := .inl ⟨n, rfl, q⟩
theorem w_strI {n : Int} (h : n.natAbs.log2 < 1920) (q : Q (.str (toString n)) H) : rStrI [.int n] H Q := ⟨n, rfl, h, q⟩
theorem w_max2 {i j : Int} (q : ∀ r, r = max i j → Q (.int r) H) : rMax2 [.int i, .int j] H Q := ⟨i, j, rfl, q _ (by split <;> omega)⟩
theorem w_min2 {i j : Int} (q : ∀ r, r = min i j → Q (.int r) H) : rMin2 [.int i, .int j] H Q := ⟨i, j, rfl, q _ (by split <;> omega)⟩
theorem w_tupOf (h : Dp K H v (.list ds)) (q : ∀ p H', H p = none → Same H H' → Dp K H' (.ref p) (.tuple ds) → Q (.ref p) H') : rTupOf K [v] H Q := by
  obtain ⟨a, xs, rfl, hs, ha⟩ := dp_lst h
  exact ⟨a, xs, rfl, .inl ⟨hs, fun l hl => q l _ hl (same_new hl) (dp_newT upd_same (dpa_same (same_new hl) ha))⟩⟩
theorem w_tupOfT (h : Dp K H v (.tuple ds)) (q : ∀ v, Dp K H v (.tuple ds) → Q v H) : rTupOf K [v] H Q := by
  obtain ⟨a, xs, rfl, hs, ha⟩ := dp_tup h
  exact ⟨a, xs, rfl, .inr ⟨hs, q _ h⟩⟩
theorem w_lstOfT (h : Dp K H v (.tuple ds)) (q : ∀ p H' xs, H p = none → Same H H' → H' p = some (.lst xs) → Dp K H' (.ref p) (.list ds) → Q (.ref p) H') : rLstOf K [v] H Q := by
  obtain ⟨a, xs, rfl, hs, ha⟩ := dp_tup h
  exact ⟨a, xs, rfl, .inr hs, fun l hl => q l _ xs hl (same_new hl) upd_same (dp_newL upd_same (dpa_same (same_new hl) ha))⟩
theorem w_lstOfL (h : Dp K H v (.list ds)) (q : ∀ p H' xs, H p = none → Same H H' → H' p = some (.lst xs) → Dp K H' (.ref p) (.list ds) → Q (.ref p) H') : rLstOf K [v] H Q := by
  obtain ⟨a, xs, rfl, hs, ha⟩ := dp_lst h
  exact ⟨a, xs, rfl, .inl hs, fun l hl => q l _ xs hl (same_new hl) upd_same (dp_newL upd_same (dpa_same (same_new hl) ha))⟩
theorem w_addS {x y : Str} (h : x.length + y.length ≤ sizeLine) (q : Q (.str (x ++ y)) H) : rAddStr (.str x) (.str y) H Q := ⟨x, y, rfl, rfl, h, q⟩
/-- an item by a place that is known to be a number -/
theorem w_ixL {n : Int} {j : Nat} (h : Dp K H v (.list ds)) (hn : n = (j : Int)) (hd : ds[j]? = some d) (q : ∀ v', Dp K H v' d → Q v' H) : rIxL K v (.int n) H Q := by
  obtain ⟨a, xs, rfl, hs, ha⟩ := dp_lst h
  obtain ⟨v', e1, e2⟩ := dpa_get ha hd
  exact ⟨a, xs, n, v', rfl, rfl, hs, at_of hn e1, q v' e2⟩
theorem w_ixT {n : Int} {j : Nat} (h : Dp K H v (.tuple ds)) (hn : n = (j : Int)) (hd : ds[j]? = some d) (q : ∀ v', Dp K H v' d → Q v' H) : rIxT K v (.int n) H Q := by
  obtain ⟨a, xs, rfl, hs, ha⟩ := dp_tup h
  obtain ⟨v', e1, e2⟩ := dpa_get ha hd
  exact ⟨a, xs, n, v', rfl, rfl, hs, at_of hn e1, q v' e2⟩
theorem w_ixLI {n : Int} {ns : List Int} (h : Dp K H v (.list (ns.map PyData.int))) (h0 : 0 ≤ n) (h1 : n < (ns.length : Int)) (q : ∀ z, ns[n.toNat]? = some z → Q (.int z) H) : rIxL K v (.int n) H Q := by
  have hl : n.toNat < ns.length := by omega
  refine w_ixL (j := n.toNat) (d := .int ns[n.toNat]) h (by omega) (by simp [hl]) fun v' hv => ?_
  cases hv
  exact q _ (List.getElem?_eq_getElem hl)
theorem w_ixTI {n : Int} {ns : List Int} (h : Dp K H v (.tuple (ns.map PyData.int))) (h0 : 0 ≤ n) (h1 : n < (ns.length : Int)) (q : ∀ z, ns[n.toNat]? = some z → Q (.int z) H) : rIxT K v (.int n) H Q := by
  have hl : n.toNat < ns.length := by omega
  refine w_ixT (j := n.toNat) (d := .int ns[n.toNat]) h (by omega) (by simp [hl]) fun v' hv => ?_
  cases hv
  exact q _ (List.getElem?_eq_getElem hl)
theorem w_ixLast (h : Dp K H v (.list ds)) (hd : ds.getLast? = some d) (q : ∀ v', Dp K H v' d → Q v' H) : rIxL K v (.int (-1)) H Q := by
  obtain ⟨a, xs, rfl, hs, ha⟩ := dp_lst h
  rw [List.getLast?_eq_getElem?] at hd
  obtain ⟨v', e1, e2⟩ := dpa_get ha hd
  have hne : xs ≠ [] := fun z => by subst z; simp at e1
  have hx : xs = xs.dropLast ++ [xs.getLast hne] := (List.dropLast_concat_getLast hne).symm
  have e3 : v' = xs.getLast hne := by
    rw [← dpa_len ha, ← List.getLast?_eq_getElem?, List.getLast?_eq_getLast hne] at e1
    exact (Option.some.inj e1).symm
  refine ⟨a, xs, -1, v', rfl, rfl, hs, ?_, q v' e2⟩
  rw [hx, e3]; exact atI_last _ _
theorem w_ixLastT (h : Dp K H v (.tuple ds)) (hd : ds.getLast? = some d) (q : ∀ v', Dp K H v' d → Q v' H) : rIxT K v (.int (-1)) H Q := by
  obtain ⟨a, xs, rfl, hs, ha⟩ := dp_tup h
  rw [List.getLast?_eq_getElem?] at hd
  obtain ⟨v', e1, e2⟩ := dpa_get ha hd
  have hne : xs ≠ [] := fun z => by subst z; simp at e1
  have hx : xs = xs.dropLast ++ [xs.getLast hne] := (List.dropLast_concat_getLast hne).symm
  have e3 : v' = xs.getLast hne := by
    rw [← dpa_len ha, ← List.getLast?_eq_getElem?, List.getLast?_eq_getLast hne] at e1
    exact (Option.some.inj e1).symm
  refine ⟨a, xs, -1, v', rfl, rfl, hs, ?_, q v' e2⟩
  rw [hx, e3]; exact atI_last _ _
theorem w_ixS {s : Str} {n : Int} {j c : Nat} (hz : s.length ≤ sizeLine) (hn : n = (j : Int)) (hd : s.cps.toList[j]? = some c) (q : Q (.str ⟨#[c]⟩) H) : rIxS (.str s) (.int n) H Q :=
  ⟨s, n, c, rfl, rfl, hz, by rw [hn]; exact atI_nat hd, q⟩
theorem w_tIsN (q : Q (.bl (decide (x = .non))) H) : rIsN x .non H Q := ⟨rfl, q⟩
theorem w_tNotN (q : Q (.bl (!decide (x = .non))) H) : rNotN x .non H Q := ⟨rfl, q⟩
theorem w_bm {T : String} {r : V → List V → Hp → VK → Prop} (h : to σ H fun x H1 => tyV K T x H1 ∧ tn σ H1 fun xs H2 => r x xs H2 Q) : tBM K T r to tn σ H Q := h
theorem w_bm0 {T : String} {r : V → List V → Hp → VK → Prop} (h : to σ H fun x H1 => tyV K T x H1 ∧ r x [] H1 Q) : tBM0 K T r to σ H Q := h
theorem w_m1 {r : V → List V → Hp → VK → Prop} (h : to σ H fun x H1 => (∃ a, x = .str a) ∧ te σ H1 fun y H2 => r x [y] H2 Q) : tM1 r to te σ H Q := h
theorem w_isStr {s : Str} {A : Prop} (h : A) : (∃ a, V.str s = .str a) ∧ A := ⟨⟨s, rfl⟩, h⟩
theorem w_append {l : Addr} {xs : List V} (h : H l = some (.lst xs)) (hz : xs.length < sizeLine) (q : Q .non (upd H l (.lst (xs ++ [y])))) : rAppend (.ref l) [y] H Q := ⟨l, xs, y, rfl, rfl, h, hz, q⟩
theorem w_tyL {a : Addr} {xs : List V} {A : Prop} (h : H a = some (.lst xs)) (q : A) : tyV K "list" (.ref a) H ∧ A := ⟨.inl ⟨rfl, xs, .of h⟩, q⟩
theorem w_tyS {s : Str} {A : Prop} (q : A) : tyV K "str" (.str s) H ∧ A := ⟨rfl, q⟩
theorem w_join {s : Str} {ys : List Str} (h : Dp K H v (.list (ys.map PyData.str))) (hz : (ys.map (·.length)).sum + ys.length * s.length ≤ 16777216) (q : Q (.str (Txt.join s ys)) H) : rJoin K (.str s) [v] H Q := by
  obtain ⟨a, xs, rfl, hs, ha⟩ := dp_lst h
  rw [dpa_strs_inv ha] at hs
  exact ⟨s, a, ys, rfl, rfl, .inl hs, hz, q⟩
/-- a new list out of two -/
theorem w_catL {a b : Addr} {xs zs : List V} (h : H a = some (.lst xs)) (h' : H b = some (.lst zs)) (hz : xs.length + zs.length ≤ sizeLine) (q : ∀ p H', H p = none → Same H H' → H' p = some (.lst (xs ++ zs)) → Q (.ref p) H') : rCat (.ref a) (.ref b) H Q :=
  ⟨a, b, xs, zs, rfl, rfl, h, h', hz, fun p hp => q p _ hp (same_new hp) upd_same⟩
theorem w_dget {td ty : TE} (h : td σ H fun x H1 => ty σ H1 fun y H2 => rDG x y H2 Q) : tDGet td ty σ H Q := h
theorem w_dgS {k : Str} {kvs : List (Key × V)} {m : Addr} (h : H m = some (.dK kvs)) (e : valV kvs (.inr k) = some v) (q : Q v H) : rDG (.ref m) (.str k) H Q :=
  ⟨m, v, rfl, by rw [← e]; exact DGet.k (k := .inr k) h, q⟩
theorem w_dpS {k : Str} {kvs kvs' : List (Key × V)} {m : Addr} (h : H m = some (.dK kvs)) (e : putK kvs (.inr k) v = kvs') (hl : kvs.length < sizeLine) {Q : Hp → Prop} (q : ∀ H', Keep H H' → H' m = some (.dK kvs') → Q H') : rDP (.ref m) (.str k) v H Q := by
  subst e
  exact ⟨m, _, rfl, DPut.k (k := .inr k) h hl, q _ (keep_dict h) upd_same⟩
theorem w_dput {td ty tv : TE} (h : tv σ H fun v H1 => td σ H1 fun x H2 => ty σ H2 fun y H3 => rDP x y v H3 (D.nx σ)) : sDPut td ty tv D σ H := h
theorem w_par {a b : Nat} {ta : TA} (h : ta σ H fun vs H1 => r2V vs fun v w => D.nx ((σ.set a (some v)).set b (some w)) H1) : tPar a b ta D σ H := h
theorem w_par2 {v w : V} {A : V → V → Prop} (h : A v w) : r2V [v, w] A := ⟨v, w, rfl, h⟩
def r3V (vs : List V) (A : V → V → V → Prop) : Prop := ∃ u v w, vs = [u, v, w] ∧ A u v w
theorem w_par3 {a b c : Nat} {ta : TA} (h : ta σ H fun vs H1 => r3V vs fun u v w => D.nx (((σ.set a (some u)).set b (some v)).set c (some w)) H1) : tPar3 a b c ta D σ H := h
theorem w_par33 {u v w : V} {A : V → V → V → Prop} (h : A u v w) : r3V [u, v, w] A := ⟨u, v, w, rfl, h⟩
theorem w_eqB {a b : Bool} (q1 : a = b → Q (.bl true) H) (q2 : a ≠ b → Q (.bl false) H) : rEq (.bl a) (.bl b) H Q := ⟨rfl, by
  by_cases h : a = b
  · subst h; rw [decide_eq_true rfl]; exact q1 rfl
  · rw [decide_eq_false (fun z => h (V.bl.inj z))]; exact q2 h⟩
theorem w_neB {a b : Bool} (q1 : a = b → Q (.bl false) H) (q2 : a ≠ b → Q (.bl true) H) : rNe (.bl a) (.bl b) H Q := ⟨rfl, by
  by_cases h : a = b
  · subst h; rw [decide_eq_true rfl]; exact q1 rfl
  · rw [decide_eq_false (fun z => h (V.bl.inj z))]; exact q2 h⟩
theorem w_aug {te : TE} {ti : TIp} (h : σ[i]? = some (some x)) (q : te σ H fun y H1 => ti x y H1 fun z H2 => D.nx (σ.set i (some z)) H2) : tAug i te ti D σ H := ⟨x, h, q⟩
theorem w_gTup {n : Nat} {tg : TGs} {Q : L2.St → Hp → Prop} {a : Addr} {xs : List V} (hs : SqT K H a xs) (hn : xs.length = n) (q : tg xs σ H Q) : gTup K n tg (.ref a) σ H Q := ⟨a, xs, rfl, hs, hn, q⟩
theorem w_gTup2 {i j : Nat} {Q : L2.St → Hp → Prop} {d e : PyData} (h : Dp K H v (.tuple [d, e])) (q : ∀ v1 v2, Dp K H v1 d → Dp K H v2 e → Q ((σ.set i (some v1)).set j (some v2)) H) : gTup K 2 (gCons (gName i) (gCons (gName j) gNil)) v σ H Q := by
  obtain ⟨a, xs, rfl, hs, ha⟩ := dp_tup h
  cases ha with
  | cons h1 h2 => cases h2 with
    | cons h3 h4 => cases h4; exact ⟨a, _, rfl, hs, rfl, _, _, rfl, _, _, rfl, rfl, q _ _ h1 h3⟩
theorem w_slice {r : V → Option Int → Option Int → Hp → VK → Prop} {tl th : TO} (h : te σ H fun x H1 => tl σ H1 fun l H2 => th σ H2 fun u H3 => r x l u H3 Q) : tSl r te tl th σ H Q := h
theorem w_noPart {Q : Option Int → Hp → Prop} (h : Q none H) : tNoPart σ H Q := h
theorem w_part {Q : Option Int → Hp → Prop} (h : te σ H fun x H1 => rPI x fun o => Q o H1) : tPart te σ H Q := h
theorem w_pint {n : Int} {A : Option Int → Prop} (h : A (some n)) : rPI (.int n) A := ⟨n, rfl, h⟩
theorem w_slL {lo hi : Option Int} {ds' : List PyData} (h : Dp K H v (.list ds)) (hc : ∀ xs, xs.length = ds.length → DpAll K H xs ds → DpAll K H (cutV xs lo hi) ds') (q : ∀ p H' xs, H p = none → Same H H' → H' p = some (.lst xs) → Dp K H' (.ref p) (.list ds') → Q (.ref p) H') : rSlL K v lo hi H Q := by
  obtain ⟨a, xs, rfl, hs, ha⟩ := dp_lst h
  exact ⟨a, xs, rfl, hs, fun p hp => q p _ _ hp (same_new hp) upd_same (dp_newL upd_same (dpa_same (same_new hp) (hc xs (dpa_len ha) ha)))⟩
end
/-- a text's signs, a text of signs -/
theorem wideX {i j : Int} {a b : Nat} (ha : i.natAbs < 2 ^ a) (hb : j.natAbs < 2 ^ b) (h : a + b ≤ 134217728) : CMulX i j := mulx_ok ha hb h
theorem mulS {i j : Int} (ha : -(2 ^ 250) < i ∧ i < 2 ^ 250) (hb : -(2 ^ 250) < j ∧ j < 2 ^ 250) : CMulX i j := mulx_ok (a := 250) (b := 250) (by omega) (by omega) (by decide)
theorem divS {i j : Int} (h : 0 < j ∧ j < 2 ^ 250) : CDivW i j := wide_div (b := 250) h.1 (by omega) (by decide) (by decide)
end Tw
namespace Tw
open PySem PySem.Spec PyProof.Rows L2
def rMod : R2 := rI (fun _ j => 0 < j) fun i j => .int (i % j)
theorem op_modD {X : Cx} : OpR X (binaryOp .Mod) rMod := op_mod
theorem w_rMod {H : Hp} {Q : VK} {i j : Int} (hc : 0 < j) (q : Q (.int (i % j)) H) : rMod (.int i) (.int j) H Q := ⟨i, j, rfl, rfl, hc, q⟩
/-- the rest as a letter -/
theorem w_rModA {H : Hp} {Q : VK} {i j : Int} (hc : 0 < j) (q : ∀ r, r = i % j → 0 ≤ r → r < j → Q (.int r) H) : rMod (.int i) (.int j) H Q :=
  ⟨i, j, rfl, rfl, hc, q _ rfl (Int.emod_nonneg _ (by omega)) (Int.emod_lt_of_pos _ hc)⟩
theorem w_rModB {H : Hp} {Q : VK} {i j : Int} (hc : 0 < j) (q : ∀ r, 0 ≤ r → r < j → Q (.int r) H) : rMod (.int i) (.int j) H Q :=
  w_rModA hc fun r _ => q r
def rWB (W : Nat → L2.St → Hp → Prop) (m : Nat) (tb : TS) (D : Ends) (σ : L2.St) (H1 : Hp) : Prop := ∃ N : L2.St → Hp → Prop, (∀ σ' H', N σ' H' → ∃ m', m' < m ∧ W m' σ' H') ∧ tb { D with nx := N, ct := N, bk := D.nx } σ H1
theorem w_wb {W : Nat → L2.St → Hp → Prop} {m : Nat} {tb : TS} {D : Ends} {σ : L2.St} {H1 : Hp} (h : tb { D with nx := fun σ' H' => ∃ m', m' < m ∧ W m' σ' H', ct := fun σ' H' => ∃ m', m' < m ∧ W m' σ' H', bk := D.nx } σ H1) : rWB W m tb D σ H1 :=
  ⟨_, fun _ _ h => h, h⟩
theorem whl_by {c : TT} {tb : TS} {D : Ends} {σ : L2.St} {H : Hp} (W : Nat → L2.St → Hp → Prop) (m0 : Nat) (h0 : W m0 σ H) (hs : ∀ m σ H, W m σ H → c σ H fun b H1 => if b = true then rWB W m tb D σ H1 else D.nx σ H1) : tWhile c tb D σ H :=
  ⟨W, ⟨m0, h0⟩, hs⟩
/-- two ways of an expression meet behind it -/
theorem w_meet {t : TE} {σ : L2.St} {H : Hp} {Q : VK} (Pm : V → Hp → Prop) (h : ∀ Q' : VK, (∀ v H', Pm v H' → Q' v H') → t σ H Q') (k : ∀ v H', Pm v H' → Q v H') : t σ H Q := h Q k
/-- .. of a statement -/
theorem w_meetS {t : TS} {D : Ends} {σ : L2.St} {H : Hp} (Pm : L2.St → Hp → Prop) (h : ∀ nx' : L2.St → Hp → Prop, (∀ σ' H', Pm σ' H' → nx' σ' H') → t { D with nx := nx' } σ H) (k : ∀ σ' H', Pm σ' H' → D.nx σ' H') : t D σ H := h D.nx k
theorem cxK {CX : CXT} {P : Program} {w : World} {K : PySem.W.Frag} {mg : Str → Option Value} {base : Heap} {N : List Str} {qual : Str} {scope : Scope} {f : Addr} {cd : Value} {A : Around} {outer : List Env} {s : Shared} {H : Hp} {E : XK} :
    (cxOf CX P w K mg base N qual scope f cd A outer s H E).nox.K = K := rfl
end Tw
namespace Tw
open PySem PySem.Spec PyProof.Rows L2
/-! ### slices, for -/
def cutD {α : Type} (ds : List α) (lo hi : Option Int) : List α := (ds.drop (HT.sIx ds.length 0 lo)).take (HT.sIx ds.length ds.length hi - HT.sIx ds.length 0 lo)
theorem cutD_len {α : Type} (ds : List α) (lo hi : Option Int) : (cutD ds lo hi).length ≤ ds.length := by
  unfold cutD; rw [List.length_take, List.length_drop]; omega
theorem cutD_map {α β : Type} (f : α → β) (ds : List α) (lo hi : Option Int) : cutD (ds.map f) lo hi = (cutD ds lo hi).map f := by
  unfold cutD; rw [List.length_map, List.map_take, List.map_drop]
theorem cutD_from {α : Type} (ds : List α) {k : Int} (h : 0 ≤ k) : cutD ds (some k) none = ds.drop k.toNat := by
  obtain ⟨n, rfl⟩ := Int.eq_ofNat_of_zero_le h
  unfold cutD
  rw [show HT.sIx ds.length 0 (some (n : Int)) = min n ds.length from HT.sIx_nat _ _ _, HT.sIx_none, Int.toNat_natCast]
  by_cases hn : n ≤ ds.length
  · rw [Nat.min_eq_left hn, List.take_of_length_le (by rw [List.length_drop]; omega)]
  · rw [Nat.min_eq_right (by omega), List.drop_eq_nil_of_le (Nat.le_refl _), List.drop_eq_nil_of_le (by omega)]
    simp
theorem cutD_to {α : Type} (ds : List α) {k : Int} (h : 0 ≤ k) : cutD ds none (some k) = ds.take k.toNat := by
  obtain ⟨n, rfl⟩ := Int.eq_ofNat_of_zero_le h
  unfold cutD
  rw [show HT.sIx ds.length ds.length (some (n : Int)) = min n ds.length from HT.sIx_nat _ _ _, HT.sIx_none, Int.toNat_natCast, Nat.sub_zero, List.drop_zero]
  by_cases hn : n ≤ ds.length
  · rw [Nat.min_eq_left hn]
  · rw [Nat.min_eq_right (by omega), List.take_length, List.take_of_length_le (by omega)]
theorem cutD_both {α : Type} (ds : List α) {a b : Int} (h : 0 ≤ a) (h2 : 0 ≤ b) : cutD ds (some a) (some b) = (ds.take b.toNat).drop a.toNat := by
  obtain ⟨n, rfl⟩ := Int.eq_ofNat_of_zero_le h
  obtain ⟨k, rfl⟩ := Int.eq_ofNat_of_zero_le h2
  unfold cutD
  rw [show HT.sIx ds.length 0 (some (n : Int)) = min n ds.length from HT.sIx_nat _ _ _, show HT.sIx ds.length ds.length (some (k : Int)) = min k ds.length from HT.sIx_nat _ _ _, Int.toNat_natCast, Int.toNat_natCast, ← List.drop_take]
  have e1 : List.take (min k ds.length) ds = List.take k ds := by
    by_cases hk : k ≤ ds.length
    · rw [Nat.min_eq_left hk]
    · rw [Nat.min_eq_right (show ds.length ≤ k by omega), List.take_length, List.take_of_length_le (show ds.length ≤ k by omega)]
  rw [e1]
  by_cases hn : n ≤ ds.length
  · rw [Nat.min_eq_left hn]
  · rw [Nat.min_eq_right (show ds.length ≤ n by omega), List.drop_eq_nil_of_le (by rw [List.length_take]; omega), List.drop_eq_nil_of_le (by rw [List.length_take]; omega)]
theorem cutD_butlast {α : Type} (ds : List α) : cutD ds none (some (-1)) = ds.dropLast := by
  unfold cutD
  rw [HT.sIx_none]
  show (List.drop 0 ds).take ((if (-1 : Int) < 0 then ((-1 : Int) + (ds.length : Int)).toNat else min (-1 : Int).toNat ds.length) - 0) = _
  rw [if_pos (by decide), List.drop_zero, List.dropLast_eq_take]
  congr 1
  omega
theorem cutV_D (xs : List V) (lo hi : Option Int) : cutV xs lo hi = cutD xs lo hi := rfl
section
variable {K : PySem.W.Frag} {σ : L2.St} {H : Hp} {Q : VK} {D : Ends} {v x y z : V} {d e : PyData} {ds es : List PyData} {tl te : TE} {ta : TA} {tb : TS} {g : TG} {lo hi : Option Int}
theorem dpa_cut {vs : List V} (h : DpAll K H vs ds) : DpAll K H (cutD vs lo hi) (cutD ds lo hi) := by
  unfold cutD
  rw [dpa_len h]
  exact dpa_take _ (dpa_drop _ h)
theorem w_slD (h : Dp K H v (.list ds)) (q : ∀ p H' xs, H p = none → Same H H' → H' p = some (.lst xs) → Dp K H' (.ref p) (.list (cutD ds lo hi)) → Q (.ref p) H') : rSlL K v lo hi H Q := by
  obtain ⟨a, xs, rfl, hs, ha⟩ := dp_lst h
  exact ⟨a, xs, rfl, hs, fun p hp => q p _ _ hp (same_new hp) upd_same (dp_newL upd_same (dpa_same (same_new hp) (dpa_cut ha)))⟩
theorem w_slV {a : Addr} {xs : List V} (h : SqL K H a xs) (q : ∀ p H', H p = none → Same H H' → H' p = some (.lst (cutD xs lo hi)) → Q (.ref p) H') : rSlL K (.ref a) lo hi H Q :=
  ⟨a, xs, rfl, h, fun p hp => q p _ hp (same_new hp) upd_same⟩
theorem w_slT (h : Dp K H v (.tuple ds)) (q : ∀ p H', Same H H' → Dp K H' (.ref p) (.tuple (cutD ds lo hi)) → Q (.ref p) H') (hne : ¬ (HT.sIx ds.length 0 lo = 0 ∧ HT.sIx ds.length ds.length hi = ds.length)) : ∃ a xs, v = .ref a ∧ SqT K H a xs := by
  obtain ⟨a, xs, rfl, hs, ha⟩ := dp_tup h
  exact ⟨a, xs, rfl, hs⟩
/-- strings -/
theorem w_slS {s : Str} (hz : s.length ≤ sizeLine) (q : Q (.str ⟨(cutD s.cps.toList lo hi).toArray⟩) H) : rSlS (.str s) lo hi H Q := ⟨s, rfl, hz, q⟩
def rForL (K : PySem.W.Frag) (g : TG) (tb : TS) (D : Ends) (σ : L2.St) (x : V) (H1 : Hp) : Prop := ∃ a, x = .ref a ∧ (∃ xs, SqL K H1 a xs) ∧ ∃ W : Nat → Nat → L2.St → Hp → Prop, (∃ m, W 0 m σ H1) ∧ ∀ i m σ H, W i m σ H →
  ((Itl K a).stop i H ∧ D.nx σ H) ∨ ((Itl K a).go i H ∧ ∃ N : L2.St → Hp → Prop, (∀ σ' H', N σ' H' → ∃ m', m' < m ∧ W (i + 1) m' σ' H') ∧ ∀ x H', (Itl K a).yld i H x H' → g x σ H' fun σ2 H2 => tb { D with nx := N, ct := N, bk := D.nx } σ2 H2)
theorem w_forL (h : tl σ H fun x H1 => rForL K g tb D σ x H1) : tFor (iList K tl) g tb D σ H := h
def rForT (K : PySem.W.Frag) (g : TG) (tb : TS) (D : Ends) (σ : L2.St) (x : V) (H1 : Hp) : Prop := ∃ a, x = .ref a ∧ (∃ xs, SqT K H1 a xs) ∧ ∃ W : Nat → Nat → L2.St → Hp → Prop, (∃ m, W 0 m σ H1) ∧ ∀ i m σ H, W i m σ H →
  ((Itt K a).stop i H ∧ D.nx σ H) ∨ ((Itt K a).go i H ∧ ∃ N : L2.St → Hp → Prop, (∀ σ' H', N σ' H' → ∃ m', m' < m ∧ W (i + 1) m' σ' H') ∧ ∀ x H', (Itt K a).yld i H x H' → g x σ H' fun σ2 H2 => tb { D with nx := N, ct := N, bk := D.nx } σ2 H2)
theorem w_forT (h : tl σ H fun x H1 => rForT K g tb D σ x H1) : tFor (iTup K tl) g tb D σ H := h
def rForR (g : TG) (tb : TS) (D : Ends) (σ : L2.St) (lo : Int) (n : Nat) (H1 : Hp) : Prop := ∃ W : Nat → Nat → L2.St → Hp → Prop, (∃ m, W 0 m σ H1) ∧ ∀ i m σ H, W i m σ H →
  ((Itr lo n).stop i H ∧ D.nx σ H) ∨ ((Itr lo n).go i H ∧ ∃ N : L2.St → Hp → Prop, (∀ σ' H', N σ' H' → ∃ m', m' < m ∧ W (i + 1) m' σ' H') ∧ ∀ x H', (Itr lo n).yld i H x H' → g x σ H' fun σ2 H2 => tb { D with nx := N, ct := N, bk := D.nx } σ2 H2)
def rForR1 (g : TG) (tb : TS) (D : Ends) (σ : L2.St) (vs : List V) (H1 : Hp) : Prop := ∃ j : Int, vs = [.int j] ∧ -(2 ^ 62) ≤ j ∧ j < 2 ^ 62 ∧ rForR g tb D σ 0 j.toNat H1
def rForR2 (g : TG) (tb : TS) (D : Ends) (σ : L2.St) (vs : List V) (H1 : Hp) : Prop := ∃ i j : Int, vs = [.int i, .int j] ∧ (-(2 ^ 62) ≤ i ∧ i < 2 ^ 62 ∧ -(2 ^ 62) ≤ j ∧ j < 2 ^ 62) ∧ rForR g tb D σ i (j - i).toNat H1
theorem w_forR1 (h : ta σ H fun vs H1 => rForR1 g tb D σ vs H1) : tFor (iRng1 ta) g tb D σ H := h
theorem w_forR2 (h : ta σ H fun vs H1 => rForR2 g tb D σ vs H1) : tFor (iRng2 ta) g tb D σ H := h
def rForS (g : TG) (tb : TS) (D : Ends) (σ : L2.St) (v : V) (H1 : Hp) : Prop := ∃ x, v = .str x ∧ ∃ W : Nat → Nat → L2.St → Hp → Prop, (∃ m, W 0 m σ H1) ∧ ∀ i m σ H, W i m σ H →
  ((Its x).stop i H ∧ D.nx σ H) ∨ ((Its x).go i H ∧ ∃ N : L2.St → Hp → Prop, (∀ σ' H', N σ' H' → ∃ m', m' < m ∧ W (i + 1) m' σ' H') ∧ ∀ x' H', (Its x).yld i H x' H' → g x' σ H' fun σ2 H2 => tb { D with nx := N, ct := N, bk := D.nx } σ2 H2)
theorem w_forS (h : te σ H fun v H1 => rForS g tb D σ v H1) : tFor (iStr te) g tb D σ H := h
/-- a list walked: at each turn an item by its data -/
theorem forL_by (Pv : Nat → L2.St → Hp → Prop) (src : Dp K H x (.list ds)) (h0 : Pv 0 σ H) (hk : ∀ i σ' H', i ≤ ds.length → Pv i σ' H' → Keep H H')
    (hs : ∀ i d y σ' H', ds[i]? = some d → Dp K H' y d → Pv i σ' H' → g y σ' H' fun σ2 H2 => tb { D with nx := Pv (i + 1), ct := Pv (i + 1), bk := D.nx } σ2 H2) (hd : ∀ σ' H', Pv ds.length σ' H' → D.nx σ' H') : rForL K g tb D σ x H := by
  obtain ⟨a, xs, rfl, hq, ha⟩ := dp_lst src
  have hl := dpa_len ha
  refine ⟨a, rfl, ⟨xs, hq⟩, for_list (xs := xs) Pv h0 (fun i σ' H' hi p => (hk i σ' H' (by omega) p).seqL hq) (fun i y σ' H' hi p => ?_) (fun σ' H' p => hd σ' H' (by rw [← hl]; exact p))⟩
  obtain ⟨d, e1, e2⟩ := dpa_get2 ha hi
  exact hs i d y σ' H' e1 (dp_keep (hk i σ' H' (by have := (List.getElem?_eq_some_iff.mp e1).1; omega) p) e2) p
theorem forT_by (Pv : Nat → L2.St → Hp → Prop) (src : Dp K H x (.tuple ds)) (h0 : Pv 0 σ H) (hk : ∀ i σ' H', i ≤ ds.length → Pv i σ' H' → Keep H H')
    (hs : ∀ i d y σ' H', ds[i]? = some d → Dp K H' y d → Pv i σ' H' → g y σ' H' fun σ2 H2 => tb { D with nx := Pv (i + 1), ct := Pv (i + 1), bk := D.nx } σ2 H2) (hd : ∀ σ' H', Pv ds.length σ' H' → D.nx σ' H') : rForT K g tb D σ x H := by
  obtain ⟨a, xs, rfl, hq, ha⟩ := dp_tup src
  have hl := dpa_len ha
  refine ⟨a, rfl, ⟨xs, hq⟩, for_tup (xs := xs) Pv h0 (fun i σ' H' hi p => (hk i σ' H' (by omega) p).seqT hq) (fun i y σ' H' hi p => ?_) (fun σ' H' p => hd σ' H' (by rw [← hl]; exact p))⟩
  obtain ⟨d, e1, e2⟩ := dpa_get2 ha hi
  exact hs i d y σ' H' e1 (dp_keep (hk i σ' H' (by have := (List.getElem?_eq_some_iff.mp e1).1; omega) p) e2) p
theorem forR1_by {k : Int} (Pv : Nat → L2.St → Hp → Prop) (hz : -(2 ^ 62) ≤ k ∧ k < 2 ^ 62) (h0 : Pv 0 σ H)
    (hs : ∀ (i : Nat) σ' H', (i : Int) < k → Pv i σ' H' → g (.int (i : Int)) σ' H' fun σ2 H2 => tb { D with nx := Pv (i + 1), ct := Pv (i + 1), bk := D.nx } σ2 H2) (hd : ∀ σ' H', Pv k.toNat σ' H' → D.nx σ' H') : rForR1 g tb D σ [.int k] H :=
  ⟨k, rfl, hz.1, hz.2, for_range (lo := 0) (n := k.toNat) Pv h0 (fun i σ' H' hi p => by rw [Int.zero_add]; exact hs i σ' H' (by omega) p) hd⟩
theorem forR2_by {lo k : Int} (Pv : Nat → L2.St → Hp → Prop) (hz : -(2 ^ 62) ≤ lo ∧ lo < 2 ^ 62 ∧ -(2 ^ 62) ≤ k ∧ k < 2 ^ 62) (h0 : Pv 0 σ H)
    (hs : ∀ (i : Nat) σ' H', lo + (i : Int) < k → Pv i σ' H' → g (.int (lo + (i : Int))) σ' H' fun σ2 H2 => tb { D with nx := Pv (i + 1), ct := Pv (i + 1), bk := D.nx } σ2 H2) (hd : ∀ σ' H', Pv (k - lo).toNat σ' H' → D.nx σ' H') : rForR2 g tb D σ [.int lo, .int k] H :=
  ⟨lo, k, rfl, hz, for_range (lo := lo) (n := (k - lo).toNat) Pv h0 (fun i σ' H' hi p => hs i σ' H' (by omega) p) hd⟩
theorem forS_by {s : Str} (Pv : Nat → L2.St → Hp → Prop) (h0 : Pv 0 σ H)
    (hs : ∀ (i : Nat) c σ' H', s.cps.toList[i]? = some c → Pv i σ' H' → g (.str ⟨#[c]⟩) σ' H' fun σ2 H2 => tb { D with nx := Pv (i + 1), ct := Pv (i + 1), bk := D.nx } σ2 H2) (hd : ∀ σ' H', Pv s.length σ' H' → D.nx σ' H') : rForS g tb D σ (.str s) H := by
  refine ⟨s, rfl, fun i m σ H => m = s.length - i ∧ i ≤ s.length ∧ Pv i σ H, ⟨s.length, by simp, Nat.zero_le _, h0⟩, ?_⟩
  rintro i m σ H ⟨rfl, hi, p⟩
  by_cases hlt : i < s.length
  · refine .inr ⟨hlt, Pv (i + 1), fun σ' H' p' => ⟨s.length - (i + 1), by omega, rfl, hlt, p'⟩, fun x H' y => ?_⟩
    obtain ⟨e, c, hc, rfl⟩ := y
    subst e
    exact hs i c σ _ (by simpa using hc) p
  · have e : i = s.length := by omega
    subst e
    exact .inl ⟨Nat.le_refl _, hd σ H p⟩
theorem w_gName {j : Nat} {Q : L2.St → Hp → Prop} (q : Q (σ.set j (some v)) H) : gName j v σ H Q := q
theorem w_pw {P : Prop} (h : P) : P := h
end
end Tw
namespace Tw
open PySem PySem.Spec PyProof.Rows L2
/-! ### data without bools and dicts: == is equality -/
def pln : Nat → PyData → Bool
  | _, .none => true
  | _, .int _ => true
  | _, .str x => PyData.strOk x
  | k + 1, .list ds => ds.all (pln k)
  | k + 1, .tuple ds => ds.all (pln k)
  | _, _ => false
theorem pln_shape : ∀ (k : Nat) (d : PyData), pln k d = true → d.canLay0 = true ∧ d.depth ≤ k := by
  intro k
  induction k with
  | zero =>
    intro d h
    cases d <;> simp [pln] at h <;> simp [PyData.canLay0, PyData.depth, h]
  | succ k ih =>
    have all : ∀ ds : List PyData, ds.all (pln k) = true → PyData.canLayAll0 ds = true ∧ PyData.depthAll ds ≤ k := by
      intro ds
      induction ds with
      | nil => intro _; exact ⟨rfl, Nat.zero_le _⟩
      | cons d ds ihd =>
        intro h
        rw [List.all_cons, Bool.and_eq_true] at h
        obtain ⟨a, b⟩ := ih d h.1
        obtain ⟨a', b'⟩ := ihd h.2
        exact ⟨by simp [PyData.canLayAll0, a, a'], by simp only [PyData.depthAll]; omega⟩
    intro d h
    cases d with
    | list ds =>
      obtain ⟨a, b⟩ := all ds (by simpa [pln] using h)
      exact ⟨by simpa [PyData.canLay0] using a, by simp only [PyData.depth]; omega⟩
    | tuple ds =>
      obtain ⟨a, b⟩ := all ds (by simpa [pln] using h)
      exact ⟨by simpa [PyData.canLay0] using a, by simp only [PyData.depth]; omega⟩
    | none => simp [PyData.canLay0, PyData.depth]
    | int i => simp [PyData.canLay0, PyData.depth]
    | str x => simp [pln] at h; simp [PyData.canLay0, PyData.depth, h]
    | bool b => simp [pln] at h
    | dict kvs => simp [pln] at h
theorem pln_shaped {k : Nat} {d : PyData} (h : pln k d = true) (hk : k ≤ 64) : SeqAt.shaped d = true := by
  obtain ⟨a, b⟩ := pln_shape k d h
  unfold SeqAt.shaped
  rw [a, Bool.true_and, decide_eq_true]
  omega
theorem pln_eqv : ∀ (k l : Nat) (d e : PyData), pln k d = true → pln l e = true → (PyData.eqv d e = true ↔ d = e) := by
  intro k
  induction k with
  | zero =>
    intro l d e h1 h2
    cases d <;> simp [pln] at h1 <;> cases e <;> simp [PyData.eqv] <;> cases l <;> simp [pln] at h2
  | succ k ih =>
    have all : ∀ (l : Nat) (ds es : List PyData), ds.all (pln k) = true → es.all (pln l) = true → (PyData.eqvAll ds es = true ↔ ds = es) := by
      intro l ds
      induction ds with
      | nil => intro es _ _; cases es <;> simp [PyData.eqvAll]
      | cons d ds ihd =>
        intro es h1 h2
        cases es with
        | nil => simp [PyData.eqvAll]
        | cons e es =>
          rw [List.all_cons, Bool.and_eq_true] at h1 h2
          simp only [PyData.eqvAll, Bool.and_eq_true, List.cons.injEq]
          rw [ih l d e h1.1 h2.1, ihd es h1.2 h2.2]
    intro l d e h1 h2
    cases d with
    | list ds =>
      cases e with
      | list es =>
        cases l with
        | zero => simp [pln] at h2
        | succ l =>
          have := all l ds es (by simpa [pln] using h1) (by simpa [pln] using h2)
          simpa [PyData.eqv] using this
      | _ => simp [PyData.eqv]
    | tuple ds =>
      cases e with
      | tuple es =>
        cases l with
        | zero => simp [pln] at h2
        | succ l =>
          have := all l ds es (by simpa [pln] using h1) (by simpa [pln] using h2)
          simpa [PyData.eqv] using this
      | _ => simp [PyData.eqv]
    | none => cases e <;> simp [PyData.eqv]
    | int i => cases e <;> simp [PyData.eqv] <;> (cases l <;> simp [pln] at h2)
    | str x => cases e <;> simp [PyData.eqv]
    | bool b => simp [pln] at h1
    | dict kvs => simp [pln] at h1
theorem pln_ints {k : Nat} (ns : List Int) : pln (k + 1) (.list (ns.map PyData.int)) = true := by
  cases k <;> simp [pln, List.all_eq_true]
theorem pln_intsT {k : Nat} (ns : List Int) : pln (k + 1) (.tuple (ns.map PyData.int)) = true := by
  cases k <;> simp [pln, List.all_eq_true]
section
variable {K : PySem.W.Frag} {H : Hp} {Q : VK} {x y : V} {d e : PyData}
theorem w_eqP (h1 : Dp K H x d) (h2 : Dp K H y e) (p1 : pln 9 d = true) (p2 : pln 9 e = true) (q1 : d = e → Q (.bl true) H) (q2 : d ≠ e → Q (.bl false) H) : rEqD K x y H Q := by
  refine ⟨d, e, h1, h2, pln_shaped p1 (by decide), pln_shaped p2 (by decide), ?_⟩
  have r := pln_eqv _ _ d e p1 p2
  cases he : PyData.eqv d e with
  | true => exact q1 (r.mp he)
  | false => exact q2 (fun z => by rw [r.mpr z] at he; cases he)
theorem w_neP (h1 : Dp K H x d) (h2 : Dp K H y e) (p1 : pln 9 d = true) (p2 : pln 9 e = true) (q1 : d = e → Q (.bl false) H) (q2 : d ≠ e → Q (.bl true) H) : rNeD K x y H Q := by
  refine ⟨d, e, h1, h2, pln_shaped p1 (by decide), pln_shaped p2 (by decide), ?_⟩
  have r := pln_eqv _ _ d e p1 p2
  cases he : PyData.eqv d e with
  | true => exact q1 (r.mp he)
  | false => exact q2 (fun z => by rw [r.mpr z] at he; cases he)
end
/-! ### a dict written out -/
def rDisp (p : Addr) (ps : List (V × V)) (H2 : Hp) (Q : VK) : Prop := H2 p = some (.dK []) ∧ ∃ kvs : List (Key × V), ps = kvs.map (fun kv => (kV kv.1, kv.2)) ∧ kvs.length ≤ 15 ∧ Q (.ref p) (upd H2 p (.dK (mergeK [] kvs)))
theorem w_disp {σ : L2.St} {H : Hp} {Q : VK} {trs : List (TE × TE)} (h : ∀ p H0, H p = none → Same H H0 → H0 p = some (.dK []) → tPairs trs σ H0 fun ps H2 => rDisp p ps H2 Q) : tDisp trs σ H Q := fun p hp => h p _ hp (same_new hp) upd_same
theorem w_pp {σ : L2.St} {H : Hp} {Q : List (V × V) → Hp → Prop} {tk tv : TE} {r : List (TE × TE)} (h : tk σ H fun x H1 => tv σ H1 fun y H2 => tPairs r σ H2 fun ps H3 => Q ((x, y) :: ps) H3) : tPairs ((tk, tv) :: r) σ H Q := h
theorem w_pp0 {σ : L2.St} {H : Hp} {Q : List (V × V) → Hp → Prop} (h : Q [] H) : tPairs [] σ H Q := h
theorem pg_tupK {X : Cx} {K : PySem.W.Frag} {es : List Expr} {k : Nat} {t : TGs} {n : Nat} {pos : Pos} (hc : X.calm = true) (hh : PGs X es t) (h : X.K = K := by rfl)
    (hn : (assignEach es X.env).length = n := by rfl) (hst : (assignEach es X.env).findIdx? (·.1) = none := by rfl) : PG X (.Tuple es k pos) (gTup K n t) := h ▸ pg_tup hc hh hn hst
end Tw
namespace Tw
open PySem PySem.Spec PyProof.Rows L2
/-! ### the law's own drawing: its dict -/
def moKvs (left seed : Int) (c : Addr) (spot : Int) : List (Key × V) := [(.inr "left", .int left), (.inr "seed", .int seed), (.inr "cells", .ref c), (.inr "spot", .int spot)]
theorem mo_len {l s : Int} {c : Addr} {p : Int} : (moKvs l s c p).length < sizeLine := by show 4 < sizeLine; decide
/-- a number of the script, or a little more -/
structure Big (n : Int) : Prop where
  lt : n.natAbs < 2 ^ 1048600
theorem Big.mul {i j : Int} (h : Big i) (hb : -(2 ^ 250) < j ∧ j < 2 ^ 250) : CMulX i j := mulx_ok (a := 1048600) (b := 250) h.lt (by omega) (by decide)
theorem Big.bits {n : Int} (h : Builtin.Int.intBits n ≤ 1048576) : Big n := by
  have h1 : n.natAbs < 2 ^ Builtin.Int.intBits n := by
    by_cases h0 : n = 0
    · subst h0; decide
    · unfold Builtin.Int.intBits
      rw [if_neg (by simpa using h0)]
      exact Nat.lt_log2_self
  exact ⟨Nat.lt_of_lt_of_le h1 (Nat.pow_le_pow_right (by decide) (by omega))⟩
theorem Big.small {n : Int} (h : -(2 ^ 250) < n ∧ n < 2 ^ 250) : Big n := by
  exact ⟨Nat.lt_of_lt_of_le (show n.natAbs < 2 ^ 250 by omega) (Nat.pow_le_pow_right (by decide) (by decide))⟩
/-- the dict of the law's draws, at most b of which were made; its cells at c -/
def Mo (H : Hp) (m c : Addr) (b : Nat) : Prop := ∃ (left seed spot : Int) (ns : List Int),
  H m = some (.dK (moKvs left seed c spot)) ∧ H c = some (.lst (ns.map V.int)) ∧ 0 < ns.length ∧ ns.length ≤ 100 ∧ (∀ n ∈ ns, Big n) ∧ 0 ≤ seed ∧ seed < 2147483647 ∧ 0 ≤ spot ∧ spot ≤ b
theorem k_left_seed : ¬ Str.ofString "left" = Str.ofString "seed" := by decide +kernel
theorem k_left_cells : ¬ Str.ofString "left" = Str.ofString "cells" := by decide +kernel
theorem k_left_spot : ¬ Str.ofString "left" = Str.ofString "spot" := by decide +kernel
theorem k_seed_cells : ¬ Str.ofString "seed" = Str.ofString "cells" := by decide +kernel
theorem k_seed_spot : ¬ Str.ofString "seed" = Str.ofString "spot" := by decide +kernel
theorem k_cells_spot : ¬ Str.ofString "cells" = Str.ofString "spot" := by decide +kernel
theorem mo_left {l s : Int} {c : Addr} {p : Int} : valV (moKvs l s c p) (.inr "left") = some (.int l) := by simp [valV, moKvs]
theorem mo_seed {l s : Int} {c : Addr} {p : Int} : valV (moKvs l s c p) (.inr "seed") = some (.int s) := by simp [valV, moKvs, k_left_seed]
theorem mo_cells {l s : Int} {c : Addr} {p : Int} : valV (moKvs l s c p) (.inr "cells") = some (.ref c) := by simp [valV, moKvs, k_left_cells, k_seed_cells]
theorem mo_spot {l s : Int} {c : Addr} {p : Int} : valV (moKvs l s c p) (.inr "spot") = some (.int p) := by simp [valV, moKvs, k_left_spot, k_seed_spot, k_cells_spot]
theorem mo_put_left {l s : Int} {c : Addr} {p z : Int} : putK (moKvs l s c p) (.inr "left") (.int z) = moKvs z s c p := by
  simp [putK, moKvs, k_left_seed, k_left_cells, k_left_spot, Ne.symm k_left_seed, Ne.symm k_left_cells, Ne.symm k_left_spot]
theorem mo_put_spot {l s : Int} {c : Addr} {p z : Int} : putK (moKvs l s c p) (.inr "spot") (.int z) = moKvs l s c z := by
  simp [putK, moKvs, k_left_spot, k_seed_spot, k_cells_spot]
theorem Mo.mono {H : Hp} {m c : Addr} {a b : Nat} (h : Mo H m c a) (l : a ≤ b) : Mo H m c b := by
  obtain ⟨left, seed, spot, ns, h1, h2, h3, h4, h5, h6, h7, h8, h9⟩ := h
  exact ⟨left, seed, spot, ns, h1, h2, h3, h4, h5, h6, h7, h8, by omega⟩
theorem Mo.same {H H' : Hp} {m c : Addr} {a : Nat} (e : Same H H') (h : Mo H m c a) : Mo H' m c a := by
  obtain ⟨left, seed, spot, ns, h1, h2, h⟩ := h
  exact ⟨left, seed, spot, ns, e _ _ h1, e _ _ h2, h⟩
theorem Mo.ne {H : Hp} {m c : Addr} {a : Nat} {D : Addr} (h : Mo H m c a) (hD : H D = none) : c ≠ D := by
  obtain ⟨left, seed, spot, ns, h1, h2, h⟩ := h
  exact ne_of_none h2 hD
theorem Mo.upd {H : Hp} {m c : Addr} {a : Nat} {D : Addr} {o : HO} {xs : List V} (h : Mo H m c a) (hD : H D = some (.lst xs)) (n : c ≠ D) : Mo (upd H D o) m c a := by
  obtain ⟨left, seed, spot, ns, h1, h2, h⟩ := h
  refine ⟨left, seed, spot, ns, ?_, ?_, h⟩
  · rw [upd_ne (ne_of h1 hD (fun z => nomatch z))]; exact h1
  · rw [upd_ne n]; exact h2
theorem Mo.new {H : Hp} {m c : Addr} {a : Nat} {D : Addr} {o : HO} (h : Mo H m c a) (hD : H D = none) : Mo (L2.upd H D o) m c a := h.same (same_new hD)
/-! ### data without lists -/
mutual
def noL : PyData → Bool
  | .list _ => false
  | .dict _ => false
  | .tuple ds => noLs ds
  | .none => true
  | .bool _ => true
  | .int _ => true
  | .str _ => true
def noLs : List PyData → Bool
  | [] => true
  | d :: ds => noL d && noLs ds
end
mutual
theorem dp_upd {K : PySem.W.Frag} {H : Hp} {D : Addr} {o : HO} {xs0 : List V} (hD : H D = some (.lst xs0)) : ∀ (d : PyData) (v : V), noL d = true → Dp K H v d → Dp K (upd H D o) v d
  | .none, _, _, h => by cases h; exact .non
  | .bool b, _, _, h => by cases h; exact .bl b
  | .int i, _, _, h => by cases h; exact .int i
  | .str x, _, _, h => by cases h; exact .str x
  | .list ds, _, n, h => by simp [noL] at n
  | .tuple ds, _, n, h => by
    cases h with
    | tup hs ha =>
      refine .tup ?_ (dpa_upd hD ds _ (by simpa [noL] using n) ha)
      rcases hs with (hs | ⟨ob, hs⟩) | hs
      · exact .inl (.inl (by rw [upd_ne (ne_of hs hD (fun z => nomatch z))]; exact hs))
      · exact .inl (.inr ⟨ob, by rw [upd_ne (ne_of hs hD (fun z => nomatch z))]; exact hs⟩)
      · exact .inr hs
  | .dict _, _, n, h => by cases h
theorem dpa_upd {K : PySem.W.Frag} {H : Hp} {D : Addr} {o : HO} {xs0 : List V} (hD : H D = some (.lst xs0)) : ∀ (ds : List PyData) (vs : List V), noLs ds = true → DpAll K H vs ds → DpAll K (upd H D o) vs ds
  | [], _, _, h => by cases h; exact .nil
  | d :: ds, _, n, h => by
    simp only [noLs, Bool.and_eq_true] at n
    cases h with
    | cons h1 h2 => exact .cons (dp_upd hD d _ n.1 h1) (dpa_upd hD ds _ n.2 h2)
end
theorem noLs_app : ∀ {ds es : List PyData}, noLs ds = true → noLs es = true → noLs (ds ++ es) = true
  | [], _, _, h => h
  | d :: ds, es, n, h => by
    simp only [noLs, Bool.and_eq_true] at n
    simp only [List.cons_append, noLs, Bool.and_eq_true]
    exact ⟨n.1, noLs_app n.2 h⟩
theorem noLs_one {d : PyData} (h : noL d = true) : noLs [d] = true := by simp [noLs, h]

/-! ### comprehensions -/
section
variable {K : PySem.W.Frag} {σ : L2.St} {H H1 : Hp} {Q : VK} {x : V} {ds : List PyData} {j : Nat} {vs : List Nat} {tt : TT} {te tl : TE} {ta : TA}
/-- what holds between two turns of a comprehension: i turns, the data made so far, the heap -/
structure LcJ (H1 : Hp) (J : Nat → List PyData → Hp → Prop) : Prop where
  start : ∀ D, H1 D = none → J 0 [] (L2.upd H1 D (.lst []))
  keep : ∀ i es H', J i es H' → Keep H1 H'
  upd : ∀ i es H' D xs o, H1 D = none → H' D = some (.lst xs) → J i es H' → J i es (L2.upd H' D o)
def LcP (K : PySem.W.Frag) (J : Nat → List PyData → Hp → Prop) (D : Addr) (i : Nat) (H' : Hp) : Prop :=
  ∃ vs es, H' D = some (.lst vs) ∧ DpAll K H' vs es ∧ noLs es = true ∧ es.length ≤ i ∧ J i es H'
def LcTurn (K : PySem.W.Frag) (J : Nat → List PyData → Hp → Prop) (tt : TT) (te : TE) (σx : L2.St) (i : Nat) (es : List PyData) (H' : Hp) : Prop :=
  ∀ (Yes : VK) (No : Hp → Prop), (∀ z H4 e, Keep H' H4 → noL e = true → Dp K H4 z e → J (i + 1) (es ++ [e]) H4 → Yes z H4) → (∀ H3, Keep H' H3 → J (i + 1) es H3 → No H3) →
    tt σx H' fun b H3 => if b = true then te σx H3 Yes else No H3
theorem lc_turn {J : Nat → List PyData → Hp → Prop} (lj : LcJ H1 J) {D : Addr} (hD : H1 D = none) {i : Nat} (hi : i < 1000000) {H' : Hp} {σx : L2.St} (p : LcP K J D i H') (turn : ∀ es, J i es H' → LcTurn K J tt te σx i es H') :
    tt σx H' fun b H3 => if b = true then te σx H3 fun y H4 => ∃ acc, H4 D = some (.lst acc) ∧ acc.length < sizeLine ∧ LcP K J D (i + 1) (L2.upd H4 D (.lst (acc ++ [y]))) else LcP K J D (i + 1) H3 := by
  obtain ⟨vs, es, p1, p2, p3, p4, p5⟩ := p
  have hs : sizeLine = 16777216 := sizeLine_eq
  refine turn es p5 _ _ (fun z H4 e k n dz j => ?_) (fun H3 k j => ?_)
  · have l := dpa_len p2
    refine ⟨vs, k.l p1, by omega, _, es ++ [e], upd_same, ?_, noLs_app p3 (noLs_one n), by simp; omega, lj.upd _ _ _ _ vs _ hD (k.l p1) j⟩
    exact dpa_app (dpa_upd (k.l p1) _ _ p3 (dpa_keep k p2)) (dpa_one (dp_upd (k.l p1) _ _ n dz))
  · exact ⟨vs, es, k.l p1, dpa_keep k p2, p3, by omega, j⟩
def rLcL (K : PySem.W.Frag) (j : Nat) (tt : TT) (te : TE) (vs : List Nat) (σ : L2.St) (x : V) (H1 : Hp) (Q : VK) : Prop := ∃ a, x = .ref a ∧ (∃ xs, SqL K H1 a xs) ∧ ∀ D, H1 D = none → ∃ W : Nat → Nat → Hp → Prop, (∃ m, W 0 m (L2.upd H1 D (.lst []))) ∧ ∀ i m H, W i m H →
  ((Itl K a).stop i H ∧ Q (.ref D) H) ∨ ((Itl K a).go i H ∧ ∃ Nx : Hp → Prop, (∀ H', Nx H' → ∃ m', m' < m ∧ W (i + 1) m' H') ∧ ∀ x H', (Itl K a).yld i H x H' → gName j x (wipe σ vs) H' fun σ2 H2 => wipe σ2 vs = wipe σ vs ∧ tt σ2 H2 fun b H3 =>
    if b = true then te σ2 H3 fun y H4 => ∃ acc, H4 D = some (.lst acc) ∧ acc.length < sizeLine ∧ Nx (L2.upd H4 D (.lst (acc ++ [y]))) else Nx H3)
theorem w_lcL (h : tl σ H fun x H1 => rLcL K j tt te vs σ x H1 Q) : tLc (iList K tl) (gName j) tt te vs σ H Q := h
theorem lc_list_by (J : Nat → List PyData → Hp → Prop) (lj : LcJ H1 J) (src : Dp K H1 x (.list ds)) (hz : ds.length ≤ 1000000) (hw : ∀ x, wipe ((wipe σ vs).set j (some x)) vs = wipe σ vs)
    (turn : ∀ i d y H' es, ds[i]? = some d → Dp K H' y d → J i es H' → LcTurn K J tt te ((wipe σ vs).set j (some y)) i es H')
    (done : ∀ p H' vs es, H1 p = none → Keep H1 H' → H' p = some (.lst vs) → Dp K H' (.ref p) (.list es) → J ds.length es H' → Q (.ref p) H') : rLcL K j tt te vs σ x H1 Q := by
  obtain ⟨a, xs, rfl, hs, ha⟩ := dp_lst src
  have hl := dpa_len ha
  refine ⟨a, rfl, ⟨xs, hs⟩, fun D hD => lc_list (xs := xs) (LcP K J D) ⟨[], [], upd_same, .nil, rfl, Nat.le_refl _, lj.start D hD⟩ (fun i H' _ p => ?_) (fun i y H' hi p => ⟨hw y, lc_turn lj hD ?_ p fun es q => ?_⟩) fun H' p => ?_⟩
  · obtain ⟨vs, es, p1, p2, p3, p4, p5⟩ := p
    exact (lj.keep _ _ _ p5).seqL hs
  · have := (List.getElem?_eq_some_iff.mp hi).1; omega
  · obtain ⟨d, e1, e2⟩ := dpa_get2 ha hi
    exact turn i d y H' es e1 (dp_keep (lj.keep _ _ _ q) e2) q
  · obtain ⟨vs, es, p1, p2, p3, p4, p5⟩ := p
    rw [hl] at p5
    exact done D H' vs es hD (lj.keep _ _ _ p5) p1 (dp_newL p1 p2) p5
def rLcT (K : PySem.W.Frag) (j : Nat) (tt : TT) (te : TE) (vs : List Nat) (σ : L2.St) (x : V) (H1 : Hp) (Q : VK) : Prop := ∃ a, x = .ref a ∧ (∃ xs, SqT K H1 a xs) ∧ ∀ D, H1 D = none → ∃ W : Nat → Nat → Hp → Prop, (∃ m, W 0 m (L2.upd H1 D (.lst []))) ∧ ∀ i m H, W i m H →
  ((Itt K a).stop i H ∧ Q (.ref D) H) ∨ ((Itt K a).go i H ∧ ∃ Nx : Hp → Prop, (∀ H', Nx H' → ∃ m', m' < m ∧ W (i + 1) m' H') ∧ ∀ x H', (Itt K a).yld i H x H' → gName j x (wipe σ vs) H' fun σ2 H2 => wipe σ2 vs = wipe σ vs ∧ tt σ2 H2 fun b H3 =>
    if b = true then te σ2 H3 fun y H4 => ∃ acc, H4 D = some (.lst acc) ∧ acc.length < sizeLine ∧ Nx (L2.upd H4 D (.lst (acc ++ [y]))) else Nx H3)
theorem w_lcT (h : tl σ H fun x H1 => rLcT K j tt te vs σ x H1 Q) : tLc (iTup K tl) (gName j) tt te vs σ H Q := h
theorem lc_tup_by (J : Nat → List PyData → Hp → Prop) (lj : LcJ H1 J) (src : Dp K H1 x (.tuple ds)) (hz : ds.length ≤ 1000000) (hw : ∀ x, wipe ((wipe σ vs).set j (some x)) vs = wipe σ vs)
    (turn : ∀ i d y H' es, ds[i]? = some d → Dp K H' y d → J i es H' → LcTurn K J tt te ((wipe σ vs).set j (some y)) i es H')
    (done : ∀ p H' vs es, H1 p = none → Keep H1 H' → H' p = some (.lst vs) → Dp K H' (.ref p) (.list es) → J ds.length es H' → Q (.ref p) H') : rLcT K j tt te vs σ x H1 Q := by
  obtain ⟨a, xs, rfl, hs, ha⟩ := dp_tup src
  have hl := dpa_len ha
  refine ⟨a, rfl, ⟨xs, hs⟩, fun D hD => lc_tup (xs := xs) (LcP K J D) ⟨[], [], upd_same, .nil, rfl, Nat.le_refl _, lj.start D hD⟩ (fun i H' _ p => ?_) (fun i y H' hi p => ⟨hw y, lc_turn lj hD ?_ p fun es q => ?_⟩) fun H' p => ?_⟩
  · obtain ⟨vs, es, p1, p2, p3, p4, p5⟩ := p
    exact (lj.keep _ _ _ p5).seqT hs
  · have := (List.getElem?_eq_some_iff.mp hi).1; omega
  · obtain ⟨d, e1, e2⟩ := dpa_get2 ha hi
    exact turn i d y H' es e1 (dp_keep (lj.keep _ _ _ q) e2) q
  · obtain ⟨vs, es, p1, p2, p3, p4, p5⟩ := p
    rw [hl] at p5
    exact done D H' vs es hD (lj.keep _ _ _ p5) p1 (dp_newL p1 p2) p5
def rLcR (j : Nat) (tt : TT) (te : TE) (us : List Nat) (σ : L2.St) (lo : Int) (n : Nat) (H1 : Hp) (Q : VK) : Prop := ∀ D, H1 D = none → ∃ W : Nat → Nat → Hp → Prop, (∃ m, W 0 m (L2.upd H1 D (.lst []))) ∧ ∀ i m H, W i m H →
  ((Itr lo n).stop i H ∧ Q (.ref D) H) ∨ ((Itr lo n).go i H ∧ ∃ Nx : Hp → Prop, (∀ H', Nx H' → ∃ m', m' < m ∧ W (i + 1) m' H') ∧ ∀ x H', (Itr lo n).yld i H x H' → gName j x (wipe σ us) H' fun σ2 H2 => wipe σ2 us = wipe σ us ∧ tt σ2 H2 fun b H3 =>
    if b = true then te σ2 H3 fun y H4 => ∃ acc, H4 D = some (.lst acc) ∧ acc.length < sizeLine ∧ Nx (L2.upd H4 D (.lst (acc ++ [y]))) else Nx H3)
def rLcR1 (j : Nat) (tt : TT) (te : TE) (us : List Nat) (σ : L2.St) (vs : List V) (H1 : Hp) (Q : VK) : Prop := ∃ k : Int, vs = [.int k] ∧ -(2 ^ 62) ≤ k ∧ k < 2 ^ 62 ∧ rLcR j tt te us σ 0 k.toNat H1 Q
def rLcR2 (j : Nat) (tt : TT) (te : TE) (us : List Nat) (σ : L2.St) (vs : List V) (H1 : Hp) (Q : VK) : Prop := ∃ i k : Int, vs = [.int i, .int k] ∧ (-(2 ^ 62) ≤ i ∧ i < 2 ^ 62 ∧ -(2 ^ 62) ≤ k ∧ k < 2 ^ 62) ∧ rLcR j tt te us σ i (k - i).toNat H1 Q
theorem w_lcR1 (h : ta σ H fun ws H1 => rLcR1 j tt te vs σ ws H1 Q) : tLc (iRng1 ta) (gName j) tt te vs σ H Q := h
theorem w_lcR2 (h : ta σ H fun ws H1 => rLcR2 j tt te vs σ ws H1 Q) : tLc (iRng2 ta) (gName j) tt te vs σ H Q := h
theorem lc_rng_by {lo : Int} {n : Nat} (J : Nat → List PyData → Hp → Prop) (lj : LcJ H1 J) (hz : n ≤ 1000000) (hw : ∀ x, wipe ((wipe σ vs).set j (some x)) vs = wipe σ vs)
    (turn : ∀ (i : Nat) H' es, i < n → J i es H' → LcTurn K J tt te ((wipe σ vs).set j (some (.int (lo + (i : Int))))) i es H')
    (done : ∀ p H' vs es, H1 p = none → Keep H1 H' → H' p = some (.lst vs) → Dp K H' (.ref p) (.list es) → J n es H' → Q (.ref p) H') : rLcR j tt te vs σ lo n H1 Q := by
  refine fun D hD => lc_range (lo := lo) (n := n) (LcP K J D) ⟨[], [], upd_same, .nil, rfl, Nat.le_refl _, lj.start D hD⟩ (fun i H' hi p => ⟨hw _, lc_turn lj hD (by omega) p fun es q => turn i H' es hi q⟩) fun H' p => ?_
  obtain ⟨vs, es, p1, p2, p3, p4, p5⟩ := p
  exact done D H' vs es hD (lj.keep _ _ _ p5) p1 (dp_newL p1 p2) p5
theorem lc_rng1_by {k : Int} (J : Nat → List PyData → Hp → Prop) (lj : LcJ H1 J) (hz : 0 ≤ k ∧ k ≤ 1000000) (hw : ∀ x, wipe ((wipe σ vs).set j (some x)) vs = wipe σ vs)
    (turn : ∀ (i : Nat) H' es, (i : Int) < k → J i es H' → LcTurn K J tt te ((wipe σ vs).set j (some (.int (i : Int)))) i es H')
    (done : ∀ p H' vs es, H1 p = none → Keep H1 H' → H' p = some (.lst vs) → Dp K H' (.ref p) (.list es) → J k.toNat es H' → Q (.ref p) H') : rLcR1 j tt te vs σ [.int k] H1 Q := by
  refine ⟨k, rfl, by omega, by omega, lc_rng_by (K := K) J lj (by omega) hw (fun i H' es hi q => ?_) done⟩
  rw [Int.zero_add]
  exact turn i H' es (by omega) q
theorem lc_rng2_by {lo k : Int} (J : Nat → List PyData → Hp → Prop) (lj : LcJ H1 J) (hz : -1000000 ≤ lo ∧ lo ≤ 1000000 ∧ -1000000 ≤ k ∧ k ≤ 1000000 ∧ k - lo ≤ 1000000) (hw : ∀ x, wipe ((wipe σ vs).set j (some x)) vs = wipe σ vs)
    (turn : ∀ (i : Nat) H' es, lo + (i : Int) < k → J i es H' → LcTurn K J tt te ((wipe σ vs).set j (some (.int (lo + (i : Int))))) i es H')
    (done : ∀ p H' vs es, H1 p = none → Keep H1 H' → H' p = some (.lst vs) → Dp K H' (.ref p) (.list es) → J (k - lo).toNat es H' → Q (.ref p) H') : rLcR2 j tt te vs σ [.int lo, .int k] H1 Q :=
  ⟨lo, k, rfl, by omega, lc_rng_by (K := K) J lj (by omega) hw (fun i H' es hi q => turn i H' es (by omega) q) done⟩
theorem w_tYes {Q : Bool → Hp → Prop} (q : Q true H) : tYes σ H Q := q
/-- nothing but new objects: a word about the turns and the data -/
def JP (H1 : Hp) (R : Nat → List PyData → Prop) (i : Nat) (es : List PyData) (H' : Hp) : Prop := Same H1 H' ∧ R i es
theorem JP.ok {R : Nat → List PyData → Prop} (r0 : R 0 []) : LcJ H1 (JP H1 R) where
  start := fun D hD => ⟨same_new hD, r0⟩
  keep := fun _ _ _ h => Keep.of h.1
  upd := fun _ _ _ _ _ _ hD _ h => ⟨same_mut h.1 hD, h.2⟩
/-- .. and draws, at most n a turn -/
def JM (H1 : Hp) (m c : Addr) (b n : Nat) (R : Nat → List PyData → Prop) (i : Nat) (es : List PyData) (H' : Hp) : Prop := Keep H1 H' ∧ Mo H' m c (b + n * i) ∧ R i es
theorem JM.ok {m c : Addr} {b n : Nat} {R : Nat → List PyData → Prop} (hm : Mo H1 m c b) (r0 : R 0 []) : LcJ H1 (JM H1 m c b n R) where
  start := fun D hD => ⟨Keep.of (same_new hD), hm.new hD, r0⟩
  keep := fun _ _ _ h => h.1
  upd := fun _ _ _ _ _ _ hD hx h => ⟨keep_mut h.1 hD, h.2.1.upd hx (hm.ne hD), h.2.2⟩
end
end Tw
namespace Tw
open PySem PySem.Spec PyProof.Rows L2
/-! ### texts as lists of codes -/
def Sg (l : List Nat) : Str := ⟨l.toArray⟩
theorem sg_tl (l : List Nat) : (Sg l).cps.toList = l := by simp [Sg]
theorem sg_len (l : List Nat) : (Sg l).length = l.length := by simp [Sg, Str.length]
theorem sg_app (a b : List Nat) : Sg a ++ Sg b = Sg (a ++ b) := by
  show Str.append (Sg a) (Sg b) = _
  simp [Sg, Str.append]
theorem sg_inj {a b : List Nat} (h : Sg a = Sg b) : a = b := by
  have := congrArg (fun s : Str => s.cps.toList) h
  simpa [Sg] using this
theorem sg_eq {a b : List Nat} : Sg a = Sg b ↔ a = b := ⟨sg_inj, fun h => by rw [h]⟩
theorem sg_one (c : Nat) : (⟨#[c]⟩ : Str) = Sg [c] := rfl
theorem sg_of (s : Str) : ∃ l, s = Sg l := ⟨s.cps.toList, by simp [Sg]⟩
theorem sg_V {a b : List Nat} : (V.str (Sg a) = V.str (Sg b)) ↔ a = b := by
  constructor
  · intro h; exact sg_inj (V.str.inj h)
  · intro h; rw [h]
theorem sg_join (ys : List (List Nat)) : Txt.join (Sg []) (ys.map Sg) = Sg ys.flatten := by
  rw [TL.join_eq]
  induction ys with
  | nil => rfl
  | cons a r ih =>
    cases r with
    | nil => simp [Str.join]
    | cons b r =>
      show Str.append (Str.append (Sg a) (Sg [])) (Str.join (Sg []) (Sg b :: r.map Sg)) = _
      rw [show Sg b :: r.map Sg = (b :: r).map Sg from rfl, ih]
      simp [Sg, Str.append]
theorem sg_empty : Str.ofString "" = Sg [] := by decide +kernel
theorem sg_cut (l : List Nat) (lo hi : Option Int) : (⟨(cutD (Sg l).cps.toList lo hi).toArray⟩ : Str) = Sg (cutD l lo hi) := by simp [Sg]
section
variable {K : PySem.W.Frag} {H : Hp} {Q : VK} {v : V} {lo hi : Option Int}
theorem w_ixSg {l : List Nat} {n : Int} (hz : l.length ≤ 1000000) (h0 : 0 ≤ n) (h1 : n < (l.length : Int)) (q : ∀ c, l[n.toNat]? = some c → Q (.str (Sg [c])) H) : rIxS (.str (Sg l)) (.int n) H Q := by
  have hl : n.toNat < l.length := by omega
  have hs : sizeLine = 16777216 := sizeLine_eq
  exact w_ixS (j := n.toNat) (c := l[n.toNat]) (by rw [sg_len]; omega) (by omega) (by rw [sg_tl]; exact List.getElem?_eq_getElem hl) (q _ (List.getElem?_eq_getElem hl))
theorem w_ixSgLast {l : List Nat} (hz : l.length ≤ 1000000) (h1 : l ≠ []) (q : Q (.str (Sg [l.getLast h1])) H) : rIxS (.str (Sg l)) (.int (-1)) H Q := by
  have hs : sizeLine = 16777216 := sizeLine_eq
  refine ⟨Sg l, -1, l.getLast h1, rfl, rfl, by rw [sg_len]; omega, ?_, q⟩
  rw [sg_tl]
  have e : l = l.dropLast ++ [l.getLast h1] := (List.dropLast_concat_getLast h1).symm
  rw [show atI l (-1) = atI (l.dropLast ++ [l.getLast h1]) (-1) by rw [← e]]
  exact atI_last _ _
theorem w_lenSg {l : List Nat} (h : l.length ≤ 1000000) (q : Q (.int (l.length : Int)) H) : rLen K [.str (Sg l)] H Q := by
  have hs : sizeLine = 16777216 := sizeLine_eq
  refine w_lenS (by rw [sg_len]; omega) ?_
  rw [sg_len]; exact q
theorem w_addSg {a b : List Nat} (h : a.length + b.length ≤ 1000000) (q : Q (.str (Sg (a ++ b))) H) : rAddStr (.str (Sg a)) (.str (Sg b)) H Q := by
  have hs : sizeLine = 16777216 := sizeLine_eq
  refine w_addS (by rw [sg_len, sg_len]; omega) ?_
  rw [sg_app]; exact q
theorem w_slSg {l : List Nat} (h : l.length ≤ 1000000) (q : Q (.str (Sg (cutD l lo hi))) H) : rSlS (.str (Sg l)) lo hi H Q := by
  have hs : sizeLine = 16777216 := sizeLine_eq
  refine w_slS (by rw [sg_len]; omega) ?_
  rw [sg_cut]; exact q
theorem w_eqSg {a b : List Nat} (q1 : a = b → Q (.bl true) H) (q2 : a ≠ b → Q (.bl false) H) : rEq (.str (Sg a)) (.str (Sg b)) H Q := by
  refine ⟨rfl, ?_⟩
  by_cases h : a = b
  · rw [decide_eq_true (sg_V.mpr h)]; exact q1 h
  · rw [decide_eq_false (fun z => h (sg_V.mp z))]; exact q2 h
theorem w_neSg {a b : List Nat} (q1 : a = b → Q (.bl false) H) (q2 : a ≠ b → Q (.bl true) H) : rNe (.str (Sg a)) (.str (Sg b)) H Q := by
  refine ⟨rfl, ?_⟩
  by_cases h : a = b
  · rw [decide_eq_true (sg_V.mpr h)]; exact q1 h
  · rw [decide_eq_false (fun z => h (sg_V.mp z))]; exact q2 h
theorem w_joinSg {ys : List (List Nat)} (h : Dp K H v (.list (ys.map fun y => PyData.str (Sg y)))) (hz : ys.flatten.length ≤ 1000000) (q : Q (.str (Sg ys.flatten)) H) : rJoin K (.str (Sg [])) [v] H Q := by
  refine w_join (ys := ys.map Sg) (by rw [List.map_map]; exact h) ?_ (by rw [sg_join]; exact q)
  rw [List.map_map, sg_len, List.length_nil, Nat.mul_zero, Nat.add_zero]
  have e : (ys.map ((·.length) ∘ Sg)).sum = ys.flatten.length := by
    rw [List.length_flatten]
    congr 1
    first
    | done
    | (apply List.map_congr_left; intro a _; exact sg_len a)
  omega
end
section
variable {K : PySem.W.Frag} {H : Hp} {Q : VK} {v x : V} {ds : List PyData}
theorem cl_isi {X : Cx} {K : PySem.W.Frag} (h : X.K = K := by rfl) : CallR X (.builtin "isinstance") (rIsi K) := h ▸ call_isi
theorem w_isiY {t n : String} (ty : TyX K H x (.type t)) (h : kitB t n = some true) (q : Q (.bl true) H) : rIsi K [x, .ty n] H Q := ⟨x, .ty n, .type t, .type n, true, rfl, .ty n, ty, kit_ty h, q⟩
theorem w_isiN {t n : String} (ty : TyX K H x (.type t)) (h : kitB t n = some false) (q : Q (.bl false) H) : rIsi K [x, .ty n] H Q := ⟨x, .ty n, .type t, .type n, false, rfl, .ty n, ty, kit_ty h, q⟩
theorem ty_tup (h : Dp K H v (.tuple ds)) : TyX K H v (.type "tuple") := by
  obtain ⟨a, xs, rfl, hs, ha⟩ := dp_tup h
  rcases hs with (hs | ⟨o, hs⟩) | ⟨o, its, n, e, c, _⟩
  · exact .base (.tup hs)
  · exact .fTuple hs
  · exact .kTuple e c
theorem ty_lst (h : Dp K H v (.list ds)) : TyX K H v (.type "list") := by
  obtain ⟨a, xs, rfl, hs, ha⟩ := dp_lst h
  rcases hs with (hs | ⟨o, hs⟩) | ⟨o, its, n, e, c, _⟩
  · exact .base (.lst hs)
  · exact .base (.frz hs)
  · exact .kList e c
theorem ty_int {i : Int} : TyX K H (.int i) (.type "int") := .base (.int i)
theorem ty_non : TyX K H .non (.type "NoneType") := .base .non
theorem ty_bl {b : Bool} : TyX K H (.bl b) (.type "bool") := .base (.bl b)
theorem ty_str {s : Str} : TyX K H (.str s) (.type "str") := .base (.str s)
end
end Tw
namespace Tw
open PySem PySem.Spec PyProof.Rows L2
/-! ### ratios in lowest terms -/
def red (p q : Nat) : Nat × Nat := (p / Nat.gcd p q, q / Nat.gcd p q)
theorem red_pos {p q : Nat} (h : 0 < q) : 0 < (red p q).2 := Nat.div_pos (Nat.le_of_dvd h (Nat.gcd_dvd_right p q)) (Nat.gcd_pos_of_pos_right p h)
theorem red_coprime {p q : Nat} (h : 0 < q) : Nat.Coprime (red p q).1 (red p q).2 := Nat.coprime_div_gcd_div_gcd (Nat.gcd_pos_of_pos_right p h)
theorem red_cross {p q : Nat} : (red p q).1 * q = p * (red p q).2 := by
  have h1 := Nat.gcd_dvd_left p q
  have h2 := Nat.gcd_dvd_right p q
  show p / Nat.gcd p q * q = p * (q / Nat.gcd p q)
  rw [← Nat.mul_div_assoc p h2, Nat.div_mul_right_comm h1]
theorem red_unique {a b c d : Nat} (hb : 0 < b) (hd : 0 < d) (h1 : Nat.Coprime a b) (h2 : Nat.Coprime c d) (h : a * d = c * b) : a = c ∧ b = d := by
  have e1 : b ∣ d := h1.symm.dvd_of_dvd_mul_left (by rw [h]; exact Nat.dvd_mul_left b c)
  have e2 : d ∣ b := h2.symm.dvd_of_dvd_mul_left (by rw [← h]; exact Nat.dvd_mul_left d a)
  have e3 := Nat.dvd_antisymm e1 e2
  subst e3
  exact ⟨Nat.eq_of_mul_eq_mul_right hb h, rfl⟩
theorem red_eq {p q p' q' : Nat} (hq : 0 < q) (hq' : 0 < q') (h : p * q' = p' * q) : red p q = red p' q' := by
  have e := red_unique (red_pos (p := p) hq) (red_pos (p := p') hq') (red_coprime hq) (red_coprime hq') (by
    have h1 := red_cross (p := p) (q := q)
    have h2 := red_cross (p := p') (q := q')
    have h3 : (red p q).1 * (red p' q').2 * (q * q') = (red p' q').1 * (red p q).2 * (q * q') := by grind
    exact Nat.eq_of_mul_eq_mul_right (Nat.mul_pos hq hq') h3)
  exact Prod.ext e.1 e.2
theorem red_self {p q : Nat} (h : Nat.Coprime p q) : red p q = (p, q) := by
  unfold red
  rw [show Nat.gcd p q = 1 from h, Nat.div_one, Nat.div_one]
theorem red_of {x : Nat × Nat} {p q : Nat} (hx : Nat.Coprime x.1 x.2) (h0 : 0 < x.2) (hq : 0 < q) (h : x.1 * q = p * x.2) : red p q = x := by
  rw [← red_eq h0 hq h, red_self hx]
theorem red_le {p q : Nat} : (red p q).2 ≤ q := Nat.div_le_self _ _
theorem red_le1 {p q : Nat} : (red p q).1 ≤ p := Nat.div_le_self _ _
theorem red_dvd {p q : Nat} : (red p q).2 ∣ q := Nat.div_dvd_of_dvd (Nat.gcd_dvd_right p q)
theorem red_lt {p q : Nat} (h : p < q) : (red p q).1 < (red p q).2 := Nat.div_lt_div_of_lt_of_dvd (Nat.gcd_dvd_right p q) h
/-! ### places -/
def CN : Nat := 56525307072677432455503587098948920087821904549333509463754043204567040000
theorem CN_pos : 0 < CN := by decide +kernel
theorem CN_lt : CN < 2 ^ 250 := by decide +kernel
theorem CN_dvdAll : ∀ m : Fin 24, ∀ n : Fin 25, 1 ≤ n.val → m.val + n.val ≤ 24 → CN % (2 ^ m.val * (2 ^ n.val - 1)) = 0 := by decide +kernel
theorem CN_dvd {m n : Nat} (hn : 1 ≤ n) (h : m + n ≤ 24) : 2 ^ m * (2 ^ n - 1) ∣ CN := Nat.dvd_of_mod_eq_zero (CN_dvdAll ⟨m, by omega⟩ ⟨n, by omega⟩ hn h)
theorem two_pow_pos (n : Nat) : 0 < 2 ^ n := Nat.pow_pos (by decide)
theorem bot_pos {m n : Nat} (hn : 1 ≤ n) : 0 < 2 ^ m * (2 ^ n - 1) := by
  have h1 : 2 ≤ 2 ^ n := by
    calc 2 = 2 ^ 1 := rfl
      _ ≤ 2 ^ n := Nat.pow_le_pow_right (by decide) hn
  exact Nat.mul_pos (two_pow_pos m) (by omega)
theorem bot_lt {m n : Nat} (h : m + n ≤ 24) : 2 ^ m * (2 ^ n - 1) < 2 ^ 24 := by
  have h0 := two_pow_pos n
  have h1 := two_pow_pos m
  calc 2 ^ m * (2 ^ n - 1) < 2 ^ m * 2 ^ n := Nat.mul_lt_mul_of_pos_left (by omega) h1
    _ = 2 ^ (m + n) := (Nat.pow_add 2 m n).symm
    _ ≤ 2 ^ 24 := Nat.pow_le_pow_right (by decide) h
/-- a place -/
structure Plc (x : Nat × Nat) : Prop where
  lt : x.1 < x.2
  cop : Nat.Coprime x.1 x.2
  bot : ∃ m n, 1 ≤ n ∧ m + n ≤ 24 ∧ x.2 ∣ 2 ^ m * (2 ^ n - 1)
section
variable {x y z a b : Nat × Nat}
theorem Plc.dvd (h : Plc x) : x.2 ∣ CN := by
  obtain ⟨m, n, h1, h2, h3⟩ := h.bot
  exact Nat.dvd_trans h3 (CN_dvd h1 h2)
theorem Plc.pos (h : Plc x) : 0 < x.2 := Nat.lt_of_le_of_lt (Nat.zero_le _) h.lt
theorem Plc.small (h : Plc x) : x.2 < 2 ^ 24 := by
  obtain ⟨m, n, h1, h2, h3⟩ := h.bot
  exact Nat.lt_of_le_of_lt (Nat.le_of_dvd (bot_pos h1) h3) (bot_lt h2)
/-- steps of 1 / CN from zero -/
def sz (x : Nat × Nat) : Nat := x.1 * (CN / x.2)
theorem sz_mul (h : Plc x) : sz x * x.2 = x.1 * CN := by
  unfold sz
  rw [Nat.mul_assoc, Nat.div_mul_cancel h.dvd]
theorem sz_lt (h : Plc x) : sz x < CN := by
  have h1 := sz_mul h
  have h2 : sz x * x.2 < CN * x.2 := by
    rw [h1, Nat.mul_comm CN]
    exact Nat.mul_lt_mul_of_pos_right h.lt CN_pos
  exact Nat.lt_of_mul_lt_mul_right h2
theorem sz_red (h : Plc x) : red (sz x) CN = x := red_of h.cop h.pos CN_pos (sz_mul h).symm
theorem sz_inj (h : Plc x) (h' : Plc y) (e : sz x = sz y) : x = y := by rw [← sz_red h, ← sz_red h', e]
theorem sz_less (h : Plc x) (h' : Plc y) : (x.1 * y.2 < y.1 * x.2 ↔ sz x < sz y) := by
  have h1 := sz_mul h
  have h2 := sz_mul h'
  have p := h.pos
  have p' := h'.pos
  have e1 : x.1 * y.2 * CN = sz x * (x.2 * y.2) := by grind
  have e2 : y.1 * x.2 * CN = sz y * (x.2 * y.2) := by grind
  constructor
  · intro l
    have : x.1 * y.2 * CN < y.1 * x.2 * CN := Nat.mul_lt_mul_of_pos_right l CN_pos
    rw [e1, e2] at this
    exact Nat.lt_of_mul_lt_mul_right this
  · intro l
    have : sz x * (x.2 * y.2) < sz y * (x.2 * y.2) := Nat.mul_lt_mul_of_pos_right l (Nat.mul_pos p p')
    rw [← e1, ← e2] at this
    exact Nat.lt_of_mul_lt_mul_right this
/-- the way up from a to b -/
def wu (a b : Nat × Nat) : Nat := (sz b + (CN - sz a)) % CN
theorem wu_lt : wu a b < CN := Nat.mod_lt _ CN_pos
theorem wu_eq (ha : Plc a) (hb : Plc b) : wu a b = if sz a ≤ sz b then sz b - sz a else sz b + CN - sz a := by
  have h1 := sz_lt ha
  have h2 := sz_lt hb
  unfold wu
  split
  · rw [show sz b + (CN - sz a) = (sz b - sz a) + CN by omega, Nat.add_mod_right, Nat.mod_eq_of_lt (by omega)]
  · rw [Nat.mod_eq_of_lt (by omega)]; omega
theorem wu_int (ha : Plc a) (hb : Plc b) : ((sz b : Int) - sz a) % (CN : Int) = (wu a b : Int) := by
  have h1 := sz_lt ha
  have h2 := sz_lt hb
  rw [wu_eq ha hb]
  split
  · rw [Int.emod_eq_of_lt (by omega) (by omega)]; omega
  · rw [← Int.add_emod_right, Int.emod_eq_of_lt (by omega) (by omega)]; omega
def arcN (a b : Nat × Nat) : Nat × Nat := red (wu a b) CN
/-- the mirrored place -/
def mirN (x : Nat × Nat) : Nat × Nat := (if x.1 = 0 then 0 else x.2 - x.1, x.2)
theorem mir_plc (h : Plc x) : Plc (mirN x) := by
  have h1 := h.lt
  refine ⟨?_, ?_, h.bot⟩
  · show (if x.1 = 0 then 0 else x.2 - x.1) < x.2
    split <;> omega
  · show Nat.Coprime (if x.1 = 0 then 0 else x.2 - x.1) x.2
    have hc := h.cop
    split
    · rename_i e
      rw [e] at hc
      exact hc
    · unfold Nat.Coprime at hc ⊢
      rw [Nat.gcd_comm, Nat.gcd_self_sub_right (Nat.le_of_lt h1), Nat.gcd_comm]
      exact hc
theorem mir_sz (h : Plc x) : sz (mirN x) = if sz x = 0 then 0 else CN - sz x := by
  have h1 := sz_mul h
  have h3 := sz_mul (mir_plc h)
  have hp := h.pos
  have hl := h.lt
  have hs := sz_lt h
  have e2 : (mirN x).2 = x.2 := rfl
  have e1 : (mirN x).1 = if x.1 = 0 then 0 else x.2 - x.1 := rfl
  rw [e2, e1] at h3
  by_cases h0 : x.1 = 0
  · have : sz x = 0 := by unfold sz; rw [h0, Nat.zero_mul]
    rw [if_pos this]
    rw [if_pos h0, Nat.zero_mul] at h3
    rcases Nat.mul_eq_zero.mp h3 with h | h
    · exact h
    · omega
  · have hn : sz x ≠ 0 := by
      intro z
      rw [z, Nat.zero_mul] at h1
      rcases Nat.mul_eq_zero.mp h1.symm with h | h
      · exact h0 h
      · have := CN_pos; omega
    rw [if_neg hn]
    rw [if_neg h0, Nat.sub_mul, ← h1] at h3
    have e : sz (mirN x) * x.2 = (CN - sz x) * x.2 := by rw [h3, Nat.sub_mul, Nat.mul_comm CN]
    exact Nat.eq_of_mul_eq_mul_right hp e
theorem mir_wu (ha : Plc a) (hb : Plc b) : wu (mirN b) (mirN a) = wu a b := by
  have h1 := sz_lt ha
  have h2 := sz_lt hb
  rw [wu_eq (mir_plc hb) (mir_plc ha), wu_eq ha hb, mir_sz ha, mir_sz hb]
  (repeat' split) <;> omega
end
def pd (x : Nat × Nat) : PyData := .tuple [.int x.1, .int x.2]
theorem pd_inj {x y : Nat × Nat} (h : pd x = pd y) : x = y := by
  simp only [pd, PyData.tuple.injEq, List.cons.injEq, PyData.int.injEq, and_true] at h
  exact Prod.ext (by omega) (by omega)
theorem pd_pln {k : Nat} (x : Nat × Nat) : pln (k + 1) (pd x) = true := by
  cases k <;> simp [pd, pln]
theorem pd_noL (x : Nat × Nat) : noL (pd x) = true := rfl
end Tw
namespace Tw
open PySem PySem.Spec PyProof.Rows L2
theorem mir_int {x : Nat × Nat} (h : x.1 < x.2) : (-(x.1 : Int)) % (x.2 : Int) = ((mirN x).1 : Int) := by
  show _ = (((if x.1 = 0 then 0 else x.2 - x.1) : Nat) : Int)
  split
  · rename_i e; rw [e]; simp
  · rw [← Int.add_emod_right, Int.emod_eq_of_lt (by omega) (by omega)]; omega
/-! ### doubling -/
def dblN (x : Nat × Nat) : Nat × Nat := if x.2 % 2 = 0 then (x.1 % (x.2 / 2), x.2 / 2) else (2 * x.1 % x.2, x.2)
theorem odd_of_dvd {b n : Nat} (hn : 1 ≤ n) (h : b ∣ 2 ^ 0 * (2 ^ n - 1)) : b % 2 = 1 := by
  obtain ⟨k, hk⟩ := h
  rw [Nat.pow_zero, Nat.one_mul] at hk
  have h1 : 2 ^ n = 2 * 2 ^ (n - 1) := by rw [← Nat.pow_succ']; congr 1; omega
  have h0 := two_pow_pos (n - 1)
  rcases Nat.mod_two_eq_zero_or_one b with hb | hb
  · have hb2 : b = 2 * (b / 2) := by omega
    rw [hb2, Nat.mul_assoc] at hk
    omega
  · exact hb
theorem dbl_plc {x : Nat × Nat} (h : Plc x) : Plc (dblN x) := by
  obtain ⟨m, n, h1, h2, h3⟩ := h.bot
  have hp := h.pos
  have hl := h.lt
  have hc := h.cop
  unfold dblN
  split
  · rename_i e
    have hx : x.2 = 2 * (x.2 / 2) := by omega
    have hq : 0 < x.2 / 2 := by omega
    have hm : 1 ≤ m := by
      cases m with
      | zero => have := odd_of_dvd h1 h3; omega
      | succ m => omega
    refine ⟨Nat.mod_lt _ hq, ?_, m - 1, n, h1, by omega, ?_⟩
    · show Nat.Coprime (x.1 % (x.2 / 2)) (x.2 / 2)
      have hd : Nat.gcd x.1 (x.2 / 2) ∣ Nat.gcd x.1 x.2 := Nat.dvd_gcd (Nat.gcd_dvd_left _ _) (Nat.dvd_trans (Nat.gcd_dvd_right _ _) ⟨2, by omega⟩)
      rw [show Nat.gcd x.1 x.2 = 1 from hc] at hd
      unfold Nat.Coprime
      rw [← Nat.gcd_rec, Nat.gcd_comm]
      exact Nat.dvd_one.mp hd
    · show x.2 / 2 ∣ _
      have e2 : 2 ^ m = 2 * 2 ^ (m - 1) := by rw [← Nat.pow_succ']; congr 1; omega
      rw [hx, e2, Nat.mul_assoc] at h3
      exact Nat.dvd_of_mul_dvd_mul_left (by decide) h3
  · rename_i e
    refine ⟨Nat.mod_lt _ hp, ?_, m, n, h1, h2, h3⟩
    show Nat.Coprime (2 * x.1 % x.2) x.2
    unfold Nat.Coprime
    rw [← Nat.gcd_rec]
    have h2c : Nat.Coprime x.2 2 := by
      unfold Nat.Coprime
      rw [Nat.gcd_comm, Nat.gcd_rec, show x.2 % 2 = 1 by omega]
      rfl
    exact Nat.Coprime.mul_right h2c hc.symm
/-! ### digits -/
def bv (l : List Nat) : Nat := l.foldl (fun s c => 2 * s + (c - 48)) 0
def Dg (l : List Nat) : Prop := ∀ c ∈ l, c = 48 ∨ c = 49
theorem bv_snoc (l : List Nat) (c : Nat) : bv (l ++ [c]) = 2 * bv l + (c - 48) := by simp [bv, List.foldl_append]
theorem bv_lt : ∀ (l : List Nat), Dg l → bv l < 2 ^ l.length := by
  intro l
  induction hn : l.length generalizing l with
  | zero => intro _; rw [List.length_eq_zero_iff.mp hn]; decide
  | succ n ih =>
    intro h
    have hne : l ≠ [] := fun z => by rw [z] at hn; simp at hn
    have hl : l.dropLast.length = n := by rw [List.length_dropLast]; omega
    have h1 := ih l.dropLast hl (fun c hc => h c (List.dropLast_subset l hc))
    have h2 := h (l.getLast hne) (List.getLast_mem hne)
    rw [← List.dropLast_concat_getLast hne, bv_snoc, Nat.pow_succ]
    omega
def botN (h c : List Nat) : Nat := 2 ^ h.length * (2 ^ c.length - 1)
def binN (h c : List Nat) : Nat × Nat := red ((bv h * (2 ^ c.length - 1) + bv c) % botN h c) (botN h c)
theorem botN_pos {h c : List Nat} (hc : c ≠ []) : 0 < botN h c := bot_pos (List.length_pos_iff.mpr hc)
theorem bin_plc {h c : List Nat} (hc : c ≠ []) (hl : h.length + c.length ≤ 24) : Plc (binN h c) :=
  ⟨red_lt (Nat.mod_lt _ (botN_pos hc)), red_coprime (botN_pos hc), h.length, c.length, List.length_pos_iff.mpr hc, hl, red_dvd⟩
/-! ### what readings ask -/
section
variable {K : PySem.W.Frag} {σ : L2.St} {H : Hp} {Q : VK} {v y : V} {x : Nat × Nat} {p q : Nat}
theorem w_gcdN (h : Q (.int ((Nat.gcd p q : Nat) : Int)) H) : rGcd [.int (p : Int), .int (q : Int)] H Q := ⟨p, q, rfl, by simpa using h⟩
theorem w_ix0 (h : Dp K H v (pd x)) (q : Q (.int (x.1 : Int)) H) : rIxT K v (.int 0) H Q := w_ixT (j := 0) h rfl rfl fun v' hv => by cases hv; exact q
theorem w_ix1 (h : Dp K H v (pd x)) (q : Q (.int (x.2 : Int)) H) : rIxT K v (.int 1) H Q := w_ixT (j := 1) h rfl rfl fun v' hv => by cases hv; exact q
theorem w_gTupP {i j : Nat} {Q : L2.St → Hp → Prop} (h : Dp K H v (pd x)) (q : Q ((σ.set i (some (.int (x.1 : Int)))).set j (some (.int (x.2 : Int)))) H) : gTup K 2 (gCons (gName i) (gCons (gName j) gNil)) v σ H Q :=
  w_gTup2 h fun v1 v2 h1 h2 => by cases h1; cases h2; exact q
def rAbs : List V → Hp → VK → Prop := fun xs H Q => ∃ i, xs = [.int i] ∧ Q (.int (if i < 0 then -i else i)) H
theorem cl_abs {X : Cx} : CallR X (.builtin "abs") rAbs := call_abs
theorem w_absN (h : Q (.int (p : Int)) H) : rAbs [.int (p : Int)] H Q := ⟨p, rfl, by rw [if_neg (by omega)]; exact h⟩
theorem w_absI {i : Int} (h : Q (.int (i.natAbs : Int)) H) : rAbs [.int i] H Q := ⟨i, rfl, by
  rw [show (if i < 0 then -i else i) = (i.natAbs : Int) by split <;> omega]; exact h⟩
def rIntS : List V → Hp → VK → Prop := fun xs H Q => ∃ a n, xs = [.str a] ∧ PySem.intText? a = some n ∧ a.length ≤ 640 ∧ Q (.int n) H
theorem cl_intS {X : Cx} : CallR X (.type "int") rIntS := call_int_str
theorem int_0 : PySem.intText? (Sg [48]) = some 0 := by decide +kernel
theorem int_1 : PySem.intText? (Sg [49]) = some 1 := by decide +kernel
theorem w_intS {c : Nat} (hc : c = 48 ∨ c = 49) (h : Q (.int ((c - 48 : Nat) : Int)) H) : rIntS [.str (Sg [c])] H Q := by
  rcases hc with rfl | rfl
  · exact ⟨Sg [48], 0, rfl, int_0, by decide, h⟩
  · exact ⟨Sg [49], 1, rfl, int_1, by decide, h⟩
theorem op_inDK {X : Cx} {K : PySem.W.Frag} (hu : X.A.units + 65 < cLine) (h : X.K = K := by rfl) : OpR X (compareOp .In) (rInD K) := h ▸ op_inD hu
theorem op_notInDK {X : Cx} {K : PySem.W.Frag} (hu : X.A.units + 65 < cLine) (h : X.K = K := by rfl) : OpR X (compareOp .NotIn) (rNotInD K) := h ▸ op_notInD hu
theorem any_eqv {d : PyData} {ds : List PyData} (hd : pln 8 d = true) (hs : ∀ z ∈ ds, pln 8 z = true) : (ds.any fun z => PyData.eqv z d) = true ↔ d ∈ ds := by
  rw [List.any_eq_true]
  constructor
  · rintro ⟨z, hz, e⟩
    rw [(pln_eqv 8 8 z d (hs z hz) hd).mp e] at hz
    exact hz
  · intro h
    exact ⟨d, h, (pln_eqv 8 8 d d hd hd).mpr rfl⟩
theorem pln_list {k : Nat} {ds : List PyData} (h : ∀ z ∈ ds, pln k z = true) : pln (k + 1) (.list ds) = true := by simpa [pln] using h
theorem pln_tuple {k : Nat} {ds : List PyData} (h : ∀ z ∈ ds, pln k z = true) : pln (k + 1) (.tuple ds) = true := by simpa [pln] using h
theorem w_inP {d : PyData} {ds : List PyData} (h1 : Dp K H v d) (h2 : Dp K H y (.list ds)) (p1 : pln 8 d = true) (p2 : ∀ z ∈ ds, pln 8 z = true) (q1 : d ∈ ds → Q (.bl true) H) (q2 : d ∉ ds → Q (.bl false) H) : rInD K v y H Q := by
  refine ⟨d, ds, h1, h2, pln_shaped p1 (by decide), pln_shaped (pln_list p2) (by decide), ?_⟩
  have r := any_eqv p1 p2
  cases he : (ds.any fun z => PyData.eqv z d) with
  | true => exact q1 (r.mp he)
  | false => exact q2 (fun z => by rw [r.mpr z] at he; cases he)
theorem w_notInP {d : PyData} {ds : List PyData} (h1 : Dp K H v d) (h2 : Dp K H y (.list ds)) (p1 : pln 8 d = true) (p2 : ∀ z ∈ ds, pln 8 z = true) (q1 : d ∈ ds → Q (.bl false) H) (q2 : d ∉ ds → Q (.bl true) H) : rNotInD K v y H Q := by
  refine ⟨d, ds, h1, h2, pln_shaped p1 (by decide), pln_shaped (pln_list p2) (by decide), ?_⟩
  have r := any_eqv p1 p2
  cases he : (ds.any fun z => PyData.eqv z d) with
  | true => exact q1 (r.mp he)
  | false => exact q2 (fun z => by rw [r.mpr z] at he; cases he)
theorem Room65 {k : Nat} {A : Around} (r : Room k A) : A.units + 65 < cLine := by have := r.un; omega
end
/-! ### Euclid's steps -/
structure Eu (a b : Nat) (i a' b' : Nat) : Prop where
  g : Nat.gcd a' b' = Nat.gcd a b
  s : i = 0 → b' = b
  l : 1 ≤ i → b' < a' ∧ a' * b' * 2 ^ (i - 1) < 2 ^ 380 ∨ b' = 0
theorem Eu.start (a b : Nat) : Eu a b 0 a b := ⟨rfl, fun _ => rfl, fun h => by omega⟩
theorem Eu.step {a b i a' b' : Nat} (hb : b < 2 ^ 190) (h : Eu a b i a' b') (h0 : b' ≠ 0) : Eu a b (i + 1) b' (a' % b') := by
  have hlt : a' % b' < b' := Nat.mod_lt _ (by omega)
  refine ⟨?_, fun z => by omega, fun _ => ?_⟩
  · rw [← h.g, Nat.gcd_comm b', ← Nat.gcd_rec, Nat.gcd_comm]
  · left
    refine ⟨hlt, ?_⟩
    rw [Nat.add_sub_cancel]
    by_cases hi : i = 0
    · subst hi
      have e := h.s rfl
      subst e
      rw [Nat.pow_zero, Nat.mul_one]
      calc b' * (a' % b') ≤ b' * b' := Nat.mul_le_mul_left _ (Nat.le_of_lt hlt)
        _ < 2 ^ 190 * 2 ^ 190 := Nat.mul_lt_mul'' hb hb
        _ = 2 ^ 380 := by rw [← Nat.pow_add]
    · rcases h.l (by omega) with ⟨h1, h2⟩ | h1
      · have h3 : 2 * (a' % b') ≤ a' := by
          have := Nat.div_add_mod a' b'
          have : 1 ≤ a' / b' := Nat.div_pos (by omega) (by omega)
          have : b' * 1 ≤ b' * (a' / b') := Nat.mul_le_mul_left _ this
          omega
        have e : 2 ^ i = 2 * 2 ^ (i - 1) := by rw [← Nat.pow_succ']; congr 1; omega
        calc b' * (a' % b') * 2 ^ i = b' * (2 * (a' % b')) * 2 ^ (i - 1) := by rw [e]; grind
          _ ≤ b' * a' * 2 ^ (i - 1) := Nat.mul_le_mul_right _ (Nat.mul_le_mul_left _ h3)
          _ = a' * b' * 2 ^ (i - 1) := by rw [Nat.mul_comm b']
          _ < 2 ^ 380 := h2
      · exact absurd h1 h0
theorem Eu.done {a b i a' b' : Nat} (h : Eu a b i a' b') (hi : 382 ≤ i) : a' = Nat.gcd a b := by
  have : b' = 0 := by
    rcases h.l (by omega) with ⟨h1, h2⟩ | h1
    · by_cases hb : b' = 0
      · exact hb
      · exfalso
        have h3 : 1 ≤ a' * b' := Nat.mul_pos (by omega) (by omega)
        have h4 : 2 ^ 380 ≤ 2 ^ (i - 1) := Nat.pow_le_pow_right (by decide) (by omega)
        have h5 : 1 * 2 ^ (i - 1) ≤ a' * b' * 2 ^ (i - 1) := Nat.mul_le_mul_right _ h3
        omega
    · exact h1
  rw [← h.g, this, Nat.gcd_zero_right]
theorem Eu.zero {a b i a' : Nat} (h : Eu a b i a' 0) : a' = Nat.gcd a b := by rw [← h.g, Nat.gcd_zero_right]
end Tw
namespace Tw
open PySem PySem.Spec PyProof.Rows L2
/-- x lies between a and b, going up from a (by the law's own look) -/
def btw (a x b : Nat × Nat) : Prop := if sz a < sz b then sz a < sz x ∧ sz x < sz b else sz a < sz x ∨ sz x < sz b
instance {a x b : Nat × Nat} : Decidable (btw a x b) := by unfold btw; infer_instance
theorem btw_wu {a x b : Nat × Nat} (ha : Plc a) (hx : Plc x) (hb : Plc b) (h1 : x ≠ a) (h2 : x ≠ b) (h3 : a ≠ b) : btw a x b ↔ (0 < wu a x ∧ wu a x < wu a b) := by
  have s1 := sz_lt ha
  have s2 := sz_lt hx
  have s3 := sz_lt hb
  have n1 : sz x ≠ sz a := fun z => h1 (sz_inj hx ha z)
  have n2 : sz x ≠ sz b := fun z => h2 (sz_inj hx hb z)
  have n3 : sz a ≠ sz b := fun z => h3 (sz_inj ha hb z)
  rw [wu_eq ha hx, wu_eq ha hb]
  unfold btw
  (repeat' split) <;> omega
theorem wu_self {a : Nat × Nat} (ha : Plc a) : wu a a = 0 := by rw [wu_eq ha ha]; simp
theorem arc_top {a b : Nat × Nat} (ha : Plc a) (hb : Plc b) : ∃ n : Nat, (if 0 ≤ (b.1 : Int) * a.2 - (a.1 : Int) * b.2 then (b.1 : Int) * a.2 - (a.1 : Int) * b.2 else (b.1 : Int) * a.2 - (a.1 : Int) * b.2 + (a.2 : Int) * b.2) = (n : Int) ∧ n * CN = wu a b * (a.2 * b.2) := by
  have e1 := sz_mul ha
  have e2 := sz_mul hb
  have p1 := ha.lt
  have p2 := hb.lt
  have hl : (a.1 * b.2 ≤ b.1 * a.2 ↔ sz a ≤ sz b) := by
    have := sz_less hb ha
    omega
  have u1 : b.1 * a.2 * CN = sz b * (a.2 * b.2) := by grind
  have u2 : a.1 * b.2 * CN = sz a * (a.2 * b.2) := by grind
  have hab : a.1 * b.2 ≤ a.2 * b.2 := Nat.mul_le_mul_right _ (Nat.le_of_lt p1)
  have c1 : (b.1 : Int) * a.2 = ((b.1 * a.2 : Nat) : Int) := rfl
  have c2 : (a.1 : Int) * b.2 = ((a.1 * b.2 : Nat) : Int) := rfl
  have c3 : (a.2 : Int) * b.2 = ((a.2 * b.2 : Nat) : Int) := rfl
  rw [c1, c2, c3, wu_eq ha hb]
  have s1 := sz_lt ha
  by_cases h : sz a ≤ sz b
  · have h' := hl.mpr h
    refine ⟨b.1 * a.2 - a.1 * b.2, by rw [if_pos (by omega)]; omega, ?_⟩
    rw [if_pos h, Nat.sub_mul, Nat.sub_mul, u1, u2]
  · have h' : ¬ a.1 * b.2 ≤ b.1 * a.2 := fun z => h (hl.mp z)
    refine ⟨b.1 * a.2 + a.2 * b.2 - a.1 * b.2, by rw [if_neg (by omega)]; omega, ?_⟩
    rw [if_neg h, Nat.sub_mul, Nat.add_mul, u1, u2, Nat.sub_mul, Nat.add_mul, Nat.mul_comm CN]
/-- sums of arcs -/
theorem red_add {n k : Nat} {x y : Nat × Nat} (hx : x = red n CN) (hy : y = red k CN) : red (x.1 * y.2 + y.1 * x.2) (x.2 * y.2) = red (n + k) CN := by
  have h1 := red_cross (p := n) (q := CN)
  have h2 := red_cross (p := k) (q := CN)
  have p1 := red_pos (p := n) CN_pos
  have p2 := red_pos (p := k) CN_pos
  rw [← hx] at h1 p1
  rw [← hy] at h2 p2
  refine red_eq (Nat.mul_pos p1 p2) CN_pos ?_
  grind
theorem red_one : red CN CN = (1, 1) := by
  unfold red; rw [Nat.gcd_self, Nat.div_self CN_pos]
theorem red_two : red (2 * CN) CN = (2, 1) := by
  unfold red
  rw [Nat.gcd_comm, Nat.gcd_mul_left_right, Nat.div_self CN_pos, Nat.mul_div_cancel _ CN_pos]
theorem red_ne {n k : Nat} (h : red n CN = red k CN) : n = k := by
  have h1 := red_cross (p := n) (q := CN)
  have h2 := red_cross (p := k) (q := CN)
  have p1 := red_pos (p := n) CN_pos
  rw [h] at h1
  rw [h] at p1
  have := h1.symm.trans h2
  exact Nat.eq_of_mul_eq_mul_right p1 this
theorem arc_bd {a b : Nat × Nat} (ha : Plc a) (hb : Plc b) : 0 < (arcN a b).2 ∧ (arcN a b).2 < 2 ^ 48 ∧ (arcN a b).1 < 2 ^ 48 := by
  have p1 := ha.small
  have p3 := hb.small
  have hd : a.2 * b.2 < 2 ^ 48 := by
    calc a.2 * b.2 < 2 ^ 24 * 2 ^ 24 := Nat.mul_lt_mul'' p1 p3
      _ = 2 ^ 48 := by rw [← Nat.pow_add]
  have hpos : 0 < a.2 * b.2 := Nat.mul_pos ha.pos hb.pos
  obtain ⟨n, _, hn⟩ := arc_top ha hb
  have e : arcN a b = red n (a.2 * b.2) := (red_eq hpos CN_pos hn).symm
  have h1 := red_le (p := n) (q := a.2 * b.2)
  have h2 := red_pos (p := n) hpos
  have h3 : (arcN a b).1 < (arcN a b).2 := red_lt wu_lt
  rw [← e] at h1 h2
  omega
theorem wu_back {a b : Nat × Nat} (ha : Plc a) (hb : Plc b) (h : a ≠ b) : wu a b + wu b a = CN := by
  have s1 := sz_lt ha
  have s3 := sz_lt hb
  have n3 : sz a ≠ sz b := fun z => h (sz_inj ha hb z)
  rw [wu_eq ha hb, wu_eq hb ha]
  (repeat' split) <;> omega
theorem arc_mir {a b : Nat × Nat} (ha : Plc a) (hb : Plc b) : arcN (mirN b) (mirN a) = arcN a b := by unfold arcN; rw [mir_wu ha hb]
theorem sum_bd {a x b : Nat × Nat} (ha : Plc a) (hx : Plc x) (hb : Plc b) :
    0 < (red ((arcN a x).1 * (arcN x b).2 + (arcN x b).1 * (arcN a x).2) ((arcN a x).2 * (arcN x b).2)).2 ∧ (red ((arcN a x).1 * (arcN x b).2 + (arcN x b).1 * (arcN a x).2) ((arcN a x).2 * (arcN x b).2)).2 < 2 ^ 96 ∧
    (red ((arcN a x).1 * (arcN x b).2 + (arcN x b).1 * (arcN a x).2) ((arcN a x).2 * (arcN x b).2)).1 < 2 ^ 97 := by
  have b1 := arc_bd ha hx
  have b2 := arc_bd hx hb
  have hq : (arcN a x).2 * (arcN x b).2 < 2 ^ 96 := by
    calc (arcN a x).2 * (arcN x b).2 < 2 ^ 48 * 2 ^ 48 := Nat.mul_lt_mul'' b1.2.1 b2.2.1
      _ = 2 ^ 96 := by rw [← Nat.pow_add]
  have h1 : (arcN a x).1 * (arcN x b).2 < 2 ^ 96 := by
    calc (arcN a x).1 * (arcN x b).2 < 2 ^ 48 * 2 ^ 48 := Nat.mul_lt_mul'' b1.2.2 b2.2.1
      _ = 2 ^ 96 := by rw [← Nat.pow_add]
  have h2 : (arcN x b).1 * (arcN a x).2 < 2 ^ 96 := by
    calc (arcN x b).1 * (arcN a x).2 < 2 ^ 48 * 2 ^ 48 := Nat.mul_lt_mul'' b2.2.2 b1.2.1
      _ = 2 ^ 96 := by rw [← Nat.pow_add]
  exact ⟨red_pos (Nat.mul_pos b1.1 b2.1), Nat.lt_of_le_of_lt red_le hq, Nat.lt_of_le_of_lt red_le1 (by omega)⟩
end Tw
namespace Tw
open PySem PySem.Spec PyProof.Rows L2
/-! ### a text's first occurrence from a place on -/
section
open PySem.StrLaws PySem.Builtin PySem.Builtin.Str
theorem occ_full (s sub : Str) (hi : Nat) : ∀ (l : List Nat) (st : Array Nat × Nat), st.fst.size = 1 → (forIn l st (occBody s sub hi 1)).run.fst = st.fst
  | [], st, h => rfl
  | a :: l, st, h => by
    rw [List.forIn_cons]
    unfold occBody
    rw [if_neg (fun z => by have := z.1.1.1; omega)]
    exact occ_full s sub hi l _ h
theorem occ_first (s sub : Str) (hi p : Nat) : ∀ (l1 l2 : List Nat) (free : Nat), (∀ i ∈ l1, ¬ (i + sub.length ≤ hi ∧ subAt s sub i = true)) → free ≤ p → p + sub.length ≤ hi → subAt s sub p = true →
    (forIn (l1 ++ p :: l2) ((#[] : Array Nat), free) (occBody s sub hi 1)).run.fst = #[p]
  | [], l2, free, _, hf, h1, h2 => by
    rw [List.nil_append, List.forIn_cons]
    unfold occBody
    rw [if_pos ⟨⟨⟨by simp, hf⟩, h1⟩, h2⟩]
    exact occ_full s sub hi l2 _ (by simp)
  | a :: l1, l2, free, h, hf, h1, h2 => by
    rw [List.cons_append, List.forIn_cons]
    unfold occBody
    rw [if_neg (fun z => h a List.mem_cons_self ⟨z.1.2, z.2⟩)]
    exact occ_first s sub hi p l1 l2 free (fun i hi' => h i (List.mem_cons_of_mem _ hi')) hf h1 h2
theorem find3_first {x y : Str} {p : Nat} (hp : 1 ≤ p) (h1 : p + y.length ≤ x.length) (h2 : subAt x y p = true) (h3 : ∀ i, 1 ≤ i → i < p → subAt x y i = false) : Txt.find3 x y 1 = (p : Int) := by
  have e : occurrences x y (fromIndex x.length 1) x.length 1 = [p] := by
    rw [show fromIndex x.length 1 = 1 from rfl, occ_eq]
    have es : List.range' 1 (x.length + 1 - 1) = List.range' 1 (p - 1) ++ p :: List.range' (p + 1) (x.length - p) := by
      rw [show x.length + 1 - 1 = (p - 1) + (x.length - p + 1) by omega, ← List.range'_append_1, show 1 + (p - 1) = p by omega]
      rfl
    rw [es, occ_first x y x.length p _ _ 1 (fun i hi hc => ?_) hp h1 h2]
    obtain ⟨i1, i2⟩ := List.mem_range'_1.mp hi
    rw [h3 i i1 (by omega)] at hc
    exact absurd hc.2 Bool.false_ne_true
  unfold Txt.find3
  rw [e]
end
/-! ### endless rows -/
def cz (c : List Nat) (z : Int) : Nat := c.getD (z % (c.length : Int)).toNat 0
def rz (h c : List Nat) (k : Int) : Nat := if k < h.length then h.getD k.toNat 0 else cz c (k - h.length)
def Per (c : List Nat) (p : Int) : Prop := ∀ z, cz c (z + p) = cz c z
theorem per_len (c : List Nat) : Per c c.length := fun z => by unfold cz; rw [Int.add_emod_right]
theorem Per.add {c : List Nat} {p q : Int} (a : Per c p) (b : Per c q) : Per c (p + q) := fun z => by rw [← Int.add_assoc, b, a]
theorem Per.neg {c : List Nat} {p : Int} (a : Per c p) : Per c (-p) := fun z => by
  have := a (z + -p)
  rw [show z + -p + p = z by omega] at this
  exact this.symm
theorem Per.mul {c : List Nat} {p : Int} (a : Per c p) : ∀ n : Nat, Per c (p * n)
  | 0 => fun z => by simp
  | n + 1 => by
    have := (Per.mul a n).add a
    rw [show p * ((n + 1 : Nat) : Int) = p * n + p by rw [Int.natCast_add, Int.mul_add]; simp]
    exact this
theorem Per.mulz {c : List Nat} {p : Int} (a : Per c p) (k : Int) : Per c (p * k) := by
  rcases Int.natAbs_eq k with e | e
  · rw [e]; exact a.mul _
  · rw [e, Int.mul_neg]; exact (a.mul _).neg
theorem Per.emod {c : List Nat} {p q : Int} (a : Per c p) (b : Per c q) : Per c (q % p) := by
  rw [Int.emod_def]
  have := b.add (a.mulz (q / p)).neg
  rw [← Int.sub_eq_add_neg] at this
  exact this
/-- the least period -/
def MinP (c : List Nat) (p : Nat) : Prop := 0 < p ∧ Per c p ∧ ∀ q : Nat, 0 < q → q < p → ¬ Per c q
theorem MinP.dvd {c : List Nat} {p n : Nat} (h : MinP c p) (hn : Per c n) : p ∣ n := by
  have h1 := h.2.1.emod hn
  by_cases h0 : n % p = 0
  · exact Nat.dvd_of_mod_eq_zero h0
  · refine absurd ?_ (h.2.2 (n % p) (by omega) (Nat.mod_lt _ h.1))
    rw [Int.natCast_emod]
    exact h1
theorem minP_exists (c : List Nat) (hc : c ≠ []) : ∃ p, MinP c p := by
  have hl : 0 < c.length := List.length_pos_iff.mpr hc
  have key : ∀ n : Nat, ∀ q : Nat, q ≤ n → 0 < q → Per c q → ∃ p, MinP c p := by
    intro n
    induction n with
    | zero => intro q h1 h2; omega
    | succ n ih =>
      intro q h1 h2 h3
      by_cases hm : ∃ r : Nat, 0 < r ∧ r < q ∧ Per c r
      · obtain ⟨r, r1, r2, r3⟩ := hm
        exact ih r (by omega) r1 r3
      · exact ⟨q, h2, h3, fun r r1 r2 r3 => hm ⟨r, r1, r2, r3⟩⟩
  exact key c.length c.length (Nat.le_refl _) hl (per_len c)
theorem cz_nat {c : List Nat} {i : Nat} (h : i < c.length) : cz c i = c[i] := by
  unfold cz
  rw [Int.emod_eq_of_lt (by omega) (by omega), Int.toNat_natCast, List.getD_eq_getElem?_getD, List.getElem?_eq_getElem h]
  rfl
theorem cz_last {c : List Nat} (h : c ≠ []) : cz c (-1) = c.getLast h := by
  have hl : 0 < c.length := List.length_pos_iff.mpr h
  have := per_len c (-1)
  rw [← this, show (-1 : Int) + c.length = ((c.length - 1 : Nat) : Int) by omega, cz_nat (by omega), List.getLast_eq_getElem]
theorem cz_ext {c d : List Nat} (hl : c.length = d.length) (h : ∀ i : Nat, i < c.length → cz c i = cz d i) : c = d := by
  refine List.ext_getElem hl fun i h1 h2 => ?_
  have := h i h1
  rw [cz_nat h1, cz_nat h2] at this
  exact this
/-- a row in its least form -/
structure LF (h c : List Nat) : Prop where
  ne : c ≠ []
  min : MinP c c.length
  last : ∀ e : h ≠ [], h.getLast e ≠ cz c (-1)
theorem rz_lt {h c : List Nat} {i : Nat} (hi : i < h.length) : rz h c i = h[i] := by
  unfold rz
  rw [if_pos (by omega), Int.toNat_natCast, List.getD_eq_getElem?_getD, List.getElem?_eq_getElem hi]
  rfl
theorem rz_ge {h c : List Nat} {k : Int} (hk : (h.length : Int) ≤ k) : rz h c k = cz c (k - h.length) := by
  unfold rz
  rw [if_neg (by omega)]
/-- two sequences that repeat and agree from a place on agree -/
theorem agree {c d : List Nat} (hc : c ≠ []) (hd : d ≠ []) {s : Int} (h : ∀ z : Int, 0 ≤ z → cz c (z + s) = cz d z) (z : Int) : cz c (z + s) = cz d z := by
  have lc : 0 < c.length := List.length_pos_iff.mpr hc
  have ld : 0 < d.length := List.length_pos_iff.mpr hd
  have p1 := (per_len c).mul (d.length * z.natAbs) (z + s)
  have p2 := (per_len d).mul (c.length * z.natAbs) z
  have e : (c.length : Int) * ((d.length * z.natAbs : Nat) : Int) = (d.length : Int) * ((c.length * z.natAbs : Nat) : Int) := by
    rw [Int.natCast_mul, Int.natCast_mul, ← Int.mul_assoc, ← Int.mul_assoc, Int.mul_comm (c.length : Int)]
  have hz : (z.natAbs : Int) ≤ (d.length : Int) * ((c.length * z.natAbs : Nat) : Int) := by
    have : 1 * z.natAbs ≤ (d.length * c.length) * z.natAbs := Nat.mul_le_mul_right _ (Nat.mul_pos ld lc)
    rw [Nat.one_mul, Nat.mul_assoc] at this
    exact_mod_cast this
  rw [← p1, ← p2, e, ← h _ (by omega)]
  congr 1
  omega
theorem LF.unique_le {h c h' c' : List Nat} (a : LF h c) (b : LF h' c') (hle : h.length ≤ h'.length) (e : ∀ k : Nat, rz h c k = rz h' c' k) : h = h' ∧ c = c' := by
  have ag := agree (s := (h'.length : Int) - h.length) a.ne b.ne (fun z hz => by
    have := e (z + h'.length).toNat
    rw [rz_ge (by omega), rz_ge (by omega)] at this
    rw [show (((z + (h'.length : Int)).toNat : Nat) : Int) = z + h'.length by omega] at this
    rw [show z + (h'.length : Int) - h'.length = z by omega] at this
    rw [← this]
    congr 1
    omega)
  have per_iff : ∀ p : Int, Per c p ↔ Per c' p := by
    intro p
    constructor
    · intro hp z
      rw [← ag, ← ag, show z + p + ((h'.length : Int) - h.length) = (z + ((h'.length : Int) - h.length)) + p by omega, hp]
    · intro hp z
      have h1 := ag (z + p - ((h'.length : Int) - h.length))
      have h2 := ag (z - ((h'.length : Int) - h.length))
      rw [show z + p - ((h'.length : Int) - h.length) + ((h'.length : Int) - h.length) = z + p by omega] at h1
      rw [show z - ((h'.length : Int) - h.length) + ((h'.length : Int) - h.length) = z by omega] at h2
      rw [h1, h2, show z + p - ((h'.length : Int) - h.length) = (z - ((h'.length : Int) - h.length)) + p by omega, hp]
  have hlen : c.length = c'.length := by
    have d1 := a.min.dvd ((per_iff _).mpr (per_len c'))
    have d2 := b.min.dvd ((per_iff _).mp (per_len c))
    exact Nat.dvd_antisymm d1 d2
  have hh : h.length = h'.length := by
    by_cases z : h.length = h'.length
    · exact z
    · exfalso
      have hne : h' ≠ [] := fun q => by rw [q] at hle z; simp at hle; simp [hle] at z
      have l := b.last hne
      apply l
      have hp : 0 < h'.length := List.length_pos_iff.mpr hne
      have := e (h'.length - 1)
      rw [rz_lt (show h'.length - 1 < h'.length by omega), rz_ge (by omega)] at this
      rw [List.getLast_eq_getElem, ← this, ← ag]
      congr 1
      omega
  refine ⟨List.ext_getElem hh fun i h1 h2 => ?_, cz_ext hlen fun i _ => ?_⟩
  · have := e i
    rw [rz_lt h1, rz_lt h2] at this
    exact this
  · have := ag i
    rw [show (i : Int) + ((h'.length : Int) - h.length) = i by omega] at this
    exact this
theorem LF.unique {h c h' c' : List Nat} (a : LF h c) (b : LF h' c') (e : ∀ k : Nat, rz h c k = rz h' c' k) : h = h' ∧ c = c' := by
  rcases Nat.le_total h.length h'.length with l | l
  · exact a.unique_le b l e
  · obtain ⟨x, y⟩ := b.unique_le a l fun k => (e k).symm
    exact ⟨x.symm, y.symm⟩
/-- rows that agree long enough agree for ever -/
theorem rz_agree {h c h' c' : List Nat} {N : Nat} (hc : c ≠ []) (hc' : c' ≠ []) (h1 : h.length ≤ N) (h2 : h'.length ≤ N) (e : ∀ k : Nat, k < N + c.length + c'.length → rz h c k = rz h' c' k) : ∀ k : Nat, rz h c k = rz h' c' k := by
  have l1 : 0 < c.length := List.length_pos_iff.mpr hc
  have l2 : 0 < c'.length := List.length_pos_iff.mpr hc'
  have s1 : ∀ k : Nat, N + c.length ≤ k → rz h c k = rz h c (k - c.length : Nat) := fun k hk => by
    rw [rz_ge (by omega), rz_ge (by omega), ← per_len c (((k - c.length : Nat) : Int) - h.length)]
    congr 1; omega
  have s2 : ∀ k : Nat, N + c'.length ≤ k → rz h' c' k = rz h' c' (k - c'.length : Nat) := fun k hk => by
    rw [rz_ge (by omega), rz_ge (by omega), ← per_len c' (((k - c'.length : Nat) : Int) - h'.length)]
    congr 1; omega
  have all : ∀ n : Nat, ∀ k : Nat, k < n → rz h c k = rz h' c' k := by
    intro n
    induction n with
    | zero => intro k hk; omega
    | succ n ih =>
      intro k hk
      by_cases hs : k < N + c.length + c'.length
      · exact e k hs
      · rw [s1 k (by omega), ih (k - c.length) (by omega), s2 (k - c.length) (by omega), ← ih (k - c.length - c'.length) (by omega), s2 k (by omega), ← ih (k - c'.length) (by omega), s1 (k - c'.length) (by omega)]
        congr 1; omega
  intro k
  exact all (k + 1) k (by omega)
end Tw
namespace Tw
open PySem PySem.Spec PyProof.Rows L2
/-- a text written n times -/
def rMulS : R2 := fun x y H Q => ∃ (l : List Nat) (n : Int), x = .str (Sg l) ∧ y = .int n ∧ 0 ≤ n ∧ n ≤ 1000 ∧ l.length ≤ 1000 ∧ Q (.str (Sg (List.replicate n.toNat l).flatten)) H
theorem rep_fold (x : Array Nat) : ∀ (n : Nat) (a : Array Nat), ((List.replicate n x).foldl (· ++ ·) a).toList = a.toList ++ (List.replicate n x.toList).flatten
  | 0, a => by simp
  | n + 1, a => by
    rw [List.replicate_succ, List.foldl_cons, rep_fold x n, List.replicate_succ, List.flatten_cons]
    simp
theorem op_mulStr {X : Cx} : OpR X (binaryOp .Mult) rMulS := by
  intro pins s σ H x y v u Q I rx ry h
  obtain ⟨l, n, rfl, rfl, h0, h1, hl, q⟩ := h
  obtain ⟨t, rfl⟩ := rx
  obtain ⟨t', rfl⟩ := ry
  have hlen : (Sg l).length = l.length := sg_len l
  have hz : sizeLine = 16777216 := sizeLine_eq
  have hprod : l.length * n.toNat ≤ 1000 * 1000 := Nat.mul_le_mul hl (by omega)
  refine PySem.P.mul_str (by simp; omega) (fun hn _ => ?_) (fun _ _ => ?_) ?_
  · rw [hlen]
    have : (1000 : Int) ≤ (2 ^ 63 - 1) / n := by
      rw [Int.le_ediv_iff_mul_le (by omega)]
      omega
    omega
  · rw [hlen]
    unfold Builtin.Str.tooLong
    rw [decide_eq_false_iff_not]
    omega
  · split
    · rename_i hn
      have hn0 : n = 0 := by omega
      subst hn0
      exact ⟨by decide, .str (Sg []), H, I.tok _, ⟨_, rfl⟩, q⟩
    · rename_i hn
      split
      · rename_i hc
        have e : (List.replicate n.toNat l).flatten = l := by
          rw [Bool.or_eq_true, beq_iff_eq, beq_iff_eq, hlen] at hc
          rcases hc with hc | hc
          · subst hc; simp
          · have : l = [] := List.length_eq_zero_iff.mp hc
            subst this; simp
        rw [e] at q
        exact ⟨.str (Sg l), H, I, ⟨_, rfl⟩, q⟩
      · have e : (⟨(List.replicate n.toNat (Sg l).cps).foldl (· ++ ·) #[]⟩ : Str) = Sg (List.replicate n.toNat l).flatten := by
          have := rep_fold (Sg l).cps n.toNat #[]
          rw [sg_tl] at this
          show (⟨_⟩ : Str) = ⟨_⟩
          congr 1
          apply Array.toList_inj.mp
          rw [this]
          simp
        rw [e]
        refine ⟨?_, .str _, H, I.tok _, ⟨_, rfl⟩, q⟩
        rw [sg_len, List.length_flatten, List.map_replicate, List.sum_replicate_nat, Nat.mul_comm]
        omega
theorem w_mulS {l : List Nat} {n : Int} {H : Hp} {Q : VK} (h : 0 ≤ n ∧ n ≤ 1000) (hl : l.length ≤ 1000) (q : Q (.str (Sg (List.replicate n.toNat l).flatten)) H) : rMulS (.str (Sg l)) (.int n) H Q := ⟨l, n, rfl, rfl, h.1, h.2, hl, q⟩
end Tw
namespace Tw
open PySem PySem.Spec PyProof.Rows L2
theorem cz_ix {c : List Nat} {p : Nat} (hp : Per c p) (h0 : 0 < p) (hl : p ≤ c.length) (z : Int) : c[(z % (p : Int)).toNat]? = some (cz c z) := by
  have r0 := Int.emod_nonneg z (b := (p : Int)) (by omega)
  have r1 := Int.emod_lt_of_pos z (b := (p : Int)) (by omega)
  have e : cz c z = cz c (z % p) := by
    have := hp.mulz (z / p) (z % p)
    rw [← this]
    congr 1
    have := Int.emod_add_mul_ediv z p
    omega
  rw [e]
  obtain ⟨r, hr⟩ : ∃ r : Nat, z % (p : Int) = r := ⟨(z % (p : Int)).toNat, by omega⟩
  rw [hr, Int.toNat_natCast, cz_nat (by omega)]
  exact List.getElem?_eq_getElem (by omega)
theorem MinP.le {c : List Nat} {p : Nat} (h : MinP c p) (hc : c ≠ []) : p ≤ c.length := Nat.le_of_dvd (List.length_pos_iff.mpr hc) (h.dvd (per_len c))
theorem per_of {c : List Nat} (hc : c ≠ []) {i : Nat} (h : ∀ j : Nat, j < c.length → cz c (j + i) = cz c j) : Per c i := by
  have hl : 0 < c.length := List.length_pos_iff.mpr hc
  intro z
  have r0 := Int.emod_nonneg z (b := (c.length : Int)) (by omega)
  have r1 := Int.emod_lt_of_pos z (b := (c.length : Int)) (by omega)
  have e := Int.emod_add_mul_ediv z c.length
  have p1 := (per_len c).mulz (z / c.length) (z % c.length + i)
  have p2 := (per_len c).mulz (z / c.length) (z % c.length)
  rw [show z % (c.length : Int) + i + c.length * (z / c.length) = z + i by omega] at p1
  rw [e] at p2
  rw [p1, p2]
  obtain ⟨r, hr⟩ : ∃ r : Nat, z % (c.length : Int) = r := ⟨(z % (c.length : Int)).toNat, by omega⟩
  rw [hr]
  exact h r (by omega)
theorem dbl_ix {c : List Nat} {i : Nat} (h : i < c.length + c.length) : (c ++ c)[i]? = some (cz c i) := by
  by_cases hi : i < c.length
  · rw [List.getElem?_append_left hi, List.getElem?_eq_getElem hi, cz_nat hi]
  · rw [List.getElem?_append_right (by omega), List.getElem?_eq_getElem (by omega)]
    have := per_len c ((i - c.length : Nat) : Int)
    rw [show ((i - c.length : Nat) : Int) + c.length = i by omega, cz_nat (i := i - c.length) (by omega)] at this
    rw [this]
theorem subAt_per {c : List Nat} (hc : c ≠ []) {i : Nat} (hi : i ≤ c.length) : Builtin.Str.subAt (Sg (c ++ c)) (Sg c) i = true ↔ Per c i := by
  rw [PySem.StrLaws.subAt_eq, sg_tl, sg_tl, sg_len, beq_iff_eq]
  constructor
  · intro h
    refine per_of hc fun j hj => ?_
    have h1 : (((c ++ c).drop i).take c.length)[j]? = c[j]? := by rw [h]
    rw [List.getElem?_take_of_lt hj, List.getElem?_drop, dbl_ix (by omega), List.getElem?_eq_getElem hj] at h1
    have h2 := Option.some.inj h1
    rw [cz_nat hj, ← h2]
    congr 1
    omega
  · intro h
    refine List.ext_getElem? fun j => ?_
    by_cases hj : j < c.length
    · rw [List.getElem?_take_of_lt hj, List.getElem?_drop, dbl_ix (by omega), List.getElem?_eq_getElem hj]
      congr 1
      have := h j
      rw [cz_nat hj] at this
      rw [← this]
      congr 1
      omega
    · rw [List.getElem?_eq_none (by rw [List.length_take]; omega), List.getElem?_eq_none (by omega)]
theorem find_again {c : List Nat} (hc : c ≠ []) {p : Nat} (h : MinP c p) : Txt.find3 (Sg (c ++ c)) (Sg c) 1 = (p : Int) := by
  have hl := h.le hc
  refine find3_first h.1 (by rw [sg_len, sg_len, List.length_append]; omega) ((subAt_per hc hl).mpr h.2.1) fun i h1 h2 => ?_
  rw [← Bool.not_eq_true]
  intro z
  exact h.2.2 i h1 h2 ((subAt_per hc (by omega)).mp z)
/-- begun s marks later -/
theorem rot_cz {c : List Nat} {p s : Nat} (hp : Per c p) (hs : s < p) (hl : p ≤ c.length) : ((c.take p).drop s ++ c.take s).length = p ∧ ∀ z, cz ((c.take p).drop s ++ c.take s) z = cz c (z + s) := by
  have len : ((c.take p).drop s ++ c.take s).length = p := by simp only [List.length_append, List.length_drop, List.length_take]; omega
  refine ⟨len, fun z => ?_⟩
  have r0 := Int.emod_nonneg z (b := (p : Int)) (by omega)
  have r1 := Int.emod_lt_of_pos z (b := (p : Int)) (by omega)
  have e : cz c (z + s) = cz c (z % p + s) := by
    have := hp.mulz (z / p) (z % p + s)
    rw [← this]
    congr 1
    have := Int.emod_add_mul_ediv z p
    omega
  rw [e]
  unfold cz
  rw [len]
  obtain ⟨r, hr⟩ : ∃ r : Nat, z % (p : Int) = r := ⟨(z % (p : Int)).toNat, by omega⟩
  rw [hr, Int.toNat_natCast, List.getD_eq_getElem?_getD, List.getD_eq_getElem?_getD]
  by_cases h : r < p - s
  · rw [List.getElem?_append_left (by simp only [List.length_drop, List.length_take]; omega), List.getElem?_drop, List.getElem?_take_of_lt (by omega), Int.emod_eq_of_lt (by omega) (by omega)]
    congr 2
    omega
  · rw [List.getElem?_append_right (by simp only [List.length_drop, List.length_take]; omega), List.getElem?_take_of_lt (by simp only [List.length_drop, List.length_take]; omega)]
    have q := hp ((r + s - p : Nat) : Int)
    rw [show ((r + s - p : Nat) : Int) + p = (r : Int) + s by omega] at q
    unfold cz at q
    rw [List.getD_eq_getElem?_getD, List.getD_eq_getElem?_getD] at q
    rw [q, Int.emod_eq_of_lt (by omega) (by omega), Int.toNat_natCast]
    congr 2
    simp only [List.length_drop, List.length_take]
    omega
theorem minP_shift {c d : List Nat} {s : Int} {p : Nat} (h : ∀ z, cz d z = cz c (z + s)) (m : MinP c p) : MinP d p := by
  have key : ∀ q : Int, Per c q ↔ Per d q := by
    intro q
    constructor
    · intro hq z
      rw [h, h, show z + q + s = (z + s) + q by omega, hq]
    · intro hq z
      have := hq (z - s)
      rw [h, h] at this
      rw [show z - s + q + s = z + q by omega, show z - s + s = z by omega] at this
      exact this
  exact ⟨m.1, (key _).mp m.2.1, fun q h1 h2 h3 => m.2.2 q h1 h2 ((key _).mpr h3)⟩
/-- the head cut, the cycle begun at its end -/
theorem cut_row {h c c' : List Nat} {k p : Nat} (hk : k ≤ h.length) (hp : Per c p) (hr : ∀ z, cz c' z = cz c (z + (((k : Int) - h.length) % (p : Int)))) (hh : ∀ j : Nat, k ≤ j → ∀ x, h[j]? = some x → x = cz c ((j : Int) - h.length)) (n : Nat) : rz (h.take k) c' n = rz h c n := by
  have e : ∀ z, cz c' z = cz c (z + k - h.length) := by
    intro z
    rw [hr]
    have := hp.mulz (((k : Int) - h.length) / p) (z + (((k : Int) - h.length) % (p : Int)))
    rw [← this]
    congr 1
    have := Int.emod_add_mul_ediv ((k : Int) - h.length) p
    omega
  have hl : (h.take k).length = k := by rw [List.length_take]; omega
  by_cases h1 : n < k
  · rw [rz_lt (by omega), rz_lt (by omega), List.getElem_take]
  · rw [rz_ge (by rw [hl]; omega), hl, e]
    by_cases h2 : n < h.length
    · rw [rz_lt h2]
      have := hh n (by omega) _ (List.getElem?_eq_getElem h2)
      rw [this]
      congr 1
      omega
    · rw [rz_ge (by omega)]
      congr 1
      omega
theorem rep_get {x : List Nat} (hx : 0 < x.length) : ∀ (k j : Nat), j < k * x.length → ((List.replicate k x).flatten)[j]? = x[j % x.length]?
  | 0, j, h => by omega
  | k + 1, j, h => by
    rw [List.replicate_succ, List.flatten_cons]
    by_cases hj : j < x.length
    · rw [List.getElem?_append_left hj, Nat.mod_eq_of_lt hj]
    · rw [List.getElem?_append_right (by omega), rep_get hx k (j - x.length) (by rw [Nat.succ_mul] at h; omega)]
      congr 1
      rw [← Nat.mod_eq_sub_mod (by omega)]
theorem rep_iff {c : List Nat} {s : Nat} (h0 : 0 < s) (hs : s ≤ c.length) (hd : s ∣ c.length) : c = (List.replicate (c.length / s) (c.take s)).flatten ↔ Per c s := by
  have hl : (c.take s).length = s := by rw [List.length_take]; omega
  have hn : c.length / s * s = c.length := Nat.div_mul_cancel hd
  have hc : c ≠ [] := fun z => by rw [z] at hs; simp at hs; omega
  constructor
  · intro e
    have g : ∀ j : Nat, j < c.length → c[j]? = c[j % s]? := by
      intro j hj
      have h1 : c[j]? = ((List.replicate (c.length / s) (c.take s)).flatten)[j]? := by rw [← e]
      rw [h1, rep_get (by omega) _ _ (by rw [hl, hn]; exact hj), hl, List.getElem?_take_of_lt (Nat.mod_lt _ h0)]
    refine per_of hc fun j hj => ?_
    have all : ∀ i : Nat, cz c i = c.getD (i % s) 0 := by
      intro i
      unfold cz
      rw [← Int.natCast_emod, Int.toNat_natCast, List.getD_eq_getElem?_getD, List.getD_eq_getElem?_getD, g _ (Nat.mod_lt _ (by omega)), Nat.mod_mod_of_dvd _ hd]
    have h1 := all (j + s)
    have h2 := all j
    rw [Nat.add_mod_right] at h1
    rw [show ((j + s : Nat) : Int) = (j : Int) + s by omega] at h1
    rw [h1, h2]
  · intro hp
    refine List.ext_getElem? fun j => ?_
    by_cases hj : j < c.length
    · rw [rep_get (by omega) _ _ (by rw [hl, hn]; exact hj), hl, List.getElem?_take_of_lt (Nat.mod_lt _ h0)]
      have h1 := cz_ix hp h0 hs j
      rw [← Int.natCast_emod, Int.toNat_natCast] at h1
      rw [h1, cz_nat hj, List.getElem?_eq_getElem hj]
    · rw [List.getElem?_eq_none (by omega), List.getElem?_eq_none (by rw [List.length_flatten, List.map_replicate, List.sum_replicate_nat, hl, hn]; omega)]
theorem take_cz {c : List Nat} {p : Nat} (hp : Per c p) (h0 : 0 < p) (hl : p ≤ c.length) : (c.take p).length = p ∧ ∀ z, cz (c.take p) z = cz c z := by
  have := rot_cz (s := 0) hp h0 hl
  simp only [List.drop_zero, List.take_zero, List.append_nil] at this
  refine ⟨this.1, fun z => ?_⟩
  rw [this.2]
  congr 1
  omega
/-- one mark from the head's end into the cycle -/
theorem back_cz {c : List Nat} (hc : c ≠ []) : (c.getLast hc :: c.dropLast).length = c.length ∧ ∀ z, cz (c.getLast hc :: c.dropLast) z = cz c (z - 1) := by
  have hl : 0 < c.length := List.length_pos_iff.mpr hc
  have len : (c.getLast hc :: c.dropLast).length = c.length := by simp; omega
  refine ⟨len, fun z => ?_⟩
  have r0 := Int.emod_nonneg z (b := (c.length : Int)) (by omega)
  have r1 := Int.emod_lt_of_pos z (b := (c.length : Int)) (by omega)
  have e : cz c (z - 1) = cz c (z % c.length - 1) := by
    have := (per_len c).mulz (z / c.length) (z % c.length - 1)
    rw [← this]
    congr 1
    have := Int.emod_add_mul_ediv z c.length
    omega
  rw [e]
  unfold cz
  rw [len]
  obtain ⟨r, hr⟩ : ∃ r : Nat, z % (c.length : Int) = r := ⟨(z % (c.length : Int)).toNat, by omega⟩
  rw [hr, Int.toNat_natCast]
  cases r with
  | zero =>
    have := cz_last hc
    unfold cz at this
    rw [show ((0 : Nat) : Int) - 1 = -1 by omega, this]
    rfl
  | succ r =>
    rw [show ((r + 1 : Nat) : Int) - 1 = r by omega, Int.emod_eq_of_lt (by omega) (by omega), Int.toNat_natCast, List.getD_eq_getElem?_getD, List.getD_eq_getElem?_getD, List.getElem?_cons_succ, List.getElem?_dropLast, if_pos (by omega)]
theorem back_row {h c : List Nat} (hh : h ≠ []) (hc : c ≠ []) (e : h.getLast hh = c.getLast hc) (n : Nat) : rz h.dropLast (c.getLast hc :: c.dropLast) n = rz h c n := by
  have hl : 0 < h.length := List.length_pos_iff.mpr hh
  have hd : h.dropLast.length = h.length - 1 := List.length_dropLast
  by_cases h1 : n < h.length - 1
  · rw [rz_lt (by omega), rz_lt (by omega), List.getElem_dropLast]
  · rw [rz_ge (by omega), (back_cz hc).2, hd]
    by_cases h2 : n < h.length
    · have hn : n = h.length - 1 := by omega
      subst hn
      rw [rz_lt (by omega), ← List.getLast_eq_getElem hh, e, ← cz_last hc]
      congr 1
      omega
    · rw [rz_ge (by omega)]
      congr 1
      omega
/-- without its first mark -/
theorem shift_row {h c : List Nat} (n : Nat) : (∀ x t, h = x :: t → rz t c n = rz h c ((n + 1 : Nat) : Int)) ∧ (h = [] → ∀ d : List Nat, (∀ z, cz d z = cz c (z + 1)) → rz [] d n = rz h c ((n + 1 : Nat) : Int)) := by
  refine ⟨?_, ?_⟩
  · rintro x t rfl
    by_cases h1 : n < t.length
    · rw [rz_lt h1, rz_lt (by simp; omega), List.getElem_cons_succ]
    · rw [rz_ge (by omega), rz_ge (by simp; omega)]
      congr 1
      simp only [List.length_cons]
      omega
  · rintro rfl d hd
    rw [rz_ge (by simp only [List.length_nil]; omega), rz_ge (by simp only [List.length_nil]; omega), hd]
    congr 1
def rowD (h c : List Nat) : PyData := .tuple [.str (Sg h), .str (Sg c)]
def Mk (l : List Nat) : Prop := ∀ x ∈ l, x < 1000
theorem strOk_sg {l : List Nat} (h : Mk l) : PyData.strOk (Sg l) = true := by
  unfold PyData.strOk
  rw [← Array.all_toList, sg_tl, List.all_eq_true]
  intro x hx
  have := h x hx
  exact decide_eq_true (by omega)
theorem rowD_pln {k : Nat} {h c : List Nat} (a : Mk h) (b : Mk c) : pln (k + 1) (rowD h c) = true := by
  cases k <;> simp [rowD, pln, strOk_sg a, strOk_sg b]
theorem rowD_inj {h c h' c' : List Nat} (e : rowD h c = rowD h' c') : h = h' ∧ c = c' := by
  simp only [rowD, PyData.tuple.injEq, List.cons.injEq, PyData.str.injEq, and_true] at e
  exact ⟨sg_inj e.1, sg_inj e.2⟩
section
variable {K : PySem.W.Frag} {σ : L2.St} {H : Hp} {Q : VK} {v : V} {ta : TE} {h c : List Nat}
def rTruS (x : V) (H : Hp) (Q : Bool → Hp → Prop) : Prop := ∃ l : List Nat, x = .str (Sg l) ∧ l.length ≤ 1000000 ∧ Q (decide (l ≠ [])) H
theorem w_truS {Q : Bool → Hp → Prop} (q : ta σ H fun x H' => rTruS x H' Q) (m : ∀ (P P' : VK), (∀ v H', P v H' → P' v H') → ta σ H P → ta σ H P') : tTru K ta σ H Q := by
  refine m _ _ (fun v H' z => ?_) q
  obtain ⟨l, rfl, hl, z⟩ := z
  have hs : sizeLine = 16777216 := sizeLine_eq
  refine ⟨decide (l ≠ []), ⟨by rw [sg_len]; omega, ?_⟩, z⟩
  rw [sg_len]
  cases l with
  | nil => rfl
  | cons a l => simp; omega
theorem var_mono {i : Nat} (P P' : VK) (h : ∀ v H', P v H' → P' v H') (q : tVar i σ H P) : tVar i σ H P' := by
  obtain ⟨v, e, z⟩ := q
  exact ⟨v, e, h _ _ z⟩
theorem w_truV {Q : Bool → Hp → Prop} {i : Nat} {l : List Nat} (e : σ[i]? = some (some (.str (Sg l)))) (hl : l.length ≤ 1000000) (q : Q (decide (l ≠ [])) H) : tTru K (tVar i) σ H Q :=
  w_truS ⟨_, e, l, rfl, hl, q⟩ fun P P' a b => var_mono P P' a b
theorem w_row0 (d : Dp K H v (rowD h c)) (q : Q (.str (Sg h)) H) : rIxT K v (.int 0) H Q := w_ixT (j := 0) d rfl rfl fun v' hv => by cases hv; exact q
theorem w_row1 (d : Dp K H v (rowD h c)) (q : Q (.str (Sg c)) H) : rIxT K v (.int 1) H Q := w_ixT (j := 1) d rfl rfl fun v' hv => by cases hv; exact q
theorem w_gTupR {i j : Nat} {Q : L2.St → Hp → Prop} (d : Dp K H v (rowD h c)) (q : Q ((σ.set i (some (.str (Sg h)))).set j (some (.str (Sg c)))) H) : gTup K 2 (gCons (gName i) (gCons (gName j) gNil)) v σ H Q :=
  w_gTup2 d fun v1 v2 h1 h2 => by cases h1; cases h2; exact q
def rFind3 : V → List V → Hp → VK → Prop := fun x xs H Q => ∃ (a b : Str) (i : Int), x = .str a ∧ xs = [.str b, .int i] ∧ Q (.int (Txt.find3 a b i)) H
theorem mt_find3D {X : Cx} : MtR X "str.find" rFind3 := mt_find3
theorem w_find3 {a b : Str} {i : Int} (q : Q (.int (Txt.find3 a b i)) H) : rFind3 (.str a) [.str b, .int i] H Q := ⟨a, b, i, rfl, rfl, q⟩
end
end Tw
namespace Tw
theorem rep_len (c : List Nat) (n : Nat) : (List.replicate n c).flatten.length = n * c.length := by rw [List.length_flatten, List.map_replicate, List.sum_replicate_nat]
theorem rep_mk {c : List Nat} (mc : Mk c) (n : Nat) : Mk (List.replicate n c).flatten := fun x hx => by
  obtain ⟨l, hl1, hl2⟩ := List.mem_flatten.mp hx
  rw [(List.mem_replicate.mp hl1).2] at hl2
  exact mc x hl2
end Tw
namespace Tw
open PySem PySem.Spec PyProof.Rows L2
section
variable {K : PySem.W.Frag} {H : Hp} {Q : VK} {x y : V} {d e : PyData}
theorem w_eqPb (h1 : Dp K H x d) (h2 : Dp K H y e) (p1 : pln 9 d = true) (p2 : pln 9 e = true) (q : ∀ b, (b = true ↔ d = e) → Q (.bl b) H) : rEqD K x y H Q :=
  w_eqP h1 h2 p1 p2 (fun z => q true ⟨fun _ => z, fun _ => rfl⟩) (fun z => q false ⟨fun h => absurd h Bool.false_ne_true, fun h => absurd h z⟩)
end
theorem pln_intsL (ns : List Int) : pln 9 (.list (ns.map PyData.int)) = true := pln_ints ns
theorem line_ix {h c : List Nat} (hc : c ≠ []) (n j : Nat) (hj : j < h.length + n * c.length) : (h ++ (List.replicate n c).flatten)[j]? = some (rz h c j) := by
  have hl : 0 < c.length := List.length_pos_iff.mpr hc
  by_cases h1 : j < h.length
  · rw [List.getElem?_append_left h1, rz_lt h1, List.getElem?_eq_getElem h1]
  · rw [List.getElem?_append_right (by omega), rep_get hl _ _ (by omega), rz_ge (by omega), show ((j : Int) - h.length) = ((j - h.length : Nat) : Int) by omega]
    have hm := Nat.mod_lt (j - h.length) hl
    unfold cz
    rw [← Int.natCast_emod, Int.toNat_natCast, List.getD_eq_getElem?_getD, List.getElem?_eq_getElem hm]
    rfl
theorem rest_rz {h c : List Nat} (hc : c ≠ []) {k : Nat} (hk : k ≤ h.length + c.length) (n : Nat) : rz (((h ++ (List.replicate 12 c).flatten).take (h.length + c.length * 3)).drop (k + 1)) c n = rz h c ((n + k + 1 : Nat) : Int) := by
  have hl : 0 < c.length := List.length_pos_iff.mpr hc
  have len : (((h ++ (List.replicate 12 c).flatten).take (h.length + c.length * 3)).drop (k + 1)).length = h.length + c.length * 3 - (k + 1) := by
    rw [List.length_drop, List.length_take, List.length_append, rep_len]
    omega
  by_cases h1 : n < h.length + c.length * 3 - (k + 1)
  · rw [rz_lt (by omega)]
    have e := line_ix hc 12 (n + k + 1) (h := h) (by omega)
    have g : (((h ++ (List.replicate 12 c).flatten).take (h.length + c.length * 3)).drop (k + 1))[n]? = some (rz h c ((n + k + 1 : Nat) : Int)) := by
      rw [List.getElem?_drop, List.getElem?_take_of_lt (by omega), show k + 1 + n = n + k + 1 by omega, e]
    exact (List.getElem?_eq_some_iff.mp g).2
  · rw [rz_ge (by omega), rz_ge (by omega), len]
    have p := (per_len c).mul 3 ((n : Int) - ((h.length + c.length * 3 - (k + 1) : Nat) : Int))
    rw [← p]
    congr 1
    omega
end Tw
namespace Tw
open PySem PySem.Spec PyProof.Rows L2
/-! ### marks counted from 1, for ever -/
def mk (l : List Nat) (k : Int) : Nat := l.getD ((k - 1) % (l.length : Int)).toNat 0
theorem mk_at {l : List Nat} {k : Int} {c : Nat} (h : l[((k - 1) % (l.length : Int)).toNat]? = some c) : c = mk l k := by
  unfold mk; rw [List.getD_eq_getElem?_getD, h]; rfl
theorem mk_per (l : List Nat) (k : Int) : mk l (k + l.length) = mk l k := by
  unfold mk
  rw [show k + (l.length : Int) - 1 = (k - 1) + l.length by omega, Int.add_emod_right]
theorem mk_last {l : List Nat} (h : l ≠ []) : mk l l.length = l.getLast h := by
  have hl : 0 < l.length := List.length_pos_iff.mpr h
  unfold mk
  rw [Int.emod_eq_of_lt (by omega) (by omega), List.getLast_eq_getElem, List.getD_eq_getElem?_getD, List.getElem?_eq_getElem (by omega)]
  simp only [Option.getD_some]
  congr 1
  omega
theorem mk_lt {l : List Nat} {k : Int} (h0 : 1 ≤ k) (h1 : k < l.length) (h : l ≠ []) : mk l k ∈ l.dropLast := by
  unfold mk
  have hl : (k - 1).toNat < l.dropLast.length := by rw [List.length_dropLast]; omega
  rw [Int.emod_eq_of_lt (by omega) (by omega), List.getD_eq_getElem?_getD, List.getElem?_eq_getElem (by omega)]
  simp only [Option.getD_some]
  rw [show l[(k - 1).toNat] = l.dropLast[(k - 1).toNat] by rw [List.getElem_dropLast]]
  exact List.getElem_mem _
theorem mk_dbl (l : List Nat) (k : Int) (h : l ≠ []) : mk (l ++ l) k = mk l k := by
  have hl : 0 < l.length := List.length_pos_iff.mpr h
  unfold mk
  rw [List.length_append]
  have e1 : (k - 1) % (l.length : Int) = ((k - 1) % ((l.length + l.length : Nat) : Int)) % (l.length : Int) := by
    rw [Int.emod_emod_of_dvd]
    exact ⟨2, by push_cast; omega⟩
  have h0 := Int.emod_nonneg (k - 1) (b := ((l.length + l.length : Nat) : Int)) (by omega)
  have h1 := Int.emod_lt_of_pos (k - 1) (b := ((l.length + l.length : Nat) : Int)) (by omega)
  generalize (k - 1) % ((l.length + l.length : Nat) : Int) = z at *
  rw [e1, List.getD_eq_getElem?_getD, List.getD_eq_getElem?_getD]
  by_cases hz : z < l.length
  · rw [List.getElem?_append_left (by omega), Int.emod_eq_of_lt h0 hz]
  · rw [List.getElem?_append_right (by omega)]
    have e2 : z % (l.length : Int) = z - l.length := by
      rw [← Int.emod_eq_of_lt (show 0 ≤ z - (l.length : Int) by omega) (show z - (l.length : Int) < l.length by omega), Int.sub_emod_right]
    rw [e2]
    congr 2
    omega
def Un (l : List Nat) (m : Int) : Option Int → Prop
  | some k => m < k ∧ mk l k ≠ mk l (k - m) ∧ ∀ j, m < j → j < k → mk l j = mk l (j - m)
  | none => ∀ j, m < j → mk l j = mk l (j - m)
theorem Un.unique {l : List Nat} {m : Int} {r r' : Option Int} (h : Un l m r) (h' : Un l m r') : r = r' := by
  cases r with
  | none =>
    cases r' with
    | none => rfl
    | some k => exact absurd (h k h'.1) h'.2.1
  | some k =>
    cases r' with
    | none => exact absurd (h' k h.1) h.2.1
    | some k' =>
      obtain ⟨a, b, c⟩ := h
      obtain ⟨a', b', c'⟩ := h'
      congr 1
      rcases Int.lt_trichotomy k k' with z | z | z
      · exact absurd (c' k a z) b
      · exact z
      · exact absurd (c k' a' z) b'
theorem scan_none {l : List Nat} {m : Int} (hl : l ≠ []) (h : ∀ j, m < j → j ≤ m + l.length → mk l j = mk l (j - m)) : Un l m none := by
  have hp : 0 < l.length := List.length_pos_iff.mpr hl
  have all : ∀ n : Nat, ∀ j, m < j → j ≤ m + n → mk l j = mk l (j - m) := by
    intro n
    induction n with
    | zero => intro j h1 h2; omega
    | succ n ih =>
      intro j h1 h2
      by_cases hj : j ≤ m + l.length
      · exact h j h1 hj
      · have := ih (j - l.length) (by omega) (by omega)
        rw [← mk_per l (j - l.length), show j - (l.length : Int) + l.length = j by omega, ← mk_per l (j - l.length - m), show j - (l.length : Int) - m + l.length = j - m by omega] at this
        exact this
  intro j h1
  exact all (j - m).toNat j h1 (by omega)
theorem Un.bound {l : List Nat} {m k : Int} (hl : l ≠ []) (h : Un l m (some k)) : k ≤ m + l.length := by
  by_cases hk : k ≤ m + l.length
  · exact hk
  · exact absurd (scan_none hl (fun j h1 h2 => h.2.2 j h1 (by omega)) k h.1) h.2.1
theorem Un.dbl {l : List Nat} {m : Int} {r : Option Int} (hl : l ≠ []) (h : Un l m r) : Un (l ++ l) m r := by
  cases r with
  | none => intro j hj; rw [mk_dbl _ _ hl, mk_dbl _ _ hl]; exact h j hj
  | some k =>
    refine ⟨h.1, ?_, fun j h1 h2 => ?_⟩
    · rw [mk_dbl _ _ hl, mk_dbl _ _ hl]; exact h.2.1
    · rw [mk_dbl _ _ hl, mk_dbl _ _ hl]; exact h.2.2 j h1 h2
/-- the numbers from one on, each unlike the last -/
inductive Chn (l : List Nat) (most : Int) : Option Int → List Int → Prop
  | no : Chn l most none []
  | stop {k : Int} : most < k → Chn l most (some k) []
  | go {k : Int} {r : Option Int} {ns : List Int} : k ≤ most → Un l k r → Chn l most r ns → Chn l most (some k) (k :: ns)
theorem Chn.unique {l : List Nat} {most : Int} {o : Option Int} {ns : List Int} (h : Chn l most o ns) : ∀ {ms : List Int}, Chn l most o ms → ns = ms := by
  induction h with
  | no => intro ms h'; cases h'; rfl
  | stop hk => intro ms h'; cases h' with
    | stop _ => rfl
    | go h1 _ _ => omega
  | go hk hu _ ih => intro ms h'; cases h' with
    | stop h1 => omega
    | go h1 h2 h3 => rw [hu.unique h2] at ih; rw [ih h3]
theorem Chn.le {l : List Nat} {most : Int} {o : Option Int} {ns : List Int} (h : Chn l most o ns) : ∀ n ∈ ns, n ≤ most := by
  induction h with
  | no => intro n hn; cases hn
  | stop _ => intro n hn; cases hn
  | go hk _ _ ih => intro n hn; rcases List.mem_cons.mp hn with rfl | hn; exact hk; exact ih n hn
theorem Chn.gt {l : List Nat} {most : Int} {o : Option Int} {ns : List Int} (h : Chn l most o ns) : ∀ k, o = some k → ∀ n ∈ ns, k ≤ n := by
  induction h with
  | no => intro k e n hn; cases hn
  | stop _ => intro k e n hn; cases hn
  | @go k r ns hk hu hc ih =>
    intro k' e n hn
    cases e
    rcases List.mem_cons.mp hn with rfl | hn
    · exact Int.le_refl _
    · cases r with
      | none => cases hc; cases hn
      | some k2 => have := ih k2 rfl n hn; have := hu.1; omega
theorem Chn.asc {l : List Nat} {most : Int} {o : Option Int} {ns : List Int} (h : Chn l most o ns) : ns.Pairwise (· < ·) := by
  induction h with
  | no => exact .nil
  | stop _ => exact .nil
  | @go k r ns hk hu hc ih =>
    refine .cons (fun n hn => ?_) ih
    cases r with
    | none => cases hc; cases hn
    | some k2 => have := hc.gt k2 rfl n hn; have := hu.1; omega
/-- a star word: its last mark alone is a star -/
def StarW (l : List Nat) : Prop := ∃ h : l ≠ [], l.getLast h = 42 ∧ ∀ c ∈ l.dropLast, c ≠ 42
theorem starW_mk {pre : List Nat} (h : ∀ c ∈ pre, c ≠ 42) : StarW (pre ++ [42]) := ⟨by simp, by simp, by simpa using h⟩
theorem Chn.star {l : List Nat} (hs : StarW l) {o : Option Int} {ns : List Int} (h : Chn l l.length o ns) : ∀ k, o = some k → 1 ≤ k → k ≤ l.length → ns.getLast? = some (l.length : Int) := by
  obtain ⟨hl, h1, h2⟩ := hs
  induction h with
  | no => intro k e; cases e
  | stop hk => intro k e _ h3; cases e; omega
  | @go k r ns hk hu hc ih =>
    intro k' e hk1 hk2
    cases e
    by_cases hkn : k = l.length
    · subst hkn
      cases r with
      | none => cases hc; rfl
      | some k2 => cases hc with
        | stop _ => rfl
        | go h3 _ _ => have := hu.1; omega
    · have bad : mk l l.length ≠ mk l (l.length - k) := by
        rw [mk_last hl, h1]
        exact (h2 _ (mk_lt (by omega) (by omega) hl)).symm
      cases r with
      | none => exact absurd (hu l.length (by omega)) bad
      | some k2 =>
        have hk3 : k2 ≤ l.length := by
          by_cases z : k2 ≤ l.length
          · exact z
          · exact absurd (hu.2.2 l.length (by omega) (by omega)) bad
        have := ih k2 rfl (by have := hu.1; omega) hk3
        rw [List.getLast?_cons, this]
        rfl
def ov : Option Int → V
  | none => .non
  | some k => .int k
end Tw
namespace Tw
open PySem PySem.Spec PyProof.Rows L2
/-- a value (i, (p, q)) -/
def IsRow (h : Heap) (v : Value) (k : Int × Int × Int) : Prop :=
  ∃ a o t b n, v = .ref a ∧ h.get? a = some o ∧ o.cls = .type "tuple" ∧ o.data = .seq #[.int k.1 t, .ref b] n ∧ Srt.IsPair h (.ref b) k.2.1 k.2.2
theorem IsRow.keeps {h h' : Heap} {v : Value} {k : Int × Int × Int} (r : IsRow h v k) (e : ∀ b o, h.get? b = some o → o.cls = .type "tuple" → h'.get? b = some o) : IsRow h' v k := by
  obtain ⟨a, o, t, b, n, rfl, h1, h2, h3, h4⟩ := r
  exact ⟨a, o, t, b, n, rfl, e _ _ h1 h2, h2, h3, h4.keeps e⟩
theorem row_firsts {h : Heap} : ∀ {vs : List Value}, (∀ v ∈ vs, ∃ k, IsRow h v k) → ∃ fs, W.KatTups h vs fs ∧ fs.length = vs.length ∧ ∀ f ∈ fs, ∃ x t, f = Value.int x t
  | [], _ => ⟨[], .nil, rfl, fun _ z => nomatch z⟩
  | v :: vs, hv => by
    obtain ⟨fs, h1, h2, h3⟩ := row_firsts (vs := vs) fun u hu => hv u (List.mem_cons_of_mem _ hu)
    obtain ⟨k, a, o, t, b, n, rfl, g1, g2, g3, g4⟩ := hv v List.mem_cons_self
    refine ⟨.int k.1 t :: fs, ⟨⟨a, o, _, n, rfl, g1, g2, g3, rfl⟩, h1⟩, by simp [h2], fun f hf => ?_⟩
    rcases List.mem_cons.mp hf with rfl | hf
    · exact ⟨_, _, rfl⟩
    · exact h3 f hf
theorem isInt_me (x : Int) (t : Tok) : Value.isInt x (.int x t) = true := by simp [Value.isInt]
theorem pair_key {P : Program} {w : World} {h : Heap} {b : Addr} {x y : Int} (r : Srt.IsPair h (.ref b) x y) : IsTupleKey (intKind P w) h [x, y] b := by
  obtain ⟨a, o, t, u, n, e, h1, h2, h3⟩ := r
  cases e
  exact ⟨o, _, n, h1, h2, h3, .cons (v := .int x t) (isInt_me x t) (.cons (v := .int y u) (isInt_me y u) .nil)⟩
theorem row_cmp {prog : Program} {w : World} {A : Around} {s : Shared} {vs : List Value} {k : Value → Int × Int × Int} (hu : A.units < cLine) (h : ∀ v ∈ vs, IsRow s.heap v (k v)) (det : ∀ v ∈ vs, ∀ u ∈ vs, (k v).1 = (k u).1 → (k v).2 = (k u).2) :
    SrtO.Cmp prog w A s (PyProof.Rows.tuples' true) (fun p => p.fst ∈ vs) (SrtO.lt2 fun v u => decide ((k v).1 < (k u).1)) := by
  intro p q hp hq
  obtain ⟨a, o, t, b, n, e1, h1, h2, h3, h4⟩ := h _ hp
  obtain ⟨a', o', t', b', n', e1', h1', h2', h3', h4'⟩ := h _ hq
  have hd := det _ hp _ hq
  show wpAny _ _ (PyProof.Rows.keyLt' _ p.fst q.fst) _ _ _
  unfold SrtO.lt2
  dsimp only
  generalize k p.fst = kp at *
  generalize k q.fst = kq at *
  rw [e1, e1']
  refine PySem.W.kat_lt h1 h3 h1' h3' (PySem.W.kat_cons ?_)
  refine (intKind prog w).eqBool (a := kp.1) (b := kq.1) (isInt_me kp.1 t) (isInt_me kq.1 t') ?_
  unfold PySem.W.KatGo
  by_cases hk : kp.1 = kq.1
  · rw [if_pos (decide_eq_true hk)]
    refine PySem.W.kat_cons ?_
    have h5 := hd hk
    refine wpAny_eqBool_tuple (knd := intKind prog w) hu (pair_key h4) (pair_key h4') ?_
    unfold PySem.W.KatGo
    rw [h5, if_pos (decide_eq_true rfl)]
    exact ⟨rfl, by rw [hk]; simp⟩
  · rw [if_neg (by simpa using hk)]
    exact TS.oneLt_ints _ ⟨rfl, rfl⟩
theorem ltk_swo {α : Type} (k : α → Int) : SrtO.Swo fun v u => decide (k v < k u) := by
  refine ⟨fun x y h => ?_, fun x y z h1 h2 => ?_⟩
  · rw [decide_eq_true_eq] at h
    rw [decide_eq_false_iff_not]
    omega
  · rw [decide_eq_false_iff_not] at *
    omega
theorem rows_sortable {prog : Program} {w : World} {A : Around} {s : Shared} {a : Addr} {vs : List Value} {k : Value → Int × Int × Int} (hu : A.units < cLine) (h0 : 0 < vs.length) (h : ∀ v ∈ vs, IsRow s.heap v (k v)) (det : ∀ v ∈ vs, ∀ u ∈ vs, (k v).1 = (k u).1 → (k v).2 = (k u).2)
    (ha : ∀ o, s.heap.get? a = some o → o.cls ≠ .type "tuple") : SrtO.SortableO prog w A s a vs fun v u => decide ((k v).1 < (k u).1) := by
  intro h' keep
  have hr : ∀ v ∈ vs, IsRow h' v (k v) := fun v hv => (h v hv).keeps fun b o e1 e2 => keep b o (fun z => by subst z; exact ha o e1 e2) e1
  obtain ⟨fs, f1, f2, f3⟩ := row_firsts (h := h') (vs := vs) fun v hv => ⟨_, hr v hv⟩
  refine ⟨PyProof.Rows.tuples' true, fun Q E q => ?_, row_cmp hu hr det⟩
  refine PySem.W.kat_kind (T := .type "int") f1 (by omega) (fun v hv => ?_) (by decide +kernel) ?_
  · obtain ⟨x, t, rfl⟩ := f3 v hv
    exact PySem.W.Looks.now
  · rw [show (Value.type "int" != Value.type "tuple") = true by decide +kernel]
    exact q
theorem sorted_rows {prog : Program} {w : World} {A : Around} {E : Value → Shared → Prop} {s : Shared} {l : Addr} {vs : List Value} {k : Value → Int × Int × Int} {Q : Value → Shared → Prop} (hu : A.in1.in1.units < cLine) (hl : s.heap.IsList l vs.toArray) (hz : vs.length ≤ sizeLine)
    (h : ∀ v ∈ vs, IsRow s.heap v (k v)) (det : ∀ v ∈ vs, ∀ u ∈ vs, (k v).1 = (k u).1 → (k v).2 = (k u).2)
    (q : ∀ (h' : Heap) (d : Addr) (out : List Value), out.Perm vs → out.Pairwise (fun v u => (k v).1 ≤ (k u).1) → (∀ b o, s.heap.get? b = some o → h'.get? b = some o) → s.heap.objs.size ≤ d → (∃ n, h'.get? d = some (PyProof.Rows.seqObj "list" out.toArray n)) →
      Q (.ref d) { heap := h', gens := s.gens, drawn := s.drawn, toks := s.toks, os := s.os }) :
    wpAny (model prog w) A (call (.builtin "sorted") [.ref l]) Q E s := by
  refine SrtO.sorted_ord (ltk_swo fun v => (k v).1) hl hz (fun h2 h1 a g1 g2 => ?_) fun out o1 o2 => ?_
  · refine rows_sortable hu (by omega) (fun v hv => (h v hv).keeps fun b o e1 _ => (g2 b o e1).2) det fun o e => ?_
    rw [g1] at e
    cases e
    intro z
    exact absurd (Value.type.inj z) (by decide)
  · refine q _ _ out o2.perm ?_ (fun b o e => PyProof.Rows.sortedAll_old e) (Nat.le_succ _) (PyProof.Rows.sortedAll_at _ _ _)
    refine List.Pairwise.imp (fun {x y} z => ?_) o1
    rw [decide_eq_false_iff_not] at z
    omega
end Tw
namespace Tw
open PySem PySem.Spec PyProof.Rows L2
def rowP (e : Int × Int × Int) : PyData := .tuple [.int e.1, .tuple [.int e.2.1, .int e.2.2]]
theorem pairP {X : Cx} {pins : List (Addr × Obj)} {σ : L2.St} {H : Hp} {s : Shared} {v : V} {p q : Int} (I : L2.Inv X pins σ H s) (d : Dp X.K H v (.tuple [.int p, .int q])) : ∃ b, v = .ref b ∧ Srt.IsPair s.heap (.ref b) p q := by
  obtain ⟨b, xs, rfl, hs, ha⟩ := dp_tup d
  obtain ⟨its, hv, ⟨o, h1, h2, n, h3⟩, _⟩ := I.tuple hs
  cases ha with
  | cons a1 a2 =>
    cases a2 with
    | cons a2 a3 =>
      cases a3
      cases a1; cases a2
      cases hv with
      | cons v1 v2 =>
        cases v2 with
        | cons v2 v3 =>
          cases v3
          obtain ⟨t, rfl⟩ := v1
          obtain ⟨u, rfl⟩ := v2
          exact ⟨b, rfl, b, o, t, u, n, rfl, h1, h2, h3⟩
theorem rowI {X : Cx} {pins : List (Addr × Obj)} {σ : L2.St} {H : Hp} {s : Shared} {v : V} {u : Value} {e : Int × Int × Int} (I : L2.Inv X pins σ H s) (r : RelV v u) (d : Dp X.K H v (rowP e)) : IsRow s.heap u e ∧ ∃ a, v = .ref a := by
  obtain ⟨a, xs, rfl, hs, ha⟩ := dp_tup d
  obtain ⟨its, hv, ⟨o, h1, h2, n, h3⟩, _⟩ := I.tuple hs
  cases r
  cases ha with
  | cons a1 a2 =>
    cases a2 with
    | cons a2 a3 =>
      cases a3
      cases a1
      obtain ⟨b, rfl, hp⟩ := pairP I a2
      cases hv with
      | cons v1 v2 =>
        cases v2 with
        | cons v2 v3 =>
          cases v3
          obtain ⟨t, rfl⟩ := v1
          cases v2
          exact ⟨⟨a, o, t, b, n, rfl, h1, h2, h3, hp⟩, a, rfl⟩
theorem row_one {h : Heap} {v : Value} {e f : Int × Int × Int} (a : IsRow h v e) (b : IsRow h v f) : e = f := by
  obtain ⟨a1, o1, t1, b1, n1, rfl, g1, _, g2, x1, y1, _, _, _, q1, q2, _, q3⟩ := a
  obtain ⟨a2, o2, t2, b2, n2, h0, k1, _, k2, x2, y2, _, _, _, r1, r2, _, r3⟩ := b
  cases h0
  rw [g1] at k1
  cases k1
  rw [g2] at k2
  simp only [Data.seq.injEq, Array.mk.injEq, List.cons.injEq, Value.int.injEq, Value.ref.injEq, and_true] at k2
  obtain ⟨⟨⟨i1, _⟩, i2⟩, _⟩ := k2
  subst i2
  cases q1; cases r1
  rw [q2] at r2
  cases r2
  rw [q3] at r3
  simp only [Data.seq.injEq, Array.mk.injEq, List.cons.injEq, Value.int.injEq, and_true] at r3
  obtain ⟨⟨⟨j1, _⟩, ⟨j2, _⟩⟩, _⟩ := r3
  exact Prod.ext i1 (Prod.ext j1 j2)
open Classical in
noncomputable def rowK (h : Heap) (v : Value) : Int × Int × Int := if z : ∃ e, IsRow h v e then z.choose else (0, 0, 0)
theorem rowK_eq {h : Heap} {v : Value} {e : Int × Int × Int} (r : IsRow h v e) : rowK h v = e := by
  unfold rowK
  rw [dif_pos ⟨e, r⟩]
  exact row_one (Exists.choose_spec (⟨e, r⟩ : ∃ e, IsRow h v e)) r
theorem rowsI {X : Cx} {pins : List (Addr × Obj)} {σ : L2.St} {H : Hp} {s : Shared} (I : L2.Inv X pins σ H s) : ∀ {xs : List V} {its : List Value} {es : List (Int × Int × Int)}, Vals xs its → DpAll X.K H xs (es.map rowP) →
    es = its.map (rowK s.heap) ∧ ∀ u ∈ its, IsRow s.heap u (rowK s.heap u) ∧ RelV (backV u) u ∧ Dp X.K H (backV u) (rowP (rowK s.heap u))
  | [], _, es, hv, hd => by
    cases hv
    cases es with
    | nil => exact ⟨rfl, fun _ z => nomatch z⟩
    | cons e es => cases hd
  | x :: xs, _, es, hv, hd => by
    cases hv with
    | cons r hv =>
      cases es with
      | nil => cases hd
      | cons e es =>
        cases hd with
        | cons d hd =>
          obtain ⟨i1, i2⟩ := rowsI I hv hd
          obtain ⟨j1, a, rfl⟩ := rowI I r d
          have j2 := rowK_eq j1
          refine ⟨by rw [List.map_cons, j2, ← i1], fun u hu => ?_⟩
          rcases List.mem_cons.mp hu with rfl | hu
          · cases r
            rw [j2]
            exact ⟨j1, rfl, d⟩
          · exact i2 u hu
def rSortR (K : PySem.W.Frag) : List V → Hp → VK → Prop := fun vs H Q => ∃ (a : Addr) (es : List (Int × Int × Int)), vs = [.ref a] ∧ Dp K H (.ref a) (.list (es.map rowP)) ∧ (∀ e ∈ es, ∀ f ∈ es, e.1 = f.1 → e.2 = f.2) ∧
  ∀ (es' : List (Int × Int × Int)) (p : Addr) H', es'.Perm es → es'.Pairwise (fun e f => e.1 ≤ f.1) → H p = none → Same H H' → Dp K H' (.ref p) (.list (es'.map rowP)) → Q (.ref p) H'
theorem cr_sortR {X : Cx} {K : PySem.W.Frag} (hu : X.A.units + 64 < cLine) (hK : X.K = K := by rfl) : CallR X (.builtin "sorted") (rSortR K) := by
  subst hK
  intro pins s σ H xs us Q I hv h
  obtain ⟨a, es, rfl, hd, det, q⟩ := h
  obtain ⟨u, rfl, ru⟩ := vals1 hv
  cases ru
  obtain ⟨a', ys, e0, hs, ha⟩ := dp_lst hd
  cases e0
  obtain ⟨its, hy, hp, hz⟩ := I.list hs
  have hl := hy.length
  obtain ⟨r1, r2⟩ := rowsI I hy ha
  refine sorted_rows (k := rowK s.heap) (by show X.A.units + 1 + 1 < cLine; omega) (PlainL.isList hp) (by omega) (fun v hv => (r2 v hv).1) (fun v hv u hu e => ?_) fun h' d out o1 o2 o3 o4 o5 => ?_
  · exact det _ (by rw [r1]; exact List.mem_map_of_mem hv) _ (by rw [r1]; exact List.mem_map_of_mem hu) e
  · have hn : H d = none := I.hok.fresh o4
    have hvs : ∀ l : List Value, (∀ u ∈ l, u ∈ its) → Vals (l.map backV) l ∧ DpAll X.K H (l.map backV) ((l.map (rowK s.heap)).map rowP) := by
      intro l
      induction l with
      | nil => exact fun _ => ⟨.nil, .nil⟩
      | cons u l ih =>
        intro hl
        obtain ⟨i1, i2⟩ := ih fun v hv => hl v (List.mem_cons_of_mem _ hv)
        obtain ⟨_, j1, j2⟩ := r2 u (hl u List.mem_cons_self)
        exact ⟨.cons j1 i1, .cons j2 i2⟩
    obtain ⟨v1, v2⟩ := hvs out fun u hu => (o1.mem_iff).mp hu
    have lo : out.length = its.length := o1.length_eq
    obtain ⟨n, o5⟩ := o5
    have same : Same H (upd H d (.lst (out.map backV))) := same_new hn
    refine ⟨.ref d, upd H d (.lst (out.map backV)), I.laid o3 o4 ⟨by rw [List.length_map]; omega, out, n, v1, o5⟩, rfl, q (out.map (rowK s.heap)) d _ (by rw [r1]; exact o1.map _) (List.pairwise_map.mpr o2) hn same ?_⟩
    exact .lst (SqL.of upd_same) (dpa_same same v2)
end Tw
namespace Tw
open PySem PySem.Spec PyProof.Rows L2
/-- a place with its numerator over W -/
def key3 (W : Nat) (x : Nat × Nat) : Int × Int × Int := (((x.1 * (W / x.2) : Nat) : Int), (x.1 : Int), (x.2 : Int))
theorem key_pd (W : Nat) (x : Nat × Nat) : rowP (key3 W x) = .tuple [.int ((x.1 * (W / x.2) : Nat) : Int), pd x] := rfl
theorem key_inj {W : Nat} {x y : Nat × Nat} (hW : 0 < W) (hx : Plc x) (hy : Plc y) (dx : x.2 ∣ W) (dy : y.2 ∣ W) (e : x.1 * (W / x.2) = y.1 * (W / y.2)) : x = y := by
  have h1 : x.1 * (W / x.2) * x.2 = x.1 * W := by rw [Nat.mul_assoc, Nat.div_mul_cancel dx]
  have h2 : y.1 * (W / y.2) * y.2 = y.1 * W := by rw [Nat.mul_assoc, Nat.div_mul_cancel dy]
  have r1 := red_of hx.cop hx.pos hW h1.symm
  have r2 := red_of hy.cop hy.pos hW h2.symm
  rw [← r1, ← r2, e]
theorem key_sz {W : Nat} {x : Nat × Nat} (hW : 0 < W) (hC : W ∣ CN) (dx : x.2 ∣ W) : sz x = x.1 * (W / x.2) * (CN / W) := by
  unfold sz
  obtain ⟨m, hm⟩ := hC
  obtain ⟨n, hn⟩ := dx
  have hx : 0 < x.2 := by
    rcases Nat.eq_zero_or_pos x.2 with z | z
    · rw [z] at hn; omega
    · exact z
  rw [hm, Nat.mul_div_cancel_left _ hW, hn, Nat.mul_assoc, Nat.mul_div_cancel_left _ hx, Nat.mul_div_cancel_left _ hx, Nat.mul_assoc]
theorem sorted_back {W : Nat} {xs : List (Nat × Nat)} {es : List (Int × Int × Int)} (h : es.Perm (xs.map (key3 W))) : ∃ ys : List (Nat × Nat), ys.Perm xs ∧ es = ys.map (key3 W) := by
  let g : Int × Int × Int → Nat × Nat := fun e => (e.2.1.toNat, e.2.2.toNat)
  have hg : ∀ x, g (key3 W x) = x := fun x => by simp [g, key3]
  refine ⟨es.map g, ?_, ?_⟩
  · have := h.map g
    rw [List.map_map] at this
    rwa [show g ∘ key3 W = id from funext hg, List.map_id] at this
  · rw [List.map_map]
    symm
    refine (List.map_congr_left fun e he => ?_).trans (List.map_id _)
    obtain ⟨x, _, rfl⟩ := List.mem_map.mp (h.mem_iff.mp he)
    show key3 W (g (key3 W x)) = key3 W x
    rw [hg]
theorem lcm_step {W b : Nat} (hW : 0 < W) (hb : 0 < b) (h1 : W ∣ CN) (h2 : b ∣ CN) : 0 < W / Nat.gcd W b * b ∧ W / Nat.gcd W b * b ∣ CN ∧ W ∣ W / Nat.gcd W b * b ∧ b ∣ W / Nat.gcd W b * b := by
  have e : W / Nat.gcd W b * b = Nat.lcm W b := by
    unfold Nat.lcm
    obtain ⟨m, hm⟩ := Nat.gcd_dvd_left W b
    have hg : 0 < Nat.gcd W b := Nat.gcd_pos_of_pos_left _ hW
    generalize Nat.gcd W b = g at *
    rw [hm, Nat.mul_div_cancel_left _ hg, Nat.mul_assoc, Nat.mul_div_cancel_left _ hg]
  rw [e]
  exact ⟨Nat.lcm_pos hW hb, Nat.lcm_dvd h1 h2, Nat.dvd_lcm_left _ _, Nat.dvd_lcm_right _ _⟩
end Tw
namespace Tw
open PySem PySem.Spec PyProof.Rows L2
theorem pe_ownInit {X : Cx} {e : Expr} {es : List Expr} {ta : TA} {p1 p2 pos : Pos} {pl : Sem Bool} {x : Str} {D : Addr} (hg : Gl X x) (hm : X.mg x = some (.ref D))
    (sp : PySem.W.specialIn X.K (.ref D) "__getattribute__" = some (some (.builtin "type.__getattribute__"))) (tp : PySem.W.typeIn X.K (.ref D) = some (.type "type")) (rd : PySem.W.readsIn X.K D (.type "type") = true)
    (fc : PySem.W.findCls X.K (.ref D) (.type "type") "__init__" = some (.val (.builtin "ValueError.__init__"))) (ha : PA X (e :: es) ta) (hd : (x == ("__debug__" : Str)) = false := by rfl)
    (he : eval (.Call (.Attribute (.Name x p1) "__init__" p2) (e :: es) [] pos) X.env = (do
      let ov ← eval (.Name x p1) X.env
      standAt p2.atName
      let (f, first) ← holding [ov] (getMethod ov "__init__" pl)
      callWith pos f first (backTo pos (starEach (e :: es) X.env)) (backToKw pos (keywordEach [] X.env))) := by rfl)
    (h1 : starEach (e :: es) X.env = (false, eval e X.env) :: starEach es X.env := by rfl) (h2 : (backTo pos (starEach es X.env)).any (·.1) = false := by rfl) :
    PE X (.Call (.Attribute (.Name x p1) "__init__" p2) (e :: es) [] pos) (tVeI X.K ta) where
  run := fun pins s σ H Q I h => by
    obtain ⟨m, fr⟩ := I.fr
    have kin := I.ok.mod.kin
    refine PySem.W.methodCall_KW (ld_glob I hg hm ?_ hd) he
    refine PySem.W.method_of_cls fr kin sp (PySem.W.cls_val fr kin tp rd fc (by rfl) ?_)
    refine callWith_method1 (thn (ha.run pos pins _ σ H _ (I.tok _) h) fun us s' z => ?_) h1 h2
    obtain ⟨vs, H', I', rv, a, C, ws, rfl, hl, ox, hx, q⟩ := z
    cases rv with
    | cons r1 r2 =>
      cases r1
      refine oinit_ok ox I' hx ?_ fun s2 I2 => ⟨.non, H', I2, rfl, q⟩
      have := r2.length
      rw [sizeLine_eq]
      omega
/-- a call of a def that may raise, where it doesn't -/
theorem passF {P : Program} {w : World} {X : Cx} : Passes (CX P w) X (fun _ _ _ => False) := by
  intro pins σ H s e s' I h
  obtain ⟨_, _, _, _, _, _, _, _, _, _, _, _, h⟩ := h
  exact h.elim
/-- what the top says of an own class of errors at C -/
structure ExK (K : PySem.W.Frag) (C : Addr) : Prop where
  o : OexC K C
  f : XfC K C
/-- .. of one whose __init__ is called by name -/
structure ExB (K : PySem.W.Frag) (D : Addr) : Prop where
  sp : PySem.W.specialIn K (.ref D) "__getattribute__" = some (some (.builtin "type.__getattribute__"))
  tp : PySem.W.typeIn K (.ref D) = some (.type "type")
  rd : PySem.W.readsIn K D (.type "type") = true
  fc : PySem.W.findCls K (.ref D) (.type "type") "__init__" = some (.val (.builtin "ValueError.__init__"))
section
variable {K : PySem.W.Frag} {σ : L2.St} {H : Hp} {Q : VK} {D : Ends}
theorem w_vei {ta : TA} (h : ta σ H fun vs H1 => ∃ a C ws, vs = V.ref a :: ws ∧ ws.length ≤ 1000 ∧ OexC K C ∧ H1 a = some (exo a C none) ∧ Q V.non H1) : tVeI K ta σ H Q := h
theorem w_ost {f : Str} {to te : TE} (h : te σ H fun y H1 => to σ H1 fun x H2 => ∃ a C, x = V.ref a ∧ OexC K C ∧ PySem.W.findIn K (Value.ref C) f = some none ∧
      ((H2 a = some (exo a C none) ∧ ∀ dx : Addr, H2 dx = none → dx ≠ a → D.nx σ (upd (upd H2 dx (exd dx [(f, y)])) a (exo a C (some dx)))) ∨
        ∃ dx fs, H2 a = some (exo a C (some dx)) ∧ H2 dx = some (exd dx fs) ∧ fs.length ≤ 900 ∧ D.nx σ (upd H2 dx (exd dx ((f, y) :: fs))))) : tOst K f to te D σ H := h
theorem w_js {t : TE} {ts : List TE} {acc : Str} {Q : Str → Hp → Prop} (h : t σ H fun x H1 => ∃ y : Str, x = .str y ∧ (acc ++ y).length ≤ sizeLine ∧ tJs ts (acc ++ y) σ H1 Q) : tJs (t :: ts) acc σ H Q := h
theorem w_jsN {acc : Str} {Q : Str → Hp → Prop} (h : Q acc H) : tJs [] acc σ H Q := h
theorem w_fmt {te : TE} (h : te σ H fun x H1 => (∃ y, x = V.str y ∧ y.length ≤ sizeLine ∧ Q (V.str y) H1) ∨ ∃ i, x = V.int i ∧ i.natAbs.log2 < 1920 ∧ Q (V.str (Str.ofString (toString i))) H1) : tFmt te σ H Q := h
end
theorem exm_ofS {K : PySem.W.Frag} {C S : Addr} {b : Bool} (h1 : PySem.W.subIn K (.ref S) (.type "BaseException") = some true) (h2 : PySem.W.isClsIn K S = true) (h3 : PySem.W.typeIn K (.ref S) = some (.type "type")) (h4 : PySem.W.subIn K (.ref C) (.ref S) = some b) :
    PySem.W.exmOne K (.ref C) (.ref S) = some b := by
  have e1 : (PySem.W.subIn K (.ref S) (.type "BaseException") == some true) = true := by rw [h1] <;> rfl
  have e2 : ((PySem.W.clsIn K S).isSome && PySem.W.typeIn K (.ref S) == some (.type "type")) = true := by
    have h2' : (PySem.W.clsIn K S).isSome = true := h2
    rw [h2', h3] <;> rfl
  show (if (PySem.W.subIn K (.ref S) (.type "BaseException") == some true) = true then (if ((PySem.W.clsIn K S).isSome && PySem.W.typeIn K (.ref S) == some (.type "type")) = true then PySem.W.subIn K (.ref C) (.ref S) else none) else none) = some b
  rw [if_pos e1, if_pos e2]
  exact h4
theorem str_app (a b : Str) : (a ++ b).length = a.length + b.length := by
  show (a.cps ++ b.cps).size = _
  exact Array.size_append
theorem log2_ok {n : Int} (h0 : 0 ≤ n) (h1 : n < 1000000) : n.natAbs.log2 < 1920 := by
  by_cases z : n.natAbs = 0
  · rw [z]; decide
  · rw [Nat.log2_lt z]
    exact Nat.lt_of_lt_of_le (show n.natAbs < 2 ^ 20 by omega) (Nat.pow_le_pow_right (by decide) (by decide))
theorem strI_len {n : Int} (h0 : 0 ≤ n) (h1 : n < 1000000) : (Str.ofString (toString n)).length ≤ 6 := toString_length_le h0 (by decide) (by omega)
section
variable {K : PySem.W.Frag} {σ : L2.St} {H : Hp} {D : Ends} {C : Addr}
theorem w_mko {sp : Sp} {dvs : List V} {ta : TA} {Q : XK} (h : ta σ H fun vs H1 => vs.length ≤ 1000 ∧ ∀ a : Addr, H1 a = none → sp (V.ref a :: (vs ++ dvs)) (upd H1 a (exo a C none))
      (fun v H2 => v = V.non ∧ ∃ d fs, H2 a = some (exo a C (some d)) ∧ H2 d = some (exd d fs) ∧ H1 d = none ∧ Q (Value.ref C) (some d) (upd (del H2 a) d (HO.xd fs))) fun _ _ _ => False) : tMkO C sp dvs ta σ H Q := h
/-- the error's dict beside what stood -/
theorem raise_same {H : Hp} {a dx : Addr} {o1 o2 o3 o4 : HO} (ha : H a = none) (hd : H dx = none) : Same H (upd (del (upd (upd (upd H a o1) dx o2) a o3) a) dx o4) := fun b o e => by
  have h1 : b ≠ a := fun z => by rw [z, ha] at e; cases e
  have h2 : b ≠ dx := fun z => by rw [z, hd] at e; cases e
  rw [upd_ne h2, del_ne h1, upd_ne h1, upd_ne h2, upd_ne h1]
  exact e
end
section
variable {K : PySem.W.Frag} {σ : L2.St} {H : Hp} {Q : VK}
theorem w_callS {sp : Sp} {E : L2.St → XK} {ta : TA} (h : ta σ H fun vs H1 => sp vs H1 Q (E σ)) : tCallS sp E ta σ H Q := h
theorem w_xf {a C : Addr} {cls : Value} {d : Option Addr} {f : Str} {te : TE} (h : te σ H fun x H1 => x = V.ref a ∧ cls = Value.ref C ∧ ∃ dd fs v, d = some dd ∧ H1 dd = some (HO.xd fs) ∧ List.lookup f fs = some v ∧ Q v H1) : tXf a cls d C f te σ H Q := h
end
end Tw
namespace Tw
open PySem PySem.Spec PyProof.Rows L2
/-- an error that was kept: its class, its dict -/
def keO (a : Addr) (cls : Value) (d : Option Addr) : HO := .ext fun h => ∃ oe vs, h.get? a = some oe ∧ Zc cls d oe ∧ oe.data = .fields vs
section
variable {X : Cx} {pins : List (Addr × Obj)} {σ : L2.St} {H : Hp} {s : Shared} {a : Addr} {oe : Obj} {cls : Value} {d : Option Addr}
/-- a pinned error becomes a tracked one -/
theorem keep_err (I : Inv X ((a, oe) :: pins) σ H s) (z : Zc cls d oe) (hd : ∃ vs, oe.data = .fields vs) (n0 : X.s_0.heap.get? a = none) (np : ∀ p ∈ X.pn ++ pins, p.1 ≠ a) :
    Inv X pins σ (upd H a (keO a cls d)) s := by
  obtain ⟨vs, hv⟩ := hd
  obtain ⟨p1, p2, p3, p4, p5⟩ := I.pin (a, oe) (by simp)
  have sub : ∀ p ∈ X.pn ++ pins, p ∈ X.pn ++ (a, oe) :: pins := fun p hp => by
    rcases List.mem_append.mp hp with q | q
    · exact List.mem_append_left _ q
    · exact List.mem_append_right _ (List.mem_cons_of_mem _ q)
  have ne : ∀ {b u}, H b = some u → b ≠ a := fun e => ne_of_none e p2
  constructor
  case ok => exact I.ok
  case os => exact I.os
  case bare => exact I.bare
  case base =>
    have B := I.base
    constructor
    case keep => exact B.keep
    case slot => exact B.slot
    case there => exact B.there
    case free =>
      intro b o e n hx
      rw [upd_ne (fun q => by rw [q, n0] at e; cases e)]
      exact B.free b o e n hx
    case tups => intro b xs e; have q := B.tups b xs e; rw [upd_ne (ne q)]; exact q
    case frzs => intro b o u e; have q := B.frzs b o u e; rw [upd_ne (ne q)]; exact q
    case tbls => intro b ps e; obtain ⟨m, q⟩ := B.tbls b ps e; exact ⟨m, by rw [upd_ne (ne q)]; exact q⟩
  case loc => exact I.loc
  case cell => exact I.cell
  case free => rw [upd_ne (Ne.symm p3)]; exact I.free
  case freeC =>
    intro x c e
    have hc : c ≠ a := fun q => by
      obtain ⟨v, o, ho, hcell⟩ := I.cell x c e
      rw [q, p1] at ho
      cases ho
      exact p5 v hcell
    rw [upd_ne hc]
    exact I.freeC x c e
  case pin =>
    intro p hp
    obtain ⟨q1, q2, q3⟩ := I.pin p (sub p hp)
    exact ⟨q1, by rw [upd_ne (np p hp)]; exact q2, q3⟩
  case hok =>
    intro b u e
    by_cases hb : b = a
    · subst hb
      rw [upd_same] at e
      cases e
      exact ⟨⟨oe, vs, p1, z, hv⟩, ⟨oe, p1⟩, fun h1 h2 ⟨o, v, a1, a2, a3⟩ st => ⟨o, v, st _ a1, a2, a3⟩⟩
    · rw [upd_ne hb] at e
      exact (I.hok b u e).stay (fun _ _ _ q => q) (fun c q => by rw [upd_ne (ne q)]; exact q) fun c xs q => by rw [upd_ne (ne q)]; exact q
  case len => exact I.len
/-- out of the suite, the error still pinned -/
theorem unsuite_pin (I : Inv (X.suite a ((a, oe) :: (X.pn ++ pins))) [] σ H s) (ok : X.Ok) : Inv X ((a, oe) :: pins) σ H s :=
  { ok := ok, os := I.os, bare := I.bare, base := I.base, loc := I.loc, cell := I.cell, free := I.free, freeC := I.freeC, hok := I.hok, len := I.len,
    pin := fun p hp => I.pin p (by
      refine List.mem_append_left _ ?_
      rcases List.mem_append.mp hp with q | q
      · exact List.mem_cons_of_mem _ (List.mem_append_left _ q)
      · rcases List.mem_cons.mp q with q | q
        · rw [q]; exact List.mem_cons_self
        · exact List.mem_cons_of_mem _ (List.mem_append_right _ q)) }
end
/-- what a clause that keeps its error wishes of an exception of the body -/
def wKe (K : PySem.W.Frag) (c : Value) (i : Nat) (ts : Addr → Value → Option Addr → TS) (Wout : WX) (D : Ends) : WX := fun cls d σ H =>
  ∃ b, PySem.W.exmOne K cls c = some b ∧ (b = true → ∀ a, H a = none → ts a cls d { nx := fun σ' H' => D.nx (σ'.set i none) (upd H' a (keO a cls d)), rt := D.rt, bk := fun σ' H' => D.bk (σ'.set i none) H', ct := fun σ' H' => D.ct (σ'.set i none) H' } (σ.set i (some (.ref a))) H) ∧
    (b = false → Wout cls d σ H)
section
variable {X : Cx} {x n : Str} {c : Value} {i : Nat} {body suite : List Stmt} {b₀ : Stmt} {np pos pos' : Pos} {tb : WX → TS} {ts : Addr → Value → Option Addr → TS} {Wout : WX}
/-- try: body / except x as n: suite, where n's object is tracked from then on -/
theorem ps_try_keep (hs : X.stack = X.env :: X.outer) (hf : X.env.frame = some X.env.locals) (hex : X.ex = []) (hN : X.N.Nodup) (hi : X.N[i]? = some n) (hln : X.env.kindOf n = some .local) (hc : Names X x c) (tk : Takes X Wout)
    (hb : ∀ (W : WX) (pn : List (Addr × Obj)) (xe : Value → Shared → Prop), Takes (X.tr pn xe) W → PassesOwn (model X.prog X.w) X.A X.env xe → PSs (X.tr pn xe) body (tb W))
    (hsu : ∀ (a : Addr) (oe : Obj) (cls : Value) (d : Option Addr) (pn : List (Addr × Obj)), Zc cls d oe → (∃ vs, oe.data = .fields vs) → PSs (X.suite a ((a, oe) :: pn)) (b₀ :: suite) (ts a cls d)) :
    PS X (.Try body [.ExceptHandler (some (.Name x np)) (some n) (b₀ :: suite) pos'] [] [] pos) (fun D σ H => tb (wKe X.K c i ts Wout D) D σ H) := by
  constructor
  intro pins s σ H D I h
  have ok := I.ok
  have frm : X.A.frames = some (X.env :: X.outer) := ok.frames.trans (by rw [hs])
  refine wpAny_Try_except ?_
  have run := (hb (wKe X.K c i ts Wout D) (X.pn ++ pins)
    (fun e s₁ => wpAny (model X.prog X.w) X.A (noteFrame e X.env) (fun _ s₂ => wpAny (model X.prog X.w) X.A (setFlight e none) (fun _ s₃ => wpAny (model X.prog X.w) X.A (handleBy e X.env [.ExceptHandler (some (.Name x np)) (some n) (b₀ :: suite) pos']) (SP X pins D) X.xe s₃) X.xe s₂) X.xe s₁)
    (fun u s' w => ?_) PassesOwn.looking).run [] s σ H D (I.toTry _) h
  · refine wpAny_mono run (fun f s1 q => ?_) fun e s1 q => q
    cases f with
    | next => obtain ⟨σ', H', J, q⟩ := q; exact wpAny_execs_nil ⟨σ', H', J.ofTry ok, q⟩
    | ret u => obtain ⟨v, σ', H', J, r, q⟩ := q; exact ⟨v, σ', H', J.ofTry ok, r, q⟩
    | brk => obtain ⟨σ', H', J, q⟩ := q; exact ⟨σ', H', J.ofTry ok, q⟩
    | cont => obtain ⟨σ', H', J, q⟩ := q; exact ⟨σ', H', J.ofTry ok, q⟩
  · -- an exception of the body
    obtain ⟨a, B, sI, pins', σ', H', cls, d, rfl, J', nb, up, sky, na, os, ag, b, hb1, yes, no⟩ := w
    have J : Inv X pins σ' H' sI := J'.ofTry ok
    show wpAny (model X.prog X.w) X.A (noteFrame (.ref a) X.env) _ _ _
    have sky2 : Sky B (X.env :: X.outer) a (Zc cls d) X.env.locals s'.heap := hs ▸ sky
    refine Sky.land Zc.steady frm hf sky2 fun h3 fl up3 => ?_
    have J3 : Inv X pins σ' H' { s' with heap := h3 } := J.landed nb fl.1 (up.trans up3) os ag
    obtain ⟨o3, v3, ge3, ze3, fe3⟩ := fl.there
    have nfr : a ∉ frs (X.env :: X.outer) := fun hm => by
      obtain ⟨_, o', e', hnf⟩ := fl.2.2.1.mem hm
      rw [ge3] at e'
      cases e'
      exact hnf _ fe3
    have nL : a ≠ X.env.locals := fun q => nfr (List.mem_filterMap.mpr ⟨X.env, List.mem_cons_self, by rw [hf, q]⟩)
    have nF : a ∉ X.fs := fun hm => by
      obtain ⟨e, he, q⟩ := List.mem_filterMap.mp hm
      exact nfr (List.mem_filterMap.mpr ⟨e, List.mem_cons_of_mem _ he, q⟩)
    -- it is new
    have nI : sI.heap.get? a = none := by
      cases q : sI.heap.get? a with
      | none => rfl
      | some o =>
        have r := nb a o q (by rw [hs]; exact nfr)
        rw [fl.2.1] at r
        cases r
    have newA : X.s_0.heap.get? a = none := by
      cases q : X.s_0.heap.get? a with
      | none => rfl
      | some o =>
        obtain ⟨o', r⟩ := J.base.there a o q (by rw [hex]; simp)
        rw [nI] at r
        cases r
    have nP : ∀ p ∈ X.pn ++ pins, p.1 ≠ a := fun p hp q => by
      have r := (J.pin p hp).1
      rw [q, nI] at r
      cases r
    have S3 := J3.suite ge3 fe3 na nL nF
    refine wpAny_handleBy_cons (codeAny_handlers_test ?_) (by intro q; cases q)
    have LT : PySem.W.Looks (model X.prog X.w) h3 (typeOf (.ref a)) cls := fun A Q E s k q => wpAny_typeOf_ref (k _ _ ge3) (by rw [ze3.1]; exact q)
    have LM := PySem.W.exm_one (M := model X.prog X.w) (J3.kIn) LT hb1
    have named : ∀ {Q : Value → Shared → Prop} {E : Value → Shared → Prop}, Q c { s' with heap := h3 } → wpAny (model X.prog X.w) (X.A.mark (some (.ref a))) (eval (.Name x np) X.env) Q E { s' with heap := h3 } := by
      intro Q E q
      obtain ⟨hg, hdbg, hm⟩ := hc
      rcases hm with hm | ⟨hm, hv, hnn⟩
      · exact ld_glob (X := X.suite a ((a, o3) :: (X.pn ++ pins))) S3 hg hm q hdbg
      · exact ld_blt (X := X.suite a ((a, o3) :: (X.pn ++ pins))) S3 hg hm hv q hnn hdbg
    refine named (LM.here ?_)
    cases b with
    | false =>
      show wpAny _ X.A (handleBy (.ref a) X.env []) _ _ _
      refine wpAny_handleBy_nil ?_
      obtain ⟨k1, k2, k3, o5, vs, T, oT, ts', he, hz, hd, h1, hr⟩ := id fl
      unfold PySem.passOn
      refine wpAny_bind (wpAny_field he hd h1 ?_)
      rw [if_neg (show ¬ ((Value.ref T == Value.none) = true) from by simp)]
      have fin : wpAny (model X.prog X.w) X.A (setFlight (.ref a) X.env.frame) (fun _ s4 => wpAny (model X.prog X.w) X.A (throw (.ref a) : Sem Flow) (SP X pins D) X.xe s4) X.xe { s' with heap := h3 } := by
        rw [hf]
        exact HandSPX.setFlight_upZ fl fun h4 hh4 up4 => wpAny_throw (tk _ _ ⟨a, B, sI, pins, σ', H', cls, d, rfl, J, nb, (up.trans up3).trans up4, .inr (.inr (by rw [hs]; exact hh4)), na, os, ag, no rfl⟩)
      first
        | exact wpAny_bind (wpAny_pure (wpAny_bind fin))
        | exact wpAny_bind fin
    | true =>
      refine codeAny_handlers_suite_as (HandSPX.lands_againZ fl fun h4 fl4 up4 => ?_)
      have J4 : Inv X pins σ' H' { s' with heap := h4 } := J.landed nb fl4.1 ((up.trans up3).trans up4) os ag
      obtain ⟨o4, v4, ge4, ze4, fe4⟩ := fl4.there
      refine store_ok (X := X.suite a ((a, o4) :: (X.pn ++ pins))) (v := .ref a) (J4.suite ge4 fe4 na nL nF) hN hi (.inl hln) rfl (fun s5 S5 => ?_) (.inr hln)
      refine wpAny_mono ((hsu a o4 cls d (X.pn ++ pins) ze4 ⟨_, fe4⟩).run [] s5 _ H' _ S5 (yes rfl a na)) (fun f s6 q => ?_) (fun _ _ z => z.elim)
      have done : ∀ {σ6 : L2.St} {H6 : Hp} {Q : Shared → Prop}, Inv (X.suite a ((a, o4) :: (X.pn ++ pins))) [] σ6 H6 s6 → (∀ s7, Inv X ((a, o4) :: pins) (σ6.set i none) H6 s7 → Q s7) →
          wpAny (model X.prog X.w) X.A (do bindName X.env n .none; unbindBehindTheSuite X.env n pos') (fun _ s7 => Q s7) X.xe s6 := fun S6 k => gone_ok (unsuite_pin S6 ok) hN hi hln k
      have less : ∀ {σ6 : L2.St} {H6 : Hp} {s7 : Shared}, Inv X ((a, o4) :: pins) σ6 H6 s7 → Inv X pins σ6 H6 s7 := fun J7 =>
        { ok := J7.ok, os := J7.os, bare := J7.bare, base := J7.base, loc := J7.loc, cell := J7.cell, free := J7.free, freeC := J7.freeC, hok := J7.hok, len := J7.len,
          pin := fun p hp => J7.pin p (by
            rcases List.mem_append.mp hp with q | q
            · exact List.mem_append_left _ q
            · exact List.mem_append_right _ (List.mem_cons_of_mem _ q)) }
      cases f with
      | next => obtain ⟨σ6, H6, S6, q6⟩ := q; exact done S6 fun s7 J7 => ⟨_, _, keep_err J7 ze4 ⟨_, fe4⟩ newA nP, q6⟩
      | ret u => obtain ⟨v6, σ6, H6, S6, r6, q6⟩ := q; exact done S6 fun s7 J7 => ⟨_, _, _, less J7, r6, q6⟩
      | brk => obtain ⟨σ6, H6, S6, q6⟩ := q; exact done S6 fun s7 J7 => ⟨_, _, less J7, q6⟩
      | cont => obtain ⟨σ6, H6, S6, q6⟩ := q; exact done S6 fun s7 J7 => ⟨_, _, less J7, q6⟩
end
section
variable {prog : Program} {w : World} {A : Around} {E : Value → Shared → Prop} {s : Shared} {K : PySem.W.Frag} {x D : Addr} {ox : Obj} {od : Option Obj}
/-- e.__class__ of an error of an own class, with a dict of its own or without -/
theorem err_class {Q : Option Value → Shared → Prop} (C : ExcC K D) (X : K.In s.heap) (I : PySem.W.InstAt s.heap x ox D od) (h : Q (some (.ref D)) { s with toks := s.toks + 1 }) :
    wpAny (model prog w) A (getAttr? (.ref x) "__class__") Q E s := by
  have hcl : (PySem.W.clsIn K D).isSome = true := by obtain ⟨cd, hc, _⟩ := PySem.W.any_some C.hd; rw [hc]; rfl
  have found : PySem.W.findObj K D od "__class__" = some (.bind (.builtin "getset_descriptor.__get__") (.builtin "object.__class__")) := by
    obtain ⟨cd, hc⟩ := Option.isSome_iff_exists.mp hcl
    unfold PySem.W.findObj
    rw [hc, Option.bind_some, C.ha, Option.bind_some]
    simp [C.hn, C.ht]
  obtain ⟨hp, g, d, t, os⟩ := s
  have ofType := I.type (M := model prog w)
  have ofGet := PySem.W.looks_findIn (M := model prog w) X C.hg
  have ofHook := PySem.W.looks_findIn (M := model prog w) X C.hk
  have ofClass := PySem.W.looks_find (M := model prog w) X I found
  have isExc : PySem.W.Looks (model prog w) hp (isInstance (.ref x) (.type "BaseException")) true := ofType.andThen (PySem.W.looks_subIn X C.hs)
  have n1 : (Value.builtin "BaseException.__getattribute__" == Value.builtin "object.__getattribute__") = false := by decide +kernel
  have n2 : (onTheHeap (Value.ref D) && Value.builtin "BaseException.__getattribute__" == Value.builtin "object.__getattribute__") = false := by rw [n1]; rfl
  have n3 : (false && onTheHeap (Value.builtin "BaseException.__getattribute__")) = false := rfl
  unfold getAttr? getAttrBy? getAttrBy
  refine wpAny_bind (wpAny_mkText (wpAny_bind (wpAny_attempt (wpAny_holding (wpAny_bind (ofType.at (wpAny_bind (ofGet.at ?_))))))))
  show wpAny _ _ (if (onTheHeap (Value.ref D) && Value.builtin "BaseException.__getattribute__" == Value.builtin "object.__getattribute__") = true then _ else _) _ _ _
  rw [n2, if_neg Bool.false_ne_true]
  unfold getAttrByItsOwn hookBefore
  refine wpAny_bind ?_
  rw [if_pos (show onTheHeap (Value.ref D) = true from rfl)]
  refine ofHook.at (wpAny_bind (wpAny_attempt (wpAny_holding ?_)))
  unfold callGetattribute
  rw [n3, if_neg Bool.false_ne_true]
  unfold boundAndCalled
  rw [PySem.F.excAttr_ValueError.ga.bind (.ref x)]
  refine wpAny_bind (wpAny_pure ?_)
  show wpAny _ _ (call (.builtin "BaseException.__getattribute__") [.ref x, .str "__class__" t]) _ _ _
  refine wpAny_call (codeAny_call_builtin PySem.F.excAttr_ValueError.ga.plain PySem.F.entry_bexc_ga ?_)
  refine @PySem.W.check_slot (model prog w) _ _ ⟨hp, g, d, t + 1, os⟩ "BaseException.__getattribute__" "BaseException" "__getattribute__" (.ref x) [.str "__class__" t] [] _ (by decide +kernel) (by decide +kernel) isExc (PySem.F.args_bexc_ga (.ref x) (.str "__class__" t)) ?_
  unfold Builtin.«object.__getattribute__»
  refine wpAny_bind (wpAny_of_eq (a := ((Value.ref x : Value), [Value.str "__class__" t])) (by first | rfl | (simp only [slotArgs]; rfl)) ?_)
  refine wpAny_bind (wpAny_pure (wpAny_bind (ofType.at (wpAny_bind (ofClass.at ?_)))))
  show wpAny _ _ (holding [Value.builtin "object.__class__"] (call (.builtin "getset_descriptor.__get__") [.builtin "object.__class__", .ref x, .ref D]) >>= ret) _ _ _
  refine wpAny_bind (wpAny_holding (wpAny_call (PySem.W.class_get (s := ⟨hp, g, d, t + 1, os⟩) (ox := ox) (od := od) X I C.hm ?_)))
  refine wpAny_pure ?_
  show wpAny _ _ (handedOut (.ref D)) _ _ _
  rw [PySem.W.handedOut_of (v := .ref D) rfl]
  first
    | exact wpAny_pure (wpAny_pure h)
    | exact wpAny_pure h
    | exact wpAny_pure (wpAny_bind (wpAny_pure (wpAny_pure h)))
theorem err_kit (C : ExcC K D) : PySem.W.KitX K (.ref x) (.ref D) (fun h => ∃ ox od, PySem.W.InstAt h x ox D od) := by
  have cls : ∃ c' d' cd' sl', K.lookup D = some ⟨c', d', .cls cd', sl'⟩ := by
    obtain ⟨cd, hc, _⟩ := PySem.W.any_some C.hd
    unfold PySem.W.clsIn at hc
    split at hc
    · rename_i c' d' cd' sl' ho; exact ⟨c', d', cd', sl', ho⟩
    · cases hc
  obtain ⟨c', d', cd', sl', ho⟩ := cls
  constructor
  case ty => intro M h X ⟨ox, od, I⟩; exact I.type
  case it =>
    intro M h X _ A' Q' E' s' k q
    unfold isType loadHead
    exact wpAny_bind (wpAny_loadPart (k _ _ (X _ _ ho)) (wpAny_pure q))
  case ne =>
    intro h tp dd its n sl X htp
    refine Bool.eq_false_iff.mpr fun q => ?_
    have e : D = tp := Value.ref.inj (beq_iff_eq.mp q)
    subst e
    have r := (X _ _ ho).symm.trans htp
    cases r
  case ca => intro prog w A E Q s X ⟨ox, od, I⟩ k; exact err_class C X I k
end
/-- the dict of a kept error is known -/
def dictAt (H : Hp) (d : Option Addr) : Prop := ∀ dd, d = some dd → ∃ fs, H dd = some (.xd fs)
/-- isinstance(e, c), e a kept error -/
def rIsK (K : PySem.W.Frag) : List V → Hp → VK → Prop := fun xs H Q => ∃ (a D : Addr) (c : V) (cv : Value) (d : Option Addr) (b : Bool), xs = [.ref a, c] ∧ H a = some (keO a (.ref D) d) ∧ dictAt H d ∧ ExcC K D ∧ (∀ u, RelV c u → u = cv) ∧ PySem.W.kitOne K (.ref D) cv = some b ∧ Q (.bl b) H
theorem kept_get {P : Program} {w : World} {H : Hp} {h : Heap} {a D : Addr} {d : Option Addr} (ok : HOk P w H h) (ea : H a = some (keO a (.ref D) d)) (hd : dictAt H d) : ∃ ox od, PySem.W.InstAt h a ox D od ∧ ∀ dd fs, d = some dd → H dd = some (.xd fs) → ∃ o mA, od = some o ∧ h.Ns1 dd mA ∧ h.get? dd = some o ∧ ∀ f, RelO (fs.lookup f) (mA f) := by
  obtain ⟨⟨oe, vs, g, z, fe⟩, _⟩ := ok a _ ea
  have no : PySem.W.notCls oe = true := by unfold PySem.W.notCls; rw [fe]
  cases d with
  | none => exact ⟨oe, none, ⟨g, z.1, no, by rw [z.2]; trivial⟩, fun dd fs e => by cases e⟩
  | some dd =>
    obtain ⟨fs, e⟩ := hd dd rfl
    obtain ⟨mA, hns, hr⟩ := ok dd _ e
    obtain ⟨o, ho, hl⟩ := lookIn_ns hns
    refine ⟨oe, some o, ⟨g, z.1, no, by rw [z.2]; exact ho⟩, fun d2 f2 e2 q => ?_⟩
    cases e2
    rw [e] at q
    cases q
    exact ⟨o, mA, rfl, hns, ho, hr⟩
theorem cl_isK {X : Cx} {K : PySem.W.Frag} (hk : X.K = K := by rfl) : CallR X (.builtin "isinstance") (rIsK K) := by
  subst hk
  intro pins s σ H xs us Q I r h
  obtain ⟨a, D, c, cv, d, b, rfl, ea, hd, C, hcv, e, q⟩ := h
  cases r with
  | cons rx rr =>
    cases rr with
    | cons rt rr =>
      cases rr
      cases rx
      have ec := hcv _ rt
      subst ec
      obtain ⟨ox, od, J, _⟩ := kept_get I.hok ea hd
      exact PySem.W.kia_one (err_kit C) I.kIn ⟨ox, od, J⟩ e (fun z => nomatch z) fun tk => ⟨.bl b, H, I.kept (t' := tk) fun _ _ z => z, rfl, q⟩
/-- e.f of a kept error -/
def tKf (K : PySem.W.Frag) (f : Str) (te : TE) : TE := fun σ H Q => te σ H fun x H1 => ∃ (a D dd : Addr) (fs : List (Str × V)) (v : V), x = .ref a ∧ H1 a = some (keO a (.ref D) (some dd)) ∧ H1 dd = some (.xd fs) ∧ XfC K D ∧ PySem.W.findIn K (.ref D) f = some none ∧ fs.lookup f = some v ∧ Q v H1
theorem pe_kf {X : Cx} {K : PySem.W.Frag} {e : Expr} {te : TE} {pos : Pos} {n : Str} (he : PE X e te) (hk : X.K = K := by rfl) (hb : attributeBase e n X.env (eval e X.env) = eval e X.env := by rfl) : PE X (.Attribute e n pos) (tKf K n te) := by
  subst hk
  refine ⟨fun pins s σ H Q I h => ?_⟩
  refine attr_of hb (thn (he.run pins s σ H _ I h) fun u s1 hh => ?_)
  obtain ⟨x, H1, I1, rx, a, D, dd, fs, v, rfl, ea, ed, T, hno, l, q⟩ := hh
  obtain rfl : u = Value.ref a := rx
  obtain ⟨ox, od, J, r⟩ := kept_get I1.hok ea (fun d2 e2 => ⟨fs, by cases e2; exact ed⟩)
  obtain ⟨o, mA, rfl, hns, ho, hr⟩ := r dd fs rfl ed
  obtain ⟨o2, ho2, hl⟩ := lookIn_ns hns
  rw [ho] at ho2
  cases ho2
  obtain ⟨u, hu, ru⟩ := RelO.some_of (v := v) (o := mA n) (by rw [← l]; exact hr n)
  exact HandSPX.exc_get I1.kIn J T.ga T.gg T.exC (PySem.W.findObj_own T.hdC hno rfl (by rw [hl, hu])) (handed_of ru) ⟨v, H1, I1.tok _, ru, q⟩
/-- isinstance(e, c) and isinstance(e, (c1, c2)) of the error that a suite holds -/
def isWhat (K : PySem.W.Frag) (D : Addr) (c : V) (H : Hp) (b : Bool) : Prop :=
  (∃ cv : Value, (∀ u, RelV c u → u = cv) ∧ PySem.W.kitOne K (.ref D) cv = some b) ∨ ∃ (p : Addr) (C1 C2 : Addr) (b1 b2 : Bool), c = .ref p ∧ H p = some (.tup [.ref C1, .ref C2]) ∧ PySem.W.kitOne K (.ref D) (.ref C1) = some b1 ∧ PySem.W.kitOne K (.ref D) (.ref C2) = some b2 ∧ b = (b1 || b2)
theorem isWhat_run {P : Program} {w : World} {K : PySem.W.Frag} {H : Hp} {s : Shared} {a D : Addr} {c : V} {cv : Value} {b : Bool} {A : Around} {Q : Value → Shared → Prop} {E : Value → Shared → Prop} (C : ExcC K D) (kin : K.In s.heap) (ok : HOk P w H s.heap) (J : ∃ ox od, PySem.W.InstAt s.heap a ox D od)
    (r : RelV c cv) (h : isWhat K D c H b) (q : ∀ tk, Q (.bool b) { s with toks := tk }) : wpAny (model P w) A (call (.builtin "isinstance") [.ref a, cv]) Q E s := by
  rcases h with ⟨u, hu, e⟩ | ⟨p, C1, C2, b1, b2, rfl, hp, e1, e2, rfl⟩
  · have e0 := hu _ r
    subst e0
    exact PySem.W.kia_one (err_kit C) kin J e (fun z => nomatch z) q
  · obtain rfl : cv = Value.ref p := r
    obtain ⟨_, its, rv, ob, ho, hc, hd⟩ := ok p _ hp
    cases rv with
    | cons r1 rr =>
      cases rr with
      | cons r2 rr =>
        cases rr
        cases r1
        cases r2
        obtain ⟨c0, d0, da, sl⟩ := ob
        obtain ⟨n, hd⟩ := hd
        dsimp only at hc hd
        subst hc hd
        refine PySem.W.kia_tup (err_kit C) kin J ho (b := (b1 || b2)) ?_ (fun z => nomatch z) q
        unfold PySem.W.kitAny
        rw [e1]
        cases b1 with
        | true => rfl
        | false =>
          show PySem.W.kitAny K (.ref D) [.ref C2] = _
          unfold PySem.W.kitAny
          rw [e2]
          cases b2 <;> rfl
def rIsS (K : PySem.W.Frag) (cls : Value) (d : Option Addr) (a : Addr) : List V → Hp → VK → Prop := fun xs H Q => ∃ (D : Addr) (c : V) (b : Bool), cls = .ref D ∧ dictAt H d ∧ ExcC K D ∧ xs = [.ref a, c] ∧ isWhat K D c H b ∧ Q (.bl b) H
theorem cl_isS {X : Cx} {K : PySem.W.Frag} {a : Addr} {oe : Obj} {pn : List (Addr × Obj)} {cls : Value} {d : Option Addr} (hz : Zc cls d oe) (hf : ∃ vs, oe.data = .fields vs) (hk : X.K = K := by rfl) : CallR (X.suite a ((a, oe) :: pn)) (.builtin "isinstance") (rIsS K cls d a) := by
  subst hk
  intro pins s σ H xs us Q I r h
  obtain ⟨D, c, b, rfl, hd, C, rfl, hw, q⟩ := h
  cases r with
  | cons rx rr =>
    cases rr with
    | cons rt rr =>
      cases rr
      cases rx
      obtain ⟨hget, _⟩ := I.pin (a, oe) (List.mem_append.mpr (.inl List.mem_cons_self))
      obtain ⟨vs, hv⟩ := hf
      have no : PySem.W.notCls oe = true := by unfold PySem.W.notCls; rw [hv]
      have J : ∃ ox od, PySem.W.InstAt s.heap a ox D od := by
        cases d with
        | none => exact ⟨oe, none, hget, hz.1, no, by rw [hz.2]; trivial⟩
        | some dd =>
          obtain ⟨fs, e⟩ := hd dd rfl
          obtain ⟨mA, hns, hr⟩ := I.hok dd _ e
          obtain ⟨o, ho, hl⟩ := lookIn_ns hns
          exact ⟨oe, some o, hget, hz.1, no, by rw [hz.2]; exact ho⟩
      exact isWhat_run C I.kIn I.hok J rt hw fun tk => ⟨.bl b, H, I.kept (t' := tk) fun _ _ z => z, rfl, q⟩
/-- a class of the text as a value -/
theorem pe_cls {X : Cx} {x : Str} {pos : Pos} {a : Addr} (hg : Gl X x) (hm : X.mg x = some (.ref a)) (hd : (x == ("__debug__" : Str)) = false := by decide) : PE X (.Name x pos) (tC (.ref a)) := pe_glob hg hm rfl hd
theorem isWhat_one {K : PySem.W.Frag} {D C : Addr} {H : Hp} {b : Bool} (e : PySem.W.kitOne K (.ref D) (.ref C) = some b) : isWhat K D (.ref C) H b := .inl ⟨.ref C, fun u r => r, e⟩
theorem isWhat_ty {K : PySem.W.Frag} {D : Addr} {n : String} {H : Hp} {b : Bool} (e : PySem.W.kitOne K (.ref D) (.type n) = some b) : isWhat K D (.ty n) H b := .inl ⟨.type n, fun u r => r, e⟩
theorem isWhat_two {K : PySem.W.Frag} {D C1 C2 p : Addr} {H : Hp} {b1 b2 : Bool} (hp : H p = some (.tup [.ref C1, .ref C2])) (e1 : PySem.W.kitOne K (.ref D) (.ref C1) = some b1) (e2 : PySem.W.kitOne K (.ref D) (.ref C2) = some b2) : isWhat K D (.ref p) H (b1 || b2) :=
  .inr ⟨p, C1, C2, b1, b2, rfl, hp, e1, e2, rfl⟩
theorem kit_of {K : PySem.W.Frag} {D C : Addr} {b : Bool} (hc : PySem.W.isClsIn K C = true) (ht : PySem.W.typeIn K (.ref C) = some (.type "type")) (hs : PySem.W.subIn K (.ref D) (.ref C) = some b) (hr : D = C → b = true) : PySem.W.kitOne K (.ref D) (.ref C) = some b := by
  unfold PySem.W.kitOne
  by_cases e : D = C
  · subst e
    rw [if_pos (by simp), hr rfl]
  · rw [if_neg (fun z => e (Value.ref.inj (beq_iff_eq.mp z)))]
    have hc' : (PySem.W.clsIn K C).isSome = true := hc
    unfold PySem.W.kitCls
    dsimp only
    rw [if_pos (by rw [hc', ht] <;> rfl)]
    exact hs
theorem kit_ty {K : PySem.W.Frag} {D : Addr} {n : String} {b : Bool} (hm : PySem.W.kitMeta n = true) (hs : PySem.W.subIn K (.ref D) (.type n) = some b) : PySem.W.kitOne K (.ref D) (.type n) = some b := by
  unfold PySem.W.kitOne
  rw [if_neg (fun z => by have := beq_iff_eq.mp z; cases this)]
  unfold PySem.W.kitCls
  dsimp only
  rw [if_pos hm]
  exact hs
def rKf (K : PySem.W.Frag) (f : Str) (x : V) (H1 : Hp) (Q : VK) : Prop := ∃ (a D dd : Addr) (fs : List (Str × V)) (v : V), x = .ref a ∧ H1 a = some (keO a (.ref D) (some dd)) ∧ H1 dd = some (.xd fs) ∧ XfC K D ∧ PySem.W.findIn K (.ref D) f = some none ∧ fs.lookup f = some v ∧ Q v H1
theorem w_kf {K : PySem.W.Frag} {σ : L2.St} {H : Hp} {Q : VK} {f : Str} {te : TE} (h : te σ H fun x H1 => rKf K f x H1 Q) : tKf K f te σ H Q := h
/-- an error that was just kept -/
theorem kept_new {H : Hp} {e D d : Addr} {fs : List (Str × V)} (he : H e = none) (hd : H d = some (.xd fs)) : let H2 := upd H e (keO e (.ref D) (some d)); H2 e = some (keO e (.ref D) (some d)) ∧ Same H H2 ∧ H2 d = some (.xd fs) ∧ dictAt H2 (some d) := by
  have e2 : Same H (upd H e (keO e (.ref D) (some d))) := same_new he
  exact ⟨upd_same, e2, e2 _ _ hd, fun dd z => by cases z; exact ⟨_, e2 _ _ hd⟩⟩
theorem kept_new0 {H : Hp} {e D : Addr} (he : H e = none) : let H2 := upd H e (keO e (.ref D) none); H2 e = some (keO e (.ref D) none) ∧ Same H H2 ∧ dictAt H2 none := ⟨upd_same, same_new he, fun dd z => nomatch z⟩
end Tw
namespace Tw
open PySem PySem.Spec PyProof.Rows L2
def rInT (K : PySem.W.Frag) : R2 := fun x y H Q => ∃ d ds, Dp K H x d ∧ Dp K H y (.tuple ds) ∧ SeqAt.shaped d = true ∧ SeqAt.shaped (.tuple ds) = true ∧ Q (.bl (ds.any fun z => PyData.eqv z d)) H
def rNotInT (K : PySem.W.Frag) : R2 := fun x y H Q => ∃ d ds, Dp K H x d ∧ Dp K H y (.tuple ds) ∧ SeqAt.shaped d = true ∧ SeqAt.shaped (.tuple ds) = true ∧ Q (.bl (!(ds.any fun z => PyData.eqv z d))) H
theorem op_inT {X : Cx} {K : PySem.W.Frag} (hu : X.A.units + 65 < cLine) (hK : X.K = K := by rfl) : OpR X (compareOp .In) (rInT K) := by
  subst hK
  intro pins s σ H x y v u Q I rx ry h
  obtain ⟨d, ds, h1, h2, h3, h4, q⟩ := h
  obtain ⟨as, r1⟩ := L2.Dp.reads I d x v h1 rx
  obtain ⟨bs, r2⟩ := L2.Dp.reads I _ y u h2 ry
  refine SeqAt.in_tuple_reads r2 r1 (SeqAt.canLay_of_shaped h4) (SeqAt.canLay_of_shaped h3) (room_in_shaped h3 hu) ?_
  exact ⟨.bl _, H, I, rfl, q⟩
theorem op_notInT {X : Cx} {K : PySem.W.Frag} (hu : X.A.units + 65 < cLine) (hK : X.K = K := by rfl) : OpR X (compareOp .NotIn) (rNotInT K) := by
  subst hK
  intro pins s σ H x y v u Q I rx ry h
  obtain ⟨d, ds, h1, h2, h3, h4, q⟩ := h
  obtain ⟨as, r1⟩ := L2.Dp.reads I d x v h1 rx
  obtain ⟨bs, r2⟩ := L2.Dp.reads I _ y u h2 ry
  refine SeqAt.notIn_tuple_reads r2 r1 (SeqAt.canLay_of_shaped h4) (SeqAt.canLay_of_shaped h3) (room_in_shaped h3 hu) ?_
  exact ⟨.bl _, H, I, rfl, q⟩
section
variable {K : PySem.W.Frag} {H : Hp} {Q : VK} {x y : V} {d : PyData} {ds : List PyData}
/-- x in y, y a tuple of data without bools -/
theorem w_inT (h1 : Dp K H x d) (h2 : Dp K H y (.tuple ds)) (p1 : pln 8 d = true) (p2 : pln 9 (.tuple ds) = true) (q1 : d ∈ ds → Q (.bl true) H) (q2 : d ∉ ds → Q (.bl false) H) : rInT K x y H Q := by
  have hs : ∀ z ∈ ds, pln 8 z = true := List.all_eq_true.mp p2
  have e := any_eqv p1 hs
  refine ⟨d, ds, h1, h2, pln_shaped p1 (by decide), pln_shaped p2 (by decide), ?_⟩
  cases hc : ds.any fun z => PyData.eqv z d with
  | true => exact q1 (e.mp hc)
  | false => exact q2 fun z => by rw [e.mpr z] at hc; cases hc
theorem w_notInT (h1 : Dp K H x d) (h2 : Dp K H y (.tuple ds)) (p1 : pln 8 d = true) (p2 : pln 9 (.tuple ds) = true) (q1 : d ∈ ds → Q (.bl false) H) (q2 : d ∉ ds → Q (.bl true) H) : rNotInT K x y H Q := by
  have hs : ∀ z ∈ ds, pln 8 z = true := List.all_eq_true.mp p2
  have e := any_eqv p1 hs
  refine ⟨d, ds, h1, h2, pln_shaped p1 (by decide), pln_shaped p2 (by decide), ?_⟩
  cases hc : ds.any fun z => PyData.eqv z d with
  | true => exact q1 (e.mp hc)
  | false => exact q2 fun z => by rw [e.mpr z] at hc; cases hc
end
end Tw
namespace Tw
open PySem PySem.Spec PyProof.Rows L2
/-! ### more rules: any, all, two fors in a comprehension -/
section
variable {X : Cx} {K : PySem.W.Frag}
def rAnyK (K : PySem.W.Frag) : List V → Hp → VK → Prop := fun vs H Q => ∃ a, ∃ bs : List Bool, vs = [.ref a] ∧ SqL K H a (bs.map V.bl) ∧ Q (.bl (bs.any id)) H
theorem cl_any (hc : X.calm = true) (h : X.K = K := by rfl) : CallR X (.builtin "any") (rAnyK K) := h ▸ cr_any hc
def rAllK (K : PySem.W.Frag) : List V → Hp → VK → Prop := fun vs H Q => ∃ a, ∃ bs : List Bool, vs = [.ref a] ∧ SqL K H a (bs.map V.bl) ∧ Q (.bl (bs.all id)) H
theorem cl_all (hc : X.calm = true) (h : X.K = K := by rfl) : CallR X (.builtin "all") (rAllK K) := h ▸ cr_all hc
def rSumK (K : PySem.W.Frag) : List V → Hp → VK → Prop := fun vs H Q => ∃ a, ∃ ns : List Int, vs = [.ref a] ∧ SqL K H a (ns.map V.int) ∧ Q (.int ns.sum) H
theorem cl_sum (hc : X.calm = true) (h : X.K = K := by rfl) : CallR X (.builtin "sum") (rSumK K) := h ▸ cr_sum hc
end
section
variable {K : PySem.W.Frag} {σ : L2.St} {H H1 : Hp} {Q : VK} {x v : V} {ds : List PyData} {j j1 : Nat} {vs vs1 : List Nat} {tl ts te : TE}
theorem dpa_bools : ∀ (ns : List Bool), DpAll K H (ns.map V.bl) (ns.map PyData.bool)
  | [] => .nil
  | n :: ns => .cons (.bl n) (dpa_bools ns)
theorem dpa_bools_inv : ∀ {vs : List V} {ns : List Bool}, DpAll K H vs (ns.map PyData.bool) → vs = ns.map V.bl
  | _, [], h => by cases h; rfl
  | _, n :: ns, h => by
    cases h with
    | cons h1 h2 => cases h1; rw [dpa_bools_inv h2]; rfl
theorem w_any {bs : List Bool} (h : Dp K H v (.list (bs.map PyData.bool))) (q : Q (.bl (bs.any id)) H) : rAnyK K [v] H Q := by
  obtain ⟨a, xs, rfl, hs, ha⟩ := dp_lst h
  rw [dpa_bools_inv ha] at hs
  exact ⟨a, bs, rfl, hs, q⟩
theorem w_all {bs : List Bool} (h : Dp K H v (.list (bs.map PyData.bool))) (q : Q (.bl (bs.all id)) H) : rAllK K [v] H Q := by
  obtain ⟨a, xs, rfl, hs, ha⟩ := dp_lst h
  rw [dpa_bools_inv ha] at hs
  exact ⟨a, bs, rfl, hs, q⟩
theorem w_sum {ns : List Int} (h : Dp K H v (.list (ns.map PyData.int))) (q : Q (.int ns.sum) H) : rSumK K [v] H Q := by
  obtain ⟨a, xs, rfl, hs, ha⟩ := dp_lst h
  rw [dpa_ints_inv ha] at hs
  exact ⟨a, ns, rfl, hs, q⟩
/-- [e for x in a list for c in a text] -/
def rLc2 (K : PySem.W.Frag) (j j1 : Nat) (ts te : TE) (vs vs1 : List Nat) (σ : L2.St) (x : V) (H1 : Hp) (Q : VK) : Prop :=
  tLc2 (iList K (tC x)) (gName j) tYes (iStr ts) (gName j1) tYes te vs vs1 σ H1 Q
theorem w_lc2 (h : tl σ H fun x H1 => rLc2 K j j1 ts te vs vs1 σ x H1 Q) : tLc2 (iList K tl) (gName j) tYes (iStr ts) (gName j1) tYes te vs vs1 σ H Q := h
/-- a comprehension's turn over data: what one turn makes -/
theorem lc2_by (f : PyData → Nat → PyData) (cs : List Nat) (src : Dp K H1 x (.list ds)) (hz : ds.length * cs.length ≤ 1000000)
    (hf : ∀ d ∈ ds, ∀ c ∈ cs, noL (f d c) = true)
    (hw : ∀ x, wipe ((wipe σ vs).set j (some x)) vs = wipe σ vs) (hw1 : ∀ x y, wipe ((wipe ((wipe σ vs).set j (some x)) vs1).set j1 (some y)) vs1 = wipe ((wipe σ vs).set j (some x)) vs1)
    (text : ∀ y d H', d ∈ ds → Dp K H' y d → ∀ R : VK, R (.str (Sg cs)) H' → ts ((wipe σ vs).set j (some y)) H' R)
    (turn : ∀ y d c H', d ∈ ds → c ∈ cs → Dp K H' y d → ∀ R : VK, (∀ z H4, Same H' H4 → Dp K H4 z (f d c) → R z H4) → te ((wipe ((wipe σ vs).set j (some y)) vs1).set j1 (some (.str (Sg [c])))) H' R)
    (done : ∀ p H' ws, H1 p = none → Same H1 H' → H' p = some (.lst ws) → Dp K H' (.ref p) (.list (ds.flatMap fun d => cs.map (f d))) → Q (.ref p) H') : rLc2 K j j1 ts te vs vs1 σ x H1 Q := by
  obtain ⟨a, xs, rfl, hs, ha⟩ := dp_lst src
  have hl := dpa_len ha
  have hline : sizeLine = 16777216 := sizeLine_eq
  have nof : ∀ (es : List PyData), (∀ d ∈ es, noL d = true) → noLs es = true := by
    intro es
    induction es with
    | nil => intro _; rfl
    | cons e es ih => intro h; simp only [noLs, Bool.and_eq_true]; exact ⟨h e List.mem_cons_self, ih fun d hd => h d (List.mem_cons_of_mem _ hd)⟩
  have fml : ∀ es : List PyData, (es.flatMap fun d => cs.map (f d)).length = es.length * cs.length := by
    intro es
    induction es with
    | nil => simp
    | cons e es ih => rw [List.flatMap_cons, List.length_append, ih, List.length_map, List.length_cons, Nat.succ_mul]; omega
  have nol : ∀ (i : Nat), noLs ((ds.take i).flatMap fun d => cs.map (f d)) = true := fun i => nof _ fun e he => by
    obtain ⟨d, hd, he⟩ := List.mem_flatMap.mp he
    obtain ⟨c, hc, rfl⟩ := List.mem_map.mp he
    exact hf d (List.mem_of_mem_take hd) c hc
  refine ⟨a, rfl, ⟨xs, hs⟩, fun D hD => ?_⟩
  refine ⟨fun i m H' => m = xs.length - i ∧ i ≤ xs.length ∧ Same H1 H' ∧ ∃ ws, H' D = some (.lst ws) ∧ DpAll K H' ws ((ds.take i).flatMap fun d => cs.map (f d)), ⟨xs.length, by simp, Nat.zero_le _, same_new hD, [], upd_same, by simp; exact .nil⟩, ?_⟩
  rintro i m H' ⟨rfl, hi, k1, ws, e1, d1⟩
  have q := k1.seq hs
  by_cases hlt : i < xs.length
  · refine .inr ⟨⟨xs, xs[i], q, by simp [hlt]⟩, fun H2 => Same H1 H2 ∧ ∃ ws, H2 D = some (.lst ws) ∧ DpAll K H2 ws ((ds.take (i + 1)).flatMap fun d => cs.map (f d)), fun H2 p => ⟨xs.length - (i + 1), by omega, rfl, hlt, p⟩, fun y H2 hy => ?_⟩
    obtain ⟨rfl, hy⟩ := hy
    have hyi := hy xs q
    obtain ⟨d, ed, dy0⟩ := dpa_get2 ha hyi
    have hdm : d ∈ ds := List.mem_of_getElem? ed
    have ht : ds.take (i + 1) = ds.take i ++ [d] := by rw [List.take_add_one, ed]; rfl
    refine ⟨hw y, ?_⟩
    refine text y d H2 hdm (dp_same k1 dy0) _ ⟨Sg cs, rfl, ?_⟩
    refine ⟨fun jj k H3 => k = cs.length - jj ∧ jj ≤ cs.length ∧ Same H1 H3 ∧ ∃ ws, H3 D = some (.lst ws) ∧ DpAll K H3 ws (((ds.take i).flatMap fun d => cs.map (f d)) ++ (cs.take jj).map (f d)), ⟨cs.length, by simp, Nat.zero_le _, k1, ws, e1, by simpa using d1⟩, ?_⟩
    rintro jj k H3 ⟨rfl, hj, k3, ws3, e3, d3⟩
    by_cases hjl : jj < cs.length
    · have hc : cs[jj]? = some cs[jj] := by simp [hjl]
      have htc : cs.take (jj + 1) = cs.take jj ++ [cs[jj]] := by rw [List.take_add_one, hc]; rfl
      refine .inr ⟨by show jj < (Sg cs).cps.size; simpa [Sg] using hjl, fun H4 => Same H1 H4 ∧ ∃ ws, H4 D = some (.lst ws) ∧ DpAll K H4 ws (((ds.take i).flatMap fun d => cs.map (f d)) ++ (cs.take (jj + 1)).map (f d)), fun H4 p => ⟨cs.length - (jj + 1), by omega, rfl, hjl, p⟩, fun z H4 hz4 => ?_⟩
      obtain ⟨rfl, c, hc4, rfl⟩ := hz4
      have hcc : c = cs[jj] := by simpa [Sg, hjl] using hc4.symm
      subst hcc
      refine ⟨hw1 _ _, ?_⟩
      refine turn y d cs[jj] H4 hdm (List.getElem_mem hjl) (dp_same k3 dy0) _ fun z H5 k5 d5 => ?_
      have e5 := k5 _ _ e3
      have len3 := dpa_len d3
      have le1 : (((ds.take i).flatMap fun d => cs.map (f d)) ++ (cs.take jj).map (f d)).length ≤ ds.length * cs.length := by
        rw [List.length_append, fml, List.length_map, List.length_take, List.length_take]
        have : min i ds.length + 1 ≤ ds.length := by omega
        have := Nat.mul_le_mul_right cs.length this
        rw [Nat.succ_mul] at this
        omega
      have no3 : noLs (((ds.take i).flatMap fun d => cs.map (f d)) ++ (cs.take jj).map (f d)) = true := noLs_app (nol i) (nof _ fun e he => by
        obtain ⟨c, hc, rfl⟩ := List.mem_map.mp he
        exact hf d hdm c (List.mem_of_mem_take hc))
      refine ⟨ws3, e5, by omega, same_mut (k3.trans k5) hD, _, upd_same, ?_⟩
      rw [htc, List.map_append, ← List.append_assoc]
      exact dpa_app (dpa_upd e5 _ _ no3 (dpa_same k5 d3)) (dpa_one (dp_upd e5 _ _ (hf d hdm _ (List.getElem_mem hjl)) d5))
    · have : jj = cs.length := by omega
      subst this
      refine .inl ⟨by show (Sg cs).cps.size ≤ cs.length; simp [Sg], k3, ws3, e3, ?_⟩
      rw [ht, List.flatMap_append]
      simpa using d3
  · have e : i = xs.length := by omega
    subst e
    refine .inl ⟨⟨xs, q, Nat.le_refl _⟩, done D H' ws hD k1 e1 (dp_newL e1 ?_)⟩
    rw [hl, List.take_length] at d1
    exact d1
/-- [e for c in a text] -/
def rLcS (j : Nat) (tt : TT) (te : TE) (vs : List Nat) (σ : L2.St) (x : V) (H1 : Hp) (Q : VK) : Prop := tLc (iStr (tC x)) (gName j) tt te vs σ H1 Q
theorem w_lcS {tt : TT} (h : ts σ H fun x H1 => rLcS j tt te vs σ x H1 Q) : tLc (iStr ts) (gName j) tt te vs σ H Q := h
theorem lc_str_by {tt : TT} {l : List Nat} (J : Nat → List PyData → Hp → Prop) (lj : LcJ H1 J) (hz : l.length ≤ 1000000) (hw : ∀ x, wipe ((wipe σ vs).set j (some x)) vs = wipe σ vs)
    (turn : ∀ i c H' es, l[i]? = some c → J i es H' → LcTurn K J tt te ((wipe σ vs).set j (some (.str (Sg [c])))) i es H')
    (done : ∀ p H' ws es, H1 p = none → Keep H1 H' → H' p = some (.lst ws) → Dp K H' (.ref p) (.list es) → J l.length es H' → Q (.ref p) H') : rLcS j tt te vs σ (.str (Sg l)) H1 Q := by
  refine ⟨Sg l, rfl, fun D hD => ?_⟩
  refine ⟨fun i m H' => m = l.length - i ∧ i ≤ l.length ∧ LcP K J D i H', ⟨l.length, by simp, Nat.zero_le _, [], [], upd_same, .nil, rfl, Nat.le_refl _, lj.start D hD⟩, ?_⟩
  rintro i m H' ⟨rfl, hi, p⟩
  by_cases hlt : i < l.length
  · refine .inr ⟨by show i < (Sg l).cps.size; simpa [Sg] using hlt, LcP K J D (i + 1), fun H2 p2 => ⟨l.length - (i + 1), by omega, rfl, hlt, p2⟩, fun x H2 y => ?_⟩
    obtain ⟨rfl, c, hc, rfl⟩ := y
    have hc2 : l[i]? = some c := by simpa [Sg] using hc
    exact ⟨hw _, lc_turn lj hD (by omega) p fun es q => turn i c H2 es hc2 q⟩
  · have e : i = l.length := by omega
    subst e
    obtain ⟨ws, es, p1, p2, p3, p4, p5⟩ := p
    exact .inl ⟨by show (Sg l).cps.size ≤ l.length; simp [Sg], done D H' ws es hD (lj.keep _ _ _ p5) p1 (dp_newL p1 p2) p5⟩
end
end Tw
namespace Tw
open PySem PySem.Spec PyProof.Rows L2
/-! ### the next unlike number, reckoned -/
def nxt (l : List Nat) (m : Nat) : Nat :=
  match (List.range l.length).find? (fun i => l.getD ((m + i) % l.length) 0 != l.getD (i % l.length) 0) with
  | some i => m + 1 + i
  | none => 0
theorem mk_nat {l : List Nat} (k : Nat) : mk l ((k : Int) + 1) = l.getD (k % l.length) 0 := by
  unfold mk
  congr 1
  rw [show ((k : Int) + 1 - 1) = (k : Int) by omega]
  omega
theorem StarW.pos {l : List Nat} (h : StarW l) : 0 < l.length := by
  obtain ⟨h, _⟩ := h
  exact List.length_pos_iff.mpr h
theorem StarW.ne {l : List Nat} (h : StarW l) : l ≠ [] := h.1
theorem StarW.bad {l : List Nat} (hs : StarW l) {k : Int} (h1 : 1 ≤ k) (h2 : k < l.length) : mk l l.length ≠ mk l (l.length - k) := by
  obtain ⟨hl, e1, e2⟩ := hs
  rw [mk_last hl, e1]
  exact (e2 _ (mk_lt (by omega) (by omega) hl)).symm
theorem un_nxt {l : List Nat} (hs : StarW l) {m : Nat} (h1 : 1 ≤ m) (h2 : m < l.length) : Un l m (some (nxt l m : Int)) ∧ m < nxt l m ∧ nxt l m ≤ l.length := by
  have hp := hs.pos
  have key : ∀ i : Nat, (l.getD ((m + i) % l.length) 0 != l.getD (i % l.length) 0) = decide (mk l ((m : Int) + 1 + i) ≠ mk l (1 + (i : Int))) := by
    intro i
    rw [show (m : Int) + 1 + i = ((m + i : Nat) : Int) + 1 by push_cast; omega, show 1 + (i : Int) = (i : Int) + 1 by omega, mk_nat, mk_nat]
    by_cases z : l.getD ((m + i) % l.length) 0 = l.getD (i % l.length) 0
    · rw [z]; simp
    · rw [show decide (l.getD ((m + i) % l.length) 0 ≠ l.getD (i % l.length) 0) = true from decide_eq_true z]
      exact bne_iff_ne.mpr z
  unfold nxt
  cases hf : (List.range l.length).find? (fun i => l.getD ((m + i) % l.length) 0 != l.getD (i % l.length) 0) with
  | none =>
    rw [List.find?_eq_none] at hf
    have := hf (l.length - m - 1) (List.mem_range.mpr (by omega))
    rw [key, decide_eq_true_eq] at this
    refine absurd ?_ this
    have := hs.bad (k := m) (by omega) (by omega)
    rw [show (m : Int) + 1 + ((l.length - m - 1 : Nat) : Int) = l.length by omega, show 1 + ((l.length - m - 1 : Nat) : Int) = l.length - (m : Int) by omega]
    exact this
  | some i =>
    rw [List.find?_range_eq_some] at hf
    obtain ⟨p, hi, hj⟩ := hf
    rw [List.mem_range] at hi
    rw [key, decide_eq_true_eq] at p
    dsimp only
    have first : ∀ j : Int, (m : Int) < j → j < (m : Int) + 1 + i → mk l j = mk l (j - m) := by
      intro j a b
      have := hj (j - m - 1).toNat (by omega)
      rw [key] at this
      simp only [Bool.not_eq_true', decide_eq_false_iff_not, Decidable.not_not] at this
      rw [show (m : Int) + 1 + ((j - m - 1).toNat : Int) = j by omega, show 1 + ((j - m - 1).toNat : Int) = j - m by omega] at this
      exact this
    have hle : m + 1 + i ≤ l.length := by
      apply Nat.le_of_not_lt
      intro z
      exact hs.bad (k := m) (by omega) (by omega) (first l.length (by omega) (by omega))
    refine ⟨⟨by push_cast; omega, ?_, fun j a b => first j a (by push_cast at b; omega)⟩, by omega, hle⟩
    push_cast
    rw [show (m : Int) + 1 + i - m = 1 + i by omega]
    exact p
theorem un_is {l : List Nat} (hs : StarW l) {m : Nat} (h1 : 1 ≤ m) (h2 : m < l.length) {r : Option Int} (h : Un l m r) : r = some (nxt l m : Int) := h.unique (un_nxt hs h1 h2).1
/-! ### the numbers from one on, reckoned -/
def comes (l : List Nat) (m : Nat) : Nat → Nat → Bool
  | 0, b => b == m
  | f + 1, b => if b < m then comes l m f (nxt l b) else b == m
theorem comes_more {l : List Nat} (hs : StarW l) {m : Nat} (hm : m < l.length) : ∀ (f g b : Nat), 1 ≤ b → m ≤ b + f → m ≤ b + g → comes l m f b = comes l m g b := by
  intro f
  induction f with
  | zero =>
    intro g b h1 h2 h3
    cases g with
    | zero => rfl
    | succ g => simp only [comes]; rw [if_neg (by omega)]
  | succ f ih =>
    intro g b h1 h2 h3
    cases g with
    | zero => simp only [comes]; rw [if_neg (by omega)]
    | succ g =>
      simp only [comes]
      by_cases h : b < m
      · rw [if_pos h, if_pos h]
        have := un_nxt hs h1 (by omega)
        exact ih g _ (by omega) (by omega) (by omega)
      · rw [if_neg h, if_neg h]
/-- whether m comes, from b on -/
def comesBy (l : List Nat) (b m : Nat) : Bool := comes l m m b
theorem comesBy_step {l : List Nat} (hs : StarW l) {b m : Nat} (hm : m < l.length) (h1 : 1 ≤ b) (h : b < m) : comesBy l b m = comesBy l (nxt l b) m := by
  obtain ⟨k, rfl⟩ : ∃ k, m = k + 1 := ⟨m - 1, by omega⟩
  unfold comesBy
  rw [show comes l (k + 1) (k + 1) b = comes l (k + 1) k (nxt l b) by rw [comes, if_pos h]]
  have := un_nxt hs h1 (by omega)
  exact comes_more hs hm _ _ _ (by omega) (by omega) (by omega)
theorem comesBy_end {l : List Nat} {b m : Nat} (h : m ≤ b) : comesBy l b m = (b == m) := by
  unfold comesBy
  cases m with
  | zero => rfl
  | succ k => rw [comes, if_neg (by omega)]
theorem chn_comes {l : List Nat} (hs : StarW l) {m : Nat} (hm : m < l.length) {o : Option Int} {ns : List Int} (h : Chn l m o ns) : ∀ b : Nat, 1 ≤ b → o = some (b : Int) → ((m : Int) ∈ ns ↔ comesBy l b m = true) := by
  induction h with
  | no => intro b _ e; cases e
  | stop hk =>
    intro b h1 e
    cases e
    rw [comesBy_end (by omega)]
    simp
    omega
  | @go k r ns hk hu hc ih =>
    intro b h1 e
    cases e
    have hr := un_is hs h1 (by omega) hu
    subst hr
    have n1 := un_nxt hs h1 (by omega)
    by_cases hb : b < m
    · rw [comesBy_step hs hm h1 hb, ← ih _ (by omega) rfl, List.mem_cons]
      constructor
      · rintro (h | h)
        · omega
        · exact h
      · exact .inr
    · rw [comesBy_end (by omega)]
      have : b = m := by omega
      subst this
      simp
/-! ### the numbers at which a word fails -/
def fails (l : List Nat) (m : Nat) : Bool :=
  !((List.range (m - 1)).any fun i => m % (i + 1) == 0 && decide (m < nxt l (i + 1))) && comesBy l ((nxt l m - 1) % m + 1) m
def failAt (l : List Nat) (m : Nat) : Bool := !comesBy l 1 m && fails l m
def failO (l : List Nat) : Option Nat := ((List.range (l.length - 1)).find? fun i => failAt l (i + 1)).map (· + 1)
def fo (l : List Nat) : Option Int := (failO l).map fun (n : Nat) => (n : Int)
/-- the first number found is the one -/
theorem failO_first {l : List Nat} {m : Nat} (h1 : 1 ≤ m) (h2 : m < l.length) (h : failAt l m = true) (hb : ∀ j, 1 ≤ j → j < m → failAt l j = false) : fo l = some (m : Int) := by
  unfold fo failO
  have : (List.range (l.length - 1)).find? (fun i => failAt l (i + 1)) = some (m - 1) := by
    rw [List.find?_range_eq_some]
    refine ⟨by rw [show m - 1 + 1 = m by omega]; exact h, List.mem_range.mpr (by omega), fun j hj => by rw [hb _ (by omega) (by omega)]; rfl⟩
  rw [this]
  simp
  omega
theorem failO_none {l : List Nat} (h : ∀ j, 1 ≤ j → j < l.length → failAt l j = false) : fo l = none := by
  unfold fo failO
  have : (List.range (l.length - 1)).find? (fun i => failAt l (i + 1)) = none := by
    rw [List.find?_eq_none]
    intro i hi
    rw [List.mem_range] at hi
    rw [h _ (by omega) (by omega)]
    exact Bool.false_ne_true
  rw [this]
  rfl
theorem chn_addr {l : List Nat} (hs : StarW l) {m : Nat} (h1 : 1 ≤ m) (hm : m < l.length) {ns : List Int} (h : Chn l l.length (some 1) ns) : (m : Int) ∈ ns ↔ comesBy l 1 m = true := by
  have gen : ∀ {o : Option Int} {ns : List Int}, Chn l l.length o ns → ∀ b : Nat, 1 ≤ b → o = some (b : Int) → ((m : Int) ∈ ns ↔ comesBy l b m = true) := by
    intro o ns h
    induction h with
    | no => intro b _ e; cases e
    | stop hk =>
      intro b h1 e
      cases e
      rw [comesBy_end (by omega)]
      simp
      omega
    | @go k r ns hk hu hc ih =>
      intro b h1 e
      cases e
      by_cases hb : b < m
      · have hr := un_is hs h1 (by omega) hu
        subst hr
        have n1 := un_nxt hs h1 (by omega)
        rw [comesBy_step hs hm h1 hb, ← ih _ (by omega) rfl, List.mem_cons]
        constructor
        · rintro (h | h)
          · omega
          · exact h
        · exact .inr
      · rw [comesBy_end (by omega), List.mem_cons]
        constructor
        · rintro (h | h)
          · have : b = m := by omega
            subst this; simp
          · have : b < m ∨ b = m ∨ m < b := by omega
            rcases this with z | z | z
            · omega
            · subst z; simp
            · exfalso
              cases r with
              | none => cases hc; cases h
              | some k2 => have := hc.gt k2 rfl _ h; have := hu.1; omega
        · intro h
          left
          have : b = m := by simpa using h
          omega
  exact gen h 1 (by omega) rfl
/-! ### all words of a few marks -/
def bits : Nat → List (List Nat)
  | 0 => [[]]
  | n + 1 => (bits n).flatMap fun s => [48 :: s, 49 :: s]
theorem mem_bits : ∀ (s : List Nat), (∀ x ∈ s, x = 48 ∨ x = 49) → s ∈ bits s.length := by
  intro s
  induction s with
  | nil => intro _; simp [bits]
  | cons x s ih =>
    intro h
    rw [List.length_cons, bits, List.mem_flatMap]
    refine ⟨s, ih fun y hy => h y (List.mem_cons_of_mem _ hy), ?_⟩
    rcases h x List.mem_cons_self with rfl | rfl <;> simp
/-- a word of the drawing: the star alone, or "1", some digits and the star -/
def WordW (l : List Nat) : Prop := l = [42] ∨ ∃ s : List Nat, l = 49 :: (s ++ [42]) ∧ ∀ x ∈ s, x = 48 ∨ x = 49
theorem WordW.star {l : List Nat} (h : WordW l) : StarW l := by
  rcases h with rfl | ⟨s, rfl, hs⟩
  · exact ⟨by simp, rfl, by simp⟩
  · exact starW_mk (pre := 49 :: s) (fun c hc => by
      rcases List.mem_cons.mp hc with rfl | hc
      · omega
      · have := hs c hc; omega)
/-- all words of at most so many marks -/
def wordsTo (n : Nat) : List (List Nat) := [42] :: (List.range (n - 1)).flatMap fun k => (bits k).map fun s => 49 :: (s ++ [42])
theorem mem_wordsTo {n : Nat} {l : List Nat} (h : WordW l) (hl : l.length ≤ n) : l ∈ wordsTo n := by
  rcases h with rfl | ⟨s, rfl, hs⟩
  · exact List.mem_cons_self
  · refine List.mem_cons_of_mem _ (List.mem_flatMap.mpr ⟨s.length, List.mem_range.mpr (by simp at hl; omega), List.mem_map.mpr ⟨s, mem_bits s hs, rfl⟩⟩)
/-! ### the upper mark, words copied -/
def nxO (l : List Nat) (m : Nat) : Option Nat :=
  ((List.range l.length).find? (fun i => l.getD ((m + i) % l.length) 0 != l.getD (i % l.length) 0)).map (m + 1 + ·)
theorem un_nxO {l : List Nat} (hl : l ≠ []) {m : Nat} (h1 : 1 ≤ m) : Un l m ((nxO l m).map fun (n : Nat) => (n : Int)) := by
  have hp : 0 < l.length := List.length_pos_iff.mpr hl
  have key : ∀ i : Nat, (l.getD ((m + i) % l.length) 0 != l.getD (i % l.length) 0) = decide (mk l ((m : Int) + 1 + i) ≠ mk l (1 + (i : Int))) := by
    intro i
    rw [show (m : Int) + 1 + i = ((m + i : Nat) : Int) + 1 by push_cast; omega, show 1 + (i : Int) = (i : Int) + 1 by omega, mk_nat, mk_nat]
    by_cases z : l.getD ((m + i) % l.length) 0 = l.getD (i % l.length) 0
    · rw [z]; simp
    · rw [show decide (l.getD ((m + i) % l.length) 0 ≠ l.getD (i % l.length) 0) = true from decide_eq_true z]
      exact bne_iff_ne.mpr z
  unfold nxO
  cases hf : (List.range l.length).find? (fun i => l.getD ((m + i) % l.length) 0 != l.getD (i % l.length) 0) with
  | none =>
    rw [List.find?_eq_none] at hf
    refine scan_none hl fun j a b => ?_
    have := hf (j - m - 1).toNat (List.mem_range.mpr (by omega))
    rw [key] at this
    simp only [decide_eq_true_eq, Decidable.not_not] at this
    rw [show (m : Int) + 1 + ((j - m - 1).toNat : Int) = j by omega, show 1 + ((j - m - 1).toNat : Int) = j - m by omega] at this
    exact this
  | some i =>
    rw [List.find?_range_eq_some] at hf
    obtain ⟨p, hi, hj⟩ := hf
    rw [key, decide_eq_true_eq] at p
    refine ⟨by push_cast; omega, ?_, fun j a b => ?_⟩
    · push_cast
      rw [show (m : Int) + 1 + i - m = 1 + i by omega]
      exact p
    · push_cast at b
      have := hj (j - m - 1).toNat (by omega)
      rw [key] at this
      simp only [Bool.not_eq_true', decide_eq_false_iff_not, Decidable.not_not] at this
      rw [show (m : Int) + 1 + ((j - m - 1).toNat : Int) = j by omega, show 1 + ((j - m - 1).toNat : Int) = j - m by omega] at this
      exact this
theorem nxO_gt {l : List Nat} {m k : Nat} (h : nxO l m = some k) : m < k := by
  unfold nxO at h
  rw [Option.map_eq_some_iff] at h
  obtain ⟨a, _, rfl⟩ := h
  omega
def chnL (l : List Nat) (most : Nat) : Nat → Option Nat → List Nat
  | _, none => []
  | 0, _ => []
  | f + 1, some k => if k ≤ most then k :: chnL l most f (nxO l k) else []
theorem chn_chnL {l : List Nat} (hl : l ≠ []) {most : Nat} : ∀ (f : Nat) (o : Option Nat), (∀ k, o = some k → 1 ≤ k ∧ most < k + f) → Chn l most (o.map fun (n : Nat) => (n : Int)) ((chnL l most f o).map fun (n : Nat) => (n : Int)) := by
  intro f
  induction f with
  | zero =>
    intro o h
    cases o with
    | none => exact .no
    | some k => exact .stop (show (most : Int) < (k : Int) by have := h k rfl; omega)
  | succ f ih =>
    intro o h
    cases o with
    | none => exact .no
    | some k =>
      have hk := h k rfl
      simp only [chnL]
      by_cases z : k ≤ most
      · rw [if_pos z]
        refine .go (show (k : Int) ≤ (most : Int) by omega) (un_nxO hl hk.1) (ih _ fun k2 e => ?_)
        have := nxO_gt e
        omega
      · rw [if_neg z]; exact .stop (show (most : Int) < (k : Int) by omega)
/-- the address, reckoned -/
def addrL (l : List Nat) : List Nat := chnL l l.length (l.length + 1) (some 1)
theorem chn_is {l : List Nat} (hl : l ≠ []) {ns : List Int} (h : Chn l l.length (some 1) ns) : ns = (addrL l).map fun (n : Nat) => (n : Int) :=
  h.unique (chn_chnL hl (l.length + 1) (some 1) fun k e => by cases e; omega)
def upM (l : List Nat) : Nat := if (addrL (l.dropLast ++ [49])).contains l.length then 49 else 48
def lowM (l : List Nat) : Nat := if upM l = 49 then 48 else 49
def copiedC (l : List Nat) (c : Nat) : List Nat := l.dropLast ++ [if c = 49 then upM l else if c = 48 then lowM l else 42]
def copiedL (l o : List Nat) : List Nat := (o.map (copiedC l)).flatten
theorem copied_star {l o : List Nat} (hl : StarW l) (ho : WordW o) : StarW (copiedL l o) := by
  obtain ⟨l1, l2, l3⟩ := hl
  have up : upM l ≠ 42 := by unfold upM; split <;> omega
  have lo : lowM l ≠ 42 := by unfold lowM; split <;> omega
  have part : ∀ s : List Nat, (∀ x ∈ s, x = 48 ∨ x = 49) → ∀ c ∈ copiedL l s, c ≠ 42 := by
    intro s hs c hc
    unfold copiedL at hc
    rw [List.mem_flatten] at hc
    obtain ⟨y, hy, hc⟩ := hc
    rw [List.mem_map] at hy
    obtain ⟨x, hx, rfl⟩ := hy
    unfold copiedC at hc
    rcases List.mem_append.mp hc with hc | hc
    · exact l3 c hc
    · simp only [List.mem_singleton] at hc
      subst hc
      rcases hs x hx with rfl | rfl
      · exact lo
      · exact up
  have ec : ∀ s : List Nat, copiedL l (s ++ [42]) = (copiedL l s ++ l.dropLast) ++ [42] := by
    intro s; simp [copiedL, copiedC]
  rcases ho with rfl | ⟨s, rfl, hs⟩
  · have := ec []
    rw [List.nil_append] at this
    rw [this]
    refine starW_mk fun c hc => ?_
    simp [copiedL] at hc
    exact l3 c hc
  · have := ec (49 :: s)
    rw [List.cons_append] at this
    rw [this]
    refine starW_mk fun c hc => ?_
    rcases List.mem_append.mp hc with hc | hc
    · exact part (49 :: s) (fun x hx => by
        rcases List.mem_cons.mp hx with rfl | hx
        · exact .inr rfl
        · exact hs x hx) c hc
    · exact l3 c hc
theorem copied_len (l o : List Nat) (hl : l ≠ []) : (copiedL l o).length = l.length * o.length := by
  have hp : 0 < l.length := List.length_pos_iff.mpr hl
  unfold copiedL
  induction o with
  | nil => simp
  | cons x o ih =>
    rw [List.map_cons, List.flatten_cons, List.length_append, ih, List.length_cons]
    have : (copiedC l x).length = l.length := by simp [copiedC]; omega
    rw [this, Nat.mul_succ]
    omega
/-- what is checked by going through all: a copied word fails nowhere exactly if the first word does -/
def bases61 : List (List Nat) := [[49, 48, 49, 49, 48, 42], [49, 48, 49, 49, 48, 49, 42], [49, 48, 49, 49, 48, 48, 49, 42], [49, 48, 49, 49, 48, 48, 42]] ++ wordsTo 8
def check61 : Bool := bases61.all fun b => b.length == 1 || (wordsTo 3).all fun o => (failO (copiedL b o)).isNone == (failO b).isNone
end Tw
namespace Tw
open PySem PySem.Spec PyProof.Rows L2
/-! ### for the defs -/
def divsOf (m : Nat) : List Nat := ((List.range (m - 1)).filter fun j => m % (j + 1) == 0).map (· + 1)
theorem fails_by (l : List Nat) (m : Nat) : fails l m = (!(((divsOf m).map fun k => decide (m < nxt l k)).any id) && comesBy l ((nxt l m - 1) % m + 1) m) := by
  unfold fails divsOf
  congr 2
  induction List.range (m - 1) with
  | nil => rfl
  | cons i r ih =>
    rw [List.any_cons, List.filter_cons, ih]
    by_cases h : m % (i + 1) == 0
    · rw [if_pos h, h]; simp
    · rw [if_neg h]; simp [h]
theorem ov_none (l : List Nat) : decide (ov (fo l) = V.non) = (failO l).isNone := by
  unfold fo
  cases failO l with
  | none => rfl
  | some n => simp [ov]
/-- all star words of so many marks, without the star -/
def begs : Nat → List (List Nat)
  | 0 => [[49]]
  | k + 1 => (begs k).flatMap fun b => [48, 49].map fun c => b ++ [c]
def swL (n : Nat) : List (List Nat) := (begs (n - 2)).map (· ++ [42])
theorem begs_len : ∀ k : Nat, (begs k).length = 2 ^ k ∧ ∀ b ∈ begs k, b.length = k + 1 := by
  intro k
  induction k with
  | zero => simp [begs]
  | succ k ih =>
    constructor
    · have : ∀ es : List (List Nat), (es.flatMap fun b => [48, 49].map fun c => b ++ [c]).length = 2 * es.length := by
        intro es
        induction es with
        | nil => rfl
        | cons e es ih2 => rw [List.flatMap_cons, List.length_append, ih2]; simp; omega
      rw [begs, this, ih.1, Nat.pow_succ]; omega
    · intro b hb
      rw [begs, List.mem_flatMap] at hb
      obtain ⟨a, ha, hb⟩ := hb
      have := ih.2 a ha
      rw [List.mem_map] at hb
      obtain ⟨c, _, rfl⟩ := hb
      simp [this]
def fSW : PyData → Nat → PyData
  | .str s, c => .str (s ++ Sg [c])
  | _, _ => .none
theorem fSW_all (k : Nat) : (((begs k).map fun b => PyData.str (Sg b)).flatMap fun d => [48, 49].map (fSW d)) = (begs (k + 1)).map fun b => PyData.str (Sg b) := by
  rw [begs]
  induction begs k with
  | nil => rfl
  | cons b r ih => rw [List.map_cons, List.flatMap_cons, ih, List.flatMap_cons, List.map_append]; simp [fSW, sg_app]
end Tw
namespace Tw
theorem rest_iff {f m r : Nat} (h1 : 1 ≤ r) (h2 : r ≤ m) (hf : 1 ≤ f) : ((f : Int) - (r : Int)) % (m : Int) = 0 ↔ r = (f - 1) % m + 1 := by
  have hm : 0 < m := by omega
  have hs := Nat.mod_lt (f - 1) hm
  have hd := Nat.div_add_mod (f - 1) m
  generalize hq : (f - 1) / m = q at hd
  generalize hS : (f - 1) % m = s at hd hs
  have e : (f : Int) - (r : Int) = ((s : Int) + 1 - r) + (m : Int) * (q : Int) := by
    have : ((m * q + s : Nat) : Int) = ((f - 1 : Nat) : Int) := by rw [hd]
    push_cast at this
    omega
  rw [e, Int.add_mul_emod_self_left]
  constructor
  · intro z
    by_cases hp : 0 ≤ (s : Int) + 1 - r
    · rw [Int.emod_eq_of_lt hp (by omega)] at z
      omega
    · rw [← Int.add_emod_right, Int.emod_eq_of_lt (by omega) (by omega)] at z
      omega
  · intro z
    rw [show (s : Int) + 1 - r = 0 by omega]
    simp
/-- the strong word of a drawing -/
theorem wordW_mk {s : List Nat} (h : ∀ x ∈ s, x = 48 ∨ x = 49) : WordW (49 :: (s ++ [42])) := .inr ⟨s, rfl, h⟩
end Tw
namespace Tw
def starB (l : List Nat) : Bool := l.getLast? == some 42 && l.dropLast.all (· != 42)
theorem starB_ok {l : List Nat} (h : starB l = true) : StarW l := by
  unfold starB at h
  rw [Bool.and_eq_true, beq_iff_eq, List.all_eq_true] at h
  have hl : l ≠ [] := fun z => by subst z; simp at h
  refine ⟨hl, ?_, fun c hc => by have := h.2 c hc; simpa using this⟩
  have := h.1
  rw [List.getLast?_eq_getLast hl] at this
  exact Option.some.inj this
def w10110 : List Nat := [49, 48, 49, 49, 48, 42]
theorem k61_a : fo w10110 = some 3 := by decide +kernel
theorem k61_b : ((swL 5).all fun s => starB s && (failO s).isNone) = true := by decide +kernel
theorem k61_c : ((swL 6).all fun s => starB s) = true := by decide +kernel
theorem k61_d : ((swL 6).filter fun s => !(failO s).isNone) = [w10110] := by decide +kernel
set_option maxRecDepth 100000 in
theorem check61_ok : check61 = true := by decide +kernel
theorem swL_len {n : Nat} (h : 2 ≤ n) (h2 : n ≤ 12) : (swL n).length ≤ 1024 ∧ ∀ s ∈ swL n, s.length = n := by
  have hb := begs_len (n - 2)
  have hpow : 2 ^ (n - 2) ≤ 2 ^ 10 := Nat.pow_le_pow_right (by decide) (by omega)
  constructor
  · rw [swL, List.length_map, hb.1]; omega
  · intro s hs
    rw [swL, List.mem_map] at hs
    obtain ⟨b, h1, rfl⟩ := hs
    have := hb.2 b h1
    simp [this]; omega
/-- the bases that are drawn -/
def four61 : List (List Nat) := [[49, 48, 49, 49, 48, 42], [49, 48, 49, 49, 48, 49, 42], [49, 48, 49, 49, 48, 48, 49, 42], [49, 48, 49, 49, 48, 48, 42]]
theorem base61 {b w : List Nat} (hw : WordW w) (hl : w.length ≤ 8) (h : b ∈ four61 ++ [w]) : b ∈ bases61 ∧ WordW b ∧ b.length ≤ 8 := by
  rcases List.mem_append.mp h with h | h
  · refine ⟨List.mem_append_left _ h, ?_⟩
    unfold four61 at h
    simp only [List.mem_cons, List.not_mem_nil, or_false] at h
    rcases h with rfl | rfl | rfl | rfl
    · exact ⟨.inr ⟨[48, 49, 49, 48], rfl, by simp⟩, by simp⟩
    · exact ⟨.inr ⟨[48, 49, 49, 48, 49], rfl, by simp⟩, by simp⟩
    · exact ⟨.inr ⟨[48, 49, 49, 48, 48, 49], rfl, by simp⟩, by simp⟩
    · exact ⟨.inr ⟨[48, 49, 49, 48, 48], rfl, by simp⟩, by simp⟩
  · rw [List.mem_singleton] at h
    subst h
    exact ⟨List.mem_append_right _ (mem_wordsTo hw hl), hw, hl⟩
theorem let61 {b o : List Nat} (hb : b ∈ bases61) (h1 : 1 < b.length) (ho : WordW o) (hl : o.length ≤ 3) : (failO (copiedL b o)).isNone = (failO b).isNone := by
  have h := check61_ok
  unfold check61 at h
  rw [List.all_eq_true] at h
  have := h b hb
  rw [Bool.or_eq_true] at this
  rcases this with z | z
  · have : b.length = 1 := by simpa using z
    omega
  · rw [List.all_eq_true] at z
    simpa using z o (mem_wordsTo ho hl)
end Tw
namespace Tw
open PySem PySem.Spec PyProof.Rows L2
/-! ### doubling, again and again -/
def itN : Nat → Nat × Nat → Nat × Nat
  | 0, x => x
  | i + 1, x => itN i (dblN x)
theorem itN_succ (i : Nat) (x : Nat × Nat) : itN (i + 1) x = dblN (itN i x) := by
  induction i generalizing x with
  | zero => rfl
  | succ i ih => show itN (i + 1) (dblN x) = dblN (itN i (dblN x)); exact ih (dblN x)
theorem itN_add (i j : Nat) (x : Nat × Nat) : itN (i + j) x = itN i (itN j x) := by
  induction j generalizing x with
  | zero => rfl
  | succ j ih => show itN (i + j) (dblN x) = itN i (itN j (dblN x)); exact ih (dblN x)
theorem it_plc {x : Nat × Nat} (h : Plc x) (i : Nat) : Plc (itN i x) := by
  induction i with
  | zero => exact h
  | succ i ih => rw [itN_succ]; exact dbl_plc ih
theorem dbl_red {x : Nat × Nat} (h : Plc x) : dblN x = red (2 * x.1 % x.2) x.2 := by
  have hp := h.pos
  have hd := dbl_plc h
  symm
  refine red_of hd.cop hd.pos hp ?_
  unfold dblN
  split
  · rename_i e
    have hx : x.2 = 2 * (x.2 / 2) := by omega
    have e2 : 2 * x.1 % x.2 = 2 * (x.1 % (x.2 / 2)) := by
      conv => lhs; rw [hx]
      rw [Nat.mul_mod_mul_left]
    rw [e2]
    show x.1 % (x.2 / 2) * x.2 = 2 * (x.1 % (x.2 / 2)) * (x.2 / 2)
    generalize x.1 % (x.2 / 2) = y
    rw [Nat.mul_comm 2 y, Nat.mul_assoc, ← hx]
  · rfl
theorem red_mod2 {p q : Nat} (hq : 0 < q) (hp : p < q) : red (2 * (red p q).1 % (red p q).2) (red p q).2 = red (2 * p % q) q := by
  have hc := red_cross (p := p) (q := q)
  have h0 := red_pos (p := p) hq
  obtain ⟨g, hg⟩ := red_dvd (p := p) (q := q)
  have hg0 : 0 < g := by
    rcases Nat.eq_zero_or_pos g with z | z
    · rw [z] at hg; omega
    · exact z
  generalize hr : red p q = r at *
  have hpe : p = r.1 * g := by
    rw [hg] at hc
    have : r.1 * g * r.2 = p * r.2 := by rw [← hc, Nat.mul_assoc, Nat.mul_comm g]
    exact (Nat.eq_of_mul_eq_mul_right h0 this).symm
  refine red_eq h0 hq ?_
  rw [hpe, hg, show 2 * (r.1 * g) = 2 * r.1 * g from (Nat.mul_assoc _ _ _).symm, Nat.mul_mod_mul_right, Nat.mul_assoc (2 * r.1 % r.2) g, Nat.mul_comm g]
theorem it_red {x : Nat × Nat} (h : Plc x) (i : Nat) : itN i x = red (2 ^ i * x.1 % x.2) x.2 := by
  have hp := h.pos
  induction i with
  | zero =>
    rw [Nat.pow_zero, Nat.one_mul, Nat.mod_eq_of_lt h.lt]
    exact (red_self h.cop).symm
  | succ i ih =>
    rw [itN_succ, dbl_red (it_plc h i), ih, red_mod2 hp (Nat.mod_lt _ hp)]
    congr 1
    rw [Nat.mul_mod, Nat.mod_mod, ← Nat.mul_mod, Nat.pow_succ, Nat.mul_comm (2 ^ i) 2, Nat.mul_assoc]
theorem red_inj {p p' q : Nat} (hq : 0 < q) (h : red p q = red p' q) : p = p' := by
  have h1 := red_cross (p := p) (q := q)
  have h2 := red_cross (p := p') (q := q)
  have h0 := red_pos (p := p) hq
  rw [h] at h1 h0
  exact Nat.eq_of_mul_eq_mul_right h0 (h1.symm.trans h2)
theorem it_eq {x : Nat × Nat} (h : Plc x) {i j : Nat} (hij : i ≤ j) : itN i x = itN j x ↔ x.2 ∣ 2 ^ i * (2 ^ (j - i) - 1) := by
  have hp := h.pos
  rw [it_red h, it_red h]
  have e : 2 ^ j = 2 ^ i * 2 ^ (j - i) := by rw [← Nat.pow_add]; congr 1; omega
  have hpw : 1 ≤ 2 ^ (j - i) := two_pow_pos _
  have key : (2 ^ i * x.1 % x.2 = 2 ^ j * x.1 % x.2) ↔ x.2 ∣ 2 ^ i * (2 ^ (j - i) - 1) := by
    have hle : 2 ^ i * x.1 ≤ 2 ^ j * x.1 := Nat.mul_le_mul_right _ (Nat.pow_le_pow_right (by decide) hij)
    have hsub : 2 ^ j * x.1 - 2 ^ i * x.1 = 2 ^ i * (2 ^ (j - i) - 1) * x.1 := by
      rw [e, ← Nat.sub_mul, Nat.mul_sub_one]
    constructor
    · intro z
      have d1 : x.2 ∣ 2 ^ j * x.1 - 2 ^ i * x.1 := Nat.dvd_of_mod_eq_zero (Nat.sub_mod_eq_zero_of_mod_eq z.symm)
      rw [hsub] at d1
      exact h.cop.symm.dvd_of_dvd_mul_right d1
    · intro d
      have d1 : x.2 ∣ 2 ^ j * x.1 - 2 ^ i * x.1 := by rw [hsub]; exact Nat.dvd_trans d (Nat.dvd_mul_right _ _)
      obtain ⟨c, hc⟩ := d1
      have : 2 ^ j * x.1 = 2 ^ i * x.1 + x.2 * c := by omega
      rw [this, Nat.add_mul_mod_self_left]
  constructor
  · intro z; exact key.mp (red_inj hp z)
  · intro z; rw [key.mpr z]
/-! ### way in and period -/
/-- how often 2 divides, at most f times -/
def twosF : Nat → Nat → Nat
  | 0, _ => 0
  | f + 1, b => if b % 2 = 0 then twosF f (b / 2) + 1 else 0
def twos (b : Nat) : Nat := twosF 60 b
theorem twosF_spec : ∀ (f b : Nat), 0 < b → b < 2 ^ f → ∃ o, b = 2 ^ twosF f b * (2 * o + 1) := by
  intro f
  induction f with
  | zero => intro b h1 h2; omega
  | succ f ih =>
    intro b h1 h2
    unfold twosF
    split
    · rename_i e
      obtain ⟨o, ho⟩ := ih (b / 2) (by omega) (by rw [Nat.pow_succ] at h2; omega)
      refine ⟨o, ?_⟩
      rw [Nat.pow_succ, Nat.mul_assoc, Nat.mul_comm 2, ← Nat.mul_assoc, ← ho]
      omega
    · exact ⟨b / 2, by simp; omega⟩
theorem twos_spec {b : Nat} (h1 : 0 < b) (h2 : b < 2 ^ 60) : ∃ o, b = 2 ^ twos b * (2 * o + 1) := twosF_spec 60 b h1 h2
def oddOf (b : Nat) : Nat := b / 2 ^ twos b
theorem odd_spec {b : Nat} (h1 : 0 < b) (h2 : b < 2 ^ 60) : b = 2 ^ twos b * oddOf b ∧ oddOf b % 2 = 1 := by
  obtain ⟨o, ho⟩ := twos_spec h1 h2
  have : oddOf b = 2 * o + 1 := by
    unfold oddOf
    conv => lhs; rw [ho]
    have e : twos (2 ^ twos b * (2 * o + 1)) = twos b := by rw [← ho]
    rw [e, Nat.mul_div_cancel_left _ (two_pow_pos _)]
  rw [this]
  exact ⟨ho, by omega⟩
/-- the least n from 1 to f with 2 ^ n - 1 divided by o, else 0 -/
def ordN (o : Nat) : Nat := match (List.range 24).find? (fun i => (2 ^ (i + 1) - 1) % o == 0) with
  | some i => i + 1
  | none => 0
theorem ord_spec {o n : Nat} (h1 : 1 ≤ n) (h2 : n ≤ 24) (h : o ∣ 2 ^ n - 1) : 1 ≤ ordN o ∧ ordN o ≤ n ∧ o ∣ 2 ^ ordN o - 1 ∧ ∀ k, 1 ≤ k → k < ordN o → ¬ o ∣ 2 ^ k - 1 := by
  unfold ordN
  cases hf : (List.range 24).find? (fun i => (2 ^ (i + 1) - 1) % o == 0) with
  | none =>
    rw [List.find?_eq_none] at hf
    have := hf (n - 1) (List.mem_range.mpr (by omega))
    rw [show n - 1 + 1 = n by omega, beq_iff_eq] at this
    exact absurd (Nat.mod_eq_zero_of_dvd h) this
  | some i =>
    rw [List.find?_range_eq_some] at hf
    obtain ⟨p, hi, hj⟩ := hf
    rw [beq_iff_eq] at p
    show 1 ≤ i + 1 ∧ i + 1 ≤ n ∧ o ∣ 2 ^ (i + 1) - 1 ∧ ∀ k, 1 ≤ k → k < i + 1 → ¬ o ∣ 2 ^ k - 1
    refine ⟨by omega, ?_, Nat.dvd_of_mod_eq_zero p, fun k a b d => ?_⟩
    · apply Nat.le_of_not_lt
      intro z
      have := hj (n - 1) (by omega)
      rw [show n - 1 + 1 = n by omega, Bool.not_eq_true', beq_eq_false_iff_ne] at this
      exact this (Nat.mod_eq_zero_of_dvd h)
    · have := hj (k - 1) (by omega)
      rw [show k - 1 + 1 = k by omega, Bool.not_eq_true', beq_eq_false_iff_ne] at this
      exact this (Nat.mod_eq_zero_of_dvd d)
def wayN (x : Nat × Nat) : Nat := twos x.2
def perN (x : Nat × Nat) : Nat := ordN (oddOf x.2)
theorem cop_two_pow {o : Nat} (h : o % 2 = 1) (m : Nat) : Nat.Coprime (2 ^ m) o := by
  refine Nat.Coprime.pow_left m ?_
  unfold Nat.Coprime
  rw [Nat.gcd_rec, h]
  rfl
/-- 2 ^ m o divides 2 ^ i (2 ^ n - 1), o odd -/
theorem dvd_split {m o i n : Nat} (ho : o % 2 = 1) (hn : 1 ≤ n) : 2 ^ m * o ∣ 2 ^ i * (2 ^ n - 1) ↔ m ≤ i ∧ o ∣ 2 ^ n - 1 := by
  have hodd : (2 ^ n - 1) % 2 = 1 := by
    have h1 : 2 ^ n = 2 * 2 ^ (n - 1) := by rw [← Nat.pow_succ']; congr 1; omega
    have := two_pow_pos (n - 1)
    omega
  constructor
  · intro d
    have d1 : 2 ^ m ∣ 2 ^ i * (2 ^ n - 1) := Nat.dvd_trans (Nat.dvd_mul_right _ _) d
    have d2 : o ∣ 2 ^ i * (2 ^ n - 1) := Nat.dvd_trans (Nat.dvd_mul_left _ _) d
    have d3 : 2 ^ m ∣ 2 ^ i := (cop_two_pow hodd m).dvd_of_dvd_mul_right d1
    have d4 : o ∣ 2 ^ n - 1 := (cop_two_pow ho i).symm.dvd_of_dvd_mul_left d2
    refine ⟨?_, d4⟩
    apply Nat.le_of_not_lt
    intro z
    have := Nat.le_of_dvd (two_pow_pos i) d3
    have := Nat.pow_lt_pow_right (a := 2) (by decide) z
    omega
  · rintro ⟨h1, h2⟩
    exact Nat.mul_dvd_mul (Nat.pow_dvd_pow 2 h1) h2
structure Ways (x : Nat × Nat) (m n : Nat) : Prop where
  n1 : 1 ≤ n
  le : m + n ≤ 24
  eq : ∀ i j, i < j → (itN i x = itN j x ↔ m ≤ i ∧ (oddOf x.2) ∣ 2 ^ (j - i) - 1)
  dv : oddOf x.2 ∣ 2 ^ n - 1
  lt : ∀ k, 1 ≤ k → k < n → ¬ oddOf x.2 ∣ 2 ^ k - 1
theorem ways {x : Nat × Nat} (h : Plc x) : Ways x (wayN x) (perN x) := by
  have hp := h.pos
  have hs := h.small
  obtain ⟨e1, e2⟩ := odd_spec hp (Nat.lt_trans hs (by decide))
  obtain ⟨m', n', h1, h2, h3⟩ := h.bot
  rw [e1, dvd_split e2 h1] at h3
  have ho := ord_spec h1 (by omega) h3.2
  refine ⟨ho.1, ?_, fun i j hij => ?_, ho.2.2.1, ho.2.2.2⟩
  · have := ho.2.1
    have : twos x.2 ≤ m' := h3.1
    unfold wayN perN
    omega
  · rw [it_eq h (Nat.le_of_lt hij)]
    conv => lhs; rw [e1]
    rw [dvd_split e2 (by omega)]
    rfl
namespace Ways
variable {x : Nat × Nat} {m n : Nat}
theorem back (w : Ways x m n) : itN (m + n) x = itN m x := by
  symm
  have := w.n1
  rw [w.eq m (m + n) (by omega)]
  exact ⟨Nat.le_refl _, by rw [show m + n - m = n by omega]; exact w.dv⟩
theorem ne (w : Ways x m n) {i j : Nat} (h1 : i < j) (h2 : j < m + n) : itN i x ≠ itN j x := by
  intro z
  obtain ⟨a, b⟩ := (w.eq i j h1).mp z
  exact w.lt (j - i) (by omega) (by omega) b
theorem inj (w : Ways x m n) {i j : Nat} (h1 : i < m + n) (h2 : j < m + n) (h : itN i x = itN j x) : i = j := by
  rcases Nat.lt_trichotomy i j with z | z | z
  · exact absurd h (w.ne z h2)
  · exact z
  · exact absurd h.symm (w.ne z h1)
end Ways
/-- the orbit -/
def orbN (x : Nat × Nat) : List (Nat × Nat) := (List.range (wayN x + perN x)).map fun i => itN i x
theorem orb_len (x : Nat × Nat) : (orbN x).length = wayN x + perN x := by simp [orbN]
theorem orb_get {x : Nat × Nat} {i : Nat} (h : i < wayN x + perN x) : (orbN x)[i]? = some (itN i x) := by simp [orbN, h]
theorem orb_plc {x : Nat × Nat} (h : Plc x) : ∀ y ∈ orbN x, Plc y := by
  intro y hy
  obtain ⟨i, _, rfl⟩ := List.mem_map.mp hy
  exact it_plc h i
/-- the first i places of the orbit -/
def preN (x : Nat × Nat) (i : Nat) : List (Nat × Nat) := (List.range i).map fun i => itN i x
theorem pre_succ (x : Nat × Nat) (i : Nat) : preN x (i + 1) = preN x i ++ [itN i x] := by simp [preN, List.range_succ]
theorem pre_len (x : Nat × Nat) (i : Nat) : (preN x i).length = i := by simp [preN]
theorem pre_mem {x : Nat × Nat} (h : Plc x) {i : Nat} (hi : i ≤ wayN x + perN x) : itN i x ∈ preN x i ↔ i = wayN x + perN x := by
  have w := ways h
  constructor
  · intro hm
    obtain ⟨j, hj, e⟩ := List.mem_map.mp hm
    have hj := List.mem_range.mp hj
    by_cases z : i = wayN x + perN x
    · exact z
    · exact absurd e (w.ne hj (by omega))
  · intro e
    have := w.n1
    rw [e, w.back]
    exact List.mem_map.mpr ⟨wayN x, List.mem_range.mpr (by omega), rfl⟩
/-! ### for the defs -/
theorem twos_bits {b : Nat} (h1 : 0 < b) (h2 : b < 2 ^ 60) : Builtin.bitAnd (b : Int) (-(b : Int)) = ((2 ^ twos b : Nat) : Int) := by
  obtain ⟨o, ho⟩ := twos_spec h1 h2
  have e : (b : Int) = 2 ^ twos b * (2 * (o : Int) + 1) := by
    conv => lhs; rw [ho]
    push_cast
    rfl
  conv => lhs; rw [e]
  rw [PySem.W.kbt_low]
  push_cast
  rfl
theorem pow_bits (k : Nat) : Builtin.Int.intBits ((2 ^ k : Nat) : Int) = k + 1 := by
  unfold Builtin.Int.intBits
  have hp := two_pow_pos k
  have e : (((2 ^ k : Nat) : Int) == 0) = false := beq_eq_false_iff_ne.mpr fun z => by
    have : (2 ^ k : Nat) = 0 := Int.ofNat.inj z
    omega
  rw [e, Int.natAbs_natCast, Nat.log2_two_pow]
  rfl
theorem ord_first {o k : Nat} (h1 : 1 ≤ k) (h2 : k ≤ 24) (h : (2 ^ k - 1) % o = 0) (hb : ∀ j, 1 ≤ j → j < k → ¬ (2 ^ j - 1) % o = 0) : ordN o = k := by
  unfold ordN
  have : (List.range 24).find? (fun i => (2 ^ (i + 1) - 1) % o == 0) = some (k - 1) := by
    rw [List.find?_range_eq_some]
    refine ⟨by rw [show k - 1 + 1 = k by omega, beq_iff_eq]; exact h, List.mem_range.mpr (by omega), fun j hj => ?_⟩
    rw [Bool.not_eq_true', beq_eq_false_iff_ne]
    exact hb (j + 1) (by omega) (by omega)
  rw [this]
  show k - 1 + 1 = k
  omega
theorem ord_none {o : Nat} (h : ∀ j, 1 ≤ j → j ≤ 24 → ¬ (2 ^ j - 1) % o = 0) : ordN o = 0 := by
  unfold ordN
  have : (List.range 24).find? (fun i => (2 ^ (i + 1) - 1) % o == 0) = none := by
    rw [List.find?_eq_none]
    intro i hi
    rw [beq_iff_eq]
    exact h (i + 1) (by omega) (by have := List.mem_range.mp hi; omega)
  rw [this]
theorem odd_pos {b : Nat} (h1 : 0 < b) (h2 : b < 2 ^ 60) : 0 < oddOf b := by have := (odd_spec h1 h2).2; omega
theorem bits_le {b k : Nat} (h1 : 0 < b) (h : b < 2 ^ k) : Builtin.Int.intBits (b : Int) ≤ k := by
  unfold Builtin.Int.intBits
  have e : ((b : Int) == 0) = false := beq_eq_false_iff_ne.mpr fun z => by omega
  rw [e, Int.natAbs_natCast]
  have := (Nat.log2_lt (by omega : b ≠ 0)).mpr h
  simp
  omega
theorem dig_lt (k : Nat) : 2 ^ k - 1 < 2 ^ k := by have := two_pow_pos k; omega
/-! ### digits -/
def dig (y : Nat × Nat) : Nat := if 2 * y.1 < y.2 then 48 else 49
def digL (x : Nat × Nat) : List Nat := (orbN x).map dig
theorem digL_len (x : Nat × Nat) : (digL x).length = wayN x + perN x := by simp [digL, orb_len]
theorem digL_dg (x : Nat × Nat) : Dg (digL x) := by
  intro c hc
  obtain ⟨y, _, rfl⟩ := List.mem_map.mp hc
  unfold dig
  split
  · exact .inl rfl
  · exact .inr rfl
/-! ### readings -/
section
variable {K : PySem.W.Frag} {σ : L2.St} {H : Hp} {Q : VK} {v y : V} {to : TE}
def rBits (x : V) (H : Hp) (Q : VK) : Prop := ∃ i, x = .int i ∧ Q (.int (Builtin.Int.intBits i : Nat)) H
theorem w_bits (h : to σ H fun x H1 => rBits x H1 Q) : tBits to σ H Q := h
theorem w_bitsI {i : Int} (h : Q (.int (Builtin.Int.intBits i : Nat)) H) : rBits (.int i) H Q := ⟨i, rfl, h⟩
def rDivmod : List V → Hp → VK → Prop := fun xs H Q => ∃ i j, xs = [.int i, .int j] ∧ CDivP i j ∧ ∀ p, H p = none → Q (.ref p) (upd H p (.tup [.int (i / j), .int (i % j)]))
theorem cl_divmod {X : Cx} : CallR X (.builtin "divmod") rDivmod := call_divmodW
theorem w_divmod {i j : Int} (hc : CDivP i j) (q : ∀ p H', Same H H' → Dp K H' (.ref p) (.tuple [.int (i / j), .int (i % j)]) → Q (.ref p) H') : rDivmod [.int i, .int j] H Q :=
  ⟨i, j, rfl, hc, fun p hp => q p _ (same_new hp) (dp_newT upd_same (.cons (.int _) (.cons (.int _) .nil)))⟩
def rIndexK (K : PySem.W.Frag) : V → List V → Hp → VK → Prop := fun x xs H Q => ∃ (a : Addr) (y : V) (d : PyData) (ds : List PyData) (j : Nat) (z : PyData), x = V.ref a ∧ xs = [y] ∧ Dp K H (V.ref a) (.list ds) ∧ Dp K H y d ∧ SeqAt.shaped (.list ds) = true ∧ SeqAt.shaped d = true ∧
  ds[j]? = some z ∧ PyData.eqv z d = true ∧ (∀ (m : Nat) (z' : PyData), m < j → ds[m]? = some z' → PyData.eqv z' d = false) ∧ Q (.int (j : Nat)) H
theorem mt_indexK {X : Cx} {K : PySem.W.Frag} (hu : X.A.units + 65 < cLine) (h : X.K = K := by rfl) : MtR X "list.index" (rIndexK K) := h ▸ mt_indexD hu
theorem w_index {d : PyData} {ds : List PyData} {j : Nat} (h1 : Dp K H v (.list ds)) (h2 : Dp K H y d) (p1 : pln 8 d = true) (p2 : ∀ z ∈ ds, pln 8 z = true) (hj : ds[j]? = some d) (hn : ∀ m, m < j → ds[m]? ≠ some d) (q : Q (.int (j : Nat)) H) : rIndexK K v [y] H Q := by
  obtain ⟨a, xs, rfl, hs, ha⟩ := dp_lst h1
  refine ⟨a, y, d, ds, j, d, rfl, rfl, h1, h2, pln_shaped (pln_list p2) (by decide), pln_shaped p1 (by decide), hj, (pln_eqv 8 8 d d p1 p1).mpr rfl, fun m z' hm hz => ?_, q⟩
  cases he : PyData.eqv z' d with
  | false => rfl
  | true =>
    have := (pln_eqv 8 8 z' d (p2 z' (List.mem_of_getElem? hz)) p1).mp he
    subst this
    exact absurd hz (hn m hm)
theorem w_tyLD {ds : List PyData} {A : Prop} (h : Dp K H v (.list ds)) (q : A) : tyV K "list" v H ∧ A := by
  obtain ⟨a, xs, rfl, hs, ha⟩ := dp_lst h
  exact ⟨.inl ⟨rfl, xs, hs⟩, q⟩
end
/-! ### digits of a place: what they are worth -/
/-- the numerator over x's own denominator -/
def aN (x : Nat × Nat) (i : Nat) : Nat := 2 ^ i * x.1 % x.2
theorem it_aN {x : Nat × Nat} (h : Plc x) (i : Nat) : itN i x = red (aN x i) x.2 := it_red h i
theorem aN_lt {x : Nat × Nat} (h : Plc x) (i : Nat) : aN x i < x.2 := Nat.mod_lt _ h.pos
theorem red_low {p q : Nat} (hq : 0 < q) : 2 * (red p q).1 < (red p q).2 ↔ 2 * p < q := by
  have hc := red_cross (p := p) (q := q)
  have h0 := red_pos (p := p) hq
  constructor
  · intro h
    have : 2 * (red p q).1 * q < (red p q).2 * q := Nat.mul_lt_mul_of_pos_right h hq
    rw [Nat.mul_assoc, hc, ← Nat.mul_assoc, Nat.mul_comm _ q] at this
    exact Nat.lt_of_mul_lt_mul_right this
  · intro h
    have : 2 * p * (red p q).2 < q * (red p q).2 := Nat.mul_lt_mul_of_pos_right h h0
    rw [Nat.mul_assoc, ← hc, ← Nat.mul_assoc, Nat.mul_comm q] at this
    exact Nat.lt_of_mul_lt_mul_right this
theorem aN_succ {x : Nat × Nat} (h : Plc x) (i : Nat) : aN x (i + 1) + (dig (itN i x) - 48) * x.2 = 2 * aN x i := by
  have hp := h.pos
  have hl := aN_lt h i
  have e : aN x (i + 1) = 2 * aN x i % x.2 := by
    unfold aN
    rw [Nat.pow_succ, Nat.mul_comm (2 ^ i) 2, Nat.mul_assoc]
    conv => lhs; rw [Nat.mul_mod]
    conv => rhs; rw [Nat.mul_mod, Nat.mod_mod]
  have hd := red_low (p := aN x i) hp
  rw [← it_aN h] at hd
  rw [e]
  unfold dig
  split
  · rename_i z
    have := hd.mp z
    rw [Nat.mod_eq_of_lt this]; simp
  · rename_i z
    have z2 : ¬ 2 * aN x i < x.2 := fun w => z (hd.mpr w)
    rw [show 2 * aN x i = (2 * aN x i - x.2) + x.2 by omega, Nat.add_mod_right, Nat.mod_eq_of_lt (by omega)]
    simp
def digsFrom (x : Nat × Nat) (i k : Nat) : List Nat := (List.range k).map fun j => dig (itN (i + j) x)
theorem digsFrom_succ (x : Nat × Nat) (i k : Nat) : digsFrom x i (k + 1) = digsFrom x i k ++ [dig (itN (i + k) x)] := by simp [digsFrom, List.range_succ]
theorem digs_val {x : Nat × Nat} (h : Plc x) (i k : Nat) : bv (digsFrom x i k) * x.2 + aN x (i + k) = 2 ^ k * aN x i := by
  induction k with
  | zero => simp [digsFrom, bv]
  | succ k ih =>
    rw [digsFrom_succ, bv_snoc]
    have := aN_succ h (i + k)
    rw [← Nat.add_assoc, Nat.pow_succ, Nat.mul_comm (2 ^ k) 2, Nat.mul_assoc, ← ih, Nat.add_mul]
    generalize (dig (itN (i + k) x) - 48) * x.2 = u at *
    rw [Nat.mul_add, ← this, Nat.mul_assoc]
    omega
theorem digL_take (x : Nat × Nat) : (digL x).take (wayN x) = digsFrom x 0 (wayN x) := by
  unfold digL orbN digsFrom
  rw [List.map_map, ← List.map_take, List.take_range, Nat.min_eq_left (by omega)]
  apply List.map_congr_left
  intro j _
  simp
theorem digL_drop (x : Nat × Nat) : (digL x).drop (wayN x) = digsFrom x (wayN x) (perN x) := by
  unfold digL orbN digsFrom
  rw [List.map_map]
  apply List.ext_getElem?
  intro j
  simp only [List.getElem?_drop, List.getElem?_map]
  by_cases z : j < perN x
  · rw [List.getElem?_range (by omega), List.getElem?_range z]
    simp
  · rw [List.getElem?_eq_none (by simp; omega), List.getElem?_eq_none (by simp; omega)]
    rfl
def frontL (x : Nat × Nat) : List Nat := (digL x).take (wayN x)
def backL (x : Nat × Nat) : List Nat := (digL x).drop (wayN x)
theorem front_len (x : Nat × Nat) : (frontL x).length = wayN x := by unfold frontL; rw [List.length_take, digL_len]; omega
theorem back_len (x : Nat × Nat) : (backL x).length = perN x := by unfold backL; rw [List.length_drop, digL_len]; omega
theorem front_dg (x : Nat × Nat) : Dg (frontL x) := fun c hc => digL_dg x c (List.mem_of_mem_take hc)
theorem back_dg (x : Nat × Nat) : Dg (backL x) := fun c hc => digL_dg x c (List.mem_of_mem_drop hc)
/-- the digits are those of the place -/
theorem bin_digits {x : Nat × Nat} (h : Plc x) : binN (frontL x) (backL x) = x := by
  have hp := h.pos
  have w := ways h
  have hw1 := w.n1
  have e1 := digs_val h 0 (wayN x)
  have e2 := digs_val h (wayN x) (perN x)
  rw [← digL_take, Nat.zero_add] at e1
  rw [← digL_drop] at e2
  have a0 : aN x 0 = x.1 := by unfold aN; rw [Nat.pow_zero, Nat.one_mul, Nat.mod_eq_of_lt h.lt]
  have ab : aN x (wayN x + perN x) = aN x (wayN x) := by
    have := w.back
    rw [it_aN h, it_aN h] at this
    exact red_inj hp this
  rw [a0] at e1
  rw [ab] at e2
  have hw : 1 ≤ 2 ^ perN x := two_pow_pos _
  unfold binN botN
  rw [front_len, back_len]
  have hB : 0 < 2 ^ wayN x * (2 ^ perN x - 1) := bot_pos hw1
  have e3 : bv (backL x) * x.2 = (2 ^ perN x - 1) * aN x (wayN x) := by
    rw [Nat.sub_mul, Nat.one_mul, ← e2]
    unfold backL
    omega
  have key : (bv (frontL x) * (2 ^ perN x - 1) + bv (backL x)) * x.2 = x.1 * (2 ^ wayN x * (2 ^ perN x - 1)) := by
    rw [Nat.add_mul, e3]
    have e4 : bv (frontL x) * x.2 + aN x (wayN x) = 2 ^ wayN x * x.1 := e1
    generalize 2 ^ perN x - 1 = W at *
    generalize bv (frontL x) = f at *
    generalize aN x (wayN x) = A at *
    calc f * W * x.2 + W * A = W * (f * x.2 + A) := by grind
      _ = W * (2 ^ wayN x * x.1) := by rw [e4]
      _ = x.1 * (2 ^ wayN x * W) := by grind
  have hlt : bv (frontL x) * (2 ^ perN x - 1) + bv (backL x) < 2 ^ wayN x * (2 ^ perN x - 1) := by
    have : (bv (frontL x) * (2 ^ perN x - 1) + bv (backL x)) * x.2 < 2 ^ wayN x * (2 ^ perN x - 1) * x.2 := by
      rw [key, Nat.mul_comm x.1]
      exact Nat.mul_lt_mul_of_pos_left h.lt hB
    exact Nat.lt_of_mul_lt_mul_right this
  rw [Nat.mod_eq_of_lt hlt]
  exact red_of h.cop hp hB key.symm
/-- one digit moved into the head -/
theorem bv_cons (c : Nat) (r : List Nat) : bv (c :: r) = (c - 48) * 2 ^ r.length + bv r := by
  have gen : ∀ (r : List Nat) (s : Nat), r.foldl (fun s c => 2 * s + (c - 48)) s = s * 2 ^ r.length + bv r := by
    intro r
    induction r with
    | nil => intro s; simp [bv]
    | cons d r ih =>
      intro s
      have h1 := ih (2 * s + (d - 48))
      have h2 := ih (2 * 0 + (d - 48))
      show r.foldl _ (2 * s + (d - 48)) = s * 2 ^ (r.length + 1) + r.foldl _ (2 * 0 + (d - 48))
      rw [h1, h2, Nat.pow_succ]
      grind
  have := gen r (2 * 0 + (c - 48))
  show r.foldl _ (2 * 0 + (c - 48)) = _
  rw [this]
  simp
theorem bin_turn (h r : List Nat) (c : Nat) : binN (h ++ [c]) (r ++ [c]) = binN h (c :: r) := by
  have hB : 0 < 2 ^ h.length * (2 ^ (r.length + 1) - 1) := bot_pos (by omega)
  have hw : 1 ≤ 2 ^ (r.length + 1) := two_pow_pos _
  unfold binN botN
  rw [bv_snoc, bv_snoc, bv_cons]
  simp only [List.length_append, List.length_cons, List.length_nil, Nat.zero_add]
  have e1 : 2 ^ (h.length + 1) * (2 ^ (r.length + 1) - 1) = 2 * (2 ^ h.length * (2 ^ (r.length + 1) - 1)) := by rw [Nat.pow_succ]; grind
  have e2 : (2 * bv h + (c - 48)) * (2 ^ (r.length + 1) - 1) + (2 * bv r + (c - 48)) = 2 * (bv h * (2 ^ (r.length + 1) - 1) + ((c - 48) * 2 ^ r.length + bv r)) := by
    have e3 : 2 ^ (r.length + 1) = (2 ^ (r.length + 1) - 1) + 1 := by omega
    have e4 : 2 ^ (r.length + 1) = 2 * 2 ^ r.length := by rw [Nat.pow_succ]; omega
    generalize 2 ^ (r.length + 1) - 1 = W at *
    rw [e3] at e4
    generalize 2 ^ r.length = V at *
    have : W = 2 * V - 1 := by omega
    have hV : 1 ≤ V := by omega
    obtain ⟨u, rfl⟩ : ∃ u, V = u + 1 := ⟨V - 1, by omega⟩
    have : W = 2 * u + 1 := by omega
    subst this
    grind
  rw [e1, e2, Nat.mul_mod_mul_left]
  refine red_eq (by omega) hB ?_
  grind
/-- all digits exchanged -/
def swC (c : Nat) : Nat := if c = 49 then 48 else 49
theorem bv_swap : ∀ (l : List Nat), Dg l → bv (l.map swC) + bv l = 2 ^ l.length - 1 := by
  intro l
  induction l with
  | nil => intro _; rfl
  | cons c r ih =>
    intro h
    have h1 := ih fun d hd => h d (List.mem_cons_of_mem _ hd)
    have hp := two_pow_pos r.length
    rw [List.map_cons, bv_cons, bv_cons, List.length_map, List.length_cons, Nat.pow_succ]
    rcases h c List.mem_cons_self with rfl | rfl
    · simp [swC]; omega
    · simp [swC]; omega
theorem dg_swap {l : List Nat} (h : Dg l) : Dg (l.map swC) := by
  intro c hc
  obtain ⟨d, _, rfl⟩ := List.mem_map.mp hc
  unfold swC
  split
  · exact .inl rfl
  · exact .inr rfl
theorem red_mirN {p q : Nat} (hq : 0 < q) (hp : p ≤ q) : red ((q - p) % q) q = mirN (red (p % q) q) := by
  have hl : p % q < q := Nat.mod_lt _ hq
  generalize hr : p % q = r at *
  have e : (q - p) % q = if r = 0 then 0 else q - r := by
    by_cases z : p = q
    · subst z
      rw [Nat.mod_self] at hr
      rw [if_pos hr.symm, Nat.sub_self, Nat.zero_mod]
    · have : r = p := by rw [← hr, Nat.mod_eq_of_lt (by omega)]
      subst this
      split
      · rename_i z0; rw [z0, Nat.sub_zero, Nat.mod_self]
      · rw [Nat.mod_eq_of_lt (by omega)]
  rw [e]
  have hc := red_cross (p := r) (q := q)
  have h0 := red_pos (p := r) hq
  have hlt := red_lt hl
  have hcop := red_coprime (p := r) hq
  generalize red r q = x at *
  have hm : Nat.Coprime (mirN x).1 (mirN x).2 := by
    show Nat.Coprime (if x.1 = 0 then 0 else x.2 - x.1) x.2
    split
    · rename_i z; rw [z] at hcop; exact hcop
    · unfold Nat.Coprime at hcop ⊢
      rw [Nat.gcd_comm, Nat.gcd_self_sub_right (Nat.le_of_lt hlt), Nat.gcd_comm]
      exact hcop
  refine red_of hm h0 hq ?_
  show (if x.1 = 0 then 0 else x.2 - x.1) * q = (if r = 0 then 0 else q - r) * x.2
  by_cases z : r = 0
  · have z1 : x.1 = 0 := by
      rw [z, Nat.zero_mul] at hc
      rcases Nat.mul_eq_zero.mp hc with w | w
      · exact w
      · omega
    rw [if_pos z, if_pos z1, Nat.zero_mul, Nat.zero_mul]
  · have z1 : x.1 ≠ 0 := by
      intro w
      rw [w, Nat.zero_mul] at hc
      rcases Nat.mul_eq_zero.mp hc.symm with u | u
      · exact z u
      · omega
    rw [if_neg z, if_neg z1, Nat.sub_mul, Nat.sub_mul, hc, Nat.mul_comm x.2 q]
theorem bin_swap {h t : List Nat} (dh : Dg h) (dt : Dg t) (ht : t ≠ []) : binN (h.map swC) (t.map swC) = mirN (binN h t) := by
  have hB := botN_pos (h := h) ht
  have e1 := bv_swap h dh
  have e2 := bv_swap t dt
  have b1 := bv_lt h dh
  have b2 := bv_lt t dt
  have p1 := two_pow_pos h.length
  unfold binN
  rw [show botN (h.map swC) (t.map swC) = botN h t by simp [botN], List.length_map]
  have hle : bv h * (2 ^ t.length - 1) + bv t ≤ botN h t := by
    unfold botN
    have : (bv h + 1) * (2 ^ t.length - 1) ≤ 2 ^ h.length * (2 ^ t.length - 1) := Nat.mul_le_mul_right _ b1
    rw [Nat.add_mul, Nat.one_mul] at this
    omega
  have e3 : bv (h.map swC) * (2 ^ t.length - 1) + bv (t.map swC) = botN h t - (bv h * (2 ^ t.length - 1) + bv t) := by
    have e4 : bv (t.map swC) = (2 ^ t.length - 1) - bv t := by omega
    have e5 : bv (h.map swC) = 2 ^ h.length - 1 - bv h := by omega
    rw [e4, e5]
    unfold botN at *
    generalize 2 ^ t.length - 1 = W at *
    have : (2 ^ h.length - 1 - bv h) * W = 2 ^ h.length * W - (bv h + 1) * W := by rw [← Nat.sub_mul]; congr 1; omega
    rw [this, Nat.add_mul, Nat.one_mul]
    have : (bv h + 1) * W ≤ 2 ^ h.length * W := Nat.mul_le_mul_right _ b1
    rw [Nat.add_mul, Nat.one_mul] at this
    omega
  rw [e3]
  exact red_mirN hB hle
/-! ### the doubled place's orbit -/
theorem twosF_half {f b : Nat} (h : b % 2 = 0) (hb : 0 < b) (hf : b < 2 ^ f) : twosF (f + 1) b = twosF f (b / 2) + 1 := by
  show (if b % 2 = 0 then twosF f (b / 2) + 1 else 0) = _
  rw [if_pos h]
theorem twosF_mono : ∀ (f g b : Nat), 0 < b → b < 2 ^ f → b < 2 ^ g → twosF f b = twosF g b := by
  intro f
  induction f with
  | zero => intro g b h1 h2; omega
  | succ f ih =>
    intro g b h1 h2 h3
    cases g with
    | zero => omega
    | succ g =>
      show (if b % 2 = 0 then twosF f (b / 2) + 1 else 0) = (if b % 2 = 0 then twosF g (b / 2) + 1 else 0)
      split
      · rw [ih g (b / 2) (by omega) (by rw [Nat.pow_succ] at h2; omega) (by rw [Nat.pow_succ] at h3; omega)]
      · rfl
theorem twos_even {b : Nat} (h1 : 0 < b) (h2 : b < 2 ^ 50) (e : b % 2 = 0) : twos b = twos (b / 2) + 1 := by
  have h60 : (2 : Nat) ^ 50 < 2 ^ 60 := by decide
  have h59 : (2 : Nat) ^ 50 < 2 ^ 59 := by decide
  show twosF (59 + 1) b = twosF 60 (b / 2) + 1
  rw [twosF_half e h1 (by omega), twosF_mono 59 60 (b / 2) (by omega) (by omega) (by omega)]
theorem twos_odd {b : Nat} (e : b % 2 = 1) : twos b = 0 := by
  show (if b % 2 = 0 then twosF 59 (b / 2) + 1 else 0) = 0
  rw [if_neg (by omega)]
theorem odd_half {b : Nat} (h1 : 0 < b) (h2 : b < 2 ^ 50) (e : b % 2 = 0) : oddOf (b / 2) = oddOf b := by
  unfold oddOf
  rw [twos_even h1 h2 e, Nat.pow_succ, Nat.div_div_eq_div_mul, Nat.mul_comm 2]
theorem dbl_ways {x : Nat × Nat} (h : Plc x) : wayN (dblN x) = wayN x - 1 ∧ perN (dblN x) = perN x := by
  have hp := h.pos
  have hs := h.small
  have h50 : (2 : Nat) ^ 24 < 2 ^ 50 := by decide
  unfold wayN perN dblN
  split
  · rename_i e
    refine ⟨?_, ?_⟩
    · show twos (x.2 / 2) = twos x.2 - 1
      rw [twos_even hp (by omega) e]; omega
    · show ordN (oddOf (x.2 / 2)) = ordN (oddOf x.2)
      rw [odd_half hp (by omega) e]
  · rename_i e
    refine ⟨?_, rfl⟩
    show twos x.2 = twos x.2 - 1
    rw [twos_odd (by omega)]
theorem digL_dbl {x : Nat × Nat} (h : Plc x) : (frontL (dblN x), backL (dblN x)) = if wayN x = 0 then ([], (backL x).tail ++ (backL x).take 1) else ((frontL x).tail, backL x) := by
  have w := ways h
  have w1 := w.n1
  obtain ⟨d1, d2⟩ := dbl_ways h
  have hit : ∀ i, itN i (dblN x) = itN (i + 1) x := fun i => rfl
  have fd : ∀ y i k, digsFrom y i k = (List.range k).map fun j => dig (itN (i + j) y) := fun _ _ _ => rfl
  unfold frontL backL
  rw [digL_take, digL_drop, digL_take, digL_drop, d1, d2]
  by_cases z : wayN x = 0
  · rw [if_pos z, z]
    have e0 : itN (0 + perN x) x = itN 0 x := by have := w.back; rwa [z] at this
    refine Prod.ext rfl ?_
    show digsFrom (dblN x) 0 (perN x) = (digsFrom x 0 (perN x)).tail ++ (digsFrom x 0 (perN x)).take 1
    obtain ⟨n, hn⟩ : ∃ n, perN x = n + 1 := ⟨perN x - 1, by omega⟩
    rw [hn] at e0 ⊢
    have e1 : digsFrom x 0 (n + 1) = dig (itN 0 x) :: (List.range n).map fun j => dig (itN (j + 1) x) := by
      rw [fd, List.range_succ_eq_map, List.map_cons, List.map_map]
      congr 1
      apply List.map_congr_left
      intro j _
      simp
    rw [e1, digsFrom_succ, fd]
    simp only [List.tail_cons, List.take_succ_cons, List.take_zero, hit, Nat.zero_add] at *
    rw [e0]
  · rw [if_neg z]
    obtain ⟨m, hm⟩ : ∃ m, wayN x = m + 1 := ⟨wayN x - 1, by omega⟩
    rw [hm, Nat.add_sub_cancel]
    refine Prod.ext ?_ ?_
    · show digsFrom (dblN x) 0 m = (digsFrom x 0 (m + 1)).tail
      rw [fd, fd, List.range_succ_eq_map, List.map_cons, List.map_map, List.tail_cons]
      apply List.map_congr_left
      intro j _
      simp [hit]
    · show digsFrom (dblN x) m (perN x) = digsFrom x (m + 1) (perN x)
      rw [fd, fd]
      apply List.map_congr_left
      intro j _
      rw [hit, show m + j + 1 = m + 1 + j by omega]
/-! ### mirrored -/
theorem mir_dbl {x : Nat × Nat} (h : Plc x) : dblN (mirN x) = mirN (dblN x) := by
  have hm := mir_plc h
  have hp := h.pos
  rw [dbl_red hm, dbl_red h]
  show red (2 * (if x.1 = 0 then 0 else x.2 - x.1) % x.2) x.2 = _
  have hl := h.lt
  have e : 2 * (if x.1 = 0 then 0 else x.2 - x.1) % x.2 = (x.2 - 2 * x.1 % x.2) % x.2 := by
    by_cases z : x.1 = 0
    · rw [if_pos z, z]; simp
    · rw [if_neg z]
      by_cases z2 : 2 * x.1 < x.2
      · rw [Nat.mod_eq_of_lt z2, show 2 * (x.2 - x.1) = (x.2 - 2 * x.1) + x.2 by omega, Nat.add_mod_right]
      · rw [show 2 * x.1 = (2 * x.1 - x.2) + x.2 by omega, Nat.add_mod_right, Nat.mod_eq_of_lt (show 2 * x.1 - x.2 < x.2 by omega)]
        congr 1
        omega
  rw [e, red_mirN hp (Nat.le_of_lt (Nat.mod_lt _ hp)), Nat.mod_mod]
theorem mir_it {x : Nat × Nat} (h : Plc x) (i : Nat) : itN i (mirN x) = mirN (itN i x) := by
  induction i with
  | zero => rfl
  | succ i ih => rw [itN_succ, ih, mir_dbl (it_plc h i), itN_succ]
theorem mir_digs {x : Nat × Nat} (h : Plc x) (hn : ∀ i, i < wayN x + perN x → (itN i x).1 ≠ 0 ∧ 2 * (itN i x).1 ≠ (itN i x).2) : frontL (mirN x) = (frontL x).map swC ∧ backL (mirN x) = (backL x).map swC := by
  have hw : wayN (mirN x) = wayN x := rfl
  have hpr : perN (mirN x) = perN x := rfl
  have hd : digL (mirN x) = (digL x).map swC := by
    unfold digL orbN
    rw [hw, hpr, List.map_map, List.map_map, List.map_map]
    apply List.map_congr_left
    intro i hi
    have := hn i (List.mem_range.mp hi)
    have hl := (it_plc h i).lt
    show dig (itN i (mirN x)) = swC (dig (itN i x))
    rw [mir_it h]
    unfold dig mirN swC
    simp only [if_neg this.1]
    by_cases z : 2 * (itN i x).1 < (itN i x).2
    · rw [if_pos z, if_neg (by omega), if_neg (by decide)]
    · rw [if_neg z, if_pos (by omega), if_pos rfl]
  unfold frontL backL
  rw [hd, hw, List.map_take, List.map_drop]
  exact ⟨rfl, rfl⟩
/-- a place that comes to zero has the cycle "0" -/
theorem zero_back {x : Nat × Nat} (h : Plc x) {i : Nat} (hi : (itN i x).1 = 0) : backL x = [48] := by
  have hz : ∀ y : Nat × Nat, Plc y → y.1 = 0 → y = (0, 1) := by
    intro y hy e
    have hc := hy.cop
    rw [e] at hc
    have : y.2 = 1 := by simpa [Nat.Coprime] using hc
    exact Prod.ext e this
  have e0 : itN i x = (0, 1) := hz _ (it_plc h i) hi
  have d0 : dblN (0, 1) = (0, 1) := by decide
  have e1 : itN (i + 1) x = itN i x := by rw [itN_succ, e0, d0]
  have w := ways h
  have hper : perN x = 1 := by
    have h1 := (w.eq i (i + 1) (by omega)).mp e1.symm
    have h2 := w.lt 1 (by omega)
    have h3 := w.n1
    by_cases z : perN x = 1
    · exact z
    · have := h2 (by omega)
      rw [show i + 1 - i = 1 by omega] at h1
      exact absurd h1.2 this
  have hway : wayN x ≤ i := ((w.eq i (i + 1) (by omega)).mp e1.symm).1
  have e2 : itN (wayN x) x = (0, 1) := by
    have hb := w.back
    rw [hper] at hb
    have : ∀ k, itN (wayN x + k) x = itN (wayN x) x := by
      intro k
      induction k with
      | zero => rfl
      | succ k ih => rw [← Nat.add_assoc, itN_succ, ih, ← itN_succ, hb]
    have := this (i - wayN x)
    rw [show wayN x + (i - wayN x) = i by omega] at this
    rw [← this, e0]
  unfold backL
  rw [digL_drop, hper]
  show [dig (itN (wayN x + 0) x)] = [48]
  rw [Nat.add_zero, e2]
  rfl
theorem half_zero {y : Nat × Nat} (h : Plc y) (e : 2 * y.1 = y.2) : (dblN y).1 = 0 := by
  rw [dbl_red h, e, Nat.mod_self]
  show 0 / _ = 0
  simp
theorem rep_dg {n : Nat} {l : List Nat} (h : Dg l) : Dg (List.replicate n l).flatten := by
  intro c hc
  obtain ⟨y, hy, hc⟩ := List.mem_flatten.mp hc
  rw [(List.mem_replicate.mp hy).2] at hc
  exact h c hc
theorem repl_len (n : Nat) (l : List Nat) : (List.replicate n l).flatten.length = n * l.length := by
  induction n with
  | zero => simp
  | succ n ih => rw [List.replicate_succ, List.flatten_cons, List.length_append, ih, Nat.succ_mul]; omega
theorem dg_one : Dg [49] := fun c hc => by simp at hc; exact .inr hc
theorem dg_zero : Dg [48] := fun c hc => by simp at hc; exact .inl hc
theorem dg_nil : Dg [] := fun c hc => by cases hc
end Tw
namespace Tw
open PySem PySem.Spec PyProof.Rows L2
namespace Bn
open PySem.NumText PySem.Calls
def IsB (c : Nat) : Prop := c = 48 ∨ c = 49
theorem hexOf {c : Nat} (h : IsB c) : Hx.IsHex c := by rcases h with rfl | rfl <;> exact .inl ⟨by decide, by decide⟩
theorem one_step {ds : Array Nat} {b : Bool} {c : Nat} (h : IsB c) : PySem.NumText.step 2 (ds, b) c = some (ds.push (c - 48), true) := by
  rcases h with rfl | rfl <;> rfl
theorem all_steps (cs : List Nat) : ∀ ds : Array Nat, (∀ c ∈ cs, IsB c) → cs.foldlM (PySem.NumText.step 2) (ds, true) = some (cs.foldl (fun r c => r.push (c - 48)) ds, true) := by
  induction cs with
  | nil => intro _ _; rfl
  | cons c cs ih =>
    intro ds h
    rw [List.foldlM_cons, one_step (h c List.mem_cons_self)]
    exact ih _ fun d hd => h d (List.mem_cons_of_mem _ hd)
theorem digitsB {cs : List Nat} (h : ∀ c ∈ cs, IsB c) (hne : cs ≠ []) : digits? 2 cs = some (cs.foldl (fun r c => r.push (c - 48)) #[]) := by
  obtain ⟨c, r, rfl⟩ := List.exists_cons_of_ne_nil hne
  unfold digits?
  rw [List.foldlM_cons, one_step (h c List.mem_cons_self)]
  have := all_steps r ((#[] : Array Nat).push (c - 48)) fun d hd => h d (List.mem_cons_of_mem _ hd)
  show (r.foldlM (PySem.NumText.step 2) ((#[] : Array Nat).push (c - 48), true)).bind _ = _
  rw [this]
  rfl
/-- what the signs are worth -/
def val (l : List Nat) : Nat := l.foldl (fun a c => 2 * a + (c - 48)) 0
theorem val_push (cs : List Nat) : ∀ ds : Array Nat, (cs.foldl (fun r c => r.push (c - 48)) ds).foldl (fun acc d => acc * 2 + d) 0 = cs.foldl (fun a c => 2 * a + (c - 48)) (ds.foldl (fun acc d => acc * 2 + d) 0) := by
  induction cs with
  | nil => intro _; rfl
  | cons c cs ih =>
    intro ds
    rw [List.foldl_cons, ih, List.foldl_cons]
    congr 1
    simp
    omega
theorem basedB {cs : List Nat} (h : ∀ c ∈ cs, IsB c) : based 2 cs = (2, false, cs) := by
  match cs, h with
  | [], _ => rfl
  | [a], h => rcases h a List.mem_cons_self with rfl | rfl <;> rfl
  | a :: c :: r, h =>
    rcases h a List.mem_cons_self with rfl | rfl
    · rcases h c (List.mem_cons_of_mem _ List.mem_cons_self) with rfl | rfl <;> rfl
    · rfl
theorem readB {cs : List Nat} (h : ∀ c ∈ cs, IsB c) (hne : cs ≠ []) : (int_private% "readNumeral") 0 2 cs = (int_private% "Numeral.value") ((val cs : Nat) : Int) := by
  have hx : ∀ c ∈ cs, Hx.IsHex c := fun c hc => hexOf (h c hc)
  have hr : ∀ c ∈ cs.reverse, Hx.IsHex c := fun c hc => hx c (List.mem_reverse.mp hc)
  rw [readNumeral_eq 0 2 cs, Hx.dropB hx, Hx.signH hx]
  show judge 0 false (based 2 cs).1 (based 2 cs).2.1 (digits? (based 2 cs).1 (((based 2 cs).2.2.reverse.dropWhile blank).reverse)) = _
  rw [basedB h]
  show judge 0 false 2 false (digits? 2 ((cs.reverse.dropWhile blank).reverse)) = _
  rw [Hx.dropB hr, List.reverse_reverse, digitsB h hne]
  show (int_private% "Numeral.value") (((cs.foldl (fun r c => r.push (c - 48)) (#[] : Array Nat)).foldl (fun acc d => acc * 2 + d) 0 : Nat) : Int) = _
  rw [val_push]
  rfl
structure Box (p : Prop) : Prop where
  out : p
set_option maxHeartbeats 4000000 in
theorem gives {x : PySem.Str} {u t : Tok} (hl : x.length ≤ 640) (h : ∀ c ∈ x.cps.toList, IsB c) (hne : x.cps.toList ≠ []) :
    Gives (Builtin.«int.__new__» ⟨[.type "int", .str x u, .int 2 t], []⟩) (.int ((val x.cps.toList : Nat) : Int)) :=
  .of_wp fun M A E s Q hQ => by
    obtain ⟨hp, g, d, tk, os⟩ := s
    have a1 := F.conv_sub_int
    have a2 := F.madeHere_int
    have a3 : typeOf (.str x u) = pure (.type "str") := rfl
    obtain ⟨b1, b2⟩ := Hx.seen_hex (x := x) fun c hc => hexOf (h c hc)
    have c1 : (numSeenOf x).length ≤ 640 := by rw [b2, Array.length_toList]; exact hl
    have c2 : (int_private% "readNumeral") 0 2 (numSeenOf x) = (int_private% "Numeral.value") ((val x.cps.toList : Nat) : Int) := by rw [b2]; exact readB h hne
    have c3 : ((numSeenOf x).length == (numTextOf x).length) = true := by rw [b1, b2]; exact beq_self_eq_true _
    have k := Box.mk (And.intro c1 (And.intro c2 c3))
    clear c1 c2 c3 b1 b2 hl hne h
    repeat (any_goals (first
      | assumption
      | ((with_reducible show wpAny _ _ ((int_private% "intFromText") _ _ _) _ _ _); refine Hx.wp_textB k.out.1 k.out.2.1 k.out.2.2 ?_)
      | wp_step))
    all_goals first | exact ⟨_, rfl, hQ⟩ | skip
end Bn
def rIntB : List V → Hp → VK → Prop := fun xs H Q => ∃ l : List Nat, xs = [.str (Sg l), .int 2] ∧ l ≠ [] ∧ l.length ≤ 640 ∧ (∀ c ∈ l, Bn.IsB c) ∧ Q (.int ((Bn.val l : Nat) : Int)) H
theorem cl_intB {X : Cx} : CallR X (.type "int") rIntB := by
  intro pins s σ H xs us Q I r h
  obtain ⟨l, rfl, hne, hl, hx, q⟩ := h
  obtain ⟨u, w', rfl, r1, r2⟩ := vals2 r
  obtain ⟨t1, rfl⟩ := r1
  obtain ⟨t2, rfl⟩ := r2
  have e := sg_tl l
  refine callType_new PySem.F.called_int PySem.F.newNe_int (Hx.typeCall_int_2 _ _) (Hx.newCall_int_2 _ _) (fun obj => PySem.F.initArgs_range_2 obj _ _) PySem.F.entry_int_new (Bn.gives (x := Sg l) (by rw [sg_len]; exact hl) (by rw [e]; exact hx) (by rw [e]; exact hne)).meets (show (Made.int ((Bn.val (Sg l).cps.toList : Nat) : Int)).post _ s from ⟨rfl, ?_⟩)
  rw [e]
  exact ⟨.int _, H, I.tok _, ⟨_, rfl⟩, q⟩
end Tw
namespace Tw
open PySem PySem.Spec PyProof.Rows L2
/-- a test whose way returns nothing but False, and that doesn't hold -/
theorem w_check {t : TS} {D : Ends} {σ : L2.St} {H : Hp} (h : ∀ nx' : L2.St → Hp → Prop, (∀ H', Same H H' → nx' σ H') → t { D with nx := nx' } σ H) (k : ∀ H', Same H H' → D.nx σ H') : t D σ H := h D.nx k
end Tw
namespace Tw
open PySem PySem.Spec PyProof.Rows L2
/-! ### going back by halves -/
/-- (x + j) / 2 ^ k -/
def hvN (x : Nat × Nat) (k j : Nat) : Nat × Nat := red (x.1 + j * x.2) (2 ^ k * x.2)
theorem hv_zero {x : Nat × Nat} (h : Plc x) : hvN x 0 0 = x := by
  unfold hvN
  rw [Nat.zero_mul, Nat.add_zero, Nat.pow_zero, Nat.one_mul]
  exact red_self h.cop
theorem hv_top {x : Nat × Nat} (h : Plc x) {k j : Nat} (hj : j < 2 ^ k) : x.1 + j * x.2 < 2 ^ k * x.2 := by
  have : (j + 1) * x.2 ≤ 2 ^ k * x.2 := Nat.mul_le_mul_right _ hj
  have := h.lt
  rw [Nat.add_mul, Nat.one_mul] at *
  omega
theorem hv_plc {x : Nat × Nat} (h : Plc x) {m n k j : Nat} (hn : 1 ≤ n) (hmn : m + k + n ≤ 24) (hd : x.2 ∣ 2 ^ m * (2 ^ n - 1)) (hj : j < 2 ^ k) : Plc (hvN x k j) := by
  have hp := h.pos
  have hq : 0 < 2 ^ k * x.2 := Nat.mul_pos (two_pow_pos k) hp
  refine ⟨red_lt (hv_top h hj), red_coprime hq, m + k, n, hn, by omega, ?_⟩
  refine Nat.dvd_trans red_dvd ?_
  rw [Nat.pow_add, Nat.mul_comm (2 ^ m), Nat.mul_assoc]
  exact Nat.mul_dvd_mul_left _ hd
theorem red_half (p q : Nat) (hq : 0 < q) (c : Nat) : red ((red p q).1 + c * (red p q).2) (2 * (red p q).2) = red (p + c * q) (2 * q) := by
  have hc := red_cross (p := p) (q := q)
  have h0 := red_pos (p := p) hq
  refine red_eq (by omega) (by omega) ?_
  generalize red p q = r at *
  grind
theorem hv_low {x : Nat × Nat} (h : Plc x) (k j : Nat) : red (hvN x k j).1 (2 * (hvN x k j).2) = hvN x (k + 1) j := by
  have hq : 0 < 2 ^ k * x.2 := Nat.mul_pos (two_pow_pos k) h.pos
  have := red_half (x.1 + j * x.2) (2 ^ k * x.2) hq 0
  rw [Nat.zero_mul, Nat.zero_mul, Nat.add_zero, Nat.add_zero] at this
  show red (red _ _).1 _ = _
  unfold hvN
  rw [this, Nat.pow_succ]
  congr 1
  rw [Nat.mul_comm (2 ^ k) 2, Nat.mul_assoc]
theorem hv_high {x : Nat × Nat} (h : Plc x) (k j : Nat) : red ((hvN x k j).1 + (hvN x k j).2) (2 * (hvN x k j).2) = hvN x (k + 1) (j + 2 ^ k) := by
  have hq : 0 < 2 ^ k * x.2 := Nat.mul_pos (two_pow_pos k) h.pos
  have := red_half (x.1 + j * x.2) (2 ^ k * x.2) hq 1
  rw [Nat.one_mul, Nat.one_mul] at this
  unfold hvN
  rw [this, Nat.pow_succ]
  congr 1
  · rw [Nat.add_mul, Nat.add_assoc]
  · rw [Nat.mul_comm (2 ^ k) 2, Nat.mul_assoc]
/-- the numbers of the rows, in their turn -/
def jsN : Nat → List Nat
  | 0 => [0]
  | k + 1 => (jsN k).flatMap fun j => [j, j + 2 ^ k]
theorem js_len (k : Nat) : (jsN k).length = 2 ^ k := by
  induction k with
  | zero => rfl
  | succ k ih =>
    have : ∀ l : List Nat, (l.flatMap fun j => [j, j + 2 ^ k]).length = 2 * l.length := by
      intro l
      induction l with
      | nil => rfl
      | cons a r ih => rw [List.flatMap_cons, List.length_append, ih]; simp; omega
    rw [jsN, this, ih, Nat.pow_succ]; omega
theorem js_mem (k j : Nat) : j ∈ jsN k ↔ j < 2 ^ k := by
  induction k generalizing j with
  | zero => simp [jsN]
  | succ k ih =>
    rw [jsN, List.mem_flatMap, Nat.pow_succ]
    constructor
    · rintro ⟨i, hi, hj⟩
      have := (ih i).mp hi
      simp at hj
      omega
    · intro h
      by_cases z : j < 2 ^ k
      · exact ⟨j, (ih j).mpr z, by simp⟩
      · exact ⟨j - 2 ^ k, (ih _).mpr (by omega), by simp; omega⟩
/-- the places (x + j) / 2 ^ k by size -/
def dueN (x : Nat × Nat) (k : Nat) : List (Nat × Nat) := (List.range (2 ^ k)).map (hvN x k)
theorem hv_sz {x : Nat × Nat} (h : Plc x) {k j : Nat} (hy : Plc (hvN x k j)) : sz (hvN x k j) * (2 ^ k * x.2) = (x.1 + j * x.2) * CN := by
  have hq : 0 < 2 ^ k * x.2 := Nat.mul_pos (two_pow_pos k) h.pos
  have h1 := sz_mul hy
  have h2 := red_cross (p := x.1 + j * x.2) (q := 2 ^ k * x.2)
  have h0 := hy.pos
  change (hvN x k j).1 * _ = _ * (hvN x k j).2 at h2
  have : sz (hvN x k j) * (2 ^ k * x.2) * (hvN x k j).2 = (x.1 + j * x.2) * CN * (hvN x k j).2 := by
    generalize hvN x k j = y at *
    generalize 2 ^ k * x.2 = B at *
    generalize x.1 + j * x.2 = A at *
    calc sz y * B * y.2 = sz y * y.2 * B := by grind
      _ = y.1 * CN * B := by rw [h1]
      _ = y.1 * B * CN := by grind
      _ = A * y.2 * CN := by rw [h2]
      _ = A * CN * y.2 := by grind
  exact Nat.eq_of_mul_eq_mul_right h0 this
theorem hv_less {x : Nat × Nat} (h : Plc x) {k i j : Nat} (hi : Plc (hvN x k i)) (hj : Plc (hvN x k j)) (hij : i < j) : sz (hvN x k i) < sz (hvN x k j) := by
  have hq : 0 < 2 ^ k * x.2 := Nat.mul_pos (two_pow_pos k) h.pos
  have e1 := hv_sz h hi
  have e2 := hv_sz h hj
  have hlt : (x.1 + i * x.2) * CN < (x.1 + j * x.2) * CN := by
    refine Nat.mul_lt_mul_of_pos_right ?_ CN_pos
    have := Nat.mul_lt_mul_of_pos_right hij h.pos
    omega
  rw [← e1, ← e2] at hlt
  exact Nat.lt_of_mul_lt_mul_right hlt
/-- two lists that ascend and have the same places are one -/
theorem asc_unique : ∀ {xs ys : List (Nat × Nat)}, xs.Pairwise (fun x y => sz x < sz y) → ys.Pairwise (fun x y => sz x < sz y) → (∀ x, x ∈ xs ↔ x ∈ ys) → xs = ys := by
  intro xs
  induction xs with
  | nil =>
    intro ys _ _ h
    cases ys with
    | nil => rfl
    | cons y ys => exact absurd ((h y).mpr List.mem_cons_self) (by simp)
  | cons x xs ih =>
    intro ys h1 h2 h
    cases ys with
    | nil => exact absurd ((h x).mp List.mem_cons_self) (by simp)
    | cons y ys =>
      cases h1 with
      | cons a1 b1 => cases h2 with
        | cons a2 b2 =>
          have hxy : x = y := by
            rcases List.mem_cons.mp ((h x).mp List.mem_cons_self) with e | hx
            · exact e
            · rcases List.mem_cons.mp ((h y).mpr List.mem_cons_self) with e | hy
              · exact e.symm
              · have := a2 x hx; have := a1 y hy; omega
          subst hxy
          congr 1
          refine ih b1 b2 fun z => ?_
          constructor
          · intro hz
            rcases List.mem_cons.mp ((h z).mp (List.mem_cons_of_mem _ hz)) with e | h'
            · have := a1 z hz; rw [e] at this; omega
            · exact h'
          · intro hz
            rcases List.mem_cons.mp ((h z).mpr (List.mem_cons_of_mem _ hz)) with e | h'
            · have := a2 z hz; rw [e] at this; omega
            · exact h'
theorem due_asc {x : Nat × Nat} (h : Plc x) {k : Nat} (hy : ∀ j, j < 2 ^ k → Plc (hvN x k j)) : (dueN x k).Pairwise fun x y => sz x < sz y := by
  unfold dueN
  rw [List.pairwise_map]
  refine List.Pairwise.imp_of_mem ?_ (List.pairwise_lt_range (n := 2 ^ k))
  intro i j hi hj hij
  exact hv_less h (hy i (List.mem_range.mp hi)) (hy j (List.mem_range.mp hj)) hij
theorem due_mem {x : Nat × Nat} {k : Nat} {y : Nat × Nat} : y ∈ dueN x k ↔ ∃ j, j < 2 ^ k ∧ hvN x k j = y := by
  unfold dueN
  rw [List.mem_map]
  constructor
  · rintro ⟨j, hj, e⟩; exact ⟨j, List.mem_range.mp hj, e⟩
  · rintro ⟨j, hj, e⟩; exact ⟨j, List.mem_range.mpr hj, e⟩
/-- doubled so many times, it is x -/
theorem dbl_hv {x : Nat × Nat} (h : Plc x) {k j : Nat} (hy : Plc (hvN x (k + 1) j)) : dblN (hvN x (k + 1) j) = hvN x k (j % 2 ^ k) := by
  have hp := h.pos
  have hq : 0 < 2 ^ k * x.2 := Nat.mul_pos (two_pow_pos k) hp
  have hq1 : 0 < 2 ^ (k + 1) * x.2 := Nat.mul_pos (two_pow_pos _) hp
  have hl : x.1 + j * x.2 < 2 ^ (k + 1) * x.2 := by
    have := hy.lt
    have hc := red_cross (p := x.1 + j * x.2) (q := 2 ^ (k + 1) * x.2)
    have h0 := hy.pos
    change (hvN x (k + 1) j).1 * _ = _ * (hvN x (k + 1) j).2 at hc
    have h3 : (hvN x (k + 1) j).1 * (2 ^ (k + 1) * x.2) < (hvN x (k + 1) j).2 * (2 ^ (k + 1) * x.2) := Nat.mul_lt_mul_of_pos_right this hq1
    rw [hc, Nat.mul_comm] at h3
    exact Nat.lt_of_mul_lt_mul_left h3
  rw [dbl_red hy]
  unfold hvN
  rw [red_mod2 hq1 hl]
  have e1 : 2 ^ (k + 1) * x.2 = 2 * (2 ^ k * x.2) := by rw [Nat.pow_succ, Nat.mul_comm (2 ^ k) 2, Nat.mul_assoc]
  rw [e1, Nat.mul_mod_mul_left]
  have e2 : (x.1 + j * x.2) % (2 ^ k * x.2) = x.1 + j % 2 ^ k * x.2 := by
    have hm := Nat.mod_lt j (two_pow_pos k)
    have hd := Nat.div_add_mod j (2 ^ k)
    have : x.1 + j * x.2 = (x.1 + j % 2 ^ k * x.2) + (2 ^ k * x.2) * (j / 2 ^ k) := by
      conv => lhs; rw [← hd]
      grind
    rw [this, Nat.add_mul_mod_self_left, Nat.mod_eq_of_lt (hv_top h hm)]
  rw [e2]
  refine red_eq (by omega) hq ?_
  grind
theorem it_hv {x : Nat × Nat} (h : Plc x) : ∀ (k j : Nat), (∀ i, i ≤ k → ∀ j, j < 2 ^ i → Plc (hvN x i j)) → j < 2 ^ k → itN k (hvN x k j) = x := by
  intro k
  induction k with
  | zero =>
    intro j _ hj
    have : j = 0 := by simpa using hj
    subst this
    exact hv_zero h
  | succ k ih =>
    intro j hy hj
    show itN k (dblN (hvN x (k + 1) j)) = x
    rw [dbl_hv h (hy (k + 1) (Nat.le_refl _) j hj)]
    exact ih _ (fun i hi => hy i (by omega)) (Nat.mod_lt _ (two_pow_pos k))
theorem it_ways {x : Nat × Nat} (h : Plc x) (k : Nat) : wayN (itN k x) = wayN x - k ∧ perN (itN k x) = perN x := by
  induction k with
  | zero => exact ⟨rfl, rfl⟩
  | succ k ih =>
    rw [itN_succ]
    have := dbl_ways (it_plc h k)
    rw [ih.1, ih.2] at this
    exact ⟨by rw [this.1]; omega, this.2⟩
/-! ### texts of digits ahead -/
def hdsN : Nat → List (List Nat)
  | 0 => [[]]
  | k + 1 => (hdsN k).map (48 :: ·) ++ (hdsN k).map (49 :: ·)
theorem hds_len (k : Nat) : (hdsN k).length = 2 ^ k ∧ ∀ t ∈ hdsN k, t.length = k ∧ Dg t := by
  induction k with
  | zero => exact ⟨rfl, fun t ht => by simp [hdsN] at ht; subst ht; exact ⟨rfl, dg_nil⟩⟩
  | succ k ih =>
    constructor
    · rw [hdsN, List.length_append, List.length_map, List.length_map, ih.1, Nat.pow_succ]; omega
    · intro t ht
      rw [hdsN, List.mem_append, List.mem_map, List.mem_map] at ht
      have go : ∀ c, (c = 48 ∨ c = 49) → ∀ s, s ∈ hdsN k → (c :: s).length = k + 1 ∧ Dg (c :: s) := by
        intro c hc s hs
        have := ih.2 s hs
        refine ⟨by simp [this.1], fun d hd => ?_⟩
        rcases List.mem_cons.mp hd with rfl | hd
        · exact hc
        · exact this.2 d hd
      rcases ht with ⟨s, hs, rfl⟩ | ⟨s, hs, rfl⟩
      · exact go 48 (.inl rfl) s hs
      · exact go 49 (.inr rfl) s hs
theorem hds_bv (k : Nat) : (hdsN k).map bv = List.range (2 ^ k) := by
  induction k with
  | zero => rfl
  | succ k ih =>
    have hl := hds_len k
    rw [hdsN, List.map_append, List.map_map, List.map_map]
    have e1 : (hdsN k).map (bv ∘ (48 :: ·)) = (hdsN k).map bv := by
      apply List.map_congr_left
      intro t _
      show bv (48 :: t) = bv t
      rw [bv_cons]; simp
    have e2 : (hdsN k).map (bv ∘ (49 :: ·)) = ((hdsN k).map bv).map (2 ^ k + ·) := by
      rw [List.map_map]
      apply List.map_congr_left
      intro t ht
      show bv (49 :: t) = 2 ^ k + bv t
      rw [bv_cons, (hl.2 t ht).1]; simp
    rw [e1, e2, ih, Nat.pow_succ, show 2 ^ k * 2 = 2 ^ k + 2 ^ k by omega]
    exact List.range_add.symm
theorem bv_app (a b : List Nat) : bv (a ++ b) = bv a * 2 ^ b.length + bv b := by
  induction a with
  | nil => simp [bv]
  | cons c a ih =>
    rw [List.cons_append, bv_cons, ih, bv_cons, List.length_append, Nat.pow_add]
    grind
theorem bin_ahead {x : Nat × Nat} (hx : Plc x) {h c t : List Nat} (dt : Dg t) (dh : Dg h) (dc : Dg c) (hc : c ≠ []) (e : binN h c = x) (hlt : bv h * (2 ^ c.length - 1) + bv c < botN h c) : binN (t ++ h) c = hvN x t.length (bv t) := by
  have hB := botN_pos (h := h) hc
  have hB2 := botN_pos (h := t ++ h) hc
  have hp := hx.pos
  have eB : botN (t ++ h) c = 2 ^ t.length * botN h c := by
    unfold botN
    rw [List.length_append, Nat.pow_add, Nat.mul_assoc]
  have hx2 : x.1 * botN h c = (bv h * (2 ^ c.length - 1) + bv c) * x.2 := by
    have := red_cross (p := (bv h * (2 ^ c.length - 1) + bv c) % botN h c) (q := botN h c)
    rw [Nat.mod_eq_of_lt hlt] at this
    unfold binN at e
    rw [Nat.mod_eq_of_lt hlt] at e
    rw [e] at this
    exact this
  have b1 := bv_lt t dt
  have etop : bv (t ++ h) * (2 ^ c.length - 1) + bv c = bv t * botN h c + (bv h * (2 ^ c.length - 1) + bv c) := by
    rw [bv_app]
    unfold botN
    generalize 2 ^ c.length - 1 = W
    grind
  have hlt2 : bv t * botN h c + (bv h * (2 ^ c.length - 1) + bv c) < 2 ^ t.length * botN h c := by
    have : (bv t + 1) * botN h c ≤ 2 ^ t.length * botN h c := Nat.mul_le_mul_right _ b1
    rw [Nat.add_mul, Nat.one_mul] at this
    omega
  unfold binN hvN
  rw [etop, eB, Nat.mod_eq_of_lt hlt2]
  have hq : 0 < 2 ^ t.length * x.2 := Nat.mul_pos (two_pow_pos _) hp
  refine red_eq (by rw [← eB]; exact hB2) hq ?_
  generalize bv h * (2 ^ c.length - 1) + bv c = N at *
  generalize botN h c = B at *
  generalize 2 ^ t.length = T at *
  calc (bv t * B + N) * (T * x.2) = T * (bv t * B * x.2 + N * x.2) := by grind
    _ = T * (bv t * B * x.2 + x.1 * B) := by rw [hx2]
    _ = (x.1 + bv t * x.2) * (T * B) := by grind
/-- the digits of a place lie below the whole -/
theorem dig_below {x : Nat × Nat} (h : Plc x) : bv (frontL x) * (2 ^ (backL x).length - 1) + bv (backL x) < botN (frontL x) (backL x) := by
  have hp := h.pos
  have w := ways h
  have hw1 := w.n1
  have e1 := digs_val h 0 (wayN x)
  have e2 := digs_val h (wayN x) (perN x)
  rw [← digL_take, Nat.zero_add] at e1
  rw [← digL_drop] at e2
  have a0 : aN x 0 = x.1 := by unfold aN; rw [Nat.pow_zero, Nat.one_mul, Nat.mod_eq_of_lt h.lt]
  have ab : aN x (wayN x + perN x) = aN x (wayN x) := by
    have := w.back
    rw [it_aN h, it_aN h] at this
    exact red_inj hp this
  rw [a0] at e1
  rw [ab] at e2
  have hw : 1 ≤ 2 ^ perN x := two_pow_pos _
  have hB : 0 < 2 ^ wayN x * (2 ^ perN x - 1) := bot_pos hw1
  unfold botN
  rw [front_len, back_len]
  have e3 : bv (backL x) * x.2 = (2 ^ perN x - 1) * aN x (wayN x) := by
    rw [Nat.sub_mul, Nat.one_mul, ← e2]
    unfold backL
    omega
  have e4 : bv (frontL x) * x.2 + aN x (wayN x) = 2 ^ wayN x * x.1 := e1
  have : (bv (frontL x) * (2 ^ perN x - 1) + bv (backL x)) * x.2 < 2 ^ wayN x * (2 ^ perN x - 1) * x.2 := by
    have key : (bv (frontL x) * (2 ^ perN x - 1) + bv (backL x)) * x.2 = x.1 * (2 ^ wayN x * (2 ^ perN x - 1)) := by
      rw [Nat.add_mul, e3]
      generalize 2 ^ perN x - 1 = W at *
      generalize bv (frontL x) = f at *
      generalize aN x (wayN x) = A at *
      calc f * W * x.2 + W * A = W * (f * x.2 + A) := by grind
        _ = W * (2 ^ wayN x * x.1) := by rw [e4]
        _ = x.1 * (2 ^ wayN x * W) := by grind
    rw [key, Nat.mul_comm x.1]
    exact Nat.mul_lt_mul_of_pos_left h.lt hB
  exact Nat.lt_of_mul_lt_mul_right this
/-! ### mirrored -/
theorem mir_hv {x : Nat × Nat} (h : Plc x) {k j : Nat} (hj : j < 2 ^ k) : mirN (hvN x k j) = hvN (mirN x) k (if x.1 = 0 then (2 ^ k - j) % 2 ^ k else 2 ^ k - 1 - j) := by
  have hp := h.pos
  have hq : 0 < 2 ^ k * x.2 := Nat.mul_pos (two_pow_pos k) hp
  have ht := hv_top h hj
  have e := red_mirN hq (Nat.le_of_lt ht)
  rw [Nat.mod_eq_of_lt ht] at e
  unfold hvN
  rw [← e]
  show red _ _ = red ((if x.1 = 0 then 0 else x.2 - x.1) + (if x.1 = 0 then (2 ^ k - j) % 2 ^ k else 2 ^ k - 1 - j) * x.2) (2 ^ k * x.2)
  congr 1
  have hl := h.lt
  by_cases z : x.1 = 0
  · rw [if_pos z, if_pos z, z, Nat.zero_add, Nat.zero_add]
    rw [← Nat.sub_mul, Nat.mul_mod_mul_right]
  · rw [if_neg z, if_neg z, Nat.mod_eq_of_lt (by omega)]
    have : 2 ^ k * x.2 = (j + 1) * x.2 + (2 ^ k - 1 - j) * x.2 := by rw [← Nat.add_mul]; congr 1; omega
    rw [this, Nat.add_mul, Nat.one_mul]
    omega
theorem mir_due {x : Nat × Nat} (h : Plc x) (k : Nat) (y : Nat × Nat) : y ∈ (dueN x k).map mirN ↔ y ∈ dueN (mirN x) k := by
  have hp2 := two_pow_pos k
  rw [List.mem_map, due_mem]
  constructor
  · rintro ⟨z, hz, rfl⟩
    obtain ⟨j, hj, rfl⟩ := due_mem.mp hz
    refine ⟨_, ?_, (mir_hv h hj).symm⟩
    split
    · exact Nat.mod_lt _ hp2
    · omega
  · rintro ⟨j, hj, rfl⟩
    by_cases z : x.1 = 0
    · refine ⟨hvN x k ((2 ^ k - j) % 2 ^ k), due_mem.mpr ⟨_, Nat.mod_lt _ hp2, rfl⟩, ?_⟩
      rw [mir_hv h (Nat.mod_lt _ hp2), if_pos z]
      congr 1
      by_cases j0 : j = 0
      · subst j0; rw [Nat.sub_zero, Nat.mod_self, Nat.sub_zero, Nat.mod_self]
      · rw [Nat.mod_eq_of_lt (show 2 ^ k - j < 2 ^ k by omega), Nat.mod_eq_of_lt (by omega)]
        omega
    · refine ⟨hvN x k (2 ^ k - 1 - j), due_mem.mpr ⟨_, by omega, rfl⟩, ?_⟩
      rw [mir_hv h (by omega), if_neg z]
      congr 1
      omega
/-! ### readings -/
section
variable {K : PySem.W.Frag} {σ : L2.St} {H H1 : Hp} {Q : VK} {v x y : V} {ds : List PyData} {j : Nat} {vs : List Nat} {tt : TT} {te : TE}
theorem w_extend {l b : Addr} {xs zs : List V} (h : H l = some (.lst xs)) (h' : H b = some (.lst zs)) (hz : xs.length + zs.length ≤ 1000000) (q : Q .non (upd H l (.lst (xs ++ zs)))) : rExtend (.ref l) [.ref b] H Q :=
  ⟨l, b, xs, zs, rfl, rfl, h, h', by rw [sizeLine_eq]; omega, q⟩
theorem w_lstT (h : Dp K H v (.tuple ds)) (q : ∀ p H' xs, H p = none → Same H H' → H' p = some (.lst xs) → DpAll K H' xs ds → Q (.ref p) H') : rLstOf K [v] H Q := by
  obtain ⟨a, xs, rfl, hs, ha⟩ := dp_tup h
  exact ⟨a, xs, rfl, .inr hs, fun l hl => q l _ xs hl (same_new hl) upd_same (dpa_same (same_new hl) ha)⟩
/-- as lc_list_by, with the values and their data at the end -/
theorem lc_list_byA (J : Nat → List PyData → Hp → Prop) (lj : LcJ H1 J) (src : Dp K H1 x (.list ds)) (hz : ds.length ≤ 1000000) (hw : ∀ x, wipe ((wipe σ vs).set j (some x)) vs = wipe σ vs)
    (turn : ∀ i d y H' es, ds[i]? = some d → Dp K H' y d → J i es H' → LcTurn K J tt te ((wipe σ vs).set j (some y)) i es H')
    (done : ∀ p H' ws es, H1 p = none → Keep H1 H' → H' p = some (.lst ws) → DpAll K H' ws es → J ds.length es H' → Q (.ref p) H') : rLcL K j tt te vs σ x H1 Q := by
  obtain ⟨a, xs, rfl, hs, ha⟩ := dp_lst src
  have hl := dpa_len ha
  refine ⟨a, rfl, ⟨xs, hs⟩, fun D hD => lc_list (xs := xs) (LcP K J D) ⟨[], [], upd_same, .nil, rfl, Nat.le_refl _, lj.start D hD⟩ (fun i H' _ p => ?_) (fun i y H' hi p => ⟨hw y, lc_turn lj hD ?_ p fun es q => ?_⟩) fun H' p => ?_⟩
  · obtain ⟨ws, es, p1, p2, p3, p4, p5⟩ := p
    exact (lj.keep _ _ _ p5).seqL hs
  · have := (List.getElem?_eq_some_iff.mp hi).1; omega
  · obtain ⟨d, e1, e2⟩ := dpa_get2 ha hi
    exact turn i d y H' es e1 (dp_keep (lj.keep _ _ _ q) e2) q
  · obtain ⟨ws, es, p1, p2, p3, p4, p5⟩ := p
    rw [hl] at p5
    exact done D H' ws es hD (lj.keep _ _ _ p5) p1 p2 p5
theorem noLs_pd (l : List (Nat × Nat)) : noLs (l.map pd) = true := by
  induction l with
  | nil => rfl
  | cons u r ih => simp only [List.map_cons, noLs, pd_noL, Bool.true_and]; exact ih
theorem pln_pds (l : List (Nat × Nat)) : pln 9 (.list (l.map pd)) = true := pln_list fun z hz => by
  obtain ⟨u, _, rfl⟩ := List.mem_map.mp hz
  exact pd_pln _
/-- a list walked while other objects change: what keeps it is said by the invariant -/
theorem forL_byB {σ : L2.St} {D : Ends} {g : TG} {tb : TS} {a : Addr} {xs : List V} {ds : List PyData} (Pv : Nat → L2.St → Hp → Prop) (h0 : Pv 0 σ H) (hl : xs.length = ds.length)
    (hk : ∀ i σ' H', i ≤ ds.length → Pv i σ' H' → H' a = some (.lst xs) ∧ DpAll K H' xs ds)
    (hs : ∀ i d y σ' H', ds[i]? = some d → Dp K H' y d → Pv i σ' H' → g y σ' H' fun σ2 H2 => tb { D with nx := Pv (i + 1), ct := Pv (i + 1), bk := D.nx } σ2 H2) (hd : ∀ σ' H', Pv ds.length σ' H' → D.nx σ' H') : rForL K g tb D σ (.ref a) H := by
  refine ⟨a, rfl, ⟨xs, .of (hk 0 _ _ (Nat.zero_le _) h0).1⟩, for_list (xs := xs) Pv h0 (fun i σ' H' hi p => .of (hk i σ' H' (by omega) p).1) (fun i y σ' H' hi p => ?_) (fun σ' H' p => hd σ' H' (by rw [← hl]; exact p))⟩
  have hlt := (List.getElem?_eq_some_iff.mp hi).1
  obtain ⟨d, e1, e2⟩ := dpa_get2 (hk i σ' H' (by omega) p).2 hi
  exact hs i d y σ' H' e1 e2 p
end
end Tw
namespace Tw
open PySem PySem.Spec PyProof.Rows L2
/-! ### marks of places -/
def mkr (t x : Nat × Nat) : Nat := if dblN x = t then 42 else if sz t < 2 * sz x ∧ 2 * sz x < sz t + CN then 49 else 48
def markL (t x : Nat × Nat) : List Nat := (orbN x).map (mkr t)
theorem mark_len (t x : Nat × Nat) : (markL t x).length = wayN x + perN x := by simp [markL, orb_len]
theorem mkr_lt (t x : Nat × Nat) : mkr t x < 1000 := by unfold mkr; (repeat' split) <;> omega
theorem markL_mk (t x : Nat × Nat) : Mk (markL t x) := by
  intro c hc
  obtain ⟨y, _, rfl⟩ := List.mem_map.mp hc
  exact mkr_lt t y
theorem twice_less {t x : Nat × Nat} (ht : Plc t) (hx : Plc x) : (t.1 * x.2 < 2 * x.1 * t.2 ↔ sz t < 2 * sz x) ∧ (2 * x.1 * t.2 < (t.1 + t.2) * x.2 ↔ 2 * sz x < sz t + CN) := by
  have h1 := sz_mul ht
  have h2 := sz_mul hx
  have hp := Nat.mul_pos ht.pos hx.pos
  have hc := CN_pos
  have e1 : t.1 * x.2 * CN = sz t * (t.2 * x.2) := by grind
  have e2 : 2 * x.1 * t.2 * CN = 2 * sz x * (t.2 * x.2) := by grind
  have e3 : (t.1 + t.2) * x.2 * CN = (sz t + CN) * (t.2 * x.2) := by grind
  have key : ∀ {a b A B : Nat}, a * CN = A * (t.2 * x.2) → b * CN = B * (t.2 * x.2) → (a < b ↔ A < B) := by
    intro a b A B ea eb
    constructor
    · intro h
      have := Nat.mul_lt_mul_of_pos_right h hc
      rw [ea, eb] at this
      exact Nat.lt_of_mul_lt_mul_right this
    · intro h
      have := Nat.mul_lt_mul_of_pos_right h hp
      rw [← ea, ← eb] at this
      exact Nat.lt_of_mul_lt_mul_right this
  exact ⟨key e1 e2, key e2 e3⟩
theorem mark_get {t x : Nat × Nat} {i : Nat} (h : i < wayN x + perN x) : (markL t x)[i]? = some (mkr t (itN i x)) := by
  unfold markL
  rw [List.getElem?_map, orb_get h]
  rfl
/-- the word of a place that returns -/
theorem star_mark {t : Nat × Nat} (ht : Plc t) (h0 : wayN t = 0) : StarW (markL t t) := by
  have w := ways ht
  have w1 := w.n1
  have hl := mark_len t t
  rw [h0, Nat.zero_add] at hl
  have hb := w.back
  rw [h0, Nat.zero_add] at hb
  have hne : markL t t ≠ [] := fun z => by rw [z] at hl; simp at hl; omega
  refine ⟨hne, ?_, fun c hc => ?_⟩
  · have : (markL t t).getLast? = some 42 := by
      rw [List.getLast?_eq_getElem?, hl, mark_get (by omega)]
      congr 1
      unfold mkr
      rw [← itN_succ, show perN t - 1 + 1 = perN t by omega, hb]
      exact if_pos rfl
    rw [List.getLast?_eq_getLast hne] at this
    exact Option.some.inj this
  · obtain ⟨i, hi⟩ := List.getElem?_of_mem hc
    have hlt := (List.getElem?_eq_some_iff.mp hi).1
    rw [List.length_dropLast, hl] at hlt
    rw [List.getElem?_dropLast, if_pos (by rw [hl]; exact hlt), mark_get (by omega)] at hi
    have e := Option.some.inj hi
    rw [← e]
    unfold mkr
    have hn : dblN (itN i t) ≠ t := by
      rw [← itN_succ]
      exact fun z => w.ne (i := 0) (j := i + 1) (by omega) (by omega) z.symm
    rw [if_neg hn]
    split <;> omega
theorem mark_bits {t : Nat × Nat} (ht : Plc t) (h0 : wayN t = 0) : ∀ c ∈ (markL t t).dropLast, c = 48 ∨ c = 49 := by
  intro c hc
  have := (star_mark ht h0).2.2 c hc
  obtain ⟨y, _, e⟩ := List.mem_map.mp (List.dropLast_subset _ hc)
  rw [← e] at this ⊢
  unfold mkr at this ⊢
  by_cases h1 : dblN y = t
  · rw [if_pos h1] at this; exact absurd rfl this
  · rw [if_neg h1]
    split
    · exact .inr rfl
    · exact .inl rfl
theorem cz_getD {c : List Nat} {i : Nat} (h : i < c.length) : cz c i = c.getD i 0 := by
  unfold cz
  rw [Int.emod_eq_of_lt (by omega) (by omega)]
  simp
theorem star_LF {l : List Nat} (hs : StarW l) : LF [] l := by
  obtain ⟨hl, h1, h2⟩ := hs
  have hp := List.length_pos_iff.mpr hl
  have last : cz l (-1) = 42 := by rw [cz_last hl]; exact h1
  refine ⟨hl, ⟨hp, per_len l, fun q h0 hq hper => ?_⟩, fun e => absurd rfl e⟩
  have e1 := hper (-1)
  rw [last, show (-1 : Int) + q = ((q - 1 : Nat) : Int) by omega, cz_nat (show q - 1 < l.length by omega)] at e1
  have hd : q - 1 < l.dropLast.length := by rw [List.length_dropLast]; omega
  have : l[q - 1] = l.dropLast[q - 1] := by rw [List.getElem_dropLast]
  rw [this] at e1
  exact h2 _ (List.getElem_mem hd) e1
/-! ### one of both marks has the length in its address -/
theorem mk_fill {w : List Nat} {a b : Nat} {k : Int} (h1 : 1 ≤ k) (h2 : k ≤ w.length) : mk (w ++ [a]) k = mk (w ++ [b]) k := by
  unfold mk
  rw [List.length_append, List.length_append]
  simp only [List.length_singleton]
  rw [Int.emod_eq_of_lt (by omega) (by push_cast; omega)]
  rw [List.getD_eq_getElem?_getD, List.getD_eq_getElem?_getD, List.getElem?_append_left (by omega), List.getElem?_append_left (by omega)]
theorem mk_end (w : List Nat) (a : Nat) : mk (w ++ [a]) ((w.length : Int) + 1) = a := by
  have := mk_last (l := w ++ [a]) (by simp)
  have e : (w ++ [a]).getLast (by simp) = a := by simp
  rw [e, List.length_append] at this
  push_cast at this
  exact this
theorem one_mark {w : List Nat} (hb : ∀ c ∈ w, c = 48 ∨ c = 49) {o : Option Int} {ns : List Int} (h : Chn (w ++ [42]) ((w.length : Int) + 1) o ns) :
    ∀ k : Int, 1 ≤ k → k ≤ w.length → o = some k → ∃ c, (c = 48 ∨ c = 49) ∧ ∀ e, (e = 48 ∨ e = 49) → ∀ ns', Chn (w ++ [e]) ((w.length : Int) + 1) (some k) ns' → (((w.length : Int) + 1) ∈ ns' ↔ e ≠ c) := by
  have hs : StarW (w ++ [42]) := starW_mk fun c hc => by rcases hb c hc with rfl | rfl <;> decide
  have hlen : (w ++ [42]).length = w.length + 1 := by simp
  induction h with
  | no => intro k _ _ e; cases e
  | stop hk => intro k _ h2 e; cases e; omega
  | @go k r ns0 hk hu hc ih =>
    intro k' h1 h2 e
    cases e
    have hbad := hs.bad (k := k) h1 (by rw [hlen]; push_cast; omega)
    rw [hlen] at hbad
    push_cast at hbad
    cases r with
    | none => exact absurd (hu _ (by omega)) hbad
    | some k2 =>
      have hk2 : k2 ≤ (w.length : Int) + 1 := by
        by_cases z : k2 ≤ (w.length : Int) + 1
        · exact z
        · exact absurd (hu.2.2 _ (by omega) (by omega)) hbad
      have hgt := hu.1
      by_cases hn : k2 = (w.length : Int) + 1
      · refine ⟨mk (w ++ [42]) ((w.length : Int) + 1 - k), ?_, fun e he ns' hc' => ?_⟩
        · have hm := mk_lt (l := w ++ [42]) (k := (w.length : Int) + 1 - k) (by omega) (by rw [hlen]; push_cast; omega) (by simp)
          rw [List.dropLast_concat] at hm
          exact hb _ hm
        · have hfill : mk (w ++ [42]) ((w.length : Int) + 1 - k) = mk (w ++ [e]) ((w.length : Int) + 1 - k) := mk_fill (by omega) (by omega)
          have hlow : ∀ j, k < j → j ≤ (w.length : Int) → mk (w ++ [e]) j = mk (w ++ [e]) (j - k) := fun j a b => by
            rw [← mk_fill (a := 42) (by omega) (by omega), ← mk_fill (a := 42) (b := e) (k := j - k) (by omega) (by omega)]
            exact hu.2.2 j a (by omega)
          cases hc' with
          | stop h => omega
          | @go _ r' ns'' hle hu' hc'' =>
            rw [hfill]
            constructor
            · intro hm hec
              rcases List.mem_cons.mp hm with z | hm
              · omega
              · cases r' with
                | none => cases hc''; cases hm
                | some k3 =>
                  have g3 := hc''.gt k3 rfl _ hm
                  have l3 := hu'.1
                  have n3 := hu'.2.1
                  by_cases z : k3 ≤ (w.length : Int)
                  · exact n3 (hlow k3 l3 z)
                  · have : k3 = (w.length : Int) + 1 := by omega
                    rw [this, mk_end] at n3
                    exact n3 hec
            · intro hne
              have : r' = some ((w.length : Int) + 1) := by
                refine hu'.unique ⟨by omega, ?_, fun j a b => hlow j a (by omega)⟩
                rw [mk_end]
                exact hne
              subst this
              cases hc'' with
              | stop h => omega
              | go _ _ _ => exact List.mem_cons_of_mem _ List.mem_cons_self
      · obtain ⟨c, hc48, hiff⟩ := ih k2 (by omega) (by omega) rfl
        refine ⟨c, hc48, fun e he ns' hc' => ?_⟩
        cases hc' with
        | stop h => omega
        | @go _ r' ns'' hle hu' hc'' =>
          have : r' = some k2 := by
            refine hu'.unique ⟨hgt, ?_, fun j a b => ?_⟩
            · rw [← mk_fill (a := 42) (by omega) (by omega), ← mk_fill (a := 42) (b := e) (k := k2 - k) (by omega) (by omega)]
              exact hu.2.1
            · rw [← mk_fill (a := 42) (by omega) (by omega), ← mk_fill (a := 42) (b := e) (k := j - k) (by omega) (by omega)]
              exact hu.2.2 j a b
          subst this
          rw [List.mem_cons]
          have := hiff e he ns'' hc''
          constructor
          · rintro (z | z)
            · omega
            · exact this.mp z
          · intro z; exact .inr (this.mpr z)
/-- just one of both -/
theorem one_of_two {w : List Nat} (hb : ∀ c ∈ w, c = 48 ∨ c = 49) (hw : w ≠ []) : (addrL (w ++ [48])).contains (w.length + 1) = !(addrL (w ++ [49])).contains (w.length + 1) := by
  have hp := List.length_pos_iff.mpr hw
  have ch : ∀ a, Chn (w ++ [a]) ((w.length : Int) + 1) (some 1) ((addrL (w ++ [a])).map fun (n : Nat) => (n : Int)) := fun a => by
    have := chn_chnL (l := w ++ [a]) (by simp) (most := w.length + 1) (w.length + 1 + 1) (some 1) fun k e => by cases e; omega
    unfold addrL
    rw [List.length_append]
    simpa using this
  obtain ⟨c, hc, h⟩ := one_mark hb (ch 42) 1 (by omega) (by omega) rfl
  have conv : ∀ a, (((w.length : Int) + 1) ∈ (addrL (w ++ [a])).map fun (n : Nat) => (n : Int)) ↔ (addrL (w ++ [a])).contains (w.length + 1) = true := fun a => by
    rw [List.contains_iff_mem, List.mem_map]
    constructor
    · rintro ⟨n, hn, e⟩
      have : n = w.length + 1 := by omega
      rw [← this]; exact hn
    · intro hn; exact ⟨_, hn, by push_cast; rfl⟩
  have h48 := h 48 (.inl rfl) _ (ch 48)
  have h49 := h 49 (.inr rfl) _ (ch 49)
  rw [conv] at h48 h49
  rcases hc with rfl | rfl
  · have a1 : (addrL (w ++ [49])).contains (w.length + 1) = true := h49.mpr (by decide)
    have a2 : ¬ (addrL (w ++ [48])).contains (w.length + 1) = true := fun z => h48.mp z rfl
    rw [a1]
    simpa using a2
  · have a1 : (addrL (w ++ [48])).contains (w.length + 1) = true := h48.mpr (by decide)
    have a2 : ¬ (addrL (w ++ [49])).contains (w.length + 1) = true := fun z => h49.mp z rfl
    rw [a1]
    simp only [Bool.not_eq_true] at a2
    rw [a2]
    rfl
/-! ### the greater place, the inner marks of a place that returns -/
def lowB (x : Nat × Nat) : Bool := decide (2 * x.1 < x.2)
def grB (t : Nat × Nat) : Bool := if perN t = 1 then false else !(addrL ((markL t t).dropLast ++ [if lowB (itN (perN t - 1) t) = true then 49 else 48])).contains (perN t)
def cmk (t x : Nat × Nat) : Nat := if dblN x = t then (if lowB x = grB t then 49 else 48) else mkr t x
def cmkL (t x : Nat × Nat) : List Nat := (orbN x).map (cmk t)
theorem cmk_len (t x : Nat × Nat) : (cmkL t x).length = wayN x + perN x := by simp [cmkL, orb_len]
theorem cmk_lt (t x : Nat × Nat) : cmk t x < 1000 := by
  unfold cmk
  split
  · split <;> omega
  · exact mkr_lt t x
theorem inner_own {t : Nat × Nat} (ht : Plc t) (h0 : wayN t = 0) : cmkL t t = (markL t t).dropLast ++ [lowM (markL t t)] := by
  have w := ways ht
  have w1 := w.n1
  have hl := mark_len t t
  have hcl := cmk_len t t
  rw [h0, Nat.zero_add] at hl hcl
  have hb := w.back
  rw [h0, Nat.zero_add] at hb
  have hst := star_mark ht h0
  have hend : dblN (itN (perN t - 1) t) = t := by rw [← itN_succ, show perN t - 1 + 1 = perN t by omega, hb]; rfl
  -- the last inner mark
  have hlast : cmk t (itN (perN t - 1) t) = lowM (markL t t) := by
    unfold cmk
    rw [if_pos hend]
    by_cases h1 : perN t = 1
    · have hg : grB t = false := by unfold grB; rw [if_pos h1]
      have hm : markL t t = [42] := by
        obtain ⟨a, b, c⟩ := hst
        rw [h1] at hl
        obtain ⟨z, hz⟩ := List.length_eq_one_iff.mp hl
        have hb2 : (markL t t).getLast? = some 42 := by rw [List.getLast?_eq_getLast a, b]
        rw [hz] at hb2 ⊢
        simp at hb2
        rw [hb2]
      have hlow : lowB (itN (perN t - 1) t) = true := by
        rw [h1]
        have hd := w.dv
        rw [h1] at hd
        have ho : oddOf t.2 = 1 := Nat.dvd_one.mp (by simpa using hd)
        have hs := odd_spec ht.pos (Nat.lt_trans ht.small (by decide))
        have hz : twos t.2 = 0 := h0
        rw [ho, hz] at hs
        have h2 : t.2 = 1 := by simpa using hs.1
        have hlt := ht.lt
        show decide (2 * t.1 < t.2) = true
        rw [decide_eq_true]
        omega
      rw [hg, hlow, hm, if_neg (by decide)]
      decide +kernel
    · have hw0 : (markL t t).dropLast ≠ [] := fun z => by
        have := congrArg List.length z
        rw [List.length_dropLast, hl] at this
        simp at this
        omega
      have hone := one_of_two (mark_bits ht h0) hw0
      have hn : (markL t t).dropLast.length + 1 = perN t := by rw [List.length_dropLast, hl]; omega
      rw [hn] at hone
      have hg : grB t = !(addrL ((markL t t).dropLast ++ [if lowB (itN (perN t - 1) t) = true then 49 else 48])).contains (perN t) := by unfold grB; rw [if_neg h1]
      rw [hg]
      unfold lowM upM
      rw [hl]
      cases hlow : lowB (itN (perN t - 1) t) with
      | true =>
        rw [if_pos rfl]
        cases (addrL ((markL t t).dropLast ++ [49])).contains (perN t) <;> decide
      | false =>
        rw [show (if (false : Bool) = true then 49 else 48) = 48 from rfl, hone]
        cases (addrL ((markL t t).dropLast ++ [49])).contains (perN t) <;> decide
  apply List.ext_getElem?
  intro i
  by_cases hi : i < perN t - 1
  · rw [List.getElem?_append_left (by rw [List.length_dropLast, hl]; exact hi), List.getElem?_dropLast, if_pos (by rw [hl]; exact hi), mark_get (by omega)]
    unfold cmkL
    rw [List.getElem?_map, orb_get (by omega)]
    show some (cmk t (itN i t)) = _
    congr 1
    unfold cmk
    have hn : dblN (itN i t) ≠ t := by
      rw [← itN_succ]
      exact fun z => w.ne (i := 0) (j := i + 1) (by omega) (by omega) z.symm
    rw [if_neg hn]
  · by_cases hi2 : i = perN t - 1
    · subst hi2
      rw [List.getElem?_append_right (by rw [List.length_dropLast, hl]; omega), List.length_dropLast, hl, Nat.sub_self]
      unfold cmkL
      rw [List.getElem?_map, orb_get (by omega)]
      show some (cmk t _) = some _
      rw [hlast]
    · rw [List.getElem?_eq_none (by omega), List.getElem?_eq_none (by rw [List.length_append, List.length_dropLast, hl]; simp; omega)]
theorem way_zero {x : Nat × Nat} {n : Nat} (hn : 1 ≤ n) (h : x.2 ∣ 2 ^ 0 * (2 ^ n - 1)) : wayN x = 0 := twos_odd (odd_of_dvd hn h)
theorem fits_ok {l : List Nat} (hw : WordW l) (h1 : l ≠ [42]) : [48, 49].filter (fun c => (addrL (l.dropLast ++ [c])).contains l.length) = [upM l] := by
  obtain ⟨s, rfl, hs⟩ : ∃ s, l = 49 :: (s ++ [42]) ∧ ∀ x ∈ s, x = 48 ∨ x = 49 := by
    rcases hw with h | h
    · exact absurd h h1
    · exact h
  have e : (49 :: (s ++ [42])).dropLast = 49 :: s := by
    rw [← List.cons_append, List.dropLast_concat]
  have hone := one_of_two (w := 49 :: s) (fun c hc => by
    rcases List.mem_cons.mp hc with rfl | hc
    · exact .inr rfl
    · exact hs c hc) (by simp)
  have hn : (49 :: (s ++ [42])).length = (49 :: s).length + 1 := by simp
  unfold upM
  rw [e, hn]
  simp only [List.filter_cons, List.filter_nil]
  rw [hone]
  cases (addrL (49 :: s ++ [49])).contains ((49 :: s).length + 1) <;> simp
end Tw
namespace Tw
open PySem PySem.Spec PyProof.Rows L2
/-! ### the first mark of a kneading -/
theorem cut_rz (l : List Nat) {w i : Nat} (hw : w < l.length) (hi : i < l.length) : rz (l.take w) (l.drop w) i = l[i] := by
  by_cases h : i < w
  · rw [rz_lt (h := l.take w) (by rw [List.length_take]; omega), List.getElem_take]
  · have e : (l.take w).length = w := by rw [List.length_take]; omega
    rw [rz_ge (by omega), e, show ((i : Int) - (w : Int)) = ((i - w : Nat) : Int) by omega, cz_nat (by rw [List.length_drop]; omega), List.getElem_drop]
    congr 1
    omega
theorem row_first {h c : List Nat} (hc : c ≠ []) : (h ++ c)[0]? = some (rz h c 0) := by
  cases h with
  | nil =>
    obtain ⟨a, r, rfl⟩ := List.exists_cons_of_ne_nil hc
    show some a = _
    rw [rz_ge (by simp)]
    have := cz_nat (c := a :: r) (i := 0) (by simp)
    rw [show ((0 : Int) - ((([] : List Nat).length : Nat) : Int)) = ((0 : Nat) : Int) by simp, this]
    rfl
  | cons a r =>
    have := rz_lt (h := a :: r) (c := c) (i := 0) (by simp)
    rw [show ((0 : Nat) : Int) = 0 from rfl] at this
    rw [this]
    rfl
theorem mkr_own {t : Nat × Nat} (ht : Plc t) : mkr t t = if t = (0, 1) then 42 else 49 := by
  by_cases h : t = (0, 1)
  · subst h; decide
  · rw [if_neg h]
    have h0 : t.1 ≠ 0 := fun z => by
      have hc := ht.cop
      have hl := ht.lt
      obtain ⟨a, b⟩ := t
      dsimp only at z hc hl
      subst z
      have : b = 1 := by simpa using hc
      subst this
      exact h rfl
    have hne : dblN t ≠ t := by
      intro z
      have hl := ht.lt
      obtain ⟨a, b⟩ := t
      dsimp only at h0 hl
      unfold dblN at z
      dsimp only at z
      split at z
      · have := congrArg Prod.snd z
        dsimp only at this
        omega
      · have := congrArg Prod.fst z
        dsimp only at this
        by_cases h2 : 2 * a < b
        · rw [Nat.mod_eq_of_lt h2] at this; omega
        · have e : 2 * a % b = 2 * a - b := by rw [Nat.mod_eq_sub_mod (by omega), Nat.mod_eq_of_lt (by omega)]
          rw [e] at this
          omega
    have hs := sz_mul ht
    have hlt := sz_lt ht
    have hpos : 0 < sz t := by
      rcases Nat.eq_zero_or_pos (sz t) with z | z
      · rw [z, Nat.zero_mul] at hs
        have := CN_pos
        have : t.1 * CN ≠ 0 := Nat.mul_ne_zero h0 (by omega)
        omega
      · exact z
    unfold mkr
    rw [if_neg hne, if_pos ⟨by omega, by omega⟩]
theorem kn_first {t : Nat × Nat} (ht : Plc t) {h c : List Nat} (hc : c ≠ []) (e : ∀ n : Nat, rz h c n = rz ((markL t t).take (wayN t)) ((markL t t).drop (wayN t)) n) : (h ++ c)[0]? = some (if t = (0, 1) then 42 else 49) := by
  have w := ways ht
  have n1 := w.n1
  have hl := mark_len t t
  have e0 := e 0
  rw [row_first hc]
  rw [show ((0 : Nat) : Int) = 0 from rfl] at e0
  rw [e0]
  have := cut_rz (markL t t) (w := wayN t) (i := 0) (by omega) (by omega)
  rw [show ((0 : Nat) : Int) = 0 from rfl] at this
  rw [this]
  have g := mark_get (t := t) (x := t) (i := 0) (by omega)
  rw [List.getElem?_eq_getElem (by omega)] at g
  rw [Option.some.inj g, ← mkr_own ht]
  rfl
end Tw
namespace Tw
open PySem PySem.Spec PyProof.Rows L2
/-! ### sums along a way, round a ring -/
section
variable {α : Type}
def pathG (g : α → α → Nat) : α → List α → Nat
  | _, [] => 0
  | p, q :: r => g p q + pathG g q r
def cyc (g : α → α → Nat) : List α → Nat
  | [] => 0
  | a :: r => pathG g a (r ++ [a])
theorem path_snoc (g : α → α → Nat) (p : α) (r : List α) (x y : α) : pathG g p (r ++ [x] ++ [y]) = pathG g p (r ++ [x]) + g x y := by
  induction r generalizing p with
  | nil => simp [pathG]
  | cons q r ih =>
    show g p q + pathG g q (r ++ [x] ++ [y]) = g p q + pathG g q (r ++ [x]) + g x y
    rw [ih]; omega
theorem path_app (g : α → α → Nat) (p : α) (r : List α) (q : α) (s : List α) : pathG g p (r ++ q :: s) = pathG g p (r ++ [q]) + pathG g q s := by
  induction r generalizing p with
  | nil => simp [pathG]
  | cons a r ih =>
    show g p a + pathG g a (r ++ q :: s) = g p a + pathG g a (r ++ [q]) + pathG g q s
    rw [ih]; omega
theorem cyc_rot (g : α → α → Nat) (a : α) (r : List α) : cyc g (r ++ [a]) = cyc g (a :: r) := by
  cases r with
  | nil => rfl
  | cons b r =>
    show pathG g b (r ++ [a] ++ [b]) = g a b + pathG g b (r ++ [a])
    rw [path_snoc]; omega
theorem cyc_turn (g : α → α → Nat) (u v : List α) : cyc g (v ++ u) = cyc g (u ++ v) := by
  induction u generalizing v with
  | nil => simp
  | cons a u ih =>
    have := ih (v ++ [a])
    rw [List.append_assoc, List.singleton_append] at this
    rw [this, ← List.append_assoc, List.cons_append, cyc_rot]
theorem path_rev (g : α → α → Nat) (a b : α) (r : List α) : pathG g b (r.reverse ++ [a]) = pathG (fun x y => g y x) a (r ++ [b]) := by
  induction r generalizing a with
  | nil => rfl
  | cons c r ih =>
    rw [List.reverse_cons, path_snoc, ih]
    show _ = g c a + pathG (fun x y => g y x) c (r ++ [b])
    omega
theorem cyc_rev (g : α → α → Nat) (l : List α) : cyc g l.reverse = cyc (fun x y => g y x) l := by
  cases l with
  | nil => rfl
  | cons a r =>
    rw [List.reverse_cons, cyc_rot]
    exact path_rev g a a r
theorem path_map {β : Type} (f : β → α) (g : α → α → Nat) (p : β) (r : List β) : pathG g (f p) (r.map f) = pathG (fun x y => g (f x) (f y)) p r := by
  induction r generalizing p with
  | nil => rfl
  | cons q r ih => show g (f p) (f q) + _ = _; rw [ih]; rfl
theorem cyc_map {β : Type} (f : β → α) (g : α → α → Nat) (l : List β) : cyc g (l.map f) = cyc (fun x y => g (f x) (f y)) l := by
  cases l with
  | nil => rfl
  | cons a r =>
    show pathG g (f a) (r.map f ++ [f a]) = _
    rw [show r.map f ++ [f a] = (r ++ [a]).map f by simp, path_map]
    rfl
theorem path_congr {g h : α → α → Nat} {p : α} {r : List α} (e : ∀ x ∈ p :: r, ∀ y ∈ p :: r, g x y = h x y) : pathG g p r = pathG h p r := by
  induction r generalizing p with
  | nil => rfl
  | cons q r ih =>
    show g p q + _ = h p q + _
    rw [e p List.mem_cons_self q (by simp), ih fun x hx y hy => e x (List.mem_cons_of_mem _ hx) y (List.mem_cons_of_mem _ hy)]
theorem cyc_congr {g h : α → α → Nat} {l : List α} (e : ∀ x ∈ l, ∀ y ∈ l, g x y = h x y) : cyc g l = cyc h l := by
  cases l with
  | nil => rfl
  | cons a r =>
    refine path_congr fun x hx y hy => e x ?_ y ?_
    · simp at hx ⊢; rcases hx with h | h | h <;> simp [h]
    · simp at hy ⊢; rcases hy with h | h | h <;> simp [h]
/-- w is c times g, round the ring -/
theorem path_scale {w g : α → α → Nat} {f : α → Nat} {c : Nat} {p : α} {r : List α} {z : α} (e : ∀ x ∈ p :: r ++ [z], ∀ y ∈ p :: r ++ [z], w x y + f x = f y + c * g x y) : pathG w p (r ++ [z]) + f p = f z + c * pathG g p (r ++ [z]) := by
  induction r generalizing p with
  | nil =>
    show w p z + 0 + f p = f z + c * (g p z + 0)
    have := e p (by simp) z (by simp)
    simp; omega
  | cons q r ih =>
    show w p q + pathG w q (r ++ [z]) + f p = f z + c * (g p q + pathG g q (r ++ [z]))
    have h1 := e p (by simp) q (by simp)
    have h2 := ih (p := q) fun x hx y hy => e x (List.mem_cons_of_mem _ hx) y (List.mem_cons_of_mem _ hy)
    rw [Nat.mul_add]
    omega
theorem cyc_scale {w g : α → α → Nat} {f : α → Nat} {c : Nat} {l : List α} (e : ∀ x ∈ l, ∀ y ∈ l, w x y + f x = f y + c * g x y) : cyc w l = c * cyc g l := by
  cases l with
  | nil => simp [cyc]
  | cons a r =>
    have := path_scale (w := w) (g := g) (f := f) (c := c) (p := a) (r := r) (z := a) fun x hx y hy => e x (by simp at hx ⊢; rcases hx with h | h | h <;> simp [h]) y (by simp at hy ⊢; rcases hy with h | h | h <;> simp [h])
    show pathG w a (r ++ [a]) = c * pathG g a (r ++ [a])
    omega
end
/-! ### falls -/
def fall (a b : Nat) : Nat := if b < a then 1 else 0
theorem path_fall_zero {p : Nat} {r : List Nat} (h : pathG fall p r = 0) (hn : (p :: r).Nodup) : (p :: r).Pairwise (· < ·) := by
  induction r generalizing p with
  | nil => simp
  | cons q r ih =>
    have h1 : fall p q = 0 := by have : fall p q + pathG fall q r = 0 := h; omega
    have h2 : pathG fall q r = 0 := by have : fall p q + pathG fall q r = 0 := h; omega
    have hpq : p < q := by
      unfold fall at h1
      have hne : p ≠ q := fun z => by subst z; simp at hn
      split at h1
      · omega
      · omega
    have hq := ih h2 (List.nodup_cons.mp hn).2
    refine List.Pairwise.cons (fun x hx => ?_) hq
    rcases List.mem_cons.mp hx with rfl | hx
    · exact hpq
    · have := (List.pairwise_cons.mp hq).1 x hx
      omega
theorem asc_fall {p : Nat} {r : List Nat} (h : (p :: r).Pairwise (· < ·)) : pathG fall p r = 0 := by
  induction r generalizing p with
  | nil => rfl
  | cons q r ih =>
    have h1 := (List.pairwise_cons.mp h)
    have := h1.1 q List.mem_cons_self
    show fall p q + pathG fall q r = 0
    rw [ih h1.2]
    unfold fall
    rw [if_neg (by omega)]
theorem asc_nodup {l : List Nat} (h : l.Pairwise (· < ·)) : l.Nodup := h.imp fun hab => by omega
theorem asc_cyc {l : List Nat} (h : l.Pairwise (· < ·)) : cyc fall l ≤ 1 := by
  cases l with
  | nil => simp [cyc]
  | cons a r =>
    show pathG fall a (r ++ [a]) ≤ 1
    rcases List.eq_nil_or_concat r with rfl | ⟨r, x, rfl⟩
    · show fall a a + 0 ≤ 1
      unfold fall
      rw [if_neg (by omega)]
      omega
    · rw [List.concat_eq_append] at h ⊢
      rw [path_snoc, asc_fall h]
      unfold fall
      split <;> omega
/-- where a way falls -/
theorem fall_at {p : Nat} {r : List Nat} (h : pathG fall p r ≠ 0) : ∃ u x y v, p :: r = u ++ x :: y :: v ∧ fall x y = 1 := by
  induction r generalizing p with
  | nil => exact absurd rfl h
  | cons q r ih =>
    by_cases h1 : fall p q = 1
    · exact ⟨[], p, q, r, rfl, h1⟩
    · have h0 : fall p q = 0 := by unfold fall at h1 ⊢; split at h1 <;> simp_all
      have h2 : pathG fall q r ≠ 0 := fun z => h (show fall p q + pathG fall q r = 0 by omega)
      obtain ⟨u, x, y, v, e, f⟩ := ih h2
      exact ⟨p :: u, x, y, v, by rw [e]; rfl, f⟩
/-- a ring ascends from some beginning exactly if it has no two equal numbers and falls at most once -/
theorem turn_asc (l : List Nat) : (∃ k, k < l.length ∧ (l.drop k ++ l.take k).Pairwise (· < ·)) ↔ (l ≠ [] ∧ l.Nodup ∧ cyc fall l ≤ 1) := by
  constructor
  · rintro ⟨k, hk, h⟩
    refine ⟨fun z => by subst z; simp at hk, ?_, ?_⟩
    · have := asc_nodup h
      have hp : (l.drop k ++ l.take k).Perm (l.take k ++ l.drop k) := List.perm_append_comm
      rw [List.take_append_drop] at hp
      exact hp.nodup_iff.mp this
    · have := asc_cyc h
      rw [cyc_turn, List.take_append_drop] at this
      exact this
  · rintro ⟨hne, hn, hc⟩
    obtain ⟨a, r, rfl⟩ := List.exists_cons_of_ne_nil hne
    by_cases hz : pathG fall a r = 0
    · exact ⟨0, by simp, by simpa using path_fall_zero hz hn⟩
    · obtain ⟨u, x, y, v, e, f⟩ := fall_at hz
      have hturn : cyc fall (y :: v ++ (u ++ [x])) = cyc fall (a :: r) := by
        rw [cyc_turn, e]
        congr 1
        simp
      have hd : (a :: r).drop (u.length + 1) ++ (a :: r).take (u.length + 1) = y :: (v ++ (u ++ [x])) := by
        rw [e, show u ++ x :: y :: v = (u ++ [x]) ++ (y :: v) by simp, List.drop_left' (by simp), List.take_left' (by simp)]
        rfl
      refine ⟨u.length + 1, by rw [e]; simp, ?_⟩
      rw [hd]
      have hnd : (y :: (v ++ (u ++ [x]))).Nodup := by
        rw [← hd]
        have hp : ((a :: r).drop (u.length + 1) ++ (a :: r).take (u.length + 1)).Perm ((a :: r).take (u.length + 1) ++ (a :: r).drop (u.length + 1)) := List.perm_append_comm
        rw [List.take_append_drop] at hp
        exact hp.nodup_iff.mpr hn
      refine path_fall_zero ?_ hnd
      have h2 : cyc fall (y :: v ++ (u ++ [x])) = pathG fall y (v ++ (u ++ [x])) + fall x y := by
        show pathG fall y (v ++ (u ++ [x]) ++ [y]) = _
        rw [show v ++ (u ++ [x]) ++ [y] = (v ++ u) ++ [x] ++ [y] by simp, path_snoc]
        congr 2
        simp
      rw [hturn, f] at h2
      omega
/-! ### the number of falls, as the program counts it -/
theorem path_count (p : Nat) (r : List Nat) : ((List.range r.length).filter fun k => decide (r.getD k 0 < (p :: r).getD k 0)).length = pathG fall p r := by
  induction r generalizing p with
  | nil => rfl
  | cons q r ih =>
    rw [List.length_cons, List.range_succ_eq_map, List.filter_cons, List.filter_map, ]
    have e : ((List.range r.length).filter ((fun k => decide ((q :: r).getD k 0 < (p :: q :: r).getD k 0)) ∘ Nat.succ)) = (List.range r.length).filter fun k => decide (r.getD k 0 < (q :: r).getD k 0) := by
      congr 1
    rw [e]
    show _ = fall p q + pathG fall q r
    rw [← ih q]
    unfold fall
    by_cases h : q < p
    · rw [if_pos (by simpa using h), if_pos h]
      simp
      omega
    · rw [if_neg (by simpa using h), if_neg h]
      simp
def prevAt (s : List Nat) (k : Nat) : Nat := if k = 0 then s.getLastD 0 else s.getD (k - 1) 0
theorem fall_count (s : List Nat) : ((List.range s.length).filter fun k => decide (s.getD k 0 < prevAt s k)).length = cyc fall s := by
  cases s with
  | nil => rfl
  | cons a r =>
    rw [List.length_cons, List.range_succ_eq_map, List.filter_cons, List.filter_map]
    have e : ((List.range r.length).filter ((fun k => decide ((a :: r).getD k 0 < prevAt (a :: r) k)) ∘ Nat.succ)) = (List.range r.length).filter fun k => decide (r.getD k 0 < (a :: r).getD k 0) := by
      apply List.filter_congr
      intro k _
      simp [prevAt]
    rw [e]
    have hc : cyc fall (a :: r) = fall ((a :: r).getLastD 0) a + pathG fall a r := by
      show pathG fall a (r ++ [a]) = _
      rcases List.eq_nil_or_concat r with rfl | ⟨r, x, rfl⟩
      · show fall a a + 0 = fall a a + 0; rfl
      · rw [List.concat_eq_append]
        rw [path_snoc]
        have : (a :: (r ++ [x])).getLastD 0 = x := by
          rw [List.getLastD_eq_getLast?, ← List.cons_append, List.getLast?_concat]
          rfl
        rw [this]
        omega
    rw [hc, ← path_count]
    have h0 : prevAt (a :: r) 0 = (a :: r).getLastD 0 := rfl
    unfold fall
    by_cases h : a < (a :: r).getLastD 0
    · rw [if_pos (by rw [h0]; simpa using h), if_pos h]
      simp
      omega
    · rw [if_neg (by rw [h0]; simpa using h), if_neg h]
      simp
/-! ### how many different numbers -/
def dcount (ns : List Int) : Nat := (PyProof.Rows.firstMet (fun i => ns.getD i 0) ns.length).length
theorem met_nodup (ns : List Int) : ∀ i, i ≤ ns.length → (PyProof.Rows.firstMet (fun i => ns.getD i 0) i).length = i → (ns.take i).Nodup := by
  intro i
  induction i with
  | zero => intro _ _; simp
  | succ i ih =>
    intro hi h
    have hle := PyProof.Rows.firstMet_length_le (fun i => ns.getD i 0) i
    have hany := PyProof.Rows.firstMet_any (fun i => ns.getD i 0) i (ns.getD i 0)
    rw [PyProof.Rows.firstMet_succ] at h
    unfold PyProof.Rows.step_dedup at h
    split at h
    · omega
    · rename_i hn
      rw [hany] at hn
      rw [List.length_append, List.length_singleton] at h
      have h1 := ih (by omega) (by omega)
      rw [List.take_add_one, List.getElem?_eq_getElem (by omega)]
      have hmem : ns[i] ∉ ns.take i := fun hm => by
        apply hn
        rw [List.any_eq_true]
        obtain ⟨j, hj⟩ := List.getElem?_of_mem hm
        have hjl := (List.getElem?_eq_some_iff.mp hj).1
        rw [List.length_take] at hjl
        rw [List.getElem?_take] at hj
        refine ⟨ns.getD j 0, List.mem_map.mpr ⟨j, List.mem_range.mpr (by omega), rfl⟩, ?_⟩
        rw [beq_iff_eq, List.getD_eq_getElem?_getD, List.getD_eq_getElem?_getD, List.getElem?_eq_getElem (show i < ns.length by omega)]
        rw [if_pos (by omega)] at hj
        rw [hj]
      rw [List.nodup_append]
      refine ⟨h1, by simp, fun a ha b hb z => ?_⟩
      simp only [Option.toList, List.mem_singleton] at hb
      rw [z, hb] at ha
      exact hmem ha
theorem dcount_iff (ns : List Int) : dcount ns < ns.length ↔ ¬ ns.Nodup := by
  have hle := PyProof.Rows.firstMet_length_le (fun i => ns.getD i 0) ns.length
  unfold dcount
  constructor
  · intro h hn
    rw [firstMet_nodup ns hn ns.length (Nat.le_refl _), List.take_length] at h
    omega
  · intro h
    by_cases z : (PyProof.Rows.firstMet (fun i => ns.getD i 0) ns.length).length = ns.length
    · have := met_nodup ns ns.length (Nat.le_refl _) z
      rw [List.take_length] at this
      exact absurd this h
    · omega
def rLenSet (K : PySem.W.Frag) (x : V) (H : Hp) (Q : VK) : Prop := ∃ (l : Addr) (ns : List Int), x = .ref l ∧ SqL K H l (ns.map V.int) ∧ ns.length < 64 ∧ Q (.int (dcount ns : Nat)) H
def tLenSet2 (K : PySem.W.Frag) (ta : TE) : TE := fun σ H Q => ta σ H fun x H1 => rLenSet K x H1 Q
section
variable {X : Cx} {K : PySem.W.Frag}
theorem pe_lenSet2 {a : Expr} {ta : TE} {p p2 q pos : Pos} (calm : X.calm = true) (g1 : Gl X "len") (m1 : X.mg "len" = none) (g2 : Gl X "set") (m2 : X.mg "set" = none) (pa : PE X a ta) (hK : X.K = K := by rfl)
    (arg : starEach [a] X.env = (false, eval a X.env) :: starEach [] X.env := by rfl) : PE X (.Call (.Name "len" p) [.Call (.Name "set" p2) [a] [] q] [] pos) (tLenSet2 K ta) := by
  subst hK
  constructor
  intro pins s σ H Q J hyp
  apply Call_ (ld_blt J g1 m1 PySem.boot_len _)
  apply PyProof.Rows.callWith_builtin1 (PyProof.Rows.args_cons _ rfl) rfl rfl
  apply Call_ (ld_blt J g2 m2 PyProof.Rows.boot_set _)
  apply PyProof.Rows.callWith_type1 (PyProof.Rows.args_cons (thn (pa.run pins s σ H _ J hyp) fun v s1 w => PyProof.Rows.args_nil (?_ : _)) arg) arg rfl
  obtain ⟨x, H1, J1, rel, hx⟩ := w
  obtain ⟨l, ns, rfl, seq, few, fin⟩ := hx
  cases rel
  obtain ⟨its, vals, plain, hz⟩ := J1.list seq
  have size : its.toArray.size = ns.length := by rw [List.size_toArray, ← vals.length, List.length_map]
  apply call_set_list (J1.ok.hd calm) plain.isList (ns := ns) (by simpa using vals.ints) (by unfold scanBound; omega)
  intro h' tk made kept
  rw [size] at made
  apply PyProof.Rows.args_nil
  obtain ⟨o, es, ep, t, ho, hex, hd, _, _, _, hf, hn⟩ := made
  have J2 : Inv X pins σ H1 { s1 with heap := h', toks := tk } := J1.kept fun b o e => kept b o (Heap.lt_size e) e
  have small := PyProof.Rows.firstMet_length_le (fun i => ns.getD i 0) ns.length
  exact call_len_set ho hex hd hf (by rw [hn]; omega) ⟨.int (dcount ns : Nat), H1, J2.tok _, ⟨_, by rw [hn]; rfl⟩, fin⟩
end
section
variable {K : PySem.W.Frag} {σ : L2.St} {H : Hp} {Q : VK} {v : V} {ta : TE}
theorem w_lenSet (h : ta σ H fun x H1 => rLenSet K x H1 Q) : tLenSet2 K ta σ H Q := h
theorem w_lenSetD {ns : List Int} (h : Dp K H v (.list (ns.map PyData.int))) (few : ns.length < 64) (q : Q (.int (dcount ns : Nat)) H) : rLenSet K v H Q := by
  obtain ⟨a, xs, rfl, hs, ha⟩ := dp_lst h
  rw [dpa_ints_inv ha] at hs
  exact ⟨a, ns, rfl, hs, few, q⟩
end
/-! ### classes -/
/-- the sizes of the doubled places -/
def dszs (xs : List (Nat × Nat)) : List Nat := (xs.map dblN).map sz
def keepP (xs : List (Nat × Nat)) : Prop := (dszs xs).Nodup ∧ cyc fall (dszs xs) ≤ 1
instance (xs : List (Nat × Nat)) : Decidable (keepP xs) := by unfold keepP; infer_instance
theorem wu_fall {a b : Nat × Nat} (ha : Plc a) (hb : Plc b) : wu a b + sz a = sz b + CN * fall (sz a) (sz b) := by
  have h1 := sz_lt ha
  rw [wu_eq ha hb]
  unfold fall
  by_cases h : sz a ≤ sz b
  · rw [if_pos h, if_neg (by omega)]; omega
  · rw [if_neg h, if_pos (by omega)]; omega
theorem fall_wu {ys : List (Nat × Nat)} (h : ∀ y ∈ ys, Plc y) : cyc wu ys = CN * cyc fall (ys.map sz) := by
  rw [cyc_map]
  exact cyc_scale (f := sz) fun x hx y hy => wu_fall (h x hx) (h y hy)
/-- mirrored and turned about: as many falls -/
theorem mir_falls {ys : List (Nat × Nat)} (h : ∀ y ∈ ys, Plc y) : cyc fall (((ys.map mirN).reverse).map sz) = cyc fall (ys.map sz) := by
  have hm : ∀ y ∈ (ys.map mirN).reverse, Plc y := fun y hy => by
    obtain ⟨z, hz, rfl⟩ := List.mem_map.mp (List.mem_reverse.mp hy)
    exact mir_plc (h z hz)
  have e1 := fall_wu hm
  have e2 := fall_wu h
  rw [cyc_rev, cyc_map] at e1
  have e3 : cyc (fun x y => wu (mirN y) (mirN x)) ys = cyc wu ys := cyc_congr fun x hx y hy => mir_wu (h x hx) (h y hy)
  have e4 : cyc (fun x y => (fun x y => wu y x) (mirN x) (mirN y)) ys = cyc (fun x y => wu (mirN y) (mirN x)) ys := rfl
  rw [e4, e3, e2] at e1
  exact Nat.eq_of_mul_eq_mul_left CN_pos e1.symm
theorem keep_turn (u v : List (Nat × Nat)) : keepP (v ++ u) ↔ keepP (u ++ v) := by
  unfold keepP dszs
  have hp : ((v ++ u).map dblN).map sz = ((v.map dblN).map sz) ++ ((u.map dblN).map sz) := by simp
  have hq : ((u ++ v).map dblN).map sz = ((u.map dblN).map sz) ++ ((v.map dblN).map sz) := by simp
  rw [hp, hq, cyc_turn]
  have : ((v.map dblN).map sz ++ (u.map dblN).map sz).Perm ((u.map dblN).map sz ++ (v.map dblN).map sz) := List.perm_append_comm
  rw [this.nodup_iff]
theorem keep_mir {xs : List (Nat × Nat)} (h : ∀ x ∈ xs, Plc x) : keepP ((xs.map mirN).reverse) ↔ keepP xs := by
  have hd : ∀ y ∈ xs.map dblN, Plc y := fun y hy => by
    obtain ⟨z, hz, rfl⟩ := List.mem_map.mp hy
    exact dbl_plc (h z hz)
  have e : dszs ((xs.map mirN).reverse) = (((xs.map dblN).map mirN).reverse).map sz := by
    unfold dszs
    rw [List.map_reverse, List.map_map, List.map_map]
    congr 2
    apply List.map_congr_left
    intro x hx
    exact mir_dbl (h x hx)
  unfold keepP
  rw [e, mir_falls hd]
  have hn : ((((xs.map dblN).map mirN).reverse).map sz).Nodup ↔ (dszs xs).Nodup := by
    unfold dszs
    generalize xs.map dblN = ys at hd ⊢
    rw [List.map_reverse, (List.reverse_perm _).nodup_iff, List.map_map]
    have inj : ∀ a ∈ ys, ∀ b ∈ ys, ((sz ∘ mirN) a = (sz ∘ mirN) b ↔ sz a = sz b) := fun a ha b hb => by
      show sz (mirN a) = sz (mirN b) ↔ _
      have pa := hd a ha
      have pb := hd b hb
      rw [mir_sz pa, mir_sz pb]
      have := sz_lt pa
      have := sz_lt pb
      split <;> split <;> omega
    unfold List.Nodup
    rw [List.pairwise_map, List.pairwise_map]
    constructor
    · intro hp
      exact hp.imp_of_mem (fun {a b} ha hb hne z => hne ((inj a ha b hb).mpr z))
    · intro hp
      exact hp.imp_of_mem (fun {a b} ha hb hne z => hne ((inj a ha b hb).mp z))
  rw [hn]
  exact Iff.rfl
/-- the mirrored class by size -/
theorem glass_keep {xs ys : List (Nat × Nat)} (h : ∀ x ∈ xs, Plc x) (ha : xs.Pairwise fun x y => sz x < sz y) (hb : ys.Pairwise fun x y => sz x < sz y) (hm : ∀ y, y ∈ ys ↔ y ∈ xs.map mirN) : keepP ys ↔ keepP xs := by
  have desc : ∀ {l : List (Nat × Nat)}, (∀ x ∈ l, Plc x) → (∀ x ∈ l, sz x ≠ 0) → l.Pairwise (fun x y => sz x < sz y) → ((l.map mirN).reverse).Pairwise fun x y => sz x < sz y := by
    intro l hl h0 hp
    rw [List.pairwise_reverse, List.pairwise_map]
    refine hp.imp_of_mem fun ha hb hab => ?_
    rw [mir_sz (hl _ ha), mir_sz (hl _ hb), if_neg (h0 _ ha), if_neg (h0 _ hb)]
    have := sz_lt (hl _ hb)
    omega
  cases xs with
  | nil =>
    have : ys = [] := List.eq_nil_iff_forall_not_mem.mpr fun y hy => by have := (hm y).mp hy; simp at this
    rw [this]
  | cons x r =>
    have hr : ∀ z ∈ r, sz z ≠ 0 := fun z hz => by have := (List.pairwise_cons.mp ha).1 z hz; omega
    have hpr : ∀ z ∈ r, Plc z := fun z hz => h z (List.mem_cons_of_mem _ hz)
    have har := (List.pairwise_cons.mp ha).2
    rw [← keep_mir h]
    by_cases h0 : sz x = 0
    · have px := h x List.mem_cons_self
      have hmx : sz (mirN x) = 0 := by rw [mir_sz px, if_pos h0]
      have : ys = mirN x :: (r.map mirN).reverse := by
        refine asc_unique hb (List.Pairwise.cons (fun z hz => ?_) (desc hpr hr har)) fun y => ?_
        · rw [hmx]
          obtain ⟨w, hw, rfl⟩ := List.mem_map.mp (List.mem_reverse.mp hz)
          rw [mir_sz (hpr w hw), if_neg (hr w hw)]
          have := sz_lt (hpr w hw)
          omega
        · rw [hm y]; simp
      rw [this, List.map_cons, List.reverse_cons]
      exact keep_turn _ [mirN x]
    · have : ys = ((x :: r).map mirN).reverse := by
        refine asc_unique hb (desc h (fun z hz => ?_) ha) fun y => by rw [hm y]; exact List.mem_reverse.symm
        rcases List.mem_cons.mp hz with rfl | hz
        · exact h0
        · exact hr z hz
      rw [this]
theorem asc_keep {xs : List (Nat × Nat)} (h : (dszs xs).Pairwise (· < ·)) : keepP xs := ⟨asc_nodup h, asc_cyc h⟩
section
variable {K : PySem.W.Frag} {σ : L2.St} {H H1 : Hp} {Q : VK} {v x y : V} {ds : List PyData} {j : Nat} {vs : List Nat} {tt : TT} {te : TE}
/-- as lc_tup_by, with the values and their data at the end -/
theorem lc_tup_byA (J : Nat → List PyData → Hp → Prop) (lj : LcJ H1 J) (src : Dp K H1 x (.tuple ds)) (hz : ds.length ≤ 1000000) (hw : ∀ x, wipe ((wipe σ vs).set j (some x)) vs = wipe σ vs)
    (turn : ∀ i d y H' es, ds[i]? = some d → Dp K H' y d → J i es H' → LcTurn K J tt te ((wipe σ vs).set j (some y)) i es H')
    (done : ∀ p H' ws es, H1 p = none → Keep H1 H' → H' p = some (.lst ws) → DpAll K H' ws es → J ds.length es H' → Q (.ref p) H') : rLcT K j tt te vs σ x H1 Q := by
  obtain ⟨a, xs, rfl, hs, ha⟩ := dp_tup src
  have hl := dpa_len ha
  refine ⟨a, rfl, ⟨xs, hs⟩, fun D hD => lc_tup (xs := xs) (LcP K J D) ⟨[], [], upd_same, .nil, rfl, Nat.le_refl _, lj.start D hD⟩ (fun i H' _ p => ?_) (fun i y H' hi p => ⟨hw y, lc_turn lj hD ?_ p fun es q => ?_⟩) fun H' p => ?_⟩
  · obtain ⟨ws, es, p1, p2, p3, p4, p5⟩ := p
    exact (lj.keep _ _ _ p5).seqT hs
  · have := (List.getElem?_eq_some_iff.mp hi).1; omega
  · obtain ⟨d, e1, e2⟩ := dpa_get2 ha hi
    exact turn i d y H' es e1 (dp_keep (lj.keep _ _ _ q) e2) q
  · obtain ⟨ws, es, p1, p2, p3, p4, p5⟩ := p
    rw [hl] at p5
    exact done D H' ws es hD (lj.keep _ _ _ p5) p1 p2 p5
end
end Tw
namespace Tw
/-- a place of at most 10 steps -/
structure P10 (x : Nat × Nat) : Prop where
  plc : Plc x
  bot : ∃ m n, 1 ≤ n ∧ m + n ≤ 10 ∧ x.2 ∣ 2 ^ m * (2 ^ n - 1)
theorem p10_bin {h c : List Nat} (hc : c ≠ []) (hl : h.length + c.length ≤ 10) : P10 (binN h c) := ⟨bin_plc hc (by omega), h.length, c.length, List.length_pos_iff.mpr hc, hl, red_dvd⟩
theorem p10_dbl {x : Nat × Nat} (h : P10 x) : P10 (dblN x) := by
  obtain ⟨hp, m, n, h1, h2, h3⟩ := h
  refine ⟨dbl_plc hp, m, n, h1, h2, Nat.dvd_trans ?_ h3⟩
  unfold dblN
  split
  · exact Nat.div_dvd_of_dvd (Nat.dvd_of_mod_eq_zero (by omega))
  · exact Nat.dvd_refl _
theorem p10_it {x : Nat × Nat} (h : P10 x) (i : Nat) : P10 (itN i x) := by
  induction i with
  | zero => exact h
  | succ i ih => rw [itN_succ]; exact p10_dbl ih
theorem p10_orb {x : Nat × Nat} (h : P10 x) : ∀ y ∈ orbN x, P10 y := fun y hy => by
  obtain ⟨i, _, rfl⟩ := List.mem_map.mp hy
  exact p10_it h i
theorem p10_third : P10 (1, 3) := ⟨⟨by decide, by decide, 0, 2, by decide, by decide, by decide⟩, 0, 2, by decide, by decide, by decide⟩
/-- the halves of a place of few steps -/
theorem half_plc {x : Nat × Nat} (hx : Plc x) {m n : Nat} (h1 : 1 ≤ n) (h2 : m + n ≤ 23) (h3 : x.2 ∣ 2 ^ m * (2 ^ n - 1)) : Plc (red x.1 (2 * x.2)) ∧ Plc (red (x.1 + x.2) (2 * x.2)) := by
  have e : hvN x 1 0 = red x.1 (2 * x.2) := by unfold hvN; simp
  have e2 : hvN x 1 1 = red (x.1 + x.2) (2 * x.2) := by unfold hvN; simp
  rw [← e, ← e2]
  exact ⟨hv_plc hx h1 (by omega) h3 (by decide), hv_plc hx h1 (by omega) h3 (by decide)⟩
/-- a place of at most k steps -/
def Ps (k : Nat) (x : Nat × Nat) : Prop := Plc x ∧ ∃ m n, 1 ≤ n ∧ m + n ≤ k ∧ x.2 ∣ 2 ^ m * (2 ^ n - 1)
theorem ps_bin {k : Nat} {h c : List Nat} (hc : c ≠ []) (hk : k ≤ 24) (hl : h.length + c.length ≤ k) : Ps k (binN h c) := ⟨bin_plc hc (by omega), h.length, c.length, List.length_pos_iff.mpr hc, hl, red_dvd⟩
theorem ps_p10 {x : Nat × Nat} (h : Ps 9 x) : P10 x := by
  obtain ⟨h, m, n, h1, h2, h3⟩ := h
  exact ⟨h, m, n, h1, by omega, h3⟩
theorem half_dvd {p q m n : Nat} (h3 : q ∣ 2 ^ m * (2 ^ n - 1)) : (red p (2 * q)).2 ∣ 2 ^ (m + 1) * (2 ^ n - 1) := by
  refine Nat.dvd_trans red_dvd ?_
  rw [Nat.pow_succ, Nat.mul_comm (2 ^ m) 2, Nat.mul_assoc]
  exact Nat.mul_dvd_mul_left _ h3
theorem p10_half {x : Nat × Nat} (h : Ps 9 x) : P10 (red x.1 (2 * x.2)) ∧ P10 (red (x.1 + x.2) (2 * x.2)) := by
  obtain ⟨h, m, n, h1, h2, h3⟩ := h
  have := half_plc h h1 (by omega) h3
  exact ⟨⟨this.1, m + 1, n, h1, by omega, half_dvd h3⟩, ⟨this.2, m + 1, n, h1, by omega, half_dvd h3⟩⟩
theorem p10_hplc {x : Nat × Nat} (h : P10 x) : Plc (red x.1 (2 * x.2)) ∧ Plc (red (x.1 + x.2) (2 * x.2)) := by
  obtain ⟨h, m, n, h1, h2, h3⟩ := h
  exact half_plc h h1 (by omega) h3
theorem len_sub {ys xs : List (Nat × Nat)} (hn : ys.Nodup) (h : ∀ y ∈ ys, y ∈ xs) : ys.length ≤ xs.length := by
  induction ys generalizing xs with
  | nil => simp
  | cons y r ih =>
    have hy := h y List.mem_cons_self
    have hr := List.nodup_cons.mp hn
    have := ih (xs := xs.erase y) hr.2 fun z hz => (List.mem_erase_of_ne fun e => hr.1 (by rw [← e]; exact hz)).mpr (h z (List.mem_cons_of_mem _ hz))
    rw [List.length_erase_of_mem hy] at this
    have := List.length_pos_of_mem hy
    simp
    omega
theorem asc_len {ys xs : List (Nat × Nat)} (ha : ys.Pairwise fun x y => sz x < sz y) (h : ∀ y, y ∈ ys ↔ y ∈ xs) : ys.length ≤ xs.length := by
  refine len_sub (ha.imp fun hab z => ?_) fun y hy => (h y).mp hy
  rw [z] at hab
  omega
theorem asc_ne {ys xs : List (Nat × Nat)} (h : ∀ y, y ∈ ys ↔ y ∈ xs) (hx : xs ≠ []) : ys ≠ [] := fun z => by
  obtain ⟨x, r, rfl⟩ := List.exists_cons_of_ne_nil hx
  have := (h x).mpr List.mem_cons_self
  rw [z] at this
  simp at this
/-- the double of a half, and how great a half is -/
theorem low_eq (x : Nat × Nat) : red x.1 (2 * x.2) = hvN x 1 0 := by unfold hvN; simp
theorem high_eq (x : Nat × Nat) : red (x.1 + x.2) (2 * x.2) = hvN x 1 1 := by unfold hvN; simp
theorem dbl_half {x : Nat × Nat} (h : P10 x) : dblN (red x.1 (2 * x.2)) = x ∧ dblN (red (x.1 + x.2) (2 * x.2)) = x := by
  obtain ⟨h1, h2⟩ := p10_hplc h
  rw [low_eq] at h1 ⊢
  rw [high_eq] at h2 ⊢
  rw [dbl_hv h.plc h1, dbl_hv h.plc h2]
  exact ⟨hv_zero h.plc, hv_zero h.plc⟩
theorem low_sz {x : Nat × Nat} (h : P10 x) : 2 * sz (red x.1 (2 * x.2)) = sz x := by
  have h1 := (p10_hplc h).1
  have hp := h.plc.pos
  rw [low_eq] at h1 ⊢
  have e1 := hv_sz h.plc h1
  have e2 := sz_mul h.plc
  rw [Nat.zero_mul, Nat.add_zero, ← e2] at e1
  refine Nat.eq_of_mul_eq_mul_right hp ?_
  rw [← e1]
  generalize sz (hvN x 1 0) = s
  grind
theorem near_keep {xs ys : List (Nat × Nat)} (h : ∀ x ∈ xs, P10 x) (ha : xs.Pairwise fun x y => sz x < sz y) (hb : ys.Pairwise fun x y => sz x < sz y) (hm : ∀ y, y ∈ ys ↔ y ∈ xs.map fun x => red x.1 (2 * x.2)) : keepP ys := by
  have hc : (xs.map fun x => red x.1 (2 * x.2)).Pairwise fun x y => sz x < sz y := by
    rw [List.pairwise_map]
    refine ha.imp_of_mem fun hx hy hxy => ?_
    have := low_sz (h _ hx)
    have := low_sz (h _ hy)
    omega
  rw [asc_unique hb hc hm]
  apply asc_keep
  unfold dszs
  rw [List.map_map, List.map_map, List.pairwise_map]
  refine ha.imp_of_mem fun {x y} hx hy hxy => ?_
  show sz (dblN (red x.1 (2 * x.2))) < sz (dblN (red y.1 (2 * y.2)))
  rw [(dbl_half (h x hx)).1, (dbl_half (h y hy)).1]
  exact hxy
theorem opp_keep {x : Nat × Nat} {ys : List (Nat × Nat)} (h : P10 x) (hb : ys.Pairwise fun x y => sz x < sz y) (hm : ∀ y, y ∈ ys ↔ y ∈ [red x.1 (2 * x.2), red (x.1 + x.2) (2 * x.2)]) : ¬ keepP ys := by
  obtain ⟨h1, h2⟩ := p10_hplc h
  have hlt : sz (red x.1 (2 * x.2)) < sz (red (x.1 + x.2) (2 * x.2)) := by
    rw [low_eq] at h1 ⊢
    rw [high_eq] at h2 ⊢
    exact hv_less h.plc h1 h2 (by decide)
  rw [asc_unique hb (.cons (fun z hz => by rw [List.mem_singleton.mp hz]; exact hlt) (.cons (fun z hz => by simp at hz) .nil)) hm]
  rintro ⟨hn, _⟩
  unfold dszs at hn
  rw [List.map_cons, List.map_cons, List.map_cons, List.map_nil, (dbl_half h).1, (dbl_half h).2] at hn
  simp at hn
end Tw
namespace Tw
open PySem PySem.Spec PyProof.Rows L2
/-! ### how many different tuples -/
theorem nd_len {α : Type} [DecidableEq α] {l m : List α} (hn : l.Nodup) (h : ∀ y ∈ l, y ∈ m) : l.length ≤ m.length := by
  induction l generalizing m with
  | nil => simp
  | cons y r ih =>
    have hy := h y List.mem_cons_self
    have hr := List.nodup_cons.mp hn
    have := ih (m := m.erase y) hr.2 fun z hz => (List.mem_erase_of_ne fun e => hr.1 (by rw [← e]; exact hz)).mpr (h z (List.mem_cons_of_mem _ hz))
    rw [List.length_erase_of_mem hy] at this
    have := List.length_pos_of_mem hy
    simp
    omega
theorem dup_less {α : Type} [DecidableEq α] {m : List α} (h : ¬ m.Nodup) : ∃ m' : List α, m'.length + 1 = m.length ∧ ∀ x ∈ m, x ∈ m' := by
  induction m with
  | nil => simp at h
  | cons a r ih =>
    rw [List.nodup_cons] at h
    by_cases ha : a ∈ r
    · exact ⟨r, rfl, fun x hx => (List.mem_cons.mp hx).elim (fun e => by rw [e]; exact ha) id⟩
    · obtain ⟨m', h1, h2⟩ := ih fun z => h ⟨ha, z⟩
      refine ⟨a :: m', by simp; omega, fun x hx => ?_⟩
      rcases List.mem_cons.mp hx with rfl | hx
      · exact List.mem_cons_self
      · exact List.mem_cons_of_mem _ (h2 x hx)
theorem dup_count {α : Type} [DecidableEq α] {l m : List α} (hn : l.Nodup) (h1 : ∀ y ∈ l, y ∈ m) (h2 : ∀ y ∈ m, y ∈ l) : l.length < m.length ↔ ¬ m.Nodup := by
  constructor
  · intro hlt hm
    have := nd_len hm h2
    omega
  · intro hm
    obtain ⟨m', e, hs⟩ := dup_less hm
    have := nd_len hn fun y hy => hs y (h1 y hy)
    omega
def rLenSetT (K : PySem.W.Frag) (x : V) (H : Hp) (Q : VK) : Prop := ∃ (l : Addr) (ks : List (Addr × List Int)), x = .ref l ∧ SqL K H l (ks.map fun p => V.ref p.1) ∧ (∀ p ∈ ks, SqT K H p.1 (p.2.map V.int)) ∧ ks.length < 64 ∧
  ∀ n : Nat, (n < ks.length ↔ ¬ (ks.map (·.2)).Nodup) → Q (.int (n : Nat)) H
def tLenSetT (K : PySem.W.Frag) (ta : TE) : TE := fun σ H Q => ta σ H fun x H1 => rLenSetT K x H1 Q
section
variable {X : Cx} {K : PySem.W.Frag}
theorem pe_lenSetT {a : Expr} {ta : TE} {p p2 q pos : Pos} (calm : X.calm = true) (hu : X.A.units + 65 < cLine) (g1 : Gl X "len") (m1 : X.mg "len" = none) (g2 : Gl X "set") (m2 : X.mg "set" = none) (pa : PE X a ta) (hK : X.K = K := by rfl)
    (arg : starEach [a] X.env = (false, eval a X.env) :: starEach [] X.env := by rfl) : PE X (.Call (.Name "len" p) [.Call (.Name "set" p2) [a] [] q] [] pos) (tLenSetT K ta) := by
  subst hK
  constructor
  intro pins s σ H Q J hyp
  apply Call_ (ld_blt J g1 m1 PySem.boot_len _)
  apply PyProof.Rows.callWith_builtin1 (PyProof.Rows.args_cons _ rfl) rfl rfl
  apply Call_ (ld_blt J g2 m2 PyProof.Rows.boot_set _)
  apply PyProof.Rows.callWith_type1 (PyProof.Rows.args_cons (thn (pa.run pins s σ H _ J hyp) fun v s1 w => PyProof.Rows.args_nil (?_ : _)) arg) arg rfl
  obtain ⟨x, H1, J1, rel, hx⟩ := w
  obtain ⟨l, ks, rfl, seq, hk, few, fin⟩ := hx
  cases rel
  obtain ⟨its, vals, plain, hz⟩ := J1.list seq
  refine call_set_tups (P := X.prog) (w := X.w) ks (J1.ok.hd calm) plain.isList (by simpa using refs_of_vals vals) (fun p hp => J1.isT (hk p hp)) few (by show X.A.units + 3 < cLine; omega) fun h' tk L es ep t R g kept => ?_
  apply PyProof.Rows.args_nil
  obtain ⟨o, ho, hex, hd⟩ := R.ob
  have J2 : Inv X pins σ H1 { s1 with heap := h', toks := tk } := J1.kept kept
  have hsz := SetTR.size (s := { s1 with heap := h', toks := tk }) R
  have hfit := SetTR.fits (s := { s1 with heap := h', toks := tk }) R
  have hsub : ∀ y ∈ L.map (·.2), y ∈ ks.map (·.2) := fun y hy => by
    obtain ⟨z, hz, rfl⟩ := List.mem_map.mp hy
    exact List.mem_map.mpr ⟨z, List.mem_of_mem_take (g.sub z hz), rfl⟩
  have hall : ∀ y ∈ ks.map (·.2), y ∈ L.map (·.2) := fun y hy => by
    obtain ⟨z, hz, rfl⟩ := List.mem_map.mp hy
    exact g.all z (by rw [List.take_length]; exact hz)
  have hc := dup_count R.nd hsub hall
  rw [List.length_map, List.length_map] at hc
  exact call_len_set ho hex hd hfit (by have := R.few; omega) ⟨.int (L.length : Nat), H1, J2.tok _, ⟨_, by rw [hsz]⟩, fin _ hc⟩
end
section
variable {K : PySem.W.Frag} {σ : L2.St} {H : Hp} {Q : VK} {v : V} {ta : TE}
theorem w_lenSetT (h : ta σ H fun x H1 => rLenSetT K x H1 Q) : tLenSetT K ta σ H Q := h
theorem dpa_pds : ∀ {xs : List (Nat × Nat)} {vs : List V}, DpAll K H vs (xs.map pd) → ∃ ks : List (Addr × List Int), vs = ks.map (fun p => V.ref p.1) ∧ ks.map (·.2) = xs.map (fun x => [(x.1 : Int), (x.2 : Int)]) ∧ ∀ p ∈ ks, SqT K H p.1 (p.2.map V.int)
  | [], _, h => by cases h; exact ⟨[], rfl, rfl, by simp⟩
  | x :: xs, _, h => by
    cases h with
    | cons h1 h2 =>
      obtain ⟨ks, rfl, e, hk⟩ := dpa_pds h2
      obtain ⟨a, ws, rfl, hs, ha⟩ := dp_tup h1
      have := dpa_ints_inv (ns := [(x.1 : Int), (x.2 : Int)]) ha
      subst this
      refine ⟨(a, [(x.1 : Int), (x.2 : Int)]) :: ks, rfl, by simp [e], fun p hp => ?_⟩
      rcases List.mem_cons.mp hp with rfl | hp
      · exact hs
      · exact hk p hp
theorem w_lenSetP {xs : List (Nat × Nat)} (h : Dp K H v (.list (xs.map pd))) (few : xs.length < 64) (q : ∀ n : Nat, (n < xs.length ↔ ¬ xs.Nodup) → Q (.int (n : Nat)) H) : rLenSetT K v H Q := by
  obtain ⟨a, ws, rfl, hs, ha⟩ := dp_lst h
  obtain ⟨ks, rfl, e, hk⟩ := dpa_pds ha
  have hl : ks.length = xs.length := by have := congrArg List.length e; simpa using this
  refine ⟨a, ks, rfl, hs, hk, by omega, fun n hn => q n ?_⟩
  rw [e, hl] at hn
  rw [hn]
  have : (xs.map fun x => [(x.1 : Int), (x.2 : Int)]).Nodup ↔ xs.Nodup := by
    unfold List.Nodup
    rw [List.pairwise_map]
    constructor
    · intro h; exact h.imp fun hab z => hab (by rw [z])
    · intro h; exact h.imp fun {a b} hab z => hab (by
        simp only [List.cons.injEq, and_true] at z
        exact Prod.ext (by omega) (by omega))
  rw [this]
theorem sl_tupAK {X : Cx} {K : PySem.W.Frag} (h : X.K = K := by rfl) : SlR X (rSlA K) := h ▸ sl_tupA
/-- t[lo:hi] of data, the whole too -/
theorem w_slTA {ds : List PyData} {lo hi : Option Int} (h : Dp K H v (.tuple ds)) (q : ∀ v' H', Same H H' → Dp K H' v' (.tuple (cutD ds lo hi)) → Q v' H') : rSlA K v lo hi H Q := by
  obtain ⟨a, xs, rfl, hs, ha⟩ := dp_tup h
  refine ⟨a, xs, rfl, hs, fun hw => ?_, fun hw p hp => ?_⟩
  · refine q _ H (Same.refl _) ?_
    have : cutD ds lo hi = ds := by
      unfold cutD
      rw [← dpa_len ha, hw.1, hw.2]
      simp [dpa_len ha]
    rw [this]
    exact h
  · exact q _ _ (same_new hp) (dp_newT upd_same (dpa_same (same_new hp) (dpa_cut ha)))
end
/-! ### a way by steps that may end, until it comes again -/
section
variable {α : Type} [DecidableEq α]
def stO (f : α → Option α) (c : α) : Nat → Option α
  | 0 => some c
  | i + 1 => (stO f c i).bind f
theorem stO_add (f : α → Option α) (c d : α) (i j : Nat) (h : stO f c i = some d) : stO f c (i + j) = stO f d j := by
  induction j with
  | zero => exact h
  | succ j ih => show (stO f c (i + j)).bind f = _; rw [ih]; rfl
structure PreO (f : α → Option α) (c : α) (l : List α) : Prop where
  get : ∀ i, i < l.length → l[i]? = stO f c i
  nd : l.Nodup
structure OrbO (f : α → Option α) (c : α) (l : List α) : Prop extends PreO f c l where
  ne : l ≠ []
  fin : stO f c l.length = none ∨ ∃ b ∈ l, stO f c l.length = some b
theorem PreO.nil {f : α → Option α} {c : α} : PreO f c [] := ⟨fun i h => by simp at h, List.nodup_nil⟩
theorem PreO.snoc {f : α → Option α} {c d : α} {l : List α} (h : PreO f c l) (hd : stO f c l.length = some d) (hn : d ∉ l) : PreO f c (l ++ [d]) := by
  refine ⟨fun i hi => ?_, ?_⟩
  · rw [List.length_append, List.length_singleton] at hi
    by_cases z : i < l.length
    · rw [List.getElem?_append_left z]; exact h.get i z
    · have : i = l.length := by omega
      subst this
      rw [List.getElem?_concat_length, hd]
  · rw [List.nodup_append]
    exact ⟨h.nd, by simp, fun a ha b hb z => by rw [List.mem_singleton.mp hb] at z; exact hn (z ▸ ha)⟩
theorem PreO.mem {f : α → Option α} {c : α} {l : List α} (h : PreO f c l) {b : α} (hb : b ∈ l) : ∃ j, j < l.length ∧ stO f c j = some b := by
  obtain ⟨j, hj⟩ := List.getElem?_of_mem hb
  have hl := (List.getElem?_eq_some_iff.mp hj).1
  exact ⟨j, hl, by rw [← h.get j hl]; exact hj⟩
theorem PreO.inj {f : α → Option α} {c : α} {l : List α} (h : PreO f c l) {i j : Nat} (hi : i < l.length) (hj : j < l.length) (e : stO f c i = stO f c j) : i = j := by
  rw [← h.get i hi, ← h.get j hj, List.getElem?_eq_getElem hi, List.getElem?_eq_getElem hj] at e
  have e2 := Option.some.inj e
  have hp := List.pairwise_iff_getElem.mp h.nd
  rcases Nat.lt_trichotomy i j with z | z | z
  · exact absurd e2 (hp i j hi hj z)
  · exact z
  · exact absurd e2.symm (hp j i hj hi z)
theorem OrbO.past {f : α → Option α} {c : α} {l m : List α} (h : OrbO f c l) (g : PreO f c m) : m.length ≤ l.length := by
  refine Decidable.byContradiction fun z => ?_
  have hlt : l.length < m.length := by omega
  have e := g.get l.length hlt
  rw [List.getElem?_eq_getElem hlt] at e
  rcases h.fin with h0 | ⟨b, hb, hs⟩
  · rw [h0] at e; cases e
  · obtain ⟨j, hj, ej⟩ := h.mem hb
    have := g.inj (i := l.length) (j := j) hlt (by omega) (by rw [hs, ej])
    omega
theorem OrbO.unique {f : α → Option α} {c : α} {l m : List α} (h : OrbO f c l) (g : OrbO f c m) : l = m := by
  have h1 := h.past g.toPreO
  have h2 := g.past h.toPreO
  refine List.ext_getElem? fun i => ?_
  by_cases hi : i < l.length
  · rw [h.get i hi, g.get i (by omega)]
  · rw [List.getElem?_eq_none (by omega), List.getElem?_eq_none (by omega)]
theorem OrbO.all {f : α → Option α} {c : α} {l : List α} (h : OrbO f c l) : ∀ (n i : Nat), i ≤ n → ∀ b, stO f c i = some b → b ∈ l := by
  intro n
  induction n with
  | zero =>
    intro i hi b e
    have hp := List.length_pos_iff.mpr h.ne
    have : i = 0 := by omega
    subst this
    rw [← h.get 0 hp] at e
    exact List.mem_of_getElem? e
  | succ n ih =>
    intro i hi b e
    by_cases hl : i < l.length
    · rw [← h.get i hl] at e
      exact List.mem_of_getElem? e
    · have hp := List.length_pos_iff.mpr h.ne
      rcases h.fin with h0 | ⟨d, hd, hs⟩
      · have : ∀ t, stO f c (l.length + t) = none := fun t => by
          induction t with
          | zero => exact h0
          | succ t iht => show (stO f c (l.length + t)).bind f = none; rw [iht]; rfl
        have := this (i - l.length)
        rw [show l.length + (i - l.length) = i by omega, e] at this
        cases this
      · obtain ⟨j, hj, ej⟩ := h.mem hd
        have e1 := stO_add f c d l.length (i - l.length) hs
        have e2 := stO_add f c d j (i - l.length) ej
        rw [show l.length + (i - l.length) = i by omega, e, ← e2] at e1
        exact ih (j + (i - l.length)) (by omega) b e1.symm
/-- the way from a later entry -/
theorem OrbO.later {f : α → Option α} {c d : α} {l m : List α} {k : Nat} (h : OrbO f c l) (hd : l[k]? = some d) (g : OrbO f d m) : m.take (l.length - k) = l.drop k ∧ ∀ x ∈ m, x ∈ l := by
  have hk := (List.getElem?_eq_some_iff.mp hd).1
  have hs : stO f c k = some d := by rw [← h.get k hk]; exact hd
  have hst : ∀ j, stO f c (k + j) = stO f d j := fun j => stO_add f c d k j hs
  have hlen : l.length - k ≤ m.length := by
    refine Decidable.byContradiction fun z => ?_
    rcases g.fin with h0 | ⟨b, hb, hb2⟩
    · have := h.get (k + m.length) (by omega)
      rw [hst, h0, List.getElem?_eq_getElem (by omega)] at this
      cases this
    · obtain ⟨j, hj, ej⟩ := g.mem hb
      have := h.toPreO.inj (i := k + m.length) (j := k + j) (by omega) (by omega) (by rw [hst, hst, hb2, ej])
      omega
  constructor
  · refine List.ext_getElem? fun i => ?_
    rw [List.getElem?_take, List.getElem?_drop]
    split
    · rename_i hi
      rw [g.get i (by omega), h.get (k + i) (by omega), hst]
    · rw [List.getElem?_eq_none (by omega)]
  · intro x hx
    obtain ⟨j, hj, ej⟩ := g.mem hx
    exact h.all (k + j) (k + j) (Nat.le_refl _) x (by rw [hst]; exact ej)
end
end Tw
namespace Tw
open PySem PySem.Spec PyProof.Rows L2
/-! ### chords -/
abbrev Cd := (Nat × Nat) × (Nat × Nat)
def cd (c : Cd) : PyData := .tuple [pd c.1, pd c.2]
theorem cd_inj {x y : Cd} (h : cd x = cd y) : x = y := by
  have h2 : pd x.1 = pd y.1 ∧ pd x.2 = pd y.2 := by
    have := PyData.tuple.inj h
    simpa using this
  exact Prod.ext (pd_inj h2.1) (pd_inj h2.2)
theorem cd_pln {k : Nat} (x : Cd) : pln (k + 2) (cd x) = true := by
  refine pln_tuple fun z hz => ?_
  simp only [List.mem_cons, List.not_mem_nil, or_false] at hz
  rcases hz with rfl | rfl
  · exact pd_pln _
  · exact pd_pln _
theorem cd_noL (x : Cd) : noL (cd x) = true := rfl
def ordP (a b : Nat × Nat) : Cd := if sz a < sz b then (a, b) else (b, a)
/-- a chord: two places, the lesser first -/
structure PC (c : Cd) : Prop where
  a : Plc c.1
  b : Plc c.2
  lt : sz c.1 < sz c.2
theorem ord_pc {a b : Nat × Nat} (ha : Plc a) (hb : Plc b) (h : a ≠ b) : PC (ordP a b) := by
  unfold ordP
  split
  · rename_i z; exact ⟨ha, hb, z⟩
  · rename_i z
    have : sz a ≠ sz b := fun e => h (sz_inj ha hb e)
    exact ⟨hb, ha, by show sz b < sz a; omega⟩
theorem ord_self {c : Cd} (h : PC c) : ordP c.1 c.2 = c := by unfold ordP; rw [if_pos h.lt]
theorem ord_comm {a b : Nat × Nat} (ha : Plc a) (hb : Plc b) (h : a ≠ b) : ordP a b = ordP b a := by
  have : sz a ≠ sz b := fun e => h (sz_inj ha hb e)
  unfold ordP
  split <;> split <;> first | rfl | omega
/-- is x within the arc from a up to b -/
def wiB (a x b : Nat × Nat) : Bool := decide (0 < wu a x ∧ wu a x < wu a b)
def crB (c d : Cd) : Bool := if c.1 = d.1 ∨ c.1 = d.2 ∨ c.2 = d.1 ∨ c.2 = d.2 then false else wiB c.1 d.1 c.2 != wiB c.1 d.2 c.2
theorem wiB_in {a x b : Nat × Nat} (ha : Plc a) (hx : Plc x) (hb : Plc b) (h : sz a < sz b) : wiB a x b = decide (sz a < sz x ∧ sz x < sz b) := by
  have h1 := sz_lt ha
  have h2 := sz_lt hb
  have h3 := sz_lt hx
  have e1 := wu_eq ha hx
  have e2 := wu_eq ha hb
  rw [if_pos (by omega)] at e2
  unfold wiB
  rw [decide_eq_decide, e1, e2]
  split <;> omega
/-- one chord's ends lie on both sides of the other, by the sizes -/
def inter (a b c d : Nat) : Prop := (a < c ∧ c < b ∧ b < d) ∨ (c < a ∧ a < d ∧ d < b)
instance {a b c d : Nat} : Decidable (inter a b c d) := by unfold inter; infer_instance
theorem crB_in {c d : Cd} (hc : PC c) (hd : PC d) : crB c d = decide (inter (sz c.1) (sz c.2) (sz d.1) (sz d.2)) := by
  unfold crB
  have e1 : (c.1 = d.1) ↔ sz c.1 = sz d.1 := ⟨fun e => by rw [e], sz_inj hc.a hd.a⟩
  have e2 : (c.1 = d.2) ↔ sz c.1 = sz d.2 := ⟨fun e => by rw [e], sz_inj hc.a hd.b⟩
  have e3 : (c.2 = d.1) ↔ sz c.2 = sz d.1 := ⟨fun e => by rw [e], sz_inj hc.b hd.a⟩
  have e4 : (c.2 = d.2) ↔ sz c.2 = sz d.2 := ⟨fun e => by rw [e], sz_inj hc.b hd.b⟩
  have l1 := hc.lt
  have l2 := hd.lt
  rw [wiB_in hc.a hd.a hc.b l1, wiB_in hc.a hd.b hc.b l1]
  by_cases z : c.1 = d.1 ∨ c.1 = d.2 ∨ c.2 = d.1 ∨ c.2 = d.2
  · rw [if_pos z]
    rw [e1, e2, e3, e4] at z
    symm
    rw [decide_eq_false_iff_not]
    unfold inter
    omega
  · rw [if_neg z]
    rw [e1, e2, e3, e4] at z
    by_cases p : sz c.1 < sz d.1 ∧ sz d.1 < sz c.2 <;> by_cases r : sz c.1 < sz d.2 ∧ sz d.2 < sz c.2
    · rw [decide_eq_true p, decide_eq_true r, decide_eq_false (show ¬ inter (sz c.1) (sz c.2) (sz d.1) (sz d.2) from by unfold inter; omega)]; rfl
    · rw [decide_eq_true p, decide_eq_false r, decide_eq_true (show inter (sz c.1) (sz c.2) (sz d.1) (sz d.2) from by unfold inter; omega)]; rfl
    · rw [decide_eq_false p, decide_eq_true r, decide_eq_true (show inter (sz c.1) (sz c.2) (sz d.1) (sz d.2) from by unfold inter; omega)]; rfl
    · rw [decide_eq_false p, decide_eq_false r, decide_eq_false (show ¬ inter (sz c.1) (sz c.2) (sz d.1) (sz d.2) from by unfold inter; omega)]; rfl
def mirC (c : Cd) : Cd := ordP (mirN c.1) (mirN c.2)
theorem mirC_sz {c : Cd} (h : PC c) : PC (mirC c) ∧ (if sz c.1 = 0 then sz (mirC c).1 = 0 ∧ sz (mirC c).2 = CN - sz c.2 else sz (mirC c).1 = CN - sz c.2 ∧ sz (mirC c).2 = CN - sz c.1) := by
  have h1 := sz_lt h.a
  have h2 := sz_lt h.b
  have l := h.lt
  have e1 := mir_sz h.a
  have e2 := mir_sz h.b
  rw [if_neg (by omega)] at e2
  have hne : mirN c.1 ≠ mirN c.2 := fun e => by
    have : sz (mirN c.1) = sz (mirN c.2) := by rw [e]
    rw [e1, e2] at this
    split at this <;> omega
  refine ⟨ord_pc (mir_plc h.a) (mir_plc h.b) hne, ?_⟩
  unfold mirC ordP
  rw [e1, e2]
  by_cases z : sz c.1 = 0
  · rw [if_pos z, if_pos z, if_pos (by omega)]
    exact ⟨by rw [e1, if_pos z], e2⟩
  · rw [if_neg z, if_neg z, if_neg (by omega)]
    exact ⟨e2, by rw [e1, if_neg z]⟩
theorem crB_mir {c d : Cd} (hc : PC c) (hd : PC d) : crB (mirC c) (mirC d) = crB c d := by
  obtain ⟨pc, ec⟩ := mirC_sz hc
  obtain ⟨pd', ed⟩ := mirC_sz hd
  rw [crB_in pc pd', crB_in hc hd, decide_eq_decide]
  have h1 := sz_lt hc.a
  have h2 := sz_lt hc.b
  have h3 := sz_lt hd.a
  have h4 := sz_lt hd.b
  have l1 := hc.lt
  have l2 := hd.lt
  unfold inter
  split at ec <;> split at ed <;> omega
/-- the length of a chord -/
def clN (c : Cd) : Nat × Nat := red (min (wu c.1 c.2) (CN - wu c.1 c.2)) CN
theorem clN_sz {c : Cd} (h : PC c) : clN c = red (min (sz c.2 - sz c.1) (CN - (sz c.2 - sz c.1))) CN := by
  unfold clN
  rw [wu_eq h.a h.b, if_pos (by have := h.lt; omega)]
theorem clN_mir {c : Cd} (h : PC c) : clN (mirC c) = clN c := by
  obtain ⟨pc, ec⟩ := mirC_sz h
  rw [clN_sz pc, clN_sz h]
  have h1 := sz_lt h.a
  have h2 := sz_lt h.b
  have l1 := h.lt
  congr 1
  split at ec
  · rename_i z
    rw [ec.1, ec.2, z]
    omega
  · rw [ec.1, ec.2]
    omega
theorem clN_law {c : Cd} (h : PC c) : ∃ t : Nat, ((c.2.1 : Int) * c.1.2 - (c.1.1 : Int) * c.2.2 = (t : Int)) ∧ t < c.1.2 * c.2.2 ∧ red (min t (c.1.2 * c.2.2 - t)) (c.1.2 * c.2.2) = clN c := by
  rw [clN_sz h]
  have ha := sz_mul h.a
  have hb := sz_mul h.b
  have pa := h.a.pos
  have pb := h.b.pos
  have la := h.a.lt
  have lb := h.b.lt
  have hl := h.lt
  have hless := (sz_less h.a h.b).mpr hl
  have c0 := CN_pos
  have s2 := sz_lt h.b
  obtain ⟨t, ht⟩ : ∃ t, c.2.1 * c.1.2 = c.1.1 * c.2.2 + t := ⟨c.2.1 * c.1.2 - c.1.1 * c.2.2, by omega⟩
  obtain ⟨u, hu⟩ : ∃ u, sz c.2 = sz c.1 + u := ⟨sz c.2 - sz c.1, by omega⟩
  have hB : 0 < c.1.2 * c.2.2 := Nat.mul_pos pa pb
  -- u over CN is t over the product
  have key : u * (c.1.2 * c.2.2) = t * CN := by
    have e1 : sz c.2 * (c.1.2 * c.2.2) = c.2.1 * c.1.2 * CN := by
      generalize sz c.2 = s at *
      calc s * (c.1.2 * c.2.2) = s * c.2.2 * c.1.2 := by grind
        _ = c.2.1 * CN * c.1.2 := by rw [hb]
        _ = c.2.1 * c.1.2 * CN := by grind
    have e2 : sz c.1 * (c.1.2 * c.2.2) = c.1.1 * c.2.2 * CN := by
      generalize sz c.1 = s at *
      calc s * (c.1.2 * c.2.2) = s * c.1.2 * c.2.2 := by grind
        _ = c.1.1 * CN * c.2.2 := by rw [ha]
        _ = c.1.1 * c.2.2 * CN := by grind
    rw [hu, ht, Nat.add_mul, Nat.add_mul, e2] at e1
    omega
  have htl : t < c.1.2 * c.2.2 := by
    have : c.2.1 * c.1.2 < c.1.2 * c.2.2 := by
      rw [Nat.mul_comm c.1.2]
      exact Nat.mul_lt_mul_of_pos_right lb pa
    omega
  have hul : u < CN := by omega
  refine ⟨t, by have : ((c.2.1 * c.1.2 : Nat) : Int) = ((c.1.1 * c.2.2 + t : Nat) : Int) := by rw [ht]
                push_cast at this; omega, htl, ?_⟩
  rw [hu, show sz c.1 + u - sz c.1 = u by omega]
  refine red_eq hB c0 ?_
  generalize c.1.2 * c.2.2 = B at *
  have k2 : (CN - u) * B = (B - t) * CN := by
    rw [Nat.sub_mul, Nat.sub_mul, key, Nat.mul_comm CN B]
  rcases Nat.le_total t (B - t) with z | z
  · have : u ≤ CN - u := by
      have := Nat.mul_le_mul_right CN z
      rw [← key, ← k2] at this
      exact Nat.le_of_mul_le_mul_right this hB
    rw [Nat.min_eq_left z, Nat.min_eq_left this, key]
  · have : CN - u ≤ u := by
      have := Nat.mul_le_mul_right CN z
      rw [← key, ← k2] at this
      exact Nat.le_of_mul_le_mul_right this hB
    rw [Nat.min_eq_right z, Nat.min_eq_right this, k2]
/-! ### a chord doubled -/
def fC (c : Cd) : Option Cd := if dblN c.1 = dblN c.2 then none else some (ordP (dblN c.1) (dblN c.2))
theorem fC_pc {c d : Cd} (h : PC c) (e : fC c = some d) : PC d := by
  unfold fC at e
  split at e
  · cases e
  · rename_i z
    cases e
    exact ord_pc (dbl_plc h.a) (dbl_plc h.b) z
theorem st_pc {c : Cd} (h : PC c) : ∀ (i : Nat) (d : Cd), stO fC c i = some d → PC d := by
  intro i
  induction i with
  | zero => intro d e; cases e; exact h
  | succ i ih =>
    intro d e
    change (stO fC c i).bind fC = some d at e
    obtain ⟨b, hb, hd⟩ := Option.bind_eq_some_iff.mp e
    exact fC_pc (ih b hb) hd
theorem st_it {c : Cd} (h : PC c) : ∀ (i : Nat) (d : Cd), stO fC c i = some d → d = ordP (itN i c.1) (itN i c.2) ∧ itN i c.1 ≠ itN i c.2 := by
  intro i
  induction i with
  | zero =>
    intro d e
    cases e
    exact ⟨(ord_self h).symm, fun z => by have := h.lt; have e : c.1 = c.2 := z; rw [e] at this; omega⟩
  | succ i ih =>
    intro d e
    change (stO fC c i).bind fC = some d at e
    obtain ⟨b, hb, hd⟩ := Option.bind_eq_some_iff.mp e
    obtain ⟨eb, hne⟩ := ih b hb
    unfold fC at hd
    split at hd
    · cases hd
    · rename_i z
      cases hd
      have p1 := it_plc h.a i
      have p2 := it_plc h.b i
      rw [itN_succ, itN_succ]
      rw [eb] at z ⊢
      unfold ordP at z ⊢
      split at z
      · rename_i y
        rw [if_pos y]
        exact ⟨rfl, z⟩
      · rename_i y
        rw [if_neg y]
        exact ⟨ord_comm (dbl_plc p2) (dbl_plc p1) z, fun e => z e.symm⟩
theorem it_back {x : Nat × Nat} (h : Plc x) (k : Nat) : ∀ i, wayN x ≤ i → itN (i + perN x * k) x = itN i x := by
  have w := ways h
  have hb := w.back
  have step : ∀ i, wayN x ≤ i → itN (i + perN x) x = itN i x := fun i hi => by
    obtain ⟨j, rfl⟩ : ∃ j, i = j + wayN x := ⟨i - wayN x, by omega⟩
    rw [Nat.add_assoc, itN_add, hb, ← itN_add]
  induction k with
  | zero => intro i _; rfl
  | succ k ih =>
    intro i hi
    rw [Nat.mul_succ, ← Nat.add_assoc, step (i + perN x * k) (by omega), ih i hi]
/-- a way of chords comes again soon -/
theorem pre_short {c : Cd} (h : PC c) {l : List Cd} (g : PreO fC c l) : l.length ≤ max (wayN c.1) (wayN c.2) + perN c.1 * perN c.2 := by
  refine Decidable.byContradiction fun z => ?_
  generalize hw : max (wayN c.1) (wayN c.2) = w at z
  have h1 := (ways h.a).n1
  have h2 := (ways h.b).n1
  have hp : 0 < perN c.1 * perN c.2 := Nat.mul_pos h1 h2
  have hi : w < l.length := by omega
  have hj : w + perN c.1 * perN c.2 < l.length := by omega
  have e1 := g.get w hi
  have e2 := g.get (w + perN c.1 * perN c.2) hj
  rw [List.getElem?_eq_getElem hi] at e1
  rw [List.getElem?_eq_getElem hj] at e2
  have d1 := (st_it h _ _ e1.symm).1
  have d2 := (st_it h _ _ e2.symm).1
  rw [it_back h.a _ w (by omega)] at d2
  have hb2 := it_back h.b (perN c.1) w (by omega)
  rw [Nat.mul_comm (perN c.2)] at hb2
  rw [hb2, ← d1] at d2
  have := g.inj hj hi (by rw [← e1, ← e2, d2])
  omega
/-- a place of at most k steps, at most 7 of them again and again -/
def Qs (k : Nat) (x : Nat × Nat) : Prop := Plc x ∧ ∃ m n, 1 ≤ n ∧ n ≤ 7 ∧ m + n ≤ k ∧ x.2 ∣ 2 ^ m * (2 ^ n - 1)
theorem qs_bin {k : Nat} {h c : List Nat} (hc : c ≠ []) (h7 : c.length ≤ 7) (hk : k ≤ 24) (hl : h.length + c.length ≤ k) : Qs k (binN h c) := ⟨bin_plc hc (by omega), h.length, c.length, List.length_pos_iff.mpr hc, h7, hl, red_dvd⟩
theorem qs_mono {k l : Nat} {x : Nat × Nat} (h : Qs k x) (hk : k ≤ l) : Qs l x := by
  obtain ⟨h, m, n, h1, h2, h3, h4⟩ := h
  exact ⟨h, m, n, h1, h2, by omega, h4⟩
theorem qs_half {k : Nat} {x : Nat × Nat} (h : Qs k x) (hk : k ≤ 23) : Qs (k + 1) (red x.1 (2 * x.2)) ∧ Qs (k + 1) (red (x.1 + x.2) (2 * x.2)) := by
  obtain ⟨h, m, n, h1, h2, h3, h4⟩ := h
  have := half_plc h h1 (by omega) h4
  exact ⟨⟨this.1, m + 1, n, h1, h2, by omega, half_dvd h4⟩, ⟨this.2, m + 1, n, h1, h2, by omega, half_dvd h4⟩⟩
theorem qs_per {k : Nat} {x : Nat × Nat} (h : Qs k x) : perN x ≤ 7 := by
  obtain ⟨h, m, n, h1, h2, h3, h4⟩ := h
  have w := ways h
  obtain ⟨e1, e2⟩ := odd_spec h.pos (Nat.lt_trans h.small (by decide))
  rw [e1, dvd_split e2 h1] at h4
  refine Decidable.byContradiction fun z => ?_
  exact w.lt n h1 (by omega) h4.2
structure BC (c : Cd) : Prop where
  pc : PC c
  n1 : perN c.1 ≤ 7
  n2 : perN c.2 ≤ 7
theorem BC.le {c : Cd} (h : BC c) : max (wayN c.1) (wayN c.2) + perN c.1 * perN c.2 ≤ 380 := by
  have w1 := (ways h.pc.a).le
  have w2 := (ways h.pc.b).le
  have := Nat.mul_le_mul h.n1 h.n2
  omega
theorem bc_ord {a b : Nat × Nat} (ha : Plc a) (hb : Plc b) (h : a ≠ b) (h1 : perN a ≤ 7) (h2 : perN b ≤ 7) : BC (ordP a b) := by
  refine ⟨ord_pc ha hb h, ?_, ?_⟩
  · unfold ordP; split
    · exact h1
    · exact h2
  · unfold ordP; split
    · exact h2
    · exact h1
theorem bc_st {c : Cd} (h : BC c) : ∀ (i : Nat) (d : Cd), stO fC c i = some d → BC d := by
  intro i
  induction i with
  | zero => intro d e; cases e; exact h
  | succ i ih =>
    intro d e
    change (stO fC c i).bind fC = some d at e
    obtain ⟨b, hb, hd⟩ := Option.bind_eq_some_iff.mp e
    have hB := ih b hb
    unfold fC at hd
    split at hd
    · cases hd
    · rename_i z
      cases hd
      exact bc_ord (dbl_plc hB.pc.a) (dbl_plc hB.pc.b) z (by rw [(dbl_ways hB.pc.a).2]; exact hB.n1) (by rw [(dbl_ways hB.pc.b).2]; exact hB.n2)
theorem orb_bd {c : Cd} (h : BC c) {l : List Cd} (g : OrbO fC c l) : l.length ≤ 380 ∧ 0 < l.length := ⟨Nat.le_trans (pre_short h.pc g.toPreO) h.le, List.length_pos_iff.mpr g.ne⟩
theorem noLs_cd (l : List Cd) : noLs (l.map cd) = true := by
  induction l with
  | nil => rfl
  | cons u r ih => simp only [List.map_cons, noLs, cd_noL, Bool.true_and]; exact ih
theorem pln_cds {l : List Cd} : ∀ z ∈ l.map cd, pln 8 z = true := fun z hz => by
  obtain ⟨u, _, rfl⟩ := List.mem_map.mp hz
  exact cd_pln _
/-- a, b, .. = a list -/
theorem pg_unlK {X : Cx} {K : PySem.W.Frag} {es : List Expr} {k : Nat} {t : TGs} {n : Nat} {pos : Pos} (hc : X.calm = true) (hh : PGs X es t) (h : X.K = K := by rfl)
    (hn : (assignEach es X.env).length = n := by rfl) (hst : (assignEach es X.env).findIdx? (·.1) = none := by rfl) : PG X (.Tuple es k pos) (gUnl K n t) := h ▸ pg_unl hc hh hn hst
theorem w_gUnl4 {K : PySem.W.Frag} {σ : L2.St} {H : Hp} {v : V} {i j k l : Nat} {Q : L2.St → Hp → Prop} {d e f g : PyData} (h : Dp K H v (.list [d, e, f, g])) (q : ∀ v1 v2 v3 v4, Dp K H v1 d → Dp K H v2 e → Dp K H v3 f → Dp K H v4 g → Q ((((σ.set i (some v1)).set j (some v2)).set k (some v3)).set l (some v4)) H) :
    gUnl K 4 (gCons (gName i) (gCons (gName j) (gCons (gName k) (gCons (gName l) gNil)))) v σ H Q := by
  obtain ⟨a, xs, rfl, hs, ha⟩ := dp_lst h
  cases ha with
  | cons h1 g1 => cases g1 with
    | cons h2 g2 => cases g2 with
      | cons h3 g3 => cases g3 with
        | cons h4 g4 => cases g4; exact ⟨a, _, rfl, hs, rfl, _, _, rfl, _, _, rfl, _, _, rfl, _, _, rfl, rfl, q _ _ _ _ h1 h2 h3 h4⟩
theorem w_neC {K : PySem.W.Frag} {H : Hp} {Q : VK} {x y : V} {d : PyData} (h1 : Dp K H x d) (h2 : Dp K H y d) (s : SeqAt.shaped d = true) (e : PyData.eqv d d = true) (q : Q (.bl false) H) : rNeD K x y H Q := by
  refine ⟨d, d, h1, h2, s, s, ?_⟩
  rw [e]
  exact q
theorem four_of {α : Type} {l : List α} (h : 4 ≤ l.length) : ∃ a b c d r, l = a :: b :: c :: d :: r := by
  rcases l with _ | ⟨a, _ | ⟨b, _ | ⟨c, _ | ⟨d, r⟩⟩⟩⟩
  · simp at h
  · simp at h
  · simp at h
  · simp at h
  · exact ⟨a, b, c, d, r, rfl⟩
end Tw
namespace Tw
open PySem PySem.Spec PyProof.Rows L2
/-! ### all places of one way in and one period -/
def bt (a n : Nat) : Nat := 2 ^ a * (2 ^ n - 1)
def plN (a n : Nat) : List (Nat × Nat) := ((List.range (bt a n)).map fun t => red t (bt a n)).filter fun x => wayN x == a && perN x == n
theorem bt_pos {a n : Nat} (hn : 1 ≤ n) : 0 < bt a n := bot_pos hn
theorem bt_le {a n : Nat} (h : a + n ≤ 10) : bt a n ≤ 1024 := by
  unfold bt
  have h1 : 2 ^ a * (2 ^ n - 1) ≤ 2 ^ a * 2 ^ n := Nat.mul_le_mul_left _ (Nat.sub_le _ _)
  rw [← Nat.pow_add] at h1
  have h2 : 2 ^ (a + n) ≤ 2 ^ 10 := Nat.pow_le_pow_right (by decide) h
  have : 2 ^ 10 = 1024 := rfl
  omega
theorem bt_plc {a n t : Nat} (hn : 1 ≤ n) (h : a + n ≤ 24) (ht : t < bt a n) : Plc (red t (bt a n)) := ⟨red_lt ht, red_coprime (bt_pos hn), a, n, hn, h, red_dvd⟩
theorem bt_sz {a n t : Nat} (hn : 1 ≤ n) (h : a + n ≤ 24) (ht : t < bt a n) : sz (red t (bt a n)) * bt a n = t * CN := by
  have p := bt_plc hn h ht
  have h1 := sz_mul p
  have h2 := red_cross (p := t) (q := bt a n)
  have h0 := p.pos
  generalize red t (bt a n) = x at *
  have : (sz x * bt a n) * x.2 = (t * CN) * x.2 := by
    rw [Nat.mul_right_comm, h1, Nat.mul_right_comm, h2, Nat.mul_right_comm]
  exact Nat.eq_of_mul_eq_mul_right h0 this
theorem pl_asc {a n : Nat} (hn : 1 ≤ n) (h : a + n ≤ 24) : (plN a n).Pairwise (fun x y => sz x < sz y) := by
  unfold plN
  refine List.Pairwise.filter _ ?_
  rw [List.pairwise_map]
  refine List.Pairwise.imp_of_mem ?_ (List.pairwise_lt_range (n := bt a n))
  intro t u ht hu htu
  have e1 := bt_sz hn h (List.mem_range.mp ht)
  have e2 := bt_sz hn h (List.mem_range.mp hu)
  have hb := bt_pos (a := a) hn
  have hc := CN_pos
  have : t * CN < u * CN := Nat.mul_lt_mul_of_pos_right htu hc
  rw [← e1, ← e2] at this
  exact Nat.lt_of_mul_lt_mul_right this
theorem pl_plc {a n : Nat} (hn : 1 ≤ n) (h : a + n ≤ 24) : ∀ x ∈ plN a n, Plc x := fun x hx => by
  obtain ⟨hx, _⟩ := List.mem_filter.mp hx
  obtain ⟨t, ht, rfl⟩ := List.mem_map.mp hx
  exact bt_plc hn h (List.mem_range.mp ht)
theorem pl_len {a n : Nat} (h : a + n ≤ 10) : (plN a n).length ≤ 1024 := by
  refine Nat.le_trans (List.length_filter_le _ _) ?_
  rw [List.length_map, List.length_range]
  exact bt_le h
/-- how many there are -/
def plC (a n : Nat) : Nat := ((List.range (bt a n)).filter fun t => wayN (red t (bt a n)) == a && perN (red t (bt a n)) == n).length
theorem pl_cnt (a n : Nat) : (plN a n).length = plC a n := by
  unfold plN plC
  rw [List.filter_map, List.length_map]
  rfl
theorem cnt_all : ∀ n : Fin 11, 1 ≤ n.val → ((List.range n.val).map fun d => if n.val % (d + 1) = 0 then plC 0 (d + 1) else 0).sum = 2 ^ n.val - 1 := by decide +kernel
theorem cnt_half : ∀ n : Fin 11, ∀ a : Fin 11, 1 ≤ n.val → 1 ≤ a.val → a.val + n.val ≤ 10 → plC a.val n.val = plC 0 n.val * 2 ^ (a.val - 1) := by decide +kernel
theorem cnt_top : ∀ n : Fin 11, ∀ a : Fin 11, 1 ≤ n.val → a.val + n.val ≤ 10 → plC a.val n.val ≤ 1000 := by decide +kernel
end Tw
namespace Tw
open PySem PySem.Spec PyProof.Rows L2
variable {K : PySem.W.Frag} {g : TG} {tb : TS} {D : Ends} {σ : L2.St} {H : Hp} {ta : TA}
def rForI (J : It) (g : TG) (tb : TS) (D : Ends) (σ : L2.St) (H1 : Hp) : Prop := ∃ W : Nat → Nat → L2.St → Hp → Prop, (∃ m, W 0 m σ H1) ∧ ∀ i m σ H, W i m σ H →
  (J.stop i H ∧ D.nx σ H) ∨ (J.go i H ∧ ∃ N : L2.St → Hp → Prop, (∀ σ' H', N σ' H' → ∃ m', m' < m ∧ W (i + 1) m' σ' H') ∧ ∀ x H', J.yld i H x H' → g x σ H' fun σ2 H2 => tb { D with nx := N, ct := N, bk := D.nx } σ2 H2)
def rForZ (K : PySem.W.Frag) (g : TG) (tb : TS) (D : Ends) (σ : L2.St) (vs : List V) (H1 : Hp) : Prop := ∃ a b xs ys, vs = [.ref a, .ref b] ∧ ((SqL K H1 a xs ∧ SqL K H1 b ys ∧ rForI (Itz K a b) g tb D σ H1) ∨ (SqT K H1 a xs ∧ SqT K H1 b ys ∧ rForI (RZ.ItzT K a b) g tb D σ H1))
theorem pi_zipK {X : Cx} {e e2 : Expr} {ta : TA} {p pos tpos : Pos} {elts : List Expr} {kk : Nat} (hg : Gl X "zip") (hm : X.mg "zip" = none) (ha : PA X [e, e2] ta) (h : X.K = K := by rfl)
    (hs : starEach [e, e2] X.env = (false, eval e X.env) :: starEach [e2] X.env := by rfl) (hpl : (backTo pos (starEach [e2] X.env)).any (·.1) = false := by rfl) :
    PI X (.Tuple elts kk tpos) (.Call (.Name "zip" p) [e, e2] [] pos) (RZ.iZipA K ta) := h ▸ RZ.pi_zipA hg hm ha hs hpl
theorem w_forZ (h : ta σ H fun vs H1 => rForZ K g tb D σ vs H1) : tFor (RZ.iZipA K ta) g tb D σ H := h
/-- two tuples side by side -/
theorem forZT_by {u v : V} {ds es : List PyData} (Pv : Nat → L2.St → Hp → Prop) (s1 : Dp K H u (.tuple ds)) (s2 : Dp K H v (.tuple es)) (h0 : Pv 0 σ H) (hk : ∀ i σ' H', i ≤ ds.length → Pv i σ' H' → Keep H H')
    (hs : ∀ i d e T σ' H' H2, ds[i]? = some d → es[i]? = some e → Pv i σ' H' → Same H' H2 → Dp K H2 (.ref T) (.tuple [d, e]) → g (.ref T) σ' H2 fun σ2 H2 => tb { D with nx := Pv (i + 1), ct := Pv (i + 1), bk := D.nx } σ2 H2)
    (hd : ∀ σ' H', Pv (min ds.length es.length) σ' H' → D.nx σ' H') : rForZ K g tb D σ [u, v] H := by
  obtain ⟨a, xs, rfl, qx, dx⟩ := dp_tup s1
  obtain ⟨b, ys, rfl, qy, dy⟩ := dp_tup s2
  have lx := dpa_len dx
  have ly := dpa_len dy
  refine ⟨a, b, xs, ys, rfl, .inr ⟨qx, qy, fun i m σ H => m = min ds.length es.length - i ∧ i ≤ min ds.length es.length ∧ Pv i σ H, ⟨_, rfl, Nat.zero_le _, h0⟩, ?_⟩⟩
  rintro i m σ' H' ⟨rfl, hi, p⟩
  have k := hk i σ' H' (by omega) p
  have qx' := k.seqT qx
  have qy' := k.seqT qy
  by_cases hlt : i < min ds.length es.length
  · have hx : xs[i]? = some xs[i] := List.getElem?_eq_getElem (by omega)
    have hy : ys[i]? = some ys[i] := List.getElem?_eq_getElem (by omega)
    refine .inr ⟨⟨xs, ys, _, _, qx', qy', hx, hy⟩, Pv (i + 1), fun σ' H' p' => ⟨min ds.length es.length - (i + 1), by omega, rfl, hlt, p'⟩, fun w H2 y => ?_⟩
    obtain ⟨T, x', y', rfl, hT, rfl, f1, f2⟩ := y
    obtain ⟨d, e1, e2⟩ := dpa_get2 dx (f1 xs qx')
    obtain ⟨d2, e3, e4⟩ := dpa_get2 dy (f2 ys qy')
    have sm : Same H' (upd H' T (.tup [x', y'])) := same_new hT
    exact hs i d d2 T σ' H' _ e1 e3 p sm (.tup (SqT.of upd_same) (.cons (dp_same sm (dp_keep k e2)) (dpa_one (dp_same sm (dp_keep k e4)))))
  · have e : i = min ds.length es.length := by omega
    subst e
    exact .inl ⟨⟨xs, ys, qx', qy', by omega⟩, hd σ' H' p⟩
/-- two lists side by side -/
theorem forZL_by {u v : V} {ds es : List PyData} (Pv : Nat → L2.St → Hp → Prop) (s1 : Dp K H u (.list ds)) (s2 : Dp K H v (.list es)) (h0 : Pv 0 σ H) (hk : ∀ i σ' H', i ≤ ds.length → Pv i σ' H' → Keep H H')
    (hs : ∀ i d e T σ' H' H2, ds[i]? = some d → es[i]? = some e → Pv i σ' H' → Same H' H2 → Dp K H2 (.ref T) (.tuple [d, e]) → g (.ref T) σ' H2 fun σ2 H2 => tb { D with nx := Pv (i + 1), ct := Pv (i + 1), bk := D.nx } σ2 H2)
    (hd : ∀ σ' H', Pv (min ds.length es.length) σ' H' → D.nx σ' H') : rForZ K g tb D σ [u, v] H := by
  obtain ⟨a, xs, rfl, qx, dx⟩ := dp_lst s1
  obtain ⟨b, ys, rfl, qy, dy⟩ := dp_lst s2
  have lx := dpa_len dx
  have ly := dpa_len dy
  refine ⟨a, b, xs, ys, rfl, .inl ⟨qx, qy, fun i m σ H => m = min ds.length es.length - i ∧ i ≤ min ds.length es.length ∧ Pv i σ H, ⟨_, rfl, Nat.zero_le _, h0⟩, ?_⟩⟩
  rintro i m σ' H' ⟨rfl, hi, p⟩
  have k := hk i σ' H' (by omega) p
  have qx' := k.seqL qx
  have qy' := k.seqL qy
  by_cases hlt : i < min ds.length es.length
  · have hx : xs[i]? = some xs[i] := List.getElem?_eq_getElem (by omega)
    have hy : ys[i]? = some ys[i] := List.getElem?_eq_getElem (by omega)
    refine .inr ⟨⟨xs, ys, _, _, qx', qy', hx, hy⟩, Pv (i + 1), fun σ' H' p' => ⟨min ds.length es.length - (i + 1), by omega, rfl, hlt, p'⟩, fun w H2 y => ?_⟩
    obtain ⟨T, x', y', rfl, hT, rfl, f1, f2⟩ := y
    obtain ⟨d, e1, e2⟩ := dpa_get2 dx (f1 xs qx')
    obtain ⟨d2, e3, e4⟩ := dpa_get2 dy (f2 ys qy')
    have sm : Same H' (upd H' T (.tup [x', y'])) := same_new hT
    exact hs i d d2 T σ' H' _ e1 e3 p sm (.tup (SqT.of upd_same) (.cons (dp_same sm (dp_keep k e2)) (dpa_one (dp_same sm (dp_keep k e4)))))
  · have e : i = min ds.length es.length := by omega
    subst e
    exact .inl ⟨⟨xs, ys, qx', qy', by omega⟩, hd σ' H' p⟩
/-- a text put behind a text, in place -/
theorem ip_addS {X : Cx} : PIp X .Add rAddStr := by
  intro pins s σ H x y v u Q I rx ry h
  exact iop_add_str pins s σ H x y v u Q I rx ry h
section
variable {j : Nat} {tt : TT} {te : TE} {vs : List Nat} {H1 : Hp} {Q : VK}
/-- a comprehension over range(lo, k), the items' values kept -/
theorem lc_rng2_byA {lo k : Int} (J : Nat → List PyData → Hp → Prop) (lj : LcJ H1 J) (hz : -1000000 ≤ lo ∧ lo ≤ 1000000 ∧ -1000000 ≤ k ∧ k ≤ 1000000 ∧ k - lo ≤ 1000000) (hw : ∀ x, wipe ((wipe σ vs).set j (some x)) vs = wipe σ vs)
    (turn : ∀ (i : Nat) H' es, lo + (i : Int) < k → J i es H' → LcTurn K J tt te ((wipe σ vs).set j (some (.int (lo + (i : Int))))) i es H')
    (done : ∀ p H' vs es, H1 p = none → Keep H1 H' → H' p = some (.lst vs) → DpAll K H' vs es → J (k - lo).toNat es H' → Q (.ref p) H') : rLcR2 j tt te vs σ [.int lo, .int k] H1 Q := by
  refine ⟨lo, k, rfl, by omega, fun D hD => lc_range (lo := lo) (n := (k - lo).toNat) (LcP K J D) ⟨[], [], upd_same, .nil, rfl, Nat.le_refl _, lj.start D hD⟩ (fun i H' hi p => ⟨hw _, lc_turn lj hD (by omega) p fun es q => turn i H' es (by omega) q⟩) fun H' p => ?_⟩
  obtain ⟨vs, es, p1, p2, p3, p4, p5⟩ := p
  exact done D H' vs es hD (lj.keep _ _ _ p5) p1 p2 p5
end
/-- two lists put behind one another -/
theorem w_catA {a b : Addr} {xs zs : List V} {ds es : List PyData} {Q : VK} (h : H a = some (.lst xs)) (h' : H b = some (.lst zs)) (hd : DpAll K H xs ds) (he : DpAll K H zs es) (hz : xs.length + zs.length ≤ sizeLine)
    (q : ∀ p H', H p = none → Same H H' → H' p = some (.lst (xs ++ zs)) → DpAll K H' (xs ++ zs) (ds ++ es) → Q (.ref p) H') : rCat (.ref a) (.ref b) H Q := by
  refine w_catL h h' hz fun p H' n e f => q p H' n e f ?_
  have app : ∀ {us : List V} {fs : List PyData}, DpAll K H' us fs → ∀ {ws : List V} {gs : List PyData}, DpAll K H' ws gs → DpAll K H' (us ++ ws) (fs ++ gs) := by
    intro us fs h1
    induction us generalizing fs with
    | nil => intro ws gs h2; cases h1; exact h2
    | cons u us ih =>
      intro ws gs h2
      cases h1 with
      | cons a b => exact .cons a (ih b h2)
  exact app (dpa_same e hd) (dpa_same e he)
end Tw
namespace Tw
/-- the digit number k, from 0 on -/
def lnD (p q k : Nat) : Nat := 48 + ((k + 1) * p / q - k * p / q)
def lnN (p q : Nat) : List Nat := (List.range q).map (lnD p q)
def rotL (l : List Nat) (k : Nat) : List Nat := l.drop k ++ l.take k
/-- a list of places put in order -/
def insP (x : Nat × Nat) : List (Nat × Nat) → List (Nat × Nat)
  | [] => [x]
  | y :: r => if sz x ≤ sz y then x :: y :: r else y :: insP x r
def srtP : List (Nat × Nat) → List (Nat × Nat)
  | [] => []
  | x :: r => insP x (srtP r)
def tsN (p q : Nat) : List (Nat × Nat) := srtP ((List.range q).map fun k => binN [] (rotL (lnN p q) k))
def ascB : List (Nat × Nat) → Bool
  | x :: y :: r => decide (sz x < sz y) && ascB (y :: r)
  | _ => true
theorem insP_perm (x : Nat × Nat) : ∀ l, (insP x l).Perm (x :: l)
  | [] => .refl _
  | y :: r => by
    unfold insP
    split
    · exact .refl _
    · exact ((insP_perm x r).cons y).trans (.swap x y r)
theorem srtP_perm : ∀ l, (srtP l).Perm l
  | [] => .refl _
  | x :: r => (insP_perm x (srtP r)).trans ((srtP_perm r).cons x)
theorem ascB_pw : ∀ {l : List (Nat × Nat)}, ascB l = true → l.Pairwise fun x y => sz x < sz y
  | [], _ => .nil
  | [x], _ => List.pairwise_singleton _ _
  | x :: y :: r, h => by
    unfold ascB at h
    simp only [Bool.and_eq_true, decide_eq_true_eq] at h
    have ih := ascB_pw h.2
    refine List.pairwise_cons.mpr ⟨fun z hz => ?_, ih⟩
    rcases List.mem_cons.mp hz with rfl | hz
    · exact h.1
    · exact Nat.lt_trans h.1 ((List.pairwise_cons.mp ih).1 z hz)
/-- how far doubling leads the members of a class on, 0 if not evenly -/
def tpN (ms : List (Nat × Nat)) (x : Nat × Nat) : Int := if dblN x ∈ ms then (ms.idxOf (dblN x) : Nat) else -1
def toN (ms : List (Nat × Nat)) : Int :=
  if (List.range ms.length).all fun k => decide ((ms.map (tpN ms)).getD k 0 = ((k : Int) + (ms.map (tpN ms)).getD 0 0) % (ms.length : Int)) then (ms.map (tpN ms)).getD 0 0 else 0
/-- p and q of a turning set -/
def trnL (most : Nat) : List (Nat × Nat) := (List.range' 2 (most - 1)).flatMap fun q => ((List.range' 1 (q - 1)).filter fun p => decide (Nat.gcd p q = 1)).map fun p => (p, q)
theorem ts_check : ((trnL 24).all fun t => ascB (tsN t.1 t.2) && decide (toN (tsN t.1 t.2) = (t.1 : Int))) = true := by decide +kernel
theorem flat_one {α : Type} (f : Nat → α) : ∀ l : List Nat, (l.map fun k => [f k]).flatten = l.map f
  | [] => rfl
  | a :: l => by rw [List.map_cons, List.flatten_cons, flat_one f l]; rfl
theorem lnD_step {p q : Nat} (h : p < q) (k : Nat) : k * p / q ≤ (k + 1) * p / q ∧ (k + 1) * p / q ≤ k * p / q + 1 := by
  refine ⟨Nat.div_le_div_right (Nat.mul_le_mul_right _ (Nat.le_succ k)), ?_⟩
  have e : (k + 1) * p = k * p + p := by rw [Nat.succ_mul]
  rw [e]
  have : (k * p + p) / q ≤ (k * p + q) / q := Nat.div_le_div_right (by omega)
  rwa [Nat.add_div_right _ (by omega)] at this
theorem lnD_bit {p q : Nat} (h : p < q) (k : Nat) : lnD p q k = 48 ∨ lnD p q k = 49 := by
  have := lnD_step h k
  unfold lnD
  omega
theorem lnD_int {p q : Nat} (h : p < q) (k : Nat) : (1 + (k : Int)) * (p : Int) / (q : Int) - (1 + (k : Int) - 1) * (p : Int) / (q : Int) = ((lnD p q k - 48 : Nat) : Int) := by
  have := lnD_step h k
  have e1 : (1 + (k : Int)) * (p : Int) / (q : Int) = (((k + 1) * p / q : Nat) : Int) := by
    rw [Int.natCast_ediv, Int.natCast_mul, Int.natCast_add, Int.add_comm 1]
    rfl
  have e2 : (1 + (k : Int) - 1) * (p : Int) / (q : Int) = ((k * p / q : Nat) : Int) := by
    rw [Int.natCast_ediv, Int.natCast_mul, show 1 + (k : Int) - 1 = (k : Int) by omega]
  rw [e1, e2]
  unfold lnD
  omega
theorem lnN_dg {p q : Nat} (h : p < q) : ∀ c ∈ lnN p q, c = 48 ∨ c = 49 := by
  intro c hc
  obtain ⟨k, _, rfl⟩ := List.mem_map.mp hc
  exact lnD_bit h k
theorem lnN_len (p q : Nat) : (lnN p q).length = q := by simp [lnN]
theorem rotL_mem {l : List Nat} {k c : Nat} (h : c ∈ rotL l k) : c ∈ l := by
  rcases List.mem_append.mp h with z | z
  · exact List.mem_of_mem_drop z
  · exact List.mem_of_mem_take z
theorem rotL_len {l : List Nat} {k : Nat} (h : k ≤ l.length) : (rotL l k).length = l.length := by
  simp only [rotL, List.length_append, List.length_drop, List.length_take]
  omega
end Tw
namespace Tw
open PySem PySem.Spec PyProof.Rows L2
/-- key, where its tuple stands, value -/
abbrev DxL := List (List Key × Addr × V)
abbrev tkK (P : Program) (w : World) : HeapKind P w (List Key) := tupleKind (mixKind P w)
def DxM : DxL → List (List Key × Addr × Value) → Prop := Paired fun p q => p.1 = q.1 ∧ p.2.1 = q.2.1 ∧ RelV p.2.2 q.2.2
def DxF (P : Program) (w : World) (a : Addr) (ks : DxL) (h : Heap) : Prop :=
  (a == sysModules) = false ∧ ∃ o es ep xs, h.get? a = some o ∧ o.ExactDict ∧ o.data = .dict es ep ∧ DxM ks xs ∧ es.toList = xs.map (entryOfKey (tkK P w))
def DxO (P : Program) (w : World) (a : Addr) (ks : DxL) : HO := .ext (DxF P w a ks)
theorem dxF_stay {P : Program} {w : World} {a : Addr} {ks : DxL} (h1 h2 : Heap) (f : DxF P w a ks h1) (e : ∀ o, h1.get? a = some o → h2.get? a = some o) : DxF P w a ks h2 := by
  obtain ⟨s, o, es, ep, xs, g, r⟩ := f
  exact ⟨s, o, es, ep, xs, e o g, r⟩
theorem dxF_ok {P : Program} {w : World} {H : Hp} {h : Heap} {a : Addr} {ks : DxL} (f : DxF P w a ks h) : ObjOk P w H h a (DxO P w a ks) := by
  refine ⟨f, ?_, dxF_stay⟩
  obtain ⟨_, o, _, _, _, g, _⟩ := f
  exact ⟨o, g⟩
/-- a dict in the heap: all its keys are data -/
structure DxAt (P : Program) (w : World) (K : PySem.W.Frag) (H : Hp) (a : Addr) (ks : DxL) : Prop where
  at_ : H a = some (DxO P w a ks)
  nd : (ks.map (·.1)).Nodup
  len : ks.length ≤ 100000
  key : ∀ x ∈ ks, SqT K H x.2.1 (x.1.map kV)
def valX (ks : DxL) (k : List Key) : Option V := (ks.find? fun x => decide (x.1 = k)).map (·.2.2)
def putX (ks : DxL) (k : List Key) (b : Addr) (v : V) : DxL :=
  if (valX ks k).isSome then ks.map fun x => if x.1 = k then (x.1, x.2.1, v) else x else ks ++ [(k, b, v)]
theorem putX_keys (ks : DxL) (k : List Key) (b : Addr) (v : V) : (putX ks k b v).map (·.1) = if (valX ks k).isSome then ks.map (·.1) else ks.map (·.1) ++ [k] := by
  unfold putX
  split
  · rw [List.map_map]
    apply List.map_congr_left
    intro x _
    dsimp only [Function.comp]
    split <;> rfl
  · simp
theorem valX_none {ks : DxL} {k : List Key} : valX ks k = none ↔ k ∉ ks.map (·.1) := by
  unfold valX
  rw [Option.map_eq_none_iff, List.find?_eq_none]
  simp only [decide_eq_true_eq, List.mem_map, not_exists, not_and]
theorem putX_nd {ks : DxL} (h : (ks.map (·.1)).Nodup) (k : List Key) (b : Addr) (v : V) : ((putX ks k b v).map (·.1)).Nodup := by
  rw [putX_keys]
  split
  · exact h
  · rename_i z
    have : valX ks k = none := by
      cases e : valX ks k with
      | none => rfl
      | some u => rw [e] at z; exact absurd rfl z
    rw [List.nodup_append]
    refine ⟨h, by simp, fun x hx y hy => ?_⟩
    rw [List.mem_singleton.mp hy]
    rintro rfl
    exact valX_none.mp this hx
theorem putX_mem {ks : DxL} {k : List Key} {b : Addr} {v : V} {x : List Key × Addr × V} (h : x ∈ putX ks k b v) : (∃ y ∈ ks, y.1 = x.1 ∧ y.2.1 = x.2.1) ∨ (x.1 = k ∧ x.2.1 = b) := by
  unfold putX at h
  split at h
  · obtain ⟨y, hy, e⟩ := List.mem_map.mp h
    refine .inl ⟨y, hy, ?_⟩
    split at e <;> (subst e; exact ⟨rfl, rfl⟩)
  · rcases List.mem_append.mp h with z | z
    · exact .inl ⟨x, z, rfl, rfl⟩
    · rw [List.mem_singleton.mp z]
      exact .inr ⟨rfl, rfl⟩
theorem putX_len (ks : DxL) (k : List Key) (b : Addr) (v : V) : (putX ks k b v).length ≤ ks.length + 1 := by
  unfold putX
  split <;> simp
theorem valX_put (ks : DxL) (k j : List Key) (b : Addr) (v : V) : valX (putX ks k b v) j = if j = k then some v else valX ks j := by
  unfold putX
  by_cases hs : (valX ks k).isSome
  · rw [if_pos hs]
    have hs' : ∃ x ∈ ks, x.1 = k := by
      cases e : valX ks k with
      | none => rw [e] at hs; cases hs
      | some u =>
        unfold valX at e
        obtain ⟨x, hx, _⟩ := Option.map_eq_some_iff.mp e
        exact ⟨x, List.mem_of_find?_eq_some hx, by simpa using List.find?_some hx⟩
    unfold valX
    clear hs
    induction ks with
    | nil => obtain ⟨x, hx, _⟩ := hs'; cases hx
    | cons p ks ih =>
      rw [List.map_cons, List.find?_cons, List.find?_cons]
      by_cases hp : p.1 = k
      · rw [if_pos hp]
        by_cases hj : j = k
        · rw [if_pos hj]
          simp [hp, hj]
        · have n1 : ¬ p.1 = j := fun z => hj (z.symm.trans hp)
          rw [if_neg hj]
          simp only [n1, decide_false]
          by_cases hs2 : ∃ x ∈ ks, x.1 = k
          · have := ih hs2
            rw [if_neg hj] at this
            exact this
          · have : ks.map (fun x => if x.1 = k then (x.1, x.2.1, v) else x) = ks := by
              conv => rhs; rw [← List.map_id ks]
              apply List.map_congr_left
              intro x hx
              rw [if_neg fun z => hs2 ⟨x, hx, z⟩]
              rfl
            rw [this]
      · rw [if_neg hp]
        have hs2 : ∃ x ∈ ks, x.1 = k := by
          obtain ⟨x, hx, e⟩ := hs'
          rcases List.mem_cons.mp hx with rfl | hx
          · exact absurd e hp
          · exact ⟨x, hx, e⟩
        have := ih hs2
        by_cases hpj : p.1 = j
        · simp only [hpj, decide_true]
          rw [if_neg fun z => hp (hpj.trans z)]
        · simp only [hpj, decide_false]
          exact this
  · rw [if_neg hs]
    have hn : valX ks k = none := by
      cases e : valX ks k with
      | none => rfl
      | some u => rw [e] at hs; exact absurd rfl hs
    unfold valX at *
    rw [List.find?_append]
    by_cases hj : j = k
    · subst hj
      rw [if_pos rfl, Option.map_eq_none_iff.mp hn]
      simp
    · rw [if_neg hj]
      have : ¬ k = j := fun z => hj z.symm
      simp [this]
/-! ### by the machine -/
theorem DxM.at_ {ks : DxL} {xs : List (List Key × Addr × Value)} (m : DxM ks xs) (k : List Key) : RelO (valX ks k) ((atKey xs k).map (·.2)) := by
  unfold valX atKey
  induction m with
  | nil => exact True.intro
  | @cons p q ps qs h t ih =>
    obtain ⟨h1, _, h2⟩ := h
    rw [List.find?_cons, List.find?_cons]
    by_cases e : p.1 = k
    · simp only [e, ← h1, decide_true, Option.map_some]
      exact h2
    · have e2 : ¬ q.1 = k := fun z => e (h1.trans z)
      simp only [e, e2, decide_false]
      exact ih
theorem DxM.keys {ks : DxL} {xs : List (List Key × Addr × Value)} (m : DxM ks xs) : ks.map (·.1) = xs.map (·.1) := by
  induction m with
  | nil => rfl
  | cons h t ih => rw [List.map_cons, List.map_cons, ih, h.1]
theorem DxM.put {ks : DxL} {xs : List (List Key × Addr × Value)} (m : DxM ks xs) (k : List Key) (b : Addr) {v : V} {u : Value} (r : RelV v u) : DxM (putX ks k b v) (storedH xs k b u) := by
  have e : (valX ks k).isSome = (atKey xs k).isSome := by
    have := (m.at_ k).isSome_eq
    rwa [Option.isSome_map] at this
  unfold putX storedH
  rw [e]
  split
  · have gen : ∀ {as : DxL} {bs : List (List Key × Addr × Value)}, DxM as bs → DxM (as.map fun x => if x.1 = k then (x.1, x.2.1, v) else x) (bs.map (putAt k u)) := by
      intro as bs z
      induction z with
      | nil => exact .nil
      | @cons p q ps qs h t ih =>
        refine Paired.cons ?_ ih
        obtain ⟨h1, h2, h3⟩ := h
        unfold putAt
        dsimp only
        by_cases z : p.1 = k
        · rw [if_pos z, if_pos (h1.symm.trans z)]
          exact ⟨h1, h2, r⟩
        · rw [if_neg z, if_neg fun y => z (h1.trans y)]
          exact ⟨h1, h2, h3⟩
    exact gen m
  · exact Paired.snoc m ⟨rfl, rfl, r⟩
section
variable {X : Cx} {pins : List (Addr × Obj)} {σ : L2.St} {H : Hp} {s : Shared} {a b : Addr} {ks : DxL} {k : List Key}
/-- a tuple of ints and texts, wherever it comes from, is a key -/
theorem key_is (I : L2.Inv X pins σ H s) (h : SqT X.K H b (k.map kV)) : (tkK X.prog X.w).is s.heap k b := by
  obtain ⟨its, r, ⟨o, h1, h2, n, h3⟩, _⟩ := I.tuple h
  exact ⟨o, _, n, h1, h2, h3, by simpa using items_are r⟩
theorem dx_heap (I : L2.Inv X pins σ H s) (d : DxAt X.prog X.w X.K H a ks) : (a == sysModules) = false ∧ ∃ xs, DxM ks xs ∧ s.heap.DictOfH (tkK X.prog X.w) a xs := by
  obtain ⟨⟨hs, o, es, ep, xs, h1, h2, h3, h4, h5⟩, _⟩ := (show ObjOk X.prog X.w H s.heap a (DxO X.prog X.w a ks) from I.hok a _ d.at_)
  refine ⟨hs, xs, h4, o, es, ep, h1, h2, h3, h5, fun x hx => ?_, by rw [← h4.keys]; exact d.nd⟩
  have : ∀ {as : DxL} {bs : List (List Key × Addr × Value)}, DxM as bs → ∀ x ∈ bs, ∃ y ∈ as, y.1 = x.1 ∧ y.2.1 = x.2.1 := by
    intro as bs m
    induction m with
    | nil => exact fun x hx => nomatch hx
    | @cons p q ps qs h t ih =>
      intro x hx
      rcases List.mem_cons.mp hx with rfl | hx
      · exact ⟨p, List.mem_cons_self, h.1, h.2.1⟩
      · obtain ⟨y, hy, e⟩ := ih x hx
        exact ⟨y, List.mem_cons_of_mem _ hy, e⟩
  obtain ⟨y, hy, e1, e2⟩ := this h4 x hx
  have := key_is I (d.key y hy)
  rw [e1, e2] at this
  exact this
theorem dx_where (I : L2.Inv X pins σ H s) (d : DxAt X.prog X.w X.K H a ks) : s.TypeIs (.ref a) "dict" ∧ ∀ c, Value.ref a = .ref c → ∃ ob, s.heap.get? c = some ob ∧ ob.dict = none := by
  obtain ⟨_, xs, _, dd⟩ := dx_heap I d
  refine ⟨dd.typeIs, fun c e => ?_⟩
  cases e
  obtain ⟨ob, _, _, h1, h2, _⟩ := dd
  exact ⟨ob, h1, h2.2.1⟩
end
/-! ### rules -/
section
variable {X : Cx} {o e f i value : Expr} {apos cpos pos pos' : Pos} {td ty tx tv : TE}
/-- {} -/
def tDxNew (P : Program) (w : World) : TE := fun _ H Q => ∀ p, H p = none → Q (.ref p) (upd H p (DxO P w p []))
theorem pe_dxNew : PE X (.Dict [] [] pos) (tDxNew X.prog X.w) := by
  constructor
  intro pins s σ H Q I h
  have new : ObjOk X.prog X.w (upd H s.heap.objs.size (DxO X.prog X.w s.heap.objs.size [])) (s.heap.push { cls := .type "dict", data := .dict #[] }) s.heap.objs.size (DxO X.prog X.w s.heap.objs.size []) := by
    refine dxF_ok ⟨?_, _, #[], 0, [], Heap.get?_push_size _ rfl, ⟨rfl, rfl, rfl⟩, rfl, .nil, rfl⟩
    exact beq_eq_false_iff_ne.mpr (Nat.ne_of_gt I.big)
  exact wpAny_Dict_empty ⟨.ref s.heap.objs.size, _, I.laid (t' := s.toks) (fun b u z => Heap.get?_push_of_some _ z) (Nat.le_refl _) new, rfl, h _ (I.hok.fresh (Nat.le_refl _))⟩
/-- d.get(k, x) -/
def rDxGet (P : Program) (w : World) (K : PySem.W.Frag) (a : Addr) (y z : V) (H : Hp) (Q : VK) : Prop := ∃ ks k b, y = .ref b ∧ DxAt P w K H a ks ∧ SqT K H b (k.map kV) ∧ Q ((valX ks k).getD z) H
def tDxGet2 (P : Program) (w : World) (K : PySem.W.Frag) (td ty tx : TE) : TE := fun σ H Q => td σ H fun x H1 => ∃ a ks, x = .ref a ∧ DxAt P w K H1 a ks ∧ ty σ H1 fun y H2 => tx σ H2 fun z H3 => rDxGet P w K a y z H3 Q
theorem pe_dxGet2 (hu : X.A.units + 1 < cLine) (ho : PE X o td) (he : PE X e ty) (hf : PE X f tx) (m : M2 X o "get" apos e f cpos) : PE X (.Call (.Attribute o "get" apos) [e, f] [] cpos) (tDxGet2 X.prog X.w X.K td ty tx) := by
  constructor
  intro pins s σ H Q I h
  refine wpAny_Call_method m.base m.few m.line PySem.F.plainAttrs_dict PySem.F.slot_dict_get PySem.F.type_dict_get (thn (ho.run pins s σ H _ I h) fun u s1 hh => ?_)
  obtain ⟨x, H1, I1, rx, a, ks, rfl, d, q1⟩ := hh
  cases rx
  obtain ⟨t1, t2⟩ := dx_where I1 d
  refine ⟨t1, t2, ?_⟩
  rw [m.trees]
  refine Calls.callWith_builtin rfl (Calls.evalArgs_plain (Calls.spliced_cons (thn (he.run pins s1 σ H1 _ I1 q1) fun iv s2 hh2 => ?_)))
  obtain ⟨y, H2, I2, ry, q2⟩ := hh2
  refine Calls.spliced_cons (thn (hf.run pins s2 σ H2 _ I2 q2) fun fv s3 hh3 => Calls.spliced_nil ?_)
  obtain ⟨z, H3, I3, rz, ks', k, b, rfl, d3, hk, q3⟩ := hh3
  cases ry
  obtain ⟨hs, xs, rel, dd⟩ := dx_heap I3 d3
  refine call_meetsIn PySem.F.slot_dict_get dd.typeIs PySem.F.entry_dict_get (PySem.F.args_dict_get_3 _ _ _) (meetsH_dict_get_default (tkK X.prog X.w) a b hs fv) ⟨tupleKind_room_in1 hu, k, xs, key_is I3 hk, dd, ?_⟩
  exact ⟨_, H3, I3.tok _, (rel.at_ k).getD rz, q3⟩
/-- d[k], there -/
def rDxIx (P : Program) (w : World) (K : PySem.W.Frag) : R2 := fun x y H Q => ∃ a ks k b v, x = .ref a ∧ y = .ref b ∧ DxAt P w K H a ks ∧ SqT K H b (k.map kV) ∧ valX ks k = some v ∧ Q v H
def tDxIx (P : Program) (w : World) (K : PySem.W.Frag) (td ty : TE) : TE := fun σ H Q => td σ H fun x H1 => ty σ H1 fun y H2 => rDxIx P w K x y H2 Q
theorem pe_dxIx (hu : X.A.units + 1 < cLine) (ho : PE X o td) (hi : PE X i ty) (hs : NoSl i) : PE X (.Subscript o i pos) (tDxIx X.prog X.w X.K td ty) := by
  constructor
  intro pins s σ H Q I h
  refine subD_of PySem.F.slot_dict_getitem.lookup hs (thn (ho.run pins s σ H _ I h) fun u s1 hh => ?_)
  obtain ⟨x, H1, I1, rx, q1⟩ := hh
  refine thn (hi.run pins s1 σ H1 _ I1 q1) fun iv s2 hh2 => ?_
  obtain ⟨y, H2, I2, ry, a, ks, k, b, v, rfl, rfl, d, hk, hv, q2⟩ := hh2
  cases rx
  cases ry
  obtain ⟨_, xs, rel, dd⟩ := dx_heap I2 d
  refine ⟨dd.typeIs, ?_⟩
  have r := rel.at_ k
  rw [hv] at r
  obtain ⟨w', hw, rw'⟩ := RelO.some_of r
  obtain ⟨p, hp, hp2⟩ := Option.map_eq_some_iff.mp hw
  refine wpAny_getItem_heap (tupleKind_room_in1 hu) (key_is I2 hk) dd hp ?_
  rw [hp2]
  exact ⟨v, H2, I2.tok _, rw', q2⟩
/-- k in d, k not in d -/
def rDxIn (P : Program) (w : World) (K : PySem.W.Frag) : R2 := fun y x H Q => ∃ a ks k b, x = .ref a ∧ y = .ref b ∧ DxAt P w K H a ks ∧ SqT K H b (k.map kV) ∧ Q (.bl (valX ks k).isSome) H
def rDxNotIn (P : Program) (w : World) (K : PySem.W.Frag) : R2 := fun y x H Q => ∃ a ks k b, x = .ref a ∧ y = .ref b ∧ DxAt P w K H a ks ∧ SqT K H b (k.map kV) ∧ Q (.bl (!(valX ks k).isSome)) H
theorem op_dxIn (hu : X.A.units + 1 < cLine) : OpR X (compareOp .In) (rDxIn X.prog X.w X.K) := by
  intro pins s σ H y x v u Q I ry rx h
  obtain ⟨a, ks, k, b, rfl, rfl, d, hk, q⟩ := h
  cases rx
  cases ry
  obtain ⟨hs, xs, rel, dd⟩ := dx_heap I d
  refine wpAny_in_heap (tupleKind_room_in1 hu) (key_is I hk) hs dd ?_
  have r := (rel.at_ k).isSome_eq
  rw [Option.isSome_map] at r
  rw [← r]
  exact ⟨.bl _, H, I.tok _, rfl, q⟩
theorem op_dxNotIn (hu : X.A.units + 1 < cLine) : OpR X (compareOp .NotIn) (rDxNotIn X.prog X.w X.K) := by
  intro pins s σ H y x v u Q I ry rx h
  obtain ⟨a, ks, k, b, rfl, rfl, d, hk, q⟩ := h
  cases rx
  cases ry
  obtain ⟨hs, xs, rel, dd⟩ := dx_heap I d
  refine wpAny_notIn_heap (tupleKind_room_in1 hu) (key_is I hk) hs dd ?_
  have r := (rel.at_ k).isSome_eq
  rw [Option.isSome_map] at r
  rw [← r]
  exact ⟨.bl _, H, I.tok _, rfl, q⟩
/-- d[k] = v -/
def rDxPut (P : Program) (w : World) (K : PySem.W.Frag) (x y v : V) (H : Hp) (Q : Hp → Prop) : Prop := ∃ a ks k b, x = .ref a ∧ y = .ref b ∧ DxAt P w K H a ks ∧ ks.length < 100000 ∧ SqT K H b (k.map kV) ∧ Q (upd H a (DxO P w a (putX ks k b v)))
def sDxPut (P : Program) (w : World) (K : PySem.W.Frag) (td ty tv : TE) : TS := fun D σ H => tv σ H fun v H1 => td σ H1 fun x H2 => ty σ H2 fun y H3 => rDxPut P w K x y v H3 (D.nx σ)
theorem ps_dxPut (hu : X.A.units + 1 < cLine) (ho : PE X o td) (hi : PE X i ty) (hv : PE X value tv) (hs : swapsWith value (some (.Subscript o i pos')) pos.line X.env = pure false) :
    PS X (.Assign [.Subscript o i pos'] value pos) (sDxPut X.prog X.w X.K td ty tv) := by
  constructor
  intro pins s σ H D I h
  refine wpAny_Assign_Subscript (thn (hv.run pins s σ H _ I h) fun r s1 hh => ?_) hs
  obtain ⟨v, H1, I1, rv, q1⟩ := hh
  refine thn (ho.run pins s1 σ H1 _ I1 q1) fun u s2 hh2 => ?_
  obtain ⟨x, H2, I2, rx, q2⟩ := hh2
  refine thn (hi.run pins s2 σ H2 _ I2 q2) fun iv s3 hh3 => ?_
  obtain ⟨y, H3, I3, ry, a, ks, k, b, rfl, rfl, d, hl, hk, q3⟩ := hh3
  cases rx
  cases ry
  obtain ⟨hsm, xs, rel, dd⟩ := dx_heap I3 d
  have hlx : ks.length = xs.length := Paired.length rel
  have hz := sizeLine_eq
  refine wpAny_setItem_heap (hsz := by omega) (tupleKind_room_in1 hu) (key_is I3 hk) dd fun h' dd' sb => ?_
  obtain ⟨oo, es, ep, g1, g2, g3, g4, _, _⟩ := dd'
  refine ⟨σ, _, ?_, q3⟩
  refine I3.write (x := a) (e := a) (t' := s3.toks + _) (by rw [d.at_]; exact True.intro) (.inl rfl) (fun c z hc => (sb.2 c hc).trans) ⟨oo, g1⟩ ?_
  exact dxF_ok ⟨hsm, oo, es, ep, _, g1, g2, g3, rel.put k b rv, g4⟩
theorem refs_vals : ∀ ks : DxL, Vals (ks.map fun x => V.ref x.2.1) (ks.map fun x => Value.ref x.2.1)
  | [] => .nil
  | _ :: ks => .cons rfl (refs_vals ks)
/-- list(d): its keys -/
def rDxList (P : Program) (w : World) (K : PySem.W.Frag) : List V → Hp → VK → Prop := fun xs H Q => ∃ a ks, xs = [.ref a] ∧ DxAt P w K H a ks ∧ ∀ p, H p = none → Q (.ref p) (upd H p (.lst (ks.map fun x => V.ref x.2.1)))
theorem call_dxList (hc : X.calm = true) : CallR X (.type "list") (rDxList X.prog X.w X.K) := by
  intro pins s σ H xs us Q I r h
  obtain ⟨a, ks, rfl, d, q⟩ := h
  obtain ⟨u, rfl, rx⟩ := r.one
  cases rx
  obtain ⟨hs, ms, rel, o, es, ep, g1, g2, g3, g4, _⟩ := dx_heap I d
  have hlx : ks.length = ms.length := Paired.length rel
  have hle : es.size = ms.length := size_of_entries g4
  have hz := sizeLine_eq
  have hln := d.len
  refine PySem.W.kdl_call (kdl_raw hs g2 g3) (I.ok.hd hc) g1 (by omega) fun h' tk out c' kp at_ it => ?_
  have hout : out.toList = ks.map fun x => Value.ref x.2.1 := by
    apply List.ext_getElem?
    intro j
    have hlo : out.toList.length = ms.length := by rw [Array.length_toList, it.1]; exact hle
    by_cases hj : j < ms.length
    · have e1 : out.toList[j]? = some out.toList[j] := List.getElem?_eq_getElem (by omega)
      obtain ⟨en, h1, h2⟩ := it.2 j out.toList[j] (by rw [← Array.getElem?_toList]; exact e1)
      have h3 := entry_at g4 j
      have e2 : ms[j]? = some ms[j] := List.getElem?_eq_getElem hj
      rw [h1, e2] at h3
      have h4 : en = entryOfKey (tkK X.prog X.w) ms[j] := Option.some.inj h3
      have h5 : ∀ {as : DxL} {bs : List (List Key × Addr × Value)}, DxM as bs → ∀ n : Nat, (as.map fun x => x.2.1)[n]? = (bs.map fun x => x.2.1)[n]? := by
        intro as bs m n
        have : (as.map fun x => x.2.1) = bs.map fun x => x.2.1 := by
          induction m with
          | nil => rfl
          | cons h t ih => rw [List.map_cons, List.map_cons, ih, h.2.1]
        rw [this]
      have h6 := h5 rel j
      have e3 : ks[j]? = some ks[j] := List.getElem?_eq_getElem (by omega)
      rw [List.getElem?_map, List.getElem?_map, e2, e3] at h6
      rw [e1, List.getElem?_map, e3, h2, h4]
      simp only [Option.map_some, Option.some.injEq] at h6 ⊢
      rw [h6]
      rfl
    · rw [List.getElem?_eq_none (by omega), List.getElem?_eq_none (by rw [List.length_map]; omega)]
  have rv : Vals (ks.map fun x => V.ref x.2.1) out.toList := by
    rw [hout]
    exact refs_vals ks
  refine ⟨.ref s.heap.objs.size, _, I.laid (a := s.heap.objs.size) (t' := tk) (o := .lst (ks.map fun x => V.ref x.2.1)) kp (Nat.le_refl _) ⟨by rw [List.length_map]; omega, out.toList, c', rv, ?_⟩, rfl, q _ (I.hok.fresh (Nat.le_refl _))⟩
  rw [Array.toArray_toList]
  exact at_
end
section
variable {X : Cx} {o e f i value : Expr} {apos cpos pos pos' : Pos} {td ty tx tv : TE} {P : Program} {w : World} {K : PySem.W.Frag}
theorem pe_dxNewK (h1 : X.prog = P) (h2 : X.w = w) : PE X (.Dict [] [] pos) (tDxNew P w) := h1 ▸ h2 ▸ pe_dxNew
theorem pe_dxGet2K (h1 : X.prog = P) (h2 : X.w = w) (h3 : X.K = K) (hu : X.A.units + 1 < cLine) (ho : PE X o td) (he : PE X e ty) (hf : PE X f tx) (m : M2 X o "get" apos e f cpos) : PE X (.Call (.Attribute o "get" apos) [e, f] [] cpos) (tDxGet2 P w K td ty tx) :=
  h1 ▸ h2 ▸ h3 ▸ pe_dxGet2 hu ho he hf m
theorem pe_dxIxK (h1 : X.prog = P) (h2 : X.w = w) (h3 : X.K = K) (hu : X.A.units + 1 < cLine) (ho : PE X o td) (hi : PE X i ty) (hs : NoSl i) : PE X (.Subscript o i pos) (tDxIx P w K td ty) := h1 ▸ h2 ▸ h3 ▸ pe_dxIx hu ho hi hs
theorem op_dxInK (h1 : X.prog = P) (h2 : X.w = w) (h3 : X.K = K) (hu : X.A.units + 1 < cLine) : OpR X (compareOp .In) (rDxIn P w K) := h1 ▸ h2 ▸ h3 ▸ op_dxIn hu
theorem op_dxNotInK (h1 : X.prog = P) (h2 : X.w = w) (h3 : X.K = K) (hu : X.A.units + 1 < cLine) : OpR X (compareOp .NotIn) (rDxNotIn P w K) := h1 ▸ h2 ▸ h3 ▸ op_dxNotIn hu
theorem ps_dxPutK (h1 : X.prog = P) (h2 : X.w = w) (h3 : X.K = K) (hu : X.A.units + 1 < cLine) (ho : PE X o td) (hi : PE X i ty) (hv : PE X value tv) (hs : swapsWith value (some (.Subscript o i pos')) pos.line X.env = pure false) :
    PS X (.Assign [.Subscript o i pos'] value pos) (sDxPut P w K td ty tv) := h1 ▸ h2 ▸ h3 ▸ ps_dxPut hu ho hi hv hs
theorem call_dxListK (h1 : X.prog = P) (h2 : X.w = w) (h3 : X.K = K) (hc : X.calm = true) : CallR X (.type "list") (rDxList P w K) := h1 ▸ h2 ▸ h3 ▸ call_dxList hc
end
/-! ### walking -/
section
variable {P : Program} {w : World} {K : PySem.W.Frag} {σ : L2.St} {H H' : Hp} {Q : VK} {D : Ends} {v x y z : V} {td ty tx tv : TE} {a b : Addr} {ks : DxL} {k : List Key}
theorem DxAt.keep (e : Keep H H') (h : DxAt P w K H a ks) : DxAt P w K H' a ks := ⟨e _ _ (fun _ z => nomatch z) h.at_, h.nd, h.len, fun x hx => e.seqT (h.key x hx)⟩
theorem DxAt.same (e : Same H H') (h : DxAt P w K H a ks) : DxAt P w K H' a ks := h.keep (Keep.of e)
theorem dxAt_new (h : H a = none) : DxAt P w K (upd H a (DxO P w a [])) a [] := ⟨upd_same, .nil, by simp, fun x hx => nomatch hx⟩
/-- what is read of a tuple stays, if only a dict is written -/
theorem seqT_dx {ob : HO} {c : Addr} {xs : List V} (h : H a = some (DxO P w a ks)) (s : SqT K H c xs) : SqT K (upd H a ob) c xs := by
  rcases s with (s | ⟨oo, s⟩) | s
  · exact .inl (.inl (by rw [upd_ne (ne_of s h (fun z => nomatch z))]; exact s))
  · exact .inl (.inr ⟨oo, by rw [upd_ne (ne_of s h (fun z => nomatch z))]; exact s⟩)
  · exact .inr s
theorem DxAt.put (h : DxAt P w K H a ks) (hl : ks.length < 100000) (hk : SqT K H b (k.map kV)) : DxAt P w K (upd H a (DxO P w a (putX ks k b v))) a (putX ks k b v) := by
  refine ⟨upd_same, putX_nd h.nd _ _ _, by have := putX_len ks k b v; omega, fun x hx => seqT_dx h.at_ ?_⟩
  rcases putX_mem hx with ⟨y, hy, e1, e2⟩ | ⟨e1, e2⟩
  · rw [← e1, ← e2]
    exact h.key y hy
  · rw [e1, e2]
    exact hk
theorem w_dxNew (q : ∀ p H', H p = none → Same H H' → DxAt P w K H' p [] → (∀ b, b ≠ p → H' b = H b) → Q (.ref p) H') : tDxNew P w σ H Q := fun p hp => q p _ hp (same_new hp) (dxAt_new hp) fun _ h => upd_ne h
theorem w_dxGet2 (h : td σ H fun x H1 => (∃ a ks, x = .ref a ∧ DxAt P w K H1 a ks) ∧ ∀ a, x = .ref a → ty σ H1 fun y H2 => tx σ H2 fun z H3 => rDxGet P w K a y z H3 Q) (m : ∀ σ H (A B : V → Hp → Prop), (∀ v H', A v H' → B v H') → td σ H A → td σ H B) : tDxGet2 P w K td ty tx σ H Q := by
  refine m _ _ _ _ (fun x H1 z => ?_) h
  obtain ⟨⟨a, ks, rfl, d⟩, q⟩ := z
  exact ⟨a, ks, rfl, d, q a rfl⟩
/-- a place as a key -/
def pk (x : Nat × Nat) : List Key := [.inl (x.1 : Int), .inl (x.2 : Int)]
theorem pk_inj {x y : Nat × Nat} (h : pk x = pk y) : x = y := by
  simp only [pk, List.cons.injEq, Sum.inl.injEq, and_true] at h
  exact Prod.ext (by omega) (by omega)
theorem pk_dp {x : Nat × Nat} (h : Dp K H v (pd x)) : ∃ b, v = .ref b ∧ SqT K H b ((pk x).map kV) := by
  obtain ⟨b, xs, rfl, hs, ha⟩ := dp_tup h
  cases ha with
  | cons a1 a2 =>
    cases a2 with
    | cons a2 a3 =>
      cases a3
      cases a1
      cases a2
      exact ⟨b, rfl, hs⟩
end
section
variable {P : Program} {w : World} {K : PySem.W.Frag} {σ : L2.St} {H : Hp} {Q : VK} {D : Ends} {td ty tx tv : TE}
theorem w_dxPut (h : tv σ H fun v H1 => td σ H1 fun x H2 => ty σ H2 fun y H3 => rDxPut P w K x y v H3 (D.nx σ)) : sDxPut P w K td ty tv D σ H := h
def rDxG (P : Program) (w : World) (K : PySem.W.Frag) (ty tx : TE) (σ : L2.St) (x : V) (H1 : Hp) (Q : VK) : Prop := ∃ a ks, x = .ref a ∧ DxAt P w K H1 a ks ∧ ty σ H1 fun y H2 => tx σ H2 fun z H3 => rDxGet P w K a y z H3 Q
theorem w_dxG (h : td σ H fun x H1 => rDxG P w K ty tx σ x H1 Q) : tDxGet2 P w K td ty tx σ H Q := h
theorem w_dxI (h : td σ H fun x H1 => ty σ H1 fun y H2 => rDxIx P w K x y H2 Q) : tDxIx P w K td ty σ H Q := h
end
end Tw
namespace Tw
open PySem PySem.Spec PyProof.Rows L2
abbrev Pt := Nat × Nat
def prL : List (List ((Nat × Nat) × (Nat × Nat))) :=
  [[((1, 3), (2, 3))],
  [((1, 7), (2, 7)), ((3, 7), (4, 7)), ((5, 7), (6, 7))],
  [((1, 15), (2, 15)), ((1, 5), (4, 15)), ((2, 5), (3, 5)), ((7, 15), (8, 15)), ((11, 15), (4, 5)), ((13, 15), (14, 15))],
  [((1, 31), (2, 31)), ((3, 31), (4, 31)), ((5, 31), (6, 31)), ((7, 31), (8, 31)), ((9, 31), (10, 31)), ((11, 31), (12, 31)), ((13, 31), (18, 31)), ((14, 31), (17, 31)), ((15, 31), (16, 31)), ((19, 31), (20, 31)), ((21, 31), (22, 31)), ((23, 31), (24, 31)), ((25, 31), (26, 31)), ((27, 31), (28, 31)), ((29, 31), (30, 31))],
  [((1, 63), (2, 63)), ((1, 21), (4, 63)), ((5, 63), (2, 21)), ((1, 9), (8, 63)), ((10, 63), (17, 63)), ((11, 63), (4, 21)), ((13, 63), (2, 9)), ((5, 21), (16, 63)), ((19, 63), (20, 63)), ((22, 63), (25, 63)), ((23, 63), (8, 21)), ((26, 63), (37, 63)), ((4, 9), (5, 9)), ((29, 63), (34, 63)), ((10, 21), (11, 21)), ((31, 63), (32, 63)), ((38, 63), (41, 63)), ((13, 21), (40, 63)), ((43, 63), (44, 63)), ((46, 63), (53, 63)), ((47, 63), (16, 21)), ((7, 9), (50, 63)), ((17, 21), (52, 63)), ((55, 63), (8, 9)), ((19, 21), (58, 63)), ((59, 63), (20, 21)), ((61, 63), (62, 63))],
  [((1, 127), (2, 127)), ((3, 127), (4, 127)), ((5, 127), (6, 127)), ((7, 127), (8, 127)), ((9, 127), (10, 127)), ((11, 127), (12, 127)), ((13, 127), (14, 127)), ((15, 127), (16, 127)), ((17, 127), (18, 127)), ((19, 127), (20, 127)), ((21, 127), (22, 127)), ((23, 127), (24, 127)), ((25, 127), (34, 127)), ((26, 127), (33, 127)), ((27, 127), (28, 127)), ((29, 127), (30, 127)), ((31, 127), (32, 127)), ((35, 127), (36, 127)), ((37, 127), (38, 127)), ((39, 127), (40, 127)), ((41, 127), (42, 127)), ((43, 127), (44, 127)), ((45, 127), (50, 127)), ((46, 127), (49, 127)), ((47, 127), (48, 127)), ((51, 127), (52, 127)), ((53, 127), (74, 127)), ((54, 127), (73, 127)), ((55, 127), (56, 127)), ((57, 127), (70, 127)), ((58, 127), (69, 127)), ((59, 127), (68, 127)), ((60, 127), (67, 127)), ((61, 127), (66, 127)), ((62, 127), (65, 127)), ((63, 127), (64, 127)), ((71, 127), (72, 127)), ((75, 127), (76, 127)), ((77, 127), (82, 127)), ((78, 127), (81, 127)), ((79, 127), (80, 127)), ((83, 127), (84, 127)), ((85, 127), (86, 127)), ((87, 127), (88, 127)), ((89, 127), (90, 127)), ((91, 127), (92, 127)), ((93, 127), (102, 127)), ((94, 127), (101, 127)), ((95, 127), (96, 127)), ((97, 127), (98, 127)), ((99, 127), (100, 127)), ((103, 127), (104, 127)), ((105, 127), (106, 127)), ((107, 127), (108, 127)), ((109, 127), (110, 127)), ((111, 127), (112, 127)), ((113, 127), (114, 127)), ((115, 127), (116, 127)), ((117, 127), (118, 127)), ((119, 127), (120, 127)), ((121, 127), (122, 127)), ((123, 127), (124, 127)), ((125, 127), (126, 127))]]
/-- all pairs of the periods from 2 on, so many of them -/
def chsN (i : Nat) : List (Pt × Pt) := (prL.take i).flatten
/-- what the dict of ends tells -/
def endO (cs : List (Pt × Pt)) (x : Pt) : Option Int := cs.foldl (fun r c => if x = c.2 then some (-1) else if x = c.1 then some 1 else r) none
def stP (cs : List (Pt × Pt)) (s : Option (List (Option Pt) × List (Pt × Pt))) (x : Pt) : Option (List (Option Pt) × List (Pt × Pt)) :=
  match s with
  | none => none
  | some (ws, ps) =>
    match endO cs x with
    | some 1 => some (ws ++ [none], ps)
    | some (-1) => if ws = [] then none else some (ws.dropLast, ps)
    | _ => match ws.getLast? with
      | none => none
      | some none => some (ws.dropLast ++ [some x], ps)
      | some (some y) => if ps.any (fun p => decide (p.1 = y)) then none else some (ws.dropLast ++ [none], ps ++ [(y, x)])
def srtA (i : Nat) : List Pt := srtP (plN 0 (2 + i) ++ (chsN i).map (·.1) ++ (chsN i).map (·.2))
def runP (i j : Nat) : Option (List (Option Pt) × List (Pt × Pt)) := ((srtA i).take j).foldl (stP (chsN i)) (some ([none], []))
def lokP (ps : List (Pt × Pt)) (x : Pt) : Option Pt := (ps.find? fun p => decide (p.1 = x)).map (·.2)
def plcB (x : Pt) : Bool := decide (0 < x.2) && decide (x.1 < x.2) && decide (Nat.gcd x.1 x.2 = 1)
def okP (i : Nat) : Bool :=
  ascB (srtA i) && (srtA i).length ≤ 1000 &&
  match runP i (srtA i).length with
  | none => false
  | some (ws, ps) => ascB (srtP (ps.map (·.1))) && decide ((ps.map (·.1)).length ≤ 500) && decide (((srtP (ps.map (·.1))).map fun a => (a, (lokP ps a).getD (0, 0))) = prL.getD i []) && (ps.all fun p => decide (p.1 ∈ plN 0 (2 + i)) && decide (p.2 ∈ plN 0 (2 + i)))
theorem okP_all : ((List.range 6).all okP) = true := by decide +kernel
end Tw
namespace Tw
open PySem PySem.Spec PyProof.Rows L2
def chd (c : Pt × Pt) : PyData := .tuple [pd c.1, pd c.2]
/-- lists, tuples and what is locked stay -/
def SeqO (o : HO) : Prop := (∃ xs, o = .lst xs) ∨ (∃ xs, o = .tup xs) ∨ ∃ ob u, o = .frz ob u
def KeepQ (H H' : Hp) : Prop := ∀ b o, SeqO o → H b = some o → H' b = some o
section
variable {P : Program} {w : World} {K : PySem.W.Frag} {H H' : Hp} {a : Addr} {xs : List V}
theorem KeepQ.seqL (e : KeepQ H H') (h : SqL K H a xs) : SqL K H' a xs := by
  rcases h with (h | ⟨ob, h⟩) | h
  · exact .inl (.inl (e _ _ (.inl ⟨_, rfl⟩) h))
  · exact .inl (.inr ⟨ob, e _ _ (.inr (.inr ⟨_, _, rfl⟩)) h⟩)
  · exact .inr h
theorem KeepQ.seqT (e : KeepQ H H') (h : SqT K H a xs) : SqT K H' a xs := by
  rcases h with (h | ⟨ob, h⟩) | h
  · exact .inl (.inl (e _ _ (.inr (.inl ⟨_, rfl⟩)) h))
  · exact .inl (.inr ⟨ob, e _ _ (.inr (.inr ⟨_, _, rfl⟩)) h⟩)
  · exact .inr h
theorem keepQ_dx {ks : DxL} {ob : HO} (h : H a = some (DxO P w a ks)) : KeepQ H (upd H a ob) := fun b o s e => by
  rw [upd_ne]
  · exact e
  · rintro rfl
    rw [h] at e
    cases e
    rcases s with ⟨_, z⟩ | ⟨_, z⟩ | ⟨_, _, z⟩ <;> cases z
mutual
theorem DpQ (e : KeepQ H H') : ∀ (d : PyData) (v : V), Dp K H v d → Dp K H' v d
  | .none, _, h => by cases h; exact .non
  | .bool b, _, h => by cases h; exact .bl b
  | .int i, _, h => by cases h; exact .int i
  | .str x, _, h => by cases h; exact .str x
  | .list ds, _, h => by
    cases h with
    | lst hs ha => exact .lst (e.seqL hs) (DpQs e ds _ ha)
  | .tuple ds, _, h => by
    cases h with
    | tup hs ha => exact .tup (e.seqT hs) (DpQs e ds _ ha)
  | .dict _, _, h => by cases h
theorem DpQs (e : KeepQ H H') : ∀ (ds : List PyData) (vs : List V), DpAll K H vs ds → DpAll K H' vs ds
  | [], _, h => by cases h; exact .nil
  | d :: ds, _, h => by
    cases h with
    | cons h1 h2 => exact .cons (DpQ e d _ h1) (DpQs e ds _ h2)
end
/-- a list that stands by itself is walked, other things may change -/
theorem forL_byR {σ : L2.St} {g : TG} {tb : TS} {D : Ends} {q : Addr} {us : List V} {ds : List PyData} (Pv : Nat → L2.St → Hp → Prop) (hl : us.length = ds.length) (h0 : Pv 0 σ H) (hk : ∀ i σ' H', Pv i σ' H' → H' q = some (.lst us) ∧ DpAll K H' us ds)
    (hs : ∀ i d y σ' H', ds[i]? = some d → Dp K H' y d → Pv i σ' H' → g y σ' H' fun σ2 H2 => tb { D with nx := Pv (i + 1), ct := Pv (i + 1), bk := D.nx } σ2 H2) (hd : ∀ σ' H', Pv ds.length σ' H' → D.nx σ' H') : rForL K g tb D σ (.ref q) H := by
  refine ⟨q, rfl, ⟨us, SqL.of (hk _ _ _ h0).1⟩, for_list (xs := us) Pv h0 (fun i σ' H' _ p => SqL.of (hk _ _ _ p).1) (fun i y σ' H' hi p => ?_) fun σ' H' p => hd σ' H' (by rw [← hl]; exact p)⟩
  obtain ⟨d, e1, e2⟩ := dpa_get2 (hk _ _ _ p).2 hi
  exact hs i d y σ' H' e1 e2 p
/-- a comprehension over a list of pairs, with two names -/
def rLcL2 (K : PySem.W.Frag) (g : TG) (tt : TT) (te : TE) (vs : List Nat) (σ : L2.St) (x : V) (H1 : Hp) (Q : VK) : Prop := ∃ a, x = .ref a ∧ (∃ xs, SqL K H1 a xs) ∧ ∀ D, H1 D = none → ∃ W : Nat → Nat → Hp → Prop, (∃ m, W 0 m (L2.upd H1 D (.lst []))) ∧ ∀ i m H, W i m H →
  ((Itl K a).stop i H ∧ Q (.ref D) H) ∨ ((Itl K a).go i H ∧ ∃ Nx : Hp → Prop, (∀ H', Nx H' → ∃ m', m' < m ∧ W (i + 1) m' H') ∧ ∀ x H', (Itl K a).yld i H x H' → g x (wipe σ vs) H' fun σ2 H2 => wipe σ2 vs = wipe σ vs ∧ tt σ2 H2 fun b H3 =>
    if b = true then te σ2 H3 fun y H4 => ∃ acc, H4 D = some (.lst acc) ∧ acc.length < sizeLine ∧ Nx (L2.upd H4 D (.lst (acc ++ [y]))) else Nx H3)
theorem w_lcL2 {σ : L2.St} {Q : VK} {tt : TT} {te tl : TE} {vs : List Nat} {tg : TGs} {n : Nat} (h : tl σ H fun x H1 => rLcL2 K (gTup K n tg) tt te vs σ x H1 Q) : tLc (iList K tl) (gTup K n tg) tt te vs σ H Q := h
theorem lcL2_by {H1 : Hp} {σ : L2.St} {Q : VK} {x : V} {ds : List (PyData × PyData)} {tt : TT} {te : TE} {vs : List Nat} {p r : Nat} (J : Nat → List PyData → Hp → Prop) (lj : LcJ H1 J) (src : Dp K H1 x (.list (ds.map fun d => .tuple [d.1, d.2]))) (hz : ds.length ≤ 1000000)
    (hw : ∀ x y, wipe (((wipe σ vs).set p (some x)).set r (some y)) vs = wipe σ vs)
    (turn : ∀ i d y z H' es, ds[i]? = some d → Dp K H' y d.1 → Dp K H' z d.2 → J i es H' → LcTurn K J tt te (((wipe σ vs).set p (some y)).set r (some z)) i es H')
    (done : ∀ q H' ws es, H1 q = none → Keep H1 H' → H' q = some (.lst ws) → DpAll K H' ws es → J ds.length es H' → Q (.ref q) H') : rLcL2 K (gTup K 2 (gCons (gName p) (gCons (gName r) gNil))) tt te vs σ x H1 Q := by
  obtain ⟨a, us, rfl, hs, ha⟩ := dp_lst src
  have hl := dpa_len ha
  rw [List.length_map] at hl
  refine ⟨a, rfl, ⟨us, hs⟩, fun D hD => lc_list (xs := us) (LcP K J D) ⟨[], [], upd_same, .nil, rfl, Nat.le_refl _, lj.start D hD⟩ (fun i H' _ p => ?_) (fun i y H' hi p => ?_) fun H' p => ?_⟩
  · obtain ⟨ws, es, p1, p2, p3, p4, p5⟩ := p
    exact (lj.keep _ _ _ p5).seqL hs
  · obtain ⟨d, e1, e2⟩ := dpa_get2 ha hi
    rw [List.getElem?_map] at e1
    obtain ⟨d', e3, rfl⟩ := Option.map_eq_some_iff.mp e1
    have hlt := (List.getElem?_eq_some_iff.mp e3).1
    obtain ⟨ws, es, p1, p2, p3, p4, p5⟩ := id p
    refine w_gTup2 (dp_keep (lj.keep _ _ _ p5) e2) fun v1 v2 g1 g2 => ⟨hw v1 v2, lc_turn lj hD (by omega) p fun es' q => ?_⟩
    refine turn i d' v1 v2 H' es' e3 g1 g2 q
  · obtain ⟨ws, es, p1, p2, p3, p4, p5⟩ := p
    rw [hl] at p5
    exact done D H' ws es hD (lj.keep _ _ _ p5) p1 p2 p5
/-- the waiting ones, by their values -/
def WoR (K : PySem.W.Frag) (H : Hp) (v : V) : Option Pt → Prop
  | none => v = .non
  | some y => Dp K H v (pd y)
def WsR (K : PySem.W.Frag) (H : Hp) : List V → List (Option Pt) → Prop := Paired (WoR K H)
def PrtR (K : PySem.W.Frag) (H : Hp) : DxL → List (Pt × Pt) → Prop := Paired fun k p => k.1 = pk p.1 ∧ Dp K H (.ref k.2.1) (pd p.1) ∧ Dp K H k.2.2 (pd p.2)
theorem WsR.map {vs : List V} {ws : List (Option Pt)} (h : WsR K H vs ws) (f : ∀ v y, Dp K H v (pd y) → Dp K H' v (pd y)) : WsR K H' vs ws := Paired.mapP h fun v o z => by
  cases o with
  | none => exact z
  | some y => exact f v y z
theorem PrtR.map {ks : DxL} {ps : List (Pt × Pt)} (h : PrtR K H ks ps) (f : ∀ v y, Dp K H v (pd y) → Dp K H' v (pd y)) : PrtR K H' ks ps := Paired.mapP h fun k p z => ⟨z.1, f _ _ z.2.1, f _ _ z.2.2⟩
theorem PrtR.val {ks : DxL} {ps : List (Pt × Pt)} (h : PrtR K H ks ps) (x : Pt) : (lokP ps x = none ∧ valX ks (pk x) = none) ∨ ∃ y v, lokP ps x = some y ∧ valX ks (pk x) = some v ∧ Dp K H v (pd y) := by
  unfold lokP valX
  induction h with
  | nil => exact .inl ⟨rfl, rfl⟩
  | @cons k p ks ps h t ih =>
    rw [List.find?_cons, List.find?_cons]
    by_cases e : p.1 = x
    · refine .inr ⟨p.2, k.2.2, ?_, ?_, h.2.2⟩
      · simp [e]
      · simp [h.1, e]
    · have e2 : ¬ k.1 = pk x := fun z => e (pk_inj (h.1.symm.trans z))
      simp only [e, e2, decide_false]
      exact ih
theorem PrtR.keys {ks : DxL} {ps : List (Pt × Pt)} (h : PrtR K H ks ps) : ks.length = ps.length ∧ DpAll K H (ks.map fun x => V.ref x.2.1) ((ps.map (·.1)).map pd) := by
  induction h with
  | nil => exact ⟨rfl, .nil⟩
  | cons h t ih => exact ⟨by simp [ih.1], .cons h.2.1 ih.2⟩
end
theorem chs_lens : ((List.range 6).all fun i => decide ((chsN i).length ≤ 200)) = true := by decide +kernel
theorem forL_by0' {K : PySem.W.Frag} {H0 H : Hp} {σ : L2.St} {g : TG} {tb : TS} {D : Ends} {x : V} {ds : List PyData} (Pv : Nat → L2.St → Hp → Prop) (src : Dp K H0 x (.list ds)) (k0 : Keep H0 H) (h0 : Pv 0 σ H) (hk : ∀ i σ' H', i ≤ ds.length → Pv i σ' H' → Keep H0 H')
    (hs : ∀ i d y σ' H', ds[i]? = some d → Dp K H' y d → Pv i σ' H' → g y σ' H' fun σ2 H2 => tb { D with nx := Pv (i + 1), ct := Pv (i + 1), bk := D.nx } σ2 H2) (hd : ∀ σ' H', Pv ds.length σ' H' → D.nx σ' H') : rForL K g tb D σ x H := by
  obtain ⟨a, xs, rfl, hq, ha⟩ := dp_lst src
  have hl := dpa_len ha
  refine ⟨a, rfl, ⟨xs, k0.seqL hq⟩, for_list (xs := xs) Pv h0 (fun i σ' H' hi p => (hk i σ' H' (by omega) p).seqL hq) (fun i y σ' H' hi p => ?_) (fun σ' H' p => hd σ' H' (by rw [← hl]; exact p))⟩
  have hlt := (List.getElem?_eq_some_iff.mp hi).1
  obtain ⟨d, e1, e2⟩ := dpa_get2 ha hi
  exact hs i d y σ' H' e1 (dp_keep (hk i σ' H' (by omega) p) e2) p
theorem endO_snoc (cs : List (Pt × Pt)) (c : Pt × Pt) (x : Pt) : endO (cs ++ [c]) x = if x = c.2 then some (-1) else if x = c.1 then some 1 else endO cs x := by
  unfold endO
  rw [List.foldl_append]
  rfl
theorem runP_succ {i j : Nat} {x : Pt} (h : (srtA i)[j]? = some x) : runP i (j + 1) = stP (chsN i) (runP i j) x := by
  unfold runP
  rw [List.take_add_one, h, List.foldl_append]
  rfl
def plc7 (x : Pt) : Bool := decide (x.1 < x.2) && decide (Nat.gcd x.1 x.2 = 1) && (List.range 8).any fun n => decide (1 ≤ n) && decide ((2 ^ n - 1) % x.2 = 0)
theorem plc7_ok {x : Pt} (h : plc7 x = true) : Plc x := by
  unfold plc7 at h
  simp only [Bool.and_eq_true, decide_eq_true_eq, List.any_eq_true, List.mem_range] at h
  obtain ⟨⟨h1, h2⟩, n, h3, h4, h5⟩ := h
  exact ⟨h1, h2, 0, n, h4, by omega, by rw [Nat.pow_zero, Nat.one_mul]; exact Nat.dvd_of_mod_eq_zero h5⟩
theorem prL_plc : (prL.flatten.all fun c => plc7 c.1 && plc7 c.2) = true := by decide +kernel
theorem chs_plc {i : Nat} {c : Pt × Pt} (h : c ∈ chsN i) : Plc c.1 ∧ Plc c.2 := by
  have h2 : c ∈ prL.flatten := by
    obtain ⟨l, hl, hc⟩ := List.mem_flatten.mp h
    exact List.mem_flatten.mpr ⟨l, List.mem_of_mem_take hl, hc⟩
  have := List.all_eq_true.mp prL_plc c h2
  rw [Bool.and_eq_true] at this
  exact ⟨plc7_ok this.1, plc7_ok this.2⟩
theorem srtA_mem (i : Nat) (x : Pt) : x ∈ srtA i ↔ x ∈ plN 0 (2 + i) ++ (chsN i).map (·.1) ++ (chsN i).map (·.2) := (srtP_perm _).mem_iff
theorem srtA_plc {i : Nat} (h : i < 6) {x : Pt} (hx : x ∈ srtA i) : Plc x := by
  have := (srtA_mem i x).mp hx
  rcases List.mem_append.mp this with z | z
  · rcases List.mem_append.mp z with z | z
    · exact pl_plc (by omega) (by omega) x z
    · obtain ⟨c, hc, rfl⟩ := List.mem_map.mp z
      exact (chs_plc hc).1
  · obtain ⟨c, hc, rfl⟩ := List.mem_map.mp z
    exact (chs_plc hc).2
theorem pl_lens7 : ((List.range 6).all fun i => decide ((plN 0 (2 + i)).length ≤ 200)) = true := by decide +kernel
theorem lc_rng1_byA {K : PySem.W.Frag} {H1 : Hp} {σ : L2.St} {Q : VK} {tt : TT} {te : TE} {vs : List Nat} {j : Nat} {k : Int} (J : Nat → List PyData → Hp → Prop) (lj : LcJ H1 J) (hz : 0 ≤ k ∧ k ≤ 1000000) (hw : ∀ x, wipe ((wipe σ vs).set j (some x)) vs = wipe σ vs)
    (turn : ∀ (i : Nat) H' es, (i : Int) < k → J i es H' → LcTurn K J tt te ((wipe σ vs).set j (some (.int (i : Int)))) i es H')
    (done : ∀ p H' us es, H1 p = none → Keep H1 H' → H' p = some (.lst us) → DpAll K H' us es → J k.toNat es H' → Q (.ref p) H') : rLcR1 j tt te vs σ [.int k] H1 Q := by
  refine ⟨k, rfl, by omega, by omega, fun D hD => lc_range (lo := 0) (n := k.toNat) (LcP K J D) ⟨[], [], upd_same, .nil, rfl, Nat.le_refl _, lj.start D hD⟩ (fun i H' hi p => ⟨hw _, lc_turn lj hD (by omega) p fun es q => ?_⟩) fun H' p => ?_⟩
  · rw [Int.zero_add]
    exact turn i H' es (by omega) q
  · obtain ⟨ws, es, p1, p2, p3, p4, p5⟩ := p
    exact done D H' ws es hD (lj.keep _ _ _ p5) p1 p2 p5
theorem runP_up {i j k : Nat} (h : j ≤ k) (hk : (runP i k).isSome = true) : (runP i j).isSome = true := by
  have dead : ∀ l : List Pt, l.foldl (stP (chsN i)) none = none := by
    intro l
    induction l with
    | nil => rfl
    | cons x l ih => exact ih
  cases e : runP i j with
  | some s => rfl
  | none =>
    have : runP i k = none := by
      unfold runP at e ⊢
      have h2 : (srtA i).take k = (srtA i).take j ++ ((srtA i).take k).drop j := by
        conv => lhs; rw [← List.take_append_drop j ((srtA i).take k)]
        rw [List.take_take, Nat.min_eq_left h]
      rw [h2, List.foldl_append, e]
      exact dead _
    rw [this] at hk
    cases hk
theorem endO_cases (cs : List (Pt × Pt)) (x : Pt) : endO cs x = none ∨ endO cs x = some 1 ∨ endO cs x = some (-1) := by
  unfold endO
  have : ∀ (l : List (Pt × Pt)) (r : Option Int), (r = none ∨ r = some 1 ∨ r = some (-1)) → (l.foldl (fun r c => if x = c.2 then some (-1) else if x = c.1 then some 1 else r) r = none ∨ l.foldl (fun r c => if x = c.2 then some (-1) else if x = c.1 then some 1 else r) r = some 1 ∨ l.foldl (fun r c => if x = c.2 then some (-1) else if x = c.1 then some 1 else r) r = some (-1)) := by
    intro l
    induction l with
    | nil => exact fun r h => h
    | cons c l ih =>
      intro r h
      refine ih _ ?_
      dsimp only
      split
      · exact .inr (.inr rfl)
      · split
        · exact .inr (.inl rfl)
        · exact h
  exact this cs none (.inl rfl)
section
variable {P : Program} {w : World} {K : PySem.W.Frag} {H H' : Hp} {a D : Addr} {xs0 : List V}
theorem seqT_ls {ob : HO} {c : Addr} {xs : List V} (h : H D = some (.lst xs0)) (s : SqT K H c xs) : SqT K (upd H D ob) c xs := by
  rcases s with (s | ⟨oo, s⟩) | s
  · exact .inl (.inl (by rw [upd_ne (ne_of s h (fun z => nomatch z))]; exact s))
  · exact .inl (.inr ⟨oo, by rw [upd_ne (ne_of s h (fun z => nomatch z))]; exact s⟩)
  · exact .inr s
theorem DxAt.updL {ks : DxL} {ob : HO} (h : DxAt P w K H a ks) (hD : H D = some (.lst xs0)) : DxAt P w K (upd H D ob) a ks :=
  ⟨by rw [upd_ne (ne_of h.at_ hD (fun z => nomatch z))]; exact h.at_, h.nd, h.len, fun x hx => seqT_ls hD (h.key x hx)⟩
theorem WsR.snoc {vs : List V} {ws : List (Option Pt)} {v : V} {o : Option Pt} (h : WsR K H vs ws) (r : WoR K H v o) : WsR K H (vs ++ [v]) (ws ++ [o]) := by
  unfold WsR at *
  induction h with
  | nil => exact .cons r .nil
  | cons a b ih => exact .cons a ih
theorem WsR.last : ∀ {vs : List V} {ws : List (Option Pt)} {o : Option Pt}, WsR K H vs ws → ws.getLast? = some o → ∃ us u, vs = us ++ [u] ∧ WsR K H us ws.dropLast ∧ WoR K H u o
  | _, [], _, _, h => by simp at h
  | _, [o1], o, h, e => by
    simp only [List.getLast?_singleton, Option.some.injEq] at e
    subst e
    cases h with
    | cons a b => cases b; exact ⟨[], _, rfl, .nil, a⟩
  | _, o1 :: o2 :: ws, o, h, e => by
    cases h with
    | cons a b =>
      rw [List.getLast?_cons_cons] at e
      obtain ⟨us, u, h1, h2, h3⟩ := WsR.last b e
      exact ⟨_ :: us, u, by rw [h1]; rfl, .cons a h2, h3⟩
theorem w_ixLastR {us : List V} {u : V} {q : Addr} {Q : VK} (h : H q = some (.lst (us ++ [u]))) (k : Q u H) : rIxL K (.ref q) (.int (-1)) H Q := ⟨q, _, -1, u, rfl, rfl, SqL.of h, atI_last _ _, k⟩
theorem w_setLast {us : List V} {u v : V} {q : Addr} {Q : Hp → Prop} (h : H q = some (.lst (us ++ [u]))) (k : Q (upd H q (.lst (us ++ [v])))) : rSetL (.ref q) (.int (-1)) v H Q := by
  refine ⟨q, _, -1, us.length, rfl, rfl, h, ?_, ?_⟩
  · unfold ixN
    rw [if_neg (by decide), if_pos (by simp; omega)]
    simp
    omega
  · simpa using k
theorem w_popR {us : List V} {u : V} {q : Addr} {Q : VK} (h : H q = some (.lst (us ++ [u]))) (k : Q u (upd H q (.lst us))) : rPop (.ref q) [] H Q :=
  ⟨q, _, u, rfl, rfl, h, by simp, by simpa using k⟩
end
theorem w_gSub {to ti : TE} {t : TSet} {v : V} {σ : L2.St} {H : Hp} {Q : L2.St → Hp → Prop} (h : to σ H fun o H1 => ti σ H1 fun i H2 => t o i v H2 fun H3 => Q σ H3) : gSub to ti t v σ H Q := h
theorem valK_old {kvs l : List (Key × V)} {k : Key} {v : V} (h : valV kvs k = some v) : valV (kvs ++ l) k = some v := by
  unfold valV at *
  rw [List.find?_append]
  obtain ⟨x, hx, e⟩ := Option.map_eq_some_iff.mp h
  rw [hx]
  exact congrArg some e
theorem valK_new {kvs : List (Key × V)} {k : Key} {v : V} (h : k ∉ kvs.map (·.1)) : valV (kvs ++ [(k, v)]) k = some v ∧ putK kvs k v = kvs ++ [(k, v)] := by
  have hn : ∀ x ∈ kvs, ¬ x.1 = k := fun x hx e => h (List.mem_map.mpr ⟨x, hx, e⟩)
  constructor
  · unfold valV
    rw [List.find?_append, List.find?_eq_none.mpr fun x hx => by simpa using hn x hx]
    simp
  · unfold putK
    rw [if_neg]
    intro z
    obtain ⟨x, hx, e⟩ := List.any_eq_true.mp z
    exact hn x hx (of_decide_eq_true e)
end Tw
namespace Tw
open PySem PySem.Spec PyProof.Rows L2
/-! ### a star filled with the one or the other mark -/
theorem mk_in {w : List Nat} {c : Nat} {k : Int} (h1 : 1 ≤ k) (h2 : k ≤ w.length) : mk (w ++ [c]) k = w.getD (k - 1).toNat 0 := by
  unfold mk
  rw [List.length_append, List.length_singleton, Int.emod_eq_of_lt (by omega) (by omega), List.getD_eq_getElem?_getD, List.getD_eq_getElem?_getD, List.getElem?_append_left (by omega)]
theorem mk_endN (w : List Nat) (c : Nat) : mk (w ++ [c]) (w.length + 1 : Nat) = c := by
  unfold mk
  rw [List.length_append, List.length_singleton, Int.emod_eq_of_lt (by omega) (by omega), List.getD_eq_getElem?_getD, List.getElem?_append_right (by omega)]
  simp
theorem least_ex {P : Nat → Prop} (h : ∃ n, P n) : ∃ n, P n ∧ ∀ m, m < n → ¬ P m := by
  obtain ⟨n, hn⟩ := h
  induction n using Nat.strongRecOn with
  | _ n ih =>
    by_cases z : ∃ m, m < n ∧ P m
    · obtain ⟨m, h1, h2⟩ := z
      exact ih m h1 h2
    · exact ⟨n, hn, fun m h1 h2 => z ⟨m, h1, h2⟩⟩
theorem fill_at (w : List Nat) (hw : ∀ c ∈ w, c = 48 ∨ c = 49) : ∀ (d : Nat) (k : Int), 1 ≤ k → k ≤ w.length → (w.length : Int) - k ≤ d → ∃ m, (m = 48 ∨ m = 49) ∧ ∀ c ns, Chn (w ++ [c]) (w.length + 1 : Nat) (some k) ns → (((w.length + 1 : Nat) : Int) ∈ ns ↔ c ≠ m) := by
  intro d
  induction d with
  | zero =>
    intro k h1 h2 h3
    have hk : k = w.length := by omega
    subst hk
    exact fill_last w hw _ h1 h2 fun j hj1 hj2 => by omega
  | succ d ih =>
    intro k h1 h2 h3
    by_cases hex : ∃ j : Nat, k < j ∧ (j : Int) ≤ w.length ∧ w.getD (j - 1) 0 ≠ w.getD ((j : Int) - k - 1).toNat 0
    · obtain ⟨j, ⟨hj1, hj2, hj3⟩, hmin⟩ : ∃ j : Nat, (k < j ∧ (j : Int) ≤ w.length ∧ w.getD (j - 1) 0 ≠ w.getD ((j : Int) - k - 1).toNat 0) ∧ ∀ i : Nat, i < j → ¬ (k < i ∧ (i : Int) ≤ w.length ∧ w.getD (i - 1) 0 ≠ w.getD ((i : Int) - k - 1).toNat 0) :=
        least_ex hex
      obtain ⟨m, hm, ih'⟩ := ih (j : Int) (by omega) hj2 (by omega)
      refine ⟨m, hm, fun c ns hc => ?_⟩
      have hu : Un (w ++ [c]) k (some (j : Int)) := by
        refine ⟨hj1, ?_, fun i hi1 hi2 => ?_⟩
        · rw [mk_in (by omega) hj2, mk_in (by omega) (by omega)]
          have : ((j : Int) - 1).toNat = j - 1 := by omega
          rw [this]
          exact hj3
        · rw [mk_in (by omega) (by omega), mk_in (by omega) (by omega)]
          have := hmin i.toNat (by omega)
          have e1 : ((i.toNat : Nat) : Int) = i := by omega
          rw [e1] at this
          have e2 : (i - 1).toNat = i.toNat - 1 := by omega
          rw [e2]
          cases Nat.decEq (w.getD (i.toNat - 1) 0) (w.getD (i - k - 1).toNat 0) with
          | isTrue z => exact z
          | isFalse z => exact absurd ⟨hi1, by omega, z⟩ this
      cases hc with
      | stop z => omega
      | go a b t =>
        rw [b.unique hu] at t
        rw [List.mem_cons]
        rw [← ih' c _ t]
        constructor
        · rintro (z | z)
          · omega
          · exact z
        · exact .inr
    · refine fill_last w hw k h1 h2 fun j hj1 hj2 => ?_
      cases Nat.decEq (w.getD (j.toNat - 1) 0) (w.getD (j - k - 1).toNat 0) with
      | isTrue z => exact z
      | isFalse z =>
        refine absurd ⟨j.toNat, by omega, by omega, ?_⟩ hex
        have e1 : ((j.toNat : Nat) : Int) = j := by omega
        rw [e1]
        exact z
where
  fill_last (w : List Nat) (hw : ∀ c ∈ w, c = 48 ∨ c = 49) (k : Int) (h1 : 1 ≤ k) (h2 : k ≤ w.length) (he : ∀ j : Int, k < j → j ≤ w.length → w.getD (j.toNat - 1) 0 = w.getD (j - k - 1).toNat 0) : ∃ m, (m = 48 ∨ m = 49) ∧ ∀ c ns, Chn (w ++ [c]) (w.length + 1 : Nat) (some k) ns → (((w.length + 1 : Nat) : Int) ∈ ns ↔ c ≠ m) := by
    have hi : (((w.length + 1 : Nat) : Int) - k - 1).toNat < w.length := by omega
    refine ⟨w[(((w.length + 1 : Nat) : Int) - k - 1).toNat], hw _ (List.getElem_mem hi), fun c ns hc => ?_⟩
    have em : mk (w ++ [c]) (((w.length + 1 : Nat) : Int) - k) = w[(((w.length + 1 : Nat) : Int) - k - 1).toNat] := by
      rw [mk_in (by omega) (by omega), List.getD_eq_getElem?_getD, List.getElem?_eq_getElem hi]
      rfl
    have before : ∀ j : Int, k < j → j < (w.length + 1 : Nat) → mk (w ++ [c]) j = mk (w ++ [c]) (j - k) := by
      intro j a b
      rw [mk_in (by omega) (by omega), mk_in (by omega) (by omega)]
      have := he j a (by omega)
      have e2 : (j - 1).toNat = j.toNat - 1 := by omega
      rw [e2]
      exact this
    generalize w[(((w.length + 1 : Nat) : Int) - k - 1).toNat] = m at *
    by_cases hcm : c = m
    · subst hcm
      refine ⟨fun z => ?_, fun z => absurd rfl z⟩
      cases hc with
      | stop y => cases z
      | go a b t =>
        rcases List.mem_cons.mp z with y | y
        · omega
        · rename_i r ns'
          cases r with
          | none => cases t; cases y
          | some r =>
            cases t with
            | stop q => cases y
            | go q1 q2 q3 =>
              exfalso
              by_cases hr : r < (w.length + 1 : Nat)
              · exact b.2.1 (before r b.1 hr)
              · obtain rfl : r = (w.length + 1 : Nat) := by omega
                refine b.2.1 ?_
                rw [mk_endN, em]
    · refine ⟨fun _ => hcm, fun _ => ?_⟩
      have hu : Un (w ++ [c]) k (some ((w.length + 1 : Nat) : Int)) := ⟨by omega, by rw [mk_endN, em]; exact hcm, before⟩
      cases hc with
      | stop y => omega
      | go a b t =>
        rw [b.unique hu] at t
        cases t with
        | stop y => omega
        | go _ _ _ => exact List.mem_cons_of_mem _ List.mem_cons_self
theorem fill_other (w : List Nat) (hw : ∀ c ∈ w, c = 48 ∨ c = 49) (h1 : 1 ≤ w.length) : (addrL (w ++ [48])).contains (w.length + 1) = !(addrL (w ++ [49])).contains (w.length + 1) := by
  obtain ⟨m, hm, h⟩ := fill_at w hw w.length 1 (by decide) (by omega) (by omega)
  have key : ∀ c, ((addrL (w ++ [c])).contains (w.length + 1) = true ↔ c ≠ m) := by
    intro c
    have hc := chn_chnL (l := w ++ [c]) (by simp) (most := (w ++ [c]).length) ((w ++ [c]).length + 1) (some 1) fun k hk => by cases hk; omega
    have hl : (w ++ [c]).length = w.length + 1 := by simp
    have h2 := h c _ (by rw [← hl]; exact hc)
    rw [← h2, List.contains_iff_mem]
    unfold addrL
    simp only [List.mem_map]
    constructor
    · intro z
      exact ⟨_, z, rfl⟩
    · rintro ⟨a, z, e⟩
      obtain rfl : a = w.length + 1 := by omega
      exact z
  have k0 := key 48
  have k1 := key 49
  rcases hm with rfl | rfl
  · have : (addrL (w ++ [49])).contains (w.length + 1) = true := k1.mpr (by decide)
    rw [this]
    cases z : (addrL (w ++ [48])).contains (w.length + 1) with
    | false => rfl
    | true => exact absurd rfl (k0.mp z)
  · have : (addrL (w ++ [48])).contains (w.length + 1) = true := k0.mpr (by decide)
    rw [this]
    cases z : (addrL (w ++ [49])).contains (w.length + 1) with
    | false => rfl
    | true => exact absurd rfl (k1.mp z)
/-! ### the mirrored place -/
theorem way0_odd {x : Nat × Nat} (h : Plc x) (h0 : wayN x = 0) : x.2 % 2 = 1 := by
  have hp := h.pos
  have hs := h.small
  rcases Nat.mod_two_eq_zero_or_one x.2 with z | z
  · have := twos_even hp (Nat.lt_trans hs (by decide)) z
    unfold wayN at h0
    omega
  · exact z
theorem ret_it {t : Nat × Nat} (h : Plc t) (h0 : wayN t = 0) (h2 : perN t ≠ 1) (i : Nat) : (itN i t).1 ≠ 0 ∧ 2 * (itN i t).1 ≠ (itN i t).2 := by
  have pi := it_plc h i
  have w := it_ways h i
  have hw : wayN (itN i t) = 0 := by rw [w.1, h0]; omega
  have ho := way0_odd pi hw
  refine ⟨fun z => ?_, fun z => by omega⟩
  have h1 : (itN i t).2 = 1 := by
    have := pi.cop
    rw [z] at this
    simpa [Nat.Coprime] using this
  have e : itN i t = (0, 1) := Prod.ext z h1
  have := w.2
  rw [e] at this
  exact h2 (this.symm.trans (by decide +kernel))
theorem mkr_mir {t x : Nat × Nat} (ht : Plc t) (hx : Plc x) (t0 : t.1 ≠ 0) (x0 : x.1 ≠ 0) : mkr (mirN t) (mirN x) = mkr t x := by
  have st : sz t ≠ 0 := fun z => by
    have := sz_mul ht
    rw [z, Nat.zero_mul] at this
    rcases Nat.mul_eq_zero.mp this.symm with y | y
    · exact t0 y
    · have := CN_pos; omega
  have sx : sz x ≠ 0 := fun z => by
    have := sz_mul hx
    rw [z, Nat.zero_mul] at this
    rcases Nat.mul_eq_zero.mp this.symm with y | y
    · exact x0 y
    · have := CN_pos; omega
  have lt := sz_lt ht
  have lx := sz_lt hx
  unfold mkr
  rw [mir_dbl hx, mir_sz ht, mir_sz hx, if_neg st, if_neg sx]
  by_cases hd : dblN x = t
  · rw [if_pos hd, if_pos (by rw [hd])]
  · have hd2 : ¬ mirN (dblN x) = mirN t := fun z => by
      refine hd (sz_inj (dbl_plc hx) ht ?_)
      have e1 := mir_sz (dbl_plc hx)
      have e2 := mir_sz ht
      rw [z, e2, if_neg st] at e1
      have := sz_lt (dbl_plc hx)
      split at e1 <;> omega
    rw [if_neg hd, if_neg hd2]
    by_cases hm : sz t < 2 * sz x ∧ 2 * sz x < sz t + CN
    · rw [if_pos hm, if_pos ⟨by omega, by omega⟩]
    · rw [if_neg hm, if_neg fun z => hm ⟨by omega, by omega⟩]
theorem markL_mir {t : Nat × Nat} (h : Plc t) (h0 : wayN t = 0) (h2 : perN t ≠ 1) : markL (mirN t) (mirN t) = markL t t := by
  have hw : wayN (mirN t) = wayN t := rfl
  have hpr : perN (mirN t) = perN t := rfl
  unfold markL orbN
  rw [hw, hpr, List.map_map, List.map_map]
  apply List.map_congr_left
  intro i _
  show mkr (mirN t) (itN i (mirN t)) = mkr t (itN i t)
  rw [mir_it h]
  exact mkr_mir h (it_plc h i) (ret_it h h0 h2 0).1 (ret_it h h0 h2 i).1
theorem grB_mir {t : Nat × Nat} (h : Plc t) (h0 : wayN t = 0) (h2 : perN t ≠ 1) : grB (mirN t) = !grB t := by
  have hw : wayN (mirN t) = wayN t := rfl
  have hpr : perN (mirN t) = perN t := rfl
  have w := ways h
  have hn1 := w.n1
  have hml := mark_len t t
  rw [h0, Nat.zero_add] at hml
  have hdl : (markL t t).dropLast.length + 1 = perN t := by rw [List.length_dropLast, hml]; omega
  have hb : ∀ c ∈ (markL t t).dropLast, c = 48 ∨ c = 49 := by
    intro c hc
    obtain ⟨i, hi, rfl⟩ := List.getElem_of_mem hc
    rw [List.length_dropLast, hml] at hi
    rw [List.getElem_dropLast]
    have hg := mark_get (t := t) (x := t) (i := i) (by omega)
    rw [List.getElem?_eq_getElem (by omega)] at hg
    rw [Option.some.inj hg]
    unfold mkr
    have hne : ¬ dblN (itN i t) = t := fun z => by
      have := ((w.eq 0 (i + 1) (by omega)).mp (by rw [itN_succ, z]; rfl)).2
      exact w.lt (i + 1) (by omega) (by omega) (by simpa using this)
    rw [if_neg hne]
    split <;> simp
  have hf := fill_other _ hb (by omega)
  rw [hdl] at hf
  have hr := ret_it h h0 h2 (perN t - 1)
  have hlow : lowB (itN (perN t - 1) (mirN t)) = !lowB (itN (perN t - 1) t) := by
    rw [mir_it h]
    unfold lowB mirN
    have hl := (it_plc h (perN t - 1)).lt
    simp only [if_neg hr.1]
    rw [← decide_not, decide_eq_decide]
    omega
  unfold grB
  rw [hpr, if_neg h2, if_neg h2, markL_mir h h0 h2, hlow]
  cases lowB (itN (perN t - 1) t) with
  | true =>
    rw [if_neg (by decide), if_pos rfl, hf]
  | false =>
    rw [if_pos (by decide), if_neg (by decide), hf, Bool.not_not]
theorem bin_ret {c : List Nat} (hc : c ≠ []) : wayN (binN [] c) = 0 := by
  refine twos_odd ?_
  have hd : (binN [] c).2 ∣ botN [] c := red_dvd
  have hl := List.length_pos_iff.mpr hc
  have hb : botN [] c % 2 = 1 := by
    unfold botN
    obtain ⟨n, hn⟩ : ∃ n, c.length = n + 1 := ⟨c.length - 1, by omega⟩
    rw [hn, List.length_nil, Nat.pow_zero, Nat.one_mul, Nat.pow_succ]
    have := two_pow_pos n
    omega
  rcases Nat.mod_two_eq_zero_or_one (binN [] c).2 with z | z
  · have := Nat.dvd_trans (Nat.dvd_of_mod_eq_zero z) hd
    omega
  · exact z
def ok16 (s : List Nat) : Bool := decide (perN (binN [] s) ≤ 7) && (decide (perN (binN [] s) = 1) || (grB (binN [] s) == ((prL.getD (perN (binN [] s) - 2) []).map (·.2)).contains (binN [] s)))
theorem ok16_all : ((List.range 8).all fun n => n == 0 || (bits n).all ok16) = true := by decide +kernel
def insN (p q : Nat) : List Nat := cutD (lnN p q) (some 1) (some (-1))
def ok16l (t : Nat × Nat) : Bool := let a := binN [] (insN t.1 t.2 ++ [48, 49]); let b := binN [] (insN t.1 t.2 ++ [49, 48]); grB a == false && grB b == true
theorem ok16l_all : ((List.range 25).all fun q => (List.range q).all fun p => p == 0 || Nat.gcd p q != 1 || ok16l (p, q)) = true := by decide +kernel
theorem ok16l_at {p q : Nat} (h1 : 1 ≤ p) (h2 : p < q) (h3 : q ≤ 24) (h4 : Nat.gcd p q = 1) : grB (binN [] (insN p q ++ [48, 49])) = false ∧ grB (binN [] (insN p q ++ [49, 48])) = true := by
  have a := List.all_eq_true.mp (List.all_eq_true.mp ok16l_all q (List.mem_range.mpr (by omega))) p (List.mem_range.mpr h2)
  have b : ok16l (p, q) = true := by
    have e : (p == 0) = false := by simp; omega
    simpa [e, h4] using a
  unfold ok16l at b
  simpa using b
theorem insN_len (p q : Nat) : (insN p q).length ≤ q - 2 := by
  unfold insN cutD
  rw [List.length_take, List.length_drop, lnN_len]
  have : HT.sIx q 0 (some 1) = min 1 q := HT.sIx_nat _ _ 1
  rw [this]
  have h2 : HT.sIx q q (some (-1)) = q - 1 := by
    show (if (-1 : Int) < 0 then ((-1 : Int) + (q : Int)).toNat else min (-1 : Int).toNat q) = _
    rw [if_pos (by decide)]
    omega
  rw [h2]
  omega
theorem ok16_few : grB (0, 1) = false ∧ grB (1, 3) = false ∧ grB (2, 3) = true ∧ wayN (0, 1) = 0 ∧ wayN (1, 3) = 0 ∧ wayN (2, 3) = 0 ∧ wayN (1, 2) ≠ 0 ∧ wayN (1, 6) ≠ 0 ∧ wayN (3, 4) ≠ 0 ∧ wayN (5, 12) ≠ 0 := by decide +kernel
theorem w_notBl {a b : Bool} {H : Hp} {Q : VK} (q : Q (.bl (!decide (a = b))) H) : rNotB (.bl a) (.bl b) H Q := ⟨a, b, rfl, rfl, q⟩
theorem w_isBl {a b : Bool} {H : Hp} {Q : VK} (q : Q (.bl (decide (a = b))) H) : rIsB (.bl a) (.bl b) H Q := ⟨a, b, rfl, rfl, q⟩
theorem prl_len (i : Nat) : (prL.getD i []).length ≤ 1000000 := by
  have h : ((List.range 6).all fun i => decide ((prL.getD i []).length ≤ 1000000)) = true := by decide +kernel
  by_cases z : i < 6
  · exact of_decide_eq_true (List.all_eq_true.mp h i (List.mem_range.mpr z))
  · rw [List.getD_eq_getElem?_getD, List.getElem?_eq_none (show prL.length ≤ i by show 6 ≤ i; omega)]
    exact Nat.zero_le _
theorem pd_pln8 (x : Nat × Nat) : pln 8 (pd x) = true := rfl
theorem pd_memL {x : Nat × Nat} {l : List (Nat × Nat)} : pd x ∈ l.map pd ↔ x ∈ l := by
  rw [List.mem_map]
  constructor
  · rintro ⟨y, hy, e⟩
    rw [← pd_inj e]
    exact hy
  · exact fun h => ⟨x, h, rfl⟩
end Tw
namespace Tw
open PySem PySem.Spec PyProof.Rows L2
def topS (i : Nat) : Stmt := PySem.Challenge.pw_twicedial_k16_lesser_or_greater.main.body.getD i (.Pass ⟨0, 0, 0, 0⟩)
abbrev s_reduced : Stmt := topS 7
abbrev N_reduced : List Str := ["top", "bottom", "common"]
theorem sc_reduced : FnScope N_reduced ["top", "bottom"] (defScope s_reduced) := ⟨rfl, rfl, rfl, by decide +kernel, rfl, by decide +kernel, by decide +kernel⟩
abbrev s_size : Stmt := topS 8
abbrev N_size : List Str := ["x"]
theorem sc_size : FnScope N_size ["x"] (defScope s_size) := ⟨rfl, rfl, rfl, by decide +kernel, rfl, by decide +kernel, by decide +kernel⟩
abbrev s_is_low : Stmt := topS 9
abbrev N_is_low : List Str := ["x"]
theorem sc_is_low : FnScope N_is_low ["x"] (defScope s_is_low) := ⟨rfl, rfl, rfl, by decide +kernel, rfl, by decide +kernel, by decide +kernel⟩
abbrev s_double : Stmt := topS 11
abbrev N_double : List Str := ["x", "top", "bottom"]
theorem sc_double : FnScope N_double ["x"] (defScope s_double) := ⟨rfl, rfl, rfl, by decide +kernel, rfl, by decide +kernel, by decide +kernel⟩
abbrev s_orbit : Stmt := topS 12
abbrev N_orbit : List Str := ["x", "entries"]
theorem sc_orbit : FnScope N_orbit ["x"] (defScope s_orbit) := ⟨rfl, rfl, rfl, by decide +kernel, rfl, by decide +kernel, by decide +kernel⟩
abbrev s_way_in : Stmt := topS 13
abbrev N_way_in : List Str := ["x"]
theorem sc_way_in : FnScope N_way_in ["x"] (defScope s_way_in) := ⟨rfl, rfl, rfl, by decide +kernel, rfl, by decide +kernel, by decide +kernel⟩
abbrev s_returns : Stmt := topS 14
abbrev N_returns : List Str := ["x"]
theorem sc_returns : FnScope N_returns ["x"] (defScope s_returns) := ⟨rfl, rfl, rfl, by decide +kernel, rfl, by decide +kernel, by decide +kernel⟩
abbrev s__twos : Stmt := topS 15
abbrev N__twos : List Str := ["bottom"]
theorem sc__twos : FnScope N__twos ["bottom"] (defScope s__twos) := ⟨rfl, rfl, rfl, by decide +kernel, rfl, by decide +kernel, by decide +kernel⟩
abbrev s_least_row : Stmt := topS 17
abbrev N_least_row : List Str := ["head", "cycle", "again", "kept", "start"]
theorem sc_least_row : FnScope N_least_row ["head", "cycle"] (defScope s_least_row) := ⟨rfl, rfl, rfl, by decide +kernel, rfl, by decide +kernel, by decide +kernel⟩
abbrev s_mark : Stmt := topS 19
abbrev N_mark : List Str := ["t", "x"]
theorem sc_mark : FnScope N_mark ["t", "x"] (defScope s_mark) := ⟨rfl, rfl, rfl, by decide +kernel, rfl, by decide +kernel, by decide +kernel⟩
abbrev s_plain_row : Stmt := topS 20
abbrev N_plain_row : List Str := ["t", "x", "every", "ahead", "y"]
theorem sc_plain_row : FnScope N_plain_row ["t", "x"] (defScope s_plain_row) := ⟨rfl, rfl, rfl, by decide +kernel, rfl, by decide +kernel, by decide +kernel⟩
abbrev s_kneading : Stmt := topS 21
abbrev N_kneading : List Str := ["t"]
theorem sc_kneading : FnScope N_kneading ["t"] (defScope s_kneading) := ⟨rfl, rfl, rfl, by decide +kernel, rfl, by decide +kernel, by decide +kernel⟩
abbrev s_star_word : Stmt := topS 22
abbrev N_star_word : List Str := ["t"]
theorem sc_star_word : FnScope N_star_word ["t"] (defScope s_star_word) := ⟨rfl, rfl, rfl, by decide +kernel, rfl, by decide +kernel, by decide +kernel⟩
abbrev s_next_unlike : Stmt := topS 24
abbrev N_next_unlike : List Str := ["marks", "m", "count", "k"]
theorem sc_next_unlike : FnScope N_next_unlike ["marks", "m"] (defScope s_next_unlike) := ⟨rfl, rfl, rfl, by decide +kernel, rfl, by decide +kernel, by decide +kernel⟩
abbrev s_address : Stmt := topS 25
abbrev N_address : List Str := ["marks", "numbers", "m"]
theorem sc_address : FnScope N_address ["marks"] (defScope s_address) := ⟨rfl, rfl, rfl, by decide +kernel, rfl, by decide +kernel, by decide +kernel⟩
abbrev s_is_greater : Stmt := topS 27
abbrev N_is_greater : List Str := ["t", "word", "count", "filled"]
theorem sc_is_greater : FnScope N_is_greater ["t"] (defScope s_is_greater) := ⟨rfl, rfl, rfl, by decide +kernel, rfl, by decide +kernel, by decide +kernel⟩
abbrev s__law_begun : Stmt := topS 29
abbrev N__law_begun : List Str := ["script", "k", "cells", "great", "seed", "cell"]
theorem sc__law_begun : FnScope N__law_begun ["script", "k"] (defScope s__law_begun) := ⟨rfl, rfl, rfl, by decide +kernel, rfl, by decide +kernel, by decide +kernel⟩
abbrev s__law_draw : Stmt := topS 30
abbrev N__law_draw : List Str := ["m", "below", "found", "spot", "cells", "extra", "cell", "blend"]
theorem sc__law_draw : FnScope N__law_draw ["m", "below"] (defScope s__law_draw) := ⟨rfl, rfl, rfl, by decide +kernel, rfl, by decide +kernel, by decide +kernel⟩
abbrev s__law_of : Stmt := topS 31
abbrev N__law_of : List Str := ["m", "some"]
theorem sc__law_of : FnScope N__law_of ["m", "some"] (defScope s__law_of) := ⟨rfl, rfl, rfl, by decide +kernel, rfl, by decide +kernel, by decide +kernel⟩
abbrev s__law_twos : Stmt := topS 32
abbrev N__law_twos : List Str := ["count", "found", "k"]
theorem sc__law_twos : FnScope N__law_twos ["count"] (defScope s__law_twos) := ⟨rfl, rfl, rfl, by decide +kernel, rfl, by decide +kernel, by decide +kernel⟩
abbrev s__law_shared : Stmt := topS 33
abbrev N__law_shared : List Str := ["a", "b", "k"]
theorem sc__law_shared : FnScope N__law_shared ["a", "b"] (defScope s__law_shared) := ⟨rfl, rfl, rfl, by decide +kernel, rfl, by decide +kernel, by decide +kernel⟩
abbrev s__law_ratio : Stmt := topS 34
abbrev N__law_ratio : List Str := ["a", "b", "shared"]
theorem sc__law_ratio : FnScope N__law_ratio ["a", "b"] (defScope s__law_ratio) := ⟨rfl, rfl, rfl, by decide +kernel, rfl, by decide +kernel, by decide +kernel⟩
abbrev s__law_double : Stmt := topS 35
abbrev N__law_double : List Str := ["x"]
theorem sc__law_double : FnScope N__law_double ["x"] (defScope s__law_double) := ⟨rfl, rfl, rfl, by decide +kernel, rfl, by decide +kernel, by decide +kernel⟩
abbrev s__law_orbit : Stmt := topS 36
abbrev N__law_orbit : List Str := ["x", "found", "k"]
theorem sc__law_orbit : FnScope N__law_orbit ["x"] (defScope s__law_orbit) := ⟨rfl, rfl, rfl, by decide +kernel, rfl, by decide +kernel, by decide +kernel⟩
abbrev s__law_ways : Stmt := topS 37
abbrev N__law_ways : List Str := ["x", "found", "ahead"]
theorem sc__law_ways : FnScope N__law_ways ["x"] (defScope s__law_ways) := ⟨rfl, rfl, rfl, by decide +kernel, rfl, by decide +kernel, by decide +kernel⟩
abbrev s__law_binary : Stmt := topS 38
abbrev N__law_binary : List Str := ["head", "cycle", "front", "back", "sign", "wide", "bottom"]
theorem sc__law_binary : FnScope N__law_binary ["head", "cycle"] (defScope s__law_binary) := ⟨rfl, rfl, rfl, by decide +kernel, rfl, by decide +kernel, by decide +kernel⟩
abbrev s__law_string : Stmt := topS 39
abbrev N__law_string : List Str := ["m", "size_v", "k"]
theorem sc__law_string : FnScope N__law_string ["m", "size_v"] (defScope s__law_string) := ⟨rfl, rfl, rfl, by decide +kernel, rfl, by decide +kernel, by decide +kernel⟩
abbrev s__law_sorted : Stmt := topS 40
abbrev N__law_sorted : List Str := ["rows", "whole", "x", "found", "k"]
theorem sc__law_sorted : FnScope N__law_sorted ["rows"] (defScope s__law_sorted) := ⟨rfl, rfl, rfl, by decide +kernel, rfl, by decide +kernel, by decide +kernel⟩
abbrev s__law_all_places : Stmt := topS 41
abbrev N__law_all_places : List Str := ["ahead", "again", "whole", "found", "top", "x"]
theorem sc__law_all_places : FnScope N__law_all_places ["ahead", "again"] (defScope s__law_all_places) := ⟨rfl, rfl, rfl, by decide +kernel, rfl, by decide +kernel, by decide +kernel⟩
abbrev s__law_pairs : Stmt := topS 42
abbrev N__law_pairs : List Str := ["most", "found", "chords", "again", "ends", "a", "b", "fresh", "waiting", "partners", "x"]
theorem sc__law_pairs : FnScope N__law_pairs ["most"] (defScope s__law_pairs) := ⟨rfl, rfl, rfl, by decide +kernel, rfl, by decide +kernel, by decide +kernel⟩
abbrev s__law_mirrored : Stmt := topS 43
abbrev N__law_mirrored : List Str := ["x"]
theorem sc__law_mirrored : FnScope N__law_mirrored ["x"] (defScope s__law_mirrored) := ⟨rfl, rfl, rfl, by decide +kernel, rfl, by decide +kernel, by decide +kernel⟩
abbrev s__law_lines : Stmt := topS 44
abbrev N__law_lines : List Str := ["p", "q", "line", "k"]
theorem sc__law_lines : FnScope N__law_lines ["p", "q"] (defScope s__law_lines) := ⟨rfl, rfl, rfl, by decide +kernel, rfl, by decide +kernel, by decide +kernel⟩
abbrev s__law_refused : Stmt := topS 45
abbrev N__law_refused : List Str := ["t", "found", "error"]
theorem sc__law_refused : FnScope N__law_refused ["t"] (defScope s__law_refused) := ⟨rfl, rfl, rfl, by decide +kernel, rfl, by decide +kernel, by decide +kernel⟩
abbrev s_law : Stmt := topS 46
abbrev N_law : List Str := ["script", "turn", "m", "t", "again", "due", "told", "far", "q", "p", "lesser", "greater", "lost", "k", "pair"]
theorem sc_law : FnScope N_law ["script"] (defScope s_law) := ⟨rfl, rfl, rfl, by decide +kernel, rfl, by decide +kernel, by decide +kernel⟩
structure Top (K : PySem.W.Frag) (mg : Str → Option Value) where
  f_reduced : Addr
  fd_reduced : FuncData
  F_reduced : Fun K "reduced" "reduced" s_reduced f_reduced fd_reduced
  b_reduced : Binds K fd_reduced ["top", "bottom"] []
  g_reduced : mg "reduced" = some (.ref f_reduced)
  f_size : Addr
  fd_size : FuncData
  F_size : Fun K "size" "size" s_size f_size fd_size
  b_size : Binds K fd_size ["x"] []
  g_size : mg "size" = some (.ref f_size)
  f_is_low : Addr
  fd_is_low : FuncData
  F_is_low : Fun K "is_low" "is_low" s_is_low f_is_low fd_is_low
  b_is_low : Binds K fd_is_low ["x"] []
  g_is_low : mg "is_low" = some (.ref f_is_low)
  f_double : Addr
  fd_double : FuncData
  F_double : Fun K "double" "double" s_double f_double fd_double
  b_double : Binds K fd_double ["x"] []
  g_double : mg "double" = some (.ref f_double)
  f_orbit : Addr
  fd_orbit : FuncData
  F_orbit : Fun K "orbit" "orbit" s_orbit f_orbit fd_orbit
  b_orbit : Binds K fd_orbit ["x"] []
  g_orbit : mg "orbit" = some (.ref f_orbit)
  f_way_in : Addr
  fd_way_in : FuncData
  F_way_in : Fun K "way_in" "way_in" s_way_in f_way_in fd_way_in
  b_way_in : Binds K fd_way_in ["x"] []
  g_way_in : mg "way_in" = some (.ref f_way_in)
  f_returns : Addr
  fd_returns : FuncData
  F_returns : Fun K "returns" "returns" s_returns f_returns fd_returns
  b_returns : Binds K fd_returns ["x"] []
  g_returns : mg "returns" = some (.ref f_returns)
  f__twos : Addr
  fd__twos : FuncData
  F__twos : Fun K "_twos" "_twos" s__twos f__twos fd__twos
  b__twos : Binds K fd__twos ["bottom"] []
  g__twos : mg "_twos" = some (.ref f__twos)
  f_least_row : Addr
  fd_least_row : FuncData
  F_least_row : Fun K "least_row" "least_row" s_least_row f_least_row fd_least_row
  b_least_row : Binds K fd_least_row ["head", "cycle"] []
  g_least_row : mg "least_row" = some (.ref f_least_row)
  f_mark : Addr
  fd_mark : FuncData
  F_mark : Fun K "mark" "mark" s_mark f_mark fd_mark
  b_mark : Binds K fd_mark ["t", "x"] []
  g_mark : mg "mark" = some (.ref f_mark)
  f_plain_row : Addr
  fd_plain_row : FuncData
  F_plain_row : Fun K "plain_row" "plain_row" s_plain_row f_plain_row fd_plain_row
  b_plain_row : Binds K fd_plain_row ["t", "x"] []
  g_plain_row : mg "plain_row" = some (.ref f_plain_row)
  f_kneading : Addr
  fd_kneading : FuncData
  F_kneading : Fun K "kneading" "kneading" s_kneading f_kneading fd_kneading
  b_kneading : Binds K fd_kneading ["t"] []
  g_kneading : mg "kneading" = some (.ref f_kneading)
  f_star_word : Addr
  fd_star_word : FuncData
  F_star_word : Fun K "star_word" "star_word" s_star_word f_star_word fd_star_word
  b_star_word : Binds K fd_star_word ["t"] []
  g_star_word : mg "star_word" = some (.ref f_star_word)
  f_next_unlike : Addr
  fd_next_unlike : FuncData
  F_next_unlike : Fun K "next_unlike" "next_unlike" s_next_unlike f_next_unlike fd_next_unlike
  b_next_unlike : Binds K fd_next_unlike ["marks", "m"] []
  g_next_unlike : mg "next_unlike" = some (.ref f_next_unlike)
  f_address : Addr
  fd_address : FuncData
  F_address : Fun K "address" "address" s_address f_address fd_address
  b_address : Binds K fd_address ["marks"] []
  g_address : mg "address" = some (.ref f_address)
  f_is_greater : Addr
  fd_is_greater : FuncData
  F_is_greater : Fun K "is_greater" "is_greater" s_is_greater f_is_greater fd_is_greater
  b_is_greater : Binds K fd_is_greater ["t"] []
  g_is_greater : mg "is_greater" = some (.ref f_is_greater)
  f__law_begun : Addr
  fd__law_begun : FuncData
  F__law_begun : Fun K "_law_begun" "_law_begun" s__law_begun f__law_begun fd__law_begun
  b__law_begun : Binds K fd__law_begun ["script", "k"] []
  g__law_begun : mg "_law_begun" = some (.ref f__law_begun)
  f__law_draw : Addr
  fd__law_draw : FuncData
  F__law_draw : Fun K "_law_draw" "_law_draw" s__law_draw f__law_draw fd__law_draw
  b__law_draw : Binds K fd__law_draw ["m", "below"] []
  g__law_draw : mg "_law_draw" = some (.ref f__law_draw)
  f__law_of : Addr
  fd__law_of : FuncData
  F__law_of : Fun K "_law_of" "_law_of" s__law_of f__law_of fd__law_of
  b__law_of : Binds K fd__law_of ["m", "some"] []
  g__law_of : mg "_law_of" = some (.ref f__law_of)
  f__law_twos : Addr
  fd__law_twos : FuncData
  F__law_twos : Fun K "_law_twos" "_law_twos" s__law_twos f__law_twos fd__law_twos
  b__law_twos : Binds K fd__law_twos ["count"] []
  g__law_twos : mg "_law_twos" = some (.ref f__law_twos)
  f__law_shared : Addr
  fd__law_shared : FuncData
  F__law_shared : Fun K "_law_shared" "_law_shared" s__law_shared f__law_shared fd__law_shared
  b__law_shared : Binds K fd__law_shared ["a", "b"] []
  g__law_shared : mg "_law_shared" = some (.ref f__law_shared)
  f__law_ratio : Addr
  fd__law_ratio : FuncData
  F__law_ratio : Fun K "_law_ratio" "_law_ratio" s__law_ratio f__law_ratio fd__law_ratio
  b__law_ratio : Binds K fd__law_ratio ["a", "b"] []
  g__law_ratio : mg "_law_ratio" = some (.ref f__law_ratio)
  f__law_double : Addr
  fd__law_double : FuncData
  F__law_double : Fun K "_law_double" "_law_double" s__law_double f__law_double fd__law_double
  b__law_double : Binds K fd__law_double ["x"] []
  g__law_double : mg "_law_double" = some (.ref f__law_double)
  f__law_orbit : Addr
  fd__law_orbit : FuncData
  F__law_orbit : Fun K "_law_orbit" "_law_orbit" s__law_orbit f__law_orbit fd__law_orbit
  b__law_orbit : Binds K fd__law_orbit ["x"] []
  g__law_orbit : mg "_law_orbit" = some (.ref f__law_orbit)
  f__law_ways : Addr
  fd__law_ways : FuncData
  F__law_ways : Fun K "_law_ways" "_law_ways" s__law_ways f__law_ways fd__law_ways
  b__law_ways : Binds K fd__law_ways ["x"] []
  g__law_ways : mg "_law_ways" = some (.ref f__law_ways)
  f__law_binary : Addr
  fd__law_binary : FuncData
  F__law_binary : Fun K "_law_binary" "_law_binary" s__law_binary f__law_binary fd__law_binary
  b__law_binary : Binds K fd__law_binary ["head", "cycle"] []
  g__law_binary : mg "_law_binary" = some (.ref f__law_binary)
  f__law_string : Addr
  fd__law_string : FuncData
  F__law_string : Fun K "_law_string" "_law_string" s__law_string f__law_string fd__law_string
  b__law_string : Binds K fd__law_string ["m", "size_v"] []
  g__law_string : mg "_law_string" = some (.ref f__law_string)
  f__law_sorted : Addr
  fd__law_sorted : FuncData
  F__law_sorted : Fun K "_law_sorted" "_law_sorted" s__law_sorted f__law_sorted fd__law_sorted
  b__law_sorted : Binds K fd__law_sorted ["rows"] []
  g__law_sorted : mg "_law_sorted" = some (.ref f__law_sorted)
  f__law_all_places : Addr
  fd__law_all_places : FuncData
  F__law_all_places : Fun K "_law_all_places" "_law_all_places" s__law_all_places f__law_all_places fd__law_all_places
  b__law_all_places : Binds K fd__law_all_places ["ahead", "again"] []
  g__law_all_places : mg "_law_all_places" = some (.ref f__law_all_places)
  f__law_pairs : Addr
  fd__law_pairs : FuncData
  F__law_pairs : Fun K "_law_pairs" "_law_pairs" s__law_pairs f__law_pairs fd__law_pairs
  b__law_pairs : Binds K fd__law_pairs ["most"] []
  g__law_pairs : mg "_law_pairs" = some (.ref f__law_pairs)
  f__law_mirrored : Addr
  fd__law_mirrored : FuncData
  F__law_mirrored : Fun K "_law_mirrored" "_law_mirrored" s__law_mirrored f__law_mirrored fd__law_mirrored
  b__law_mirrored : Binds K fd__law_mirrored ["x"] []
  g__law_mirrored : mg "_law_mirrored" = some (.ref f__law_mirrored)
  f__law_lines : Addr
  fd__law_lines : FuncData
  F__law_lines : Fun K "_law_lines" "_law_lines" s__law_lines f__law_lines fd__law_lines
  b__law_lines : Binds K fd__law_lines ["p", "q"] []
  g__law_lines : mg "_law_lines" = some (.ref f__law_lines)
  f__law_refused : Addr
  fd__law_refused : FuncData
  F__law_refused : Fun K "_law_refused" "_law_refused" s__law_refused f__law_refused fd__law_refused
  b__law_refused : Binds K fd__law_refused ["t"] []
  g__law_refused : mg "_law_refused" = some (.ref f__law_refused)
  f_law : Addr
  fd_law : FuncData
  F_law : Fun K "law" "law" s_law f_law fd_law
  b_law : Binds K fd_law ["script"] []
  g_law : mg "law" = some (.ref f_law)
  c_DialError : Addr
  gc_DialError : mg "DialError" = some (.ref c_DialError)
  x_DialError : ExK K c_DialError
  c_NotReturning : Addr
  gc_NotReturning : mg "NotReturning" = some (.ref c_NotReturning)
  x_NotReturning : ExK K c_NotReturning
  xq_NotReturning : PySem.W.excIn K c_NotReturning [.type "ValueError", .type "Exception", .type "BaseException", .type "object"] "ValueError.__new__" = true
  c_NotPair : Addr
  gc_NotPair : mg "NotPair" = some (.ref c_NotPair)
  x_NotPair : ExK K c_NotPair
  e_NotReturning_NotReturning : PySem.W.exmOne K (.ref c_NotReturning) (.ref c_NotReturning) = some true
  xc_NotReturning : ExcC K c_NotReturning
  k_NotReturning_DialError : PySem.W.kitOne K (.ref c_NotReturning) (.ref c_DialError) = some true
  k_NotReturning_NotPair : PySem.W.kitOne K (.ref c_NotReturning) (.ref c_NotPair) = some false
  k_NotReturning_ValueError : PySem.W.kitOne K (.ref c_NotReturning) (.type "ValueError") = some true
  z_ValueError : mg "ValueError" = none
  z_abs : mg "abs" = none
  z_bool : mg "bool" = none
  z_int : mg "int" = none
  z_isinstance : mg "isinstance" = none
  z_len : mg "len" = none
  z_list : mg "list" = none
  z_max : mg "max" = none
  z_min : mg "min" = none
  z_range : mg "range" = none
  z_sorted : mg "sorted" = none
  z_str : mg "str" = none
  z_tuple : mg "tuple" = none
  i_gcd : mg "gcd" = some (.builtin "math.gcd")
  t_COMMON : Tok
  c_COMMON : mg "COMMON" = some (.int ((CN : Nat) : Int) t_COMMON)
end Tw
namespace Tw
open PySem PySem.Spec PyProof.Rows L2
local macro_rules | `(tactic| walk_at "dp") => `(tactic| first
  | exact Dp.int _ | exact Dp.str _ | exact Dp.bl _ | exact Dp.non
  | assumption
  | ((refine' dp_same ?he ?hd); (case he => assumption); (case hd => walk_at "dp"))
  | ((refine' dp_keep ?he ?hd); (case he => assumption); (case hd => walk_at "dp")))
local macro_rules | `(tactic| walk_at "dpa") => `(tactic| first
  | exact DpAll.nil
  | assumption
  | ((refine' DpAll.cons ?ha ?hb); (case ha => walk_at "dp"); (case hb => walk_at "dpa")))
local macro_rules | `(tactic| walk_at "ty") => `(tactic| first
  | exact ty_int | exact ty_non | exact ty_bl | exact ty_str
  | ((refine' ty_tup ?hx); (case hx => walk_at "dp"))
  | ((refine' ty_lst ?hx); (case hx => walk_at "dp")))
local macro_rules | `(tactic| walk_at "c") => `(tactic| ((try dsimp only); (first
  | (with_reducible assumption) | omega | decide
  | (simp only [List.length_map]; omega)
  | exact mulS ⟨by omega, by omega⟩ ⟨by omega, by omega⟩
  | exact divS ⟨by omega, by omega⟩)))
local macro_rules | `(tactic| walk_at "e0") => `(tactic| first
  | with_reducible refine w_c ?_
  | ((with_reducible refine' w_var ?hv ?_); case hv => rfl)
  | with_reducible refine w_op ?_
  | with_reducible refine w_rI0 ?_
  | with_reducible refine w_rU ?_
  | with_reducible refine w_cons ?_
  | with_reducible refine w_nil ?_
  | with_reducible refine w_cb ?_
  | with_reducible refine w_call ?_
  | with_reducible refine w_tTest ?_
  | with_reducible refine w_bl ?_
  | with_reducible refine w_blV ?_
  | with_reducible refine w_andV ?_
  | with_reducible refine w_chain ?_
  | with_reducible refine w_orV ?_
  | with_reducible refine w_notV ?_
  | with_reducible refine w_tB ?_
  | with_reducible refine w_and ?_
  | with_reducible refine w_or ?_
  | with_reducible refine w_not ?_
  | with_reducible refine w_tI ?_
  | with_reducible refine w_un ?_
  | with_reducible refine w_int ?_
  | with_reducible refine w_tup ?_
  | with_reducible refine w_lst ?_
  | with_reducible refine w_tIsN ?_
  | with_reducible refine w_tNotN ?_
  | with_reducible refine w_slice ?_
  | with_reducible refine w_noPart ?_
  | with_reducible refine w_part ?_
  | with_reducible refine w_pint ?_
  | with_reducible refine w_isStr ?_
  | with_reducible refine w_bm ?_
  | with_reducible refine w_bm0 ?_
  | with_reducible refine w_m1 ?_
  | with_reducible refine w_tyS ?_
  | with_reducible refine w_dget ?_
  | with_reducible refine w_iteT ?_
  | with_reducible refine w_iteF ?_
  | with_reducible refine w_iteNT ?_
  | with_reducible refine w_iteNF ?_
  | with_reducible refine w_pp ?_
  | with_reducible refine w_pp0 ?_
  | with_reducible refine w_lcL ?_
  | with_reducible refine w_lcT ?_
  | with_reducible refine w_lcR1 ?_
  | with_reducible refine w_lcR2 ?_
  | with_reducible refine w_tYes ?_
  | ((with_reducible refine' w_dgS ?h ?hm ?_); (case h => assumption); (case hm => first | exact mo_left | exact mo_seed | exact mo_cells | exact mo_spot))
  | ((with_reducible refine' w_isiY ?ty ?h ?_); (case ty => walk_at "ty"); (case h => decide +kernel))
  | ((with_reducible refine' w_isiN ?ty ?h ?_); (case ty => walk_at "ty"); (case h => decide +kernel))
  | ((with_reducible refine' w_lenL ?h ?_); case h => walk_at "dp")
  | ((with_reducible refine' w_lenT ?h ?_); case h => walk_at "dp")
  | ((with_reducible refine' w_lenSg ?h ?_); case h => walk_at "c")
  | ((with_reducible refine' w_lenS ?h ?_); case h => walk_at "c")
  | ((with_reducible refine' w_addSg ?h ?_); case h => walk_at "c")
  | ((with_reducible refine' w_rI ?c ?_); case c => walk_at "c")
  | with_reducible refine w_eqI ?_
  | with_reducible refine w_neI ?_
  | ((with_reducible refine' w_rEq ?hs ?_); case hs => rfl)
  | ((with_reducible refine' w_rNe ?hs ?_); case hs => rfl))
local macro_rules | `(tactic| walk_at "e") => `(tactic| first
  | walk_at "e0"
  | ((with_reducible refine' w_rMod ?c ?_); case c => walk_at "c"))
local macro_rules | `(tactic| walk_at "p") => `(tactic| first
  | ((with_reducible refine' w_ix0 ?h ?_); case h => walk_at "dp")
  | ((with_reducible refine' w_ix1 ?h ?_); case h => walk_at "dp")
  | ((with_reducible refine' w_gTupP ?h ?_); case h => walk_at "dp")
  | with_reducible refine w_gcdN ?_
  | with_reducible refine w_absN ?_
  | with_reducible refine w_absI ?_
  | ((with_reducible refine' w_row0 ?h ?_); case h => walk_at "dp")
  | ((with_reducible refine' w_row1 ?h ?_); case h => walk_at "dp")
  | ((with_reducible refine' w_gTupR ?h ?_); case h => walk_at "dp")
  | ((with_reducible refine' w_truV ?he ?hl ?_); (case he => rfl); (case hl => walk_at "c"))
  | ((with_reducible refine' w_slSg ?hl ?_); (case hl => walk_at "c"))
  | with_reducible refine w_find3 ?_
  | with_reducible refine w_vei ?_
  | with_reducible refine w_ost ?_
  | with_reducible refine w_callS ?_
  | with_reducible refine w_xf ?_
  | with_reducible refine w_mko ?_
  | with_reducible refine w_kf ?_
  | with_reducible refine w_lcS ?_
  | with_reducible refine w_lc2 ?_
  | with_reducible refine w_bits ?_
  | with_reducible refine w_bitsI ?_
  | with_reducible refine w_lenSet ?_
  | with_reducible refine w_lenSetT ?_
  | with_reducible refine w_forZ ?_
  | with_reducible refine w_dxPut ?_
  | with_reducible refine w_dxG ?_
  | with_reducible refine w_dxI ?_
  | with_reducible refine w_lcL2 ?_
  | with_reducible refine w_gSub ?_
  | with_reducible refine w_notBl ?_
  | with_reducible refine w_isBl ?_
  | with_reducible refine w_max2 (fun _ _ => ?_)
  | with_reducible refine w_min2 (fun _ _ => ?_))
local macro_rules | `(tactic| walk_at "s0") => `(tactic| first
  | with_reducible refine w_seq ?_
  | with_reducible refine w_asg ?_
  | with_reducible refine w_ret ?_
  | with_reducible refine w_drop ?_
  | with_reducible refine w_next ?_
  | with_reducible refine w_retN ?_
  | with_reducible refine w_brk ?_
  | with_reducible refine w_cont ?_
  | with_reducible refine w_dput ?_
  | with_reducible refine w_forL ?_
  | with_reducible refine w_wb ?_
  | with_reducible refine w_forT ?_
  | with_reducible refine w_forR1 ?_
  | with_reducible refine w_forR2 ?_
  | with_reducible refine w_forS ?_
  | with_reducible refine w_gName ?_
  | with_reducible refine w_par ?_
  | with_reducible refine w_asgG ?_
  | with_reducible refine w_par3 ?_
  | with_reducible refine w_par33 ?_
  | with_reducible refine w_par2 ?_)
local macro_rules | `(tactic| walk_at "s") => `(tactic| first
  | walk_at "s0"
  | with_reducible refine w_ifS ?_)
local macro_rules | `(tactic| walk_at "w") => `(tactic| repeat first | walk_at "e" | walk_at "s")
local macro_rules | `(tactic| walk_at "w0") => `(tactic| repeat first | walk_at "e0" | walk_at "s")
local macro_rules | `(tactic| walk_at "wp") => `(tactic| repeat first | walk_at "e" | walk_at "s" | walk_at "p")
local macro_rules | `(tactic| walk_at "t") => `(tactic| first
  | ((with_reducible refine' w_newT (K := ‹PySem.W.Frag›) ?hl ?hd (fun _ _ _ _ _ => ?_)); (case hl => exact len_ok (by simp)); (case hd => walk_at "dpa"))
  | ((with_reducible refine' w_newL (K := ‹PySem.W.Frag›) ?hl ?hd (fun _ _ _ _ _ _ => ?_)); (case hl => exact len_ok (by simp)); (case hd => walk_at "dpa"))
  | ((with_reducible refine' w_gTup2 ?h (fun _ _ _ _ => ?_)); case h => walk_at "dp"))
local macro_rules | `(tactic| walk_at "wt") => `(tactic| repeat first | walk_at "e" | walk_at "s" | walk_at "p" | walk_at "t")
local macro_rules | `(tactic| walk_at "same") => `(tactic| first
  | exact Same.refl _
  | assumption
  | ((refine' Same.trans ?ha ?hb); (case hb => assumption); (case ha => walk_at "same")))
local macro_rules | `(tactic| walk_at "keep") => `(tactic| first
  | exact Keep.refl _
  | assumption
  | (refine Keep.of ?_; assumption)
  | ((refine' Keep.trans ?ha ?hb); (case hb => first | assumption | (refine Keep.of ?_; assumption)); (case ha => walk_at "keep")))
local macro_rules | `(tactic| walk_at "wi") => `(tactic| repeat first | walk_at "e" | walk_at "s0" | walk_at "p" | walk_at "t")
section
variable {P : Program} {w : World} {K : PySem.W.Frag} {mg : Str → Option Value} {base : Heap}
/-! ### reduced -/
def sp_reduced (K : PySem.W.Frag) : Sp := fun vs H Q _ => ∃ p q : Nat, vs = [.int (p : Int), .int (q : Int)] ∧ 0 < q ∧ q < 2 ^ 250 ∧ ∀ v H', Same H H' → Dp K H' v (pd (red p q)) → Q v H'
theorem ok_reduced (T : Top K mg) : FnOk P w K mg base CX0 1 T.f_reduced T.fd_reduced ["top", "bottom"] (sp_reduced K) := by
  refine T.F_reduced.ok sc_reduced (fun vs H Q E h => ?_) (fun cdv A outer s H vs Q E hr h => ?_)
  · obtain ⟨p, q, rfl, _⟩ := h
    rfl
  · obtain ⟨p, q, rfl, h0, h1, q1⟩ := h
    refine ⟨_, (pss_cons (ps_set (i := 2) sc_reduced.nd (by rfl) (by first | exact Or.inl rfl | exact Or.inr rfl) (pe_callBfun cr_gcd (by rfl) T.i_gcd (pa_cons (pv 0) (pa_cons (pv 1) pa_nil))))
      (pss_one (ps_ret (pe_tup (pa_cons (pe_op op_fdivW (pv 0) (pv 2)) (pa_cons (pe_op op_fdivW (pv 1) (pv 2)) pa_nil)))))), ?_⟩
    rw [show start N_reduced [.int (p : Int), .int (q : Int)] = [some (.int (p : Int)), some (.int (q : Int)), none] from rfl]
    try dsimp only [cxK]
    have g0 : 0 < Nat.gcd p q := Nat.gcd_pos_of_pos_right p h0
    have g1 : Nat.gcd p q ≤ q := Nat.le_of_dvd h0 (Nat.gcd_dvd_right p q)
    walk_at "wp"
    refine w_newT (K := K) (len_ok (by simp)) (.cons (.int _) (.cons (.int _) .nil)) fun t H1 n1 e1 d1 => ?_
    exact q1 _ H1 e1 d1

/-! ### size -/
def sp_size (K : PySem.W.Frag) : Sp := fun vs H Q _ => ∃ v x, vs = [v] ∧ Dp K H v (pd x) ∧ Plc x ∧ Q (.int (sz x : Int)) H
theorem ok_size (T : Top K mg) : FnOk P w K mg base CX0 1 T.f_size T.fd_size ["x"] (sp_size K) := by
  refine T.F_size.ok sc_size (fun vs H Q E h => ?_) (fun cdv A outer s H vs Q E hr h => ?_)
  · obtain ⟨v, x, rfl, _⟩ := h
    rfl
  · obtain ⟨v, x, rfl, hv, hx, q⟩ := h
    refine ⟨_, (pss_one (ps_ret (pe_op op_mulX (pe_ix (ix_tupK (K := K)) (pv 0) pe_int (fun _ _ => rfl)) (pe_op op_fdivW (pe_cint (by rfl) T.c_COMMON) (pe_ix (ix_tupK (K := K)) (pv 0) pe_int (fun _ _ => rfl)))))), ?_⟩
    rw [show start N_size [v] = [some (v)] from rfl]
    try dsimp only [cxK]
    have p0 := hx.pos
    have p1 := hx.small
    have p2 := hx.lt
    have c1 := CN_lt
    have c2 : CN / x.2 ≤ CN := Nat.div_le_self _ _
    have c3 : ((CN : Int) / (x.2 : Int)) = ((CN / x.2 : Nat) : Int) := rfl
    walk_at "wp"
    rw [c3]
    have e4 : sz x = x.1 * (CN / x.2) := rfl
    rw [e4] at q
    generalize CN / x.2 = z at *
    walk_at "wp"
    exact q

/-! ### is_low -/
def sp_is_low (K : PySem.W.Frag) : Sp := fun vs H Q _ => ∃ v x, vs = [v] ∧ Dp K H v (pd x) ∧ Plc x ∧ Q (.bl (decide (2 * x.1 < x.2))) H
theorem ok_is_low (T : Top K mg) : FnOk P w K mg base CX0 1 T.f_is_low T.fd_is_low ["x"] (sp_is_low K) := by
  refine T.F_is_low.ok sc_is_low (fun vs H Q E h => ?_) (fun cdv A outer s H vs Q E hr h => ?_)
  · obtain ⟨v, x, rfl, _⟩ := h
    rfl
  · obtain ⟨v, x, rfl, hv, hx, q⟩ := h
    refine ⟨_, (pss_one (ps_ret (pe_cmpR op_lt (pe_op op_mulX pe_int (pe_ix (ix_tupK (K := K)) (pv 0) pe_int (fun _ _ => rfl))) (pe_ix (ix_tupK (K := K)) (pv 0) pe_int (fun _ _ => rfl)) (nomark _)))), ?_⟩
    rw [show start N_is_low [v] = [some (v)] from rfl]
    try dsimp only [cxK]
    have hp := hx.pos
    have hs := hx.small
    have hlt := hx.lt
    walk_at "wp"
    have e : decide ((2 : Int) * (x.1 : Int) < (x.2 : Int)) = decide (2 * x.1 < x.2) := by
      by_cases z : 2 * x.1 < x.2
      · rw [decide_eq_true z, decide_eq_true (by omega)]
      · rw [decide_eq_false z, decide_eq_false (by omega)]
    rw [e]
    exact q

/-! ### _twos -/
def sp__twos (K : PySem.W.Frag) : Sp := fun vs H Q _ => ∃ b : Nat, vs = [.int b] ∧ 0 < b ∧ b < 2 ^ 60 ∧ Q (.int (twos b : Int)) H
theorem ok__twos (T : Top K mg) : FnOk P w K mg base CX0 1 T.f__twos T.fd__twos ["bottom"] (sp__twos K) := by
  refine T.F__twos.ok sc__twos (fun vs H Q E h => ?_) (fun cdv A outer s H vs Q E hr h => ?_)
  · obtain ⟨b, rfl, _⟩ := h
    rfl
  · obtain ⟨b, rfl, h1, h2, q⟩ := h
    refine ⟨_, (pss_one (ps_ret (pe_op op_sub (pe_bits (pe_op op_and (pv 0) (pe_un un_neg (pv 0)))) pe_int))), ?_⟩
    rw [show start N__twos [.int (b : Int)] = [some (.int (b : Int))] from rfl]
    try dsimp only [cxK]
    walk_at "wp"
    rw [twos_bits h1 h2, pow_bits]
    walk_at "wp"
    rw [show (((twos b + 1 : Nat) : Int) - 1) = (twos b : Int) by omega]
    exact q

/-! ### least_row -/
def sp_least_row (K : PySem.W.Frag) : Sp := fun vs H Q _ => ∃ h c : List Nat, vs = [.str (Sg h), .str (Sg c)] ∧ c ≠ [] ∧ h.length ≤ 400 ∧ c.length ≤ 400 ∧ ∀ h' c' v H', LF h' c' → (∀ n : Nat, rz h' c' n = rz h c n) → h'.length ≤ h.length → c'.length ≤ c.length → (∀ x ∈ h', x ∈ h) → (∀ x ∈ c', x ∈ c) → Same H H' → Dp K H' v (rowD h' c') → Q v H'
theorem ok_least_row (T : Top K mg) : FnOk P w K mg base CX0 1 T.f_least_row T.fd_least_row ["head", "cycle"] (sp_least_row K) := by
  refine T.F_least_row.ok sc_least_row (fun vs H Q E h => ?_) (fun cdv A outer s H vs Q E hr h => ?_)
  · obtain ⟨h, c, rfl, _⟩ := h
    rfl
  · obtain ⟨h, c, rfl, hc, hl, cl, q⟩ := h
    refine ⟨_, (pss_cons (ps_set (i := 2) sc_least_row.nd (by rfl) (by first | exact Or.inl rfl | exact Or.inr rfl) (pe_bm PySem.F.plainAttrs_str PySem.F.slot_str_find PySem.F.type_str_find mt_find3D (pe_op op_addS (pv 1) (pv 1)) (pa_cons (pv 1) (pa_cons pe_int pa_nil))))
      (pss_cons (ps_set (i := 3) sc_least_row.nd (by rfl) (by first | exact Or.inl rfl | exact Or.inr rfl) (pe_callB (cl_len (K := K)) (by rfl) T.z_len (by decide +kernel) (pa_cons (pv 0) pa_nil)))
      (pss_cons (ps_while PassesOwn.never (PW.pt (pw_and (pt_cmpR op_gt (pv 3) pe_int (nomark _)) (pw_and1 (pt_cmpR op_eq (pe_ix ix_str (pv 0) (pe_op op_sub (pv 3) pe_int) (fun _ _ => rfl)) (pe_ix ix_str (pv 1) (pe_op op_modD (pe_op op_sub (pe_op op_sub (pv 3) pe_int) (pe_callB (cl_len (K := K)) (by rfl) T.z_len (by decide +kernel) (pa_cons (pv 0) pa_nil))) (pv 2)) (fun _ _ => rfl)) (nomark _))))) (pss_one (ps_aug (i := 3) sc_least_row.nd (by rfl) (by first | exact Or.inl rfl | exact Or.inr rfl) pe_int ip_sub)))
      (pss_cons (ps_set (i := 4) sc_least_row.nd (by rfl) (by first | exact Or.inl rfl | exact Or.inr rfl) (pe_op op_modD (pe_op op_sub (pv 3) (pe_callB (cl_len (K := K)) (by rfl) T.z_len (by decide +kernel) (pa_cons (pv 0) pa_nil))) (pv 2)))
      (pss_one (ps_ret (pe_tup (pa_cons (pe_slice sl_str (pv 0) po_none (po_some (pv 3))) (pa_cons (pe_op op_addS (pe_slice sl_str (pv 1) (po_some (pv 4)) (po_some (pv 2))) (pe_slice sl_str (pv 1) po_none (po_some (pv 4)))) pa_nil))))))))), ?_⟩
    rw [show start N_least_row [.str (Sg h), .str (Sg c)] = [some (.str (Sg h)), some (.str (Sg c)), none, none, none] from rfl]
    try dsimp only [cxK]
    obtain ⟨p, hp⟩ := minP_exists c hc
    have hpl := hp.le hc
    have hp0 := hp.1
    walk_at "wt"
    rw [find_again hc hp]
    refine whl_by (fun mm σ' H' => ∃ k : Nat, σ' = [some (.str (Sg h)), some (.str (Sg c)), some (.int (p : Int)), some (.int (k : Int)), none] ∧ H = H' ∧ k = mm ∧ k ≤ h.length ∧ ∀ j : Nat, k ≤ j → ∀ x, h[j]? = some x → x = cz c ((j : Int) - h.length)) h.length ⟨h.length, rfl, rfl, rfl, Nat.le_refl _, fun j hj x hx => by have := (List.getElem?_eq_some_iff.mp hx).1; omega⟩ ?_
    rintro mm σ' H' ⟨k, rfl, rfl, rfl, hk, hh⟩
    have fin : (k = 0 ∨ ∀ x, h[k - 1]? = some x → x ≠ cz c ((k : Int) - 1 - h.length)) → ∀ v H', Same H H' → Dp K H' v (rowD (h.take k) ((c.take p).drop (((k : Int) - h.length) % p).toNat ++ c.take (((k : Int) - h.length) % p).toNat)) → Q v H' := by
      intro hlast v H' e d
      have r0 := Int.emod_nonneg ((k : Int) - h.length) (b := (p : Int)) (by omega)
      have r1 := Int.emod_lt_of_pos ((k : Int) - h.length) (b := (p : Int)) (by omega)
      have hr := rot_cz (s := (((k : Int) - h.length) % p).toNat) hp.2.1 (by omega) hpl
      have hr2 : ∀ z, cz ((c.take p).drop (((k : Int) - h.length) % p).toNat ++ c.take (((k : Int) - h.length) % p).toNat) z = cz c (z + (((k : Int) - h.length) % (p : Int))) := by
        intro z
        rw [hr.2]
        congr 1
        omega
      refine q _ _ v H' ⟨?_, ?_, ?_⟩ (cut_row hk hp.2.1 hr2 hh) (by rw [List.length_take]; omega) (by rw [hr.1]; exact hpl) (fun x hx => List.mem_of_mem_take hx) (fun x hx => ?_) e d
      · intro z
        rw [z] at hr
        simp at hr
        omega
      · rw [hr.1]
        exact minP_shift hr2 hp
      · intro ne
        have hk0 : k ≠ 0 := fun z => by subst z; simp at ne
        rcases hlast with z | hlast
        · exact absurd z hk0
        · have hkl : k - 1 < h.length := by omega
          have e1 : (h.take k).getLast ne = h[k - 1] := by
            rw [List.getLast_eq_getElem, List.getElem_take]
            congr 1
            rw [List.length_take]
            omega
          rw [e1, hr2]
          have e2 := hlast _ (List.getElem?_eq_getElem hkl)
          have e3 := hp.2.1.mulz (((k : Int) - h.length) / p) (-1 + (((k : Int) - h.length) % (p : Int)))
          rw [← e3]
          have e4 := Int.emod_add_mul_ediv ((k : Int) - h.length) p
          rw [show -1 + ((k : Int) - h.length) % (p : Int) + (p : Int) * (((k : Int) - h.length) / p) = (k : Int) - 1 - h.length by omega]
          exact e2
      · rcases List.mem_append.mp hx with hx | hx
        · exact List.mem_of_mem_take (List.mem_of_mem_drop hx)
        · exact List.mem_of_mem_take hx
    have after : (k = 0 ∨ ∀ x, h[k - 1]? = some x → x ≠ cz c ((k : Int) - 1 - h.length)) → tSeq (tAsg (tOp rMod (tOp (rI0 fun i j => V.int (i - j)) (tVar 3) (tCB (rLen K) (tCons (tVar 0) tNil))) (tVar 2)) (gName 4))
        (tRet (tTup (tCons (tSl rSlS (tVar 0) tNoPart (tPart (tVar 3))) (tCons (tOp rAddStr (tSl rSlS (tVar 1) (tPart (tVar 4)) (tPart (tVar 2))) (tSl rSlS (tVar 1) tNoPart (tPart (tVar 4)))) tNil))))
        { nx := fun x H' => Q V.non H', rt := Q } [some (.str (Sg h)), some (.str (Sg c)), some (.int (p : Int)), some (.int (k : Int)), none] H := by
      intro hlast
      have r0 := Int.emod_nonneg ((k : Int) - h.length) (b := (p : Int)) (by omega)
      have r1 := Int.emod_lt_of_pos ((k : Int) - h.length) (b := (p : Int)) (by omega)
      walk_at "wi"
      rw [cutD_both _ r0 (by omega), cutD_to _ r0, Int.toNat_natCast]
      refine w_addSg (by simp only [List.length_drop, List.length_take]; omega) ?_
      walk_at "wi"
      rename_i t1 H1 n1 e1 d1
      rw [cutD_to _ (Int.natCast_nonneg k), Int.toNat_natCast] at d1
      exact fin hlast _ _ e1 d1
    walk_at "wi"
    refine w_iteD (fun hk0 => ?_) (fun hk0 => ?_)
    · have hi := cz_ix hp.2.1 hp0 hpl ((k : Int) - 1 - h.length)
      walk_at "wi"
      refine w_ixSg (by omega) (by omega) (by omega) fun x hx => ?_
      walk_at "wi"
      refine w_ixSg (by omega) (Int.emod_nonneg _ (by omega)) (by have := Int.emod_lt_of_pos ((k : Int) - 1 - h.length) (b := (p : Int)) (by omega); omega) fun x2 hx2 => ?_
      rw [hi] at hx2
      cases hx2
      have hx' : h[k - 1]? = some x := by
        rw [show ((k : Int) - 1).toNat = k - 1 by omega] at hx
        exact hx
      refine w_eqSg (fun e => ?_) (fun e => ?_)
      · walk_at "wi"
        refine w_aug rfl ?_
        walk_at "wi"
        refine ⟨_, _, rfl, rfl, ?_⟩
        refine ⟨k - 1, by omega, k - 1, ?_, rfl, rfl, by omega, fun j hj y hy => ?_⟩
        · rw [show ((k - 1 : Nat) : Int) = (k : Int) - 1 by omega]
          rfl
        · by_cases hjk : j = k - 1
          · subst hjk
            rw [hx'] at hy
            cases hy
            have := (List.cons.inj e).1
            rw [this]
            congr 1
            omega
          · exact hh j (by omega) y hy
      · (repeat walk_at "e")
        refine after (.inr fun y hy => ?_)
        rw [hx'] at hy
        cases hy
        exact fun z => e (by rw [z])
    · (repeat walk_at "e")
      exact after (.inl (by omega))

/-! ### next_unlike -/
def sp_next_unlike (K : PySem.W.Frag) : Sp := fun vs H Q _ => ∃ (l : List Nat) (m : Int), vs = [.str (Sg l), .int m] ∧ l ≠ [] ∧ l.length ≤ 1000 ∧ 1 ≤ m ∧ m ≤ 100000 ∧ ∀ r, Un l m r → Q (ov r) H
theorem ok_next_unlike (T : Top K mg) : FnOk P w K mg base CX0 1 T.f_next_unlike T.fd_next_unlike ["marks", "m"] (sp_next_unlike K) := by
  refine T.F_next_unlike.ok sc_next_unlike (fun vs H Q E h => ?_) (fun cdv A outer s H vs Q E hr h => ?_)
  · obtain ⟨l, m, rfl, _⟩ := h
    rfl
  · obtain ⟨l, m, rfl, hl, hz, hm0, hm1, q⟩ := h
    refine ⟨_, (pss_cons (ps_set (i := 2) sc_next_unlike.nd (by rfl) (by first | exact Or.inl rfl | exact Or.inr rfl) (pe_callB (cl_len (K := K)) (by rfl) T.z_len (by decide +kernel) (pa_cons (pv 0) pa_nil)))
      (pss_cons (ps_for PassesOwn.never (by rfl) (pi_range2 (by rfl) T.z_range (pa_cons (pe_op op_add (pv 1) pe_int) (pa_cons (pe_op op_add (pe_op op_add (pv 1) (pv 2)) pe_int) pa_nil))) (pg_name (i := 3) sc_next_unlike.nd (by rfl) (by first | exact Or.inl rfl | exact Or.inr rfl)) (pss_one (ps_if (pt_cmpR op_ne (pe_ix ix_str (pv 0) (pe_op op_modD (pe_op op_sub (pv 3) pe_int) (pv 2)) (fun _ _ => rfl)) (pe_ix ix_str (pv 0) (pe_op op_modD (pe_op op_sub (pe_op op_sub (pv 3) (pv 1)) pe_int) (pv 2)) (fun _ _ => rfl)) (nomark _)) (pss_one (ps_ret (pv 3))) pss_nil)))
      (pss_one (ps_ret pe_non)))), ?_⟩
    rw [show start N_next_unlike [.str (Sg l), .int m] = [some (.str (Sg l)), some (.int m), none, none] from rfl]
    try dsimp only [cxK]
    have hp : 0 < l.length := List.length_pos_iff.mpr hl
    walk_at "w"
    refine forR2_by (fun i σ' H' => ∃ y, σ' = [some (.str (Sg l)), some (.int m), some (.int (l.length : Int)), y] ∧ H = H' ∧ ∀ j, m < j → j ≤ m + i → mk l j = mk l (j - m)) (by omega) ⟨none, rfl, rfl, fun j h1 h2 => by omega⟩ ?_ ?_
    · rintro i σ' H' hi ⟨y, rfl, rfl, hj⟩
      walk_at "w"
      refine w_ixSg (by omega) (Int.emod_nonneg _ (by omega)) (Int.emod_lt_of_pos _ (by omega)) fun c hc => ?_
      walk_at "w"
      refine w_ixSg (by omega) (Int.emod_nonneg _ (by omega)) (Int.emod_lt_of_pos _ (by omega)) fun c2 hc2 => ?_
      have e1 := mk_at hc
      have e2 := mk_at hc2
      refine w_neSg (fun e => ?_) (fun e => ?_)
      · walk_at "w"
        refine ⟨_, rfl, rfl, fun j h1 h2 => ?_⟩
        by_cases hj2 : j ≤ m + i
        · exact hj j h1 hj2
        · have ej : j = m + 1 + i := by omega
          subst ej
          rw [← e1, ← e2]
          exact List.cons.inj e |>.1
      · walk_at "w"
        refine q (some (m + 1 + i)) ⟨by omega, ?_, fun j h1 h2 => hj j h1 (by omega)⟩
        rw [← e1, ← e2]
        exact fun z => e (by rw [z])
    · rintro σ' H' ⟨y, rfl, rfl, hj⟩
      walk_at "w"
      exact q none (scan_none hl fun j h1 h2 => hj j h1 (by omega))

/-! ### _law_begun -/
def sp__law_begun (K : PySem.W.Frag) : Sp := fun vs H Q _ => ∃ (a : Addr) (ns : List Int) (k : Int), vs = [.ref a, .int k] ∧ SqL K H a (ns.map V.int) ∧ ns.length ≤ 63 ∧ (∀ n ∈ ns, Big n) ∧ 0 ≤ k ∧ k < 1000 ∧
  ∀ (m c : Addr) H', Same H H' → H m = none → Mo H' m c 0 → Q (.ref m) H'
theorem ok__law_begun (T : Top K mg) : FnOk P w K mg base CX0 1 T.f__law_begun T.fd__law_begun ["script", "k"] (sp__law_begun K) := by
  refine T.F__law_begun.ok sc__law_begun (fun vs H Q E h => ?_) (fun cdv A outer s H vs Q E hr h => ?_)
  · obtain ⟨a, ns, k, rfl, _⟩ := h
    rfl
  · obtain ⟨a, ns, k, rfl, hS, hl, hB, hk0, hk1, q⟩ := h
    refine ⟨_, (pss_cons (ps_set (i := 2) sc__law_begun.nd (by rfl) (by first | exact Or.inl rfl | exact Or.inr rfl) (pe_op op_catL (pe_slice (sl_listK (K := K)) (pv 0) (po_some (pv 1)) po_none) (pe_slice (sl_listK (K := K)) (pv 0) po_none (po_some (pv 1)))))
      (pss_cons (ps_setLc (i := 3) (own := [("cell", 5)]) (g := gName 5) (by rfl) sc__law_begun.nd (by rfl) (by rfl) (sw_true rfl rfl rfl (by decide +kernel)) (pi_listK (K := K) (pv 2)) (blkOk_by (own := [("cell", 5)]) (N := N__law_begun) (sc := defScope s__law_begun) (by decide +kernel)) (fun _ _ _ _ _ => (pg_name (i := 5) sc__law_begun.nd (by rfl) (by first | exact Or.inl rfl | exact Or.inr rfl))) (fun _ _ _ _ _ => (pts_one (pt_cmpR op_ge (pv 5) (pe_op op_pow pe_int pe_int) (nomark _)))) (fun _ _ _ _ _ => (pv 5)))
      (pss_cons (ps_set (i := 4) sc__law_begun.nd (by rfl) (by first | exact Or.inl rfl | exact Or.inr rfl) (pe_op op_add pe_int (pv 1)))
      (pss_cons (ps_for PassesOwn.never (by rfl) (pi_listK (K := K) (pv 2)) (pg_name (i := 5) sc__law_begun.nd (by rfl) (by first | exact Or.inl rfl | exact Or.inr rfl)) (pss_one (ps_set (i := 4) sc__law_begun.nd (by rfl) (by first | exact Or.inl rfl | exact Or.inr rfl) (pe_op op_modD (pe_callTy cl_int (by rfl) T.z_int (by decide +kernel) (pa_cons (pe_op op_add (pe_op op_mulX (pv 4) pe_int) (pv 5)) pa_nil)) pe_int))))
      (pss_one (ps_ret (pe_disp (pps_cons pe_str (pe_ifExp (pt_cmpR (op_neK (K := K) hr.units) (pv 3) (pe_lst pa_nil) (nomark _)) (pe_ix (ix_listK (K := K)) (pv 3) pe_int (fun _ _ => rfl)) pe_int) (pps_cons pe_str (pv 4) (pps_cons pe_str (pe_op op_catL (pv 2) (pe_lst (pa_cons (pe_op op_add (pe_op op_mulX pe_int (pv 1)) pe_int) pa_nil))) (pps_cons pe_str pe_int pps_nil)))) (by rfl) (by rfl) (fun z => by cases z) (by decide)))))))), ?_⟩
    rw [show start N__law_begun [.ref a, .int k] = [some (.ref a), some (.int k), none, none, none, none] from rfl]
    try dsimp only [cxK]
    have hz : sizeLine = 16777216 := sizeLine_eq
    walk_at "w"
    refine w_slV hS fun p1 H1 n1 e1 f1 => ?_
    walk_at "w"
    refine w_slV (e1.seq hS) fun p2 H2 n2 e2 f2 => ?_
    rw [cutD_from _ hk0] at f1
    rw [cutD_to _ hk0] at f2
    refine w_catL (e2 _ _ f1) f2 (by simp only [List.length_drop, List.length_take, List.length_map]; omega) fun p3 H3 n3 e3 f3 => ?_
    rw [← List.map_drop, ← List.map_take, ← List.map_append] at f3
    generalize hcs : ns.drop k.toNat ++ ns.take k.toNat = cs at f3
    have hcB : ∀ n ∈ cs, Big n := fun n hn => by
      rw [← hcs] at hn
      rcases List.mem_append.mp hn with hn | hn
      · exact hB n (List.mem_of_mem_drop hn)
      · exact hB n (List.mem_of_mem_take hn)
    have hcl : cs.length ≤ 63 := by rw [← hcs]; simp only [List.length_append, List.length_drop, List.length_take]; omega
    have d3 : Dp K H3 (.ref p3) (.list (cs.map PyData.int)) := .lst (.of f3) (dpa_ints cs)
    have s3 : Same H H3 := (e1.trans e2).trans e3
    walk_at "w"
    refine lc_list_by (JP H3 fun i es => ∃ gs : List Int, es = gs.map PyData.int ∧ gs.length ≤ i) (JP.ok ⟨[], rfl, by simp⟩) d3 (by simp; omega) (fun _ => rfl) ?_ ?_
    · intro i d y H' es hd hy hJ Yes No hyes hno
      obtain ⟨hs, gs, rfl, hgl⟩ := hJ
      rw [List.getElem?_map] at hd
      obtain ⟨z, hz1, rfl⟩ := Option.map_eq_some_iff.mp hd
      cases hy
      walk_at "w"
      refine w_rI ⟨by decide, by decide, by decide⟩ ?_
      walk_at "w"
      refine w_ite (fun hb => ?_) (fun hb => ?_)
      · walk_at "w"
        exact hyes _ H' (.int z) (Keep.refl _) rfl (.int z) ⟨hs, gs ++ [z], by simp, by simp; omega⟩
      · exact hno H' (Keep.refl _) ⟨hs, gs, rfl, by omega⟩
    · intro p4 H4 vs4 es n4 k4 f4 d4 hJ
      obtain ⟨s4, gs, rfl, hgl⟩ := hJ
      rw [List.length_map] at hgl
      walk_at "w"
      refine forL_by (fun i σ' H' => ∃ (sd : Int) (y5 : Option V), σ' = [some (.ref a), some (.int k), some (.ref p3), some (.ref p4), some (.int sd), y5] ∧ H4 = H' ∧ 0 ≤ sd ∧ sd < 2147483647) (dp_same s4 d3) ⟨71 + k, none, rfl, rfl, by omega, by omega⟩ ?_ ?_ ?_
      · rintro i σ' H' _ ⟨sd, y5, rfl, rfl, _⟩
        exact Keep.refl _
      · rintro i d y σ' H' hd hy ⟨sd, y5, rfl, rfl, hsd0, hsd1⟩
        rw [List.getElem?_map] at hd
        obtain ⟨z, hz1, rfl⟩ := Option.map_eq_some_iff.mp hd
        cases hy
        walk_at "w0"
        refine w_rModB (by decide) fun r h0 h1 => ?_
        walk_at "w0"
        exact ⟨r, _, rfl, rfl, h0, h1⟩
      · rintro σ' H' ⟨sd, y5, rfl, rfl, hsd0, hsd1⟩
        walk_at "w"
        refine w_disp fun pd Hd nd ed fd => ?_
        walk_at "w"
        refine w_newL (K := K) (by decide) .nil fun p6 H6 n6 e6 f6 d6 => ?_
        have d4' : Dp K H6 (.ref p4) (.list (gs.map PyData.int)) := dp_same e6 (dp_same ed d4)
        have rest : ∀ (lv : Int) (H7 : Hp), Same H6 H7 → rNewL [V.int (53 * k + 11)] H7 fun y H2 => rCat (V.ref p3) y H2 fun y H2 =>
            tPairs [(tC (V.str (Str.ofString "spot")), tC (V.int 0))] [some (V.ref a), some (V.int k), some (V.ref p3), some (V.ref p4), some (V.int sd), y5] H2 fun ps H3 =>
              rDisp pd ((V.str (Str.ofString "left"), V.int lv) :: (V.str (Str.ofString "seed"), V.int sd) :: (V.str (Str.ofString "cells"), y) :: ps) H3 Q := by
          intro lv H7 e7
          refine w_newL (K := K) (len_ok (by simp)) (dpa_one (.int _)) fun p8 H8 n8 e8 f8 d8 => ?_
          refine w_catL (e8 _ _ (e7 _ _ (e6 _ _ (ed _ _ (s4 _ _ f3))))) f8 (by simp; omega) fun p9 H9 n9 e9 f9 => ?_
          walk_at "w"
          have fd9 : H9 pd = some (.dK []) := e9 _ _ (e8 _ _ (e7 _ _ (e6 _ _ fd)))
          refine ⟨fd9, [(.inr "left", .int lv), (.inr "seed", .int sd), (.inr "cells", .ref p9), (.inr "spot", .int 0)], rfl, by simp, ?_⟩
          have hm : mergeK [] [((.inr "left" : Key), V.int lv), (.inr "seed", .int sd), (.inr "cells", .ref p9), (.inr "spot", .int 0)] = moKvs lv sd p9 0 := by
            simp [mergeK, putK, moKvs, k_left_seed, k_left_cells, k_left_spot, k_seed_cells, k_seed_spot, k_cells_spot]
          rw [hm]
          have sall : Same H4 H9 := (((ed.trans e6).trans e7).trans e8).trans e9
          refine q pd p9 _ (same_mut ((s3.trans s4).trans sall) ((s3.trans s4).free nd)) ((s3.trans s4).free nd) ⟨lv, sd, 0, cs ++ [53 * k + 11], upd_same, ?_, by simp, by simp; omega, ?_, hsd0, hsd1, by omega, by omega⟩
          · rw [upd_ne (ne_of f9 fd9 (fun z => nomatch z)), f9]
            simp
          · intro n hn
            rcases List.mem_append.mp hn with hn | hn
            · exact hcB n hn
            · simp at hn; subst hn; exact Big.small (by omega)
        refine w_neP d4' d6 (pln_ints _) rfl (fun he => ?_) (fun he => ?_)
        · walk_at "w"
          exact rest 0 H6 (Same.refl _)
        · have hg0 : 0 < gs.length := by
            cases gs with
            | nil => exact absurd rfl he
            | cons g gs => simp
          walk_at "w"
          refine w_ixLI d4' (by decide) (by omega) fun z _ => ?_
          walk_at "w"
          exact rest z H6 (Same.refl _)

/-! ### _law_draw -/
def sp__law_draw (K : PySem.W.Frag) : Sp := fun vs H Q _ => ∃ (m c : Addr) (below : Int) (b : Nat), vs = [.ref m, .int below] ∧ 0 < below ∧ below < 2 ^ 60 ∧ Mo H m c b ∧ b < 2 ^ 50 ∧
  ∀ (r : Int) H', 0 ≤ r → r < below → Keep H H' → Mo H' m c (b + 1) → Q (.int r) H'
theorem ok__law_draw (T : Top K mg) : FnOk P w K mg base CX0 1 T.f__law_draw T.fd__law_draw ["m", "below"] (sp__law_draw K) := by
  refine T.F__law_draw.ok sc__law_draw (fun vs H Q E h => ?_) (fun cdv A outer s H vs Q E hr h => ?_)
  · obtain ⟨m, c, below, b, rfl, _⟩ := h
    rfl
  · obtain ⟨m, c, below, b, rfl, hb0, hb1, hm, hb, q⟩ := h
    refine ⟨_, (pss_cons (ps_if (pt_cmpR op_gt (pe_dget (hu_of hr) (pv 0) pe_str (fun _ _ => rfl)) pe_int (nomark _)) (pss_cons (ps_set (i := 2) sc__law_draw.nd (by rfl) (by first | exact Or.inl rfl | exact Or.inr rfl) (pe_op op_modD (pe_callTy cl_int (by rfl) T.z_int (by decide +kernel) (pa_cons (pe_dget (hu_of hr) (pv 0) pe_str (fun _ _ => rfl)) pa_nil)) (pv 1)))
      (pss_cons (ps_dput (hu_of hr) (pv 0) pe_str (pe_op op_fdivW (pe_dget (hu_of hr) (pv 0) pe_str (fun _ _ => rfl)) (pv 1)) rfl)
      (pss_one (ps_ret (pv 2))))) pss_nil)
      (pss_cons (ps_set (i := 3) sc__law_draw.nd (by rfl) (by first | exact Or.inl rfl | exact Or.inr rfl) (pe_dget (hu_of hr) (pv 0) pe_str (fun _ _ => rfl)))
      (pss_cons (ps_dput (hu_of hr) (pv 0) pe_str (pe_op op_add (pv 3) pe_int) rfl)
      (pss_cons (ps_par (i := 4) (j := 5) (by rfl) sc__law_draw.nd (by rfl) (by rfl) (by decide) (by rfl) (by rfl) (pa_cons (pe_dget (hu_of hr) (pv 0) pe_str (fun _ _ => rfl)) (pa_cons (pe_op op_add (pe_dget (hu_of hr) (pv 0) pe_str (fun _ _ => rfl)) (pe_op op_mulX (pe_op op_mulX pe_int (pv 3)) (pv 3))) pa_nil)) (by rfl))
      (pss_cons (ps_set (i := 6) sc__law_draw.nd (by rfl) (by first | exact Or.inl rfl | exact Or.inr rfl) (pe_ix (ix_listK (K := K)) (pv 4) (pe_op op_modD (pe_callTy cl_int (by rfl) T.z_int (by decide +kernel) (pa_cons (pv 3) pa_nil)) (pe_callB (cl_len (K := K)) (by rfl) T.z_len (by decide +kernel) (pa_cons (pv 4) pa_nil))) (fun _ _ => rfl)))
      (pss_cons (ps_set (i := 7) sc__law_draw.nd (by rfl) (by first | exact Or.inl rfl | exact Or.inr rfl) (pe_op op_modD (pe_callTy cl_int (by rfl) T.z_int (by decide +kernel) (pa_cons (pe_op op_add (pe_op op_mulX (pv 6) (pe_op op_add (pe_op op_mulX pe_int (pv 3)) pe_int)) (pv 5)) pa_nil)) pe_int))
      (pss_cons (ps_set (i := 7) sc__law_draw.nd (by rfl) (by first | exact Or.inl rfl | exact Or.inr rfl) (pe_op op_modD (pe_callTy cl_int (by rfl) T.z_int (by decide +kernel) (pa_cons (pe_op op_add (pe_op op_add (pe_op op_mulX (pv 7) (pv 7)) (pe_op op_mulX pe_int (pv 3))) (pe_dget (hu_of hr) (pv 0) pe_str (fun _ _ => rfl))) pa_nil)) pe_int))
      (pss_one (ps_ret (pe_op op_modD (pe_op op_fdivW (pe_op op_modD (pe_callTy cl_int (by rfl) T.z_int (by decide +kernel) (pa_cons (pe_op op_add (pe_op op_mulX (pv 7) pe_int) (pv 3)) pa_nil)) pe_int) pe_int) (pv 1))))))))))), ?_⟩
    rw [show start N__law_draw [.ref m, .int below] = [some (.ref m), some (.int below), none, none, none, none, none, none] from rfl]
    obtain ⟨left, seed, spot, ns, m1, m2, m3, m4, m5, m6, m7, m8, m9⟩ := hm
    try dsimp only [cxK]
    walk_at "w"
    refine w_iteD (fun hl => ?_) (fun hl => ?_)
    · walk_at "w"
      refine w_dpS m1 mo_put_left mo_len fun H1 e1 m1' => ?_
      walk_at "w"
      exact q _ H1 (Int.emod_nonneg _ (by omega)) (Int.emod_lt_of_pos _ hb0) e1 ⟨_, seed, spot, ns, m1', e1.l m2, m3, m4, m5, m6, m7, m8, by omega⟩
    · walk_at "w"
      refine w_dpS m1 mo_put_spot mo_len fun H1 e1 m1' => ?_
      have m2' := e1.l m2
      have dC : Dp K H1 (.ref c) (.list (ns.map PyData.int)) := .lst (.of m2') (dpa_ints ns)
      walk_at "w"
      rw [List.length_map]
      refine w_ixLI dC (Int.emod_nonneg _ (by omega)) (Int.emod_lt_of_pos _ (by omega)) fun z hz => ?_
      have hz2 := m5 z (List.mem_of_getElem? hz)
      walk_at "w"
      refine w_rI (hz2.mul (by omega)) ?_
      walk_at "w0"
      refine w_rModB (by decide) fun r1 h1 h1' => ?_
      walk_at "w0"
      refine w_rModB (by decide) fun r2 h2 h2' => ?_
      walk_at "w0"
      refine w_rModB (by decide) fun r3 h3 h3' => ?_
      walk_at "w0"
      refine w_rModB hb0 fun r4 h4 h4' => ?_
      walk_at "w0"
      exact q r4 H1 h4 h4' e1 ⟨left, seed, spot + 1, ns, m1', m2', m3, m4, m5, m6, m7, by omega, by omega⟩

/-! ### _law_twos -/
def sp__law_twos (K : PySem.W.Frag) : Sp := fun vs H Q _ => ∃ n : Nat, vs = [.int (n : Int)] ∧ n ≤ 200 ∧ Q (.int ((2 ^ n : Nat) : Int)) H
theorem ok__law_twos (T : Top K mg) : FnOk P w K mg base CX0 1 T.f__law_twos T.fd__law_twos ["count"] (sp__law_twos K) := by
  refine T.F__law_twos.ok sc__law_twos (fun vs H Q E h => ?_) (fun cdv A outer s H vs Q E hr h => ?_)
  · obtain ⟨n, rfl, _⟩ := h
    rfl
  · obtain ⟨n, rfl, hn, q⟩ := h
    refine ⟨_, (pss_cons (ps_set (i := 1) sc__law_twos.nd (by rfl) (by first | exact Or.inl rfl | exact Or.inr rfl) pe_int)
      (pss_cons (ps_for PassesOwn.never (by rfl) (pi_range1 (by rfl) T.z_range (pa_cons (pv 0) pa_nil)) (pg_name (i := 2) sc__law_twos.nd (by rfl) (by first | exact Or.inl rfl | exact Or.inr rfl)) (pss_one (ps_set (i := 1) sc__law_twos.nd (by rfl) (by first | exact Or.inl rfl | exact Or.inr rfl) (pe_op op_mulX pe_int (pv 1)))))
      (pss_one (ps_ret (pv 1))))), ?_⟩
    rw [show start N__law_twos [.int (n : Int)] = [some (.int (n : Int)), none, none] from rfl]
    try dsimp only [cxK]
    walk_at "wp"
    refine forR1_by (fun i σ' H' => ∃ (y : Option V) (P : Nat), P = 2 ^ i ∧ σ' = [some (.int (n : Int)), some (.int (P : Int)), y] ∧ H = H') (by omega) ⟨none, 1, rfl, rfl, rfl⟩ ?_ ?_
    · rintro i σ' H' hi ⟨y, P, hP, rfl, rfl⟩
      have hp : P ≤ 2 ^ 200 := by rw [hP]; exact Nat.pow_le_pow_right (by decide) (by omega)
      walk_at "wp"
      refine ⟨_, 2 * P, ?_, rfl, rfl⟩
      rw [hP, Nat.pow_succ']
    · rintro σ' H' ⟨y, P, rfl, rfl, rfl⟩
      walk_at "wp"
      rw [Int.toNat_natCast]
      exact q

/-! ### _law_shared -/
def sp__law_shared (K : PySem.W.Frag) : Sp := fun vs H Q _ => ∃ a b : Nat, vs = [.int (a : Int), .int (b : Int)] ∧ b < 2 ^ 190 ∧ Q (.int (Nat.gcd a b : Int)) H
theorem ok__law_shared (T : Top K mg) : FnOk P w K mg base CX0 1 T.f__law_shared T.fd__law_shared ["a", "b"] (sp__law_shared K) := by
  refine T.F__law_shared.ok sc__law_shared (fun vs H Q E h => ?_) (fun cdv A outer s H vs Q E hr h => ?_)
  · obtain ⟨a, b, rfl, _⟩ := h
    rfl
  · obtain ⟨a, b, rfl, hb, q⟩ := h
    refine ⟨_, (pss_cons (ps_for PassesOwn.never (by rfl) (pi_range1 (by rfl) T.z_range (pa_cons pe_int pa_nil)) (pg_name (i := 2) sc__law_shared.nd (by rfl) (by first | exact Or.inl rfl | exact Or.inr rfl)) (pss_cons (ps_if (pt_cmpR op_eq (pv 1) pe_int (nomark _)) (pss_one (ps_ret (pv 0))) pss_nil)
      (pss_one (ps_par (i := 0) (j := 1) (by rfl) sc__law_shared.nd (by rfl) (by rfl) (by decide) (by rfl) (by rfl) (pa_cons (pv 1) (pa_cons (pe_op op_modD (pe_callTy cl_int (by rfl) T.z_int (by decide +kernel) (pa_cons (pv 0) pa_nil)) (pv 1)) pa_nil)) (by rfl)))))
      (pss_one (ps_ret (pv 0)))), ?_⟩
    rw [show start N__law_shared [.int (a : Int), .int (b : Int)] = [some (.int (a : Int)), some (.int (b : Int)), none] from rfl]
    try dsimp only [cxK]
    walk_at "wp"
    refine forR1_by (fun i σ' H' => ∃ (y : Option V) (a' b' : Nat), σ' = [some (.int (a' : Int)), some (.int (b' : Int)), y] ∧ H = H' ∧ Eu a b i a' b') (by omega) ⟨none, a, b, rfl, rfl, Eu.start a b⟩ ?_ ?_
    · rintro i σ' H' hi ⟨y, a', b', rfl, rfl, he⟩
      walk_at "wp"
      refine w_iteD (fun h => ?_) (fun h => ?_)
      · walk_at "wp"
        have hb0 : b' = 0 := by omega
        subst hb0
        rw [he.zero]
        exact q
      · walk_at "wp"
        exact ⟨_, b', a' % b', rfl, rfl, he.step hb (by omega)⟩
    · rintro σ' H' ⟨y, a', b', rfl, rfl, he⟩
      walk_at "wp"
      rw [he.done (by decide)]
      exact q

/-! ### _law_double -/
def sp__law_double (K : PySem.W.Frag) : Sp := fun vs H Q _ => ∃ v x, vs = [v] ∧ Dp K H v (pd x) ∧ x.1 < x.2 ∧ x.2 < 2 ^ 60 ∧ ∀ v H', Same H H' → Dp K H' v (pd (dblN x)) → Q v H'
theorem ok__law_double (T : Top K mg) : FnOk P w K mg base CX0 1 T.f__law_double T.fd__law_double ["x"] (sp__law_double K) := by
  refine T.F__law_double.ok sc__law_double (fun vs H Q E h => ?_) (fun cdv A outer s H vs Q E hr h => ?_)
  · obtain ⟨v, x, rfl, _⟩ := h
    rfl
  · obtain ⟨v, x, rfl, hv, hx, hx2, q⟩ := h
    refine ⟨_, (pss_cons (ps_if (pt_cmpR op_eq (pe_op op_modD (pe_callTy cl_int (by rfl) T.z_int (by decide +kernel) (pa_cons (pe_ix (ix_tupK (K := K)) (pv 0) pe_int (fun _ _ => rfl)) pa_nil)) pe_int) pe_int (nomark _)) (pss_one (ps_ret (pe_tup (pa_cons (pe_op op_modD (pe_callTy cl_int (by rfl) T.z_int (by decide +kernel) (pa_cons (pe_ix (ix_tupK (K := K)) (pv 0) pe_int (fun _ _ => rfl)) pa_nil)) (pe_op op_fdivW (pe_ix (ix_tupK (K := K)) (pv 0) pe_int (fun _ _ => rfl)) pe_int)) (pa_cons (pe_op op_fdivW (pe_ix (ix_tupK (K := K)) (pv 0) pe_int (fun _ _ => rfl)) pe_int) pa_nil))))) pss_nil)
      (pss_one (ps_ret (pe_tup (pa_cons (pe_op op_modD (pe_callTy cl_int (by rfl) T.z_int (by decide +kernel) (pa_cons (pe_op op_mulX pe_int (pe_ix (ix_tupK (K := K)) (pv 0) pe_int (fun _ _ => rfl))) pa_nil)) (pe_ix (ix_tupK (K := K)) (pv 0) pe_int (fun _ _ => rfl))) (pa_cons (pe_ix (ix_tupK (K := K)) (pv 0) pe_int (fun _ _ => rfl)) pa_nil)))))), ?_⟩
    rw [show start N__law_double [v] = [some (v)] from rfl]
    try dsimp only [cxK]
    walk_at "wp"
    refine w_iteD (fun h => ?_) (fun h => ?_)
    · have hh : x.2 % 2 = 0 := by omega
      walk_at "wp"
      refine w_newT (K := K) (len_ok (by simp)) (.cons (.int _) (.cons (.int _) .nil)) fun t H1 n1 e1 d1 => ?_
      refine q _ H1 e1 ?_
      unfold dblN
      rw [if_pos hh]
      exact d1
    · have hh : ¬ x.2 % 2 = 0 := by omega
      walk_at "wp"
      refine w_newT (K := K) (len_ok (by simp)) (.cons (.int _) (.cons (.int _) .nil)) fun t H1 n1 e1 d1 => ?_
      refine q _ H1 e1 ?_
      unfold dblN
      rw [if_neg hh]
      exact d1

/-! ### _law_mirrored -/
def sp__law_mirrored (K : PySem.W.Frag) : Sp := fun vs H Q _ => ∃ v x, vs = [v] ∧ Dp K H v (pd x) ∧ Plc x ∧ ∀ v H', Same H H' → Dp K H' v (pd (mirN x)) → Q v H'
theorem ok__law_mirrored (T : Top K mg) : FnOk P w K mg base CX0 1 T.f__law_mirrored T.fd__law_mirrored ["x"] (sp__law_mirrored K) := by
  refine T.F__law_mirrored.ok sc__law_mirrored (fun vs H Q E h => ?_) (fun cdv A outer s H vs Q E hr h => ?_)
  · obtain ⟨v, x, rfl, _⟩ := h
    rfl
  · obtain ⟨v, x, rfl, hv, hx, q⟩ := h
    refine ⟨_, (pss_one (ps_ret (pe_tup (pa_cons (pe_op op_modD (pe_callTy cl_int (by rfl) T.z_int (by decide +kernel) (pa_cons (pe_op op_sub (pe_ix (ix_tupK (K := K)) (pv 0) pe_int (fun _ _ => rfl)) (pe_ix (ix_tupK (K := K)) (pv 0) pe_int (fun _ _ => rfl))) pa_nil)) (pe_ix (ix_tupK (K := K)) (pv 0) pe_int (fun _ _ => rfl))) (pa_cons (pe_ix (ix_tupK (K := K)) (pv 0) pe_int (fun _ _ => rfl)) pa_nil))))), ?_⟩
    rw [show start N__law_mirrored [v] = [some (v)] from rfl]
    try dsimp only [cxK]
    have hp := hx.pos
    walk_at "wp"
    refine w_newT (K := K) (len_ok (by simp)) (.cons (.int _) (.cons (.int _) .nil)) fun t H1 n1 e1 d1 => ?_
    rw [show ((x.2 : Nat) : Int) - (x.1 : Int) = -(x.1 : Int) + (x.2 : Int) by omega, Int.add_emod_right, mir_int hx.lt] at d1
    exact q _ H1 e1 d1

/-! ### double -/
def sp_double (K : PySem.W.Frag) : Sp := fun vs H Q _ => ∃ v x, vs = [v] ∧ Dp K H v (pd x) ∧ Plc x ∧ ∀ v H', Same H H' → Dp K H' v (pd (dblN x)) → Q v H'
theorem ok_double (T : Top K mg) : FnOk P w K mg base CX0 2 T.f_double T.fd_double ["x"] (sp_double K) := by
  refine T.F_double.ok sc_double (fun vs H Q E h => ?_) (fun cdv A outer s H vs Q E hr h => ?_)
  · obtain ⟨v, x, rfl, _⟩ := h
    rfl
  · obtain ⟨v, x, rfl, hv, hx, q⟩ := h
    refine ⟨_, (pss_cons (ps_asg (pv 0) (pg_tupK (K := K) (n := 2) (by rfl) (pgs_cons (pg_name (i := 1) sc_double.nd (by rfl) (by first | exact Or.inl rfl | exact Or.inr rfl)) (pgs_cons (pg_name (i := 2) sc_double.nd (by rfl) (by first | exact Or.inl rfl | exact Or.inr rfl)) pgs_nil))))
      (pss_one (ps_ret (pe_call (ok_reduced T) (hr.mono (by decide)) (by rfl) T.g_reduced T.F_reduced.kp T.b_reduced .nil pass0 (pa_cons (pe_op op_modD (pe_op op_mulX pe_int (pv 1)) (pv 2)) (pa_cons (pv 2) pa_nil)))))), ?_⟩
    rw [show start N_double [v] = [some (v), none, none] from rfl]
    try dsimp only [cxK]
    have hp := hx.pos
    have hs := hx.small
    have hlt := hx.lt
    walk_at "wp"
    refine ⟨2 * x.1 % x.2, x.2, rfl, hp, by omega, fun v1 H1 e1 d1 => ?_⟩
    rw [← dbl_red hx] at d1
    exact q _ H1 e1 d1

/-! ### way_in -/
def sp_way_in (K : PySem.W.Frag) : Sp := fun vs H Q _ => ∃ v x, vs = [v] ∧ Dp K H v (pd x) ∧ Plc x ∧ Q (.int (wayN x : Int)) H
theorem ok_way_in (T : Top K mg) : FnOk P w K mg base CX0 2 T.f_way_in T.fd_way_in ["x"] (sp_way_in K) := by
  refine T.F_way_in.ok sc_way_in (fun vs H Q E h => ?_) (fun cdv A outer s H vs Q E hr h => ?_)
  · obtain ⟨v, x, rfl, _⟩ := h
    rfl
  · obtain ⟨v, x, rfl, hv, hx, q⟩ := h
    refine ⟨_, (pss_one (ps_ret (pe_call (ok__twos T) (hr.mono (by decide)) (by rfl) T.g__twos T.F__twos.kp T.b__twos .nil pass0 (pa_cons (pe_ix (ix_tupK (K := K)) (pv 0) pe_int (fun _ _ => rfl)) pa_nil)))), ?_⟩
    rw [show start N_way_in [v] = [some (v)] from rfl]
    try dsimp only [cxK]
    have hp := hx.pos
    have hs := hx.small
    walk_at "wp"
    exact ⟨x.2, rfl, hp, by omega, q⟩

/-! ### address -/
def sp_address (K : PySem.W.Frag) : Sp := fun vs H Q _ => ∃ (l : List Nat), vs = [.str (Sg l)] ∧ l ≠ [] ∧ l.length ≤ 1000 ∧ ∀ ns v H', Chn l l.length (some 1) ns → Same H H' → Dp K H' v (.tuple (ns.map PyData.int)) → Q v H'
theorem ok_address (T : Top K mg) : FnOk P w K mg base CX0 2 T.f_address T.fd_address ["marks"] (sp_address K) := by
  refine T.F_address.ok sc_address (fun vs H Q E h => ?_) (fun cdv A outer s H vs Q E hr h => ?_)
  · obtain ⟨l, rfl, _⟩ := h
    rfl
  · obtain ⟨l, rfl, hl, hz, q⟩ := h
    refine ⟨_, (pss_cons (ps_set (i := 1) sc_address.nd (by rfl) (by first | exact Or.inl rfl | exact Or.inr rfl) (pe_lst pa_nil))
      (pss_cons (ps_set (i := 2) sc_address.nd (by rfl) (by first | exact Or.inl rfl | exact Or.inr rfl) pe_int)
      (pss_cons (ps_while PassesOwn.never (PW.pt (pw_and (pt_cmpR op_notN1 (pv 2) pe_non (nomark _)) (pw_and1 (pt_cmpR op_le (pv 2) (pe_callB (cl_len (K := K)) (by rfl) T.z_len (by decide +kernel) (pa_cons (pv 0) pa_nil)) (nomark _))))) (pss_cons (ps_expr (pe_bm PySem.F.plainAttrs_list PySem.F.slot_list_append PySem.F.type_list_append mt_append (pv 1) (pa_cons (pv 2) pa_nil)))
      (pss_one (ps_set (i := 2) sc_address.nd (by rfl) (by first | exact Or.inl rfl | exact Or.inr rfl) (pe_call (ok_next_unlike T) (hr.mono (by decide)) (by rfl) T.g_next_unlike T.F_next_unlike.kp T.b_next_unlike .nil pass0 (pa_cons (pv 0) (pa_cons (pv 2) pa_nil)))))))
      (pss_one (ps_ret (pe_callTy (cl_tup (K := K)) (by rfl) T.z_tuple (by decide +kernel) (pa_cons (pv 1) pa_nil))))))), ?_⟩
    rw [show start N_address [.str (Sg l)] = [some (.str (Sg l)), none, none] from rfl]
    try dsimp only [cxK]
    have hp : 0 < l.length := List.length_pos_iff.mpr hl
    walk_at "w"
    refine w_newL (K := K) (len_ok (by simp)) .nil fun p H1 n1 e1 f1 d1 => ?_
    walk_at "w"
    refine whl_by (fun mm σ' H' => ∃ (pre : List Int) (r : Option Int), σ' = [some (.str (Sg l)), some (.ref p), some (ov r)] ∧ Same H H' ∧ H' p = some (.lst (pre.map V.int)) ∧ (∀ rest, Chn l l.length r rest → Chn l l.length (some 1) (pre ++ rest)) ∧
      (∀ k, r = some k → (pre.length : Int) < k ∧ (mm : Int) = l.length + 1000000 - k) ∧ pre.length ≤ l.length) (l.length + 999999) ⟨[], some 1, rfl, e1, by simpa using f1, fun rest h => h, fun k e => by cases e; simp; omega, by simp⟩ ?_
    rintro mm σ' H' ⟨pre, r, rfl, s1, f2, hc, hk, hpl⟩
    cases r with
    | none =>
      dsimp only [ov]
      walk_at "w"
      have e0 : (!decide (V.non = V.non)) = false := by decide
      rw [e0]
      walk_at "w"
      refine w_tupOf (dp_newL f2 (dpa_ints pre)) fun p3 H3 n3 e3 d3 => ?_
      refine q pre _ H3 ?_ (s1.trans e3) d3
      have := hc [] .no
      simpa using this
    | some k =>
      obtain ⟨hk1, hk2⟩ := hk k rfl
      dsimp only [ov]
      walk_at "w"
      have e0 : (!decide (V.int k = V.non)) = true := by simp
      rw [e0]
      walk_at "w"
      refine w_iteD (fun hle => ?_) (fun hle => ?_)
      · walk_at "w"
        refine w_tyL f2 ?_
        walk_at "w"
        refine w_append f2 (len_lt (by simp; omega)) ?_
        walk_at "w"
        refine ⟨l, k, rfl, hl, hz, by omega, by omega, fun r hu => ?_⟩
        refine ⟨match r with | some k2 => (l.length + 1000000 - k2).toNat | none => 0, ?_, pre ++ [k], r, rfl, same_mut s1 n1, ?_, fun rest h => ?_, ?_, ?_⟩
        · cases r with
          | none => show 0 < mm; omega
          | some k2 =>
            have h1 := hu.1
            have h2 := hu.bound hl
            show (l.length + 1000000 - k2).toNat < mm
            omega
        · rw [upd_same]; simp
        · have := hc (k :: rest) (.go hle hu h)
          simpa using this
        · intro k2 e
          subst e
          have h1 := hu.1
          have h2 := hu.bound hl
          simp only [List.length_append, List.length_singleton]
          constructor
          · omega
          · show (((l.length + 1000000 - k2).toNat : Nat) : Int) = _
            omega
        · simp only [List.length_append, List.length_singleton]; omega
      · walk_at "w"
        refine w_tupOf (dp_newL f2 (dpa_ints pre)) fun p3 H3 n3 e3 d3 => ?_
        refine q pre _ H3 ?_ (s1.trans e3) d3
        have := hc [] (.stop (by omega))
        simpa using this

/-! ### _law_of -/
def sp__law_of (K : PySem.W.Frag) : Sp := fun vs H Q _ => ∃ (m c : Addr) (v : V) (ds : List PyData) (b : Nat), vs = [.ref m, v] ∧ Dp K H v (.list ds) ∧ 0 < ds.length ∧ ds.length ≤ 1000 ∧ Mo H m c b ∧ b < 2 ^ 50 ∧
  ∀ y d H', d ∈ ds → Dp K H' y d → Keep H H' → Mo H' m c (b + 1) → Q y H'
theorem ok__law_of (T : Top K mg) : FnOk P w K mg base CX0 2 T.f__law_of T.fd__law_of ["m", "some"] (sp__law_of K) := by
  refine T.F__law_of.ok sc__law_of (fun vs H Q E h => ?_) (fun cdv A outer s H vs Q E hr h => ?_)
  · obtain ⟨m, c, v, ds, b, rfl, _⟩ := h
    rfl
  · obtain ⟨m, c, v, ds, b, rfl, hv, hz0, hz1, hm, hb, q⟩ := h
    refine ⟨_, (pss_one (ps_ret (pe_ix (ix_listK (K := K)) (pv 1) (pe_call (ok__law_draw T) (hr.mono (by decide)) (by rfl) T.g__law_draw T.F__law_draw.kp T.b__law_draw .nil pass0 (pa_cons (pv 0) (pa_cons (pe_callB (cl_len (K := K)) (by rfl) T.z_len (by decide +kernel) (pa_cons (pv 1) pa_nil)) pa_nil))) (fun _ _ => rfl)))), ?_⟩
    rw [show start N__law_of [.ref m, v] = [some (.ref m), some (v)] from rfl]
    try dsimp only [cxK]
    walk_at "w"
    refine ⟨m, c, _, b, rfl, by omega, by omega, hm, hb, fun r H' h0 h1 k m' => ?_⟩
    have hr : r.toNat < ds.length := by omega
    exact w_ixL (j := r.toNat) (dp_keep k hv) (by omega) (List.getElem?_eq_getElem hr) fun y hy => q y _ H' (List.getElem_mem hr) hy k m'

/-! ### _law_ratio -/
def sp__law_ratio (K : PySem.W.Frag) : Sp := fun vs H Q _ => ∃ p q : Nat, vs = [.int (p : Int), .int (q : Int)] ∧ 0 < q ∧ q < 2 ^ 190 ∧ ∀ v H', Same H H' → Dp K H' v (pd (red p q)) → Q v H'
theorem ok__law_ratio (T : Top K mg) : FnOk P w K mg base CX0 2 T.f__law_ratio T.fd__law_ratio ["a", "b"] (sp__law_ratio K) := by
  refine T.F__law_ratio.ok sc__law_ratio (fun vs H Q E h => ?_) (fun cdv A outer s H vs Q E hr h => ?_)
  · obtain ⟨p, q, rfl, _⟩ := h
    rfl
  · obtain ⟨p, q, rfl, h0, h1, q1⟩ := h
    refine ⟨_, (pss_cons (ps_set (i := 2) sc__law_ratio.nd (by rfl) (by first | exact Or.inl rfl | exact Or.inr rfl) (pe_call (ok__law_shared T) (hr.mono (by decide)) (by rfl) T.g__law_shared T.F__law_shared.kp T.b__law_shared .nil pass0 (pa_cons (pe_callB cl_abs (by rfl) T.z_abs (by decide +kernel) (pa_cons (pv 0) pa_nil)) (pa_cons (pv 1) pa_nil))))
      (pss_one (ps_ret (pe_tup (pa_cons (pe_op op_fdivW (pv 0) (pv 2)) (pa_cons (pe_op op_fdivW (pv 1) (pv 2)) pa_nil)))))), ?_⟩
    rw [show start N__law_ratio [.int (p : Int), .int (q : Int)] = [some (.int (p : Int)), some (.int (q : Int)), none] from rfl]
    try dsimp only [cxK]
    have g0 : 0 < Nat.gcd p q := Nat.gcd_pos_of_pos_right p h0
    have g1 : Nat.gcd p q ≤ q := Nat.le_of_dvd h0 (Nat.gcd_dvd_right p q)
    walk_at "wp"
    refine ⟨p, q, rfl, h1, ?_⟩
    walk_at "wp"
    refine w_newT (K := K) (len_ok (by simp)) (.cons (.int _) (.cons (.int _) .nil)) fun t H1 n1 e1 d1 => ?_
    exact q1 _ H1 e1 d1

/-! ### _law_orbit -/
def sp__law_orbit (K : PySem.W.Frag) : Sp := fun vs H Q _ => ∃ v x, vs = [v] ∧ Dp K H v (pd x) ∧ Plc x ∧ ∀ v H', Same H H' → Dp K H' v (.list ((orbN x).map pd)) → Q v H'
theorem ok__law_orbit (T : Top K mg) : FnOk P w K mg base CX0 2 T.f__law_orbit T.fd__law_orbit ["x"] (sp__law_orbit K) := by
  refine T.F__law_orbit.ok sc__law_orbit (fun vs H Q E h => ?_) (fun cdv A outer s H vs Q E hr h => ?_)
  · obtain ⟨v, x, rfl, _⟩ := h
    rfl
  · obtain ⟨v, x, rfl, hv, hx, q⟩ := h
    refine ⟨_, (pss_cons (ps_set (i := 1) sc__law_orbit.nd (by rfl) (by first | exact Or.inl rfl | exact Or.inr rfl) (pe_lst (pa_cons (pv 0) pa_nil)))
      (pss_cons (ps_for PassesOwn.never (by rfl) (pi_range1 (by rfl) T.z_range (pa_cons pe_int pa_nil)) (pg_name (i := 2) sc__law_orbit.nd (by rfl) (by first | exact Or.inl rfl | exact Or.inr rfl)) (pss_cons (ps_set (i := 0) sc__law_orbit.nd (by rfl) (by first | exact Or.inl rfl | exact Or.inr rfl) (pe_call (ok__law_double T) (hr.mono (by decide)) (by rfl) T.g__law_double T.F__law_double.kp T.b__law_double .nil pass0 (pa_cons (pv 0) pa_nil)))
      (pss_cons (ps_if (pt_cmpR (op_inDK (K := K) (Room65 hr)) (pv 0) (pv 1) (by rfl)) (pss_one (ps_ret (pv 1))) pss_nil)
      (pss_one (ps_expr (pe_bm PySem.F.plainAttrs_list PySem.F.slot_list_append PySem.F.type_list_append mt_append (pv 1) (pa_cons (pv 0) pa_nil)))))))
      (pss_one (ps_ret (pv 1))))), ?_⟩
    rw [show start N__law_orbit [v] = [some (v), none, none] from rfl]
    try dsimp only [cxK]
    have w := ways hx
    have hle := w.le
    have hn1 := w.n1
    walk_at "wp"
    refine w_newL (K := K) (len_ok (by simp)) (dpa_one hv) fun p H1 n1 e1 f1 d1 => ?_
    walk_at "wp"
    refine forR1_by (fun i σ' H' => ∃ y yk ws, σ' = [some y, some (.ref p), yk] ∧ Same H H' ∧ H' p = some (.lst ws) ∧ DpAll K H' ws ((preN x (i + 1)).map pd) ∧ Dp K H' y (pd (itN i x)) ∧ i + 1 ≤ wayN x + perN x) (by omega) ⟨v, none, [v], rfl, e1, f1, dpa_one (dp_same e1 hv), dp_same e1 hv, by omega⟩ ?_ ?_
    · rintro i σ' H' hi ⟨y, yk, ws, rfl, s1, f2, d2, dy, hle1⟩
      have pre : ∀ z ∈ (preN x (i + 1)).map pd, pln 8 z = true := fun z hz => by
        obtain ⟨u, _, rfl⟩ := List.mem_map.mp hz
        exact pd_pln _
      have hno : noLs ((preN x (i + 1)).map pd) = true := by
        induction preN x (i + 1) with
        | nil => rfl
        | cons u r ih => simp only [List.map_cons, noLs, pd_noL, Bool.true_and]; exact ih
      have hmem : pd (itN (i + 1) x) ∈ (preN x (i + 1)).map pd ↔ i + 1 = wayN x + perN x := by
        rw [← pre_mem hx hle1, List.mem_map]
        constructor
        · rintro ⟨u, hu, e⟩
          rw [← pd_inj e]; exact hu
        · intro h; exact ⟨_, h, rfl⟩
      have pi := it_plc hx i
      have ps := pi.small
      walk_at "wp"
      refine ⟨y, itN i x, rfl, dy, pi.lt, by omega, fun y2 H2 e2 dy2 => ?_⟩
      rw [← itN_succ] at dy2
      have d3 := dpa_same e2 d2
      have f3 := e2 _ _ f2
      walk_at "wp"
      refine w_inP dy2 (dp_newL f3 d3) (pd_pln _) pre (fun hm => ?_) (fun hm => ?_)
      · walk_at "wp"
        refine q _ H2 (s1.trans e2) ?_
        rw [hmem.mp hm] at d3
        exact dp_newL f3 d3
      · have hlt : i + 1 < wayN x + perN x := by
          by_cases z : i + 1 = wayN x + perN x
          · exact absurd (hmem.mpr z) hm
          · omega
        walk_at "wp"
        refine w_tyL f3 ?_
        walk_at "wp"
        have hl := dpa_len d2
        rw [List.length_map, pre_len] at hl
        refine w_append f3 (len_lt (by omega)) ?_
        have dy3 := dp_upd (o := .lst (ws ++ [y2])) f3 _ _ (pd_noL _) dy2
        walk_at "wp"
        refine ⟨y2, _, ws ++ [y2], rfl, same_mut (s1.trans e2) n1, upd_same, ?_, dy3, by omega⟩
        rw [pre_succ x (i + 1), List.map_append]
        exact dpa_app (dpa_upd f3 _ _ hno d3) (dpa_one dy3)
    · rintro σ' H' ⟨y, yk, ws, rfl, s1, f2, d2, dy, hle1⟩
      exfalso
      have : (60 : Int).toNat = 60 := rfl
      omega

/-! ### _law_string -/
def sp__law_string (K : PySem.W.Frag) : Sp := fun vs H Q _ => ∃ (m c : Addr) (n : Int) (b : Nat), vs = [.ref m, .int n] ∧ 0 ≤ n ∧ n ≤ 1000 ∧ Mo H m c b ∧ b < 2 ^ 45 ∧
  ∀ (l : List Nat) H', l.length = n.toNat → (∀ x ∈ l, x = 48 ∨ x = 49) → Keep H H' → Mo H' m c (b + n.toNat) → Q (.str (Sg l)) H'
theorem ok__law_string (T : Top K mg) : FnOk P w K mg base CX0 2 T.f__law_string T.fd__law_string ["m", "size_v"] (sp__law_string K) := by
  refine T.F__law_string.ok sc__law_string (fun vs H Q E h => ?_) (fun cdv A outer s H vs Q E hr h => ?_)
  · obtain ⟨m, c, n, b, rfl, _⟩ := h
    rfl
  · obtain ⟨m, c, n, b, rfl, hn0, hn1, hm, hb, q⟩ := h
    refine ⟨_, (pss_one (ps_ret (pe_joinD (K := K) pe_str (pe_lc (own := [("k", 2)]) (g := gName 2) (tt := tYes) (by rfl) sc__law_string.nd (pi_range1 (by rfl) T.z_range (pa_cons (pv 1) pa_nil)) (blkOk_by (own := [("k", 2)]) (N := N__law_string) (sc := defScope s__law_string) (by decide +kernel)) (fun _ _ _ _ _ => (pg_name (i := 2) sc__law_string.nd (by rfl) (by first | exact Or.inl rfl | exact Or.inr rfl))) (fun _ _ _ _ _ => pts_nil) (fun _ _ _ _ _ => (pe_callTy cl_strI (by rfl) T.z_str (by decide +kernel) (pa_cons (pe_call (ok__law_draw T) (hr.mono (by decide)) (by rfl) T.g__law_draw T.F__law_draw.kp T.b__law_draw .nil pass0 (pa_cons (pv 0) (pa_cons pe_int pa_nil))) pa_nil))))))), ?_⟩
    rw [show start N__law_string [.ref m, .int n] = [some (.ref m), some (.int n), none] from rfl]
    rw [sg_empty]
    try dsimp only [cxK]
    walk_at "w"
    refine lc_rng1_by (K := K) (JM H m c b 1 fun i es => ∃ ys : List (List Nat), es = ys.map (fun y => PyData.str (Sg y)) ∧ ys.length = i ∧ ∀ y ∈ ys, y = [48] ∨ y = [49]) (JM.ok hm ⟨[], rfl, rfl, by simp⟩) (by omega) (fun _ => rfl) ?_ ?_
    · rintro i H' es hi ⟨k, mo, ys, rfl, hl, hy⟩ Yes No hyes hno
      walk_at "w"
      refine ⟨m, c, 2, _, rfl, by decide, by decide, mo, by omega, fun r H4 h0 h1 k4 mo4 => ?_⟩
      have hr : r = 0 ∨ r = 1 := by omega
      rcases hr with rfl | rfl
      · refine w_strI (by decide) ?_
        have e : ((toString (0 : Int) : String) : Str) = Sg [48] := by decide +kernel
        rw [e]
        exact hyes _ H4 (.str (Sg [48])) k4 rfl (.str _) ⟨k.trans k4, mo4.mono (by omega), ys ++ [[48]], by simp, by simp [hl], fun y h => (List.mem_append.mp h).elim (hy y) (fun z => by simp at z; exact .inl z)⟩
      · refine w_strI (by decide) ?_
        have e : ((toString (1 : Int) : String) : Str) = Sg [49] := by decide +kernel
        rw [e]
        exact hyes _ H4 (.str (Sg [49])) k4 rfl (.str _) ⟨k.trans k4, mo4.mono (by omega), ys ++ [[49]], by simp, by simp [hl], fun y h => (List.mem_append.mp h).elim (hy y) (fun z => by simp at z; exact .inr z)⟩
    · rintro p H' vs es hn k hv dl ⟨_, mo, ys, rfl, hl, hy⟩
      have hf : ∀ ys : List (List Nat), (∀ y ∈ ys, y = [48] ∨ y = [49]) → ys.flatten.length = ys.length ∧ ∀ x ∈ ys.flatten, x = 48 ∨ x = 49 := by
        intro ys
        induction ys with
        | nil => intro _; simp
        | cons y ys ih =>
          intro h
          obtain ⟨a, b⟩ := ih fun z hz => h z (List.mem_cons_of_mem _ hz)
          have h1 := h y List.mem_cons_self
          constructor
          · rcases h1 with rfl | rfl <;> simp [a] <;> omega
          · intro x hx
            rw [List.flatten_cons, List.mem_append] at hx
            rcases hx with hx | hx
            · rcases h1 with rfl | rfl <;> simp at hx <;> omega
            · exact b x hx
      obtain ⟨f1, f2⟩ := hf ys hy
      exact w_joinSg dl (by omega) (q _ H' (by omega) f2 k (mo.mono (by omega)))

/-! ### _law_sorted -/
def sp__law_sorted (K : PySem.W.Frag) : Sp := fun vs H Q _ => ∃ (v : V) (xs : List (Nat × Nat)), vs = [v] ∧ Dp K H v (.list (xs.map pd)) ∧ (∀ x ∈ xs, Plc x) ∧ xs.length ≤ 1000 ∧ ∀ (ys : List (Nat × Nat)) p us H', ys.Pairwise (fun x y => sz x < sz y) → (∀ x, x ∈ ys ↔ x ∈ xs) → H p = none → Same H H' → H' p = some (.lst us) → DpAll K H' us (ys.map pd) → Q (.ref p) H'
theorem ok__law_sorted (T : Top K mg) : FnOk P w K mg base CX0 2 T.f__law_sorted T.fd__law_sorted ["rows"] (sp__law_sorted K) := by
  refine T.F__law_sorted.ok sc__law_sorted (fun vs H Q E h => ?_) (fun cdv A outer s H vs Q E hr h => ?_)
  · obtain ⟨v, xs, rfl, _⟩ := h
    rfl
  · obtain ⟨v, xs, rfl, hd, hx, hl, q⟩ := h
    refine ⟨_, (pss_cons (ps_set (i := 1) sc__law_sorted.nd (by rfl) (by first | exact Or.inl rfl | exact Or.inr rfl) pe_int)
      (pss_cons (ps_for PassesOwn.never (by rfl) (pi_listK (K := K) (pv 0)) (pg_name (i := 2) sc__law_sorted.nd (by rfl) (by first | exact Or.inl rfl | exact Or.inr rfl)) (pss_one (ps_set (i := 1) sc__law_sorted.nd (by rfl) (by first | exact Or.inl rfl | exact Or.inr rfl) (pe_op op_mulX (pe_op op_fdivW (pv 1) (pe_call (ok__law_shared T) (hr.mono (by decide)) (by rfl) T.g__law_shared T.F__law_shared.kp T.b__law_shared .nil pass0 (pa_cons (pv 1) (pa_cons (pe_ix (ix_tupK (K := K)) (pv 2) pe_int (fun _ _ => rfl)) pa_nil)))) (pe_ix (ix_tupK (K := K)) (pv 2) pe_int (fun _ _ => rfl))))))
      (pss_cons (ps_set (i := 3) sc__law_sorted.nd (by rfl) (by first | exact Or.inl rfl | exact Or.inr rfl) (pe_callB (cr_sortR (K := K) hr.units) (by rfl) T.z_sorted (by decide +kernel) (pa_cons (pe_lc (own := [("x", 2)]) (g := gName 2) (tt := tYes) (by rfl) sc__law_sorted.nd (pi_listK (K := K) (pv 0)) (blkOk_by (own := [("x", 2)]) (N := N__law_sorted) (sc := defScope s__law_sorted) (by decide +kernel)) (fun _ _ _ _ _ => (pg_name (i := 2) sc__law_sorted.nd (by rfl) (by first | exact Or.inl rfl | exact Or.inr rfl))) (fun _ _ _ _ _ => pts_nil) (fun _ _ _ _ _ => (pe_tup (pa_cons (pe_op op_mulX (pe_ix (ix_tupK (K := K)) (pv 2) pe_int (fun _ _ => rfl)) (pe_op op_fdivW (pv 1) (pe_ix (ix_tupK (K := K)) (pv 2) pe_int (fun _ _ => rfl)))) (pa_cons (pv 2) pa_nil))))) pa_nil)))
      (pss_one (ps_ret (pe_lc (own := [("k", 4)]) (g := gName 4) (by rfl) sc__law_sorted.nd (pi_range1 (by rfl) T.z_range (pa_cons (pe_callB (cl_len (K := K)) (by rfl) T.z_len (by decide +kernel) (pa_cons (pv 3) pa_nil)) pa_nil)) (blkOk_by (own := [("k", 4)]) (N := N__law_sorted) (sc := defScope s__law_sorted) (by decide +kernel)) (fun _ _ _ _ _ => (pg_name (i := 4) sc__law_sorted.nd (by rfl) (by first | exact Or.inl rfl | exact Or.inr rfl))) (fun _ _ _ _ _ => (pts_one (PW.pt (pw_or (pt_cmpR op_eq (pv 4) pe_int (nomark _)) (pw_or1 (pt_cmpR (op_neK (K := K) hr.units) (pe_ix (ix_listK (K := K)) (pv 3) (pv 4) (fun _ _ => rfl)) (pe_ix (ix_listK (K := K)) (pv 3) (pe_op op_sub (pv 4) pe_int) (fun _ _ => rfl)) (nomark _))))))) (fun _ _ _ _ _ => (pe_ix (ix_tupK (K := K)) (pe_ix (ix_listK (K := K)) (pv 3) (pv 4) (fun _ _ => rfl)) pe_int (fun _ _ => rfl))))))))), ?_⟩
    rw [show start N__law_sorted [v] = [some (v), none, none, none, none] from rfl]
    try dsimp only [cxK]
    walk_at "wp"
    refine forL_by (fun i σ' H' => ∃ (W : Nat) (y2 y3 y4 : Option V), σ' = [some v, some (.int (W : Int)), y2, y3, y4] ∧ H = H' ∧ 0 < W ∧ W ∣ CN ∧ ∀ x ∈ xs.take i, x.2 ∣ W) hd ⟨1, _, _, _, rfl, rfl, by decide, Nat.one_dvd _, fun x hx => by simp at hx⟩ ?_ ?_ ?_
    · rintro i σ' H' _ ⟨W, y2, y3, y4, rfl, rfl, _⟩
      exact Keep.refl _
    · rintro i d y σ' H' hi hy ⟨W, y2, y3, y4, rfl, rfl, h0, h1, h2⟩
      rw [List.getElem?_map] at hi
      obtain ⟨x, hxi, rfl⟩ := Option.map_eq_some_iff.mp hi
      have px := hx x (List.mem_of_getElem? hxi)
      have hWC := Nat.le_of_dvd CN_pos h1
      have hCN := CN_lt
      have hg1 := Nat.gcd_pos_of_pos_left x.2 h0
      have hg2 := Nat.gcd_le_left x.2 h0
      have hs := px.small
      have hdiv := Nat.div_le_self W (Nat.gcd W x.2)
      obtain ⟨l0, l1, l2, l3⟩ := lcm_step h0 px.pos h1 px.dvd
      walk_at "wp"
      refine ⟨W, x.2, rfl, by omega, ?_⟩
      walk_at "wp"
      rw [← Int.natCast_ediv]
      generalize W / Nat.gcd W x.2 = G at *
      refine w_rI (mulS ⟨by omega, by omega⟩ ⟨by omega, by omega⟩) ?_
      rw [← Int.natCast_mul]
      walk_at "wp"
      refine ⟨_, _, _, _, rfl, rfl, l0, l1, fun z hz => ?_⟩
      rw [List.take_succ, hxi] at hz
      rcases List.mem_append.mp hz with hz | hz
      · exact Nat.dvd_trans (h2 z hz) l2
      · simp at hz
        rw [hz]
        exact l3
    · rintro σ' H' ⟨W, y2, y3, y4, rfl, rfl, h0, h1, h2⟩
      rw [List.length_map, List.take_length] at h2
      walk_at "wp"
      have hWC := Nat.le_of_dvd CN_pos h1
      have hCN := CN_lt
      refine lc_list_by (K := K) (JP H fun i es => es = ((xs.take i).map (key3 W)).map rowP) (JP.ok rfl) hd (by rw [List.length_map]; omega) (fun _ => rfl) ?_ ?_
      · rintro i d y H1 es hi hy ⟨s1, rfl⟩ Yes No hyes hno
        rw [List.getElem?_map] at hi
        obtain ⟨x, hxi, rfl⟩ := Option.map_eq_some_iff.mp hi
        have px := hx x (List.mem_of_getElem? hxi)
        have hs := px.small
        have hp := px.pos
        have hlt := px.lt
        have hdiv := Nat.div_le_self W x.2
        walk_at "wp"
        rw [← Int.natCast_ediv]
        generalize hG : W / x.2 = G at *
        refine w_rI (mulS ⟨by omega, by omega⟩ ⟨by omega, by omega⟩) ?_
        rw [← Int.natCast_mul]
        walk_at "wt"
        rename_i t2 H2 n2 e2 d2
        subst hG
        refine hyes _ _ (rowP (key3 W x)) (Keep.of e2) rfl d2 ⟨s1.trans e2, ?_⟩
        dsimp only
        rw [List.take_succ, hxi]
        simp
      · rintro p H1 vs es hn k1 hv dl ⟨s1, rfl⟩
        rw [List.length_map, List.take_length] at dl
        walk_at "wp"
        refine ⟨p, xs.map (key3 W), rfl, dl, fun e he f hf hef => ?_, fun es' p' H2 perm pw hn' s2 d2 => ?_⟩
        · obtain ⟨x, hx1, rfl⟩ := List.mem_map.mp he
          obtain ⟨y, hy1, rfl⟩ := List.mem_map.mp hf
          rw [key_inj h0 (hx _ hx1) (hx _ hy1) (h2 _ hx1) (h2 _ hy1) (by have : ((x.1 * (W / x.2) : Nat) : Int) = ((y.1 * (W / y.2) : Nat) : Int) := hef; omega)]
        · obtain ⟨ys, yp, rfl⟩ := sorted_back perm
          walk_at "wp"
          rw [List.length_map, List.length_map]
          have yl := yp.length_eq
          have yx : ∀ x ∈ ys, Plc x ∧ x.2 ∣ W := fun x z => ⟨hx x (yp.mem_iff.mp z), h2 x (yp.mem_iff.mp z)⟩
          have hys : ys.Pairwise fun x y => sz x ≤ sz y := by
            refine (List.pairwise_map.mp pw).imp_of_mem fun {x y} hx1 hy1 hxy => ?_
            rw [key_sz h0 h1 (yx x hx1).2, key_sz h0 h1 (yx y hy1).2]
            have hxy' : ((x.1 * (W / x.2) : Nat) : Int) ≤ ((y.1 * (W / y.2) : Nat) : Int) := hxy
            exact Nat.mul_le_mul_right _ (by omega)
          have hget : ∀ (i : Nat) x, ys[i]? = some x → ((ys.map (key3 W)).map rowP)[i]? = some (rowP (key3 W x)) := fun i x e => by rw [List.getElem?_map, List.getElem?_map, e]; rfl
          refine lc_rng1_byA (K := K) (JP H2 fun i es => ∃ zs : List (Nat × Nat), es = zs.map pd ∧ zs.Pairwise (fun x y => sz x < sz y) ∧ ∀ x, x ∈ zs ↔ x ∈ ys.take i) (JP.ok ⟨[], rfl, .nil, fun x => by simp⟩) (by omega) (fun _ => rfl) ?_ ?_
          · rintro i H3 es hi ⟨s3, zs, rfl, hp, hm⟩ Yes No hyes hno
            have hi' : i < ys.length := by omega
            have hxi : ys[i]? = some ys[i] := List.getElem?_eq_getElem hi'
            have d3 := dp_same s3 d2
            have add : (∀ z ∈ zs, sz z < sz ys[i]) → ∀ v, Dp K H3 v (pd ys[i]) → Yes v H3 := fun hz v dv => by
              refine hyes _ _ (pd ys[i]) (Keep.refl _) rfl dv ⟨s3, zs ++ [ys[i]], by simp, ?_, fun x => ?_⟩
              · exact List.pairwise_append.mpr ⟨hp, List.pairwise_singleton _ _, fun a ha b hb => by rw [List.mem_singleton.mp hb]; exact hz a ha⟩
              · rw [List.take_succ, hxi, List.mem_append, List.mem_append, hm x]
                simp
            walk_at "wp"
            have fin : (∀ z ∈ zs, sz z < sz ys[i]) → ∀ v', Dp K H3 v' (rowP (key3 W ys[i])) → rIxT K v' (.int 1) H3 Yes := fun hz v' dv =>
              w_ixT (j := 1) dv rfl rfl fun v2 dv2 => add hz v2 dv2
            refine w_iteD (fun hi0 => ?_) (fun hi0 => ?_)
            · walk_at "wp"
              refine w_ixL (j := i) d3 rfl (hget i _ hxi) fun v1 dv1 => ?_
              walk_at "wp"
              refine fin (fun z hz => ?_) _ dv1
              have := (hm z).mp hz
              rw [show i = 0 by omega] at this
              simp at this
            · obtain ⟨j, rfl⟩ : ∃ j, i = j + 1 := ⟨i - 1, by omega⟩
              have hj' : j < ys.length := by omega
              have hxj : ys[j]? = some ys[j] := List.getElem?_eq_getElem hj'
              have le1 : sz ys[j] ≤ sz ys[j + 1] := List.pairwise_iff_getElem.mp hys j (j + 1) hj' hi' (by omega)
              have le2 : ∀ z ∈ zs, sz z ≤ sz ys[j] := fun z hz => by
                obtain ⟨m, hm1, hm2⟩ := List.mem_take_iff_getElem.mp ((hm z).mp hz)
                rw [← hm2]
                by_cases hmj : m = j
                · subst hmj; exact Nat.le_refl _
                · exact List.pairwise_iff_getElem.mp hys m j (by omega) hj' (by omega)
              walk_at "wp"
              refine w_ixL (j := j + 1) d3 rfl (hget _ _ hxi) fun v1 dv1 => ?_
              walk_at "wp"
              refine w_ixL (j := j) d3 (by omega) (hget _ _ hxj) fun v2 dv2 => ?_
              refine w_neP dv1 dv2 rfl rfl (fun he => ?_) (fun he => ?_)
              · walk_at "wp"
                refine hno _ (Keep.refl _) ⟨s3, zs, rfl, hp, fun x => ?_⟩
                have exy : ys[j + 1] = ys[j] := by
                  have e1 : ((ys[j + 1].1 * (W / ys[j + 1].2) : Nat) : Int) = ((ys[j].1 * (W / ys[j].2) : Nat) : Int) := by
                    simp only [rowP, key3, PyData.tuple.injEq, List.cons.injEq, PyData.int.injEq] at he
                    exact he.1
                  exact key_inj h0 (yx _ (List.getElem_mem hi')).1 (yx _ (List.getElem_mem hj')).1 (yx _ (List.getElem_mem hi')).2 (yx _ (List.getElem_mem hj')).2 (by omega)
                have t1 : ys.take (j + 1) = ys.take j ++ [ys[j]] := by rw [List.take_succ, hxj]; rfl
                have t2 : ys.take (j + 1 + 1) = ys.take (j + 1) ++ [ys[j]] := by rw [List.take_succ, hxi, exy]; rfl
                rw [hm x, t2, List.mem_append]
                exact ⟨Or.inl, fun z => z.elim id fun z => by rw [t1]; exact List.mem_append_right _ z⟩
              · walk_at "wp"
                refine w_ixL (j := j + 1) d3 rfl (hget _ _ hxi) fun v3 dv3 => ?_
                walk_at "wp"
                refine fin (fun z hz => Nat.lt_of_le_of_lt (le2 z hz) (Nat.lt_of_le_of_ne le1 fun z2 => he ?_)) _ dv3
                rw [sz_inj (yx _ (List.getElem_mem hj')).1 (yx _ (List.getElem_mem hi')).1 z2]
          · rintro p3 H3 vs3 es3 hn3 k3 hv3 dl3 ⟨s3, zs, rfl, hp, hm⟩
            rw [Int.toNat_natCast, List.take_length] at hm
            exact q zs _ _ _ hp (fun x => (hm x).trans yp.mem_iff) (keep_free (s1.trans s2) hn3) ((s1.trans s2).trans s3) hv3 dl3

/-! ### orbit -/
def sp_orbit (K : PySem.W.Frag) : Sp := fun vs H Q _ => ∃ v x, vs = [v] ∧ Dp K H v (pd x) ∧ Plc x ∧ ∀ v H', Same H H' → Dp K H' v (.tuple ((orbN x).map pd)) → Q v H'
theorem ok_orbit (T : Top K mg) : FnOk P w K mg base CX0 3 T.f_orbit T.fd_orbit ["x"] (sp_orbit K) := by
  refine T.F_orbit.ok sc_orbit (fun vs H Q E h => ?_) (fun cdv A outer s H vs Q E hr h => ?_)
  · obtain ⟨v, x, rfl, _⟩ := h
    rfl
  · obtain ⟨v, x, rfl, hv, hx, q⟩ := h
    refine ⟨_, (pss_cons (ps_set (i := 1) sc_orbit.nd (by rfl) (by first | exact Or.inl rfl | exact Or.inr rfl) (pe_lst pa_nil))
      (pss_cons (ps_while PassesOwn.never (pt_cmpR (op_notInDK (K := K) (Room65 hr)) (pv 0) (pv 1) (by rfl)) (pss_cons (ps_expr (pe_bm PySem.F.plainAttrs_list PySem.F.slot_list_append PySem.F.type_list_append mt_append (pv 1) (pa_cons (pv 0) pa_nil)))
      (pss_one (ps_set (i := 0) sc_orbit.nd (by rfl) (by first | exact Or.inl rfl | exact Or.inr rfl) (pe_call (ok_double T) (hr.mono (by decide)) (by rfl) T.g_double T.F_double.kp T.b_double .nil pass0 (pa_cons (pv 0) pa_nil))))))
      (pss_one (ps_ret (pe_callTy (cl_tup (K := K)) (by rfl) T.z_tuple (by decide +kernel) (pa_cons (pv 1) pa_nil)))))), ?_⟩
    rw [show start N_orbit [v] = [some (v), none] from rfl]
    try dsimp only [cxK]
    have w := ways hx
    have hle := w.le
    walk_at "wp"
    refine w_newL (K := K) (len_ok (by simp)) .nil fun p H1 n1 e1 f1 d1 => ?_
    walk_at "wp"
    refine whl_by (fun mm σ' H' => ∃ i y ws, σ' = [some y, some (.ref p)] ∧ Same H H' ∧ H' p = some (.lst ws) ∧ DpAll K H' ws ((preN x i).map pd) ∧ Dp K H' y (pd (itN i x)) ∧ i ≤ wayN x + perN x ∧ mm = wayN x + perN x - i) (wayN x + perN x) ⟨0, v, [], rfl, e1, f1, .nil, dp_same e1 hv, Nat.zero_le _, rfl⟩ ?_
    rintro mm σ' H' ⟨i, y, ws, rfl, s1, f2, d2, dy, hi, rfl⟩
    have pre : ∀ z ∈ (preN x i).map pd, pln 8 z = true := fun z hz => by
      obtain ⟨u, _, rfl⟩ := List.mem_map.mp hz
      exact pd_pln _
    have hno : noLs ((preN x i).map pd) = true := by
      induction preN x i with
      | nil => rfl
      | cons u r ih => simp only [List.map_cons, noLs, pd_noL, Bool.true_and]; exact ih
    have hmem : pd (itN i x) ∈ (preN x i).map pd ↔ i = wayN x + perN x := by
      rw [← pre_mem hx hi, List.mem_map]
      constructor
      · rintro ⟨u, hu, e⟩
        rw [← pd_inj e]; exact hu
      · intro h; exact ⟨_, h, rfl⟩
    walk_at "wp"
    refine w_notInP dy (dp_newL f2 d2) (pd_pln _) pre (fun hm => ?_) (fun hm => ?_)
    · walk_at "wp"
      have := hmem.mp hm
      subst this
      refine w_tupOf (dp_newL f2 d2) fun p3 H3 n3 e3 d3 => ?_
      exact q _ H3 (s1.trans e3) d3
    · have hlt : i < wayN x + perN x := by
        by_cases z : i = wayN x + perN x
        · exact absurd (hmem.mpr z) hm
        · omega
      walk_at "wp"
      refine w_tyL f2 ?_
      walk_at "wp"
      have hl := dpa_len d2
      rw [List.length_map, pre_len] at hl
      refine w_append f2 (len_lt (by omega)) ?_
      walk_at "wp"
      have dy2 := dp_upd (o := .lst (ws ++ [y])) f2 _ _ (pd_noL _) dy
      refine ⟨y, itN i x, rfl, dy2, it_plc hx i, fun v4 H4 e4 d4 => ?_⟩
      rw [← itN_succ] at d4
      refine ⟨_, by omega, i + 1, v4, ws ++ [y], rfl, (same_mut s1 n1).trans e4, e4 _ _ upd_same, ?_, d4, by omega, rfl⟩
      rw [pre_succ, List.map_append]
      exact dpa_same e4 (dpa_app (dpa_upd f2 _ _ hno d2) (dpa_one dy2))

/-! ### returns -/
def sp_returns (K : PySem.W.Frag) : Sp := fun vs H Q _ => ∃ v x, vs = [v] ∧ Dp K H v (pd x) ∧ Plc x ∧ Q (.bl (decide (wayN x = 0))) H
theorem ok_returns (T : Top K mg) : FnOk P w K mg base CX0 3 T.f_returns T.fd_returns ["x"] (sp_returns K) := by
  refine T.F_returns.ok sc_returns (fun vs H Q E h => ?_) (fun cdv A outer s H vs Q E hr h => ?_)
  · obtain ⟨v, x, rfl, _⟩ := h
    rfl
  · obtain ⟨v, x, rfl, hv, hx, q⟩ := h
    refine ⟨_, (pss_one (ps_ret (pe_cmpR op_eq (pe_call (ok_way_in T) (hr.mono (by decide)) (by rfl) T.g_way_in T.F_way_in.kp T.b_way_in .nil pass0 (pa_cons (pv 0) pa_nil)) pe_int (nomark _)))), ?_⟩
    rw [show start N_returns [v] = [some (v)] from rfl]
    try dsimp only [cxK]
    walk_at "wp"
    refine ⟨v, x, rfl, hv, hx, ?_⟩
    walk_at "wp"
    have e : decide ((wayN x : Int) = 0) = decide (wayN x = 0) := by
      by_cases z : wayN x = 0
      · rw [decide_eq_true z, decide_eq_true (by omega)]
      · rw [decide_eq_false z, decide_eq_false (by omega)]
    rw [e]
    exact q

/-! ### mark -/
def sp_mark (K : PySem.W.Frag) : Sp := fun vs H Q _ => ∃ v w t x, vs = [v, w] ∧ Dp K H v (pd t) ∧ Plc t ∧ Dp K H w (pd x) ∧ Plc x ∧ ∀ H', Same H H' → Q (.str (Sg [mkr t x])) H'
theorem ok_mark (T : Top K mg) : FnOk P w K mg base CX0 3 T.f_mark T.fd_mark ["t", "x"] (sp_mark K) := by
  refine T.F_mark.ok sc_mark (fun vs H Q E h => ?_) (fun cdv A outer s H vs Q E hr h => ?_)
  · obtain ⟨v, w, t, x, rfl, _⟩ := h
    rfl
  · obtain ⟨v, w, t, x, rfl, hv, ht, hw, hx, q⟩ := h
    refine ⟨_, (pss_cons (ps_if (pt_cmpR (op_eqK (K := K) hr.units) (pe_call (ok_double T) (hr.mono (by decide)) (by rfl) T.g_double T.F_double.kp T.b_double .nil pass0 (pa_cons (pv 1) pa_nil)) (pv 0) (nomark _)) (pss_one (ps_ret pe_str)) pss_nil)
      (pss_one (ps_ret (pe_ifExp (pt_chain op_lt op_lt (pe_call (ok_size T) (hr.mono (by decide)) (by rfl) T.g_size T.F_size.kp T.b_size .nil pass0 (pa_cons (pv 0) pa_nil)) (pe_op op_mulX pe_int (pe_call (ok_size T) (hr.mono (by decide)) (by rfl) T.g_size T.F_size.kp T.b_size .nil pass0 (pa_cons (pv 1) pa_nil))) (pe_op op_add (pe_call (ok_size T) (hr.mono (by decide)) (by rfl) T.g_size T.F_size.kp T.b_size .nil pass0 (pa_cons (pv 0) pa_nil)) (pe_cint (by rfl) T.c_COMMON))) pe_str pe_str)))), ?_⟩
    rw [show start N_mark [v, w] = [some (v), some (w)] from rfl]
    rw [show Str.ofString "1" = Sg [49] by decide +kernel, show Str.ofString "0" = Sg [48] by decide +kernel, show Str.ofString "*" = Sg [42] by decide +kernel]
    try dsimp only [cxK]
    have s1 := sz_lt ht
    have s2 := sz_lt hx
    have hC := CN_lt
    walk_at "wp"
    refine ⟨w, x, rfl, hw, hx, fun v1 H1 e1 d1 => ?_⟩
    have hv1 := dp_same e1 hv
    have hw1 := dp_same e1 hw
    walk_at "wp"
    refine w_eqP d1 hv1 (pd_pln _) (pd_pln _) (fun e => ?_) (fun e => ?_)
    · have em : mkr t x = 42 := if_pos (pd_inj e)
      rw [em] at q
      walk_at "wp"
      exact q _ e1
    · have ne : ¬ dblN x = t := fun z => e (by rw [z])
      have em : mkr t x = if sz t < 2 * sz x ∧ 2 * sz x < sz t + CN then 49 else 48 := if_neg ne
      rw [em] at q
      walk_at "wp"
      refine ⟨v, t, rfl, hv1, ht, ?_⟩
      walk_at "wp"
      refine ⟨w, x, rfl, hw1, hx, ?_⟩
      walk_at "wp"
      refine w_iteD (fun h1 => ?_) (fun h1 => ?_)
      · walk_at "wp"
        refine ⟨v, t, rfl, hv1, ht, ?_⟩
        walk_at "wp"
        generalize CN = C at q ⊢
        refine w_iteD (fun h2 => ?_) (fun h2 => ?_)
        · walk_at "wp"
          rw [if_pos ⟨by omega, by omega⟩] at q
          exact q _ e1
        · walk_at "wp"
          rw [if_neg (fun z => h2 (by omega))] at q
          exact q _ e1
      · walk_at "wp"
        rw [if_neg (fun z => h1 (by omega))] at q
        exact q _ e1

/-! ### _law_ways -/
def sp__law_ways (K : PySem.W.Frag) : Sp := fun vs H Q _ => ∃ v x, vs = [v] ∧ Dp K H v (pd x) ∧ Plc x ∧ ∀ v H', Same H H' → Dp K H' v (pd (wayN x, perN x)) → Q v H'
theorem ok__law_ways (T : Top K mg) : FnOk P w K mg base CX0 3 T.f__law_ways T.fd__law_ways ["x"] (sp__law_ways K) := by
  refine T.F__law_ways.ok sc__law_ways (fun vs H Q E h => ?_) (fun cdv A outer s H vs Q E hr h => ?_)
  · obtain ⟨v, x, rfl, _⟩ := h
    rfl
  · obtain ⟨v, x, rfl, hv, hx, q⟩ := h
    refine ⟨_, (pss_cons (ps_set (i := 1) sc__law_ways.nd (by rfl) (by first | exact Or.inl rfl | exact Or.inr rfl) (pe_call (ok__law_orbit T) (hr.mono (by decide)) (by rfl) T.g__law_orbit T.F__law_orbit.kp T.b__law_orbit .nil pass0 (pa_cons (pv 0) pa_nil)))
      (pss_cons (ps_set (i := 2) sc__law_ways.nd (by rfl) (by first | exact Or.inl rfl | exact Or.inr rfl) (pe_bm PySem.F.plainAttrs_list PySem.F.slot_list_index PySem.F.type_list_index (mt_indexK (K := K) (Room65 hr)) (pv 1) (pa_cons (pe_call (ok__law_double T) (hr.mono (by decide)) (by rfl) T.g__law_double T.F__law_double.kp T.b__law_double .nil pass0 (pa_cons (pe_ix (ix_listK (K := K)) (pv 1) (pe_un un_neg pe_int) (fun _ _ => rfl)) pa_nil)) pa_nil)))
      (pss_one (ps_ret (pe_tup (pa_cons (pv 2) (pa_cons (pe_op op_sub (pe_callB (cl_len (K := K)) (by rfl) T.z_len (by decide +kernel) (pa_cons (pv 1) pa_nil)) (pv 2)) pa_nil))))))), ?_⟩
    rw [show start N__law_ways [v] = [some (v), none, none] from rfl]
    try dsimp only [cxK]
    have w := ways hx
    have hle := w.le
    have hn1 := w.n1
    have hlen := orb_len x
    walk_at "wp"
    refine ⟨v, x, rfl, hv, hx, fun v1 H1 e1 d1 => ?_⟩
    walk_at "wp"
    refine w_tyLD d1 ?_
    walk_at "wp"
    have hl1 : ((orbN x).map pd).getLast? = some (pd (itN (wayN x + perN x - 1) x)) := by
      rw [List.getLast?_eq_getElem?, List.length_map, hlen, List.getElem?_map, orb_get (by omega)]
      rfl
    refine w_ixLast d1 hl1 fun v2 d2 => ?_
    have pi := it_plc hx (wayN x + perN x - 1)
    have ps := pi.small
    walk_at "wp"
    refine ⟨v2, _, rfl, d2, pi.lt, by omega, fun v3 H3 e3 d3 => ?_⟩
    rw [← itN_succ, show wayN x + perN x - 1 + 1 = wayN x + perN x by omega, w.back] at d3
    walk_at "wp"
    refine w_index (j := wayN x) (dp_same e3 d1) d3 (pd_pln _) (fun z hz => by
      obtain ⟨u, _, rfl⟩ := List.mem_map.mp hz
      exact pd_pln _) (by rw [List.getElem?_map, orb_get (by omega)]; rfl) (fun m hm z => ?_) ?_
    · rw [List.getElem?_map, orb_get (by omega)] at z
      have := pd_inj (Option.some.inj z)
      exact w.ne hm (by omega) this
    · walk_at "wp"
      rw [List.length_map, hlen]
      rw [show (((wayN x + perN x : Nat) : Int) - (wayN x : Int)) = (perN x : Int) by omega]
      refine w_newT (K := K) (len_ok (by simp)) (.cons (.int _) (.cons (.int _) .nil)) fun p5 H5 n5 e5 d5 => ?_
      exact q _ H5 ((e1.trans e3).trans e5) d5

/-! ### _law_binary -/
def sp__law_binary (K : PySem.W.Frag) : Sp := fun vs H Q _ => ∃ h c : List Nat, vs = [.str (Sg h), .str (Sg c)] ∧ Dg h ∧ Dg c ∧ c ≠ [] ∧ h.length + c.length ≤ 80 ∧ ∀ v H', Same H H' → Dp K H' v (pd (binN h c)) → Q v H'
theorem ok__law_binary (T : Top K mg) : FnOk P w K mg base CX0 3 T.f__law_binary T.fd__law_binary ["head", "cycle"] (sp__law_binary K) := by
  refine T.F__law_binary.ok sc__law_binary (fun vs H Q E h => ?_) (fun cdv A outer s H vs Q E hr h => ?_)
  · obtain ⟨h, c, rfl, _⟩ := h
    rfl
  · obtain ⟨h, c, rfl, dh, dc, hc, hl, q⟩ := h
    refine ⟨_, (pss_cons (ps_asg (pe_tup (pa_cons pe_int (pa_cons pe_int pa_nil))) (pg_tupK (K := K) (n := 2) (by rfl) (pgs_cons (pg_name (i := 2) sc__law_binary.nd (by rfl) (by first | exact Or.inl rfl | exact Or.inr rfl)) (pgs_cons (pg_name (i := 3) sc__law_binary.nd (by rfl) (by first | exact Or.inl rfl | exact Or.inr rfl)) pgs_nil))))
      (pss_cons (ps_for PassesOwn.never (by rfl) (pi_str (pv 0)) (pg_name (i := 4) sc__law_binary.nd (by rfl) (by first | exact Or.inl rfl | exact Or.inr rfl)) (pss_one (ps_set (i := 2) sc__law_binary.nd (by rfl) (by first | exact Or.inl rfl | exact Or.inr rfl) (pe_op op_add (pe_op op_mulX pe_int (pv 2)) (pe_callTy cl_intS (by rfl) T.z_int (by decide +kernel) (pa_cons (pv 4) pa_nil))))))
      (pss_cons (ps_for PassesOwn.never (by rfl) (pi_str (pv 1)) (pg_name (i := 4) sc__law_binary.nd (by rfl) (by first | exact Or.inl rfl | exact Or.inr rfl)) (pss_one (ps_set (i := 3) sc__law_binary.nd (by rfl) (by first | exact Or.inl rfl | exact Or.inr rfl) (pe_op op_add (pe_op op_mulX pe_int (pv 3)) (pe_callTy cl_intS (by rfl) T.z_int (by decide +kernel) (pa_cons (pv 4) pa_nil))))))
      (pss_cons (ps_set (i := 5) sc__law_binary.nd (by rfl) (by first | exact Or.inl rfl | exact Or.inr rfl) (pe_op op_sub (pe_call (ok__law_twos T) (hr.mono (by decide)) (by rfl) T.g__law_twos T.F__law_twos.kp T.b__law_twos .nil pass0 (pa_cons (pe_callB (cl_len (K := K)) (by rfl) T.z_len (by decide +kernel) (pa_cons (pv 1) pa_nil)) pa_nil)) pe_int))
      (pss_cons (ps_set (i := 6) sc__law_binary.nd (by rfl) (by first | exact Or.inl rfl | exact Or.inr rfl) (pe_op op_mulX (pe_call (ok__law_twos T) (hr.mono (by decide)) (by rfl) T.g__law_twos T.F__law_twos.kp T.b__law_twos .nil pass0 (pa_cons (pe_callB (cl_len (K := K)) (by rfl) T.z_len (by decide +kernel) (pa_cons (pv 0) pa_nil)) pa_nil)) (pv 5)))
      (pss_one (ps_ret (pe_call (ok__law_ratio T) (hr.mono (by decide)) (by rfl) T.g__law_ratio T.F__law_ratio.kp T.b__law_ratio .nil pass0 (pa_cons (pe_op op_modD (pe_callTy cl_int (by rfl) T.z_int (by decide +kernel) (pa_cons (pe_op op_add (pe_op op_mulX (pv 2) (pv 5)) (pv 3)) pa_nil)) (pv 6)) (pa_cons (pv 6) pa_nil)))))))))), ?_⟩
    rw [show start N__law_binary [.str (Sg h), .str (Sg c)] = [some (.str (Sg h)), some (.str (Sg c)), none, none, none, none, none] from rfl]
    try dsimp only [cxK]
    have hp : 0 < c.length := List.length_pos_iff.mpr hc
    walk_at "wp"
    refine w_newT (K := K) (len_ok (by simp)) (.cons (.int _) (.cons (.int _) .nil)) fun t0 H0 n0 e0 d0 => ?_
    refine w_gTupP (x := (0, 0)) d0 ?_
    walk_at "wp"
    refine forS_by (fun i σ' H' => ∃ (y4 y5 y6 : Option V), σ' = [some (.str (Sg h)), some (.str (Sg c)), some (.int (bv (h.take i) : Int)), some (.int 0), y4, y5, y6] ∧ H0 = H') ⟨none, none, none, rfl, rfl⟩ ?_ ?_
    · rintro i x σ' H' hx ⟨y4, y5, y6, rfl, rfl⟩
      rw [sg_tl] at hx
      have hm : x = 48 ∨ x = 49 := dh x (List.mem_of_getElem? hx)
      have hb := bv_lt (h.take i) (fun z hz => dh z (List.mem_of_mem_take hz))
      have hb2 : 2 ^ (h.take i).length ≤ 2 ^ 80 := Nat.pow_le_pow_right (by decide) (by rw [List.length_take]; omega)
      rw [sg_one]
      walk_at "wp"
      refine w_intS hm ?_
      walk_at "wp"
      have e : bv (h.take (i + 1)) = 2 * bv (h.take i) + (x - 48) := by
        rw [List.take_add_one, hx, Option.toList_some, bv_snoc]
      rw [e]
      exact ⟨_, _, _, rfl, rfl⟩
    · rintro σ' H' ⟨y4, y5, y6, rfl, rfl⟩
      rw [sg_len, List.take_length]
      walk_at "wp"
      refine forS_by (fun i σ' H' => ∃ (y4 y5 y6 : Option V), σ' = [some (.str (Sg h)), some (.str (Sg c)), some (.int (bv h : Int)), some (.int (bv (c.take i) : Int)), y4, y5, y6] ∧ H0 = H') ⟨_, _, _, rfl, rfl⟩ ?_ ?_
      · rintro i x σ' H' hx ⟨y4, y5, y6, rfl, rfl⟩
        rw [sg_tl] at hx
        have hm : x = 48 ∨ x = 49 := dc x (List.mem_of_getElem? hx)
        have hb := bv_lt (c.take i) (fun z hz => dc z (List.mem_of_mem_take hz))
        have hb2 : 2 ^ (c.take i).length ≤ 2 ^ 80 := Nat.pow_le_pow_right (by decide) (by rw [List.length_take]; omega)
        rw [sg_one]
        walk_at "wp"
        refine w_intS hm ?_
        walk_at "wp"
        have e : bv (c.take (i + 1)) = 2 * bv (c.take i) + (x - 48) := by
          rw [List.take_add_one, hx, Option.toList_some, bv_snoc]
        rw [e]
        exact ⟨_, _, _, rfl, rfl⟩
      · rintro σ' H' ⟨y4, y5, y6, rfl, rfl⟩
        rw [sg_len, List.take_length]
        walk_at "wp"
        refine ⟨c.length, rfl, by omega, ?_⟩
        walk_at "wp"
        refine ⟨h.length, rfl, by omega, ?_⟩
        have b0 := bv_lt h dh
        have b1 := bv_lt c dc
        have b2 : 2 ^ h.length ≤ 2 ^ 80 := Nat.pow_le_pow_right (by decide) (by omega)
        have b3 : 2 ^ c.length ≤ 2 ^ 80 := Nat.pow_le_pow_right (by decide) (by omega)
        have b4 := two_pow_pos c.length
        have b5 := two_pow_pos h.length
        have b6 := botN_pos (h := h) hc
        have b7 : botN h c < 2 ^ 160 := by
          unfold botN
          calc 2 ^ h.length * (2 ^ c.length - 1) < 2 ^ h.length * 2 ^ c.length := Nat.mul_lt_mul_of_pos_left (by omega) b5
            _ ≤ 2 ^ 80 * 2 ^ 80 := Nat.mul_le_mul b2 b3
            _ = 2 ^ 160 := by rw [← Nat.pow_add]
        have e1 : (((2 ^ c.length : Nat) : Int) - 1) = ((2 ^ c.length - 1 : Nat) : Int) := by omega
        rw [e1]
        have e2 : ((2 ^ h.length : Nat) : Int) * ((2 ^ c.length - 1 : Nat) : Int) = ((botN h c : Nat) : Int) := rfl
        generalize hB : botN h c = B at *
        generalize hP : 2 ^ h.length = P at *
        generalize hW : 2 ^ c.length - 1 = W at *
        have c1 : (W : Int) < 2 ^ 80 := by omega
        have c2 : (P : Int) ≤ 2 ^ 80 := by omega
        have c3 : (bv h : Int) < 2 ^ 80 := by omega
        walk_at "wp"
        rw [e2]
        walk_at "wp"
        refine ⟨(bv h * W + bv c) % B, B, rfl, b6, by omega, fun v H1 e d => q v H1 (e0.trans e) ?_⟩
        unfold binN
        rw [hB, hW]
        exact d

/-! ### plain_row -/
def sp_plain_row (K : PySem.W.Frag) : Sp := fun vs H Q _ => ∃ v w t x, vs = [v, w] ∧ Dp K H v (pd t) ∧ Plc t ∧ Dp K H w (pd x) ∧ Plc x ∧ ∀ h c r H', LF h c → (∀ n : Nat, rz h c n = rz ((markL t x).take (wayN x)) ((markL t x).drop (wayN x)) n) → h.length ≤ 24 → c.length ≤ 24 → Mk h → Mk c → Same H H' → Dp K H' r (rowD h c) → Q r H'
theorem ok_plain_row (T : Top K mg) : FnOk P w K mg base CX0 4 T.f_plain_row T.fd_plain_row ["t", "x"] (sp_plain_row K) := by
  refine T.F_plain_row.ok sc_plain_row (fun vs H Q E h => ?_) (fun cdv A outer s H vs Q E hr h => ?_)
  · obtain ⟨v, w, t, x, rfl, _⟩ := h
    rfl
  · obtain ⟨v, w, t, x, rfl, hv, ht, hw, hx, q⟩ := h
    refine ⟨_, (pss_cons (ps_set (i := 2) sc_plain_row.nd (by rfl) (by first | exact Or.inl rfl | exact Or.inr rfl) (pe_joinD (K := K) pe_str (pe_lc (own := [("y", 4)]) (g := gName 4) (tt := tYes) (by rfl) sc_plain_row.nd (pi_tupK (K := K) (pe_call (ok_orbit T) (hr.mono (by decide)) (by rfl) T.g_orbit T.F_orbit.kp T.b_orbit .nil pass0 (pa_cons (pv 1) pa_nil))) (blkOk_by (own := [("y", 4)]) (N := N_plain_row) (sc := defScope s_plain_row) (by decide +kernel)) (fun _ _ _ _ _ => (pg_name (i := 4) sc_plain_row.nd (by rfl) (by first | exact Or.inl rfl | exact Or.inr rfl))) (fun _ _ _ _ _ => pts_nil) (fun _ _ _ _ _ => (pe_call (ok_mark T) (hr.mono (by decide)) (by rfl) T.g_mark T.F_mark.kp T.b_mark .nil pass0 (pa_cons (pv 0) (pa_cons (pv 4) pa_nil)))))))
      (pss_cons (ps_set (i := 3) sc_plain_row.nd (by rfl) (by first | exact Or.inl rfl | exact Or.inr rfl) (pe_call (ok_way_in T) (hr.mono (by decide)) (by rfl) T.g_way_in T.F_way_in.kp T.b_way_in .nil pass0 (pa_cons (pv 1) pa_nil)))
      (pss_one (ps_ret (pe_call (ok_least_row T) (hr.mono (by decide)) (by rfl) T.g_least_row T.F_least_row.kp T.b_least_row .nil pass0 (pa_cons (pe_slice sl_str (pv 2) po_none (po_some (pv 3))) (pa_cons (pe_slice sl_str (pv 2) (po_some (pv 3)) po_none) pa_nil))))))), ?_⟩
    rw [show start N_plain_row [v, w] = [some (v), some (w), none, none, none] from rfl]
    rw [sg_empty]
    try dsimp only [cxK]
    have ww := ways hx
    have hle := ww.le
    have hn1 := ww.n1
    have hlen := orb_len x
    have hml := mark_len t x
    walk_at "wp"
    refine ⟨w, x, rfl, hw, hx, fun v1 H1 e1 d1 => ?_⟩
    refine lc_tup_by (K := K) (JP H1 fun i es => es = (((orbN x).take i).map fun y => [mkr t y]).map (fun c => PyData.str (Sg c))) (JP.ok rfl) d1 (by rw [List.length_map]; omega) (fun _ => rfl) ?_ ?_
    · intro i d y H' es hd hy hJ Yes No hyes hno
      obtain ⟨s2, rfl⟩ := hJ
      rw [List.getElem?_map] at hd
      obtain ⟨z, hz, rfl⟩ := Option.map_eq_some_iff.mp hd
      have pz := orb_plc hx z (List.mem_of_getElem? hz)
      have hv2 := dp_same (e1.trans s2) hv
      walk_at "wp"
      refine ⟨v, y, t, z, rfl, hv2, ht, hy, pz, fun H3 e3 => ?_⟩
      refine hyes _ H3 (.str (Sg [mkr t z])) (Keep.of e3) rfl (.str _) ⟨s2.trans e3, ?_⟩
      show _ = _
      rw [List.take_add_one, hz]
      simp
    · rintro p H2 ws es hn k2 hv2 dl ⟨s2, rfl⟩
      rw [List.length_map, List.take_length] at dl
      have hfl : ∀ l : List (Nat × Nat), (l.map fun y => [mkr t y]).flatten = l.map (mkr t) := by
        intro l
        induction l with
        | nil => rfl
        | cons a r ih => simp [ih]
      have hdl : ((orbN x).map fun y => [mkr t y]).flatten = markL t x := hfl _
      refine w_joinSg dl (by rw [hdl, hml]; omega) ?_
      rw [hdl]
      have hw2 := dp_same (e1.trans s2) hw
      walk_at "wp"
      refine ⟨w, x, rfl, hw2, hx, ?_⟩
      walk_at "wp"
      rw [cutD_to _ (by omega), cutD_from _ (by omega), Int.toNat_natCast]
      refine ⟨_, _, rfl, fun z => ?_, by rw [List.length_take]; omega, by rw [List.length_drop]; omega, fun h c r H3 lf hr l1 l2 m1 m2 e3 d3 => ?_⟩
      · have := congrArg List.length z
        rw [List.length_drop, hml] at this
        simp at this
        omega
      · rw [List.length_take] at l1
        rw [List.length_drop] at l2
        exact q h c r H3 lf hr (by omega) (by omega) (fun a ha => markL_mk t x a (List.mem_of_mem_take (m1 a ha))) (fun a ha => markL_mk t x a (List.mem_of_mem_drop (m2 a ha))) ((e1.trans s2).trans e3) d3

/-! ### _law_all_places -/
def sp__law_all_places (K : PySem.W.Frag) : Sp := fun vs H Q _ => ∃ a n : Nat, vs = [.int a, .int n] ∧ 1 ≤ n ∧ a + n ≤ 10 ∧ ∀ p us H', Same H H' → H' p = some (.lst us) → DpAll K H' us ((plN a n).map pd) → Q (.ref p) H'
theorem ok__law_all_places (T : Top K mg) : FnOk P w K mg base CX0 4 T.f__law_all_places T.fd__law_all_places ["ahead", "again"] (sp__law_all_places K) := by
  refine T.F__law_all_places.ok sc__law_all_places (fun vs H Q E h => ?_) (fun cdv A outer s H vs Q E hr h => ?_)
  · obtain ⟨a, n, rfl, _⟩ := h
    rfl
  · obtain ⟨a, n, rfl, hn1, hle, q⟩ := h
    refine ⟨_, (pss_cons (ps_set (i := 2) sc__law_all_places.nd (by rfl) (by first | exact Or.inl rfl | exact Or.inr rfl) (pe_op op_mulX (pe_call (ok__law_twos T) (hr.mono (by decide)) (by rfl) T.g__law_twos T.F__law_twos.kp T.b__law_twos .nil pass0 (pa_cons (pv 0) pa_nil)) (pe_op op_sub (pe_call (ok__law_twos T) (hr.mono (by decide)) (by rfl) T.g__law_twos T.F__law_twos.kp T.b__law_twos .nil pass0 (pa_cons (pv 1) pa_nil)) pe_int)))
      (pss_cons (ps_setLc (i := 3) (own := [("top", 4)]) (g := gName 4) (tt := tYes) (by rfl) sc__law_all_places.nd (by rfl) (by rfl) (sw_true rfl rfl rfl (by decide +kernel)) (pi_range1 (by rfl) T.z_range (pa_cons (pv 2) pa_nil)) (blkOk_by (own := [("top", 4)]) (N := N__law_all_places) (sc := defScope s__law_all_places) (by decide +kernel)) (fun _ _ _ _ _ => (pg_name (i := 4) sc__law_all_places.nd (by rfl) (by first | exact Or.inl rfl | exact Or.inr rfl))) (fun _ _ _ _ _ => pts_nil) (fun _ _ _ _ _ => (pe_call (ok__law_ratio T) (hr.mono (by decide)) (by rfl) T.g__law_ratio T.F__law_ratio.kp T.b__law_ratio .nil pass0 (pa_cons (pv 4) (pa_cons (pv 2) pa_nil)))))
      (pss_one (ps_ret (pe_lc (own := [("x", 5)]) (g := gName 5) (by rfl) sc__law_all_places.nd (pi_listK (K := K) (pv 3)) (blkOk_by (own := [("x", 5)]) (N := N__law_all_places) (sc := defScope s__law_all_places) (by decide +kernel)) (fun _ _ _ _ _ => (pg_name (i := 5) sc__law_all_places.nd (by rfl) (by first | exact Or.inl rfl | exact Or.inr rfl))) (fun _ _ _ _ _ => (pts_one (pt_cmpR (op_eqK (K := K) hr.units) (pe_call (ok__law_ways T) (hr.mono (by decide)) (by rfl) T.g__law_ways T.F__law_ways.kp T.b__law_ways .nil pass0 (pa_cons (pv 5) pa_nil)) (pe_tup (pa_cons (pv 0) (pa_cons (pv 1) pa_nil))) (nomark _)))) (fun _ _ _ _ _ => (pv 5))))))), ?_⟩
    rw [show start N__law_all_places [.int a, .int n] = [some (.int a), some (.int n), none, none, none, none] from rfl]
    try dsimp only [cxK]
    walk_at "wp"
    refine ⟨a, rfl, by omega, ?_⟩
    walk_at "wp"
    refine ⟨n, rfl, by omega, ?_⟩
    walk_at "wp"
    have hp := two_pow_pos n
    have hp2 := two_pow_pos a
    have hbt := bt_pos (a := a) hn1
    have hbl := bt_le hle
    have hb2 : 2 ^ n ≤ 2 ^ 10 := Nat.pow_le_pow_right (by decide) (by omega)
    have hb3 : 2 ^ a ≤ 2 ^ 10 := Nat.pow_le_pow_right (by decide) (by omega)
    refine w_rI (mulS ⟨by omega, by omega⟩ ⟨by omega, by omega⟩) ?_
    have e3 : ((2 ^ a : Nat) : Int) * (((2 ^ n : Nat) : Int) - 1) = ((bt a n : Nat) : Int) := by
      unfold bt
      rw [Int.natCast_mul, Int.natCast_sub (by omega)]
      rfl
    rw [e3]
    walk_at "wp"
    refine lc_rng1_by (K := K) (JP H fun i es => es = ((List.range i).map fun t => red t (bt a n)).map pd) (JP.ok rfl) (by omega) (fun _ => rfl) ?_ ?_
    · rintro i H1 es hi ⟨s1, rfl⟩ Yes No hyes hno
      walk_at "wp"
      refine ⟨i, bt a n, rfl, hbt, by omega, fun v2 H2 e2 d2 => ?_⟩
      refine hyes _ H2 (pd (red i (bt a n))) (Keep.of e2) rfl d2 ⟨s1.trans e2, ?_⟩
      show _ = _
      rw [List.range_succ, List.map_append, List.map_append]
      rfl
    · rintro p H1 ws es hn1' k1 hv1 dl ⟨s1, rfl⟩
      rw [Int.toNat_natCast] at dl
      walk_at "wp"
      refine lc_list_byA (K := K) (JP H1 fun i es => es = (((((List.range (bt a n)).map fun t => red t (bt a n)).take i).filter fun x => wayN x == a && perN x == n)).map pd) (JP.ok rfl) dl (by rw [List.length_map, List.length_map, List.length_range]; omega) (fun _ => rfl) ?_ ?_
      · intro i d y H2 es hd hy hJ Yes No hyes hno
        obtain ⟨s2, rfl⟩ := hJ
        rw [List.getElem?_map] at hd
        obtain ⟨z, hz, rfl⟩ := Option.map_eq_some_iff.mp hd
        have pz : Plc z := by
          obtain ⟨t, ht, rfl⟩ := List.mem_map.mp (List.mem_of_getElem? hz)
          exact bt_plc hn1 (by omega) (List.mem_range.mp ht)
        have htk : ((List.range (bt a n)).map fun t => red t (bt a n)).take (i + 1) = ((List.range (bt a n)).map fun t => red t (bt a n)).take i ++ [z] := by rw [List.take_add_one, hz]; rfl
        walk_at "wp"
        refine ⟨y, z, rfl, hy, pz, fun v3 H3 e3 d3 => ?_⟩
        walk_at "wp"
        refine w_newT (K := K) (ds := [.int (a : Int), .int (n : Int)]) (len_ok (by simp)) (.cons (.int _) (dpa_one (.int _))) fun p4 H4 n4 e4 d4 => ?_
        refine w_eqP (dp_same e4 d3) d4 (pd_pln _) rfl (fun hw => ?_) (fun hw => ?_)
        · have hw2 : (wayN z, perN z) = (a, n) := pd_inj hw
          walk_at "wp"
          refine hyes _ H4 (pd z) (Keep.of (e3.trans e4)) rfl (dp_same (e3.trans e4) hy) ⟨s2.trans (e3.trans e4), ?_⟩
          show _ = _
          have : (wayN z == a && perN z == n) = true := by rw [Bool.and_eq_true, beq_iff_eq, beq_iff_eq]; exact ⟨congrArg Prod.fst hw2, congrArg Prod.snd hw2⟩
          rw [htk, List.filter_append, List.filter_cons, if_pos this, List.map_append]
          rfl
        · walk_at "wp"
          refine hno _ (Keep.of (e3.trans e4)) ⟨s2.trans (e3.trans e4), ?_⟩
          show _ = _
          have : ¬ (wayN z == a && perN z == n) = true := fun h => by
            rw [Bool.and_eq_true, beq_iff_eq, beq_iff_eq] at h
            exact hw (by rw [h.1, h.2]; rfl)
          rw [htk, List.filter_append, List.filter_cons, if_neg this]
          simp
      · rintro p2 H2 ws2 es hn2 k2 hv2 dl2 ⟨s2, rfl⟩
        rw [List.length_map, List.take_length] at dl2
        walk_at "wp"
        exact q _ _ H2 (s1.trans s2) hv2 dl2

/-! ### _law_lines -/
def sp__law_lines (K : PySem.W.Frag) : Sp := fun vs H Q _ => ∃ p q : Nat, vs = [.int (p : Int), .int (q : Int)] ∧ 1 ≤ p ∧ p < q ∧ q ≤ 24 ∧ ∀ v H', Same H H' → Dp K H' v (.tuple [pd (binN [] (insN p q ++ [48, 49])), pd (binN [] (insN p q ++ [49, 48]))]) → Q v H'
theorem ok__law_lines (T : Top K mg) : FnOk P w K mg base CX0 4 T.f__law_lines T.fd__law_lines ["p", "q"] (sp__law_lines K) := by
  refine T.F__law_lines.ok sc__law_lines (fun vs H Q E h => ?_) (fun cdv A outer s H vs Q E hr h => ?_)
  · obtain ⟨p, q, rfl, _⟩ := h
    rfl
  · obtain ⟨P', N, rfl, a1, a2, a3, q⟩ := h
    refine ⟨_, (pss_cons (ps_set (i := 2) sc__law_lines.nd (by rfl) (by first | exact Or.inl rfl | exact Or.inr rfl) (pe_slice sl_str (pe_joinD (K := K) pe_str (pe_lc (own := [("k", 3)]) (g := gName 3) (tt := tYes) (by rfl) sc__law_lines.nd (pi_range2 (by rfl) T.z_range (pa_cons pe_int (pa_cons (pe_op op_add (pv 1) pe_int) pa_nil))) (blkOk_by (own := [("k", 3)]) (N := N__law_lines) (sc := defScope s__law_lines) (by decide +kernel)) (fun _ _ _ _ _ => (pg_name (i := 3) sc__law_lines.nd (by rfl) (by first | exact Or.inl rfl | exact Or.inr rfl))) (fun _ _ _ _ _ => pts_nil) (fun _ _ _ _ _ => (pe_callTy cl_strI (by rfl) T.z_str (by decide +kernel) (pa_cons (pe_op op_sub (pe_op op_fdivW (pe_op op_mulX (pv 3) (pv 0)) (pv 1)) (pe_op op_fdivW (pe_op op_mulX (pe_op op_sub (pv 3) pe_int) (pv 0)) (pv 1))) pa_nil))))) (po_some pe_int) (po_some (pe_un un_neg pe_int))))
      (pss_one (ps_ret (pe_tup (pa_cons (pe_call (ok__law_binary T) (hr.mono (by decide)) (by rfl) T.g__law_binary T.F__law_binary.kp T.b__law_binary .nil pass0 (pa_cons pe_str (pa_cons (pe_op op_addS (pv 2) pe_str) pa_nil))) (pa_cons (pe_call (ok__law_binary T) (hr.mono (by decide)) (by rfl) T.g__law_binary T.F__law_binary.kp T.b__law_binary .nil pass0 (pa_cons pe_str (pa_cons (pe_op op_addS (pv 2) pe_str) pa_nil))) pa_nil)))))), ?_⟩
    rw [show start N__law_lines [.int (P' : Int), .int (N : Int)] = [some (.int (P' : Int)), some (.int (N : Int)), none, none] from rfl]
    rw [show Str.ofString "" = Sg [] by decide +kernel, show Str.ofString "01" = Sg [48, 49] by decide +kernel, show Str.ofString "10" = Sg [49, 48] by decide +kernel]
    try dsimp only [cxK]
    walk_at "wp"
    refine lc_rng2_by (K := K) (JP H fun j es => es = (List.range j).map fun k => PyData.str (Sg [lnD P' N k])) (JP.ok rfl) (by omega) (fun _ => rfl) ?_ ?_
    · rintro j H1 es hj ⟨s1, rfl⟩ Yes No hyes hno
      walk_at "wp"
      rw [lnD_int (by omega : P' < N) j]
      have e0 : ((toString (0 : Int) : String) : Str) = Sg [48] := by decide +kernel
      have e1 : ((toString (1 : Int) : String) : Str) = Sg [49] := by decide +kernel
      have en : ((List.range (j + 1)).map fun k => PyData.str (Sg [lnD P' N k])) = ((List.range j).map fun k => PyData.str (Sg [lnD P' N k])) ++ [PyData.str (Sg [lnD P' N j])] := by
        rw [List.range_succ, List.map_append]
        rfl
      rcases lnD_bit (by omega : P' < N) j with z | z
      · rw [z]
        refine w_strI (by decide) ?_
        rw [show ((48 - 48 : Nat) : Int) = 0 from rfl, e0]
        refine hyes _ _ (.str (Sg [48])) (Keep.refl _) rfl (.str _) ⟨s1, ?_⟩
        show _ = _
        rw [en, z]
      · rw [z]
        refine w_strI (by decide) ?_
        rw [show ((49 - 48 : Nat) : Int) = 1 from rfl, e1]
        refine hyes _ _ (.str (Sg [49])) (Keep.refl _) rfl (.str _) ⟨s1, ?_⟩
        show _ = _
        rw [en, z]
    · rintro p5 H5 us es n5 k5 f5 d5 ⟨s5, rfl⟩
      walk_at "wp"
      rw [show ((N : Int) + 1 - 1).toNat = N by omega] at d5
      have ef := flat_one (lnD P' N) (List.range N)
      refine w_joinSg (ys := (List.range N).map fun k => [lnD P' N k]) (by rw [List.map_map]; exact d5) (by rw [ef]; simp; omega) ?_
      rw [ef]
      have hd : Dg (lnN P' N) := lnN_dg a2
      have hl := lnN_len P' N
      walk_at "wp"
      refine w_slS (by rw [sg_len, List.length_map, List.length_range, sizeLine_eq]; omega) ?_
      rw [sg_cut]
      have hi : cutD ((List.range N).map (lnD P' N)) (some 1) (some (-1)) = insN P' N := rfl
      rw [hi]
      have hdi : Dg (insN P' N) := fun c hc => hd c (by unfold insN cutD at hc; exact List.mem_of_mem_drop (List.mem_of_mem_take hc))
      have hli : (insN P' N).length ≤ 24 := by
        have := cutD_len (lnN P' N) (some 1) (some (-1))
        unfold insN
        omega
      have da : ∀ e : List Nat, Dg e → Dg (insN P' N ++ e) := fun e he c hc => (List.mem_append.mp hc).elim (hdi c) (he c)
      walk_at "wp"
      refine w_addSg (by simp only [List.length_cons, List.length_nil]; omega) ?_
      walk_at "wp"
      refine ⟨[], insN P' N ++ [48, 49], rfl, fun c hc => (nomatch hc), da _ (fun c hc => by simp at hc; omega), by simp, by simp only [List.length_append, List.length_cons, List.length_nil]; omega, fun v1 H6 e6 d6 => ?_⟩
      walk_at "wp"
      refine w_addSg (by simp only [List.length_cons, List.length_nil]; omega) ?_
      walk_at "wp"
      refine ⟨[], insN P' N ++ [49, 48], rfl, fun c hc => (nomatch hc), da _ (fun c hc => by simp at hc; omega), by simp, by simp only [List.length_append, List.length_cons, List.length_nil]; omega, fun v2 H7 e7 d7 => ?_⟩
      walk_at "wp"
      refine w_newT (K := K) (ds := [pd (binN [] (insN P' N ++ [48, 49])), pd (binN [] (insN P' N ++ [49, 48]))]) (len_ok (by simp)) (.cons (dp_same e7 d6) (dpa_one d7)) fun p8 H8 n8 e8 d8 => ?_
      exact q _ _ (((s5.trans e6).trans e7).trans e8) d8

/-! ### kneading -/
def sp_kneading (K : PySem.W.Frag) : Sp := fun vs H Q _ => ∃ v t, vs = [v] ∧ Dp K H v (pd t) ∧ Plc t ∧ ∀ h c r H', LF h c → (∀ n : Nat, rz h c n = rz ((markL t t).take (wayN t)) ((markL t t).drop (wayN t)) n) → h.length ≤ 24 → c.length ≤ 24 → Mk h → Mk c → Same H H' → Dp K H' r (rowD h c) → Q r H'
theorem ok_kneading (T : Top K mg) : FnOk P w K mg base CX0 5 T.f_kneading T.fd_kneading ["t"] (sp_kneading K) := by
  refine T.F_kneading.ok sc_kneading (fun vs H Q E h => ?_) (fun cdv A outer s H vs Q E hr h => ?_)
  · obtain ⟨v, t, rfl, _⟩ := h
    rfl
  · obtain ⟨v, t, rfl, hv, ht, q⟩ := h
    refine ⟨_, (pss_one (ps_ret (pe_call (ok_plain_row T) (hr.mono (by decide)) (by rfl) T.g_plain_row T.F_plain_row.kp T.b_plain_row .nil pass0 (pa_cons (pv 0) (pa_cons (pv 0) pa_nil))))), ?_⟩
    rw [show start N_kneading [v] = [some (v)] from rfl]
    try dsimp only [cxK]
    walk_at "wp"
    exact ⟨v, v, t, t, rfl, hv, ht, hv, ht, q⟩

/-! ### _law_pairs -/
/-- the value: a list of pairs -/
def PrA (K : PySem.W.Frag) (H : Hp) (v : V) (i : Nat) : Prop := ∃ q us, v = .ref q ∧ H q = some (.lst us) ∧ DpAll K H us ((prL.getD i []).map chd)
theorem PrA.same {K : PySem.W.Frag} {H H' : Hp} {v : V} {i : Nat} (e : Same H H') (h : PrA K H v i) : PrA K H' v i := by
  obtain ⟨q, us, rfl, h1, h2⟩ := h
  exact ⟨q, us, rfl, e _ _ h1, dpa_same e h2⟩
theorem PrA.keep {K : PySem.W.Frag} {H H' : Hp} {v : V} {i : Nat} (e : Keep H H') (h : PrA K H v i) : PrA K H' v i := by
  obtain ⟨q, us, rfl, h1, h2⟩ := h
  exact ⟨q, us, rfl, e _ _ (fun _ z => nomatch z) h1, dpa_keep e h2⟩
def kysN (m : Nat) : List Key := (List.range m).map fun j => Sum.inl ((j + 2 : Nat) : Int)
def sp__law_pairs (K : PySem.W.Frag) : Sp := fun vs H Q _ => ∃ n : Nat, vs = [.int (n : Int)] ∧ 2 ≤ n ∧ n ≤ 7 ∧ ∀ p kvs H', H p = none → Same H H' → H' p = some (.dK kvs) → kvs.map (·.1) = kysN (n - 1) → (∀ i, i + 2 ≤ n → ∃ v, valV kvs (.inl ((i + 2 : Nat) : Int)) = some v ∧ PrA K H' v i) → Q (.ref p) H'
theorem ok__law_pairs (T : Top K mg) : FnOk P w K mg base CX0 5 T.f__law_pairs T.fd__law_pairs ["most"] (sp__law_pairs K) := by
  refine T.F__law_pairs.ok sc__law_pairs (fun vs H Q E h => ?_) (fun cdv A outer s H vs Q E hr h => ?_)
  · obtain ⟨n, rfl, _⟩ := h
    rfl
  · obtain ⟨n, rfl, h1, h2, q⟩ := h
    refine ⟨_, (pss_cons (ps_par (i := 1) (j := 2) (by rfl) sc__law_pairs.nd (by rfl) (by rfl) (by decide) (by rfl) (by rfl) (pa_cons pe_dnewK (pa_cons (pe_lst pa_nil) pa_nil)) (by rfl))
      (pss_cons (ps_for PassesOwn.never (by rfl) (pi_range2 (by rfl) T.z_range (pa_cons pe_int (pa_cons (pe_op op_add (pv 0) pe_int) pa_nil))) (pg_name (i := 3) sc__law_pairs.nd (by rfl) (by first | exact Or.inl rfl | exact Or.inr rfl)) (pss_cons (ps_set (i := 4) sc__law_pairs.nd (by rfl) (by first | exact Or.inl rfl | exact Or.inr rfl) (pe_dxNewK (P := P) (w := w) rfl rfl))
      (pss_cons (ps_for PassesOwn.never (by rfl) (pi_listK (K := K) (pv 2)) (pg_tupK (K := K) (n := 2) (by rfl) (pgs_cons (pg_name (i := 5) sc__law_pairs.nd (by rfl) (by first | exact Or.inl rfl | exact Or.inr rfl)) (pgs_cons (pg_name (i := 6) sc__law_pairs.nd (by rfl) (by first | exact Or.inl rfl | exact Or.inr rfl)) pgs_nil))) (pss_cons (ps_dxPutK (P := P) (w := w) (K := K) rfl rfl rfl (hu_of hr) (pv 4) (pv 5) pe_int rfl)
      (pss_one (ps_dxPutK (P := P) (w := w) (K := K) rfl rfl rfl (hu_of hr) (pv 4) (pv 6) (pe_un un_neg pe_int) rfl))))
      (pss_cons (ps_set (i := 7) sc__law_pairs.nd (by rfl) (by first | exact Or.inl rfl | exact Or.inr rfl) (pe_call (ok__law_all_places T) (hr.mono (by decide)) (by rfl) T.g__law_all_places T.F__law_all_places.kp T.b__law_all_places .nil pass0 (pa_cons pe_int (pa_cons (pv 3) pa_nil))))
      (pss_cons (ps_asg (pe_tup (pa_cons (pe_lst (pa_cons pe_non pa_nil)) (pa_cons (pe_dxNewK (P := P) (w := w) rfl rfl) pa_nil))) (pg_tupK (K := K) (n := 2) (by rfl) (pgs_cons (pg_name (i := 8) sc__law_pairs.nd (by rfl) (by first | exact Or.inl rfl | exact Or.inr rfl)) (pgs_cons (pg_name (i := 9) sc__law_pairs.nd (by rfl) (by first | exact Or.inl rfl | exact Or.inr rfl)) pgs_nil))))
      (pss_cons (ps_for PassesOwn.never (by rfl) (pi_listK (K := K) (pe_call (ok__law_sorted T) (hr.mono (by decide)) (by rfl) T.g__law_sorted T.F__law_sorted.kp T.b__law_sorted .nil pass0 (pa_cons (pe_op op_catL (pe_op op_catL (pv 7) (pe_lc (own := [("a", 5), ("b", 6)]) (g := gTup K 2 (gCons (gName 5) (gCons (gName 6) gNil))) (tt := tYes) (by rfl) sc__law_pairs.nd (pi_listK (K := K) (pv 2)) (blkOk_by (own := [("a", 5), ("b", 6)]) (N := N__law_pairs) (sc := defScope s__law_pairs) (by decide +kernel)) (fun _ _ _ _ _ => (pg_tupK (K := K) (n := 2) (by rfl) (pgs_cons (pg_name (i := 5) sc__law_pairs.nd (by rfl) (by first | exact Or.inl rfl | exact Or.inr rfl)) (pgs_cons (pg_name (i := 6) sc__law_pairs.nd (by rfl) (by first | exact Or.inl rfl | exact Or.inr rfl)) pgs_nil)))) (fun _ _ _ _ _ => pts_nil) (fun _ _ _ _ _ => (pv 5)))) (pe_lc (own := [("a", 5), ("b", 6)]) (g := gTup K 2 (gCons (gName 5) (gCons (gName 6) gNil))) (tt := tYes) (by rfl) sc__law_pairs.nd (pi_listK (K := K) (pv 2)) (blkOk_by (own := [("a", 5), ("b", 6)]) (N := N__law_pairs) (sc := defScope s__law_pairs) (by decide +kernel)) (fun _ _ _ _ _ => (pg_tupK (K := K) (n := 2) (by rfl) (pgs_cons (pg_name (i := 5) sc__law_pairs.nd (by rfl) (by first | exact Or.inl rfl | exact Or.inr rfl)) (pgs_cons (pg_name (i := 6) sc__law_pairs.nd (by rfl) (by first | exact Or.inl rfl | exact Or.inr rfl)) pgs_nil)))) (fun _ _ _ _ _ => pts_nil) (fun _ _ _ _ _ => (pv 6)))) pa_nil))) (pg_name (i := 10) sc__law_pairs.nd (by rfl) (by first | exact Or.inl rfl | exact Or.inr rfl)) (pss_one (ps_if (pt_cmpR op_eq (pe_dxGet2K (P := P) (w := w) (K := K) rfl rfl rfl (hu_of hr) (pv 4) (pv 10) pe_int ⟨by rfl, by rfl, by rfl, by rfl⟩) pe_int (nomark _)) (pss_one (ps_expr (pe_bm PySem.F.plainAttrs_list PySem.F.slot_list_append PySem.F.type_list_append mt_append (pv 8) (pa_cons pe_non pa_nil)))) (pss_one (ps_if (pt_cmpR op_eq (pe_dxGet2K (P := P) (w := w) (K := K) rfl rfl rfl (hu_of hr) (pv 4) (pv 10) pe_int ⟨by rfl, by rfl, by rfl, by rfl⟩) (pe_un un_neg pe_int) (nomark _)) (pss_one (ps_expr (pe_bm0 PySem.F.plainAttrs_list PySem.F.slot_list_pop PySem.F.type_list_pop mt_pop (pv 8)))) (pss_one (ps_if (pt_cmpR op_isN1 (pe_ix (ix_listK (K := K)) (pv 8) (pe_un un_neg pe_int) (fun _ _ => rfl)) pe_non (nomark _)) (pss_one (ps_asg (pv 10) (pg_sub (pv 8) (pe_un un_neg pe_int) set_list))) (pss_cons (ps_dxPutK (P := P) (w := w) (K := K) rfl rfl rfl (hu_of hr) (pv 9) (pe_ix (ix_listK (K := K)) (pv 8) (pe_un un_neg pe_int) (fun _ _ => rfl)) (pv 10) rfl)
      (pss_one (ps_asg pe_non (pg_sub (pv 8) (pe_un un_neg pe_int) set_list)))))))))))
      (pss_cons (ps_dput (hu_of hr) (pv 1) (pv 3) (pe_lc (own := [("a", 5)]) (g := gName 5) (tt := tYes) (by rfl) sc__law_pairs.nd (pi_listK (K := K) (pe_call (ok__law_sorted T) (hr.mono (by decide)) (by rfl) T.g__law_sorted T.F__law_sorted.kp T.b__law_sorted .nil pass0 (pa_cons (pe_callTy (call_dxListK (P := P) (w := w) (K := K) rfl rfl rfl rfl) (by rfl) T.z_list (by decide +kernel) (pa_cons (pv 9) pa_nil)) pa_nil))) (blkOk_by (own := [("a", 5)]) (N := N__law_pairs) (sc := defScope s__law_pairs) (by decide +kernel)) (fun _ _ _ _ _ => (pg_name (i := 5) sc__law_pairs.nd (by rfl) (by first | exact Or.inl rfl | exact Or.inr rfl))) (fun _ _ _ _ _ => pts_nil) (fun _ _ _ _ _ => (pe_tup (pa_cons (pv 5) (pa_cons (pe_dxIxK (P := P) (w := w) (K := K) rfl rfl rfl (hu_of hr) (pv 9) (pv 5) (fun _ _ => rfl)) pa_nil))))) rfl)
      (pss_one (ps_set (i := 2) sc__law_pairs.nd (by rfl) (by first | exact Or.inl rfl | exact Or.inr rfl) (pe_op op_catL (pv 2) (pe_dget (hu_of hr) (pv 1) (pv 3) (fun _ _ => rfl))))))))))))
      (pss_one (ps_ret (pv 1))))), ?_⟩
    rw [show start N__law_pairs [.int (n : Int)] = [some (.int (n : Int)), none, none, none, none, none, none, none, none, none, none] from rfl]
    try dsimp only [cxK]
    walk_at "wp"
    intro pf nf
    have ef : Same H (upd H pf (.dK [])) := same_new nf
    have ff : upd H pf (.dK []) pf = some (.dK []) := upd_same
    generalize upd H pf (.dK []) = H1 at *
    walk_at "wp"
    refine w_newL (K := K) (len_ok (by simp)) .nil fun pc H2 n2 e2 f2 d2 => ?_
    walk_at "wp"
    refine forR2_by (fun i σ' H' => ∃ (pc : Addr) (us : List V) (kvs : List (Key × V)) (y3 y4 y5 y6 y7 y8 y9 y10 : Option V), σ' = [some (.int (n : Int)), some (.ref pf), some (.ref pc), y3, y4, y5, y6, y7, y8, y9, y10] ∧ Same H H' ∧ H' pf = some (.dK kvs) ∧ kvs.map (·.1) = kysN i ∧
        (∀ j, j < i → ∃ v, valV kvs (.inl ((j + 2 : Nat) : Int)) = some v ∧ PrA K H' v j) ∧ H' pc = some (.lst us) ∧ DpAll K H' us ((chsN i).map chd)) (by omega)
      ⟨pc, [], [], none, none, none, none, none, none, none, none, rfl, ef.trans e2, e2 _ _ ff, rfl, fun j hj => by omega, f2, .nil⟩ ?_ ?_
    · rintro i σ' H3 hi ⟨pc, us, kvs, y3, y4, y5, y6, y7, y8, y9, y10, rfl, s3, g3, gk, gv, gc, dc⟩
      have hi5 : i < 6 := by omega
      have hok := List.all_eq_true.mp okP_all i (List.mem_range.mpr hi5)
      unfold okP at hok
      have hclen : (chsN i).length ≤ 200 := of_decide_eq_true (List.all_eq_true.mp chs_lens i (List.mem_range.mpr hi5))
      have dcl : Dp K H3 (.ref pc) (.list ((chsN i).map chd)) := dp_newL gc dc
      walk_at "wp"
      refine w_dxNew (K := K) fun pe H4 n4 e4 x4 u4 => ?_
      walk_at "wp"
      refine forL_by0' (fun j σ' H' => ∃ (ks : DxL) (y5 y6 : Option V), σ' = [some (.int (n : Int)), some (.ref pf), some (.ref pc), some (.int (2 + (i : Int))), some (.ref pe), y5, y6, y7, y8, y9, y10] ∧ Same H3 H' ∧ DxAt P w K H' pe ks ∧ ks.length ≤ 2 * j ∧ ∀ x, valX ks (pk x) = (endO ((chsN i).take j) x).map V.int) dcl (Keep.of e4) ⟨[], _, _, rfl, e4, x4, by simp, fun x => rfl⟩ ?_ ?_ ?_
      · rintro j σ' H' _ ⟨_, _, _, _, k, _⟩
        exact Keep.of k
      · rintro j d y σ' H5 hd hy ⟨ks, y5, y6, rfl, s5, x5, l5, v5⟩
        rw [List.getElem?_map] at hd
        obtain ⟨c, hc, rfl⟩ := Option.map_eq_some_iff.mp hd
        have hjl := (List.getElem?_eq_some_iff.mp hc).1
        refine w_gTup2 hy fun v1 v2 g1 g2 => ?_
        obtain ⟨b1, rfl, k1⟩ := pk_dp g1
        obtain ⟨b2, rfl, k2⟩ := pk_dp g2
        walk_at "wp"
        refine ⟨pe, ks, pk c.1, b1, rfl, rfl, x5, by omega, k1, ?_⟩
        have x6 := x5.put (v := .int 1) (by omega) k1
        have k2' := seqT_dx (ob := DxO P w pe (putX ks (pk c.1) b1 (.int 1))) x5.at_ k2
        have s6 := same_mut (o := DxO P w pe (putX ks (pk c.1) b1 (.int 1))) s5 n4
        generalize hH6 : upd H5 pe (DxO P w pe (putX ks (pk c.1) b1 (.int 1))) = H6 at *
        walk_at "wp"
        have hl1 := putX_len ks (pk c.1) b1 (.int 1)
        refine ⟨pe, _, pk c.2, b2, rfl, rfl, x6, by omega, k2', ?_⟩
        have x7 := x6.put (v := .int (-1)) (by omega) k2'
        have hl2 := putX_len (putX ks (pk c.1) b1 (.int 1)) (pk c.2) b2 (.int (-1))
        refine ⟨_, _, _, rfl, same_mut s6 n4, x7, by omega, fun x => ?_⟩
        rw [valX_put, valX_put, List.take_add_one, hc, Option.toList, endO_snoc, v5 x]
        by_cases z2 : x = c.2
        · rw [if_pos z2, if_pos (by rw [z2])]; rfl
        · rw [if_neg z2, if_neg fun z => z2 (pk_inj z)]
          by_cases z1 : x = c.1
          · rw [if_pos z1, if_pos (by rw [z1])]; rfl
          · rw [if_neg z1, if_neg fun z => z1 (pk_inj z)]
      · rintro σ' H5 ⟨ks, y5, y6, rfl, s5, x5, l5, v5⟩
        walk_at "wp"
        rw [List.length_map, List.take_length] at v5
        refine ⟨0, 2 + i, by simp, by omega, by omega, fun pl ul H6 e6 gl dl => ?_⟩
        have xe6 := x5.same e6
        walk_at "wp"
        refine w_newL (K := K) (len_ok (by simp)) (dpa_one .non) fun pw H7 n7 e7 gw d7 => ?_
        walk_at "wp"
        refine w_dxNew (K := K) fun pp H8 n8 e8 x8 u8 => ?_
        have gw8 := e8 _ _ gw
        walk_at "wp"
        refine ⟨len_ok (by simp), fun pt nt => ?_⟩
        have e9 := same_new (o := .tup [.ref pw, .ref pp]) nt
        have gt : upd H8 pt (.tup [.ref pw, .ref pp]) pt = some (.tup [.ref pw, .ref pp]) := upd_same
        generalize upd H8 pt (.tup [.ref pw, .ref pp]) = H9 at *
        refine w_gTup (SqT.of gt) rfl ⟨_, _, rfl, ?_⟩
        refine ⟨_, _, rfl, rfl, ?_⟩
        dsimp only [gName]
        walk_at "wp"
        have e69 := (e7.trans e8).trans e9
        have dcl6 := dp_same (s5.trans e6) dcl
        have src : ∀ H', Same H6 H' → Dp K H' (.ref pc) (.list (((chsN i).map fun c => (pd c.1, pd c.2)).map fun d => .tuple [d.1, d.2])) := fun H' e => by
          rw [List.map_map]
          exact dp_same e dcl6
        refine lcL2_by (K := K) (JP H9 fun j es => es = (((chsN i).take j).map (·.1)).map pd) (JP.ok rfl) (src _ e69) (by rw [List.length_map]; omega) (fun _ _ => rfl) ?_ ?_
        · rintro j d y z H' es hd hy hz ⟨s', rfl⟩ Yes No hyes hno
          rw [List.getElem?_map] at hd
          obtain ⟨c, hc, rfl⟩ := Option.map_eq_some_iff.mp hd
          walk_at "wp"
          refine hyes _ _ (pd c.1) (Keep.refl _) (pd_noL _) hy ⟨s', ?_⟩
          show _ = _
          rw [List.take_add_one, hc]
          simp
        rintro p10 H10 us10 es10 n10 k10 g10 d10 ⟨s10, rfl⟩
        rw [List.length_map, List.take_length] at d10
        walk_at "wp"
        have hpl : (plN 0 (2 + i)).length ≤ 200 := of_decide_eq_true (List.all_eq_true.mp pl_lens7 i (List.mem_range.mpr hi5))
        have hul := dpa_len dl
        have hul10 := dpa_len d10
        rw [List.length_map] at hul
        rw [List.length_map, List.length_map] at hul10
        have hz := sizeLine_eq
        have e6_10 := e69.trans s10
        refine w_catL (e6_10 _ _ gl) g10 (by omega) fun p11 H11 n11 e11 g11 => ?_
        walk_at "wp"
        refine lcL2_by (K := K) (JP H11 fun j es => es = (((chsN i).take j).map (·.2)).map pd) (JP.ok rfl) (src _ (e6_10.trans e11)) (by rw [List.length_map]; omega) (fun _ _ => rfl) ?_ ?_
        · rintro j d y z H' es hd hy hz ⟨s', rfl⟩ Yes No hyes hno
          rw [List.getElem?_map] at hd
          obtain ⟨c, hc, rfl⟩ := Option.map_eq_some_iff.mp hd
          walk_at "wp"
          refine hyes _ _ (pd c.2) (Keep.refl _) (pd_noL _) hz ⟨s', ?_⟩
          show _ = _
          rw [List.take_add_one, hc]
          simp
        rintro p12 H12 us12 es12 n12 k12 g12 d12 ⟨s12, rfl⟩
        rw [List.length_map, List.take_length] at d12
        have hul12 := dpa_len d12
        rw [List.length_map, List.length_map] at hul12
        walk_at "wp"
        refine w_catL (s12 _ _ g11) g12 (by rw [List.length_append]; omega) fun p13 H13 n13 e13 g13 => ?_
        have e6_13 := ((e6_10.trans e11).trans s12).trans e13
        have d13 : Dp K H13 (.ref p13) (.list ((plN 0 (2 + i) ++ (chsN i).map (·.1) ++ (chsN i).map (·.2)).map pd)) := by
          refine dp_newL g13 ?_
          rw [List.map_append, List.map_append]
          exact dpa_app (dpa_app (dpa_same e6_13 dl) (dpa_same (((e11.trans s12).trans e13)) d10)) (dpa_same e13 d12)
        walk_at "wp"
        refine ⟨_, _, rfl, d13, fun x hx => srtA_plc hi5 ((srtA_mem i x).mpr hx), by rw [List.length_append, List.length_append, List.length_map, List.length_map]; omega, fun ys pq uq H14 ha hm n14 e14 gq dq => ?_⟩
        simp only [Bool.and_eq_true, decide_eq_true_eq] at hok
        obtain ⟨⟨hasc, hsl⟩, hrun⟩ := hok
        obtain rfl : ys = srtA i := asc_unique ha (ascB_pw hasc) fun x => (hm x).trans (srtA_mem i x).symm
        have e9_14 := (((s10.trans e11).trans s12).trans e13).trans e14
        have x14 : DxAt P w K H14 pp [] := (x8.same e9).same e9_14
        have gw14 := e9_14 _ _ (e9 _ _ gw8)
        have e6_14 := e69.trans e9_14
        have hpp : pp ≠ pw := (ne_of_none gw n8).symm
        have nw6 : H6 pw = none := n7
        have np6 : H6 pp = none := keep_free e7 n8
        have hqw : pq ≠ pw := fun z => by rw [z] at n14; rw [e13 _ _ (s12 _ _ (e11 _ _ (s10 _ _ (e9 _ _ gw8))))] at n14; cases n14
        have hqp : pq ≠ pp := fun z => by rw [z] at n14; rw [e13 _ _ (s12 _ _ (e11 _ _ (s10 _ _ (e9 _ _ x8.at_))))] at n14; cases n14
        have huq := dpa_len dq
        refine forL_byR (us := uq) (ds := (srtA i).map pd) (fun j σ' H' => ∃ (wv : List V) (ws : List (Option Pt)) (kp : DxL) (ps : List (Pt × Pt)) (y10 : Option V),
          σ' = [some (.int (n : Int)), some (.ref pf), some (.ref pc), some (.int (2 + (i : Int))), some (.ref pe), y5, y6, some (.ref pl), some (.ref pw), some (.ref pp), y10] ∧ Same H6 H' ∧ H' pq = some (.lst uq) ∧ DpAll K H' uq ((srtA i).map pd) ∧
          H' pw = some (.lst wv) ∧ WsR K H' wv ws ∧ wv.length ≤ j + 1 ∧ DxAt P w K H' pp kp ∧ PrtR K H' kp ps ∧ kp.length ≤ j ∧ runP i j = some (ws, ps)) huq ⟨_, [none], [], [], _, rfl, e6_14, gq, dq, gw14, .cons rfl .nil, by simp, x14, .nil, by simp, rfl⟩ ?_ ?_ ?_
        · rintro j σ' H' ⟨_, _, _, _, _, _, _, a, b, _⟩
          exact ⟨a, b⟩
        · rintro j d y σ' H' hd hy ⟨wv, ws, kp, ps, y10, rfl, s', gq', dq', gw', hw', lw', xp', hp', lp', hr'⟩
          rw [List.getElem?_map] at hd
          obtain ⟨x, hx, rfl⟩ := Option.map_eq_some_iff.mp hd
          have hjl := (List.getElem?_eq_some_iff.mp hx).1
          have hsucc := runP_succ hx
          rw [hr'] at hsucc
          have hok2 : (runP i (j + 1)).isSome = true := by
            refine runP_up (k := (srtA i).length) (by omega) ?_
            cases z : runP i (srtA i).length with
            | none => rw [z] at hrun; cases hrun
            | some _ => rfl
          obtain ⟨bx, rfl, kx⟩ := pk_dp hy
          have xe' := xe6.same s'
          walk_at "wp"
          refine ⟨pe, ks, rfl, xe', ?_⟩
          walk_at "wp"
          refine ⟨ks, pk x, bx, rfl, xe', kx, ?_⟩
          rw [v5 x]
          unfold stP at hsucc
          dsimp only at hsucc
          have upW : ∀ (wv2 : List V) (ws2 : List (Option Pt)), WsR K H' wv2 ws2 → wv2.length ≤ j + 1 + 1 → runP i (j + 1) = some (ws2, ps) → ∃ (wv : List V) (ws : List (Option Pt)) (kp : DxL) (ps : List (Pt × Pt)) (y10 : Option V),
              [some (.int (n : Int)), some (.ref pf), some (.ref pc), some (.int (2 + (i : Int))), some (.ref pe), y5, y6, some (.ref pl), some (.ref pw), some (.ref pp), some (.ref bx)] = [some (.int (n : Int)), some (.ref pf), some (.ref pc), some (.int (2 + (i : Int))), some (.ref pe), y5, y6, some (.ref pl), some (.ref pw), some (.ref pp), y10] ∧ Same H6 (upd H' pw (.lst wv2)) ∧ upd H' pw (.lst wv2) pq = some (.lst uq) ∧ DpAll K (upd H' pw (.lst wv2)) uq ((srtA i).map pd) ∧
              upd H' pw (.lst wv2) pw = some (.lst wv) ∧ WsR K (upd H' pw (.lst wv2)) wv ws ∧ wv.length ≤ j + 1 + 1 ∧ DxAt P w K (upd H' pw (.lst wv2)) pp kp ∧ PrtR K (upd H' pw (.lst wv2)) kp ps ∧ kp.length ≤ j + 1 ∧ runP i (j + 1) = some (ws, ps) := fun wv2 ws2 hw2 hl2 hr2 =>
            ⟨wv2, ws2, kp, ps, _, rfl, same_mut s' nw6, by rw [upd_ne hqw]; exact gq', dpa_upd gw' _ _ (noLs_pd _) dq', upd_same, hw2.map fun v y z => dp_upd gw' _ _ (pd_noL _) z, hl2, xp'.updL gw', hp'.map fun v y z => dp_upd gw' _ _ (pd_noL _) z, by omega, hr2⟩
          rcases endO_cases (chsN i) x with hE | hE | hE
          · rw [hE] at hsucc ⊢
            try dsimp only at hsucc
            simp only [Option.map_none, Option.getD_none]
            walk_at "wp"
            refine w_iteD (fun h => absurd h (by decide)) (fun _ => ?_)
            walk_at "wp"
            refine ⟨pe, ks, rfl, xe', ?_⟩
            walk_at "wp"
            refine ⟨ks, pk x, bx, rfl, xe', kx, ?_⟩
            rw [v5 x, hE]
            simp only [Option.map_none, Option.getD_none]
            walk_at "wp"
            refine w_iteD (fun h => absurd h (by decide)) (fun _ => ?_)
            walk_at "wp"
            cases hlast : ws.getLast? with
            | none => rw [hlast] at hsucc; rw [hsucc] at hok2; cases hok2
            | some o =>
              rw [hlast] at hsucc
              obtain ⟨us0, u0, rfl, hw0, hu0⟩ := hw'.last hlast
              rw [List.length_append, List.length_singleton] at lw'
              refine w_ixLastR gw' ?_
              cases o with
              | none =>
                obtain rfl : u0 = .non := hu0
                walk_at "wp"
                rw [decide_eq_true rfl]
                walk_at "wp"
                refine w_setLast gw' ?_
                refine upW _ _ (hw0.snoc (o := some x) hy) (by simp; omega) hsucc
              | some y0 =>
                obtain ⟨b0, rfl, k0⟩ := pk_dp (show Dp K H' u0 (pd y0) from hu0)
                try dsimp only at hsucc
                have hany : (ps.any fun p => decide (p.1 = y0)) = false := by
                  cases z : ps.any fun p => decide (p.1 = y0) with
                  | false => rfl
                  | true => rw [z] at hsucc; simp only [if_pos] at hsucc; rw [hsucc] at hok2; cases hok2
                rw [hany, if_neg (by decide)] at hsucc
                walk_at "wp"
                rw [decide_eq_false (fun z => nomatch z)]
                walk_at "wp"
                refine w_ixLastR gw' ?_
                refine ⟨pp, kp, pk y0, b0, rfl, rfl, xp', by omega, k0, ?_⟩
                have hnone : valX kp (pk y0) = none := by
                  rcases hp'.val y0 with z | ⟨a, v, z, _⟩
                  · exact z.2
                  · unfold lokP at z
                    obtain ⟨c, hc, _⟩ := Option.map_eq_some_iff.mp z
                    have := List.any_eq_false.mp hany c (List.mem_of_find?_eq_some hc)
                    exact absurd (List.find?_some (p := fun p : Pt × Pt => decide (p.1 = y0)) hc) this
                have hput : putX kp (pk y0) b0 (.ref bx) = kp ++ [(pk y0, b0, .ref bx)] := by unfold putX; rw [hnone]; rfl
                have xq := xp'.put (v := .ref bx) (by omega) k0
                rw [hput] at xq ⊢
                have kq : KeepQ H' (upd H' pp (DxO P w pp (kp ++ [(pk y0, b0, .ref bx)]))) := keepQ_dx xp'.at_
                have sq := same_mut (o := DxO P w pp (kp ++ [(pk y0, b0, .ref bx)])) s' np6
                have gwq : upd H' pp (DxO P w pp (kp ++ [(pk y0, b0, .ref bx)])) pw = some (.lst (us0 ++ [.ref b0])) := by rw [upd_ne (Ne.symm hpp)]; exact gw'
                have gqq : upd H' pp (DxO P w pp (kp ++ [(pk y0, b0, .ref bx)])) pq = some (.lst uq) := by rw [upd_ne hqp]; exact gq'
                generalize upd H' pp (DxO P w pp (kp ++ [(pk y0, b0, .ref bx)])) = HQ at *
                walk_at "wp"
                refine w_setLast gwq ?_
                have prq : PrtR K HQ (kp ++ [(pk y0, b0, .ref bx)]) (ps ++ [(y0, x)]) := (hp'.map fun v y z => DpQ kq _ _ z).snoc ⟨rfl, DpQ kq _ _ hu0, DpQ kq _ _ hy⟩
                refine ⟨_, _, _, _, _, rfl, same_mut sq nw6, by rw [upd_ne hqw]; exact gqq, dpa_upd gwq _ _ (noLs_pd _) (DpQs kq _ _ dq'), upd_same, ((hw0.map fun v y z => DpQ kq _ _ z).snoc (o := none) rfl).map fun v y z => dp_upd gwq _ _ (pd_noL _) z, by simp; omega, xq.updL gwq, prq.map fun v y z => dp_upd gwq _ _ (pd_noL _) z, by simp; omega, hsucc⟩
          · rw [hE] at hsucc ⊢
            try dsimp only at hsucc
            simp only [Option.map_some, Option.getD_some]
            walk_at "wp"
            refine w_iteD (fun _ => ?_) (fun h => absurd rfl h)
            walk_at "wp"
            refine w_tyL gw' ?_
            walk_at "wp"
            refine w_append gw' (by rw [sizeLine_eq]; omega) ?_
            exact upW _ _ (hw'.snoc (o := none) rfl) (by simp; omega) hsucc
          · rw [hE] at hsucc ⊢
            try dsimp only at hsucc
            simp only [Option.map_some, Option.getD_some]
            walk_at "wp"
            refine w_iteD (fun h => absurd h (by decide)) (fun _ => ?_)
            walk_at "wp"
            refine ⟨pe, ks, rfl, xe', ?_⟩
            walk_at "wp"
            refine ⟨ks, pk x, bx, rfl, xe', kx, ?_⟩
            rw [v5 x, hE]
            simp only [Option.map_some, Option.getD_some]
            walk_at "wp"
            have hne : ¬ ws = [] := fun z => by rw [if_pos z] at hsucc; rw [hsucc] at hok2; cases hok2
            rw [if_neg hne] at hsucc
            obtain ⟨o, ho⟩ : ∃ o, ws.getLast? = some o := ⟨_, List.getLast?_eq_some_getLast hne⟩
            obtain ⟨us0, u0, rfl, hw0, hu0⟩ := hw'.last ho
            rw [List.length_append, List.length_singleton] at lw'
            refine w_iteD (fun _ => ?_) (fun h => absurd rfl h)
            walk_at "wp"
            refine w_tyL gw' ?_
            refine w_popR gw' ?_
            exact upW _ _ hw0 (by omega) hsucc
        · rintro σ' H' ⟨wv, ws, kp, ps, y10, rfl, s', gq', dq', gw', hw', lw', xp', hp', lp', hr'⟩
          rw [List.length_map] at hr'
          rw [hr'] at hrun
          simp only [Bool.and_eq_true, decide_eq_true_eq, List.all_eq_true] at hrun
          obtain ⟨⟨⟨hasc2, hps⟩, hprs⟩, hmem⟩ := hrun
          walk_at "wp"
          refine ⟨pp, kp, rfl, xp', fun p15 n15 => ?_⟩
          obtain ⟨hkl, hkd⟩ := hp'.keys
          have e15 := same_new (o := .lst (kp.map fun x => V.ref x.2.1)) n15
          have d15 : Dp K (upd H' p15 (.lst (kp.map fun x => V.ref x.2.1))) (.ref p15) (.list ((ps.map (·.1)).map pd)) := dp_newL upd_same (dpa_same e15 hkd)
          generalize upd H' p15 (.lst (kp.map fun x => V.ref x.2.1)) = H15 at *
          walk_at "wp"
          have hplc : ∀ z ∈ ps, Plc z.1 ∧ Plc z.2 := fun z hz => ⟨pl_plc (a := 0) (n := 2 + i) (by omega) (by omega) _ (hmem z hz).1, pl_plc (a := 0) (n := 2 + i) (by omega) (by omega) _ (hmem z hz).2⟩
          refine ⟨_, _, rfl, d15, fun z hz => ?_, by omega, fun ys pq2 uq2 H16 ha2 hm2 n16 e16 gq2 dq2 => ?_⟩
          · obtain ⟨c, hc, rfl⟩ := List.mem_map.mp hz
            exact (hplc c hc).1
          obtain rfl : ys = srtP (ps.map (·.1)) := asc_unique ha2 (ascB_pw hasc2) fun x => (hm2 x).trans (srtP_perm _).mem_iff.symm
          have hsl2 : (srtP (ps.map (·.1))).length ≤ 500 := by rw [(srtP_perm _).length_eq]; exact hps
          walk_at "wp"
          have xp16 := (xp'.same e15).same e16
          have hp16 := hp'.map (H' := H16) fun v y z => dp_same (e15.trans e16) z
          refine lc_list_byA (K := K) (JP H16 fun j es => es = (((srtP (ps.map (·.1))).take j).map fun a => (a, (lokP ps a).getD (0, 0))).map chd) (JP.ok rfl) (dp_newL gq2 dq2) (by rw [List.length_map]; omega) (fun _ => rfl) ?_ ?_
          · rintro j d y H17 es hd hy ⟨s17, rfl⟩ Yes No hyes hno
            rw [List.getElem?_map] at hd
            obtain ⟨x, hx, rfl⟩ := Option.map_eq_some_iff.mp hd
            obtain ⟨bx, rfl, kx⟩ := pk_dp hy
            have xp17 := xp16.same s17
            have hp17 := hp16.map (H' := H17) fun v y z => dp_same s17 z
            have hxm : x ∈ ps.map (·.1) := (srtP_perm _).mem_iff.mp (List.mem_of_getElem? hx)
            rcases hp17.val x with ⟨z1, z2⟩ | ⟨y0, v0, z1, z2, z3⟩
            · obtain ⟨c, hc, rfl⟩ := List.mem_map.mp hxm
              unfold lokP at z1
              have := List.find?_eq_none.mp (Option.map_eq_none_iff.mp z1) c hc
              simp at this
            · walk_at "wp"
              refine ⟨pp, kp, pk x, bx, v0, rfl, rfl, xp17, kx, z2, ?_⟩
              walk_at "wp"
              refine w_newT (K := K) (ds := [pd x, pd y0]) (len_ok (by simp)) (.cons hy (dpa_one z3)) fun pt18 H18 n18 e18 d18 => ?_
              refine hyes _ _ (chd (x, y0)) (Keep.of e18) rfl d18 ⟨s17.trans e18, ?_⟩
              show _ = _
              rw [List.take_add_one, hx]
              simp [z1]
          · rintro p19 H19 us19 es19 n19 k19 g19 d19 ⟨s19, rfl⟩
            rw [List.length_map, List.take_length, hprs] at d19
            walk_at "wp"
            have e6_19 := ((s'.trans e15).trans e16).trans s19
            have e3_19 := (s5.trans e6).trans e6_19
            have f19 := e3_19 _ _ g3
            have hkn : (Sum.inl (2 + (i : Int)) : Key) ∉ kvs.map (·.1) := by
              rw [gk]
              unfold kysN
              intro z
              obtain ⟨j, hj, e⟩ := List.mem_map.mp z
              have := List.mem_range.mp hj
              have := Sum.inl.inj e
              omega
            have hkl : kvs.length ≤ 10 := by
              have := congrArg List.length gk
              rw [List.length_map] at this
              unfold kysN at this
              rw [List.length_map, List.length_range] at this
              omega
            obtain ⟨vn, pn⟩ := valK_new (v := .ref p19) hkn
            refine ⟨pf, _, rfl, DPut.k (k := .inl (2 + (i : Int))) f19 (by omega), ?_⟩
            rw [pn]
            have kd : Keep H19 (upd H19 pf (.dK (kvs ++ [(.inl (2 + (i : Int)), .ref p19)]))) := keep_dict f19
            have fd : upd H19 pf (.dK (kvs ++ [(.inl (2 + (i : Int)), .ref p19)])) pf = some (.dK (kvs ++ [(.inl (2 + (i : Int)), .ref p19)])) := upd_same
            have sd := same_mut (o := .dK (kvs ++ [(.inl (2 + (i : Int)), .ref p19)])) (s3.trans e3_19) nf
            generalize upd H19 pf (.dK (kvs ++ [(.inl (2 + (i : Int)), .ref p19)])) = H20 at *
            have ki : (Sum.inl (2 + (i : Int)) : Key) = .inl ((i + 2 : Nat) : Int) := by congr 1; omega
            walk_at "wp"
            refine ⟨pf, .ref p19, rfl, by rw [← vn]; exact DGet.k (k := .inl (2 + (i : Int))) fd, ?_⟩
            have gc20 := kd.l (e3_19 _ _ gc)
            have gn20 := kd.l g19
            have l1 := dpa_len dc
            have l2 := dpa_len d19
            rw [List.length_map] at l1 l2
            have l3 : (prL.getD i []).length ≤ 500 := by
              rw [← hprs, List.length_map]
              omega
            refine w_catL gc20 gn20 (by omega) fun p21 H21 n21 e21 g21 => ?_
            have kall : Keep H3 H21 := ((Keep.of e3_19).trans kd).trans (Keep.of e21)
            refine ⟨p21, _, _, _, _, _, _, _, _, _, _, rfl, sd.trans e21, e21 _ _ fd, ?_, fun j hj => ?_, g21, ?_⟩
            · rw [List.map_append, gk, List.map_singleton, ki]
              unfold kysN
              rw [List.range_succ, List.map_append]
              rfl
            · by_cases hji : j = i
              · subst hji
                exact ⟨_, by rw [← ki]; exact vn, p19, us19, rfl, e21 _ _ gn20, dpa_same e21 (dpa_keep kd d19)⟩
              · obtain ⟨v, h1, h2⟩ := gv j (by omega)
                exact ⟨v, valK_old h1, h2.keep kall⟩
            · have : chsN (i + 1) = chsN i ++ prL.getD i [] := by
                unfold chsN
                rw [List.take_add_one]
                have : prL[i]? = some (prL.getD i []) := by
                  rw [List.getD_eq_getElem?_getD, List.getElem?_eq_getElem (show i < prL.length from hi5)]
                  rfl
                rw [this]
                simp
              rw [this, List.map_append]
              exact dpa_app (dpa_keep kall dc) (dpa_same e21 (dpa_keep kd d19))
    · rintro σ' H3 ⟨pc, us, kvs, y3, y4, y5, y6, y7, y8, y9, y10, rfl, s3, g3, gk, gv, gc, dc⟩
      walk_at "wp"
      rw [show ((n : Int) + 1 - 2).toNat = n - 1 by omega] at gk gv
      exact q pf kvs _ nf s3 g3 gk fun i hi => gv i (by omega)

/-! ### star_word -/
def sp_star_word {K : PySem.W.Frag} {mg : Str → Option Value} (T : Top K mg) : Sp := fun vs H Q E => ∃ v t, vs = [v] ∧ Dp K H v (pd t) ∧ Plc t ∧ (wayN t = 0 → ∀ H', Same H H' → Q (.str (Sg (markL t t))) H') ∧ (wayN t ≠ 0 → E (.ref T.c_NotReturning) none H)
theorem ok_star_word (T : Top K mg) : FnOk P w K mg base (CX P w) 6 T.f_star_word T.fd_star_word ["t"] (sp_star_word T) := by
  refine T.F_star_word.okX sc_star_word (fun vs H Q E h => ?_) (fun cdv A outer s H vs Q E hr h => ?_)
  · obtain ⟨v, t, rfl, _⟩ := h
    rfl
  · obtain ⟨v, t, rfl, hv, ht, q, qe⟩ := h
    refine ⟨_, (pss_cons (ps_if (pt_not (pt_val (pe_call (ok_returns T) (hr.mono (by decide)) (by rfl) T.g_returns T.F_returns.kp T.b_returns .nil pass0 (pa_cons (pv 0) pa_nil)))) (pss_one (ps_raise rfl (takes_of rfl rfl rfl rfl) (pmk_own PySem.F.excBase_ValueError T.xq_NotReturning T.gc_NotReturning T.x_NotReturning.o.kC (raises_own T.x_NotReturning.o.exC T.x_NotReturning.o.tyC) (by rfl)))) pss_nil)
      (PSs.nox (pss_one (ps_ret (pe_ix (ix_tupK (K := K)) (pe_call (ok_kneading T) (hr.mono (by decide)) (by rfl) T.g_kneading T.F_kneading.kp T.b_kneading .nil pass0 (pa_cons (pv 0) pa_nil)) pe_int (fun _ _ => rfl)))))), ?_⟩
    rw [show start N_star_word [v] = [some (v)] from rfl]
    try dsimp only [cxK]
    walk_at "wp"
    refine ⟨v, t, rfl, hv, ht, ?_⟩
    by_cases h0 : wayN t = 0
    · have q := q h0
      rw [decide_eq_true h0]
      walk_at "wp"
      refine ⟨v, t, rfl, hv, ht, fun h c r H1 lf hr l1 l2 m1 m2 e1 d1 => ?_⟩
      have hst := star_mark ht h0
      rw [h0, List.take_zero, List.drop_zero] at hr
      obtain ⟨u1, u2⟩ := lf.unique (star_LF hst) hr
      subst u1
      subst u2
      walk_at "wp"
      exact q H1 e1
    · rw [decide_eq_false h0]
      walk_at "wp"
      exact qe h0

/-! ### is_greater -/
def sp_is_greater {K : PySem.W.Frag} {mg : Str → Option Value} (T : Top K mg) : Sp := fun vs H Q E => ∃ v t, vs = [v] ∧ Dp K H v (pd t) ∧ Plc t ∧ (wayN t = 0 → ∀ H', Same H H' → Q (.bl (grB t)) H') ∧ (wayN t ≠ 0 → E (.ref T.c_NotReturning) none H)
theorem ok_is_greater (T : Top K mg) : FnOk P w K mg base (CX P w) 7 T.f_is_greater T.fd_is_greater ["t"] (sp_is_greater T) := by
  refine T.F_is_greater.okX sc_is_greater (fun vs H Q E h => ?_) (fun cdv A outer s H vs Q E hr h => ?_)
  · obtain ⟨v, t, rfl, _⟩ := h
    rfl
  · obtain ⟨v, t, rfl, hv, ht, q, qe⟩ := h
    refine ⟨_, (pss_cons (ps_set (i := 1) sc_is_greater.nd (by rfl) (by first | exact Or.inl rfl | exact Or.inr rfl) (pe_call (ok_star_word T) (hr.mono (by decide)) (by rfl) T.g_star_word T.F_star_word.kp T.b_star_word .nil (passes_call (takes_of rfl rfl rfl rfl) (fun _ _ _ _ h => h)) (pa_cons (pv 0) pa_nil)))
      (PSs.nox (pss_cons (ps_set (i := 2) sc_is_greater.nd (by rfl) (by first | exact Or.inl rfl | exact Or.inr rfl) (pe_callB (cl_len (K := K)) (by rfl) T.z_len (by decide +kernel) (pa_cons (pv 1) pa_nil)))
      (pss_cons (ps_if (pt_cmpR op_eq (pv 2) pe_int (nomark _)) (pss_one (ps_ret pe_bl)) pss_nil)
      (pss_cons (ps_set (i := 3) sc_is_greater.nd (by rfl) (by first | exact Or.inl rfl | exact Or.inr rfl) (pe_op op_addS (pe_slice sl_str (pv 1) po_none (po_some (pe_un un_neg pe_int))) (pe_ifExp (pt_val (pe_call (ok_is_low T) (hr.mono (by decide)) (by rfl) T.g_is_low T.F_is_low.kp T.b_is_low .nil pass0 (pa_cons (pe_ix (ix_tupK (K := K)) (pe_call (ok_orbit T) (hr.mono (by decide)) (by rfl) T.g_orbit T.F_orbit.kp T.b_orbit .nil pass0 (pa_cons (pv 0) pa_nil)) (pe_un un_neg pe_int) (fun _ _ => rfl)) pa_nil))) pe_str pe_str)))
      (pss_one (ps_ret (pe_cmpR (op_notInT (K := K) (Room65 hr)) (pv 2) (pe_call (ok_address T) (hr.mono (by decide)) (by rfl) T.g_address T.F_address.kp T.b_address .nil pass0 (pa_cons (pv 3) pa_nil)) (by rfl))))))))), ?_⟩
    rw [show start N_is_greater [v] = [some (v), none, none, none] from rfl]
    rw [show Str.ofString "1" = Sg [49] by decide +kernel, show Str.ofString "0" = Sg [48] by decide +kernel]
    try dsimp only [cxK]
    walk_at "wp"
    refine ⟨v, t, rfl, hv, ht, fun h0 H1 e1 => ?_, fun h0 => qe h0⟩
    have q := q h0
    have w := ways ht
    have hle := w.le
    have hn1 := w.n1
    have hml := mark_len t t
    have hol := orb_len t
    rw [h0, Nat.zero_add] at hml hol
    have hdl : (markL t t).dropLast.length = perN t - 1 := by rw [List.length_dropLast, hml]
    have hv1 := dp_same e1 hv
    walk_at "wp"
    rw [hml]
    refine w_iteD (fun h1 => ?_) (fun h1 => ?_)
    · walk_at "wp"
      have : grB t = false := by unfold grB; rw [if_pos (by omega)]
      rw [this] at q
      exact q _ e1
    · have hg : grB t = !(addrL ((markL t t).dropLast ++ [if lowB (itN (perN t - 1) t) = true then 49 else 48])).contains (perN t) := by unfold grB; rw [if_neg (by omega)]
      rw [hg] at q
      walk_at "wp"
      rw [cutD_butlast]
      refine ⟨v, t, rfl, hv1, ht, fun v2 H2 e2 d2 => ?_⟩
      walk_at "wp"
      have hl1 : ((orbN t).map pd).getLast? = some (pd (itN (perN t - 1) t)) := by
        rw [List.getLast?_eq_getElem?, List.length_map, hol, List.getElem?_map, orb_get (by omega)]
        rfl
      refine w_ixLastT d2 hl1 fun v3 d3 => ?_
      have pi := it_plc ht (perN t - 1)
      walk_at "wp"
      refine ⟨v3, _, rfl, d3, pi, ?_⟩
      walk_at "wp"
      refine w_ite (fun e => ?_) (fun e => ?_)
      · have ef : (if lowB (itN (perN t - 1) t) = true then 49 else 48) = 49 := if_pos e
        rw [ef] at q
        walk_at "wp"
        refine w_addSg (by rw [hdl]; simp; omega) ?_
        walk_at "wp"
        refine ⟨(markL t t).dropLast ++ [49], rfl, by simp, by rw [List.length_append, hdl]; simp; omega, fun ns v4 H4 hc e4 d4 => ?_⟩
        have hns := chn_is (by simp) hc
        subst hns
        have hmem : (PyData.int (perN t : Int) ∈ ((addrL ((markL t t).dropLast ++ [49])).map fun (n : Nat) => (n : Int)).map PyData.int) ↔ (addrL ((markL t t).dropLast ++ [49])).contains (perN t) = true := by
          rw [List.contains_iff_mem]
          simp only [List.mem_map, List.map_map]
          constructor
          · rintro ⟨a, h1, h2⟩
            have : a = perN t := by
              have : ((a : Nat) : Int) = ((perN t : Nat) : Int) := PyData.int.inj h2
              omega
            rw [← this]; exact h1
          · intro h
            exact ⟨_, h, rfl⟩
        refine w_notInT (d := .int (perN t : Int)) (.int _) d4 rfl (pln_intsT _) (fun hm => ?_) (fun hm => ?_)
        · rw [hmem.mp hm] at q
          exact q _ ((e1.trans e2).trans e4)
        · have : (addrL ((markL t t).dropLast ++ [49])).contains (perN t) = false := by
            cases z : (addrL ((markL t t).dropLast ++ [49])).contains (perN t) with
            | false => rfl
            | true => exact absurd (hmem.mpr z) hm
          rw [this] at q
          exact q _ ((e1.trans e2).trans e4)
      · have ef : (if lowB (itN (perN t - 1) t) = true then 49 else 48) = 48 := if_neg (by show ¬ decide _ = true; rw [e]; exact Bool.false_ne_true)
        rw [ef] at q
        walk_at "wp"
        refine w_addSg (by rw [hdl]; simp; omega) ?_
        walk_at "wp"
        refine ⟨(markL t t).dropLast ++ [48], rfl, by simp, by rw [List.length_append, hdl]; simp; omega, fun ns v4 H4 hc e4 d4 => ?_⟩
        have hns := chn_is (by simp) hc
        subst hns
        have hmem : (PyData.int (perN t : Int) ∈ ((addrL ((markL t t).dropLast ++ [48])).map fun (n : Nat) => (n : Int)).map PyData.int) ↔ (addrL ((markL t t).dropLast ++ [48])).contains (perN t) = true := by
          rw [List.contains_iff_mem]
          simp only [List.mem_map, List.map_map]
          constructor
          · rintro ⟨a, h1, h2⟩
            have : a = perN t := by
              have : ((a : Nat) : Int) = ((perN t : Nat) : Int) := PyData.int.inj h2
              omega
            rw [← this]; exact h1
          · intro h
            exact ⟨_, h, rfl⟩
        refine w_notInT (d := .int (perN t : Int)) (.int _) d4 rfl (pln_intsT _) (fun hm => ?_) (fun hm => ?_)
        · rw [hmem.mp hm] at q
          exact q _ ((e1.trans e2).trans e4)
        · have : (addrL ((markL t t).dropLast ++ [48])).contains (perN t) = false := by
            cases z : (addrL ((markL t t).dropLast ++ [48])).contains (perN t) with
            | false => rfl
            | true => exact absurd (hmem.mpr z) hm
          rw [this] at q
          exact q _ ((e1.trans e2).trans e4)

/-! ### _law_refused -/
def sp__law_refused (K : PySem.W.Frag) : Sp := fun vs H Q _ => ∃ v t, vs = [v] ∧ Dp K H v (pd t) ∧ Plc t ∧ wayN t ≠ 0 ∧ ∀ H', Same H H' → Q (.bl true) H'
theorem ok__law_refused (T : Top K mg) : FnOk P w K mg base CX0 8 T.f__law_refused T.fd__law_refused ["t"] (sp__law_refused K) := by
  refine T.F__law_refused.ok sc__law_refused (fun vs H Q E h => ?_) (fun cdv A outer s H vs Q E hr h => ?_)
  · obtain ⟨v, t, rfl, _⟩ := h
    rfl
  · obtain ⟨v, t, rfl, hv, ht, h0, q⟩ := h
    refine ⟨_, (pss_cons (ps_set (i := 1) sc__law_refused.nd (by rfl) (by first | exact Or.inl rfl | exact Or.inr rfl) pe_bl)
      (pss_cons (ps_try_as (i := 2) rfl rfl sc__law_refused.nd (by rfl) (by rfl) ⟨rfl, by decide, .inl T.gc_NotReturning⟩ L2.takes0 (fun W pn xe tk _ => (pss_one (ps_expr (pe_callS (ok_is_greater T) (hr.mono (by decide)) (by rfl) T.g_is_greater T.F_is_greater.kp T.b_is_greater (fun σ => passAt tk σ) (pa_cons (pv 0) pa_nil))))) (fun a oe cls d pn hz hf => (pss_one (ps_set (i := 1) sc__law_refused.nd (by rfl) (by first | exact Or.inl rfl | exact Or.inr rfl) (pe_and (pe_callB (cl_isS (K := K) hz hf) (by rfl) T.z_isinstance (by decide +kernel) (pa_cons (pv 2) (pa_cons (pe_cls (by rfl) T.gc_DialError) pa_nil))) (pe_and (pe_callB (cl_isS (K := K) hz hf) (by rfl) T.z_isinstance (by decide +kernel) (pa_cons (pv 2) (pa_cons (pe_bltn (v := .ty "ValueError") (by rfl) T.z_ValueError (by decide +kernel) rfl) pa_nil))) (pe_one (pe_not (pe_callB (cl_isS (K := K) hz hf) (by rfl) T.z_isinstance (by decide +kernel) (pa_cons (pv 2) (pa_cons (pe_cls (by rfl) T.gc_NotPair) pa_nil)))))))))))
      (pss_one (ps_ret (pv 1))))), ?_⟩
    rw [show start N__law_refused [v] = [some (v), none, none] from rfl]
    try dsimp only [cxK]
    walk_at "wp"
    refine ⟨v, t, rfl, hv, ht, fun z => absurd z h0, fun h0 => ⟨true, T.e_NotReturning_NotReturning, fun _ a ha => ?_, fun z => absurd z (by decide)⟩⟩
    walk_at "wp"
    refine ⟨_, _, true, rfl, (fun _ z => nomatch z), T.xc_NotReturning, rfl, isWhat_one T.k_NotReturning_DialError, ?_⟩
    walk_at "wp"
    refine ⟨_, _, true, rfl, (fun _ z => nomatch z), T.xc_NotReturning, rfl, isWhat_ty T.k_NotReturning_ValueError, ?_⟩
    walk_at "wp"
    refine ⟨_, _, false, rfl, (fun _ z => nomatch z), T.xc_NotReturning, rfl, isWhat_one T.k_NotReturning_NotPair, ?_⟩
    walk_at "wp"
    exact q _ (Same.refl _)

/-! ### law -/
def sp_law (K : PySem.W.Frag) : Sp := fun vs H Q _ => ∃ (a : Addr) (ns : List Int), vs = [.ref a] ∧ SqL K H a (ns.map V.int) ∧ ns.length ≤ 63 ∧ (∀ z ∈ ns, Builtin.Int.intBits z ≤ 1048576) ∧ ∀ H', Q (.bl true) H'
theorem ok_law (T : Top K mg) : FnOk P w K mg base CX0 9 T.f_law T.fd_law ["script"] (sp_law K) := by
  refine T.F_law.ok sc_law (fun vs H Q E h => ?_) (fun cdv A outer s H vs Q E hr h => ?_)
  · obtain ⟨a, ns, rfl, _⟩ := h
    rfl
  · obtain ⟨a, ns, rfl, hS, hl, hB, q⟩ := h
    refine ⟨_, (pss_cons (ps_if (PW.pt (pw_or (pt_cmpR op_notBl (pe_call (ok_is_greater T) (hr.mono (by decide)) (by rfl) T.g_is_greater T.F_is_greater.kp T.b_is_greater .nil passF (pa_cons (pe_tup (pa_cons pe_int (pa_cons pe_int pa_nil))) pa_nil)) pe_bl (nomark _)) (pw_or (pt_cmpR op_notBl (pe_call (ok_is_greater T) (hr.mono (by decide)) (by rfl) T.g_is_greater T.F_is_greater.kp T.b_is_greater .nil passF (pa_cons (pe_tup (pa_cons pe_int (pa_cons pe_int pa_nil))) pa_nil)) pe_bl (nomark _)) (pw_or1 (pt_cmpR op_notBl (pe_call (ok_is_greater T) (hr.mono (by decide)) (by rfl) T.g_is_greater T.F_is_greater.kp T.b_is_greater .nil passF (pa_cons (pe_tup (pa_cons pe_int (pa_cons pe_int pa_nil))) pa_nil)) pe_bl (nomark _)))))) (pss_one (ps_ret pe_bl)) pss_nil)
      (pss_cons (ps_for PassesOwn.never (by rfl) (pi_range1 (by rfl) T.z_range (pa_cons (pe_callB (cl_max2 (by rfl)) (by rfl) T.z_max (by decide +kernel) (pa_cons pe_int (pa_cons (pe_callB (cl_min2 (by rfl)) (by rfl) T.z_min (by decide +kernel) (pa_cons pe_int (pa_cons (pe_callB (cl_len (K := K)) (by rfl) T.z_len (by decide +kernel) (pa_cons (pv 0) pa_nil)) pa_nil))) pa_nil))) pa_nil)) (pg_name (i := 1) sc_law.nd (by rfl) (by first | exact Or.inl rfl | exact Or.inr rfl)) (pss_cons (ps_set (i := 2) sc_law.nd (by rfl) (by first | exact Or.inl rfl | exact Or.inr rfl) (pe_call (ok__law_begun T) (hr.mono (by decide)) (by rfl) T.g__law_begun T.F__law_begun.kp T.b__law_begun .nil pass0 (pa_cons (pv 0) (pa_cons (pv 1) pa_nil))))
      (pss_cons (ps_set (i := 3) sc_law.nd (by rfl) (by first | exact Or.inl rfl | exact Or.inr rfl) (pe_call (ok__law_binary T) (hr.mono (by decide)) (by rfl) T.g__law_binary T.F__law_binary.kp T.b__law_binary .nil pass0 (pa_cons pe_str (pa_cons (pe_call (ok__law_string T) (hr.mono (by decide)) (by rfl) T.g__law_string T.F__law_string.kp T.b__law_string .nil pass0 (pa_cons (pv 2) (pa_cons (pe_op op_add pe_int (pe_call (ok__law_draw T) (hr.mono (by decide)) (by rfl) T.g__law_draw T.F__law_draw.kp T.b__law_draw .nil pass0 (pa_cons (pv 2) (pa_cons pe_int pa_nil)))) pa_nil))) pa_nil))))
      (pss_cons (ps_set (i := 4) sc_law.nd (by rfl) (by first | exact Or.inl rfl | exact Or.inr rfl) (pe_ix (ix_tupK (K := K)) (pe_call (ok__law_ways T) (hr.mono (by decide)) (by rfl) T.g__law_ways T.F__law_ways.kp T.b__law_ways .nil pass0 (pa_cons (pv 3) pa_nil)) pe_int (fun _ _ => rfl)))
      (pss_cons (ps_set (i := 5) sc_law.nd (by rfl) (by first | exact Or.inl rfl | exact Or.inr rfl) (pe_and (pe_cmpR op_gt (pv 4) pe_int (nomark _)) (pe_one (pe_cmpR (op_inDK (K := K) (Room65 hr)) (pv 3) (pe_lc (own := [("pair", 14)]) (g := gName 14) (tt := tYes) (by rfl) sc_law.nd (pi_listK (K := K) (pe_dget (hu_of hr) (pe_call (ok__law_pairs T) (hr.mono (by decide)) (by rfl) T.g__law_pairs T.F__law_pairs.kp T.b__law_pairs .nil pass0 (pa_cons (pv 4) pa_nil)) (pv 4) (fun _ _ => rfl))) (blkOk_by (own := [("pair", 14)]) (N := N_law) (sc := defScope s_law) (by decide +kernel)) (fun _ _ _ _ _ => (pg_name (i := 14) sc_law.nd (by rfl) (by first | exact Or.inl rfl | exact Or.inr rfl))) (fun _ _ _ _ _ => pts_nil) (fun _ _ _ _ _ => (pe_ix (ix_tupK (K := K)) (pv 14) pe_int (fun _ _ => rfl)))) (by rfl)))))
      (pss_cons (ps_set (i := 6) sc_law.nd (by rfl) (by first | exact Or.inl rfl | exact Or.inr rfl) (pe_call (ok_is_greater T) (hr.mono (by decide)) (by rfl) T.g_is_greater T.F_is_greater.kp T.b_is_greater .nil passF (pa_cons (pv 3) pa_nil)))
      (pss_cons (ps_if (PW.pt (pw_or (pt_not (pt_val (pe_callB (cl_isi (K := K)) (by rfl) T.z_isinstance (by decide +kernel) (pa_cons (pv 6) (pa_cons (pe_bltn (v := .ty "bool") (by rfl) T.z_bool (by decide +kernel) rfl) pa_nil))))) (pw_or (pt_cmpR op_ne (pv 6) (pv 5) (nomark _)) (pw_or1 (pt_cmpR op_ne (pe_call (ok_is_greater T) (hr.mono (by decide)) (by rfl) T.g_is_greater T.F_is_greater.kp T.b_is_greater .nil passF (pa_cons (pv 3) pa_nil)) (pv 6) (nomark _)))))) (pss_one (ps_ret pe_bl)) pss_nil)
      (pss_cons (ps_set (i := 7) sc_law.nd (by rfl) (by first | exact Or.inl rfl | exact Or.inr rfl) (pe_call (ok__law_binary T) (hr.mono (by decide)) (by rfl) T.g__law_binary T.F__law_binary.kp T.b__law_binary .nil pass0 (pa_cons pe_str (pa_cons (pe_call (ok__law_string T) (hr.mono (by decide)) (by rfl) T.g__law_string T.F__law_string.kp T.b__law_string .nil pass0 (pa_cons (pv 2) (pa_cons (pe_op op_add pe_int (pe_call (ok__law_draw T) (hr.mono (by decide)) (by rfl) T.g__law_draw T.F__law_draw.kp T.b__law_draw .nil pass0 (pa_cons (pv 2) (pa_cons pe_int pa_nil)))) pa_nil))) pa_nil))))
      (pss_cons (ps_if (PW.pt (pw_and (pt_cmpR op_gt (pe_ix (ix_tupK (K := K)) (pe_call (ok__law_ways T) (hr.mono (by decide)) (by rfl) T.g__law_ways T.F__law_ways.kp T.b__law_ways .nil pass0 (pa_cons (pv 7) pa_nil)) pe_int (fun _ _ => rfl)) pe_int (nomark _)) (pw_and1 (pt_cmpR op_eq (pe_call (ok_is_greater T) (hr.mono (by decide)) (by rfl) T.g_is_greater T.F_is_greater.kp T.b_is_greater .nil passF (pa_cons (pv 7) pa_nil)) (pe_call (ok_is_greater T) (hr.mono (by decide)) (by rfl) T.g_is_greater T.F_is_greater.kp T.b_is_greater .nil passF (pa_cons (pe_call (ok__law_mirrored T) (hr.mono (by decide)) (by rfl) T.g__law_mirrored T.F__law_mirrored.kp T.b__law_mirrored .nil pass0 (pa_cons (pv 7) pa_nil)) pa_nil)) (nomark _))))) (pss_one (ps_ret pe_bl)) pss_nil)
      (pss_cons (ps_set (i := 8) sc_law.nd (by rfl) (by first | exact Or.inl rfl | exact Or.inr rfl) (pe_op op_add pe_int (pe_call (ok__law_draw T) (hr.mono (by decide)) (by rfl) T.g__law_draw T.F__law_draw.kp T.b__law_draw .nil pass0 (pa_cons (pv 2) (pa_cons pe_int pa_nil)))))
      (pss_cons (ps_set (i := 9) sc_law.nd (by rfl) (by first | exact Or.inl rfl | exact Or.inr rfl) (pe_call (ok__law_of T) (hr.mono (by decide)) (by rfl) T.g__law_of T.F__law_of.kp T.b__law_of .nil pass0 (pa_cons (pv 2) (pa_cons (pe_lc (own := [("k", 13)]) (g := gName 13) (by rfl) sc_law.nd (pi_range2 (by rfl) T.z_range (pa_cons pe_int (pa_cons (pv 8) pa_nil))) (blkOk_by (own := [("k", 13)]) (N := N_law) (sc := defScope s_law) (by decide +kernel)) (fun _ _ _ _ _ => (pg_name (i := 13) sc_law.nd (by rfl) (by first | exact Or.inl rfl | exact Or.inr rfl))) (fun _ _ _ _ _ => (pts_one (pt_cmpR op_eq (pe_call (ok__law_shared T) (hr.mono (by decide)) (by rfl) T.g__law_shared T.F__law_shared.kp T.b__law_shared .nil pass0 (pa_cons (pv 13) (pa_cons (pv 8) pa_nil))) pe_int (nomark _)))) (fun _ _ _ _ _ => (pv 13))) pa_nil))))
      (pss_cons (ps_asg (pe_call (ok__law_lines T) (hr.mono (by decide)) (by rfl) T.g__law_lines T.F__law_lines.kp T.b__law_lines .nil pass0 (pa_cons (pv 9) (pa_cons (pv 8) pa_nil))) (pg_tupK (K := K) (n := 2) (by rfl) (pgs_cons (pg_name (i := 10) sc_law.nd (by rfl) (by first | exact Or.inl rfl | exact Or.inr rfl)) (pgs_cons (pg_name (i := 11) sc_law.nd (by rfl) (by first | exact Or.inl rfl | exact Or.inr rfl)) pgs_nil))))
      (pss_cons (ps_if (PW.pt (pw_or (pt_cmpR op_notBl (pe_call (ok_is_greater T) (hr.mono (by decide)) (by rfl) T.g_is_greater T.F_is_greater.kp T.b_is_greater .nil passF (pa_cons (pv 10) pa_nil)) pe_bl (nomark _)) (pw_or1 (pt_cmpR op_notBl (pe_call (ok_is_greater T) (hr.mono (by decide)) (by rfl) T.g_is_greater T.F_is_greater.kp T.b_is_greater .nil passF (pa_cons (pv 11) pa_nil)) pe_bl (nomark _))))) (pss_one (ps_ret pe_bl)) pss_nil)
      (pss_cons (ps_set (i := 12) sc_law.nd (by rfl) (by first | exact Or.inl rfl | exact Or.inr rfl) (pe_call (ok__law_binary T) (hr.mono (by decide)) (by rfl) T.g__law_binary T.F__law_binary.kp T.b__law_binary .nil pass0 (pa_cons (pe_op op_addS (pe_op op_addS pe_str (pe_call (ok__law_string T) (hr.mono (by decide)) (by rfl) T.g__law_string T.F__law_string.kp T.b__law_string .nil pass0 (pa_cons (pv 2) (pa_cons (pe_call (ok__law_draw T) (hr.mono (by decide)) (by rfl) T.g__law_draw T.F__law_draw.kp T.b__law_draw .nil pass0 (pa_cons (pv 2) (pa_cons pe_int pa_nil))) pa_nil)))) pe_str) (pa_cons (pe_op op_addS pe_str (pe_call (ok__law_string T) (hr.mono (by decide)) (by rfl) T.g__law_string T.F__law_string.kp T.b__law_string .nil pass0 (pa_cons (pv 2) (pa_cons (pe_call (ok__law_draw T) (hr.mono (by decide)) (by rfl) T.g__law_draw T.F__law_draw.kp T.b__law_draw .nil pass0 (pa_cons (pv 2) (pa_cons pe_int pa_nil))) pa_nil)))) pa_nil))))
      (pss_cons (ps_if (PW.pt (pw_and (pt_cmpR op_gt (pe_ix (ix_tupK (K := K)) (pe_call (ok__law_ways T) (hr.mono (by decide)) (by rfl) T.g__law_ways T.F__law_ways.kp T.b__law_ways .nil pass0 (pa_cons (pv 12) pa_nil)) pe_int (fun _ _ => rfl)) pe_int (nomark _)) (pw_and1 (pt_not (pt_val (pe_call (ok__law_refused T) (hr.mono (by decide)) (by rfl) T.g__law_refused T.F__law_refused.kp T.b__law_refused .nil pass0 (pa_cons (pv 12) pa_nil))))))) (pss_one (ps_ret pe_bl)) pss_nil)
      (pss_one (ps_if (pt_not (pt_val (pe_call (ok__law_refused T) (hr.mono (by decide)) (by rfl) T.g__law_refused T.F__law_refused.kp T.b__law_refused .nil pass0 (pa_cons (pe_call (ok__law_of T) (hr.mono (by decide)) (by rfl) T.g__law_of T.F__law_of.kp T.b__law_of .nil pass0 (pa_cons (pv 2) (pa_cons (pe_lst (pa_cons (pe_tup (pa_cons pe_int (pa_cons pe_int pa_nil))) (pa_cons (pe_tup (pa_cons pe_int (pa_cons pe_int pa_nil))) (pa_cons (pe_tup (pa_cons pe_int (pa_cons pe_int pa_nil))) (pa_cons (pe_tup (pa_cons pe_int (pa_cons pe_int pa_nil))) pa_nil))))) pa_nil))) pa_nil)))) (pss_one (ps_ret pe_bl)) pss_nil)))))))))))))))))
      (pss_one (ps_ret pe_bl)))), ?_⟩
    rw [show start N_law [.ref a] = [some (.ref a), none, none, none, none, none, none, none, none, none, none, none, none, none, none] from rfl]
    rw [show Str.ofString "1" = Sg [49] by decide +kernel, show Str.ofString "0" = Sg [48] by decide +kernel, show Str.ofString "" = Sg [] by decide +kernel]
    try dsimp only [cxK]
    have hBig : ∀ n ∈ ns, Big n := fun n hn => Big.bits (hB n hn)
    obtain ⟨g1, g2, g3, w1, w2, w3, w4, w5, w6, w7⟩ := ok16_few
    have hplc : ∀ x : Pt, plc7 x = true → Plc x := fun x h => plc7_ok h
    walk_at "wp"
    refine w_newT (K := K) (ds := [.int 0, .int 1]) (len_ok (by simp)) (.cons (.int _) (dpa_one (.int _))) fun p1 H1 n1 e1 d1 => ?_
    walk_at "wp"
    refine ⟨_, (0, 1), rfl, d1, hplc _ (by decide), fun _ F1 f1 => ?_, fun h => absurd w1 h⟩
    rw [g1]
    walk_at "wp"
    rw [decide_eq_true rfl]
    walk_at "wp"
    refine w_newT (K := K) (ds := [.int 1, .int 3]) (len_ok (by simp)) (.cons (.int _) (dpa_one (.int _))) fun p2 H2 n2 e2 d2 => ?_
    walk_at "wp"
    refine ⟨_, (1, 3), rfl, d2, hplc _ (by decide), fun _ F2 f2 => ?_, fun h => absurd w2 h⟩
    rw [g2]
    walk_at "wp"
    rw [decide_eq_true rfl]
    walk_at "wp"
    refine w_newT (K := K) (ds := [.int 2, .int 3]) (len_ok (by simp)) (.cons (.int _) (dpa_one (.int _))) fun p3 H3 n3 e3 d3 => ?_
    walk_at "wp"
    refine ⟨_, (2, 3), rfl, d3, hplc _ (by decide), fun _ F3 f3 => ?_, fun h => absurd w3 h⟩
    rw [g3]
    walk_at "wp"
    rw [decide_eq_true rfl]
    have kF : Keep H F3 := Keep.of (((((e1.trans f1).trans e2).trans f2).trans e3).trans f3)
    have dS3 : Dp K F3 (.ref a) (.list (ns.map PyData.int)) := .lst (kF.seqL hS) (dpa_ints ns)
    walk_at "wp"
    rename_i r1 er1 r2 er2
    refine forR1_by (fun i σ' H' => ∃ (y1 y2 y3 y4 y5 y6 y7 y8 y9 y10 y11 y12 y13 y14 : Option V), σ' = [some (.ref a), y1, y2, y3, y4, y5, y6, y7, y8, y9, y10, y11, y12, y13, y14] ∧ Keep H H') (by omega) ⟨_, _, _, _, _, _, _, _, _, _, _, _, _, _, rfl, kF⟩ ?_ ?_
    · rintro i σ' H' hi ⟨y1, y2, y3, y4, y5, y6, y7, y8, y9, y10, y11, y12, y13, y14, rfl, k0⟩
      clear d1 d2 d3 e1 e2 e3 f1 f2 f3 kF dS3
      walk_at "wp"
      refine ⟨a, ns, _, rfl, k0.seqL hS, hl, hBig, by omega, by omega, fun m c H1 e1 n1 m1 => ?_⟩
      walk_at "wp"
      refine ⟨m, c, 6, 0, rfl, by decide, by decide, m1, by decide, fun r H2 r0 r1' k2 m2 => ?_⟩
      walk_at "wp"
      refine ⟨m, c, _, _, rfl, by omega, by omega, m2, by decide, fun s H3 hsl hsd k3 m3 => ?_⟩
      have hs0 : s ≠ [] := fun z => by rw [z] at hsl; simp at hsl; omega
      walk_at "wp"
      refine ⟨[], s, rfl, fun c hc => (nomatch hc), hsd, hs0, by simp; omega, fun vt H4 e4 d4 => ?_⟩
      have pt : Plc (binN [] s) := bin_plc hs0 (by simp; omega)
      have wt := bin_ret hs0
      have h16 : perN (binN [] s) ≤ 7 ∧ (perN (binN [] s) = 1 ∨ (grB (binN [] s) = ((prL.getD (perN (binN [] s) - 2) []).map (·.2)).contains (binN [] s))) := by
        have h1 := List.all_eq_true.mp ok16_all s.length (List.mem_range.mpr (by omega))
        rw [Bool.or_eq_true] at h1
        have h2 := h1.resolve_left (by simpa using hs0)
        have h3 := List.all_eq_true.mp h2 s (mem_bits s hsd)
        unfold ok16 at h3
        rw [Bool.and_eq_true, Bool.or_eq_true] at h3
        exact ⟨of_decide_eq_true h3.1, h3.2.imp of_decide_eq_true fun z => by simpa using z⟩
      generalize binN [] s = t at *
      have ww := ways pt
      have wn1 := ww.n1
      walk_at "wp"
      refine ⟨vt, t, rfl, d4, pt, fun v5 H5 e5 d5 => ?_⟩
      dsimp only
      with_reducible refine w_c ?_
      refine w_ixT (j := 1) d5 rfl rfl fun v6 d6 => ?_
      cases d6
      have d4' := dp_same e5 d4
      dsimp only
      with_reducible refine w_seq ?_
      with_reducible refine w_asg ?_
      refine w_meet (fun v H' => v = .bl (grB t) ∧ Same H5 H') (fun Q' hq => ?_) ?_
      · walk_at "wp"
        refine w_iteD (fun hgt => ?_) (fun hle => ?_)
        · walk_at "wp"
          refine ⟨perN t, rfl, by omega, by omega, fun pp kvs H6 n6 e6 f6 _ hv6 => ?_⟩
          obtain ⟨i', hi'⟩ : ∃ i', perN t = i' + 2 := ⟨perN t - 2, by omega⟩
          obtain ⟨v7, hv7, q7, us7, rfl, g7, d7⟩ := hv6 i' (by omega)
          walk_at "wp"
          refine ⟨pp, .ref q7, rfl, by rw [← hv7, ← hi']; exact DGet.k (k := .inl (perN t : Int)) f6, ?_⟩
          refine lc_list_by (K := K) (JP H6 fun j es => es = (((prL.getD i' []).take j).map (·.2)).map pd) (JP.ok rfl) (dp_newL g7 d7) (by rw [List.length_map]; exact prl_len i') (fun _ => rfl) ?_ ?_
          · rintro j d y H' es hd hy ⟨s', rfl⟩ Yes No hyes hno
            rw [List.getElem?_map] at hd
            obtain ⟨cc, hc, rfl⟩ := Option.map_eq_some_iff.mp hd
            walk_at "wp"
            refine w_ixT (j := 1) hy rfl rfl fun v8 d8 => ?_
            refine hyes _ _ (pd cc.2) (Keep.refl _) (pd_noL _) d8 ⟨s', ?_⟩
            show _ = _
            rw [List.take_add_one, hc]
            simp
          · rintro p8 H8 us8 es8 n8 k8 g8 d8 ⟨s8, rfl⟩
            rw [List.length_map, List.take_length] at d8
            have hg := h16.2.resolve_left (by omega)
            rw [show perN t - 2 = i' by omega] at hg
            refine w_inP (d := pd t) (dp_same (e6.trans s8) d4') d8 (pd_pln8 _) (fun z hz => by obtain ⟨x, _, rfl⟩ := List.mem_map.mp hz; exact pd_pln8 _) (fun hm => ?_) (fun hm => ?_)
            · refine hq _ _ ⟨?_, e6.trans s8⟩
              rw [hg, List.contains_iff_mem.mpr (pd_memL.mp hm)]
            · refine hq _ _ ⟨?_, e6.trans s8⟩
              rw [hg]
              cases z : ((prL.getD i' []).map (·.2)).contains t with
              | false => rfl
              | true => exact absurd (pd_memL.mpr (List.contains_iff_mem.mp z)) hm
        · refine hq _ _ ⟨?_, Same.refl _⟩
          unfold grB
          rw [if_pos (by omega)]
      · rintro _ H6 ⟨rfl, e6⟩
        have d46 := dp_same e6 d4'
        walk_at "wp"
        refine ⟨vt, t, rfl, d46, pt, fun _ H7 e7 => ?_, fun h => absurd wt h⟩
        have d47 := dp_same e7 d46
        walk_at "wp"
        rw [decide_eq_true rfl]
        walk_at "wp"
        refine ⟨vt, t, rfl, d47, pt, fun _ H8 e8 => ?_, fun h => absurd wt h⟩
        walk_at "wp"
        rw [decide_eq_true rfl]
        walk_at "wp"
        have m8 := ((((m3.same e4).same e5).same e6).same e7).same e8
        have k08 : Keep H H8 := (((((((k0.trans (Keep.of e1)).trans k2).trans k3).trans (Keep.of e4)).trans (Keep.of e5)).trans (Keep.of e6)).trans (Keep.of e7)).trans (Keep.of e8)
        clear m1 m2 m3 k2 k3 e1 e4 e5 e6 e7 e8 d4 d4' d46 d47 d5 k0
        refine ⟨m, c, 23, _, rfl, by decide, by decide, m8, by omega, fun r9 H9 r90 r91 k9 m9 => ?_⟩
        walk_at "wp"
        refine ⟨m, c, _, _, rfl, by omega, by omega, m9, by omega, fun sf H10 hfl hfd k10 m10 => ?_⟩
        have hf0 : sf ≠ [] := fun z => by rw [z] at hfl; simp at hfl; omega
        walk_at "wp"
        refine ⟨[], sf, rfl, fun c hc => (nomatch hc), hfd, hf0, by simp; omega, fun vf H11 e11 d11 => ?_⟩
        have pf : Plc (binN [] sf) := bin_plc hf0 (by simp; omega)
        have wf := bin_ret hf0
        generalize binN [] sf = f at *
        dsimp only
        with_reducible refine w_seq ?_
        refine w_meetS (fun σ' H' => σ' = [some (.ref a), some (.int (i : Int)), some (.ref m), some vt, some (.int (perN t : Int)), some (.bl (grB t)), some (.bl (grB t)), some vf, y8, y9, y10, y11, y12, y13, y14] ∧ Same H11 H') (fun nx' hnx => ?_) ?_
        · walk_at "wp"
          refine ⟨vf, f, rfl, d11, pf, fun v12 H12 e12 d12 => ?_⟩
          have d11' := dp_same e12 d11
          dsimp only
          with_reducible refine w_c ?_
          refine w_ixT (j := 1) d12 rfl rfl fun v6 d6 => ?_
          cases d6
          walk_at "wp"
          refine w_iteD (fun hgt => ?_) (fun hle => ?_)
          · have hne : perN f ≠ 1 := by omega
            walk_at "wp"
            refine ⟨vf, f, rfl, d11', pf, fun _ H13 e13 => ?_, fun h => absurd wf h⟩
            walk_at "wp"
            refine ⟨vf, f, rfl, dp_same e13 d11', pf, fun v14 H14 e14 d14 => ?_⟩
            walk_at "wp"
            refine ⟨v14, mirN f, rfl, d14, mir_plc pf, fun _ H15 e15 => ?_, fun h => absurd wf h⟩
            rw [grB_mir pf wf hne]
            walk_at "wp"
            rw [decide_eq_false (fun z => by cases hg : grB f <;> rw [hg] at z <;> cases z)]
            walk_at "wp"
            exact hnx _ _ ⟨rfl, ((e12.trans e13).trans e14).trans e15⟩
          · walk_at "wp"
            exact hnx _ _ ⟨rfl, e12⟩
        · rintro _ H16 ⟨rfl, e16⟩
          have m16 := (m10.same e11).same e16
          have k016 : Keep H H16 := (((k08.trans k9).trans k10).trans (Keep.of e11)).trans (Keep.of e16)
          clear m8 m9 m10 k08 k9 k10 e11 e16 d11
          walk_at "wp"
          refine ⟨m, c, 23, _, rfl, by decide, by decide, m16, by omega, fun rq H17 rq0 rq1 k17 m17 => ?_⟩
          walk_at "wp"
          obtain ⟨N, hN⟩ : ∃ N : Nat, 2 + rq = (N : Int) := ⟨(2 + rq).toNat, by omega⟩
          rw [hN]
          refine lc_rng2_by (K := K) (JP H17 fun j es => es = ((List.range' 1 j).filter fun p => decide (Nat.gcd p N = 1)).map fun p : Nat => PyData.int (p : Int)) (JP.ok rfl) (by omega) (fun _ => rfl) ?_ ?_
          · rintro j H7 es hj ⟨s7, rfl⟩ Yes No hyes hno
            rw [show (1 : Int) + (j : Int) = ((1 + j : Nat) : Int) by omega]
            walk_at "wp"
            refine ⟨1 + j, N, rfl, by omega, ?_⟩
            walk_at "wp"
            have e := List.range'_concat (s := 1) (n := j) (step := 1)
            rw [Nat.one_mul] at e
            refine w_iteD (fun h => ?_) (fun h => ?_)
            · walk_at "wp"
              refine hyes _ H7 (.int ((1 + j : Nat) : Int)) (Keep.refl _) rfl (.int _) ⟨s7, ?_⟩
              have hg : Nat.gcd (1 + j) N = 1 := by omega
              have eg : List.filter (fun p => decide (Nat.gcd p N = 1)) [1 + j] = [1 + j] := by simp [hg]
              dsimp only
              rw [e, List.filter_append, List.map_append, eg]
              rfl
            · refine hno _ (Keep.refl _) ⟨s7, ?_⟩
              have hg : ¬ Nat.gcd (1 + j) N = 1 := by omega
              have eg : List.filter (fun p => decide (Nat.gcd p N = 1)) [1 + j] = [] := by simp [hg]
              dsimp only
              rw [e, List.filter_append, List.map_append, eg]
              simp
          · rintro p18 H18 us18 es18 n18 k18 g18 d18 ⟨s18, rfl⟩
            rw [show ((N : Int) - 1).toNat = N - 1 by omega] at d18
            have hone : 1 ∈ (List.range' 1 (N - 1)).filter fun p => decide (Nat.gcd p N = 1) := List.mem_filter.mpr ⟨List.mem_range'_1.mpr ⟨by omega, by omega⟩, by simp⟩
            walk_at "wp"
            refine ⟨m, c, _, _, _, rfl, d18, by rw [List.length_map]; exact List.length_pos_of_mem hone, by rw [List.length_map]; exact Nat.le_trans (List.length_filter_le _ _) (by rw [List.length_range']; omega), m17.same s18, by omega, fun y d H19 hd hy k19 m19 => ?_⟩
            obtain ⟨pp, hpp, rfl⟩ := List.mem_map.mp hd
            cases hy
            have hpm := List.mem_filter.mp hpp
            have hpr := List.mem_range'_1.mp hpm.1
            have hpg : Nat.gcd pp N = 1 := of_decide_eq_true hpm.2
            have hln := ok16l_at (p := pp) (q := N) (by omega) (by omega) (by omega) hpg
            have hil := insN_len pp N
            walk_at "wp"
            refine ⟨pp, N, rfl, by omega, by omega, by omega, fun v20 H20 e20 d20 => ?_⟩
            refine w_gTup2 d20 fun vl vg dl dg => ?_
            have pl1 : Plc (binN [] (insN pp N ++ [48, 49])) := bin_plc (by simp) (by simp only [List.length_append, List.length_cons, List.length_nil]; omega)
            have pl2 : Plc (binN [] (insN pp N ++ [49, 48])) := bin_plc (by simp) (by simp only [List.length_append, List.length_cons, List.length_nil]; omega)
            have wl1 := bin_ret (c := insN pp N ++ [48, 49]) (by simp)
            have wl2 := bin_ret (c := insN pp N ++ [49, 48]) (by simp)
            walk_at "wp"
            refine ⟨vl, _, rfl, dl, pl1, fun _ H21 e21 => ?_, fun h => absurd wl1 h⟩
            rw [hln.1]
            walk_at "wp"
            rw [decide_eq_true rfl]
            walk_at "wp"
            refine ⟨vg, _, rfl, dp_same e21 dg, pl2, fun _ H22 e22 => ?_, fun h => absurd wl2 h⟩
            rw [hln.2]
            walk_at "wp"
            rw [decide_eq_true rfl]
            walk_at "wp"
            have m22 := ((m19.same e20).same e21).same e22
            have k022 : Keep H H22 := (((((k016.trans k17).trans (Keep.of s18)).trans k19).trans (Keep.of e20)).trans (Keep.of e21)).trans (Keep.of e22)
            clear m16 m17 m19 k016 k17 k19 e20 e21 e22 d20 dl dg d18
            refine ⟨m, c, 6, _, rfl, by decide, by decide, m22, by omega, fun ra H23 ra0 ra1 k23 m23 => ?_⟩
            walk_at "wp"
            refine ⟨m, c, _, _, rfl, by omega, by omega, m23, by omega, fun sa H24 hal had k24 m24 => ?_⟩
            walk_at "wp"
            refine w_addSg (by simp; omega) ?_
            walk_at "wp"
            refine w_addSg (by simp; omega) ?_
            walk_at "wp"
            refine ⟨m, c, 9, _, rfl, by decide, by decide, m24, by omega, fun rb H25 rb0 rb1 k25 m25 => ?_⟩
            walk_at "wp"
            refine ⟨m, c, _, _, rfl, by omega, by omega, m25, by omega, fun sb H26 hbl hbd k26 m26 => ?_⟩
            walk_at "wp"
            refine w_addSg (by simp; omega) ?_
            have dga : Dg ([49] ++ sa ++ [48]) := fun z hz => by
              simp only [List.mem_append, List.mem_singleton] at hz
              rcases hz with (hz | hz) | hz
              · exact .inr hz
              · exact had z hz
              · exact .inl hz
            have dgb : Dg ([49] ++ sb) := fun z hz => by
              simp only [List.mem_append, List.mem_singleton] at hz
              rcases hz with hz | hz
              · exact .inr hz
              · exact hbd z hz
            have lena : ([49] ++ sa ++ [48]).length ≤ 8 := by simp only [List.length_append, List.length_cons, List.length_nil]; omega
            have lenb : ([49] ++ sb).length ≤ 10 := by simp only [List.length_append, List.length_cons, List.length_nil]; omega
            have neb : [49] ++ sb ≠ [] := by simp
            generalize [49] ++ sa ++ [48] = la at *
            generalize [49] ++ sb = lb at *
            refine ⟨la, lb, rfl, dga, dgb, neb, by omega, fun v27 H27 e27 d27 => ?_⟩
            have p27 : Plc (binN la lb) := bin_plc neb (by omega)
            generalize binN la lb = g at *
            dsimp only
            with_reducible refine w_seq ?_
            refine w_meetS (fun σ' H' => σ' = [some (.ref a), some (.int (i : Int)), some (.ref m), some vt, some (.int (perN t : Int)), some (.bl (grB t)), some (.bl (grB t)), some vf, some (.int (N : Int)), some (.int (pp : Int)), some vl, some vg, some v27, y13, y14] ∧ Same H27 H') (fun nx' hnx => ?_) ?_
            · walk_at "wp"
              refine ⟨v27, g, rfl, d27, p27, fun v28 H28 e28 d28 => ?_⟩
              dsimp only
              with_reducible refine w_c ?_
              refine w_ixT (j := 0) d28 rfl rfl fun v6 d6 => ?_
              cases d6
              walk_at "wp"
              refine w_iteD (fun hgt => ?_) (fun hle => ?_)
              · walk_at "wp"
                refine ⟨v27, g, rfl, dp_same e28 d27, p27, by omega, fun H29 e29 => ?_⟩
                walk_at "wp"
                exact hnx _ _ ⟨rfl, e28.trans e29⟩
              · walk_at "wp"
                exact hnx _ _ ⟨rfl, e28⟩
            · rintro _ H30 ⟨rfl, e30⟩
              have m30 := (m26.same e27).same e30
              have k030 : Keep H H30 := (((((k022.trans k23).trans k24).trans k25).trans k26).trans (Keep.of e27)).trans (Keep.of e30)
              walk_at "wp"
              refine w_newT (K := K) (ds := [.int 1, .int 2]) (len_ok (by simp)) (.cons (.int _) (dpa_one (.int _))) fun p31 H31 n31 e31 d31 => ?_
              walk_at "wp"
              refine w_newT (K := K) (ds := [.int 1, .int 6]) (len_ok (by simp)) (.cons (.int _) (dpa_one (.int _))) fun p32 H32 n32 e32 d32 => ?_
              walk_at "wp"
              refine w_newT (K := K) (ds := [.int 3, .int 4]) (len_ok (by simp)) (.cons (.int _) (dpa_one (.int _))) fun p33 H33 n33 e33 d33 => ?_
              walk_at "wp"
              refine w_newT (K := K) (ds := [.int 5, .int 12]) (len_ok (by simp)) (.cons (.int _) (dpa_one (.int _))) fun p34 H34 n34 e34 d34 => ?_
              walk_at "wp"
              refine w_newL (K := K) (ds := [pd (1, 2), pd (1, 6), pd (3, 4), pd (5, 12)]) (len_ok (by simp)) (.cons (dp_same ((e32.trans e33).trans e34) d31) (.cons (dp_same (e33.trans e34) d32) (.cons (dp_same e34 d33) (dpa_one d34)))) fun p35 H35 n35 e35 f35 d35 => ?_
              walk_at "wp"
              refine ⟨m, c, _, _, _, rfl, d35, by simp, by simp, ((((m30.same e31).same e32).same e33).same e34).same e35, by omega, fun y d H36 hd hy k36 m36 => ?_⟩
              obtain ⟨z, rfl, pz, wz⟩ : ∃ z : Pt, d = pd z ∧ Plc z ∧ wayN z ≠ 0 := by
                simp only [List.mem_cons, List.not_mem_nil, or_false] at hd
                rcases hd with rfl | rfl | rfl | rfl
                · exact ⟨_, rfl, ⟨by decide, by decide, 1, 1, by decide, by decide, by decide⟩, w4⟩
                · exact ⟨_, rfl, ⟨by decide, by decide, 1, 2, by decide, by decide, by decide⟩, w5⟩
                · exact ⟨_, rfl, ⟨by decide, by decide, 2, 1, by decide, by decide, by decide⟩, w6⟩
                · exact ⟨_, rfl, ⟨by decide, by decide, 2, 2, by decide, by decide, by decide⟩, w7⟩
              walk_at "wp"
              refine ⟨y, z, rfl, hy, pz, wz, fun H37 e37 => ?_⟩
              walk_at "wp"
              exact ⟨_, _, _, _, _, _, _, _, _, _, _, _, _, _, rfl, ((k030.trans (Keep.of ((((e31.trans e32).trans e33).trans e34).trans e35))).trans k36).trans (Keep.of e37)⟩
    · rintro σ' H' ⟨y1, y2, y3, y4, y5, y6, y7, y8, y9, y10, y11, y12, y13, y14, rfl, k0⟩
      walk_at "wp"
      exact q H'

end
end Tw
namespace Tw
open PySem PySem.Spec PyProof.Rows L2
set_option maxHeartbeats 4000000 in
def top_mk {K : PySem.W.Frag} {h : Heap} {mg : Str → Option Value} (X : K.In h) (G : h.Ns mainGlobals mg) {f_reduced f_size f_is_low f_double f_orbit f_way_in f_returns f__twos f_least_row f_mark f_plain_row f_kneading f_star_word f_next_unlike f_address f_is_greater f__law_begun f__law_draw f__law_of f__law_twos f__law_shared f__law_ratio f__law_double f__law_orbit f__law_ways f__law_binary f__law_string f__law_sorted f__law_all_places f__law_pairs f__law_mirrored f__law_lines f__law_refused f_law : Addr} {od_reduced an_reduced od_size an_size od_is_low an_is_low od_double an_double od_orbit an_orbit od_way_in an_way_in od_returns an_returns od__twos an__twos od_least_row an_least_row od_mark an_mark od_plain_row an_plain_row od_kneading an_kneading od_star_word an_star_word od_next_unlike an_next_unlike od_address an_address od_is_greater an_is_greater od__law_begun an__law_begun od__law_draw an__law_draw od__law_of an__law_of od__law_twos an__law_twos od__law_shared an__law_shared od__law_ratio an__law_ratio od__law_double an__law_double od__law_orbit an__law_orbit od__law_ways an__law_ways od__law_binary an__law_binary od__law_string an__law_string od__law_sorted an__law_sorted od__law_all_places an__law_all_places od__law_pairs an__law_pairs od__law_mirrored an__law_mirrored od__law_lines an__law_lines od__law_refused an__law_refused od_law an_law : Option Addr} {oc_reduced kV_reduced dc_reduced pm_reduced cd_reduced ct_reduced oc_size kV_size dc_size pm_size cd_size ct_size oc_is_low kV_is_low dc_is_low pm_is_low cd_is_low ct_is_low oc_double kV_double dc_double pm_double cd_double ct_double oc_orbit kV_orbit dc_orbit pm_orbit cd_orbit ct_orbit oc_way_in kV_way_in dc_way_in pm_way_in cd_way_in ct_way_in oc_returns kV_returns dc_returns pm_returns cd_returns ct_returns oc__twos kV__twos dc__twos pm__twos cd__twos ct__twos oc_least_row kV_least_row dc_least_row pm_least_row cd_least_row ct_least_row oc_mark kV_mark dc_mark pm_mark cd_mark ct_mark oc_plain_row kV_plain_row dc_plain_row pm_plain_row cd_plain_row ct_plain_row oc_kneading kV_kneading dc_kneading pm_kneading cd_kneading ct_kneading oc_star_word kV_star_word dc_star_word pm_star_word cd_star_word ct_star_word oc_next_unlike kV_next_unlike dc_next_unlike pm_next_unlike cd_next_unlike ct_next_unlike oc_address kV_address dc_address pm_address cd_address ct_address oc_is_greater kV_is_greater dc_is_greater pm_is_greater cd_is_greater ct_is_greater oc__law_begun kV__law_begun dc__law_begun pm__law_begun cd__law_begun ct__law_begun oc__law_draw kV__law_draw dc__law_draw pm__law_draw cd__law_draw ct__law_draw oc__law_of kV__law_of dc__law_of pm__law_of cd__law_of ct__law_of oc__law_twos kV__law_twos dc__law_twos pm__law_twos cd__law_twos ct__law_twos oc__law_shared kV__law_shared dc__law_shared pm__law_shared cd__law_shared ct__law_shared oc__law_ratio kV__law_ratio dc__law_ratio pm__law_ratio cd__law_ratio ct__law_ratio oc__law_double kV__law_double dc__law_double pm__law_double cd__law_double ct__law_double oc__law_orbit kV__law_orbit dc__law_orbit pm__law_orbit cd__law_orbit ct__law_orbit oc__law_ways kV__law_ways dc__law_ways pm__law_ways cd__law_ways ct__law_ways oc__law_binary kV__law_binary dc__law_binary pm__law_binary cd__law_binary ct__law_binary oc__law_string kV__law_string dc__law_string pm__law_string cd__law_string ct__law_string oc__law_sorted kV__law_sorted dc__law_sorted pm__law_sorted cd__law_sorted ct__law_sorted oc__law_all_places kV__law_all_places dc__law_all_places pm__law_all_places cd__law_all_places ct__law_all_places oc__law_pairs kV__law_pairs dc__law_pairs pm__law_pairs cd__law_pairs ct__law_pairs oc__law_mirrored kV__law_mirrored dc__law_mirrored pm__law_mirrored cd__law_mirrored ct__law_mirrored oc__law_lines kV__law_lines dc__law_lines pm__law_lines cd__law_lines ct__law_lines oc__law_refused kV__law_refused dc__law_refused pm__law_refused cd__law_refused ct__law_refused oc_law kV_law dc_law pm_law cd_law ct_law : Value} {sl_reduced sl_size sl_is_low sl_double sl_orbit sl_way_in sl_returns sl__twos sl_least_row sl_mark sl_plain_row sl_kneading sl_star_word sl_next_unlike sl_address sl_is_greater sl__law_begun sl__law_draw sl__law_of sl__law_twos sl__law_shared sl__law_ratio sl__law_double sl__law_orbit sl__law_ways sl__law_binary sl__law_string sl__law_sorted sl__law_all_places sl__law_pairs sl__law_mirrored sl__law_lines sl__law_refused sl_law : Array (Option Value)} {c_DialError N_DialError : Addr} {nm_DialError q_DialError : Str} {bs_DialError sub_DialError : List Value} {sn_DialError : List Str} {ab_DialError : Bool} {col_DialError : Option Bool} {dd_DialError : Option Addr} {m0_DialError m1_DialError m2_DialError m3_DialError m5_DialError : Option Value} {c_NotReturning N_NotReturning : Addr} {nm_NotReturning q_NotReturning : Str} {bs_NotReturning sub_NotReturning : List Value} {sn_NotReturning : List Str} {ab_NotReturning : Bool} {col_NotReturning : Option Bool} {dd_NotReturning : Option Addr} {m0_NotReturning m1_NotReturning m2_NotReturning m3_NotReturning m5_NotReturning : Option Value} {c_NotPair N_NotPair : Addr} {nm_NotPair q_NotPair : Str} {bs_NotPair sub_NotPair : List Value} {sn_NotPair : List Str} {ab_NotPair : Bool} {col_NotPair : Option Bool} {dd_NotPair : Option Addr} {m0_NotPair m1_NotPair m2_NotPair m3_NotPair m5_NotPair : Option Value} {t_COMMON : Tok}
    (gc_DialError : PySem.W.nsIn K mainGlobals "DialError" = some (some (.ref c_DialError)))
    (xL_DialError : K.lookup c_DialError = some (excClassObj nm_DialError q_DialError c_DialError N_DialError bs_DialError ([.type "ValueError", .type "Exception", .type "BaseException", .type "object"]) true sn_DialError sub_DialError ab_DialError col_DialError dd_DialError m0_DialError m1_DialError m2_DialError m3_DialError m5_DialError "ValueError.__new__"))
    (sa_DialError : PySem.W.findIn K (.ref c_DialError) "__setattr__" = some (some (.builtin "object.__setattr__")))
    (eC_DialError : PySem.W.subIn K (.ref c_DialError) (.type "BaseException") = some true)
    (tC_DialError : PySem.W.typeIn K (.ref c_DialError) = some (.type "type"))
    (kC_DialError : PySem.W.keepIn K (.ref c_DialError) = true)
    (ga_DialError : PySem.W.findIn K (.ref c_DialError) "__getattribute__" = some (some (.builtin "BaseException.__getattribute__")))
    (gg_DialError : PySem.W.findIn K (.ref c_DialError) "__getattr__" = some none)
    (hC_DialError : PySem.W.hasDictIn K c_DialError = true)
    (gc_NotReturning : PySem.W.nsIn K mainGlobals "NotReturning" = some (some (.ref c_NotReturning)))
    (xL_NotReturning : K.lookup c_NotReturning = some (excClassObj nm_NotReturning q_NotReturning c_NotReturning N_NotReturning bs_NotReturning (.ref c_DialError :: [.type "ValueError", .type "Exception", .type "BaseException", .type "object"]) true sn_NotReturning sub_NotReturning ab_NotReturning col_NotReturning dd_NotReturning m0_NotReturning m1_NotReturning m2_NotReturning m3_NotReturning m5_NotReturning "ValueError.__new__"))
    (sa_NotReturning : PySem.W.findIn K (.ref c_NotReturning) "__setattr__" = some (some (.builtin "object.__setattr__")))
    (eC_NotReturning : PySem.W.subIn K (.ref c_NotReturning) (.type "BaseException") = some true)
    (tC_NotReturning : PySem.W.typeIn K (.ref c_NotReturning) = some (.type "type"))
    (kC_NotReturning : PySem.W.keepIn K (.ref c_NotReturning) = true)
    (ga_NotReturning : PySem.W.findIn K (.ref c_NotReturning) "__getattribute__" = some (some (.builtin "BaseException.__getattribute__")))
    (gg_NotReturning : PySem.W.findIn K (.ref c_NotReturning) "__getattr__" = some none)
    (hC_NotReturning : PySem.W.hasDictIn K c_NotReturning = true)
    (xq_NotReturning : PySem.W.excIn K c_NotReturning [.type "ValueError", .type "Exception", .type "BaseException", .type "object"] "ValueError.__new__" = true)
    (gc_NotPair : PySem.W.nsIn K mainGlobals "NotPair" = some (some (.ref c_NotPair)))
    (xL_NotPair : K.lookup c_NotPair = some (excClassObj nm_NotPair q_NotPair c_NotPair N_NotPair bs_NotPair (.ref c_DialError :: [.type "ValueError", .type "Exception", .type "BaseException", .type "object"]) true sn_NotPair sub_NotPair ab_NotPair col_NotPair dd_NotPair m0_NotPair m1_NotPair m2_NotPair m3_NotPair m5_NotPair "ValueError.__new__"))
    (sa_NotPair : PySem.W.findIn K (.ref c_NotPair) "__setattr__" = some (some (.builtin "object.__setattr__")))
    (eC_NotPair : PySem.W.subIn K (.ref c_NotPair) (.type "BaseException") = some true)
    (tC_NotPair : PySem.W.typeIn K (.ref c_NotPair) = some (.type "type"))
    (kC_NotPair : PySem.W.keepIn K (.ref c_NotPair) = true)
    (ga_NotPair : PySem.W.findIn K (.ref c_NotPair) "__getattribute__" = some (some (.builtin "BaseException.__getattribute__")))
    (gg_NotPair : PySem.W.findIn K (.ref c_NotPair) "__getattr__" = some none)
    (hC_NotPair : PySem.W.hasDictIn K c_NotPair = true)
    (e_NotReturning_NotReturning : PySem.W.subIn K (.ref c_NotReturning) (.ref c_NotReturning) = some true)
    (hnG : PySem.W.specialIn K (.builtin "object.__class__") "__get__" = some (some (.builtin "getset_descriptor.__get__"))) (htG : PySem.W.takesIn K (.builtin "object.__class__") = some true)
    (ha_NotReturning : PySem.W.findIn K (.ref c_NotReturning) "__class__" = some (some (.builtin "object.__class__"))) (hm_NotReturning : PySem.W.mroIn K c_NotReturning (.type "object") = some true)
    (iL_DialError : PySem.W.isClsIn K c_DialError = true)
    (e_NotReturning_DialError : PySem.W.subIn K (.ref c_NotReturning) (.ref c_DialError) = some true)
    (iL_NotPair : PySem.W.isClsIn K c_NotPair = true)
    (e_NotReturning_NotPair : PySem.W.subIn K (.ref c_NotReturning) (.ref c_NotPair) = some false)
    (ne_NotReturning_NotPair : c_NotReturning = c_NotPair → false = true)
    (et_NotReturning_ValueError : PySem.W.subIn K (.ref c_NotReturning) (.type "ValueError") = some true)
    (iL_NotReturning : PySem.W.isClsIn K c_NotReturning = true)
    (a_reduced : PySem.W.nsIn K mainGlobals "reduced" = some (some (.ref f_reduced)))
    (l_reduced : K.lookup f_reduced = some ⟨oc_reduced, od_reduced, .func (PySem.W.fnOf "reduced" "reduced" (defArgs s_reduced) (defBody s_reduced) (defScope s_reduced) .none kV_reduced dc_reduced pm_reduced an_reduced cd_reduced ct_reduced), sl_reduced⟩) (c_reduced : PySem.W.codeIn K cd_reduced "reduced" = true) (k_reduced : PySem.W.keepIn K (.ref f_reduced) = true)
    (a_size : PySem.W.nsIn K mainGlobals "size" = some (some (.ref f_size)))
    (l_size : K.lookup f_size = some ⟨oc_size, od_size, .func (PySem.W.fnOf "size" "size" (defArgs s_size) (defBody s_size) (defScope s_size) .none kV_size dc_size pm_size an_size cd_size ct_size), sl_size⟩) (c_size : PySem.W.codeIn K cd_size "size" = true) (k_size : PySem.W.keepIn K (.ref f_size) = true)
    (a_is_low : PySem.W.nsIn K mainGlobals "is_low" = some (some (.ref f_is_low)))
    (l_is_low : K.lookup f_is_low = some ⟨oc_is_low, od_is_low, .func (PySem.W.fnOf "is_low" "is_low" (defArgs s_is_low) (defBody s_is_low) (defScope s_is_low) .none kV_is_low dc_is_low pm_is_low an_is_low cd_is_low ct_is_low), sl_is_low⟩) (c_is_low : PySem.W.codeIn K cd_is_low "is_low" = true) (k_is_low : PySem.W.keepIn K (.ref f_is_low) = true)
    (a_double : PySem.W.nsIn K mainGlobals "double" = some (some (.ref f_double)))
    (l_double : K.lookup f_double = some ⟨oc_double, od_double, .func (PySem.W.fnOf "double" "double" (defArgs s_double) (defBody s_double) (defScope s_double) .none kV_double dc_double pm_double an_double cd_double ct_double), sl_double⟩) (c_double : PySem.W.codeIn K cd_double "double" = true) (k_double : PySem.W.keepIn K (.ref f_double) = true)
    (a_orbit : PySem.W.nsIn K mainGlobals "orbit" = some (some (.ref f_orbit)))
    (l_orbit : K.lookup f_orbit = some ⟨oc_orbit, od_orbit, .func (PySem.W.fnOf "orbit" "orbit" (defArgs s_orbit) (defBody s_orbit) (defScope s_orbit) .none kV_orbit dc_orbit pm_orbit an_orbit cd_orbit ct_orbit), sl_orbit⟩) (c_orbit : PySem.W.codeIn K cd_orbit "orbit" = true) (k_orbit : PySem.W.keepIn K (.ref f_orbit) = true)
    (a_way_in : PySem.W.nsIn K mainGlobals "way_in" = some (some (.ref f_way_in)))
    (l_way_in : K.lookup f_way_in = some ⟨oc_way_in, od_way_in, .func (PySem.W.fnOf "way_in" "way_in" (defArgs s_way_in) (defBody s_way_in) (defScope s_way_in) .none kV_way_in dc_way_in pm_way_in an_way_in cd_way_in ct_way_in), sl_way_in⟩) (c_way_in : PySem.W.codeIn K cd_way_in "way_in" = true) (k_way_in : PySem.W.keepIn K (.ref f_way_in) = true)
    (a_returns : PySem.W.nsIn K mainGlobals "returns" = some (some (.ref f_returns)))
    (l_returns : K.lookup f_returns = some ⟨oc_returns, od_returns, .func (PySem.W.fnOf "returns" "returns" (defArgs s_returns) (defBody s_returns) (defScope s_returns) .none kV_returns dc_returns pm_returns an_returns cd_returns ct_returns), sl_returns⟩) (c_returns : PySem.W.codeIn K cd_returns "returns" = true) (k_returns : PySem.W.keepIn K (.ref f_returns) = true)
    (a__twos : PySem.W.nsIn K mainGlobals "_twos" = some (some (.ref f__twos)))
    (l__twos : K.lookup f__twos = some ⟨oc__twos, od__twos, .func (PySem.W.fnOf "_twos" "_twos" (defArgs s__twos) (defBody s__twos) (defScope s__twos) .none kV__twos dc__twos pm__twos an__twos cd__twos ct__twos), sl__twos⟩) (c__twos : PySem.W.codeIn K cd__twos "_twos" = true) (k__twos : PySem.W.keepIn K (.ref f__twos) = true)
    (a_least_row : PySem.W.nsIn K mainGlobals "least_row" = some (some (.ref f_least_row)))
    (l_least_row : K.lookup f_least_row = some ⟨oc_least_row, od_least_row, .func (PySem.W.fnOf "least_row" "least_row" (defArgs s_least_row) (defBody s_least_row) (defScope s_least_row) .none kV_least_row dc_least_row pm_least_row an_least_row cd_least_row ct_least_row), sl_least_row⟩) (c_least_row : PySem.W.codeIn K cd_least_row "least_row" = true) (k_least_row : PySem.W.keepIn K (.ref f_least_row) = true)
    (a_mark : PySem.W.nsIn K mainGlobals "mark" = some (some (.ref f_mark)))
    (l_mark : K.lookup f_mark = some ⟨oc_mark, od_mark, .func (PySem.W.fnOf "mark" "mark" (defArgs s_mark) (defBody s_mark) (defScope s_mark) .none kV_mark dc_mark pm_mark an_mark cd_mark ct_mark), sl_mark⟩) (c_mark : PySem.W.codeIn K cd_mark "mark" = true) (k_mark : PySem.W.keepIn K (.ref f_mark) = true)
    (a_plain_row : PySem.W.nsIn K mainGlobals "plain_row" = some (some (.ref f_plain_row)))
    (l_plain_row : K.lookup f_plain_row = some ⟨oc_plain_row, od_plain_row, .func (PySem.W.fnOf "plain_row" "plain_row" (defArgs s_plain_row) (defBody s_plain_row) (defScope s_plain_row) .none kV_plain_row dc_plain_row pm_plain_row an_plain_row cd_plain_row ct_plain_row), sl_plain_row⟩) (c_plain_row : PySem.W.codeIn K cd_plain_row "plain_row" = true) (k_plain_row : PySem.W.keepIn K (.ref f_plain_row) = true)
    (a_kneading : PySem.W.nsIn K mainGlobals "kneading" = some (some (.ref f_kneading)))
    (l_kneading : K.lookup f_kneading = some ⟨oc_kneading, od_kneading, .func (PySem.W.fnOf "kneading" "kneading" (defArgs s_kneading) (defBody s_kneading) (defScope s_kneading) .none kV_kneading dc_kneading pm_kneading an_kneading cd_kneading ct_kneading), sl_kneading⟩) (c_kneading : PySem.W.codeIn K cd_kneading "kneading" = true) (k_kneading : PySem.W.keepIn K (.ref f_kneading) = true)
    (a_star_word : PySem.W.nsIn K mainGlobals "star_word" = some (some (.ref f_star_word)))
    (l_star_word : K.lookup f_star_word = some ⟨oc_star_word, od_star_word, .func (PySem.W.fnOf "star_word" "star_word" (defArgs s_star_word) (defBody s_star_word) (defScope s_star_word) .none kV_star_word dc_star_word pm_star_word an_star_word cd_star_word ct_star_word), sl_star_word⟩) (c_star_word : PySem.W.codeIn K cd_star_word "star_word" = true) (k_star_word : PySem.W.keepIn K (.ref f_star_word) = true)
    (a_next_unlike : PySem.W.nsIn K mainGlobals "next_unlike" = some (some (.ref f_next_unlike)))
    (l_next_unlike : K.lookup f_next_unlike = some ⟨oc_next_unlike, od_next_unlike, .func (PySem.W.fnOf "next_unlike" "next_unlike" (defArgs s_next_unlike) (defBody s_next_unlike) (defScope s_next_unlike) .none kV_next_unlike dc_next_unlike pm_next_unlike an_next_unlike cd_next_unlike ct_next_unlike), sl_next_unlike⟩) (c_next_unlike : PySem.W.codeIn K cd_next_unlike "next_unlike" = true) (k_next_unlike : PySem.W.keepIn K (.ref f_next_unlike) = true)
    (a_address : PySem.W.nsIn K mainGlobals "address" = some (some (.ref f_address)))
    (l_address : K.lookup f_address = some ⟨oc_address, od_address, .func (PySem.W.fnOf "address" "address" (defArgs s_address) (defBody s_address) (defScope s_address) .none kV_address dc_address pm_address an_address cd_address ct_address), sl_address⟩) (c_address : PySem.W.codeIn K cd_address "address" = true) (k_address : PySem.W.keepIn K (.ref f_address) = true)
    (a_is_greater : PySem.W.nsIn K mainGlobals "is_greater" = some (some (.ref f_is_greater)))
    (l_is_greater : K.lookup f_is_greater = some ⟨oc_is_greater, od_is_greater, .func (PySem.W.fnOf "is_greater" "is_greater" (defArgs s_is_greater) (defBody s_is_greater) (defScope s_is_greater) .none kV_is_greater dc_is_greater pm_is_greater an_is_greater cd_is_greater ct_is_greater), sl_is_greater⟩) (c_is_greater : PySem.W.codeIn K cd_is_greater "is_greater" = true) (k_is_greater : PySem.W.keepIn K (.ref f_is_greater) = true)
    (a__law_begun : PySem.W.nsIn K mainGlobals "_law_begun" = some (some (.ref f__law_begun)))
    (l__law_begun : K.lookup f__law_begun = some ⟨oc__law_begun, od__law_begun, .func (PySem.W.fnOf "_law_begun" "_law_begun" (defArgs s__law_begun) (defBody s__law_begun) (defScope s__law_begun) .none kV__law_begun dc__law_begun pm__law_begun an__law_begun cd__law_begun ct__law_begun), sl__law_begun⟩) (c__law_begun : PySem.W.codeIn K cd__law_begun "_law_begun" = true) (k__law_begun : PySem.W.keepIn K (.ref f__law_begun) = true)
    (a__law_draw : PySem.W.nsIn K mainGlobals "_law_draw" = some (some (.ref f__law_draw)))
    (l__law_draw : K.lookup f__law_draw = some ⟨oc__law_draw, od__law_draw, .func (PySem.W.fnOf "_law_draw" "_law_draw" (defArgs s__law_draw) (defBody s__law_draw) (defScope s__law_draw) .none kV__law_draw dc__law_draw pm__law_draw an__law_draw cd__law_draw ct__law_draw), sl__law_draw⟩) (c__law_draw : PySem.W.codeIn K cd__law_draw "_law_draw" = true) (k__law_draw : PySem.W.keepIn K (.ref f__law_draw) = true)
    (a__law_of : PySem.W.nsIn K mainGlobals "_law_of" = some (some (.ref f__law_of)))
    (l__law_of : K.lookup f__law_of = some ⟨oc__law_of, od__law_of, .func (PySem.W.fnOf "_law_of" "_law_of" (defArgs s__law_of) (defBody s__law_of) (defScope s__law_of) .none kV__law_of dc__law_of pm__law_of an__law_of cd__law_of ct__law_of), sl__law_of⟩) (c__law_of : PySem.W.codeIn K cd__law_of "_law_of" = true) (k__law_of : PySem.W.keepIn K (.ref f__law_of) = true)
    (a__law_twos : PySem.W.nsIn K mainGlobals "_law_twos" = some (some (.ref f__law_twos)))
    (l__law_twos : K.lookup f__law_twos = some ⟨oc__law_twos, od__law_twos, .func (PySem.W.fnOf "_law_twos" "_law_twos" (defArgs s__law_twos) (defBody s__law_twos) (defScope s__law_twos) .none kV__law_twos dc__law_twos pm__law_twos an__law_twos cd__law_twos ct__law_twos), sl__law_twos⟩) (c__law_twos : PySem.W.codeIn K cd__law_twos "_law_twos" = true) (k__law_twos : PySem.W.keepIn K (.ref f__law_twos) = true)
    (a__law_shared : PySem.W.nsIn K mainGlobals "_law_shared" = some (some (.ref f__law_shared)))
    (l__law_shared : K.lookup f__law_shared = some ⟨oc__law_shared, od__law_shared, .func (PySem.W.fnOf "_law_shared" "_law_shared" (defArgs s__law_shared) (defBody s__law_shared) (defScope s__law_shared) .none kV__law_shared dc__law_shared pm__law_shared an__law_shared cd__law_shared ct__law_shared), sl__law_shared⟩) (c__law_shared : PySem.W.codeIn K cd__law_shared "_law_shared" = true) (k__law_shared : PySem.W.keepIn K (.ref f__law_shared) = true)
    (a__law_ratio : PySem.W.nsIn K mainGlobals "_law_ratio" = some (some (.ref f__law_ratio)))
    (l__law_ratio : K.lookup f__law_ratio = some ⟨oc__law_ratio, od__law_ratio, .func (PySem.W.fnOf "_law_ratio" "_law_ratio" (defArgs s__law_ratio) (defBody s__law_ratio) (defScope s__law_ratio) .none kV__law_ratio dc__law_ratio pm__law_ratio an__law_ratio cd__law_ratio ct__law_ratio), sl__law_ratio⟩) (c__law_ratio : PySem.W.codeIn K cd__law_ratio "_law_ratio" = true) (k__law_ratio : PySem.W.keepIn K (.ref f__law_ratio) = true)
    (a__law_double : PySem.W.nsIn K mainGlobals "_law_double" = some (some (.ref f__law_double)))
    (l__law_double : K.lookup f__law_double = some ⟨oc__law_double, od__law_double, .func (PySem.W.fnOf "_law_double" "_law_double" (defArgs s__law_double) (defBody s__law_double) (defScope s__law_double) .none kV__law_double dc__law_double pm__law_double an__law_double cd__law_double ct__law_double), sl__law_double⟩) (c__law_double : PySem.W.codeIn K cd__law_double "_law_double" = true) (k__law_double : PySem.W.keepIn K (.ref f__law_double) = true)
    (a__law_orbit : PySem.W.nsIn K mainGlobals "_law_orbit" = some (some (.ref f__law_orbit)))
    (l__law_orbit : K.lookup f__law_orbit = some ⟨oc__law_orbit, od__law_orbit, .func (PySem.W.fnOf "_law_orbit" "_law_orbit" (defArgs s__law_orbit) (defBody s__law_orbit) (defScope s__law_orbit) .none kV__law_orbit dc__law_orbit pm__law_orbit an__law_orbit cd__law_orbit ct__law_orbit), sl__law_orbit⟩) (c__law_orbit : PySem.W.codeIn K cd__law_orbit "_law_orbit" = true) (k__law_orbit : PySem.W.keepIn K (.ref f__law_orbit) = true)
    (a__law_ways : PySem.W.nsIn K mainGlobals "_law_ways" = some (some (.ref f__law_ways)))
    (l__law_ways : K.lookup f__law_ways = some ⟨oc__law_ways, od__law_ways, .func (PySem.W.fnOf "_law_ways" "_law_ways" (defArgs s__law_ways) (defBody s__law_ways) (defScope s__law_ways) .none kV__law_ways dc__law_ways pm__law_ways an__law_ways cd__law_ways ct__law_ways), sl__law_ways⟩) (c__law_ways : PySem.W.codeIn K cd__law_ways "_law_ways" = true) (k__law_ways : PySem.W.keepIn K (.ref f__law_ways) = true)
    (a__law_binary : PySem.W.nsIn K mainGlobals "_law_binary" = some (some (.ref f__law_binary)))
    (l__law_binary : K.lookup f__law_binary = some ⟨oc__law_binary, od__law_binary, .func (PySem.W.fnOf "_law_binary" "_law_binary" (defArgs s__law_binary) (defBody s__law_binary) (defScope s__law_binary) .none kV__law_binary dc__law_binary pm__law_binary an__law_binary cd__law_binary ct__law_binary), sl__law_binary⟩) (c__law_binary : PySem.W.codeIn K cd__law_binary "_law_binary" = true) (k__law_binary : PySem.W.keepIn K (.ref f__law_binary) = true)
    (a__law_string : PySem.W.nsIn K mainGlobals "_law_string" = some (some (.ref f__law_string)))
    (l__law_string : K.lookup f__law_string = some ⟨oc__law_string, od__law_string, .func (PySem.W.fnOf "_law_string" "_law_string" (defArgs s__law_string) (defBody s__law_string) (defScope s__law_string) .none kV__law_string dc__law_string pm__law_string an__law_string cd__law_string ct__law_string), sl__law_string⟩) (c__law_string : PySem.W.codeIn K cd__law_string "_law_string" = true) (k__law_string : PySem.W.keepIn K (.ref f__law_string) = true)
    (a__law_sorted : PySem.W.nsIn K mainGlobals "_law_sorted" = some (some (.ref f__law_sorted)))
    (l__law_sorted : K.lookup f__law_sorted = some ⟨oc__law_sorted, od__law_sorted, .func (PySem.W.fnOf "_law_sorted" "_law_sorted" (defArgs s__law_sorted) (defBody s__law_sorted) (defScope s__law_sorted) .none kV__law_sorted dc__law_sorted pm__law_sorted an__law_sorted cd__law_sorted ct__law_sorted), sl__law_sorted⟩) (c__law_sorted : PySem.W.codeIn K cd__law_sorted "_law_sorted" = true) (k__law_sorted : PySem.W.keepIn K (.ref f__law_sorted) = true)
    (a__law_all_places : PySem.W.nsIn K mainGlobals "_law_all_places" = some (some (.ref f__law_all_places)))
    (l__law_all_places : K.lookup f__law_all_places = some ⟨oc__law_all_places, od__law_all_places, .func (PySem.W.fnOf "_law_all_places" "_law_all_places" (defArgs s__law_all_places) (defBody s__law_all_places) (defScope s__law_all_places) .none kV__law_all_places dc__law_all_places pm__law_all_places an__law_all_places cd__law_all_places ct__law_all_places), sl__law_all_places⟩) (c__law_all_places : PySem.W.codeIn K cd__law_all_places "_law_all_places" = true) (k__law_all_places : PySem.W.keepIn K (.ref f__law_all_places) = true)
    (a__law_pairs : PySem.W.nsIn K mainGlobals "_law_pairs" = some (some (.ref f__law_pairs)))
    (l__law_pairs : K.lookup f__law_pairs = some ⟨oc__law_pairs, od__law_pairs, .func (PySem.W.fnOf "_law_pairs" "_law_pairs" (defArgs s__law_pairs) (defBody s__law_pairs) (defScope s__law_pairs) .none kV__law_pairs dc__law_pairs pm__law_pairs an__law_pairs cd__law_pairs ct__law_pairs), sl__law_pairs⟩) (c__law_pairs : PySem.W.codeIn K cd__law_pairs "_law_pairs" = true) (k__law_pairs : PySem.W.keepIn K (.ref f__law_pairs) = true)
    (a__law_mirrored : PySem.W.nsIn K mainGlobals "_law_mirrored" = some (some (.ref f__law_mirrored)))
    (l__law_mirrored : K.lookup f__law_mirrored = some ⟨oc__law_mirrored, od__law_mirrored, .func (PySem.W.fnOf "_law_mirrored" "_law_mirrored" (defArgs s__law_mirrored) (defBody s__law_mirrored) (defScope s__law_mirrored) .none kV__law_mirrored dc__law_mirrored pm__law_mirrored an__law_mirrored cd__law_mirrored ct__law_mirrored), sl__law_mirrored⟩) (c__law_mirrored : PySem.W.codeIn K cd__law_mirrored "_law_mirrored" = true) (k__law_mirrored : PySem.W.keepIn K (.ref f__law_mirrored) = true)
    (a__law_lines : PySem.W.nsIn K mainGlobals "_law_lines" = some (some (.ref f__law_lines)))
    (l__law_lines : K.lookup f__law_lines = some ⟨oc__law_lines, od__law_lines, .func (PySem.W.fnOf "_law_lines" "_law_lines" (defArgs s__law_lines) (defBody s__law_lines) (defScope s__law_lines) .none kV__law_lines dc__law_lines pm__law_lines an__law_lines cd__law_lines ct__law_lines), sl__law_lines⟩) (c__law_lines : PySem.W.codeIn K cd__law_lines "_law_lines" = true) (k__law_lines : PySem.W.keepIn K (.ref f__law_lines) = true)
    (a__law_refused : PySem.W.nsIn K mainGlobals "_law_refused" = some (some (.ref f__law_refused)))
    (l__law_refused : K.lookup f__law_refused = some ⟨oc__law_refused, od__law_refused, .func (PySem.W.fnOf "_law_refused" "_law_refused" (defArgs s__law_refused) (defBody s__law_refused) (defScope s__law_refused) .none kV__law_refused dc__law_refused pm__law_refused an__law_refused cd__law_refused ct__law_refused), sl__law_refused⟩) (c__law_refused : PySem.W.codeIn K cd__law_refused "_law_refused" = true) (k__law_refused : PySem.W.keepIn K (.ref f__law_refused) = true)
    (a_law : PySem.W.nsIn K mainGlobals "law" = some (some (.ref f_law)))
    (l_law : K.lookup f_law = some ⟨oc_law, od_law, .func (PySem.W.fnOf "law" "law" (defArgs s_law) (defBody s_law) (defScope s_law) .none kV_law dc_law pm_law an_law cd_law ct_law), sl_law⟩) (c_law : PySem.W.codeIn K cd_law "law" = true) (k_law : PySem.W.keepIn K (.ref f_law) = true)
    (z_ValueError : PySem.W.nsIn K mainGlobals "ValueError" = some none)
    (z_abs : PySem.W.nsIn K mainGlobals "abs" = some none)
    (z_bool : PySem.W.nsIn K mainGlobals "bool" = some none)
    (z_int : PySem.W.nsIn K mainGlobals "int" = some none)
    (z_isinstance : PySem.W.nsIn K mainGlobals "isinstance" = some none)
    (z_len : PySem.W.nsIn K mainGlobals "len" = some none)
    (z_list : PySem.W.nsIn K mainGlobals "list" = some none)
    (z_max : PySem.W.nsIn K mainGlobals "max" = some none)
    (z_min : PySem.W.nsIn K mainGlobals "min" = some none)
    (z_range : PySem.W.nsIn K mainGlobals "range" = some none)
    (z_sorted : PySem.W.nsIn K mainGlobals "sorted" = some none)
    (z_str : PySem.W.nsIn K mainGlobals "str" = some none)
    (z_tuple : PySem.W.nsIn K mainGlobals "tuple" = some none)
    (i_gcd : PySem.W.nsIn K mainGlobals "gcd" = some (some (.builtin "math.gcd")))
    (c_COMMON : PySem.W.nsIn K mainGlobals "COMMON" = some (some (.int 56525307072677432455503587098948920087821904549333509463754043204567040000 t_COMMON))) : Top K mg :=
  { g_reduced := PySem.W.mg_of X G a_reduced,
    f_reduced := f_reduced, fd_reduced := PySem.W.fnOf "reduced" "reduced" (defArgs s_reduced) (defBody s_reduced) (defScope s_reduced) .none kV_reduced dc_reduced pm_reduced an_reduced cd_reduced ct_reduced, F_reduced := fun_mk (st := s_reduced) l_reduced c_reduced k_reduced, b_reduced := (fun_mk (st := s_reduced) l_reduced c_reduced k_reduced).binds (ps := ["top", "bottom"]) fun _ _ _ _ _ _ us hl => match us, hl with | [_, _], _ => rfl,
    g_size := PySem.W.mg_of X G a_size,
    f_size := f_size, fd_size := PySem.W.fnOf "size" "size" (defArgs s_size) (defBody s_size) (defScope s_size) .none kV_size dc_size pm_size an_size cd_size ct_size, F_size := fun_mk (st := s_size) l_size c_size k_size, b_size := (fun_mk (st := s_size) l_size c_size k_size).binds (ps := ["x"]) fun _ _ _ _ _ _ us hl => match us, hl with | [_], _ => rfl,
    g_is_low := PySem.W.mg_of X G a_is_low,
    f_is_low := f_is_low, fd_is_low := PySem.W.fnOf "is_low" "is_low" (defArgs s_is_low) (defBody s_is_low) (defScope s_is_low) .none kV_is_low dc_is_low pm_is_low an_is_low cd_is_low ct_is_low, F_is_low := fun_mk (st := s_is_low) l_is_low c_is_low k_is_low, b_is_low := (fun_mk (st := s_is_low) l_is_low c_is_low k_is_low).binds (ps := ["x"]) fun _ _ _ _ _ _ us hl => match us, hl with | [_], _ => rfl,
    g_double := PySem.W.mg_of X G a_double,
    f_double := f_double, fd_double := PySem.W.fnOf "double" "double" (defArgs s_double) (defBody s_double) (defScope s_double) .none kV_double dc_double pm_double an_double cd_double ct_double, F_double := fun_mk (st := s_double) l_double c_double k_double, b_double := (fun_mk (st := s_double) l_double c_double k_double).binds (ps := ["x"]) fun _ _ _ _ _ _ us hl => match us, hl with | [_], _ => rfl,
    g_orbit := PySem.W.mg_of X G a_orbit,
    f_orbit := f_orbit, fd_orbit := PySem.W.fnOf "orbit" "orbit" (defArgs s_orbit) (defBody s_orbit) (defScope s_orbit) .none kV_orbit dc_orbit pm_orbit an_orbit cd_orbit ct_orbit, F_orbit := fun_mk (st := s_orbit) l_orbit c_orbit k_orbit, b_orbit := (fun_mk (st := s_orbit) l_orbit c_orbit k_orbit).binds (ps := ["x"]) fun _ _ _ _ _ _ us hl => match us, hl with | [_], _ => rfl,
    g_way_in := PySem.W.mg_of X G a_way_in,
    f_way_in := f_way_in, fd_way_in := PySem.W.fnOf "way_in" "way_in" (defArgs s_way_in) (defBody s_way_in) (defScope s_way_in) .none kV_way_in dc_way_in pm_way_in an_way_in cd_way_in ct_way_in, F_way_in := fun_mk (st := s_way_in) l_way_in c_way_in k_way_in, b_way_in := (fun_mk (st := s_way_in) l_way_in c_way_in k_way_in).binds (ps := ["x"]) fun _ _ _ _ _ _ us hl => match us, hl with | [_], _ => rfl,
    g_returns := PySem.W.mg_of X G a_returns,
    f_returns := f_returns, fd_returns := PySem.W.fnOf "returns" "returns" (defArgs s_returns) (defBody s_returns) (defScope s_returns) .none kV_returns dc_returns pm_returns an_returns cd_returns ct_returns, F_returns := fun_mk (st := s_returns) l_returns c_returns k_returns, b_returns := (fun_mk (st := s_returns) l_returns c_returns k_returns).binds (ps := ["x"]) fun _ _ _ _ _ _ us hl => match us, hl with | [_], _ => rfl,
    g__twos := PySem.W.mg_of X G a__twos,
    f__twos := f__twos, fd__twos := PySem.W.fnOf "_twos" "_twos" (defArgs s__twos) (defBody s__twos) (defScope s__twos) .none kV__twos dc__twos pm__twos an__twos cd__twos ct__twos, F__twos := fun_mk (st := s__twos) l__twos c__twos k__twos, b__twos := (fun_mk (st := s__twos) l__twos c__twos k__twos).binds (ps := ["bottom"]) fun _ _ _ _ _ _ us hl => match us, hl with | [_], _ => rfl,
    g_least_row := PySem.W.mg_of X G a_least_row,
    f_least_row := f_least_row, fd_least_row := PySem.W.fnOf "least_row" "least_row" (defArgs s_least_row) (defBody s_least_row) (defScope s_least_row) .none kV_least_row dc_least_row pm_least_row an_least_row cd_least_row ct_least_row, F_least_row := fun_mk (st := s_least_row) l_least_row c_least_row k_least_row, b_least_row := (fun_mk (st := s_least_row) l_least_row c_least_row k_least_row).binds (ps := ["head", "cycle"]) fun _ _ _ _ _ _ us hl => match us, hl with | [_, _], _ => rfl,
    g_mark := PySem.W.mg_of X G a_mark,
    f_mark := f_mark, fd_mark := PySem.W.fnOf "mark" "mark" (defArgs s_mark) (defBody s_mark) (defScope s_mark) .none kV_mark dc_mark pm_mark an_mark cd_mark ct_mark, F_mark := fun_mk (st := s_mark) l_mark c_mark k_mark, b_mark := (fun_mk (st := s_mark) l_mark c_mark k_mark).binds (ps := ["t", "x"]) fun _ _ _ _ _ _ us hl => match us, hl with | [_, _], _ => rfl,
    g_plain_row := PySem.W.mg_of X G a_plain_row,
    f_plain_row := f_plain_row, fd_plain_row := PySem.W.fnOf "plain_row" "plain_row" (defArgs s_plain_row) (defBody s_plain_row) (defScope s_plain_row) .none kV_plain_row dc_plain_row pm_plain_row an_plain_row cd_plain_row ct_plain_row, F_plain_row := fun_mk (st := s_plain_row) l_plain_row c_plain_row k_plain_row, b_plain_row := (fun_mk (st := s_plain_row) l_plain_row c_plain_row k_plain_row).binds (ps := ["t", "x"]) fun _ _ _ _ _ _ us hl => match us, hl with | [_, _], _ => rfl,
    g_kneading := PySem.W.mg_of X G a_kneading,
    f_kneading := f_kneading, fd_kneading := PySem.W.fnOf "kneading" "kneading" (defArgs s_kneading) (defBody s_kneading) (defScope s_kneading) .none kV_kneading dc_kneading pm_kneading an_kneading cd_kneading ct_kneading, F_kneading := fun_mk (st := s_kneading) l_kneading c_kneading k_kneading, b_kneading := (fun_mk (st := s_kneading) l_kneading c_kneading k_kneading).binds (ps := ["t"]) fun _ _ _ _ _ _ us hl => match us, hl with | [_], _ => rfl,
    g_star_word := PySem.W.mg_of X G a_star_word,
    f_star_word := f_star_word, fd_star_word := PySem.W.fnOf "star_word" "star_word" (defArgs s_star_word) (defBody s_star_word) (defScope s_star_word) .none kV_star_word dc_star_word pm_star_word an_star_word cd_star_word ct_star_word, F_star_word := fun_mk (st := s_star_word) l_star_word c_star_word k_star_word, b_star_word := (fun_mk (st := s_star_word) l_star_word c_star_word k_star_word).binds (ps := ["t"]) fun _ _ _ _ _ _ us hl => match us, hl with | [_], _ => rfl,
    g_next_unlike := PySem.W.mg_of X G a_next_unlike,
    f_next_unlike := f_next_unlike, fd_next_unlike := PySem.W.fnOf "next_unlike" "next_unlike" (defArgs s_next_unlike) (defBody s_next_unlike) (defScope s_next_unlike) .none kV_next_unlike dc_next_unlike pm_next_unlike an_next_unlike cd_next_unlike ct_next_unlike, F_next_unlike := fun_mk (st := s_next_unlike) l_next_unlike c_next_unlike k_next_unlike, b_next_unlike := (fun_mk (st := s_next_unlike) l_next_unlike c_next_unlike k_next_unlike).binds (ps := ["marks", "m"]) fun _ _ _ _ _ _ us hl => match us, hl with | [_, _], _ => rfl,
    g_address := PySem.W.mg_of X G a_address,
    f_address := f_address, fd_address := PySem.W.fnOf "address" "address" (defArgs s_address) (defBody s_address) (defScope s_address) .none kV_address dc_address pm_address an_address cd_address ct_address, F_address := fun_mk (st := s_address) l_address c_address k_address, b_address := (fun_mk (st := s_address) l_address c_address k_address).binds (ps := ["marks"]) fun _ _ _ _ _ _ us hl => match us, hl with | [_], _ => rfl,
    g_is_greater := PySem.W.mg_of X G a_is_greater,
    f_is_greater := f_is_greater, fd_is_greater := PySem.W.fnOf "is_greater" "is_greater" (defArgs s_is_greater) (defBody s_is_greater) (defScope s_is_greater) .none kV_is_greater dc_is_greater pm_is_greater an_is_greater cd_is_greater ct_is_greater, F_is_greater := fun_mk (st := s_is_greater) l_is_greater c_is_greater k_is_greater, b_is_greater := (fun_mk (st := s_is_greater) l_is_greater c_is_greater k_is_greater).binds (ps := ["t"]) fun _ _ _ _ _ _ us hl => match us, hl with | [_], _ => rfl,
    g__law_begun := PySem.W.mg_of X G a__law_begun,
    f__law_begun := f__law_begun, fd__law_begun := PySem.W.fnOf "_law_begun" "_law_begun" (defArgs s__law_begun) (defBody s__law_begun) (defScope s__law_begun) .none kV__law_begun dc__law_begun pm__law_begun an__law_begun cd__law_begun ct__law_begun, F__law_begun := fun_mk (st := s__law_begun) l__law_begun c__law_begun k__law_begun, b__law_begun := (fun_mk (st := s__law_begun) l__law_begun c__law_begun k__law_begun).binds (ps := ["script", "k"]) fun _ _ _ _ _ _ us hl => match us, hl with | [_, _], _ => rfl,
    g__law_draw := PySem.W.mg_of X G a__law_draw,
    f__law_draw := f__law_draw, fd__law_draw := PySem.W.fnOf "_law_draw" "_law_draw" (defArgs s__law_draw) (defBody s__law_draw) (defScope s__law_draw) .none kV__law_draw dc__law_draw pm__law_draw an__law_draw cd__law_draw ct__law_draw, F__law_draw := fun_mk (st := s__law_draw) l__law_draw c__law_draw k__law_draw, b__law_draw := (fun_mk (st := s__law_draw) l__law_draw c__law_draw k__law_draw).binds (ps := ["m", "below"]) fun _ _ _ _ _ _ us hl => match us, hl with | [_, _], _ => rfl,
    g__law_of := PySem.W.mg_of X G a__law_of,
    f__law_of := f__law_of, fd__law_of := PySem.W.fnOf "_law_of" "_law_of" (defArgs s__law_of) (defBody s__law_of) (defScope s__law_of) .none kV__law_of dc__law_of pm__law_of an__law_of cd__law_of ct__law_of, F__law_of := fun_mk (st := s__law_of) l__law_of c__law_of k__law_of, b__law_of := (fun_mk (st := s__law_of) l__law_of c__law_of k__law_of).binds (ps := ["m", "some"]) fun _ _ _ _ _ _ us hl => match us, hl with | [_, _], _ => rfl,
    g__law_twos := PySem.W.mg_of X G a__law_twos,
    f__law_twos := f__law_twos, fd__law_twos := PySem.W.fnOf "_law_twos" "_law_twos" (defArgs s__law_twos) (defBody s__law_twos) (defScope s__law_twos) .none kV__law_twos dc__law_twos pm__law_twos an__law_twos cd__law_twos ct__law_twos, F__law_twos := fun_mk (st := s__law_twos) l__law_twos c__law_twos k__law_twos, b__law_twos := (fun_mk (st := s__law_twos) l__law_twos c__law_twos k__law_twos).binds (ps := ["count"]) fun _ _ _ _ _ _ us hl => match us, hl with | [_], _ => rfl,
    g__law_shared := PySem.W.mg_of X G a__law_shared,
    f__law_shared := f__law_shared, fd__law_shared := PySem.W.fnOf "_law_shared" "_law_shared" (defArgs s__law_shared) (defBody s__law_shared) (defScope s__law_shared) .none kV__law_shared dc__law_shared pm__law_shared an__law_shared cd__law_shared ct__law_shared, F__law_shared := fun_mk (st := s__law_shared) l__law_shared c__law_shared k__law_shared, b__law_shared := (fun_mk (st := s__law_shared) l__law_shared c__law_shared k__law_shared).binds (ps := ["a", "b"]) fun _ _ _ _ _ _ us hl => match us, hl with | [_, _], _ => rfl,
    g__law_ratio := PySem.W.mg_of X G a__law_ratio,
    f__law_ratio := f__law_ratio, fd__law_ratio := PySem.W.fnOf "_law_ratio" "_law_ratio" (defArgs s__law_ratio) (defBody s__law_ratio) (defScope s__law_ratio) .none kV__law_ratio dc__law_ratio pm__law_ratio an__law_ratio cd__law_ratio ct__law_ratio, F__law_ratio := fun_mk (st := s__law_ratio) l__law_ratio c__law_ratio k__law_ratio, b__law_ratio := (fun_mk (st := s__law_ratio) l__law_ratio c__law_ratio k__law_ratio).binds (ps := ["a", "b"]) fun _ _ _ _ _ _ us hl => match us, hl with | [_, _], _ => rfl,
    g__law_double := PySem.W.mg_of X G a__law_double,
    f__law_double := f__law_double, fd__law_double := PySem.W.fnOf "_law_double" "_law_double" (defArgs s__law_double) (defBody s__law_double) (defScope s__law_double) .none kV__law_double dc__law_double pm__law_double an__law_double cd__law_double ct__law_double, F__law_double := fun_mk (st := s__law_double) l__law_double c__law_double k__law_double, b__law_double := (fun_mk (st := s__law_double) l__law_double c__law_double k__law_double).binds (ps := ["x"]) fun _ _ _ _ _ _ us hl => match us, hl with | [_], _ => rfl,
    g__law_orbit := PySem.W.mg_of X G a__law_orbit,
    f__law_orbit := f__law_orbit, fd__law_orbit := PySem.W.fnOf "_law_orbit" "_law_orbit" (defArgs s__law_orbit) (defBody s__law_orbit) (defScope s__law_orbit) .none kV__law_orbit dc__law_orbit pm__law_orbit an__law_orbit cd__law_orbit ct__law_orbit, F__law_orbit := fun_mk (st := s__law_orbit) l__law_orbit c__law_orbit k__law_orbit, b__law_orbit := (fun_mk (st := s__law_orbit) l__law_orbit c__law_orbit k__law_orbit).binds (ps := ["x"]) fun _ _ _ _ _ _ us hl => match us, hl with | [_], _ => rfl,
    g__law_ways := PySem.W.mg_of X G a__law_ways,
    f__law_ways := f__law_ways, fd__law_ways := PySem.W.fnOf "_law_ways" "_law_ways" (defArgs s__law_ways) (defBody s__law_ways) (defScope s__law_ways) .none kV__law_ways dc__law_ways pm__law_ways an__law_ways cd__law_ways ct__law_ways, F__law_ways := fun_mk (st := s__law_ways) l__law_ways c__law_ways k__law_ways, b__law_ways := (fun_mk (st := s__law_ways) l__law_ways c__law_ways k__law_ways).binds (ps := ["x"]) fun _ _ _ _ _ _ us hl => match us, hl with | [_], _ => rfl,
    g__law_binary := PySem.W.mg_of X G a__law_binary,
    f__law_binary := f__law_binary, fd__law_binary := PySem.W.fnOf "_law_binary" "_law_binary" (defArgs s__law_binary) (defBody s__law_binary) (defScope s__law_binary) .none kV__law_binary dc__law_binary pm__law_binary an__law_binary cd__law_binary ct__law_binary, F__law_binary := fun_mk (st := s__law_binary) l__law_binary c__law_binary k__law_binary, b__law_binary := (fun_mk (st := s__law_binary) l__law_binary c__law_binary k__law_binary).binds (ps := ["head", "cycle"]) fun _ _ _ _ _ _ us hl => match us, hl with | [_, _], _ => rfl,
    g__law_string := PySem.W.mg_of X G a__law_string,
    f__law_string := f__law_string, fd__law_string := PySem.W.fnOf "_law_string" "_law_string" (defArgs s__law_string) (defBody s__law_string) (defScope s__law_string) .none kV__law_string dc__law_string pm__law_string an__law_string cd__law_string ct__law_string, F__law_string := fun_mk (st := s__law_string) l__law_string c__law_string k__law_string, b__law_string := (fun_mk (st := s__law_string) l__law_string c__law_string k__law_string).binds (ps := ["m", "size_v"]) fun _ _ _ _ _ _ us hl => match us, hl with | [_, _], _ => rfl,
    g__law_sorted := PySem.W.mg_of X G a__law_sorted,
    f__law_sorted := f__law_sorted, fd__law_sorted := PySem.W.fnOf "_law_sorted" "_law_sorted" (defArgs s__law_sorted) (defBody s__law_sorted) (defScope s__law_sorted) .none kV__law_sorted dc__law_sorted pm__law_sorted an__law_sorted cd__law_sorted ct__law_sorted, F__law_sorted := fun_mk (st := s__law_sorted) l__law_sorted c__law_sorted k__law_sorted, b__law_sorted := (fun_mk (st := s__law_sorted) l__law_sorted c__law_sorted k__law_sorted).binds (ps := ["rows"]) fun _ _ _ _ _ _ us hl => match us, hl with | [_], _ => rfl,
    g__law_all_places := PySem.W.mg_of X G a__law_all_places,
    f__law_all_places := f__law_all_places, fd__law_all_places := PySem.W.fnOf "_law_all_places" "_law_all_places" (defArgs s__law_all_places) (defBody s__law_all_places) (defScope s__law_all_places) .none kV__law_all_places dc__law_all_places pm__law_all_places an__law_all_places cd__law_all_places ct__law_all_places, F__law_all_places := fun_mk (st := s__law_all_places) l__law_all_places c__law_all_places k__law_all_places, b__law_all_places := (fun_mk (st := s__law_all_places) l__law_all_places c__law_all_places k__law_all_places).binds (ps := ["ahead", "again"]) fun _ _ _ _ _ _ us hl => match us, hl with | [_, _], _ => rfl,
    g__law_pairs := PySem.W.mg_of X G a__law_pairs,
    f__law_pairs := f__law_pairs, fd__law_pairs := PySem.W.fnOf "_law_pairs" "_law_pairs" (defArgs s__law_pairs) (defBody s__law_pairs) (defScope s__law_pairs) .none kV__law_pairs dc__law_pairs pm__law_pairs an__law_pairs cd__law_pairs ct__law_pairs, F__law_pairs := fun_mk (st := s__law_pairs) l__law_pairs c__law_pairs k__law_pairs, b__law_pairs := (fun_mk (st := s__law_pairs) l__law_pairs c__law_pairs k__law_pairs).binds (ps := ["most"]) fun _ _ _ _ _ _ us hl => match us, hl with | [_], _ => rfl,
    g__law_mirrored := PySem.W.mg_of X G a__law_mirrored,
    f__law_mirrored := f__law_mirrored, fd__law_mirrored := PySem.W.fnOf "_law_mirrored" "_law_mirrored" (defArgs s__law_mirrored) (defBody s__law_mirrored) (defScope s__law_mirrored) .none kV__law_mirrored dc__law_mirrored pm__law_mirrored an__law_mirrored cd__law_mirrored ct__law_mirrored, F__law_mirrored := fun_mk (st := s__law_mirrored) l__law_mirrored c__law_mirrored k__law_mirrored, b__law_mirrored := (fun_mk (st := s__law_mirrored) l__law_mirrored c__law_mirrored k__law_mirrored).binds (ps := ["x"]) fun _ _ _ _ _ _ us hl => match us, hl with | [_], _ => rfl,
    g__law_lines := PySem.W.mg_of X G a__law_lines,
    f__law_lines := f__law_lines, fd__law_lines := PySem.W.fnOf "_law_lines" "_law_lines" (defArgs s__law_lines) (defBody s__law_lines) (defScope s__law_lines) .none kV__law_lines dc__law_lines pm__law_lines an__law_lines cd__law_lines ct__law_lines, F__law_lines := fun_mk (st := s__law_lines) l__law_lines c__law_lines k__law_lines, b__law_lines := (fun_mk (st := s__law_lines) l__law_lines c__law_lines k__law_lines).binds (ps := ["p", "q"]) fun _ _ _ _ _ _ us hl => match us, hl with | [_, _], _ => rfl,
    g__law_refused := PySem.W.mg_of X G a__law_refused,
    f__law_refused := f__law_refused, fd__law_refused := PySem.W.fnOf "_law_refused" "_law_refused" (defArgs s__law_refused) (defBody s__law_refused) (defScope s__law_refused) .none kV__law_refused dc__law_refused pm__law_refused an__law_refused cd__law_refused ct__law_refused, F__law_refused := fun_mk (st := s__law_refused) l__law_refused c__law_refused k__law_refused, b__law_refused := (fun_mk (st := s__law_refused) l__law_refused c__law_refused k__law_refused).binds (ps := ["t"]) fun _ _ _ _ _ _ us hl => match us, hl with | [_], _ => rfl,
    g_law := PySem.W.mg_of X G a_law,
    f_law := f_law, fd_law := PySem.W.fnOf "law" "law" (defArgs s_law) (defBody s_law) (defScope s_law) .none kV_law dc_law pm_law an_law cd_law ct_law, F_law := fun_mk (st := s_law) l_law c_law k_law, b_law := (fun_mk (st := s_law) l_law c_law k_law).binds (ps := ["script"]) fun _ _ _ _ _ _ us hl => match us, hl with | [_], _ => rfl,
    c_DialError := c_DialError, gc_DialError := PySem.W.mg_of X G gc_DialError, x_DialError := ⟨⟨⟨_, _, _, _, _, _, _, _, _, _, _, _, _, _, _, xL_DialError, by rfl⟩, sa_DialError, eC_DialError, tC_DialError, kC_DialError⟩, ⟨ga_DialError, gg_DialError, eC_DialError, hC_DialError⟩⟩,
    c_NotReturning := c_NotReturning, gc_NotReturning := PySem.W.mg_of X G gc_NotReturning, x_NotReturning := ⟨⟨⟨_, _, _, _, _, _, _, _, _, _, _, _, _, _, _, xL_NotReturning, by rfl⟩, sa_NotReturning, eC_NotReturning, tC_NotReturning, kC_NotReturning⟩, ⟨ga_NotReturning, gg_NotReturning, eC_NotReturning, hC_NotReturning⟩⟩,
    xq_NotReturning := xq_NotReturning,
    c_NotPair := c_NotPair, gc_NotPair := PySem.W.mg_of X G gc_NotPair, x_NotPair := ⟨⟨⟨_, _, _, _, _, _, _, _, _, _, _, _, _, _, _, xL_NotPair, by rfl⟩, sa_NotPair, eC_NotPair, tC_NotPair, kC_NotPair⟩, ⟨ga_NotPair, gg_NotPair, eC_NotPair, hC_NotPair⟩⟩,
    e_NotReturning_NotReturning := exm_ofS eC_NotReturning iL_NotReturning tC_NotReturning e_NotReturning_NotReturning,
    xc_NotReturning := ⟨ga_NotReturning, gg_NotReturning, eC_NotReturning, hC_NotReturning, ha_NotReturning, hnG, htG, hm_NotReturning⟩,
    k_NotReturning_DialError := kit_of iL_DialError tC_DialError e_NotReturning_DialError (fun _ => rfl),
    k_NotReturning_NotPair := kit_of iL_NotPair tC_NotPair e_NotReturning_NotPair (fun z => ne_NotReturning_NotPair z),
    k_NotReturning_ValueError := kit_ty (by decide +kernel) et_NotReturning_ValueError,
    z_ValueError := PySem.W.mg_none_of X G z_ValueError,
    z_abs := PySem.W.mg_none_of X G z_abs,
    z_bool := PySem.W.mg_none_of X G z_bool,
    z_int := PySem.W.mg_none_of X G z_int,
    z_isinstance := PySem.W.mg_none_of X G z_isinstance,
    z_len := PySem.W.mg_none_of X G z_len,
    z_list := PySem.W.mg_none_of X G z_list,
    z_max := PySem.W.mg_none_of X G z_max,
    z_min := PySem.W.mg_none_of X G z_min,
    z_range := PySem.W.mg_none_of X G z_range,
    z_sorted := PySem.W.mg_none_of X G z_sorted,
    z_str := PySem.W.mg_none_of X G z_str,
    z_tuple := PySem.W.mg_none_of X G z_tuple,
    i_gcd := PySem.W.mg_of X G i_gcd,
    t_COMMON := t_COMMON, c_COMMON := PySem.W.mg_of X G c_COMMON }
theorem all_mk {l : PySem.W.OpenLaw} {w : World} {K : PySem.W.Frag} {h : Heap} {mg : Str → Option Value} {fa : Addr} (X : K.In h) (G : h.Ns mainGlobals mg) (hfa : mg "law" = some (.ref fa)) {f_reduced f_size f_is_low f_double f_orbit f_way_in f_returns f__twos f_least_row f_mark f_plain_row f_kneading f_star_word f_next_unlike f_address f_is_greater f__law_begun f__law_draw f__law_of f__law_twos f__law_shared f__law_ratio f__law_double f__law_orbit f__law_ways f__law_binary f__law_string f__law_sorted f__law_all_places f__law_pairs f__law_mirrored f__law_lines f__law_refused f_law : Addr} {od_reduced an_reduced od_size an_size od_is_low an_is_low od_double an_double od_orbit an_orbit od_way_in an_way_in od_returns an_returns od__twos an__twos od_least_row an_least_row od_mark an_mark od_plain_row an_plain_row od_kneading an_kneading od_star_word an_star_word od_next_unlike an_next_unlike od_address an_address od_is_greater an_is_greater od__law_begun an__law_begun od__law_draw an__law_draw od__law_of an__law_of od__law_twos an__law_twos od__law_shared an__law_shared od__law_ratio an__law_ratio od__law_double an__law_double od__law_orbit an__law_orbit od__law_ways an__law_ways od__law_binary an__law_binary od__law_string an__law_string od__law_sorted an__law_sorted od__law_all_places an__law_all_places od__law_pairs an__law_pairs od__law_mirrored an__law_mirrored od__law_lines an__law_lines od__law_refused an__law_refused od_law an_law : Option Addr} {oc_reduced kV_reduced dc_reduced pm_reduced cd_reduced ct_reduced oc_size kV_size dc_size pm_size cd_size ct_size oc_is_low kV_is_low dc_is_low pm_is_low cd_is_low ct_is_low oc_double kV_double dc_double pm_double cd_double ct_double oc_orbit kV_orbit dc_orbit pm_orbit cd_orbit ct_orbit oc_way_in kV_way_in dc_way_in pm_way_in cd_way_in ct_way_in oc_returns kV_returns dc_returns pm_returns cd_returns ct_returns oc__twos kV__twos dc__twos pm__twos cd__twos ct__twos oc_least_row kV_least_row dc_least_row pm_least_row cd_least_row ct_least_row oc_mark kV_mark dc_mark pm_mark cd_mark ct_mark oc_plain_row kV_plain_row dc_plain_row pm_plain_row cd_plain_row ct_plain_row oc_kneading kV_kneading dc_kneading pm_kneading cd_kneading ct_kneading oc_star_word kV_star_word dc_star_word pm_star_word cd_star_word ct_star_word oc_next_unlike kV_next_unlike dc_next_unlike pm_next_unlike cd_next_unlike ct_next_unlike oc_address kV_address dc_address pm_address cd_address ct_address oc_is_greater kV_is_greater dc_is_greater pm_is_greater cd_is_greater ct_is_greater oc__law_begun kV__law_begun dc__law_begun pm__law_begun cd__law_begun ct__law_begun oc__law_draw kV__law_draw dc__law_draw pm__law_draw cd__law_draw ct__law_draw oc__law_of kV__law_of dc__law_of pm__law_of cd__law_of ct__law_of oc__law_twos kV__law_twos dc__law_twos pm__law_twos cd__law_twos ct__law_twos oc__law_shared kV__law_shared dc__law_shared pm__law_shared cd__law_shared ct__law_shared oc__law_ratio kV__law_ratio dc__law_ratio pm__law_ratio cd__law_ratio ct__law_ratio oc__law_double kV__law_double dc__law_double pm__law_double cd__law_double ct__law_double oc__law_orbit kV__law_orbit dc__law_orbit pm__law_orbit cd__law_orbit ct__law_orbit oc__law_ways kV__law_ways dc__law_ways pm__law_ways cd__law_ways ct__law_ways oc__law_binary kV__law_binary dc__law_binary pm__law_binary cd__law_binary ct__law_binary oc__law_string kV__law_string dc__law_string pm__law_string cd__law_string ct__law_string oc__law_sorted kV__law_sorted dc__law_sorted pm__law_sorted cd__law_sorted ct__law_sorted oc__law_all_places kV__law_all_places dc__law_all_places pm__law_all_places cd__law_all_places ct__law_all_places oc__law_pairs kV__law_pairs dc__law_pairs pm__law_pairs cd__law_pairs ct__law_pairs oc__law_mirrored kV__law_mirrored dc__law_mirrored pm__law_mirrored cd__law_mirrored ct__law_mirrored oc__law_lines kV__law_lines dc__law_lines pm__law_lines cd__law_lines ct__law_lines oc__law_refused kV__law_refused dc__law_refused pm__law_refused cd__law_refused ct__law_refused oc_law kV_law dc_law pm_law cd_law ct_law : Value} {sl_reduced sl_size sl_is_low sl_double sl_orbit sl_way_in sl_returns sl__twos sl_least_row sl_mark sl_plain_row sl_kneading sl_star_word sl_next_unlike sl_address sl_is_greater sl__law_begun sl__law_draw sl__law_of sl__law_twos sl__law_shared sl__law_ratio sl__law_double sl__law_orbit sl__law_ways sl__law_binary sl__law_string sl__law_sorted sl__law_all_places sl__law_pairs sl__law_mirrored sl__law_lines sl__law_refused sl_law : Array (Option Value)} {c_DialError N_DialError : Addr} {nm_DialError q_DialError : Str} {bs_DialError sub_DialError : List Value} {sn_DialError : List Str} {ab_DialError : Bool} {col_DialError : Option Bool} {dd_DialError : Option Addr} {m0_DialError m1_DialError m2_DialError m3_DialError m5_DialError : Option Value} {c_NotReturning N_NotReturning : Addr} {nm_NotReturning q_NotReturning : Str} {bs_NotReturning sub_NotReturning : List Value} {sn_NotReturning : List Str} {ab_NotReturning : Bool} {col_NotReturning : Option Bool} {dd_NotReturning : Option Addr} {m0_NotReturning m1_NotReturning m2_NotReturning m3_NotReturning m5_NotReturning : Option Value} {c_NotPair N_NotPair : Addr} {nm_NotPair q_NotPair : Str} {bs_NotPair sub_NotPair : List Value} {sn_NotPair : List Str} {ab_NotPair : Bool} {col_NotPair : Option Bool} {dd_NotPair : Option Addr} {m0_NotPair m1_NotPair m2_NotPair m3_NotPair m5_NotPair : Option Value} {t_COMMON : Tok}
    (gc_DialError : PySem.W.nsIn K mainGlobals "DialError" = some (some (.ref c_DialError)))
    (xL_DialError : K.lookup c_DialError = some (excClassObj nm_DialError q_DialError c_DialError N_DialError bs_DialError ([.type "ValueError", .type "Exception", .type "BaseException", .type "object"]) true sn_DialError sub_DialError ab_DialError col_DialError dd_DialError m0_DialError m1_DialError m2_DialError m3_DialError m5_DialError "ValueError.__new__"))
    (sa_DialError : PySem.W.findIn K (.ref c_DialError) "__setattr__" = some (some (.builtin "object.__setattr__")))
    (eC_DialError : PySem.W.subIn K (.ref c_DialError) (.type "BaseException") = some true)
    (tC_DialError : PySem.W.typeIn K (.ref c_DialError) = some (.type "type"))
    (kC_DialError : PySem.W.keepIn K (.ref c_DialError) = true)
    (ga_DialError : PySem.W.findIn K (.ref c_DialError) "__getattribute__" = some (some (.builtin "BaseException.__getattribute__")))
    (gg_DialError : PySem.W.findIn K (.ref c_DialError) "__getattr__" = some none)
    (hC_DialError : PySem.W.hasDictIn K c_DialError = true)
    (gc_NotReturning : PySem.W.nsIn K mainGlobals "NotReturning" = some (some (.ref c_NotReturning)))
    (xL_NotReturning : K.lookup c_NotReturning = some (excClassObj nm_NotReturning q_NotReturning c_NotReturning N_NotReturning bs_NotReturning (.ref c_DialError :: [.type "ValueError", .type "Exception", .type "BaseException", .type "object"]) true sn_NotReturning sub_NotReturning ab_NotReturning col_NotReturning dd_NotReturning m0_NotReturning m1_NotReturning m2_NotReturning m3_NotReturning m5_NotReturning "ValueError.__new__"))
    (sa_NotReturning : PySem.W.findIn K (.ref c_NotReturning) "__setattr__" = some (some (.builtin "object.__setattr__")))
    (eC_NotReturning : PySem.W.subIn K (.ref c_NotReturning) (.type "BaseException") = some true)
    (tC_NotReturning : PySem.W.typeIn K (.ref c_NotReturning) = some (.type "type"))
    (kC_NotReturning : PySem.W.keepIn K (.ref c_NotReturning) = true)
    (ga_NotReturning : PySem.W.findIn K (.ref c_NotReturning) "__getattribute__" = some (some (.builtin "BaseException.__getattribute__")))
    (gg_NotReturning : PySem.W.findIn K (.ref c_NotReturning) "__getattr__" = some none)
    (hC_NotReturning : PySem.W.hasDictIn K c_NotReturning = true)
    (xq_NotReturning : PySem.W.excIn K c_NotReturning [.type "ValueError", .type "Exception", .type "BaseException", .type "object"] "ValueError.__new__" = true)
    (gc_NotPair : PySem.W.nsIn K mainGlobals "NotPair" = some (some (.ref c_NotPair)))
    (xL_NotPair : K.lookup c_NotPair = some (excClassObj nm_NotPair q_NotPair c_NotPair N_NotPair bs_NotPair (.ref c_DialError :: [.type "ValueError", .type "Exception", .type "BaseException", .type "object"]) true sn_NotPair sub_NotPair ab_NotPair col_NotPair dd_NotPair m0_NotPair m1_NotPair m2_NotPair m3_NotPair m5_NotPair "ValueError.__new__"))
    (sa_NotPair : PySem.W.findIn K (.ref c_NotPair) "__setattr__" = some (some (.builtin "object.__setattr__")))
    (eC_NotPair : PySem.W.subIn K (.ref c_NotPair) (.type "BaseException") = some true)
    (tC_NotPair : PySem.W.typeIn K (.ref c_NotPair) = some (.type "type"))
    (kC_NotPair : PySem.W.keepIn K (.ref c_NotPair) = true)
    (ga_NotPair : PySem.W.findIn K (.ref c_NotPair) "__getattribute__" = some (some (.builtin "BaseException.__getattribute__")))
    (gg_NotPair : PySem.W.findIn K (.ref c_NotPair) "__getattr__" = some none)
    (hC_NotPair : PySem.W.hasDictIn K c_NotPair = true)
    (e_NotReturning_NotReturning : PySem.W.subIn K (.ref c_NotReturning) (.ref c_NotReturning) = some true)
    (hnG : PySem.W.specialIn K (.builtin "object.__class__") "__get__" = some (some (.builtin "getset_descriptor.__get__"))) (htG : PySem.W.takesIn K (.builtin "object.__class__") = some true)
    (ha_NotReturning : PySem.W.findIn K (.ref c_NotReturning) "__class__" = some (some (.builtin "object.__class__"))) (hm_NotReturning : PySem.W.mroIn K c_NotReturning (.type "object") = some true)
    (iL_DialError : PySem.W.isClsIn K c_DialError = true)
    (e_NotReturning_DialError : PySem.W.subIn K (.ref c_NotReturning) (.ref c_DialError) = some true)
    (iL_NotPair : PySem.W.isClsIn K c_NotPair = true)
    (e_NotReturning_NotPair : PySem.W.subIn K (.ref c_NotReturning) (.ref c_NotPair) = some false)
    (ne_NotReturning_NotPair : c_NotReturning = c_NotPair → false = true)
    (et_NotReturning_ValueError : PySem.W.subIn K (.ref c_NotReturning) (.type "ValueError") = some true)
    (iL_NotReturning : PySem.W.isClsIn K c_NotReturning = true)
    (a_reduced : PySem.W.nsIn K mainGlobals "reduced" = some (some (.ref f_reduced)))
    (l_reduced : K.lookup f_reduced = some ⟨oc_reduced, od_reduced, .func (PySem.W.fnOf "reduced" "reduced" (defArgs s_reduced) (defBody s_reduced) (defScope s_reduced) .none kV_reduced dc_reduced pm_reduced an_reduced cd_reduced ct_reduced), sl_reduced⟩) (c_reduced : PySem.W.codeIn K cd_reduced "reduced" = true) (k_reduced : PySem.W.keepIn K (.ref f_reduced) = true)
    (a_size : PySem.W.nsIn K mainGlobals "size" = some (some (.ref f_size)))
    (l_size : K.lookup f_size = some ⟨oc_size, od_size, .func (PySem.W.fnOf "size" "size" (defArgs s_size) (defBody s_size) (defScope s_size) .none kV_size dc_size pm_size an_size cd_size ct_size), sl_size⟩) (c_size : PySem.W.codeIn K cd_size "size" = true) (k_size : PySem.W.keepIn K (.ref f_size) = true)
    (a_is_low : PySem.W.nsIn K mainGlobals "is_low" = some (some (.ref f_is_low)))
    (l_is_low : K.lookup f_is_low = some ⟨oc_is_low, od_is_low, .func (PySem.W.fnOf "is_low" "is_low" (defArgs s_is_low) (defBody s_is_low) (defScope s_is_low) .none kV_is_low dc_is_low pm_is_low an_is_low cd_is_low ct_is_low), sl_is_low⟩) (c_is_low : PySem.W.codeIn K cd_is_low "is_low" = true) (k_is_low : PySem.W.keepIn K (.ref f_is_low) = true)
    (a_double : PySem.W.nsIn K mainGlobals "double" = some (some (.ref f_double)))
    (l_double : K.lookup f_double = some ⟨oc_double, od_double, .func (PySem.W.fnOf "double" "double" (defArgs s_double) (defBody s_double) (defScope s_double) .none kV_double dc_double pm_double an_double cd_double ct_double), sl_double⟩) (c_double : PySem.W.codeIn K cd_double "double" = true) (k_double : PySem.W.keepIn K (.ref f_double) = true)
    (a_orbit : PySem.W.nsIn K mainGlobals "orbit" = some (some (.ref f_orbit)))
    (l_orbit : K.lookup f_orbit = some ⟨oc_orbit, od_orbit, .func (PySem.W.fnOf "orbit" "orbit" (defArgs s_orbit) (defBody s_orbit) (defScope s_orbit) .none kV_orbit dc_orbit pm_orbit an_orbit cd_orbit ct_orbit), sl_orbit⟩) (c_orbit : PySem.W.codeIn K cd_orbit "orbit" = true) (k_orbit : PySem.W.keepIn K (.ref f_orbit) = true)
    (a_way_in : PySem.W.nsIn K mainGlobals "way_in" = some (some (.ref f_way_in)))
    (l_way_in : K.lookup f_way_in = some ⟨oc_way_in, od_way_in, .func (PySem.W.fnOf "way_in" "way_in" (defArgs s_way_in) (defBody s_way_in) (defScope s_way_in) .none kV_way_in dc_way_in pm_way_in an_way_in cd_way_in ct_way_in), sl_way_in⟩) (c_way_in : PySem.W.codeIn K cd_way_in "way_in" = true) (k_way_in : PySem.W.keepIn K (.ref f_way_in) = true)
    (a_returns : PySem.W.nsIn K mainGlobals "returns" = some (some (.ref f_returns)))
    (l_returns : K.lookup f_returns = some ⟨oc_returns, od_returns, .func (PySem.W.fnOf "returns" "returns" (defArgs s_returns) (defBody s_returns) (defScope s_returns) .none kV_returns dc_returns pm_returns an_returns cd_returns ct_returns), sl_returns⟩) (c_returns : PySem.W.codeIn K cd_returns "returns" = true) (k_returns : PySem.W.keepIn K (.ref f_returns) = true)
    (a__twos : PySem.W.nsIn K mainGlobals "_twos" = some (some (.ref f__twos)))
    (l__twos : K.lookup f__twos = some ⟨oc__twos, od__twos, .func (PySem.W.fnOf "_twos" "_twos" (defArgs s__twos) (defBody s__twos) (defScope s__twos) .none kV__twos dc__twos pm__twos an__twos cd__twos ct__twos), sl__twos⟩) (c__twos : PySem.W.codeIn K cd__twos "_twos" = true) (k__twos : PySem.W.keepIn K (.ref f__twos) = true)
    (a_least_row : PySem.W.nsIn K mainGlobals "least_row" = some (some (.ref f_least_row)))
    (l_least_row : K.lookup f_least_row = some ⟨oc_least_row, od_least_row, .func (PySem.W.fnOf "least_row" "least_row" (defArgs s_least_row) (defBody s_least_row) (defScope s_least_row) .none kV_least_row dc_least_row pm_least_row an_least_row cd_least_row ct_least_row), sl_least_row⟩) (c_least_row : PySem.W.codeIn K cd_least_row "least_row" = true) (k_least_row : PySem.W.keepIn K (.ref f_least_row) = true)
    (a_mark : PySem.W.nsIn K mainGlobals "mark" = some (some (.ref f_mark)))
    (l_mark : K.lookup f_mark = some ⟨oc_mark, od_mark, .func (PySem.W.fnOf "mark" "mark" (defArgs s_mark) (defBody s_mark) (defScope s_mark) .none kV_mark dc_mark pm_mark an_mark cd_mark ct_mark), sl_mark⟩) (c_mark : PySem.W.codeIn K cd_mark "mark" = true) (k_mark : PySem.W.keepIn K (.ref f_mark) = true)
    (a_plain_row : PySem.W.nsIn K mainGlobals "plain_row" = some (some (.ref f_plain_row)))
    (l_plain_row : K.lookup f_plain_row = some ⟨oc_plain_row, od_plain_row, .func (PySem.W.fnOf "plain_row" "plain_row" (defArgs s_plain_row) (defBody s_plain_row) (defScope s_plain_row) .none kV_plain_row dc_plain_row pm_plain_row an_plain_row cd_plain_row ct_plain_row), sl_plain_row⟩) (c_plain_row : PySem.W.codeIn K cd_plain_row "plain_row" = true) (k_plain_row : PySem.W.keepIn K (.ref f_plain_row) = true)
    (a_kneading : PySem.W.nsIn K mainGlobals "kneading" = some (some (.ref f_kneading)))
    (l_kneading : K.lookup f_kneading = some ⟨oc_kneading, od_kneading, .func (PySem.W.fnOf "kneading" "kneading" (defArgs s_kneading) (defBody s_kneading) (defScope s_kneading) .none kV_kneading dc_kneading pm_kneading an_kneading cd_kneading ct_kneading), sl_kneading⟩) (c_kneading : PySem.W.codeIn K cd_kneading "kneading" = true) (k_kneading : PySem.W.keepIn K (.ref f_kneading) = true)
    (a_star_word : PySem.W.nsIn K mainGlobals "star_word" = some (some (.ref f_star_word)))
    (l_star_word : K.lookup f_star_word = some ⟨oc_star_word, od_star_word, .func (PySem.W.fnOf "star_word" "star_word" (defArgs s_star_word) (defBody s_star_word) (defScope s_star_word) .none kV_star_word dc_star_word pm_star_word an_star_word cd_star_word ct_star_word), sl_star_word⟩) (c_star_word : PySem.W.codeIn K cd_star_word "star_word" = true) (k_star_word : PySem.W.keepIn K (.ref f_star_word) = true)
    (a_next_unlike : PySem.W.nsIn K mainGlobals "next_unlike" = some (some (.ref f_next_unlike)))
    (l_next_unlike : K.lookup f_next_unlike = some ⟨oc_next_unlike, od_next_unlike, .func (PySem.W.fnOf "next_unlike" "next_unlike" (defArgs s_next_unlike) (defBody s_next_unlike) (defScope s_next_unlike) .none kV_next_unlike dc_next_unlike pm_next_unlike an_next_unlike cd_next_unlike ct_next_unlike), sl_next_unlike⟩) (c_next_unlike : PySem.W.codeIn K cd_next_unlike "next_unlike" = true) (k_next_unlike : PySem.W.keepIn K (.ref f_next_unlike) = true)
    (a_address : PySem.W.nsIn K mainGlobals "address" = some (some (.ref f_address)))
    (l_address : K.lookup f_address = some ⟨oc_address, od_address, .func (PySem.W.fnOf "address" "address" (defArgs s_address) (defBody s_address) (defScope s_address) .none kV_address dc_address pm_address an_address cd_address ct_address), sl_address⟩) (c_address : PySem.W.codeIn K cd_address "address" = true) (k_address : PySem.W.keepIn K (.ref f_address) = true)
    (a_is_greater : PySem.W.nsIn K mainGlobals "is_greater" = some (some (.ref f_is_greater)))
    (l_is_greater : K.lookup f_is_greater = some ⟨oc_is_greater, od_is_greater, .func (PySem.W.fnOf "is_greater" "is_greater" (defArgs s_is_greater) (defBody s_is_greater) (defScope s_is_greater) .none kV_is_greater dc_is_greater pm_is_greater an_is_greater cd_is_greater ct_is_greater), sl_is_greater⟩) (c_is_greater : PySem.W.codeIn K cd_is_greater "is_greater" = true) (k_is_greater : PySem.W.keepIn K (.ref f_is_greater) = true)
    (a__law_begun : PySem.W.nsIn K mainGlobals "_law_begun" = some (some (.ref f__law_begun)))
    (l__law_begun : K.lookup f__law_begun = some ⟨oc__law_begun, od__law_begun, .func (PySem.W.fnOf "_law_begun" "_law_begun" (defArgs s__law_begun) (defBody s__law_begun) (defScope s__law_begun) .none kV__law_begun dc__law_begun pm__law_begun an__law_begun cd__law_begun ct__law_begun), sl__law_begun⟩) (c__law_begun : PySem.W.codeIn K cd__law_begun "_law_begun" = true) (k__law_begun : PySem.W.keepIn K (.ref f__law_begun) = true)
    (a__law_draw : PySem.W.nsIn K mainGlobals "_law_draw" = some (some (.ref f__law_draw)))
    (l__law_draw : K.lookup f__law_draw = some ⟨oc__law_draw, od__law_draw, .func (PySem.W.fnOf "_law_draw" "_law_draw" (defArgs s__law_draw) (defBody s__law_draw) (defScope s__law_draw) .none kV__law_draw dc__law_draw pm__law_draw an__law_draw cd__law_draw ct__law_draw), sl__law_draw⟩) (c__law_draw : PySem.W.codeIn K cd__law_draw "_law_draw" = true) (k__law_draw : PySem.W.keepIn K (.ref f__law_draw) = true)
    (a__law_of : PySem.W.nsIn K mainGlobals "_law_of" = some (some (.ref f__law_of)))
    (l__law_of : K.lookup f__law_of = some ⟨oc__law_of, od__law_of, .func (PySem.W.fnOf "_law_of" "_law_of" (defArgs s__law_of) (defBody s__law_of) (defScope s__law_of) .none kV__law_of dc__law_of pm__law_of an__law_of cd__law_of ct__law_of), sl__law_of⟩) (c__law_of : PySem.W.codeIn K cd__law_of "_law_of" = true) (k__law_of : PySem.W.keepIn K (.ref f__law_of) = true)
    (a__law_twos : PySem.W.nsIn K mainGlobals "_law_twos" = some (some (.ref f__law_twos)))
    (l__law_twos : K.lookup f__law_twos = some ⟨oc__law_twos, od__law_twos, .func (PySem.W.fnOf "_law_twos" "_law_twos" (defArgs s__law_twos) (defBody s__law_twos) (defScope s__law_twos) .none kV__law_twos dc__law_twos pm__law_twos an__law_twos cd__law_twos ct__law_twos), sl__law_twos⟩) (c__law_twos : PySem.W.codeIn K cd__law_twos "_law_twos" = true) (k__law_twos : PySem.W.keepIn K (.ref f__law_twos) = true)
    (a__law_shared : PySem.W.nsIn K mainGlobals "_law_shared" = some (some (.ref f__law_shared)))
    (l__law_shared : K.lookup f__law_shared = some ⟨oc__law_shared, od__law_shared, .func (PySem.W.fnOf "_law_shared" "_law_shared" (defArgs s__law_shared) (defBody s__law_shared) (defScope s__law_shared) .none kV__law_shared dc__law_shared pm__law_shared an__law_shared cd__law_shared ct__law_shared), sl__law_shared⟩) (c__law_shared : PySem.W.codeIn K cd__law_shared "_law_shared" = true) (k__law_shared : PySem.W.keepIn K (.ref f__law_shared) = true)
    (a__law_ratio : PySem.W.nsIn K mainGlobals "_law_ratio" = some (some (.ref f__law_ratio)))
    (l__law_ratio : K.lookup f__law_ratio = some ⟨oc__law_ratio, od__law_ratio, .func (PySem.W.fnOf "_law_ratio" "_law_ratio" (defArgs s__law_ratio) (defBody s__law_ratio) (defScope s__law_ratio) .none kV__law_ratio dc__law_ratio pm__law_ratio an__law_ratio cd__law_ratio ct__law_ratio), sl__law_ratio⟩) (c__law_ratio : PySem.W.codeIn K cd__law_ratio "_law_ratio" = true) (k__law_ratio : PySem.W.keepIn K (.ref f__law_ratio) = true)
    (a__law_double : PySem.W.nsIn K mainGlobals "_law_double" = some (some (.ref f__law_double)))
    (l__law_double : K.lookup f__law_double = some ⟨oc__law_double, od__law_double, .func (PySem.W.fnOf "_law_double" "_law_double" (defArgs s__law_double) (defBody s__law_double) (defScope s__law_double) .none kV__law_double dc__law_double pm__law_double an__law_double cd__law_double ct__law_double), sl__law_double⟩) (c__law_double : PySem.W.codeIn K cd__law_double "_law_double" = true) (k__law_double : PySem.W.keepIn K (.ref f__law_double) = true)
    (a__law_orbit : PySem.W.nsIn K mainGlobals "_law_orbit" = some (some (.ref f__law_orbit)))
    (l__law_orbit : K.lookup f__law_orbit = some ⟨oc__law_orbit, od__law_orbit, .func (PySem.W.fnOf "_law_orbit" "_law_orbit" (defArgs s__law_orbit) (defBody s__law_orbit) (defScope s__law_orbit) .none kV__law_orbit dc__law_orbit pm__law_orbit an__law_orbit cd__law_orbit ct__law_orbit), sl__law_orbit⟩) (c__law_orbit : PySem.W.codeIn K cd__law_orbit "_law_orbit" = true) (k__law_orbit : PySem.W.keepIn K (.ref f__law_orbit) = true)
    (a__law_ways : PySem.W.nsIn K mainGlobals "_law_ways" = some (some (.ref f__law_ways)))
    (l__law_ways : K.lookup f__law_ways = some ⟨oc__law_ways, od__law_ways, .func (PySem.W.fnOf "_law_ways" "_law_ways" (defArgs s__law_ways) (defBody s__law_ways) (defScope s__law_ways) .none kV__law_ways dc__law_ways pm__law_ways an__law_ways cd__law_ways ct__law_ways), sl__law_ways⟩) (c__law_ways : PySem.W.codeIn K cd__law_ways "_law_ways" = true) (k__law_ways : PySem.W.keepIn K (.ref f__law_ways) = true)
    (a__law_binary : PySem.W.nsIn K mainGlobals "_law_binary" = some (some (.ref f__law_binary)))
    (l__law_binary : K.lookup f__law_binary = some ⟨oc__law_binary, od__law_binary, .func (PySem.W.fnOf "_law_binary" "_law_binary" (defArgs s__law_binary) (defBody s__law_binary) (defScope s__law_binary) .none kV__law_binary dc__law_binary pm__law_binary an__law_binary cd__law_binary ct__law_binary), sl__law_binary⟩) (c__law_binary : PySem.W.codeIn K cd__law_binary "_law_binary" = true) (k__law_binary : PySem.W.keepIn K (.ref f__law_binary) = true)
    (a__law_string : PySem.W.nsIn K mainGlobals "_law_string" = some (some (.ref f__law_string)))
    (l__law_string : K.lookup f__law_string = some ⟨oc__law_string, od__law_string, .func (PySem.W.fnOf "_law_string" "_law_string" (defArgs s__law_string) (defBody s__law_string) (defScope s__law_string) .none kV__law_string dc__law_string pm__law_string an__law_string cd__law_string ct__law_string), sl__law_string⟩) (c__law_string : PySem.W.codeIn K cd__law_string "_law_string" = true) (k__law_string : PySem.W.keepIn K (.ref f__law_string) = true)
    (a__law_sorted : PySem.W.nsIn K mainGlobals "_law_sorted" = some (some (.ref f__law_sorted)))
    (l__law_sorted : K.lookup f__law_sorted = some ⟨oc__law_sorted, od__law_sorted, .func (PySem.W.fnOf "_law_sorted" "_law_sorted" (defArgs s__law_sorted) (defBody s__law_sorted) (defScope s__law_sorted) .none kV__law_sorted dc__law_sorted pm__law_sorted an__law_sorted cd__law_sorted ct__law_sorted), sl__law_sorted⟩) (c__law_sorted : PySem.W.codeIn K cd__law_sorted "_law_sorted" = true) (k__law_sorted : PySem.W.keepIn K (.ref f__law_sorted) = true)
    (a__law_all_places : PySem.W.nsIn K mainGlobals "_law_all_places" = some (some (.ref f__law_all_places)))
    (l__law_all_places : K.lookup f__law_all_places = some ⟨oc__law_all_places, od__law_all_places, .func (PySem.W.fnOf "_law_all_places" "_law_all_places" (defArgs s__law_all_places) (defBody s__law_all_places) (defScope s__law_all_places) .none kV__law_all_places dc__law_all_places pm__law_all_places an__law_all_places cd__law_all_places ct__law_all_places), sl__law_all_places⟩) (c__law_all_places : PySem.W.codeIn K cd__law_all_places "_law_all_places" = true) (k__law_all_places : PySem.W.keepIn K (.ref f__law_all_places) = true)
    (a__law_pairs : PySem.W.nsIn K mainGlobals "_law_pairs" = some (some (.ref f__law_pairs)))
    (l__law_pairs : K.lookup f__law_pairs = some ⟨oc__law_pairs, od__law_pairs, .func (PySem.W.fnOf "_law_pairs" "_law_pairs" (defArgs s__law_pairs) (defBody s__law_pairs) (defScope s__law_pairs) .none kV__law_pairs dc__law_pairs pm__law_pairs an__law_pairs cd__law_pairs ct__law_pairs), sl__law_pairs⟩) (c__law_pairs : PySem.W.codeIn K cd__law_pairs "_law_pairs" = true) (k__law_pairs : PySem.W.keepIn K (.ref f__law_pairs) = true)
    (a__law_mirrored : PySem.W.nsIn K mainGlobals "_law_mirrored" = some (some (.ref f__law_mirrored)))
    (l__law_mirrored : K.lookup f__law_mirrored = some ⟨oc__law_mirrored, od__law_mirrored, .func (PySem.W.fnOf "_law_mirrored" "_law_mirrored" (defArgs s__law_mirrored) (defBody s__law_mirrored) (defScope s__law_mirrored) .none kV__law_mirrored dc__law_mirrored pm__law_mirrored an__law_mirrored cd__law_mirrored ct__law_mirrored), sl__law_mirrored⟩) (c__law_mirrored : PySem.W.codeIn K cd__law_mirrored "_law_mirrored" = true) (k__law_mirrored : PySem.W.keepIn K (.ref f__law_mirrored) = true)
    (a__law_lines : PySem.W.nsIn K mainGlobals "_law_lines" = some (some (.ref f__law_lines)))
    (l__law_lines : K.lookup f__law_lines = some ⟨oc__law_lines, od__law_lines, .func (PySem.W.fnOf "_law_lines" "_law_lines" (defArgs s__law_lines) (defBody s__law_lines) (defScope s__law_lines) .none kV__law_lines dc__law_lines pm__law_lines an__law_lines cd__law_lines ct__law_lines), sl__law_lines⟩) (c__law_lines : PySem.W.codeIn K cd__law_lines "_law_lines" = true) (k__law_lines : PySem.W.keepIn K (.ref f__law_lines) = true)
    (a__law_refused : PySem.W.nsIn K mainGlobals "_law_refused" = some (some (.ref f__law_refused)))
    (l__law_refused : K.lookup f__law_refused = some ⟨oc__law_refused, od__law_refused, .func (PySem.W.fnOf "_law_refused" "_law_refused" (defArgs s__law_refused) (defBody s__law_refused) (defScope s__law_refused) .none kV__law_refused dc__law_refused pm__law_refused an__law_refused cd__law_refused ct__law_refused), sl__law_refused⟩) (c__law_refused : PySem.W.codeIn K cd__law_refused "_law_refused" = true) (k__law_refused : PySem.W.keepIn K (.ref f__law_refused) = true)
    (a_law : PySem.W.nsIn K mainGlobals "law" = some (some (.ref f_law)))
    (l_law : K.lookup f_law = some ⟨oc_law, od_law, .func (PySem.W.fnOf "law" "law" (defArgs s_law) (defBody s_law) (defScope s_law) .none kV_law dc_law pm_law an_law cd_law ct_law), sl_law⟩) (c_law : PySem.W.codeIn K cd_law "law" = true) (k_law : PySem.W.keepIn K (.ref f_law) = true)
    (z_ValueError : PySem.W.nsIn K mainGlobals "ValueError" = some none)
    (z_abs : PySem.W.nsIn K mainGlobals "abs" = some none)
    (z_bool : PySem.W.nsIn K mainGlobals "bool" = some none)
    (z_int : PySem.W.nsIn K mainGlobals "int" = some none)
    (z_isinstance : PySem.W.nsIn K mainGlobals "isinstance" = some none)
    (z_len : PySem.W.nsIn K mainGlobals "len" = some none)
    (z_list : PySem.W.nsIn K mainGlobals "list" = some none)
    (z_max : PySem.W.nsIn K mainGlobals "max" = some none)
    (z_min : PySem.W.nsIn K mainGlobals "min" = some none)
    (z_range : PySem.W.nsIn K mainGlobals "range" = some none)
    (z_sorted : PySem.W.nsIn K mainGlobals "sorted" = some none)
    (z_str : PySem.W.nsIn K mainGlobals "str" = some none)
    (z_tuple : PySem.W.nsIn K mainGlobals "tuple" = some none)
    (i_gcd : PySem.W.nsIn K mainGlobals "gcd" = some (some (.builtin "math.gcd")))
    (c_COMMON : PySem.W.nsIn K mainGlobals "COMMON" = some (some (.int 56525307072677432455503587098948920087821904549333509463754043204567040000 t_COMMON))) :
    ∃ fd : FuncData, (∀ (s : Shared) (v : Value), BindsTo s fd ⟨[v], []⟩ [("script", v)]) ∧ ∀ base : Heap, K.In base → base.Ns mainGlobals mg → FnOk l.prog w K mg base CX0 9 fa fd ["script"] (sp_law K) := by
  have e := hfa.symm.trans (PySem.W.mg_of X G a_law)
  cases e
  exact ⟨_, fun s v => .of_eq rfl, fun base _ _ => ok_law (top_mk X G gc_DialError xL_DialError sa_DialError eC_DialError tC_DialError kC_DialError ga_DialError gg_DialError hC_DialError gc_NotReturning xL_NotReturning sa_NotReturning eC_NotReturning tC_NotReturning kC_NotReturning ga_NotReturning gg_NotReturning hC_NotReturning xq_NotReturning gc_NotPair xL_NotPair sa_NotPair eC_NotPair tC_NotPair kC_NotPair ga_NotPair gg_NotPair hC_NotPair e_NotReturning_NotReturning hnG htG ha_NotReturning hm_NotReturning iL_DialError e_NotReturning_DialError iL_NotPair e_NotReturning_NotPair ne_NotReturning_NotPair et_NotReturning_ValueError iL_NotReturning a_reduced l_reduced c_reduced k_reduced a_size l_size c_size k_size a_is_low l_is_low c_is_low k_is_low a_double l_double c_double k_double a_orbit l_orbit c_orbit k_orbit a_way_in l_way_in c_way_in k_way_in a_returns l_returns c_returns k_returns a__twos l__twos c__twos k__twos a_least_row l_least_row c_least_row k_least_row a_mark l_mark c_mark k_mark a_plain_row l_plain_row c_plain_row k_plain_row a_kneading l_kneading c_kneading k_kneading a_star_word l_star_word c_star_word k_star_word a_next_unlike l_next_unlike c_next_unlike k_next_unlike a_address l_address c_address k_address a_is_greater l_is_greater c_is_greater k_is_greater a__law_begun l__law_begun c__law_begun k__law_begun a__law_draw l__law_draw c__law_draw k__law_draw a__law_of l__law_of c__law_of k__law_of a__law_twos l__law_twos c__law_twos k__law_twos a__law_shared l__law_shared c__law_shared k__law_shared a__law_ratio l__law_ratio c__law_ratio k__law_ratio a__law_double l__law_double c__law_double k__law_double a__law_orbit l__law_orbit c__law_orbit k__law_orbit a__law_ways l__law_ways c__law_ways k__law_ways a__law_binary l__law_binary c__law_binary k__law_binary a__law_string l__law_string c__law_string k__law_string a__law_sorted l__law_sorted c__law_sorted k__law_sorted a__law_all_places l__law_all_places c__law_all_places k__law_all_places a__law_pairs l__law_pairs c__law_pairs k__law_pairs a__law_mirrored l__law_mirrored c__law_mirrored k__law_mirrored a__law_lines l__law_lines c__law_lines k__law_lines a__law_refused l__law_refused c__law_refused k__law_refused a_law l_law c_law k_law z_ValueError z_abs z_bool z_int z_isinstance z_len z_list z_max z_min z_range z_sorted z_str z_tuple i_gcd c_COMMON)⟩
end Tw
open PySem PySem.W PyProof.Rows
set_option maxHeartbeats 0 in
theorem PySem.Challenge.cw_twicedial_k16_lesser_or_greater_holds : PySem.Challenge.rw_twicedial_k16_lesser_or_greater.Holds := by
  w_on; o_law; k_head; (case hw => w_witness2)
  k_fill
  refine L2.walk_ofB (l := PySem.Challenge.rw_twicedial_k16_lesser_or_greater) (n := 63) (k := 9) (x := "script") (CX := fun _ => L2.CX0) (sp := fun w => Tw.sp_law _) rfl (by decide) rfl ⟨rfl, by decide, by decide⟩ (fun w h Y => PySem.W.kIn_of Y) ?F (fun _ _ a ns hl hb _ hS => ⟨a, ns, rfl, hS, hl, hb, fun _ => rfl⟩) (fun _ _ _ _ _ h => h)
  case F =>
    intro w mg fa h KX G hmg
    refine' Tw.all_mk KX G hmg ?gc_DialError ?xL_DialError ?sa_DialError ?eC_DialError ?tC_DialError ?kC_DialError ?ga_DialError ?gg_DialError ?hC_DialError ?gc_NotReturning ?xL_NotReturning ?sa_NotReturning ?eC_NotReturning ?tC_NotReturning ?kC_NotReturning ?ga_NotReturning ?gg_NotReturning ?hC_NotReturning ?xq_NotReturning ?gc_NotPair ?xL_NotPair ?sa_NotPair ?eC_NotPair ?tC_NotPair ?kC_NotPair ?ga_NotPair ?gg_NotPair ?hC_NotPair ?e_NotReturning_NotReturning ?hnG ?htG ?ha_NotReturning ?hm_NotReturning ?iL_DialError ?e_NotReturning_DialError ?iL_NotPair ?e_NotReturning_NotPair ?ne_NotReturning_NotPair ?et_NotReturning_ValueError ?iL_NotReturning ?a_reduced ?l_reduced ?c_reduced ?k_reduced ?a_size ?l_size ?c_size ?k_size ?a_is_low ?l_is_low ?c_is_low ?k_is_low ?a_double ?l_double ?c_double ?k_double ?a_orbit ?l_orbit ?c_orbit ?k_orbit ?a_way_in ?l_way_in ?c_way_in ?k_way_in ?a_returns ?l_returns ?c_returns ?k_returns ?a__twos ?l__twos ?c__twos ?k__twos ?a_least_row ?l_least_row ?c_least_row ?k_least_row ?a_mark ?l_mark ?c_mark ?k_mark ?a_plain_row ?l_plain_row ?c_plain_row ?k_plain_row ?a_kneading ?l_kneading ?c_kneading ?k_kneading ?a_star_word ?l_star_word ?c_star_word ?k_star_word ?a_next_unlike ?l_next_unlike ?c_next_unlike ?k_next_unlike ?a_address ?l_address ?c_address ?k_address ?a_is_greater ?l_is_greater ?c_is_greater ?k_is_greater ?a__law_begun ?l__law_begun ?c__law_begun ?k__law_begun ?a__law_draw ?l__law_draw ?c__law_draw ?k__law_draw ?a__law_of ?l__law_of ?c__law_of ?k__law_of ?a__law_twos ?l__law_twos ?c__law_twos ?k__law_twos ?a__law_shared ?l__law_shared ?c__law_shared ?k__law_shared ?a__law_ratio ?l__law_ratio ?c__law_ratio ?k__law_ratio ?a__law_double ?l__law_double ?c__law_double ?k__law_double ?a__law_orbit ?l__law_orbit ?c__law_orbit ?k__law_orbit ?a__law_ways ?l__law_ways ?c__law_ways ?k__law_ways ?a__law_binary ?l__law_binary ?c__law_binary ?k__law_binary ?a__law_string ?l__law_string ?c__law_string ?k__law_string ?a__law_sorted ?l__law_sorted ?c__law_sorted ?k__law_sorted ?a__law_all_places ?l__law_all_places ?c__law_all_places ?k__law_all_places ?a__law_pairs ?l__law_pairs ?c__law_pairs ?k__law_pairs ?a__law_mirrored ?l__law_mirrored ?c__law_mirrored ?k__law_mirrored ?a__law_lines ?l__law_lines ?c__law_lines ?k__law_lines ?a__law_refused ?l__law_refused ?c__law_refused ?k__law_refused ?a_law ?l_law ?c_law ?k_law ?z_ValueError ?z_abs ?z_bool ?z_int ?z_isinstance ?z_len ?z_list ?z_max ?z_min ?z_range ?z_sorted ?z_str ?z_tuple ?i_gcd ?c_COMMON
    (case gc_DialError => k_is); (case xL_DialError => k_is); (case sa_DialError => k_is); (case eC_DialError => k_is); (case tC_DialError => k_is); (case kC_DialError => k_is); (case ga_DialError => k_is); (case gg_DialError => k_is); (case hC_DialError => k_is); (case gc_NotReturning => k_is); (case xL_NotReturning => k_is); (case sa_NotReturning => k_is); (case eC_NotReturning => k_is); (case tC_NotReturning => k_is); (case kC_NotReturning => k_is); (case ga_NotReturning => k_is); (case gg_NotReturning => k_is); (case hC_NotReturning => k_is); (case xq_NotReturning => first | k_exc | k_is); (case gc_NotPair => k_is); (case xL_NotPair => k_is); (case sa_NotPair => k_is); (case eC_NotPair => k_is); (case tC_NotPair => k_is); (case kC_NotPair => k_is); (case ga_NotPair => k_is); (case gg_NotPair => k_is); (case hC_NotPair => k_is); (case e_NotReturning_NotReturning => first | rfl | k_is); (case hnG => k_is); (case htG => k_is); (case ha_NotReturning => k_is); (case hm_NotReturning => k_is); (case iL_DialError => k_is); (case e_NotReturning_DialError => first | rfl | k_is); (case iL_NotPair => k_is); (case e_NotReturning_NotPair => first | rfl | k_is); (case ne_NotReturning_NotPair => first | decide | k_is); (case et_NotReturning_ValueError => first | rfl | k_is); (case iL_NotReturning => k_is); (case a_reduced => k_is); (case l_reduced => k_is); (case c_reduced => k_is); (case k_reduced => k_is); (case a_size => k_is); (case l_size => k_is); (case c_size => k_is); (case k_size => k_is); (case a_is_low => k_is); (case l_is_low => k_is); (case c_is_low => k_is); (case k_is_low => k_is); (case a_double => k_is); (case l_double => k_is); (case c_double => k_is); (case k_double => k_is); (case a_orbit => k_is); (case l_orbit => k_is); (case c_orbit => k_is); (case k_orbit => k_is); (case a_way_in => k_is); (case l_way_in => k_is); (case c_way_in => k_is); (case k_way_in => k_is); (case a_returns => k_is); (case l_returns => k_is); (case c_returns => k_is); (case k_returns => k_is); (case a__twos => k_is); (case l__twos => k_is); (case c__twos => k_is); (case k__twos => k_is); (case a_least_row => k_is); (case l_least_row => k_is); (case c_least_row => k_is); (case k_least_row => k_is); (case a_mark => k_is); (case l_mark => k_is); (case c_mark => k_is); (case k_mark => k_is); (case a_plain_row => k_is); (case l_plain_row => k_is); (case c_plain_row => k_is); (case k_plain_row => k_is); (case a_kneading => k_is); (case l_kneading => k_is); (case c_kneading => k_is); (case k_kneading => k_is); (case a_star_word => k_is); (case l_star_word => k_is); (case c_star_word => k_is); (case k_star_word => k_is); (case a_next_unlike => k_is); (case l_next_unlike => k_is); (case c_next_unlike => k_is); (case k_next_unlike => k_is); (case a_address => k_is); (case l_address => k_is); (case c_address => k_is); (case k_address => k_is); (case a_is_greater => k_is); (case l_is_greater => k_is); (case c_is_greater => k_is); (case k_is_greater => k_is); (case a__law_begun => k_is); (case l__law_begun => k_is); (case c__law_begun => k_is); (case k__law_begun => k_is); (case a__law_draw => k_is); (case l__law_draw => k_is); (case c__law_draw => k_is); (case k__law_draw => k_is); (case a__law_of => k_is); (case l__law_of => k_is); (case c__law_of => k_is); (case k__law_of => k_is); (case a__law_twos => k_is); (case l__law_twos => k_is); (case c__law_twos => k_is); (case k__law_twos => k_is); (case a__law_shared => k_is); (case l__law_shared => k_is); (case c__law_shared => k_is); (case k__law_shared => k_is); (case a__law_ratio => k_is); (case l__law_ratio => k_is); (case c__law_ratio => k_is); (case k__law_ratio => k_is); (case a__law_double => k_is); (case l__law_double => k_is); (case c__law_double => k_is); (case k__law_double => k_is); (case a__law_orbit => k_is); (case l__law_orbit => k_is); (case c__law_orbit => k_is); (case k__law_orbit => k_is); (case a__law_ways => k_is); (case l__law_ways => k_is); (case c__law_ways => k_is); (case k__law_ways => k_is); (case a__law_binary => k_is); (case l__law_binary => k_is); (case c__law_binary => k_is); (case k__law_binary => k_is); (case a__law_string => k_is); (case l__law_string => k_is); (case c__law_string => k_is); (case k__law_string => k_is); (case a__law_sorted => k_is); (case l__law_sorted => k_is); (case c__law_sorted => k_is); (case k__law_sorted => k_is); (case a__law_all_places => k_is); (case l__law_all_places => k_is); (case c__law_all_places => k_is); (case k__law_all_places => k_is); (case a__law_pairs => k_is); (case l__law_pairs => k_is); (case c__law_pairs => k_is); (case k__law_pairs => k_is); (case a__law_mirrored => k_is); (case l__law_mirrored => k_is); (case c__law_mirrored => k_is); (case k__law_mirrored => k_is); (case a__law_lines => k_is); (case l__law_lines => k_is); (case c__law_lines => k_is); (case k__law_lines => k_is); (case a__law_refused => k_is); (case l__law_refused => k_is); (case c__law_refused => k_is); (case k__law_refused => k_is); (case a_law => k_is); (case l_law => k_is); (case c_law => k_is); (case k_law => k_is); (case z_ValueError => k_is); (case z_abs => k_is); (case z_bool => k_is); (case z_int => k_is); (case z_isinstance => k_is); (case z_len => k_is); (case z_list => k_is); (case z_max => k_is); (case z_min => k_is); (case z_range => k_is); (case z_sorted => k_is); (case z_str => k_is); (case z_tuple => k_is); (case i_gcd => k_is); (case c_COMMON => k_is)
